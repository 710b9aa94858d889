import PyProof.Rows.All
import Wide.All
import OpenK.AllK
import Wide.FinOn
import HandS.ForMost
import HandS.ForExc
import HandS.Star
import HandS.SlotsOwn
import HandS.Zip
import HandS.SortInts
import HandS.Property
import HandS.TupAny
import HandS.IsInst
import PyProof.LongRange
import PyProof.FactsAll.object_2
import KE.GoesMore
import KE.GoesEnum
import HandS.Iter
import PyProof.TypeEq
import HandS.Codes
import HandS.NoneIn
import KE.KEqSeq
import HandS.ExcInit
import HandS.ExcField
import HandS.ExcIs
import HandS.WordsExc
import HandS.TryMany
import PyProof.ReprRoads
import HandS.Ends
import KE.KExcIs
import HandS.Style
import HandS.Dict
import PyProof.P3Eq
import HandS.ClsMeth
import PyProof.FString
import HandS.TupMul
import HandS.NamedTupGet
import HandS.Wide
import KE.KExcInit
import PyProof.TupleOfSeq
import HandS.SetFor
import HandS.MakeKwOnly
import PySem.Challenge.RW_rankeffect_k04_error_classes
set_option Elab.async false
set_option linter.all false
set_option maxRecDepth 100000
set_option maxHeartbeats 4000000
namespace XT
open PySem PySem.Spec PyProof.Rows L2

section
variable {prog : Program} {w : World} {A : Around} {E : Value → Shared → Prop} {s : Shared} {K : PySem.W.Frag} {x C f : Addr} {ox : Obj} {od : Option Obj}
/-- the answer of an own __ne__ that is the object's: an own __eq__ is asked -/
theorem ne_body {y : Value} {R : Fin → Shared → Prop} (hu : A.units < cLine) (X : K.In s.heap) (I : PySem.W.InstAt s.heap x ox C od)
    (hs : PySem.W.findIn K (.ref C) "__eq__" = some (some (.ref f))) (hf : PySem.W.isFn K (.ref f) = true)
    (h : wpAny (model prog w) A (call (.ref f) [.ref x, y]) (fun r s1 => ∃ b, r = Value.bool b ∧ R (.done (.ret (.bool (!b)))) s1) E s) :
    wpAny (model prog w) A (Builtin.«object.__ne__» ⟨[.ref x, y], []⟩) R E s := by
  unfold Builtin.«object.__ne__»
  refine wpAny_bind (m := slotArgs "__ne__" 1 ⟨[.ref x, y], []⟩) (wpAny_pure ?_)
  dsimp only
  refine wpAny_bind (wpAny_cRoomFor hu ?_)
  refine wpAny_bind (m := callSpecialIfBound? (.ref x) (Str.ofString "__eq__") [y]) (PySem.W.ifBound_K X I hs hf (wpAny_mono h (fun r s' hr => ?_) fun _ _ e => e))
  obtain ⟨b, rfl, q⟩ := hr
  dsimp only
  refine wpAny_bind (m := truthy (.bool b)) (wpAny_pure ?_)
  exact wpAny_pure q
theorem ne_check {y : Value} {Q : Unit → Shared → Prop} (X : K.In s.heap) (I : PySem.W.InstAt s.heap x ox C od) (hs : PySem.W.subIn K (.ref C) (.type "object") = some true) (h : Q () s) :
    wpAny (model prog w) A (checkBuiltinCall "object.__ne__" ⟨[.ref x, y], []⟩) Q E s := by
  have hk : builtinKind "object.__ne__" = some .slot := by decide +kernel
  have hsp : splitId "object.__ne__" = some ("object", "__ne__") := by decide +kernel
  unfold checkBuiltinCall
  simp only [hk, hsp]
  refine wpAny_bind ?_
  unfold isInstance
  refine wpAny_bind (I.type.here ((PySem.W.looks_subIn X hs).here ?_))
  simp only [Bool.not_true, Bool.false_eq_true, if_false]
  have ha := PySem.F.args_object_ne_2 (.ref x) y
  cases hsig : Manifest.signature? "object.__ne__" with
  | none => exact wpAny_pure h
  | some sig =>
    simp only [argsOk, hsig] at ha
    have h2 : Bind.checkArgs "object.__ne__" sig ⟨[.ref x, y], []⟩ = pure () := ha
    show wpAny _ A (Bind.checkArgs "object.__ne__" sig ⟨[.ref x, y], []⟩) Q E s
    rw [h2]
    exact wpAny_pure h
/-- x != y, the class with an own __eq__ and no own __ne__ -/
theorem ne_own {y tb : Value} {Q : Value → Shared → Prop} (hu : A.units + 1 < cLine) (X : K.In s.heap) (I : PySem.W.InstAt s.heap x ox C od) (hb : PySem.W.Looks (model prog w) s.heap (typeOf y) tb) (hn : PySem.W.notFirst K C tb = true)
    (hne : PySem.W.findIn K (.ref C) "__ne__" = some (some (.builtin "object.__ne__"))) (ho : PySem.W.subIn K (.ref C) (.type "object") = some true)
    (hs : PySem.W.findIn K (.ref C) "__eq__" = some (some (.ref f))) (hf : PySem.W.isFn K (.ref f) = true)
    (h : wpAny (model prog w) A.in1 (call (.ref f) [.ref x, y]) (fun r s1 => ∃ b, r = Value.bool b ∧ Q (.bool (!b)) s1) E s) :
    wpAny (model prog w) A (richCompare .NotEq (.ref x) y) Q E s := by
  have hu0 : A.units < cLine := Nat.lt_of_le_of_lt (Nat.le_succ _) hu
  have run : wpAny (model prog w) A (call (.builtin "object.__ne__") [.ref x, y]) (fun r s1 => ∃ b, r = Value.bool b ∧ Q r s1) E s := by
    refine wpAny_call (codeAny_call_builtin PySem.F.slot_object_ne.plain PySem.F.entry_object_ne (ne_check X I ho ?_))
    refine ne_body (by simpa using hu) X I hs hf (wpAny_mono h (fun r s1 z => ?_) fun _ _ e => e)
    obtain ⟨b, rfl, q⟩ := z
    exact ⟨b, rfl, ⟨_, rfl, q⟩⟩
  have one : wpAny (model prog w) A (tryCompare (.ref x) "__ne__" y) (fun r s' => ∃ v, r = some v ∧ Q v s') E s := by
    unfold tryCompare
    refine wpAny_bind ?_
    simp only [callSpecialIfBound?, bindSpecialIfBound?]
    refine wpAny_holding (wpAny_bind (wpAny_bind (wpAny_bind (I.type.here ((PySem.W.looks_findIn X hne).here ?_)))))
    have fin : wpAny (model prog w) A (call (.builtin "object.__ne__") ([.ref x] ++ [y]) >>= fun v => pure (some v)) (fun r s' => wpAny (model prog w) A (match r with | some .notImplemented | none => pure none | some v => pure (some v)) (fun r s' => ∃ v, r = some v ∧ Q v s') E s') E s := by
      refine wpAny_bind (wpAny_mono run (fun v s' z => ?_) fun _ _ e => e)
      obtain ⟨b, rfl, q⟩ := z
      exact wpAny_pure (wpAny_pure ⟨_, rfl, q⟩)
    refine wpAny_bind (wpAny_askSetting (wpAny_ite ?_))
    split
    · exact wpAny_bind (wpAny_of_eq (PySem.F.slot_object_ne.bind (.ref x)) (wpAny_pure (by exact fin)))
    · exact wpAny_tryCatch (wpAny_bind (wpAny_of_eq (PySem.F.slot_object_ne.bind (.ref x)) (wpAny_pure (by exact fin))))
  unfold richCompare
  simp only [oneThing_ref]
  refine wpAny_holding (wpAny_bind (wpAny_cRoomFor hu0 ?_))
  refine wpAny_bind (I.type.here (wpAny_bind (hb.here ?_)))
  split
  · rename_i q
    have e : PySem.W.subIn K tb (.ref C) = some false := by
      rcases Bool.or_eq_true_iff.mp hn with e | e
      · rw [beq_iff_eq.mp e] at q; simp at q
      · exact beq_iff_eq.mp e
    refine wpAny_bind ((PySem.W.looks_subIn X e).here ?_)
    simp only [Bool.false_eq_true, if_false]
    refine wpAny_bind (wpAny_mono one (fun r s' z => ?_) fun _ _ e => e)
    obtain ⟨v, rfl, hq⟩ := z
    exact wpAny_pure hq
  · refine wpAny_bind (wpAny_pure ?_)
    simp only [Bool.false_eq_true, if_false]
    refine wpAny_bind (wpAny_mono one (fun r s' z => ?_) fun _ _ e => e)
    obtain ⟨v, rfl, hq⟩ := z
    exact wpAny_pure hq
theorem type_bool : isType (.type "bool") = pure true := by first | rfl | kernel_rfl | (unfold isType; rw [isSubtype_type]; kernel_rfl)
/-- bool(x) by an own __bool__ -/
theorem bool_own {Q : Value → Shared → Prop} (X : K.In s.heap) (I : PySem.W.InstAt s.heap x ox C od) (hs : PySem.W.findIn K (.ref C) "__bool__" = some (some (.ref f))) (hf : PySem.W.isFn K (.ref f) = true)
    (h : wpAny (model prog w) A.in1.in1 (call (.ref f) [.ref x]) (fun r s1 => ∃ b, r = Value.bool b ∧ Q r s1) E s) : wpAny (model prog w) A (call (.type "bool") [.ref x]) Q E s := by
  refine callType_codes (T := "bool") (Bi := Builtin.«object.__init__») (Q₁ := fun r s1 => ∃ b, r = Value.bool b ∧ Q r s1) PySem.F.called_bool (PySem.F.typeCall_bool_1 _) PySem.F.entry_object_init ?_ ?_
  · refine codeAny_of_tree ?_
    show wpAny _ A.in1.in1 (do checkBuiltinCall "bool.__new__" ⟨[.type "bool", .ref x], []⟩; again (.builtin "bool.__new__" ⟨[.type "bool", .ref x], []⟩)) _ _ s
    refine wpAny_bind (wpAny_of_eq (PySem.F.newCall_bool_1 _) (wpAny_pure ⟨plainId_quiet (by decide +kernel) _, codeAny_builtin PySem.F.entry_bool_new ?_⟩))
    rw [Around.under_plainId (by decide +kernel) _]
    unfold Builtin.«bool.__new__»
    refine wpAny_bind (wpAny_of_eq (a := true) type_bool ?_)
    refine PySem.W.KFB.if_not rfl ?_
    refine wpAny_bind (wpAny_of_eq (a := true) PySem.F.conv_sub_bool ?_)
    refine PySem.W.KFB.if_not rfl ?_
    refine wpAny_bind (m := someArgs "bool" 0 1 _) (wpAny_of_eq (a := [Value.ref x]) (by first | rfl | kernel_rfl | simp [someArgs]) ?_)
    dsimp only
    refine wpAny_bind (m := truthy (.ref x)) ?_
    unfold truthy
    refine wpAny_bind (m := callSpecial? (.ref x) (Str.ofString "__bool__")) (PySem.W.special_fn X I hs (beq_iff_eq.mp hf) (wpAny_mono h (fun r s' hr => ?_) fun _ _ y => y))
    obtain ⟨b, rfl, hq⟩ := hr
    exact wpAny_pure (wpAny_pure ⟨b, rfl, hq⟩)
  · rintro obj s₁ ⟨b, rfl, hq⟩
    exact ⟨PySem.typeIs_bool _ _, PySem.F.args_object_init_2 _ _, object_init_meets PySem.F.called_bool.init.lookup PySem.F.called_bool.made (by decide) prog w A.in1 _ s₁ ⟨PySem.typeIs_bool _ _, rfl, hq⟩⟩
end
/-! ### operators of instances of own classes -/
/-- an instance of the class at C -/
def InsA (H : Hp) (a C : Addr) : Prop := ∃ dx fs, H a = some (.ins C dx fs)
section
variable {X : Cx} {CX : CXT} {n : Nat} {C g : Addr} {sp : Sp} {E : XK}
theorem insA_at {pins : List (Addr × Obj)} {σ : L2.St} {H : Hp} {s : Shared} {a : Addr} (I : Inv X pins σ H s) (h : InsA H a C) : ∃ ox od, PySem.W.InstAt s.heap a ox C od := by
  obtain ⟨dx, fs, h⟩ := h
  obtain ⟨mA, O, _⟩ := ins_get I.hok h
  obtain ⟨od, J, _⟩ := O.look
  exact ⟨_, _, J⟩
/-- x op y, both instances of the class at C, which has a def for it at g -/
def rOwnB (C : Addr) (sp : Sp) (E : XK) : R2 := fun x y H Q => ∃ a b, x = .ref a ∧ y = .ref b ∧ InsA H a C ∧ InsA H b C ∧ sp [x, y] H Q E
theorem op_ownB {op : Operator} (hc : PySem.W.selfFirst X.K C = true) (hs : PySem.W.findIn X.K (.ref C) (PySem.dunder op.info.2) = some (some (.ref g))) (hf : PySem.W.isFn X.K (.ref g) = true) (F : FnR X.prog X.w X.K X.mg X.base CX n g sp)
    (hr : Room n X.A) (hx : Passes CX X E) : OpR X (binaryOp op) (rOwnB C sp E) := by
  intro pins s σ H x y v u Q I rx ry h
  obtain ⟨a, b, rfl, rfl, ha, hb, q⟩ := h
  cases (show v = Value.ref a from rx)
  cases (show u = Value.ref b from ry)
  obtain ⟨ox, od, J⟩ := insA_at I ha
  obtain ⟨oy, oe, J'⟩ := insA_at I hb
  obtain ⟨m, hF⟩ := I.fr
  refine PySem.W.binop_K (op := op) hF I.ok.mod.kin J J'.type hc hs hf ?_
  refine wpAny_mono (wpAny_call (run_fnR (us := [.ref a, .ref b]) (vs := [.ref a, .ref b]) F hr hx I (.cons rfl (.cons rfl .nil)) q)) (fun w s' z => ?_) fun _ _ x => x
  obtain ⟨z', H', I', rz, qz⟩ := z
  exact SlX.cmpback rz ⟨z', H', I', rz, qz⟩
/-- x == y -/
theorem op_ownE (hs : PySem.W.findIn X.K (.ref C) "__eq__" = some (some (.ref g))) (hf : PySem.W.isFn X.K (.ref g) = true) (F : FnR X.prog X.w X.K X.mg X.base CX n g sp)
    (hr : Room n X.A) (hx : Passes CX X E) : OpR X (compareOp .Eq) (rOwnB C sp E) := by
  intro pins s σ H x y v u Q I rx ry h
  obtain ⟨a, b, rfl, rfl, ha, hb, q⟩ := h
  cases (show v = Value.ref a from rx)
  cases (show u = Value.ref b from ry)
  obtain ⟨ox, od, J⟩ := insA_at I ha
  obtain ⟨oy, oe, J'⟩ := insA_at I hb
  obtain ⟨m, hF⟩ := I.fr
  show wpAny _ _ (richCompare .Eq _ _) _ _ _
  refine PySem.W.cmp_K (op := .Eq) (tb := .ref C) hr.units0 hF I.ok.mod.kin J J'.type (by unfold PySem.W.notFirst; simp) hs hf ?_
  refine wpAny_mono (wpAny_call (run_fnR (us := [.ref a, .ref b]) (vs := [.ref a, .ref b]) F hr hx I (.cons rfl (.cons rfl .nil)) q)) (fun w s' z => ?_) fun _ _ x => x
  obtain ⟨z', H', I', rz, qz⟩ := z
  exact SlX.cmpback rz ⟨z', H', I', rz, qz⟩
/-- x != y, by == -/
def rOwnN (C : Addr) (sp : Sp) (E : XK) : R2 := fun x y H Q => ∃ a b, x = .ref a ∧ y = .ref b ∧ InsA H a C ∧ InsA H b C ∧ sp [x, y] H (fun z H' => ∃ k, z = .bl k ∧ Q (.bl (!k)) H') E
theorem op_ownN (hne : PySem.W.findIn X.K (.ref C) "__ne__" = some (some (.builtin "object.__ne__"))) (ho : PySem.W.subIn X.K (.ref C) (.type "object") = some true)
    (hs : PySem.W.findIn X.K (.ref C) "__eq__" = some (some (.ref g))) (hf : PySem.W.isFn X.K (.ref g) = true) (F : FnR X.prog X.w X.K X.mg X.base CX n g sp)
    (hr : Room (n + 1) X.A) (hx : Passes CX X E) : OpR X (compareOp .NotEq) (rOwnN C sp E) := by
  intro pins s σ H x y v u Q I rx ry h
  obtain ⟨a, b, rfl, rfl, ha, hb, q⟩ := h
  cases (show v = Value.ref a from rx)
  cases (show u = Value.ref b from ry)
  obtain ⟨ox, od, J⟩ := insA_at I ha
  obtain ⟨oy, oe, J'⟩ := insA_at I hb
  show wpAny _ _ (richCompare .NotEq _ _) _ _ _
  refine ne_own (tb := .ref C) (by have := hr.units; omega) I.kIn J J'.type (by unfold PySem.W.notFirst; simp) hne ho hs hf ?_
  refine wpAny_mono (wpAny_call (SlX.run_at (us := [.ref a, .ref b]) (ws := [.ref a, .ref b]) F hr.in1 I.env0.in1 hx I (.cons rfl (.cons rfl .nil)) q)) (fun w s' z => ?_) fun _ _ x => x
  obtain ⟨z', H', I', rz, k, rfl, qz⟩ := z
  cases (show w = Value.bool k from rz)
  exact ⟨k, rfl, .bl (!k), H', I', rfl, qz⟩
/-- bool(x) -/
def rBoolO (C : Addr) (sp : Sp) (E : XK) : List V → Hp → VK → Prop := fun xs H Q => ∃ a, xs = [V.ref a] ∧ InsA H a C ∧ sp xs H (fun z H' => ∃ k, z = .bl k ∧ Q z H') E
theorem call_boolO (hs : PySem.W.findIn X.K (.ref C) "__bool__" = some (some (.ref g))) (hf : PySem.W.isFn X.K (.ref g) = true) (F : FnR X.prog X.w X.K X.mg X.base CX n g sp) (hr : Room (n + 2) X.A) (hx : Passes CX X E) : CallR X (.type "bool") (rBoolO C sp E) := by
  intro pins s σ H xs us Q I r h
  obtain ⟨a, rfl, ha, q⟩ := h
  obtain ⟨u, rfl, ru⟩ := r.one
  cases (show u = Value.ref a from ru)
  obtain ⟨ox, od, J⟩ := insA_at I ha
  have hr2 : Room n X.A.in1.in1 := (show Room (n + 1) X.A.in1 from Room.in1 hr).in1
  refine bool_own I.kIn J hs hf (wpAny_mono (wpAny_call (SlX.run_at (us := [.ref a]) (ws := [.ref a]) F hr2 I.env0.in1.in1 hx I (.cons rfl .nil) q)) (fun w s' z => ?_) fun _ _ x => x)
  obtain ⟨z', H', I', rz, k, rfl, qz⟩ := z
  cases (show w = Value.bool k from rz)
  exact ⟨k, rfl, .bl k, H', I', rfl, qz⟩
end
end XT

namespace XT
open PySem PySem.Spec PyProof.Rows L2
/-! ### range(a, b) of ints of any size -/
theorem turn_lrange {P : Program} {w : World} {K : PySem.W.Frag} {tg : Expr} (it : Addr) (lo : Int) (n : Nat) : Turn P w K tg (Itr lo n) [it] it (fun i h => IsLongIter h it (lo + (i : Nat) * 1) ((n : Int) - (i : Nat)) 1) where
  mem := by simp
  obj := fun i h st b hb => by
    have e : b = it := by simpa using hb
    subst e
    exact ⟨_, st, fun v z => by
      have z' : Data.fields _ = Data.cell v := z
      cases z'⟩
  keep := fun i h h' st k => k it (by simp) _ st
  item := by
    intro X hP hw hK hc i pins s σ H E I hf st hg
    subst hP hw hK
    obtain ⟨f0, f1, f2, f3, f4, f5⟩ := hf it (by simp)
    have W := Walks.longrange (prog := X.prog) (w := X.w) (I.ok.hd hc) it lo 1 n
    refine W.item i s _ _ hg st fun v h' tk hv st' kk => ?_
    obtain ⟨t, rfl⟩ := hv
    have I1 : Inv X pins σ H { s with heap := h', toks := tk } := I.turned (fun b o hb e => kk b o (by simpa using hb) e) f0 f1 f3 f4 f5
    refine ⟨_, rfl, go_of (s := { s with heap := h', toks := tk }) (n := "longrange_iterator") st' rfl rfl (by decide) ⟨.int (lo + i), H, I1, ⟨t, ?_⟩, ⟨rfl, rfl⟩, st', fun b hb => (hf b hb).1⟩⟩
    rw [Int.mul_one]
  done := by
    intro X hP hw hK hc i pins s σ H E I hf st hg
    subst hP hw hK
    obtain ⟨f0, f1, f2, f3, f4, f5⟩ := hf it (by simp)
    exact wpAny_pyNext_long_end (I.ok.hd hc) st (by have : n ≤ i := hg; omega) fun h' eb => ⟨rfl, I.turned (t' := s.toks) (fun b o hb e => eb b o hb e) f0 f1 f3 f4 f5⟩
  self := fun _ _ _ _ _ st h => wpAny_pyIter_longiter st h
section
variable {X : Cx} {tg : Expr}
theorem lrange_it {pins : List (Addr × Obj)} {σ : L2.St} {H : Hp} {s : Shared} {R : It → Hp → Prop} {E : Value → Shared → Prop} {lo hi : Int} {t u v : Tok} {tk : Nat} (I : Inv X pins σ H s)
    (q : R (Itr lo (hi - lo).toNat) H) : wpAny (model X.prog X.w) X.A (pyIter (.ref s.heap.objs.size)) (PIE X pins σ tg R) E { s with heap := s.heap.push { cls := .type "range", data := .fields #[.int lo t, .int hi u, .int 1 v] }, toks := tk } := by
  have I1 : Inv X pins σ H { s with heap := s.heap.push { cls := .type "range", data := .fields #[.int lo t, .int hi u, .int 1 v] }, toks := tk } := I.kept fun b o e => Heap.get?_push_of_some _ e
  have e1 : lo + ((0 : Nat) : Int) * 1 = lo := by simp
  have e2 : (((hi - lo).toNat : Nat) : Int) - ((0 : Nat) : Int) = Builtin.Range.rangeSize lo hi 1 := by rw [rangeSize_one]; split <;> omega
  have fp : ∀ b ∈ [(s.heap.push { cls := .type "range", data := .fields #[.int lo t, .int hi u, .int 1 v] }).objs.size], FpOk X pins H b := fun b hb => by
    have e : b = (s.heap.push { cls := .type "range", data := .fields #[.int lo t, .int hi u, .int 1 v] }).objs.size := by simpa using hb
    subst e
    exact I1.fpOk (Nat.le_refl _) (I1.hok.fresh (Nat.le_refl _))
  cases hsm : Builtin.Range.small lo hi 1 with
  | true =>
    refine wpAny_pyIter_range (IsRange.new ..) hsm ?_
    refine ⟨(s.heap.push { cls := .type "range", data := .fields #[.int lo t, .int hi u, .int 1 v] }).objs.size, [(s.heap.push { cls := .type "range", data := .fields #[.int lo t, .int hi u, .int 1 v] }).objs.size], _, _, H, rfl,
      I1.kept (t' := tk) fun b o e => Heap.get?_push_of_some _ e, turn_range _ lo (hi - lo).toNat, ?_, fp, q⟩
    show IsRangeIter _ _ (lo + ((0 : Nat) : Int) * 1) ((((hi - lo).toNat : Nat) : Int) - ((0 : Nat) : Int)) 1
    rw [e1, e2]
    exact Heap.get?_push_size _ rfl
  | false =>
    refine wpAny_pyIter_longrange (IsRange.new ..) hsm ?_
    refine ⟨(s.heap.push { cls := .type "range", data := .fields #[.int lo t, .int hi u, .int 1 v] }).objs.size, [(s.heap.push { cls := .type "range", data := .fields #[.int lo t, .int hi u, .int 1 v] }).objs.size], _, _, H, rfl,
      I1.kept (t' := tk) fun b o e => Heap.get?_push_of_some _ e, turn_lrange _ lo (hi - lo).toNat, ?_, fp, q⟩
    show IsLongIter _ _ (lo + ((0 : Nat) : Int) * 1) ((((hi - lo).toNat : Nat) : Int) - ((0 : Nat) : Int)) 1
    rw [e1, e2]
    exact Heap.get?_push_size _ rfl
def iRngW1 (ta : TA) : TI := fun σ H R => ta σ H fun vs H1 => ∃ j : Int, vs = [.int j] ∧ R (Itr 0 j.toNat) H1
def iRngW2 (ta : TA) : TI := fun σ H R => ta σ H fun vs H1 => ∃ i j : Int, vs = [.int i, .int j] ∧ R (Itr i (j - i).toNat) H1
theorem pi_rng1 {a : Expr} {ta : TA} {p pos : Pos} (hg : Gl X "range") (hm : X.mg "range" = none) (ha : PA X [a] ta) (hs : starEach [a] X.env = [(false, eval a X.env)] := by rfl) : PI X tg (.Call (.Name "range" p) [a] [] pos) (iRngW1 ta) := by
  refine ⟨fun pins s σ H R I h => ?_⟩
  refine Call_ (ld_blt I hg hm boot_range (PyProof.Rows.callWith_type1 (thn (ha.run pos pins s σ H _ I h) fun us s1 ⟨vs, H1, I1, r1, q1⟩ => ?_) hs rfl))
  obtain ⟨j, e, q⟩ := q1
  subst e
  cases r1 with
  | cons r rr =>
    cases rr
    obtain ⟨t, rfl⟩ := r
    exact call_range_1 (lrange_it I1 (by simpa using q))
theorem pi_rng2 {a b : Expr} {ta : TA} {p pos : Pos} (hg : Gl X "range") (hm : X.mg "range" = none) (ha : PA X [a, b] ta) (hs : starEach [a, b] X.env = [(false, eval a X.env), (false, eval b X.env)] := by rfl) (hs2 : starEach [b] X.env = [(false, eval b X.env)] := by rfl) :
    PI X tg (.Call (.Name "range" p) [a, b] [] pos) (iRngW2 ta) := by
  refine ⟨fun pins s σ H R I h => ?_⟩
  refine Call_ (ld_blt I hg hm boot_range (PyProof.Rows.callWith_type1 (thn (ha.run pos pins s σ H _ I h) fun us s1 ⟨vs, H1, I1, r1, q1⟩ => ?_) (by rw [hs, hs2]) (by rw [hs2]; rfl)))
  obtain ⟨i, j, e, q⟩ := q1
  subst e
  cases r1 with
  | cons r rr =>
    cases rr with
    | cons r' rr =>
      cases rr
      obtain ⟨t, rfl⟩ := r
      obtain ⟨t', rfl⟩ := r'
      exact call_range_2 (lrange_it I1 q)
end
/-! ### enumerate(tuple) -/
theorem meets_enumerate_newT (l : Addr) (items : Array Value) (n : Nat) (dct : Option Addr) (sl : Array (Option Value)) :
    Meets (Builtin.«enumerate.__new__» ⟨[.type "enumerate", .ref l], []⟩) (fun _ R s => s.heap.get? l = some { cls := .type "tuple", dict := dct, data := .seq items n, slots := sl } ∧
      R (.ok (.ret (.ref (s.heap.push { cls := .type "tuple_iterator", data := .fields #[.ref l, .int 0 0] }).objs.size)))
        { s with heap := (s.heap.push { cls := .type "tuple_iterator", data := .fields #[.ref l, .int 0 0] }).push { cls := .type "enumerate", data := .fields #[.none, .bool false, .ref s.heap.objs.size, rawInt 0, .none, .none] } }) :=
  .of_wp fun prog w A R s h => by
    obtain ⟨hp, g, d, tk, os⟩ := s; obtain ⟨hl, h⟩ := h
    have hsub := sub_enumerate
    have hL : Heap.IsTuple (Shared.heap ⟨hp, g, d, tk, os⟩) l items := ⟨_, hl, rfl, n, rfl⟩
    wp_walk using AutoSeq1.wpAny_loadPart' hl
    refine wpAny_stack_any fun st => wpAny_pure ?_
    split
    · rename_i c _ _ _ _ _
      cases (c == Value.type "enumerate")
      · wp_walk using AutoSeq1.wpAny_loadPart' hl, wpAny_pyIter_tuple hL
        exact ⟨_, rfl, h⟩
      · wp_walk using AutoSeq1.wpAny_loadPart' hl, wpAny_pyIter_tuple hL
        exact ⟨_, rfl, h⟩
    · wp_walk using AutoSeq1.wpAny_loadPart' hl, wpAny_pyIter_tuple hL
      exact ⟨_, rfl, h⟩
theorem call_enumerate_tuple {prog : Program} {w : World} {A : Around} {E : Value → Shared → Prop} {s : Shared} {l : Addr} {items : Array Value} {Q : Value → Shared → Prop} (hL : s.heap.IsTuple l items)
    (h : ∀ h', IsEnum h' (s.heap.objs.size + 1) s.heap.objs.size 0 .none → h'.IsTupleIter s.heap.objs.size l 0 → h'.objs.size = s.heap.objs.size + 2 →
      (∀ b o, s.heap.get? b = some o → h'.get? b = some o) → Q (.ref (s.heap.objs.size + 1)) { s with heap := h' }) :
    wpAny (model prog w) A (call (.type "enumerate") [.ref l]) Q E s := by
  obtain ⟨⟨c, dct, dt, sl⟩, hl, hc, n, hd⟩ := hL
  replace hc : c = .type "tuple" := hc
  replace hd : dt = .seq items n := hd
  subst hc hd
  refine callType_new PySem.F.called_enumerate (by decide) (PySem.F.typeCall_enumerate_1 _) (PySem.F.newCall_enumerate_1 _) (fun obj => PySem.F.args_object_init_2 obj _) PySem.F.entry_enumerate_new
    (meets_enumerate_newT l items n dct sl) ⟨hl, ?_⟩
  have hz : (s.heap.push { cls := .type "tuple_iterator", data := .fields #[.ref l, .int 0 0] }).objs.size = s.heap.objs.size + 1 := Heap.size_push ..
  show _ ∧ _
  rw [hz]
  have he : IsEnum ((s.heap.push { cls := .type "tuple_iterator", data := .fields #[.ref l, .int 0 0] }).push
      { cls := .type "enumerate", data := .fields #[.none, .bool false, .ref s.heap.objs.size, rawInt 0, .none, .none] }) (s.heap.objs.size + 1) s.heap.objs.size 0 .none := by
    have := Heap.get?_push_size (s.heap.push { cls := .type "tuple_iterator", data := .fields #[.ref l, .int 0 0] })
      (o := { cls := .type "enumerate", data := .fields #[.none, .bool false, .ref s.heap.objs.size, rawInt 0, .none, .none] }) rfl
    rw [hz] at this; exact this
  refine ⟨⟨_, he, rfl⟩, h _ he ⟨_, Heap.get?_push_of_some _ (Heap.get?_push_size _ rfl), rfl, rfl⟩ (by rw [Heap.size_push, hz]) fun b o x => Heap.get?_push_of_some _ (Heap.get?_push_of_some _ x)⟩
def IteT (K : PySem.W.Frag) (a : Addr) : It :=
  ⟨fun i H => ∃ (xs : List V) (x : V), SqT K H a xs ∧ xs[i]? = some x, fun i H v H' => ∃ T x, v = .ref T ∧ H T = none ∧ H' = upd H T (.tup [.int (i : Nat), x]) ∧ ∀ xs, SqT K H a xs → xs[i]? = some x, fun i H => ∃ xs : List V, SqT K H a xs ∧ xs.length ≤ i⟩
theorem turn_enumT {P : Program} {w : World} {K : PySem.W.Frag} {elts : List Expr} {kk : Nat} {tpos : Pos} (a e it : Addr) :
    Turn P w K (.Tuple elts kk tpos) (IteT K a) [e, it] e (fun i h => (∃ old, IsEnum h e it ((i : Nat) : Int) old) ∧ h.IsTupleIter it a i ∧ e ≠ it ∧ a ≠ it ∧ a ≠ e) where
  mem := by simp
  obj := fun i h st b hb => by
    obtain ⟨⟨old, he⟩, ⟨o, ho, hc, hd⟩, _⟩ := st
    have e' : b = e ∨ b = it := by simpa using hb
    rcases e' with z | z
    · rw [z]; exact ⟨_, he, fun v q => nomatch q⟩
    · rw [z]; exact ⟨o, ho, fun v q => by rw [hd] at q; cases q⟩
  keep := fun i h h' st k => let ⟨⟨old, he⟩, hi, hne⟩ := st; ⟨⟨old, k e (by simp) _ he⟩, hi.at fun o q => k it (by simp) o q, hne⟩
  item := by
    intro X hP hw hK hc i pins s σ H E I hf st hg
    subst hP hw hK
    obtain ⟨⟨old, he⟩, hit, hne, hai, hae⟩ := st
    obtain ⟨xs, x, hq, hx⟩ := hg
    obtain ⟨its, rv, p, hz⟩ := I.tuple hq
    obtain ⟨u, hu, ru⟩ := rv.get hx
    have hel : e < s.heap.objs.size := Heap.lt_size he
    have hil : it < s.heap.objs.size := by obtain ⟨_, q, _⟩ := hit; exact Heap.lt_size q
    have D := Draws.tuple (prog := X.prog) (w := X.w) (A := X.A.in1) (by have := I.ok.hd hc; simpa using this) it a hai its.toArray
    have hp : s.heap.IsTuple a its.toArray := p
    have hl : i < its.toArray.size := by
      have := (List.getElem?_eq_some_iff.mp hu).1
      simpa using this
    refine wpAny_pyNext_enum_itemD D he ⟨hit, hp⟩ hl hne (by simp [hne, Ne.symm hae]) fun x' h' tk hP ho hSt hT hsz hk => ?_
    have hxu : x' = u := by
      have e1 : its.toArray[i]? = some u := by simpa using hu
      rw [e1] at hP
      exact (Option.some.inj hP).symm
    subst hxu
    refine ⟨_, rfl, wpAny_letOwnedTupleGo_enum (s := { s with heap := h', toks := tk + 1 }) ho fun h'' he' sb => ?_⟩
    have hT2 : h''.get? s.heap.objs.size = some { cls := .type "tuple", data := .seq #[.int i tk, x'] } := (sb.2 _ (Nat.ne_of_gt hel)).trans hT
    have new : ObjOk X.prog X.w (upd H s.heap.objs.size (.tup [.int (i : Nat), x])) h'' s.heap.objs.size (.tup [.int (i : Nat), x]) :=
      ⟨by show 2 ≤ sizeLine; decide, [.int i tk, x'], .cons ⟨_, rfl⟩ (.cons ru .nil), ⟨_, hT2, rfl, _, rfl⟩⟩
    have I1 : Inv X pins σ (upd H s.heap.objs.size (.tup [.int (i : Nat), x])) { s with heap := h'', toks := tk + 1 } :=
      I.turnedNew (ch := [e, it]) (fun b ob hb q => (sb.2 b (fun z => hb (by simp [z]))).trans (hk b ob (fun z => hb (by simp [z])) (fun z => hb (by simp [z])) q)) hf (Nat.le_refl _) new
    refine ⟨.ref s.heap.objs.size, _, I1, rfl, ⟨_, x, rfl, I.hok.fresh (Nat.le_refl _), rfl, fun ys hy => by rw [I.tuple_inj hy hq]; exact hx⟩, ⟨⟨x', ?_⟩, hSt.1.at fun o q => (sb.2 it (Ne.symm hne)).trans q, hne, hai, hae⟩, fun b hb => ?_⟩
    · have e1 : ((i + 1 : Nat) : Int) = (i : Int) + 1 := by omega
      rw [e1]; exact he'
    · have hb' : b < s.heap.objs.size := by
        have e' : b = e ∨ b = it := by simpa using hb
        rcases e' with z | z
        · rw [z]; exact hel
        · rw [z]; exact hil
      rw [upd_ne (Nat.ne_of_lt hb')]
      exact (hf b hb).1
  done := by
    intro X hP hw hK hc i pins s σ H E I hf st hg
    subst hP hw hK
    obtain ⟨⟨old, he⟩, hit, hne, hai, hae⟩ := st
    obtain ⟨xs, hq, hx⟩ := hg
    obtain ⟨its, rv, p, hz⟩ := I.tuple hq
    obtain ⟨f0, f1, f2, f3, f4, f5⟩ := hf it (by simp)
    have hl := rv.length
    have hp : s.heap.IsTuple a its.toArray := p
    have hT : s.TypeIs (.ref e) "enumerate" := ⟨_, he, rfl⟩
    have hh : X.A.handled = none := I.ok.hd hc
    unfold pyNext
    refine wpAny_bind (wpAny_attempt (wpAny_callSpecial?_slot (name := Str.ofString "__next__") hT PySem.F.slot_enumerate_next
      (wpAny_call_entry PySem.F.slot_enumerate_next hT PySem.F.entry_enumerate_next ?_ (PySem.F.args_enumerate_next_1 _))))
    show wpAny _ _ (field (.ref e) 2 >>= _) _ _ _
    refine wpAny_bind (wpAny_field he rfl (x := .ref it) rfl ?_)
    refine wpAny_bind (wpAny_nextOf_tuple_end (by simpa using hh) hit hp (by simp; omega) fun h' x he' hx' => ?_)
    obtain ⟨o, ho, hc⟩ := hx'
    refine wpAny_bind (wpAny_isInstance (T := "StopIteration") (b := true) ⟨o, ho, hc⟩ isSubtype_stop ?_)
    exact wpAny_pure ⟨rfl, I.turned (t' := s.toks) (fun b o hb q => he' b o hb q) f0 f1 f3 f4 f5⟩
  self := fun A i s Q E st h => let ⟨⟨_, he⟩, _⟩ := st; wpAny_pyIter_enum he h
def iEnumT (K : PySem.W.Frag) (ta : TA) : TI := fun σ H R => ta σ H fun vs H1 => ∃ a xs, vs = [.ref a] ∧ SqT K H1 a xs ∧ R (IteT K a) H1
theorem pi_enumT {X : Cx} {e : Expr} {ta : TA} {p pos tpos : Pos} {elts : List Expr} {kk : Nat} (hg : Gl X "enumerate") (hm : X.mg "enumerate" = none) (ha : PA X [e] ta) (hs : starEach [e] X.env = [(false, eval e X.env)] := by rfl) :
    PI X (.Tuple elts kk tpos) (.Call (.Name "enumerate" p) [e] [] pos) (iEnumT X.K ta) := by
  refine ⟨fun pins s σ H R I h => ?_⟩
  refine Call_ (ld_blt I hg hm boot_enumerate (PyProof.Rows.callWith_type1 (thn (ha.run pos pins s σ H _ I h) fun us s1 ⟨vs, H1, I1, r1, q1⟩ => ?_) hs rfl))
  obtain ⟨a, xs, ex, hq, q⟩ := q1
  subst ex
  cases r1 with
  | cons r rr =>
    cases rr
    cases r
    obtain ⟨its, rv, p', hz⟩ := I1.tuple hq
    have hp : s1.heap.IsTuple a its.toArray := p'
    have hal : a < s1.heap.objs.size := by obtain ⟨o, ho, _⟩ := hp; exact Heap.lt_size ho
    refine call_enumerate_tuple hp fun h' he hit hsz hk => wpAny_pyIter_enum he ?_
    have I2 : Inv X pins σ H1 { s1 with heap := h' } := I1.kept (t' := s1.toks) hk
    refine ⟨s1.heap.objs.size + 1, [s1.heap.objs.size + 1, s1.heap.objs.size], _, _, H1, rfl, I2, turn_enumT a (s1.heap.objs.size + 1) s1.heap.objs.size, ⟨⟨.none, he⟩, hit, Nat.succ_ne_self _, Nat.ne_of_lt hal, Nat.ne_of_lt (Nat.lt_succ_of_lt hal)⟩, fun b hb => ?_, q⟩
    have e' : b = s1.heap.objs.size + 1 ∨ b = s1.heap.objs.size := by simpa using hb
    have hle : s1.heap.objs.size ≤ b := by
      rcases e' with z | z
      · rw [z]; exact Nat.le_add_right _ _
      · rw [z]; exact Nat.le_refl _
    exact I1.fpOk hle (I1.hok.fresh hle)
end XT

namespace XT
open PySem PySem.Spec PyProof.Rows L2
/-! ### types compared -/
def tyN (m : String) : Bool := ["int", "str", "bool", "NoneType", "list", "tuple", "dict"].contains m
theorem tyN_meta {m : String} (h : tyN m = true) (s' : Shared) : s'.TypeIs (.type m) "type" := by
  unfold tyN at h
  simp only [List.contains_cons, List.contains_nil, Bool.or_eq_true, beq_iff_eq, Bool.false_eq_true, or_false] at h
  rcases h with rfl | rfl | rfl | rfl | rfl | rfl | rfl
  · exact TypeEq.meta_int s'
  · exact TypeEq.meta_str s'
  · exact TypeEq.meta_bool s'
  · exact TypeEq.meta_NoneType s'
  · exact TypeEq.meta_list s'
  · exact TypeEq.meta_tuple s'
  · exact TypeEq.meta_dict s'
section
variable {X : Cx}
theorem op_eqTy : OpR X (compareOp .Eq) (fun x y H Q => ∃ m n, x = .ty m ∧ y = .ty n ∧ tyN m = true ∧ tyN n = true ∧ Q (.bl (decide (m = n))) H) := by
  intro pins s σ H x y v u Q I rx ry h
  obtain ⟨m, n, rfl, rfl, hm, hn, q⟩ := h
  cases (show v = Value.type m from rx)
  cases (show u = Value.type n from ry)
  by_cases e : m = n
  · subst e
    exact TypeEq.eq_type_same (fun s' => tyN_meta hm s') ⟨.bl true, H, I, rfl, by simpa using q⟩
  · refine TypeEq.eq_type_other (fun s' => tyN_meta hm s') (fun s' => tyN_meta hn s') ?_ ⟨.bl false, H, I, rfl, by simpa [e] using q⟩
    rw [Bool.eq_false_iff]
    intro z
    rw [beq_iff_eq] at z
    injection z with z
    exact e z
theorem eqAt_ty {A : Around} {s : Shared} {m n : String} (hm : tyN m = true) (hn : tyN n = true) : SeqAt.EqAt A s (.type m) (.type n) (decide (m = n)) := fun prog w E Q h => by
  unfold eqBool
  refine wpAny_holding ?_
  refine wpAny_ite_split (fun hab => ?_) (fun hab => ?_)
  · have e : m = n := by have := eq_of_beq hab; injection this
    subst e
    exact wpAny_bind (wpAny_rule (wpAny_pure (by simpa using h)))
  · have e : m ≠ n := fun z => hab (by rw [z]; exact beq_self_eq_true _)
    refine wpAny_bind (m := richCompare .Eq (.type m) (.type n)) (show wpAny _ _ (compareOp .Eq _ _) _ _ _ from TypeEq.eq_type_other (fun s' => tyN_meta hm s') (fun s' => tyN_meta hn s') ?_ ?_)
    · rw [Bool.eq_false_iff]
      intro z
      rw [beq_iff_eq] at z
      injection z with z
      exact e z
    · exact wpAny_pure (by simpa [e] using h)
def tyU (m : String) : Value → Bool
  | .type n => decide (n = m)
  | _ => false
theorem op_inTy : OpR X (compareOp .In) (fun x y H Q => ∃ (m : String) (p : Addr) (ns : List String), x = .ty m ∧ y = .ref p ∧ SqT X.K H p (ns.map V.ty) ∧ tyN m = true ∧ (∀ n ∈ ns, tyN n = true) ∧ Q (.bl (ns.any fun n => decide (n = m))) H) := by
  intro pins s σ H x y v u Q I rx ry h
  obtain ⟨m, p, ns, rfl, rfl, hq, hm, hn, q⟩ := h
  cases (show v = Value.type m from rx)
  cases (show u = Value.ref p from ry)
  obtain ⟨its, r, pl, hz⟩ := I.tuple hq
  have key : ∀ (ns : List String) (its : List Value), Vals (ns.map V.ty) its → its = ns.map Value.type := by
    intro ns
    induction ns with
    | nil => intro its r; cases r; rfl
    | cons n ns ih =>
      intro its r
      cases r with
      | cons a t =>
        rw [ih _ t, List.map_cons]
        congr 1
  have e := key ns its r
  subst e
  refine SeqAt.in_tupleAt (tyU m) pl (fun w hw => ?_) ⟨.bl _, H, I, rfl, ?_⟩
  · have hw' : w ∈ ns.map Value.type := by simpa using hw
    obtain ⟨n, hmem, rfl⟩ := List.mem_map.mp hw'
    exact eqAt_ty (hn n hmem) hm
  · have e2 : ((ns.map Value.type).toArray.any (tyU m)) = ns.any fun n => decide (n = m) := by
      rw [List.any_toArray, List.any_map]
      rfl
    rw [e2]
    exact q
/-! ### calls by promises of positional values -/
def tCallR (sp : Sp) (E : XK) (t : TA) : TE := fun σ H Q => t σ H fun vs H1 => sp vs H1 Q E
theorem pe_callR {CX : CXT} {k : Nat} {f : Addr} {sp : Sp} {E : XK} {x : Str} {e : Expr} {es : List Expr} {t : TA} {p pos : Pos} (F : FnR X.prog X.w X.K X.mg X.base CX k f sp) (hr : Room k X.A) (hg : Gl X x) (hm : X.mg x = some (.ref f)) (hk : PySem.W.keepIn X.K (.ref f) = true) (hx : Passes CX X E) (ha : PA X (e :: es) t) (hd : (x == ("__debug__" : Str)) = false := by decide)
    (he : starEach (e :: es) X.env = (false, eval e X.env) :: starEach es X.env := by rfl) (hst : (backTo pos (starEach es X.env)).any (·.1) = false := by rfl) :
    PE X (.Call (.Name x p) (e :: es) [] pos) (tCallR sp E t) := by
  refine ⟨fun pins s σ H Q I h => ?_⟩
  refine wpAny_Call_Name_kw (ld_glob I hg hm ?_ hd)
  refine PySem.W.callWith_K (h₀ := X.base) I.ok.mod.kin hk (thn (ha.run pos pins s σ H _ I h) fun us s1 ⟨vs, H1, I1, r, q⟩ => ⟨I1.kIn, ?_⟩) he hst
  exact wpAny_call (run_fnR F hr hx I1 r q)
def tPropR (C : Addr) (sp : Sp) (E : XK) (ta : TE) : TE := fun σ H Q => ta σ H fun x H1 => ∃ a dx fs, x = .ref a ∧ H1 a = some (.ins C dx fs) ∧ sp [.ref a] H1 Q E
theorem pe_propR {CX : CXT} {k : Nat} {C p g : Addr} {f : Str} {sp : Sp} {E : XK} {e : Expr} {pos : Pos} {ta : TE} (he : PE X e ta) (c : Cls X.K C) (hp : PropOf X.K C f p g) (F : FnR X.prog X.w X.K X.mg X.base CX k g sp) (hr : Room (k + 1) X.A) (hx : Passes CX X.nox E)
    (hab : attributeBase e f X.env (eval e X.env) = eval e X.env) : PE X (.Attribute e f pos) (tPropR C sp E ta) := by
  refine ⟨fun pins s σ H Q I h => ?_⟩
  refine attr_of hab (thn (he.run pins s σ H _ I h) fun u s1 ⟨x, H1, I1, rx, a, dx, fs, ex, ea, q⟩ => ?_)
  subst ex
  obtain rfl : u = Value.ref a := rx
  obtain ⟨mA, O, _, _, _, _⟩ := ins_get I1.hok ea
  obtain ⟨od, J, _⟩ := O.look
  obtain ⟨rest, hrec⟩ := hp.rec_
  have I2 := I1.tok (s1.toks + 1)
  have hc : (PySem.W.clsIn X.K C).isSome = true := by
    obtain ⟨cd, hc, _⟩ := PySem.W.any_some c.hd
    rw [hc]
    rfl
  refine PySem.W.get_bind I1.kIn J (PySem.W.plainGet_of (c.get f)).1 (PySem.W.findObj_data hc hp.at_ hp.get hp.tak) (PySem.W.plainGet_of (c.get f)).2 (wpAny_call (PySem.W.prop_get (s := { s1 with toks := s1.toks + 1 }) I1.kIn hrec ?_))
  refine codeAny_mono (F X.A.in1 X.stack { s1 with toks := s1.toks + 1 } H1 [.ref a] [.ref a] Q E hr.in1 I2.env0.in1 (.cons rfl .nil) q) fun r s' hq => ?_
  cases r with
  | error er => exact False.elim (hx pins σ H1 { s1 with toks := s1.toks + 1 } er s' (I2.wish _) hq)
  | ok fl =>
    cases fl with
    | ret u =>
      obtain ⟨v, H', I3, rv, q3⟩ := I2.after hq
      show wpAny _ _ (handedOut u) _ _ _
      rw [PySem.W.handedOut_of (handed_of rv)]
      exact wpAny_pure ⟨v, H', I3, rv, q3⟩
    | next => exact False.elim hq
    | brk => exact False.elim hq
    | cont => exact False.elim hq
end
section
variable {P : Program} {w : World} {K : PySem.W.Frag} {mg : Str → Option Value} {base : Heap}
/-- how arguments bind, for every such def -/
def Bnd (x qual : Str) (st : Stmt) (ps : List Str) : Prop := ∀ (kV doc pm : Value) (an : Option Addr) (cdv ct : Value) (us : List Value), us.length = ps.length → bindArgs (PySem.W.fnOf x qual (defArgs st) (defBody st) (defScope st) .none kV doc pm an cdv ct) ⟨us, []⟩ = pure (ps.zip us)
/-- a def's promise by positional values; no exception leaves it -/
theorem okR {x qual : Str} {st : Stmt} {f : Addr} {fd : FuncData} {N ps : List Str} {k : Nat} {sp : Sp} (F : Fun K x qual st f fd) (S : FnScope N ps (defScope st)) (B : Bnd x qual st ps) (len : ∀ vs H Q E, sp vs H Q E → vs.length = ps.length)
    (hbody : ∀ (cdv : Value) (A : Around) (outer : List Env) (s : Shared) (H : Hp) (vs : List V) (Q : VK) (E : XK), Room k (A.deeper (envOfC qual (defScope st) s.heap.objs.size f cdv)) → sp vs H Q E →
      ∃ t, PSs (cxOf CX0 P w K mg base N qual (defScope st) f cdv A outer s H E).nox (defBody st) t ∧ t { nx := fun _ H' => Q .non H', rt := Q } (start N vs) H) : FnR P w K mg base CX0 (k + 1) f sp := by
  have G := F.ok S len hbody
  have hb := F.binds B
  exact (G.raw hb .nil).imp fun vs H Q E h => by simpa using h
end
end XT

namespace XT
open PySem PySem.Spec PyProof.Rows L2
/-! ### heaps that grow -/
theorem same_upd {H H1 : Hp} {p : Addr} {o : HO} (h : Same H H1) (n : H p = Option.none) : Same H (upd H1 p o) := fun b u e => by
  have hb : b ≠ p := fun q => by rw [q, n] at e; cases e
  rw [upd_ne hb]
  exact h b u e
theorem same_new {H : Hp} {p : Addr} {o : HO} (n : H p = Option.none) : Same H (upd H p o) := same_upd (Same.refl H) n
theorem same_seqT {K : PySem.W.Frag} {H H' : Hp} {a : Addr} {xs : List V} (e : Same H H') (h : SqT K H a xs) : SqT K H' a xs := by
  rcases h with (h | ⟨o, h⟩) | h
  · exact .inl (.inl (e _ _ h))
  · exact .inl (.inr ⟨o, e _ _ h⟩)
  · exact .inr h
theorem same_tyB {K : PySem.W.Frag} {H H' : Hp} {x : V} {n : String} (e : Same H H') (h : TyB K H x n) : TyB K H' x n := by
  cases h with
  | non => exact .non
  | bl b => exact .bl b
  | int i => exact .int i
  | str z => exact .str z
  | byt b => exact .byt b
  | lst h => exact .lst (e.seq h)
  | tup h => exact .tup (same_seqT e h)
  | dK h => exact .dK (e _ _ h)
/-- a value of a known kind -/
def KV (K : PySem.W.Frag) (H : Hp) (x : V) : Prop := ∃ n, TyB K H x n ∧ tyN n = true
theorem KV.same {K : PySem.W.Frag} {H H' : Hp} {x : V} (h : KV K H x) (e : Same H H') : KV K H' x := let ⟨n, a, b⟩ := h; ⟨n, same_tyB e a, b⟩
theorem kv_int {K : PySem.W.Frag} {H : Hp} (i : Int) : KV K H (.int i) := ⟨"int", .int i, by decide +kernel⟩
def isI : V → Bool
  | .int _ => true
  | _ => false
theorem tyB_isI {K : PySem.W.Frag} {H : Hp} {x : V} {n : String} (h : TyB K H x n) : decide (n = "int") = isI x := by
  cases h <;> first | rfl | decide +kernel
/-! ### what is walked, while only new things are made -/
structure StatJ (J : It) (H0 : Hp) (n : Nat) (P : Nat → V → Hp → Prop) : Prop where
  go : ∀ i H, i < n → Same H0 H → J.go i H
  stop : ∀ H, Same H0 H → J.stop n H
  yld : ∀ i H x H', i < n → Same H0 H → J.yld i H x H' → Same H H' ∧ P i x H'
theorem stat_list {K : PySem.W.Frag} {H0 : Hp} {a : Addr} {xs : List V} (h : SqL K H0 a xs) : StatJ (Itl K a) H0 xs.length (fun i x _ => xs[i]? = some x) where
  go := fun i H hi s => ⟨xs, xs[i], s.seq h, by simp [hi]⟩
  stop := fun H s => ⟨xs, s.seq h, Nat.le_refl _⟩
  yld := fun i H x H' hi s y => by
    obtain ⟨e, y⟩ := y
    subst e
    exact ⟨Same.refl _, y xs (s.seq h)⟩
theorem stat_tup {K : PySem.W.Frag} {H0 : Hp} {a : Addr} {xs : List V} (h : SqT K H0 a xs) : StatJ (Itt K a) H0 xs.length (fun i x _ => xs[i]? = some x) where
  go := fun i H hi s => ⟨xs, xs[i], same_seqT s h, by simp [hi]⟩
  stop := fun H s => ⟨xs, same_seqT s h, Nat.le_refl _⟩
  yld := fun i H x H' hi s y => by
    obtain ⟨e, y⟩ := y
    subst e
    exact ⟨Same.refl _, y xs (same_seqT s h)⟩
theorem stat_rng {H0 : Hp} (lo : Int) (n : Nat) : StatJ (Itr lo n) H0 n (fun i x _ => x = .int (lo + i)) where
  go := fun i H hi s => hi
  stop := fun H s => Nat.le_refl _
  yld := fun i H x H' hi s y => by
    obtain ⟨e, y⟩ := y
    subst e
    exact ⟨Same.refl _, y⟩
theorem stat_enumT {K : PySem.W.Frag} {H0 : Hp} {a : Addr} {xs : List V} (h : SqT K H0 a xs) : StatJ (IteT K a) H0 xs.length (fun i v H => ∃ T x, v = .ref T ∧ H T = some (.tup [.int (i : Nat), x]) ∧ xs[i]? = some x) where
  go := fun i H hi s => ⟨xs, xs[i], same_seqT s h, by simp [hi]⟩
  stop := fun H s => ⟨xs, same_seqT s h, Nat.le_refl _⟩
  yld := fun i H x H' hi s y => by
    obtain ⟨T, x', e, n, e', y⟩ := y
    subst e e'
    exact ⟨same_new n, T, x', rfl, upd_same, y xs (same_seqT s h)⟩
theorem stat_zip {K : PySem.W.Frag} {H0 : Hp} {a b : Addr} {xs ys : List V} (h : SqL K H0 a xs) (k : SqL K H0 b ys) : StatJ (Itz K a b) H0 (min xs.length ys.length) (fun i v H => ∃ T x y, v = .ref T ∧ H T = some (.tup [x, y]) ∧ xs[i]? = some x ∧ ys[i]? = some y) where
  go := fun i H hi s => ⟨xs, ys, xs[i], ys[i], s.seq h, s.seq k, by simp, by simp⟩
  stop := fun H s => ⟨xs, ys, s.seq h, s.seq k, by omega⟩
  yld := fun i H x H' hi s y => by
    obtain ⟨T, x', y', e, n, e', p, q⟩ := y
    subst e e'
    exact ⟨same_new n, T, x', y', rfl, upd_same, p xs (s.seq h), q ys (s.seq k)⟩
theorem stat_zipT {K : PySem.W.Frag} {H0 : Hp} {a b : Addr} {xs ys : List V} (h : SqT K H0 a xs) (k : SqT K H0 b ys) : StatJ (RZ.ItzT K a b) H0 (min xs.length ys.length) (fun i v H => ∃ T x y, v = .ref T ∧ H T = some (.tup [x, y]) ∧ xs[i]? = some x ∧ ys[i]? = some y) where
  go := fun i H hi s => ⟨xs, ys, xs[i], ys[i], same_seqT s h, same_seqT s k, by simp, by simp⟩
  stop := fun H s => ⟨xs, ys, same_seqT s h, same_seqT s k, by omega⟩
  yld := fun i H x H' hi s y => by
    obtain ⟨T, x', y', e, n, e', p, q⟩ := y
    subst e e'
    exact ⟨same_new n, T, x', y', rfl, upd_same, p xs (same_seqT s h), q ys (same_seqT s k)⟩
/-- what a comprehension collects -/
def outs (out : Nat → Option V) (n : Nat) : List V := (List.range n).filterMap out
theorem outs_succ (out : Nat → Option V) (n : Nat) : outs out (n + 1) = outs out n ++ (out n).toList := by
  unfold outs
  rw [List.range_succ, List.filterMap_append]
  cases h : out n <;> simp [List.filterMap, h]
theorem outs_len (out : Nat → Option V) (n : Nat) : (outs out n).length ≤ n := by
  unfold outs
  exact Nat.le_trans (List.length_filterMap_le _ _) (by simp)
theorem outs_list (f : V → Option V) (xs : List V) : outs (fun i => (xs[i]?).bind f) xs.length = xs.filterMap f := by
  have : ∀ n, n ≤ xs.length → outs (fun i => (xs[i]?).bind f) n = (xs.take n).filterMap f := by
    intro n
    induction n with
    | zero => intro _; rfl
    | succ n ih =>
      intro h
      rw [outs_succ, ih (by omega), List.take_succ, List.filterMap_append]
      congr 1
      have e : xs[n]? = some xs[n] := by simp
      rw [e]
      cases h2 : f xs[n] <;> simp [h2]
  rw [this _ (Nat.le_refl _), List.take_length]
theorem outs_map (f : V → V) (xs : List V) : outs (fun i => (xs[i]?).map f) xs.length = xs.map f := by
  have e : (fun (i : Nat) => (xs[i]?).map f) = fun (i : Nat) => (xs[i]?).bind fun x => some (f x) := by funext i; cases xs[i]? <;> rfl
  rw [e, outs_list]
  simp
theorem outs_fun (f : Nat → V) (n : Nat) : outs (fun i => some (f i)) n = (List.range n).map f := by
  unfold outs
  simp
theorem outs_congr {o o' : Nat → Option V} {n : Nat} (h : ∀ i, i < n → o i = o' i) : outs o n = outs o' n := by
  induction n with
  | zero => rfl
  | succ n ih => rw [outs_succ, outs_succ, ih fun i hi => h i (by omega), h n (by omega)]
/-- a comprehension over what stands still -/
theorem lcG {J : It} {n : Nat} {P : Nat → V → Hp → Prop} {g : TG} {tt : TT} {te : TE} {vs : List Nat} {σ : L2.St} {H1 : Hp} {D : Addr} {Qd : Hp → Prop} (S : StatJ J H1 n P) (hD : H1 D = Option.none) (out : Nat → Option V) (hn : n ≤ sizeLine)
    (hs : ∀ i x H (R : Option V → Hp → Prop), i < n → Same H1 H → P i x H → (∀ H', Same H H' → R (out i) H') → g x (wipe σ vs) H fun σ2 H2 => wipe σ2 vs = wipe σ vs ∧ tt σ2 H2 fun b H3 => if b = true then te σ2 H3 fun y H4 => R (some y) H4 else R Option.none H3)
    (hd : ∀ H, Same H1 H → H D = some (.lst (outs out n)) → Qd H) :
    ∃ W : Nat → Nat → Hp → Prop, (∃ m, W 0 m (upd H1 D (.lst []))) ∧ ∀ i m H, W i m H →
      (J.stop i H ∧ Qd H) ∨ (J.go i H ∧ ∃ Nx : Hp → Prop, (∀ H', Nx H' → ∃ m', m' < m ∧ W (i + 1) m' H') ∧ ∀ x H', J.yld i H x H' → g x (wipe σ vs) H' fun σ2 H2 => wipe σ2 vs = wipe σ vs ∧ tt σ2 H2 fun b H3 =>
        if b = true then te σ2 H3 fun y H4 => ∃ acc, H4 D = some (.lst acc) ∧ acc.length < sizeLine ∧ Nx (upd H4 D (.lst (acc ++ [y]))) else Nx H3) := by
  refine ⟨fun i m H => m = n - i ∧ i ≤ n ∧ Same H1 H ∧ H D = some (.lst (outs out i)), ⟨n, by simp, Nat.zero_le _, same_new hD, by rw [upd_same]; rfl⟩, ?_⟩
  rintro i m H ⟨rfl, hi, s, hH⟩
  by_cases hlt : i < n
  · refine .inr ⟨S.go i H hlt s, fun H' => Same H1 H' ∧ H' D = some (.lst (outs out (i + 1))), fun H' p => ⟨n - (i + 1), by omega, rfl, hlt, p.1, p.2⟩, fun x H' y => ?_⟩
    obtain ⟨s2, px⟩ := S.yld i H x H' hlt s y
    refine hs i x H' (fun r H4 => match r with | some y => ∃ acc, H4 D = some (.lst acc) ∧ acc.length < sizeLine ∧ (Same H1 (upd H4 D (.lst (acc ++ [y]))) ∧ (upd H4 D (.lst (acc ++ [y]))) D = some (.lst (outs out (i + 1)))) | none => Same H1 H4 ∧ H4 D = some (.lst (outs out (i + 1)))) hlt (s.trans s2) px fun H4 s4 => ?_
    have h4 : H4 D = some (.lst (outs out i)) := s4 _ _ (s2 _ _ hH)
    have s14 : Same H1 H4 := (s.trans s2).trans s4
    cases ho : out i with
    | none =>
      refine ⟨s14, ?_⟩
      rw [outs_succ, ho, h4]
      simp
    | some y =>
      refine ⟨_, h4, Nat.lt_of_le_of_lt (outs_len out i) (Nat.lt_of_lt_of_le hlt hn), same_upd s14 hD, ?_⟩
      rw [upd_same, outs_succ, ho]
      rfl
  · have e : i = n := by omega
    subst e
    exact .inl ⟨S.stop H s, hd H s hH⟩
/-- without a test -/
theorem lcM {J : It} {n : Nat} {P : Nat → V → Hp → Prop} {g : TG} {te : TE} {vs : List Nat} {σ : L2.St} {H1 : Hp} {D : Addr} {Qd : Hp → Prop} (S : StatJ J H1 n P) (hD : H1 D = Option.none) (out : Nat → V) (hn : n ≤ sizeLine)
    (hs : ∀ i x H (R : V → Hp → Prop), i < n → Same H1 H → P i x H → (∀ H', Same H H' → R (out i) H') → g x (wipe σ vs) H fun σ2 H2 => wipe σ2 vs = wipe σ vs ∧ te σ2 H2 R)
    (hd : ∀ H, Same H1 H → H D = some (.lst ((List.range n).map out)) → Qd H) :
    ∃ W : Nat → Nat → Hp → Prop, (∃ m, W 0 m (upd H1 D (.lst []))) ∧ ∀ i m H, W i m H →
      (J.stop i H ∧ Qd H) ∨ (J.go i H ∧ ∃ Nx : Hp → Prop, (∀ H', Nx H' → ∃ m', m' < m ∧ W (i + 1) m' H') ∧ ∀ x H', J.yld i H x H' → g x (wipe σ vs) H' fun σ2 H2 => wipe σ2 vs = wipe σ vs ∧ tYes σ2 H2 fun b H3 =>
        if b = true then te σ2 H3 fun y H4 => ∃ acc, H4 D = some (.lst acc) ∧ acc.length < sizeLine ∧ Nx (upd H4 D (.lst (acc ++ [y]))) else Nx H3) := by
  refine ⟨fun i m H => m = n - i ∧ i ≤ n ∧ Same H1 H ∧ H D = some (.lst ((List.range i).map out)), ⟨n, by simp, Nat.zero_le _, same_new hD, by rw [upd_same]; rfl⟩, ?_⟩
  rintro i m H ⟨rfl, hi, s, hH⟩
  by_cases hlt : i < n
  · refine .inr ⟨S.go i H hlt s, fun H' => Same H1 H' ∧ H' D = some (.lst ((List.range (i + 1)).map out)), fun H' p => ⟨n - (i + 1), by omega, rfl, hlt, p.1, p.2⟩, fun x H' y => ?_⟩
    obtain ⟨s2, px⟩ := S.yld i H x H' hlt s y
    show g x (wipe σ vs) H' fun σ2 H2 => wipe σ2 vs = wipe σ vs ∧ (if true = true then te σ2 H2 fun y H4 => ∃ acc, H4 D = some (.lst acc) ∧ acc.length < sizeLine ∧ (Same H1 (upd H4 D (.lst (acc ++ [y]))) ∧ (upd H4 D (.lst (acc ++ [y]))) D = some (.lst ((List.range (i + 1)).map out))) else (Same H1 H2 ∧ H2 D = some (.lst ((List.range (i + 1)).map out))))
    simp only [if_true]
    refine hs i x H' (fun y H4 => ∃ acc, H4 D = some (.lst acc) ∧ acc.length < sizeLine ∧ (Same H1 (upd H4 D (.lst (acc ++ [y]))) ∧ (upd H4 D (.lst (acc ++ [y]))) D = some (.lst ((List.range (i + 1)).map out)))) hlt (s.trans s2) px fun H4 s4 => ?_
    have h4 : H4 D = some (.lst ((List.range i).map out)) := s4 _ _ (s2 _ _ hH)
    refine ⟨_, h4, Nat.lt_of_le_of_lt (by simp) (Nat.lt_of_lt_of_le hlt hn), same_upd ((s.trans s2).trans s4) hD, ?_⟩
    rw [upd_same, List.range_succ, List.map_append]
    rfl
  · have e : i = n := by omega
    subst e
    exact .inl ⟨S.stop H s, hd H s hH⟩
theorem range_map (f : V → V) (d : V) (xs : List V) : (List.range xs.length).map (fun i => f (xs.getD i d)) = xs.map f := by
  apply List.ext_getElem
  · simp
  · intro i h1 h2
    have h3 : i < xs.length := by simpa using h2
    simp [List.getD, h3]
theorem getD_of {xs : List V} {i : Nat} {x d : V} (h : xs[i]? = some x) : xs.getD i d = x := by
  simp [List.getD, h]
end XT

namespace XT
open PySem PySem.Spec PyProof.Rows L2
/-! ### the rules whose reading names the written part, with that part given -/
section
variable {X : Cx} (K : PySem.W.Frag)
theorem fldK {e : Expr} {f : Str} {pos : Pos} {ta : TE} (he : PE X e ta) (hb : attributeBase e f X.env (eval e X.env) = eval e X.env) (hK : X.K = K := by rfl) : PE X (.Attribute e f pos) (tFld K ta f) := by subst hK; exact pe_fld he hb
theorem tupK {es : List Expr} {k : Nat} {pos : Pos} {t : TGs} {n : Nat} (hc : X.calm = true) (h : PGs X es t) (hK : X.K = K := by rfl) (hn : (assignEach es X.env).length = n := by rfl) (hst : (assignEach es X.env).findIdx? (·.1) = none := by rfl) : PG X (.Tuple es k pos) (gTup K n t) := by
  subst hK
  exact pg_tup hc h hn hst
theorem unlK {es : List Expr} {k : Nat} {pos : Pos} {t : TGs} {n : Nat} (hc : X.calm = true) (h : PGs X es t) (hK : X.K = K := by rfl) (hn : (assignEach es X.env).length = n := by rfl) (hst : (assignEach es X.env).findIdx? (·.1) = none := by rfl) : PG X (.Tuple es k pos) (gUnl K n t) := by
  subst hK
  exact pg_unl hc h hn hst
theorem ixLK (hK : X.K = K := by rfl) : IxR X (rIxL K) := by subst hK; exact ix_list
theorem ixTK (hK : X.K = K := by rfl) : IxR X (rIxT K) := by subst hK; exact ix_tup
theorem slLK (hK : X.K = K := by rfl) : SlR X (rSlL K) := by subst hK; exact sl_list
theorem slTK (hK : X.K = K := by rfl) : SlR X (rSlA K) := by subst hK; exact sl_tupA
theorem lenK (hK : X.K = K := by rfl) : CallR X (.builtin "len") (fun xs H Q => ∃ p ys, xs = [.ref p] ∧ (SqL K H p ys ∨ SqT K H p ys) ∧ Q (.int ys.length) H) := by subst hK; exact call_len_seq
theorem typeK (hK : X.K = K := by rfl) : CallR X (.type "type") (rTyp K) := by subst hK; exact call_type1
theorem allK (hc : X.calm = true) (hK : X.K = K := by rfl) : CallR X (.builtin "all") (rAll K) := by subst hK; exact cr_all hc
theorem sortedK (hK : X.K = K := by rfl) : CallR X (.builtin "sorted") (rSortedI K) := by subst hK; exact cr_sortedI
theorem listK (hK : X.K = K := by rfl) : CallR X (.type "list") (fun xs H Q => ∃ p ys, xs = [.ref p] ∧ (SqL K H p ys ∨ SqT K H p ys) ∧ ∀ l, H l = Option.none → Q (.ref l) (upd H l (.lst ys))) := by subst hK; exact call_list_of
theorem tupleK (hK : X.K = K := by rfl) : CallR X (.type "tuple") (fun xs H Q => ∃ p ys, xs = [.ref p] ∧ ((SqL K H p ys ∧ ∀ l, H l = Option.none → Q (.ref l) (upd H l (.tup ys))) ∨ (SqT K H p ys ∧ Q (.ref p) H))) := by subst hK; exact call_tuple_of
theorem inK (hK : X.K = K := by rfl) : OpR X (compareOp .In) (rIn K false) := by subst hK; exact op_in_seq
theorem notInK (hK : X.K = K := by rfl) : OpR X (compareOp .NotIn) (rIn K true) := by subst hK; exact op_notIn_seq
theorem eqDK (hu : X.A.units + 64 < cLine) (hK : X.K = K := by rfl) : OpR X (compareOp .Eq) (rEqD K) := by subst hK; exact op_eqD hu
theorem neDK (hu : X.A.units + 64 < cLine) (hK : X.K = K := by rfl) : OpR X (compareOp .NotEq) (rNeD K) := by subst hK; exact op_neD hu
theorem inTyK (hK : X.K = K := by rfl) : OpR X (compareOp .In) (fun x y H Q => ∃ (m : String) (p : Addr) (ns : List String), x = .ty m ∧ y = .ref p ∧ SqT K H p (ns.map V.ty) ∧ tyN m = true ∧ (∀ n ∈ ns, tyN n = true) ∧ Q (.bl (ns.any fun n => decide (n = m))) H) := by subst hK; exact op_inTy
theorem bmK {o e : Expr} {es : List Expr} {name : Str} {apos cpos : Pos} {to : TE} {t : TA} {r : V → List V → Hp → VK → Prop} {T : String} (h : PE X (.Call (.Attribute o name apos) (e :: es) [] cpos) (tBM X.K T r to t)) (hK : X.K = K := by rfl) : PE X (.Call (.Attribute o name apos) (e :: es) [] cpos) (tBM K T r to t) := by subst hK; exact h
theorem starK {e : Expr} {p : Pos} {es : List Expr} {te : TE} {t : TA} (h : PA X (.Starred e p :: es) (StX.tStar X.K te t)) (hK : X.K = K := by rfl) : PA X (.Starred e p :: es) (StX.tStar K te t) := by subst hK; exact h
end
end XT

namespace XT
open PySem PySem.Spec PyProof.Rows L2
/-! ### data of ints -/
theorem dpAll_ints {K : PySem.W.Frag} {H : Hp} (L : List Int) : DpAll K H (L.map V.int) (L.map PyData.int) := by
  induction L with
  | nil => exact .nil
  | cons x L ih => exact .cons (.int x) ih
theorem dp_lst {K : PySem.W.Frag} {H : Hp} {p : Addr} {L : List Int} (h : SqL K H p (L.map V.int)) : Dp K H (.ref p) (.list (L.map PyData.int)) := .lst h (dpAll_ints L)
theorem dp_tup {K : PySem.W.Frag} {H : Hp} {p : Addr} {L : List Int} (h : SqT K H p (L.map V.int)) : Dp K H (.ref p) (.tuple (L.map PyData.int)) := .tup h (dpAll_ints L)
theorem eqvAll_ints (L : List Int) : ∀ M : List Int, PyData.eqvAll (L.map PyData.int) (M.map PyData.int) = decide (L = M) := by
  induction L with
  | nil =>
    intro M
    cases M with
    | nil => simp [PyData.eqvAll]
    | cons y M => simp [PyData.eqvAll]
  | cons x L ih =>
    intro M
    cases M with
    | nil => simp [PyData.eqvAll]
    | cons y M =>
      rw [List.map_cons, List.map_cons, PyData.eqvAll, ih]
      by_cases h : x = y
      · subst h
        simp [PyData.eqv]
      · have : (PyData.int x).eqv (.int y) = false := by simp [PyData.eqv, h]
        rw [this]
        simp [h]
theorem eqv_tups (L M : List Int) : PyData.eqv (.tuple (L.map PyData.int)) (.tuple (M.map PyData.int)) = decide (L = M) := by
  rw [PyData.eqv]
  exact eqvAll_ints L M
theorem eqv_lsts (L M : List Int) : PyData.eqv (.list (L.map PyData.int)) (.list (M.map PyData.int)) = decide (L = M) := by
  rw [PyData.eqv]
  exact eqvAll_ints L M
theorem shaped_lst (L : List Int) : SeqAt.shaped (.list (L.map PyData.int)) = true := PySem.W.ke_shaped_ints L
theorem shaped_tup (L : List Int) : SeqAt.shaped (.tuple (L.map PyData.int)) = true := by
  have := PySem.W.ke_shaped_ints L
  unfold SeqAt.shaped at this ⊢
  simpa [PyData.canLay0, PyData.depth] using this
/-! ### bool(x) by its truth -/
section
variable {prog : Program} {w : World} {A : Around} {E : Value → Shared → Prop} {s : Shared}
theorem bool_gen {v : Value} {Q : Value → Shared → Prop} (h : wpAny (model prog w) A.in1.in1 (truthy v) (fun b s1 => Q (.bool b) s1) E s) : wpAny (model prog w) A (call (.type "bool") [v]) Q E s := by
  refine callType_codes (T := "bool") (Bi := Builtin.«object.__init__») (Q₁ := fun r s1 => ∃ b, r = Value.bool b ∧ Q r s1) PySem.F.called_bool (PySem.F.typeCall_bool_1 _) PySem.F.entry_object_init ?_ ?_
  · refine codeAny_of_tree ?_
    show wpAny _ A.in1.in1 (do checkBuiltinCall "bool.__new__" ⟨[.type "bool", v], []⟩; again (.builtin "bool.__new__" ⟨[.type "bool", v], []⟩)) _ _ s
    refine wpAny_bind (wpAny_of_eq (PySem.F.newCall_bool_1 _) (wpAny_pure ⟨plainId_quiet (by decide +kernel) _, codeAny_builtin PySem.F.entry_bool_new ?_⟩))
    rw [Around.under_plainId (by decide +kernel) _]
    unfold Builtin.«bool.__new__»
    refine wpAny_bind (wpAny_of_eq (a := true) type_bool ?_)
    refine PySem.W.KFB.if_not rfl ?_
    refine wpAny_bind (wpAny_of_eq (a := true) PySem.F.conv_sub_bool ?_)
    refine PySem.W.KFB.if_not rfl ?_
    refine wpAny_bind (m := someArgs "bool" 0 1 _) (wpAny_of_eq (a := [v]) (by first | rfl | kernel_rfl | simp [someArgs]) ?_)
    dsimp only
    exact wpAny_bind (wpAny_mono h (fun b s1 q => wpAny_pure ⟨b, rfl, q⟩) fun _ _ y => y)
  · rintro obj s₁ ⟨b, rfl, hq⟩
    exact ⟨PySem.typeIs_bool _ _, PySem.F.args_object_init_2 _ _, object_init_meets PySem.F.called_bool.init.lookup PySem.F.called_bool.made (by decide) prog w A.in1 _ s₁ ⟨PySem.typeIs_bool _ _, rfl, hq⟩⟩
end
section
variable {X : Cx} (K : PySem.W.Frag)
theorem boolT (hK : X.K = K := by rfl) : CallR X (.type "bool") (fun xs H Q => ∃ (a : Addr) (zs : List V), xs = [.ref a] ∧ SqT K H a zs ∧ Q (.bl (!zs.isEmpty)) H) := by
  subst hK
  intro pins s σ H xs us Q I r h
  obtain ⟨a, zs, rfl, hq, q⟩ := h
  obtain rfl := Vals.ref1 r
  obtain ⟨its, rv, pl, hz⟩ := I.tuple hq
  have hl := line63
  have hlen := rv.length
  refine bool_gen (truthy_tuple pl (by simp only [List.size_toArray]; omega) ?_)
  exact ⟨.bl (!zs.isEmpty), H, I.tok _, by rw [isEmpty_of rv]; rfl, q⟩
end
end XT

namespace XT
open PySem PySem.Spec PyProof.Rows L2
/-! ### defs that ask which list or tuple is being written (repr): nothing of that kind is under way -/
/-- as FnR, no repr being under way -/
def FnG (P : Program) (w : World) (K : PySem.W.Frag) (mg : Str → Option Value) (base : Heap) (CX : CXT) (k : Nat) (f : Addr) (sp : Sp) : Prop :=
  ∀ (A : Around) (outer : List Env) (s : Shared) (H : Hp) (us : List Value) (vs : List V) (Q : VK) (E : XK), A.guards = some [] → Room k A → Env0 P w K mg base A outer s H → Vals vs us → sp vs H Q E →
    codeAny (model P w) A (.call (.ref f) ⟨us, []⟩) (CR CX outer P w H s Q E) s
section
variable {P : Program} {w : World} {K : PySem.W.Frag} {mg : Str → Option Value} {base : Heap} {CX : CXT} {j k : Nat} {f : Addr} {sp sp' : Sp}
theorem FnG.imp (F : FnG P w K mg base CX k f sp) (h : ∀ vs H Q E, sp' vs H Q E → sp vs H Q E) : FnG P w K mg base CX k f sp' := fun A outer s H us vs Q E hg hr e0 r hs => F A outer s H us vs Q E hg hr e0 r (h _ _ _ _ hs)
theorem FnR.toG (F : FnR P w K mg base CX k f sp) : FnG P w K mg base CX k f sp := fun A outer s H us vs Q E _ hr e0 r hs => F A outer s H us vs Q E hr e0 r hs
/-- a def by its body, one entry at a time -/
theorem fnG_of {name qual : Str} {params : Arguments} {body : List Stmt} {scope : Scope} {dV kV doc pm cdv ct oc : Value} {an od : Option Addr}
    {osl : Array (Option Value)} {N ps : List Str} (lk : K.lookup f = some ⟨oc, od, .func (PySem.W.fnOf name qual params body scope dV kV doc pm an cdv ct), osl⟩) (hcd : PySem.W.codeIn K cdv qual = true) (S : FnScope N ps scope)
    (hb : Binds K (PySem.W.fnOf name qual params body scope dV kV doc pm an cdv ct) ps []) (len : ∀ vs H Q E, sp vs H Q E → vs.length = ps.length)
    (hbody : ∀ (A : Around) (outer : List Env) (s : Shared) (H : Hp) (vs : List V) (Q : VK) (E : XK), (A.deeper (envOfC qual scope s.heap.objs.size f cdv)).guards = some [] → Room k (A.deeper (envOfC qual scope s.heap.objs.size f cdv)) → sp vs H Q E →
      ∃ t, PSs (cxOf CX P w K mg base N qual scope f cdv A outer s H E) body t ∧ t { nx := fun _ H' => Q .non H', rt := Q } (start N vs) H) :
    FnG P w K mg base CX (k + 1) f sp := by
  intro A outer s H us vs Q E hg hr e0 r hsp
  have hl := len _ _ _ _ hsp
  have hlu : us.length = ps.length := r.length ▸ hl
  have keep : ∀ b o, base.get? b = some o → s.heap.get? b = some o := fun b o e => (e0.bs b o e).1
  have KX : K.In s.heap := e0.mod.kin.keeps keep
  have lim : s.heap.NoLimit := e0.mod.nolimit.keeps keep
  have hkind : ∀ y ∈ ps.zip us, scope.names.lookup y.1 = some .local ∨ (scope.names.lookup y.1 = some .cell ∧ ((cellsFrom (s.heap.objs.size + 1) scope.names []).lookup y.1).isSome = true) := fun ⟨n, v⟩ hy => by
    rcases S.par n (List.of_mem_zip hy).1 with q | q
    · exact .inl q
    · exact .inr ⟨q, PySem.W.cellsFrom_some _ _ _ (.inl q)⟩
  have hbt : BindsTo s (PySem.W.fnOf name qual params body scope dV kV doc pm an cdv ct) ⟨us, []⟩ (ps.zip us) := by
    have z := hb s us KX (by simpa using hlu)
    simpa using z
  refine codeAny_call_function hr.depth (KX _ _ lk) rfl S.co S.gen rfl (PySem.W.codeRec_of KX hcd) (hbt _ _ _ _ ?_)
  refine wpAny_newFunctionEnv_cells S.kind hkind fun env he s1 x => ?_
  subst he
  refine ⟨lim.keeps x.toInCall.keep, codeAny_func ?_⟩
  obtain ⟨t, ht, hq⟩ := hbody A outer s H vs Q E hg (hr.deeper _) hsp
  have I : Inv (cxOf CX P w K mg base N qual scope f cdv A outer s H E) [] (start N vs) H s1 := inv_start S hr.hd e0 hl r x
  have fin : ∀ {σ' : L2.St} {H' : Hp} {v : V} {u : Value} {s' : Shared}, Inv (cxOf CX P w K mg base N qual scope f cdv A outer s H E) [] σ' H' s' → RelV v u → Q v H' → CE outer P w H s Q u s' :=
    fun {σ' H' v u s'} J rv q => ⟨v, H', J.os, J.bare, J.base, J.hok, rv, q⟩
  refine wpAny_mono (ht.run [] s1 (start N vs) H _ I hq) (fun fl s' hs => ?_) fun e s' hs => hs
  match fl, hs with
  | .ret u, ⟨v, σ', H', J, rv, q⟩ => exact fin J rv q
  | .next, ⟨σ', H', J, q⟩ => exact fin (v := V.non) (u := Value.none) J rfl q
  | .brk, ⟨_, _, _, q⟩ => exact q.elim
  | .cont, ⟨_, _, _, q⟩ => exact q.elim
/-- a def that may raise, by positional values -/
theorem okGX {x qual : Str} {st : Stmt} {fd : FuncData} {N ps : List Str} (F : Fun K x qual st f fd) (S : FnScope N ps (defScope st)) (B : Bnd x qual st ps) (len : ∀ vs H Q E, sp vs H Q E → vs.length = ps.length)
    (hbody : ∀ (cdv : Value) (A : Around) (outer : List Env) (s : Shared) (H : Hp) (vs : List V) (Q : VK) (E : XK), (A.deeper (envOfC qual (defScope st) s.heap.objs.size f cdv)).guards = some [] → Room k (A.deeper (envOfC qual (defScope st) s.heap.objs.size f cdv)) → sp vs H Q E →
      ∃ t, PSs (cxOf CX P w K mg base N qual (defScope st) f cdv A outer s H E) (defBody st) t ∧ t { nx := fun _ H' => Q .non H', rt := Q } (start N vs) H) : FnG P w K mg base CX (k + 1) f sp := by
  have hb := F.binds B
  obtain ⟨oc, od, kV, doc, pm, an, cdv, ct, osl, rfl, lk, hcd⟩ := F.ex
  exact fnG_of lk hcd S hb len fun A outer s H vs Q E hg hr hsp => hbody cdv A outer s H vs Q E hg hr hsp
/-- a def that may raise, by positional values -/
theorem okX {x qual : Str} {st : Stmt} {fd : FuncData} {N ps : List Str} (F : Fun K x qual st f fd) (S : FnScope N ps (defScope st)) (B : Bnd x qual st ps) (len : ∀ vs H Q E, sp vs H Q E → vs.length = ps.length)
    (hbody : ∀ (cdv : Value) (A : Around) (outer : List Env) (s : Shared) (H : Hp) (vs : List V) (Q : VK) (E : XK), Room k (A.deeper (envOfC qual (defScope st) s.heap.objs.size f cdv)) → sp vs H Q E →
      ∃ t, PSs (cxOf (L2.CX P w) P w K mg base N qual (defScope st) f cdv A outer s H E) (defBody st) t ∧ t { nx := fun _ H' => Q .non H', rt := Q } (start N vs) H) : FnR P w K mg base (L2.CX P w) (k + 1) f sp := by
  have G := F.okX S len hbody
  have hb := F.binds B
  exact (G.raw hb .nil).imp fun vs H Q E h => by simpa using h
end
end XT

namespace XT
open PySem PySem.Spec PyProof.Rows L2
/-! ### several clauses «except X as n» behind one another -/
/-- the ways out of a suite that has bound slot i -/
def endsAs (i : Nat) (D : Ends) : Ends := { nx := fun σ' H' => D.nx (σ'.set i none) H', rt := D.rt, bk := fun σ' H' => D.bk (σ'.set i none) H', ct := fun σ' H' => D.ct (σ'.set i none) H' }
/-- what the clauses wish of an exception: class, slot, suite -/
def wAsL (K : PySem.W.Frag) (Wout : WX) (D : Ends) : List (Value × Nat × (Addr → Value → Option Addr → TS)) → WX
  | [] => Wout
  | (c, i, ts) :: r => fun cls d σ H => ∃ b, PySem.W.exmOne K cls c = some b ∧ (b = true → ∀ a, H a = none → ts a cls d (endsAs i D) (σ.set i (some (.ref a))) H) ∧ (b = false → wAsL K Wout D r cls d σ H)
/-- the written clauses, one by one -/
inductive AsOk (X : Cx) : List ExceptHandler → List (Value × Nat × (Addr → Value → Option Addr → TS)) → Prop
  | nil : AsOk X [] []
  | cons {x n : Str} {c : Value} {i : Nat} {ts : Addr → Value → Option Addr → TS} {b₀ : Stmt} {suite : List Stmt} {np pos' : Pos} {hds : List ExceptHandler} {l : List (Value × Nat × (Addr → Value → Option Addr → TS))} (hc : Names X x c)
      (hi : X.N[i]? = some n) (hln : X.env.kindOf n = some .local)
      (hsu : ∀ (a : Addr) (oe : Obj) (cls : Value) (d : Option Addr) (pn : List (Addr × Obj)), Zc cls d oe → (∃ vs, oe.data = .fields vs) → PSs (X.suite a ((a, oe) :: pn)) (b₀ :: suite) (ts a cls d)) (r : AsOk X hds l) :
      AsOk X (.ExceptHandler (some (.Name x np)) (some n) (b₀ :: suite) pos' :: hds) ((c, i, ts) :: l)
section
variable {X : Cx} {body : List Stmt} {h₀ : ExceptHandler} {hds : List ExceptHandler} {l : List (Value × Nat × (Addr → Value → Option Addr → TS))} {pos : Pos} {tb : WX → TS} {Wout : WX}
theorem ps_try_asL (hs : X.stack = X.env :: X.outer) (hf : X.env.frame = some X.env.locals) (hN : X.N.Nodup) (tk : Takes X Wout)
    (hb : ∀ (W : WX) (pn : List (Addr × Obj)) (xe : Value → Shared → Prop), Takes (X.tr pn xe) W → PassesOwn (model X.prog X.w) X.A X.env xe → PSs (X.tr pn xe) body (tb W))
    (hh : AsOk X (h₀ :: hds) l) : PS X (.Try body (h₀ :: hds) [] [] pos) (fun D σ H => tb (wAsL X.K Wout D l) D σ H) := by
  refine ⟨fun pins s σ H D I h => ?_⟩
  have ok := I.ok
  have hfr : X.A.frames = some (X.env :: X.outer) := ok.frames.trans (congrArg some hs)
  refine wpAny_Try_except ?_
  refine wpAny_mono ((hb (wAsL X.K Wout D l) (X.pn ++ pins) (fun e s₁ => wpAny (model X.prog X.w) X.A (noteFrame e X.env) (fun _ s₂ => wpAny (model X.prog X.w) X.A (setFlight e none) (fun _ s₃ =>
    wpAny (model X.prog X.w) X.A (handleBy e X.env (h₀ :: hds)) (SP X pins D) X.xe s₃) X.xe s₂) X.xe s₁) (fun u s' xx => ?_) PassesOwn.looking).run [] s σ H D (I.toTry _) h) (fun f s1 hsp => ?_) (fun e s1 he => he)
  · obtain ⟨a, B, sI, pins', σ', H', cls, d, rfl, J', nb, up, sky, na, os, ag, w⟩ := xx
    have J : Inv X pins σ' H' sI := J'.ofTry ok
    have sky' : Sky B (X.env :: X.outer) a (Zc cls d) X.env.locals s'.heap := hs ▸ sky
    show wpAny (model X.prog X.w) X.A (noteFrame (.ref a) X.env) _ _ _
    refine Sky.land Zc.steady hfr hf sky' fun h3 fl3 up3 => ?_
    have up13 := up.trans up3
    have J3 : Inv X pins σ' H' { s' with heap := h3 } := J.landed nb fl3.1 up13 os ag
    obtain ⟨oe3, vs3, he3, hz3, hd3⟩ := fl3.there
    have nfr : a ∉ frs (X.env :: X.outer) := fun hm => by
      obtain ⟨_, o', e', hnf⟩ := fl3.2.2.1.mem hm
      exact hnf _ (by rw [he3] at e'; cases e'; exact hd3)
    have nL : a ≠ X.env.locals := fun z => nfr (List.mem_filterMap.mpr ⟨X.env, List.mem_cons_self, hf.trans (congrArg some z.symm)⟩)
    have nF : a ∉ X.fs := fun hm => by
      obtain ⟨e, he, q⟩ := List.mem_filterMap.mp hm
      exact nfr (List.mem_filterMap.mpr ⟨e, List.mem_cons_of_mem _ he, q⟩)
    have S3 := J3.suite he3 hd3 na nL nF
    have LT : PySem.W.Looks (model X.prog X.w) h3 (typeOf (.ref a)) cls := fun A Q E s k q => wpAny_typeOf_ref (k _ _ he3) (hz3.1.symm ▸ q)
    have go : ∀ {hds' : List ExceptHandler} {l' : List (Value × Nat × (Addr → Value → Option Addr → TS))}, AsOk X hds' l' → wAsL X.K Wout D l' cls d σ' H' →
        wpAny (model X.prog X.w) X.A (handleBy (.ref a) X.env hds') (SP X pins D) X.xe { s' with heap := h3 } := by
      intro hds' l' hk
      induction hk with
      | nil =>
        intro w
        refine wpAny_handleBy_nil ?_
        obtain ⟨k1, k2, k3, oe, vs, T, oT, ts', he, hz, hd, h1, hr⟩ := id fl3
        unfold PySem.passOn
        refine wpAny_bind (wpAny_field he hd h1 ?_)
        rw [if_neg (show ¬ ((Value.ref T == Value.none) = true) from by simp)]
        have fin : wpAny (model X.prog X.w) X.A (setFlight (.ref a) X.env.frame) (fun _ s4 => wpAny (model X.prog X.w) X.A (throw (.ref a) : Sem Flow) (SP X pins D) X.xe s4) X.xe { s' with heap := h3 } := by
          rw [hf]
          exact HandSPX.setFlight_upZ fl3 fun h4 hh4 up4 => wpAny_throw (tk _ _ ⟨a, B, sI, pins, σ', H', cls, d, rfl, J, nb, up13.trans up4, .inr (.inr (by rw [hs]; exact hh4)), na, os, ag, w⟩)
        first
          | exact wpAny_bind (wpAny_pure (wpAny_bind fin))
          | exact wpAny_bind fin
      | @cons x n c i ts b₀ suite np pos' hds2 l2 hc hi hln hsu r ih =>
        intro w
        obtain ⟨b, hb1, hyes, hno⟩ := w
        refine wpAny_handleBy_cons (codeAny_handlers_test ?_) (by intro q; cases q)
        have LM := PySem.W.exm_one (M := model X.prog X.w) (J3.kIn) LT hb1
        have test : ∀ {Q : Value → Shared → Prop} {E : Value → Shared → Prop}, Q c { s' with heap := h3 } → wpAny (model X.prog X.w) (X.A.mark (some (.ref a))) (eval (.Name x np) X.env) Q E { s' with heap := h3 } := fun {Q E} q => by
          obtain ⟨hg, hdbg, hm | ⟨hm, hv, hnn⟩⟩ := hc
          · exact ld_glob (X := X.suite a ((a, oe3) :: (X.pn ++ pins))) S3 hg hm q hdbg
          · exact ld_blt (X := X.suite a ((a, oe3) :: (X.pn ++ pins))) S3 hg hm hv q hnn hdbg
        refine test (LM.here ?_)
        cases b with
        | true =>
          refine codeAny_handlers_suite_as ?_
          refine HandSPX.lands_againZ fl3 fun h4 fl4 up4 => ?_
          have J4 : Inv X pins σ' H' { s' with heap := h4 } := J.landed nb fl4.1 (up13.trans up4) os ag
          obtain ⟨oe4, vs4, he4, hz4, hd4⟩ := fl4.there
          have S4 := J4.suite he4 hd4 na nL nF
          refine store_ok (X := X.suite a ((a, oe4) :: (X.pn ++ pins))) (v := .ref a) S4 hN hi (.inl hln) rfl (fun s5 S5 => ?_) (.inr hln)
          refine wpAny_mono ((hsu a oe4 cls d (X.pn ++ pins) hz4 ⟨_, hd4⟩).run [] s5 _ H' _ S5 (hyes rfl a na)) (fun f s6 hsp => ?_) (fun _ _ z => False.elim z)
          have done_ : ∀ {σ6 : L2.St} {H6 : Hp} {Q : Shared → Prop}, Inv (X.suite a ((a, oe4) :: (X.pn ++ pins))) [] σ6 H6 s6 → (∀ s7, Inv X pins (σ6.set i none) H6 s7 → Q s7) →
              wpAny (model X.prog X.w) X.A (do bindName X.env n .none; unbindBehindTheSuite X.env n pos') (fun _ s7 => Q s7) X.xe s6 := fun {σ6 H6 Q} S6 hq => gone_ok (S6.unsuite ok) hN hi hln hq
          match f, hsp with
          | .next, ⟨σ6, H6, S6, q6⟩ => exact done_ S6 fun s7 J7 => ⟨_, _, J7, q6⟩
          | .brk, ⟨σ6, H6, S6, q6⟩ => exact done_ S6 fun s7 J7 => ⟨_, _, J7, q6⟩
          | .cont, ⟨σ6, H6, S6, q6⟩ => exact done_ S6 fun s7 J7 => ⟨_, _, J7, q6⟩
          | .ret u, ⟨v6, σ6, H6, S6, r6, q6⟩ => exact done_ S6 fun s7 J7 => ⟨_, _, _, J7, r6, q6⟩
        | false =>
          show wpAny _ X.A (handleBy (.ref a) X.env hds2) _ _ _
          exact ih (hno rfl)
    exact go hh w
  · match f, hsp with
    | .next, ⟨σ', H', J', q⟩ => exact wpAny_execs_nil ⟨σ', H', J'.ofTry ok, q⟩
    | .brk, ⟨σ', H', J', q⟩ => exact ⟨σ', H', J'.ofTry ok, q⟩
    | .cont, ⟨σ', H', J', q⟩ => exact ⟨σ', H', J'.ofTry ok, q⟩
    | .ret u, ⟨v, σ', H', J', r, q⟩ => exact ⟨v, σ', H', J'.ofTry ok, r, q⟩
end
end XT

namespace XT
open PySem PySem.Spec PyProof.Rows L2
/-! ### repr of data -/
mutual
/-- what the text of d may come to -/
def sc : PyData → Nat
  | .none | .bool _ => 5
  | .int _ => 1921
  | .str x => 10 * x.length + 2
  | .list xs | .tuple xs => scAll xs + 3
  | .dict _ => 2
def scAll : List PyData → Nat
  | [] => 0
  | x :: xs => sc x + 2 + scAll xs
end
mutual
/-- data whose text is known: ints not too big, dicts empty -/
def plainD : PyData → Bool
  | .none | .bool _ => true
  | .int i => decide (i.natAbs.log2 < 1920)
  | .str x => x.cps.toList.all fun c => decide (c < 16 ^ 8)
  | .list xs | .tuple xs => plainAll xs
  | .dict kvs => kvs.isEmpty
def plainAll : List PyData → Bool
  | [] => true
  | x :: xs => plainD x && plainAll xs
end
mutual
theorem plain_showable : ∀ d : PyData, plainD d = true → d.showable = true
  | .none, _ => by simp [PyData.showable]
  | .bool _, _ => by simp [PyData.showable]
  | .int i, h => by simpa [PyData.showable, plainD] using h
  | .str _, _ => by simp [PyData.showable]
  | .list xs, h => by
    simp only [PyData.showable]
    exact plainAll_showable xs (by simpa [plainD] using h)
  | .tuple xs, h => by
    simp only [PyData.showable]
    exact plainAll_showable xs (by simpa [plainD] using h)
  | .dict [], _ => by simp [PyData.showable, PyData.showableKv]
  | .dict (_ :: _), h => by simp [plainD] at h
theorem plainAll_showable : ∀ xs : List PyData, plainAll xs = true → PyData.showableAll xs = true
  | [], _ => by simp [PyData.showableAll]
  | x :: xs, h => by
    have h' : plainD x = true ∧ plainAll xs = true := by simpa [plainAll] using h
    simp only [PyData.showableAll, Bool.and_eq_true]
    exact ⟨plain_showable x h'.1, plainAll_showable xs h'.2⟩
end
mutual
theorem shown_sc : ∀ d : PyData, plainD d = true → d.shown.length ≤ sc d
  | .none, _ => by decide +kernel
  | .bool true, _ => by decide +kernel
  | .bool false, _ => by decide +kernel
  | .int i, h => by
    have e : i.natAbs.log2 < 1920 := by simpa [plainD] using h
    have := PySem.int_text_length_le (k := 1920) (by decide) e
    show (Str.ofString (toString i)).length ≤ 1921
    rw [PySem.ofString_length]
    exact this
  | .str x, h => by
    simp only [sc, PyData.shown]
    refine StrLaws.reprText_len x ?_
    unfold plainD at h
    rw [List.all_eq_true] at h
    exact fun c hc => of_decide_eq_true (h c hc)
  | .list xs, h => by
    simp only [sc, PyData.shown]
    have := shownAll_sc xs (by simpa [plainD] using h)
    have := listText_len_le (PyData.shownAll xs)
    omega
  | .tuple xs, h => by
    simp only [sc, PyData.shown]
    have := shownAll_sc xs (by simpa [plainD] using h)
    have := tupleText_len_le (PyData.shownAll xs)
    omega
  | .dict [], _ => by decide +kernel
  | .dict (_ :: _), h => by simp [plainD] at h
theorem shownAll_sc : ∀ xs : List PyData, plainAll xs = true → ((PyData.shownAll xs).map (·.length)).sum + 2 * (PyData.shownAll xs).length ≤ scAll xs
  | [], _ => by simp [PyData.shownAll, scAll]
  | x :: xs, h => by
    have h' : plainD x = true ∧ plainAll xs = true := by simpa [plainAll] using h
    have h1 := shown_sc x h'.1
    have h2 := shownAll_sc xs h'.2
    simp only [PyData.shownAll, scAll, List.map_cons, List.sum_cons, List.length_cons]
    omega
end
theorem scAll_ints (L : List Int) : scAll (L.map PyData.int) = 1923 * L.length := by
  induction L with
  | nil => rfl
  | cons x L ih => simp only [List.map_cons, scAll, ih, sc, List.length_cons]; omega
theorem log2_lt_of {m : Nat} (h : m < 2 ^ 1920) : m.log2 < 1920 := by
  by_cases e : m = 0
  · subst e
    decide
  · exact (Nat.log2_lt e).mpr h
theorem plainAll_ints {L : List Int} (h : ∀ x ∈ L, x.natAbs < 2 ^ 1920) : plainAll (L.map PyData.int) = true := by
  induction L with
  | nil => rfl
  | cons x L ih =>
    simp only [List.map_cons, plainAll, Bool.and_eq_true]
    refine ⟨?_, ih fun y hy => h y (List.mem_cons_of_mem _ hy)⟩
    simp only [plainD, decide_eq_true_eq]
    exact log2_lt_of (h x List.mem_cons_self)
/-- x stands for the data d: flat and nested lists and tuples; an empty dict alone, or second in a pair -/
def Rd (K : PySem.W.Frag) (H : Hp) (x : V) (d : PyData) : Prop :=
  (Dp K H x d ∧ d.hasDict = false) ∨ (∃ a, x = .ref a ∧ H a = some (.dK []) ∧ d = .dict []) ∨ ∃ (a b : Addr) (i : Int), x = .ref a ∧ SqT K H a [.int i, .ref b] ∧ H b = some (.dK []) ∧ d = .tuple [.int i, .dict []]
section
variable {X : Cx} {pins : List (Addr × Obj)} {σ : L2.St} {H : Hp} {s : Shared}
theorem emp_reads {a : Addr} (I : Inv X pins σ H s) (h : H a = some (.dK [])) : Reads s.heap (.ref a) (.dict []) [a] ∧ a ≠ sysModules := by
  obtain ⟨_, hs, vs, hkv, o, es, ep, ho, hx, hd, _, hp, _⟩ := I.hok a _ h
  have ev : vs = [] := by cases hkv; rfl
  subst ev
  have ee : es.toList = [] := by
    first
      | (cases hp; assumption)
      | (have := hp.length; simpa using this)
      | (generalize es.toList = l at hp; cases hp; rfl)
  refine ⟨?_, fun z => by subst z; simp at hs⟩
  have z := Reads.dict (kvs := []) (as := []) (bs := []) ho hx.1 hd (by rw [ee]; exact .nil) (by rw [ee]; exact .nil)
  simpa using z
theorem Rd.reads {x : V} {u : Value} {d : PyData} (I : Inv X pins σ H s) (h : Rd X.K H x d) (r : RelV x u) : ∃ as, Reads s.heap u d as ∧ (d.hasDict = true → sysModules ∉ as) := by
  rcases h with ⟨h, hn⟩ | ⟨a, rfl, h, rfl⟩ | ⟨a, b, i, rfl, ht, h, rfl⟩
  · obtain ⟨as, q⟩ := Dp.reads I d x u h r
    exact ⟨as, q, PyData.noDict_hsm hn⟩
  · cases r
    obtain ⟨q, ne⟩ := emp_reads I h
    exact ⟨_, q, fun _ z => ne (List.mem_singleton.mp z).symm⟩
  · cases r
    obtain ⟨q, ne⟩ := emp_reads I h
    obtain ⟨its, rv, ⟨o, ho, hc, n, hd⟩, _⟩ := I.tuple ht
    cases rv with
    | cons r1 rr =>
      cases rr with
      | cons r2 rr =>
        cases rr
        obtain ⟨t, rfl⟩ := r1
        cases r2
        refine ⟨_, Reads.tuple ho hc hd (.cons (.int i t) (.cons q .nil)), fun _ z => ?_⟩
        simp at z
        exact ne z.symm
/-- repr(x) of data -/
def rReprD (K : PySem.W.Frag) : List V → Hp → VK → Prop := fun xs H Q => ∃ x d, xs = [x] ∧ Rd K H x d ∧ plainD d = true ∧ d.depth ≤ 50 ∧ sc d ≤ 16000000 ∧ Q (.str d.shown) H
theorem call_reprD (hg : X.A.guards = some []) (hu : X.A.units + 64 < cLine) : CallR X (.builtin "repr") (rReprD X.K) := by
  intro pins s σ H xs us Q I r h
  obtain ⟨x, d, rfl, hr, hp, hd, hz, q⟩ := h
  obtain ⟨u, rfl, ru⟩ := r.one
  obtain ⟨as, hre, hsm⟩ := hr.reads I ru
  have hsz : d.shown.length ≤ sizeLine := by
    have := shown_sc d hp
    rw [sizeLine_eq]
    omega
  have fin : ∀ h' v tk, (∀ b o, s.heap.get? b = some o → h'.get? b = some o) → EP X pins σ Q (.str d.shown v) { s with heap := h', toks := tk } := fun h' v tk k => ⟨.str d.shown, H, I.kept (t' := tk) k, ⟨v, rfl⟩, q⟩
  cases hre with
  | none => exact PySem.P.repr_of_none (fin s.heap _ _ fun _ _ z => z)
  | bool b => exact PySem.P.repr_of_bool (by cases b <;> exact fin s.heap _ _ fun _ _ z => z)
  | int i t => exact PySem.P.repr_of_int (by simpa [plainD] using hp) (fin s.heap _ _ fun _ _ z => z)
  | str y t => exact PySem.P.repr_of_str (fin s.heap _ _ fun _ _ z => z) hsz
  | list h1 h2 h3 h4 => exact repr_of_reads' (.list h1 h2 h3 h4) (plain_showable _ hp) hsm hg (by omega) (fun _ _ z => z) fin hsz
  | tuple h1 h2 h3 h4 => exact repr_of_reads' (.tuple h1 h2 h3 h4) (plain_showable _ hp) hsm hg (by omega) (fun _ _ z => z) fin hsz
  | dict h1 h2 h3 h4 h5 => exact repr_of_reads' (.dict h1 h2 h3 h4 h5) (plain_showable _ hp) hsm hg (by omega) (fun _ _ z => z) fin hsz
end
end XT

namespace XT
open PySem PySem.Spec PyProof.Rows L2
/-! ### the law's call, no repr under way at its start -/
section
variable {P : Program} {w : World} {K : PySem.W.Frag} {mg mb : Str → Option Value} {CX : CXT} {k : Nat} {fa a : Addr} {sp : Sp} {s₁ : Shared} {vs : List Value} {ns : List Int}
/-- from one abstract heap: nothing but the script is tracked -/
theorem law_coreG (H : Hp) (KX : K.In s₁.heap) (hns : s₁.heap.Ns mainGlobals mg) (hb : s₁.heap.Ns builtinsNs mb) (hbb : ∀ x : Str, x ≠ "__name__" → mb x = bootBuiltins x) (hlim : s₁.heap.NoLimit) (hg : s₁.gens = #[])
    (ha : s₁.heap.get? a = some { cls := .type "list", data := .seq vs.toArray }) (hr : Room k callerA)
    (F : ∀ base : Heap, K.In base → base.Ns mainGlobals mg → FnG P w K mg base CX k fa sp)
    (hq : sp [.ref a] H (fun v _ => v = .bl true) fun _ _ _ => False) (hCX : ∀ H e s', CX [] H s₁ (fun _ _ _ => False) e s' → False)
    (hO : Only H) (hok : HOk P w H s₁.heap) (hA : ∀ b, H b ≠ none → b = a) (hK : H a ≠ none → K.lookup a = none) :
    codeAny (model P w) callerA (.call (.ref fa) ⟨[.ref a], []⟩) (fun r s' => r = .ok (.ret (.bool true)) ∧ OldK s₁.heap s'.heap ∧ s'.os = s₁.os ∧ AllBare s'.gens) s₁ := by
  have free : ∀ {b : Addr}, (b = a → False) → H b = none := fun {b} h => by
    by_cases q : H b = none
    · exact q
    · exact (h (hA b q)).elim
  have noA : ∀ {b : Addr} {o : Obj} {es : Array DictEntry} {ep : Nat}, s₁.heap.get? b = some o → o.data = .dict es ep → H b = none := fun {b o es ep} e d => free fun z => by
    subst z
    rw [ha] at e
    cases e
    have d' : Data.seq vs.toArray _ = Data.dict es ep := d
    cases d'
  have hKb : K.In (hidT s₁.heap H) := fun b o e => hidT_get (KX b o e) (by
    by_cases q : H b = none
    · exact q
    · have z := hA b q
      subst z
      rw [hK q] at e
      cases e)
  have nsK : ∀ {b : Addr} {m : Str → Option Value}, s₁.heap.Ns b m → (hidT s₁.heap H).Ns b m := fun {b m} ⟨o, es, ep, e, d, r⟩ => ⟨o, es, ep, hidT_get e (noA e d), d, r⟩
  have hM : Mod K mg (hidT s₁.heap H) := ⟨hKb, nsK hns, ⟨mb, nsK hb, hbb⟩, let ⟨mc, h1, h2⟩ := hlim; ⟨mc, nsK h1, h2⟩⟩
  have e0 : Env0 P w K mg (hidT s₁.heap H) callerA [] s₁ H := ⟨rfl, hM, fun b o e => of_hidT e, Nat.le_of_eq (hidT_size _ _), trivial, fun b hb => absurd (show b ∈ ([] : List Addr) from hb) (by simp), hok, .of_eq hg⟩
  refine codeAny_mono (F _ hKb (nsK hns) callerA [] s₁ H [.ref a] [.ref a] _ _ rfl hr e0 (.cons rfl .nil) hq) fun r s' h => ?_
  match r, h with
  | .error e, h => exact (hCX H e s' h).elim
  | .ok (.ret u), ⟨v, H', os, bare, un, hok', r', q⟩ =>
    have q' : v = .bl true := q
    subst q'
    obtain rfl : u = Value.bool true := r'
    refine ⟨rfl, OldK.of_keep fun b o e => ?_, os, bare⟩
    cases q : H b with
    | none => exact un.keep b o e q (by intro z; exact absurd (show b ∈ ([] : List Addr) from z) (by simp)) (by simp)
    | some u =>
      rcases hO b with z | ⟨ob, xs, z⟩
      · rw [q] at z
        cases z
      · obtain ⟨e1, _⟩ := hok b _ z
        obtain ⟨e2, _⟩ := hok' b _ (un.frzs b ob _ z)
        rw [e] at e1
        cases e1
        exact e2
theorem law_callG (KX : K.In s₁.heap) (hns : s₁.heap.Ns mainGlobals mg) (hb : s₁.heap.Ns builtinsNs mb) (hbb : ∀ x : Str, x ≠ "__name__" → mb x = bootBuiltins x) (hlim : s₁.heap.NoLimit) (hg : s₁.gens = #[])
    (ha : s₁.heap.get? a = some { cls := .type "list", data := .seq vs.toArray }) (hi : IntsAre vs ns) (hl : ns.length ≤ sizeLine) (hr : Room k callerA)
    (F : ∀ base : Heap, K.In base → base.Ns mainGlobals mg → FnG P w K mg base CX k fa sp)
    (hsp : ∀ H : Hp, Only H → SqL K H a (ns.map V.int) → sp [.ref a] H (fun v _ => v = .bl true) fun _ _ _ => False)
    (hCX : ∀ H e s', CX [] H s₁ (fun _ _ _ => False) e s' → False) :
    codeAny (model P w) callerA (.call (.ref fa) ⟨[.ref a], []⟩) (fun r s' => r = .ok (.ret (.bool true)) ∧ OldK s₁.heap s'.heap ∧ s'.os = s₁.os ∧ AllBare s'.gens) s₁ := by
  have rv := vals_ints hi
  have lenV := hi.length
  cases hk : K.lookup a with
  | some o =>
    have e := KX a o hk
    rw [ha] at e
    cases e
    have hO : Only fun _ => none := fun _ => .inl rfl
    exact law_coreG (fun _ => none) KX hns hb hbb hlim hg ha hr F (hsp _ hO (.inr ⟨_, vs.toArray, _, hk, rfl, rfl, rfl, by rw [List.size_toArray, lenV]; exact hl, by simpa using rv⟩)) hCX hO (fun b u z => nomatch (show (none : Option HO) = some u from z)) (fun b z => absurd rfl z) fun z => absurd rfl z
  | none =>
    let o : HO := .frz { cls := .type "list", data := .seq vs.toArray } (.lst (ns.map V.int))
    let H : Hp := fun b => if b = a then some o else none
    have at_ : H a = some o := if_pos rfl
    have off : ∀ {b}, b ≠ a → H b = none := fun h => if_neg h
    have hO : Only H := fun b => by
      by_cases e : b = a
      · subst e
        exact .inr ⟨_, _, at_⟩
      · exact .inl (off e)
    refine law_coreG H KX hns hb hbb hlim hg ha hr F (hsp H hO (.inl (.inr ⟨_, at_⟩))) hCX hO (fun b u z => ?_) (fun b z => ?_) fun _ => hk
    · by_cases e : b = a
      · subst e
        rw [at_] at z
        cases z
        exact ⟨ha, by rw [List.length_map]; exact hl, vs, _, rv, ha⟩
      · rw [off e] at z
        cases z
    · by_cases e : b = a
      · exact e
      · exact absurd (off e) z
end
/-- the goal of the head, from the law's promise -/
theorem walkG {l : PySem.W.OpenLaw} {n k : Nat} {q : Program} {loose : List Str} {XP : (Str → Option Value) → Heap → Prop} {YP : World → Heap → Prop} {d : DefRec} {K : Params → PySem.W.Frag} {CX : World → CXT} {sp : World → Sp}
    (hn : l.most = some n) (hn2 : n ≤ sizeLine) (hdf : d.params.defaults = []) (hr : Room k callerA)
    (hY : ∀ (w : World) (h : Heap), YP w h → (K w.params).In h)
    (F : ∀ (w : World) (mg : Str → Option Value) (fa : Addr) (h : Heap), (K w.params).In h → h.Ns mainGlobals mg → mg d.name = some (.ref fa) →
      ∀ base : Heap, (K w.params).In base → base.Ns mainGlobals mg → FnG l.prog w (K w.params) mg base (CX w) k fa (sp w))
    (hsp : ∀ (w : World) (H : Hp) (a : Addr) (ns : List Int), ns.length ≤ n → Only H → SqL (K w.params) H a (ns.map V.int) → sp w [.ref a] H (fun v _ => v = .bl true) fun _ _ _ => False)
    (hCX : ∀ (w : World) (H : Hp) (s : Shared) (e : Value) (s' : Shared), CX w [] H s (fun _ _ _ => False) e s' → False) :
    PySem.W.WalkO q loose XP YP l.row.toRowW d [] (fun f vs => PySem.call f vs) := by
  refine Att.attach_call hn hdf fun w s₀ s₁ mg mb fa o pm cd doc a vs ns G Y ho hd hcd hmg hobj hints hlen hg => ?_
  have KX := hY w _ Y
  exact law_callG KX G.T.g G.T.b G.T.builtins G.T.nolimit hg hobj hints (Nat.le_trans hlen hn2) hr (F w mg fa _ KX G.T.g hmg) (fun H hO hS => hsp w H a ns hlen hO hS) fun H e s' => hCX w H s₁ e s'
end XT

namespace XT
open PySem PySem.Spec PyProof.Rows L2
/-! ### own errors that keep one field -/
section
variable {X : Cx}
/-- isinstance(e, c), e the exception that the suite holds, with a dict of its own -/
def rIsED (K : PySem.W.Frag) (D a : Addr) (cls : Value) (d : Option Addr) : List V → Hp → VK → Prop := fun xs H Q => ∃ (c : V) (cv : Value) (b : Bool) (dd : Addr) (fs : List (Str × V)), xs = [.ref a, c] ∧ cls = .ref D ∧ (∀ u, RelV c u → u = cv) ∧ d = some dd ∧ H dd = some (.xd fs) ∧ PySem.W.kitOne K (.ref D) cv = some b ∧ Q (.bl b) H
theorem call_isED {a D : Addr} {oe : Obj} {cls : Value} {d : Option Addr} {pn : List (Addr × Obj)} (C : ExcC X.K D) (hz : Zc cls d oe) (hf : ∃ vs, oe.data = .fields vs) : CallR (X.suite a ((a, oe) :: pn)) (.builtin "isinstance") (rIsED X.K D a cls d) := by
  intro pins s σ H xs us Q I r h
  obtain ⟨c, cv, b, dd, fs, rfl, rfl, hcv, rfl, ed, e, q⟩ := h
  cases r with
  | cons rx rr =>
    cases rr with
    | cons rt rr =>
      cases rr
      cases rx
      have ec := hcv _ rt
      subst ec
      obtain ⟨hget, _⟩ := I.pin (a, oe) (List.mem_append.mpr (.inl List.mem_cons_self))
      obtain ⟨vs, hv⟩ := hf
      obtain ⟨mA, hns, hr⟩ := show ∃ mA, s.heap.Ns1 dd mA ∧ ∀ f, RelO (fs.lookup f) (mA f) from I.hok dd _ ed
      obtain ⟨od, ho, _⟩ := lookIn_ns hns
      have J : PySem.W.InstAt s.heap a oe D (some od) := ⟨hget, hz.1, by unfold PySem.W.notCls; rw [hv] <;> rfl, by rw [hz.2]; exact ho⟩
      have hc : (PySem.W.clsIn X.K D).isSome = true := by
        obtain ⟨cd, hc, _⟩ := PySem.W.any_some C.hd
        rw [hc]
        rfl
      exact PySem.W.kia_one (PySem.W.kitx_exc hc C.hg C.hk C.hs C.ha C.hn C.ht C.hm) I.kIn J e (fun z => nomatch z) fun tk => ⟨.bl b, H, I.kept (t' := tk) fun _ _ z => z, rfl, q⟩
end
/-- the __init__ of such an error: self.f = v -/
def spErr (f : Str) (C : Addr) : Sp := fun vs H Q _ => ∃ (a : Addr) (v : V), vs = [.ref a, v] ∧ H a = some (exo a C none) ∧ ∀ d, H d = none → d ≠ a → Q .non (upd (upd H d (exd d [(f, v)])) a (exo a C (some d)))
/-- what the written part says of such an error -/
structure ErrC (K : PySem.W.Frag) (C fI : Addr) (f : Str) : Prop where
  oex : OexC K C
  iC : PySem.W.findIn K (.ref C) "__init__" = some (some (.ref fI))
  tI : PySem.W.typeIn K (.ref fI) = some (.type "function")
  no : PySem.W.findIn K (.ref C) f = some none
  ga : PySem.W.findIn K (.ref C) "__getattribute__" = some (some (.builtin "BaseException.__getattribute__"))
  gg : PySem.W.findIn K (.ref C) "__getattr__" = some none
  hd : PySem.W.hasDictIn K C = true
  ha : PySem.W.findIn K (.ref C) "__class__" = some (some (.builtin "object.__class__"))
  hn : PySem.W.specialIn K (.builtin "object.__class__") "__get__" = some (some (.builtin "getset_descriptor.__get__"))
  ht : PySem.W.takesIn K (.builtin "object.__class__") = some true
  hm : PySem.W.mroIn K C (.type "object") = some true
theorem ErrC.xf {K : PySem.W.Frag} {C fI : Addr} {f : Str} (T : ErrC K C fI f) : XfC K C := ⟨T.ga, T.gg, T.oex.exC, T.hd⟩
theorem ErrC.exc {K : PySem.W.Frag} {C fI : Addr} {f : Str} (T : ErrC K C fI f) : ExcC K C := ⟨T.ga, T.gg, T.oex.exC, T.hd, T.ha, T.hn, T.ht, T.hm⟩
theorem made_same {H : Hp} {a d C : Addr} {f : Str} {v : V} (ha : H a = none) (hd : d ≠ a) :
    upd (del (upd (upd (upd H a (exo a C none)) d (exd d [(f, v)])) a (exo a C (some d))) a) d (.xd [(f, v)]) = upd H d (.xd [(f, v)]) := by
  funext b
  by_cases e1 : b = d
  · subst e1
    rw [upd_same, upd_same]
  · rw [upd_ne e1, upd_ne e1]
    by_cases e2 : b = a
    · subst e2
      rw [del_same, ha]
    · rw [del_ne e2, upd_ne e2, upd_ne e1, upd_ne e2]
section
variable {X : Cx}
/-- C(e), the error made -/
def tErr (C : Addr) (f : Str) (te : TE) : L2.St → Hp → XK → Prop := fun σ H Q => te σ H fun v H1 => tMkO C (spErr f C) [] (fun _ H Q => Q [v] H) σ H1 Q
theorem err_rd {C : Addr} {f : Str} {v : V} {σ : L2.St} {H : Hp} {Q : XK} (h : ∀ d, H d = none → Q (.ref C) (some d) (upd H d (.xd [(f, v)]))) : tMkO C (spErr f C) [] (fun _ H Q => Q [v] H) σ H Q := by
  refine ⟨by simp, fun a ha => ⟨a, v, rfl, upd_same, fun d hd hne => ⟨rfl, d, [(f, v)], upd_same, ?_, ?_, ?_⟩⟩⟩
  · rw [upd_ne hne, upd_same]
  · rw [upd_ne hne] at hd
    exact hd
  · have hd' : H d = none := by
      rw [upd_ne hne] at hd
      exact hd
    rw [made_same ha hne]
    exact h d hd'
theorem pmk_err {x : Str} {C fI : Addr} {f : Str} {k : Nat} {fd : FuncData} {ps : List Str} {e : Expr} {te : TE} {p pos : Pos} (T : ErrC X.K C fI f) (F1 : FnOk X.prog X.w X.K X.mg X.base CX0 k fI fd ps (spErr f C)) (hb : Binds X.K fd ps []) (hr : Room (k + 1) X.A)
    (hg : Gl X x) (hm : X.mg x = some (.ref C)) (he : PE X e te) (hdb : (x == ("__debug__" : Str)) = false := by decide)
    (hs : starEach [e] X.env = (false, eval e X.env) :: starEach [] X.env := by rfl) (hpl : (backTo pos (starEach [] X.env)).any (·.1) = false := by rfl) :
    PMk X (.Call (.Name x p) [e] [] pos) (tErr C f te) :=
  pmk_oex T.oex T.iC T.tI F1 hr hb .nil pass0 hg hm (pa_cons he pa_nil hs) hdb hs hpl
/-- raise C(e) in a def -/
theorem ps_raiseE {W : WX} {x : Str} {C fI : Addr} {f : Str} {k : Nat} {fd : FuncData} {ps : List Str} {e : Expr} {te : TE} {p pos rpos : Pos} (T : ErrC X.K C fI f) (F1 : FnOk X.prog X.w X.K X.mg X.base CX0 k fI fd ps (spErr f C)) (hb : Binds X.K fd ps []) (hr : Room (k + 1) X.A)
    (hm : X.mg x = some (.ref C)) (hc : X.calm = true) (tk : Takes X W) (he : PE X e te) (hg : Gl X x := by rfl) (hdb : (x == ("__debug__" : Str)) = false := by decide)
    (hs : starEach [e] X.env = (false, eval e X.env) :: starEach [] X.env := by rfl) (hpl : (backTo pos (starEach [] X.env)).any (·.1) = false := by rfl) :
    PS X (.Raise (some (.Call (.Name x p) [e] [] pos)) none rpos) (fun _ σ H => tErr C f te σ H fun cls d H' => W cls d σ H') :=
  ps_raise hc tk (pmk_err T F1 hb hr hg hm he hdb hs hpl)
end
end XT

namespace XT
open PySem PySem.Spec PyProof.Rows L2
section
variable {P : Program} {w : World} {K : PySem.W.Frag} {mg : Str → Option Value} {base : Heap} {CX : CXT} {j k : Nat} {f : Addr} {sp sp' : Sp}
/-- a def that lets nothing out, where something may be let out -/
theorem fnR_lift (F : FnR P w K mg base CX0 k f sp) : FnR P w K mg base CX k f sp := fun A outer s H us vs Q E hr e0 r hs =>
  codeAny_mono (F A outer s H us vs Q E hr e0 r hs) fun r s' h => by
    match r, h with
    | .ok (.ret u), h => exact h
    | .error e, h => exact False.elim h
theorem fnR_or (F : FnR P w K mg base CX k f sp) (G : FnR P w K mg base CX k f sp') : FnR P w K mg base CX k f (fun vs H Q E => sp vs H Q E ∨ sp' vs H Q E) := fun A outer s H us vs Q E hr e0 r hs =>
  hs.elim (fun h => F A outer s H us vs Q E hr e0 r h) (fun h => G A outer s H us vs Q E hr e0 r h)
end
/-- what a call in a try may let out: told for all slots -/
theorem passAll {X : Cx} {W : WX} (tk : Takes X W) (n : Nat) (hn : X.N.length = n) : Passes (L2.CX X.prog X.w) X (fun cls d H => ∀ σ : L2.St, σ.length = n → W cls d σ H) :=
  fun _ σ _ _ e s' I c => tk e s' (XE.of_call I (fun _ _ _ h => h σ (I.len.trans hn)) c)
mutual
theorem dp_same {K : PySem.W.Frag} {H H' : Hp} (s : Same H H') : ∀ (d : PyData) (v : V), Dp K H v d → Dp K H' v d
  | .none, _, h => by cases h; exact .non
  | .bool b, _, h => by cases h; exact .bl b
  | .int i, _, h => by cases h; exact .int i
  | .str x, _, h => by cases h; exact .str x
  | .list ds, _, h => by
    cases h with
    | lst hs ha => exact .lst (s.seq hs) (dpAll_same s ds _ ha)
  | .tuple ds, _, h => by
    cases h with
    | tup hs ha => exact .tup (same_seqT s hs) (dpAll_same s ds _ ha)
  | .dict _, _, h => by cases h
theorem dpAll_same {K : PySem.W.Frag} {H H' : Hp} (s : Same H H') : ∀ (ds : List PyData) (vs : List V), DpAll K H vs ds → DpAll K H' vs ds
  | [], _, h => by cases h; exact .nil
  | d :: ds, _, h => by
    cases h with
    | cons h1 h2 => exact .cons (dp_same s d _ h1) (dpAll_same s ds _ h2)
end
theorem rd_same {K : PySem.W.Frag} {H H' : Hp} (s : Same H H') {v : V} {d : PyData} (h : Rd K H v d) : Rd K H' v d := by
  rcases h with ⟨h, n⟩ | ⟨a, e, h, e2⟩ | ⟨a, b, i, e, h1, h2, e2⟩
  · exact .inl ⟨dp_same s d v h, n⟩
  · exact .inr (.inl ⟨a, e, s _ _ h, e2⟩)
  · exact .inr (.inr ⟨a, b, i, e, same_seqT s h1, s _ _ h2, e2⟩)
/-- data whose text may be asked for -/
structure Okd (d : PyData) : Prop where
  pl : plainD d = true
  dp : d.depth ≤ 50
  sz : sc d ≤ 16000000
theorem repr_rd {K : PySem.W.Frag} {x : V} {d : PyData} {H : Hp} {Q : VK} (h : Rd K H x d) (o : Okd d) (q : Q (.str d.shown) H) : rReprD K [x] H Q := ⟨x, d, rfl, h, o.pl, o.dp, o.sz, q⟩
section
variable {X : Cx} (K : PySem.W.Frag)
theorem reprKx (hg : X.A.guards = some []) (hu : X.A.units + 64 < cLine) (hK : X.K = K := by rfl) : CallR X (.builtin "repr") (rReprD K) := by
  subst hK
  exact call_reprD hg hu
theorem isEKx {a D : Addr} {oe : Obj} {cls : Value} {d : Option Addr} {pn : List (Addr × Obj)} (C : ExcC K D) (hz : Zc cls d oe) (hf : ∃ vs, oe.data = .fields vs) (hK : X.K = K := by rfl) : CallR (X.suite a ((a, oe) :: pn)) (.builtin "isinstance") (rIsED K D a cls d) := by
  subst hK
  exact call_isED C hz hf
end
section
variable {X : Cx}
/-- f(e, ..), f an expression that gives a tracked instance of C -/
def tCallI (C : Addr) (sp : Sp) (E : XK) (tf : TE) (t : TA) : TE := fun σ H Q => tf σ H fun y H1 => ∃ a, y = V.ref a ∧ t σ H1 fun vs H2 => InsA H2 a C ∧ sp (V.ref a :: vs) H2 Q E
theorem pe_callI {CX : CXT} {C : Addr} {k : Nat} {sp : Sp} {E : XK} {fe e : Expr} {es : List Expr} {tf : TE} {t : TA} {pos : Pos} {g : Addr} (hf : PE X fe tf) (c : StX.CallO X.K C g) (F : FnR X.prog X.w X.K X.mg X.base CX k g sp) (hr : Room k X.A) (hx : Passes CX X E) (ha : PA X (e :: es) t)
    (ht : eval (.Call fe (e :: es) [] pos) X.env = (do callWith pos (← eval fe X.env) [] (backTo pos (starEach (e :: es) X.env)) (backToKw pos (keywordEach [] X.env))) := by rfl)
    (he : starEach (e :: es) X.env = (false, eval e X.env) :: starEach es X.env := by rfl) (hpl : (backTo pos (starEach es X.env)).any (·.1) = false := by rfl) : PE X (.Call fe (e :: es) [] pos) (tCallI C sp E tf t) := by
  refine ⟨fun pins s σ H Q I h => ?_⟩
  refine Call_ (thn (hf.run pins s σ H _ I h) fun u s1 ⟨y, H1, I1, ry, a, ey, q⟩ => ?_) ht
  subst ey
  obtain rfl : u = Value.ref a := ry
  refine StX.callO_with (thn (ha.run pos pins s1 σ H1 _ I1 q) fun us s2 ⟨vs, H2, I2, r, hi, q2⟩ => ?_) he hpl
  have hi' : StX.InsC X H2 a C := let ⟨dx, fs, h⟩ := hi; .inr ⟨dx, fs, h⟩
  obtain ⟨ox, od, J, hd⟩ := StX.insC_at I2 hi'
  exact ⟨⟨C, ox, od, J, hd⟩, StX.run_callO c F hr hx I2 hi' r q2⟩
/-- f(e, ..), f a global def with a promise where no repr is under way -/
theorem pe_callG {CX : CXT} {k : Nat} {f : Addr} {sp : Sp} {E : XK} {x : Str} {e : Expr} {es : List Expr} {t : TA} {p pos : Pos} (F : FnG X.prog X.w X.K X.mg X.base CX k f sp) (hgu : X.A.guards = some []) (hr : Room k X.A) (hg : Gl X x) (hm : X.mg x = some (.ref f)) (hk : PySem.W.keepIn X.K (.ref f) = true) (hx : Passes CX X E) (ha : PA X (e :: es) t) (hd : (x == ("__debug__" : Str)) = false := by decide)
    (he : starEach (e :: es) X.env = (false, eval e X.env) :: starEach es X.env := by rfl) (hst : (backTo pos (starEach es X.env)).any (·.1) = false := by rfl) :
    PE X (.Call (.Name x p) (e :: es) [] pos) (tCallR sp E t) := by
  refine ⟨fun pins s σ H Q I h => ?_⟩
  refine wpAny_Call_Name_kw (ld_glob I hg hm ?_ hd)
  refine PySem.W.callWith_K (h₀ := X.base) I.ok.mod.kin hk (thn (ha.run pos pins s σ H _ I h) fun us s1 ⟨vs, H1, I1, r, q⟩ => ⟨I1.kIn, ?_⟩) he hst
  refine wpAny_call (codeAny_mono (F X.A X.stack s1 H1 us vs Q E hgu hr I1.env0 r q) fun r s' hq => ?_)
  match r, hq with
  | .error e, hq => exact hx pins σ H1 s1 e s' I1 hq
  | .ok (.ret u), hq => exact I1.after hq
end
end XT

namespace XT
open PySem PySem.Spec PyProof.Rows L2
section
variable {X : Cx} (K : PySem.W.Frag)
/-- x == y, x of an own class with __eq__, y of another type -/
def rOwnEo (K : PySem.W.Frag) (C : Addr) (sp : Sp) (E : XK) : R2 := fun x y H Q => ∃ a t, x = .ref a ∧ InsA H a C ∧ TyX K H y t ∧ PySem.W.notFirst K C t = true ∧ sp [x, y] H Q E
theorem op_ownEo {CX : CXT} {n : Nat} {C g : Addr} {sp : Sp} {E : XK} (hs : PySem.W.findIn X.K (.ref C) "__eq__" = some (some (.ref g))) (hf : PySem.W.isFn X.K (.ref g) = true) (F : FnR X.prog X.w X.K X.mg X.base CX n g sp)
    (hr : Room n X.A) (hx : Passes CX X E) : OpR X (compareOp .Eq) (rOwnEo X.K C sp E) := by
  intro pins s σ H x y v u Q I rx ry h
  obtain ⟨a, t, rfl, ha, ht, hn, q⟩ := h
  cases (show v = Value.ref a from rx)
  obtain ⟨ox, od, J⟩ := insA_at I ha
  obtain ⟨Z, kz, hz, _⟩ := kit_of I ry ht
  obtain ⟨m, hF⟩ := I.fr
  show wpAny _ _ (richCompare .Eq _ _) _ _ _
  refine PySem.W.cmp_K (op := .Eq) (tb := t) hr.units0 hF I.ok.mod.kin J (kz.ty _ _ I.kIn hz) hn hs hf ?_
  refine wpAny_mono (wpAny_call (run_fnR (us := [.ref a, u]) (vs := [.ref a, y]) F hr hx I (.cons rfl (.cons ry .nil)) q)) (fun w s' z => ?_) fun _ _ x => x
  obtain ⟨z', H', I', rz, qz⟩ := z
  exact SlX.cmpback rz ⟨z', H', I', rz, qz⟩
theorem op_ownEoK {CX : CXT} {n : Nat} {C g : Addr} {sp : Sp} {E : XK} (hs : PySem.W.findIn K (.ref C) "__eq__" = some (some (.ref g))) (hf : PySem.W.isFn K (.ref g) = true) (F : FnR X.prog X.w K X.mg X.base CX n g sp)
    (hr : Room n X.A) (hx : Passes CX X E) (hK : X.K = K := by rfl) : OpR X (compareOp .Eq) (rOwnEo K C sp E) := by
  subst hK
  exact op_ownEo hs hf F hr hx
/-- not x, x of an own class with __bool__ -/
def tNotO (C : Addr) (sp : Sp) (E : XK) (ta : TE) : TE := fun σ H Q => ta σ H fun x H1 => ∃ a, x = .ref a ∧ InsA H1 a C ∧ sp [x] H1 (fun z H2 => ∃ b, z = .bl b ∧ Q (.bl (!b)) H2) E
theorem pe_notO {CX : CXT} {n : Nat} {C g : Addr} {sp : Sp} {E : XK} {e : Expr} {pos : Pos} {ta : TE} (he : PE X e ta) (hs : PySem.W.findIn X.K (.ref C) "__bool__" = some (some (.ref g))) (hf : PySem.W.isFn X.K (.ref g) = true)
    (F : FnR X.prog X.w X.K X.mg X.base CX n g sp) (hr : Room n X.A) (hx : Passes CX X E) : PE X (.UnaryOp .Not e pos) (tNotO C sp E ta) := by
  refine ⟨fun pins s σ H Q I h => ?_⟩
  refine UnaryOp_ (thn (he.run pins s σ H _ I h) fun v s1 ⟨x, H1, I1, r1, q1⟩ => ?_)
  obtain ⟨a, rfl, ha, q⟩ := q1
  cases (show v = Value.ref a from r1)
  obtain ⟨ox, od, J⟩ := insA_at I1 ha
  refine not_of ?_
  unfold truthy
  refine wpAny_bind (m := callSpecial? (.ref a) (Str.ofString "__bool__")) (PySem.W.special_fn I1.kIn J hs (beq_iff_eq.mp hf) (wpAny_mono (wpAny_call (run_fnR (us := [.ref a]) (vs := [.ref a]) F hr hx I1 (.cons rfl .nil) q)) (fun r s' hr => ?_) fun _ _ y => y))
  obtain ⟨z, H', I', rz, b, rfl, hq⟩ := hr
  cases (show r = Value.bool b from rz)
  exact wpAny_pure ⟨.bl (!b), H', I', rfl, hq⟩
end
/-- isinstance of a value of another type -/
theorem kit_other {K : PySem.W.Frag} {C : Addr} {n : String} {b : Bool} (hc : (PySem.W.clsIn K C).isSome = true) (ht : PySem.W.typeIn K (.ref C) = some (.type "type")) (hs : PySem.W.subIn K (.type n) (.ref C) = some b) : PySem.W.kitOne K (.type n) (.ref C) = some b := by
  simp [PySem.W.kitOne, PySem.W.kitCls, hc, ht, hs]
theorem kit_sub {K : PySem.W.Frag} {B C : Addr} (hc : (PySem.W.clsIn K C).isSome = true) (ht : PySem.W.typeIn K (.ref C) = some (.type "type")) (hs : PySem.W.subIn K (.ref B) (.ref C) = some true) : PySem.W.kitOne K (.ref B) (.ref C) = some true := by
  simp [PySem.W.kitOne, PySem.W.kitCls, hc, ht, hs]
end XT

namespace XT
open PySem PySem.Spec PyProof.Rows L2
/-! ### the characters of a text of data are characters -/
theorem ok_of (s : String) : PyData.strOk (Str.ofString s) = true := by
  unfold PyData.strOk
  rw [Str.ofString_eq_toList]
  simp only [List.all_toArray, List.all_map, List.all_eq_true]
  intro c _
  have h : c.toNat < 0x110000 := by
    have := c.valid
    unfold UInt32.isValidChar Nat.isValidChar at this
    have e : c.toNat = c.val.toNat := rfl
    omega
  exact decide_eq_true h
theorem ok_app {x y : Str} (h : PyData.strOk x = true) (k : PyData.strOk y = true) : PyData.strOk (x ++ y) = true := by
  unfold PyData.strOk at *
  show (x.cps ++ y.cps).all _ = true
  rw [Array.all_append, h, k]
  rfl
theorem ok_textFrom : ∀ (ts : List Str) (k : Nat) (acc : Str), (∀ t ∈ ts, PyData.strOk t = true) → PyData.strOk acc = true → PyData.strOk (textFrom k acc ts) = true
  | [], _, _, _, h => h
  | t :: ts, k, acc, ht, h => by
    refine ok_textFrom ts (k + 1) _ (fun u hu => ht u (List.mem_cons_of_mem _ hu)) (ok_app (ok_app h ?_) (ht t List.mem_cons_self))
    exact ok_of _
theorem ok_listText {ts : List Str} (h : ∀ t ∈ ts, PyData.strOk t = true) : PyData.strOk (listText ts) = true := ok_app (ok_textFrom ts 0 _ h (ok_of "[")) (ok_of "]")
theorem ok_join {sep : Str} (hs : PyData.strOk sep = true) : ∀ (ts : List Str), (∀ t ∈ ts, PyData.strOk t = true) → PyData.strOk (Str.join sep ts) = true
  | [], _ => (by decide +kernel : PyData.strOk Str.empty = true)
  | [x], h => h x List.mem_cons_self
  | x :: y :: r, h => ok_app (ok_app (h x List.mem_cons_self) hs) (ok_join hs (y :: r) fun t ht => h t (List.mem_cons_of_mem _ ht))
theorem ok_tupleText {ts : List Str} (h : ∀ t ∈ ts, PyData.strOk t = true) : PyData.strOk (tupleText ts) = true := ok_app (ok_app (ok_of "(") (ok_join (ok_of ", ") ts h)) (ok_of _)
mutual
/-- the texts in d are of characters, also written out -/
def txD : PyData → Bool
  | .none | .bool _ | .int _ => true
  | .str x => PyData.strOk (reprText x)
  | .list xs | .tuple xs => txAll xs
  | .dict kvs => kvs.isEmpty
def txAll : List PyData → Bool
  | [] => true
  | x :: xs => txD x && txAll xs
end
mutual
theorem ok_shown : ∀ d : PyData, txD d = true → PyData.strOk d.shown = true
  | .none, _ => by decide +kernel
  | .bool true, _ => by decide +kernel
  | .bool false, _ => by decide +kernel
  | .int i, _ => ok_of _
  | .str x, h => by simpa [txD, PyData.shown] using h
  | .list xs, h => by
    simp only [PyData.shown]
    exact ok_listText (ok_shownAll xs (by simpa [txD] using h))
  | .tuple xs, h => by
    simp only [PyData.shown]
    exact ok_tupleText (ok_shownAll xs (by simpa [txD] using h))
  | .dict [], _ => by decide +kernel
  | .dict (_ :: _), h => by simp [txD] at h
theorem ok_shownAll : ∀ xs : List PyData, txAll xs = true → ∀ t ∈ PyData.shownAll xs, PyData.strOk t = true
  | [], _, t, ht => by simp [PyData.shownAll] at ht
  | x :: xs, h, t, ht => by
    have h' : txD x = true ∧ txAll xs = true := by simpa [txAll] using h
    simp only [PyData.shownAll, List.mem_cons] at ht
    rcases ht with rfl | ht
    · exact ok_shown x h'.1
    · exact ok_shownAll xs h'.2 t ht
end
theorem txAll_ints (L : List Int) : txAll (L.map PyData.int) = true := by
  induction L with
  | nil => rfl
  | cons x L ih => simp only [List.map_cons, txAll, txD, ih, Bool.and_self]
/-- comparing shaped data with itself -/
theorem ne_self {d : PyData} (h : SeqAt.shaped d = true) : (!PyData.eqv d d) = false := by rw [SeqAt.eqv_refl d (SeqAt.canLay_of_shaped h)]; rfl
theorem sh_told {w x : Str} (hw : PyData.strOk w = true) (hx : PyData.strOk x = true) (b : Bool) : SeqAt.shaped (.list [.str w, .str x, .bool b]) = true := by
  simp [SeqAt.shaped, PyData.canLay0, PyData.canLayAll0, PyData.depth, PyData.depthAll, hw, hx]
theorem dp_told {K : PySem.W.Frag} {H : Hp} {r : Addr} {w x : Str} {b : Bool} (h : H r = some (.lst [.str w, .str x, .bl b])) : Dp K H (.ref r) (.list [.str w, .str x, .bool b]) := .lst (SqL.of h) (.cons (.str w) (.cons (.str x) (.cons (.bl b) .nil)))
theorem canLay_ints : ∀ L : List Int, PyData.canLayAll0 (L.map PyData.int) = true
  | [] => rfl
  | x :: L => by simp [PyData.canLayAll0, PyData.canLay0, canLay_ints L]
theorem depth_ints : ∀ L : List Int, PyData.depthAll (L.map PyData.int) = 0
  | [] => rfl
  | x :: L => by simp [PyData.depthAll, PyData.depth, depth_ints L]
theorem sh_three (s g : Int) (L : List Int) : SeqAt.shaped (.list [.int s, .tuple (L.map PyData.int), .int g]) = true := by
  simp [SeqAt.shaped, PyData.canLay0, PyData.canLayAll0, PyData.depth, PyData.depthAll, canLay_ints, depth_ints]
theorem sh_tab (w : Str) (hw : PyData.strOk w = true) (s : Int) (L : List Int) : SeqAt.shaped (.list [.str w, .int s, .tuple (L.map PyData.int)]) = true := by
  simp [SeqAt.shaped, PyData.canLay0, PyData.canLayAll0, PyData.depth, PyData.depthAll, canLay_ints, depth_ints, hw]
theorem sh_pair {w x : Str} (hw : PyData.strOk w = true) (hx : PyData.strOk x = true) (b : Bool) : SeqAt.shaped (.list [.list [.str w, .str x, .bool b], .list [.str w, .str x, .bool b]]) = true := by
  simp [SeqAt.shaped, PyData.canLay0, PyData.canLayAll0, PyData.depth, PyData.depthAll, hw, hx]
/-- one statement, the rest cut off behind it -/
theorem seq_cut2 {t u : TS} {D : Ends} {σ : L2.St} {H : Hp} (G : L2.St → Hp → Prop) (h : ∀ N : L2.St → Hp → Prop, (∀ σ' H', G σ' H' → N σ' H') → t { D with nx := N } σ H) (k : ∀ σ' H', G σ' H' → u D σ' H') : tSeq t u D σ H := h (u D) k
theorem next_go {D : Ends} {σ : L2.St} {H : Hp} (h : D.nx σ H) : tNext D σ H := h
theorem seq_cut {t u : TS} {D : Ends} {σ : L2.St} {H : Hp} (G : Hp → Prop) (h : ∀ N : L2.St → Hp → Prop, (∀ H', G H' → N σ H') → t { D with nx := N } σ H) (k : ∀ H', G H' → u D σ H') : tSeq t u D σ H := h (u D) k
end XT

namespace XT
open PySem PySem.Spec PyProof.Rows L2
/-! ### static methods -/
/-- C.m is a static method: its record at p, its def at g -/
structure CSta (K : PySem.W.Frag) (C : Addr) (mc : Value) (m : Str) (p g : Addr) : Prop where
  at_ : PySem.W.findCls K (.ref C) mc m = some (.get (.builtin "staticmethod.__get__") (.ref p) .none (.ref C))
  rc : ∃ rest, PySem.W.recIn K p "staticmethod" = some (.ref g :: rest)
  kp : PySem.W.keepIn K (.ref g) = true
/-- the same, reached through an instance -/
structure CStI (K : PySem.W.Frag) (C : Addr) (m : Str) (p g : Addr) : Prop where
  pg : PySem.W.plainGet K C Str.empty = true
  ic : PySem.W.isClsIn K C = true
  at_ : PySem.W.findIn K (.ref C) m = some (some (.ref p))
  ty : PySem.W.typeIn K (.ref p) = some (.type "staticmethod")
  get : PySem.W.specialIn K (.ref p) "__get__" = some (some (.builtin "staticmethod.__get__"))
  tk : PySem.W.takesIn K (.ref p) = some false
  cp : PySem.W.copiedNames.contains m = false
  rc : ∃ rest, PySem.W.recIn K p "staticmethod" = some (.ref g :: rest)
  kp : PySem.W.keepIn K (.ref g) = true
def tSta (C : Addr) (sp : Sp) (E : XK) (ta : TE) (t : TA) : TE := fun σ H Q => ta σ H fun x H1 => x = .ref C ∧ t σ H1 fun vs H2 => sp vs H2 Q E
def tStaI (C : Addr) (m : Str) (sp : Sp) (E : XK) (ta : TE) (t : TA) : TE := fun σ H Q => ta σ H fun x H1 => ∃ a dx fs, x = .ref a ∧ H1 a = some (.ins C dx fs) ∧ fs.lookup m = none ∧ t σ H1 fun vs H2 => sp vs H2 Q E
section
variable {X : Cx} {CX : CXT} {k : Nat} {C p g : Addr} {mc : Value} {sp : Sp} {E : XK} {o e : Expr} {es : List Expr} {f m : Str} {pos apos : Pos} {ta : TE} {t : TA} {pl : Sem Bool}
theorem pe_sta (he : PE X o ta) (r : ClX.CRead X.K C mc) (c : CSta X.K C mc m p g) (F : FnR X.prog X.w X.K X.mg X.base CX k g sp) (hr : Room k X.A) (hx : Passes CX X E) (ha : PA X (e :: es) t)
    (hst : starEach (e :: es) X.env = (false, eval e X.env) :: starEach es X.env := by rfl) (hpl : (backTo pos (starEach es X.env)).any (·.1) = false := by rfl)
    (ht : eval (.Call (.Attribute o m apos) (e :: es) [] pos) X.env = (do
      let ov ← eval o X.env
      standAt apos.atName
      let (f, first) ← holding [ov] (getMethod ov m pl)
      callWith pos f first (backTo pos (starEach (e :: es) X.env)) (backToKw pos (keywordEach [] X.env))) := by rfl) :
    PE X (.Call (.Attribute o m apos) (e :: es) [] pos) (tSta C sp E ta t) := by
  refine ⟨fun pins s σ H Q I h => ?_⟩
  refine PySem.W.methodCall_KW (pl := pl) (thn (he.run pins s σ H _ I h) fun u s1 ⟨x, H1, I1, rx, ex, q⟩ => ?_) ht
  subst ex
  obtain rfl : u = Value.ref C := rx
  refine PySem.W.method_cls I1.kIn r.ga ?_
  obtain ⟨rest, hp⟩ := c.rc
  refine PySem.W.cls_bind I1.kIn r.rd c.at_ ?_
  refine wpAny_call (PySem.W.sm_get (s := { s1 with toks := s1.toks + 1 }) I1.kIn hp (PySem.W.handed_on rfl ?_))
  have I2 := I1.tok (s1.toks + 1)
  refine PySem.W.callWith_K (h₀ := X.base) I.ok.mod.kin c.kp (thn (ha.run pos pins _ σ H1 _ I2 q) fun us s2 ⟨vs, H2, I3, r2, q2⟩ => ⟨I3.kIn, ?_⟩) hst hpl
  exact wpAny_call (run_fnR F hr hx I3 r2 q2)
theorem pe_staI (he : PE X o ta) (c : CStI X.K C m p g) (F : FnR X.prog X.w X.K X.mg X.base CX k g sp) (hr : Room k X.A) (hx : Passes CX X E) (ha : PA X (e :: es) t)
    (hst : starEach (e :: es) X.env = (false, eval e X.env) :: starEach es X.env := by rfl) (hpl : (backTo pos (starEach es X.env)).any (·.1) = false := by rfl)
    (ht : eval (.Call (.Attribute o m apos) (e :: es) [] pos) X.env = (do
      let ov ← eval o X.env
      standAt apos.atName
      let (f, first) ← holding [ov] (getMethod ov m pl)
      callWith pos f first (backTo pos (starEach (e :: es) X.env)) (backToKw pos (keywordEach [] X.env))) := by rfl) :
    PE X (.Call (.Attribute o m apos) (e :: es) [] pos) (tStaI C m sp E ta t) := by
  refine ⟨fun pins s σ H Q I h => ?_⟩
  refine PySem.W.methodCall_KW (pl := pl) (thn (he.run pins s σ H _ I h) fun u s1 ⟨x, H1, I1, rx, a, dx, fs, ex, ea, l, q⟩ => ?_) ht
  subst ex
  obtain rfl : u = Value.ref a := rx
  obtain ⟨mA, O, rr, _, _, _⟩ := ins_get I1.hok ea
  have hn : mA m = none := RelO.none_of (by rw [← l]; exact rr m)
  obtain ⟨od, J, hl⟩ := O.look
  obtain ⟨rest, hp⟩ := c.rc
  have hg : PySem.W.plainGet X.K C m = true := c.pg
  refine PySem.W.method_usual (r := some (.ref p)) I1.kIn J (PySem.W.plainGet_of hg).1 (PySem.W.plainGet_of hg).2 c.at_ ?_ ?_
  · show ((PySem.W.typeIn X.K (.ref p)).any fun t => t != .type "function" && t != .type "method_descriptor" && t != .type "wrapper_descriptor") = true
    rw [c.ty]
    first
    | rfl
    | decide +kernel
  · refine PySem.W.get_bind I1.kIn J (PySem.W.plainGet_of hg).1 (ClX.find_cm c.ic c.at_ c.get c.tk c.cp (by rw [hl m, hn])) (PySem.W.plainGet_of hg).2 ?_
    refine wpAny_call (PySem.W.sm_get (s := { s1 with toks := s1.toks + 1 }) I1.kIn hp (PySem.W.handed_on rfl ?_))
    have I2 := I1.tok (s1.toks + 1)
    refine PySem.W.callWith_K (h₀ := X.base) I.ok.mod.kin c.kp (thn (ha.run pos pins _ σ H1 _ I2 q) fun us s2 ⟨vs, H2, I3, r2, q2⟩ => ⟨I3.kIn, ?_⟩) hst hpl
    exact wpAny_call (run_fnR F hr hx I3 r2 q2)
/-! ### C(), C(*e) by a positional promise of its __init__ -/
def tMakeR0 (C : Addr) (sp : Sp) (E : XK) : TE := fun _ H Q => ∀ x dx, H x = none → H dx = none → dx ≠ x → sp [V.ref x] (upd (upd H dx (.own x)) x (.ins C dx [])) (fun v H2 => v = .non ∧ Q (.ref x) H2) E
theorem pe_makeR0 {x : Str} {p : Pos} (M : Mk X.K C g) (F : FnR X.prog X.w X.K X.mg X.base CX k g sp) (hr : Room (k + 1) X.A) (hg : Gl X x) (hm : X.mg x = some (.ref C)) (hx : Passes CX X E) (hdb : (x == ("__debug__" : Str)) = false := by decide) :
    PE X (.Call (.Name x p) [] [] pos) (tMakeR0 C sp E) := by
  refine ⟨fun pins s σ H Q I h => ?_⟩
  refine wpAny_Call_Name_kw (ld_glob I hg hm ?_ hdb)
  refine PySem.W.callWith_K0 (first := []) I.kIn M.kp ?_
  exact StX.run_makeR (us := []) (vs := []) M F hr hx I .nil h
theorem pe_makeS1 {x : Str} {p sp_ : Pos} {te : TE} (M : Mk X.K C g) (F : FnR X.prog X.w X.K X.mg X.base CX k g sp) (hr : Room (k + 1) X.A) (hg : Gl X x) (hm : X.mg x = some (.ref C)) (hx : Passes CX X E) (he : PE X e te) (hdb : (x == ("__debug__" : Str)) = false := by decide)
    (hst : starEach [.Starred e sp_] X.env = [(true, eval e X.env)] := by rfl) :
    PE X (.Call (.Name x p) [.Starred e sp_] [] pos) (fun σ H Q => te σ H fun y H1 => ∃ a xs, y = V.ref a ∧ (SqT X.K H1 a xs ∨ SqL X.K H1 a xs) ∧ ∀ x dx, H1 x = none → H1 dx = none → dx ≠ x → sp (V.ref x :: xs) (upd (upd H1 dx (.own x)) x (.ins C dx [])) (fun v H2 => v = .non ∧ Q (.ref x) H2) E) := by
  refine ⟨fun pins s σ H Q I h => ?_⟩
  refine wpAny_Call_Name_kw (ld_glob I hg hm ?_ hdb)
  refine PySem.W.callWith_S (h₀ := X.base) I.ok.mod.kin M.kp (thn (he.run pins s σ H _ I h) fun v s1 ⟨y, H1, I1, ry, a, xs, ey, hxs, q⟩ => ?_) hst
  subst ey
  obtain rfl : v = Value.ref a := ry
  exact StX.star_any I1 hxs fun us s2 I2 rv => ⟨I2.kIn, StX.run_makeR M F hr hx I2 rv q⟩
end
/-! ### defs with a star -/
section
variable {P : Program} {w : World} {K : PySem.W.Frag} {mg : Str → Option Value} {base : Heap}
def BndS (x qual : Str) (st : Stmt) (ps : List Str) (pv : Str) : Prop := ∀ (kV doc pm : Value) (an : Option Addr) (cdv ct : Value) (us rest : List Value), us.length = ps.length →
  bindArgs (PySem.W.fnOf x qual (defArgs st) (defBody st) (defScope st) .none kV doc pm an cdv ct) ⟨us ++ rest, []⟩ = (newTuple rest >>= fun t => pure (ps.zip us ++ [(pv, t)]))
/-- the promise of a def whose last parameter takes what is left over -/
def spStar (n : Nat) (sp : Sp) : Sp := fun vs H Q E => ∃ ws rest, vs = ws ++ rest ∧ ws.length = n ∧ rest.length ≤ sizeLine ∧ ∀ p, H p = none → sp (ws ++ [V.ref p]) (upd H p (.tup rest)) Q E
theorem okStar {x qual : Str} {st : Stmt} {f : Addr} {fd : FuncData} {N ps : List Str} {pv : Str} {k : Nat} {sp : Sp} (F : Fun K x qual st f fd) (S : FnScope N (ps ++ [pv]) (defScope st)) (B : BndS x qual st ps pv)
    (hbody : ∀ (cdv : Value) (A : Around) (outer : List Env) (s : Shared) (H : Hp) (vs : List V) (Q : VK) (E : XK), Room k (A.deeper (envOfC qual (defScope st) s.heap.objs.size f cdv)) → sp vs H Q E →
      ∃ t, PSs (cxOf (L2.CX P w) P w K mg base N qual (defScope st) f cdv A outer s H E) (defBody st) t ∧ t { nx := fun _ H' => Q .non H', rt := Q } (start N vs) H) : FnR P w K mg base (L2.CX P w) (k + 1) f (spStar ps.length sp) := by
  obtain ⟨oc, od, kV, doc, pm, an, cdv, ct, osl, rfl, lk, hcd⟩ := F.ex
  exact StX.fn_star lk hcd S StX.cxUp (fun us rest h => B kV doc pm an cdv ct us rest h) fun A outer s H vs Q E hr hsp => hbody cdv A outer s H vs Q E hr hsp
theorem okStar0 {x qual : Str} {st : Stmt} {f : Addr} {fd : FuncData} {N ps : List Str} {pv : Str} {k : Nat} {sp : Sp} (F : Fun K x qual st f fd) (S : FnScope N (ps ++ [pv]) (defScope st)) (B : BndS x qual st ps pv)
    (hbody : ∀ (cdv : Value) (A : Around) (outer : List Env) (s : Shared) (H : Hp) (vs : List V) (Q : VK) (E : XK), Room k (A.deeper (envOfC qual (defScope st) s.heap.objs.size f cdv)) → sp vs H Q E →
      ∃ t, PSs (cxOf CX0 P w K mg base N qual (defScope st) f cdv A outer s H E) (defBody st) t ∧ t { nx := fun _ H' => Q .non H', rt := Q } (start N vs) H) : FnR P w K mg base CX0 (k + 1) f (spStar ps.length sp) := by
  obtain ⟨oc, od, kV, doc, pm, an, cdv, ct, osl, rfl, lk, hcd⟩ := F.ex
  exact StX.fn_star lk hcd S StX.cxUp_none (fun us rest h => B kV doc pm an cdv ct us rest h) fun A outer s H vs Q E hr hsp => hbody cdv A outer s H vs Q E hr hsp
end
end XT

namespace XT
open PySem PySem.Spec PyProof.Rows L2
/-! ### types told apart by != -/
theorem slot_type_ne : Slot "type" (cmpInfo .NotEq).2.1 "object.__ne__" :=
  .of (owner := "object") (n := "__ne__") (by rw [typeLookup_type, builtinLookup_eq_fast]; kernel_rfl) (by decide +kernel) (by decide +kernel) (by decide +kernel)
    (by first | exact .inl (by decide +kernel) | exact .inr (by decide +kernel)) (by rw [isSubtype_type]; kernel_rfl)
theorem slot_type_ne_refl : Slot "type" (cmpInfo .NotEq).2.2 "object.__ne__" :=
  .of (owner := "object") (n := "__ne__") (by rw [typeLookup_type, builtinLookup_eq_fast]; kernel_rfl) (by decide +kernel) (by decide +kernel) (by decide +kernel)
    (by first | exact .inl (by decide +kernel) | exact .inr (by decide +kernel)) (by rw [isSubtype_type]; kernel_rfl)
section
variable {prog : Program} {w : World} {A : Around} {E : Value → Shared → Prop} {s : Shared} {Q : Value → Shared → Prop}
theorem ne_ty_same {X : String} (hX : ∀ s' : Shared, s'.TypeIs (.type X) "type") (h : Q (.bool false) s) : wpAny (model prog w) A (call (.builtin "object.__ne__") [.type X, .type X]) (fun v s' => v = .bool false ∧ Q v s') E s := by
  refine wpAny_call_entry slot_type_ne (hX s) PySem.F.entry_object_ne ?_ (PySem.F.args_object_ne_2 _ _)
  unfold Builtin.«object.__ne__»
  refine wpAny_bind (m := slotArgs "__ne__" 1 ⟨[.type X, .type X], []⟩) (wpAny_pure ?_)
  dsimp only
  refine wpAny_bind (wpAny_cRoomFor_or (.inl rfl) ?_)
  refine wpAny_bind (m := callSpecialIfBound? (.type X) (Str.ofString "__eq__") [.type X]) (wpAny_callSpecialIfBound?_slot (name := Str.ofString "__eq__") (hX s) TypeEq.slot_type_eq
    (call_gives TypeEq.slot_type_eq (hX s) PySem.F.entry_object_eq (PySem.F.args_object_eq_2 _ _) (TypeEq.object_eq_same rfl (by simp)) ?_))
  show wpAny _ _ _ _ _ _
  refine wpAny_bind (m := truthy (.bool true)) (wpAny_pure ?_)
  exact wpAny_pure ⟨_, rfl, rfl, h⟩
theorem ne_ty_other {X Y : String} (hX : ∀ s' : Shared, s'.TypeIs (.type X) "type") (hne : (Value.type X == Value.type Y) = false) (h : Q .notImplemented s) : wpAny (model prog w) A (call (.builtin "object.__ne__") [.type X, .type Y]) (fun v s' => v = .notImplemented ∧ Q v s') E s := by
  refine wpAny_call_entry slot_type_ne (hX s) PySem.F.entry_object_ne ?_ (PySem.F.args_object_ne_2 _ _)
  unfold Builtin.«object.__ne__»
  refine wpAny_bind (m := slotArgs "__ne__" 1 ⟨[.type X, .type Y], []⟩) (wpAny_pure ?_)
  dsimp only
  refine wpAny_bind (wpAny_cRoomFor_or (.inl rfl) ?_)
  refine wpAny_bind (m := callSpecialIfBound? (.type X) (Str.ofString "__eq__") [.type Y]) (wpAny_callSpecialIfBound?_slot (name := Str.ofString "__eq__") (hX s) TypeEq.slot_type_eq
    (call_gives TypeEq.slot_type_eq (hX s) PySem.F.entry_object_eq (PySem.F.args_object_eq_2 _ _) (TypeEq.object_eq_other rfl hne) ?_))
  exact wpAny_pure ⟨_, rfl, rfl, h⟩
theorem ne_type_same {X : String} (hX : ∀ s' : Shared, s'.TypeIs (.type X) "type") (h : Q (.bool false) s) : wpAny (model prog w) A (compareOp .NotEq (.type X) (.type X)) Q E s := by
  show wpAny _ A (richCompare .NotEq _ _) Q E s
  exact wpAny_richCompare_same (T := "type") (hX s) (hX s) slot_type_ne (wpAny_mono (ne_ty_same (Q := Q) hX h) (fun v s' z => ⟨(by rw [z.1]; intro e; cases e), z.2⟩) fun _ _ z => z)
theorem ne_type_other {X Y : String} (hX : ∀ s' : Shared, s'.TypeIs (.type X) "type") (hY : ∀ s' : Shared, s'.TypeIs (.type Y) "type") (hne : (Value.type X == Value.type Y) = false) (h : Q (.bool true) s) : wpAny (model prog w) A (compareOp .NotEq (.type X) (.type Y)) Q E s := by
  have hne' : (Value.type Y == Value.type X) = false := by
    rw [Bool.eq_false_iff] at hne ⊢
    intro e
    exact hne (by rw [beq_iff_eq] at e ⊢; exact e.symm)
  show wpAny _ A (richCompare .NotEq _ _) Q E s
  have h1 := slot_type_ne
  have h2 := slot_type_ne_refl
  rcases hi : cmpInfo CmpOp.NotEq with ⟨sym, f, r⟩
  rw [hi] at h1 h2
  simp only [richCompare, hi, (hX s).oneThing_none]
  try with_reducible refine wpAny_holding ?_
  refine wpAny_bind (wpAny_cRoomFor_or (.inl rfl) ?_)
  refine wpAny_bind (wpAny_typeOf (hX s) (wpAny_bind (wpAny_typeOf (hY s) ?_)))
  simp only [bne_self_eq_false, Bool.false_eq_true, if_false, pure_bind, Bool.not_false, if_true]
  refine wpAny_bind (m := tryCompare (.type X) _ (.type Y)) (wpAny_tryCompare_declines (hX s) h1 (ne_ty_other (Q := fun _ s₁ => _) hX hne ?_))
  refine wpAny_bind (m := tryCompare (.type Y) _ (.type X)) (wpAny_tryCompare_declines (hY s) h2 (ne_ty_other (Q := fun _ s₁ => _) hY hne' ?_))
  refine wpAny_bind (wpAny_rule (wpAny_bind (wpAny_of_eq (a := false) (by rw [isSame_plain rfl, hne]) (wpAny_pure ?_))))
  simpa using h
end
section
variable {X : Cx}
theorem op_neTy : OpR X (compareOp .NotEq) (fun x y H Q => ∃ m n, x = .ty m ∧ y = .ty n ∧ tyN m = true ∧ tyN n = true ∧ Q (.bl (!decide (m = n))) H) := by
  intro pins s σ H x y v u Q I rx ry h
  obtain ⟨m, n, rfl, rfl, hm, hn, q⟩ := h
  cases (show v = Value.type m from rx)
  cases (show u = Value.type n from ry)
  by_cases e : m = n
  · subst e
    exact ne_type_same (fun s' => tyN_meta hm s') ⟨.bl false, H, I, rfl, by simpa using q⟩
  · refine ne_type_other (fun s' => tyN_meta hm s') (fun s' => tyN_meta hn s') ?_ ⟨.bl true, H, I, rfl, by simpa [e] using q⟩
    rw [Bool.eq_false_iff]
    intro z
    rw [beq_iff_eq] at z
    injection z with z
    exact e z
/-! ### tuple * int -/
theorem tuple_mul1 (l : Addr) (items : Array Value) (n : Nat) (dd : Option Addr) (sl : Array (Option Value)) (x : Int) (u : Tok) (c0 : (decide (x < -(2 ^ 63)) || decide (x ≥ 2 ^ 63)) = false) (c1 : (items.isEmpty || x == 1) = true) :
    Meets (Builtin.«tuple.__mul__» ⟨[.ref l, .int x u], []⟩) (fun _ R s => s.heap.get? l = some { cls := .type "tuple", dict := dd, data := .seq items n, slots := sl } ∧ R (.ok (.ret (Value.ref l))) s) :=
  .of_wp fun prog w A R s h => by
    obtain ⟨hp, g, d, tk, os⟩ := s
    obtain ⟨hl, h⟩ := h
    have f1 := AutoSeq1.idx_int
    wp_walk using wpAny_loadPart' hl
    repeat (first
      | (refine wpAny_ite_false (decide_eq_false (by rw [c0]; exact Bool.false_ne_true)) ?_; wp_walk using wpAny_loadPart' hl)
      | (refine wpAny_ite_true (decide_eq_true (by rw [c1])) ?_; wp_walk using wpAny_loadPart' hl))
    exact ⟨_, rfl, h⟩
theorem tuple_mul0 (l : Addr) (items : Array Value) (n : Nat) (dd : Option Addr) (sl : Array (Option Value)) (u : Tok) (c1 : items.isEmpty = false) :
    Meets (Builtin.«tuple.__mul__» ⟨[.ref l, .int 0 u], []⟩) (fun _ R s => s.heap.get? l = some { cls := .type "tuple", dict := dd, data := .seq items n, slots := sl } ∧ R (.ok (.ret (Value.ref s.heap.objs.size))) { s with heap := s.heap.push { cls := Value.type "tuple", data := Data.seq #[] }, toks := s.toks }) :=
  .of_wp fun prog w A R s h => by
    obtain ⟨hp, g, d, tk, os⟩ := s
    obtain ⟨hl, h⟩ := h
    have f1 := AutoSeq1.idx_int
    have c0 : (decide ((0 : Int) < -(2 ^ 63)) || decide ((0 : Int) ≥ 2 ^ 63)) = false := by decide
    have c2 : (items.isEmpty || (0 : Int) == 1) = false := by rw [c1]; decide
    have c3 : (decide ((0 : Int) ≤ 0) || items.isEmpty) = true := by simp
    wp_walk using wpAny_loadPart' hl
    repeat (first
      | (refine wpAny_ite_false (decide_eq_false (by rw [c0]; exact Bool.false_ne_true)) ?_; wp_walk using wpAny_loadPart' hl)
      | (refine wpAny_ite_false (decide_eq_false (by rw [c2]; exact Bool.false_ne_true)) ?_; wp_walk using wpAny_loadPart' hl)
      | (refine wpAny_ite_true (decide_eq_true (by rw [c3])) ?_; wp_walk using wpAny_loadPart' hl))
    exact ⟨_, rfl, h⟩
/-- t * k, k a small count -/
def rRepA (K : PySem.W.Frag) : R2 := fun x y H Q => ∃ l k xs, x = .ref l ∧ y = .int k ∧ SqT K H l xs ∧ 0 ≤ k ∧ k ≤ 1000 ∧ xs.length ≤ 1000 ∧ (∀ p H', Same H H' → SqT K H' p (List.replicate k.toNat xs).flatten → Q (.ref p) H')
theorem op_repA : OpR X (binaryOp .Mult) (rRepA X.K) := by
  intro pins s σ H x y v u Q I rx ry h
  obtain ⟨l, k, xs, rfl, rfl, hT, h0, h2, hz, q⟩ := h
  by_cases hb : 2 ≤ k ∧ xs ≠ []
  · exact op_repT pins s σ H _ _ v u Q I rx ry ⟨l, k, xs, rfl, rfl, hT, hb.2, hb.1, h2, hz, fun p hp => q p _ (same_new hp) (SqT.of upd_same)⟩
  have hT0 := hT
  cases rx
  obtain ⟨t, rfl⟩ := ry
  obtain ⟨its, r, ⟨⟨cls, dd, data, sl⟩, ho, hc, n, hd⟩, hs⟩ := I.tuple hT
  simp only at hc hd
  subst hc hd
  have c0 : (decide (k < -(2 ^ 63)) || decide (k ≥ 2 ^ 63)) = false := by
    rw [decide_eq_false (by omega), decide_eq_false (by omega)] <;> rfl
  by_cases h1 : k = 1 ∨ xs = []
  · have c1 : (its.toArray.isEmpty || k == 1) = true := by
      rcases h1 with rfl | rfl
      · simp
      · cases r
        rfl
    refine wpAny_binaryOp_repeat_ref (T := "tuple") (U := "int") (by decide) ⟨_, ho, rfl⟩ (fun s' => typeIs_int s' k t) noFill_tuple_mul F.fills_int_mul F.slot_int_rmul repeat_tuple F.slot_int_index.lookup
      (call_meets F.slot_int_rmul (typeIs_int s k t) F.entry_int_rmul (F.args_int_rmul_2 _ _) (int_rmul_tuple k t l its.toArray n dd sl)
        ⟨ho, rfl, ⟨_, ho, rfl⟩, call_meets F.slot_tuple_mul ⟨_, ho, rfl⟩ F.entry_tuple_mul (F.args_tuple_mul_2 _ _) (tuple_mul1 l its.toArray n dd sl k t c0 c1) ⟨ho, ?_⟩⟩)
    refine ⟨.ref l, H, I, rfl, q l H (Same.refl H) ?_⟩
    rcases h1 with rfl | rfl
    · have : (List.replicate (1 : Int).toNat xs).flatten = xs := by simp
      rw [this]
      exact hT0
    · have : (List.replicate k.toNat ([] : List V)).flatten = [] := by simp
      rw [this]
      exact hT0
  · have hk : k = 0 := by
      by_cases hx : xs = []
      · exact absurd (.inr hx) h1
      · have : ¬ 2 ≤ k := fun z => hb ⟨z, hx⟩
        have : k ≠ 1 := fun z => h1 (.inl z)
        omega
    subst hk
    have hx : its.toArray.isEmpty = false := by
      cases r with
      | nil => exact absurd (.inr rfl) h1
      | cons _ _ => rfl
    refine wpAny_binaryOp_repeat_ref (T := "tuple") (U := "int") (by decide) ⟨_, ho, rfl⟩ (fun s' => typeIs_int s' 0 t) noFill_tuple_mul F.fills_int_mul F.slot_int_rmul repeat_tuple F.slot_int_index.lookup
      (call_meets F.slot_int_rmul (typeIs_int s 0 t) F.entry_int_rmul (F.args_int_rmul_2 _ _) (int_rmul_tuple 0 t l its.toArray n dd sl)
        ⟨ho, rfl, ⟨_, ho, rfl⟩, call_meets F.slot_tuple_mul ⟨_, ho, rfl⟩ F.entry_tuple_mul (F.args_tuple_mul_2 _ _) (tuple_mul0 l its.toArray n dd sl t hx) ⟨ho, ?_⟩⟩)
    refine ⟨.ref s.heap.objs.size, _, I.laid (t' := s.toks) (o := .tup []) (fun b ob q => Heap.get?_push_of_some _ q) (Nat.le_refl _) ?_, rfl, q _ _ (same_new (I.hok.fresh (Nat.le_refl _))) ?_⟩
    · exact ⟨Nat.zero_le _, [], .nil, IsTup.new _ _⟩
    · have : (List.replicate (0 : Int).toNat xs).flatten = ([] : List V) := by simp
      rw [this]
      exact SqT.of upd_same
end
end XT

namespace XT
open PySem PySem.Spec PyProof.Rows L2
section
variable {prog : Program} {w : World} {A : Around} {E : Value → Shared → Prop} {s : Shared} {K : PySem.W.Frag} {x C f L : Addr} {ox : Obj} {od : Option Obj} {h₀ : Heap} {m : Str → Option Value}
/-- len(x), by an own __len__ -/
theorem len_own {Q : Value → Shared → Prop} (X : K.In s.heap) (I : PySem.W.InstAt s.heap x ox C od) (hs : PySem.W.findIn K (.ref C) "__len__" = some (some (.ref f))) (hf : PySem.W.isFn K (.ref f) = true)
    (h : wpAny (model prog w) A.in1 (call (.ref f) [.ref x]) (fun r s1 => ∃ (n : Int) (t : Tok), r = Value.int n t ∧ 0 ≤ n ∧ n < 2 ^ 63 ∧ Q (.int n s1.toks) { s1 with toks := s1.toks + 1 }) E s) : wpAny (model prog w) A (call (.builtin "len") [.ref x]) Q E s := by
  refine Calls.call_function_entry PySem.kind_len PySem.plain_len PySem.entry_len (PySem.args_len1 _) ?_
  unfold Builtin.«len»
  refine wpAny_bind (m := oneArg "len" _) (wpAny_pure ?_)
  refine wpAny_bind (m := callSpecial? (.ref x) (PySem.Str.ofString "__len__")) (PySem.W.special_fn X I hs (beq_iff_eq.mp hf) (wpAny_mono h (fun r s' hr => ?_) fun _ _ y => y))
  obtain ⟨n, t, rfl, h0, h1, q⟩ := hr
  dsimp only
  refine wpAny_bind (wpAny_holding (wpAny_pure ?_))
  refine wpAny_bind (wpAny_letGo ?_)
  show wpAny _ _ (if n < 0 then _ else _) _ _ _
  rw [if_neg (by omega)]
  show wpAny _ _ (if n ≥ 2 ^ 63 then _ else _) _ _ _
  rw [if_neg (by omega)]
  exact wpAny_bind (wpAny_mkInt (wpAny_pure ⟨_, rfl, q⟩))
/-- x * n, n an int, by an own __mul__ and no own __rmul__ -/
theorem mul_own {n : Int} {t : Tok} {Q : Value → Shared → Prop} (F : PyProof.Rows.Fr h₀ L s.heap m) (X₀ : K.In h₀) (I : PySem.W.InstAt s.heap x ox C od) (hc : PySem.W.selfFirst K C = true) (hi : PySem.W.subIn K (.type "int") (.ref C) = some false)
    (hs : PySem.W.findIn K (.ref C) "__mul__" = some (some (.ref f))) (hrm : PySem.W.findIn K (.ref C) "__rmul__" = some none) (hf : PySem.W.isFn K (.ref f) = true)
    (h : wpAny (model prog w) A (call (.ref f) [.ref x, .int n t]) (PySem.W.CmpBack Q) E s) : wpAny (model prog w) A (binaryOp .Mult (.ref x) (.int n t)) Q E s := by
  have X := X₀.keeps F.keep
  obtain ⟨cd, hcd, hm⟩ := PySem.W.any_some hc
  obtain ⟨rest, hm⟩ : ∃ rest, cd.mro = .ref C :: rest := by
    cases q : cd.mro with
    | nil => rw [q] at hm; cases hm
    | cons a r => rw [q] at hm; exact ⟨r, by rw [List.head?_cons] at hm; cases (beq_iff_eq.mp hm); rfl⟩
  have hs' : PySem.W.findIn K (.ref C) (PySem.dunder "mul") = some (some (.ref f)) := hs
  have hr' : PySem.W.findIn K (.ref C) (PySem.dunderR "mul") = some none := hrm
  unfold binaryOp
  refine wpAny_holding (wpAny_bind ?_)
  show wpAny _ _ (binaryOp1 "mul" _ _) _ _ _
  unfold binaryOp1
  refine wpAny_bind (I.type.here (wpAny_bind (wpAny_typeOf (typeIs_int s n t) (wpAny_bind ((PySem.W.fills_K X hcd hm hs').here ?_)))))
  have e1 : (Value.ref C == Value.type "int") = false := rfl
  rw [e1]
  refine wpAny_bind ?_
  refine wpAny_of_eq (a := true) PySem.F.fills_int_mul ?_
  simp only [Bool.and_self, if_true]
  refine wpAny_bind ((PySem.W.looks_subIn X hi).here ?_)
  simp only [Bool.false_eq_true, if_false, Bool.not_false, Bool.and_self, if_true, Bool.and_true]
  have nsp : wpAny (model prog w) A (numberSlotInPython (.ref C) "mul") (fun b s' => b = true ∧ s' = s) E s := by
    unfold numberSlotInPython
    refine wpAny_bind ((PySem.W.looks_findIn X hs').here ?_)
    refine wpAny_bind (m := calledByName (.ref C) _ (some (.ref f))) (wpAny_pure ?_)
    refine wpAny_bind ((PySem.W.looks_findIn X hr').here ?_)
    refine wpAny_bind (m := calledByName (.ref C) _ none) (wpAny_pure ?_)
    simp only [Bool.or_false, if_true]
    exact wpAny_pure ⟨rfl, rfl⟩
  have fin : wpAny (model prog w) A (tryMethod (.ref x) (PySem.dunder "mul") (.int n t)) (fun r s' => ∃ v, r = some v ∧ Q v s') E s := by
    unfold tryMethod
    refine wpAny_bind (PySem.W.special_fn X I hs' (beq_iff_eq.mp hf) (wpAny_mono h (fun v s' hv => ?_) fun _ _ e => e))
    cases v <;> first | exact hv.elim | exact wpAny_pure ⟨_, rfl, hv⟩
  refine wpAny_bind (wpAny_mono nsp (fun b s' z => ?_) fun _ _ e => e)
  obtain ⟨rfl, rfl⟩ := z
  simp only [if_true]
  refine wpAny_bind (m := numberSlotInPython (.type "int") "mul") (wpAny_pure ?_)
  simp only [Bool.not_false, if_true]
  refine wpAny_bind (wpAny_of_eq (a := some (.builtin "int.__rmul__")) PySem.F.slot_int_rmul.lookup ?_)
  refine wpAny_bind (wpAny_mono fin (fun v s2 z => ?_) fun _ _ e => e)
  obtain ⟨u, rfl, hq⟩ := z
  exact wpAny_pure (wpAny_pure hq)
end
section
variable {X : Cx} {CX : CXT} {n : Nat} {C g : Addr} {sp : Sp} {E : XK}
/-- len(x) -/
def rLenO (C : Addr) (sp : Sp) (E : XK) : List V → Hp → VK → Prop := fun xs H Q => ∃ a, xs = [V.ref a] ∧ InsA H a C ∧ sp xs H (fun z H' => ∃ k : Int, z = .int k ∧ 0 ≤ k ∧ k < 2 ^ 63 ∧ Q z H') E
theorem call_lenO (hs : PySem.W.findIn X.K (.ref C) "__len__" = some (some (.ref g))) (hf : PySem.W.isFn X.K (.ref g) = true) (F : FnR X.prog X.w X.K X.mg X.base CX n g sp) (hr : Room (n + 1) X.A) (hx : Passes CX X E) : CallR X (.builtin "len") (rLenO C sp E) := by
  intro pins s σ H xs us Q I r h
  obtain ⟨a, rfl, ha, q⟩ := h
  obtain ⟨u, rfl, ru⟩ := r.one
  cases (show u = Value.ref a from ru)
  obtain ⟨ox, od, J⟩ := insA_at I ha
  refine len_own I.kIn J hs hf (wpAny_mono (wpAny_call (SlX.run_at (us := [.ref a]) (ws := [.ref a]) F hr.in1 I.env0.in1 hx I (.cons rfl .nil) q)) (fun w s' z => ?_) fun _ _ x => x)
  obtain ⟨z', H', I', rz, k, rfl, k0, k1, qz⟩ := z
  obtain ⟨t, rfl⟩ : ∃ t, w = Value.int k t := rz
  exact ⟨k, t, rfl, k0, k1, .int k, H', I'.tok _, ⟨_, rfl⟩, qz⟩
/-- x * n -/
def rMulO (C : Addr) (sp : Sp) (E : XK) : R2 := fun x y H Q => ∃ a i, x = .ref a ∧ y = .int i ∧ InsA H a C ∧ sp [x, y] H Q E
theorem op_mulO (hc : PySem.W.selfFirst X.K C = true) (hi : PySem.W.subIn X.K (.type "int") (.ref C) = some false) (hs : PySem.W.findIn X.K (.ref C) "__mul__" = some (some (.ref g))) (hrm : PySem.W.findIn X.K (.ref C) "__rmul__" = some none)
    (hf : PySem.W.isFn X.K (.ref g) = true) (F : FnR X.prog X.w X.K X.mg X.base CX n g sp) (hr : Room n X.A) (hx : Passes CX X E) : OpR X (binaryOp .Mult) (rMulO C sp E) := by
  intro pins s σ H x y v u Q I rx ry h
  obtain ⟨a, i, rfl, rfl, ha, q⟩ := h
  cases (show v = Value.ref a from rx)
  obtain ⟨t, rfl⟩ : ∃ t, u = Value.int i t := ry
  obtain ⟨ox, od, J⟩ := insA_at I ha
  obtain ⟨m, hF⟩ := I.fr
  refine mul_own hF I.ok.mod.kin J hc hi hs hrm hf ?_
  refine wpAny_mono (wpAny_call (run_fnR (us := [.ref a, .int i t]) (vs := [.ref a, .int i]) F hr hx I (.cons rfl (.cons ⟨t, rfl⟩ .nil)) q)) (fun w s' z => ?_) fun _ _ x => x
  obtain ⟨z', H', I', rz, qz⟩ := z
  exact SlX.cmpback rz ⟨z', H', I', rz, qz⟩
end
end XT

namespace XT
open PySem PySem.Spec PyProof.Rows L2
section
variable {X : Cx} (K : PySem.W.Frag)
/-- x != y, by an own ==, y of another type -/
def rOwnNo (K : PySem.W.Frag) (C : Addr) (sp : Sp) (E : XK) : R2 := fun x y H Q => ∃ a t, x = .ref a ∧ InsA H a C ∧ TyX K H y t ∧ PySem.W.notFirst K C t = true ∧ sp [x, y] H (fun z H' => ∃ k, z = .bl k ∧ Q (.bl (!k)) H') E
theorem op_ownNoK {CX : CXT} {n : Nat} {C g : Addr} {sp : Sp} {E : XK} (hne : PySem.W.findIn K (.ref C) "__ne__" = some (some (.builtin "object.__ne__"))) (ho : PySem.W.subIn K (.ref C) (.type "object") = some true)
    (hs : PySem.W.findIn K (.ref C) "__eq__" = some (some (.ref g))) (hf : PySem.W.isFn K (.ref g) = true) (F : FnR X.prog X.w K X.mg X.base CX n g sp)
    (hr : Room (n + 1) X.A) (hx : Passes CX X E) (hK : X.K = K := by rfl) : OpR X (compareOp .NotEq) (rOwnNo K C sp E) := by
  subst hK
  intro pins s σ H x y v u Q I rx ry h
  obtain ⟨a, t, rfl, ha, ht, hn, q⟩ := h
  cases (show v = Value.ref a from rx)
  obtain ⟨ox, od, J⟩ := insA_at I ha
  obtain ⟨Z, kz, hz, _⟩ := kit_of I ry ht
  show wpAny _ _ (richCompare .NotEq _ _) _ _ _
  refine ne_own (tb := t) (by have := hr.units; omega) I.kIn J (kz.ty _ _ I.kIn hz) hn hne ho hs hf ?_
  refine wpAny_mono (wpAny_call (SlX.run_at (us := [.ref a, u]) (ws := [.ref a, y]) F hr.in1 I.env0.in1 hx I (.cons rfl (.cons ry .nil)) q)) (fun w s' z => ?_) fun _ _ x => x
  obtain ⟨z', H', I', rz, k, rfl, qz⟩ := z
  cases (show w = Value.bool k from rz)
  exact ⟨k, rfl, .bl (!k), H', I', rfl, qz⟩
theorem revLK {e : Expr} {te : TE} {k : Nat} {p1 p2 p3 pos : Pos} (he : PE X e te) (hK : X.K = K := by rfl) : PE X (.Subscript e (.Slice none none (some (.UnaryOp .USub (.Constant (.int 1) k p1) p2)) p3) pos) (tRevL K te) := by subst hK; exact pe_revL he
theorem catAK (hK : X.K = K := by rfl) : OpR X (binaryOp .Add) (rCatA K) := by subst hK; exact op_catA
end
theorem tyX_tup {K : PySem.W.Frag} {H : Hp} {p : Addr} {xs : List V} (h : SqT K H p xs) : TyX K H (.ref p) (.type "tuple") := by
  rcases h with (h | ⟨o, h⟩) | h
  · exact .base (.tup h)
  · exact .fTuple h
  · obtain ⟨o, its, n, e, c, _⟩ := h
    exact .kTuple e c
theorem kit_ty {K : PySem.W.Frag} {n : String} : PySem.W.kitOne K (.type n) (.type n) = some true := by simp [PySem.W.kitOne]
end XT

namespace XT
open PySem PySem.Spec PyProof.Rows L2
/-! ### own exception classes over any built-in one, their __init__ a def -/
/-- what is asked of the built-in class: tl its chain, nw its maker -/
structure BaseX (B nw ini : String) (tl : List Value) : Prop where
  eb : ExcBaseFacts B nw ini tl
  st : ∀ self : Value, PySem.refuseLoop self "__setattr__" tl = pure ()
  ob : tl.contains (.type "object") = true
theorem bx_Value : BaseX "ValueError" "ValueError.__new__" "ValueError.__init__" [.type "ValueError", .type "Exception", .type "BaseException", .type "object"] := ⟨F.excBase_ValueError, F.store_ValueError.passes, by decide +kernel⟩
theorem bx_Runtime : BaseX "RuntimeError" "RuntimeError.__new__" "RuntimeError.__init__" [.type "RuntimeError", .type "Exception", .type "BaseException", .type "object"] := ⟨F.excBase_RuntimeError, F.store_RuntimeError.passes, by decide +kernel⟩
theorem bx_Lookup : BaseX "LookupError" "LookupError.__new__" "LookupError.__init__" [.type "LookupError", .type "Exception", .type "BaseException", .type "object"] := ⟨F.excBase_LookupError, F.store_LookupError.passes, by decide +kernel⟩
theorem bx_Overflow : BaseX "OverflowError" "OverflowError.__new__" "OverflowError.__init__" [.type "OverflowError", .type "ArithmeticError", .type "Exception", .type "BaseException", .type "object"] := ⟨F.excBase_OverflowError, F.store_OverflowError.passes, by decide +kernel⟩
section
variable {tl : List Value}
theorem chain_has (cs : List Addr) (n : String) : (cs.map Value.ref ++ tl).contains (.type n) = tl.contains (.type n) := by
  induction cs with
  | nil => rfl
  | cons c cs ih =>
    rw [List.map_cons, List.cons_append, List.contains_cons, ih]
    rfl
theorem chain_pass (st : ∀ self : Value, PySem.refuseLoop self "__setattr__" tl = pure ()) (self : Value) (cs : List Addr) : PySem.refuseLoop self "__setattr__" (cs.map Value.ref ++ tl) = pure () := by
  induction cs with
  | nil => exact st self
  | cons c cs ih =>
    rw [List.map_cons, List.cons_append, PySem.refuseLoop_ref]
    exact ih
end
/-- the written part of such a class -/
structure OexG (K : PySem.W.Frag) (C : Addr) (tl : List Value) (nw : String) : Prop where
  cls : ∃ (nm q : Str) (N : Addr) (bs : List Value) (cs : List Addr) (sn : List Str) (sub : List Value) (ab : Bool) (col : Option Bool) (dd : Option Addr) (k0 k1 k2 k3 k5 : Option Value), K.lookup C = some (excClassObj nm q C N bs (cs.map Value.ref ++ tl) true sn sub ab col dd k0 k1 k2 k3 k5 nw)
  sa : PySem.W.findIn K (.ref C) "__setattr__" = some (some (.builtin "object.__setattr__"))
  exC : PySem.W.subIn K (.ref C) (.type "BaseException") = some true
  tyC : PySem.W.typeIn K (.ref C) = some (.type "type")
  kC : PySem.W.keepIn K (.ref C) = true
section
variable {prog : Program} {w : World} {A : Around} {R : Result → Shared → Prop} {hp : Heap} {g : Array GenState} {d : Drawn} {t : Nat} {os : OsState}
/-- the first field of such an exception -/
theorem gx_store {K : PySem.W.Frag} {name : Str} {tk : Tok} {v : Value} {x C : Addr} {fv : Array Value} {cd : ClassData} {tl : List Value} {cs : List Addr} (st : ∀ self : Value, PySem.refuseLoop self "__setattr__" tl = pure ()) (ob : tl.contains (.type "object") = true)
    (X : K.In hp) (hx : hp.get? x = some { cls := .ref C, data := .fields fv }) (hcd : PySem.W.clsIn K C = some cd) (hm : cd.mro = (C :: cs).map Value.ref ++ tl) (hh : cd.hasDict = true) (ha : PySem.W.findIn K (.ref C) name = some none)
    (hq : ∀ h' tk' dx, (∀ b o, b ≠ x → hp.get? b = some o → h'.get? b = some o) → hp.objs.size ≤ dx → dx ≠ x → h'.get? x = some { cls := .ref C, dict := some dx, data := .fields fv } →
      h'.Ns1 dx (fun y => if y = name then some v else none) → R (.ok (.ret .none)) ⟨h', g, d, tk', os⟩) :
    codeAny (model prog w) A (.call (.builtin "object.__setattr__") ⟨[.ref x, .str name tk, v], []⟩) R ⟨hp, g, d, t, os⟩ := by
  have J : PySem.W.InstAt hp x { cls := .ref C, data := .fields fv } C none := ⟨hx, rfl, rfl, trivial⟩
  have hob : cd.mro.contains (.type "object") = true := by rw [hm, chain_has, ob]
  have hne : cd.mro.isEmpty = false := by rw [hm]; rfl
  have hx0 : x ≠ hp.objs.size := Nat.ne_of_lt (Heap.lt_size hx)
  have isO : PySem.W.Looks (model prog w) hp (isInstance (.ref x) (.type "object")) true := J.type.andThen (PySem.W.looks_mroIn X (by unfold PySem.W.mroIn; rw [hcd, Option.bind_some, if_neg (by rw [hne]; decide), hob]))
  have SF := F.store_object
  refine codeAny_call_builtin SF.slot.plain SF.entry (@PySem.W.check_slot (model prog w) _ _ ⟨hp, g, d, t, os⟩ "object.__setattr__" "object" "__setattr__" (.ref x) [.str name tk, v] [] _ SF.kind SF.split isO (SF.args (.ref x) (.str name tk) v) ?_)
  have lm : PySem.W.Looks (model prog w) hp (mroOf (.ref C)) cd.mro := (PySem.W.looks_clsIn X hcd).andThen .now
  have lc : PySem.W.Looks (model prog w) hp (classData C) cd := PySem.W.looks_clsIn X hcd
  have lt : PySem.W.Looks (model prog w) hp (Builtin.ObjectAttr.storeTaker? none) none := .now
  rw [PySem.W.osa_eq, PySem.refuse_eq]
  refine wpAny_bind (wpAny_bind (J.type.at (wpAny_bind (lm.at ?_))))
  rw [hm, chain_pass st]
  refine wpAny_pure (wpAny_bind (J.type.at (wpAny_bind ((PySem.W.looks_findIn X ha).at (wpAny_bind (lt.at ?_))))))
  show wpAny _ _ (Builtin.ObjectAttr.storeInOwnDict (.ref x) (.ref C) (.str name tk) name v false) _ _ _
  obtain ⟨nm, bs, mro, ns, qn, hd, sn, sb, ab, col, del⟩ := cd
  dsimp only at hh
  subst hh
  unfold Builtin.ObjectAttr.storeInOwnDict Builtin.ObjectAttr.ownDictForStores
  repeat (first | with_reducible refine PySem.HandSPX.store_in_new ?_ ?_ | with_reducible refine wpAny_loadPart_at hx ?_ | with_reducible refine lc.at ?_ | wp_step)
  · exact ⟨_, #[], _, (Heap.get?_update_ne _ _ _ _ hx0.symm).trans (Heap.get?_push_at rfl rfl), rfl, fun e he => absurd he (by simp), fun _ => rfl⟩
  · intro h' tk' hn' hs
    have hx1 : (hp.push { cls := .type "dict", data := .dict #[] }).get? x = some { cls := .ref C, data := .fields fv } := Heap.get?_push_of_some _ hx
    exact hq h' tk' hp.objs.size (fun b o hb ho => (hs.2 b (Nat.ne_of_lt (Heap.lt_size ho))).trans ((Heap.get?_update_ne _ _ _ _ hb).trans (Heap.get?_push_of_some _ ho))) (Nat.le_refl _) hx0.symm ((hs.2 x hx0).trans (Heap.get?_update_self _ hx1 rfl)) hn'
end
section
variable {X : Cx} {pins : List (Addr × Obj)} {σ : L2.St} {H : Hp} {s : Shared} {a C : Addr} {f : Str} {y : V} {u : Value} {Q : Unit → Shared → Prop} {E : Value → Shared → Prop} {A : Around} {B nw ini : String} {tl : List Value}
theorem gst_new (bx : BaseX B nw ini tl) (T : OexG X.K C tl nw) (I : Inv X pins σ H s) (e : H a = some (exo a C none)) (hno : PySem.W.findIn X.K (.ref C) f = some none) (ry : RelV y u)
    (h : ∀ dx s', H dx = none → dx ≠ a → Inv X pins σ (upd (upd H dx (exd dx [(f, y)])) a (exo a C (some dx))) s' → Q () s') : wpAny (model X.prog X.w) A (setAttr (.ref a) f u) Q E s := by
  obtain ⟨nm, q, N, bs, cs, sn, sub, ab, col, dd, k0, k1, k2, k3, k5, hC⟩ := T.cls
  have hcl : PySem.W.clsIn X.K C = some { name := nm, bases := bs, mro := .ref C :: (cs.map Value.ref ++ tl), ns := N, qualname := q, hasDict := true, slotNames := sn, subclasses := sub, abstract := ab, collection := col, hasDel := false } := by unfold PySem.W.clsIn; rw [hC] <;> rfl
  obtain ⟨t1, ho⟩ := exo_at I.hok e
  obtain ⟨hp, g, d, t, os⟩ := s
  refine PySem.W.set_plain I.kIn (ox := { cls := .ref C, dict := none, data := .fields #[.ref t1, .none, .none, .none, .bool false, .none] }) (od := none) ⟨ho, rfl, rfl, trivial⟩ T.sa ?_
  refine gx_store (cs := cs) bx.st bx.ob I.kIn ho hcl rfl rfl hno (fun h' tk' dx k dn dne hx hn => ?_)
  have fresh : H dx = none := I.hok.fresh dn
  have low : ∀ {b : Addr} {o : Obj}, hp.get? b = some o → b ≠ dx := fun z => Nat.ne_of_lt (Nat.lt_of_lt_of_le (Heap.lt_size z) dn)
  have notA : ∀ {b : Addr}, H b = none → b ≠ a := fun {b} n z => by rw [z, e] at n; cases n
  have both : ∀ {b : Addr} {v : HO}, H b = some v → exo a C none ≠ v → upd (upd H dx (exd dx [(f, y)])) a (exo a C (some dx)) b = some v := fun {b v} z ne => by
    rw [upd_ne (fun q => by rw [q, e] at z; exact ne (Option.some.inj z)), upd_ne (fun q => by rw [q, fresh] at z; cases z)]
    exact z
  have U : Un X.fs [] H (upd (upd H dx (exd dx [(f, y)])) a (exo a C (some dx))) hp h' := {
    keep := fun b o z n _ _ => k b o (notA n) z
    slot := fun b o z n _ _ => ⟨o.slots, k b o (notA n) z⟩
    free := fun b o z n _ => by rw [upd_ne (notA n), upd_ne (low z)]; exact n
    there := fun b o z _ => by
      by_cases hb : b = a
      · subst hb
        exact ⟨_, hx⟩
      · exact ⟨o, k b o hb z⟩
    tups := fun b xs z => both z exo_tup
    frzs := fun b o v z => both z exo_frz
    tbls := fun b ps z => ⟨#[], by rw [both z exo_tbl]; simp⟩ }
  refine h dx _ fresh dne (I.un (t' := tk') U fun b o z => ?_)
  by_cases hb : b = a
  · subst hb
    rw [upd_same] at z
    cases z
    exact exo_ok hx
  · rw [upd_ne hb] at z
    by_cases hd : b = dx
    · subst hd
      rw [upd_same] at z
      cases z
      exact exd_ok hn (relO_put (fs := []) ry fun g => True.intro)
    · rw [upd_ne hd] at z
      refine (I.hok b o z).stay (fun c v hc zz => k c v ?_ zz) (fun c hc => both hc exo_own) (fun c xs hc => both hc exo_tup)
      rcases hc with rfl | hc
      · exact hb
      · exact at_ne e hc exo_own
end
/-- self.f = e in such an __init__ -/
def tGst (K : PySem.W.Frag) (f : Str) (to te : TE) : TS := fun D σ H => te σ H fun y H1 => to σ H1 fun x H2 => ∃ (a C : Addr) (B nw ini : String) (tl : List Value), x = .ref a ∧ BaseX B nw ini tl ∧ OexG K C tl nw ∧ PySem.W.findIn K (.ref C) f = some none ∧
  H2 a = some (exo a C none) ∧ ∀ dx, H2 dx = none → dx ≠ a → D.nx σ (upd (upd H2 dx (exd dx [(f, y)])) a (exo a C (some dx)))
section
variable {X : Cx} {o e : Expr} {es : List Expr} {to te : TE} {ta : TA} {f : Str} {p p' pos : Pos} {B nw ini : String} {tl : List Value}
theorem ps_gst (ho : PE X o to) (he : PE X e te) (hs : swapsWith e (some (.Attribute o f p')) pos.line X.env = pure false := by rfl) : PS X (.Assign [.Attribute o f p'] e pos) (tGst X.K f to te) := by
  refine ⟨fun pins s σ H D I h => ?_⟩
  refine plainObj_wpAny_Assign_Attribute (thn (he.run pins s σ H _ I h) fun v s1 ⟨y, H1, I1, r1, q1⟩ => thn (ho.run pins s1 σ H1 _ I1 q1) fun u s2 ⟨x, H2, I2, r2, a, C, B, nw, ini, tl, ex, bx, T, hno, ea, q⟩ => ?_) hs
  subst ex
  obtain rfl : u = Value.ref a := r2
  exact gst_new bx T I2 ea hno r1 fun dx s' n ne J => ⟨σ, _, J, q dx n ne⟩
/-- C(e, ..) to be raised -/
theorem pmk_gex {CX : CXT} {x : Str} {C fI : Addr} {k : Nat} {fd : FuncData} {ps : List Str} {sp : Sp} (bx : BaseX B nw ini tl) (T : OexG X.K C tl nw) (iC : PySem.W.findIn X.K (.ref C) "__init__" = some (some (.ref fI))) (tI : PySem.W.typeIn X.K (.ref fI) = some (.type "function"))
    (F1 : FnOk X.prog X.w X.K X.mg X.base CX k fI fd ps sp) (hr : Room (k + 1) X.A) (hb : Binds X.K fd ps []) (hx : Passes CX X (fun _ _ _ => False)) (hg : Gl X x) (hm : X.mg x = some (.ref C)) (ha : PA X (e :: es) ta)
    (hdb : (x == ("__debug__" : Str)) = false := by decide) (he : starEach (e :: es) X.env = (false, eval e X.env) :: starEach es X.env := by rfl) (hpl : (backTo pos (starEach es X.env)).any (·.1) = false := by rfl) :
    PMk X (.Call (.Name x p) (e :: es) [] pos) (tMkO C sp [] ta) := by
  intro pins s σ H Q I h
  obtain ⟨nm, q, N, bs, cs, sn, sub, ab, col, dd, k0, k1, k2, k3, k5, hC⟩ := T.cls
  refine wpAny_Call_Name_kw (ld_glob I hg hm ?_ hdb)
  refine PySem.W.callWith_K (h₀ := X.base) I.ok.mod.kin T.kC (thn (ha.run pos pins s σ H _ I h) fun us s1 ⟨vs, H1, I1, r1, hz, q1⟩ => ⟨I1.kIn, ?_⟩) he hpl
  show wpAny _ _ (call (.ref C) us) _ _ _
  obtain ⟨hp, g, dr, tk, os⟩ := s1
  have up : hp.objs.size ≤ hp.objs.size + 1 := Nat.le_succ _
  have hq := q1 (hp.objs.size + 1) (I1.hok.fresh up)
  have kk : ∀ b o, hp.get? b = some o → ((hp.push (PySem.W.kdv_tup us)).push (PySem.HandSPX.excO C hp.objs.size)).get? b = some o := fun b o z => Heap.get?_push_of_some _ (Heap.get?_push_of_some _ z)
  have I2 : Inv X pins σ (upd H1 (hp.objs.size + 1) (exo (hp.objs.size + 1) C none)) ⟨(hp.push (PySem.W.kdv_tup us)).push (PySem.HandSPX.excO C hp.objs.size), g, dr, tk, os⟩ :=
    I1.laid (t' := tk) (a := hp.objs.size + 1) (o := exo (hp.objs.size + 1) C none) kk up (exo_ok (t1 := hp.objs.size) (by heap_get))
  have r2 : Vals (V.ref (hp.objs.size + 1) :: (vs ++ [])) (Value.ref (hp.objs.size + 1) :: us) := .cons rfl (by rw [List.append_nil]; exact r1)
  have hl : (Value.ref (hp.objs.size + 1) :: us).length = ps.length := r2.length.symm.trans (F1.len _ _ _ _ hq)
  have hus : us.length ≤ sizeLine := by
    rw [← Paired.length r1, sizeLine_eq]
    omega
  have hbd := hb ⟨(hp.push (PySem.W.kdv_tup us)).push (PySem.HandSPX.excO C hp.objs.size), g, dr, tk, os⟩ (Value.ref (hp.objs.size + 1) :: us) I2.kIn (by simpa using hl)
  refine wpAny_call (PySem.HandSPX.call_own bx.eb (chain_has cs) (I1.kIn _ _ hC) (PySem.W.looks_findIn I1.kIn iC) (fun self => PySem.W.bind_fn I1.kIn self tI) hus
    (codeAny_mono (F1.run _ X.stack _ _ ⟨Value.ref (hp.objs.size + 1) :: us, []⟩ (Value.ref (hp.objs.size + 1) :: us) _ _ (fun _ _ _ => False) (hr.make C us []) (I2.env0.make C us []) (by simpa using hbd) r2 hq) fun r s' hq' => ?_))
  match r, hq' with
  | .error er, hq' => exact hx pins σ _ _ er s' I2 hq'
  | .ok (.ret u), hq' =>
    obtain ⟨v, H2, os2, bare2, un2, hok2, rv, ev, d, fs, ea, ed, hd1, q2⟩ := hq'
    subst ev
    obtain ⟨h2, g2, d2, t2, os'⟩ := s'
    exact ⟨rv, mk_end (raises_own T.exC T.tyC) I1 up kk un2 hok2 os2 bare2 ea ed hd1 q2⟩
end
/-- what the written part says of such an error -/
structure ErrG (K : PySem.W.Frag) (C fI : Addr) (f : Str) (B nw ini : String) (tl : List Value) : Prop where
  bx : BaseX B nw ini tl
  oex : OexG K C tl nw
  iC : PySem.W.findIn K (.ref C) "__init__" = some (some (.ref fI))
  tI : PySem.W.typeIn K (.ref fI) = some (.type "function")
  no : PySem.W.findIn K (.ref C) f = some none
  ga : PySem.W.findIn K (.ref C) "__getattribute__" = some (some (.builtin "BaseException.__getattribute__"))
  gg : PySem.W.findIn K (.ref C) "__getattr__" = some none
  hd : PySem.W.hasDictIn K C = true
  ha : PySem.W.findIn K (.ref C) "__class__" = some (some (.builtin "object.__class__"))
  hn : PySem.W.specialIn K (.builtin "object.__class__") "__get__" = some (some (.builtin "getset_descriptor.__get__"))
  ht : PySem.W.takesIn K (.builtin "object.__class__") = some true
  hm : PySem.W.mroIn K C (.type "object") = some true
section
variable {K : PySem.W.Frag} {C fI : Addr} {f : Str} {B nw ini : String} {tl : List Value}
theorem ErrG.xf (T : ErrG K C fI f B nw ini tl) : XfC K C := ⟨T.ga, T.gg, T.oex.exC, T.hd⟩
theorem ErrG.exc (T : ErrG K C fI f B nw ini tl) : ExcC K C := ⟨T.ga, T.gg, T.oex.exC, T.hd, T.ha, T.hn, T.ht, T.hm⟩
/-- raise C(e) in a def -/
theorem ps_raiseG {X : Cx} {W : WX} {x : Str} {k : Nat} {fd : FuncData} {ps : List Str} {e : Expr} {te : TE} {p pos rpos : Pos} (T : ErrG X.K C fI f B nw ini tl) (F1 : FnOk X.prog X.w X.K X.mg X.base CX0 k fI fd ps (spErr f C)) (hb : Binds X.K fd ps []) (hr : Room (k + 1) X.A)
    (hm : X.mg x = some (.ref C)) (hc : X.calm = true) (tk : Takes X W) (he : PE X e te) (hg : Gl X x := by rfl) (hdb : (x == ("__debug__" : Str)) = false := by decide)
    (hs : starEach [e] X.env = (false, eval e X.env) :: starEach [] X.env := by rfl) (hpl : (backTo pos (starEach [] X.env)).any (·.1) = false := by rfl) :
    PS X (.Raise (some (.Call (.Name x p) [e] [] pos)) none rpos) (fun _ σ H => tErr C f te σ H fun cls d H' => W cls d σ H') :=
  ps_raise hc tk (pmk_gex T.bx T.oex T.iC T.tI F1 hr hb pass0 hg hm (pa_cons he pa_nil hs) hdb hs hpl)
end
end XT

namespace XT
open PySem PySem.Spec PyProof.Rows L2
/-! ### sorted(t) of a tuple of ints -/
def rSortedA (K : PySem.W.Frag) : List V → Hp → VK → Prop := fun vs H Q => ∃ (a : Addr) (ns : List Int), vs = [V.ref a] ∧ (SqL K H a (ns.map V.int) ∨ SqT K H a (ns.map V.int)) ∧
  ∀ (ns' : List Int) (p : Addr), ns'.Perm ns → ns'.Pairwise (· ≤ ·) → H p = none → Q (.ref p) (upd H p (.lst (ns'.map V.int)))
section
variable {X : Cx}
theorem cr_sortedA : CallR X (.builtin "sorted") (rSortedA X.K) := by
  intro pins s σ H vs us Q I r h
  obtain ⟨a, ns, rfl, hs | hs, q⟩ := h
  · exact cr_sortedI pins s σ H _ us Q I r ⟨a, ns, rfl, hs, q⟩
  obtain ⟨its, rv, hl, hz⟩ := I.tuple hs
  rw [Vals.ref1 r]
  have hi := rv.ints
  have hle : its.length ≤ sizeLine := by rw [← rv.length]; exact hz
  obtain ⟨o, ho, hc, n, hd⟩ := hl
  refine Calls.call_function_entry kind_sorted plain_sorted entry_sorted (args_sorted1 _) ?_
  unfold Builtin.«sorted»
  refine wpAny_bind (m := checkCount "sorted" 1 1 _) (wpAny_pure ?_)
  refine wpAny_bind (wpAny_collect_seq a (.inr rfl) ho hc hd (fun h' hk => ?_) (by rw [List.size_toArray]; exact hle))
  have e0 : its.toArray.toList = its := by simp
  rw [e0]
  refine wpAny_bind (wpAny_newList ?_ hle)
  have hoL : (h'.push (seqObj "list" its.toArray 0)).get? h'.objs.size = some (seqObj "list" its.toArray 0) := Heap.get?_push_size _ rfl
  show wpAny _ _ _ _ _ { s with heap := h'.push (seqObj "list" its.toArray 0) }
  refine wpAny_bind (wpAny_holding (wpAny_call_entry slot_list_sort ⟨_, hoL, rfl⟩ entry_list_sort (SrtO.list_sort_ord SrtO.swo_int hoL hle (fun h2 => SrtO.ints_sortable hi h2) fun out q1 q2 => ⟨_, rfl, ?_⟩) (args_list_sort _)))
  refine wpAny_pure ⟨_, rfl, ?_⟩
  obtain ⟨k1, k2, k3⟩ := SrtO.ints_out hi q1 q2
  obtain ⟨ep, he'⟩ := PyProof.Rows.sortedHeap_at (vs := its) (out := out.toArray) hoL
  have hlen : ((out.map SrtO.iv).map V.int).length ≤ sizeLine := by
    rw [List.length_map, k2.length_eq]
    rw [List.length_map] at hz
    exact hz
  have I1 : Inv X pins σ H { s with heap := h' } := I.kept (t' := s.toks) hk
  have h2 : ∀ b u, h'.get? b = some u → b ≠ h'.objs.size ∧ (h'.push (seqObj "list" its.toArray 0)).get? b = some u := fun b u z => ⟨Nat.ne_of_lt (Heap.lt_size z), Heap.get?_push_of_some _ z⟩
  exact ⟨.ref _, upd H h'.objs.size (.lst ((out.map SrtO.iv).map V.int)), I1.laid (t' := s.toks) (fun b u z => by rw [PyProof.Rows.sortedHeap_old (h2 b u z).1 (Heap.lt_size (h2 b u z).2)]; exact (h2 b u z).2) (Nat.le_refl _) ⟨hlen, out, ep, vals_of_ints k1, he'⟩, rfl, q _ _ k2 k3 (I1.hok.fresh (Nat.le_refl _))⟩
theorem sortedAK (K : PySem.W.Frag) (hK : X.K = K := by rfl) : CallR X (.builtin "sorted") (rSortedA K) := by subst hK; exact cr_sortedA
end
end XT

namespace XT
open PySem PySem.Spec PyProof.Rows L2
/-! ### what stands side by side -/
section
variable {α β : Type} {F : α → β → Prop}
theorem pd_append : ∀ {l m : List α} {l' m' : List β}, Paired F l l' → Paired F m m' → Paired F (l ++ m) (l' ++ m')
  | _, _, _, _, .nil, h => h
  | _, _, _, _, .cons r t, h => .cons r (pd_append t h)
theorem pd_get : ∀ {l : List α} {l' : List β}, Paired F l l' → ∀ {i : Nat} {x : α}, l[i]? = some x → ∃ y, l'[i]? = some y ∧ F x y
  | _, _, .nil, _, _, h => by simp at h
  | _, _, .cons r t, 0, _, h => ⟨_, rfl, by
      have : some _ = some _ := h
      cases this
      exact r⟩
  | _, _, .cons r t, i + 1, x, h => by
      obtain ⟨y, h1, h2⟩ := pd_get t (i := i) (x := x) (by simpa using h)
      exact ⟨y, by simpa using h1, h2⟩
theorem pd_get' : ∀ {l : List α} {l' : List β}, Paired F l l' → ∀ {i : Nat} {y : β}, l'[i]? = some y → ∃ x, l[i]? = some x ∧ F x y
  | _, _, .nil, _, _, h => by simp at h
  | _, _, .cons r t, 0, _, h => ⟨_, rfl, by
      have : some _ = some _ := h
      cases this
      exact r⟩
  | _, _, .cons r t, i + 1, x, h => by
      obtain ⟨y, h1, h2⟩ := pd_get' t (i := i) (y := x) (by simpa using h)
      exact ⟨y, by simpa using h1, h2⟩
theorem pd_take : ∀ {l : List α} {l' : List β} (n : Nat), Paired F l l' → Paired F (l.take n) (l'.take n)
  | _, _, 0, _ => by simpa using Paired.nil
  | _, _, n + 1, .nil => by simpa using Paired.nil
  | _, _, n + 1, .cons r t => by
      rw [List.take_succ_cons, List.take_succ_cons]
      exact .cons r (pd_take n t)
theorem pd_drop : ∀ {l : List α} {l' : List β} (n : Nat), Paired F l l' → Paired F (l.drop n) (l'.drop n)
  | _, _, 0, h => h
  | _, _, n + 1, .nil => by simpa using Paired.nil
  | _, _, n + 1, .cons r t => by
      rw [List.drop_succ_cons, List.drop_succ_cons]
      exact pd_drop n t
theorem pd_rev : ∀ {l : List α} {l' : List β}, Paired F l l' → Paired F l.reverse l'.reverse
  | _, _, .nil => .nil
  | _, _, .cons r t => by
      rw [List.reverse_cons, List.reverse_cons]
      exact pd_append (pd_rev t) (.cons r .nil)
theorem pd_rep (n : Nat) {l : List α} {l' : List β} (h : Paired F l l') : Paired F (List.replicate n l).flatten (List.replicate n l').flatten := by
  induction n with
  | zero => exact .nil
  | succ n ih =>
    rw [List.replicate_succ, List.replicate_succ, List.flatten_cons, List.flatten_cons]
    exact pd_append h ih
end
/-! ### steps -/
/-- a step: an insertion (true) or a removal, and its number -/
abbrev Stp := Bool × Int
def wrd : Bool → Str
  | true => "insert"
  | false => "remove"
def goodS (s : Stp) : Bool := s.1 || decide (0 < s.2)
def stD (s : Stp) : PyData := .tuple [.str (wrd s.1), .int s.2]
def StAt (K : PySem.W.Frag) (H : Hp) (x : V) (s : Stp) : Prop := ∃ r, x = .ref r ∧ SqT K H r [.str (wrd s.1), .int s.2]
abbrev StsAt (K : PySem.W.Frag) (H : Hp) : List V → List Stp → Prop := Paired (StAt K H)
theorem StAt.same {K : PySem.W.Frag} {H H' : Hp} {x : V} {s : Stp} (h : StAt K H x s) (e : Same H H') : StAt K H' x s := let ⟨r, a, b⟩ := h; ⟨r, a, same_seqT e b⟩
theorem sts_same {K : PySem.W.Frag} {H H' : Hp} {xs : List V} {L : List Stp} (h : StsAt K H xs L) (e : Same H H') : StsAt K H' xs L := L2.Paired.mapP h fun _ _ z => z.same e
theorem st_of {K : PySem.W.Frag} {H : Hp} {r : Addr} {b : Bool} {i : Int} (h : H r = some (.tup [.str (wrd b), .int i])) : StAt K H (.ref r) (b, i) := ⟨r, rfl, SqT.of h⟩
theorem st_dp {K : PySem.W.Frag} {H : Hp} {x : V} {s : Stp} (h : StAt K H x s) : Dp K H x (stD s) := by
  obtain ⟨r, rfl, hr⟩ := h
  exact .tup hr (.cons (.str _) (.cons (.int _) .nil))
theorem sts_dp {K : PySem.W.Frag} {H : Hp} : ∀ {xs : List V} {L : List Stp}, StsAt K H xs L → DpAll K H xs (L.map stD)
  | _, _, .nil => .nil
  | _, _, .cons r t => .cons (st_dp r) (sts_dp t)
theorem dp_stsT {K : PySem.W.Frag} {H : Hp} {p : Addr} {xs : List V} {L : List Stp} (h : SqT K H p xs) (k : StsAt K H xs L) : Dp K H (.ref p) (.tuple (L.map stD)) := .tup h (sts_dp k)
theorem dp_stsL {K : PySem.W.Frag} {H : Hp} {p : Addr} {xs : List V} {L : List Stp} (h : SqL K H p xs) (k : StsAt K H xs L) : Dp K H (.ref p) (.list (L.map stD)) := .lst h (sts_dp k)
theorem wrd_inj {b c : Bool} : (wrd b == wrd c) = decide (b = c) := by cases b <;> cases c <;> decide +kernel
theorem eqv_st (s t : Stp) : PyData.eqv (stD s) (stD t) = decide (s = t) := by
  obtain ⟨b, i⟩ := s
  obtain ⟨c, j⟩ := t
  have h1 : PyData.eqv (.str (wrd b)) (.str (wrd c)) = decide (b = c) := by
    have := wrd_inj (b := b) (c := c)
    simp only [PyData.eqv]
    first | exact this | simpa using this
  have h2 : PyData.eqv (.int i) (.int j) = decide (i = j) := by
    simp only [PyData.eqv]
    rw [Bool.eq_iff_iff]
    simp
  simp only [stD, PyData.eqv, PyData.eqvAll]
  simp only [PyData.eqv] at h1 h2
  first
    | (rw [h1, h2, Bool.and_true, Bool.eq_iff_iff]; simp)
    | (simp only [h1, h2]; rw [Bool.eq_iff_iff]; simp)
theorem eqvAll_sts (L : List Stp) : ∀ M : List Stp, PyData.eqvAll (L.map stD) (M.map stD) = decide (L = M) := by
  induction L with
  | nil =>
    intro M
    cases M <;> simp [PyData.eqvAll]
  | cons x L ih =>
    intro M
    cases M with
    | nil => simp [PyData.eqvAll]
    | cons y M =>
      rw [List.map_cons, List.map_cons, PyData.eqvAll, ih, eqv_st, Bool.eq_iff_iff]
      simp
theorem eqv_stsT (L M : List Stp) : PyData.eqv (.tuple (L.map stD)) (.tuple (M.map stD)) = decide (L = M) := by
  rw [PyData.eqv]
  exact eqvAll_sts L M
theorem eqv_stsL (L M : List Stp) : PyData.eqv (.list (L.map stD)) (.list (M.map stD)) = decide (L = M) := by
  rw [PyData.eqv]
  exact eqvAll_sts L M
theorem wrd_ok (b : Bool) : PyData.strOk (wrd b) = true := by cases b <;> exact ok_of _
theorem canLay_sts : ∀ L : List Stp, PyData.canLayAll0 (L.map stD) = true
  | [] => rfl
  | x :: L => by simp [PyData.canLayAll0, PyData.canLay0, stD, wrd_ok, canLay_sts L]
theorem depth_sts : ∀ L : List Stp, PyData.depthAll (L.map stD) ≤ 1
  | [] => by simp [PyData.depthAll]
  | x :: L => by
    have := depth_sts L
    simp [PyData.depthAll, PyData.depth, stD]
    omega
theorem sh_stsT (L : List Stp) : SeqAt.shaped (.tuple (L.map stD)) = true := by
  have := depth_sts L
  simp [SeqAt.shaped, PyData.canLay0, PyData.depth, canLay_sts]
  omega
theorem sh_stsL (L : List Stp) : SeqAt.shaped (.list (L.map stD)) = true := by
  have := depth_sts L
  simp [SeqAt.shaped, PyData.canLay0, PyData.depth, canLay_sts]
  omega
end XT

namespace XT
open PySem PySem.Spec PyProof.Rows L2
/-! ### running a sequence on a list -/
def srt (L : List Int) : List Int := L.mergeSort fun a b => decide (a ≤ b)
theorem srt_perm (L : List Int) : (srt L).Perm L := List.mergeSort_perm L _
theorem srt_up (L : List Int) : (srt L).Pairwise (· ≤ ·) := by
  have := List.pairwise_mergeSort (le := fun a b : Int => decide (a ≤ b)) (by simp; omega) (by simp; omega) L
  exact this.imp fun h => by simpa using h
theorem srt_of {N L : List Int} (p : N.Perm L) (u : N.Pairwise (· ≤ ·)) : N = srt L :=
  List.Perm.eq_of_pairwise (le := (· ≤ ·)) (fun a b _ _ h1 h2 => Int.le_antisymm h1 h2) u (srt_up L) (p.trans (srt_perm L).symm)
theorem srt_len (L : List Int) : (srt L).length = L.length := (srt_perm L).length_eq
def stepR (L : List Int) : Stp → Option (List Int)
  | (true, x) => some (srt (L ++ [x]))
  | (false, k) => if (L.length : Int) < k then none else some (L.take (k - 1).toNat ++ L.drop k.toNat)
def runR (L : List Int) (i : Nat) : List Stp → List Int ⊕ Nat
  | [] => .inl L
  | s :: r => match stepR L s with
    | none => .inr i
    | some M => runR M (i + 1) r
theorem runR_step {L M : List Int} {i : Nat} {S : List Stp} {s : Stp} (h : S[i]? = some s) (e : stepR L s = some M) : runR L i (S.drop i) = runR M (i + 1) (S.drop (i + 1)) := by
  obtain ⟨hi, hs⟩ := List.getElem?_eq_some_iff.mp h
  rw [List.drop_eq_getElem_cons hi, hs]
  simp only [runR, e]
theorem runR_fail {L : List Int} {i : Nat} {S : List Stp} {s : Stp} (h : S[i]? = some s) (e : stepR L s = none) : runR L i (S.drop i) = .inr i := by
  obtain ⟨hi, hs⟩ := List.getElem?_eq_some_iff.mp h
  rw [List.drop_eq_getElem_cons hi, hs]
  simp only [runR, e]
theorem stepR_len {L M : List Int} {s : Stp} (e : stepR L s = some M) : M.length ≤ L.length + 1 := by
  obtain ⟨b, k⟩ := s
  cases b with
  | true =>
    have e' : some (srt (L ++ [k])) = some M := e
    cases e'
    rw [srt_len, List.length_append]
    simp
  | false =>
    simp only [stepR] at e
    split at e
    · cases e
    · cases e
      rw [List.length_append, List.length_take, List.length_drop]
      omega
theorem cut_to (n : Nat) (xs : List V) : cutV xs none (some (n : Int)) = xs.take n := by
  unfold cutV
  have e : HT.sIx xs.length xs.length (some (n : Int)) = min n xs.length := HT.sIx_nat xs.length xs.length n
  rw [HT.sIx_none, e]
  simp
  try omega
theorem cut_from (n : Nat) (xs : List V) : cutV xs (some (n : Int)) none = xs.drop n := by
  unfold cutV
  have e : HT.sIx xs.length 0 (some (n : Int)) = min n xs.length := HT.sIx_nat xs.length 0 n
  rw [e, HT.sIx_none]
  by_cases h : n ≤ xs.length
  · rw [Nat.min_eq_left h]
    exact List.take_of_length_le (by simp)
  · have h' : xs.length ≤ n := by omega
    rw [Nat.min_eq_right h', List.drop_eq_nil_of_le h']
    simp
theorem cut_rm {L : List Int} {k : Int} (h : 0 < k) : cutV (L.map V.int) none (some (k - 1)) ++ cutV (L.map V.int) (some k) none = (L.take (k - 1).toNat ++ L.drop k.toNat).map V.int := by
  have e1 : k - 1 = ((k - 1).toNat : Int) := by omega
  have e2 : k = (k.toNat : Int) := by omega
  have h1 := cut_to (k - 1).toNat (L.map V.int)
  have h2 := cut_from k.toNat (L.map V.int)
  rw [← e1] at h1
  rw [← e2] at h2
  rw [h1, h2, List.map_append, List.map_take, List.map_drop]
/-- what comes of it, as data -/
def resD : List Int ⊕ Nat → PyData
  | .inl M => .list [.str "list", .list (M.map PyData.int)]
  | .inr i => .list [.str "failed", .int (i : Int), .bool false]
theorem sh_res (r : List Int ⊕ Nat) : SeqAt.shaped (resD r) = true := by
  cases r with
  | inl M => simp [resD, SeqAt.shaped, PyData.canLay0, PyData.canLayAll0, PyData.depth, PyData.depthAll, canLay_ints, depth_ints, ok_of]
  | inr i => simp [resD, SeqAt.shaped, PyData.canLay0, PyData.canLayAll0, PyData.depth, PyData.depthAll, ok_of]
/-- the list that tells it -/
def ResAt (K : PySem.W.Frag) (H : Hp) (r : Addr) : List Int ⊕ Nat → Prop
  | .inl M => ∃ m, H r = some (.lst [.str "list", .ref m]) ∧ H m = some (.lst (M.map V.int))
  | .inr i => H r = some (.lst [.str "failed", .int (i : Int), .bl false])
theorem ResAt.same {K : PySem.W.Frag} {H H' : Hp} {r : Addr} {v : List Int ⊕ Nat} (h : ResAt K H r v) (e : Same H H') : ResAt K H' r v := by
  cases v with
  | inl M =>
    obtain ⟨m, a, b⟩ := h
    exact ⟨m, e _ _ a, e _ _ b⟩
  | inr i => exact e _ _ h
theorem ResAt.dp {K : PySem.W.Frag} {H : Hp} {r : Addr} {v : List Int ⊕ Nat} (h : ResAt K H r v) : Dp K H (.ref r) (resD v) := by
  cases v with
  | inl M =>
    obtain ⟨m, a, b⟩ := h
    exact .lst (SqL.of a) (.cons (.str _) (.cons (dp_lst (SqL.of b)) .nil))
  | inr i => exact .lst (SqL.of h) (.cons (.str _) (.cons (.int _) (.cons (.bl _) .nil)))
/-! ### a comprehension over a range whose element changes something -/
theorem lcE {lo : Int} {n : Nat} {g : TG} {te : TE} {vs : List Nat} {σ : L2.St} {H1 : Hp} {D : Addr} {Qd : Hp → Prop} (I : Nat → Hp → List V → Prop) (h0 : I 0 (upd H1 D (.lst [])) []) (hn : n ≤ sizeLine)
    (hl : ∀ i H acc, I i H acc → acc.length = i)
    (hs : ∀ i H acc (R : V → Hp → Prop), i < n → I i H acc → (∀ y H', H' D = some (.lst acc) → I (i + 1) (upd H' D (.lst (acc ++ [y]))) (acc ++ [y]) → R y H') → g (.int (lo + (i : Nat))) (wipe σ vs) H fun σ2 H2 => wipe σ2 vs = wipe σ vs ∧ te σ2 H2 R)
    (hd : ∀ H acc, I n H acc → Qd H) :
    ∃ W : Nat → Nat → Hp → Prop, (∃ m, W 0 m (upd H1 D (.lst []))) ∧ ∀ i m H, W i m H →
      ((Itr lo n).stop i H ∧ Qd H) ∨ ((Itr lo n).go i H ∧ ∃ Nx : Hp → Prop, (∀ H', Nx H' → ∃ m', m' < m ∧ W (i + 1) m' H') ∧ ∀ x H', (Itr lo n).yld i H x H' → g x (wipe σ vs) H' fun σ2 H2 => wipe σ2 vs = wipe σ vs ∧ tYes σ2 H2 fun b H3 =>
        if b = true then te σ2 H3 fun y H4 => ∃ acc, H4 D = some (.lst acc) ∧ acc.length < sizeLine ∧ Nx (upd H4 D (.lst (acc ++ [y]))) else Nx H3) := by
  refine ⟨fun i m H => m = n - i ∧ i ≤ n ∧ ∃ acc, I i H acc, ⟨n, by simp, Nat.zero_le _, _, h0⟩, ?_⟩
  rintro i m H ⟨rfl, hi, acc, hI⟩
  by_cases hlt : i < n
  · refine .inr ⟨hlt, fun H' => ∃ acc, I (i + 1) H' acc, fun H' p => ⟨n - (i + 1), by omega, rfl, hlt, p⟩, fun x H' y => ?_⟩
    obtain ⟨e, y⟩ := y
    subst e y
    show g _ _ _ fun σ2 H2 => _ ∧ (if true = true then te σ2 H2 fun y H4 => ∃ acc, H4 D = some (.lst acc) ∧ acc.length < sizeLine ∧ (∃ acc', I (i + 1) (upd H4 D (.lst (acc ++ [y]))) acc') else (∃ acc, I (i + 1) H2 acc))
    simp only [if_true]
    exact hs i _ acc _ hlt hI fun y H' e k => ⟨acc, e, by rw [hl i _ acc hI]; exact Nat.lt_of_lt_of_le hlt hn, _, k⟩
  · have e : i = n := by omega
    subst e
    exact .inl ⟨Nat.le_refl _, hd H acc hI⟩
/-- for i, x in enumerate(t) -/
theorem for_enT {K : PySem.W.Frag} {a : Addr} {xs : List V} {g : TG} {tb : TS} {D : Ends} {σ : L2.St} {H : Hp} (h1 : SqT K H a xs) (Pv : Nat → L2.St → Hp → Prop) (hl : ∀ i σ H, i ≤ xs.length → Pv i σ H → SqT K H a xs) (h0 : Pv 0 σ H)
    (hs : ∀ i x T σ H, i < xs.length → xs[i]? = some x → H T = none → Pv i σ H → g (.ref T) σ (upd H T (.tup [.int (i : Nat), x])) fun σ2 H2 => tb { D with nx := Pv (i + 1), ct := Pv (i + 1), bk := D.nx } σ2 H2) (hd : ∀ σ H, Pv xs.length σ H → D.nx σ H) :
    ∃ W : Nat → Nat → L2.St → Hp → Prop, (∃ m, W 0 m σ H) ∧ ∀ i m σ H, W i m σ H →
      ((IteT K a).stop i H ∧ D.nx σ H) ∨ ((IteT K a).go i H ∧ ∃ N : L2.St → Hp → Prop, (∀ σ' H', N σ' H' → ∃ m', m' < m ∧ W (i + 1) m' σ' H') ∧ ∀ x H', (IteT K a).yld i H x H' → g x σ H' fun σ2 H2 => tb { D with nx := N, ct := N, bk := D.nx } σ2 H2) := by
  refine ⟨fun i m σ H => m = xs.length - i ∧ i ≤ xs.length ∧ Pv i σ H, ⟨xs.length, by simp, Nat.zero_le _, h0⟩, ?_⟩
  rintro i m σ H ⟨rfl, hi, p⟩
  have q := hl i σ H hi p
  by_cases hlt : i < xs.length
  · have e : xs[i]? = some xs[i] := by simp [hlt]
    refine .inr ⟨⟨xs, xs[i], q, e⟩, Pv (i + 1), fun σ' H' p' => ⟨xs.length - (i + 1), by omega, rfl, hlt, p'⟩, fun x H' y => ?_⟩
    obtain ⟨T, x', e1, n, e2, y⟩ := y
    subst e1 e2
    exact hs i x' T σ H hlt (y xs q) n p
  · have e : i = xs.length := by omega
    subst e
    exact .inl ⟨⟨xs, q, Nat.le_refl _⟩, hd σ H p⟩
/-- for i, x in enumerate(l) -/
theorem for_enL {K : PySem.W.Frag} {a : Addr} {xs : List V} {g : TG} {tb : TS} {D : Ends} {σ : L2.St} {H : Hp} (Pv : Nat → L2.St → Hp → Prop) (hl : ∀ i σ H, i ≤ xs.length → Pv i σ H → SqL K H a xs) (h0 : Pv 0 σ H)
    (hs : ∀ i x T σ H, i < xs.length → xs[i]? = some x → H T = none → Pv i σ H → g (.ref T) σ (upd H T (.tup [.int (i : Nat), x])) fun σ2 H2 => tb { D with nx := Pv (i + 1), ct := Pv (i + 1), bk := D.nx } σ2 H2) (hd : ∀ σ H, Pv xs.length σ H → D.nx σ H) :
    ∃ W : Nat → Nat → L2.St → Hp → Prop, (∃ m, W 0 m σ H) ∧ ∀ i m σ H, W i m σ H →
      ((Ite K a).stop i H ∧ D.nx σ H) ∨ ((Ite K a).go i H ∧ ∃ N : L2.St → Hp → Prop, (∀ σ' H', N σ' H' → ∃ m', m' < m ∧ W (i + 1) m' σ' H') ∧ ∀ x H', (Ite K a).yld i H x H' → g x σ H' fun σ2 H2 => tb { D with nx := N, ct := N, bk := D.nx } σ2 H2) := by
  refine ⟨fun i m σ H => m = xs.length - i ∧ i ≤ xs.length ∧ Pv i σ H, ⟨xs.length, by simp, Nat.zero_le _, h0⟩, ?_⟩
  rintro i m σ H ⟨rfl, hi, p⟩
  have q := hl i σ H hi p
  by_cases hlt : i < xs.length
  · have e : xs[i]? = some xs[i] := by simp [hlt]
    refine .inr ⟨⟨xs, xs[i], q, e⟩, Pv (i + 1), fun σ' H' p' => ⟨xs.length - (i + 1), by omega, rfl, hlt, p'⟩, fun x H' y => ?_⟩
    obtain ⟨T, x', e1, n, e2, y⟩ := y
    subst e1 e2
    exact hs i x' T σ H hlt (y xs q) n p
  · have e : i = xs.length := by omega
    subst e
    exact .inl ⟨⟨xs, q, Nat.le_refl _⟩, hd σ H p⟩
end XT

namespace XT
open PySem PySem.Spec PyProof.Rows L2
/-! ### own exception classes called with one keyword -/
section
variable {prog : Program} {w : World} {A : Around} {E : Value → Shared → Prop} {R : Result → Shared → Prop} {h : Heap} {g : Array GenState} {d : Drawn} {t : Nat} {os : OsState} {nm q : Str} {C N fI : Addr} {bs bm bmB : List Value} {hdct : Bool} {sn : List Str} {sub : List Value} {ab : Bool} {col : Option Bool} {dd : Option Addr}
  {k0 k1 k2 k3 k5 : Option Value} {B newId initId : String} {kf : Str} {kv : Value}
theorem kx_new {M : Model} (F : ExcBaseFacts B newId initId bmB) (hT : ∀ X : String, bm.contains (.type X) = bmB.contains (.type X)) {Q : Unit → Shared → Prop}
    (hC : h.get? C = some (excClassObj nm q C N bs bm hdct sn sub ab col dd k0 k1 k2 k3 k5 newId)) (hq : Q () ⟨h, g, d, t, os⟩) : wpAny M A (checkBuiltinCall newId ⟨[.ref C], [(kf, kv)]⟩) Q E ⟨h, g, d, t, os⟩ := by
  have hcont : (Value.ref C :: bm).contains (.type B) = true := by rw [List.contains_cons, hT, F.hasB, Bool.or_true]
  have hstar := F.noStar
  simp only [checkBuiltinCall, F.newKind, F.newSplit, F.newRow]
  repeat (first | refine wpAny_loadPart_at hC ?_ | (refine wpAny_isSubtype_exc hC ?_; rw [hcont]) | refine wpAny_staticBase_exc hC ?_ | refine wpAny_madeBy_exc hC ?_ | simp only [bne_self_eq_false, Bool.false_eq_true, if_false] | wp_step)
  exact hq
theorem kx_tc {M : Model} {Q : Unit → Shared → Prop} (hC : h.get? C = some (excClassObj nm q C N bs bm hdct sn sub ab col dd k0 k1 k2 k3 k5 newId))
    (hq : Q () ⟨h, g, d, t, os⟩) : wpAny M A (checkBuiltinCall "type.__call__" ⟨[.ref C], [(kf, kv)]⟩) Q E ⟨h, g, d, t, os⟩ := by
  have f3 := tc_sub
  have hT : (⟨h, g, d, t, os⟩ : Shared).TypeIs (.ref C) "type" := ⟨_, hC, rfl⟩
  simp only [checkBuiltinCall, tc_kind, tc_split]
  repeat (any_goals (first | assumption | with_reducible refine wpAny_loadPart_at hC ?_ | with_reducible refine wpAny_onRaise ?_ | with_reducible refine wpAny_map ?_ | wp_step))
end
end XT

namespace XT
open PySem PySem.Spec PyProof.Rows L2
section
variable {prog : Program} {w : World} {A : Around} {E : Value → Shared → Prop} {R : Result → Shared → Prop} {h : Heap} {g : Array GenState} {d : Drawn} {t : Nat} {os : OsState} {nm q : Str} {C N fI : Addr} {bs bm bmB : List Value} {hdct : Bool} {sn : List Str} {sub : List Value} {ab : Bool} {col : Option Bool} {dd : Option Addr}
  {k0 k1 k2 k3 k5 : Option Value} {B newId initId : String} {kf : Str} {kv : Value}
theorem kx_newobj (F : ExcBaseFacts B newId initId bmB) (hT : ∀ X : String, bm.contains (.type X) = bmB.contains (.type X)) (hC : h.get? C = some (excClassObj nm q C N bs bm hdct sn sub ab col dd k0 k1 k2 k3 k5 newId))
    (hq : R (.ok (.ret (.ref (h.objs.size + 1)))) ⟨(h.push (PySem.W.kdv_tup [])).push (PySem.HandSPX.excO C h.objs.size), g, d, t, os⟩) :
    codeAny (model prog w) A (.builtin newId ⟨[.ref C], [(kf, kv)]⟩) R ⟨h, g, d, t, os⟩ := by
  have hends := F.ends
  have hcB : (Value.ref C :: bm).contains (.type B) = true := by rw [List.contains_cons, hT, F.hasB, Bool.or_true]
  have hcA : (Value.ref C :: bm).contains (.type "AttributeError") = false := by rw [List.contains_cons, hT, F.noAttr]; rfl
  have hcN : (Value.ref C :: bm).contains (.type "NameError") = false := by rw [List.contains_cons, hT, F.noName]; rfl
  refine codeAny_builtinAt F.entry ?_
  unfold Builtin.«BaseException.__new__»
  refine PySem.wpAt_bind ?_
  show PySem.wpAt _ _ _ (stack >>= _) _ _ _
  refine PySem.wpAt_bind (PySem.wpAt_stack fun p below => PySem.wpAt_of_wpAny ?_)
  wp_walk
  refine PySem.wpAt_of_wpAny ?_
  rw [F.owner]
  repeat (first | with_reducible refine wpAny_madeHere_exc F.canon hC ?_ | with_reducible refine wpAny_loadPart_at hC ?_ | (with_reducible refine wpAny_isSubtype_exc hC ?_; first | rw [hcB] | rw [hcA] | rw [hcN]) | wp_step)
  show R _ _
  rw [Heap.size_push]
  exact hq
theorem kx_type {Q : PySem.Fin → Shared → Prop} (F : ExcBaseFacts B newId initId bmB) (hT : ∀ X : String, bm.contains (.type X) = bmB.contains (.type X)) (hC : h.get? C = some (excClassObj nm q C N bs bm hdct sn sub ab col dd k0 k1 k2 k3 k5 newId))
    (hi : PySem.W.Looks (model prog w) h (typeLookup (.ref C) "__init__") (some (.ref fI))) (hb : ∀ self, PySem.W.Looks (model prog w) h (bindSpecial (.ref fI) self) (.ref fI, [self]))
    (hq : codeAny (model prog w) A (.call (.ref fI) ⟨[.ref (h.objs.size + 1)], [(kf, kv)]⟩)
      (fun r s' => match r with | .ok (.ret v) => v = .none ∧ Q (.done (.ret (.ref (h.objs.size + 1)))) s' | .ok _ => False | .error e => E e s')
      ⟨(h.push (PySem.W.kdv_tup [])).push (PySem.HandSPX.excO C h.objs.size), g, d, t, os⟩) :
    wpAny (model prog w) A (Builtin.«type.__call__» ⟨[.ref C], [(kf, kv)]⟩) Q E ⟨h, g, d, t, os⟩ := by
  repeat (first | with_reducible refine wpAny_loadPart_at hC ?_ | with_reducible refine wpAny_madeBy_exc hC ?_ | wp_step)
  refine codeAny_call_builtin_code (Code.quiet_builtin _ F.quiet) (kx_new F hT hC ?_)
  refine kx_newobj F hT hC ?_
  show wpAny _ _ _ _ _ _
  have kk : ∀ b o, h.get? b = some o → ((h.push (PySem.W.kdv_tup [])).push (PySem.HandSPX.excO C h.objs.size)).get? b = some o := fun b o e => Heap.get?_push_of_some _ (Heap.get?_push_of_some _ e)
  have hC1 := kk _ _ hC
  have hget : ((h.push (PySem.W.kdv_tup [])).push (PySem.HandSPX.excO C h.objs.size)).get? (h.objs.size + 1) = some (PySem.HandSPX.excO C h.objs.size) := by heap_get
  have hcC : (Value.ref C :: bm).contains (.ref C) = true := by simp
  have i1 := hi.keeps kk
  have b1 := (hb (.ref (h.objs.size + 1))).keeps kk
  unfold isInstance
  repeat (first | with_reducible refine wpAny_loadPart_at hget ?_ | (with_reducible refine wpAny_isSubtype_exc hC1 ?_; rw [hcC]) | wp_step)
  show wpAny _ _ (typeLookup (.ref C) _) _ _ _
  refine i1.at ?_
  refine wpAny_holding (wpAny_bind (b1.at ?_))
  refine wpAny_bind (wpAny_call (codeAny_mono hq fun r s' z => ?_))
  rcases r with e | (v | _ | _ | _) <;> first | exact z | exact z.elim | skip
  obtain ⟨rfl, z⟩ := z
  first
    | exact wpAny_pure (wpAny_pure z)
    | (wp_walk; exact z)
theorem kx_call (F : ExcBaseFacts B newId initId bmB) (hT : ∀ X : String, bm.contains (.type X) = bmB.contains (.type X)) (hC : h.get? C = some (excClassObj nm q C N bs bm hdct sn sub ab col dd k0 k1 k2 k3 k5 newId))
    (hi : PySem.W.Looks (model prog w) h (typeLookup (.ref C) "__init__") (some (.ref fI))) (hb : ∀ self, PySem.W.Looks (model prog w) h (bindSpecial (.ref fI) self) (.ref fI, [self]))
    (hq : codeAny (model prog w) (A.under (.builtin "type.__call__" ⟨[.ref C], [(kf, kv)]⟩)) (.call (.ref fI) ⟨[.ref (h.objs.size + 1)], [(kf, kv)]⟩) (PySem.W.InitBack (h.objs.size + 1) R)
      ⟨(h.push (PySem.W.kdv_tup [])).push (PySem.HandSPX.excO C h.objs.size), g, d, t, os⟩) :
    codeAny (model prog w) A (.call (.ref C) ⟨[], [(kf, kv)]⟩) R ⟨h, g, d, t, os⟩ := by
  have f1 := tc_lookup
  have f2 := tc_bind (.ref C)
  have hTy : (⟨h, g, d, t, os⟩ : Shared).TypeIs (.ref C) "type" := ⟨_, hC, rfl⟩
  refine codeAny_of_tree ?_
  show wpAny _ _ (callAny (.ref C) _) _ _ _
  repeat (any_goals (first | assumption | with_reducible refine wpAny_loadPart_at hC ?_ | wp_step))
  refine ⟨rfl, ?_⟩
  refine codeAny_call_builtin_at (Code.quiet_builtin _ (by decide +kernel)) entry_typeCall (kx_tc hC (kx_type F hT hC hi hb ?_))
  refine codeAny_mono hq fun r s' z => ?_
  rcases r with e | (v | _ | _ | _) <;> exact z
end
end XT

namespace XT
open PySem PySem.Spec PyProof.Rows L2
/-! ### errors as values -/
/-- an error of the class at C stands at a, its field f holds v -/
def ErrAt (H : Hp) (C : Addr) (f : Str) (v : V) (a : Addr) : Prop := ∃ d, H a = some (exo a C (some d)) ∧ H d = some (exd d [(f, v)])
theorem ErrAt.same {H H' : Hp} {C : Addr} {f : Str} {v : V} {a : Addr} (h : ErrAt H C f v a) (e : Same H H') : ErrAt H' C f v a := let ⟨d, p, q⟩ := h; ⟨d, e _ _ p, e _ _ q⟩
theorem err_made {H : Hp} {a d C : Addr} {f : Str} {v : V} (ha : H a = none) (hd : H d = none) (ne : d ≠ a) : Same H (upd (upd (upd H a (exo a C none)) d (exd d [(f, v)])) a (exo a C (some d))) ∧ ErrAt (upd (upd (upd H a (exo a C none)) d (exd d [(f, v)])) a (exo a C (some d))) C f v a := by
  refine ⟨fun b o e => ?_, d, upd_same, by rw [upd_ne ne, upd_same]⟩
  have h1 : b ≠ a := fun q => by rw [q, ha] at e; cases e
  have h2 : b ≠ d := fun q => by rw [q, hd] at e; cases e
  rw [upd_ne h1, upd_ne h2, upd_ne h1]
  exact e
/-- C(e), C(f=e), as a value -/
def tMkV (C : Addr) (f : Str) (te : TE) : TE := fun σ H Q => tCons te tNil σ H fun vs H1 => ∃ v, vs = [v] ∧ ∀ a H2, Same H1 H2 → H1 a = none → ErrAt H2 C f v a → Q (.ref a) H2
section
variable {X : Cx} {B nw ini : String} {tl : List Value} {C fI : Addr} {f x : Str} {k : Nat} {fd : FuncData} {e : Expr} {te : TE} {p pos kp : Pos}
theorem run_err {pins : List (Addr × Obj)} {σ : L2.St} {H : Hp} {s : Shared} {Q : VK} {v : V} {u : Value} {ps : List Str} {args : Args} (F1 : FnOk X.prog X.w X.K X.mg X.base CX0 k fI fd ps (spErr f C)) (hr : Room (k + 1) X.A)
    (I : Inv X pins σ H s) (rv : RelV v u) (kw : List (Str × Value)) (us : List Value)
    (hbd : BindsTo { s with heap := (s.heap.push (PySem.W.kdv_tup us)).push (PySem.HandSPX.excO C s.heap.objs.size) } fd args (ps.zip [Value.ref (s.heap.objs.size + 1), u]))
    (q : ∀ a H2, Same H H2 → H a = none → ErrAt H2 C f v a → Q (.ref a) H2) :
    codeAny (model X.prog X.w) (X.A.under (.builtin "type.__call__" ⟨.ref C :: us, kw⟩)) (.call (.ref fI) args) (PySem.W.InitBack (s.heap.objs.size + 1) (fun r s' => match r with | .ok (.ret v) => EP X pins σ Q v s' | .ok _ => False | .error e => X.xe e s'))
      { s with heap := (s.heap.push (PySem.W.kdv_tup us)).push (PySem.HandSPX.excO C s.heap.objs.size) } := by
  have up : s.heap.objs.size ≤ s.heap.objs.size + 1 := Nat.le_succ _
  have kk : ∀ b o, s.heap.get? b = some o → ((s.heap.push (PySem.W.kdv_tup us)).push (PySem.HandSPX.excO C s.heap.objs.size)).get? b = some o := fun b o z => Heap.get?_push_of_some _ (Heap.get?_push_of_some _ z)
  have I2 : Inv X pins σ (upd H (s.heap.objs.size + 1) (exo (s.heap.objs.size + 1) C none)) { s with heap := (s.heap.push (PySem.W.kdv_tup us)).push (PySem.HandSPX.excO C s.heap.objs.size) } :=
    I.laid (t' := s.toks) (a := s.heap.objs.size + 1) (o := exo (s.heap.objs.size + 1) C none) kk up (exo_ok (t1 := s.heap.objs.size) (by heap_get))
  have n0 : H (s.heap.objs.size + 1) = none := I.hok.fresh up
  have r2 : Vals [V.ref (s.heap.objs.size + 1), v] [Value.ref (s.heap.objs.size + 1), u] := .cons rfl (.cons rv .nil)
  have hq : spErr f C [V.ref (s.heap.objs.size + 1), v] (upd H (s.heap.objs.size + 1) (exo (s.heap.objs.size + 1) C none)) (fun v' H2 => v' = .non ∧ Q (.ref (s.heap.objs.size + 1)) H2) E0 :=
    ⟨_, v, rfl, upd_same, fun d hd hne => ⟨rfl, by
      have hd' : H d = none := by rw [upd_ne hne] at hd; exact hd
      obtain ⟨s1, e1⟩ := err_made (C := C) (f := f) (v := v) n0 hd' hne
      exact q _ _ s1 n0 e1⟩⟩
  refine codeAny_mono (F1.run _ X.stack _ _ args [Value.ref (s.heap.objs.size + 1), u] [V.ref (s.heap.objs.size + 1), v] _ E0 (hr.make C us kw) (I2.env0.make C us kw) hbd r2 hq) fun r s' hq' => ?_
  match r, hq' with
  | .error er, hq' => exact hq'.elim
  | .ok (.ret u'), hq' =>
    obtain ⟨v', H', I3, rv', ev, q3⟩ := I2.after hq'
    subst ev
    exact ⟨rv', ⟨V.ref (s.heap.objs.size + 1), H', I3, rfl, q3⟩⟩
theorem pe_mkErr {ps : List Str} (T : ErrG X.K C fI f B nw ini tl) (F1 : FnOk X.prog X.w X.K X.mg X.base CX0 k fI fd ps (spErr f C)) (hb : Binds X.K fd ps []) (hl : ps.length = 2) (hr : Room (k + 1) X.A) (hg : Gl X x) (hm : X.mg x = some (.ref C)) (he : PE X e te)
    (hdb : (x == ("__debug__" : Str)) = false := by decide) (hs : starEach [e] X.env = (false, eval e X.env) :: starEach [] X.env := by rfl) (hpl : (backTo pos (starEach [] X.env)).any (·.1) = false := by rfl) :
    PE X (.Call (.Name x p) [e] [] pos) (tMkV C f te) := by
  refine ⟨fun pins s σ H Q I h => ?_⟩
  obtain ⟨nm, q, N, bs, cs, sn, sub, ab, col, dd, k0, k1, k2, k3, k5, hC⟩ := T.oex.cls
  refine wpAny_Call_Name_kw (ld_glob I hg hm ?_ hdb)
  refine PySem.W.callWith_K (h₀ := X.base) I.ok.mod.kin T.oex.kC (thn ((pa_cons he pa_nil hs).run pos pins s σ H _ I h) fun us s1 ⟨vs, H1, I1, r1, v, ev, q1⟩ => ⟨I1.kIn, ?_⟩) hs hpl
  subst ev
  obtain ⟨u, rfl, ru⟩ := r1.one
  obtain ⟨hp, g, d, t, os⟩ := s1
  have hbd := hb ⟨(hp.push (PySem.W.kdv_tup [u])).push (PySem.HandSPX.excO C hp.objs.size), g, d, t, os⟩ [Value.ref (hp.objs.size + 1), u] (I1.kept (t' := t) fun b o z => Heap.get?_push_of_some _ (Heap.get?_push_of_some _ z)).kIn (by rw [hl]; rfl)
  refine wpAny_call (codeAny_mono (PySem.HandSPX.call_own T.bx.eb (chain_has cs) (I1.kIn _ _ hC) (PySem.W.looks_findIn I1.kIn T.iC) (fun self => PySem.W.bind_fn I1.kIn self T.tI) (show 1 ≤ sizeLine by decide)
    (run_err F1 hr I1 ru [] [u] (by simpa using hbd) q1)) fun r s' z => z)
theorem pe_mkErrK {ps : List Str} (T : ErrG X.K C fI f B nw ini tl) (F1 : FnOk X.prog X.w X.K X.mg X.base CX0 k fI fd ps (spErr f C)) (hb : ∀ (s : Shared) (a u : Value), BindsTo s fd ⟨[a], [(f, u)]⟩ (ps.zip [a, u])) (hr : Room (k + 1) X.A) (hg : Gl X x) (hm : X.mg x = some (.ref C)) (he : PE X e te)
    (hdb : (x == ("__debug__" : Str)) = false := by decide)
    (hall : (backToKw pos (keywordEach [⟨some f, e, kp⟩] X.env)).all (·.1.isSome) = true := by rfl) (hks : (backToKw pos (keywordEach [⟨some f, e, kp⟩] X.env)).filterMap (·.1) = [f] := by rfl)
    (hpl : ((backTo pos (starEach [] X.env)).any (·.1) || (backToKw pos (keywordEach [⟨some f, e, kp⟩] X.env)).any (·.1.isNone)) = false := by rfl) :
    PE X (.Call (.Name x p) [] [⟨some f, e, kp⟩] pos) (tMkV C f te) := by
  refine ⟨fun pins s σ H Q I h => ?_⟩
  obtain ⟨nm, q, N, bs, cs, sn, sub, ab, col, dd, k0, k1, k2, k3, k5, hC⟩ := T.oex.cls
  refine wpAny_Call_Name_kw (ld_glob I hg hm ?_ hdb)
  refine PySem.W.callWith_KW0 (h₀ := X.base) I.ok.mod.kin T.oex.kC hall ?_ hpl
  refine thn ((pk_cons (nm := some f) (kpos := kp) he pk_nil).run pos pins s σ H _ I h) fun us s1 ⟨vs, H1, I1, r1, v, ev, q1⟩ => ⟨I1.kIn, ?_⟩
  subst ev
  obtain ⟨u, rfl, ru⟩ := r1.one
  rw [hks]
  obtain ⟨hp, g, d, t, os⟩ := s1
  refine wpAny_call (codeAny_mono (kx_call (kf := f) (kv := u) T.bx.eb (chain_has cs) (I1.kIn _ _ hC) (PySem.W.looks_findIn I1.kIn T.iC) (fun self => PySem.W.bind_fn I1.kIn self T.tI)
    (run_err F1 hr I1 ru [(f, u)] [] (hb _ _ _) q1)) fun r s' z => z)
/-- isinstance(e, c), e such an error -/
def rIsErr (K : PySem.W.Frag) : List V → Hp → VK → Prop := fun xs H Q => ∃ (a C : Addr) (f : Str) (v c : V) (u : Value) (b : Bool), xs = [.ref a, c] ∧ ErrAt H C f v a ∧ ExcC K C ∧ ClsV c u ∧ PySem.W.kitOne K (.ref C) u = some b ∧ Q (.bl b) H
theorem call_isErr : CallR X (.builtin "isinstance") (rIsErr X.K) := by
  intro pins s σ H xs us Q I r h
  obtain ⟨a, C, f, v, c, u, b, rfl, ⟨d, ea, ed⟩, T, hc, e, q⟩ := h
  cases r with
  | cons rx rr =>
    cases rr with
    | cons rt rr =>
      cases rr
      cases rx
      have ec := hc.eq rt
      subst ec
      obtain ⟨t1, ho⟩ := exo_at I.hok ea
      obtain ⟨mA, hns, hr⟩ := exd_at I.hok ed
      obtain ⟨od, hd, _⟩ := lookIn_ns hns
      have J : PySem.W.InstAt s.heap a _ C (some od) := ⟨ho, rfl, rfl, hd⟩
      have hcl : (PySem.W.clsIn X.K C).isSome = true := by
        obtain ⟨cd, hc, _⟩ := PySem.W.any_some T.hd
        rw [hc]
        rfl
      exact PySem.W.kia_one (PySem.W.kitx_exc hcl T.hg T.hk T.hs T.ha T.hn T.ht T.hm) I.kIn J e (fun z => nomatch z) fun tk => ⟨.bl b, H, I.kept (t' := tk) fun _ _ z => z, rfl, q⟩
theorem isErrK (K : PySem.W.Frag) (hK : X.K = K := by rfl) : CallR X (.builtin "isinstance") (rIsErr K) := by subst hK; exact call_isErr
/-- e.f -/
def tFldE (K : PySem.W.Frag) (n : Str) (ta : TE) : TE := fun σ H Q => ta σ H fun x H1 => ∃ (a C : Addr) (v : V), x = .ref a ∧ XfC K C ∧ PySem.W.findIn K (.ref C) n = some none ∧ ErrAt H1 C n v a ∧ Q v H1
theorem pe_fldE (K : PySem.W.Frag) {ta : TE} {n : Str} (he : PE X e ta) (hb : attributeBase e n X.env (eval e X.env) = eval e X.env := by rfl) (hK : X.K = K := by rfl) : PE X (.Attribute e n pos) (tFldE K n ta) := by
  subst hK
  refine ⟨fun pins s σ H Q I h => ?_⟩
  refine attr_of hb (thn (he.run pins s σ H _ I h) fun u s1 ⟨x, H1, I1, rx, a, C, v, ex, T, hno, ⟨d, ea, ed⟩, q⟩ => ?_)
  subst ex
  obtain rfl : u = Value.ref a := rx
  obtain ⟨t1, ho⟩ := exo_at I1.hok ea
  obtain ⟨mA, hns, hr⟩ := exd_at I1.hok ed
  obtain ⟨od, hd, hl⟩ := lookIn_ns hns
  obtain ⟨u, hu, ru⟩ := RelO.some_of (v := v) (o := mA n) (by have := hr n; simpa [List.lookup] using this)
  have J : PySem.W.InstAt s1.heap a _ C (some od) := ⟨ho, rfl, rfl, hd⟩
  exact HandSPX.exc_get I1.kIn J T.ga T.gg T.exC (PySem.W.findObj_own T.hdC hno rfl (by rw [hl, hu])) (handed_of ru) ⟨v, H1, I1.tok _, ru, q⟩
/-- xs.count(y) of flat values -/
def rCntV (K : PySem.W.Frag) : V → List V → Hp → VK → Prop := fun x xs H Q => ∃ (p : Addr) (ys : List V) (y : V), x = .ref p ∧ xs = [y] ∧ SqL K H p ys ∧ flatV y = true ∧ ys.all flatV = true ∧ Q (.int (ys.countP (fun z => eqV z y) : Nat)) H
theorem cnt_of {y : V} {u : Value} (ru : RelV y u) : ∀ {ys : List V} {its : List Value}, Vals ys its → ys.all flatV = true → its.countP (eqU y) = ys.countP (fun z => eqV z y)
  | _, _, .nil, _ => rfl
  | _, _, .cons (a := z) (b := w) rz t, h => by
    rw [List.all_cons, Bool.and_eq_true] at h
    rw [List.countP_cons, List.countP_cons, cnt_of ru t h.2, eqU_of rz h.1]
theorem mt_countV : MtR X "list.count" (rCntV X.K) := by
  intro pins s σ H x xs v us Q I rx rxs h
  obtain ⟨p, ys, y, rfl, rfl, hs, fy, fys, q⟩ := h
  cases rx
  obtain ⟨u, rfl, ru⟩ := rxs.one
  obtain ⟨its, rv, ⟨⟨cls, dd, data, sl⟩, n, ho, hc, hdn, hd⟩, hlen⟩ := I.list hs
  simp only at hc hd
  subst hc hd
  refine call_meets PySem.F.slot_list_count ⟨_, ho, rfl⟩ PySem.F.entry_list_count (PySem.F.args_list_count_2 _ _)
    (SeqAt.list_countAt p its.toArray n dd sl u (eqU y)) ⟨ho, fun u' hu' => mem_eqAt ru fy rv fys u' (by simpa using hu'), ?_⟩
  have ec : its.toArray.toList.countP (eqU y) = ys.countP (fun z => eqV z y) := cnt_of ru rv fys
  exact ⟨.int (ys.countP (fun z => eqV z y) : Nat), H, I.tok _, ⟨s.toks, by rw [ec]⟩, q⟩
end
/-- how one keyword binds -/
def BndK (x qual : Str) (st : Stmt) (p f : Str) : Prop := ∀ (kV doc pm : Value) (an : Option Addr) (cdv ct : Value) (a u : Value), bindArgs (PySem.W.fnOf x qual (defArgs st) (defBody st) (defScope st) .none kV doc pm an cdv ct) ⟨[a], [(f, u)]⟩ = pure [(p, a), (f, u)]
theorem bindsK {K : PySem.W.Frag} {x qual : Str} {st : Stmt} {g : Addr} {fd : FuncData} {p f : Str} (F : Fun K x qual st g fd) (B : BndK x qual st p f) : ∀ (s : Shared) (a u : Value), BindsTo s fd ⟨[a], [(f, u)]⟩ (([p, f] : List Str).zip [a, u]) := by
  obtain ⟨oc, od, kV, doc, pm, an, cdv, ct, osl, rfl, lk, hcd⟩ := F.ex
  exact fun s a u => .of_eq (B kV doc pm an cdv ct a u)
end XT

namespace XT
open PySem PySem.Spec PyProof.Rows L2
/-! ### list + list, the left one perhaps not the program's own -/
theorem list_addG (l b : Addr) (xs ys : Array Value) (n m : Nat) (d1 d2 : Option Addr) (s1 s2 : Array (Option Value)) (hz : xs.size + ys.size ≤ sizeLine) :
    Meets (Builtin.«list.__add__» ⟨[.ref l, .ref b], []⟩) (fun _ R s => s.heap.get? l = some { cls := .type "list", dict := d1, data := .seq xs n, slots := s1 } ∧ s.heap.get? b = some { cls := .type "list", dict := d2, data := .seq ys m, slots := s2 } ∧
      R (.ok (.ret (.ref s.heap.objs.size))) { s with heap := s.heap.push { cls := .type "list", data := .seq (xs ++ ys) } }) :=
  .of_wp fun prog w A R s h => by
    obtain ⟨hp, g, d, tk, os⟩ := s
    obtain ⟨hl, hb, h⟩ := h
    have f3 := AutoSeq1.sub_list_list
    wp_walk using wpAny_loadPart' hl, wpAny_loadPart' hb
    exact ⟨_, rfl, h⟩
def rCatQ (K : PySem.W.Frag) : R2 := fun x y H Q => ∃ l b xs zs, x = .ref l ∧ y = .ref b ∧ SqL K H l xs ∧ SqL K H b zs ∧ xs.length + zs.length ≤ sizeLine ∧ ∀ p, H p = none → Q (.ref p) (upd H p (.lst (xs ++ zs)))
theorem op_catQ {X : Cx} : OpR X (binaryOp .Add) (rCatQ X.K) := by
  intro pins s σ H x y v u Q I rx ry h
  obtain ⟨l, b, xs, zs, rfl, rfl, hH, hB, hz, q⟩ := h
  cases rx
  cases ry
  obtain ⟨its, r, ⟨⟨cls, dd, data, sl⟩, n, ho, hc, hdn, hd⟩, _⟩ := I.list hH
  obtain ⟨its2, r2, ⟨⟨cls2, dd2, data2, sl2⟩, n2, ho2, hc2, hdn2, hd2⟩, _⟩ := I.list hB
  simp only at hc hd hdn hc2 hd2 hdn2
  subst hc hc2
  have l1 := r.length
  have l2 := r2.length
  subst hdn hdn2 hd hd2
  refine concat_meets ⟨_, ho, rfl⟩ ⟨_, ho2, rfl⟩ noFill_list_add seq_list_add F.slot_list_add F.entry_list_add (F.args_list_add_2 _ _) (list_addG l b its.toArray its2.toArray _ _ _ _ _ _ (by rw [List.size_toArray, List.size_toArray]; omega)) ⟨ho, ho2, ?_⟩
  have ea : its.toArray ++ its2.toArray = (its ++ its2).toArray := by simp
  rw [ea]
  exact ⟨.ref _, _, I.lnew (t' := s.toks) (r.append r2) (by rw [List.length_append]; omega), rfl, q _ I.fresh⟩
end XT

namespace K04
open PySem L2 XT
def top (i : Nat) : Stmt := PySem.Challenge.pw_rankeffect_k04_error_classes.main.body.getD i (.Pass ⟨0, 0, 0, 0⟩)

abbrev s_InvalidList___init__ : Stmt := inClass (top 2) 0
abbrev N_InvalidList___init__ : List Str := ["self", "value"]
theorem sc_InvalidList___init__ : FnScope N_InvalidList___init__ ["self", "value"] (defScope s_InvalidList___init__) := ⟨rfl, rfl, rfl, by decide +kernel, rfl, by decide +kernel, by decide +kernel⟩
theorem bn_InvalidList___init__ : XT.Bnd "__init__" "InvalidList.__init__" s_InvalidList___init__ ["self", "value"] := fun _ _ _ _ _ _ us hl => match us, hl with | [_, _], _ => rfl

abbrev s_InvalidStep___init__ : Stmt := inClass (top 3) 0
abbrev N_InvalidStep___init__ : List Str := ["self", "value"]
theorem sc_InvalidStep___init__ : FnScope N_InvalidStep___init__ ["self", "value"] (defScope s_InvalidStep___init__) := ⟨rfl, rfl, rfl, by decide +kernel, rfl, by decide +kernel, by decide +kernel⟩
theorem bn_InvalidStep___init__ : XT.Bnd "__init__" "InvalidStep.__init__" s_InvalidStep___init__ ["self", "value"] := fun _ _ _ _ _ _ us hl => match us, hl with | [_, _], _ => rfl

abbrev s_InvalidTable___init__ : Stmt := inClass (top 4) 0
abbrev N_InvalidTable___init__ : List Str := ["self", "value"]
theorem sc_InvalidTable___init__ : FnScope N_InvalidTable___init__ ["self", "value"] (defScope s_InvalidTable___init__) := ⟨rfl, rfl, rfl, by decide +kernel, rfl, by decide +kernel, by decide +kernel⟩
theorem bn_InvalidTable___init__ : XT.Bnd "__init__" "InvalidTable.__init__" s_InvalidTable___init__ ["self", "value"] := fun _ _ _ _ _ _ us hl => match us, hl with | [_, _], _ => rfl

abbrev s_InvalidEffect___init__ : Stmt := inClass (top 5) 0
abbrev N_InvalidEffect___init__ : List Str := ["self", "value"]
theorem sc_InvalidEffect___init__ : FnScope N_InvalidEffect___init__ ["self", "value"] (defScope s_InvalidEffect___init__) := ⟨rfl, rfl, rfl, by decide +kernel, rfl, by decide +kernel, by decide +kernel⟩
theorem bn_InvalidEffect___init__ : XT.Bnd "__init__" "InvalidEffect.__init__" s_InvalidEffect___init__ ["self", "value"] := fun _ _ _ _ _ _ us hl => match us, hl with | [_, _], _ => rfl

abbrev s_InvalidNumber___init__ : Stmt := inClass (top 6) 0
abbrev N_InvalidNumber___init__ : List Str := ["self", "value"]
theorem sc_InvalidNumber___init__ : FnScope N_InvalidNumber___init__ ["self", "value"] (defScope s_InvalidNumber___init__) := ⟨rfl, rfl, rfl, by decide +kernel, rfl, by decide +kernel, by decide +kernel⟩
theorem bn_InvalidNumber___init__ : XT.Bnd "__init__" "InvalidNumber.__init__" s_InvalidNumber___init__ ["self", "value"] := fun _ _ _ _ _ _ us hl => match us, hl with | [_, _], _ => rfl

abbrev s_InvalidFacts___init__ : Stmt := inClass (top 7) 0
abbrev N_InvalidFacts___init__ : List Str := ["self", "value"]
theorem sc_InvalidFacts___init__ : FnScope N_InvalidFacts___init__ ["self", "value"] (defScope s_InvalidFacts___init__) := ⟨rfl, rfl, rfl, by decide +kernel, rfl, by decide +kernel, by decide +kernel⟩
theorem bn_InvalidFacts___init__ : XT.Bnd "__init__" "InvalidFacts.__init__" s_InvalidFacts___init__ ["self", "value"] := fun _ _ _ _ _ _ us hl => match us, hl with | [_, _], _ => rfl

abbrev s_InvalidName___init__ : Stmt := inClass (top 8) 0
abbrev N_InvalidName___init__ : List Str := ["self", "value"]
theorem sc_InvalidName___init__ : FnScope N_InvalidName___init__ ["self", "value"] (defScope s_InvalidName___init__) := ⟨rfl, rfl, rfl, by decide +kernel, rfl, by decide +kernel, by decide +kernel⟩
theorem bn_InvalidName___init__ : XT.Bnd "__init__" "InvalidName.__init__" s_InvalidName___init__ ["self", "value"] := fun _ _ _ _ _ _ us hl => match us, hl with | [_, _], _ => rfl

abbrev s_InvalidCommand___init__ : Stmt := inClass (top 9) 0
abbrev N_InvalidCommand___init__ : List Str := ["self", "value"]
theorem sc_InvalidCommand___init__ : FnScope N_InvalidCommand___init__ ["self", "value"] (defScope s_InvalidCommand___init__) := ⟨rfl, rfl, rfl, by decide +kernel, rfl, by decide +kernel, by decide +kernel⟩
theorem bn_InvalidCommand___init__ : XT.Bnd "__init__" "InvalidCommand.__init__" s_InvalidCommand___init__ ["self", "value"] := fun _ _ _ _ _ _ us hl => match us, hl with | [_, _], _ => rfl

abbrev s_ParseError___init__ : Stmt := inClass (top 10) 0
abbrev N_ParseError___init__ : List Str := ["self", "line"]
theorem sc_ParseError___init__ : FnScope N_ParseError___init__ ["self", "line"] (defScope s_ParseError___init__) := ⟨rfl, rfl, rfl, by decide +kernel, rfl, by decide +kernel, by decide +kernel⟩
theorem bn_ParseError___init__ : XT.Bnd "__init__" "ParseError.__init__" s_ParseError___init__ ["self", "line"] := fun _ _ _ _ _ _ us hl => match us, hl with | [_, _], _ => rfl

abbrev s_StepFailed___init__ : Stmt := inClass (top 11) 0
abbrev N_StepFailed___init__ : List Str := ["self", "index"]
theorem sc_StepFailed___init__ : FnScope N_StepFailed___init__ ["self", "index"] (defScope s_StepFailed___init__) := ⟨rfl, rfl, rfl, by decide +kernel, rfl, by decide +kernel, by decide +kernel⟩
theorem bn_StepFailed___init__ : XT.Bnd "__init__" "StepFailed.__init__" s_StepFailed___init__ ["self", "index"] := fun _ _ _ _ _ _ us hl => match us, hl with | [_, _], _ => rfl

abbrev s_LimitExceeded___init__ : Stmt := inClass (top 12) 0
abbrev N_LimitExceeded___init__ : List Str := ["self", "limit"]
theorem sc_LimitExceeded___init__ : FnScope N_LimitExceeded___init__ ["self", "limit"] (defScope s_LimitExceeded___init__) := ⟨rfl, rfl, rfl, by decide +kernel, rfl, by decide +kernel, by decide +kernel⟩
theorem bn_LimitExceeded___init__ : XT.Bnd "__init__" "LimitExceeded.__init__" s_LimitExceeded___init__ ["self", "limit"] := fun _ _ _ _ _ _ us hl => match us, hl with | [_, _], _ => rfl

abbrev s_NothingToUndo___init__ : Stmt := inClass (top 13) 0
abbrev N_NothingToUndo___init__ : List Str := ["self", "user"]
theorem sc_NothingToUndo___init__ : FnScope N_NothingToUndo___init__ ["self", "user"] (defScope s_NothingToUndo___init__) := ⟨rfl, rfl, rfl, by decide +kernel, rfl, by decide +kernel, by decide +kernel⟩
theorem bn_NothingToUndo___init__ : XT.Bnd "__init__" "NothingToUndo.__init__" s_NothingToUndo___init__ ["self", "user"] := fun _ _ _ _ _ _ us hl => match us, hl with | [_, _], _ => rfl

abbrev s_NothingToRedo___init__ : Stmt := inClass (top 14) 0
abbrev N_NothingToRedo___init__ : List Str := ["self", "user"]
theorem sc_NothingToRedo___init__ : FnScope N_NothingToRedo___init__ ["self", "user"] (defScope s_NothingToRedo___init__) := ⟨rfl, rfl, rfl, by decide +kernel, rfl, by decide +kernel, by decide +kernel⟩
theorem bn_NothingToRedo___init__ : XT.Bnd "__init__" "NothingToRedo.__init__" s_NothingToRedo___init__ ["self", "user"] := fun _ _ _ _ _ _ us hl => match us, hl with | [_, _], _ => rfl

abbrev s_law_errors : Stmt := top 16
abbrev N_law_errors : List Str := ["_law_x", "_law_some"]
theorem sc_law_errors : FnScope N_law_errors ["_law_x"] (defScope s_law_errors) := ⟨rfl, rfl, rfl, by decide +kernel, rfl, by decide +kernel, by decide +kernel⟩
theorem bn_law_errors : XT.Bnd "_law_errors" "_law_errors" s_law_errors ["_law_x"] := fun _ _ _ _ _ _ us hl => match us, hl with | [_], _ => rfl

abbrev s_law_named : Stmt := top 17
abbrev N_law_named : List Str := ["_law_x", "_law_some"]
theorem sc_law_named : FnScope N_law_named ["_law_x"] (defScope s_law_named) := ⟨rfl, rfl, rfl, by decide +kernel, rfl, by decide +kernel, by decide +kernel⟩
theorem bn_law_named : XT.Bnd "_law_named" "_law_named" s_law_named ["_law_x"] := fun _ _ _ _ _ _ us hl => match us, hl with | [_], _ => rfl

abbrev s_law_kinds : Stmt := top 18
abbrev N_law_kinds : List Str := ["_law_e", "_law_kinds_here"]
theorem sc_law_kinds : FnScope N_law_kinds ["_law_e"] (defScope s_law_kinds) := ⟨rfl, rfl, rfl, by decide +kernel, rfl, by decide +kernel, by decide +kernel⟩
theorem bn_law_kinds : XT.Bnd "_law_kinds" "_law_kinds" s_law_kinds ["_law_e"] := fun _ _ _ _ _ _ us hl => match us, hl with | [_], _ => rfl

abbrev s_law_fields : Stmt := top 19
abbrev N_law_fields : List Str := ["_law_some", "_law_found", "_law_e"]
theorem sc_law_fields : FnScope N_law_fields ["_law_some"] (defScope s_law_fields) := ⟨rfl, rfl, rfl, by decide +kernel, rfl, by decide +kernel, by decide +kernel⟩
theorem bn_law_fields : XT.Bnd "_law_fields" "_law_fields" s_law_fields ["_law_some"] := fun _ _ _ _ _ _ us hl => match us, hl with | [_], _ => rfl

abbrev s_law : Stmt := top 20
abbrev N_law : List Str := ["_law_script", "_law_cell", "_law_x", "_law_some", "_law_at", "_law_e", "_law_bases"]
theorem sc_law : FnScope N_law ["_law_script"] (defScope s_law) := ⟨rfl, rfl, rfl, by decide +kernel, rfl, by decide +kernel, by decide +kernel⟩
theorem bn_law : XT.Bnd "law" "law" s_law ["_law_script"] := fun _ _ _ _ _ _ us hl => match us, hl with | [_], _ => rfl

theorem bk_InvalidList : BndK "__init__" "InvalidList.__init__" s_InvalidList___init__ "self" "value" := fun _ _ _ _ _ _ _ _ => rfl
theorem bk_InvalidStep : BndK "__init__" "InvalidStep.__init__" s_InvalidStep___init__ "self" "value" := fun _ _ _ _ _ _ _ _ => rfl
theorem bk_InvalidTable : BndK "__init__" "InvalidTable.__init__" s_InvalidTable___init__ "self" "value" := fun _ _ _ _ _ _ _ _ => rfl
theorem bk_InvalidEffect : BndK "__init__" "InvalidEffect.__init__" s_InvalidEffect___init__ "self" "value" := fun _ _ _ _ _ _ _ _ => rfl
theorem bk_InvalidNumber : BndK "__init__" "InvalidNumber.__init__" s_InvalidNumber___init__ "self" "value" := fun _ _ _ _ _ _ _ _ => rfl
theorem bk_InvalidFacts : BndK "__init__" "InvalidFacts.__init__" s_InvalidFacts___init__ "self" "value" := fun _ _ _ _ _ _ _ _ => rfl
theorem bk_InvalidName : BndK "__init__" "InvalidName.__init__" s_InvalidName___init__ "self" "value" := fun _ _ _ _ _ _ _ _ => rfl
theorem bk_InvalidCommand : BndK "__init__" "InvalidCommand.__init__" s_InvalidCommand___init__ "self" "value" := fun _ _ _ _ _ _ _ _ => rfl
theorem bk_ParseError : BndK "__init__" "ParseError.__init__" s_ParseError___init__ "self" "line" := fun _ _ _ _ _ _ _ _ => rfl
theorem bk_StepFailed : BndK "__init__" "StepFailed.__init__" s_StepFailed___init__ "self" "index" := fun _ _ _ _ _ _ _ _ => rfl
theorem bk_LimitExceeded : BndK "__init__" "LimitExceeded.__init__" s_LimitExceeded___init__ "self" "limit" := fun _ _ _ _ _ _ _ _ => rfl
theorem bk_NothingToUndo : BndK "__init__" "NothingToUndo.__init__" s_NothingToUndo___init__ "self" "user" := fun _ _ _ _ _ _ _ _ => rfl
theorem bk_NothingToRedo : BndK "__init__" "NothingToRedo.__init__" s_NothingToRedo___init__ "self" "user" := fun _ _ _ _ _ _ _ _ => rfl
structure Ads where
  InvalidList___init__ : Addr
  InvalidStep___init__ : Addr
  InvalidTable___init__ : Addr
  InvalidEffect___init__ : Addr
  InvalidNumber___init__ : Addr
  InvalidFacts___init__ : Addr
  InvalidName___init__ : Addr
  InvalidCommand___init__ : Addr
  ParseError___init__ : Addr
  StepFailed___init__ : Addr
  LimitExceeded___init__ : Addr
  NothingToUndo___init__ : Addr
  NothingToRedo___init__ : Addr
  law_errors : Addr
  law_named : Addr
  law_kinds : Addr
  law_fields : Addr
  law : Addr
  InvalidList : Addr
  InvalidStep : Addr
  InvalidTable : Addr
  InvalidEffect : Addr
  InvalidNumber : Addr
  InvalidFacts : Addr
  InvalidName : Addr
  InvalidCommand : Addr
  ParseError : Addr
  StepFailed : Addr
  LimitExceeded : Addr
  NothingToUndo : Addr
  NothingToRedo : Addr
  RankError : Addr

def clsA (a : Ads) : Nat → Addr
  | 0 => a.InvalidList
  | 1 => a.InvalidStep
  | 2 => a.InvalidTable
  | 3 => a.InvalidEffect
  | 4 => a.InvalidNumber
  | 5 => a.InvalidFacts
  | 6 => a.InvalidName
  | 7 => a.InvalidCommand
  | 8 => a.ParseError
  | 9 => a.StepFailed
  | 10 => a.LimitExceeded
  | 11 => a.NothingToUndo
  | _ => a.NothingToRedo
def fldA : Nat → Str
  | 0 => "value"
  | 1 => "value"
  | 2 => "value"
  | 3 => "value"
  | 4 => "value"
  | 5 => "value"
  | 6 => "value"
  | 7 => "value"
  | 8 => "line"
  | 9 => "index"
  | 10 => "limit"
  | 11 => "user"
  | _ => "user"
structure Txt (K : PySem.W.Frag) (mg : Str → Option Value) (a : Ads) : Prop where
  F_InvalidList___init__ : ∃ fd, Fun K "__init__" "InvalidList.__init__" s_InvalidList___init__ a.InvalidList___init__ fd
  F_InvalidStep___init__ : ∃ fd, Fun K "__init__" "InvalidStep.__init__" s_InvalidStep___init__ a.InvalidStep___init__ fd
  F_InvalidTable___init__ : ∃ fd, Fun K "__init__" "InvalidTable.__init__" s_InvalidTable___init__ a.InvalidTable___init__ fd
  F_InvalidEffect___init__ : ∃ fd, Fun K "__init__" "InvalidEffect.__init__" s_InvalidEffect___init__ a.InvalidEffect___init__ fd
  F_InvalidNumber___init__ : ∃ fd, Fun K "__init__" "InvalidNumber.__init__" s_InvalidNumber___init__ a.InvalidNumber___init__ fd
  F_InvalidFacts___init__ : ∃ fd, Fun K "__init__" "InvalidFacts.__init__" s_InvalidFacts___init__ a.InvalidFacts___init__ fd
  F_InvalidName___init__ : ∃ fd, Fun K "__init__" "InvalidName.__init__" s_InvalidName___init__ a.InvalidName___init__ fd
  F_InvalidCommand___init__ : ∃ fd, Fun K "__init__" "InvalidCommand.__init__" s_InvalidCommand___init__ a.InvalidCommand___init__ fd
  F_ParseError___init__ : ∃ fd, Fun K "__init__" "ParseError.__init__" s_ParseError___init__ a.ParseError___init__ fd
  F_StepFailed___init__ : ∃ fd, Fun K "__init__" "StepFailed.__init__" s_StepFailed___init__ a.StepFailed___init__ fd
  F_LimitExceeded___init__ : ∃ fd, Fun K "__init__" "LimitExceeded.__init__" s_LimitExceeded___init__ a.LimitExceeded___init__ fd
  F_NothingToUndo___init__ : ∃ fd, Fun K "__init__" "NothingToUndo.__init__" s_NothingToUndo___init__ a.NothingToUndo___init__ fd
  F_NothingToRedo___init__ : ∃ fd, Fun K "__init__" "NothingToRedo.__init__" s_NothingToRedo___init__ a.NothingToRedo___init__ fd
  F_law_errors : ∃ fd, Fun K "_law_errors" "_law_errors" s_law_errors a.law_errors fd
  g_law_errors : mg "_law_errors" = some (.ref a.law_errors)
  k_law_errors : PySem.W.keepIn K (.ref a.law_errors) = true
  F_law_named : ∃ fd, Fun K "_law_named" "_law_named" s_law_named a.law_named fd
  g_law_named : mg "_law_named" = some (.ref a.law_named)
  k_law_named : PySem.W.keepIn K (.ref a.law_named) = true
  F_law_kinds : ∃ fd, Fun K "_law_kinds" "_law_kinds" s_law_kinds a.law_kinds fd
  g_law_kinds : mg "_law_kinds" = some (.ref a.law_kinds)
  k_law_kinds : PySem.W.keepIn K (.ref a.law_kinds) = true
  F_law_fields : ∃ fd, Fun K "_law_fields" "_law_fields" s_law_fields a.law_fields fd
  g_law_fields : mg "_law_fields" = some (.ref a.law_fields)
  k_law_fields : PySem.W.keepIn K (.ref a.law_fields) = true
  F_law : ∃ fd, Fun K "law" "law" s_law a.law fd
  g_law : mg "law" = some (.ref a.law)
  k_law : PySem.W.keepIn K (.ref a.law) = true
  b_list : mg "list" = none
  b_isinstance : mg "isinstance" = none
  b_enumerate : mg "enumerate" = none
  b_ValueError : mg "ValueError" = none
  b_RuntimeError : mg "RuntimeError" = none
  b_OverflowError : mg "OverflowError" = none
  b_LookupError : mg "LookupError" = none
  g_InvalidList : mg "InvalidList" = some (.ref a.InvalidList)
  g_InvalidStep : mg "InvalidStep" = some (.ref a.InvalidStep)
  g_InvalidTable : mg "InvalidTable" = some (.ref a.InvalidTable)
  g_InvalidEffect : mg "InvalidEffect" = some (.ref a.InvalidEffect)
  g_InvalidNumber : mg "InvalidNumber" = some (.ref a.InvalidNumber)
  g_InvalidFacts : mg "InvalidFacts" = some (.ref a.InvalidFacts)
  g_InvalidName : mg "InvalidName" = some (.ref a.InvalidName)
  g_InvalidCommand : mg "InvalidCommand" = some (.ref a.InvalidCommand)
  g_ParseError : mg "ParseError" = some (.ref a.ParseError)
  g_StepFailed : mg "StepFailed" = some (.ref a.StepFailed)
  g_LimitExceeded : mg "LimitExceeded" = some (.ref a.LimitExceeded)
  g_NothingToUndo : mg "NothingToUndo" = some (.ref a.NothingToUndo)
  g_NothingToRedo : mg "NothingToRedo" = some (.ref a.NothingToRedo)
  g_RankError : mg "RankError" = some (.ref a.RankError)
  e_InvalidList : ErrG K a.InvalidList a.InvalidList___init__ "value" "ValueError" "ValueError.__new__" "ValueError.__init__" [.type "ValueError", .type "Exception", .type "BaseException", .type "object"]
  e_InvalidStep : ErrG K a.InvalidStep a.InvalidStep___init__ "value" "ValueError" "ValueError.__new__" "ValueError.__init__" [.type "ValueError", .type "Exception", .type "BaseException", .type "object"]
  e_InvalidTable : ErrG K a.InvalidTable a.InvalidTable___init__ "value" "ValueError" "ValueError.__new__" "ValueError.__init__" [.type "ValueError", .type "Exception", .type "BaseException", .type "object"]
  e_InvalidEffect : ErrG K a.InvalidEffect a.InvalidEffect___init__ "value" "ValueError" "ValueError.__new__" "ValueError.__init__" [.type "ValueError", .type "Exception", .type "BaseException", .type "object"]
  e_InvalidNumber : ErrG K a.InvalidNumber a.InvalidNumber___init__ "value" "ValueError" "ValueError.__new__" "ValueError.__init__" [.type "ValueError", .type "Exception", .type "BaseException", .type "object"]
  e_InvalidFacts : ErrG K a.InvalidFacts a.InvalidFacts___init__ "value" "ValueError" "ValueError.__new__" "ValueError.__init__" [.type "ValueError", .type "Exception", .type "BaseException", .type "object"]
  e_InvalidName : ErrG K a.InvalidName a.InvalidName___init__ "value" "ValueError" "ValueError.__new__" "ValueError.__init__" [.type "ValueError", .type "Exception", .type "BaseException", .type "object"]
  e_InvalidCommand : ErrG K a.InvalidCommand a.InvalidCommand___init__ "value" "ValueError" "ValueError.__new__" "ValueError.__init__" [.type "ValueError", .type "Exception", .type "BaseException", .type "object"]
  e_ParseError : ErrG K a.ParseError a.ParseError___init__ "line" "ValueError" "ValueError.__new__" "ValueError.__init__" [.type "ValueError", .type "Exception", .type "BaseException", .type "object"]
  e_StepFailed : ErrG K a.StepFailed a.StepFailed___init__ "index" "RuntimeError" "RuntimeError.__new__" "RuntimeError.__init__" [.type "RuntimeError", .type "Exception", .type "BaseException", .type "object"]
  e_LimitExceeded : ErrG K a.LimitExceeded a.LimitExceeded___init__ "limit" "OverflowError" "OverflowError.__new__" "OverflowError.__init__" [.type "OverflowError", .type "ArithmeticError", .type "Exception", .type "BaseException", .type "object"]
  e_NothingToUndo : ErrG K a.NothingToUndo a.NothingToUndo___init__ "user" "LookupError" "LookupError.__new__" "LookupError.__init__" [.type "LookupError", .type "Exception", .type "BaseException", .type "object"]
  e_NothingToRedo : ErrG K a.NothingToRedo a.NothingToRedo___init__ "user" "LookupError" "LookupError.__new__" "LookupError.__init__" [.type "LookupError", .type "Exception", .type "BaseException", .type "object"]
  kit : ∀ i j : Nat, i < 13 → j < 13 → PySem.W.kitOne K (.ref (clsA a i)) (.ref (clsA a j)) = some (decide (i = j))
  kitR : ∀ i : Nat, i < 13 → PySem.W.kitOne K (.ref (clsA a i)) (.ref a.RankError) = some (decide (i < 9))
  kitV : ∀ i : Nat, i < 13 → PySem.W.kitOne K (.ref (clsA a i)) (.type "ValueError") = some (decide (i < 9))
  kitRt : ∀ i : Nat, i < 13 → PySem.W.kitOne K (.ref (clsA a i)) (.type "RuntimeError") = some (decide (i = 9))
  kitO : ∀ i : Nat, i < 13 → PySem.W.kitOne K (.ref (clsA a i)) (.type "OverflowError") = some (decide (i = 10))
  kitL : ∀ i : Nat, i < 13 → PySem.W.kitOne K (.ref (clsA a i)) (.type "LookupError") = some (decide (i > 10))

section
variable {P : Program} {w : World} {K : PySem.W.Frag} {mg : Str → Option Value} {base : Heap} {a : Ads}
theorem lt13 {i : Nat} (h : i < 13) : i = 0 ∨ i = 1 ∨ i = 2 ∨ i = 3 ∨ i = 4 ∨ i = 5 ∨ i = 6 ∨ i = 7 ∨ i = 8 ∨ i = 9 ∨ i = 10 ∨ i = 11 ∨ i = 12 := by omega
theorem exc_i (T : Txt K mg a) {i : Nat} (h : i < 13) : ExcC K (clsA a i) := by
  rcases lt13 h with rfl | rfl | rfl | rfl | rfl | rfl | rfl | rfl | rfl | rfl | rfl | rfl | rfl
  · exact T.e_InvalidList.exc
  · exact T.e_InvalidStep.exc
  · exact T.e_InvalidTable.exc
  · exact T.e_InvalidEffect.exc
  · exact T.e_InvalidNumber.exc
  · exact T.e_InvalidFacts.exc
  · exact T.e_InvalidName.exc
  · exact T.e_InvalidCommand.exc
  · exact T.e_ParseError.exc
  · exact T.e_StepFailed.exc
  · exact T.e_LimitExceeded.exc
  · exact T.e_NothingToUndo.exc
  · exact T.e_NothingToRedo.exc
theorem xf_i (T : Txt K mg a) {i : Nat} (h : i < 13) : XfC K (clsA a i) := by
  rcases lt13 h with rfl | rfl | rfl | rfl | rfl | rfl | rfl | rfl | rfl | rfl | rfl | rfl | rfl
  · exact T.e_InvalidList.xf
  · exact T.e_InvalidStep.xf
  · exact T.e_InvalidTable.xf
  · exact T.e_InvalidEffect.xf
  · exact T.e_InvalidNumber.xf
  · exact T.e_InvalidFacts.xf
  · exact T.e_InvalidName.xf
  · exact T.e_InvalidCommand.xf
  · exact T.e_ParseError.xf
  · exact T.e_StepFailed.xf
  · exact T.e_LimitExceeded.xf
  · exact T.e_NothingToUndo.xf
  · exact T.e_NothingToRedo.xf
theorem no_i (T : Txt K mg a) {i : Nat} (h : i < 13) : PySem.W.findIn K (.ref (clsA a i)) (fldA i) = some none := by
  rcases lt13 h with rfl | rfl | rfl | rfl | rfl | rfl | rfl | rfl | rfl | rfl | rfl | rfl | rfl
  · exact T.e_InvalidList.no
  · exact T.e_InvalidStep.no
  · exact T.e_InvalidTable.no
  · exact T.e_InvalidEffect.no
  · exact T.e_InvalidNumber.no
  · exact T.e_InvalidFacts.no
  · exact T.e_InvalidName.no
  · exact T.e_InvalidCommand.no
  · exact T.e_ParseError.no
  · exact T.e_StepFailed.no
  · exact T.e_LimitExceeded.no
  · exact T.e_NothingToUndo.no
  · exact T.e_NothingToRedo.no

theorem okE_InvalidList (T : Txt K mg a) (e : ErrG K a.InvalidList a.InvalidList___init__ "value" "ValueError" "ValueError.__new__" "ValueError.__init__" [.type "ValueError", .type "Exception", .type "BaseException", .type "object"]) {fd : FuncData} (F : Fun K "__init__" "InvalidList.__init__" s_InvalidList___init__ a.InvalidList___init__ fd) : FnOk P w K mg base CX0 1 a.InvalidList___init__ fd ["self", "value"] (spErr "value" a.InvalidList) := by
  refine F.ok sc_InvalidList___init__ (fun vs H Q E h => ?_) (fun cdv A outer s H vs Q E hr h => ?_)
  · obtain ⟨x, v, rfl, _⟩ := h
    rfl
  · obtain ⟨x, v, rfl, hx, q⟩ := h
    exact ⟨_, (pss_one (ps_gst (pv 0) (pv 1))), _, rfl, _, rfl, x, a.InvalidList, _, _, _, _, rfl, e.bx, e.oex, e.no, hx, fun dx hn hne => q dx hn hne⟩
theorem okE_InvalidStep (T : Txt K mg a) (e : ErrG K a.InvalidStep a.InvalidStep___init__ "value" "ValueError" "ValueError.__new__" "ValueError.__init__" [.type "ValueError", .type "Exception", .type "BaseException", .type "object"]) {fd : FuncData} (F : Fun K "__init__" "InvalidStep.__init__" s_InvalidStep___init__ a.InvalidStep___init__ fd) : FnOk P w K mg base CX0 1 a.InvalidStep___init__ fd ["self", "value"] (spErr "value" a.InvalidStep) := by
  refine F.ok sc_InvalidStep___init__ (fun vs H Q E h => ?_) (fun cdv A outer s H vs Q E hr h => ?_)
  · obtain ⟨x, v, rfl, _⟩ := h
    rfl
  · obtain ⟨x, v, rfl, hx, q⟩ := h
    exact ⟨_, (pss_one (ps_gst (pv 0) (pv 1))), _, rfl, _, rfl, x, a.InvalidStep, _, _, _, _, rfl, e.bx, e.oex, e.no, hx, fun dx hn hne => q dx hn hne⟩
theorem okE_InvalidTable (T : Txt K mg a) (e : ErrG K a.InvalidTable a.InvalidTable___init__ "value" "ValueError" "ValueError.__new__" "ValueError.__init__" [.type "ValueError", .type "Exception", .type "BaseException", .type "object"]) {fd : FuncData} (F : Fun K "__init__" "InvalidTable.__init__" s_InvalidTable___init__ a.InvalidTable___init__ fd) : FnOk P w K mg base CX0 1 a.InvalidTable___init__ fd ["self", "value"] (spErr "value" a.InvalidTable) := by
  refine F.ok sc_InvalidTable___init__ (fun vs H Q E h => ?_) (fun cdv A outer s H vs Q E hr h => ?_)
  · obtain ⟨x, v, rfl, _⟩ := h
    rfl
  · obtain ⟨x, v, rfl, hx, q⟩ := h
    exact ⟨_, (pss_one (ps_gst (pv 0) (pv 1))), _, rfl, _, rfl, x, a.InvalidTable, _, _, _, _, rfl, e.bx, e.oex, e.no, hx, fun dx hn hne => q dx hn hne⟩
theorem okE_InvalidEffect (T : Txt K mg a) (e : ErrG K a.InvalidEffect a.InvalidEffect___init__ "value" "ValueError" "ValueError.__new__" "ValueError.__init__" [.type "ValueError", .type "Exception", .type "BaseException", .type "object"]) {fd : FuncData} (F : Fun K "__init__" "InvalidEffect.__init__" s_InvalidEffect___init__ a.InvalidEffect___init__ fd) : FnOk P w K mg base CX0 1 a.InvalidEffect___init__ fd ["self", "value"] (spErr "value" a.InvalidEffect) := by
  refine F.ok sc_InvalidEffect___init__ (fun vs H Q E h => ?_) (fun cdv A outer s H vs Q E hr h => ?_)
  · obtain ⟨x, v, rfl, _⟩ := h
    rfl
  · obtain ⟨x, v, rfl, hx, q⟩ := h
    exact ⟨_, (pss_one (ps_gst (pv 0) (pv 1))), _, rfl, _, rfl, x, a.InvalidEffect, _, _, _, _, rfl, e.bx, e.oex, e.no, hx, fun dx hn hne => q dx hn hne⟩
theorem okE_InvalidNumber (T : Txt K mg a) (e : ErrG K a.InvalidNumber a.InvalidNumber___init__ "value" "ValueError" "ValueError.__new__" "ValueError.__init__" [.type "ValueError", .type "Exception", .type "BaseException", .type "object"]) {fd : FuncData} (F : Fun K "__init__" "InvalidNumber.__init__" s_InvalidNumber___init__ a.InvalidNumber___init__ fd) : FnOk P w K mg base CX0 1 a.InvalidNumber___init__ fd ["self", "value"] (spErr "value" a.InvalidNumber) := by
  refine F.ok sc_InvalidNumber___init__ (fun vs H Q E h => ?_) (fun cdv A outer s H vs Q E hr h => ?_)
  · obtain ⟨x, v, rfl, _⟩ := h
    rfl
  · obtain ⟨x, v, rfl, hx, q⟩ := h
    exact ⟨_, (pss_one (ps_gst (pv 0) (pv 1))), _, rfl, _, rfl, x, a.InvalidNumber, _, _, _, _, rfl, e.bx, e.oex, e.no, hx, fun dx hn hne => q dx hn hne⟩
theorem okE_InvalidFacts (T : Txt K mg a) (e : ErrG K a.InvalidFacts a.InvalidFacts___init__ "value" "ValueError" "ValueError.__new__" "ValueError.__init__" [.type "ValueError", .type "Exception", .type "BaseException", .type "object"]) {fd : FuncData} (F : Fun K "__init__" "InvalidFacts.__init__" s_InvalidFacts___init__ a.InvalidFacts___init__ fd) : FnOk P w K mg base CX0 1 a.InvalidFacts___init__ fd ["self", "value"] (spErr "value" a.InvalidFacts) := by
  refine F.ok sc_InvalidFacts___init__ (fun vs H Q E h => ?_) (fun cdv A outer s H vs Q E hr h => ?_)
  · obtain ⟨x, v, rfl, _⟩ := h
    rfl
  · obtain ⟨x, v, rfl, hx, q⟩ := h
    exact ⟨_, (pss_one (ps_gst (pv 0) (pv 1))), _, rfl, _, rfl, x, a.InvalidFacts, _, _, _, _, rfl, e.bx, e.oex, e.no, hx, fun dx hn hne => q dx hn hne⟩
theorem okE_InvalidName (T : Txt K mg a) (e : ErrG K a.InvalidName a.InvalidName___init__ "value" "ValueError" "ValueError.__new__" "ValueError.__init__" [.type "ValueError", .type "Exception", .type "BaseException", .type "object"]) {fd : FuncData} (F : Fun K "__init__" "InvalidName.__init__" s_InvalidName___init__ a.InvalidName___init__ fd) : FnOk P w K mg base CX0 1 a.InvalidName___init__ fd ["self", "value"] (spErr "value" a.InvalidName) := by
  refine F.ok sc_InvalidName___init__ (fun vs H Q E h => ?_) (fun cdv A outer s H vs Q E hr h => ?_)
  · obtain ⟨x, v, rfl, _⟩ := h
    rfl
  · obtain ⟨x, v, rfl, hx, q⟩ := h
    exact ⟨_, (pss_one (ps_gst (pv 0) (pv 1))), _, rfl, _, rfl, x, a.InvalidName, _, _, _, _, rfl, e.bx, e.oex, e.no, hx, fun dx hn hne => q dx hn hne⟩
theorem okE_InvalidCommand (T : Txt K mg a) (e : ErrG K a.InvalidCommand a.InvalidCommand___init__ "value" "ValueError" "ValueError.__new__" "ValueError.__init__" [.type "ValueError", .type "Exception", .type "BaseException", .type "object"]) {fd : FuncData} (F : Fun K "__init__" "InvalidCommand.__init__" s_InvalidCommand___init__ a.InvalidCommand___init__ fd) : FnOk P w K mg base CX0 1 a.InvalidCommand___init__ fd ["self", "value"] (spErr "value" a.InvalidCommand) := by
  refine F.ok sc_InvalidCommand___init__ (fun vs H Q E h => ?_) (fun cdv A outer s H vs Q E hr h => ?_)
  · obtain ⟨x, v, rfl, _⟩ := h
    rfl
  · obtain ⟨x, v, rfl, hx, q⟩ := h
    exact ⟨_, (pss_one (ps_gst (pv 0) (pv 1))), _, rfl, _, rfl, x, a.InvalidCommand, _, _, _, _, rfl, e.bx, e.oex, e.no, hx, fun dx hn hne => q dx hn hne⟩
theorem okE_ParseError (T : Txt K mg a) (e : ErrG K a.ParseError a.ParseError___init__ "line" "ValueError" "ValueError.__new__" "ValueError.__init__" [.type "ValueError", .type "Exception", .type "BaseException", .type "object"]) {fd : FuncData} (F : Fun K "__init__" "ParseError.__init__" s_ParseError___init__ a.ParseError___init__ fd) : FnOk P w K mg base CX0 1 a.ParseError___init__ fd ["self", "line"] (spErr "line" a.ParseError) := by
  refine F.ok sc_ParseError___init__ (fun vs H Q E h => ?_) (fun cdv A outer s H vs Q E hr h => ?_)
  · obtain ⟨x, v, rfl, _⟩ := h
    rfl
  · obtain ⟨x, v, rfl, hx, q⟩ := h
    exact ⟨_, (pss_one (ps_gst (pv 0) (pv 1))), _, rfl, _, rfl, x, a.ParseError, _, _, _, _, rfl, e.bx, e.oex, e.no, hx, fun dx hn hne => q dx hn hne⟩
theorem okE_StepFailed (T : Txt K mg a) (e : ErrG K a.StepFailed a.StepFailed___init__ "index" "RuntimeError" "RuntimeError.__new__" "RuntimeError.__init__" [.type "RuntimeError", .type "Exception", .type "BaseException", .type "object"]) {fd : FuncData} (F : Fun K "__init__" "StepFailed.__init__" s_StepFailed___init__ a.StepFailed___init__ fd) : FnOk P w K mg base CX0 1 a.StepFailed___init__ fd ["self", "index"] (spErr "index" a.StepFailed) := by
  refine F.ok sc_StepFailed___init__ (fun vs H Q E h => ?_) (fun cdv A outer s H vs Q E hr h => ?_)
  · obtain ⟨x, v, rfl, _⟩ := h
    rfl
  · obtain ⟨x, v, rfl, hx, q⟩ := h
    exact ⟨_, (pss_one (ps_gst (pv 0) (pv 1))), _, rfl, _, rfl, x, a.StepFailed, _, _, _, _, rfl, e.bx, e.oex, e.no, hx, fun dx hn hne => q dx hn hne⟩
theorem okE_LimitExceeded (T : Txt K mg a) (e : ErrG K a.LimitExceeded a.LimitExceeded___init__ "limit" "OverflowError" "OverflowError.__new__" "OverflowError.__init__" [.type "OverflowError", .type "ArithmeticError", .type "Exception", .type "BaseException", .type "object"]) {fd : FuncData} (F : Fun K "__init__" "LimitExceeded.__init__" s_LimitExceeded___init__ a.LimitExceeded___init__ fd) : FnOk P w K mg base CX0 1 a.LimitExceeded___init__ fd ["self", "limit"] (spErr "limit" a.LimitExceeded) := by
  refine F.ok sc_LimitExceeded___init__ (fun vs H Q E h => ?_) (fun cdv A outer s H vs Q E hr h => ?_)
  · obtain ⟨x, v, rfl, _⟩ := h
    rfl
  · obtain ⟨x, v, rfl, hx, q⟩ := h
    exact ⟨_, (pss_one (ps_gst (pv 0) (pv 1))), _, rfl, _, rfl, x, a.LimitExceeded, _, _, _, _, rfl, e.bx, e.oex, e.no, hx, fun dx hn hne => q dx hn hne⟩
theorem okE_NothingToUndo (T : Txt K mg a) (e : ErrG K a.NothingToUndo a.NothingToUndo___init__ "user" "LookupError" "LookupError.__new__" "LookupError.__init__" [.type "LookupError", .type "Exception", .type "BaseException", .type "object"]) {fd : FuncData} (F : Fun K "__init__" "NothingToUndo.__init__" s_NothingToUndo___init__ a.NothingToUndo___init__ fd) : FnOk P w K mg base CX0 1 a.NothingToUndo___init__ fd ["self", "user"] (spErr "user" a.NothingToUndo) := by
  refine F.ok sc_NothingToUndo___init__ (fun vs H Q E h => ?_) (fun cdv A outer s H vs Q E hr h => ?_)
  · obtain ⟨x, v, rfl, _⟩ := h
    rfl
  · obtain ⟨x, v, rfl, hx, q⟩ := h
    exact ⟨_, (pss_one (ps_gst (pv 0) (pv 1))), _, rfl, _, rfl, x, a.NothingToUndo, _, _, _, _, rfl, e.bx, e.oex, e.no, hx, fun dx hn hne => q dx hn hne⟩
theorem okE_NothingToRedo (T : Txt K mg a) (e : ErrG K a.NothingToRedo a.NothingToRedo___init__ "user" "LookupError" "LookupError.__new__" "LookupError.__init__" [.type "LookupError", .type "Exception", .type "BaseException", .type "object"]) {fd : FuncData} (F : Fun K "__init__" "NothingToRedo.__init__" s_NothingToRedo___init__ a.NothingToRedo___init__ fd) : FnOk P w K mg base CX0 1 a.NothingToRedo___init__ fd ["self", "user"] (spErr "user" a.NothingToRedo) := by
  refine F.ok sc_NothingToRedo___init__ (fun vs H Q E h => ?_) (fun cdv A outer s H vs Q E hr h => ?_)
  · obtain ⟨x, v, rfl, _⟩ := h
    rfl
  · obtain ⟨x, v, rfl, hx, q⟩ := h
    exact ⟨_, (pss_one (ps_gst (pv 0) (pv 1))), _, rfl, _, rfl, x, a.NothingToRedo, _, _, _, _, rfl, e.bx, e.oex, e.no, hx, fun dx hn hne => q dx hn hne⟩
end
end K04
namespace K04
open PySem L2 XT
section
variable {P : Program} {w : World} {K : PySem.W.Frag} {mg : Str → Option Value} {base : Heap} {a : Ads}
theorem line_ge : (100000 : Nat) ≤ sizeLine := by rw [sizeLine_eq]; decide
/-- the errors es, one of each class, hold x -/
def Errs (a : Ads) (H : Hp) (x : V) (n : Nat) (f : Nat → Str) (es : List Addr) : Prop := es.length = n ∧ ∀ i e, es[i]? = some e → ErrAt H (clsA a i) (f i) x e
theorem Errs.same {H H' : Hp} {x : V} {n : Nat} {f : Nat → Str} {es : List Addr} (h : Errs a H x n f es) (s : Same H H') : Errs a H' x n f es := ⟨h.1, fun i e q => (h.2 i e q).same s⟩
theorem val_i {i : Nat} (h : i < 8) : fldA i = "value" := by
  have : i = 0 ∨ i = 1 ∨ i = 2 ∨ i = 3 ∨ i = 4 ∨ i = 5 ∨ i = 6 ∨ i = 7 := by omega
  rcases this with rfl | rfl | rfl | rfl | rfl | rfl | rfl | rfl <;> rfl
def spErrs (a : Ads) : Sp := fun vs H Q _ => ∃ x, vs = [x] ∧ ∀ l es H', Same H H' → H l = Option.none → H' l = some (.lst (es.map V.ref)) → Errs a H' x 13 fldA es → Q (.ref l) H'
def spNamed (a : Ads) : Sp := fun vs H Q _ => ∃ x, vs = [x] ∧ ∀ l es H', Same H H' → H l = Option.none → H' l = some (.lst (es.map V.ref)) → Errs a H' x 8 fldA es → Q (.ref l) H'
def spKinds (a : Ads) : Sp := fun vs H Q _ => ∃ (e : Addr) (i : Nat) (x : V), vs = [.ref e] ∧ i < 13 ∧ ErrAt H (clsA a i) (fldA i) x e ∧ ∀ l H', Same H H' → H l = Option.none → H' l = some (.lst ((List.range 13).map fun j => V.bl (decide (i = j)))) → Q (.ref l) H'
def spFields (a : Ads) : Sp := fun vs H Q _ => ∃ (l : Addr) (es : List Addr) (x : V), vs = [.ref l] ∧ H l = some (.lst (es.map V.ref)) ∧ Errs a H x 13 fldA es ∧ ∀ r H', Same H H' → H r = Option.none → H' r = some (.lst (List.replicate 13 x)) → Q (.ref r) H'
theorem ok_law_errors (T : Txt K mg a) : FnR P w K mg base CX0 4 a.law_errors (spErrs a) := by
  obtain ⟨fd, F⟩ := T.F_law_errors
  refine XT.okR F sc_law_errors bn_law_errors (fun vs H Q E h => ?_) (fun cdv A outer s H vs Q E hr h => ?_)
  · obtain ⟨x, rfl, _⟩ := h
    rfl
  · obtain ⟨x, rfl, k⟩ := h
    obtain ⟨fd0, FE0⟩ := T.F_InvalidList___init__
    have GE_InvalidList := okE_InvalidList (P := P) (w := w) (base := base) T T.e_InvalidList FE0
    have BE_InvalidList := FE0.binds bn_InvalidList___init__
    have BK_InvalidList := bindsK FE0 bk_InvalidList
    obtain ⟨fd1, FE1⟩ := T.F_InvalidStep___init__
    have GE_InvalidStep := okE_InvalidStep (P := P) (w := w) (base := base) T T.e_InvalidStep FE1
    have BE_InvalidStep := FE1.binds bn_InvalidStep___init__
    have BK_InvalidStep := bindsK FE1 bk_InvalidStep
    obtain ⟨fd2, FE2⟩ := T.F_InvalidTable___init__
    have GE_InvalidTable := okE_InvalidTable (P := P) (w := w) (base := base) T T.e_InvalidTable FE2
    have BE_InvalidTable := FE2.binds bn_InvalidTable___init__
    have BK_InvalidTable := bindsK FE2 bk_InvalidTable
    obtain ⟨fd3, FE3⟩ := T.F_InvalidEffect___init__
    have GE_InvalidEffect := okE_InvalidEffect (P := P) (w := w) (base := base) T T.e_InvalidEffect FE3
    have BE_InvalidEffect := FE3.binds bn_InvalidEffect___init__
    have BK_InvalidEffect := bindsK FE3 bk_InvalidEffect
    obtain ⟨fd4, FE4⟩ := T.F_InvalidNumber___init__
    have GE_InvalidNumber := okE_InvalidNumber (P := P) (w := w) (base := base) T T.e_InvalidNumber FE4
    have BE_InvalidNumber := FE4.binds bn_InvalidNumber___init__
    have BK_InvalidNumber := bindsK FE4 bk_InvalidNumber
    obtain ⟨fd5, FE5⟩ := T.F_InvalidFacts___init__
    have GE_InvalidFacts := okE_InvalidFacts (P := P) (w := w) (base := base) T T.e_InvalidFacts FE5
    have BE_InvalidFacts := FE5.binds bn_InvalidFacts___init__
    have BK_InvalidFacts := bindsK FE5 bk_InvalidFacts
    obtain ⟨fd6, FE6⟩ := T.F_InvalidName___init__
    have GE_InvalidName := okE_InvalidName (P := P) (w := w) (base := base) T T.e_InvalidName FE6
    have BE_InvalidName := FE6.binds bn_InvalidName___init__
    have BK_InvalidName := bindsK FE6 bk_InvalidName
    obtain ⟨fd7, FE7⟩ := T.F_InvalidCommand___init__
    have GE_InvalidCommand := okE_InvalidCommand (P := P) (w := w) (base := base) T T.e_InvalidCommand FE7
    have BE_InvalidCommand := FE7.binds bn_InvalidCommand___init__
    have BK_InvalidCommand := bindsK FE7 bk_InvalidCommand
    obtain ⟨fd8, FE8⟩ := T.F_ParseError___init__
    have GE_ParseError := okE_ParseError (P := P) (w := w) (base := base) T T.e_ParseError FE8
    have BE_ParseError := FE8.binds bn_ParseError___init__
    have BK_ParseError := bindsK FE8 bk_ParseError
    obtain ⟨fd9, FE9⟩ := T.F_StepFailed___init__
    have GE_StepFailed := okE_StepFailed (P := P) (w := w) (base := base) T T.e_StepFailed FE9
    have BE_StepFailed := FE9.binds bn_StepFailed___init__
    have BK_StepFailed := bindsK FE9 bk_StepFailed
    obtain ⟨fd10, FE10⟩ := T.F_LimitExceeded___init__
    have GE_LimitExceeded := okE_LimitExceeded (P := P) (w := w) (base := base) T T.e_LimitExceeded FE10
    have BE_LimitExceeded := FE10.binds bn_LimitExceeded___init__
    have BK_LimitExceeded := bindsK FE10 bk_LimitExceeded
    obtain ⟨fd11, FE11⟩ := T.F_NothingToUndo___init__
    have GE_NothingToUndo := okE_NothingToUndo (P := P) (w := w) (base := base) T T.e_NothingToUndo FE11
    have BE_NothingToUndo := FE11.binds bn_NothingToUndo___init__
    have BK_NothingToUndo := bindsK FE11 bk_NothingToUndo
    obtain ⟨fd12, FE12⟩ := T.F_NothingToRedo___init__
    have GE_NothingToRedo := okE_NothingToRedo (P := P) (w := w) (base := base) T T.e_NothingToRedo FE12
    have BE_NothingToRedo := FE12.binds bn_NothingToRedo___init__
    have BK_NothingToRedo := bindsK FE12 bk_NothingToRedo
    refine ⟨_, (pss_cons (ps_set (i := 1) sc_law_errors.nd rfl (Or.inl rfl) (pe_lst (pa_cons (pe_mkErr T.e_InvalidList GE_InvalidList BE_InvalidList rfl (hr.mono (by decide)) (by rfl) T.g_InvalidList (pv 0)) (pa_cons (pe_mkErr T.e_InvalidStep GE_InvalidStep BE_InvalidStep rfl (hr.mono (by decide)) (by rfl) T.g_InvalidStep (pv 0)) (pa_cons (pe_mkErr T.e_InvalidTable GE_InvalidTable BE_InvalidTable rfl (hr.mono (by decide)) (by rfl) T.g_InvalidTable (pv 0)) (pa_cons (pe_mkErr T.e_InvalidEffect GE_InvalidEffect BE_InvalidEffect rfl (hr.mono (by decide)) (by rfl) T.g_InvalidEffect (pv 0)) (pa_cons (pe_mkErr T.e_InvalidNumber GE_InvalidNumber BE_InvalidNumber rfl (hr.mono (by decide)) (by rfl) T.g_InvalidNumber (pv 0)) (pa_cons (pe_mkErr T.e_InvalidFacts GE_InvalidFacts BE_InvalidFacts rfl (hr.mono (by decide)) (by rfl) T.g_InvalidFacts (pv 0)) pa_nil))))))))
      (pss_cons (ps_set (i := 1) sc_law_errors.nd rfl (Or.inl rfl) (pe_op op_cat (pv 1) (pe_lst (pa_cons (pe_mkErr T.e_InvalidName GE_InvalidName BE_InvalidName rfl (hr.mono (by decide)) (by rfl) T.g_InvalidName (pv 0)) (pa_cons (pe_mkErr T.e_InvalidCommand GE_InvalidCommand BE_InvalidCommand rfl (hr.mono (by decide)) (by rfl) T.g_InvalidCommand (pv 0)) (pa_cons (pe_mkErr T.e_ParseError GE_ParseError BE_ParseError rfl (hr.mono (by decide)) (by rfl) T.g_ParseError (pv 0)) (pa_cons (pe_mkErr T.e_StepFailed GE_StepFailed BE_StepFailed rfl (hr.mono (by decide)) (by rfl) T.g_StepFailed (pv 0)) (pa_cons (pe_mkErr T.e_LimitExceeded GE_LimitExceeded BE_LimitExceeded rfl (hr.mono (by decide)) (by rfl) T.g_LimitExceeded (pv 0)) pa_nil))))))))
      (pss_one (ps_ret (pe_op op_cat (pv 1) (pe_lst (pa_cons (pe_mkErr T.e_NothingToUndo GE_NothingToUndo BE_NothingToUndo rfl (hr.mono (by decide)) (by rfl) T.g_NothingToUndo (pv 0)) (pa_cons (pe_mkErr T.e_NothingToRedo GE_NothingToRedo BE_NothingToRedo rfl (hr.mono (by decide)) (by rfl) T.g_NothingToRedo (pv 0)) pa_nil)))))))), ?_⟩
    refine ⟨_, rfl, _, rfl, fun e0 K0 s0 n0 h0 => ⟨_, rfl, _, rfl, fun e1 K1 s1 n1 h1 => ⟨_, rfl, _, rfl, fun e2 K2 s2 n2 h2 => ⟨_, rfl, _, rfl, fun e3 K3 s3 n3 h3 => ⟨_, rfl, _, rfl, fun e4 K4 s4 n4 h4 => ⟨_, rfl, _, rfl, fun e5 K5 s5 n5 h5 => ?_⟩⟩⟩⟩⟩⟩
    refine ⟨by show 6 ≤ sizeLine; decide, fun p1 hp1 => ?_⟩
    have q1 := same_new (o := .lst [V.ref e0, V.ref e1, V.ref e2, V.ref e3, V.ref e4, V.ref e5]) hp1
    have f1 := @upd_same K5 p1 (.lst [V.ref e0, V.ref e1, V.ref e2, V.ref e3, V.ref e4, V.ref e5])
    generalize upd K5 p1 (.lst [V.ref e0, V.ref e1, V.ref e2, V.ref e3, V.ref e4, V.ref e5]) = J1 at q1 f1
    refine ⟨_, rfl, ?_⟩
    refine ⟨_, rfl, _, rfl, fun e6 K6 s6 n6 h6 => ⟨_, rfl, _, rfl, fun e7 K7 s7 n7 h7 => ⟨_, rfl, _, rfl, fun e8 K8 s8 n8 h8 => ⟨_, rfl, _, rfl, fun e9 K9 s9 n9 h9 => ⟨_, rfl, _, rfl, fun e10 K10 s10 n10 h10 => ?_⟩⟩⟩⟩⟩
    have g1 := ((((s6.trans s7).trans s8).trans s9).trans s10) _ _ f1
    refine ⟨by show 5 ≤ sizeLine; decide, fun p2 hp2 => ?_⟩
    have q2 := same_new (o := .lst [V.ref e6, V.ref e7, V.ref e8, V.ref e9, V.ref e10]) hp2
    have f2 := @upd_same K10 p2 (.lst [V.ref e6, V.ref e7, V.ref e8, V.ref e9, V.ref e10])
    have g2 := q2 _ _ g1
    generalize upd K10 p2 (.lst [V.ref e6, V.ref e7, V.ref e8, V.ref e9, V.ref e10]) = J2 at q2 f2 g2
    refine ⟨p1, p2, _, _, rfl, rfl, g2, f2, Nat.le_trans (by simp only [List.length_map, List.length_append, List.length_cons, List.length_nil]; decide) line_ge, fun p3 hp3 => ?_⟩
    have q3 := same_new (o := .lst ([V.ref e0, V.ref e1, V.ref e2, V.ref e3, V.ref e4, V.ref e5] ++ [V.ref e6, V.ref e7, V.ref e8, V.ref e9, V.ref e10])) hp3
    have f3 := @upd_same J2 p3 (.lst ([V.ref e0, V.ref e1, V.ref e2, V.ref e3, V.ref e4, V.ref e5] ++ [V.ref e6, V.ref e7, V.ref e8, V.ref e9, V.ref e10]))
    generalize upd J2 p3 (.lst ([V.ref e0, V.ref e1, V.ref e2, V.ref e3, V.ref e4, V.ref e5] ++ [V.ref e6, V.ref e7, V.ref e8, V.ref e9, V.ref e10])) = J3 at q3 f3
    refine ⟨_, rfl, ?_⟩
    refine ⟨_, rfl, _, rfl, fun e11 K11 s11 n11 h11 => ⟨_, rfl, _, rfl, fun e12 K12 s12 n12 h12 => ?_⟩⟩
    have g3 := (s11.trans s12) _ _ f3
    refine ⟨by show 2 ≤ sizeLine; decide, fun p4 hp4 => ?_⟩
    have q4 := same_new (o := .lst [V.ref e11, V.ref e12]) hp4
    have f4 := @upd_same K12 p4 (.lst [V.ref e11, V.ref e12])
    have g4 := q4 _ _ g3
    generalize upd K12 p4 (.lst [V.ref e11, V.ref e12]) = J4 at q4 f4 g4
    refine ⟨p3, p4, _, _, rfl, rfl, g4, f4, Nat.le_trans (by simp only [List.length_map, List.length_append, List.length_cons, List.length_nil]; decide) line_ge, fun p5 hp5 => ?_⟩
    have q5 := same_new (o := .lst ([V.ref e0, V.ref e1, V.ref e2, V.ref e3, V.ref e4, V.ref e5] ++ [V.ref e6, V.ref e7, V.ref e8, V.ref e9, V.ref e10] ++ [V.ref e11, V.ref e12])) hp5
    refine k p5 [e0, e1, e2, e3, e4, e5, e6, e7, e8, e9, e10, e11, e12] _ ((((((((((((((((((s0.trans s1).trans s2).trans s3).trans s4).trans s5).trans q1).trans s6).trans s7).trans s8).trans s9).trans s10).trans q2).trans q3).trans s11).trans s12).trans q4).trans q5)) ((((((((((((((((((s0.trans s1).trans s2).trans s3).trans s4).trans s5).trans q1).trans s6).trans s7).trans s8).trans s9).trans s10).trans q2).trans q3).trans s11).trans s12).trans q4)).free hp5) upd_same ⟨rfl, fun i e hi => ?_⟩
    have hlt : i < 13 := (List.getElem?_eq_some_iff.mp hi).1
    rcases lt13 hlt with rfl | rfl | rfl | rfl | rfl | rfl | rfl | rfl | rfl | rfl | rfl | rfl | rfl
    · have h' : some e0 = some e := hi
      cases h'
      exact h0.same (((((((((((((((((s1.trans s2).trans s3).trans s4).trans s5).trans q1).trans s6).trans s7).trans s8).trans s9).trans s10).trans q2).trans q3).trans s11).trans s12).trans q4).trans q5))
    · have h' : some e1 = some e := hi
      cases h'
      exact h1.same ((((((((((((((((s2.trans s3).trans s4).trans s5).trans q1).trans s6).trans s7).trans s8).trans s9).trans s10).trans q2).trans q3).trans s11).trans s12).trans q4).trans q5))
    · have h' : some e2 = some e := hi
      cases h'
      exact h2.same (((((((((((((((s3.trans s4).trans s5).trans q1).trans s6).trans s7).trans s8).trans s9).trans s10).trans q2).trans q3).trans s11).trans s12).trans q4).trans q5))
    · have h' : some e3 = some e := hi
      cases h'
      exact h3.same ((((((((((((((s4.trans s5).trans q1).trans s6).trans s7).trans s8).trans s9).trans s10).trans q2).trans q3).trans s11).trans s12).trans q4).trans q5))
    · have h' : some e4 = some e := hi
      cases h'
      exact h4.same (((((((((((((s5.trans q1).trans s6).trans s7).trans s8).trans s9).trans s10).trans q2).trans q3).trans s11).trans s12).trans q4).trans q5))
    · have h' : some e5 = some e := hi
      cases h'
      exact h5.same ((((((((((((q1.trans s6).trans s7).trans s8).trans s9).trans s10).trans q2).trans q3).trans s11).trans s12).trans q4).trans q5))
    · have h' : some e6 = some e := hi
      cases h'
      exact h6.same ((((((((((s7.trans s8).trans s9).trans s10).trans q2).trans q3).trans s11).trans s12).trans q4).trans q5))
    · have h' : some e7 = some e := hi
      cases h'
      exact h7.same (((((((((s8.trans s9).trans s10).trans q2).trans q3).trans s11).trans s12).trans q4).trans q5))
    · have h' : some e8 = some e := hi
      cases h'
      exact h8.same ((((((((s9.trans s10).trans q2).trans q3).trans s11).trans s12).trans q4).trans q5))
    · have h' : some e9 = some e := hi
      cases h'
      exact h9.same (((((((s10.trans q2).trans q3).trans s11).trans s12).trans q4).trans q5))
    · have h' : some e10 = some e := hi
      cases h'
      exact h10.same ((((((q2.trans q3).trans s11).trans s12).trans q4).trans q5))
    · have h' : some e11 = some e := hi
      cases h'
      exact h11.same (((s12.trans q4).trans q5))
    · have h' : some e12 = some e := hi
      cases h'
      exact h12.same ((q4.trans q5))
theorem ok_law_named (T : Txt K mg a) : FnR P w K mg base CX0 4 a.law_named (spNamed a) := by
  obtain ⟨fd, F⟩ := T.F_law_named
  refine XT.okR F sc_law_named bn_law_named (fun vs H Q E h => ?_) (fun cdv A outer s H vs Q E hr h => ?_)
  · obtain ⟨x, rfl, _⟩ := h
    rfl
  · obtain ⟨x, rfl, k⟩ := h
    obtain ⟨fd0, FE0⟩ := T.F_InvalidList___init__
    have GE_InvalidList := okE_InvalidList (P := P) (w := w) (base := base) T T.e_InvalidList FE0
    have BE_InvalidList := FE0.binds bn_InvalidList___init__
    have BK_InvalidList := bindsK FE0 bk_InvalidList
    obtain ⟨fd1, FE1⟩ := T.F_InvalidStep___init__
    have GE_InvalidStep := okE_InvalidStep (P := P) (w := w) (base := base) T T.e_InvalidStep FE1
    have BE_InvalidStep := FE1.binds bn_InvalidStep___init__
    have BK_InvalidStep := bindsK FE1 bk_InvalidStep
    obtain ⟨fd2, FE2⟩ := T.F_InvalidTable___init__
    have GE_InvalidTable := okE_InvalidTable (P := P) (w := w) (base := base) T T.e_InvalidTable FE2
    have BE_InvalidTable := FE2.binds bn_InvalidTable___init__
    have BK_InvalidTable := bindsK FE2 bk_InvalidTable
    obtain ⟨fd3, FE3⟩ := T.F_InvalidEffect___init__
    have GE_InvalidEffect := okE_InvalidEffect (P := P) (w := w) (base := base) T T.e_InvalidEffect FE3
    have BE_InvalidEffect := FE3.binds bn_InvalidEffect___init__
    have BK_InvalidEffect := bindsK FE3 bk_InvalidEffect
    obtain ⟨fd4, FE4⟩ := T.F_InvalidNumber___init__
    have GE_InvalidNumber := okE_InvalidNumber (P := P) (w := w) (base := base) T T.e_InvalidNumber FE4
    have BE_InvalidNumber := FE4.binds bn_InvalidNumber___init__
    have BK_InvalidNumber := bindsK FE4 bk_InvalidNumber
    obtain ⟨fd5, FE5⟩ := T.F_InvalidFacts___init__
    have GE_InvalidFacts := okE_InvalidFacts (P := P) (w := w) (base := base) T T.e_InvalidFacts FE5
    have BE_InvalidFacts := FE5.binds bn_InvalidFacts___init__
    have BK_InvalidFacts := bindsK FE5 bk_InvalidFacts
    obtain ⟨fd6, FE6⟩ := T.F_InvalidName___init__
    have GE_InvalidName := okE_InvalidName (P := P) (w := w) (base := base) T T.e_InvalidName FE6
    have BE_InvalidName := FE6.binds bn_InvalidName___init__
    have BK_InvalidName := bindsK FE6 bk_InvalidName
    obtain ⟨fd7, FE7⟩ := T.F_InvalidCommand___init__
    have GE_InvalidCommand := okE_InvalidCommand (P := P) (w := w) (base := base) T T.e_InvalidCommand FE7
    have BE_InvalidCommand := FE7.binds bn_InvalidCommand___init__
    have BK_InvalidCommand := bindsK FE7 bk_InvalidCommand
    obtain ⟨fd8, FE8⟩ := T.F_ParseError___init__
    have GE_ParseError := okE_ParseError (P := P) (w := w) (base := base) T T.e_ParseError FE8
    have BE_ParseError := FE8.binds bn_ParseError___init__
    have BK_ParseError := bindsK FE8 bk_ParseError
    obtain ⟨fd9, FE9⟩ := T.F_StepFailed___init__
    have GE_StepFailed := okE_StepFailed (P := P) (w := w) (base := base) T T.e_StepFailed FE9
    have BE_StepFailed := FE9.binds bn_StepFailed___init__
    have BK_StepFailed := bindsK FE9 bk_StepFailed
    obtain ⟨fd10, FE10⟩ := T.F_LimitExceeded___init__
    have GE_LimitExceeded := okE_LimitExceeded (P := P) (w := w) (base := base) T T.e_LimitExceeded FE10
    have BE_LimitExceeded := FE10.binds bn_LimitExceeded___init__
    have BK_LimitExceeded := bindsK FE10 bk_LimitExceeded
    obtain ⟨fd11, FE11⟩ := T.F_NothingToUndo___init__
    have GE_NothingToUndo := okE_NothingToUndo (P := P) (w := w) (base := base) T T.e_NothingToUndo FE11
    have BE_NothingToUndo := FE11.binds bn_NothingToUndo___init__
    have BK_NothingToUndo := bindsK FE11 bk_NothingToUndo
    obtain ⟨fd12, FE12⟩ := T.F_NothingToRedo___init__
    have GE_NothingToRedo := okE_NothingToRedo (P := P) (w := w) (base := base) T T.e_NothingToRedo FE12
    have BE_NothingToRedo := FE12.binds bn_NothingToRedo___init__
    have BK_NothingToRedo := bindsK FE12 bk_NothingToRedo
    refine ⟨_, (pss_cons (ps_set (i := 1) sc_law_named.nd rfl (Or.inl rfl) (pe_lst (pa_cons (pe_mkErrK T.e_InvalidList GE_InvalidList BK_InvalidList (hr.mono (by decide)) (by rfl) T.g_InvalidList (pv 0)) (pa_cons (pe_mkErrK T.e_InvalidStep GE_InvalidStep BK_InvalidStep (hr.mono (by decide)) (by rfl) T.g_InvalidStep (pv 0)) (pa_cons (pe_mkErrK T.e_InvalidTable GE_InvalidTable BK_InvalidTable (hr.mono (by decide)) (by rfl) T.g_InvalidTable (pv 0)) (pa_cons (pe_mkErrK T.e_InvalidEffect GE_InvalidEffect BK_InvalidEffect (hr.mono (by decide)) (by rfl) T.g_InvalidEffect (pv 0)) pa_nil))))))
      (pss_one (ps_ret (pe_op op_cat (pv 1) (pe_lst (pa_cons (pe_mkErrK T.e_InvalidNumber GE_InvalidNumber BK_InvalidNumber (hr.mono (by decide)) (by rfl) T.g_InvalidNumber (pv 0)) (pa_cons (pe_mkErrK T.e_InvalidFacts GE_InvalidFacts BK_InvalidFacts (hr.mono (by decide)) (by rfl) T.g_InvalidFacts (pv 0)) (pa_cons (pe_mkErrK T.e_InvalidName GE_InvalidName BK_InvalidName (hr.mono (by decide)) (by rfl) T.g_InvalidName (pv 0)) (pa_cons (pe_mkErrK T.e_InvalidCommand GE_InvalidCommand BK_InvalidCommand (hr.mono (by decide)) (by rfl) T.g_InvalidCommand (pv 0)) pa_nil))))))))), ?_⟩
    refine ⟨_, rfl, _, rfl, fun e0 K0 s0 n0 h0 => ⟨_, rfl, _, rfl, fun e1 K1 s1 n1 h1 => ⟨_, rfl, _, rfl, fun e2 K2 s2 n2 h2 => ⟨_, rfl, _, rfl, fun e3 K3 s3 n3 h3 => ?_⟩⟩⟩⟩
    refine ⟨by show 4 ≤ sizeLine; decide, fun p1 hp1 => ?_⟩
    have q1 := same_new (o := .lst [V.ref e0, V.ref e1, V.ref e2, V.ref e3]) hp1
    have f1 := @upd_same K3 p1 (.lst [V.ref e0, V.ref e1, V.ref e2, V.ref e3])
    generalize upd K3 p1 (.lst [V.ref e0, V.ref e1, V.ref e2, V.ref e3]) = J1 at q1 f1
    refine ⟨_, rfl, ?_⟩
    refine ⟨_, rfl, _, rfl, fun e4 K4 s4 n4 h4 => ⟨_, rfl, _, rfl, fun e5 K5 s5 n5 h5 => ⟨_, rfl, _, rfl, fun e6 K6 s6 n6 h6 => ⟨_, rfl, _, rfl, fun e7 K7 s7 n7 h7 => ?_⟩⟩⟩⟩
    have g1 := (((s4.trans s5).trans s6).trans s7) _ _ f1
    refine ⟨by show 4 ≤ sizeLine; decide, fun p2 hp2 => ?_⟩
    have q2 := same_new (o := .lst [V.ref e4, V.ref e5, V.ref e6, V.ref e7]) hp2
    have f2 := @upd_same K7 p2 (.lst [V.ref e4, V.ref e5, V.ref e6, V.ref e7])
    have g2 := q2 _ _ g1
    generalize upd K7 p2 (.lst [V.ref e4, V.ref e5, V.ref e6, V.ref e7]) = J2 at q2 f2 g2
    refine ⟨p1, p2, _, _, rfl, rfl, g2, f2, Nat.le_trans (by simp only [List.length_map, List.length_append, List.length_cons, List.length_nil]; decide) line_ge, fun p3 hp3 => ?_⟩
    have q3 := same_new (o := .lst ([V.ref e0, V.ref e1, V.ref e2, V.ref e3] ++ [V.ref e4, V.ref e5, V.ref e6, V.ref e7])) hp3
    refine k p3 [e0, e1, e2, e3, e4, e5, e6, e7] _ (((((((((((s0.trans s1).trans s2).trans s3).trans q1).trans s4).trans s5).trans s6).trans s7).trans q2).trans q3)) (((((((((((s0.trans s1).trans s2).trans s3).trans q1).trans s4).trans s5).trans s6).trans s7).trans q2)).free hp3) upd_same ⟨rfl, fun i e hi => ?_⟩
    have hlt : i < 8 := (List.getElem?_eq_some_iff.mp hi).1
    have h8 : i = 0 ∨ i = 1 ∨ i = 2 ∨ i = 3 ∨ i = 4 ∨ i = 5 ∨ i = 6 ∨ i = 7 := by omega
    rcases h8 with rfl | rfl | rfl | rfl | rfl | rfl | rfl | rfl
    · have h' : some e0 = some e := hi
      cases h'
      exact h0.same ((((((((((s1.trans s2).trans s3).trans q1).trans s4).trans s5).trans s6).trans s7).trans q2).trans q3))
    · have h' : some e1 = some e := hi
      cases h'
      exact h1.same (((((((((s2.trans s3).trans q1).trans s4).trans s5).trans s6).trans s7).trans q2).trans q3))
    · have h' : some e2 = some e := hi
      cases h'
      exact h2.same ((((((((s3.trans q1).trans s4).trans s5).trans s6).trans s7).trans q2).trans q3))
    · have h' : some e3 = some e := hi
      cases h'
      exact h3.same (((((((q1.trans s4).trans s5).trans s6).trans s7).trans q2).trans q3))
    · have h' : some e4 = some e := hi
      cases h'
      exact h4.same (((((s5.trans s6).trans s7).trans q2).trans q3))
    · have h' : some e5 = some e := hi
      cases h'
      exact h5.same ((((s6.trans s7).trans q2).trans q3))
    · have h' : some e6 = some e := hi
      cases h'
      exact h6.same (((s7.trans q2).trans q3))
    · have h' : some e7 = some e := hi
      cases h'
      exact h7.same ((q2.trans q3))
end
end K04
namespace K04
open PySem L2 XT
section
variable {P : Program} {w : World} {K : PySem.W.Frag} {mg : Str → Option Value} {base : Heap} {a : Ads}
theorem ok_law_kinds (T : Txt K mg a) : FnR P w K mg base CX0 4 a.law_kinds (spKinds a) := by
  obtain ⟨fd, F⟩ := T.F_law_kinds
  refine XT.okR F sc_law_kinds bn_law_kinds (fun vs H Q E h => ?_) (fun cdv A outer s H vs Q E hr h => ?_)
  · obtain ⟨e, i, x, rfl, _⟩ := h
    rfl
  · obtain ⟨e, i, x, rfl, hi, hE, k⟩ := h
    refine ⟨_, (pss_cons (ps_set (i := 1) sc_law_kinds.nd rfl (Or.inl rfl) (pe_lst (pa_cons (pe_callB (isErrK K) (by rfl) T.b_isinstance (by decide +kernel) (pa_cons (pv 0) (pa_cons (pe_glob (v := .ref a.InvalidList) (by rfl) T.g_InvalidList rfl) pa_nil))) (pa_cons (pe_callB (isErrK K) (by rfl) T.b_isinstance (by decide +kernel) (pa_cons (pv 0) (pa_cons (pe_glob (v := .ref a.InvalidStep) (by rfl) T.g_InvalidStep rfl) pa_nil))) (pa_cons (pe_callB (isErrK K) (by rfl) T.b_isinstance (by decide +kernel) (pa_cons (pv 0) (pa_cons (pe_glob (v := .ref a.InvalidTable) (by rfl) T.g_InvalidTable rfl) pa_nil))) pa_nil)))))
      (pss_cons (ps_set (i := 1) sc_law_kinds.nd rfl (Or.inl rfl) (pe_op op_cat (pv 1) (pe_lst (pa_cons (pe_callB (isErrK K) (by rfl) T.b_isinstance (by decide +kernel) (pa_cons (pv 0) (pa_cons (pe_glob (v := .ref a.InvalidEffect) (by rfl) T.g_InvalidEffect rfl) pa_nil))) (pa_cons (pe_callB (isErrK K) (by rfl) T.b_isinstance (by decide +kernel) (pa_cons (pv 0) (pa_cons (pe_glob (v := .ref a.InvalidNumber) (by rfl) T.g_InvalidNumber rfl) pa_nil))) (pa_cons (pe_callB (isErrK K) (by rfl) T.b_isinstance (by decide +kernel) (pa_cons (pv 0) (pa_cons (pe_glob (v := .ref a.InvalidFacts) (by rfl) T.g_InvalidFacts rfl) pa_nil))) pa_nil))))))
      (pss_cons (ps_set (i := 1) sc_law_kinds.nd rfl (Or.inl rfl) (pe_op op_cat (pv 1) (pe_lst (pa_cons (pe_callB (isErrK K) (by rfl) T.b_isinstance (by decide +kernel) (pa_cons (pv 0) (pa_cons (pe_glob (v := .ref a.InvalidName) (by rfl) T.g_InvalidName rfl) pa_nil))) (pa_cons (pe_callB (isErrK K) (by rfl) T.b_isinstance (by decide +kernel) (pa_cons (pv 0) (pa_cons (pe_glob (v := .ref a.InvalidCommand) (by rfl) T.g_InvalidCommand rfl) pa_nil))) (pa_cons (pe_callB (isErrK K) (by rfl) T.b_isinstance (by decide +kernel) (pa_cons (pv 0) (pa_cons (pe_glob (v := .ref a.ParseError) (by rfl) T.g_ParseError rfl) pa_nil))) pa_nil))))))
      (pss_cons (ps_set (i := 1) sc_law_kinds.nd rfl (Or.inl rfl) (pe_op op_cat (pv 1) (pe_lst (pa_cons (pe_callB (isErrK K) (by rfl) T.b_isinstance (by decide +kernel) (pa_cons (pv 0) (pa_cons (pe_glob (v := .ref a.StepFailed) (by rfl) T.g_StepFailed rfl) pa_nil))) (pa_cons (pe_callB (isErrK K) (by rfl) T.b_isinstance (by decide +kernel) (pa_cons (pv 0) (pa_cons (pe_glob (v := .ref a.LimitExceeded) (by rfl) T.g_LimitExceeded rfl) pa_nil))) (pa_cons (pe_callB (isErrK K) (by rfl) T.b_isinstance (by decide +kernel) (pa_cons (pv 0) (pa_cons (pe_glob (v := .ref a.NothingToUndo) (by rfl) T.g_NothingToUndo rfl) pa_nil))) pa_nil))))))
      (pss_one (ps_ret (pe_op op_cat (pv 1) (pe_lst (pa_cons (pe_callB (isErrK K) (by rfl) T.b_isinstance (by decide +kernel) (pa_cons (pv 0) (pa_cons (pe_glob (v := .ref a.NothingToRedo) (by rfl) T.g_NothingToRedo rfl) pa_nil))) pa_nil))))))))), ?_⟩
    refine ⟨_, rfl, e, clsA a i, fldA i, x, .ref (clsA a 0), .ref (clsA a 0), decide (i = 0), rfl, hE, exc_i T hi, .own _, T.kit i 0 hi (by decide), ⟨_, rfl, e, clsA a i, fldA i, x, .ref (clsA a 1), .ref (clsA a 1), decide (i = 1), rfl, hE, exc_i T hi, .own _, T.kit i 1 hi (by decide), ⟨_, rfl, e, clsA a i, fldA i, x, .ref (clsA a 2), .ref (clsA a 2), decide (i = 2), rfl, hE, exc_i T hi, .own _, T.kit i 2 hi (by decide), ?_⟩⟩⟩
    refine ⟨by show 3 ≤ sizeLine; decide, fun p0 hp0 => ?_⟩
    have q0 := same_new (o := .lst [V.bl (decide (i = 0)), V.bl (decide (i = 1)), V.bl (decide (i = 2))]) hp0
    have f0 := @upd_same H p0 (.lst [V.bl (decide (i = 0)), V.bl (decide (i = 1)), V.bl (decide (i = 2))])
    generalize upd H p0 (.lst [V.bl (decide (i = 0)), V.bl (decide (i = 1)), V.bl (decide (i = 2))]) = H0 at q0 f0
    refine ⟨_, rfl, ?_⟩
    refine ⟨_, rfl, e, clsA a i, fldA i, x, .ref (clsA a 3), .ref (clsA a 3), decide (i = 3), rfl, (hE.same q0), exc_i T hi, .own _, T.kit i 3 hi (by decide), ⟨_, rfl, e, clsA a i, fldA i, x, .ref (clsA a 4), .ref (clsA a 4), decide (i = 4), rfl, (hE.same q0), exc_i T hi, .own _, T.kit i 4 hi (by decide), ⟨_, rfl, e, clsA a i, fldA i, x, .ref (clsA a 5), .ref (clsA a 5), decide (i = 5), rfl, (hE.same q0), exc_i T hi, .own _, T.kit i 5 hi (by decide), ?_⟩⟩⟩
    refine ⟨by show 3 ≤ sizeLine; decide, fun r1 hr1 => ?_⟩
    have u1 := same_new (o := .lst [V.bl (decide (i = 3)), V.bl (decide (i = 4)), V.bl (decide (i = 5))]) hr1
    have v1 := @upd_same H0 r1 (.lst [V.bl (decide (i = 3)), V.bl (decide (i = 4)), V.bl (decide (i = 5))])
    have w1 := u1 _ _ f0
    generalize upd H0 r1 (.lst [V.bl (decide (i = 3)), V.bl (decide (i = 4)), V.bl (decide (i = 5))]) = J1 at u1 v1 w1
    refine ⟨p0, r1, _, _, rfl, rfl, w1, v1, Nat.le_trans (by simp only [List.length_map, List.length_append, List.length_cons, List.length_nil]; decide) line_ge, fun p1 hp1 => ?_⟩
    have q1 := (q0.trans u1).trans (same_new (o := .lst ([V.bl (decide (i = 0)), V.bl (decide (i = 1)), V.bl (decide (i = 2))] ++ [V.bl (decide (i = 3)), V.bl (decide (i = 4)), V.bl (decide (i = 5))])) hp1)
    have f1 := @upd_same J1 p1 (.lst ([V.bl (decide (i = 0)), V.bl (decide (i = 1)), V.bl (decide (i = 2))] ++ [V.bl (decide (i = 3)), V.bl (decide (i = 4)), V.bl (decide (i = 5))]))
    generalize upd J1 p1 (.lst ([V.bl (decide (i = 0)), V.bl (decide (i = 1)), V.bl (decide (i = 2))] ++ [V.bl (decide (i = 3)), V.bl (decide (i = 4)), V.bl (decide (i = 5))])) = H1 at q1 f1
    refine ⟨_, rfl, ?_⟩
    refine ⟨_, rfl, e, clsA a i, fldA i, x, .ref (clsA a 6), .ref (clsA a 6), decide (i = 6), rfl, (hE.same q1), exc_i T hi, .own _, T.kit i 6 hi (by decide), ⟨_, rfl, e, clsA a i, fldA i, x, .ref (clsA a 7), .ref (clsA a 7), decide (i = 7), rfl, (hE.same q1), exc_i T hi, .own _, T.kit i 7 hi (by decide), ⟨_, rfl, e, clsA a i, fldA i, x, .ref (clsA a 8), .ref (clsA a 8), decide (i = 8), rfl, (hE.same q1), exc_i T hi, .own _, T.kit i 8 hi (by decide), ?_⟩⟩⟩
    refine ⟨by show 3 ≤ sizeLine; decide, fun r2 hr2 => ?_⟩
    have u2 := same_new (o := .lst [V.bl (decide (i = 6)), V.bl (decide (i = 7)), V.bl (decide (i = 8))]) hr2
    have v2 := @upd_same H1 r2 (.lst [V.bl (decide (i = 6)), V.bl (decide (i = 7)), V.bl (decide (i = 8))])
    have w2 := u2 _ _ f1
    generalize upd H1 r2 (.lst [V.bl (decide (i = 6)), V.bl (decide (i = 7)), V.bl (decide (i = 8))]) = J2 at u2 v2 w2
    refine ⟨p1, r2, _, _, rfl, rfl, w2, v2, Nat.le_trans (by simp only [List.length_map, List.length_append, List.length_cons, List.length_nil]; decide) line_ge, fun p2 hp2 => ?_⟩
    have q2 := (q1.trans u2).trans (same_new (o := .lst (([V.bl (decide (i = 0)), V.bl (decide (i = 1)), V.bl (decide (i = 2))] ++ [V.bl (decide (i = 3)), V.bl (decide (i = 4)), V.bl (decide (i = 5))]) ++ [V.bl (decide (i = 6)), V.bl (decide (i = 7)), V.bl (decide (i = 8))])) hp2)
    have f2 := @upd_same J2 p2 (.lst (([V.bl (decide (i = 0)), V.bl (decide (i = 1)), V.bl (decide (i = 2))] ++ [V.bl (decide (i = 3)), V.bl (decide (i = 4)), V.bl (decide (i = 5))]) ++ [V.bl (decide (i = 6)), V.bl (decide (i = 7)), V.bl (decide (i = 8))]))
    generalize upd J2 p2 (.lst (([V.bl (decide (i = 0)), V.bl (decide (i = 1)), V.bl (decide (i = 2))] ++ [V.bl (decide (i = 3)), V.bl (decide (i = 4)), V.bl (decide (i = 5))]) ++ [V.bl (decide (i = 6)), V.bl (decide (i = 7)), V.bl (decide (i = 8))])) = H2 at q2 f2
    refine ⟨_, rfl, ?_⟩
    refine ⟨_, rfl, e, clsA a i, fldA i, x, .ref (clsA a 9), .ref (clsA a 9), decide (i = 9), rfl, (hE.same q2), exc_i T hi, .own _, T.kit i 9 hi (by decide), ⟨_, rfl, e, clsA a i, fldA i, x, .ref (clsA a 10), .ref (clsA a 10), decide (i = 10), rfl, (hE.same q2), exc_i T hi, .own _, T.kit i 10 hi (by decide), ⟨_, rfl, e, clsA a i, fldA i, x, .ref (clsA a 11), .ref (clsA a 11), decide (i = 11), rfl, (hE.same q2), exc_i T hi, .own _, T.kit i 11 hi (by decide), ?_⟩⟩⟩
    refine ⟨by show 3 ≤ sizeLine; decide, fun r3 hr3 => ?_⟩
    have u3 := same_new (o := .lst [V.bl (decide (i = 9)), V.bl (decide (i = 10)), V.bl (decide (i = 11))]) hr3
    have v3 := @upd_same H2 r3 (.lst [V.bl (decide (i = 9)), V.bl (decide (i = 10)), V.bl (decide (i = 11))])
    have w3 := u3 _ _ f2
    generalize upd H2 r3 (.lst [V.bl (decide (i = 9)), V.bl (decide (i = 10)), V.bl (decide (i = 11))]) = J3 at u3 v3 w3
    refine ⟨p2, r3, _, _, rfl, rfl, w3, v3, Nat.le_trans (by simp only [List.length_map, List.length_append, List.length_cons, List.length_nil]; decide) line_ge, fun p3 hp3 => ?_⟩
    have q3 := (q2.trans u3).trans (same_new (o := .lst ((([V.bl (decide (i = 0)), V.bl (decide (i = 1)), V.bl (decide (i = 2))] ++ [V.bl (decide (i = 3)), V.bl (decide (i = 4)), V.bl (decide (i = 5))]) ++ [V.bl (decide (i = 6)), V.bl (decide (i = 7)), V.bl (decide (i = 8))]) ++ [V.bl (decide (i = 9)), V.bl (decide (i = 10)), V.bl (decide (i = 11))])) hp3)
    have f3 := @upd_same J3 p3 (.lst ((([V.bl (decide (i = 0)), V.bl (decide (i = 1)), V.bl (decide (i = 2))] ++ [V.bl (decide (i = 3)), V.bl (decide (i = 4)), V.bl (decide (i = 5))]) ++ [V.bl (decide (i = 6)), V.bl (decide (i = 7)), V.bl (decide (i = 8))]) ++ [V.bl (decide (i = 9)), V.bl (decide (i = 10)), V.bl (decide (i = 11))]))
    generalize upd J3 p3 (.lst ((([V.bl (decide (i = 0)), V.bl (decide (i = 1)), V.bl (decide (i = 2))] ++ [V.bl (decide (i = 3)), V.bl (decide (i = 4)), V.bl (decide (i = 5))]) ++ [V.bl (decide (i = 6)), V.bl (decide (i = 7)), V.bl (decide (i = 8))]) ++ [V.bl (decide (i = 9)), V.bl (decide (i = 10)), V.bl (decide (i = 11))])) = H3 at q3 f3
    refine ⟨_, rfl, ?_⟩
    refine ⟨_, rfl, e, clsA a i, fldA i, x, .ref (clsA a 12), .ref (clsA a 12), decide (i = 12), rfl, (hE.same q3), exc_i T hi, .own _, T.kit i 12 hi (by decide), ?_⟩
    refine ⟨by show 1 ≤ sizeLine; decide, fun r4 hr4 => ?_⟩
    have u4 := same_new (o := .lst [V.bl (decide (i = 12))]) hr4
    have v4 := @upd_same H3 r4 (.lst [V.bl (decide (i = 12))])
    have w4 := u4 _ _ f3
    generalize upd H3 r4 (.lst [V.bl (decide (i = 12))]) = J4 at u4 v4 w4
    refine ⟨p3, r4, _, _, rfl, rfl, w4, v4, Nat.le_trans (by simp only [List.length_map, List.length_append, List.length_cons, List.length_nil]; decide) line_ge, fun p4 hp4 => ?_⟩
    have q4 := (q3.trans u4).trans (same_new (o := .lst (((([V.bl (decide (i = 0)), V.bl (decide (i = 1)), V.bl (decide (i = 2))] ++ [V.bl (decide (i = 3)), V.bl (decide (i = 4)), V.bl (decide (i = 5))]) ++ [V.bl (decide (i = 6)), V.bl (decide (i = 7)), V.bl (decide (i = 8))]) ++ [V.bl (decide (i = 9)), V.bl (decide (i = 10)), V.bl (decide (i = 11))]) ++ [V.bl (decide (i = 12))])) hp4)
    exact k p4 _ q4 ((q3.trans u4).free hp4) upd_same

theorem ok_law_fields (T : Txt K mg a) : FnR P w K mg base CX0 4 a.law_fields (spFields a) := by
  obtain ⟨fd, F⟩ := T.F_law_fields
  refine XT.okR F sc_law_fields bn_law_fields (fun vs H Q E h => ?_) (fun cdv A outer s H vs Q E hr h => ?_)
  · obtain ⟨l, es, x, rfl, _⟩ := h
    rfl
  · obtain ⟨l, es, x, rfl, hl, hErr, k⟩ := h
    refine ⟨_, (pss_cons (ps_set (i := 1) sc_law_fields.nd rfl (Or.inl rfl) (pe_op op_cat (pe_lc (own := [("_law_e", 2)])  rfl sc_law_fields.nd (pi_list (pe_slice (slLK K) (pv 0) po_none (po_some pe_int))) (blkOk_by (N := N_law_fields) (sc := defScope s_law_fields) (by decide +kernel)) (fun _ _ _ _ _ => by exact (pg_name (i := 2) sc_law_fields.nd rfl (Or.inl rfl))) (fun _ _ _ _ _ => by exact pts_nil) (fun _ _ _ _ _ => by exact (pe_fldE K (pv 2)))) (pe_lst (pa_cons (pe_fldE K (pe_ix (ixLK K) (pv 0) pe_int (fun _ _ => rfl))) (pa_cons (pe_fldE K (pe_ix (ixLK K) (pv 0) pe_int (fun _ _ => rfl))) (pa_cons (pe_fldE K (pe_ix (ixLK K) (pv 0) pe_int (fun _ _ => rfl))) pa_nil))))))
      (pss_one (ps_ret (pe_op op_cat (pv 1) (pe_lst (pa_cons (pe_fldE K (pe_ix (ixLK K) (pv 0) pe_int (fun _ _ => rfl))) (pa_cons (pe_fldE K (pe_ix (ixLK K) (pv 0) pe_int (fun _ _ => rfl))) pa_nil))))))), ?_⟩
    obtain ⟨hlen, hE⟩ := hErr
    obtain ⟨e0, e1, e2, e3, e4, e5, e6, e7, e8, e9, e10, e11, e12, hes⟩ : ∃ e0 e1 e2 e3 e4 e5 e6 e7 e8 e9 e10 e11 e12, es = [e0, e1, e2, e3, e4, e5, e6, e7, e8, e9, e10, e11, e12] := by
      match es, hlen with
      | [e0, e1, e2, e3, e4, e5, e6, e7, e8, e9, e10, e11, e12], _ => exact ⟨_, _, _, _, _, _, _, _, _, _, _, _, _, rfl⟩
    have E8 : ErrAt H (clsA a 8) (fldA 8) x e8 := hE 8 e8 (by rw [hes]; rfl)
    have E9 : ErrAt H (clsA a 9) (fldA 9) x e9 := hE 9 e9 (by rw [hes]; rfl)
    have E10 : ErrAt H (clsA a 10) (fldA 10) x e10 := hE 10 e10 (by rw [hes]; rfl)
    have E11 : ErrAt H (clsA a 11) (fldA 11) x e11 := hE 11 e11 (by rw [hes]; rfl)
    have E12 : ErrAt H (clsA a 12) (fldA 12) x e12 := hE 12 e12 (by rw [hes]; rfl)
    refine ⟨_, rfl, _, rfl, l, _, rfl, SqL.of hl, fun p hp => ?_⟩
    have ec := cut_to 8 (es.map V.ref)
    rw [show ((8 : Nat) : Int) = 8 from rfl] at ec
    have s1 := same_new (o := .lst (cutV (es.map V.ref) none (some 8))) hp
    have f1 : (upd H p (.lst (cutV (es.map V.ref) none (some 8)))) p = some (.lst ((es.map V.ref).take 8)) := by rw [upd_same, ec]
    generalize upd H p (.lst (cutV (es.map V.ref) none (some 8))) = H1 at s1 f1 ⊢
    have l8 : ((es.map V.ref).take 8).length = 8 := by rw [List.length_take, List.length_map, hlen]; rfl
    refine ⟨p, rfl, ⟨_, SqL.of f1⟩, fun D hD => lcM (stat_list (SqL.of f1)) hD (fun _ => x) (by rw [l8]; exact Nat.le_trans (by decide) line_ge) ?_ ?_⟩
    · intro i y H' R hi sj px kk
      rw [l8] at hi
      rw [List.getElem?_take_of_lt hi, List.getElem?_map] at px
      obtain ⟨e, he, rfl⟩ := Option.map_eq_some_iff.mp px
      have hErr := ((hE i e he).same s1).same sj
      have hno := no_i T (i := i) (by omega)
      rw [val_i hi] at hErr hno
      exact ⟨rfl, _, rfl, e, clsA a i, x, rfl, xf_i T (by omega), hno, hErr, kk H' (Same.refl H')⟩
    · intro H2 s2 hD2
      rw [l8] at hD2
      have s12 := s1.trans s2
      refine ⟨_, rfl, l, _, 8, .ref e8, rfl, rfl, SqL.of (s12 _ _ hl), atI_nat (j := 8) (by rw [hes]; rfl), e8, clsA a 8, x, rfl, xf_i T (i := 8) (by decide), no_i T (i := 8) (by decide), (E8.same s12), ?_⟩
      refine ⟨_, rfl, l, _, 9, .ref e9, rfl, rfl, SqL.of (s12 _ _ hl), atI_nat (j := 9) (by rw [hes]; rfl), e9, clsA a 9, x, rfl, xf_i T (i := 9) (by decide), no_i T (i := 9) (by decide), (E9.same s12), ?_⟩
      refine ⟨_, rfl, l, _, 10, .ref e10, rfl, rfl, SqL.of (s12 _ _ hl), atI_nat (j := 10) (by rw [hes]; rfl), e10, clsA a 10, x, rfl, xf_i T (i := 10) (by decide), no_i T (i := 10) (by decide), (E10.same s12), ?_⟩
      refine ⟨by show 3 ≤ sizeLine; decide, fun q hq => ?_⟩
      have s3 := same_new (o := .lst [x, x, x]) hq
      refine ⟨D, q, _, _, rfl, rfl, s3 _ _ hD2, upd_same, Nat.le_trans (by simp) line_ge, fun q2 hq2 => ?_⟩
      have s4 := (s12.trans s3).trans (same_new (o := .lst ((List.range 8).map (fun _ => x) ++ [x, x, x])) hq2)
      have f4 := @upd_same (upd H2 q (.lst [x, x, x])) q2 (.lst ((List.range 8).map (fun _ => x) ++ [x, x, x]))
      generalize upd (upd H2 q (.lst [x, x, x])) q2 (.lst ((List.range 8).map (fun _ => x) ++ [x, x, x])) = H4 at s4 f4 ⊢
      refine ⟨_, rfl, ?_⟩
      refine ⟨_, rfl, l, _, 11, .ref e11, rfl, rfl, SqL.of (s4 _ _ hl), atI_nat (j := 11) (by rw [hes]; rfl), e11, clsA a 11, x, rfl, xf_i T (i := 11) (by decide), no_i T (i := 11) (by decide), (E11.same s4), ?_⟩
      refine ⟨_, rfl, l, _, 12, .ref e12, rfl, rfl, SqL.of (s4 _ _ hl), atI_nat (j := 12) (by rw [hes]; rfl), e12, clsA a 12, x, rfl, xf_i T (i := 12) (by decide), no_i T (i := 12) (by decide), (E12.same s4), ?_⟩
      refine ⟨by show 2 ≤ sizeLine; decide, fun q3 hq3 => ?_⟩
      have s5 := same_new (o := .lst [x, x]) hq3
      refine ⟨q2, q3, _, _, rfl, rfl, s5 _ _ f4, upd_same, Nat.le_trans (by simp) line_ge, fun q4 hq4 => ?_⟩
      exact k q4 _ ((s4.trans s5).trans (same_new hq4)) ((s4.trans s5).free hq4) upd_same
end
end K04
namespace K04
open PySem L2 XT
section
variable {P : Program} {w : World} {K : PySem.W.Frag} {mg : Str → Option Value} {base : Heap} {a : Ads}
theorem iteH {c : Bool} {A B : Prop} (h : c = true) (x : A) : if c = true then A else B := by rw [if_pos h]; exact x
theorem iteN {c : Bool} {A B : Prop} (h : c = false) (x : B) : if c = true then A else B := by rw [if_neg (by rw [h]; exact Bool.false_ne_true)]; exact x
def spLaw (K : PySem.W.Frag) : Sp := fun vs H Q _ => ∃ (sc : Addr) (ns : List Int), vs = [.ref sc] ∧ SqL K H sc (ns.map V.int) ∧ ns.length ≤ 63 ∧ ∀ H', Q (.bl true) H'
/-- the values that the errors hold -/
def XA (H : Hp) (L : List Int) (x : V) : Prop := (∃ t m, x = .ref t ∧ H t = some (.tup [V.int m])) ∨ (∃ m, x = .int m) ∨ x = .non ∨ x = .str "a" ∨ ∃ l, x = .ref l ∧ H l = some (.lst (L.map V.int))
theorem XA.same {H H' : Hp} {L : List Int} {x : V} (h : XA H L x) (s : Same H H') : XA H' L x := by
  rcases h with ⟨t, m, a, b⟩ | h | h | h | ⟨l, a, b⟩
  · exact .inl ⟨t, m, a, s _ _ b⟩
  · exact .inr (.inl h)
  · exact .inr (.inr (.inl h))
  · exact .inr (.inr (.inr (.inl h)))
  · exact .inr (.inr (.inr (.inr ⟨l, a, s _ _ b⟩)))
/-- one value many times, as data -/
theorem lay_rep {d : PyData} (h : d.canLay0 = true) : ∀ n : Nat, PyData.canLayAll0 (List.replicate n d) = true
  | 0 => rfl
  | n + 1 => by simp [List.replicate_succ, PyData.canLayAll0, h, lay_rep h n]
theorem dep_rep {d : PyData} {k : Nat} (h : d.depth ≤ k) : ∀ n : Nat, PyData.depthAll (List.replicate n d) ≤ k
  | 0 => Nat.zero_le _
  | n + 1 => by
    simp only [List.replicate_succ, PyData.depthAll]
    exact Nat.max_le.mpr ⟨h, dep_rep h n⟩
theorem sh_rep {d : PyData} (h : d.canLay0 = true) (k : d.depth ≤ 10) (n : Nat) : SeqAt.shaped (.list (List.replicate n d)) = true := by
  have a := lay_rep h n
  have b := dep_rep k n
  simp only [SeqAt.shaped, PyData.canLay0, PyData.depth, Bool.and_eq_true]
  exact ⟨a, decide_eq_true (by omega)⟩
theorem sh_one {d : PyData} (h : d.canLay0 = true) (k : d.depth ≤ 10) : SeqAt.shaped d = true := by
  simp only [SeqAt.shaped, Bool.and_eq_true]
  exact ⟨h, decide_eq_true (by omega)⟩
theorem da_rep {K : PySem.W.Frag} {H : Hp} {x : V} {d : PyData} (h : Dp K H x d) : ∀ n : Nat, DpAll K H (List.replicate n x) (List.replicate n d)
  | 0 => .nil
  | n + 1 => by
    rw [List.replicate_succ, List.replicate_succ]
    exact .cons h (da_rep h n)
theorem da_ints {K : PySem.W.Frag} {H : Hp} : ∀ L : List Int, DpAll K H (L.map V.int) (L.map PyData.int)
  | [] => .nil
  | x :: L => .cons (.int x) (da_ints L)
theorem dp_rep {K : PySem.W.Frag} {H : Hp} {x : V} {d : PyData} {l : Addr} {n : Nat} (h : Dp K H x d) (hl : H l = some (.lst (List.replicate n x))) : Dp K H (.ref l) (.list (List.replicate n d)) := .lst (SqL.of hl) (da_rep h n)
theorem XA.dp {K : PySem.W.Frag} {H : Hp} {L : List Int} {x : V} (h : XA H L x) : ∃ d, d.canLay0 = true ∧ d.depth ≤ 10 ∧ ∀ H', Same H H' → Dp K H' x d := by
  rcases h with ⟨t, m, rfl, b⟩ | ⟨m, rfl⟩ | rfl | rfl | ⟨l, rfl, b⟩
  · exact ⟨.tuple [.int m], rfl, by simp [PyData.depth, PyData.depthAll], fun H' s => .tup (SqT.of (s _ _ b)) (.cons (.int m) .nil)⟩
  · exact ⟨.int m, rfl, by simp [PyData.depth], fun _ _ => .int m⟩
  · exact ⟨.none, rfl, by simp [PyData.depth], fun _ _ => .non⟩
  · exact ⟨.str "a", by simp only [PyData.canLay0]; exact ok_of "a", by simp [PyData.depth], fun _ _ => .str "a"⟩
  · exact ⟨.list (L.map .int), by simp only [PyData.canLay0]; exact canLay_ints L, by simp only [PyData.depth, depth_ints]; omega, fun H' s => .lst (SqL.of (s _ _ b)) (da_ints L)⟩
theorem rep1 (n : Nat) (x : V) : (List.replicate n [x]).flatten = List.replicate n x := by
  induction n with
  | zero => rfl
  | succ n ih => rw [List.replicate_succ, List.flatten_cons, ih, List.replicate_succ]; rfl
theorem rng_rep (n : Nat) (x : V) : (List.range n).map (fun _ => x) = List.replicate n x := by
  apply List.ext_getElem
  · simp
  · intro i h1 h2
    simp
theorem ErrAt.upd {H : Hp} {C : Addr} {f : Str} {v : V} {e l : Addr} {xs : List V} {o : HO} (h : ErrAt H C f v e) (hl : H l = some (.lst xs)) : ErrAt (upd H l o) C f v e := by
  obtain ⟨d, p, q⟩ := h
  have h1 : e ≠ l := fun z => by rw [z, hl] at p; cases p
  have h2 : d ≠ l := fun z => by rw [z, hl] at q; cases q
  exact ⟨d, by rw [upd_ne h1]; exact p, by rw [upd_ne h2]; exact q⟩
theorem Errs.upd {H : Hp} {x : V} {n : Nat} {f : Nat → Str} {es : List Addr} {l : Addr} {xs : List V} {o : HO} (h : Errs a H x n f es) (hl : H l = some (.lst xs)) : Errs a (L2.upd H l o) x n f es := ⟨h.1, fun i e q => ErrAt.upd (h.2 i e q) hl⟩
theorem sh5 (a b c d e : Bool) : SeqAt.shaped (.list [.bool a, .bool b, .bool c, .bool d, .bool e]) = true := rfl
theorem no13 {i : Nat} : ∀ (m : Nat) (z' : V), m < i → ((List.range 13).map fun j => V.bl (decide (i = j)))[m]? = some z' → eqV z' (.bl true) = false := by
  intro m z hm h
  rw [List.getElem?_map] at h
  obtain ⟨j, hj, rfl⟩ := Option.map_eq_some_iff.mp h
  obtain ⟨h1, h2⟩ := List.getElem?_eq_some_iff.mp hj
  rw [List.getElem_range] at h2
  subst h2
  have : decide (i = m) = false := decide_eq_false (by omega)
  rw [this]
  rfl
theorem own13 {i : Nat} (h : i < 13) : ((List.range 13).map fun j => V.bl (decide (i = j)))[i]? = some (.bl true) := by
  rw [List.getElem?_map, List.getElem?_range h]
  simp
theorem cnt13 {i : Nat} (h : i < 13) : ((List.range 13).map fun j => V.bl (decide (i = j))).countP (fun z => eqV z (.bl true)) = 1 := by
  rcases lt13 h with rfl | rfl | rfl | rfl | rfl | rfl | rfl | rfl | rfl | rfl | rfl | rfl | rfl <;> rfl
theorem flat13 (i : Nat) : ((List.range 13).map fun j => V.bl (decide (i = j))).all flatV = true := rfl
theorem ok_law (T : Txt K mg a) {fd : FuncData} (F : Fun K "law" "law" s_law a.law fd) : FnG P w K mg base CX0 12 a.law (spLaw K) := by
  refine XT.okGX F sc_law bn_law (fun vs H Q E h => ?_) (fun cdv A outer s H vs Q E hg hr h => ?_)
  · obtain ⟨sc, ns, rfl, _⟩ := h
    rfl
  · obtain ⟨sc, ns, rfl, hS, hn, k⟩ := h
    obtain ⟨fd0, FE0⟩ := T.F_InvalidList___init__
    have GE_InvalidList := okE_InvalidList (P := P) (w := w) (base := base) T T.e_InvalidList FE0
    have BE_InvalidList := FE0.binds bn_InvalidList___init__
    have BK_InvalidList := bindsK FE0 bk_InvalidList
    obtain ⟨fd1, FE1⟩ := T.F_InvalidStep___init__
    have GE_InvalidStep := okE_InvalidStep (P := P) (w := w) (base := base) T T.e_InvalidStep FE1
    have BE_InvalidStep := FE1.binds bn_InvalidStep___init__
    have BK_InvalidStep := bindsK FE1 bk_InvalidStep
    obtain ⟨fd2, FE2⟩ := T.F_InvalidTable___init__
    have GE_InvalidTable := okE_InvalidTable (P := P) (w := w) (base := base) T T.e_InvalidTable FE2
    have BE_InvalidTable := FE2.binds bn_InvalidTable___init__
    have BK_InvalidTable := bindsK FE2 bk_InvalidTable
    obtain ⟨fd3, FE3⟩ := T.F_InvalidEffect___init__
    have GE_InvalidEffect := okE_InvalidEffect (P := P) (w := w) (base := base) T T.e_InvalidEffect FE3
    have BE_InvalidEffect := FE3.binds bn_InvalidEffect___init__
    have BK_InvalidEffect := bindsK FE3 bk_InvalidEffect
    obtain ⟨fd4, FE4⟩ := T.F_InvalidNumber___init__
    have GE_InvalidNumber := okE_InvalidNumber (P := P) (w := w) (base := base) T T.e_InvalidNumber FE4
    have BE_InvalidNumber := FE4.binds bn_InvalidNumber___init__
    have BK_InvalidNumber := bindsK FE4 bk_InvalidNumber
    obtain ⟨fd5, FE5⟩ := T.F_InvalidFacts___init__
    have GE_InvalidFacts := okE_InvalidFacts (P := P) (w := w) (base := base) T T.e_InvalidFacts FE5
    have BE_InvalidFacts := FE5.binds bn_InvalidFacts___init__
    have BK_InvalidFacts := bindsK FE5 bk_InvalidFacts
    obtain ⟨fd6, FE6⟩ := T.F_InvalidName___init__
    have GE_InvalidName := okE_InvalidName (P := P) (w := w) (base := base) T T.e_InvalidName FE6
    have BE_InvalidName := FE6.binds bn_InvalidName___init__
    have BK_InvalidName := bindsK FE6 bk_InvalidName
    obtain ⟨fd7, FE7⟩ := T.F_InvalidCommand___init__
    have GE_InvalidCommand := okE_InvalidCommand (P := P) (w := w) (base := base) T T.e_InvalidCommand FE7
    have BE_InvalidCommand := FE7.binds bn_InvalidCommand___init__
    have BK_InvalidCommand := bindsK FE7 bk_InvalidCommand
    obtain ⟨fd8, FE8⟩ := T.F_ParseError___init__
    have GE_ParseError := okE_ParseError (P := P) (w := w) (base := base) T T.e_ParseError FE8
    have BE_ParseError := FE8.binds bn_ParseError___init__
    have BK_ParseError := bindsK FE8 bk_ParseError
    obtain ⟨fd9, FE9⟩ := T.F_StepFailed___init__
    have GE_StepFailed := okE_StepFailed (P := P) (w := w) (base := base) T T.e_StepFailed FE9
    have BE_StepFailed := FE9.binds bn_StepFailed___init__
    have BK_StepFailed := bindsK FE9 bk_StepFailed
    obtain ⟨fd10, FE10⟩ := T.F_LimitExceeded___init__
    have GE_LimitExceeded := okE_LimitExceeded (P := P) (w := w) (base := base) T T.e_LimitExceeded FE10
    have BE_LimitExceeded := FE10.binds bn_LimitExceeded___init__
    have BK_LimitExceeded := bindsK FE10 bk_LimitExceeded
    obtain ⟨fd11, FE11⟩ := T.F_NothingToUndo___init__
    have GE_NothingToUndo := okE_NothingToUndo (P := P) (w := w) (base := base) T T.e_NothingToUndo FE11
    have BE_NothingToUndo := FE11.binds bn_NothingToUndo___init__
    have BK_NothingToUndo := bindsK FE11 bk_NothingToUndo
    obtain ⟨fd12, FE12⟩ := T.F_NothingToRedo___init__
    have GE_NothingToRedo := okE_NothingToRedo (P := P) (w := w) (base := base) T T.e_NothingToRedo FE12
    have BE_NothingToRedo := FE12.binds bn_NothingToRedo___init__
    have BK_NothingToRedo := bindsK FE12 bk_NothingToRedo
    have G_law_errors := ok_law_errors (P := P) (w := w) (base := base) T
    have G_law_named := ok_law_named (P := P) (w := w) (base := base) T
    have G_law_kinds := ok_law_kinds (P := P) (w := w) (base := base) T
    have G_law_fields := ok_law_fields (P := P) (w := w) (base := base) T
    refine ⟨_, PSs.nox ((pss_cons (ps_for PassesOwn.never rfl (pi_list (pe_slice (slLK K) (pe_op op_catQ (pv 0) (pe_lst (pa_cons pe_int pa_nil))) po_none (po_some pe_int))) (pg_name (i := 1) sc_law.nd rfl (Or.inl rfl))
        (pss_cons (ps_set (i := 2) sc_law.nd rfl (Or.inl rfl) (pe_ix (ixLK K) (pe_lst (pa_cons (pe_tup (pa_cons (pe_op op_mod (pv 1) (pe_op op_pow pe_int pe_int)) pa_nil)) (pa_cons (pe_op op_mod (pv 1) pe_int) (pa_cons pe_non (pa_cons pe_str (pa_cons (pe_lst (pa_cons pe_int pa_nil)) pa_nil)))))) (pe_op op_mod (pv 1) pe_int) (fun _ _ => rfl)))
      (pss_cons (ps_set (i := 3) sc_law.nd rfl (Or.inl rfl) (pe_callR G_law_errors (hr.mono (by decide)) rfl T.g_law_errors T.k_law_errors pass0 (pa_cons (pv 2) pa_nil)))
      (pss_cons (ps_for PassesOwn.never rfl (pi_enum (by rfl) T.b_enumerate (pa_cons (pv 3) pa_nil)) (tupK K (n := 2) (by rfl) (pgs_cons (pg_name (i := 4) sc_law.nd rfl (Or.inl rfl)) (pgs_cons (pg_name (i := 5) sc_law.nd rfl (Or.inl rfl)) pgs_nil)))
        (pss_cons (ps_if (PW.pt (pw_or (pt_cmpR op_ne (bmK K (pe_bm PySem.F.plainAttrs_list PySem.F.slot_list_count PySem.F.type_list_count mt_countV (pe_callR G_law_kinds (hr.mono (by decide)) rfl T.g_law_kinds T.k_law_kinds pass0 (pa_cons (pv 5) pa_nil)) (pa_cons pe_bl pa_nil))) pe_int (nomark _)) (pw_or1 (pt_cmpR op_ne (bmK K (pe_bm PySem.F.plainAttrs_list PySem.F.slot_list_index PySem.F.type_list_index mt_index (pe_callR G_law_kinds (hr.mono (by decide)) rfl T.g_law_kinds T.k_law_kinds pass0 (pa_cons (pv 5) pa_nil)) (pa_cons pe_bl pa_nil))) (pv 4) (nomark _))))) (pss_one (ps_ret pe_bl)) pss_nil)
      (pss_cons (ps_set (i := 6) sc_law.nd rfl (Or.inl rfl) (pe_lst (pa_cons (pe_callB (isErrK K) (by rfl) T.b_isinstance (by decide +kernel) (pa_cons (pv 5) (pa_cons (pe_glob (v := .ref a.RankError) (by rfl) T.g_RankError rfl) pa_nil))) (pa_cons (pe_callB (isErrK K) (by rfl) T.b_isinstance (by decide +kernel) (pa_cons (pv 5) (pa_cons (pe_bltn (v := .ty "ValueError") (u := .type "ValueError") (by rfl) T.b_ValueError (by decide +kernel) rfl) pa_nil))) (pa_cons (pe_callB (isErrK K) (by rfl) T.b_isinstance (by decide +kernel) (pa_cons (pv 5) (pa_cons (pe_bltn (v := .ty "RuntimeError") (u := .type "RuntimeError") (by rfl) T.b_RuntimeError (by decide +kernel) rfl) pa_nil))) pa_nil)))))
      (pss_cons (ps_set (i := 6) sc_law.nd rfl (Or.inl rfl) (pe_op op_cat (pv 6) (pe_lst (pa_cons (pe_callB (isErrK K) (by rfl) T.b_isinstance (by decide +kernel) (pa_cons (pv 5) (pa_cons (pe_bltn (v := .ty "OverflowError") (u := .type "OverflowError") (by rfl) T.b_OverflowError (by decide +kernel) rfl) pa_nil))) (pa_cons (pe_callB (isErrK K) (by rfl) T.b_isinstance (by decide +kernel) (pa_cons (pv 5) (pa_cons (pe_bltn (v := .ty "LookupError") (u := .type "LookupError") (by rfl) T.b_LookupError (by decide +kernel) rfl) pa_nil))) pa_nil)))))
      (pss_one (ps_if (pt_cmpR (neDK K hr.units) (pv 6) (pe_lst (pa_cons (pe_cmpR op_lt (pv 4) pe_int (nomark _)) (pa_cons (pe_cmpR op_lt (pv 4) pe_int (nomark _)) (pa_cons (pe_cmpR op_eq (pv 4) pe_int (nomark _)) (pa_cons (pe_cmpR op_eq (pv 4) pe_int (nomark _)) (pa_cons (pe_cmpR op_gt (pv 4) pe_int (nomark _)) pa_nil)))))) (nomark _)) (pss_one (ps_ret pe_bl)) pss_nil))))))
      (pss_cons (ps_if (PW.pt (pw_or (pt_cmpR (neDK K hr.units) (pe_lc (own := [("_law_e", 5)])  rfl sc_law.nd (pi_list (pe_callR G_law_named (hr.mono (by decide)) rfl T.g_law_named T.k_law_named pass0 (pa_cons (pv 2) pa_nil))) (blkOk_by (N := N_law) (sc := defScope s_law) (by decide +kernel)) (fun _ _ _ _ _ => by exact (pg_name (i := 5) sc_law.nd rfl (Or.inl rfl))) (fun _ _ _ _ _ => by exact pts_nil) (fun _ _ _ _ _ => by exact (pe_fldE K (pv 5)))) (pe_op op_rep (pe_lst (pa_cons (pv 2) pa_nil)) pe_int) (nomark _)) (pw_or1 (pt_cmpR (neDK K hr.units) (pe_callR G_law_fields (hr.mono (by decide)) rfl T.g_law_fields T.k_law_fields pass0 (pa_cons (pv 3) pa_nil)) (pe_op op_rep (pe_lst (pa_cons (pv 2) pa_nil)) pe_int) (nomark _))))) (pss_one (ps_ret pe_bl)) pss_nil)
      (pss_cons (ps_if (PW.pt (pw_or (pt_cmpR (neDK K hr.units) (pe_fldE K (pe_mkErrK T.e_ParseError GE_ParseError BK_ParseError (hr.mono (by decide)) (by rfl) T.g_ParseError (pv 2))) (pv 2) (nomark _)) (pw_or (pt_cmpR (neDK K hr.units) (pe_fldE K (pe_mkErrK T.e_StepFailed GE_StepFailed BK_StepFailed (hr.mono (by decide)) (by rfl) T.g_StepFailed (pv 2))) (pv 2) (nomark _)) (pw_or1 (pt_cmpR (neDK K hr.units) (pe_fldE K (pe_mkErrK T.e_LimitExceeded GE_LimitExceeded BK_LimitExceeded (hr.mono (by decide)) (by rfl) T.g_LimitExceeded (pv 2))) (pv 2) (nomark _)))))) (pss_one (ps_ret pe_bl)) pss_nil)
      (pss_cons (ps_if (pt_val (pe_callB call_isi (by rfl) T.b_isinstance (by decide +kernel) (pa_cons (pv 2) (pa_cons (pe_bltn (v := .ty "list") (u := .type "list") (by rfl) T.b_list (by decide +kernel) rfl) pa_nil)))) (pss_one (ps_expr (bmK K (pe_bm PySem.F.plainAttrs_list PySem.F.slot_list_append PySem.F.type_list_append mt_append (pv 2) (pa_cons pe_int pa_nil))))) pss_nil)
      (pss_one (ps_if (PW.pt (pw_or (pt_cmpR (neDK K hr.units) (pe_fldE K (pe_mkErrK T.e_NothingToUndo GE_NothingToUndo BK_NothingToUndo (hr.mono (by decide)) (by rfl) T.g_NothingToUndo (pv 2))) (pv 2) (nomark _)) (pw_or (pt_cmpR (neDK K hr.units) (pe_fldE K (pe_mkErrK T.e_NothingToRedo GE_NothingToRedo BK_NothingToRedo (hr.mono (by decide)) (by rfl) T.g_NothingToRedo (pv 2))) (pv 2) (nomark _)) (pw_or1 (pt_cmpR (neDK K hr.units) (pe_callR G_law_fields (hr.mono (by decide)) rfl T.g_law_fields T.k_law_fields pass0 (pa_cons (pv 3) pa_nil)) (pe_op op_rep (pe_lst (pa_cons (pv 2) pa_nil)) pe_int) (nomark _)))))) (pss_one (ps_ret pe_bl)) pss_nil)))))))))
      (pss_one (ps_ret pe_bl)))), ?_⟩
    refine ⟨_, rfl, by show 1 ≤ sizeLine; decide, fun p1 hp1 => ?_⟩
    have s1 := same_new (o := .lst [V.int 1]) hp1
    refine ⟨sc, p1, _, _, rfl, rfl, s1.seq hS, SqL.of upd_same, Nat.le_trans (by simp only [List.length_map, List.length_cons, List.length_nil]; omega) line_ge, fun p2 hp2 => ?_⟩
    have s2 := s1.trans (same_new (o := .lst (ns.map V.int ++ [V.int 1])) hp2)
    have f2 := @upd_same (upd H p1 (.lst [V.int 1])) p2 (.lst (ns.map V.int ++ [V.int 1]))
    generalize upd (upd H p1 (.lst [V.int 1])) p2 (.lst (ns.map V.int ++ [V.int 1])) = H2 at s2 f2 ⊢
    refine ⟨_, rfl, p2, _, rfl, SqL.of f2, fun p3 hp3 => ?_⟩
    have ec := cut_to 6 (ns.map V.int ++ [V.int 1])
    rw [show ((6 : Nat) : Int) = 6 from rfl] at ec
    have f3 : (upd H2 p3 (.lst (cutV (ns.map V.int ++ [V.int 1]) none (some 6)))) p3 = some (.lst (((ns ++ [1]).take 6).map V.int)) := by rw [upd_same, ec, List.map_take, List.map_append]; rfl
    generalize upd H2 p3 (.lst (cutV (ns.map V.int ++ [V.int 1]) none (some 6))) = H3 at f3 ⊢
    refine ⟨p3, rfl, ⟨_, SqL.of f3⟩, for_list (K := K) (a := p3) (xs := ((ns ++ [1]).take 6).map V.int) (fun i σ H' => ∃ o1 o2 o3 o4 o5 o6, σ = [some (.ref sc), o1, o2, o3, o4, o5, o6] ∧ Same H3 H') ⟨_, _, _, _, _, _, rfl, Same.refl _⟩ (fun _ σ H' _ ⟨_, _, _, _, _, _, _, s⟩ => s.seq (SqL.of f3)) ?_ ?_⟩
    · rintro i x0 σ H4 hx ⟨o1, o2, o3, o4, o5, o6, rfl, s4⟩
      obtain ⟨c, hc, rfl⟩ : ∃ c, ((ns ++ [1]).take 6)[i]? = some c ∧ V.int c = x0 := by
        rw [List.getElem?_map] at hx
        exact Option.map_eq_some_iff.mp hx
      refine seq_cut2 (fun σ' H' => ∃ x, σ' = [some (.ref sc), some (.int c), some x, o3, o4, o5, o6] ∧ Same H4 H' ∧ XA H' [1] x ∧ ∀ l, x = .ref l → H4 l = none) (fun N cont => ?_) (fun σ H5 h5 => ?_)
      · refine ⟨_, rfl, _, _, rfl, rfl, ⟨by decide, by decide, by decide⟩, _, _, rfl, rfl, (by decide : (0 : Int) < 10 ^ Int.toNat 9), by show 1 ≤ sizeLine; decide, fun t ht => ?_⟩
        have q1 := same_new (o := .tup [V.int (c % 10 ^ (9 : Int).toNat)]) ht
        have g1 := @upd_same H4 t (.tup [V.int (c % 10 ^ (9 : Int).toNat)])
        generalize upd H4 t (.tup [V.int (c % 10 ^ (9 : Int).toNat)]) = J1 at q1 g1 ⊢
        refine ⟨_, rfl, _, _, rfl, rfl, (by decide : (0 : Int) < 7), by show 1 ≤ sizeLine; decide, fun l hl => ?_⟩
        have q2 := q1.trans (same_new (o := .lst [V.int 1]) hl)
        have nl := q1.free hl
        have g2 := @upd_same J1 l (.lst [V.int 1])
        have g12 := (same_new (o := .lst [V.int 1]) hl) _ _ g1
        generalize upd J1 l (.lst [V.int 1]) = J2 at q2 g2 g12 ⊢
        refine ⟨by show 5 ≤ sizeLine; decide, fun d hd => ?_⟩
        have q3 := q2.trans (same_new (o := .lst [V.ref t, V.int (c % 7), V.non, V.str "a", V.ref l]) hd)
        have gt := (same_new (o := .lst [V.ref t, V.int (c % 7), V.non, V.str "a", V.ref l]) hd) _ _ g12
        have gl := (same_new (o := .lst [V.ref t, V.int (c % 7), V.non, V.str "a", V.ref l]) hd) _ _ g2
        have gd := @upd_same J2 d (.lst [V.ref t, V.int (c % 7), V.non, V.str "a", V.ref l])
        generalize upd J2 d (.lst [V.ref t, V.int (c % 7), V.non, V.str "a", V.ref l]) = J3 at q3 gt gl gd ⊢
        obtain ⟨j, hj, ej⟩ : ∃ j : Nat, j < 5 ∧ c % 5 = (j : Int) := ⟨(c % 5).toNat, by omega, by omega⟩
        have h5 : j = 0 ∨ j = 1 ∨ j = 2 ∨ j = 3 ∨ j = 4 := by omega
        refine ⟨_, rfl, _, _, rfl, rfl, (by decide : (0 : Int) < 5), d, [V.ref t, V.int (c % 7), V.non, V.str "a", V.ref l], c % 5, ?_⟩
        rcases h5 with rfl | rfl | rfl | rfl | rfl
        · exact ⟨V.ref t, rfl, rfl, SqL.of gd, ej ▸ atI_nat (j := 0) rfl, cont _ _ ⟨_, rfl, q3, .inl ⟨t, _, rfl, gt⟩, fun l e => by cases e; exact ht⟩⟩
        · exact ⟨V.int (c % 7), rfl, rfl, SqL.of gd, ej ▸ atI_nat (j := 1) rfl, cont _ _ ⟨_, rfl, q3, .inr (.inl ⟨_, rfl⟩), fun l e => by cases e⟩⟩
        · exact ⟨V.non, rfl, rfl, SqL.of gd, ej ▸ atI_nat (j := 2) rfl, cont _ _ ⟨_, rfl, q3, .inr (.inr (.inl rfl)), fun l e => by cases e⟩⟩
        · exact ⟨V.str "a", rfl, rfl, SqL.of gd, ej ▸ atI_nat (j := 3) rfl, cont _ _ ⟨_, rfl, q3, .inr (.inr (.inr (.inl rfl))), fun l e => by cases e⟩⟩
        · exact ⟨V.ref l, rfl, rfl, SqL.of gd, ej ▸ atI_nat (j := 4) rfl, cont _ _ ⟨_, rfl, q3, .inr (.inr (.inr (.inr ⟨l, rfl, gl⟩))), fun l' e => by cases e; exact nl⟩⟩
      obtain ⟨x, rfl, s45, hX, hfr⟩ := h5
      refine ⟨_, rfl, x, rfl, fun ls es H6 s56 nls hls hE => ?_⟩
      try dsimp only [gName]
      refine seq_cut2 (fun σ' H' => ∃ o4 o5 o6, σ' = [some (.ref sc), some (.int c), some x, some (.ref ls), o4, o5, o6] ∧ Same H6 H') (fun N cont => ?_) (fun σ H7 h7 => ?_)
      · refine ⟨_, rfl, ls, _, rfl, SqL.of hls, ?_⟩
        refine for_enL (xs := es.map V.ref) (fun i σ H' => ∃ o4 o5 o6, σ = [some (.ref sc), some (.int c), some x, some (.ref ls), o4, o5, o6] ∧ Same H6 H') (fun i σ H' hi ⟨_, _, _, _, s⟩ => s.seq (SqL.of hls)) ⟨_, _, _, rfl, Same.refl _⟩ ?_ ?_
        · rintro i y T' σ H' hi hy hT ⟨o4, o5, o6, rfl, s⟩
          have hi13 : i < 13 := by rw [List.length_map, hE.1] at hi; exact hi
          obtain ⟨e, he, rfl⟩ : ∃ e, es[i]? = some e ∧ V.ref e = y := by
            rw [List.getElem?_map] at hy
            exact Option.map_eq_some_iff.mp hy
          have hEi := hE.2 i e he
          have sT := s.trans (same_new (o := .tup [V.int (i : Int), V.ref e]) hT)
          refine ⟨T', [V.int (i : Int), V.ref e], rfl, SqT.of upd_same, rfl, _, [V.ref e], rfl, _, [], rfl, rfl, ?_⟩
          generalize upd H' T' (.tup [V.int (i : Int), V.ref e]) = H8 at sT ⊢
          try dsimp only [gName]
          refine seq_cut (fun H9 => Same H6 H9) (fun N2 cont2 => ?_) (fun H9 s9 => ?_)
          · refine ⟨_, rfl, e, i, x, rfl, hi13, hEi.same sT, fun l1 J1 u1 nl1 hl1 => ⟨.inl ⟨rfl, _, SqL.of hl1⟩, l1, _, .bl true, rfl, rfl, SqL.of hl1, rfl, flat13 i, ?_⟩⟩
            rw [cnt13 hi13]
            refine ⟨rfl, _, rfl, iteN (by decide) ?_⟩
            refine ⟨_, rfl, e, i, x, rfl, hi13, hEi.same (sT.trans u1), fun l2 J2 u2 nl2 hl2 => ⟨.inl ⟨rfl, _, SqL.of hl2⟩, l2, _, .bl true, i, .bl true, rfl, rfl, SqL.of hl2, rfl, flat13 i, own13 hi13, rfl, no13, ?_⟩⟩
            refine ⟨_, rfl, rfl, _, rfl, iteN (by simp) ?_⟩
            exact cont2 _ ((sT.trans u1).trans u2)
          have hE9 := hEi.same s9
          refine ⟨_, rfl, e, clsA a i, fldA i, x, .ref a.RankError, .ref a.RankError, decide (i < 9), rfl, hE9, exc_i T hi13, .own _, T.kitR i hi13, ?_⟩
          refine ⟨_, rfl, e, clsA a i, fldA i, x, .ty "ValueError", .type "ValueError", decide (i < 9), rfl, hE9, exc_i T hi13, .ty _, T.kitV i hi13, ?_⟩
          refine ⟨_, rfl, e, clsA a i, fldA i, x, .ty "RuntimeError", .type "RuntimeError", decide (i = 9), rfl, hE9, exc_i T hi13, .ty _, T.kitRt i hi13, by show 3 ≤ sizeLine; decide, fun b1 hb1 => ?_⟩
          have v1 := same_new (o := .lst [V.bl (decide (i < 9)), V.bl (decide (i < 9)), V.bl (decide (i = 9))]) hb1
          have w1 := @upd_same H9 b1 (.lst [V.bl (decide (i < 9)), V.bl (decide (i < 9)), V.bl (decide (i = 9))])
          generalize upd H9 b1 (.lst [V.bl (decide (i < 9)), V.bl (decide (i < 9)), V.bl (decide (i = 9))]) = HA at v1 w1 ⊢
          have hEA := hE9.same v1
          refine ⟨_, rfl, _, rfl, e, clsA a i, fldA i, x, .ty "OverflowError", .type "OverflowError", decide (i = 10), rfl, hEA, exc_i T hi13, .ty _, T.kitO i hi13, ?_⟩
          refine ⟨_, rfl, e, clsA a i, fldA i, x, .ty "LookupError", .type "LookupError", decide (i > 10), rfl, hEA, exc_i T hi13, .ty _, T.kitL i hi13, by show 2 ≤ sizeLine; decide, fun b2 hb2 => ?_⟩
          have v2 := same_new (o := .lst [V.bl (decide (i = 10)), V.bl (decide (i > 10))]) hb2
          have w2 := @upd_same HA b2 (.lst [V.bl (decide (i = 10)), V.bl (decide (i > 10))])
          have w12 := v2 _ _ w1
          generalize upd HA b2 (.lst [V.bl (decide (i = 10)), V.bl (decide (i > 10))]) = HB at v2 w2 w12 ⊢
          refine ⟨b1, b2, _, _, rfl, rfl, w12, w2, Nat.le_trans (by simp only [List.length_map, List.length_append, List.length_cons, List.length_nil]; decide) line_ge, fun b3 hb3 => ?_⟩
          have v3 := same_new (o := .lst ([V.bl (decide (i < 9)), V.bl (decide (i < 9)), V.bl (decide (i = 9))] ++ [V.bl (decide (i = 10)), V.bl (decide (i > 10))])) hb3
          have w3 := @upd_same HB b3 (.lst ([V.bl (decide (i < 9)), V.bl (decide (i < 9)), V.bl (decide (i = 9))] ++ [V.bl (decide (i = 10)), V.bl (decide (i > 10))]))
          have s9B := ((s9.trans v1).trans v2).trans v3
          generalize upd HB b3 (.lst ([V.bl (decide (i < 9)), V.bl (decide (i < 9)), V.bl (decide (i = 9))] ++ [V.bl (decide (i = 10)), V.bl (decide (i > 10))])) = HC at v3 w3 s9B ⊢
          try dsimp only [gName]
          have e1 : decide ((i : Int) < 9) = decide (i < 9) := decide_eq_decide.mpr (by omega)
          have e3 : decide (V.int (i : Int) = V.int 9) = decide (i = 9) := decide_eq_decide.mpr (by simp; omega)
          have e4 : decide (V.int (i : Int) = V.int 10) = decide (i = 10) := decide_eq_decide.mpr (by simp; omega)
          have e5 : decide ((10 : Int) < (i : Int)) = decide (i > 10) := decide_eq_decide.mpr (by omega)
          refine ⟨_, rfl, _, rfl, _, _, rfl, rfl, _, rfl, _, _, rfl, rfl, _, rfl, rfl, _, rfl, rfl, _, rfl, _, _, rfl, rfl, by show 5 ≤ sizeLine; decide, fun b4 hb4 => ?_⟩
          have v4 := same_new (o := .lst [V.bl (decide ((i : Int) < 9)), V.bl (decide ((i : Int) < 9)), V.bl (decide (V.int (i : Int) = V.int 9)), V.bl (decide (V.int (i : Int) = V.int 10)), V.bl (decide ((10 : Int) < (i : Int)))]) hb4
          have w4 := @upd_same HC b4 (.lst [V.bl (decide ((i : Int) < 9)), V.bl (decide ((i : Int) < 9)), V.bl (decide (V.int (i : Int) = V.int 9)), V.bl (decide (V.int (i : Int) = V.int 10)), V.bl (decide ((10 : Int) < (i : Int)))])
          have w34 := v4 _ _ w3
          generalize upd HC b4 (.lst [V.bl (decide ((i : Int) < 9)), V.bl (decide ((i : Int) < 9)), V.bl (decide (V.int (i : Int) = V.int 9)), V.bl (decide (V.int (i : Int) = V.int 10)), V.bl (decide ((10 : Int) < (i : Int)))]) = HD at v4 w4 w34 ⊢
          rw [e1, e3, e4, e5] at w4
          refine ⟨.list [.bool (decide (i < 9)), .bool (decide (i < 9)), .bool (decide (i = 9)), .bool (decide (i = 10)), .bool (decide (i > 10))], .list [.bool (decide (i < 9)), .bool (decide (i < 9)), .bool (decide (i = 9)), .bool (decide (i = 10)), .bool (decide (i > 10))], .lst (SqL.of w34) (.cons (.bl _) (.cons (.bl _) (.cons (.bl _) (.cons (.bl _) (.cons (.bl _) .nil))))), .lst (SqL.of w4) (.cons (.bl _) (.cons (.bl _) (.cons (.bl _) (.cons (.bl _) (.cons (.bl _) .nil))))), sh5 _ _ _ _ _, sh5 _ _ _ _ _, _, rfl, iteN (ne_self (sh5 _ _ _ _ _)) ?_⟩
          exact ⟨_, _, _, rfl, s9B.trans v4⟩
        · rintro σ H' ⟨o4, o5, o6, rfl, s⟩
          exact cont _ _ ⟨_, _, _, rfl, s⟩
      obtain ⟨o4, o5, o6, rfl, s67⟩ := h7
      obtain ⟨d, c1, c2, dpx⟩ := hX.dp (K := K)
      have s57 := s56.trans s67
      have hls7 := s67 _ _ hls
      have hE7 := hE.same s67
      try dsimp only [gName]
      refine seq_cut (fun H8 => Same H7 H8) (fun N cont => ?_) (fun H8 s78 => ?_)
      · refine ⟨_, rfl, x, rfl, fun l8 es8 HA sA nl8 hl8 hE8 => ⟨l8, rfl, ⟨_, SqL.of hl8⟩, fun D hD => lcM (stat_list (SqL.of hl8)) hD (fun _ => x) (by rw [List.length_map, hE8.1]; exact Nat.le_trans (by decide) line_ge) ?_ ?_⟩⟩
        · intro i y H' R hi sj px kk
          rw [List.length_map, hE8.1] at hi
          rw [List.getElem?_map] at px
          obtain ⟨e, he, rfl⟩ := Option.map_eq_some_iff.mp px
          have hEi := (hE8.2 i e he).same sj
          have hno := no_i T (i := i) (by omega)
          rw [val_i hi] at hEi hno
          exact ⟨rfl, _, rfl, e, clsA a i, x, rfl, xf_i T (by omega), hno, hEi, kk H' (Same.refl H')⟩
        intro HB sB hDB
        rw [List.length_map, hE8.1, rng_rep] at hDB
        have s7B := sA.trans sB
        refine ⟨_, rfl, by show 1 ≤ sizeLine; decide, fun qa8 ha8 => ⟨qa8, 8, _, rfl, rfl, upd_same, by decide, by decide, Nat.le_trans (show 1 * 8 ≤ 100000 by decide) line_ge, fun qb8 hb8 => ?_⟩⟩
        rw [rep1, show Int.toNat 8 = 8 from rfl]
        have z8 := (same_new (o := .lst [x]) ha8).trans (same_new (o := .lst (List.replicate 8 x)) hb8)
        have zb8 := @upd_same (upd HB qa8 (.lst [x])) qb8 (.lst (List.replicate 8 x))
        have zd8 := z8 _ _ hDB
        generalize upd (upd HB qa8 (.lst [x])) qb8 (.lst (List.replicate 8 x)) = Z8 at z8 zb8 zd8 ⊢
        refine ⟨_, _, dp_rep (dpx _ ((s57.trans s7B).trans z8)) zd8, dp_rep (dpx _ ((s57.trans s7B).trans z8)) zb8, sh_rep c1 c2 _, sh_rep c1 c2 _, _, rfl, iteN (ne_self (sh_rep c1 c2 _)) ?_⟩
        have s7Z := s7B.trans z8
        refine ⟨_, rfl, ls, es, x, rfl, s7Z _ _ hls7, hE7.same s7Z, fun r HC sC nr hr13 => ?_⟩
        refine ⟨_, rfl, by show 1 ≤ sizeLine; decide, fun qa13 ha13 => ⟨qa13, 13, _, rfl, rfl, upd_same, by decide, by decide, Nat.le_trans (show 1 * 13 ≤ 100000 by decide) line_ge, fun qb13 hb13 => ?_⟩⟩
        rw [rep1, show Int.toNat 13 = 13 from rfl]
        have z13 := (same_new (o := .lst [x]) ha13).trans (same_new (o := .lst (List.replicate 13 x)) hb13)
        have zb13 := @upd_same (upd HC qa13 (.lst [x])) qb13 (.lst (List.replicate 13 x))
        have zd13 := z13 _ _ hr13
        generalize upd (upd HC qa13 (.lst [x])) qb13 (.lst (List.replicate 13 x)) = Z13 at z13 zb13 zd13 ⊢
        refine ⟨_, _, dp_rep (dpx _ (((s57.trans s7Z).trans sC).trans z13)) zd13, dp_rep (dpx _ (((s57.trans s7Z).trans sC).trans z13)) zb13, sh_rep c1 c2 _, sh_rep c1 c2 _, _, rfl, iteN (ne_self (sh_rep c1 c2 _)) ?_⟩
        exact cont _ ((s7Z.trans sC).trans z13)
      have s58 := s57.trans s78
      have hls8 := s78 _ _ hls7
      have hE8 := hE7.same s78
      clear hls7 hE7
      refine seq_cut (fun H9 => Same H8 H9) (fun N cont => ?_) (fun H9 s89 => ?_)
      · refine ⟨_, rfl, _, rfl, fun e1 K1 t1 n1 h1 => ⟨e1, a.ParseError, x, rfl, T.e_ParseError.xf, T.e_ParseError.no, h1, _, rfl, ?_⟩⟩
        refine ⟨_, _, dpx _ (s58.trans t1), dpx _ (s58.trans t1), sh_one c1 c2, sh_one c1 c2, _, rfl, iteN (ne_self (sh_one c1 c2)) ?_⟩
        refine ⟨_, rfl, _, rfl, fun e2 K2 t2 n2 h2 => ⟨e2, a.StepFailed, x, rfl, T.e_StepFailed.xf, T.e_StepFailed.no, h2, _, rfl, ?_⟩⟩
        refine ⟨_, _, dpx _ ((s58.trans t1).trans t2), dpx _ ((s58.trans t1).trans t2), sh_one c1 c2, sh_one c1 c2, _, rfl, iteN (ne_self (sh_one c1 c2)) ?_⟩
        refine ⟨_, rfl, _, rfl, fun e3 K3 t3 n3 h3 => ⟨e3, a.LimitExceeded, x, rfl, T.e_LimitExceeded.xf, T.e_LimitExceeded.no, h3, _, rfl, ?_⟩⟩
        refine ⟨_, _, dpx _ (((s58.trans t1).trans t2).trans t3), dpx _ (((s58.trans t1).trans t2).trans t3), sh_one c1 c2, sh_one c1 c2, _, rfl, iteN (ne_self (sh_one c1 c2)) ?_⟩
        exact cont _ ((t1.trans t2).trans t3)
      have s59 := s58.trans s89
      have hls9 := s89 _ _ hls8
      have hE9 := hE8.same s89
      clear hls8 hE8
      have s49 := s45.trans s59
      have hX9 := hX.same s59
      refine seq_cut (fun HA => Same H4 HA ∧ HA ls = some (.lst (es.map V.ref)) ∧ Errs a HA x 13 fldA es ∧ XA HA [1, 2] x) (fun N cont => ?_) (fun HA hA => ?_)
      · rcases hX9 with ⟨t, m, rfl, b⟩ | ⟨m, rfl⟩ | rfl | rfl | ⟨l, rfl, b⟩
        · exact ⟨_, rfl, .ref t, .ty "list", .type "tuple", .type "list", false, rfl, .ty _, tyX_tup (SqT.of b), rfl, _, rfl, iteN rfl (cont _ ⟨s49, hls9, hE9, .inl ⟨t, m, rfl, b⟩⟩)⟩
        · exact ⟨_, rfl, .int m, .ty "list", .type "int", .type "list", false, rfl, .ty _, .base (.int _), rfl, _, rfl, iteN rfl (cont _ ⟨s49, hls9, hE9, .inr (.inl ⟨m, rfl⟩)⟩)⟩
        · exact ⟨_, rfl, .non, .ty "list", .type "NoneType", .type "list", false, rfl, .ty _, .base .non, rfl, _, rfl, iteN rfl (cont _ ⟨s49, hls9, hE9, .inr (.inr (.inl rfl))⟩)⟩
        · exact ⟨_, rfl, .str "a", .ty "list", .type "str", .type "list", false, rfl, .ty _, .base (.str _), rfl, _, rfl, iteN rfl (cont _ ⟨s49, hls9, hE9, .inr (.inr (.inr (.inl rfl)))⟩)⟩
        · refine ⟨_, rfl, .ref l, .ty "list", .type "list", .type "list", true, rfl, .ty _, .base (.lst b), kit_ty, _, rfl, iteH rfl ?_⟩
          have nl := hfr l rfl
          have nll : ls ≠ l := fun e => by
            rw [e] at nls
            rcases hX with ⟨_, _, z, b'⟩ | ⟨_, z⟩ | z | z | ⟨l', z, b'⟩
            · cases z
              rw [nls] at b'
              cases b'
            · cases z
            · cases z
            · cases z
            · cases z
              rw [nls] at b'
              cases b'
          refine ⟨_, rfl, .inl ⟨rfl, _, SqL.of b⟩, l, _, _, rfl, rfl, b, Nat.lt_of_lt_of_le (show 1 < 100000 by decide) line_ge, ?_⟩
          exact cont _ ⟨same_upd s49 nl, by rw [upd_ne nll]; exact hls9, hE9.upd b, .inr (.inr (.inr (.inr ⟨l, rfl, upd_same⟩)))⟩
      obtain ⟨s4A, hlsA, hEA, hXA⟩ := hA
      clear hls9 hE9 hX9 dpx c1 c2
      obtain ⟨d, c1, c2, dpx⟩ := hXA.dp (K := K)
      have sAA := Same.refl HA
      refine ⟨_, rfl, _, rfl, fun e4 K4 t4 n4 h4 => ⟨e4, a.NothingToUndo, x, rfl, T.e_NothingToUndo.xf, T.e_NothingToUndo.no, h4, _, rfl, ?_⟩⟩
      refine ⟨_, _, dpx _ (sAA.trans t4), dpx _ (sAA.trans t4), sh_one c1 c2, sh_one c1 c2, _, rfl, iteN (ne_self (sh_one c1 c2)) ?_⟩
      refine ⟨_, rfl, _, rfl, fun e5 K5 t5 n5 h5 => ⟨e5, a.NothingToRedo, x, rfl, T.e_NothingToRedo.xf, T.e_NothingToRedo.no, h5, _, rfl, ?_⟩⟩
      refine ⟨_, _, dpx _ ((sAA.trans t4).trans t5), dpx _ ((sAA.trans t4).trans t5), sh_one c1 c2, sh_one c1 c2, _, rfl, iteN (ne_self (sh_one c1 c2)) ?_⟩
      have sA5 := (sAA.trans t4).trans t5
      refine ⟨_, rfl, ls, es, x, rfl, sA5 _ _ hlsA, hEA.same sA5, fun r HC sC nr hr13 => ?_⟩
      refine ⟨_, rfl, by show 1 ≤ sizeLine; decide, fun qa13 ha13 => ⟨qa13, 13, _, rfl, rfl, upd_same, by decide, by decide, Nat.le_trans (show 1 * 13 ≤ 100000 by decide) line_ge, fun qb13 hb13 => ?_⟩⟩
      rw [rep1, show Int.toNat 13 = 13 from rfl]
      have z13 := (same_new (o := .lst [x]) ha13).trans (same_new (o := .lst (List.replicate 13 x)) hb13)
      have zb13 := @upd_same (upd HC qa13 (.lst [x])) qb13 (.lst (List.replicate 13 x))
      have zd13 := z13 _ _ hr13
      generalize upd (upd HC qa13 (.lst [x])) qb13 (.lst (List.replicate 13 x)) = Z13 at z13 zb13 zd13 ⊢
      refine ⟨_, _, dp_rep (dpx _ ((sA5.trans sC).trans z13)) zd13, dp_rep (dpx _ ((sA5.trans sC).trans z13)) zb13, sh_rep c1 c2 _, sh_rep c1 c2 _, _, rfl, iteN (ne_self (sh_rep c1 c2 _)) ?_⟩
      exact ⟨_, _, _, _, _, _, rfl, ((s4.trans s4A).trans (sA5.trans sC)).trans z13⟩
    · rintro σ H4 ⟨o1, o2, o3, o4, o5, o6, rfl, s4⟩
      exact k _

end
end K04
namespace K04
open PySem L2 XT
section
variable {P : Program} {w : World} {K : PySem.W.Frag} {mg : Str → Option Value} {base : Heap} {a : Ads}
def bmA (a : Ads) : Nat → List Value
  | 0 => .ref a.RankError :: [.type "ValueError", .type "Exception", .type "BaseException", .type "object"]
  | 1 => .ref a.RankError :: [.type "ValueError", .type "Exception", .type "BaseException", .type "object"]
  | 2 => .ref a.RankError :: [.type "ValueError", .type "Exception", .type "BaseException", .type "object"]
  | 3 => .ref a.RankError :: [.type "ValueError", .type "Exception", .type "BaseException", .type "object"]
  | 4 => .ref a.RankError :: [.type "ValueError", .type "Exception", .type "BaseException", .type "object"]
  | 5 => .ref a.RankError :: [.type "ValueError", .type "Exception", .type "BaseException", .type "object"]
  | 6 => .ref a.RankError :: [.type "ValueError", .type "Exception", .type "BaseException", .type "object"]
  | 7 => .ref a.RankError :: [.type "ValueError", .type "Exception", .type "BaseException", .type "object"]
  | 8 => .ref a.RankError :: [.type "ValueError", .type "Exception", .type "BaseException", .type "object"]
  | 9 => [.type "RuntimeError", .type "Exception", .type "BaseException", .type "object"]
  | 10 => [.type "OverflowError", .type "ArithmeticError", .type "Exception", .type "BaseException", .type "object"]
  | 11 => [.type "LookupError", .type "Exception", .type "BaseException", .type "object"]
  | _ => [.type "LookupError", .type "Exception", .type "BaseException", .type "object"]
theorem mro_of {nm q : Str} {C N : Addr} {bs bm : List Value} {hd : Bool} {sn : List Str} {sub : List Value} {ab : Bool} {col : Option Bool} {dd : Option Addr} {k0 k1 k2 k3 k5 : Option Value} {new : String} (xl : K.lookup C = some (excClassObj nm q C N bs bm hd sn sub ab col dd k0 k1 k2 k3 k5 new)) (b : Value) : PySem.W.mroIn K C b = some ((Value.ref C :: bm).contains b) := by
  simp [PySem.W.mroIn, PySem.W.clsIn, xl, excClassObj]
theorem cl13 {i : Nat} (h : i < 13) : ([a.InvalidList, a.InvalidStep, a.InvalidTable, a.InvalidEffect, a.InvalidNumber, a.InvalidFacts, a.InvalidName, a.InvalidCommand, a.ParseError, a.StepFailed, a.LimitExceeded, a.NothingToUndo, a.NothingToRedo, a.RankError] : List Addr)[i]? = some (clsA a i) := by
  rcases lt13 h with rfl | rfl | rfl | rfl | rfl | rfl | rfl | rfl | rfl | rfl | rfl | rfl | rfl <;> rfl
theorem inj13 (nd : ([a.InvalidList, a.InvalidStep, a.InvalidTable, a.InvalidEffect, a.InvalidNumber, a.InvalidFacts, a.InvalidName, a.InvalidCommand, a.ParseError, a.StepFailed, a.LimitExceeded, a.NothingToUndo, a.NothingToRedo, a.RankError] : List Addr).Nodup) {i j : Nat} (hi : i < 13) (hj : j < 13) (e : clsA a i = clsA a j) : i = j := by
  refine (List.getElem?_inj (l := [a.InvalidList, a.InvalidStep, a.InvalidTable, a.InvalidEffect, a.InvalidNumber, a.InvalidFacts, a.InvalidName, a.InvalidCommand, a.ParseError, a.StepFailed, a.LimitExceeded, a.NothingToUndo, a.NothingToRedo, a.RankError]) (by simp; omega) nd).mp ?_
  rw [cl13 hi, cl13 hj, e]
theorem injR (nd : ([a.InvalidList, a.InvalidStep, a.InvalidTable, a.InvalidEffect, a.InvalidNumber, a.InvalidFacts, a.InvalidName, a.InvalidCommand, a.ParseError, a.StepFailed, a.LimitExceeded, a.NothingToUndo, a.NothingToRedo, a.RankError] : List Addr).Nodup) {i : Nat} (hi : i < 13) : clsA a i ≠ a.RankError := fun e => by
  have := (List.getElem?_inj (l := [a.InvalidList, a.InvalidStep, a.InvalidTable, a.InvalidEffect, a.InvalidNumber, a.InvalidFacts, a.InvalidName, a.InvalidCommand, a.ParseError, a.StepFailed, a.LimitExceeded, a.NothingToUndo, a.NothingToRedo, a.RankError]) (i := i) (j := 13) (by simp; omega) nd).mp (by rw [cl13 hi, e]; rfl)
  omega
theorem bm_ref {i : Nat} (hi : i < 13) {D : Addr} (hD : D ≠ a.RankError) : (bmA a i).contains (.ref D) = false := by
  rcases lt13 hi with rfl | rfl | rfl | rfl | rfl | rfl | rfl | rfl | rfl | rfl | rfl | rfl | rfl <;> simp [bmA, hD]
theorem bm_rank {i : Nat} (hi : i < 13) : (bmA a i).contains (.ref a.RankError) = decide (i < 9) := by
  rcases lt13 hi with rfl | rfl | rfl | rfl | rfl | rfl | rfl | rfl | rfl | rfl | rfl | rfl | rfl <;> simp [bmA]
theorem bm_V {i : Nat} (hi : i < 13) : (bmA a i).contains (.type "ValueError") = decide (i < 9) := by
  rcases lt13 hi with rfl | rfl | rfl | rfl | rfl | rfl | rfl | rfl | rfl | rfl | rfl | rfl | rfl <;> rfl
theorem bm_R {i : Nat} (hi : i < 13) : (bmA a i).contains (.type "RuntimeError") = decide (i = 9) := by
  rcases lt13 hi with rfl | rfl | rfl | rfl | rfl | rfl | rfl | rfl | rfl | rfl | rfl | rfl | rfl <;> rfl
theorem bm_O {i : Nat} (hi : i < 13) : (bmA a i).contains (.type "OverflowError") = decide (i = 10) := by
  rcases lt13 hi with rfl | rfl | rfl | rfl | rfl | rfl | rfl | rfl | rfl | rfl | rfl | rfl | rfl <;> rfl
theorem bm_L {i : Nat} (hi : i < 13) : (bmA a i).contains (.type "LookupError") = decide (i > 10) := by
  rcases lt13 hi with rfl | rfl | rfl | rfl | rfl | rfl | rfl | rfl | rfl | rfl | rfl | rfl | rfl <;> rfl
theorem kit_t {C : Addr} {T : String} {m : List Value} {b : Bool} (hk : PySem.W.kitMeta T = true) (h : PySem.W.mroIn K C (.type T) = some ((Value.ref C :: m).contains (.type T))) (e : m.contains (.type T) = b) : PySem.W.kitOne K (.ref C) (.type T) = some b := by
  have h1 : (Value.ref C == Value.type T) = false := rfl
  have h2 : (Value.ref C :: m).contains (.type T) = b := by
    rw [List.contains_cons, e]
    rfl
  rw [h2] at h
  unfold PySem.W.kitOne PySem.W.kitCls
  rw [h1]
  simp only [hk, if_true, Bool.false_eq_true, if_false]
  exact h
theorem kit_r {C D : Addr} {m : List Value} {b : Bool} (hne : C ≠ D) (hc : PySem.W.isClsIn K D = true) (ht : PySem.W.typeIn K (.ref D) = some (.type "type")) (h : PySem.W.mroIn K C (.ref D) = some ((Value.ref C :: m).contains (.ref D))) (e : m.contains (.ref D) = b) : PySem.W.kitOne K (.ref C) (.ref D) = some b := by
  have h2 : (Value.ref C :: m).contains (.ref D) = b := by
    rw [List.contains_cons, e]
    have : (Value.ref D == Value.ref C) = false := by
      rw [Bool.eq_false_iff]
      intro z
      rw [beq_iff_eq] at z
      injection z with z
      exact hne z.symm
    rw [this, Bool.false_or]
  rw [h2] at h
  have hc' : (PySem.W.clsIn K D).isSome = true := hc
  simp [PySem.W.kitOne, PySem.W.kitCls, hc', ht, hne]
  exact h
/-- what the classes' orders say -/
structure Mros (K : PySem.W.Frag) (a : Ads) : Prop where
  nd : ([a.InvalidList, a.InvalidStep, a.InvalidTable, a.InvalidEffect, a.InvalidNumber, a.InvalidFacts, a.InvalidName, a.InvalidCommand, a.ParseError, a.StepFailed, a.LimitExceeded, a.NothingToUndo, a.NothingToRedo, a.RankError] : List Addr).Nodup
  mro : ∀ i : Nat, i < 13 → ∀ b : Value, PySem.W.mroIn K (clsA a i) b = some ((Value.ref (clsA a i) :: bmA a i).contains b)
  ic : ∀ i : Nat, i < 13 → PySem.W.isClsIn K (clsA a i) = true
  ty : ∀ i : Nat, i < 13 → PySem.W.typeIn K (.ref (clsA a i)) = some (.type "type")
  icR : PySem.W.isClsIn K a.RankError = true
  tyR : PySem.W.typeIn K (.ref a.RankError) = some (.type "type")
theorem Mros.kit (m : Mros K a) (i j : Nat) (hi : i < 13) (hj : j < 13) : PySem.W.kitOne K (.ref (clsA a i)) (.ref (clsA a j)) = some (decide (i = j)) := by
  by_cases e : i = j
  · subst e
    simp [PySem.W.kitOne]
  · rw [decide_eq_false e]
    exact kit_r (fun z => e (inj13 m.nd hi hj z)) (m.ic j hj) (m.ty j hj) (m.mro i hi _) (bm_ref hi (injR m.nd hj))
theorem all13 {p : Nat → Prop} (h : p 0 ∧ p 1 ∧ p 2 ∧ p 3 ∧ p 4 ∧ p 5 ∧ p 6 ∧ p 7 ∧ p 8 ∧ p 9 ∧ p 10 ∧ p 11 ∧ p 12) : ∀ i : Nat, i < 13 → p i := by
  obtain ⟨h0, h1, h2, h3, h4, h5, h6, h7, h8, h9, h10, h11, h12⟩ := h
  intro i hi
  rcases lt13 hi with rfl | rfl | rfl | rfl | rfl | rfl | rfl | rfl | rfl | rfl | rfl | rfl | rfl <;> assumption
theorem kit_self {a : Addr} : PySem.W.kitOne K (.ref a) (.ref a) = some true := by simp [PySem.W.kitOne]
theorem exm_of {D C : Addr} {b : Bool} (h1 : PySem.W.subIn K (.ref C) (.type "BaseException") = some true) (h2 : PySem.W.isClsIn K C = true) (h3 : PySem.W.typeIn K (.ref C) = some (.type "type")) (h4 : PySem.W.subIn K (.ref D) (.ref C) = some b) : PySem.W.exmOne K (.ref D) (.ref C) = some b := by
  have h2' : (PySem.W.clsIn K C).isSome = true := h2
  simp [PySem.W.exmOne, PySem.W.kitCls, h1, h2', h3, h4]
theorem all_mk {l : PySem.W.OpenLaw} {h : Heap} {fa : Addr} (X : K.In h) (G : h.Ns mainGlobals mg) (hfa : mg "law" = some (.ref fa)) {InvalidList___init__ InvalidStep___init__ InvalidTable___init__ InvalidEffect___init__ InvalidNumber___init__ InvalidFacts___init__ InvalidName___init__ InvalidCommand___init__ ParseError___init__ StepFailed___init__ LimitExceeded___init__ NothingToUndo___init__ NothingToRedo___init__ law_errors law_named law_kinds law_fields law InvalidList RankError InvalidStep InvalidTable InvalidEffect InvalidNumber InvalidFacts InvalidName InvalidCommand ParseError StepFailed LimitExceeded NothingToUndo NothingToRedo : Addr} 
    {nm_InvalidList q_InvalidList : Str} {N_InvalidList : Addr} {bs_InvalidList : List Value} {sn_InvalidList : List Str} {sub_InvalidList : List Value} {ab_InvalidList : Bool} {col_InvalidList : Option Bool} {dd_InvalidList : Option Addr} {e0_InvalidList e1_InvalidList e2_InvalidList e3_InvalidList e5_InvalidList : Option Value}
    {nm_InvalidStep q_InvalidStep : Str} {N_InvalidStep : Addr} {bs_InvalidStep : List Value} {sn_InvalidStep : List Str} {sub_InvalidStep : List Value} {ab_InvalidStep : Bool} {col_InvalidStep : Option Bool} {dd_InvalidStep : Option Addr} {e0_InvalidStep e1_InvalidStep e2_InvalidStep e3_InvalidStep e5_InvalidStep : Option Value}
    {nm_InvalidTable q_InvalidTable : Str} {N_InvalidTable : Addr} {bs_InvalidTable : List Value} {sn_InvalidTable : List Str} {sub_InvalidTable : List Value} {ab_InvalidTable : Bool} {col_InvalidTable : Option Bool} {dd_InvalidTable : Option Addr} {e0_InvalidTable e1_InvalidTable e2_InvalidTable e3_InvalidTable e5_InvalidTable : Option Value}
    {nm_InvalidEffect q_InvalidEffect : Str} {N_InvalidEffect : Addr} {bs_InvalidEffect : List Value} {sn_InvalidEffect : List Str} {sub_InvalidEffect : List Value} {ab_InvalidEffect : Bool} {col_InvalidEffect : Option Bool} {dd_InvalidEffect : Option Addr} {e0_InvalidEffect e1_InvalidEffect e2_InvalidEffect e3_InvalidEffect e5_InvalidEffect : Option Value}
    {nm_InvalidNumber q_InvalidNumber : Str} {N_InvalidNumber : Addr} {bs_InvalidNumber : List Value} {sn_InvalidNumber : List Str} {sub_InvalidNumber : List Value} {ab_InvalidNumber : Bool} {col_InvalidNumber : Option Bool} {dd_InvalidNumber : Option Addr} {e0_InvalidNumber e1_InvalidNumber e2_InvalidNumber e3_InvalidNumber e5_InvalidNumber : Option Value}
    {nm_InvalidFacts q_InvalidFacts : Str} {N_InvalidFacts : Addr} {bs_InvalidFacts : List Value} {sn_InvalidFacts : List Str} {sub_InvalidFacts : List Value} {ab_InvalidFacts : Bool} {col_InvalidFacts : Option Bool} {dd_InvalidFacts : Option Addr} {e0_InvalidFacts e1_InvalidFacts e2_InvalidFacts e3_InvalidFacts e5_InvalidFacts : Option Value}
    {nm_InvalidName q_InvalidName : Str} {N_InvalidName : Addr} {bs_InvalidName : List Value} {sn_InvalidName : List Str} {sub_InvalidName : List Value} {ab_InvalidName : Bool} {col_InvalidName : Option Bool} {dd_InvalidName : Option Addr} {e0_InvalidName e1_InvalidName e2_InvalidName e3_InvalidName e5_InvalidName : Option Value}
    {nm_InvalidCommand q_InvalidCommand : Str} {N_InvalidCommand : Addr} {bs_InvalidCommand : List Value} {sn_InvalidCommand : List Str} {sub_InvalidCommand : List Value} {ab_InvalidCommand : Bool} {col_InvalidCommand : Option Bool} {dd_InvalidCommand : Option Addr} {e0_InvalidCommand e1_InvalidCommand e2_InvalidCommand e3_InvalidCommand e5_InvalidCommand : Option Value}
    {nm_ParseError q_ParseError : Str} {N_ParseError : Addr} {bs_ParseError : List Value} {sn_ParseError : List Str} {sub_ParseError : List Value} {ab_ParseError : Bool} {col_ParseError : Option Bool} {dd_ParseError : Option Addr} {e0_ParseError e1_ParseError e2_ParseError e3_ParseError e5_ParseError : Option Value}
    {nm_StepFailed q_StepFailed : Str} {N_StepFailed : Addr} {bs_StepFailed : List Value} {sn_StepFailed : List Str} {sub_StepFailed : List Value} {ab_StepFailed : Bool} {col_StepFailed : Option Bool} {dd_StepFailed : Option Addr} {e0_StepFailed e1_StepFailed e2_StepFailed e3_StepFailed e5_StepFailed : Option Value}
    {nm_LimitExceeded q_LimitExceeded : Str} {N_LimitExceeded : Addr} {bs_LimitExceeded : List Value} {sn_LimitExceeded : List Str} {sub_LimitExceeded : List Value} {ab_LimitExceeded : Bool} {col_LimitExceeded : Option Bool} {dd_LimitExceeded : Option Addr} {e0_LimitExceeded e1_LimitExceeded e2_LimitExceeded e3_LimitExceeded e5_LimitExceeded : Option Value}
    {nm_NothingToUndo q_NothingToUndo : Str} {N_NothingToUndo : Addr} {bs_NothingToUndo : List Value} {sn_NothingToUndo : List Str} {sub_NothingToUndo : List Value} {ab_NothingToUndo : Bool} {col_NothingToUndo : Option Bool} {dd_NothingToUndo : Option Addr} {e0_NothingToUndo e1_NothingToUndo e2_NothingToUndo e3_NothingToUndo e5_NothingToUndo : Option Value}
    {nm_NothingToRedo q_NothingToRedo : Str} {N_NothingToRedo : Addr} {bs_NothingToRedo : List Value} {sn_NothingToRedo : List Str} {sub_NothingToRedo : List Value} {ab_NothingToRedo : Bool} {col_NothingToRedo : Option Bool} {dd_NothingToRedo : Option Addr} {e0_NothingToRedo e1_NothingToRedo e2_NothingToRedo e3_NothingToRedo e5_NothingToRedo : Option Value}
    {oc_InvalidList___init__ kV_InvalidList___init__ dc_InvalidList___init__ pm_InvalidList___init__ cd_InvalidList___init__ ct_InvalidList___init__ : Value} {od_InvalidList___init__ an_InvalidList___init__ : Option Addr} {sl_InvalidList___init__ : Array (Option Value)}
    {oc_InvalidStep___init__ kV_InvalidStep___init__ dc_InvalidStep___init__ pm_InvalidStep___init__ cd_InvalidStep___init__ ct_InvalidStep___init__ : Value} {od_InvalidStep___init__ an_InvalidStep___init__ : Option Addr} {sl_InvalidStep___init__ : Array (Option Value)}
    {oc_InvalidTable___init__ kV_InvalidTable___init__ dc_InvalidTable___init__ pm_InvalidTable___init__ cd_InvalidTable___init__ ct_InvalidTable___init__ : Value} {od_InvalidTable___init__ an_InvalidTable___init__ : Option Addr} {sl_InvalidTable___init__ : Array (Option Value)}
    {oc_InvalidEffect___init__ kV_InvalidEffect___init__ dc_InvalidEffect___init__ pm_InvalidEffect___init__ cd_InvalidEffect___init__ ct_InvalidEffect___init__ : Value} {od_InvalidEffect___init__ an_InvalidEffect___init__ : Option Addr} {sl_InvalidEffect___init__ : Array (Option Value)}
    {oc_InvalidNumber___init__ kV_InvalidNumber___init__ dc_InvalidNumber___init__ pm_InvalidNumber___init__ cd_InvalidNumber___init__ ct_InvalidNumber___init__ : Value} {od_InvalidNumber___init__ an_InvalidNumber___init__ : Option Addr} {sl_InvalidNumber___init__ : Array (Option Value)}
    {oc_InvalidFacts___init__ kV_InvalidFacts___init__ dc_InvalidFacts___init__ pm_InvalidFacts___init__ cd_InvalidFacts___init__ ct_InvalidFacts___init__ : Value} {od_InvalidFacts___init__ an_InvalidFacts___init__ : Option Addr} {sl_InvalidFacts___init__ : Array (Option Value)}
    {oc_InvalidName___init__ kV_InvalidName___init__ dc_InvalidName___init__ pm_InvalidName___init__ cd_InvalidName___init__ ct_InvalidName___init__ : Value} {od_InvalidName___init__ an_InvalidName___init__ : Option Addr} {sl_InvalidName___init__ : Array (Option Value)}
    {oc_InvalidCommand___init__ kV_InvalidCommand___init__ dc_InvalidCommand___init__ pm_InvalidCommand___init__ cd_InvalidCommand___init__ ct_InvalidCommand___init__ : Value} {od_InvalidCommand___init__ an_InvalidCommand___init__ : Option Addr} {sl_InvalidCommand___init__ : Array (Option Value)}
    {oc_ParseError___init__ kV_ParseError___init__ dc_ParseError___init__ pm_ParseError___init__ cd_ParseError___init__ ct_ParseError___init__ : Value} {od_ParseError___init__ an_ParseError___init__ : Option Addr} {sl_ParseError___init__ : Array (Option Value)}
    {oc_StepFailed___init__ kV_StepFailed___init__ dc_StepFailed___init__ pm_StepFailed___init__ cd_StepFailed___init__ ct_StepFailed___init__ : Value} {od_StepFailed___init__ an_StepFailed___init__ : Option Addr} {sl_StepFailed___init__ : Array (Option Value)}
    {oc_LimitExceeded___init__ kV_LimitExceeded___init__ dc_LimitExceeded___init__ pm_LimitExceeded___init__ cd_LimitExceeded___init__ ct_LimitExceeded___init__ : Value} {od_LimitExceeded___init__ an_LimitExceeded___init__ : Option Addr} {sl_LimitExceeded___init__ : Array (Option Value)}
    {oc_NothingToUndo___init__ kV_NothingToUndo___init__ dc_NothingToUndo___init__ pm_NothingToUndo___init__ cd_NothingToUndo___init__ ct_NothingToUndo___init__ : Value} {od_NothingToUndo___init__ an_NothingToUndo___init__ : Option Addr} {sl_NothingToUndo___init__ : Array (Option Value)}
    {oc_NothingToRedo___init__ kV_NothingToRedo___init__ dc_NothingToRedo___init__ pm_NothingToRedo___init__ cd_NothingToRedo___init__ ct_NothingToRedo___init__ : Value} {od_NothingToRedo___init__ an_NothingToRedo___init__ : Option Addr} {sl_NothingToRedo___init__ : Array (Option Value)}
    {oc_law_errors kV_law_errors dc_law_errors pm_law_errors cd_law_errors ct_law_errors : Value} {od_law_errors an_law_errors : Option Addr} {sl_law_errors : Array (Option Value)}
    {oc_law_named kV_law_named dc_law_named pm_law_named cd_law_named ct_law_named : Value} {od_law_named an_law_named : Option Addr} {sl_law_named : Array (Option Value)}
    {oc_law_kinds kV_law_kinds dc_law_kinds pm_law_kinds cd_law_kinds ct_law_kinds : Value} {od_law_kinds an_law_kinds : Option Addr} {sl_law_kinds : Array (Option Value)}
    {oc_law_fields kV_law_fields dc_law_fields pm_law_fields cd_law_fields ct_law_fields : Value} {od_law_fields an_law_fields : Option Addr} {sl_law_fields : Array (Option Value)}
    {oc_law kV_law dc_law pm_law cd_law ct_law : Value} {od_law an_law : Option Addr} {sl_law : Array (Option Value)}
    (a_law_errors : PySem.W.nsIn K mainGlobals "_law_errors" = some (some (.ref law_errors)))
    (a_law_named : PySem.W.nsIn K mainGlobals "_law_named" = some (some (.ref law_named)))
    (a_law_kinds : PySem.W.nsIn K mainGlobals "_law_kinds" = some (some (.ref law_kinds)))
    (a_law_fields : PySem.W.nsIn K mainGlobals "_law_fields" = some (some (.ref law_fields)))
    (a_law : PySem.W.nsIn K mainGlobals "law" = some (some (.ref law)))
    (a_InvalidList : PySem.W.nsIn K mainGlobals "InvalidList" = some (some (.ref InvalidList)))
    (a_RankError : PySem.W.nsIn K mainGlobals "RankError" = some (some (.ref RankError)))
    (a_InvalidStep : PySem.W.nsIn K mainGlobals "InvalidStep" = some (some (.ref InvalidStep)))
    (a_InvalidTable : PySem.W.nsIn K mainGlobals "InvalidTable" = some (some (.ref InvalidTable)))
    (a_InvalidEffect : PySem.W.nsIn K mainGlobals "InvalidEffect" = some (some (.ref InvalidEffect)))
    (a_InvalidNumber : PySem.W.nsIn K mainGlobals "InvalidNumber" = some (some (.ref InvalidNumber)))
    (a_InvalidFacts : PySem.W.nsIn K mainGlobals "InvalidFacts" = some (some (.ref InvalidFacts)))
    (a_InvalidName : PySem.W.nsIn K mainGlobals "InvalidName" = some (some (.ref InvalidName)))
    (a_InvalidCommand : PySem.W.nsIn K mainGlobals "InvalidCommand" = some (some (.ref InvalidCommand)))
    (a_ParseError : PySem.W.nsIn K mainGlobals "ParseError" = some (some (.ref ParseError)))
    (a_StepFailed : PySem.W.nsIn K mainGlobals "StepFailed" = some (some (.ref StepFailed)))
    (a_LimitExceeded : PySem.W.nsIn K mainGlobals "LimitExceeded" = some (some (.ref LimitExceeded)))
    (a_NothingToUndo : PySem.W.nsIn K mainGlobals "NothingToUndo" = some (some (.ref NothingToUndo)))
    (a_NothingToRedo : PySem.W.nsIn K mainGlobals "NothingToRedo" = some (some (.ref NothingToRedo)))
    (z_list : PySem.W.nsIn K mainGlobals "list" = some none)
    (z_isinstance : PySem.W.nsIn K mainGlobals "isinstance" = some none)
    (z_enumerate : PySem.W.nsIn K mainGlobals "enumerate" = some none)
    (z_ValueError : PySem.W.nsIn K mainGlobals "ValueError" = some none)
    (z_RuntimeError : PySem.W.nsIn K mainGlobals "RuntimeError" = some none)
    (z_OverflowError : PySem.W.nsIn K mainGlobals "OverflowError" = some none)
    (z_LookupError : PySem.W.nsIn K mainGlobals "LookupError" = some none)
    (xl_InvalidList : K.lookup InvalidList = some (excClassObj nm_InvalidList q_InvalidList InvalidList N_InvalidList bs_InvalidList [.ref RankError, .type "ValueError", .type "Exception", .type "BaseException", .type "object"] true sn_InvalidList sub_InvalidList ab_InvalidList col_InvalidList dd_InvalidList e0_InvalidList e1_InvalidList e2_InvalidList e3_InvalidList e5_InvalidList "ValueError.__new__"))
    (sa_InvalidList : PySem.W.findIn K (.ref InvalidList) "__setattr__" = some (some (.builtin "object.__setattr__")))
    (ex_InvalidList : PySem.W.subIn K (.ref InvalidList) (.type "BaseException") = some true)
    (ty_InvalidList : PySem.W.typeIn K (.ref InvalidList) = some (.type "type"))
    (kc_InvalidList : PySem.W.keepIn K (.ref InvalidList) = true)
    (in_InvalidList : PySem.W.findIn K (.ref InvalidList) "__init__" = some (some (.ref InvalidList___init__)))
    (ti_InvalidList : PySem.W.typeIn K (.ref InvalidList___init__) = some (.type "function"))
    (no_InvalidList : PySem.W.findIn K (.ref InvalidList) "value" = some none)
    (ga_InvalidList : PySem.W.findIn K (.ref InvalidList) "__getattribute__" = some (some (.builtin "BaseException.__getattribute__")))
    (gg_InvalidList : PySem.W.findIn K (.ref InvalidList) "__getattr__" = some none)
    (hd_InvalidList : PySem.W.hasDictIn K InvalidList = true)
    (ha_InvalidList : PySem.W.findIn K (.ref InvalidList) "__class__" = some (some (.builtin "object.__class__")))
    (hm_InvalidList : PySem.W.mroIn K InvalidList (.type "object") = some true)
    (ic_InvalidList : PySem.W.isClsIn K InvalidList = true)
    (xl_InvalidStep : K.lookup InvalidStep = some (excClassObj nm_InvalidStep q_InvalidStep InvalidStep N_InvalidStep bs_InvalidStep [.ref RankError, .type "ValueError", .type "Exception", .type "BaseException", .type "object"] true sn_InvalidStep sub_InvalidStep ab_InvalidStep col_InvalidStep dd_InvalidStep e0_InvalidStep e1_InvalidStep e2_InvalidStep e3_InvalidStep e5_InvalidStep "ValueError.__new__"))
    (sa_InvalidStep : PySem.W.findIn K (.ref InvalidStep) "__setattr__" = some (some (.builtin "object.__setattr__")))
    (ex_InvalidStep : PySem.W.subIn K (.ref InvalidStep) (.type "BaseException") = some true)
    (ty_InvalidStep : PySem.W.typeIn K (.ref InvalidStep) = some (.type "type"))
    (kc_InvalidStep : PySem.W.keepIn K (.ref InvalidStep) = true)
    (in_InvalidStep : PySem.W.findIn K (.ref InvalidStep) "__init__" = some (some (.ref InvalidStep___init__)))
    (ti_InvalidStep : PySem.W.typeIn K (.ref InvalidStep___init__) = some (.type "function"))
    (no_InvalidStep : PySem.W.findIn K (.ref InvalidStep) "value" = some none)
    (ga_InvalidStep : PySem.W.findIn K (.ref InvalidStep) "__getattribute__" = some (some (.builtin "BaseException.__getattribute__")))
    (gg_InvalidStep : PySem.W.findIn K (.ref InvalidStep) "__getattr__" = some none)
    (hd_InvalidStep : PySem.W.hasDictIn K InvalidStep = true)
    (ha_InvalidStep : PySem.W.findIn K (.ref InvalidStep) "__class__" = some (some (.builtin "object.__class__")))
    (hm_InvalidStep : PySem.W.mroIn K InvalidStep (.type "object") = some true)
    (ic_InvalidStep : PySem.W.isClsIn K InvalidStep = true)
    (xl_InvalidTable : K.lookup InvalidTable = some (excClassObj nm_InvalidTable q_InvalidTable InvalidTable N_InvalidTable bs_InvalidTable [.ref RankError, .type "ValueError", .type "Exception", .type "BaseException", .type "object"] true sn_InvalidTable sub_InvalidTable ab_InvalidTable col_InvalidTable dd_InvalidTable e0_InvalidTable e1_InvalidTable e2_InvalidTable e3_InvalidTable e5_InvalidTable "ValueError.__new__"))
    (sa_InvalidTable : PySem.W.findIn K (.ref InvalidTable) "__setattr__" = some (some (.builtin "object.__setattr__")))
    (ex_InvalidTable : PySem.W.subIn K (.ref InvalidTable) (.type "BaseException") = some true)
    (ty_InvalidTable : PySem.W.typeIn K (.ref InvalidTable) = some (.type "type"))
    (kc_InvalidTable : PySem.W.keepIn K (.ref InvalidTable) = true)
    (in_InvalidTable : PySem.W.findIn K (.ref InvalidTable) "__init__" = some (some (.ref InvalidTable___init__)))
    (ti_InvalidTable : PySem.W.typeIn K (.ref InvalidTable___init__) = some (.type "function"))
    (no_InvalidTable : PySem.W.findIn K (.ref InvalidTable) "value" = some none)
    (ga_InvalidTable : PySem.W.findIn K (.ref InvalidTable) "__getattribute__" = some (some (.builtin "BaseException.__getattribute__")))
    (gg_InvalidTable : PySem.W.findIn K (.ref InvalidTable) "__getattr__" = some none)
    (hd_InvalidTable : PySem.W.hasDictIn K InvalidTable = true)
    (ha_InvalidTable : PySem.W.findIn K (.ref InvalidTable) "__class__" = some (some (.builtin "object.__class__")))
    (hm_InvalidTable : PySem.W.mroIn K InvalidTable (.type "object") = some true)
    (ic_InvalidTable : PySem.W.isClsIn K InvalidTable = true)
    (xl_InvalidEffect : K.lookup InvalidEffect = some (excClassObj nm_InvalidEffect q_InvalidEffect InvalidEffect N_InvalidEffect bs_InvalidEffect [.ref RankError, .type "ValueError", .type "Exception", .type "BaseException", .type "object"] true sn_InvalidEffect sub_InvalidEffect ab_InvalidEffect col_InvalidEffect dd_InvalidEffect e0_InvalidEffect e1_InvalidEffect e2_InvalidEffect e3_InvalidEffect e5_InvalidEffect "ValueError.__new__"))
    (sa_InvalidEffect : PySem.W.findIn K (.ref InvalidEffect) "__setattr__" = some (some (.builtin "object.__setattr__")))
    (ex_InvalidEffect : PySem.W.subIn K (.ref InvalidEffect) (.type "BaseException") = some true)
    (ty_InvalidEffect : PySem.W.typeIn K (.ref InvalidEffect) = some (.type "type"))
    (kc_InvalidEffect : PySem.W.keepIn K (.ref InvalidEffect) = true)
    (in_InvalidEffect : PySem.W.findIn K (.ref InvalidEffect) "__init__" = some (some (.ref InvalidEffect___init__)))
    (ti_InvalidEffect : PySem.W.typeIn K (.ref InvalidEffect___init__) = some (.type "function"))
    (no_InvalidEffect : PySem.W.findIn K (.ref InvalidEffect) "value" = some none)
    (ga_InvalidEffect : PySem.W.findIn K (.ref InvalidEffect) "__getattribute__" = some (some (.builtin "BaseException.__getattribute__")))
    (gg_InvalidEffect : PySem.W.findIn K (.ref InvalidEffect) "__getattr__" = some none)
    (hd_InvalidEffect : PySem.W.hasDictIn K InvalidEffect = true)
    (ha_InvalidEffect : PySem.W.findIn K (.ref InvalidEffect) "__class__" = some (some (.builtin "object.__class__")))
    (hm_InvalidEffect : PySem.W.mroIn K InvalidEffect (.type "object") = some true)
    (ic_InvalidEffect : PySem.W.isClsIn K InvalidEffect = true)
    (xl_InvalidNumber : K.lookup InvalidNumber = some (excClassObj nm_InvalidNumber q_InvalidNumber InvalidNumber N_InvalidNumber bs_InvalidNumber [.ref RankError, .type "ValueError", .type "Exception", .type "BaseException", .type "object"] true sn_InvalidNumber sub_InvalidNumber ab_InvalidNumber col_InvalidNumber dd_InvalidNumber e0_InvalidNumber e1_InvalidNumber e2_InvalidNumber e3_InvalidNumber e5_InvalidNumber "ValueError.__new__"))
    (sa_InvalidNumber : PySem.W.findIn K (.ref InvalidNumber) "__setattr__" = some (some (.builtin "object.__setattr__")))
    (ex_InvalidNumber : PySem.W.subIn K (.ref InvalidNumber) (.type "BaseException") = some true)
    (ty_InvalidNumber : PySem.W.typeIn K (.ref InvalidNumber) = some (.type "type"))
    (kc_InvalidNumber : PySem.W.keepIn K (.ref InvalidNumber) = true)
    (in_InvalidNumber : PySem.W.findIn K (.ref InvalidNumber) "__init__" = some (some (.ref InvalidNumber___init__)))
    (ti_InvalidNumber : PySem.W.typeIn K (.ref InvalidNumber___init__) = some (.type "function"))
    (no_InvalidNumber : PySem.W.findIn K (.ref InvalidNumber) "value" = some none)
    (ga_InvalidNumber : PySem.W.findIn K (.ref InvalidNumber) "__getattribute__" = some (some (.builtin "BaseException.__getattribute__")))
    (gg_InvalidNumber : PySem.W.findIn K (.ref InvalidNumber) "__getattr__" = some none)
    (hd_InvalidNumber : PySem.W.hasDictIn K InvalidNumber = true)
    (ha_InvalidNumber : PySem.W.findIn K (.ref InvalidNumber) "__class__" = some (some (.builtin "object.__class__")))
    (hm_InvalidNumber : PySem.W.mroIn K InvalidNumber (.type "object") = some true)
    (ic_InvalidNumber : PySem.W.isClsIn K InvalidNumber = true)
    (xl_InvalidFacts : K.lookup InvalidFacts = some (excClassObj nm_InvalidFacts q_InvalidFacts InvalidFacts N_InvalidFacts bs_InvalidFacts [.ref RankError, .type "ValueError", .type "Exception", .type "BaseException", .type "object"] true sn_InvalidFacts sub_InvalidFacts ab_InvalidFacts col_InvalidFacts dd_InvalidFacts e0_InvalidFacts e1_InvalidFacts e2_InvalidFacts e3_InvalidFacts e5_InvalidFacts "ValueError.__new__"))
    (sa_InvalidFacts : PySem.W.findIn K (.ref InvalidFacts) "__setattr__" = some (some (.builtin "object.__setattr__")))
    (ex_InvalidFacts : PySem.W.subIn K (.ref InvalidFacts) (.type "BaseException") = some true)
    (ty_InvalidFacts : PySem.W.typeIn K (.ref InvalidFacts) = some (.type "type"))
    (kc_InvalidFacts : PySem.W.keepIn K (.ref InvalidFacts) = true)
    (in_InvalidFacts : PySem.W.findIn K (.ref InvalidFacts) "__init__" = some (some (.ref InvalidFacts___init__)))
    (ti_InvalidFacts : PySem.W.typeIn K (.ref InvalidFacts___init__) = some (.type "function"))
    (no_InvalidFacts : PySem.W.findIn K (.ref InvalidFacts) "value" = some none)
    (ga_InvalidFacts : PySem.W.findIn K (.ref InvalidFacts) "__getattribute__" = some (some (.builtin "BaseException.__getattribute__")))
    (gg_InvalidFacts : PySem.W.findIn K (.ref InvalidFacts) "__getattr__" = some none)
    (hd_InvalidFacts : PySem.W.hasDictIn K InvalidFacts = true)
    (ha_InvalidFacts : PySem.W.findIn K (.ref InvalidFacts) "__class__" = some (some (.builtin "object.__class__")))
    (hm_InvalidFacts : PySem.W.mroIn K InvalidFacts (.type "object") = some true)
    (ic_InvalidFacts : PySem.W.isClsIn K InvalidFacts = true)
    (xl_InvalidName : K.lookup InvalidName = some (excClassObj nm_InvalidName q_InvalidName InvalidName N_InvalidName bs_InvalidName [.ref RankError, .type "ValueError", .type "Exception", .type "BaseException", .type "object"] true sn_InvalidName sub_InvalidName ab_InvalidName col_InvalidName dd_InvalidName e0_InvalidName e1_InvalidName e2_InvalidName e3_InvalidName e5_InvalidName "ValueError.__new__"))
    (sa_InvalidName : PySem.W.findIn K (.ref InvalidName) "__setattr__" = some (some (.builtin "object.__setattr__")))
    (ex_InvalidName : PySem.W.subIn K (.ref InvalidName) (.type "BaseException") = some true)
    (ty_InvalidName : PySem.W.typeIn K (.ref InvalidName) = some (.type "type"))
    (kc_InvalidName : PySem.W.keepIn K (.ref InvalidName) = true)
    (in_InvalidName : PySem.W.findIn K (.ref InvalidName) "__init__" = some (some (.ref InvalidName___init__)))
    (ti_InvalidName : PySem.W.typeIn K (.ref InvalidName___init__) = some (.type "function"))
    (no_InvalidName : PySem.W.findIn K (.ref InvalidName) "value" = some none)
    (ga_InvalidName : PySem.W.findIn K (.ref InvalidName) "__getattribute__" = some (some (.builtin "BaseException.__getattribute__")))
    (gg_InvalidName : PySem.W.findIn K (.ref InvalidName) "__getattr__" = some none)
    (hd_InvalidName : PySem.W.hasDictIn K InvalidName = true)
    (ha_InvalidName : PySem.W.findIn K (.ref InvalidName) "__class__" = some (some (.builtin "object.__class__")))
    (hm_InvalidName : PySem.W.mroIn K InvalidName (.type "object") = some true)
    (ic_InvalidName : PySem.W.isClsIn K InvalidName = true)
    (xl_InvalidCommand : K.lookup InvalidCommand = some (excClassObj nm_InvalidCommand q_InvalidCommand InvalidCommand N_InvalidCommand bs_InvalidCommand [.ref RankError, .type "ValueError", .type "Exception", .type "BaseException", .type "object"] true sn_InvalidCommand sub_InvalidCommand ab_InvalidCommand col_InvalidCommand dd_InvalidCommand e0_InvalidCommand e1_InvalidCommand e2_InvalidCommand e3_InvalidCommand e5_InvalidCommand "ValueError.__new__"))
    (sa_InvalidCommand : PySem.W.findIn K (.ref InvalidCommand) "__setattr__" = some (some (.builtin "object.__setattr__")))
    (ex_InvalidCommand : PySem.W.subIn K (.ref InvalidCommand) (.type "BaseException") = some true)
    (ty_InvalidCommand : PySem.W.typeIn K (.ref InvalidCommand) = some (.type "type"))
    (kc_InvalidCommand : PySem.W.keepIn K (.ref InvalidCommand) = true)
    (in_InvalidCommand : PySem.W.findIn K (.ref InvalidCommand) "__init__" = some (some (.ref InvalidCommand___init__)))
    (ti_InvalidCommand : PySem.W.typeIn K (.ref InvalidCommand___init__) = some (.type "function"))
    (no_InvalidCommand : PySem.W.findIn K (.ref InvalidCommand) "value" = some none)
    (ga_InvalidCommand : PySem.W.findIn K (.ref InvalidCommand) "__getattribute__" = some (some (.builtin "BaseException.__getattribute__")))
    (gg_InvalidCommand : PySem.W.findIn K (.ref InvalidCommand) "__getattr__" = some none)
    (hd_InvalidCommand : PySem.W.hasDictIn K InvalidCommand = true)
    (ha_InvalidCommand : PySem.W.findIn K (.ref InvalidCommand) "__class__" = some (some (.builtin "object.__class__")))
    (hm_InvalidCommand : PySem.W.mroIn K InvalidCommand (.type "object") = some true)
    (ic_InvalidCommand : PySem.W.isClsIn K InvalidCommand = true)
    (xl_ParseError : K.lookup ParseError = some (excClassObj nm_ParseError q_ParseError ParseError N_ParseError bs_ParseError [.ref RankError, .type "ValueError", .type "Exception", .type "BaseException", .type "object"] true sn_ParseError sub_ParseError ab_ParseError col_ParseError dd_ParseError e0_ParseError e1_ParseError e2_ParseError e3_ParseError e5_ParseError "ValueError.__new__"))
    (sa_ParseError : PySem.W.findIn K (.ref ParseError) "__setattr__" = some (some (.builtin "object.__setattr__")))
    (ex_ParseError : PySem.W.subIn K (.ref ParseError) (.type "BaseException") = some true)
    (ty_ParseError : PySem.W.typeIn K (.ref ParseError) = some (.type "type"))
    (kc_ParseError : PySem.W.keepIn K (.ref ParseError) = true)
    (in_ParseError : PySem.W.findIn K (.ref ParseError) "__init__" = some (some (.ref ParseError___init__)))
    (ti_ParseError : PySem.W.typeIn K (.ref ParseError___init__) = some (.type "function"))
    (no_ParseError : PySem.W.findIn K (.ref ParseError) "line" = some none)
    (ga_ParseError : PySem.W.findIn K (.ref ParseError) "__getattribute__" = some (some (.builtin "BaseException.__getattribute__")))
    (gg_ParseError : PySem.W.findIn K (.ref ParseError) "__getattr__" = some none)
    (hd_ParseError : PySem.W.hasDictIn K ParseError = true)
    (ha_ParseError : PySem.W.findIn K (.ref ParseError) "__class__" = some (some (.builtin "object.__class__")))
    (hm_ParseError : PySem.W.mroIn K ParseError (.type "object") = some true)
    (ic_ParseError : PySem.W.isClsIn K ParseError = true)
    (xl_StepFailed : K.lookup StepFailed = some (excClassObj nm_StepFailed q_StepFailed StepFailed N_StepFailed bs_StepFailed [.type "RuntimeError", .type "Exception", .type "BaseException", .type "object"] true sn_StepFailed sub_StepFailed ab_StepFailed col_StepFailed dd_StepFailed e0_StepFailed e1_StepFailed e2_StepFailed e3_StepFailed e5_StepFailed "RuntimeError.__new__"))
    (sa_StepFailed : PySem.W.findIn K (.ref StepFailed) "__setattr__" = some (some (.builtin "object.__setattr__")))
    (ex_StepFailed : PySem.W.subIn K (.ref StepFailed) (.type "BaseException") = some true)
    (ty_StepFailed : PySem.W.typeIn K (.ref StepFailed) = some (.type "type"))
    (kc_StepFailed : PySem.W.keepIn K (.ref StepFailed) = true)
    (in_StepFailed : PySem.W.findIn K (.ref StepFailed) "__init__" = some (some (.ref StepFailed___init__)))
    (ti_StepFailed : PySem.W.typeIn K (.ref StepFailed___init__) = some (.type "function"))
    (no_StepFailed : PySem.W.findIn K (.ref StepFailed) "index" = some none)
    (ga_StepFailed : PySem.W.findIn K (.ref StepFailed) "__getattribute__" = some (some (.builtin "BaseException.__getattribute__")))
    (gg_StepFailed : PySem.W.findIn K (.ref StepFailed) "__getattr__" = some none)
    (hd_StepFailed : PySem.W.hasDictIn K StepFailed = true)
    (ha_StepFailed : PySem.W.findIn K (.ref StepFailed) "__class__" = some (some (.builtin "object.__class__")))
    (hm_StepFailed : PySem.W.mroIn K StepFailed (.type "object") = some true)
    (ic_StepFailed : PySem.W.isClsIn K StepFailed = true)
    (xl_LimitExceeded : K.lookup LimitExceeded = some (excClassObj nm_LimitExceeded q_LimitExceeded LimitExceeded N_LimitExceeded bs_LimitExceeded [.type "OverflowError", .type "ArithmeticError", .type "Exception", .type "BaseException", .type "object"] true sn_LimitExceeded sub_LimitExceeded ab_LimitExceeded col_LimitExceeded dd_LimitExceeded e0_LimitExceeded e1_LimitExceeded e2_LimitExceeded e3_LimitExceeded e5_LimitExceeded "OverflowError.__new__"))
    (sa_LimitExceeded : PySem.W.findIn K (.ref LimitExceeded) "__setattr__" = some (some (.builtin "object.__setattr__")))
    (ex_LimitExceeded : PySem.W.subIn K (.ref LimitExceeded) (.type "BaseException") = some true)
    (ty_LimitExceeded : PySem.W.typeIn K (.ref LimitExceeded) = some (.type "type"))
    (kc_LimitExceeded : PySem.W.keepIn K (.ref LimitExceeded) = true)
    (in_LimitExceeded : PySem.W.findIn K (.ref LimitExceeded) "__init__" = some (some (.ref LimitExceeded___init__)))
    (ti_LimitExceeded : PySem.W.typeIn K (.ref LimitExceeded___init__) = some (.type "function"))
    (no_LimitExceeded : PySem.W.findIn K (.ref LimitExceeded) "limit" = some none)
    (ga_LimitExceeded : PySem.W.findIn K (.ref LimitExceeded) "__getattribute__" = some (some (.builtin "BaseException.__getattribute__")))
    (gg_LimitExceeded : PySem.W.findIn K (.ref LimitExceeded) "__getattr__" = some none)
    (hd_LimitExceeded : PySem.W.hasDictIn K LimitExceeded = true)
    (ha_LimitExceeded : PySem.W.findIn K (.ref LimitExceeded) "__class__" = some (some (.builtin "object.__class__")))
    (hm_LimitExceeded : PySem.W.mroIn K LimitExceeded (.type "object") = some true)
    (ic_LimitExceeded : PySem.W.isClsIn K LimitExceeded = true)
    (xl_NothingToUndo : K.lookup NothingToUndo = some (excClassObj nm_NothingToUndo q_NothingToUndo NothingToUndo N_NothingToUndo bs_NothingToUndo [.type "LookupError", .type "Exception", .type "BaseException", .type "object"] true sn_NothingToUndo sub_NothingToUndo ab_NothingToUndo col_NothingToUndo dd_NothingToUndo e0_NothingToUndo e1_NothingToUndo e2_NothingToUndo e3_NothingToUndo e5_NothingToUndo "LookupError.__new__"))
    (sa_NothingToUndo : PySem.W.findIn K (.ref NothingToUndo) "__setattr__" = some (some (.builtin "object.__setattr__")))
    (ex_NothingToUndo : PySem.W.subIn K (.ref NothingToUndo) (.type "BaseException") = some true)
    (ty_NothingToUndo : PySem.W.typeIn K (.ref NothingToUndo) = some (.type "type"))
    (kc_NothingToUndo : PySem.W.keepIn K (.ref NothingToUndo) = true)
    (in_NothingToUndo : PySem.W.findIn K (.ref NothingToUndo) "__init__" = some (some (.ref NothingToUndo___init__)))
    (ti_NothingToUndo : PySem.W.typeIn K (.ref NothingToUndo___init__) = some (.type "function"))
    (no_NothingToUndo : PySem.W.findIn K (.ref NothingToUndo) "user" = some none)
    (ga_NothingToUndo : PySem.W.findIn K (.ref NothingToUndo) "__getattribute__" = some (some (.builtin "BaseException.__getattribute__")))
    (gg_NothingToUndo : PySem.W.findIn K (.ref NothingToUndo) "__getattr__" = some none)
    (hd_NothingToUndo : PySem.W.hasDictIn K NothingToUndo = true)
    (ha_NothingToUndo : PySem.W.findIn K (.ref NothingToUndo) "__class__" = some (some (.builtin "object.__class__")))
    (hm_NothingToUndo : PySem.W.mroIn K NothingToUndo (.type "object") = some true)
    (ic_NothingToUndo : PySem.W.isClsIn K NothingToUndo = true)
    (xl_NothingToRedo : K.lookup NothingToRedo = some (excClassObj nm_NothingToRedo q_NothingToRedo NothingToRedo N_NothingToRedo bs_NothingToRedo [.type "LookupError", .type "Exception", .type "BaseException", .type "object"] true sn_NothingToRedo sub_NothingToRedo ab_NothingToRedo col_NothingToRedo dd_NothingToRedo e0_NothingToRedo e1_NothingToRedo e2_NothingToRedo e3_NothingToRedo e5_NothingToRedo "LookupError.__new__"))
    (sa_NothingToRedo : PySem.W.findIn K (.ref NothingToRedo) "__setattr__" = some (some (.builtin "object.__setattr__")))
    (ex_NothingToRedo : PySem.W.subIn K (.ref NothingToRedo) (.type "BaseException") = some true)
    (ty_NothingToRedo : PySem.W.typeIn K (.ref NothingToRedo) = some (.type "type"))
    (kc_NothingToRedo : PySem.W.keepIn K (.ref NothingToRedo) = true)
    (in_NothingToRedo : PySem.W.findIn K (.ref NothingToRedo) "__init__" = some (some (.ref NothingToRedo___init__)))
    (ti_NothingToRedo : PySem.W.typeIn K (.ref NothingToRedo___init__) = some (.type "function"))
    (no_NothingToRedo : PySem.W.findIn K (.ref NothingToRedo) "user" = some none)
    (ga_NothingToRedo : PySem.W.findIn K (.ref NothingToRedo) "__getattribute__" = some (some (.builtin "BaseException.__getattribute__")))
    (gg_NothingToRedo : PySem.W.findIn K (.ref NothingToRedo) "__getattr__" = some none)
    (hd_NothingToRedo : PySem.W.hasDictIn K NothingToRedo = true)
    (ha_NothingToRedo : PySem.W.findIn K (.ref NothingToRedo) "__class__" = some (some (.builtin "object.__class__")))
    (hm_NothingToRedo : PySem.W.mroIn K NothingToRedo (.type "object") = some true)
    (ic_NothingToRedo : PySem.W.isClsIn K NothingToRedo = true)
    (l_InvalidList___init__ : K.lookup InvalidList___init__ = some ⟨oc_InvalidList___init__, od_InvalidList___init__, .func (PySem.W.fnOf "__init__" "InvalidList.__init__" (defArgs s_InvalidList___init__) (defBody s_InvalidList___init__) (defScope s_InvalidList___init__) .none kV_InvalidList___init__ dc_InvalidList___init__ pm_InvalidList___init__ an_InvalidList___init__ cd_InvalidList___init__ ct_InvalidList___init__), sl_InvalidList___init__⟩)
    (c_InvalidList___init__ : PySem.W.codeIn K cd_InvalidList___init__ "InvalidList.__init__" = true)
    (k_InvalidList___init__ : PySem.W.keepIn K (.ref InvalidList___init__) = true)
    (l_InvalidStep___init__ : K.lookup InvalidStep___init__ = some ⟨oc_InvalidStep___init__, od_InvalidStep___init__, .func (PySem.W.fnOf "__init__" "InvalidStep.__init__" (defArgs s_InvalidStep___init__) (defBody s_InvalidStep___init__) (defScope s_InvalidStep___init__) .none kV_InvalidStep___init__ dc_InvalidStep___init__ pm_InvalidStep___init__ an_InvalidStep___init__ cd_InvalidStep___init__ ct_InvalidStep___init__), sl_InvalidStep___init__⟩)
    (c_InvalidStep___init__ : PySem.W.codeIn K cd_InvalidStep___init__ "InvalidStep.__init__" = true)
    (k_InvalidStep___init__ : PySem.W.keepIn K (.ref InvalidStep___init__) = true)
    (l_InvalidTable___init__ : K.lookup InvalidTable___init__ = some ⟨oc_InvalidTable___init__, od_InvalidTable___init__, .func (PySem.W.fnOf "__init__" "InvalidTable.__init__" (defArgs s_InvalidTable___init__) (defBody s_InvalidTable___init__) (defScope s_InvalidTable___init__) .none kV_InvalidTable___init__ dc_InvalidTable___init__ pm_InvalidTable___init__ an_InvalidTable___init__ cd_InvalidTable___init__ ct_InvalidTable___init__), sl_InvalidTable___init__⟩)
    (c_InvalidTable___init__ : PySem.W.codeIn K cd_InvalidTable___init__ "InvalidTable.__init__" = true)
    (k_InvalidTable___init__ : PySem.W.keepIn K (.ref InvalidTable___init__) = true)
    (l_InvalidEffect___init__ : K.lookup InvalidEffect___init__ = some ⟨oc_InvalidEffect___init__, od_InvalidEffect___init__, .func (PySem.W.fnOf "__init__" "InvalidEffect.__init__" (defArgs s_InvalidEffect___init__) (defBody s_InvalidEffect___init__) (defScope s_InvalidEffect___init__) .none kV_InvalidEffect___init__ dc_InvalidEffect___init__ pm_InvalidEffect___init__ an_InvalidEffect___init__ cd_InvalidEffect___init__ ct_InvalidEffect___init__), sl_InvalidEffect___init__⟩)
    (c_InvalidEffect___init__ : PySem.W.codeIn K cd_InvalidEffect___init__ "InvalidEffect.__init__" = true)
    (k_InvalidEffect___init__ : PySem.W.keepIn K (.ref InvalidEffect___init__) = true)
    (l_InvalidNumber___init__ : K.lookup InvalidNumber___init__ = some ⟨oc_InvalidNumber___init__, od_InvalidNumber___init__, .func (PySem.W.fnOf "__init__" "InvalidNumber.__init__" (defArgs s_InvalidNumber___init__) (defBody s_InvalidNumber___init__) (defScope s_InvalidNumber___init__) .none kV_InvalidNumber___init__ dc_InvalidNumber___init__ pm_InvalidNumber___init__ an_InvalidNumber___init__ cd_InvalidNumber___init__ ct_InvalidNumber___init__), sl_InvalidNumber___init__⟩)
    (c_InvalidNumber___init__ : PySem.W.codeIn K cd_InvalidNumber___init__ "InvalidNumber.__init__" = true)
    (k_InvalidNumber___init__ : PySem.W.keepIn K (.ref InvalidNumber___init__) = true)
    (l_InvalidFacts___init__ : K.lookup InvalidFacts___init__ = some ⟨oc_InvalidFacts___init__, od_InvalidFacts___init__, .func (PySem.W.fnOf "__init__" "InvalidFacts.__init__" (defArgs s_InvalidFacts___init__) (defBody s_InvalidFacts___init__) (defScope s_InvalidFacts___init__) .none kV_InvalidFacts___init__ dc_InvalidFacts___init__ pm_InvalidFacts___init__ an_InvalidFacts___init__ cd_InvalidFacts___init__ ct_InvalidFacts___init__), sl_InvalidFacts___init__⟩)
    (c_InvalidFacts___init__ : PySem.W.codeIn K cd_InvalidFacts___init__ "InvalidFacts.__init__" = true)
    (k_InvalidFacts___init__ : PySem.W.keepIn K (.ref InvalidFacts___init__) = true)
    (l_InvalidName___init__ : K.lookup InvalidName___init__ = some ⟨oc_InvalidName___init__, od_InvalidName___init__, .func (PySem.W.fnOf "__init__" "InvalidName.__init__" (defArgs s_InvalidName___init__) (defBody s_InvalidName___init__) (defScope s_InvalidName___init__) .none kV_InvalidName___init__ dc_InvalidName___init__ pm_InvalidName___init__ an_InvalidName___init__ cd_InvalidName___init__ ct_InvalidName___init__), sl_InvalidName___init__⟩)
    (c_InvalidName___init__ : PySem.W.codeIn K cd_InvalidName___init__ "InvalidName.__init__" = true)
    (k_InvalidName___init__ : PySem.W.keepIn K (.ref InvalidName___init__) = true)
    (l_InvalidCommand___init__ : K.lookup InvalidCommand___init__ = some ⟨oc_InvalidCommand___init__, od_InvalidCommand___init__, .func (PySem.W.fnOf "__init__" "InvalidCommand.__init__" (defArgs s_InvalidCommand___init__) (defBody s_InvalidCommand___init__) (defScope s_InvalidCommand___init__) .none kV_InvalidCommand___init__ dc_InvalidCommand___init__ pm_InvalidCommand___init__ an_InvalidCommand___init__ cd_InvalidCommand___init__ ct_InvalidCommand___init__), sl_InvalidCommand___init__⟩)
    (c_InvalidCommand___init__ : PySem.W.codeIn K cd_InvalidCommand___init__ "InvalidCommand.__init__" = true)
    (k_InvalidCommand___init__ : PySem.W.keepIn K (.ref InvalidCommand___init__) = true)
    (l_ParseError___init__ : K.lookup ParseError___init__ = some ⟨oc_ParseError___init__, od_ParseError___init__, .func (PySem.W.fnOf "__init__" "ParseError.__init__" (defArgs s_ParseError___init__) (defBody s_ParseError___init__) (defScope s_ParseError___init__) .none kV_ParseError___init__ dc_ParseError___init__ pm_ParseError___init__ an_ParseError___init__ cd_ParseError___init__ ct_ParseError___init__), sl_ParseError___init__⟩)
    (c_ParseError___init__ : PySem.W.codeIn K cd_ParseError___init__ "ParseError.__init__" = true)
    (k_ParseError___init__ : PySem.W.keepIn K (.ref ParseError___init__) = true)
    (l_StepFailed___init__ : K.lookup StepFailed___init__ = some ⟨oc_StepFailed___init__, od_StepFailed___init__, .func (PySem.W.fnOf "__init__" "StepFailed.__init__" (defArgs s_StepFailed___init__) (defBody s_StepFailed___init__) (defScope s_StepFailed___init__) .none kV_StepFailed___init__ dc_StepFailed___init__ pm_StepFailed___init__ an_StepFailed___init__ cd_StepFailed___init__ ct_StepFailed___init__), sl_StepFailed___init__⟩)
    (c_StepFailed___init__ : PySem.W.codeIn K cd_StepFailed___init__ "StepFailed.__init__" = true)
    (k_StepFailed___init__ : PySem.W.keepIn K (.ref StepFailed___init__) = true)
    (l_LimitExceeded___init__ : K.lookup LimitExceeded___init__ = some ⟨oc_LimitExceeded___init__, od_LimitExceeded___init__, .func (PySem.W.fnOf "__init__" "LimitExceeded.__init__" (defArgs s_LimitExceeded___init__) (defBody s_LimitExceeded___init__) (defScope s_LimitExceeded___init__) .none kV_LimitExceeded___init__ dc_LimitExceeded___init__ pm_LimitExceeded___init__ an_LimitExceeded___init__ cd_LimitExceeded___init__ ct_LimitExceeded___init__), sl_LimitExceeded___init__⟩)
    (c_LimitExceeded___init__ : PySem.W.codeIn K cd_LimitExceeded___init__ "LimitExceeded.__init__" = true)
    (k_LimitExceeded___init__ : PySem.W.keepIn K (.ref LimitExceeded___init__) = true)
    (l_NothingToUndo___init__ : K.lookup NothingToUndo___init__ = some ⟨oc_NothingToUndo___init__, od_NothingToUndo___init__, .func (PySem.W.fnOf "__init__" "NothingToUndo.__init__" (defArgs s_NothingToUndo___init__) (defBody s_NothingToUndo___init__) (defScope s_NothingToUndo___init__) .none kV_NothingToUndo___init__ dc_NothingToUndo___init__ pm_NothingToUndo___init__ an_NothingToUndo___init__ cd_NothingToUndo___init__ ct_NothingToUndo___init__), sl_NothingToUndo___init__⟩)
    (c_NothingToUndo___init__ : PySem.W.codeIn K cd_NothingToUndo___init__ "NothingToUndo.__init__" = true)
    (k_NothingToUndo___init__ : PySem.W.keepIn K (.ref NothingToUndo___init__) = true)
    (l_NothingToRedo___init__ : K.lookup NothingToRedo___init__ = some ⟨oc_NothingToRedo___init__, od_NothingToRedo___init__, .func (PySem.W.fnOf "__init__" "NothingToRedo.__init__" (defArgs s_NothingToRedo___init__) (defBody s_NothingToRedo___init__) (defScope s_NothingToRedo___init__) .none kV_NothingToRedo___init__ dc_NothingToRedo___init__ pm_NothingToRedo___init__ an_NothingToRedo___init__ cd_NothingToRedo___init__ ct_NothingToRedo___init__), sl_NothingToRedo___init__⟩)
    (c_NothingToRedo___init__ : PySem.W.codeIn K cd_NothingToRedo___init__ "NothingToRedo.__init__" = true)
    (k_NothingToRedo___init__ : PySem.W.keepIn K (.ref NothingToRedo___init__) = true)
    (l_law_errors : K.lookup law_errors = some ⟨oc_law_errors, od_law_errors, .func (PySem.W.fnOf "_law_errors" "_law_errors" (defArgs s_law_errors) (defBody s_law_errors) (defScope s_law_errors) .none kV_law_errors dc_law_errors pm_law_errors an_law_errors cd_law_errors ct_law_errors), sl_law_errors⟩)
    (c_law_errors : PySem.W.codeIn K cd_law_errors "_law_errors" = true)
    (k_law_errors : PySem.W.keepIn K (.ref law_errors) = true)
    (l_law_named : K.lookup law_named = some ⟨oc_law_named, od_law_named, .func (PySem.W.fnOf "_law_named" "_law_named" (defArgs s_law_named) (defBody s_law_named) (defScope s_law_named) .none kV_law_named dc_law_named pm_law_named an_law_named cd_law_named ct_law_named), sl_law_named⟩)
    (c_law_named : PySem.W.codeIn K cd_law_named "_law_named" = true)
    (k_law_named : PySem.W.keepIn K (.ref law_named) = true)
    (l_law_kinds : K.lookup law_kinds = some ⟨oc_law_kinds, od_law_kinds, .func (PySem.W.fnOf "_law_kinds" "_law_kinds" (defArgs s_law_kinds) (defBody s_law_kinds) (defScope s_law_kinds) .none kV_law_kinds dc_law_kinds pm_law_kinds an_law_kinds cd_law_kinds ct_law_kinds), sl_law_kinds⟩)
    (c_law_kinds : PySem.W.codeIn K cd_law_kinds "_law_kinds" = true)
    (k_law_kinds : PySem.W.keepIn K (.ref law_kinds) = true)
    (l_law_fields : K.lookup law_fields = some ⟨oc_law_fields, od_law_fields, .func (PySem.W.fnOf "_law_fields" "_law_fields" (defArgs s_law_fields) (defBody s_law_fields) (defScope s_law_fields) .none kV_law_fields dc_law_fields pm_law_fields an_law_fields cd_law_fields ct_law_fields), sl_law_fields⟩)
    (c_law_fields : PySem.W.codeIn K cd_law_fields "_law_fields" = true)
    (k_law_fields : PySem.W.keepIn K (.ref law_fields) = true)
    (l_law : K.lookup law = some ⟨oc_law, od_law, .func (PySem.W.fnOf "law" "law" (defArgs s_law) (defBody s_law) (defScope s_law) .none kV_law dc_law pm_law an_law cd_law ct_law), sl_law⟩)
    (c_law : PySem.W.codeIn K cd_law "law" = true)
    (k_law : PySem.W.keepIn K (.ref law) = true)
    (hn : PySem.W.specialIn K (.builtin "object.__class__") "__get__" = some (some (.builtin "getset_descriptor.__get__")))
    (htk : PySem.W.takesIn K (.builtin "object.__class__") = some true)
    (nd : ([InvalidList, InvalidStep, InvalidTable, InvalidEffect, InvalidNumber, InvalidFacts, InvalidName, InvalidCommand, ParseError, StepFailed, LimitExceeded, NothingToUndo, NothingToRedo, RankError] : List Addr).Nodup)
    (ic_R : PySem.W.isClsIn K RankError = true)
    (ty_R : PySem.W.typeIn K (.ref RankError) = some (.type "type")) :
    ∀ base : Heap, K.In base → base.Ns mainGlobals mg → FnG l.prog w K mg base CX0 12 fa (spLaw K) := by
  have e := hfa.symm.trans (PySem.W.mg_of X G a_law)
  cases e
  have Mm : Mros K { InvalidList___init__ := InvalidList___init__, InvalidStep___init__ := InvalidStep___init__, InvalidTable___init__ := InvalidTable___init__, InvalidEffect___init__ := InvalidEffect___init__, InvalidNumber___init__ := InvalidNumber___init__, InvalidFacts___init__ := InvalidFacts___init__, InvalidName___init__ := InvalidName___init__, InvalidCommand___init__ := InvalidCommand___init__, ParseError___init__ := ParseError___init__, StepFailed___init__ := StepFailed___init__, LimitExceeded___init__ := LimitExceeded___init__, NothingToUndo___init__ := NothingToUndo___init__, NothingToRedo___init__ := NothingToRedo___init__, law_errors := law_errors, law_named := law_named, law_kinds := law_kinds, law_fields := law_fields, law := fa, InvalidList := InvalidList, RankError := RankError, InvalidStep := InvalidStep, InvalidTable := InvalidTable, InvalidEffect := InvalidEffect, InvalidNumber := InvalidNumber, InvalidFacts := InvalidFacts, InvalidName := InvalidName, InvalidCommand := InvalidCommand, ParseError := ParseError, StepFailed := StepFailed, LimitExceeded := LimitExceeded, NothingToUndo := NothingToUndo, NothingToRedo := NothingToRedo } := ⟨nd, all13 (p := fun i => ∀ b : Value, PySem.W.mroIn K (clsA _ i) b = some ((Value.ref (clsA _ i) :: bmA _ i).contains b)) ⟨mro_of xl_InvalidList, mro_of xl_InvalidStep, mro_of xl_InvalidTable, mro_of xl_InvalidEffect, mro_of xl_InvalidNumber, mro_of xl_InvalidFacts, mro_of xl_InvalidName, mro_of xl_InvalidCommand, mro_of xl_ParseError, mro_of xl_StepFailed, mro_of xl_LimitExceeded, mro_of xl_NothingToUndo, mro_of xl_NothingToRedo⟩, all13 (p := fun i => PySem.W.isClsIn K (clsA _ i) = true) ⟨ic_InvalidList, ic_InvalidStep, ic_InvalidTable, ic_InvalidEffect, ic_InvalidNumber, ic_InvalidFacts, ic_InvalidName, ic_InvalidCommand, ic_ParseError, ic_StepFailed, ic_LimitExceeded, ic_NothingToUndo, ic_NothingToRedo⟩, all13 (p := fun i => PySem.W.typeIn K (.ref (clsA _ i)) = some (.type "type")) ⟨ty_InvalidList, ty_InvalidStep, ty_InvalidTable, ty_InvalidEffect, ty_InvalidNumber, ty_InvalidFacts, ty_InvalidName, ty_InvalidCommand, ty_ParseError, ty_StepFailed, ty_LimitExceeded, ty_NothingToUndo, ty_NothingToRedo⟩, ic_R, ty_R⟩
  have T : Txt K mg { InvalidList___init__ := InvalidList___init__, InvalidStep___init__ := InvalidStep___init__, InvalidTable___init__ := InvalidTable___init__, InvalidEffect___init__ := InvalidEffect___init__, InvalidNumber___init__ := InvalidNumber___init__, InvalidFacts___init__ := InvalidFacts___init__, InvalidName___init__ := InvalidName___init__, InvalidCommand___init__ := InvalidCommand___init__, ParseError___init__ := ParseError___init__, StepFailed___init__ := StepFailed___init__, LimitExceeded___init__ := LimitExceeded___init__, NothingToUndo___init__ := NothingToUndo___init__, NothingToRedo___init__ := NothingToRedo___init__, law_errors := law_errors, law_named := law_named, law_kinds := law_kinds, law_fields := law_fields, law := fa, InvalidList := InvalidList, RankError := RankError, InvalidStep := InvalidStep, InvalidTable := InvalidTable, InvalidEffect := InvalidEffect, InvalidNumber := InvalidNumber, InvalidFacts := InvalidFacts, InvalidName := InvalidName, InvalidCommand := InvalidCommand, ParseError := ParseError, StepFailed := StepFailed, LimitExceeded := LimitExceeded, NothingToUndo := NothingToUndo, NothingToRedo := NothingToRedo } :=
    { F_InvalidList___init__ := ⟨_, fun_mk (st := s_InvalidList___init__) l_InvalidList___init__ c_InvalidList___init__ k_InvalidList___init__⟩,
      F_InvalidStep___init__ := ⟨_, fun_mk (st := s_InvalidStep___init__) l_InvalidStep___init__ c_InvalidStep___init__ k_InvalidStep___init__⟩,
      F_InvalidTable___init__ := ⟨_, fun_mk (st := s_InvalidTable___init__) l_InvalidTable___init__ c_InvalidTable___init__ k_InvalidTable___init__⟩,
      F_InvalidEffect___init__ := ⟨_, fun_mk (st := s_InvalidEffect___init__) l_InvalidEffect___init__ c_InvalidEffect___init__ k_InvalidEffect___init__⟩,
      F_InvalidNumber___init__ := ⟨_, fun_mk (st := s_InvalidNumber___init__) l_InvalidNumber___init__ c_InvalidNumber___init__ k_InvalidNumber___init__⟩,
      F_InvalidFacts___init__ := ⟨_, fun_mk (st := s_InvalidFacts___init__) l_InvalidFacts___init__ c_InvalidFacts___init__ k_InvalidFacts___init__⟩,
      F_InvalidName___init__ := ⟨_, fun_mk (st := s_InvalidName___init__) l_InvalidName___init__ c_InvalidName___init__ k_InvalidName___init__⟩,
      F_InvalidCommand___init__ := ⟨_, fun_mk (st := s_InvalidCommand___init__) l_InvalidCommand___init__ c_InvalidCommand___init__ k_InvalidCommand___init__⟩,
      F_ParseError___init__ := ⟨_, fun_mk (st := s_ParseError___init__) l_ParseError___init__ c_ParseError___init__ k_ParseError___init__⟩,
      F_StepFailed___init__ := ⟨_, fun_mk (st := s_StepFailed___init__) l_StepFailed___init__ c_StepFailed___init__ k_StepFailed___init__⟩,
      F_LimitExceeded___init__ := ⟨_, fun_mk (st := s_LimitExceeded___init__) l_LimitExceeded___init__ c_LimitExceeded___init__ k_LimitExceeded___init__⟩,
      F_NothingToUndo___init__ := ⟨_, fun_mk (st := s_NothingToUndo___init__) l_NothingToUndo___init__ c_NothingToUndo___init__ k_NothingToUndo___init__⟩,
      F_NothingToRedo___init__ := ⟨_, fun_mk (st := s_NothingToRedo___init__) l_NothingToRedo___init__ c_NothingToRedo___init__ k_NothingToRedo___init__⟩,
      g_law_errors := PySem.W.mg_of X G a_law_errors,
      k_law_errors := k_law_errors,
      F_law_errors := ⟨_, fun_mk (st := s_law_errors) l_law_errors c_law_errors k_law_errors⟩,
      g_law_named := PySem.W.mg_of X G a_law_named,
      k_law_named := k_law_named,
      F_law_named := ⟨_, fun_mk (st := s_law_named) l_law_named c_law_named k_law_named⟩,
      g_law_kinds := PySem.W.mg_of X G a_law_kinds,
      k_law_kinds := k_law_kinds,
      F_law_kinds := ⟨_, fun_mk (st := s_law_kinds) l_law_kinds c_law_kinds k_law_kinds⟩,
      g_law_fields := PySem.W.mg_of X G a_law_fields,
      k_law_fields := k_law_fields,
      F_law_fields := ⟨_, fun_mk (st := s_law_fields) l_law_fields c_law_fields k_law_fields⟩,
      g_law := PySem.W.mg_of X G a_law,
      k_law := k_law,
      F_law := ⟨_, fun_mk (st := s_law) l_law c_law k_law⟩,
      g_InvalidList := PySem.W.mg_of X G a_InvalidList,
      g_RankError := PySem.W.mg_of X G a_RankError,
      g_InvalidStep := PySem.W.mg_of X G a_InvalidStep,
      g_InvalidTable := PySem.W.mg_of X G a_InvalidTable,
      g_InvalidEffect := PySem.W.mg_of X G a_InvalidEffect,
      g_InvalidNumber := PySem.W.mg_of X G a_InvalidNumber,
      g_InvalidFacts := PySem.W.mg_of X G a_InvalidFacts,
      g_InvalidName := PySem.W.mg_of X G a_InvalidName,
      g_InvalidCommand := PySem.W.mg_of X G a_InvalidCommand,
      g_ParseError := PySem.W.mg_of X G a_ParseError,
      g_StepFailed := PySem.W.mg_of X G a_StepFailed,
      g_LimitExceeded := PySem.W.mg_of X G a_LimitExceeded,
      g_NothingToUndo := PySem.W.mg_of X G a_NothingToUndo,
      g_NothingToRedo := PySem.W.mg_of X G a_NothingToRedo,
      b_list := PySem.W.mg_none_of X G z_list,
      b_isinstance := PySem.W.mg_none_of X G z_isinstance,
      b_enumerate := PySem.W.mg_none_of X G z_enumerate,
      b_ValueError := PySem.W.mg_none_of X G z_ValueError,
      b_RuntimeError := PySem.W.mg_none_of X G z_RuntimeError,
      b_OverflowError := PySem.W.mg_none_of X G z_OverflowError,
      b_LookupError := PySem.W.mg_none_of X G z_LookupError,
      e_InvalidList := ⟨bx_Value, ⟨⟨_, _, _, _, [RankError], _, _, _, _, _, _, _, _, _, _, xl_InvalidList⟩, sa_InvalidList, ex_InvalidList, ty_InvalidList, kc_InvalidList⟩, in_InvalidList, ti_InvalidList, no_InvalidList, ga_InvalidList, gg_InvalidList, hd_InvalidList, ha_InvalidList, hn, htk, hm_InvalidList⟩,
      e_InvalidStep := ⟨bx_Value, ⟨⟨_, _, _, _, [RankError], _, _, _, _, _, _, _, _, _, _, xl_InvalidStep⟩, sa_InvalidStep, ex_InvalidStep, ty_InvalidStep, kc_InvalidStep⟩, in_InvalidStep, ti_InvalidStep, no_InvalidStep, ga_InvalidStep, gg_InvalidStep, hd_InvalidStep, ha_InvalidStep, hn, htk, hm_InvalidStep⟩,
      e_InvalidTable := ⟨bx_Value, ⟨⟨_, _, _, _, [RankError], _, _, _, _, _, _, _, _, _, _, xl_InvalidTable⟩, sa_InvalidTable, ex_InvalidTable, ty_InvalidTable, kc_InvalidTable⟩, in_InvalidTable, ti_InvalidTable, no_InvalidTable, ga_InvalidTable, gg_InvalidTable, hd_InvalidTable, ha_InvalidTable, hn, htk, hm_InvalidTable⟩,
      e_InvalidEffect := ⟨bx_Value, ⟨⟨_, _, _, _, [RankError], _, _, _, _, _, _, _, _, _, _, xl_InvalidEffect⟩, sa_InvalidEffect, ex_InvalidEffect, ty_InvalidEffect, kc_InvalidEffect⟩, in_InvalidEffect, ti_InvalidEffect, no_InvalidEffect, ga_InvalidEffect, gg_InvalidEffect, hd_InvalidEffect, ha_InvalidEffect, hn, htk, hm_InvalidEffect⟩,
      e_InvalidNumber := ⟨bx_Value, ⟨⟨_, _, _, _, [RankError], _, _, _, _, _, _, _, _, _, _, xl_InvalidNumber⟩, sa_InvalidNumber, ex_InvalidNumber, ty_InvalidNumber, kc_InvalidNumber⟩, in_InvalidNumber, ti_InvalidNumber, no_InvalidNumber, ga_InvalidNumber, gg_InvalidNumber, hd_InvalidNumber, ha_InvalidNumber, hn, htk, hm_InvalidNumber⟩,
      e_InvalidFacts := ⟨bx_Value, ⟨⟨_, _, _, _, [RankError], _, _, _, _, _, _, _, _, _, _, xl_InvalidFacts⟩, sa_InvalidFacts, ex_InvalidFacts, ty_InvalidFacts, kc_InvalidFacts⟩, in_InvalidFacts, ti_InvalidFacts, no_InvalidFacts, ga_InvalidFacts, gg_InvalidFacts, hd_InvalidFacts, ha_InvalidFacts, hn, htk, hm_InvalidFacts⟩,
      e_InvalidName := ⟨bx_Value, ⟨⟨_, _, _, _, [RankError], _, _, _, _, _, _, _, _, _, _, xl_InvalidName⟩, sa_InvalidName, ex_InvalidName, ty_InvalidName, kc_InvalidName⟩, in_InvalidName, ti_InvalidName, no_InvalidName, ga_InvalidName, gg_InvalidName, hd_InvalidName, ha_InvalidName, hn, htk, hm_InvalidName⟩,
      e_InvalidCommand := ⟨bx_Value, ⟨⟨_, _, _, _, [RankError], _, _, _, _, _, _, _, _, _, _, xl_InvalidCommand⟩, sa_InvalidCommand, ex_InvalidCommand, ty_InvalidCommand, kc_InvalidCommand⟩, in_InvalidCommand, ti_InvalidCommand, no_InvalidCommand, ga_InvalidCommand, gg_InvalidCommand, hd_InvalidCommand, ha_InvalidCommand, hn, htk, hm_InvalidCommand⟩,
      e_ParseError := ⟨bx_Value, ⟨⟨_, _, _, _, [RankError], _, _, _, _, _, _, _, _, _, _, xl_ParseError⟩, sa_ParseError, ex_ParseError, ty_ParseError, kc_ParseError⟩, in_ParseError, ti_ParseError, no_ParseError, ga_ParseError, gg_ParseError, hd_ParseError, ha_ParseError, hn, htk, hm_ParseError⟩,
      e_StepFailed := ⟨bx_Runtime, ⟨⟨_, _, _, _, [], _, _, _, _, _, _, _, _, _, _, xl_StepFailed⟩, sa_StepFailed, ex_StepFailed, ty_StepFailed, kc_StepFailed⟩, in_StepFailed, ti_StepFailed, no_StepFailed, ga_StepFailed, gg_StepFailed, hd_StepFailed, ha_StepFailed, hn, htk, hm_StepFailed⟩,
      e_LimitExceeded := ⟨bx_Overflow, ⟨⟨_, _, _, _, [], _, _, _, _, _, _, _, _, _, _, xl_LimitExceeded⟩, sa_LimitExceeded, ex_LimitExceeded, ty_LimitExceeded, kc_LimitExceeded⟩, in_LimitExceeded, ti_LimitExceeded, no_LimitExceeded, ga_LimitExceeded, gg_LimitExceeded, hd_LimitExceeded, ha_LimitExceeded, hn, htk, hm_LimitExceeded⟩,
      e_NothingToUndo := ⟨bx_Lookup, ⟨⟨_, _, _, _, [], _, _, _, _, _, _, _, _, _, _, xl_NothingToUndo⟩, sa_NothingToUndo, ex_NothingToUndo, ty_NothingToUndo, kc_NothingToUndo⟩, in_NothingToUndo, ti_NothingToUndo, no_NothingToUndo, ga_NothingToUndo, gg_NothingToUndo, hd_NothingToUndo, ha_NothingToUndo, hn, htk, hm_NothingToUndo⟩,
      e_NothingToRedo := ⟨bx_Lookup, ⟨⟨_, _, _, _, [], _, _, _, _, _, _, _, _, _, _, xl_NothingToRedo⟩, sa_NothingToRedo, ex_NothingToRedo, ty_NothingToRedo, kc_NothingToRedo⟩, in_NothingToRedo, ti_NothingToRedo, no_NothingToRedo, ga_NothingToRedo, gg_NothingToRedo, hd_NothingToRedo, ha_NothingToRedo, hn, htk, hm_NothingToRedo⟩,
      kit := (Mm).kit,
      kitR := fun i hi => kit_r (injR (Mm).nd hi) ic_R ty_R ((Mm).mro i hi _) (bm_rank hi),
      kitV := fun i hi => kit_t (by decide +kernel) ((Mm).mro i hi _) (bm_V hi),
      kitRt := fun i hi => kit_t (by decide +kernel) ((Mm).mro i hi _) (bm_R hi),
      kitO := fun i hi => kit_t (by decide +kernel) ((Mm).mro i hi _) (bm_O hi),
      kitL := fun i hi => kit_t (by decide +kernel) ((Mm).mro i hi _) (bm_L hi) }
  exact fun base _ _ => ok_law T (fun_mk (st := s_law) l_law c_law k_law)
theorem walk {l : PySem.W.OpenLaw} {q : Program} {loose : List Str} {XP : (Str → Option Value) → Heap → Prop} {YP : World → Heap → Prop} {d : DefRec} {K : Params → PySem.W.Frag} (hn : l.most = some 63) (hdf : d.params.defaults = [])
    (hY : ∀ (w : World) (h : Heap), YP w h → (K w.params).In h)
    (F : ∀ (w : World) (mg : Str → Option Value) (fa : Addr) (h : Heap), (K w.params).In h → h.Ns mainGlobals mg → mg d.name = some (.ref fa) →
      ∀ base : Heap, (K w.params).In base → base.Ns mainGlobals mg → FnG l.prog w (K w.params) mg base CX0 12 fa (spLaw (K w.params))) :
    PySem.W.WalkO q loose XP YP l.row.toRowW d [] (fun f vs => PySem.call f vs) :=
  walkG (n := 63) (k := 12) (CX := fun _ => CX0) (sp := fun w => spLaw (K w.params)) hn (by decide) hdf ⟨rfl, by decide, by decide⟩ hY F (fun _ _ a ns hl _ hS => ⟨a, ns, rfl, hS, hl, fun _ => rfl⟩) fun _ _ _ _ _ z => z
end
end K04
open PySem PySem.W PyProof.Rows
set_option maxRecDepth 100000 in
set_option maxHeartbeats 0 in
theorem PySem.Challenge.cw_rankeffect_k04_error_classes_holds : PySem.Challenge.rw_rankeffect_k04_error_classes.Holds := by
  w_on; o_law; k_head; (case hw => w_witness2)
  k_fill
  refine K04.walk (l := PySem.Challenge.rw_rankeffect_k04_error_classes) rfl rfl (fun w h Y => PySem.W.kIn_of Y) ?F
  case F =>
    intro w mg fa h KX G hmg
    refine' K04.all_mk KX G hmg ?a_law_errors ?a_law_named ?a_law_kinds ?a_law_fields ?a_law ?a_InvalidList ?a_RankError ?a_InvalidStep ?a_InvalidTable ?a_InvalidEffect ?a_InvalidNumber ?a_InvalidFacts ?a_InvalidName ?a_InvalidCommand ?a_ParseError ?a_StepFailed ?a_LimitExceeded ?a_NothingToUndo ?a_NothingToRedo ?z_list ?z_isinstance ?z_enumerate ?z_ValueError ?z_RuntimeError ?z_OverflowError ?z_LookupError ?xl_InvalidList ?sa_InvalidList ?ex_InvalidList ?ty_InvalidList ?kc_InvalidList ?in_InvalidList ?ti_InvalidList ?no_InvalidList ?ga_InvalidList ?gg_InvalidList ?hd_InvalidList ?ha_InvalidList ?hm_InvalidList ?ic_InvalidList ?xl_InvalidStep ?sa_InvalidStep ?ex_InvalidStep ?ty_InvalidStep ?kc_InvalidStep ?in_InvalidStep ?ti_InvalidStep ?no_InvalidStep ?ga_InvalidStep ?gg_InvalidStep ?hd_InvalidStep ?ha_InvalidStep ?hm_InvalidStep ?ic_InvalidStep ?xl_InvalidTable ?sa_InvalidTable ?ex_InvalidTable ?ty_InvalidTable ?kc_InvalidTable ?in_InvalidTable ?ti_InvalidTable ?no_InvalidTable ?ga_InvalidTable ?gg_InvalidTable ?hd_InvalidTable ?ha_InvalidTable ?hm_InvalidTable ?ic_InvalidTable ?xl_InvalidEffect ?sa_InvalidEffect ?ex_InvalidEffect ?ty_InvalidEffect ?kc_InvalidEffect ?in_InvalidEffect ?ti_InvalidEffect ?no_InvalidEffect ?ga_InvalidEffect ?gg_InvalidEffect ?hd_InvalidEffect ?ha_InvalidEffect ?hm_InvalidEffect ?ic_InvalidEffect ?xl_InvalidNumber ?sa_InvalidNumber ?ex_InvalidNumber ?ty_InvalidNumber ?kc_InvalidNumber ?in_InvalidNumber ?ti_InvalidNumber ?no_InvalidNumber ?ga_InvalidNumber ?gg_InvalidNumber ?hd_InvalidNumber ?ha_InvalidNumber ?hm_InvalidNumber ?ic_InvalidNumber ?xl_InvalidFacts ?sa_InvalidFacts ?ex_InvalidFacts ?ty_InvalidFacts ?kc_InvalidFacts ?in_InvalidFacts ?ti_InvalidFacts ?no_InvalidFacts ?ga_InvalidFacts ?gg_InvalidFacts ?hd_InvalidFacts ?ha_InvalidFacts ?hm_InvalidFacts ?ic_InvalidFacts ?xl_InvalidName ?sa_InvalidName ?ex_InvalidName ?ty_InvalidName ?kc_InvalidName ?in_InvalidName ?ti_InvalidName ?no_InvalidName ?ga_InvalidName ?gg_InvalidName ?hd_InvalidName ?ha_InvalidName ?hm_InvalidName ?ic_InvalidName ?xl_InvalidCommand ?sa_InvalidCommand ?ex_InvalidCommand ?ty_InvalidCommand ?kc_InvalidCommand ?in_InvalidCommand ?ti_InvalidCommand ?no_InvalidCommand ?ga_InvalidCommand ?gg_InvalidCommand ?hd_InvalidCommand ?ha_InvalidCommand ?hm_InvalidCommand ?ic_InvalidCommand ?xl_ParseError ?sa_ParseError ?ex_ParseError ?ty_ParseError ?kc_ParseError ?in_ParseError ?ti_ParseError ?no_ParseError ?ga_ParseError ?gg_ParseError ?hd_ParseError ?ha_ParseError ?hm_ParseError ?ic_ParseError ?xl_StepFailed ?sa_StepFailed ?ex_StepFailed ?ty_StepFailed ?kc_StepFailed ?in_StepFailed ?ti_StepFailed ?no_StepFailed ?ga_StepFailed ?gg_StepFailed ?hd_StepFailed ?ha_StepFailed ?hm_StepFailed ?ic_StepFailed ?xl_LimitExceeded ?sa_LimitExceeded ?ex_LimitExceeded ?ty_LimitExceeded ?kc_LimitExceeded ?in_LimitExceeded ?ti_LimitExceeded ?no_LimitExceeded ?ga_LimitExceeded ?gg_LimitExceeded ?hd_LimitExceeded ?ha_LimitExceeded ?hm_LimitExceeded ?ic_LimitExceeded ?xl_NothingToUndo ?sa_NothingToUndo ?ex_NothingToUndo ?ty_NothingToUndo ?kc_NothingToUndo ?in_NothingToUndo ?ti_NothingToUndo ?no_NothingToUndo ?ga_NothingToUndo ?gg_NothingToUndo ?hd_NothingToUndo ?ha_NothingToUndo ?hm_NothingToUndo ?ic_NothingToUndo ?xl_NothingToRedo ?sa_NothingToRedo ?ex_NothingToRedo ?ty_NothingToRedo ?kc_NothingToRedo ?in_NothingToRedo ?ti_NothingToRedo ?no_NothingToRedo ?ga_NothingToRedo ?gg_NothingToRedo ?hd_NothingToRedo ?ha_NothingToRedo ?hm_NothingToRedo ?ic_NothingToRedo ?l_InvalidList___init__ ?c_InvalidList___init__ ?k_InvalidList___init__ ?l_InvalidStep___init__ ?c_InvalidStep___init__ ?k_InvalidStep___init__ ?l_InvalidTable___init__ ?c_InvalidTable___init__ ?k_InvalidTable___init__ ?l_InvalidEffect___init__ ?c_InvalidEffect___init__ ?k_InvalidEffect___init__ ?l_InvalidNumber___init__ ?c_InvalidNumber___init__ ?k_InvalidNumber___init__ ?l_InvalidFacts___init__ ?c_InvalidFacts___init__ ?k_InvalidFacts___init__ ?l_InvalidName___init__ ?c_InvalidName___init__ ?k_InvalidName___init__ ?l_InvalidCommand___init__ ?c_InvalidCommand___init__ ?k_InvalidCommand___init__ ?l_ParseError___init__ ?c_ParseError___init__ ?k_ParseError___init__ ?l_StepFailed___init__ ?c_StepFailed___init__ ?k_StepFailed___init__ ?l_LimitExceeded___init__ ?c_LimitExceeded___init__ ?k_LimitExceeded___init__ ?l_NothingToUndo___init__ ?c_NothingToUndo___init__ ?k_NothingToUndo___init__ ?l_NothingToRedo___init__ ?c_NothingToRedo___init__ ?k_NothingToRedo___init__ ?l_law_errors ?c_law_errors ?k_law_errors ?l_law_named ?c_law_named ?k_law_named ?l_law_kinds ?c_law_kinds ?k_law_kinds ?l_law_fields ?c_law_fields ?k_law_fields ?l_law ?c_law ?k_law ?hn ?htk ?nd ?ic_R ?ty_R
    (case a_law_errors => first | k_is | rfl)
    (case a_law_named => first | k_is | rfl)
    (case a_law_kinds => first | k_is | rfl)
    (case a_law_fields => first | k_is | rfl)
    (case a_law => first | k_is | rfl)
    (case a_InvalidList => first | k_is | rfl)
    (case a_RankError => first | k_is | rfl)
    (case a_InvalidStep => first | k_is | rfl)
    (case a_InvalidTable => first | k_is | rfl)
    (case a_InvalidEffect => first | k_is | rfl)
    (case a_InvalidNumber => first | k_is | rfl)
    (case a_InvalidFacts => first | k_is | rfl)
    (case a_InvalidName => first | k_is | rfl)
    (case a_InvalidCommand => first | k_is | rfl)
    (case a_ParseError => first | k_is | rfl)
    (case a_StepFailed => first | k_is | rfl)
    (case a_LimitExceeded => first | k_is | rfl)
    (case a_NothingToUndo => first | k_is | rfl)
    (case a_NothingToRedo => first | k_is | rfl)
    (case z_list => first | k_is | rfl)
    (case z_isinstance => first | k_is | rfl)
    (case z_enumerate => first | k_is | rfl)
    (case z_ValueError => first | k_is | rfl)
    (case z_RuntimeError => first | k_is | rfl)
    (case z_OverflowError => first | k_is | rfl)
    (case z_LookupError => first | k_is | rfl)
    (case xl_InvalidList => first | k_is | rfl)
    (case sa_InvalidList => first | k_is | rfl)
    (case ex_InvalidList => first | k_is | rfl)
    (case ty_InvalidList => first | k_is | rfl)
    (case kc_InvalidList => first | k_is | rfl)
    (case in_InvalidList => first | k_is | rfl)
    (case ti_InvalidList => first | k_is | rfl)
    (case no_InvalidList => first | k_is | rfl)
    (case ga_InvalidList => first | k_is | rfl)
    (case gg_InvalidList => first | k_is | rfl)
    (case hd_InvalidList => first | k_is | rfl)
    (case ha_InvalidList => first | k_is | rfl)
    (case hm_InvalidList => first | k_is | rfl)
    (case ic_InvalidList => first | k_is | rfl)
    (case xl_InvalidStep => first | k_is | rfl)
    (case sa_InvalidStep => first | k_is | rfl)
    (case ex_InvalidStep => first | k_is | rfl)
    (case ty_InvalidStep => first | k_is | rfl)
    (case kc_InvalidStep => first | k_is | rfl)
    (case in_InvalidStep => first | k_is | rfl)
    (case ti_InvalidStep => first | k_is | rfl)
    (case no_InvalidStep => first | k_is | rfl)
    (case ga_InvalidStep => first | k_is | rfl)
    (case gg_InvalidStep => first | k_is | rfl)
    (case hd_InvalidStep => first | k_is | rfl)
    (case ha_InvalidStep => first | k_is | rfl)
    (case hm_InvalidStep => first | k_is | rfl)
    (case ic_InvalidStep => first | k_is | rfl)
    (case xl_InvalidTable => first | k_is | rfl)
    (case sa_InvalidTable => first | k_is | rfl)
    (case ex_InvalidTable => first | k_is | rfl)
    (case ty_InvalidTable => first | k_is | rfl)
    (case kc_InvalidTable => first | k_is | rfl)
    (case in_InvalidTable => first | k_is | rfl)
    (case ti_InvalidTable => first | k_is | rfl)
    (case no_InvalidTable => first | k_is | rfl)
    (case ga_InvalidTable => first | k_is | rfl)
    (case gg_InvalidTable => first | k_is | rfl)
    (case hd_InvalidTable => first | k_is | rfl)
    (case ha_InvalidTable => first | k_is | rfl)
    (case hm_InvalidTable => first | k_is | rfl)
    (case ic_InvalidTable => first | k_is | rfl)
    (case xl_InvalidEffect => first | k_is | rfl)
    (case sa_InvalidEffect => first | k_is | rfl)
    (case ex_InvalidEffect => first | k_is | rfl)
    (case ty_InvalidEffect => first | k_is | rfl)
    (case kc_InvalidEffect => first | k_is | rfl)
    (case in_InvalidEffect => first | k_is | rfl)
    (case ti_InvalidEffect => first | k_is | rfl)
    (case no_InvalidEffect => first | k_is | rfl)
    (case ga_InvalidEffect => first | k_is | rfl)
    (case gg_InvalidEffect => first | k_is | rfl)
    (case hd_InvalidEffect => first | k_is | rfl)
    (case ha_InvalidEffect => first | k_is | rfl)
    (case hm_InvalidEffect => first | k_is | rfl)
    (case ic_InvalidEffect => first | k_is | rfl)
    (case xl_InvalidNumber => first | k_is | rfl)
    (case sa_InvalidNumber => first | k_is | rfl)
    (case ex_InvalidNumber => first | k_is | rfl)
    (case ty_InvalidNumber => first | k_is | rfl)
    (case kc_InvalidNumber => first | k_is | rfl)
    (case in_InvalidNumber => first | k_is | rfl)
    (case ti_InvalidNumber => first | k_is | rfl)
    (case no_InvalidNumber => first | k_is | rfl)
    (case ga_InvalidNumber => first | k_is | rfl)
    (case gg_InvalidNumber => first | k_is | rfl)
    (case hd_InvalidNumber => first | k_is | rfl)
    (case ha_InvalidNumber => first | k_is | rfl)
    (case hm_InvalidNumber => first | k_is | rfl)
    (case ic_InvalidNumber => first | k_is | rfl)
    (case xl_InvalidFacts => first | k_is | rfl)
    (case sa_InvalidFacts => first | k_is | rfl)
    (case ex_InvalidFacts => first | k_is | rfl)
    (case ty_InvalidFacts => first | k_is | rfl)
    (case kc_InvalidFacts => first | k_is | rfl)
    (case in_InvalidFacts => first | k_is | rfl)
    (case ti_InvalidFacts => first | k_is | rfl)
    (case no_InvalidFacts => first | k_is | rfl)
    (case ga_InvalidFacts => first | k_is | rfl)
    (case gg_InvalidFacts => first | k_is | rfl)
    (case hd_InvalidFacts => first | k_is | rfl)
    (case ha_InvalidFacts => first | k_is | rfl)
    (case hm_InvalidFacts => first | k_is | rfl)
    (case ic_InvalidFacts => first | k_is | rfl)
    (case xl_InvalidName => first | k_is | rfl)
    (case sa_InvalidName => first | k_is | rfl)
    (case ex_InvalidName => first | k_is | rfl)
    (case ty_InvalidName => first | k_is | rfl)
    (case kc_InvalidName => first | k_is | rfl)
    (case in_InvalidName => first | k_is | rfl)
    (case ti_InvalidName => first | k_is | rfl)
    (case no_InvalidName => first | k_is | rfl)
    (case ga_InvalidName => first | k_is | rfl)
    (case gg_InvalidName => first | k_is | rfl)
    (case hd_InvalidName => first | k_is | rfl)
    (case ha_InvalidName => first | k_is | rfl)
    (case hm_InvalidName => first | k_is | rfl)
    (case ic_InvalidName => first | k_is | rfl)
    (case xl_InvalidCommand => first | k_is | rfl)
    (case sa_InvalidCommand => first | k_is | rfl)
    (case ex_InvalidCommand => first | k_is | rfl)
    (case ty_InvalidCommand => first | k_is | rfl)
    (case kc_InvalidCommand => first | k_is | rfl)
    (case in_InvalidCommand => first | k_is | rfl)
    (case ti_InvalidCommand => first | k_is | rfl)
    (case no_InvalidCommand => first | k_is | rfl)
    (case ga_InvalidCommand => first | k_is | rfl)
    (case gg_InvalidCommand => first | k_is | rfl)
    (case hd_InvalidCommand => first | k_is | rfl)
    (case ha_InvalidCommand => first | k_is | rfl)
    (case hm_InvalidCommand => first | k_is | rfl)
    (case ic_InvalidCommand => first | k_is | rfl)
    (case xl_ParseError => first | k_is | rfl)
    (case sa_ParseError => first | k_is | rfl)
    (case ex_ParseError => first | k_is | rfl)
    (case ty_ParseError => first | k_is | rfl)
    (case kc_ParseError => first | k_is | rfl)
    (case in_ParseError => first | k_is | rfl)
    (case ti_ParseError => first | k_is | rfl)
    (case no_ParseError => first | k_is | rfl)
    (case ga_ParseError => first | k_is | rfl)
    (case gg_ParseError => first | k_is | rfl)
    (case hd_ParseError => first | k_is | rfl)
    (case ha_ParseError => first | k_is | rfl)
    (case hm_ParseError => first | k_is | rfl)
    (case ic_ParseError => first | k_is | rfl)
    (case xl_StepFailed => first | k_is | rfl)
    (case sa_StepFailed => first | k_is | rfl)
    (case ex_StepFailed => first | k_is | rfl)
    (case ty_StepFailed => first | k_is | rfl)
    (case kc_StepFailed => first | k_is | rfl)
    (case in_StepFailed => first | k_is | rfl)
    (case ti_StepFailed => first | k_is | rfl)
    (case no_StepFailed => first | k_is | rfl)
    (case ga_StepFailed => first | k_is | rfl)
    (case gg_StepFailed => first | k_is | rfl)
    (case hd_StepFailed => first | k_is | rfl)
    (case ha_StepFailed => first | k_is | rfl)
    (case hm_StepFailed => first | k_is | rfl)
    (case ic_StepFailed => first | k_is | rfl)
    (case xl_LimitExceeded => first | k_is | rfl)
    (case sa_LimitExceeded => first | k_is | rfl)
    (case ex_LimitExceeded => first | k_is | rfl)
    (case ty_LimitExceeded => first | k_is | rfl)
    (case kc_LimitExceeded => first | k_is | rfl)
    (case in_LimitExceeded => first | k_is | rfl)
    (case ti_LimitExceeded => first | k_is | rfl)
    (case no_LimitExceeded => first | k_is | rfl)
    (case ga_LimitExceeded => first | k_is | rfl)
    (case gg_LimitExceeded => first | k_is | rfl)
    (case hd_LimitExceeded => first | k_is | rfl)
    (case ha_LimitExceeded => first | k_is | rfl)
    (case hm_LimitExceeded => first | k_is | rfl)
    (case ic_LimitExceeded => first | k_is | rfl)
    (case xl_NothingToUndo => first | k_is | rfl)
    (case sa_NothingToUndo => first | k_is | rfl)
    (case ex_NothingToUndo => first | k_is | rfl)
    (case ty_NothingToUndo => first | k_is | rfl)
    (case kc_NothingToUndo => first | k_is | rfl)
    (case in_NothingToUndo => first | k_is | rfl)
    (case ti_NothingToUndo => first | k_is | rfl)
    (case no_NothingToUndo => first | k_is | rfl)
    (case ga_NothingToUndo => first | k_is | rfl)
    (case gg_NothingToUndo => first | k_is | rfl)
    (case hd_NothingToUndo => first | k_is | rfl)
    (case ha_NothingToUndo => first | k_is | rfl)
    (case hm_NothingToUndo => first | k_is | rfl)
    (case ic_NothingToUndo => first | k_is | rfl)
    (case xl_NothingToRedo => first | k_is | rfl)
    (case sa_NothingToRedo => first | k_is | rfl)
    (case ex_NothingToRedo => first | k_is | rfl)
    (case ty_NothingToRedo => first | k_is | rfl)
    (case kc_NothingToRedo => first | k_is | rfl)
    (case in_NothingToRedo => first | k_is | rfl)
    (case ti_NothingToRedo => first | k_is | rfl)
    (case no_NothingToRedo => first | k_is | rfl)
    (case ga_NothingToRedo => first | k_is | rfl)
    (case gg_NothingToRedo => first | k_is | rfl)
    (case hd_NothingToRedo => first | k_is | rfl)
    (case ha_NothingToRedo => first | k_is | rfl)
    (case hm_NothingToRedo => first | k_is | rfl)
    (case ic_NothingToRedo => first | k_is | rfl)
    (case l_InvalidList___init__ => first | k_is | rfl)
    (case c_InvalidList___init__ => first | k_is | rfl)
    (case k_InvalidList___init__ => first | k_is | rfl)
    (case l_InvalidStep___init__ => first | k_is | rfl)
    (case c_InvalidStep___init__ => first | k_is | rfl)
    (case k_InvalidStep___init__ => first | k_is | rfl)
    (case l_InvalidTable___init__ => first | k_is | rfl)
    (case c_InvalidTable___init__ => first | k_is | rfl)
    (case k_InvalidTable___init__ => first | k_is | rfl)
    (case l_InvalidEffect___init__ => first | k_is | rfl)
    (case c_InvalidEffect___init__ => first | k_is | rfl)
    (case k_InvalidEffect___init__ => first | k_is | rfl)
    (case l_InvalidNumber___init__ => first | k_is | rfl)
    (case c_InvalidNumber___init__ => first | k_is | rfl)
    (case k_InvalidNumber___init__ => first | k_is | rfl)
    (case l_InvalidFacts___init__ => first | k_is | rfl)
    (case c_InvalidFacts___init__ => first | k_is | rfl)
    (case k_InvalidFacts___init__ => first | k_is | rfl)
    (case l_InvalidName___init__ => first | k_is | rfl)
    (case c_InvalidName___init__ => first | k_is | rfl)
    (case k_InvalidName___init__ => first | k_is | rfl)
    (case l_InvalidCommand___init__ => first | k_is | rfl)
    (case c_InvalidCommand___init__ => first | k_is | rfl)
    (case k_InvalidCommand___init__ => first | k_is | rfl)
    (case l_ParseError___init__ => first | k_is | rfl)
    (case c_ParseError___init__ => first | k_is | rfl)
    (case k_ParseError___init__ => first | k_is | rfl)
    (case l_StepFailed___init__ => first | k_is | rfl)
    (case c_StepFailed___init__ => first | k_is | rfl)
    (case k_StepFailed___init__ => first | k_is | rfl)
    (case l_LimitExceeded___init__ => first | k_is | rfl)
    (case c_LimitExceeded___init__ => first | k_is | rfl)
    (case k_LimitExceeded___init__ => first | k_is | rfl)
    (case l_NothingToUndo___init__ => first | k_is | rfl)
    (case c_NothingToUndo___init__ => first | k_is | rfl)
    (case k_NothingToUndo___init__ => first | k_is | rfl)
    (case l_NothingToRedo___init__ => first | k_is | rfl)
    (case c_NothingToRedo___init__ => first | k_is | rfl)
    (case k_NothingToRedo___init__ => first | k_is | rfl)
    (case l_law_errors => first | k_is | rfl)
    (case c_law_errors => first | k_is | rfl)
    (case k_law_errors => first | k_is | rfl)
    (case l_law_named => first | k_is | rfl)
    (case c_law_named => first | k_is | rfl)
    (case k_law_named => first | k_is | rfl)
    (case l_law_kinds => first | k_is | rfl)
    (case c_law_kinds => first | k_is | rfl)
    (case k_law_kinds => first | k_is | rfl)
    (case l_law_fields => first | k_is | rfl)
    (case c_law_fields => first | k_is | rfl)
    (case k_law_fields => first | k_is | rfl)
    (case l_law => first | k_is | rfl)
    (case c_law => first | k_is | rfl)
    (case k_law => first | k_is | rfl)
    (case hn => first | k_is | rfl)
    (case htk => first | k_is | rfl)
    (case nd => decide)
    (case ic_R => first | k_is | rfl)
    (case ty_R => first | k_is | rfl)
