import PyProof.Rows.All
import Wide.All
import OpenK.AllK
import Wide.FinOn
import HandS.ForMost
import HandS.ForExc
import HandS.Star
import HandS.SlotsOwn
import HandS.Zip
import HandS.SortInts
import HandS.Property
import HandS.TupAny
import HandS.IsInst
import PyProof.LongRange
import PyProof.FactsAll.object_2
import KE.GoesMore
import KE.GoesEnum
import HandS.Iter
import PyProof.TypeEq
import HandS.Codes
import HandS.NoneIn
import KE.KEqSeq
import HandS.ExcInit
import HandS.ExcField
import HandS.ExcIs
import HandS.WordsExc
import HandS.TryMany
import PyProof.ReprRoads
import HandS.Ends
import KE.KExcIs
import HandS.Style
import HandS.Dict
import PyProof.P3Eq
import HandS.ClsMeth
import PyProof.FString
import HandS.TupMul
import HandS.NamedTupGet
import HandS.Wide
import KE.KExcInit
import PyProof.TupleOfSeq
import PySem.Challenge.RW_rankeffect_k02_lists_after_sequences
set_option Elab.async false
set_option linter.all false
set_option maxRecDepth 100000
set_option maxHeartbeats 4000000
namespace XT
open PySem PySem.Spec PyProof.Rows L2

section
variable {prog : Program} {w : World} {A : Around} {E : Value → Shared → Prop} {s : Shared} {K : PySem.W.Frag} {x C f : Addr} {ox : Obj} {od : Option Obj}
/-- the answer of an own __ne__ that is the object's: an own __eq__ is asked -/
theorem ne_body {y : Value} {R : Fin → Shared → Prop} (hu : A.units < cLine) (X : K.In s.heap) (I : PySem.W.InstAt s.heap x ox C od)
    (hs : PySem.W.findIn K (.ref C) "__eq__" = some (some (.ref f))) (hf : PySem.W.isFn K (.ref f) = true)
    (h : wpAny (model prog w) A (call (.ref f) [.ref x, y]) (fun r s1 => ∃ b, r = Value.bool b ∧ R (.done (.ret (.bool (!b)))) s1) E s) :
    wpAny (model prog w) A (Builtin.«object.__ne__» ⟨[.ref x, y], []⟩) R E s := by
  unfold Builtin.«object.__ne__»
  refine wpAny_bind (m := slotArgs "__ne__" 1 ⟨[.ref x, y], []⟩) (wpAny_pure ?_)
  dsimp only
  refine wpAny_bind (wpAny_cRoomFor hu ?_)
  refine wpAny_bind (m := callSpecialIfBound? (.ref x) (Str.ofString "__eq__") [y]) (PySem.W.ifBound_K X I hs hf (wpAny_mono h (fun r s' hr => ?_) fun _ _ e => e))
  obtain ⟨b, rfl, q⟩ := hr
  dsimp only
  refine wpAny_bind (m := truthy (.bool b)) (wpAny_pure ?_)
  exact wpAny_pure q
theorem ne_check {y : Value} {Q : Unit → Shared → Prop} (X : K.In s.heap) (I : PySem.W.InstAt s.heap x ox C od) (hs : PySem.W.subIn K (.ref C) (.type "object") = some true) (h : Q () s) :
    wpAny (model prog w) A (checkBuiltinCall "object.__ne__" ⟨[.ref x, y], []⟩) Q E s := by
  have hk : builtinKind "object.__ne__" = some .slot := by decide +kernel
  have hsp : splitId "object.__ne__" = some ("object", "__ne__") := by decide +kernel
  unfold checkBuiltinCall
  simp only [hk, hsp]
  refine wpAny_bind ?_
  unfold isInstance
  refine wpAny_bind (I.type.here ((PySem.W.looks_subIn X hs).here ?_))
  simp only [Bool.not_true, Bool.false_eq_true, if_false]
  have ha := PySem.F.args_object_ne_2 (.ref x) y
  cases hsig : Manifest.signature? "object.__ne__" with
  | none => exact wpAny_pure h
  | some sig =>
    simp only [argsOk, hsig] at ha
    have h2 : Bind.checkArgs "object.__ne__" sig ⟨[.ref x, y], []⟩ = pure () := ha
    show wpAny _ A (Bind.checkArgs "object.__ne__" sig ⟨[.ref x, y], []⟩) Q E s
    rw [h2]
    exact wpAny_pure h
/-- x != y, the class with an own __eq__ and no own __ne__ -/
theorem ne_own {y tb : Value} {Q : Value → Shared → Prop} (hu : A.units + 1 < cLine) (X : K.In s.heap) (I : PySem.W.InstAt s.heap x ox C od) (hb : PySem.W.Looks (model prog w) s.heap (typeOf y) tb) (hn : PySem.W.notFirst K C tb = true)
    (hne : PySem.W.findIn K (.ref C) "__ne__" = some (some (.builtin "object.__ne__"))) (ho : PySem.W.subIn K (.ref C) (.type "object") = some true)
    (hs : PySem.W.findIn K (.ref C) "__eq__" = some (some (.ref f))) (hf : PySem.W.isFn K (.ref f) = true)
    (h : wpAny (model prog w) A.in1 (call (.ref f) [.ref x, y]) (fun r s1 => ∃ b, r = Value.bool b ∧ Q (.bool (!b)) s1) E s) :
    wpAny (model prog w) A (richCompare .NotEq (.ref x) y) Q E s := by
  have hu0 : A.units < cLine := Nat.lt_of_le_of_lt (Nat.le_succ _) hu
  have run : wpAny (model prog w) A (call (.builtin "object.__ne__") [.ref x, y]) (fun r s1 => ∃ b, r = Value.bool b ∧ Q r s1) E s := by
    refine wpAny_call (codeAny_call_builtin PySem.F.slot_object_ne.plain PySem.F.entry_object_ne (ne_check X I ho ?_))
    refine ne_body (by simpa using hu) X I hs hf (wpAny_mono h (fun r s1 z => ?_) fun _ _ e => e)
    obtain ⟨b, rfl, q⟩ := z
    exact ⟨b, rfl, ⟨_, rfl, q⟩⟩
  have one : wpAny (model prog w) A (tryCompare (.ref x) "__ne__" y) (fun r s' => ∃ v, r = some v ∧ Q v s') E s := by
    unfold tryCompare
    refine wpAny_bind ?_
    simp only [callSpecialIfBound?, bindSpecialIfBound?]
    refine wpAny_holding (wpAny_bind (wpAny_bind (wpAny_bind (I.type.here ((PySem.W.looks_findIn X hne).here ?_)))))
    have fin : wpAny (model prog w) A (call (.builtin "object.__ne__") ([.ref x] ++ [y]) >>= fun v => pure (some v)) (fun r s' => wpAny (model prog w) A (match r with | some .notImplemented | none => pure none | some v => pure (some v)) (fun r s' => ∃ v, r = some v ∧ Q v s') E s') E s := by
      refine wpAny_bind (wpAny_mono run (fun v s' z => ?_) fun _ _ e => e)
      obtain ⟨b, rfl, q⟩ := z
      exact wpAny_pure (wpAny_pure ⟨_, rfl, q⟩)
    refine wpAny_bind (wpAny_askSetting (wpAny_ite ?_))
    split
    · exact wpAny_bind (wpAny_of_eq (PySem.F.slot_object_ne.bind (.ref x)) (wpAny_pure (by exact fin)))
    · exact wpAny_tryCatch (wpAny_bind (wpAny_of_eq (PySem.F.slot_object_ne.bind (.ref x)) (wpAny_pure (by exact fin))))
  unfold richCompare
  simp only [oneThing_ref]
  refine wpAny_holding (wpAny_bind (wpAny_cRoomFor hu0 ?_))
  refine wpAny_bind (I.type.here (wpAny_bind (hb.here ?_)))
  split
  · rename_i q
    have e : PySem.W.subIn K tb (.ref C) = some false := by
      rcases Bool.or_eq_true_iff.mp hn with e | e
      · rw [beq_iff_eq.mp e] at q; simp at q
      · exact beq_iff_eq.mp e
    refine wpAny_bind ((PySem.W.looks_subIn X e).here ?_)
    simp only [Bool.false_eq_true, if_false]
    refine wpAny_bind (wpAny_mono one (fun r s' z => ?_) fun _ _ e => e)
    obtain ⟨v, rfl, hq⟩ := z
    exact wpAny_pure hq
  · refine wpAny_bind (wpAny_pure ?_)
    simp only [Bool.false_eq_true, if_false]
    refine wpAny_bind (wpAny_mono one (fun r s' z => ?_) fun _ _ e => e)
    obtain ⟨v, rfl, hq⟩ := z
    exact wpAny_pure hq
theorem type_bool : isType (.type "bool") = pure true := by first | rfl | kernel_rfl | (unfold isType; rw [isSubtype_type]; kernel_rfl)
/-- bool(x) by an own __bool__ -/
theorem bool_own {Q : Value → Shared → Prop} (X : K.In s.heap) (I : PySem.W.InstAt s.heap x ox C od) (hs : PySem.W.findIn K (.ref C) "__bool__" = some (some (.ref f))) (hf : PySem.W.isFn K (.ref f) = true)
    (h : wpAny (model prog w) A.in1.in1 (call (.ref f) [.ref x]) (fun r s1 => ∃ b, r = Value.bool b ∧ Q r s1) E s) : wpAny (model prog w) A (call (.type "bool") [.ref x]) Q E s := by
  refine callType_codes (T := "bool") (Bi := Builtin.«object.__init__») (Q₁ := fun r s1 => ∃ b, r = Value.bool b ∧ Q r s1) PySem.F.called_bool (PySem.F.typeCall_bool_1 _) PySem.F.entry_object_init ?_ ?_
  · refine codeAny_of_tree ?_
    show wpAny _ A.in1.in1 (do checkBuiltinCall "bool.__new__" ⟨[.type "bool", .ref x], []⟩; again (.builtin "bool.__new__" ⟨[.type "bool", .ref x], []⟩)) _ _ s
    refine wpAny_bind (wpAny_of_eq (PySem.F.newCall_bool_1 _) (wpAny_pure ⟨plainId_quiet (by decide +kernel) _, codeAny_builtin PySem.F.entry_bool_new ?_⟩))
    rw [Around.under_plainId (by decide +kernel) _]
    unfold Builtin.«bool.__new__»
    refine wpAny_bind (wpAny_of_eq (a := true) type_bool ?_)
    refine PySem.W.KFB.if_not rfl ?_
    refine wpAny_bind (wpAny_of_eq (a := true) PySem.F.conv_sub_bool ?_)
    refine PySem.W.KFB.if_not rfl ?_
    refine wpAny_bind (m := someArgs "bool" 0 1 _) (wpAny_of_eq (a := [Value.ref x]) (by first | rfl | kernel_rfl | simp [someArgs]) ?_)
    dsimp only
    refine wpAny_bind (m := truthy (.ref x)) ?_
    unfold truthy
    refine wpAny_bind (m := callSpecial? (.ref x) (Str.ofString "__bool__")) (PySem.W.special_fn X I hs (beq_iff_eq.mp hf) (wpAny_mono h (fun r s' hr => ?_) fun _ _ y => y))
    obtain ⟨b, rfl, hq⟩ := hr
    exact wpAny_pure (wpAny_pure ⟨b, rfl, hq⟩)
  · rintro obj s₁ ⟨b, rfl, hq⟩
    exact ⟨PySem.typeIs_bool _ _, PySem.F.args_object_init_2 _ _, object_init_meets PySem.F.called_bool.init.lookup PySem.F.called_bool.made (by decide) prog w A.in1 _ s₁ ⟨PySem.typeIs_bool _ _, rfl, hq⟩⟩
end
/-! ### operators of instances of own classes -/
/-- an instance of the class at C -/
def InsA (H : Hp) (a C : Addr) : Prop := ∃ dx fs, H a = some (.ins C dx fs)
section
variable {X : Cx} {CX : CXT} {n : Nat} {C g : Addr} {sp : Sp} {E : XK}
theorem insA_at {pins : List (Addr × Obj)} {σ : L2.St} {H : Hp} {s : Shared} {a : Addr} (I : Inv X pins σ H s) (h : InsA H a C) : ∃ ox od, PySem.W.InstAt s.heap a ox C od := by
  obtain ⟨dx, fs, h⟩ := h
  obtain ⟨mA, O, _⟩ := ins_get I.hok h
  obtain ⟨od, J, _⟩ := O.look
  exact ⟨_, _, J⟩
/-- x op y, both instances of the class at C, which has a def for it at g -/
def rOwnB (C : Addr) (sp : Sp) (E : XK) : R2 := fun x y H Q => ∃ a b, x = .ref a ∧ y = .ref b ∧ InsA H a C ∧ InsA H b C ∧ sp [x, y] H Q E
theorem op_ownB {op : Operator} (hc : PySem.W.selfFirst X.K C = true) (hs : PySem.W.findIn X.K (.ref C) (PySem.dunder op.info.2) = some (some (.ref g))) (hf : PySem.W.isFn X.K (.ref g) = true) (F : FnR X.prog X.w X.K X.mg X.base CX n g sp)
    (hr : Room n X.A) (hx : Passes CX X E) : OpR X (binaryOp op) (rOwnB C sp E) := by
  intro pins s σ H x y v u Q I rx ry h
  obtain ⟨a, b, rfl, rfl, ha, hb, q⟩ := h
  cases (show v = Value.ref a from rx)
  cases (show u = Value.ref b from ry)
  obtain ⟨ox, od, J⟩ := insA_at I ha
  obtain ⟨oy, oe, J'⟩ := insA_at I hb
  obtain ⟨m, hF⟩ := I.fr
  refine PySem.W.binop_K (op := op) hF I.ok.mod.kin J J'.type hc hs hf ?_
  refine wpAny_mono (wpAny_call (run_fnR (us := [.ref a, .ref b]) (vs := [.ref a, .ref b]) F hr hx I (.cons rfl (.cons rfl .nil)) q)) (fun w s' z => ?_) fun _ _ x => x
  obtain ⟨z', H', I', rz, qz⟩ := z
  exact SlX.cmpback rz ⟨z', H', I', rz, qz⟩
/-- x == y -/
theorem op_ownE (hs : PySem.W.findIn X.K (.ref C) "__eq__" = some (some (.ref g))) (hf : PySem.W.isFn X.K (.ref g) = true) (F : FnR X.prog X.w X.K X.mg X.base CX n g sp)
    (hr : Room n X.A) (hx : Passes CX X E) : OpR X (compareOp .Eq) (rOwnB C sp E) := by
  intro pins s σ H x y v u Q I rx ry h
  obtain ⟨a, b, rfl, rfl, ha, hb, q⟩ := h
  cases (show v = Value.ref a from rx)
  cases (show u = Value.ref b from ry)
  obtain ⟨ox, od, J⟩ := insA_at I ha
  obtain ⟨oy, oe, J'⟩ := insA_at I hb
  obtain ⟨m, hF⟩ := I.fr
  show wpAny _ _ (richCompare .Eq _ _) _ _ _
  refine PySem.W.cmp_K (op := .Eq) (tb := .ref C) hr.units0 hF I.ok.mod.kin J J'.type (by unfold PySem.W.notFirst; simp) hs hf ?_
  refine wpAny_mono (wpAny_call (run_fnR (us := [.ref a, .ref b]) (vs := [.ref a, .ref b]) F hr hx I (.cons rfl (.cons rfl .nil)) q)) (fun w s' z => ?_) fun _ _ x => x
  obtain ⟨z', H', I', rz, qz⟩ := z
  exact SlX.cmpback rz ⟨z', H', I', rz, qz⟩
/-- x != y, by == -/
def rOwnN (C : Addr) (sp : Sp) (E : XK) : R2 := fun x y H Q => ∃ a b, x = .ref a ∧ y = .ref b ∧ InsA H a C ∧ InsA H b C ∧ sp [x, y] H (fun z H' => ∃ k, z = .bl k ∧ Q (.bl (!k)) H') E
theorem op_ownN (hne : PySem.W.findIn X.K (.ref C) "__ne__" = some (some (.builtin "object.__ne__"))) (ho : PySem.W.subIn X.K (.ref C) (.type "object") = some true)
    (hs : PySem.W.findIn X.K (.ref C) "__eq__" = some (some (.ref g))) (hf : PySem.W.isFn X.K (.ref g) = true) (F : FnR X.prog X.w X.K X.mg X.base CX n g sp)
    (hr : Room (n + 1) X.A) (hx : Passes CX X E) : OpR X (compareOp .NotEq) (rOwnN C sp E) := by
  intro pins s σ H x y v u Q I rx ry h
  obtain ⟨a, b, rfl, rfl, ha, hb, q⟩ := h
  cases (show v = Value.ref a from rx)
  cases (show u = Value.ref b from ry)
  obtain ⟨ox, od, J⟩ := insA_at I ha
  obtain ⟨oy, oe, J'⟩ := insA_at I hb
  show wpAny _ _ (richCompare .NotEq _ _) _ _ _
  refine ne_own (tb := .ref C) (by have := hr.units; omega) I.kIn J J'.type (by unfold PySem.W.notFirst; simp) hne ho hs hf ?_
  refine wpAny_mono (wpAny_call (SlX.run_at (us := [.ref a, .ref b]) (ws := [.ref a, .ref b]) F hr.in1 I.env0.in1 hx I (.cons rfl (.cons rfl .nil)) q)) (fun w s' z => ?_) fun _ _ x => x
  obtain ⟨z', H', I', rz, k, rfl, qz⟩ := z
  cases (show w = Value.bool k from rz)
  exact ⟨k, rfl, .bl (!k), H', I', rfl, qz⟩
/-- bool(x) -/
def rBoolO (C : Addr) (sp : Sp) (E : XK) : List V → Hp → VK → Prop := fun xs H Q => ∃ a, xs = [V.ref a] ∧ InsA H a C ∧ sp xs H (fun z H' => ∃ k, z = .bl k ∧ Q z H') E
theorem call_boolO (hs : PySem.W.findIn X.K (.ref C) "__bool__" = some (some (.ref g))) (hf : PySem.W.isFn X.K (.ref g) = true) (F : FnR X.prog X.w X.K X.mg X.base CX n g sp) (hr : Room (n + 2) X.A) (hx : Passes CX X E) : CallR X (.type "bool") (rBoolO C sp E) := by
  intro pins s σ H xs us Q I r h
  obtain ⟨a, rfl, ha, q⟩ := h
  obtain ⟨u, rfl, ru⟩ := r.one
  cases (show u = Value.ref a from ru)
  obtain ⟨ox, od, J⟩ := insA_at I ha
  have hr2 : Room n X.A.in1.in1 := (show Room (n + 1) X.A.in1 from Room.in1 hr).in1
  refine bool_own I.kIn J hs hf (wpAny_mono (wpAny_call (SlX.run_at (us := [.ref a]) (ws := [.ref a]) F hr2 I.env0.in1.in1 hx I (.cons rfl .nil) q)) (fun w s' z => ?_) fun _ _ x => x)
  obtain ⟨z', H', I', rz, k, rfl, qz⟩ := z
  cases (show w = Value.bool k from rz)
  exact ⟨k, rfl, .bl k, H', I', rfl, qz⟩
end
end XT

namespace XT
open PySem PySem.Spec PyProof.Rows L2
/-! ### range(a, b) of ints of any size -/
theorem turn_lrange {P : Program} {w : World} {K : PySem.W.Frag} {tg : Expr} (it : Addr) (lo : Int) (n : Nat) : Turn P w K tg (Itr lo n) [it] it (fun i h => IsLongIter h it (lo + (i : Nat) * 1) ((n : Int) - (i : Nat)) 1) where
  mem := by simp
  obj := fun i h st b hb => by
    have e : b = it := by simpa using hb
    subst e
    exact ⟨_, st, fun v z => by
      have z' : Data.fields _ = Data.cell v := z
      cases z'⟩
  keep := fun i h h' st k => k it (by simp) _ st
  item := by
    intro X hP hw hK hc i pins s σ H E I hf st hg
    subst hP hw hK
    obtain ⟨f0, f1, f2, f3, f4, f5⟩ := hf it (by simp)
    have W := Walks.longrange (prog := X.prog) (w := X.w) (I.ok.hd hc) it lo 1 n
    refine W.item i s _ _ hg st fun v h' tk hv st' kk => ?_
    obtain ⟨t, rfl⟩ := hv
    have I1 : Inv X pins σ H { s with heap := h', toks := tk } := I.turned (fun b o hb e => kk b o (by simpa using hb) e) f0 f1 f3 f4 f5
    refine ⟨_, rfl, go_of (s := { s with heap := h', toks := tk }) (n := "longrange_iterator") st' rfl rfl (by decide) ⟨.int (lo + i), H, I1, ⟨t, ?_⟩, ⟨rfl, rfl⟩, st', fun b hb => (hf b hb).1⟩⟩
    rw [Int.mul_one]
  done := by
    intro X hP hw hK hc i pins s σ H E I hf st hg
    subst hP hw hK
    obtain ⟨f0, f1, f2, f3, f4, f5⟩ := hf it (by simp)
    exact wpAny_pyNext_long_end (I.ok.hd hc) st (by have : n ≤ i := hg; omega) fun h' eb => ⟨rfl, I.turned (t' := s.toks) (fun b o hb e => eb b o hb e) f0 f1 f3 f4 f5⟩
  self := fun _ _ _ _ _ st h => wpAny_pyIter_longiter st h
section
variable {X : Cx} {tg : Expr}
theorem lrange_it {pins : List (Addr × Obj)} {σ : L2.St} {H : Hp} {s : Shared} {R : It → Hp → Prop} {E : Value → Shared → Prop} {lo hi : Int} {t u v : Tok} {tk : Nat} (I : Inv X pins σ H s)
    (q : R (Itr lo (hi - lo).toNat) H) : wpAny (model X.prog X.w) X.A (pyIter (.ref s.heap.objs.size)) (PIE X pins σ tg R) E { s with heap := s.heap.push { cls := .type "range", data := .fields #[.int lo t, .int hi u, .int 1 v] }, toks := tk } := by
  have I1 : Inv X pins σ H { s with heap := s.heap.push { cls := .type "range", data := .fields #[.int lo t, .int hi u, .int 1 v] }, toks := tk } := I.kept fun b o e => Heap.get?_push_of_some _ e
  have e1 : lo + ((0 : Nat) : Int) * 1 = lo := by simp
  have e2 : (((hi - lo).toNat : Nat) : Int) - ((0 : Nat) : Int) = Builtin.Range.rangeSize lo hi 1 := by rw [rangeSize_one]; split <;> omega
  have fp : ∀ b ∈ [(s.heap.push { cls := .type "range", data := .fields #[.int lo t, .int hi u, .int 1 v] }).objs.size], FpOk X pins H b := fun b hb => by
    have e : b = (s.heap.push { cls := .type "range", data := .fields #[.int lo t, .int hi u, .int 1 v] }).objs.size := by simpa using hb
    subst e
    exact I1.fpOk (Nat.le_refl _) (I1.hok.fresh (Nat.le_refl _))
  cases hsm : Builtin.Range.small lo hi 1 with
  | true =>
    refine wpAny_pyIter_range (IsRange.new ..) hsm ?_
    refine ⟨(s.heap.push { cls := .type "range", data := .fields #[.int lo t, .int hi u, .int 1 v] }).objs.size, [(s.heap.push { cls := .type "range", data := .fields #[.int lo t, .int hi u, .int 1 v] }).objs.size], _, _, H, rfl,
      I1.kept (t' := tk) fun b o e => Heap.get?_push_of_some _ e, turn_range _ lo (hi - lo).toNat, ?_, fp, q⟩
    show IsRangeIter _ _ (lo + ((0 : Nat) : Int) * 1) ((((hi - lo).toNat : Nat) : Int) - ((0 : Nat) : Int)) 1
    rw [e1, e2]
    exact Heap.get?_push_size _ rfl
  | false =>
    refine wpAny_pyIter_longrange (IsRange.new ..) hsm ?_
    refine ⟨(s.heap.push { cls := .type "range", data := .fields #[.int lo t, .int hi u, .int 1 v] }).objs.size, [(s.heap.push { cls := .type "range", data := .fields #[.int lo t, .int hi u, .int 1 v] }).objs.size], _, _, H, rfl,
      I1.kept (t' := tk) fun b o e => Heap.get?_push_of_some _ e, turn_lrange _ lo (hi - lo).toNat, ?_, fp, q⟩
    show IsLongIter _ _ (lo + ((0 : Nat) : Int) * 1) ((((hi - lo).toNat : Nat) : Int) - ((0 : Nat) : Int)) 1
    rw [e1, e2]
    exact Heap.get?_push_size _ rfl
def iRngW1 (ta : TA) : TI := fun σ H R => ta σ H fun vs H1 => ∃ j : Int, vs = [.int j] ∧ R (Itr 0 j.toNat) H1
def iRngW2 (ta : TA) : TI := fun σ H R => ta σ H fun vs H1 => ∃ i j : Int, vs = [.int i, .int j] ∧ R (Itr i (j - i).toNat) H1
theorem pi_rng1 {a : Expr} {ta : TA} {p pos : Pos} (hg : Gl X "range") (hm : X.mg "range" = none) (ha : PA X [a] ta) (hs : starEach [a] X.env = [(false, eval a X.env)] := by rfl) : PI X tg (.Call (.Name "range" p) [a] [] pos) (iRngW1 ta) := by
  refine ⟨fun pins s σ H R I h => ?_⟩
  refine Call_ (ld_blt I hg hm boot_range (PyProof.Rows.callWith_type1 (thn (ha.run pos pins s σ H _ I h) fun us s1 ⟨vs, H1, I1, r1, q1⟩ => ?_) hs rfl))
  obtain ⟨j, e, q⟩ := q1
  subst e
  cases r1 with
  | cons r rr =>
    cases rr
    obtain ⟨t, rfl⟩ := r
    exact call_range_1 (lrange_it I1 (by simpa using q))
theorem pi_rng2 {a b : Expr} {ta : TA} {p pos : Pos} (hg : Gl X "range") (hm : X.mg "range" = none) (ha : PA X [a, b] ta) (hs : starEach [a, b] X.env = [(false, eval a X.env), (false, eval b X.env)] := by rfl) (hs2 : starEach [b] X.env = [(false, eval b X.env)] := by rfl) :
    PI X tg (.Call (.Name "range" p) [a, b] [] pos) (iRngW2 ta) := by
  refine ⟨fun pins s σ H R I h => ?_⟩
  refine Call_ (ld_blt I hg hm boot_range (PyProof.Rows.callWith_type1 (thn (ha.run pos pins s σ H _ I h) fun us s1 ⟨vs, H1, I1, r1, q1⟩ => ?_) (by rw [hs, hs2]) (by rw [hs2]; rfl)))
  obtain ⟨i, j, e, q⟩ := q1
  subst e
  cases r1 with
  | cons r rr =>
    cases rr with
    | cons r' rr =>
      cases rr
      obtain ⟨t, rfl⟩ := r
      obtain ⟨t', rfl⟩ := r'
      exact call_range_2 (lrange_it I1 q)
end
/-! ### enumerate(tuple) -/
theorem meets_enumerate_newT (l : Addr) (items : Array Value) (n : Nat) (dct : Option Addr) (sl : Array (Option Value)) :
    Meets (Builtin.«enumerate.__new__» ⟨[.type "enumerate", .ref l], []⟩) (fun _ R s => s.heap.get? l = some { cls := .type "tuple", dict := dct, data := .seq items n, slots := sl } ∧
      R (.ok (.ret (.ref (s.heap.push { cls := .type "tuple_iterator", data := .fields #[.ref l, .int 0 0] }).objs.size)))
        { s with heap := (s.heap.push { cls := .type "tuple_iterator", data := .fields #[.ref l, .int 0 0] }).push { cls := .type "enumerate", data := .fields #[.none, .bool false, .ref s.heap.objs.size, rawInt 0, .none, .none] } }) :=
  .of_wp fun prog w A R s h => by
    obtain ⟨hp, g, d, tk, os⟩ := s; obtain ⟨hl, h⟩ := h
    have hsub := sub_enumerate
    have hL : Heap.IsTuple (Shared.heap ⟨hp, g, d, tk, os⟩) l items := ⟨_, hl, rfl, n, rfl⟩
    wp_walk using AutoSeq1.wpAny_loadPart' hl
    refine wpAny_stack_any fun st => wpAny_pure ?_
    split
    · rename_i c _ _ _ _ _
      cases (c == Value.type "enumerate")
      · wp_walk using AutoSeq1.wpAny_loadPart' hl, wpAny_pyIter_tuple hL
        exact ⟨_, rfl, h⟩
      · wp_walk using AutoSeq1.wpAny_loadPart' hl, wpAny_pyIter_tuple hL
        exact ⟨_, rfl, h⟩
    · wp_walk using AutoSeq1.wpAny_loadPart' hl, wpAny_pyIter_tuple hL
      exact ⟨_, rfl, h⟩
theorem call_enumerate_tuple {prog : Program} {w : World} {A : Around} {E : Value → Shared → Prop} {s : Shared} {l : Addr} {items : Array Value} {Q : Value → Shared → Prop} (hL : s.heap.IsTuple l items)
    (h : ∀ h', IsEnum h' (s.heap.objs.size + 1) s.heap.objs.size 0 .none → h'.IsTupleIter s.heap.objs.size l 0 → h'.objs.size = s.heap.objs.size + 2 →
      (∀ b o, s.heap.get? b = some o → h'.get? b = some o) → Q (.ref (s.heap.objs.size + 1)) { s with heap := h' }) :
    wpAny (model prog w) A (call (.type "enumerate") [.ref l]) Q E s := by
  obtain ⟨⟨c, dct, dt, sl⟩, hl, hc, n, hd⟩ := hL
  replace hc : c = .type "tuple" := hc
  replace hd : dt = .seq items n := hd
  subst hc hd
  refine callType_new PySem.F.called_enumerate (by decide) (PySem.F.typeCall_enumerate_1 _) (PySem.F.newCall_enumerate_1 _) (fun obj => PySem.F.args_object_init_2 obj _) PySem.F.entry_enumerate_new
    (meets_enumerate_newT l items n dct sl) ⟨hl, ?_⟩
  have hz : (s.heap.push { cls := .type "tuple_iterator", data := .fields #[.ref l, .int 0 0] }).objs.size = s.heap.objs.size + 1 := Heap.size_push ..
  show _ ∧ _
  rw [hz]
  have he : IsEnum ((s.heap.push { cls := .type "tuple_iterator", data := .fields #[.ref l, .int 0 0] }).push
      { cls := .type "enumerate", data := .fields #[.none, .bool false, .ref s.heap.objs.size, rawInt 0, .none, .none] }) (s.heap.objs.size + 1) s.heap.objs.size 0 .none := by
    have := Heap.get?_push_size (s.heap.push { cls := .type "tuple_iterator", data := .fields #[.ref l, .int 0 0] })
      (o := { cls := .type "enumerate", data := .fields #[.none, .bool false, .ref s.heap.objs.size, rawInt 0, .none, .none] }) rfl
    rw [hz] at this; exact this
  refine ⟨⟨_, he, rfl⟩, h _ he ⟨_, Heap.get?_push_of_some _ (Heap.get?_push_size _ rfl), rfl, rfl⟩ (by rw [Heap.size_push, hz]) fun b o x => Heap.get?_push_of_some _ (Heap.get?_push_of_some _ x)⟩
def IteT (K : PySem.W.Frag) (a : Addr) : It :=
  ⟨fun i H => ∃ (xs : List V) (x : V), SqT K H a xs ∧ xs[i]? = some x, fun i H v H' => ∃ T x, v = .ref T ∧ H T = none ∧ H' = upd H T (.tup [.int (i : Nat), x]) ∧ ∀ xs, SqT K H a xs → xs[i]? = some x, fun i H => ∃ xs : List V, SqT K H a xs ∧ xs.length ≤ i⟩
theorem turn_enumT {P : Program} {w : World} {K : PySem.W.Frag} {elts : List Expr} {kk : Nat} {tpos : Pos} (a e it : Addr) :
    Turn P w K (.Tuple elts kk tpos) (IteT K a) [e, it] e (fun i h => (∃ old, IsEnum h e it ((i : Nat) : Int) old) ∧ h.IsTupleIter it a i ∧ e ≠ it ∧ a ≠ it ∧ a ≠ e) where
  mem := by simp
  obj := fun i h st b hb => by
    obtain ⟨⟨old, he⟩, ⟨o, ho, hc, hd⟩, _⟩ := st
    have e' : b = e ∨ b = it := by simpa using hb
    rcases e' with z | z
    · rw [z]; exact ⟨_, he, fun v q => nomatch q⟩
    · rw [z]; exact ⟨o, ho, fun v q => by rw [hd] at q; cases q⟩
  keep := fun i h h' st k => let ⟨⟨old, he⟩, hi, hne⟩ := st; ⟨⟨old, k e (by simp) _ he⟩, hi.at fun o q => k it (by simp) o q, hne⟩
  item := by
    intro X hP hw hK hc i pins s σ H E I hf st hg
    subst hP hw hK
    obtain ⟨⟨old, he⟩, hit, hne, hai, hae⟩ := st
    obtain ⟨xs, x, hq, hx⟩ := hg
    obtain ⟨its, rv, p, hz⟩ := I.tuple hq
    obtain ⟨u, hu, ru⟩ := rv.get hx
    have hel : e < s.heap.objs.size := Heap.lt_size he
    have hil : it < s.heap.objs.size := by obtain ⟨_, q, _⟩ := hit; exact Heap.lt_size q
    have D := Draws.tuple (prog := X.prog) (w := X.w) (A := X.A.in1) (by have := I.ok.hd hc; simpa using this) it a hai its.toArray
    have hp : s.heap.IsTuple a its.toArray := p
    have hl : i < its.toArray.size := by
      have := (List.getElem?_eq_some_iff.mp hu).1
      simpa using this
    refine wpAny_pyNext_enum_itemD D he ⟨hit, hp⟩ hl hne (by simp [hne, Ne.symm hae]) fun x' h' tk hP ho hSt hT hsz hk => ?_
    have hxu : x' = u := by
      have e1 : its.toArray[i]? = some u := by simpa using hu
      rw [e1] at hP
      exact (Option.some.inj hP).symm
    subst hxu
    refine ⟨_, rfl, wpAny_letOwnedTupleGo_enum (s := { s with heap := h', toks := tk + 1 }) ho fun h'' he' sb => ?_⟩
    have hT2 : h''.get? s.heap.objs.size = some { cls := .type "tuple", data := .seq #[.int i tk, x'] } := (sb.2 _ (Nat.ne_of_gt hel)).trans hT
    have new : ObjOk X.prog X.w (upd H s.heap.objs.size (.tup [.int (i : Nat), x])) h'' s.heap.objs.size (.tup [.int (i : Nat), x]) :=
      ⟨by show 2 ≤ sizeLine; decide, [.int i tk, x'], .cons ⟨_, rfl⟩ (.cons ru .nil), ⟨_, hT2, rfl, _, rfl⟩⟩
    have I1 : Inv X pins σ (upd H s.heap.objs.size (.tup [.int (i : Nat), x])) { s with heap := h'', toks := tk + 1 } :=
      I.turnedNew (ch := [e, it]) (fun b ob hb q => (sb.2 b (fun z => hb (by simp [z]))).trans (hk b ob (fun z => hb (by simp [z])) (fun z => hb (by simp [z])) q)) hf (Nat.le_refl _) new
    refine ⟨.ref s.heap.objs.size, _, I1, rfl, ⟨_, x, rfl, I.hok.fresh (Nat.le_refl _), rfl, fun ys hy => by rw [I.tuple_inj hy hq]; exact hx⟩, ⟨⟨x', ?_⟩, hSt.1.at fun o q => (sb.2 it (Ne.symm hne)).trans q, hne, hai, hae⟩, fun b hb => ?_⟩
    · have e1 : ((i + 1 : Nat) : Int) = (i : Int) + 1 := by omega
      rw [e1]; exact he'
    · have hb' : b < s.heap.objs.size := by
        have e' : b = e ∨ b = it := by simpa using hb
        rcases e' with z | z
        · rw [z]; exact hel
        · rw [z]; exact hil
      rw [upd_ne (Nat.ne_of_lt hb')]
      exact (hf b hb).1
  done := by
    intro X hP hw hK hc i pins s σ H E I hf st hg
    subst hP hw hK
    obtain ⟨⟨old, he⟩, hit, hne, hai, hae⟩ := st
    obtain ⟨xs, hq, hx⟩ := hg
    obtain ⟨its, rv, p, hz⟩ := I.tuple hq
    obtain ⟨f0, f1, f2, f3, f4, f5⟩ := hf it (by simp)
    have hl := rv.length
    have hp : s.heap.IsTuple a its.toArray := p
    have hT : s.TypeIs (.ref e) "enumerate" := ⟨_, he, rfl⟩
    have hh : X.A.handled = none := I.ok.hd hc
    unfold pyNext
    refine wpAny_bind (wpAny_attempt (wpAny_callSpecial?_slot (name := Str.ofString "__next__") hT PySem.F.slot_enumerate_next
      (wpAny_call_entry PySem.F.slot_enumerate_next hT PySem.F.entry_enumerate_next ?_ (PySem.F.args_enumerate_next_1 _))))
    show wpAny _ _ (field (.ref e) 2 >>= _) _ _ _
    refine wpAny_bind (wpAny_field he rfl (x := .ref it) rfl ?_)
    refine wpAny_bind (wpAny_nextOf_tuple_end (by simpa using hh) hit hp (by simp; omega) fun h' x he' hx' => ?_)
    obtain ⟨o, ho, hc⟩ := hx'
    refine wpAny_bind (wpAny_isInstance (T := "StopIteration") (b := true) ⟨o, ho, hc⟩ isSubtype_stop ?_)
    exact wpAny_pure ⟨rfl, I.turned (t' := s.toks) (fun b o hb q => he' b o hb q) f0 f1 f3 f4 f5⟩
  self := fun A i s Q E st h => let ⟨⟨_, he⟩, _⟩ := st; wpAny_pyIter_enum he h
def iEnumT (K : PySem.W.Frag) (ta : TA) : TI := fun σ H R => ta σ H fun vs H1 => ∃ a xs, vs = [.ref a] ∧ SqT K H1 a xs ∧ R (IteT K a) H1
theorem pi_enumT {X : Cx} {e : Expr} {ta : TA} {p pos tpos : Pos} {elts : List Expr} {kk : Nat} (hg : Gl X "enumerate") (hm : X.mg "enumerate" = none) (ha : PA X [e] ta) (hs : starEach [e] X.env = [(false, eval e X.env)] := by rfl) :
    PI X (.Tuple elts kk tpos) (.Call (.Name "enumerate" p) [e] [] pos) (iEnumT X.K ta) := by
  refine ⟨fun pins s σ H R I h => ?_⟩
  refine Call_ (ld_blt I hg hm boot_enumerate (PyProof.Rows.callWith_type1 (thn (ha.run pos pins s σ H _ I h) fun us s1 ⟨vs, H1, I1, r1, q1⟩ => ?_) hs rfl))
  obtain ⟨a, xs, ex, hq, q⟩ := q1
  subst ex
  cases r1 with
  | cons r rr =>
    cases rr
    cases r
    obtain ⟨its, rv, p', hz⟩ := I1.tuple hq
    have hp : s1.heap.IsTuple a its.toArray := p'
    have hal : a < s1.heap.objs.size := by obtain ⟨o, ho, _⟩ := hp; exact Heap.lt_size ho
    refine call_enumerate_tuple hp fun h' he hit hsz hk => wpAny_pyIter_enum he ?_
    have I2 : Inv X pins σ H1 { s1 with heap := h' } := I1.kept (t' := s1.toks) hk
    refine ⟨s1.heap.objs.size + 1, [s1.heap.objs.size + 1, s1.heap.objs.size], _, _, H1, rfl, I2, turn_enumT a (s1.heap.objs.size + 1) s1.heap.objs.size, ⟨⟨.none, he⟩, hit, Nat.succ_ne_self _, Nat.ne_of_lt hal, Nat.ne_of_lt (Nat.lt_succ_of_lt hal)⟩, fun b hb => ?_, q⟩
    have e' : b = s1.heap.objs.size + 1 ∨ b = s1.heap.objs.size := by simpa using hb
    have hle : s1.heap.objs.size ≤ b := by
      rcases e' with z | z
      · rw [z]; exact Nat.le_add_right _ _
      · rw [z]; exact Nat.le_refl _
    exact I1.fpOk hle (I1.hok.fresh hle)
end XT

namespace XT
open PySem PySem.Spec PyProof.Rows L2
/-! ### types compared -/
def tyN (m : String) : Bool := ["int", "str", "bool", "NoneType", "list", "tuple", "dict"].contains m
theorem tyN_meta {m : String} (h : tyN m = true) (s' : Shared) : s'.TypeIs (.type m) "type" := by
  unfold tyN at h
  simp only [List.contains_cons, List.contains_nil, Bool.or_eq_true, beq_iff_eq, Bool.false_eq_true, or_false] at h
  rcases h with rfl | rfl | rfl | rfl | rfl | rfl | rfl
  · exact TypeEq.meta_int s'
  · exact TypeEq.meta_str s'
  · exact TypeEq.meta_bool s'
  · exact TypeEq.meta_NoneType s'
  · exact TypeEq.meta_list s'
  · exact TypeEq.meta_tuple s'
  · exact TypeEq.meta_dict s'
section
variable {X : Cx}
theorem op_eqTy : OpR X (compareOp .Eq) (fun x y H Q => ∃ m n, x = .ty m ∧ y = .ty n ∧ tyN m = true ∧ tyN n = true ∧ Q (.bl (decide (m = n))) H) := by
  intro pins s σ H x y v u Q I rx ry h
  obtain ⟨m, n, rfl, rfl, hm, hn, q⟩ := h
  cases (show v = Value.type m from rx)
  cases (show u = Value.type n from ry)
  by_cases e : m = n
  · subst e
    exact TypeEq.eq_type_same (fun s' => tyN_meta hm s') ⟨.bl true, H, I, rfl, by simpa using q⟩
  · refine TypeEq.eq_type_other (fun s' => tyN_meta hm s') (fun s' => tyN_meta hn s') ?_ ⟨.bl false, H, I, rfl, by simpa [e] using q⟩
    rw [Bool.eq_false_iff]
    intro z
    rw [beq_iff_eq] at z
    injection z with z
    exact e z
theorem eqAt_ty {A : Around} {s : Shared} {m n : String} (hm : tyN m = true) (hn : tyN n = true) : SeqAt.EqAt A s (.type m) (.type n) (decide (m = n)) := fun prog w E Q h => by
  unfold eqBool
  refine wpAny_holding ?_
  refine wpAny_ite_split (fun hab => ?_) (fun hab => ?_)
  · have e : m = n := by have := eq_of_beq hab; injection this
    subst e
    exact wpAny_bind (wpAny_rule (wpAny_pure (by simpa using h)))
  · have e : m ≠ n := fun z => hab (by rw [z]; exact beq_self_eq_true _)
    refine wpAny_bind (m := richCompare .Eq (.type m) (.type n)) (show wpAny _ _ (compareOp .Eq _ _) _ _ _ from TypeEq.eq_type_other (fun s' => tyN_meta hm s') (fun s' => tyN_meta hn s') ?_ ?_)
    · rw [Bool.eq_false_iff]
      intro z
      rw [beq_iff_eq] at z
      injection z with z
      exact e z
    · exact wpAny_pure (by simpa [e] using h)
def tyU (m : String) : Value → Bool
  | .type n => decide (n = m)
  | _ => false
theorem op_inTy : OpR X (compareOp .In) (fun x y H Q => ∃ (m : String) (p : Addr) (ns : List String), x = .ty m ∧ y = .ref p ∧ SqT X.K H p (ns.map V.ty) ∧ tyN m = true ∧ (∀ n ∈ ns, tyN n = true) ∧ Q (.bl (ns.any fun n => decide (n = m))) H) := by
  intro pins s σ H x y v u Q I rx ry h
  obtain ⟨m, p, ns, rfl, rfl, hq, hm, hn, q⟩ := h
  cases (show v = Value.type m from rx)
  cases (show u = Value.ref p from ry)
  obtain ⟨its, r, pl, hz⟩ := I.tuple hq
  have key : ∀ (ns : List String) (its : List Value), Vals (ns.map V.ty) its → its = ns.map Value.type := by
    intro ns
    induction ns with
    | nil => intro its r; cases r; rfl
    | cons n ns ih =>
      intro its r
      cases r with
      | cons a t =>
        rw [ih _ t, List.map_cons]
        congr 1
  have e := key ns its r
  subst e
  refine SeqAt.in_tupleAt (tyU m) pl (fun w hw => ?_) ⟨.bl _, H, I, rfl, ?_⟩
  · have hw' : w ∈ ns.map Value.type := by simpa using hw
    obtain ⟨n, hmem, rfl⟩ := List.mem_map.mp hw'
    exact eqAt_ty (hn n hmem) hm
  · have e2 : ((ns.map Value.type).toArray.any (tyU m)) = ns.any fun n => decide (n = m) := by
      rw [List.any_toArray, List.any_map]
      rfl
    rw [e2]
    exact q
/-! ### calls by promises of positional values -/
def tCallR (sp : Sp) (E : XK) (t : TA) : TE := fun σ H Q => t σ H fun vs H1 => sp vs H1 Q E
theorem pe_callR {CX : CXT} {k : Nat} {f : Addr} {sp : Sp} {E : XK} {x : Str} {e : Expr} {es : List Expr} {t : TA} {p pos : Pos} (F : FnR X.prog X.w X.K X.mg X.base CX k f sp) (hr : Room k X.A) (hg : Gl X x) (hm : X.mg x = some (.ref f)) (hk : PySem.W.keepIn X.K (.ref f) = true) (hx : Passes CX X E) (ha : PA X (e :: es) t) (hd : (x == ("__debug__" : Str)) = false := by decide)
    (he : starEach (e :: es) X.env = (false, eval e X.env) :: starEach es X.env := by rfl) (hst : (backTo pos (starEach es X.env)).any (·.1) = false := by rfl) :
    PE X (.Call (.Name x p) (e :: es) [] pos) (tCallR sp E t) := by
  refine ⟨fun pins s σ H Q I h => ?_⟩
  refine wpAny_Call_Name_kw (ld_glob I hg hm ?_ hd)
  refine PySem.W.callWith_K (h₀ := X.base) I.ok.mod.kin hk (thn (ha.run pos pins s σ H _ I h) fun us s1 ⟨vs, H1, I1, r, q⟩ => ⟨I1.kIn, ?_⟩) he hst
  exact wpAny_call (run_fnR F hr hx I1 r q)
def tPropR (C : Addr) (sp : Sp) (E : XK) (ta : TE) : TE := fun σ H Q => ta σ H fun x H1 => ∃ a dx fs, x = .ref a ∧ H1 a = some (.ins C dx fs) ∧ sp [.ref a] H1 Q E
theorem pe_propR {CX : CXT} {k : Nat} {C p g : Addr} {f : Str} {sp : Sp} {E : XK} {e : Expr} {pos : Pos} {ta : TE} (he : PE X e ta) (c : Cls X.K C) (hp : PropOf X.K C f p g) (F : FnR X.prog X.w X.K X.mg X.base CX k g sp) (hr : Room (k + 1) X.A) (hx : Passes CX X.nox E)
    (hab : attributeBase e f X.env (eval e X.env) = eval e X.env) : PE X (.Attribute e f pos) (tPropR C sp E ta) := by
  refine ⟨fun pins s σ H Q I h => ?_⟩
  refine attr_of hab (thn (he.run pins s σ H _ I h) fun u s1 ⟨x, H1, I1, rx, a, dx, fs, ex, ea, q⟩ => ?_)
  subst ex
  obtain rfl : u = Value.ref a := rx
  obtain ⟨mA, O, _, _, _, _⟩ := ins_get I1.hok ea
  obtain ⟨od, J, _⟩ := O.look
  obtain ⟨rest, hrec⟩ := hp.rec_
  have I2 := I1.tok (s1.toks + 1)
  have hc : (PySem.W.clsIn X.K C).isSome = true := by
    obtain ⟨cd, hc, _⟩ := PySem.W.any_some c.hd
    rw [hc]
    rfl
  refine PySem.W.get_bind I1.kIn J (PySem.W.plainGet_of (c.get f)).1 (PySem.W.findObj_data hc hp.at_ hp.get hp.tak) (PySem.W.plainGet_of (c.get f)).2 (wpAny_call (PySem.W.prop_get (s := { s1 with toks := s1.toks + 1 }) I1.kIn hrec ?_))
  refine codeAny_mono (F X.A.in1 X.stack { s1 with toks := s1.toks + 1 } H1 [.ref a] [.ref a] Q E hr.in1 I2.env0.in1 (.cons rfl .nil) q) fun r s' hq => ?_
  cases r with
  | error er => exact False.elim (hx pins σ H1 { s1 with toks := s1.toks + 1 } er s' (I2.wish _) hq)
  | ok fl =>
    cases fl with
    | ret u =>
      obtain ⟨v, H', I3, rv, q3⟩ := I2.after hq
      show wpAny _ _ (handedOut u) _ _ _
      rw [PySem.W.handedOut_of (handed_of rv)]
      exact wpAny_pure ⟨v, H', I3, rv, q3⟩
    | next => exact False.elim hq
    | brk => exact False.elim hq
    | cont => exact False.elim hq
end
section
variable {P : Program} {w : World} {K : PySem.W.Frag} {mg : Str → Option Value} {base : Heap}
/-- how arguments bind, for every such def -/
def Bnd (x qual : Str) (st : Stmt) (ps : List Str) : Prop := ∀ (kV doc pm : Value) (an : Option Addr) (cdv ct : Value) (us : List Value), us.length = ps.length → bindArgs (PySem.W.fnOf x qual (defArgs st) (defBody st) (defScope st) .none kV doc pm an cdv ct) ⟨us, []⟩ = pure (ps.zip us)
/-- a def's promise by positional values; no exception leaves it -/
theorem okR {x qual : Str} {st : Stmt} {f : Addr} {fd : FuncData} {N ps : List Str} {k : Nat} {sp : Sp} (F : Fun K x qual st f fd) (S : FnScope N ps (defScope st)) (B : Bnd x qual st ps) (len : ∀ vs H Q E, sp vs H Q E → vs.length = ps.length)
    (hbody : ∀ (cdv : Value) (A : Around) (outer : List Env) (s : Shared) (H : Hp) (vs : List V) (Q : VK) (E : XK), Room k (A.deeper (envOfC qual (defScope st) s.heap.objs.size f cdv)) → sp vs H Q E →
      ∃ t, PSs (cxOf CX0 P w K mg base N qual (defScope st) f cdv A outer s H E).nox (defBody st) t ∧ t { nx := fun _ H' => Q .non H', rt := Q } (start N vs) H) : FnR P w K mg base CX0 (k + 1) f sp := by
  have G := F.ok S len hbody
  have hb := F.binds B
  exact (G.raw hb .nil).imp fun vs H Q E h => by simpa using h
end
end XT

namespace XT
open PySem PySem.Spec PyProof.Rows L2
/-! ### heaps that grow -/
theorem same_upd {H H1 : Hp} {p : Addr} {o : HO} (h : Same H H1) (n : H p = Option.none) : Same H (upd H1 p o) := fun b u e => by
  have hb : b ≠ p := fun q => by rw [q, n] at e; cases e
  rw [upd_ne hb]
  exact h b u e
theorem same_new {H : Hp} {p : Addr} {o : HO} (n : H p = Option.none) : Same H (upd H p o) := same_upd (Same.refl H) n
theorem same_seqT {K : PySem.W.Frag} {H H' : Hp} {a : Addr} {xs : List V} (e : Same H H') (h : SqT K H a xs) : SqT K H' a xs := by
  rcases h with (h | ⟨o, h⟩) | h
  · exact .inl (.inl (e _ _ h))
  · exact .inl (.inr ⟨o, e _ _ h⟩)
  · exact .inr h
theorem same_tyB {K : PySem.W.Frag} {H H' : Hp} {x : V} {n : String} (e : Same H H') (h : TyB K H x n) : TyB K H' x n := by
  cases h with
  | non => exact .non
  | bl b => exact .bl b
  | int i => exact .int i
  | str z => exact .str z
  | byt b => exact .byt b
  | lst h => exact .lst (e.seq h)
  | tup h => exact .tup (same_seqT e h)
  | dK h => exact .dK (e _ _ h)
/-- a value of a known kind -/
def KV (K : PySem.W.Frag) (H : Hp) (x : V) : Prop := ∃ n, TyB K H x n ∧ tyN n = true
theorem KV.same {K : PySem.W.Frag} {H H' : Hp} {x : V} (h : KV K H x) (e : Same H H') : KV K H' x := let ⟨n, a, b⟩ := h; ⟨n, same_tyB e a, b⟩
theorem kv_int {K : PySem.W.Frag} {H : Hp} (i : Int) : KV K H (.int i) := ⟨"int", .int i, by decide +kernel⟩
def isI : V → Bool
  | .int _ => true
  | _ => false
theorem tyB_isI {K : PySem.W.Frag} {H : Hp} {x : V} {n : String} (h : TyB K H x n) : decide (n = "int") = isI x := by
  cases h <;> first | rfl | decide +kernel
/-! ### what is walked, while only new things are made -/
structure StatJ (J : It) (H0 : Hp) (n : Nat) (P : Nat → V → Hp → Prop) : Prop where
  go : ∀ i H, i < n → Same H0 H → J.go i H
  stop : ∀ H, Same H0 H → J.stop n H
  yld : ∀ i H x H', i < n → Same H0 H → J.yld i H x H' → Same H H' ∧ P i x H'
theorem stat_list {K : PySem.W.Frag} {H0 : Hp} {a : Addr} {xs : List V} (h : SqL K H0 a xs) : StatJ (Itl K a) H0 xs.length (fun i x _ => xs[i]? = some x) where
  go := fun i H hi s => ⟨xs, xs[i], s.seq h, by simp [hi]⟩
  stop := fun H s => ⟨xs, s.seq h, Nat.le_refl _⟩
  yld := fun i H x H' hi s y => by
    obtain ⟨e, y⟩ := y
    subst e
    exact ⟨Same.refl _, y xs (s.seq h)⟩
theorem stat_tup {K : PySem.W.Frag} {H0 : Hp} {a : Addr} {xs : List V} (h : SqT K H0 a xs) : StatJ (Itt K a) H0 xs.length (fun i x _ => xs[i]? = some x) where
  go := fun i H hi s => ⟨xs, xs[i], same_seqT s h, by simp [hi]⟩
  stop := fun H s => ⟨xs, same_seqT s h, Nat.le_refl _⟩
  yld := fun i H x H' hi s y => by
    obtain ⟨e, y⟩ := y
    subst e
    exact ⟨Same.refl _, y xs (same_seqT s h)⟩
theorem stat_rng {H0 : Hp} (lo : Int) (n : Nat) : StatJ (Itr lo n) H0 n (fun i x _ => x = .int (lo + i)) where
  go := fun i H hi s => hi
  stop := fun H s => Nat.le_refl _
  yld := fun i H x H' hi s y => by
    obtain ⟨e, y⟩ := y
    subst e
    exact ⟨Same.refl _, y⟩
theorem stat_enumT {K : PySem.W.Frag} {H0 : Hp} {a : Addr} {xs : List V} (h : SqT K H0 a xs) : StatJ (IteT K a) H0 xs.length (fun i v H => ∃ T x, v = .ref T ∧ H T = some (.tup [.int (i : Nat), x]) ∧ xs[i]? = some x) where
  go := fun i H hi s => ⟨xs, xs[i], same_seqT s h, by simp [hi]⟩
  stop := fun H s => ⟨xs, same_seqT s h, Nat.le_refl _⟩
  yld := fun i H x H' hi s y => by
    obtain ⟨T, x', e, n, e', y⟩ := y
    subst e e'
    exact ⟨same_new n, T, x', rfl, upd_same, y xs (same_seqT s h)⟩
theorem stat_zip {K : PySem.W.Frag} {H0 : Hp} {a b : Addr} {xs ys : List V} (h : SqL K H0 a xs) (k : SqL K H0 b ys) : StatJ (Itz K a b) H0 (min xs.length ys.length) (fun i v H => ∃ T x y, v = .ref T ∧ H T = some (.tup [x, y]) ∧ xs[i]? = some x ∧ ys[i]? = some y) where
  go := fun i H hi s => ⟨xs, ys, xs[i], ys[i], s.seq h, s.seq k, by simp, by simp⟩
  stop := fun H s => ⟨xs, ys, s.seq h, s.seq k, by omega⟩
  yld := fun i H x H' hi s y => by
    obtain ⟨T, x', y', e, n, e', p, q⟩ := y
    subst e e'
    exact ⟨same_new n, T, x', y', rfl, upd_same, p xs (s.seq h), q ys (s.seq k)⟩
theorem stat_zipT {K : PySem.W.Frag} {H0 : Hp} {a b : Addr} {xs ys : List V} (h : SqT K H0 a xs) (k : SqT K H0 b ys) : StatJ (RZ.ItzT K a b) H0 (min xs.length ys.length) (fun i v H => ∃ T x y, v = .ref T ∧ H T = some (.tup [x, y]) ∧ xs[i]? = some x ∧ ys[i]? = some y) where
  go := fun i H hi s => ⟨xs, ys, xs[i], ys[i], same_seqT s h, same_seqT s k, by simp, by simp⟩
  stop := fun H s => ⟨xs, ys, same_seqT s h, same_seqT s k, by omega⟩
  yld := fun i H x H' hi s y => by
    obtain ⟨T, x', y', e, n, e', p, q⟩ := y
    subst e e'
    exact ⟨same_new n, T, x', y', rfl, upd_same, p xs (same_seqT s h), q ys (same_seqT s k)⟩
/-- what a comprehension collects -/
def outs (out : Nat → Option V) (n : Nat) : List V := (List.range n).filterMap out
theorem outs_succ (out : Nat → Option V) (n : Nat) : outs out (n + 1) = outs out n ++ (out n).toList := by
  unfold outs
  rw [List.range_succ, List.filterMap_append]
  cases h : out n <;> simp [List.filterMap, h]
theorem outs_len (out : Nat → Option V) (n : Nat) : (outs out n).length ≤ n := by
  unfold outs
  exact Nat.le_trans (List.length_filterMap_le _ _) (by simp)
theorem outs_list (f : V → Option V) (xs : List V) : outs (fun i => (xs[i]?).bind f) xs.length = xs.filterMap f := by
  have : ∀ n, n ≤ xs.length → outs (fun i => (xs[i]?).bind f) n = (xs.take n).filterMap f := by
    intro n
    induction n with
    | zero => intro _; rfl
    | succ n ih =>
      intro h
      rw [outs_succ, ih (by omega), List.take_succ, List.filterMap_append]
      congr 1
      have e : xs[n]? = some xs[n] := by simp
      rw [e]
      cases h2 : f xs[n] <;> simp [h2]
  rw [this _ (Nat.le_refl _), List.take_length]
theorem outs_map (f : V → V) (xs : List V) : outs (fun i => (xs[i]?).map f) xs.length = xs.map f := by
  have e : (fun (i : Nat) => (xs[i]?).map f) = fun (i : Nat) => (xs[i]?).bind fun x => some (f x) := by funext i; cases xs[i]? <;> rfl
  rw [e, outs_list]
  simp
theorem outs_fun (f : Nat → V) (n : Nat) : outs (fun i => some (f i)) n = (List.range n).map f := by
  unfold outs
  simp
theorem outs_congr {o o' : Nat → Option V} {n : Nat} (h : ∀ i, i < n → o i = o' i) : outs o n = outs o' n := by
  induction n with
  | zero => rfl
  | succ n ih => rw [outs_succ, outs_succ, ih fun i hi => h i (by omega), h n (by omega)]
/-- a comprehension over what stands still -/
theorem lcG {J : It} {n : Nat} {P : Nat → V → Hp → Prop} {g : TG} {tt : TT} {te : TE} {vs : List Nat} {σ : L2.St} {H1 : Hp} {D : Addr} {Qd : Hp → Prop} (S : StatJ J H1 n P) (hD : H1 D = Option.none) (out : Nat → Option V) (hn : n ≤ sizeLine)
    (hs : ∀ i x H (R : Option V → Hp → Prop), i < n → Same H1 H → P i x H → (∀ H', Same H H' → R (out i) H') → g x (wipe σ vs) H fun σ2 H2 => wipe σ2 vs = wipe σ vs ∧ tt σ2 H2 fun b H3 => if b = true then te σ2 H3 fun y H4 => R (some y) H4 else R Option.none H3)
    (hd : ∀ H, Same H1 H → H D = some (.lst (outs out n)) → Qd H) :
    ∃ W : Nat → Nat → Hp → Prop, (∃ m, W 0 m (upd H1 D (.lst []))) ∧ ∀ i m H, W i m H →
      (J.stop i H ∧ Qd H) ∨ (J.go i H ∧ ∃ Nx : Hp → Prop, (∀ H', Nx H' → ∃ m', m' < m ∧ W (i + 1) m' H') ∧ ∀ x H', J.yld i H x H' → g x (wipe σ vs) H' fun σ2 H2 => wipe σ2 vs = wipe σ vs ∧ tt σ2 H2 fun b H3 =>
        if b = true then te σ2 H3 fun y H4 => ∃ acc, H4 D = some (.lst acc) ∧ acc.length < sizeLine ∧ Nx (upd H4 D (.lst (acc ++ [y]))) else Nx H3) := by
  refine ⟨fun i m H => m = n - i ∧ i ≤ n ∧ Same H1 H ∧ H D = some (.lst (outs out i)), ⟨n, by simp, Nat.zero_le _, same_new hD, by rw [upd_same]; rfl⟩, ?_⟩
  rintro i m H ⟨rfl, hi, s, hH⟩
  by_cases hlt : i < n
  · refine .inr ⟨S.go i H hlt s, fun H' => Same H1 H' ∧ H' D = some (.lst (outs out (i + 1))), fun H' p => ⟨n - (i + 1), by omega, rfl, hlt, p.1, p.2⟩, fun x H' y => ?_⟩
    obtain ⟨s2, px⟩ := S.yld i H x H' hlt s y
    refine hs i x H' (fun r H4 => match r with | some y => ∃ acc, H4 D = some (.lst acc) ∧ acc.length < sizeLine ∧ (Same H1 (upd H4 D (.lst (acc ++ [y]))) ∧ (upd H4 D (.lst (acc ++ [y]))) D = some (.lst (outs out (i + 1)))) | none => Same H1 H4 ∧ H4 D = some (.lst (outs out (i + 1)))) hlt (s.trans s2) px fun H4 s4 => ?_
    have h4 : H4 D = some (.lst (outs out i)) := s4 _ _ (s2 _ _ hH)
    have s14 : Same H1 H4 := (s.trans s2).trans s4
    cases ho : out i with
    | none =>
      refine ⟨s14, ?_⟩
      rw [outs_succ, ho, h4]
      simp
    | some y =>
      refine ⟨_, h4, Nat.lt_of_le_of_lt (outs_len out i) (Nat.lt_of_lt_of_le hlt hn), same_upd s14 hD, ?_⟩
      rw [upd_same, outs_succ, ho]
      rfl
  · have e : i = n := by omega
    subst e
    exact .inl ⟨S.stop H s, hd H s hH⟩
/-- without a test -/
theorem lcM {J : It} {n : Nat} {P : Nat → V → Hp → Prop} {g : TG} {te : TE} {vs : List Nat} {σ : L2.St} {H1 : Hp} {D : Addr} {Qd : Hp → Prop} (S : StatJ J H1 n P) (hD : H1 D = Option.none) (out : Nat → V) (hn : n ≤ sizeLine)
    (hs : ∀ i x H (R : V → Hp → Prop), i < n → Same H1 H → P i x H → (∀ H', Same H H' → R (out i) H') → g x (wipe σ vs) H fun σ2 H2 => wipe σ2 vs = wipe σ vs ∧ te σ2 H2 R)
    (hd : ∀ H, Same H1 H → H D = some (.lst ((List.range n).map out)) → Qd H) :
    ∃ W : Nat → Nat → Hp → Prop, (∃ m, W 0 m (upd H1 D (.lst []))) ∧ ∀ i m H, W i m H →
      (J.stop i H ∧ Qd H) ∨ (J.go i H ∧ ∃ Nx : Hp → Prop, (∀ H', Nx H' → ∃ m', m' < m ∧ W (i + 1) m' H') ∧ ∀ x H', J.yld i H x H' → g x (wipe σ vs) H' fun σ2 H2 => wipe σ2 vs = wipe σ vs ∧ tYes σ2 H2 fun b H3 =>
        if b = true then te σ2 H3 fun y H4 => ∃ acc, H4 D = some (.lst acc) ∧ acc.length < sizeLine ∧ Nx (upd H4 D (.lst (acc ++ [y]))) else Nx H3) := by
  refine ⟨fun i m H => m = n - i ∧ i ≤ n ∧ Same H1 H ∧ H D = some (.lst ((List.range i).map out)), ⟨n, by simp, Nat.zero_le _, same_new hD, by rw [upd_same]; rfl⟩, ?_⟩
  rintro i m H ⟨rfl, hi, s, hH⟩
  by_cases hlt : i < n
  · refine .inr ⟨S.go i H hlt s, fun H' => Same H1 H' ∧ H' D = some (.lst ((List.range (i + 1)).map out)), fun H' p => ⟨n - (i + 1), by omega, rfl, hlt, p.1, p.2⟩, fun x H' y => ?_⟩
    obtain ⟨s2, px⟩ := S.yld i H x H' hlt s y
    show g x (wipe σ vs) H' fun σ2 H2 => wipe σ2 vs = wipe σ vs ∧ (if true = true then te σ2 H2 fun y H4 => ∃ acc, H4 D = some (.lst acc) ∧ acc.length < sizeLine ∧ (Same H1 (upd H4 D (.lst (acc ++ [y]))) ∧ (upd H4 D (.lst (acc ++ [y]))) D = some (.lst ((List.range (i + 1)).map out))) else (Same H1 H2 ∧ H2 D = some (.lst ((List.range (i + 1)).map out))))
    simp only [if_true]
    refine hs i x H' (fun y H4 => ∃ acc, H4 D = some (.lst acc) ∧ acc.length < sizeLine ∧ (Same H1 (upd H4 D (.lst (acc ++ [y]))) ∧ (upd H4 D (.lst (acc ++ [y]))) D = some (.lst ((List.range (i + 1)).map out)))) hlt (s.trans s2) px fun H4 s4 => ?_
    have h4 : H4 D = some (.lst ((List.range i).map out)) := s4 _ _ (s2 _ _ hH)
    refine ⟨_, h4, Nat.lt_of_le_of_lt (by simp) (Nat.lt_of_lt_of_le hlt hn), same_upd ((s.trans s2).trans s4) hD, ?_⟩
    rw [upd_same, List.range_succ, List.map_append]
    rfl
  · have e : i = n := by omega
    subst e
    exact .inl ⟨S.stop H s, hd H s hH⟩
theorem range_map (f : V → V) (d : V) (xs : List V) : (List.range xs.length).map (fun i => f (xs.getD i d)) = xs.map f := by
  apply List.ext_getElem
  · simp
  · intro i h1 h2
    have h3 : i < xs.length := by simpa using h2
    simp [List.getD, h3]
theorem getD_of {xs : List V} {i : Nat} {x d : V} (h : xs[i]? = some x) : xs.getD i d = x := by
  simp [List.getD, h]
end XT

namespace XT
open PySem PySem.Spec PyProof.Rows L2
/-! ### the rules whose reading names the written part, with that part given -/
section
variable {X : Cx} (K : PySem.W.Frag)
theorem fldK {e : Expr} {f : Str} {pos : Pos} {ta : TE} (he : PE X e ta) (hb : attributeBase e f X.env (eval e X.env) = eval e X.env) (hK : X.K = K := by rfl) : PE X (.Attribute e f pos) (tFld K ta f) := by subst hK; exact pe_fld he hb
theorem tupK {es : List Expr} {k : Nat} {pos : Pos} {t : TGs} {n : Nat} (hc : X.calm = true) (h : PGs X es t) (hK : X.K = K := by rfl) (hn : (assignEach es X.env).length = n := by rfl) (hst : (assignEach es X.env).findIdx? (·.1) = none := by rfl) : PG X (.Tuple es k pos) (gTup K n t) := by
  subst hK
  exact pg_tup hc h hn hst
theorem unlK {es : List Expr} {k : Nat} {pos : Pos} {t : TGs} {n : Nat} (hc : X.calm = true) (h : PGs X es t) (hK : X.K = K := by rfl) (hn : (assignEach es X.env).length = n := by rfl) (hst : (assignEach es X.env).findIdx? (·.1) = none := by rfl) : PG X (.Tuple es k pos) (gUnl K n t) := by
  subst hK
  exact pg_unl hc h hn hst
theorem ixLK (hK : X.K = K := by rfl) : IxR X (rIxL K) := by subst hK; exact ix_list
theorem ixTK (hK : X.K = K := by rfl) : IxR X (rIxT K) := by subst hK; exact ix_tup
theorem slLK (hK : X.K = K := by rfl) : SlR X (rSlL K) := by subst hK; exact sl_list
theorem slTK (hK : X.K = K := by rfl) : SlR X (rSlA K) := by subst hK; exact sl_tupA
theorem lenK (hK : X.K = K := by rfl) : CallR X (.builtin "len") (fun xs H Q => ∃ p ys, xs = [.ref p] ∧ (SqL K H p ys ∨ SqT K H p ys) ∧ Q (.int ys.length) H) := by subst hK; exact call_len_seq
theorem typeK (hK : X.K = K := by rfl) : CallR X (.type "type") (rTyp K) := by subst hK; exact call_type1
theorem allK (hc : X.calm = true) (hK : X.K = K := by rfl) : CallR X (.builtin "all") (rAll K) := by subst hK; exact cr_all hc
theorem sortedK (hK : X.K = K := by rfl) : CallR X (.builtin "sorted") (rSortedI K) := by subst hK; exact cr_sortedI
theorem listK (hK : X.K = K := by rfl) : CallR X (.type "list") (fun xs H Q => ∃ p ys, xs = [.ref p] ∧ (SqL K H p ys ∨ SqT K H p ys) ∧ ∀ l, H l = Option.none → Q (.ref l) (upd H l (.lst ys))) := by subst hK; exact call_list_of
theorem tupleK (hK : X.K = K := by rfl) : CallR X (.type "tuple") (fun xs H Q => ∃ p ys, xs = [.ref p] ∧ ((SqL K H p ys ∧ ∀ l, H l = Option.none → Q (.ref l) (upd H l (.tup ys))) ∨ (SqT K H p ys ∧ Q (.ref p) H))) := by subst hK; exact call_tuple_of
theorem inK (hK : X.K = K := by rfl) : OpR X (compareOp .In) (rIn K false) := by subst hK; exact op_in_seq
theorem notInK (hK : X.K = K := by rfl) : OpR X (compareOp .NotIn) (rIn K true) := by subst hK; exact op_notIn_seq
theorem eqDK (hu : X.A.units + 64 < cLine) (hK : X.K = K := by rfl) : OpR X (compareOp .Eq) (rEqD K) := by subst hK; exact op_eqD hu
theorem neDK (hu : X.A.units + 64 < cLine) (hK : X.K = K := by rfl) : OpR X (compareOp .NotEq) (rNeD K) := by subst hK; exact op_neD hu
theorem inTyK (hK : X.K = K := by rfl) : OpR X (compareOp .In) (fun x y H Q => ∃ (m : String) (p : Addr) (ns : List String), x = .ty m ∧ y = .ref p ∧ SqT K H p (ns.map V.ty) ∧ tyN m = true ∧ (∀ n ∈ ns, tyN n = true) ∧ Q (.bl (ns.any fun n => decide (n = m))) H) := by subst hK; exact op_inTy
theorem bmK {o e : Expr} {es : List Expr} {name : Str} {apos cpos : Pos} {to : TE} {t : TA} {r : V → List V → Hp → VK → Prop} {T : String} (h : PE X (.Call (.Attribute o name apos) (e :: es) [] cpos) (tBM X.K T r to t)) (hK : X.K = K := by rfl) : PE X (.Call (.Attribute o name apos) (e :: es) [] cpos) (tBM K T r to t) := by subst hK; exact h
theorem starK {e : Expr} {p : Pos} {es : List Expr} {te : TE} {t : TA} (h : PA X (.Starred e p :: es) (StX.tStar X.K te t)) (hK : X.K = K := by rfl) : PA X (.Starred e p :: es) (StX.tStar K te t) := by subst hK; exact h
end
end XT

namespace XT
open PySem PySem.Spec PyProof.Rows L2
/-! ### data of ints -/
theorem dpAll_ints {K : PySem.W.Frag} {H : Hp} (L : List Int) : DpAll K H (L.map V.int) (L.map PyData.int) := by
  induction L with
  | nil => exact .nil
  | cons x L ih => exact .cons (.int x) ih
theorem dp_lst {K : PySem.W.Frag} {H : Hp} {p : Addr} {L : List Int} (h : SqL K H p (L.map V.int)) : Dp K H (.ref p) (.list (L.map PyData.int)) := .lst h (dpAll_ints L)
theorem dp_tup {K : PySem.W.Frag} {H : Hp} {p : Addr} {L : List Int} (h : SqT K H p (L.map V.int)) : Dp K H (.ref p) (.tuple (L.map PyData.int)) := .tup h (dpAll_ints L)
theorem eqvAll_ints (L : List Int) : ∀ M : List Int, PyData.eqvAll (L.map PyData.int) (M.map PyData.int) = decide (L = M) := by
  induction L with
  | nil =>
    intro M
    cases M with
    | nil => simp [PyData.eqvAll]
    | cons y M => simp [PyData.eqvAll]
  | cons x L ih =>
    intro M
    cases M with
    | nil => simp [PyData.eqvAll]
    | cons y M =>
      rw [List.map_cons, List.map_cons, PyData.eqvAll, ih]
      by_cases h : x = y
      · subst h
        simp [PyData.eqv]
      · have : (PyData.int x).eqv (.int y) = false := by simp [PyData.eqv, h]
        rw [this]
        simp [h]
theorem eqv_tups (L M : List Int) : PyData.eqv (.tuple (L.map PyData.int)) (.tuple (M.map PyData.int)) = decide (L = M) := by
  rw [PyData.eqv]
  exact eqvAll_ints L M
theorem eqv_lsts (L M : List Int) : PyData.eqv (.list (L.map PyData.int)) (.list (M.map PyData.int)) = decide (L = M) := by
  rw [PyData.eqv]
  exact eqvAll_ints L M
theorem shaped_lst (L : List Int) : SeqAt.shaped (.list (L.map PyData.int)) = true := PySem.W.ke_shaped_ints L
theorem shaped_tup (L : List Int) : SeqAt.shaped (.tuple (L.map PyData.int)) = true := by
  have := PySem.W.ke_shaped_ints L
  unfold SeqAt.shaped at this ⊢
  simpa [PyData.canLay0, PyData.depth] using this
/-! ### bool(x) by its truth -/
section
variable {prog : Program} {w : World} {A : Around} {E : Value → Shared → Prop} {s : Shared}
theorem bool_gen {v : Value} {Q : Value → Shared → Prop} (h : wpAny (model prog w) A.in1.in1 (truthy v) (fun b s1 => Q (.bool b) s1) E s) : wpAny (model prog w) A (call (.type "bool") [v]) Q E s := by
  refine callType_codes (T := "bool") (Bi := Builtin.«object.__init__») (Q₁ := fun r s1 => ∃ b, r = Value.bool b ∧ Q r s1) PySem.F.called_bool (PySem.F.typeCall_bool_1 _) PySem.F.entry_object_init ?_ ?_
  · refine codeAny_of_tree ?_
    show wpAny _ A.in1.in1 (do checkBuiltinCall "bool.__new__" ⟨[.type "bool", v], []⟩; again (.builtin "bool.__new__" ⟨[.type "bool", v], []⟩)) _ _ s
    refine wpAny_bind (wpAny_of_eq (PySem.F.newCall_bool_1 _) (wpAny_pure ⟨plainId_quiet (by decide +kernel) _, codeAny_builtin PySem.F.entry_bool_new ?_⟩))
    rw [Around.under_plainId (by decide +kernel) _]
    unfold Builtin.«bool.__new__»
    refine wpAny_bind (wpAny_of_eq (a := true) type_bool ?_)
    refine PySem.W.KFB.if_not rfl ?_
    refine wpAny_bind (wpAny_of_eq (a := true) PySem.F.conv_sub_bool ?_)
    refine PySem.W.KFB.if_not rfl ?_
    refine wpAny_bind (m := someArgs "bool" 0 1 _) (wpAny_of_eq (a := [v]) (by first | rfl | kernel_rfl | simp [someArgs]) ?_)
    dsimp only
    exact wpAny_bind (wpAny_mono h (fun b s1 q => wpAny_pure ⟨b, rfl, q⟩) fun _ _ y => y)
  · rintro obj s₁ ⟨b, rfl, hq⟩
    exact ⟨PySem.typeIs_bool _ _, PySem.F.args_object_init_2 _ _, object_init_meets PySem.F.called_bool.init.lookup PySem.F.called_bool.made (by decide) prog w A.in1 _ s₁ ⟨PySem.typeIs_bool _ _, rfl, hq⟩⟩
end
section
variable {X : Cx} (K : PySem.W.Frag)
theorem boolT (hK : X.K = K := by rfl) : CallR X (.type "bool") (fun xs H Q => ∃ (a : Addr) (zs : List V), xs = [.ref a] ∧ SqT K H a zs ∧ Q (.bl (!zs.isEmpty)) H) := by
  subst hK
  intro pins s σ H xs us Q I r h
  obtain ⟨a, zs, rfl, hq, q⟩ := h
  obtain rfl := Vals.ref1 r
  obtain ⟨its, rv, pl, hz⟩ := I.tuple hq
  have hl := line63
  have hlen := rv.length
  refine bool_gen (truthy_tuple pl (by simp only [List.size_toArray]; omega) ?_)
  exact ⟨.bl (!zs.isEmpty), H, I.tok _, by rw [isEmpty_of rv]; rfl, q⟩
end
end XT

namespace XT
open PySem PySem.Spec PyProof.Rows L2
/-! ### defs that ask which list or tuple is being written (repr): nothing of that kind is under way -/
/-- as FnR, no repr being under way -/
def FnG (P : Program) (w : World) (K : PySem.W.Frag) (mg : Str → Option Value) (base : Heap) (CX : CXT) (k : Nat) (f : Addr) (sp : Sp) : Prop :=
  ∀ (A : Around) (outer : List Env) (s : Shared) (H : Hp) (us : List Value) (vs : List V) (Q : VK) (E : XK), A.guards = some [] → Room k A → Env0 P w K mg base A outer s H → Vals vs us → sp vs H Q E →
    codeAny (model P w) A (.call (.ref f) ⟨us, []⟩) (CR CX outer P w H s Q E) s
section
variable {P : Program} {w : World} {K : PySem.W.Frag} {mg : Str → Option Value} {base : Heap} {CX : CXT} {j k : Nat} {f : Addr} {sp sp' : Sp}
theorem FnG.imp (F : FnG P w K mg base CX k f sp) (h : ∀ vs H Q E, sp' vs H Q E → sp vs H Q E) : FnG P w K mg base CX k f sp' := fun A outer s H us vs Q E hg hr e0 r hs => F A outer s H us vs Q E hg hr e0 r (h _ _ _ _ hs)
theorem FnR.toG (F : FnR P w K mg base CX k f sp) : FnG P w K mg base CX k f sp := fun A outer s H us vs Q E _ hr e0 r hs => F A outer s H us vs Q E hr e0 r hs
/-- a def by its body, one entry at a time -/
theorem fnG_of {name qual : Str} {params : Arguments} {body : List Stmt} {scope : Scope} {dV kV doc pm cdv ct oc : Value} {an od : Option Addr}
    {osl : Array (Option Value)} {N ps : List Str} (lk : K.lookup f = some ⟨oc, od, .func (PySem.W.fnOf name qual params body scope dV kV doc pm an cdv ct), osl⟩) (hcd : PySem.W.codeIn K cdv qual = true) (S : FnScope N ps scope)
    (hb : Binds K (PySem.W.fnOf name qual params body scope dV kV doc pm an cdv ct) ps []) (len : ∀ vs H Q E, sp vs H Q E → vs.length = ps.length)
    (hbody : ∀ (A : Around) (outer : List Env) (s : Shared) (H : Hp) (vs : List V) (Q : VK) (E : XK), (A.deeper (envOfC qual scope s.heap.objs.size f cdv)).guards = some [] → Room k (A.deeper (envOfC qual scope s.heap.objs.size f cdv)) → sp vs H Q E →
      ∃ t, PSs (cxOf CX P w K mg base N qual scope f cdv A outer s H E) body t ∧ t { nx := fun _ H' => Q .non H', rt := Q } (start N vs) H) :
    FnG P w K mg base CX (k + 1) f sp := by
  intro A outer s H us vs Q E hg hr e0 r hsp
  have hl := len _ _ _ _ hsp
  have hlu : us.length = ps.length := r.length ▸ hl
  have keep : ∀ b o, base.get? b = some o → s.heap.get? b = some o := fun b o e => (e0.bs b o e).1
  have KX : K.In s.heap := e0.mod.kin.keeps keep
  have lim : s.heap.NoLimit := e0.mod.nolimit.keeps keep
  have hkind : ∀ y ∈ ps.zip us, scope.names.lookup y.1 = some .local ∨ (scope.names.lookup y.1 = some .cell ∧ ((cellsFrom (s.heap.objs.size + 1) scope.names []).lookup y.1).isSome = true) := fun ⟨n, v⟩ hy => by
    rcases S.par n (List.of_mem_zip hy).1 with q | q
    · exact .inl q
    · exact .inr ⟨q, PySem.W.cellsFrom_some _ _ _ (.inl q)⟩
  have hbt : BindsTo s (PySem.W.fnOf name qual params body scope dV kV doc pm an cdv ct) ⟨us, []⟩ (ps.zip us) := by
    have z := hb s us KX (by simpa using hlu)
    simpa using z
  refine codeAny_call_function hr.depth (KX _ _ lk) rfl S.co S.gen rfl (PySem.W.codeRec_of KX hcd) (hbt _ _ _ _ ?_)
  refine wpAny_newFunctionEnv_cells S.kind hkind fun env he s1 x => ?_
  subst he
  refine ⟨lim.keeps x.toInCall.keep, codeAny_func ?_⟩
  obtain ⟨t, ht, hq⟩ := hbody A outer s H vs Q E hg (hr.deeper _) hsp
  have I : Inv (cxOf CX P w K mg base N qual scope f cdv A outer s H E) [] (start N vs) H s1 := inv_start S hr.hd e0 hl r x
  have fin : ∀ {σ' : L2.St} {H' : Hp} {v : V} {u : Value} {s' : Shared}, Inv (cxOf CX P w K mg base N qual scope f cdv A outer s H E) [] σ' H' s' → RelV v u → Q v H' → CE outer P w H s Q u s' :=
    fun {σ' H' v u s'} J rv q => ⟨v, H', J.os, J.bare, J.base, J.hok, rv, q⟩
  refine wpAny_mono (ht.run [] s1 (start N vs) H _ I hq) (fun fl s' hs => ?_) fun e s' hs => hs
  match fl, hs with
  | .ret u, ⟨v, σ', H', J, rv, q⟩ => exact fin J rv q
  | .next, ⟨σ', H', J, q⟩ => exact fin (v := V.non) (u := Value.none) J rfl q
  | .brk, ⟨_, _, _, q⟩ => exact q.elim
  | .cont, ⟨_, _, _, q⟩ => exact q.elim
/-- a def that may raise, by positional values -/
theorem okGX {x qual : Str} {st : Stmt} {fd : FuncData} {N ps : List Str} (F : Fun K x qual st f fd) (S : FnScope N ps (defScope st)) (B : Bnd x qual st ps) (len : ∀ vs H Q E, sp vs H Q E → vs.length = ps.length)
    (hbody : ∀ (cdv : Value) (A : Around) (outer : List Env) (s : Shared) (H : Hp) (vs : List V) (Q : VK) (E : XK), (A.deeper (envOfC qual (defScope st) s.heap.objs.size f cdv)).guards = some [] → Room k (A.deeper (envOfC qual (defScope st) s.heap.objs.size f cdv)) → sp vs H Q E →
      ∃ t, PSs (cxOf CX P w K mg base N qual (defScope st) f cdv A outer s H E) (defBody st) t ∧ t { nx := fun _ H' => Q .non H', rt := Q } (start N vs) H) : FnG P w K mg base CX (k + 1) f sp := by
  have hb := F.binds B
  obtain ⟨oc, od, kV, doc, pm, an, cdv, ct, osl, rfl, lk, hcd⟩ := F.ex
  exact fnG_of lk hcd S hb len fun A outer s H vs Q E hg hr hsp => hbody cdv A outer s H vs Q E hg hr hsp
/-- a def that may raise, by positional values -/
theorem okX {x qual : Str} {st : Stmt} {fd : FuncData} {N ps : List Str} (F : Fun K x qual st f fd) (S : FnScope N ps (defScope st)) (B : Bnd x qual st ps) (len : ∀ vs H Q E, sp vs H Q E → vs.length = ps.length)
    (hbody : ∀ (cdv : Value) (A : Around) (outer : List Env) (s : Shared) (H : Hp) (vs : List V) (Q : VK) (E : XK), Room k (A.deeper (envOfC qual (defScope st) s.heap.objs.size f cdv)) → sp vs H Q E →
      ∃ t, PSs (cxOf (L2.CX P w) P w K mg base N qual (defScope st) f cdv A outer s H E) (defBody st) t ∧ t { nx := fun _ H' => Q .non H', rt := Q } (start N vs) H) : FnR P w K mg base (L2.CX P w) (k + 1) f sp := by
  have G := F.okX S len hbody
  have hb := F.binds B
  exact (G.raw hb .nil).imp fun vs H Q E h => by simpa using h
end
end XT

namespace XT
open PySem PySem.Spec PyProof.Rows L2
/-! ### several clauses «except X as n» behind one another -/
/-- the ways out of a suite that has bound slot i -/
def endsAs (i : Nat) (D : Ends) : Ends := { nx := fun σ' H' => D.nx (σ'.set i none) H', rt := D.rt, bk := fun σ' H' => D.bk (σ'.set i none) H', ct := fun σ' H' => D.ct (σ'.set i none) H' }
/-- what the clauses wish of an exception: class, slot, suite -/
def wAsL (K : PySem.W.Frag) (Wout : WX) (D : Ends) : List (Value × Nat × (Addr → Value → Option Addr → TS)) → WX
  | [] => Wout
  | (c, i, ts) :: r => fun cls d σ H => ∃ b, PySem.W.exmOne K cls c = some b ∧ (b = true → ∀ a, H a = none → ts a cls d (endsAs i D) (σ.set i (some (.ref a))) H) ∧ (b = false → wAsL K Wout D r cls d σ H)
/-- the written clauses, one by one -/
inductive AsOk (X : Cx) : List ExceptHandler → List (Value × Nat × (Addr → Value → Option Addr → TS)) → Prop
  | nil : AsOk X [] []
  | cons {x n : Str} {c : Value} {i : Nat} {ts : Addr → Value → Option Addr → TS} {b₀ : Stmt} {suite : List Stmt} {np pos' : Pos} {hds : List ExceptHandler} {l : List (Value × Nat × (Addr → Value → Option Addr → TS))} (hc : Names X x c)
      (hi : X.N[i]? = some n) (hln : X.env.kindOf n = some .local)
      (hsu : ∀ (a : Addr) (oe : Obj) (cls : Value) (d : Option Addr) (pn : List (Addr × Obj)), Zc cls d oe → (∃ vs, oe.data = .fields vs) → PSs (X.suite a ((a, oe) :: pn)) (b₀ :: suite) (ts a cls d)) (r : AsOk X hds l) :
      AsOk X (.ExceptHandler (some (.Name x np)) (some n) (b₀ :: suite) pos' :: hds) ((c, i, ts) :: l)
section
variable {X : Cx} {body : List Stmt} {h₀ : ExceptHandler} {hds : List ExceptHandler} {l : List (Value × Nat × (Addr → Value → Option Addr → TS))} {pos : Pos} {tb : WX → TS} {Wout : WX}
theorem ps_try_asL (hs : X.stack = X.env :: X.outer) (hf : X.env.frame = some X.env.locals) (hN : X.N.Nodup) (tk : Takes X Wout)
    (hb : ∀ (W : WX) (pn : List (Addr × Obj)) (xe : Value → Shared → Prop), Takes (X.tr pn xe) W → PassesOwn (model X.prog X.w) X.A X.env xe → PSs (X.tr pn xe) body (tb W))
    (hh : AsOk X (h₀ :: hds) l) : PS X (.Try body (h₀ :: hds) [] [] pos) (fun D σ H => tb (wAsL X.K Wout D l) D σ H) := by
  refine ⟨fun pins s σ H D I h => ?_⟩
  have ok := I.ok
  have hfr : X.A.frames = some (X.env :: X.outer) := ok.frames.trans (congrArg some hs)
  refine wpAny_Try_except ?_
  refine wpAny_mono ((hb (wAsL X.K Wout D l) (X.pn ++ pins) (fun e s₁ => wpAny (model X.prog X.w) X.A (noteFrame e X.env) (fun _ s₂ => wpAny (model X.prog X.w) X.A (setFlight e none) (fun _ s₃ =>
    wpAny (model X.prog X.w) X.A (handleBy e X.env (h₀ :: hds)) (SP X pins D) X.xe s₃) X.xe s₂) X.xe s₁) (fun u s' xx => ?_) PassesOwn.looking).run [] s σ H D (I.toTry _) h) (fun f s1 hsp => ?_) (fun e s1 he => he)
  · obtain ⟨a, B, sI, pins', σ', H', cls, d, rfl, J', nb, up, sky, na, os, ag, w⟩ := xx
    have J : Inv X pins σ' H' sI := J'.ofTry ok
    have sky' : Sky B (X.env :: X.outer) a (Zc cls d) X.env.locals s'.heap := hs ▸ sky
    show wpAny (model X.prog X.w) X.A (noteFrame (.ref a) X.env) _ _ _
    refine Sky.land Zc.steady hfr hf sky' fun h3 fl3 up3 => ?_
    have up13 := up.trans up3
    have J3 : Inv X pins σ' H' { s' with heap := h3 } := J.landed nb fl3.1 up13 os ag
    obtain ⟨oe3, vs3, he3, hz3, hd3⟩ := fl3.there
    have nfr : a ∉ frs (X.env :: X.outer) := fun hm => by
      obtain ⟨_, o', e', hnf⟩ := fl3.2.2.1.mem hm
      exact hnf _ (by rw [he3] at e'; cases e'; exact hd3)
    have nL : a ≠ X.env.locals := fun z => nfr (List.mem_filterMap.mpr ⟨X.env, List.mem_cons_self, hf.trans (congrArg some z.symm)⟩)
    have nF : a ∉ X.fs := fun hm => by
      obtain ⟨e, he, q⟩ := List.mem_filterMap.mp hm
      exact nfr (List.mem_filterMap.mpr ⟨e, List.mem_cons_of_mem _ he, q⟩)
    have S3 := J3.suite he3 hd3 na nL nF
    have LT : PySem.W.Looks (model X.prog X.w) h3 (typeOf (.ref a)) cls := fun A Q E s k q => wpAny_typeOf_ref (k _ _ he3) (hz3.1.symm ▸ q)
    have go : ∀ {hds' : List ExceptHandler} {l' : List (Value × Nat × (Addr → Value → Option Addr → TS))}, AsOk X hds' l' → wAsL X.K Wout D l' cls d σ' H' →
        wpAny (model X.prog X.w) X.A (handleBy (.ref a) X.env hds') (SP X pins D) X.xe { s' with heap := h3 } := by
      intro hds' l' hk
      induction hk with
      | nil =>
        intro w
        refine wpAny_handleBy_nil ?_
        obtain ⟨k1, k2, k3, oe, vs, T, oT, ts', he, hz, hd, h1, hr⟩ := id fl3
        unfold PySem.passOn
        refine wpAny_bind (wpAny_field he hd h1 ?_)
        rw [if_neg (show ¬ ((Value.ref T == Value.none) = true) from by simp)]
        have fin : wpAny (model X.prog X.w) X.A (setFlight (.ref a) X.env.frame) (fun _ s4 => wpAny (model X.prog X.w) X.A (throw (.ref a) : Sem Flow) (SP X pins D) X.xe s4) X.xe { s' with heap := h3 } := by
          rw [hf]
          exact HandSPX.setFlight_upZ fl3 fun h4 hh4 up4 => wpAny_throw (tk _ _ ⟨a, B, sI, pins, σ', H', cls, d, rfl, J, nb, up13.trans up4, .inr (.inr (by rw [hs]; exact hh4)), na, os, ag, w⟩)
        first
          | exact wpAny_bind (wpAny_pure (wpAny_bind fin))
          | exact wpAny_bind fin
      | @cons x n c i ts b₀ suite np pos' hds2 l2 hc hi hln hsu r ih =>
        intro w
        obtain ⟨b, hb1, hyes, hno⟩ := w
        refine wpAny_handleBy_cons (codeAny_handlers_test ?_) (by intro q; cases q)
        have LM := PySem.W.exm_one (M := model X.prog X.w) (J3.kIn) LT hb1
        have test : ∀ {Q : Value → Shared → Prop} {E : Value → Shared → Prop}, Q c { s' with heap := h3 } → wpAny (model X.prog X.w) (X.A.mark (some (.ref a))) (eval (.Name x np) X.env) Q E { s' with heap := h3 } := fun {Q E} q => by
          obtain ⟨hg, hdbg, hm | ⟨hm, hv, hnn⟩⟩ := hc
          · exact ld_glob (X := X.suite a ((a, oe3) :: (X.pn ++ pins))) S3 hg hm q hdbg
          · exact ld_blt (X := X.suite a ((a, oe3) :: (X.pn ++ pins))) S3 hg hm hv q hnn hdbg
        refine test (LM.here ?_)
        cases b with
        | true =>
          refine codeAny_handlers_suite_as ?_
          refine HandSPX.lands_againZ fl3 fun h4 fl4 up4 => ?_
          have J4 : Inv X pins σ' H' { s' with heap := h4 } := J.landed nb fl4.1 (up13.trans up4) os ag
          obtain ⟨oe4, vs4, he4, hz4, hd4⟩ := fl4.there
          have S4 := J4.suite he4 hd4 na nL nF
          refine store_ok (X := X.suite a ((a, oe4) :: (X.pn ++ pins))) (v := .ref a) S4 hN hi (.inl hln) rfl (fun s5 S5 => ?_) (.inr hln)
          refine wpAny_mono ((hsu a oe4 cls d (X.pn ++ pins) hz4 ⟨_, hd4⟩).run [] s5 _ H' _ S5 (hyes rfl a na)) (fun f s6 hsp => ?_) (fun _ _ z => False.elim z)
          have done_ : ∀ {σ6 : L2.St} {H6 : Hp} {Q : Shared → Prop}, Inv (X.suite a ((a, oe4) :: (X.pn ++ pins))) [] σ6 H6 s6 → (∀ s7, Inv X pins (σ6.set i none) H6 s7 → Q s7) →
              wpAny (model X.prog X.w) X.A (do bindName X.env n .none; unbindBehindTheSuite X.env n pos') (fun _ s7 => Q s7) X.xe s6 := fun {σ6 H6 Q} S6 hq => gone_ok (S6.unsuite ok) hN hi hln hq
          match f, hsp with
          | .next, ⟨σ6, H6, S6, q6⟩ => exact done_ S6 fun s7 J7 => ⟨_, _, J7, q6⟩
          | .brk, ⟨σ6, H6, S6, q6⟩ => exact done_ S6 fun s7 J7 => ⟨_, _, J7, q6⟩
          | .cont, ⟨σ6, H6, S6, q6⟩ => exact done_ S6 fun s7 J7 => ⟨_, _, J7, q6⟩
          | .ret u, ⟨v6, σ6, H6, S6, r6, q6⟩ => exact done_ S6 fun s7 J7 => ⟨_, _, _, J7, r6, q6⟩
        | false =>
          show wpAny _ X.A (handleBy (.ref a) X.env hds2) _ _ _
          exact ih (hno rfl)
    exact go hh w
  · match f, hsp with
    | .next, ⟨σ', H', J', q⟩ => exact wpAny_execs_nil ⟨σ', H', J'.ofTry ok, q⟩
    | .brk, ⟨σ', H', J', q⟩ => exact ⟨σ', H', J'.ofTry ok, q⟩
    | .cont, ⟨σ', H', J', q⟩ => exact ⟨σ', H', J'.ofTry ok, q⟩
    | .ret u, ⟨v, σ', H', J', r, q⟩ => exact ⟨v, σ', H', J'.ofTry ok, r, q⟩
end
end XT

namespace XT
open PySem PySem.Spec PyProof.Rows L2
/-! ### repr of data -/
mutual
/-- what the text of d may come to -/
def sc : PyData → Nat
  | .none | .bool _ => 5
  | .int _ => 1921
  | .str x => 10 * x.length + 2
  | .list xs | .tuple xs => scAll xs + 3
  | .dict _ => 2
def scAll : List PyData → Nat
  | [] => 0
  | x :: xs => sc x + 2 + scAll xs
end
mutual
/-- data whose text is known: ints not too big, dicts empty -/
def plainD : PyData → Bool
  | .none | .bool _ => true
  | .int i => decide (i.natAbs.log2 < 1920)
  | .str x => x.cps.toList.all fun c => decide (c < 16 ^ 8)
  | .list xs | .tuple xs => plainAll xs
  | .dict kvs => kvs.isEmpty
def plainAll : List PyData → Bool
  | [] => true
  | x :: xs => plainD x && plainAll xs
end
mutual
theorem plain_showable : ∀ d : PyData, plainD d = true → d.showable = true
  | .none, _ => by simp [PyData.showable]
  | .bool _, _ => by simp [PyData.showable]
  | .int i, h => by simpa [PyData.showable, plainD] using h
  | .str _, _ => by simp [PyData.showable]
  | .list xs, h => by
    simp only [PyData.showable]
    exact plainAll_showable xs (by simpa [plainD] using h)
  | .tuple xs, h => by
    simp only [PyData.showable]
    exact plainAll_showable xs (by simpa [plainD] using h)
  | .dict [], _ => by simp [PyData.showable, PyData.showableKv]
  | .dict (_ :: _), h => by simp [plainD] at h
theorem plainAll_showable : ∀ xs : List PyData, plainAll xs = true → PyData.showableAll xs = true
  | [], _ => by simp [PyData.showableAll]
  | x :: xs, h => by
    have h' : plainD x = true ∧ plainAll xs = true := by simpa [plainAll] using h
    simp only [PyData.showableAll, Bool.and_eq_true]
    exact ⟨plain_showable x h'.1, plainAll_showable xs h'.2⟩
end
mutual
theorem shown_sc : ∀ d : PyData, plainD d = true → d.shown.length ≤ sc d
  | .none, _ => by decide +kernel
  | .bool true, _ => by decide +kernel
  | .bool false, _ => by decide +kernel
  | .int i, h => by
    have e : i.natAbs.log2 < 1920 := by simpa [plainD] using h
    have := PySem.int_text_length_le (k := 1920) (by decide) e
    show (Str.ofString (toString i)).length ≤ 1921
    rw [PySem.ofString_length]
    exact this
  | .str x, h => by
    simp only [sc, PyData.shown]
    refine StrLaws.reprText_len x ?_
    unfold plainD at h
    rw [List.all_eq_true] at h
    exact fun c hc => of_decide_eq_true (h c hc)
  | .list xs, h => by
    simp only [sc, PyData.shown]
    have := shownAll_sc xs (by simpa [plainD] using h)
    have := listText_len_le (PyData.shownAll xs)
    omega
  | .tuple xs, h => by
    simp only [sc, PyData.shown]
    have := shownAll_sc xs (by simpa [plainD] using h)
    have := tupleText_len_le (PyData.shownAll xs)
    omega
  | .dict [], _ => by decide +kernel
  | .dict (_ :: _), h => by simp [plainD] at h
theorem shownAll_sc : ∀ xs : List PyData, plainAll xs = true → ((PyData.shownAll xs).map (·.length)).sum + 2 * (PyData.shownAll xs).length ≤ scAll xs
  | [], _ => by simp [PyData.shownAll, scAll]
  | x :: xs, h => by
    have h' : plainD x = true ∧ plainAll xs = true := by simpa [plainAll] using h
    have h1 := shown_sc x h'.1
    have h2 := shownAll_sc xs h'.2
    simp only [PyData.shownAll, scAll, List.map_cons, List.sum_cons, List.length_cons]
    omega
end
theorem scAll_ints (L : List Int) : scAll (L.map PyData.int) = 1923 * L.length := by
  induction L with
  | nil => rfl
  | cons x L ih => simp only [List.map_cons, scAll, ih, sc, List.length_cons]; omega
theorem log2_lt_of {m : Nat} (h : m < 2 ^ 1920) : m.log2 < 1920 := by
  by_cases e : m = 0
  · subst e
    decide
  · exact (Nat.log2_lt e).mpr h
theorem plainAll_ints {L : List Int} (h : ∀ x ∈ L, x.natAbs < 2 ^ 1920) : plainAll (L.map PyData.int) = true := by
  induction L with
  | nil => rfl
  | cons x L ih =>
    simp only [List.map_cons, plainAll, Bool.and_eq_true]
    refine ⟨?_, ih fun y hy => h y (List.mem_cons_of_mem _ hy)⟩
    simp only [plainD, decide_eq_true_eq]
    exact log2_lt_of (h x List.mem_cons_self)
/-- x stands for the data d: flat and nested lists and tuples; an empty dict alone, or second in a pair -/
def Rd (K : PySem.W.Frag) (H : Hp) (x : V) (d : PyData) : Prop :=
  (Dp K H x d ∧ d.hasDict = false) ∨ (∃ a, x = .ref a ∧ H a = some (.dK []) ∧ d = .dict []) ∨ ∃ (a b : Addr) (i : Int), x = .ref a ∧ SqT K H a [.int i, .ref b] ∧ H b = some (.dK []) ∧ d = .tuple [.int i, .dict []]
section
variable {X : Cx} {pins : List (Addr × Obj)} {σ : L2.St} {H : Hp} {s : Shared}
theorem emp_reads {a : Addr} (I : Inv X pins σ H s) (h : H a = some (.dK [])) : Reads s.heap (.ref a) (.dict []) [a] ∧ a ≠ sysModules := by
  obtain ⟨_, hs, vs, hkv, o, es, ep, ho, hx, hd, _, hp, _⟩ := I.hok a _ h
  have ev : vs = [] := by cases hkv; rfl
  subst ev
  have ee : es.toList = [] := by
    first
      | (cases hp; assumption)
      | (have := hp.length; simpa using this)
      | (generalize es.toList = l at hp; cases hp; rfl)
  refine ⟨?_, fun z => by subst z; simp at hs⟩
  have z := Reads.dict (kvs := []) (as := []) (bs := []) ho hx.1 hd (by rw [ee]; exact .nil) (by rw [ee]; exact .nil)
  simpa using z
theorem Rd.reads {x : V} {u : Value} {d : PyData} (I : Inv X pins σ H s) (h : Rd X.K H x d) (r : RelV x u) : ∃ as, Reads s.heap u d as ∧ (d.hasDict = true → sysModules ∉ as) := by
  rcases h with ⟨h, hn⟩ | ⟨a, rfl, h, rfl⟩ | ⟨a, b, i, rfl, ht, h, rfl⟩
  · obtain ⟨as, q⟩ := Dp.reads I d x u h r
    exact ⟨as, q, PyData.noDict_hsm hn⟩
  · cases r
    obtain ⟨q, ne⟩ := emp_reads I h
    exact ⟨_, q, fun _ z => ne (List.mem_singleton.mp z).symm⟩
  · cases r
    obtain ⟨q, ne⟩ := emp_reads I h
    obtain ⟨its, rv, ⟨o, ho, hc, n, hd⟩, _⟩ := I.tuple ht
    cases rv with
    | cons r1 rr =>
      cases rr with
      | cons r2 rr =>
        cases rr
        obtain ⟨t, rfl⟩ := r1
        cases r2
        refine ⟨_, Reads.tuple ho hc hd (.cons (.int i t) (.cons q .nil)), fun _ z => ?_⟩
        simp at z
        exact ne z.symm
/-- repr(x) of data -/
def rReprD (K : PySem.W.Frag) : List V → Hp → VK → Prop := fun xs H Q => ∃ x d, xs = [x] ∧ Rd K H x d ∧ plainD d = true ∧ d.depth ≤ 50 ∧ sc d ≤ 16000000 ∧ Q (.str d.shown) H
theorem call_reprD (hg : X.A.guards = some []) (hu : X.A.units + 64 < cLine) : CallR X (.builtin "repr") (rReprD X.K) := by
  intro pins s σ H xs us Q I r h
  obtain ⟨x, d, rfl, hr, hp, hd, hz, q⟩ := h
  obtain ⟨u, rfl, ru⟩ := r.one
  obtain ⟨as, hre, hsm⟩ := hr.reads I ru
  have hsz : d.shown.length ≤ sizeLine := by
    have := shown_sc d hp
    rw [sizeLine_eq]
    omega
  have fin : ∀ h' v tk, (∀ b o, s.heap.get? b = some o → h'.get? b = some o) → EP X pins σ Q (.str d.shown v) { s with heap := h', toks := tk } := fun h' v tk k => ⟨.str d.shown, H, I.kept (t' := tk) k, ⟨v, rfl⟩, q⟩
  cases hre with
  | none => exact PySem.P.repr_of_none (fin s.heap _ _ fun _ _ z => z)
  | bool b => exact PySem.P.repr_of_bool (by cases b <;> exact fin s.heap _ _ fun _ _ z => z)
  | int i t => exact PySem.P.repr_of_int (by simpa [plainD] using hp) (fin s.heap _ _ fun _ _ z => z)
  | str y t => exact PySem.P.repr_of_str (fin s.heap _ _ fun _ _ z => z) hsz
  | list h1 h2 h3 h4 => exact repr_of_reads' (.list h1 h2 h3 h4) (plain_showable _ hp) hsm hg (by omega) (fun _ _ z => z) fin hsz
  | tuple h1 h2 h3 h4 => exact repr_of_reads' (.tuple h1 h2 h3 h4) (plain_showable _ hp) hsm hg (by omega) (fun _ _ z => z) fin hsz
  | dict h1 h2 h3 h4 h5 => exact repr_of_reads' (.dict h1 h2 h3 h4 h5) (plain_showable _ hp) hsm hg (by omega) (fun _ _ z => z) fin hsz
end
end XT

namespace XT
open PySem PySem.Spec PyProof.Rows L2
/-! ### the law's call, no repr under way at its start -/
section
variable {P : Program} {w : World} {K : PySem.W.Frag} {mg mb : Str → Option Value} {CX : CXT} {k : Nat} {fa a : Addr} {sp : Sp} {s₁ : Shared} {vs : List Value} {ns : List Int}
/-- from one abstract heap: nothing but the script is tracked -/
theorem law_coreG (H : Hp) (KX : K.In s₁.heap) (hns : s₁.heap.Ns mainGlobals mg) (hb : s₁.heap.Ns builtinsNs mb) (hbb : ∀ x : Str, x ≠ "__name__" → mb x = bootBuiltins x) (hlim : s₁.heap.NoLimit) (hg : s₁.gens = #[])
    (ha : s₁.heap.get? a = some { cls := .type "list", data := .seq vs.toArray }) (hr : Room k callerA)
    (F : ∀ base : Heap, K.In base → base.Ns mainGlobals mg → FnG P w K mg base CX k fa sp)
    (hq : sp [.ref a] H (fun v _ => v = .bl true) fun _ _ _ => False) (hCX : ∀ H e s', CX [] H s₁ (fun _ _ _ => False) e s' → False)
    (hO : Only H) (hok : HOk P w H s₁.heap) (hA : ∀ b, H b ≠ none → b = a) (hK : H a ≠ none → K.lookup a = none) :
    codeAny (model P w) callerA (.call (.ref fa) ⟨[.ref a], []⟩) (fun r s' => r = .ok (.ret (.bool true)) ∧ OldK s₁.heap s'.heap ∧ s'.os = s₁.os ∧ AllBare s'.gens) s₁ := by
  have free : ∀ {b : Addr}, (b = a → False) → H b = none := fun {b} h => by
    by_cases q : H b = none
    · exact q
    · exact (h (hA b q)).elim
  have noA : ∀ {b : Addr} {o : Obj} {es : Array DictEntry} {ep : Nat}, s₁.heap.get? b = some o → o.data = .dict es ep → H b = none := fun {b o es ep} e d => free fun z => by
    subst z
    rw [ha] at e
    cases e
    have d' : Data.seq vs.toArray _ = Data.dict es ep := d
    cases d'
  have hKb : K.In (hidT s₁.heap H) := fun b o e => hidT_get (KX b o e) (by
    by_cases q : H b = none
    · exact q
    · have z := hA b q
      subst z
      rw [hK q] at e
      cases e)
  have nsK : ∀ {b : Addr} {m : Str → Option Value}, s₁.heap.Ns b m → (hidT s₁.heap H).Ns b m := fun {b m} ⟨o, es, ep, e, d, r⟩ => ⟨o, es, ep, hidT_get e (noA e d), d, r⟩
  have hM : Mod K mg (hidT s₁.heap H) := ⟨hKb, nsK hns, ⟨mb, nsK hb, hbb⟩, let ⟨mc, h1, h2⟩ := hlim; ⟨mc, nsK h1, h2⟩⟩
  have e0 : Env0 P w K mg (hidT s₁.heap H) callerA [] s₁ H := ⟨rfl, hM, fun b o e => of_hidT e, Nat.le_of_eq (hidT_size _ _), trivial, fun b hb => absurd (show b ∈ ([] : List Addr) from hb) (by simp), hok, .of_eq hg⟩
  refine codeAny_mono (F _ hKb (nsK hns) callerA [] s₁ H [.ref a] [.ref a] _ _ rfl hr e0 (.cons rfl .nil) hq) fun r s' h => ?_
  match r, h with
  | .error e, h => exact (hCX H e s' h).elim
  | .ok (.ret u), ⟨v, H', os, bare, un, hok', r', q⟩ =>
    have q' : v = .bl true := q
    subst q'
    obtain rfl : u = Value.bool true := r'
    refine ⟨rfl, OldK.of_keep fun b o e => ?_, os, bare⟩
    cases q : H b with
    | none => exact un.keep b o e q (by intro z; exact absurd (show b ∈ ([] : List Addr) from z) (by simp)) (by simp)
    | some u =>
      rcases hO b with z | ⟨ob, xs, z⟩
      · rw [q] at z
        cases z
      · obtain ⟨e1, _⟩ := hok b _ z
        obtain ⟨e2, _⟩ := hok' b _ (un.frzs b ob _ z)
        rw [e] at e1
        cases e1
        exact e2
theorem law_callG (KX : K.In s₁.heap) (hns : s₁.heap.Ns mainGlobals mg) (hb : s₁.heap.Ns builtinsNs mb) (hbb : ∀ x : Str, x ≠ "__name__" → mb x = bootBuiltins x) (hlim : s₁.heap.NoLimit) (hg : s₁.gens = #[])
    (ha : s₁.heap.get? a = some { cls := .type "list", data := .seq vs.toArray }) (hi : IntsAre vs ns) (hl : ns.length ≤ sizeLine) (hr : Room k callerA)
    (F : ∀ base : Heap, K.In base → base.Ns mainGlobals mg → FnG P w K mg base CX k fa sp)
    (hsp : ∀ H : Hp, Only H → SqL K H a (ns.map V.int) → sp [.ref a] H (fun v _ => v = .bl true) fun _ _ _ => False)
    (hCX : ∀ H e s', CX [] H s₁ (fun _ _ _ => False) e s' → False) :
    codeAny (model P w) callerA (.call (.ref fa) ⟨[.ref a], []⟩) (fun r s' => r = .ok (.ret (.bool true)) ∧ OldK s₁.heap s'.heap ∧ s'.os = s₁.os ∧ AllBare s'.gens) s₁ := by
  have rv := vals_ints hi
  have lenV := hi.length
  cases hk : K.lookup a with
  | some o =>
    have e := KX a o hk
    rw [ha] at e
    cases e
    have hO : Only fun _ => none := fun _ => .inl rfl
    exact law_coreG (fun _ => none) KX hns hb hbb hlim hg ha hr F (hsp _ hO (.inr ⟨_, vs.toArray, _, hk, rfl, rfl, rfl, by rw [List.size_toArray, lenV]; exact hl, by simpa using rv⟩)) hCX hO (fun b u z => nomatch (show (none : Option HO) = some u from z)) (fun b z => absurd rfl z) fun z => absurd rfl z
  | none =>
    let o : HO := .frz { cls := .type "list", data := .seq vs.toArray } (.lst (ns.map V.int))
    let H : Hp := fun b => if b = a then some o else none
    have at_ : H a = some o := if_pos rfl
    have off : ∀ {b}, b ≠ a → H b = none := fun h => if_neg h
    have hO : Only H := fun b => by
      by_cases e : b = a
      · subst e
        exact .inr ⟨_, _, at_⟩
      · exact .inl (off e)
    refine law_coreG H KX hns hb hbb hlim hg ha hr F (hsp H hO (.inl (.inr ⟨_, at_⟩))) hCX hO (fun b u z => ?_) (fun b z => ?_) fun _ => hk
    · by_cases e : b = a
      · subst e
        rw [at_] at z
        cases z
        exact ⟨ha, by rw [List.length_map]; exact hl, vs, _, rv, ha⟩
      · rw [off e] at z
        cases z
    · by_cases e : b = a
      · exact e
      · exact absurd (off e) z
end
/-- the goal of the head, from the law's promise -/
theorem walkG {l : PySem.W.OpenLaw} {n k : Nat} {q : Program} {loose : List Str} {XP : (Str → Option Value) → Heap → Prop} {YP : World → Heap → Prop} {d : DefRec} {K : Params → PySem.W.Frag} {CX : World → CXT} {sp : World → Sp}
    (hn : l.most = some n) (hn2 : n ≤ sizeLine) (hdf : d.params.defaults = []) (hr : Room k callerA)
    (hY : ∀ (w : World) (h : Heap), YP w h → (K w.params).In h)
    (F : ∀ (w : World) (mg : Str → Option Value) (fa : Addr) (h : Heap), (K w.params).In h → h.Ns mainGlobals mg → mg d.name = some (.ref fa) →
      ∀ base : Heap, (K w.params).In base → base.Ns mainGlobals mg → FnG l.prog w (K w.params) mg base (CX w) k fa (sp w))
    (hsp : ∀ (w : World) (H : Hp) (a : Addr) (ns : List Int), ns.length ≤ n → Only H → SqL (K w.params) H a (ns.map V.int) → sp w [.ref a] H (fun v _ => v = .bl true) fun _ _ _ => False)
    (hCX : ∀ (w : World) (H : Hp) (s : Shared) (e : Value) (s' : Shared), CX w [] H s (fun _ _ _ => False) e s' → False) :
    PySem.W.WalkO q loose XP YP l.row.toRowW d [] (fun f vs => PySem.call f vs) := by
  refine Att.attach_call hn hdf fun w s₀ s₁ mg mb fa o pm cd doc a vs ns G Y ho hd hcd hmg hobj hints hlen hg => ?_
  have KX := hY w _ Y
  exact law_callG KX G.T.g G.T.b G.T.builtins G.T.nolimit hg hobj hints (Nat.le_trans hlen hn2) hr (F w mg fa _ KX G.T.g hmg) (fun H hO hS => hsp w H a ns hlen hO hS) fun H e s' => hCX w H s₁ e s'
end XT

namespace XT
open PySem PySem.Spec PyProof.Rows L2
/-! ### own errors that keep one field -/
section
variable {X : Cx}
/-- isinstance(e, c), e the exception that the suite holds, with a dict of its own -/
def rIsED (K : PySem.W.Frag) (D a : Addr) (cls : Value) (d : Option Addr) : List V → Hp → VK → Prop := fun xs H Q => ∃ (c : V) (cv : Value) (b : Bool) (dd : Addr) (fs : List (Str × V)), xs = [.ref a, c] ∧ cls = .ref D ∧ (∀ u, RelV c u → u = cv) ∧ d = some dd ∧ H dd = some (.xd fs) ∧ PySem.W.kitOne K (.ref D) cv = some b ∧ Q (.bl b) H
theorem call_isED {a D : Addr} {oe : Obj} {cls : Value} {d : Option Addr} {pn : List (Addr × Obj)} (C : ExcC X.K D) (hz : Zc cls d oe) (hf : ∃ vs, oe.data = .fields vs) : CallR (X.suite a ((a, oe) :: pn)) (.builtin "isinstance") (rIsED X.K D a cls d) := by
  intro pins s σ H xs us Q I r h
  obtain ⟨c, cv, b, dd, fs, rfl, rfl, hcv, rfl, ed, e, q⟩ := h
  cases r with
  | cons rx rr =>
    cases rr with
    | cons rt rr =>
      cases rr
      cases rx
      have ec := hcv _ rt
      subst ec
      obtain ⟨hget, _⟩ := I.pin (a, oe) (List.mem_append.mpr (.inl List.mem_cons_self))
      obtain ⟨vs, hv⟩ := hf
      obtain ⟨mA, hns, hr⟩ := show ∃ mA, s.heap.Ns1 dd mA ∧ ∀ f, RelO (fs.lookup f) (mA f) from I.hok dd _ ed
      obtain ⟨od, ho, _⟩ := lookIn_ns hns
      have J : PySem.W.InstAt s.heap a oe D (some od) := ⟨hget, hz.1, by unfold PySem.W.notCls; rw [hv] <;> rfl, by rw [hz.2]; exact ho⟩
      have hc : (PySem.W.clsIn X.K D).isSome = true := by
        obtain ⟨cd, hc, _⟩ := PySem.W.any_some C.hd
        rw [hc]
        rfl
      exact PySem.W.kia_one (PySem.W.kitx_exc hc C.hg C.hk C.hs C.ha C.hn C.ht C.hm) I.kIn J e (fun z => nomatch z) fun tk => ⟨.bl b, H, I.kept (t' := tk) fun _ _ z => z, rfl, q⟩
end
/-- the __init__ of such an error: self.f = v -/
def spErr (f : Str) (C : Addr) : Sp := fun vs H Q _ => ∃ (a : Addr) (v : V), vs = [.ref a, v] ∧ H a = some (exo a C none) ∧ ∀ d, H d = none → d ≠ a → Q .non (upd (upd H d (exd d [(f, v)])) a (exo a C (some d)))
/-- what the written part says of such an error -/
structure ErrC (K : PySem.W.Frag) (C fI : Addr) (f : Str) : Prop where
  oex : OexC K C
  iC : PySem.W.findIn K (.ref C) "__init__" = some (some (.ref fI))
  tI : PySem.W.typeIn K (.ref fI) = some (.type "function")
  no : PySem.W.findIn K (.ref C) f = some none
  ga : PySem.W.findIn K (.ref C) "__getattribute__" = some (some (.builtin "BaseException.__getattribute__"))
  gg : PySem.W.findIn K (.ref C) "__getattr__" = some none
  hd : PySem.W.hasDictIn K C = true
  ha : PySem.W.findIn K (.ref C) "__class__" = some (some (.builtin "object.__class__"))
  hn : PySem.W.specialIn K (.builtin "object.__class__") "__get__" = some (some (.builtin "getset_descriptor.__get__"))
  ht : PySem.W.takesIn K (.builtin "object.__class__") = some true
  hm : PySem.W.mroIn K C (.type "object") = some true
theorem ErrC.xf {K : PySem.W.Frag} {C fI : Addr} {f : Str} (T : ErrC K C fI f) : XfC K C := ⟨T.ga, T.gg, T.oex.exC, T.hd⟩
theorem ErrC.exc {K : PySem.W.Frag} {C fI : Addr} {f : Str} (T : ErrC K C fI f) : ExcC K C := ⟨T.ga, T.gg, T.oex.exC, T.hd, T.ha, T.hn, T.ht, T.hm⟩
theorem made_same {H : Hp} {a d C : Addr} {f : Str} {v : V} (ha : H a = none) (hd : d ≠ a) :
    upd (del (upd (upd (upd H a (exo a C none)) d (exd d [(f, v)])) a (exo a C (some d))) a) d (.xd [(f, v)]) = upd H d (.xd [(f, v)]) := by
  funext b
  by_cases e1 : b = d
  · subst e1
    rw [upd_same, upd_same]
  · rw [upd_ne e1, upd_ne e1]
    by_cases e2 : b = a
    · subst e2
      rw [del_same, ha]
    · rw [del_ne e2, upd_ne e2, upd_ne e1, upd_ne e2]
section
variable {X : Cx}
/-- C(e), the error made -/
def tErr (C : Addr) (f : Str) (te : TE) : L2.St → Hp → XK → Prop := fun σ H Q => te σ H fun v H1 => tMkO C (spErr f C) [] (fun _ H Q => Q [v] H) σ H1 Q
theorem err_rd {C : Addr} {f : Str} {v : V} {σ : L2.St} {H : Hp} {Q : XK} (h : ∀ d, H d = none → Q (.ref C) (some d) (upd H d (.xd [(f, v)]))) : tMkO C (spErr f C) [] (fun _ H Q => Q [v] H) σ H Q := by
  refine ⟨by simp, fun a ha => ⟨a, v, rfl, upd_same, fun d hd hne => ⟨rfl, d, [(f, v)], upd_same, ?_, ?_, ?_⟩⟩⟩
  · rw [upd_ne hne, upd_same]
  · rw [upd_ne hne] at hd
    exact hd
  · have hd' : H d = none := by
      rw [upd_ne hne] at hd
      exact hd
    rw [made_same ha hne]
    exact h d hd'
theorem pmk_err {x : Str} {C fI : Addr} {f : Str} {k : Nat} {fd : FuncData} {ps : List Str} {e : Expr} {te : TE} {p pos : Pos} (T : ErrC X.K C fI f) (F1 : FnOk X.prog X.w X.K X.mg X.base CX0 k fI fd ps (spErr f C)) (hb : Binds X.K fd ps []) (hr : Room (k + 1) X.A)
    (hg : Gl X x) (hm : X.mg x = some (.ref C)) (he : PE X e te) (hdb : (x == ("__debug__" : Str)) = false := by decide)
    (hs : starEach [e] X.env = (false, eval e X.env) :: starEach [] X.env := by rfl) (hpl : (backTo pos (starEach [] X.env)).any (·.1) = false := by rfl) :
    PMk X (.Call (.Name x p) [e] [] pos) (tErr C f te) :=
  pmk_oex T.oex T.iC T.tI F1 hr hb .nil pass0 hg hm (pa_cons he pa_nil hs) hdb hs hpl
/-- raise C(e) in a def -/
theorem ps_raiseE {W : WX} {x : Str} {C fI : Addr} {f : Str} {k : Nat} {fd : FuncData} {ps : List Str} {e : Expr} {te : TE} {p pos rpos : Pos} (T : ErrC X.K C fI f) (F1 : FnOk X.prog X.w X.K X.mg X.base CX0 k fI fd ps (spErr f C)) (hb : Binds X.K fd ps []) (hr : Room (k + 1) X.A)
    (hm : X.mg x = some (.ref C)) (hc : X.calm = true) (tk : Takes X W) (he : PE X e te) (hg : Gl X x := by rfl) (hdb : (x == ("__debug__" : Str)) = false := by decide)
    (hs : starEach [e] X.env = (false, eval e X.env) :: starEach [] X.env := by rfl) (hpl : (backTo pos (starEach [] X.env)).any (·.1) = false := by rfl) :
    PS X (.Raise (some (.Call (.Name x p) [e] [] pos)) none rpos) (fun _ σ H => tErr C f te σ H fun cls d H' => W cls d σ H') :=
  ps_raise hc tk (pmk_err T F1 hb hr hg hm he hdb hs hpl)
end
end XT

namespace XT
open PySem PySem.Spec PyProof.Rows L2
section
variable {P : Program} {w : World} {K : PySem.W.Frag} {mg : Str → Option Value} {base : Heap} {CX : CXT} {j k : Nat} {f : Addr} {sp sp' : Sp}
/-- a def that lets nothing out, where something may be let out -/
theorem fnR_lift (F : FnR P w K mg base CX0 k f sp) : FnR P w K mg base CX k f sp := fun A outer s H us vs Q E hr e0 r hs =>
  codeAny_mono (F A outer s H us vs Q E hr e0 r hs) fun r s' h => by
    match r, h with
    | .ok (.ret u), h => exact h
    | .error e, h => exact False.elim h
theorem fnR_or (F : FnR P w K mg base CX k f sp) (G : FnR P w K mg base CX k f sp') : FnR P w K mg base CX k f (fun vs H Q E => sp vs H Q E ∨ sp' vs H Q E) := fun A outer s H us vs Q E hr e0 r hs =>
  hs.elim (fun h => F A outer s H us vs Q E hr e0 r h) (fun h => G A outer s H us vs Q E hr e0 r h)
end
/-- what a call in a try may let out: told for all slots -/
theorem passAll {X : Cx} {W : WX} (tk : Takes X W) (n : Nat) (hn : X.N.length = n) : Passes (L2.CX X.prog X.w) X (fun cls d H => ∀ σ : L2.St, σ.length = n → W cls d σ H) :=
  fun _ σ _ _ e s' I c => tk e s' (XE.of_call I (fun _ _ _ h => h σ (I.len.trans hn)) c)
mutual
theorem dp_same {K : PySem.W.Frag} {H H' : Hp} (s : Same H H') : ∀ (d : PyData) (v : V), Dp K H v d → Dp K H' v d
  | .none, _, h => by cases h; exact .non
  | .bool b, _, h => by cases h; exact .bl b
  | .int i, _, h => by cases h; exact .int i
  | .str x, _, h => by cases h; exact .str x
  | .list ds, _, h => by
    cases h with
    | lst hs ha => exact .lst (s.seq hs) (dpAll_same s ds _ ha)
  | .tuple ds, _, h => by
    cases h with
    | tup hs ha => exact .tup (same_seqT s hs) (dpAll_same s ds _ ha)
  | .dict _, _, h => by cases h
theorem dpAll_same {K : PySem.W.Frag} {H H' : Hp} (s : Same H H') : ∀ (ds : List PyData) (vs : List V), DpAll K H vs ds → DpAll K H' vs ds
  | [], _, h => by cases h; exact .nil
  | d :: ds, _, h => by
    cases h with
    | cons h1 h2 => exact .cons (dp_same s d _ h1) (dpAll_same s ds _ h2)
end
theorem rd_same {K : PySem.W.Frag} {H H' : Hp} (s : Same H H') {v : V} {d : PyData} (h : Rd K H v d) : Rd K H' v d := by
  rcases h with ⟨h, n⟩ | ⟨a, e, h, e2⟩ | ⟨a, b, i, e, h1, h2, e2⟩
  · exact .inl ⟨dp_same s d v h, n⟩
  · exact .inr (.inl ⟨a, e, s _ _ h, e2⟩)
  · exact .inr (.inr ⟨a, b, i, e, same_seqT s h1, s _ _ h2, e2⟩)
/-- data whose text may be asked for -/
structure Okd (d : PyData) : Prop where
  pl : plainD d = true
  dp : d.depth ≤ 50
  sz : sc d ≤ 16000000
theorem repr_rd {K : PySem.W.Frag} {x : V} {d : PyData} {H : Hp} {Q : VK} (h : Rd K H x d) (o : Okd d) (q : Q (.str d.shown) H) : rReprD K [x] H Q := ⟨x, d, rfl, h, o.pl, o.dp, o.sz, q⟩
section
variable {X : Cx} (K : PySem.W.Frag)
theorem reprKx (hg : X.A.guards = some []) (hu : X.A.units + 64 < cLine) (hK : X.K = K := by rfl) : CallR X (.builtin "repr") (rReprD K) := by
  subst hK
  exact call_reprD hg hu
theorem isEKx {a D : Addr} {oe : Obj} {cls : Value} {d : Option Addr} {pn : List (Addr × Obj)} (C : ExcC K D) (hz : Zc cls d oe) (hf : ∃ vs, oe.data = .fields vs) (hK : X.K = K := by rfl) : CallR (X.suite a ((a, oe) :: pn)) (.builtin "isinstance") (rIsED K D a cls d) := by
  subst hK
  exact call_isED C hz hf
end
section
variable {X : Cx}
/-- f(e, ..), f an expression that gives a tracked instance of C -/
def tCallI (C : Addr) (sp : Sp) (E : XK) (tf : TE) (t : TA) : TE := fun σ H Q => tf σ H fun y H1 => ∃ a, y = V.ref a ∧ t σ H1 fun vs H2 => InsA H2 a C ∧ sp (V.ref a :: vs) H2 Q E
theorem pe_callI {CX : CXT} {C : Addr} {k : Nat} {sp : Sp} {E : XK} {fe e : Expr} {es : List Expr} {tf : TE} {t : TA} {pos : Pos} {g : Addr} (hf : PE X fe tf) (c : StX.CallO X.K C g) (F : FnR X.prog X.w X.K X.mg X.base CX k g sp) (hr : Room k X.A) (hx : Passes CX X E) (ha : PA X (e :: es) t)
    (ht : eval (.Call fe (e :: es) [] pos) X.env = (do callWith pos (← eval fe X.env) [] (backTo pos (starEach (e :: es) X.env)) (backToKw pos (keywordEach [] X.env))) := by rfl)
    (he : starEach (e :: es) X.env = (false, eval e X.env) :: starEach es X.env := by rfl) (hpl : (backTo pos (starEach es X.env)).any (·.1) = false := by rfl) : PE X (.Call fe (e :: es) [] pos) (tCallI C sp E tf t) := by
  refine ⟨fun pins s σ H Q I h => ?_⟩
  refine Call_ (thn (hf.run pins s σ H _ I h) fun u s1 ⟨y, H1, I1, ry, a, ey, q⟩ => ?_) ht
  subst ey
  obtain rfl : u = Value.ref a := ry
  refine StX.callO_with (thn (ha.run pos pins s1 σ H1 _ I1 q) fun us s2 ⟨vs, H2, I2, r, hi, q2⟩ => ?_) he hpl
  have hi' : StX.InsC X H2 a C := let ⟨dx, fs, h⟩ := hi; .inr ⟨dx, fs, h⟩
  obtain ⟨ox, od, J, hd⟩ := StX.insC_at I2 hi'
  exact ⟨⟨C, ox, od, J, hd⟩, StX.run_callO c F hr hx I2 hi' r q2⟩
/-- f(e, ..), f a global def with a promise where no repr is under way -/
theorem pe_callG {CX : CXT} {k : Nat} {f : Addr} {sp : Sp} {E : XK} {x : Str} {e : Expr} {es : List Expr} {t : TA} {p pos : Pos} (F : FnG X.prog X.w X.K X.mg X.base CX k f sp) (hgu : X.A.guards = some []) (hr : Room k X.A) (hg : Gl X x) (hm : X.mg x = some (.ref f)) (hk : PySem.W.keepIn X.K (.ref f) = true) (hx : Passes CX X E) (ha : PA X (e :: es) t) (hd : (x == ("__debug__" : Str)) = false := by decide)
    (he : starEach (e :: es) X.env = (false, eval e X.env) :: starEach es X.env := by rfl) (hst : (backTo pos (starEach es X.env)).any (·.1) = false := by rfl) :
    PE X (.Call (.Name x p) (e :: es) [] pos) (tCallR sp E t) := by
  refine ⟨fun pins s σ H Q I h => ?_⟩
  refine wpAny_Call_Name_kw (ld_glob I hg hm ?_ hd)
  refine PySem.W.callWith_K (h₀ := X.base) I.ok.mod.kin hk (thn (ha.run pos pins s σ H _ I h) fun us s1 ⟨vs, H1, I1, r, q⟩ => ⟨I1.kIn, ?_⟩) he hst
  refine wpAny_call (codeAny_mono (F X.A X.stack s1 H1 us vs Q E hgu hr I1.env0 r q) fun r s' hq => ?_)
  match r, hq with
  | .error e, hq => exact hx pins σ H1 s1 e s' I1 hq
  | .ok (.ret u), hq => exact I1.after hq
end
end XT

namespace XT
open PySem PySem.Spec PyProof.Rows L2
section
variable {X : Cx} (K : PySem.W.Frag)
/-- x == y, x of an own class with __eq__, y of another type -/
def rOwnEo (K : PySem.W.Frag) (C : Addr) (sp : Sp) (E : XK) : R2 := fun x y H Q => ∃ a t, x = .ref a ∧ InsA H a C ∧ TyX K H y t ∧ PySem.W.notFirst K C t = true ∧ sp [x, y] H Q E
theorem op_ownEo {CX : CXT} {n : Nat} {C g : Addr} {sp : Sp} {E : XK} (hs : PySem.W.findIn X.K (.ref C) "__eq__" = some (some (.ref g))) (hf : PySem.W.isFn X.K (.ref g) = true) (F : FnR X.prog X.w X.K X.mg X.base CX n g sp)
    (hr : Room n X.A) (hx : Passes CX X E) : OpR X (compareOp .Eq) (rOwnEo X.K C sp E) := by
  intro pins s σ H x y v u Q I rx ry h
  obtain ⟨a, t, rfl, ha, ht, hn, q⟩ := h
  cases (show v = Value.ref a from rx)
  obtain ⟨ox, od, J⟩ := insA_at I ha
  obtain ⟨Z, kz, hz, _⟩ := kit_of I ry ht
  obtain ⟨m, hF⟩ := I.fr
  show wpAny _ _ (richCompare .Eq _ _) _ _ _
  refine PySem.W.cmp_K (op := .Eq) (tb := t) hr.units0 hF I.ok.mod.kin J (kz.ty _ _ I.kIn hz) hn hs hf ?_
  refine wpAny_mono (wpAny_call (run_fnR (us := [.ref a, u]) (vs := [.ref a, y]) F hr hx I (.cons rfl (.cons ry .nil)) q)) (fun w s' z => ?_) fun _ _ x => x
  obtain ⟨z', H', I', rz, qz⟩ := z
  exact SlX.cmpback rz ⟨z', H', I', rz, qz⟩
theorem op_ownEoK {CX : CXT} {n : Nat} {C g : Addr} {sp : Sp} {E : XK} (hs : PySem.W.findIn K (.ref C) "__eq__" = some (some (.ref g))) (hf : PySem.W.isFn K (.ref g) = true) (F : FnR X.prog X.w K X.mg X.base CX n g sp)
    (hr : Room n X.A) (hx : Passes CX X E) (hK : X.K = K := by rfl) : OpR X (compareOp .Eq) (rOwnEo K C sp E) := by
  subst hK
  exact op_ownEo hs hf F hr hx
/-- not x, x of an own class with __bool__ -/
def tNotO (C : Addr) (sp : Sp) (E : XK) (ta : TE) : TE := fun σ H Q => ta σ H fun x H1 => ∃ a, x = .ref a ∧ InsA H1 a C ∧ sp [x] H1 (fun z H2 => ∃ b, z = .bl b ∧ Q (.bl (!b)) H2) E
theorem pe_notO {CX : CXT} {n : Nat} {C g : Addr} {sp : Sp} {E : XK} {e : Expr} {pos : Pos} {ta : TE} (he : PE X e ta) (hs : PySem.W.findIn X.K (.ref C) "__bool__" = some (some (.ref g))) (hf : PySem.W.isFn X.K (.ref g) = true)
    (F : FnR X.prog X.w X.K X.mg X.base CX n g sp) (hr : Room n X.A) (hx : Passes CX X E) : PE X (.UnaryOp .Not e pos) (tNotO C sp E ta) := by
  refine ⟨fun pins s σ H Q I h => ?_⟩
  refine UnaryOp_ (thn (he.run pins s σ H _ I h) fun v s1 ⟨x, H1, I1, r1, q1⟩ => ?_)
  obtain ⟨a, rfl, ha, q⟩ := q1
  cases (show v = Value.ref a from r1)
  obtain ⟨ox, od, J⟩ := insA_at I1 ha
  refine not_of ?_
  unfold truthy
  refine wpAny_bind (m := callSpecial? (.ref a) (Str.ofString "__bool__")) (PySem.W.special_fn I1.kIn J hs (beq_iff_eq.mp hf) (wpAny_mono (wpAny_call (run_fnR (us := [.ref a]) (vs := [.ref a]) F hr hx I1 (.cons rfl .nil) q)) (fun r s' hr => ?_) fun _ _ y => y))
  obtain ⟨z, H', I', rz, b, rfl, hq⟩ := hr
  cases (show r = Value.bool b from rz)
  exact wpAny_pure ⟨.bl (!b), H', I', rfl, hq⟩
end
/-- isinstance of a value of another type -/
theorem kit_other {K : PySem.W.Frag} {C : Addr} {n : String} {b : Bool} (hc : (PySem.W.clsIn K C).isSome = true) (ht : PySem.W.typeIn K (.ref C) = some (.type "type")) (hs : PySem.W.subIn K (.type n) (.ref C) = some b) : PySem.W.kitOne K (.type n) (.ref C) = some b := by
  simp [PySem.W.kitOne, PySem.W.kitCls, hc, ht, hs]
theorem kit_sub {K : PySem.W.Frag} {B C : Addr} (hc : (PySem.W.clsIn K C).isSome = true) (ht : PySem.W.typeIn K (.ref C) = some (.type "type")) (hs : PySem.W.subIn K (.ref B) (.ref C) = some true) : PySem.W.kitOne K (.ref B) (.ref C) = some true := by
  simp [PySem.W.kitOne, PySem.W.kitCls, hc, ht, hs]
end XT

namespace XT
open PySem PySem.Spec PyProof.Rows L2
/-! ### the characters of a text of data are characters -/
theorem ok_of (s : String) : PyData.strOk (Str.ofString s) = true := by
  unfold PyData.strOk
  rw [Str.ofString_eq_toList]
  simp only [List.all_toArray, List.all_map, List.all_eq_true]
  intro c _
  have h : c.toNat < 0x110000 := by
    have := c.valid
    unfold UInt32.isValidChar Nat.isValidChar at this
    have e : c.toNat = c.val.toNat := rfl
    omega
  exact decide_eq_true h
theorem ok_app {x y : Str} (h : PyData.strOk x = true) (k : PyData.strOk y = true) : PyData.strOk (x ++ y) = true := by
  unfold PyData.strOk at *
  show (x.cps ++ y.cps).all _ = true
  rw [Array.all_append, h, k]
  rfl
theorem ok_textFrom : ∀ (ts : List Str) (k : Nat) (acc : Str), (∀ t ∈ ts, PyData.strOk t = true) → PyData.strOk acc = true → PyData.strOk (textFrom k acc ts) = true
  | [], _, _, _, h => h
  | t :: ts, k, acc, ht, h => by
    refine ok_textFrom ts (k + 1) _ (fun u hu => ht u (List.mem_cons_of_mem _ hu)) (ok_app (ok_app h ?_) (ht t List.mem_cons_self))
    exact ok_of _
theorem ok_listText {ts : List Str} (h : ∀ t ∈ ts, PyData.strOk t = true) : PyData.strOk (listText ts) = true := ok_app (ok_textFrom ts 0 _ h (ok_of "[")) (ok_of "]")
theorem ok_join {sep : Str} (hs : PyData.strOk sep = true) : ∀ (ts : List Str), (∀ t ∈ ts, PyData.strOk t = true) → PyData.strOk (Str.join sep ts) = true
  | [], _ => (by decide +kernel : PyData.strOk Str.empty = true)
  | [x], h => h x List.mem_cons_self
  | x :: y :: r, h => ok_app (ok_app (h x List.mem_cons_self) hs) (ok_join hs (y :: r) fun t ht => h t (List.mem_cons_of_mem _ ht))
theorem ok_tupleText {ts : List Str} (h : ∀ t ∈ ts, PyData.strOk t = true) : PyData.strOk (tupleText ts) = true := ok_app (ok_app (ok_of "(") (ok_join (ok_of ", ") ts h)) (ok_of _)
mutual
/-- the texts in d are of characters, also written out -/
def txD : PyData → Bool
  | .none | .bool _ | .int _ => true
  | .str x => PyData.strOk (reprText x)
  | .list xs | .tuple xs => txAll xs
  | .dict kvs => kvs.isEmpty
def txAll : List PyData → Bool
  | [] => true
  | x :: xs => txD x && txAll xs
end
mutual
theorem ok_shown : ∀ d : PyData, txD d = true → PyData.strOk d.shown = true
  | .none, _ => by decide +kernel
  | .bool true, _ => by decide +kernel
  | .bool false, _ => by decide +kernel
  | .int i, _ => ok_of _
  | .str x, h => by simpa [txD, PyData.shown] using h
  | .list xs, h => by
    simp only [PyData.shown]
    exact ok_listText (ok_shownAll xs (by simpa [txD] using h))
  | .tuple xs, h => by
    simp only [PyData.shown]
    exact ok_tupleText (ok_shownAll xs (by simpa [txD] using h))
  | .dict [], _ => by decide +kernel
  | .dict (_ :: _), h => by simp [txD] at h
theorem ok_shownAll : ∀ xs : List PyData, txAll xs = true → ∀ t ∈ PyData.shownAll xs, PyData.strOk t = true
  | [], _, t, ht => by simp [PyData.shownAll] at ht
  | x :: xs, h, t, ht => by
    have h' : txD x = true ∧ txAll xs = true := by simpa [txAll] using h
    simp only [PyData.shownAll, List.mem_cons] at ht
    rcases ht with rfl | ht
    · exact ok_shown x h'.1
    · exact ok_shownAll xs h'.2 t ht
end
theorem txAll_ints (L : List Int) : txAll (L.map PyData.int) = true := by
  induction L with
  | nil => rfl
  | cons x L ih => simp only [List.map_cons, txAll, txD, ih, Bool.and_self]
/-- comparing shaped data with itself -/
theorem ne_self {d : PyData} (h : SeqAt.shaped d = true) : (!PyData.eqv d d) = false := by rw [SeqAt.eqv_refl d (SeqAt.canLay_of_shaped h)]; rfl
theorem sh_told {w x : Str} (hw : PyData.strOk w = true) (hx : PyData.strOk x = true) (b : Bool) : SeqAt.shaped (.list [.str w, .str x, .bool b]) = true := by
  simp [SeqAt.shaped, PyData.canLay0, PyData.canLayAll0, PyData.depth, PyData.depthAll, hw, hx]
theorem dp_told {K : PySem.W.Frag} {H : Hp} {r : Addr} {w x : Str} {b : Bool} (h : H r = some (.lst [.str w, .str x, .bl b])) : Dp K H (.ref r) (.list [.str w, .str x, .bool b]) := .lst (SqL.of h) (.cons (.str w) (.cons (.str x) (.cons (.bl b) .nil)))
theorem canLay_ints : ∀ L : List Int, PyData.canLayAll0 (L.map PyData.int) = true
  | [] => rfl
  | x :: L => by simp [PyData.canLayAll0, PyData.canLay0, canLay_ints L]
theorem depth_ints : ∀ L : List Int, PyData.depthAll (L.map PyData.int) = 0
  | [] => rfl
  | x :: L => by simp [PyData.depthAll, PyData.depth, depth_ints L]
theorem sh_three (s g : Int) (L : List Int) : SeqAt.shaped (.list [.int s, .tuple (L.map PyData.int), .int g]) = true := by
  simp [SeqAt.shaped, PyData.canLay0, PyData.canLayAll0, PyData.depth, PyData.depthAll, canLay_ints, depth_ints]
theorem sh_tab (w : Str) (hw : PyData.strOk w = true) (s : Int) (L : List Int) : SeqAt.shaped (.list [.str w, .int s, .tuple (L.map PyData.int)]) = true := by
  simp [SeqAt.shaped, PyData.canLay0, PyData.canLayAll0, PyData.depth, PyData.depthAll, canLay_ints, depth_ints, hw]
theorem sh_pair {w x : Str} (hw : PyData.strOk w = true) (hx : PyData.strOk x = true) (b : Bool) : SeqAt.shaped (.list [.list [.str w, .str x, .bool b], .list [.str w, .str x, .bool b]]) = true := by
  simp [SeqAt.shaped, PyData.canLay0, PyData.canLayAll0, PyData.depth, PyData.depthAll, hw, hx]
/-- one statement, the rest cut off behind it -/
theorem seq_cut2 {t u : TS} {D : Ends} {σ : L2.St} {H : Hp} (G : L2.St → Hp → Prop) (h : ∀ N : L2.St → Hp → Prop, (∀ σ' H', G σ' H' → N σ' H') → t { D with nx := N } σ H) (k : ∀ σ' H', G σ' H' → u D σ' H') : tSeq t u D σ H := h (u D) k
theorem next_go {D : Ends} {σ : L2.St} {H : Hp} (h : D.nx σ H) : tNext D σ H := h
theorem seq_cut {t u : TS} {D : Ends} {σ : L2.St} {H : Hp} (G : Hp → Prop) (h : ∀ N : L2.St → Hp → Prop, (∀ H', G H' → N σ H') → t { D with nx := N } σ H) (k : ∀ H', G H' → u D σ H') : tSeq t u D σ H := h (u D) k
end XT

namespace XT
open PySem PySem.Spec PyProof.Rows L2
/-! ### static methods -/
/-- C.m is a static method: its record at p, its def at g -/
structure CSta (K : PySem.W.Frag) (C : Addr) (mc : Value) (m : Str) (p g : Addr) : Prop where
  at_ : PySem.W.findCls K (.ref C) mc m = some (.get (.builtin "staticmethod.__get__") (.ref p) .none (.ref C))
  rc : ∃ rest, PySem.W.recIn K p "staticmethod" = some (.ref g :: rest)
  kp : PySem.W.keepIn K (.ref g) = true
/-- the same, reached through an instance -/
structure CStI (K : PySem.W.Frag) (C : Addr) (m : Str) (p g : Addr) : Prop where
  pg : PySem.W.plainGet K C Str.empty = true
  ic : PySem.W.isClsIn K C = true
  at_ : PySem.W.findIn K (.ref C) m = some (some (.ref p))
  ty : PySem.W.typeIn K (.ref p) = some (.type "staticmethod")
  get : PySem.W.specialIn K (.ref p) "__get__" = some (some (.builtin "staticmethod.__get__"))
  tk : PySem.W.takesIn K (.ref p) = some false
  cp : PySem.W.copiedNames.contains m = false
  rc : ∃ rest, PySem.W.recIn K p "staticmethod" = some (.ref g :: rest)
  kp : PySem.W.keepIn K (.ref g) = true
def tSta (C : Addr) (sp : Sp) (E : XK) (ta : TE) (t : TA) : TE := fun σ H Q => ta σ H fun x H1 => x = .ref C ∧ t σ H1 fun vs H2 => sp vs H2 Q E
def tStaI (C : Addr) (m : Str) (sp : Sp) (E : XK) (ta : TE) (t : TA) : TE := fun σ H Q => ta σ H fun x H1 => ∃ a dx fs, x = .ref a ∧ H1 a = some (.ins C dx fs) ∧ fs.lookup m = none ∧ t σ H1 fun vs H2 => sp vs H2 Q E
section
variable {X : Cx} {CX : CXT} {k : Nat} {C p g : Addr} {mc : Value} {sp : Sp} {E : XK} {o e : Expr} {es : List Expr} {f m : Str} {pos apos : Pos} {ta : TE} {t : TA} {pl : Sem Bool}
theorem pe_sta (he : PE X o ta) (r : ClX.CRead X.K C mc) (c : CSta X.K C mc m p g) (F : FnR X.prog X.w X.K X.mg X.base CX k g sp) (hr : Room k X.A) (hx : Passes CX X E) (ha : PA X (e :: es) t)
    (hst : starEach (e :: es) X.env = (false, eval e X.env) :: starEach es X.env := by rfl) (hpl : (backTo pos (starEach es X.env)).any (·.1) = false := by rfl)
    (ht : eval (.Call (.Attribute o m apos) (e :: es) [] pos) X.env = (do
      let ov ← eval o X.env
      standAt apos.atName
      let (f, first) ← holding [ov] (getMethod ov m pl)
      callWith pos f first (backTo pos (starEach (e :: es) X.env)) (backToKw pos (keywordEach [] X.env))) := by rfl) :
    PE X (.Call (.Attribute o m apos) (e :: es) [] pos) (tSta C sp E ta t) := by
  refine ⟨fun pins s σ H Q I h => ?_⟩
  refine PySem.W.methodCall_KW (pl := pl) (thn (he.run pins s σ H _ I h) fun u s1 ⟨x, H1, I1, rx, ex, q⟩ => ?_) ht
  subst ex
  obtain rfl : u = Value.ref C := rx
  refine PySem.W.method_cls I1.kIn r.ga ?_
  obtain ⟨rest, hp⟩ := c.rc
  refine PySem.W.cls_bind I1.kIn r.rd c.at_ ?_
  refine wpAny_call (PySem.W.sm_get (s := { s1 with toks := s1.toks + 1 }) I1.kIn hp (PySem.W.handed_on rfl ?_))
  have I2 := I1.tok (s1.toks + 1)
  refine PySem.W.callWith_K (h₀ := X.base) I.ok.mod.kin c.kp (thn (ha.run pos pins _ σ H1 _ I2 q) fun us s2 ⟨vs, H2, I3, r2, q2⟩ => ⟨I3.kIn, ?_⟩) hst hpl
  exact wpAny_call (run_fnR F hr hx I3 r2 q2)
theorem pe_staI (he : PE X o ta) (c : CStI X.K C m p g) (F : FnR X.prog X.w X.K X.mg X.base CX k g sp) (hr : Room k X.A) (hx : Passes CX X E) (ha : PA X (e :: es) t)
    (hst : starEach (e :: es) X.env = (false, eval e X.env) :: starEach es X.env := by rfl) (hpl : (backTo pos (starEach es X.env)).any (·.1) = false := by rfl)
    (ht : eval (.Call (.Attribute o m apos) (e :: es) [] pos) X.env = (do
      let ov ← eval o X.env
      standAt apos.atName
      let (f, first) ← holding [ov] (getMethod ov m pl)
      callWith pos f first (backTo pos (starEach (e :: es) X.env)) (backToKw pos (keywordEach [] X.env))) := by rfl) :
    PE X (.Call (.Attribute o m apos) (e :: es) [] pos) (tStaI C m sp E ta t) := by
  refine ⟨fun pins s σ H Q I h => ?_⟩
  refine PySem.W.methodCall_KW (pl := pl) (thn (he.run pins s σ H _ I h) fun u s1 ⟨x, H1, I1, rx, a, dx, fs, ex, ea, l, q⟩ => ?_) ht
  subst ex
  obtain rfl : u = Value.ref a := rx
  obtain ⟨mA, O, rr, _, _, _⟩ := ins_get I1.hok ea
  have hn : mA m = none := RelO.none_of (by rw [← l]; exact rr m)
  obtain ⟨od, J, hl⟩ := O.look
  obtain ⟨rest, hp⟩ := c.rc
  have hg : PySem.W.plainGet X.K C m = true := c.pg
  refine PySem.W.method_usual (r := some (.ref p)) I1.kIn J (PySem.W.plainGet_of hg).1 (PySem.W.plainGet_of hg).2 c.at_ ?_ ?_
  · show ((PySem.W.typeIn X.K (.ref p)).any fun t => t != .type "function" && t != .type "method_descriptor" && t != .type "wrapper_descriptor") = true
    rw [c.ty]
    first
    | rfl
    | decide +kernel
  · refine PySem.W.get_bind I1.kIn J (PySem.W.plainGet_of hg).1 (ClX.find_cm c.ic c.at_ c.get c.tk c.cp (by rw [hl m, hn])) (PySem.W.plainGet_of hg).2 ?_
    refine wpAny_call (PySem.W.sm_get (s := { s1 with toks := s1.toks + 1 }) I1.kIn hp (PySem.W.handed_on rfl ?_))
    have I2 := I1.tok (s1.toks + 1)
    refine PySem.W.callWith_K (h₀ := X.base) I.ok.mod.kin c.kp (thn (ha.run pos pins _ σ H1 _ I2 q) fun us s2 ⟨vs, H2, I3, r2, q2⟩ => ⟨I3.kIn, ?_⟩) hst hpl
    exact wpAny_call (run_fnR F hr hx I3 r2 q2)
/-! ### C(), C(*e) by a positional promise of its __init__ -/
def tMakeR0 (C : Addr) (sp : Sp) (E : XK) : TE := fun _ H Q => ∀ x dx, H x = none → H dx = none → dx ≠ x → sp [V.ref x] (upd (upd H dx (.own x)) x (.ins C dx [])) (fun v H2 => v = .non ∧ Q (.ref x) H2) E
theorem pe_makeR0 {x : Str} {p : Pos} (M : Mk X.K C g) (F : FnR X.prog X.w X.K X.mg X.base CX k g sp) (hr : Room (k + 1) X.A) (hg : Gl X x) (hm : X.mg x = some (.ref C)) (hx : Passes CX X E) (hdb : (x == ("__debug__" : Str)) = false := by decide) :
    PE X (.Call (.Name x p) [] [] pos) (tMakeR0 C sp E) := by
  refine ⟨fun pins s σ H Q I h => ?_⟩
  refine wpAny_Call_Name_kw (ld_glob I hg hm ?_ hdb)
  refine PySem.W.callWith_K0 (first := []) I.kIn M.kp ?_
  exact StX.run_makeR (us := []) (vs := []) M F hr hx I .nil h
theorem pe_makeS1 {x : Str} {p sp_ : Pos} {te : TE} (M : Mk X.K C g) (F : FnR X.prog X.w X.K X.mg X.base CX k g sp) (hr : Room (k + 1) X.A) (hg : Gl X x) (hm : X.mg x = some (.ref C)) (hx : Passes CX X E) (he : PE X e te) (hdb : (x == ("__debug__" : Str)) = false := by decide)
    (hst : starEach [.Starred e sp_] X.env = [(true, eval e X.env)] := by rfl) :
    PE X (.Call (.Name x p) [.Starred e sp_] [] pos) (fun σ H Q => te σ H fun y H1 => ∃ a xs, y = V.ref a ∧ (SqT X.K H1 a xs ∨ SqL X.K H1 a xs) ∧ ∀ x dx, H1 x = none → H1 dx = none → dx ≠ x → sp (V.ref x :: xs) (upd (upd H1 dx (.own x)) x (.ins C dx [])) (fun v H2 => v = .non ∧ Q (.ref x) H2) E) := by
  refine ⟨fun pins s σ H Q I h => ?_⟩
  refine wpAny_Call_Name_kw (ld_glob I hg hm ?_ hdb)
  refine PySem.W.callWith_S (h₀ := X.base) I.ok.mod.kin M.kp (thn (he.run pins s σ H _ I h) fun v s1 ⟨y, H1, I1, ry, a, xs, ey, hxs, q⟩ => ?_) hst
  subst ey
  obtain rfl : v = Value.ref a := ry
  exact StX.star_any I1 hxs fun us s2 I2 rv => ⟨I2.kIn, StX.run_makeR M F hr hx I2 rv q⟩
end
/-! ### defs with a star -/
section
variable {P : Program} {w : World} {K : PySem.W.Frag} {mg : Str → Option Value} {base : Heap}
def BndS (x qual : Str) (st : Stmt) (ps : List Str) (pv : Str) : Prop := ∀ (kV doc pm : Value) (an : Option Addr) (cdv ct : Value) (us rest : List Value), us.length = ps.length →
  bindArgs (PySem.W.fnOf x qual (defArgs st) (defBody st) (defScope st) .none kV doc pm an cdv ct) ⟨us ++ rest, []⟩ = (newTuple rest >>= fun t => pure (ps.zip us ++ [(pv, t)]))
/-- the promise of a def whose last parameter takes what is left over -/
def spStar (n : Nat) (sp : Sp) : Sp := fun vs H Q E => ∃ ws rest, vs = ws ++ rest ∧ ws.length = n ∧ rest.length ≤ sizeLine ∧ ∀ p, H p = none → sp (ws ++ [V.ref p]) (upd H p (.tup rest)) Q E
theorem okStar {x qual : Str} {st : Stmt} {f : Addr} {fd : FuncData} {N ps : List Str} {pv : Str} {k : Nat} {sp : Sp} (F : Fun K x qual st f fd) (S : FnScope N (ps ++ [pv]) (defScope st)) (B : BndS x qual st ps pv)
    (hbody : ∀ (cdv : Value) (A : Around) (outer : List Env) (s : Shared) (H : Hp) (vs : List V) (Q : VK) (E : XK), Room k (A.deeper (envOfC qual (defScope st) s.heap.objs.size f cdv)) → sp vs H Q E →
      ∃ t, PSs (cxOf (L2.CX P w) P w K mg base N qual (defScope st) f cdv A outer s H E) (defBody st) t ∧ t { nx := fun _ H' => Q .non H', rt := Q } (start N vs) H) : FnR P w K mg base (L2.CX P w) (k + 1) f (spStar ps.length sp) := by
  obtain ⟨oc, od, kV, doc, pm, an, cdv, ct, osl, rfl, lk, hcd⟩ := F.ex
  exact StX.fn_star lk hcd S StX.cxUp (fun us rest h => B kV doc pm an cdv ct us rest h) fun A outer s H vs Q E hr hsp => hbody cdv A outer s H vs Q E hr hsp
theorem okStar0 {x qual : Str} {st : Stmt} {f : Addr} {fd : FuncData} {N ps : List Str} {pv : Str} {k : Nat} {sp : Sp} (F : Fun K x qual st f fd) (S : FnScope N (ps ++ [pv]) (defScope st)) (B : BndS x qual st ps pv)
    (hbody : ∀ (cdv : Value) (A : Around) (outer : List Env) (s : Shared) (H : Hp) (vs : List V) (Q : VK) (E : XK), Room k (A.deeper (envOfC qual (defScope st) s.heap.objs.size f cdv)) → sp vs H Q E →
      ∃ t, PSs (cxOf CX0 P w K mg base N qual (defScope st) f cdv A outer s H E) (defBody st) t ∧ t { nx := fun _ H' => Q .non H', rt := Q } (start N vs) H) : FnR P w K mg base CX0 (k + 1) f (spStar ps.length sp) := by
  obtain ⟨oc, od, kV, doc, pm, an, cdv, ct, osl, rfl, lk, hcd⟩ := F.ex
  exact StX.fn_star lk hcd S StX.cxUp_none (fun us rest h => B kV doc pm an cdv ct us rest h) fun A outer s H vs Q E hr hsp => hbody cdv A outer s H vs Q E hr hsp
end
end XT

namespace XT
open PySem PySem.Spec PyProof.Rows L2
/-! ### types told apart by != -/
theorem slot_type_ne : Slot "type" (cmpInfo .NotEq).2.1 "object.__ne__" :=
  .of (owner := "object") (n := "__ne__") (by rw [typeLookup_type, builtinLookup_eq_fast]; kernel_rfl) (by decide +kernel) (by decide +kernel) (by decide +kernel)
    (by first | exact .inl (by decide +kernel) | exact .inr (by decide +kernel)) (by rw [isSubtype_type]; kernel_rfl)
theorem slot_type_ne_refl : Slot "type" (cmpInfo .NotEq).2.2 "object.__ne__" :=
  .of (owner := "object") (n := "__ne__") (by rw [typeLookup_type, builtinLookup_eq_fast]; kernel_rfl) (by decide +kernel) (by decide +kernel) (by decide +kernel)
    (by first | exact .inl (by decide +kernel) | exact .inr (by decide +kernel)) (by rw [isSubtype_type]; kernel_rfl)
section
variable {prog : Program} {w : World} {A : Around} {E : Value → Shared → Prop} {s : Shared} {Q : Value → Shared → Prop}
theorem ne_ty_same {X : String} (hX : ∀ s' : Shared, s'.TypeIs (.type X) "type") (h : Q (.bool false) s) : wpAny (model prog w) A (call (.builtin "object.__ne__") [.type X, .type X]) (fun v s' => v = .bool false ∧ Q v s') E s := by
  refine wpAny_call_entry slot_type_ne (hX s) PySem.F.entry_object_ne ?_ (PySem.F.args_object_ne_2 _ _)
  unfold Builtin.«object.__ne__»
  refine wpAny_bind (m := slotArgs "__ne__" 1 ⟨[.type X, .type X], []⟩) (wpAny_pure ?_)
  dsimp only
  refine wpAny_bind (wpAny_cRoomFor_or (.inl rfl) ?_)
  refine wpAny_bind (m := callSpecialIfBound? (.type X) (Str.ofString "__eq__") [.type X]) (wpAny_callSpecialIfBound?_slot (name := Str.ofString "__eq__") (hX s) TypeEq.slot_type_eq
    (call_gives TypeEq.slot_type_eq (hX s) PySem.F.entry_object_eq (PySem.F.args_object_eq_2 _ _) (TypeEq.object_eq_same rfl (by simp)) ?_))
  show wpAny _ _ _ _ _ _
  refine wpAny_bind (m := truthy (.bool true)) (wpAny_pure ?_)
  exact wpAny_pure ⟨_, rfl, rfl, h⟩
theorem ne_ty_other {X Y : String} (hX : ∀ s' : Shared, s'.TypeIs (.type X) "type") (hne : (Value.type X == Value.type Y) = false) (h : Q .notImplemented s) : wpAny (model prog w) A (call (.builtin "object.__ne__") [.type X, .type Y]) (fun v s' => v = .notImplemented ∧ Q v s') E s := by
  refine wpAny_call_entry slot_type_ne (hX s) PySem.F.entry_object_ne ?_ (PySem.F.args_object_ne_2 _ _)
  unfold Builtin.«object.__ne__»
  refine wpAny_bind (m := slotArgs "__ne__" 1 ⟨[.type X, .type Y], []⟩) (wpAny_pure ?_)
  dsimp only
  refine wpAny_bind (wpAny_cRoomFor_or (.inl rfl) ?_)
  refine wpAny_bind (m := callSpecialIfBound? (.type X) (Str.ofString "__eq__") [.type Y]) (wpAny_callSpecialIfBound?_slot (name := Str.ofString "__eq__") (hX s) TypeEq.slot_type_eq
    (call_gives TypeEq.slot_type_eq (hX s) PySem.F.entry_object_eq (PySem.F.args_object_eq_2 _ _) (TypeEq.object_eq_other rfl hne) ?_))
  exact wpAny_pure ⟨_, rfl, rfl, h⟩
theorem ne_type_same {X : String} (hX : ∀ s' : Shared, s'.TypeIs (.type X) "type") (h : Q (.bool false) s) : wpAny (model prog w) A (compareOp .NotEq (.type X) (.type X)) Q E s := by
  show wpAny _ A (richCompare .NotEq _ _) Q E s
  exact wpAny_richCompare_same (T := "type") (hX s) (hX s) slot_type_ne (wpAny_mono (ne_ty_same (Q := Q) hX h) (fun v s' z => ⟨(by rw [z.1]; intro e; cases e), z.2⟩) fun _ _ z => z)
theorem ne_type_other {X Y : String} (hX : ∀ s' : Shared, s'.TypeIs (.type X) "type") (hY : ∀ s' : Shared, s'.TypeIs (.type Y) "type") (hne : (Value.type X == Value.type Y) = false) (h : Q (.bool true) s) : wpAny (model prog w) A (compareOp .NotEq (.type X) (.type Y)) Q E s := by
  have hne' : (Value.type Y == Value.type X) = false := by
    rw [Bool.eq_false_iff] at hne ⊢
    intro e
    exact hne (by rw [beq_iff_eq] at e ⊢; exact e.symm)
  show wpAny _ A (richCompare .NotEq _ _) Q E s
  have h1 := slot_type_ne
  have h2 := slot_type_ne_refl
  rcases hi : cmpInfo CmpOp.NotEq with ⟨sym, f, r⟩
  rw [hi] at h1 h2
  simp only [richCompare, hi, (hX s).oneThing_none]
  try with_reducible refine wpAny_holding ?_
  refine wpAny_bind (wpAny_cRoomFor_or (.inl rfl) ?_)
  refine wpAny_bind (wpAny_typeOf (hX s) (wpAny_bind (wpAny_typeOf (hY s) ?_)))
  simp only [bne_self_eq_false, Bool.false_eq_true, if_false, pure_bind, Bool.not_false, if_true]
  refine wpAny_bind (m := tryCompare (.type X) _ (.type Y)) (wpAny_tryCompare_declines (hX s) h1 (ne_ty_other (Q := fun _ s₁ => _) hX hne ?_))
  refine wpAny_bind (m := tryCompare (.type Y) _ (.type X)) (wpAny_tryCompare_declines (hY s) h2 (ne_ty_other (Q := fun _ s₁ => _) hY hne' ?_))
  refine wpAny_bind (wpAny_rule (wpAny_bind (wpAny_of_eq (a := false) (by rw [isSame_plain rfl, hne]) (wpAny_pure ?_))))
  simpa using h
end
section
variable {X : Cx}
theorem op_neTy : OpR X (compareOp .NotEq) (fun x y H Q => ∃ m n, x = .ty m ∧ y = .ty n ∧ tyN m = true ∧ tyN n = true ∧ Q (.bl (!decide (m = n))) H) := by
  intro pins s σ H x y v u Q I rx ry h
  obtain ⟨m, n, rfl, rfl, hm, hn, q⟩ := h
  cases (show v = Value.type m from rx)
  cases (show u = Value.type n from ry)
  by_cases e : m = n
  · subst e
    exact ne_type_same (fun s' => tyN_meta hm s') ⟨.bl false, H, I, rfl, by simpa using q⟩
  · refine ne_type_other (fun s' => tyN_meta hm s') (fun s' => tyN_meta hn s') ?_ ⟨.bl true, H, I, rfl, by simpa [e] using q⟩
    rw [Bool.eq_false_iff]
    intro z
    rw [beq_iff_eq] at z
    injection z with z
    exact e z
/-! ### tuple * int -/
theorem tuple_mul1 (l : Addr) (items : Array Value) (n : Nat) (dd : Option Addr) (sl : Array (Option Value)) (x : Int) (u : Tok) (c0 : (decide (x < -(2 ^ 63)) || decide (x ≥ 2 ^ 63)) = false) (c1 : (items.isEmpty || x == 1) = true) :
    Meets (Builtin.«tuple.__mul__» ⟨[.ref l, .int x u], []⟩) (fun _ R s => s.heap.get? l = some { cls := .type "tuple", dict := dd, data := .seq items n, slots := sl } ∧ R (.ok (.ret (Value.ref l))) s) :=
  .of_wp fun prog w A R s h => by
    obtain ⟨hp, g, d, tk, os⟩ := s
    obtain ⟨hl, h⟩ := h
    have f1 := AutoSeq1.idx_int
    wp_walk using wpAny_loadPart' hl
    repeat (first
      | (refine wpAny_ite_false (decide_eq_false (by rw [c0]; exact Bool.false_ne_true)) ?_; wp_walk using wpAny_loadPart' hl)
      | (refine wpAny_ite_true (decide_eq_true (by rw [c1])) ?_; wp_walk using wpAny_loadPart' hl))
    exact ⟨_, rfl, h⟩
theorem tuple_mul0 (l : Addr) (items : Array Value) (n : Nat) (dd : Option Addr) (sl : Array (Option Value)) (u : Tok) (c1 : items.isEmpty = false) :
    Meets (Builtin.«tuple.__mul__» ⟨[.ref l, .int 0 u], []⟩) (fun _ R s => s.heap.get? l = some { cls := .type "tuple", dict := dd, data := .seq items n, slots := sl } ∧ R (.ok (.ret (Value.ref s.heap.objs.size))) { s with heap := s.heap.push { cls := Value.type "tuple", data := Data.seq #[] }, toks := s.toks }) :=
  .of_wp fun prog w A R s h => by
    obtain ⟨hp, g, d, tk, os⟩ := s
    obtain ⟨hl, h⟩ := h
    have f1 := AutoSeq1.idx_int
    have c0 : (decide ((0 : Int) < -(2 ^ 63)) || decide ((0 : Int) ≥ 2 ^ 63)) = false := by decide
    have c2 : (items.isEmpty || (0 : Int) == 1) = false := by rw [c1]; decide
    have c3 : (decide ((0 : Int) ≤ 0) || items.isEmpty) = true := by simp
    wp_walk using wpAny_loadPart' hl
    repeat (first
      | (refine wpAny_ite_false (decide_eq_false (by rw [c0]; exact Bool.false_ne_true)) ?_; wp_walk using wpAny_loadPart' hl)
      | (refine wpAny_ite_false (decide_eq_false (by rw [c2]; exact Bool.false_ne_true)) ?_; wp_walk using wpAny_loadPart' hl)
      | (refine wpAny_ite_true (decide_eq_true (by rw [c3])) ?_; wp_walk using wpAny_loadPart' hl))
    exact ⟨_, rfl, h⟩
/-- t * k, k a small count -/
def rRepA (K : PySem.W.Frag) : R2 := fun x y H Q => ∃ l k xs, x = .ref l ∧ y = .int k ∧ SqT K H l xs ∧ 0 ≤ k ∧ k ≤ 1000 ∧ xs.length ≤ 1000 ∧ (∀ p H', Same H H' → SqT K H' p (List.replicate k.toNat xs).flatten → Q (.ref p) H')
theorem op_repA : OpR X (binaryOp .Mult) (rRepA X.K) := by
  intro pins s σ H x y v u Q I rx ry h
  obtain ⟨l, k, xs, rfl, rfl, hT, h0, h2, hz, q⟩ := h
  by_cases hb : 2 ≤ k ∧ xs ≠ []
  · exact op_repT pins s σ H _ _ v u Q I rx ry ⟨l, k, xs, rfl, rfl, hT, hb.2, hb.1, h2, hz, fun p hp => q p _ (same_new hp) (SqT.of upd_same)⟩
  have hT0 := hT
  cases rx
  obtain ⟨t, rfl⟩ := ry
  obtain ⟨its, r, ⟨⟨cls, dd, data, sl⟩, ho, hc, n, hd⟩, hs⟩ := I.tuple hT
  simp only at hc hd
  subst hc hd
  have c0 : (decide (k < -(2 ^ 63)) || decide (k ≥ 2 ^ 63)) = false := by
    rw [decide_eq_false (by omega), decide_eq_false (by omega)] <;> rfl
  by_cases h1 : k = 1 ∨ xs = []
  · have c1 : (its.toArray.isEmpty || k == 1) = true := by
      rcases h1 with rfl | rfl
      · simp
      · cases r
        rfl
    refine wpAny_binaryOp_repeat_ref (T := "tuple") (U := "int") (by decide) ⟨_, ho, rfl⟩ (fun s' => typeIs_int s' k t) noFill_tuple_mul F.fills_int_mul F.slot_int_rmul repeat_tuple F.slot_int_index.lookup
      (call_meets F.slot_int_rmul (typeIs_int s k t) F.entry_int_rmul (F.args_int_rmul_2 _ _) (int_rmul_tuple k t l its.toArray n dd sl)
        ⟨ho, rfl, ⟨_, ho, rfl⟩, call_meets F.slot_tuple_mul ⟨_, ho, rfl⟩ F.entry_tuple_mul (F.args_tuple_mul_2 _ _) (tuple_mul1 l its.toArray n dd sl k t c0 c1) ⟨ho, ?_⟩⟩)
    refine ⟨.ref l, H, I, rfl, q l H (Same.refl H) ?_⟩
    rcases h1 with rfl | rfl
    · have : (List.replicate (1 : Int).toNat xs).flatten = xs := by simp
      rw [this]
      exact hT0
    · have : (List.replicate k.toNat ([] : List V)).flatten = [] := by simp
      rw [this]
      exact hT0
  · have hk : k = 0 := by
      by_cases hx : xs = []
      · exact absurd (.inr hx) h1
      · have : ¬ 2 ≤ k := fun z => hb ⟨z, hx⟩
        have : k ≠ 1 := fun z => h1 (.inl z)
        omega
    subst hk
    have hx : its.toArray.isEmpty = false := by
      cases r with
      | nil => exact absurd (.inr rfl) h1
      | cons _ _ => rfl
    refine wpAny_binaryOp_repeat_ref (T := "tuple") (U := "int") (by decide) ⟨_, ho, rfl⟩ (fun s' => typeIs_int s' 0 t) noFill_tuple_mul F.fills_int_mul F.slot_int_rmul repeat_tuple F.slot_int_index.lookup
      (call_meets F.slot_int_rmul (typeIs_int s 0 t) F.entry_int_rmul (F.args_int_rmul_2 _ _) (int_rmul_tuple 0 t l its.toArray n dd sl)
        ⟨ho, rfl, ⟨_, ho, rfl⟩, call_meets F.slot_tuple_mul ⟨_, ho, rfl⟩ F.entry_tuple_mul (F.args_tuple_mul_2 _ _) (tuple_mul0 l its.toArray n dd sl t hx) ⟨ho, ?_⟩⟩)
    refine ⟨.ref s.heap.objs.size, _, I.laid (t' := s.toks) (o := .tup []) (fun b ob q => Heap.get?_push_of_some _ q) (Nat.le_refl _) ?_, rfl, q _ _ (same_new (I.hok.fresh (Nat.le_refl _))) ?_⟩
    · exact ⟨Nat.zero_le _, [], .nil, IsTup.new _ _⟩
    · have : (List.replicate (0 : Int).toNat xs).flatten = ([] : List V) := by simp
      rw [this]
      exact SqT.of upd_same
end
end XT

namespace XT
open PySem PySem.Spec PyProof.Rows L2
section
variable {prog : Program} {w : World} {A : Around} {E : Value → Shared → Prop} {s : Shared} {K : PySem.W.Frag} {x C f L : Addr} {ox : Obj} {od : Option Obj} {h₀ : Heap} {m : Str → Option Value}
/-- len(x), by an own __len__ -/
theorem len_own {Q : Value → Shared → Prop} (X : K.In s.heap) (I : PySem.W.InstAt s.heap x ox C od) (hs : PySem.W.findIn K (.ref C) "__len__" = some (some (.ref f))) (hf : PySem.W.isFn K (.ref f) = true)
    (h : wpAny (model prog w) A.in1 (call (.ref f) [.ref x]) (fun r s1 => ∃ (n : Int) (t : Tok), r = Value.int n t ∧ 0 ≤ n ∧ n < 2 ^ 63 ∧ Q (.int n s1.toks) { s1 with toks := s1.toks + 1 }) E s) : wpAny (model prog w) A (call (.builtin "len") [.ref x]) Q E s := by
  refine Calls.call_function_entry PySem.kind_len PySem.plain_len PySem.entry_len (PySem.args_len1 _) ?_
  unfold Builtin.«len»
  refine wpAny_bind (m := oneArg "len" _) (wpAny_pure ?_)
  refine wpAny_bind (m := callSpecial? (.ref x) (PySem.Str.ofString "__len__")) (PySem.W.special_fn X I hs (beq_iff_eq.mp hf) (wpAny_mono h (fun r s' hr => ?_) fun _ _ y => y))
  obtain ⟨n, t, rfl, h0, h1, q⟩ := hr
  dsimp only
  refine wpAny_bind (wpAny_holding (wpAny_pure ?_))
  refine wpAny_bind (wpAny_letGo ?_)
  show wpAny _ _ (if n < 0 then _ else _) _ _ _
  rw [if_neg (by omega)]
  show wpAny _ _ (if n ≥ 2 ^ 63 then _ else _) _ _ _
  rw [if_neg (by omega)]
  exact wpAny_bind (wpAny_mkInt (wpAny_pure ⟨_, rfl, q⟩))
/-- x * n, n an int, by an own __mul__ and no own __rmul__ -/
theorem mul_own {n : Int} {t : Tok} {Q : Value → Shared → Prop} (F : PyProof.Rows.Fr h₀ L s.heap m) (X₀ : K.In h₀) (I : PySem.W.InstAt s.heap x ox C od) (hc : PySem.W.selfFirst K C = true) (hi : PySem.W.subIn K (.type "int") (.ref C) = some false)
    (hs : PySem.W.findIn K (.ref C) "__mul__" = some (some (.ref f))) (hrm : PySem.W.findIn K (.ref C) "__rmul__" = some none) (hf : PySem.W.isFn K (.ref f) = true)
    (h : wpAny (model prog w) A (call (.ref f) [.ref x, .int n t]) (PySem.W.CmpBack Q) E s) : wpAny (model prog w) A (binaryOp .Mult (.ref x) (.int n t)) Q E s := by
  have X := X₀.keeps F.keep
  obtain ⟨cd, hcd, hm⟩ := PySem.W.any_some hc
  obtain ⟨rest, hm⟩ : ∃ rest, cd.mro = .ref C :: rest := by
    cases q : cd.mro with
    | nil => rw [q] at hm; cases hm
    | cons a r => rw [q] at hm; exact ⟨r, by rw [List.head?_cons] at hm; cases (beq_iff_eq.mp hm); rfl⟩
  have hs' : PySem.W.findIn K (.ref C) (PySem.dunder "mul") = some (some (.ref f)) := hs
  have hr' : PySem.W.findIn K (.ref C) (PySem.dunderR "mul") = some none := hrm
  unfold binaryOp
  refine wpAny_holding (wpAny_bind ?_)
  show wpAny _ _ (binaryOp1 "mul" _ _) _ _ _
  unfold binaryOp1
  refine wpAny_bind (I.type.here (wpAny_bind (wpAny_typeOf (typeIs_int s n t) (wpAny_bind ((PySem.W.fills_K X hcd hm hs').here ?_)))))
  have e1 : (Value.ref C == Value.type "int") = false := rfl
  rw [e1]
  refine wpAny_bind ?_
  refine wpAny_of_eq (a := true) PySem.F.fills_int_mul ?_
  simp only [Bool.and_self, if_true]
  refine wpAny_bind ((PySem.W.looks_subIn X hi).here ?_)
  simp only [Bool.false_eq_true, if_false, Bool.not_false, Bool.and_self, if_true, Bool.and_true]
  have nsp : wpAny (model prog w) A (numberSlotInPython (.ref C) "mul") (fun b s' => b = true ∧ s' = s) E s := by
    unfold numberSlotInPython
    refine wpAny_bind ((PySem.W.looks_findIn X hs').here ?_)
    refine wpAny_bind (m := calledByName (.ref C) _ (some (.ref f))) (wpAny_pure ?_)
    refine wpAny_bind ((PySem.W.looks_findIn X hr').here ?_)
    refine wpAny_bind (m := calledByName (.ref C) _ none) (wpAny_pure ?_)
    simp only [Bool.or_false, if_true]
    exact wpAny_pure ⟨rfl, rfl⟩
  have fin : wpAny (model prog w) A (tryMethod (.ref x) (PySem.dunder "mul") (.int n t)) (fun r s' => ∃ v, r = some v ∧ Q v s') E s := by
    unfold tryMethod
    refine wpAny_bind (PySem.W.special_fn X I hs' (beq_iff_eq.mp hf) (wpAny_mono h (fun v s' hv => ?_) fun _ _ e => e))
    cases v <;> first | exact hv.elim | exact wpAny_pure ⟨_, rfl, hv⟩
  refine wpAny_bind (wpAny_mono nsp (fun b s' z => ?_) fun _ _ e => e)
  obtain ⟨rfl, rfl⟩ := z
  simp only [if_true]
  refine wpAny_bind (m := numberSlotInPython (.type "int") "mul") (wpAny_pure ?_)
  simp only [Bool.not_false, if_true]
  refine wpAny_bind (wpAny_of_eq (a := some (.builtin "int.__rmul__")) PySem.F.slot_int_rmul.lookup ?_)
  refine wpAny_bind (wpAny_mono fin (fun v s2 z => ?_) fun _ _ e => e)
  obtain ⟨u, rfl, hq⟩ := z
  exact wpAny_pure (wpAny_pure hq)
end
section
variable {X : Cx} {CX : CXT} {n : Nat} {C g : Addr} {sp : Sp} {E : XK}
/-- len(x) -/
def rLenO (C : Addr) (sp : Sp) (E : XK) : List V → Hp → VK → Prop := fun xs H Q => ∃ a, xs = [V.ref a] ∧ InsA H a C ∧ sp xs H (fun z H' => ∃ k : Int, z = .int k ∧ 0 ≤ k ∧ k < 2 ^ 63 ∧ Q z H') E
theorem call_lenO (hs : PySem.W.findIn X.K (.ref C) "__len__" = some (some (.ref g))) (hf : PySem.W.isFn X.K (.ref g) = true) (F : FnR X.prog X.w X.K X.mg X.base CX n g sp) (hr : Room (n + 1) X.A) (hx : Passes CX X E) : CallR X (.builtin "len") (rLenO C sp E) := by
  intro pins s σ H xs us Q I r h
  obtain ⟨a, rfl, ha, q⟩ := h
  obtain ⟨u, rfl, ru⟩ := r.one
  cases (show u = Value.ref a from ru)
  obtain ⟨ox, od, J⟩ := insA_at I ha
  refine len_own I.kIn J hs hf (wpAny_mono (wpAny_call (SlX.run_at (us := [.ref a]) (ws := [.ref a]) F hr.in1 I.env0.in1 hx I (.cons rfl .nil) q)) (fun w s' z => ?_) fun _ _ x => x)
  obtain ⟨z', H', I', rz, k, rfl, k0, k1, qz⟩ := z
  obtain ⟨t, rfl⟩ : ∃ t, w = Value.int k t := rz
  exact ⟨k, t, rfl, k0, k1, .int k, H', I'.tok _, ⟨_, rfl⟩, qz⟩
/-- x * n -/
def rMulO (C : Addr) (sp : Sp) (E : XK) : R2 := fun x y H Q => ∃ a i, x = .ref a ∧ y = .int i ∧ InsA H a C ∧ sp [x, y] H Q E
theorem op_mulO (hc : PySem.W.selfFirst X.K C = true) (hi : PySem.W.subIn X.K (.type "int") (.ref C) = some false) (hs : PySem.W.findIn X.K (.ref C) "__mul__" = some (some (.ref g))) (hrm : PySem.W.findIn X.K (.ref C) "__rmul__" = some none)
    (hf : PySem.W.isFn X.K (.ref g) = true) (F : FnR X.prog X.w X.K X.mg X.base CX n g sp) (hr : Room n X.A) (hx : Passes CX X E) : OpR X (binaryOp .Mult) (rMulO C sp E) := by
  intro pins s σ H x y v u Q I rx ry h
  obtain ⟨a, i, rfl, rfl, ha, q⟩ := h
  cases (show v = Value.ref a from rx)
  obtain ⟨t, rfl⟩ : ∃ t, u = Value.int i t := ry
  obtain ⟨ox, od, J⟩ := insA_at I ha
  obtain ⟨m, hF⟩ := I.fr
  refine mul_own hF I.ok.mod.kin J hc hi hs hrm hf ?_
  refine wpAny_mono (wpAny_call (run_fnR (us := [.ref a, .int i t]) (vs := [.ref a, .int i]) F hr hx I (.cons rfl (.cons ⟨t, rfl⟩ .nil)) q)) (fun w s' z => ?_) fun _ _ x => x
  obtain ⟨z', H', I', rz, qz⟩ := z
  exact SlX.cmpback rz ⟨z', H', I', rz, qz⟩
end
end XT

namespace XT
open PySem PySem.Spec PyProof.Rows L2
section
variable {X : Cx} (K : PySem.W.Frag)
/-- x != y, by an own ==, y of another type -/
def rOwnNo (K : PySem.W.Frag) (C : Addr) (sp : Sp) (E : XK) : R2 := fun x y H Q => ∃ a t, x = .ref a ∧ InsA H a C ∧ TyX K H y t ∧ PySem.W.notFirst K C t = true ∧ sp [x, y] H (fun z H' => ∃ k, z = .bl k ∧ Q (.bl (!k)) H') E
theorem op_ownNoK {CX : CXT} {n : Nat} {C g : Addr} {sp : Sp} {E : XK} (hne : PySem.W.findIn K (.ref C) "__ne__" = some (some (.builtin "object.__ne__"))) (ho : PySem.W.subIn K (.ref C) (.type "object") = some true)
    (hs : PySem.W.findIn K (.ref C) "__eq__" = some (some (.ref g))) (hf : PySem.W.isFn K (.ref g) = true) (F : FnR X.prog X.w K X.mg X.base CX n g sp)
    (hr : Room (n + 1) X.A) (hx : Passes CX X E) (hK : X.K = K := by rfl) : OpR X (compareOp .NotEq) (rOwnNo K C sp E) := by
  subst hK
  intro pins s σ H x y v u Q I rx ry h
  obtain ⟨a, t, rfl, ha, ht, hn, q⟩ := h
  cases (show v = Value.ref a from rx)
  obtain ⟨ox, od, J⟩ := insA_at I ha
  obtain ⟨Z, kz, hz, _⟩ := kit_of I ry ht
  show wpAny _ _ (richCompare .NotEq _ _) _ _ _
  refine ne_own (tb := t) (by have := hr.units; omega) I.kIn J (kz.ty _ _ I.kIn hz) hn hne ho hs hf ?_
  refine wpAny_mono (wpAny_call (SlX.run_at (us := [.ref a, u]) (ws := [.ref a, y]) F hr.in1 I.env0.in1 hx I (.cons rfl (.cons ry .nil)) q)) (fun w s' z => ?_) fun _ _ x => x
  obtain ⟨z', H', I', rz, k, rfl, qz⟩ := z
  cases (show w = Value.bool k from rz)
  exact ⟨k, rfl, .bl (!k), H', I', rfl, qz⟩
theorem revLK {e : Expr} {te : TE} {k : Nat} {p1 p2 p3 pos : Pos} (he : PE X e te) (hK : X.K = K := by rfl) : PE X (.Subscript e (.Slice none none (some (.UnaryOp .USub (.Constant (.int 1) k p1) p2)) p3) pos) (tRevL K te) := by subst hK; exact pe_revL he
theorem catAK (hK : X.K = K := by rfl) : OpR X (binaryOp .Add) (rCatA K) := by subst hK; exact op_catA
end
theorem tyX_tup {K : PySem.W.Frag} {H : Hp} {p : Addr} {xs : List V} (h : SqT K H p xs) : TyX K H (.ref p) (.type "tuple") := by
  rcases h with (h | ⟨o, h⟩) | h
  · exact .base (.tup h)
  · exact .fTuple h
  · obtain ⟨o, its, n, e, c, _⟩ := h
    exact .kTuple e c
theorem kit_ty {K : PySem.W.Frag} {n : String} : PySem.W.kitOne K (.type n) (.type n) = some true := by simp [PySem.W.kitOne]
end XT

namespace XT
open PySem PySem.Spec PyProof.Rows L2
/-! ### own exception classes over any built-in one, their __init__ a def -/
/-- what is asked of the built-in class: tl its chain, nw its maker -/
structure BaseX (B nw ini : String) (tl : List Value) : Prop where
  eb : ExcBaseFacts B nw ini tl
  st : ∀ self : Value, PySem.refuseLoop self "__setattr__" tl = pure ()
  ob : tl.contains (.type "object") = true
theorem bx_Value : BaseX "ValueError" "ValueError.__new__" "ValueError.__init__" [.type "ValueError", .type "Exception", .type "BaseException", .type "object"] := ⟨F.excBase_ValueError, F.store_ValueError.passes, by decide +kernel⟩
theorem bx_Runtime : BaseX "RuntimeError" "RuntimeError.__new__" "RuntimeError.__init__" [.type "RuntimeError", .type "Exception", .type "BaseException", .type "object"] := ⟨F.excBase_RuntimeError, F.store_RuntimeError.passes, by decide +kernel⟩
theorem bx_Lookup : BaseX "LookupError" "LookupError.__new__" "LookupError.__init__" [.type "LookupError", .type "Exception", .type "BaseException", .type "object"] := ⟨F.excBase_LookupError, F.store_LookupError.passes, by decide +kernel⟩
theorem bx_Overflow : BaseX "OverflowError" "OverflowError.__new__" "OverflowError.__init__" [.type "OverflowError", .type "ArithmeticError", .type "Exception", .type "BaseException", .type "object"] := ⟨F.excBase_OverflowError, F.store_OverflowError.passes, by decide +kernel⟩
section
variable {tl : List Value}
theorem chain_has (cs : List Addr) (n : String) : (cs.map Value.ref ++ tl).contains (.type n) = tl.contains (.type n) := by
  induction cs with
  | nil => rfl
  | cons c cs ih =>
    rw [List.map_cons, List.cons_append, List.contains_cons, ih]
    rfl
theorem chain_pass (st : ∀ self : Value, PySem.refuseLoop self "__setattr__" tl = pure ()) (self : Value) (cs : List Addr) : PySem.refuseLoop self "__setattr__" (cs.map Value.ref ++ tl) = pure () := by
  induction cs with
  | nil => exact st self
  | cons c cs ih =>
    rw [List.map_cons, List.cons_append, PySem.refuseLoop_ref]
    exact ih
end
/-- the written part of such a class -/
structure OexG (K : PySem.W.Frag) (C : Addr) (tl : List Value) (nw : String) : Prop where
  cls : ∃ (nm q : Str) (N : Addr) (bs : List Value) (cs : List Addr) (sn : List Str) (sub : List Value) (ab : Bool) (col : Option Bool) (dd : Option Addr) (k0 k1 k2 k3 k5 : Option Value), K.lookup C = some (excClassObj nm q C N bs (cs.map Value.ref ++ tl) true sn sub ab col dd k0 k1 k2 k3 k5 nw)
  sa : PySem.W.findIn K (.ref C) "__setattr__" = some (some (.builtin "object.__setattr__"))
  exC : PySem.W.subIn K (.ref C) (.type "BaseException") = some true
  tyC : PySem.W.typeIn K (.ref C) = some (.type "type")
  kC : PySem.W.keepIn K (.ref C) = true
section
variable {prog : Program} {w : World} {A : Around} {R : Result → Shared → Prop} {hp : Heap} {g : Array GenState} {d : Drawn} {t : Nat} {os : OsState}
/-- the first field of such an exception -/
theorem gx_store {K : PySem.W.Frag} {name : Str} {tk : Tok} {v : Value} {x C : Addr} {fv : Array Value} {cd : ClassData} {tl : List Value} {cs : List Addr} (st : ∀ self : Value, PySem.refuseLoop self "__setattr__" tl = pure ()) (ob : tl.contains (.type "object") = true)
    (X : K.In hp) (hx : hp.get? x = some { cls := .ref C, data := .fields fv }) (hcd : PySem.W.clsIn K C = some cd) (hm : cd.mro = (C :: cs).map Value.ref ++ tl) (hh : cd.hasDict = true) (ha : PySem.W.findIn K (.ref C) name = some none)
    (hq : ∀ h' tk' dx, (∀ b o, b ≠ x → hp.get? b = some o → h'.get? b = some o) → hp.objs.size ≤ dx → dx ≠ x → h'.get? x = some { cls := .ref C, dict := some dx, data := .fields fv } →
      h'.Ns1 dx (fun y => if y = name then some v else none) → R (.ok (.ret .none)) ⟨h', g, d, tk', os⟩) :
    codeAny (model prog w) A (.call (.builtin "object.__setattr__") ⟨[.ref x, .str name tk, v], []⟩) R ⟨hp, g, d, t, os⟩ := by
  have J : PySem.W.InstAt hp x { cls := .ref C, data := .fields fv } C none := ⟨hx, rfl, rfl, trivial⟩
  have hob : cd.mro.contains (.type "object") = true := by rw [hm, chain_has, ob]
  have hne : cd.mro.isEmpty = false := by rw [hm]; rfl
  have hx0 : x ≠ hp.objs.size := Nat.ne_of_lt (Heap.lt_size hx)
  have isO : PySem.W.Looks (model prog w) hp (isInstance (.ref x) (.type "object")) true := J.type.andThen (PySem.W.looks_mroIn X (by unfold PySem.W.mroIn; rw [hcd, Option.bind_some, if_neg (by rw [hne]; decide), hob]))
  have SF := F.store_object
  refine codeAny_call_builtin SF.slot.plain SF.entry (@PySem.W.check_slot (model prog w) _ _ ⟨hp, g, d, t, os⟩ "object.__setattr__" "object" "__setattr__" (.ref x) [.str name tk, v] [] _ SF.kind SF.split isO (SF.args (.ref x) (.str name tk) v) ?_)
  have lm : PySem.W.Looks (model prog w) hp (mroOf (.ref C)) cd.mro := (PySem.W.looks_clsIn X hcd).andThen .now
  have lc : PySem.W.Looks (model prog w) hp (classData C) cd := PySem.W.looks_clsIn X hcd
  have lt : PySem.W.Looks (model prog w) hp (Builtin.ObjectAttr.storeTaker? none) none := .now
  rw [PySem.W.osa_eq, PySem.refuse_eq]
  refine wpAny_bind (wpAny_bind (J.type.at (wpAny_bind (lm.at ?_))))
  rw [hm, chain_pass st]
  refine wpAny_pure (wpAny_bind (J.type.at (wpAny_bind ((PySem.W.looks_findIn X ha).at (wpAny_bind (lt.at ?_))))))
  show wpAny _ _ (Builtin.ObjectAttr.storeInOwnDict (.ref x) (.ref C) (.str name tk) name v false) _ _ _
  obtain ⟨nm, bs, mro, ns, qn, hd, sn, sb, ab, col, del⟩ := cd
  dsimp only at hh
  subst hh
  unfold Builtin.ObjectAttr.storeInOwnDict Builtin.ObjectAttr.ownDictForStores
  repeat (first | with_reducible refine PySem.HandSPX.store_in_new ?_ ?_ | with_reducible refine wpAny_loadPart_at hx ?_ | with_reducible refine lc.at ?_ | wp_step)
  · exact ⟨_, #[], _, (Heap.get?_update_ne _ _ _ _ hx0.symm).trans (Heap.get?_push_at rfl rfl), rfl, fun e he => absurd he (by simp), fun _ => rfl⟩
  · intro h' tk' hn' hs
    have hx1 : (hp.push { cls := .type "dict", data := .dict #[] }).get? x = some { cls := .ref C, data := .fields fv } := Heap.get?_push_of_some _ hx
    exact hq h' tk' hp.objs.size (fun b o hb ho => (hs.2 b (Nat.ne_of_lt (Heap.lt_size ho))).trans ((Heap.get?_update_ne _ _ _ _ hb).trans (Heap.get?_push_of_some _ ho))) (Nat.le_refl _) hx0.symm ((hs.2 x hx0).trans (Heap.get?_update_self _ hx1 rfl)) hn'
end
section
variable {X : Cx} {pins : List (Addr × Obj)} {σ : L2.St} {H : Hp} {s : Shared} {a C : Addr} {f : Str} {y : V} {u : Value} {Q : Unit → Shared → Prop} {E : Value → Shared → Prop} {A : Around} {B nw ini : String} {tl : List Value}
theorem gst_new (bx : BaseX B nw ini tl) (T : OexG X.K C tl nw) (I : Inv X pins σ H s) (e : H a = some (exo a C none)) (hno : PySem.W.findIn X.K (.ref C) f = some none) (ry : RelV y u)
    (h : ∀ dx s', H dx = none → dx ≠ a → Inv X pins σ (upd (upd H dx (exd dx [(f, y)])) a (exo a C (some dx))) s' → Q () s') : wpAny (model X.prog X.w) A (setAttr (.ref a) f u) Q E s := by
  obtain ⟨nm, q, N, bs, cs, sn, sub, ab, col, dd, k0, k1, k2, k3, k5, hC⟩ := T.cls
  have hcl : PySem.W.clsIn X.K C = some { name := nm, bases := bs, mro := .ref C :: (cs.map Value.ref ++ tl), ns := N, qualname := q, hasDict := true, slotNames := sn, subclasses := sub, abstract := ab, collection := col, hasDel := false } := by unfold PySem.W.clsIn; rw [hC] <;> rfl
  obtain ⟨t1, ho⟩ := exo_at I.hok e
  obtain ⟨hp, g, d, t, os⟩ := s
  refine PySem.W.set_plain I.kIn (ox := { cls := .ref C, dict := none, data := .fields #[.ref t1, .none, .none, .none, .bool false, .none] }) (od := none) ⟨ho, rfl, rfl, trivial⟩ T.sa ?_
  refine gx_store (cs := cs) bx.st bx.ob I.kIn ho hcl rfl rfl hno (fun h' tk' dx k dn dne hx hn => ?_)
  have fresh : H dx = none := I.hok.fresh dn
  have low : ∀ {b : Addr} {o : Obj}, hp.get? b = some o → b ≠ dx := fun z => Nat.ne_of_lt (Nat.lt_of_lt_of_le (Heap.lt_size z) dn)
  have notA : ∀ {b : Addr}, H b = none → b ≠ a := fun {b} n z => by rw [z, e] at n; cases n
  have both : ∀ {b : Addr} {v : HO}, H b = some v → exo a C none ≠ v → upd (upd H dx (exd dx [(f, y)])) a (exo a C (some dx)) b = some v := fun {b v} z ne => by
    rw [upd_ne (fun q => by rw [q, e] at z; exact ne (Option.some.inj z)), upd_ne (fun q => by rw [q, fresh] at z; cases z)]
    exact z
  have U : Un X.fs [] H (upd (upd H dx (exd dx [(f, y)])) a (exo a C (some dx))) hp h' := {
    keep := fun b o z n _ _ => k b o (notA n) z
    slot := fun b o z n _ _ => ⟨o.slots, k b o (notA n) z⟩
    free := fun b o z n _ => by rw [upd_ne (notA n), upd_ne (low z)]; exact n
    there := fun b o z _ => by
      by_cases hb : b = a
      · subst hb
        exact ⟨_, hx⟩
      · exact ⟨o, k b o hb z⟩
    tups := fun b xs z => both z exo_tup
    frzs := fun b o v z => both z exo_frz
    tbls := fun b ps z => ⟨#[], by rw [both z exo_tbl]; simp⟩ }
  refine h dx _ fresh dne (I.un (t' := tk') U fun b o z => ?_)
  by_cases hb : b = a
  · subst hb
    rw [upd_same] at z
    cases z
    exact exo_ok hx
  · rw [upd_ne hb] at z
    by_cases hd : b = dx
    · subst hd
      rw [upd_same] at z
      cases z
      exact exd_ok hn (relO_put (fs := []) ry fun g => True.intro)
    · rw [upd_ne hd] at z
      refine (I.hok b o z).stay (fun c v hc zz => k c v ?_ zz) (fun c hc => both hc exo_own) (fun c xs hc => both hc exo_tup)
      rcases hc with rfl | hc
      · exact hb
      · exact at_ne e hc exo_own
end
/-- self.f = e in such an __init__ -/
def tGst (K : PySem.W.Frag) (f : Str) (to te : TE) : TS := fun D σ H => te σ H fun y H1 => to σ H1 fun x H2 => ∃ (a C : Addr) (B nw ini : String) (tl : List Value), x = .ref a ∧ BaseX B nw ini tl ∧ OexG K C tl nw ∧ PySem.W.findIn K (.ref C) f = some none ∧
  H2 a = some (exo a C none) ∧ ∀ dx, H2 dx = none → dx ≠ a → D.nx σ (upd (upd H2 dx (exd dx [(f, y)])) a (exo a C (some dx)))
section
variable {X : Cx} {o e : Expr} {es : List Expr} {to te : TE} {ta : TA} {f : Str} {p p' pos : Pos} {B nw ini : String} {tl : List Value}
theorem ps_gst (ho : PE X o to) (he : PE X e te) (hs : swapsWith e (some (.Attribute o f p')) pos.line X.env = pure false := by rfl) : PS X (.Assign [.Attribute o f p'] e pos) (tGst X.K f to te) := by
  refine ⟨fun pins s σ H D I h => ?_⟩
  refine plainObj_wpAny_Assign_Attribute (thn (he.run pins s σ H _ I h) fun v s1 ⟨y, H1, I1, r1, q1⟩ => thn (ho.run pins s1 σ H1 _ I1 q1) fun u s2 ⟨x, H2, I2, r2, a, C, B, nw, ini, tl, ex, bx, T, hno, ea, q⟩ => ?_) hs
  subst ex
  obtain rfl : u = Value.ref a := r2
  exact gst_new bx T I2 ea hno r1 fun dx s' n ne J => ⟨σ, _, J, q dx n ne⟩
/-- C(e, ..) to be raised -/
theorem pmk_gex {CX : CXT} {x : Str} {C fI : Addr} {k : Nat} {fd : FuncData} {ps : List Str} {sp : Sp} (bx : BaseX B nw ini tl) (T : OexG X.K C tl nw) (iC : PySem.W.findIn X.K (.ref C) "__init__" = some (some (.ref fI))) (tI : PySem.W.typeIn X.K (.ref fI) = some (.type "function"))
    (F1 : FnOk X.prog X.w X.K X.mg X.base CX k fI fd ps sp) (hr : Room (k + 1) X.A) (hb : Binds X.K fd ps []) (hx : Passes CX X (fun _ _ _ => False)) (hg : Gl X x) (hm : X.mg x = some (.ref C)) (ha : PA X (e :: es) ta)
    (hdb : (x == ("__debug__" : Str)) = false := by decide) (he : starEach (e :: es) X.env = (false, eval e X.env) :: starEach es X.env := by rfl) (hpl : (backTo pos (starEach es X.env)).any (·.1) = false := by rfl) :
    PMk X (.Call (.Name x p) (e :: es) [] pos) (tMkO C sp [] ta) := by
  intro pins s σ H Q I h
  obtain ⟨nm, q, N, bs, cs, sn, sub, ab, col, dd, k0, k1, k2, k3, k5, hC⟩ := T.cls
  refine wpAny_Call_Name_kw (ld_glob I hg hm ?_ hdb)
  refine PySem.W.callWith_K (h₀ := X.base) I.ok.mod.kin T.kC (thn (ha.run pos pins s σ H _ I h) fun us s1 ⟨vs, H1, I1, r1, hz, q1⟩ => ⟨I1.kIn, ?_⟩) he hpl
  show wpAny _ _ (call (.ref C) us) _ _ _
  obtain ⟨hp, g, dr, tk, os⟩ := s1
  have up : hp.objs.size ≤ hp.objs.size + 1 := Nat.le_succ _
  have hq := q1 (hp.objs.size + 1) (I1.hok.fresh up)
  have kk : ∀ b o, hp.get? b = some o → ((hp.push (PySem.W.kdv_tup us)).push (PySem.HandSPX.excO C hp.objs.size)).get? b = some o := fun b o z => Heap.get?_push_of_some _ (Heap.get?_push_of_some _ z)
  have I2 : Inv X pins σ (upd H1 (hp.objs.size + 1) (exo (hp.objs.size + 1) C none)) ⟨(hp.push (PySem.W.kdv_tup us)).push (PySem.HandSPX.excO C hp.objs.size), g, dr, tk, os⟩ :=
    I1.laid (t' := tk) (a := hp.objs.size + 1) (o := exo (hp.objs.size + 1) C none) kk up (exo_ok (t1 := hp.objs.size) (by heap_get))
  have r2 : Vals (V.ref (hp.objs.size + 1) :: (vs ++ [])) (Value.ref (hp.objs.size + 1) :: us) := .cons rfl (by rw [List.append_nil]; exact r1)
  have hl : (Value.ref (hp.objs.size + 1) :: us).length = ps.length := r2.length.symm.trans (F1.len _ _ _ _ hq)
  have hus : us.length ≤ sizeLine := by
    rw [← Paired.length r1, sizeLine_eq]
    omega
  have hbd := hb ⟨(hp.push (PySem.W.kdv_tup us)).push (PySem.HandSPX.excO C hp.objs.size), g, dr, tk, os⟩ (Value.ref (hp.objs.size + 1) :: us) I2.kIn (by simpa using hl)
  refine wpAny_call (PySem.HandSPX.call_own bx.eb (chain_has cs) (I1.kIn _ _ hC) (PySem.W.looks_findIn I1.kIn iC) (fun self => PySem.W.bind_fn I1.kIn self tI) hus
    (codeAny_mono (F1.run _ X.stack _ _ ⟨Value.ref (hp.objs.size + 1) :: us, []⟩ (Value.ref (hp.objs.size + 1) :: us) _ _ (fun _ _ _ => False) (hr.make C us []) (I2.env0.make C us []) (by simpa using hbd) r2 hq) fun r s' hq' => ?_))
  match r, hq' with
  | .error er, hq' => exact hx pins σ _ _ er s' I2 hq'
  | .ok (.ret u), hq' =>
    obtain ⟨v, H2, os2, bare2, un2, hok2, rv, ev, d, fs, ea, ed, hd1, q2⟩ := hq'
    subst ev
    obtain ⟨h2, g2, d2, t2, os'⟩ := s'
    exact ⟨rv, mk_end (raises_own T.exC T.tyC) I1 up kk un2 hok2 os2 bare2 ea ed hd1 q2⟩
end
/-- what the written part says of such an error -/
structure ErrG (K : PySem.W.Frag) (C fI : Addr) (f : Str) (B nw ini : String) (tl : List Value) : Prop where
  bx : BaseX B nw ini tl
  oex : OexG K C tl nw
  iC : PySem.W.findIn K (.ref C) "__init__" = some (some (.ref fI))
  tI : PySem.W.typeIn K (.ref fI) = some (.type "function")
  no : PySem.W.findIn K (.ref C) f = some none
  ga : PySem.W.findIn K (.ref C) "__getattribute__" = some (some (.builtin "BaseException.__getattribute__"))
  gg : PySem.W.findIn K (.ref C) "__getattr__" = some none
  hd : PySem.W.hasDictIn K C = true
  ha : PySem.W.findIn K (.ref C) "__class__" = some (some (.builtin "object.__class__"))
  hn : PySem.W.specialIn K (.builtin "object.__class__") "__get__" = some (some (.builtin "getset_descriptor.__get__"))
  ht : PySem.W.takesIn K (.builtin "object.__class__") = some true
  hm : PySem.W.mroIn K C (.type "object") = some true
section
variable {K : PySem.W.Frag} {C fI : Addr} {f : Str} {B nw ini : String} {tl : List Value}
theorem ErrG.xf (T : ErrG K C fI f B nw ini tl) : XfC K C := ⟨T.ga, T.gg, T.oex.exC, T.hd⟩
theorem ErrG.exc (T : ErrG K C fI f B nw ini tl) : ExcC K C := ⟨T.ga, T.gg, T.oex.exC, T.hd, T.ha, T.hn, T.ht, T.hm⟩
/-- raise C(e) in a def -/
theorem ps_raiseG {X : Cx} {W : WX} {x : Str} {k : Nat} {fd : FuncData} {ps : List Str} {e : Expr} {te : TE} {p pos rpos : Pos} (T : ErrG X.K C fI f B nw ini tl) (F1 : FnOk X.prog X.w X.K X.mg X.base CX0 k fI fd ps (spErr f C)) (hb : Binds X.K fd ps []) (hr : Room (k + 1) X.A)
    (hm : X.mg x = some (.ref C)) (hc : X.calm = true) (tk : Takes X W) (he : PE X e te) (hg : Gl X x := by rfl) (hdb : (x == ("__debug__" : Str)) = false := by decide)
    (hs : starEach [e] X.env = (false, eval e X.env) :: starEach [] X.env := by rfl) (hpl : (backTo pos (starEach [] X.env)).any (·.1) = false := by rfl) :
    PS X (.Raise (some (.Call (.Name x p) [e] [] pos)) none rpos) (fun _ σ H => tErr C f te σ H fun cls d H' => W cls d σ H') :=
  ps_raise hc tk (pmk_gex T.bx T.oex T.iC T.tI F1 hr hb pass0 hg hm (pa_cons he pa_nil hs) hdb hs hpl)
end
end XT

namespace XT
open PySem PySem.Spec PyProof.Rows L2
/-! ### sorted(t) of a tuple of ints -/
def rSortedA (K : PySem.W.Frag) : List V → Hp → VK → Prop := fun vs H Q => ∃ (a : Addr) (ns : List Int), vs = [V.ref a] ∧ (SqL K H a (ns.map V.int) ∨ SqT K H a (ns.map V.int)) ∧
  ∀ (ns' : List Int) (p : Addr), ns'.Perm ns → ns'.Pairwise (· ≤ ·) → H p = none → Q (.ref p) (upd H p (.lst (ns'.map V.int)))
section
variable {X : Cx}
theorem cr_sortedA : CallR X (.builtin "sorted") (rSortedA X.K) := by
  intro pins s σ H vs us Q I r h
  obtain ⟨a, ns, rfl, hs | hs, q⟩ := h
  · exact cr_sortedI pins s σ H _ us Q I r ⟨a, ns, rfl, hs, q⟩
  obtain ⟨its, rv, hl, hz⟩ := I.tuple hs
  rw [Vals.ref1 r]
  have hi := rv.ints
  have hle : its.length ≤ sizeLine := by rw [← rv.length]; exact hz
  obtain ⟨o, ho, hc, n, hd⟩ := hl
  refine Calls.call_function_entry kind_sorted plain_sorted entry_sorted (args_sorted1 _) ?_
  unfold Builtin.«sorted»
  refine wpAny_bind (m := checkCount "sorted" 1 1 _) (wpAny_pure ?_)
  refine wpAny_bind (wpAny_collect_seq a (.inr rfl) ho hc hd (fun h' hk => ?_) (by rw [List.size_toArray]; exact hle))
  have e0 : its.toArray.toList = its := by simp
  rw [e0]
  refine wpAny_bind (wpAny_newList ?_ hle)
  have hoL : (h'.push (seqObj "list" its.toArray 0)).get? h'.objs.size = some (seqObj "list" its.toArray 0) := Heap.get?_push_size _ rfl
  show wpAny _ _ _ _ _ { s with heap := h'.push (seqObj "list" its.toArray 0) }
  refine wpAny_bind (wpAny_holding (wpAny_call_entry slot_list_sort ⟨_, hoL, rfl⟩ entry_list_sort (SrtO.list_sort_ord SrtO.swo_int hoL hle (fun h2 => SrtO.ints_sortable hi h2) fun out q1 q2 => ⟨_, rfl, ?_⟩) (args_list_sort _)))
  refine wpAny_pure ⟨_, rfl, ?_⟩
  obtain ⟨k1, k2, k3⟩ := SrtO.ints_out hi q1 q2
  obtain ⟨ep, he'⟩ := PyProof.Rows.sortedHeap_at (vs := its) (out := out.toArray) hoL
  have hlen : ((out.map SrtO.iv).map V.int).length ≤ sizeLine := by
    rw [List.length_map, k2.length_eq]
    rw [List.length_map] at hz
    exact hz
  have I1 : Inv X pins σ H { s with heap := h' } := I.kept (t' := s.toks) hk
  have h2 : ∀ b u, h'.get? b = some u → b ≠ h'.objs.size ∧ (h'.push (seqObj "list" its.toArray 0)).get? b = some u := fun b u z => ⟨Nat.ne_of_lt (Heap.lt_size z), Heap.get?_push_of_some _ z⟩
  exact ⟨.ref _, upd H h'.objs.size (.lst ((out.map SrtO.iv).map V.int)), I1.laid (t' := s.toks) (fun b u z => by rw [PyProof.Rows.sortedHeap_old (h2 b u z).1 (Heap.lt_size (h2 b u z).2)]; exact (h2 b u z).2) (Nat.le_refl _) ⟨hlen, out, ep, vals_of_ints k1, he'⟩, rfl, q _ _ k2 k3 (I1.hok.fresh (Nat.le_refl _))⟩
theorem sortedAK (K : PySem.W.Frag) (hK : X.K = K := by rfl) : CallR X (.builtin "sorted") (rSortedA K) := by subst hK; exact cr_sortedA
end
end XT

namespace XT
open PySem PySem.Spec PyProof.Rows L2
/-! ### what stands side by side -/
section
variable {α β : Type} {F : α → β → Prop}
theorem pd_append : ∀ {l m : List α} {l' m' : List β}, Paired F l l' → Paired F m m' → Paired F (l ++ m) (l' ++ m')
  | _, _, _, _, .nil, h => h
  | _, _, _, _, .cons r t, h => .cons r (pd_append t h)
theorem pd_get : ∀ {l : List α} {l' : List β}, Paired F l l' → ∀ {i : Nat} {x : α}, l[i]? = some x → ∃ y, l'[i]? = some y ∧ F x y
  | _, _, .nil, _, _, h => by simp at h
  | _, _, .cons r t, 0, _, h => ⟨_, rfl, by
      have : some _ = some _ := h
      cases this
      exact r⟩
  | _, _, .cons r t, i + 1, x, h => by
      obtain ⟨y, h1, h2⟩ := pd_get t (i := i) (x := x) (by simpa using h)
      exact ⟨y, by simpa using h1, h2⟩
theorem pd_get' : ∀ {l : List α} {l' : List β}, Paired F l l' → ∀ {i : Nat} {y : β}, l'[i]? = some y → ∃ x, l[i]? = some x ∧ F x y
  | _, _, .nil, _, _, h => by simp at h
  | _, _, .cons r t, 0, _, h => ⟨_, rfl, by
      have : some _ = some _ := h
      cases this
      exact r⟩
  | _, _, .cons r t, i + 1, x, h => by
      obtain ⟨y, h1, h2⟩ := pd_get' t (i := i) (y := x) (by simpa using h)
      exact ⟨y, by simpa using h1, h2⟩
theorem pd_take : ∀ {l : List α} {l' : List β} (n : Nat), Paired F l l' → Paired F (l.take n) (l'.take n)
  | _, _, 0, _ => by simpa using Paired.nil
  | _, _, n + 1, .nil => by simpa using Paired.nil
  | _, _, n + 1, .cons r t => by
      rw [List.take_succ_cons, List.take_succ_cons]
      exact .cons r (pd_take n t)
theorem pd_drop : ∀ {l : List α} {l' : List β} (n : Nat), Paired F l l' → Paired F (l.drop n) (l'.drop n)
  | _, _, 0, h => h
  | _, _, n + 1, .nil => by simpa using Paired.nil
  | _, _, n + 1, .cons r t => by
      rw [List.drop_succ_cons, List.drop_succ_cons]
      exact pd_drop n t
theorem pd_rev : ∀ {l : List α} {l' : List β}, Paired F l l' → Paired F l.reverse l'.reverse
  | _, _, .nil => .nil
  | _, _, .cons r t => by
      rw [List.reverse_cons, List.reverse_cons]
      exact pd_append (pd_rev t) (.cons r .nil)
theorem pd_rep (n : Nat) {l : List α} {l' : List β} (h : Paired F l l') : Paired F (List.replicate n l).flatten (List.replicate n l').flatten := by
  induction n with
  | zero => exact .nil
  | succ n ih =>
    rw [List.replicate_succ, List.replicate_succ, List.flatten_cons, List.flatten_cons]
    exact pd_append h ih
end
/-! ### steps -/
/-- a step: an insertion (true) or a removal, and its number -/
abbrev Stp := Bool × Int
def wrd : Bool → Str
  | true => "insert"
  | false => "remove"
def goodS (s : Stp) : Bool := s.1 || decide (0 < s.2)
def stD (s : Stp) : PyData := .tuple [.str (wrd s.1), .int s.2]
def StAt (K : PySem.W.Frag) (H : Hp) (x : V) (s : Stp) : Prop := ∃ r, x = .ref r ∧ SqT K H r [.str (wrd s.1), .int s.2]
abbrev StsAt (K : PySem.W.Frag) (H : Hp) : List V → List Stp → Prop := Paired (StAt K H)
theorem StAt.same {K : PySem.W.Frag} {H H' : Hp} {x : V} {s : Stp} (h : StAt K H x s) (e : Same H H') : StAt K H' x s := let ⟨r, a, b⟩ := h; ⟨r, a, same_seqT e b⟩
theorem sts_same {K : PySem.W.Frag} {H H' : Hp} {xs : List V} {L : List Stp} (h : StsAt K H xs L) (e : Same H H') : StsAt K H' xs L := L2.Paired.mapP h fun _ _ z => z.same e
theorem st_of {K : PySem.W.Frag} {H : Hp} {r : Addr} {b : Bool} {i : Int} (h : H r = some (.tup [.str (wrd b), .int i])) : StAt K H (.ref r) (b, i) := ⟨r, rfl, SqT.of h⟩
theorem st_dp {K : PySem.W.Frag} {H : Hp} {x : V} {s : Stp} (h : StAt K H x s) : Dp K H x (stD s) := by
  obtain ⟨r, rfl, hr⟩ := h
  exact .tup hr (.cons (.str _) (.cons (.int _) .nil))
theorem sts_dp {K : PySem.W.Frag} {H : Hp} : ∀ {xs : List V} {L : List Stp}, StsAt K H xs L → DpAll K H xs (L.map stD)
  | _, _, .nil => .nil
  | _, _, .cons r t => .cons (st_dp r) (sts_dp t)
theorem dp_stsT {K : PySem.W.Frag} {H : Hp} {p : Addr} {xs : List V} {L : List Stp} (h : SqT K H p xs) (k : StsAt K H xs L) : Dp K H (.ref p) (.tuple (L.map stD)) := .tup h (sts_dp k)
theorem dp_stsL {K : PySem.W.Frag} {H : Hp} {p : Addr} {xs : List V} {L : List Stp} (h : SqL K H p xs) (k : StsAt K H xs L) : Dp K H (.ref p) (.list (L.map stD)) := .lst h (sts_dp k)
theorem wrd_inj {b c : Bool} : (wrd b == wrd c) = decide (b = c) := by cases b <;> cases c <;> decide +kernel
theorem eqv_st (s t : Stp) : PyData.eqv (stD s) (stD t) = decide (s = t) := by
  obtain ⟨b, i⟩ := s
  obtain ⟨c, j⟩ := t
  have h1 : PyData.eqv (.str (wrd b)) (.str (wrd c)) = decide (b = c) := by
    have := wrd_inj (b := b) (c := c)
    simp only [PyData.eqv]
    first | exact this | simpa using this
  have h2 : PyData.eqv (.int i) (.int j) = decide (i = j) := by
    simp only [PyData.eqv]
    rw [Bool.eq_iff_iff]
    simp
  simp only [stD, PyData.eqv, PyData.eqvAll]
  simp only [PyData.eqv] at h1 h2
  first
    | (rw [h1, h2, Bool.and_true, Bool.eq_iff_iff]; simp)
    | (simp only [h1, h2]; rw [Bool.eq_iff_iff]; simp)
theorem eqvAll_sts (L : List Stp) : ∀ M : List Stp, PyData.eqvAll (L.map stD) (M.map stD) = decide (L = M) := by
  induction L with
  | nil =>
    intro M
    cases M <;> simp [PyData.eqvAll]
  | cons x L ih =>
    intro M
    cases M with
    | nil => simp [PyData.eqvAll]
    | cons y M =>
      rw [List.map_cons, List.map_cons, PyData.eqvAll, ih, eqv_st, Bool.eq_iff_iff]
      simp
theorem eqv_stsT (L M : List Stp) : PyData.eqv (.tuple (L.map stD)) (.tuple (M.map stD)) = decide (L = M) := by
  rw [PyData.eqv]
  exact eqvAll_sts L M
theorem eqv_stsL (L M : List Stp) : PyData.eqv (.list (L.map stD)) (.list (M.map stD)) = decide (L = M) := by
  rw [PyData.eqv]
  exact eqvAll_sts L M
theorem wrd_ok (b : Bool) : PyData.strOk (wrd b) = true := by cases b <;> exact ok_of _
theorem canLay_sts : ∀ L : List Stp, PyData.canLayAll0 (L.map stD) = true
  | [] => rfl
  | x :: L => by simp [PyData.canLayAll0, PyData.canLay0, stD, wrd_ok, canLay_sts L]
theorem depth_sts : ∀ L : List Stp, PyData.depthAll (L.map stD) ≤ 1
  | [] => by simp [PyData.depthAll]
  | x :: L => by
    have := depth_sts L
    simp [PyData.depthAll, PyData.depth, stD]
    omega
theorem sh_stsT (L : List Stp) : SeqAt.shaped (.tuple (L.map stD)) = true := by
  have := depth_sts L
  simp [SeqAt.shaped, PyData.canLay0, PyData.depth, canLay_sts]
  omega
theorem sh_stsL (L : List Stp) : SeqAt.shaped (.list (L.map stD)) = true := by
  have := depth_sts L
  simp [SeqAt.shaped, PyData.canLay0, PyData.depth, canLay_sts]
  omega
end XT

namespace XT
open PySem PySem.Spec PyProof.Rows L2
/-! ### running a sequence on a list -/
def srt (L : List Int) : List Int := L.mergeSort fun a b => decide (a ≤ b)
theorem srt_perm (L : List Int) : (srt L).Perm L := List.mergeSort_perm L _
theorem srt_up (L : List Int) : (srt L).Pairwise (· ≤ ·) := by
  have := List.pairwise_mergeSort (le := fun a b : Int => decide (a ≤ b)) (by simp; omega) (by simp; omega) L
  exact this.imp fun h => by simpa using h
theorem srt_of {N L : List Int} (p : N.Perm L) (u : N.Pairwise (· ≤ ·)) : N = srt L :=
  List.Perm.eq_of_pairwise (le := (· ≤ ·)) (fun a b _ _ h1 h2 => Int.le_antisymm h1 h2) u (srt_up L) (p.trans (srt_perm L).symm)
theorem srt_len (L : List Int) : (srt L).length = L.length := (srt_perm L).length_eq
def stepR (L : List Int) : Stp → Option (List Int)
  | (true, x) => some (srt (L ++ [x]))
  | (false, k) => if (L.length : Int) < k then none else some (L.take (k - 1).toNat ++ L.drop k.toNat)
def runR (L : List Int) (i : Nat) : List Stp → List Int ⊕ Nat
  | [] => .inl L
  | s :: r => match stepR L s with
    | none => .inr i
    | some M => runR M (i + 1) r
theorem runR_step {L M : List Int} {i : Nat} {S : List Stp} {s : Stp} (h : S[i]? = some s) (e : stepR L s = some M) : runR L i (S.drop i) = runR M (i + 1) (S.drop (i + 1)) := by
  obtain ⟨hi, hs⟩ := List.getElem?_eq_some_iff.mp h
  rw [List.drop_eq_getElem_cons hi, hs]
  simp only [runR, e]
theorem runR_fail {L : List Int} {i : Nat} {S : List Stp} {s : Stp} (h : S[i]? = some s) (e : stepR L s = none) : runR L i (S.drop i) = .inr i := by
  obtain ⟨hi, hs⟩ := List.getElem?_eq_some_iff.mp h
  rw [List.drop_eq_getElem_cons hi, hs]
  simp only [runR, e]
theorem stepR_len {L M : List Int} {s : Stp} (e : stepR L s = some M) : M.length ≤ L.length + 1 := by
  obtain ⟨b, k⟩ := s
  cases b with
  | true =>
    have e' : some (srt (L ++ [k])) = some M := e
    cases e'
    rw [srt_len, List.length_append]
    simp
  | false =>
    simp only [stepR] at e
    split at e
    · cases e
    · cases e
      rw [List.length_append, List.length_take, List.length_drop]
      omega
theorem cut_to (n : Nat) (xs : List V) : cutV xs none (some (n : Int)) = xs.take n := by
  unfold cutV
  have e : HT.sIx xs.length xs.length (some (n : Int)) = min n xs.length := HT.sIx_nat xs.length xs.length n
  rw [HT.sIx_none, e]
  simp
  try omega
theorem cut_from (n : Nat) (xs : List V) : cutV xs (some (n : Int)) none = xs.drop n := by
  unfold cutV
  have e : HT.sIx xs.length 0 (some (n : Int)) = min n xs.length := HT.sIx_nat xs.length 0 n
  rw [e, HT.sIx_none]
  by_cases h : n ≤ xs.length
  · rw [Nat.min_eq_left h]
    exact List.take_of_length_le (by simp)
  · have h' : xs.length ≤ n := by omega
    rw [Nat.min_eq_right h', List.drop_eq_nil_of_le h']
    simp
theorem cut_rm {L : List Int} {k : Int} (h : 0 < k) : cutV (L.map V.int) none (some (k - 1)) ++ cutV (L.map V.int) (some k) none = (L.take (k - 1).toNat ++ L.drop k.toNat).map V.int := by
  have e1 : k - 1 = ((k - 1).toNat : Int) := by omega
  have e2 : k = (k.toNat : Int) := by omega
  have h1 := cut_to (k - 1).toNat (L.map V.int)
  have h2 := cut_from k.toNat (L.map V.int)
  rw [← e1] at h1
  rw [← e2] at h2
  rw [h1, h2, List.map_append, List.map_take, List.map_drop]
/-- what comes of it, as data -/
def resD : List Int ⊕ Nat → PyData
  | .inl M => .list [.str "list", .list (M.map PyData.int)]
  | .inr i => .list [.str "failed", .int (i : Int), .bool false]
theorem sh_res (r : List Int ⊕ Nat) : SeqAt.shaped (resD r) = true := by
  cases r with
  | inl M => simp [resD, SeqAt.shaped, PyData.canLay0, PyData.canLayAll0, PyData.depth, PyData.depthAll, canLay_ints, depth_ints, ok_of]
  | inr i => simp [resD, SeqAt.shaped, PyData.canLay0, PyData.canLayAll0, PyData.depth, PyData.depthAll, ok_of]
/-- the list that tells it -/
def ResAt (K : PySem.W.Frag) (H : Hp) (r : Addr) : List Int ⊕ Nat → Prop
  | .inl M => ∃ m, H r = some (.lst [.str "list", .ref m]) ∧ H m = some (.lst (M.map V.int))
  | .inr i => H r = some (.lst [.str "failed", .int (i : Int), .bl false])
theorem ResAt.same {K : PySem.W.Frag} {H H' : Hp} {r : Addr} {v : List Int ⊕ Nat} (h : ResAt K H r v) (e : Same H H') : ResAt K H' r v := by
  cases v with
  | inl M =>
    obtain ⟨m, a, b⟩ := h
    exact ⟨m, e _ _ a, e _ _ b⟩
  | inr i => exact e _ _ h
theorem ResAt.dp {K : PySem.W.Frag} {H : Hp} {r : Addr} {v : List Int ⊕ Nat} (h : ResAt K H r v) : Dp K H (.ref r) (resD v) := by
  cases v with
  | inl M =>
    obtain ⟨m, a, b⟩ := h
    exact .lst (SqL.of a) (.cons (.str _) (.cons (dp_lst (SqL.of b)) .nil))
  | inr i => exact .lst (SqL.of h) (.cons (.str _) (.cons (.int _) (.cons (.bl _) .nil)))
/-! ### a comprehension over a range whose element changes something -/
theorem lcE {lo : Int} {n : Nat} {g : TG} {te : TE} {vs : List Nat} {σ : L2.St} {H1 : Hp} {D : Addr} {Qd : Hp → Prop} (I : Nat → Hp → List V → Prop) (h0 : I 0 (upd H1 D (.lst [])) []) (hn : n ≤ sizeLine)
    (hl : ∀ i H acc, I i H acc → acc.length = i)
    (hs : ∀ i H acc (R : V → Hp → Prop), i < n → I i H acc → (∀ y H', H' D = some (.lst acc) → I (i + 1) (upd H' D (.lst (acc ++ [y]))) (acc ++ [y]) → R y H') → g (.int (lo + (i : Nat))) (wipe σ vs) H fun σ2 H2 => wipe σ2 vs = wipe σ vs ∧ te σ2 H2 R)
    (hd : ∀ H acc, I n H acc → Qd H) :
    ∃ W : Nat → Nat → Hp → Prop, (∃ m, W 0 m (upd H1 D (.lst []))) ∧ ∀ i m H, W i m H →
      ((Itr lo n).stop i H ∧ Qd H) ∨ ((Itr lo n).go i H ∧ ∃ Nx : Hp → Prop, (∀ H', Nx H' → ∃ m', m' < m ∧ W (i + 1) m' H') ∧ ∀ x H', (Itr lo n).yld i H x H' → g x (wipe σ vs) H' fun σ2 H2 => wipe σ2 vs = wipe σ vs ∧ tYes σ2 H2 fun b H3 =>
        if b = true then te σ2 H3 fun y H4 => ∃ acc, H4 D = some (.lst acc) ∧ acc.length < sizeLine ∧ Nx (upd H4 D (.lst (acc ++ [y]))) else Nx H3) := by
  refine ⟨fun i m H => m = n - i ∧ i ≤ n ∧ ∃ acc, I i H acc, ⟨n, by simp, Nat.zero_le _, _, h0⟩, ?_⟩
  rintro i m H ⟨rfl, hi, acc, hI⟩
  by_cases hlt : i < n
  · refine .inr ⟨hlt, fun H' => ∃ acc, I (i + 1) H' acc, fun H' p => ⟨n - (i + 1), by omega, rfl, hlt, p⟩, fun x H' y => ?_⟩
    obtain ⟨e, y⟩ := y
    subst e y
    show g _ _ _ fun σ2 H2 => _ ∧ (if true = true then te σ2 H2 fun y H4 => ∃ acc, H4 D = some (.lst acc) ∧ acc.length < sizeLine ∧ (∃ acc', I (i + 1) (upd H4 D (.lst (acc ++ [y]))) acc') else (∃ acc, I (i + 1) H2 acc))
    simp only [if_true]
    exact hs i _ acc _ hlt hI fun y H' e k => ⟨acc, e, by rw [hl i _ acc hI]; exact Nat.lt_of_lt_of_le hlt hn, _, k⟩
  · have e : i = n := by omega
    subst e
    exact .inl ⟨Nat.le_refl _, hd H acc hI⟩
/-- for i, x in enumerate(t) -/
theorem for_enT {K : PySem.W.Frag} {a : Addr} {xs : List V} {g : TG} {tb : TS} {D : Ends} {σ : L2.St} {H : Hp} (h1 : SqT K H a xs) (Pv : Nat → L2.St → Hp → Prop) (hl : ∀ i σ H, i ≤ xs.length → Pv i σ H → SqT K H a xs) (h0 : Pv 0 σ H)
    (hs : ∀ i x T σ H, i < xs.length → xs[i]? = some x → H T = none → Pv i σ H → g (.ref T) σ (upd H T (.tup [.int (i : Nat), x])) fun σ2 H2 => tb { D with nx := Pv (i + 1), ct := Pv (i + 1), bk := D.nx } σ2 H2) (hd : ∀ σ H, Pv xs.length σ H → D.nx σ H) :
    ∃ W : Nat → Nat → L2.St → Hp → Prop, (∃ m, W 0 m σ H) ∧ ∀ i m σ H, W i m σ H →
      ((IteT K a).stop i H ∧ D.nx σ H) ∨ ((IteT K a).go i H ∧ ∃ N : L2.St → Hp → Prop, (∀ σ' H', N σ' H' → ∃ m', m' < m ∧ W (i + 1) m' σ' H') ∧ ∀ x H', (IteT K a).yld i H x H' → g x σ H' fun σ2 H2 => tb { D with nx := N, ct := N, bk := D.nx } σ2 H2) := by
  refine ⟨fun i m σ H => m = xs.length - i ∧ i ≤ xs.length ∧ Pv i σ H, ⟨xs.length, by simp, Nat.zero_le _, h0⟩, ?_⟩
  rintro i m σ H ⟨rfl, hi, p⟩
  have q := hl i σ H hi p
  by_cases hlt : i < xs.length
  · have e : xs[i]? = some xs[i] := by simp [hlt]
    refine .inr ⟨⟨xs, xs[i], q, e⟩, Pv (i + 1), fun σ' H' p' => ⟨xs.length - (i + 1), by omega, rfl, hlt, p'⟩, fun x H' y => ?_⟩
    obtain ⟨T, x', e1, n, e2, y⟩ := y
    subst e1 e2
    exact hs i x' T σ H hlt (y xs q) n p
  · have e : i = xs.length := by omega
    subst e
    exact .inl ⟨⟨xs, q, Nat.le_refl _⟩, hd σ H p⟩
/-- for i, x in enumerate(l) -/
theorem for_enL {K : PySem.W.Frag} {a : Addr} {xs : List V} {g : TG} {tb : TS} {D : Ends} {σ : L2.St} {H : Hp} (Pv : Nat → L2.St → Hp → Prop) (hl : ∀ i σ H, i ≤ xs.length → Pv i σ H → SqL K H a xs) (h0 : Pv 0 σ H)
    (hs : ∀ i x T σ H, i < xs.length → xs[i]? = some x → H T = none → Pv i σ H → g (.ref T) σ (upd H T (.tup [.int (i : Nat), x])) fun σ2 H2 => tb { D with nx := Pv (i + 1), ct := Pv (i + 1), bk := D.nx } σ2 H2) (hd : ∀ σ H, Pv xs.length σ H → D.nx σ H) :
    ∃ W : Nat → Nat → L2.St → Hp → Prop, (∃ m, W 0 m σ H) ∧ ∀ i m σ H, W i m σ H →
      ((Ite K a).stop i H ∧ D.nx σ H) ∨ ((Ite K a).go i H ∧ ∃ N : L2.St → Hp → Prop, (∀ σ' H', N σ' H' → ∃ m', m' < m ∧ W (i + 1) m' σ' H') ∧ ∀ x H', (Ite K a).yld i H x H' → g x σ H' fun σ2 H2 => tb { D with nx := N, ct := N, bk := D.nx } σ2 H2) := by
  refine ⟨fun i m σ H => m = xs.length - i ∧ i ≤ xs.length ∧ Pv i σ H, ⟨xs.length, by simp, Nat.zero_le _, h0⟩, ?_⟩
  rintro i m σ H ⟨rfl, hi, p⟩
  have q := hl i σ H hi p
  by_cases hlt : i < xs.length
  · have e : xs[i]? = some xs[i] := by simp [hlt]
    refine .inr ⟨⟨xs, xs[i], q, e⟩, Pv (i + 1), fun σ' H' p' => ⟨xs.length - (i + 1), by omega, rfl, hlt, p'⟩, fun x H' y => ?_⟩
    obtain ⟨T, x', e1, n, e2, y⟩ := y
    subst e1 e2
    exact hs i x' T σ H hlt (y xs q) n p
  · have e : i = xs.length := by omega
    subst e
    exact .inl ⟨⟨xs, q, Nat.le_refl _⟩, hd σ H p⟩
end XT

namespace K02
open PySem L2 XT
def top (i : Nat) : Stmt := PySem.Challenge.pw_rankeffect_k02_lists_after_sequences.main.body.getD i (.Pass ⟨0, 0, 0, 0⟩)

abbrev s_is_integer : Stmt := top 2
abbrev N_is_integer : List Str := ["value"]
theorem sc_is_integer : FnScope N_is_integer ["value"] (defScope s_is_integer) := ⟨rfl, rfl, rfl, by decide +kernel, rfl, by decide +kernel, by decide +kernel⟩
theorem bn_is_integer : XT.Bnd "is_integer" "is_integer" s_is_integer ["value"] := fun _ _ _ _ _ _ us hl => match us, hl with | [_], _ => rfl

abbrev s_is_rank : Stmt := top 3
abbrev N_is_rank : List Str := ["value"]
theorem sc_is_rank : FnScope N_is_rank ["value"] (defScope s_is_rank) := ⟨rfl, rfl, rfl, by decide +kernel, rfl, by decide +kernel, by decide +kernel⟩
theorem bn_is_rank : XT.Bnd "is_rank" "is_rank" s_is_rank ["value"] := fun _ _ _ _ _ _ us hl => match us, hl with | [_], _ => rfl

abbrev s_is_number_list : Stmt := top 4
abbrev N_is_number_list : List Str := ["value", "number"]
theorem sc_is_number_list : FnScope N_is_number_list ["value"] (defScope s_is_number_list) := ⟨rfl, rfl, rfl, by decide +kernel, rfl, by decide +kernel, by decide +kernel⟩
theorem bn_is_number_list : XT.Bnd "is_number_list" "is_number_list" s_is_number_list ["value"] := fun _ _ _ _ _ _ us hl => match us, hl with | [_], _ => rfl

abbrev s_InvalidList___init__ : Stmt := inClass (top 7) 0
abbrev N_InvalidList___init__ : List Str := ["self", "value"]
theorem sc_InvalidList___init__ : FnScope N_InvalidList___init__ ["self", "value"] (defScope s_InvalidList___init__) := ⟨rfl, rfl, rfl, by decide +kernel, rfl, by decide +kernel, by decide +kernel⟩
theorem bn_InvalidList___init__ : XT.Bnd "__init__" "InvalidList.__init__" s_InvalidList___init__ ["self", "value"] := fun _ _ _ _ _ _ us hl => match us, hl with | [_, _], _ => rfl

abbrev s_InvalidStep___init__ : Stmt := inClass (top 8) 0
abbrev N_InvalidStep___init__ : List Str := ["self", "value"]
theorem sc_InvalidStep___init__ : FnScope N_InvalidStep___init__ ["self", "value"] (defScope s_InvalidStep___init__) := ⟨rfl, rfl, rfl, by decide +kernel, rfl, by decide +kernel, by decide +kernel⟩
theorem bn_InvalidStep___init__ : XT.Bnd "__init__" "InvalidStep.__init__" s_InvalidStep___init__ ["self", "value"] := fun _ _ _ _ _ _ us hl => match us, hl with | [_, _], _ => rfl

abbrev s_StepFailed___init__ : Stmt := inClass (top 9) 0
abbrev N_StepFailed___init__ : List Str := ["self", "index"]
theorem sc_StepFailed___init__ : FnScope N_StepFailed___init__ ["self", "index"] (defScope s_StepFailed___init__) := ⟨rfl, rfl, rfl, by decide +kernel, rfl, by decide +kernel, by decide +kernel⟩
theorem bn_StepFailed___init__ : XT.Bnd "__init__" "StepFailed.__init__" s_StepFailed___init__ ["self", "index"] := fun _ _ _ _ _ _ us hl => match us, hl with | [_, _], _ => rfl

abbrev s_ascending : Stmt := top 11
abbrev N_ascending : List Str := ["numbers"]
theorem sc_ascending : FnScope N_ascending ["numbers"] (defScope s_ascending) := ⟨rfl, rfl, rfl, by decide +kernel, rfl, by decide +kernel, by decide +kernel⟩
theorem bn_ascending : XT.Bnd "ascending" "ascending" s_ascending ["numbers"] := fun _ _ _ _ _ _ us hl => match us, hl with | [_], _ => rfl

abbrev s_after_step : Stmt := top 12
abbrev N_after_step : List Str := ["numbers", "index", "step", "word", "number"]
theorem sc_after_step : FnScope N_after_step ["numbers", "index", "step"] (defScope s_after_step) := ⟨rfl, rfl, rfl, by decide +kernel, rfl, by decide +kernel, by decide +kernel⟩
theorem bn_after_step : XT.Bnd "after_step" "after_step" s_after_step ["numbers", "index", "step"] := fun _ _ _ _ _ _ us hl => match us, hl with | [_, _, _], _ => rfl

abbrev s_Sequence___init__ : Stmt := inClass (top 13) 0
abbrev N_Sequence___init__ : List Str := ["self", "steps", "step"]
theorem sc_Sequence___init__ : FnScope N_Sequence___init__ ["self", "steps"] (defScope s_Sequence___init__) := ⟨rfl, rfl, rfl, by decide +kernel, rfl, by decide +kernel, by decide +kernel⟩
theorem bn_Sequence___init__ : XT.BndS "__init__" "Sequence.__init__" s_Sequence___init__ ["self"] "steps" := fun _ _ _ _ _ _ us rest hl => StX.bind_star1 (B := fun us => bindArgs _ ⟨us, []⟩) (fun _ => rfl) (fun _ _ _ => rfl) us rest hl

abbrev s_Sequence_is_step : Stmt := inClass (top 13) 1
abbrev N_Sequence_is_step : List Str := ["value", "word", "number"]
theorem sc_Sequence_is_step : FnScope N_Sequence_is_step ["value"] (defScope s_Sequence_is_step) := ⟨rfl, rfl, rfl, by decide +kernel, rfl, by decide +kernel, by decide +kernel⟩
theorem bn_Sequence_is_step : XT.Bnd "is_step" "Sequence.is_step" s_Sequence_is_step ["value"] := fun _ _ _ _ _ _ us hl => match us, hl with | [_], _ => rfl

abbrev s_Sequence_steps : Stmt := inClass (top 13) 2
abbrev N_Sequence_steps : List Str := ["self"]
theorem sc_Sequence_steps : FnScope N_Sequence_steps ["self"] (defScope s_Sequence_steps) := ⟨rfl, rfl, rfl, by decide +kernel, rfl, by decide +kernel, by decide +kernel⟩
theorem bn_Sequence_steps : XT.Bnd "steps" "Sequence.steps" s_Sequence_steps ["self"] := fun _ _ _ _ _ _ us hl => match us, hl with | [_], _ => rfl

abbrev s_Sequence___len__ : Stmt := inClass (top 13) 3
abbrev N_Sequence___len__ : List Str := ["self"]
theorem sc_Sequence___len__ : FnScope N_Sequence___len__ ["self"] (defScope s_Sequence___len__) := ⟨rfl, rfl, rfl, by decide +kernel, rfl, by decide +kernel, by decide +kernel⟩
theorem bn_Sequence___len__ : XT.Bnd "__len__" "Sequence.__len__" s_Sequence___len__ ["self"] := fun _ _ _ _ _ _ us hl => match us, hl with | [_], _ => rfl

abbrev s_Sequence___eq__ : Stmt := inClass (top 13) 4
abbrev N_Sequence___eq__ : List Str := ["self", "other"]
theorem sc_Sequence___eq__ : FnScope N_Sequence___eq__ ["self", "other"] (defScope s_Sequence___eq__) := ⟨rfl, rfl, rfl, by decide +kernel, rfl, by decide +kernel, by decide +kernel⟩
theorem bn_Sequence___eq__ : XT.Bnd "__eq__" "Sequence.__eq__" s_Sequence___eq__ ["self", "other"] := fun _ _ _ _ _ _ us hl => match us, hl with | [_, _], _ => rfl

abbrev s_Sequence___add__ : Stmt := inClass (top 13) 5
abbrev N_Sequence___add__ : List Str := ["self", "other", "steps"]
theorem sc_Sequence___add__ : FnScope N_Sequence___add__ ["self", "other"] (defScope s_Sequence___add__) := ⟨rfl, rfl, rfl, by decide +kernel, rfl, by decide +kernel, by decide +kernel⟩
theorem bn_Sequence___add__ : XT.Bnd "__add__" "Sequence.__add__" s_Sequence___add__ ["self", "other"] := fun _ _ _ _ _ _ us hl => match us, hl with | [_, _], _ => rfl

abbrev s_Sequence___mul__ : Stmt := inClass (top 13) 6
abbrev N_Sequence___mul__ : List Str := ["self", "other", "steps"]
theorem sc_Sequence___mul__ : FnScope N_Sequence___mul__ ["self", "other"] (defScope s_Sequence___mul__) := ⟨rfl, rfl, rfl, by decide +kernel, rfl, by decide +kernel, by decide +kernel⟩
theorem bn_Sequence___mul__ : XT.Bnd "__mul__" "Sequence.__mul__" s_Sequence___mul__ ["self", "other"] := fun _ _ _ _ _ _ us hl => match us, hl with | [_, _], _ => rfl

abbrev s_Sequence___call__ : Stmt := inClass (top 13) 7
abbrev N_Sequence___call__ : List Str := ["self", "numbers", "current", "index", "step"]
theorem sc_Sequence___call__ : FnScope N_Sequence___call__ ["self", "numbers"] (defScope s_Sequence___call__) := ⟨rfl, rfl, rfl, by decide +kernel, rfl, by decide +kernel, by decide +kernel⟩
theorem bn_Sequence___call__ : XT.Bnd "__call__" "Sequence.__call__" s_Sequence___call__ ["self", "numbers"] := fun _ _ _ _ _ _ us hl => match us, hl with | [_, _], _ => rfl

abbrev s_law_pool : Stmt := top 15
abbrev N_law_pool : List Str := ["_law_script", "_law_k", "_law_cell", "_law_mixed"]
theorem sc_law_pool : FnScope N_law_pool ["_law_script", "_law_k"] (defScope s_law_pool) := ⟨rfl, rfl, rfl, by decide +kernel, rfl, by decide +kernel, by decide +kernel⟩
theorem bn_law_pool : XT.Bnd "_law_pool" "_law_pool" s_law_pool ["_law_script", "_law_k"] := fun _ _ _ _ _ _ us hl => match us, hl with | [_, _], _ => rfl

abbrev s_law_take : Stmt := top 16
abbrev N_law_take : List Str := ["_law_pool_here", "_law_many", "_law_found"]
theorem sc_law_take : FnScope N_law_take ["_law_pool_here", "_law_many"] (defScope s_law_take) := ⟨rfl, rfl, rfl, by decide +kernel, rfl, by decide +kernel, by decide +kernel⟩
theorem bn_law_take : XT.Bnd "_law_take" "_law_take" s_law_take ["_law_pool_here", "_law_many"] := fun _ _ _ _ _ _ us hl => match us, hl with | [_, _], _ => rfl

abbrev s_law_steps : Stmt := top 17
abbrev N_law_steps : List Str := ["_law_pool_here", "_law_most", "_law_steps_here", "_law_way", "_law_turn"]
theorem sc_law_steps : FnScope N_law_steps ["_law_pool_here", "_law_most"] (defScope s_law_steps) := ⟨rfl, rfl, rfl, by decide +kernel, rfl, by decide +kernel, by decide +kernel⟩
theorem bn_law_steps : XT.Bnd "_law_steps" "_law_steps" s_law_steps ["_law_pool_here", "_law_most"] := fun _ _ _ _ _ _ us hl => match us, hl with | [_, _], _ => rfl

abbrev s_law_made : Stmt := top 18
abbrev N_law_made : List Str := ["_law_steps_here", "_law_made_here", "_law_step"]
theorem sc_law_made : FnScope N_law_made ["_law_steps_here"] (defScope s_law_made) := ⟨rfl, rfl, rfl, by decide +kernel, rfl, by decide +kernel, by decide +kernel⟩
theorem bn_law_made : XT.Bnd "_law_made" "_law_made" s_law_made ["_law_steps_here"] := fun _ _ _ _ _ _ us hl => match us, hl with | [_], _ => rfl

abbrev s_law_due : Stmt := top 19
abbrev N_law_due : List Str := ["_law_steps_here", "_law_numbers", "_law_rest", "_law_at", "_law_step"]
theorem sc_law_due : FnScope N_law_due ["_law_steps_here", "_law_numbers"] (defScope s_law_due) := ⟨rfl, rfl, rfl, by decide +kernel, rfl, by decide +kernel, by decide +kernel⟩
theorem bn_law_due : XT.Bnd "_law_due" "_law_due" s_law_due ["_law_steps_here", "_law_numbers"] := fun _ _ _ _ _ _ us hl => match us, hl with | [_, _], _ => rfl

abbrev s_law_caught : Stmt := top 20
abbrev N_law_caught : List Str := ["_law_sequence", "_law_numbers", "e"]
theorem sc_law_caught : FnScope N_law_caught ["_law_sequence", "_law_numbers"] (defScope s_law_caught) := ⟨rfl, rfl, rfl, by decide +kernel, rfl, by decide +kernel, by decide +kernel⟩
theorem bn_law_caught : XT.Bnd "_law_caught" "_law_caught" s_law_caught ["_law_sequence", "_law_numbers"] := fun _ _ _ _ _ _ us hl => match us, hl with | [_, _], _ => rfl

abbrev s_law : Stmt := top 21
abbrev N_law : List Str := ["_law_script", "_law_k", "_law_pool_here", "_law_steps_here", "_law_sequence", "_law_turn", "_law_numbers", "_law_item", "_law_number", "_law_text", "_law_due_here", "_law_found", "_law_odd"]
theorem sc_law : FnScope N_law ["_law_script"] (defScope s_law) := ⟨rfl, rfl, rfl, by decide +kernel, rfl, by decide +kernel, by decide +kernel⟩
theorem bn_law : XT.Bnd "law" "law" s_law ["_law_script"] := fun _ _ _ _ _ _ us hl => match us, hl with | [_], _ => rfl

structure Ads where
  is_integer : Addr
  is_rank : Addr
  is_number_list : Addr
  InvalidList___init__ : Addr
  InvalidStep___init__ : Addr
  StepFailed___init__ : Addr
  ascending : Addr
  after_step : Addr
  Sequence___init__ : Addr
  Sequence_is_step : Addr
  Sequence_steps : Addr
  Sequence___len__ : Addr
  Sequence___eq__ : Addr
  Sequence___add__ : Addr
  Sequence___mul__ : Addr
  Sequence___call__ : Addr
  law_pool : Addr
  law_take : Addr
  law_steps : Addr
  law_made : Addr
  law_due : Addr
  law_caught : Addr
  law : Addr
  RankError : Addr
  InvalidList : Addr
  InvalidStep : Addr
  StepFailed : Addr
  Sequence : Addr
  P_steps : Addr
  S_is_step : Addr

structure Txt (K : PySem.W.Frag) (mg : Str → Option Value) (a : Ads) : Prop where
  F_is_integer : ∃ fd, Fun K "is_integer" "is_integer" s_is_integer a.is_integer fd
  g_is_integer : mg "is_integer" = some (.ref a.is_integer)
  k_is_integer : PySem.W.keepIn K (.ref a.is_integer) = true
  F_is_rank : ∃ fd, Fun K "is_rank" "is_rank" s_is_rank a.is_rank fd
  g_is_rank : mg "is_rank" = some (.ref a.is_rank)
  k_is_rank : PySem.W.keepIn K (.ref a.is_rank) = true
  F_is_number_list : ∃ fd, Fun K "is_number_list" "is_number_list" s_is_number_list a.is_number_list fd
  g_is_number_list : mg "is_number_list" = some (.ref a.is_number_list)
  k_is_number_list : PySem.W.keepIn K (.ref a.is_number_list) = true
  F_InvalidList___init__ : ∃ fd, Fun K "__init__" "InvalidList.__init__" s_InvalidList___init__ a.InvalidList___init__ fd
  F_InvalidStep___init__ : ∃ fd, Fun K "__init__" "InvalidStep.__init__" s_InvalidStep___init__ a.InvalidStep___init__ fd
  F_StepFailed___init__ : ∃ fd, Fun K "__init__" "StepFailed.__init__" s_StepFailed___init__ a.StepFailed___init__ fd
  F_ascending : ∃ fd, Fun K "ascending" "ascending" s_ascending a.ascending fd
  g_ascending : mg "ascending" = some (.ref a.ascending)
  k_ascending : PySem.W.keepIn K (.ref a.ascending) = true
  F_after_step : ∃ fd, Fun K "after_step" "after_step" s_after_step a.after_step fd
  g_after_step : mg "after_step" = some (.ref a.after_step)
  k_after_step : PySem.W.keepIn K (.ref a.after_step) = true
  F_Sequence___init__ : ∃ fd, Fun K "__init__" "Sequence.__init__" s_Sequence___init__ a.Sequence___init__ fd
  F_Sequence_is_step : ∃ fd, Fun K "is_step" "Sequence.is_step" s_Sequence_is_step a.Sequence_is_step fd
  F_Sequence_steps : ∃ fd, Fun K "steps" "Sequence.steps" s_Sequence_steps a.Sequence_steps fd
  F_Sequence___len__ : ∃ fd, Fun K "__len__" "Sequence.__len__" s_Sequence___len__ a.Sequence___len__ fd
  F_Sequence___eq__ : ∃ fd, Fun K "__eq__" "Sequence.__eq__" s_Sequence___eq__ a.Sequence___eq__ fd
  F_Sequence___add__ : ∃ fd, Fun K "__add__" "Sequence.__add__" s_Sequence___add__ a.Sequence___add__ fd
  F_Sequence___mul__ : ∃ fd, Fun K "__mul__" "Sequence.__mul__" s_Sequence___mul__ a.Sequence___mul__ fd
  F_Sequence___call__ : ∃ fd, Fun K "__call__" "Sequence.__call__" s_Sequence___call__ a.Sequence___call__ fd
  F_law_pool : ∃ fd, Fun K "_law_pool" "_law_pool" s_law_pool a.law_pool fd
  g_law_pool : mg "_law_pool" = some (.ref a.law_pool)
  k_law_pool : PySem.W.keepIn K (.ref a.law_pool) = true
  F_law_take : ∃ fd, Fun K "_law_take" "_law_take" s_law_take a.law_take fd
  g_law_take : mg "_law_take" = some (.ref a.law_take)
  k_law_take : PySem.W.keepIn K (.ref a.law_take) = true
  F_law_steps : ∃ fd, Fun K "_law_steps" "_law_steps" s_law_steps a.law_steps fd
  g_law_steps : mg "_law_steps" = some (.ref a.law_steps)
  k_law_steps : PySem.W.keepIn K (.ref a.law_steps) = true
  F_law_made : ∃ fd, Fun K "_law_made" "_law_made" s_law_made a.law_made fd
  g_law_made : mg "_law_made" = some (.ref a.law_made)
  k_law_made : PySem.W.keepIn K (.ref a.law_made) = true
  F_law_due : ∃ fd, Fun K "_law_due" "_law_due" s_law_due a.law_due fd
  g_law_due : mg "_law_due" = some (.ref a.law_due)
  k_law_due : PySem.W.keepIn K (.ref a.law_due) = true
  F_law_caught : ∃ fd, Fun K "_law_caught" "_law_caught" s_law_caught a.law_caught fd
  g_law_caught : mg "_law_caught" = some (.ref a.law_caught)
  k_law_caught : PySem.W.keepIn K (.ref a.law_caught) = true
  F_law : ∃ fd, Fun K "law" "law" s_law a.law fd
  g_law : mg "law" = some (.ref a.law)
  k_law : PySem.W.keepIn K (.ref a.law) = true
  b_type : mg "type" = none
  b_int : mg "int" = none
  b_list : mg "list" = none
  b_tuple : mg "tuple" = none
  b_str : mg "str" = none
  b_len : mg "len" = none
  b_isinstance : mg "isinstance" = none
  b_abs : mg "abs" = none
  b_max : mg "max" = none
  b_min : mg "min" = none
  b_range : mg "range" = none
  b_repr : mg "repr" = none
  b_all : mg "all" = none
  b_sorted : mg "sorted" = none
  b_enumerate : mg "enumerate" = none
  g_RankError : mg "RankError" = some (.ref a.RankError)
  g_InvalidList : mg "InvalidList" = some (.ref a.InvalidList)
  g_InvalidStep : mg "InvalidStep" = some (.ref a.InvalidStep)
  g_StepFailed : mg "StepFailed" = some (.ref a.StepFailed)
  e_InvalidList : ErrC K a.InvalidList a.InvalidList___init__ "value"
  e_InvalidStep : ErrC K a.InvalidStep a.InvalidStep___init__ "value"
  e_StepFailed : ErrG K a.StepFailed a.StepFailed___init__ "index" "RuntimeError" "RuntimeError.__new__" "RuntimeError.__init__" [.type "RuntimeError", .type "Exception", .type "BaseException", .type "object"]
  cl : Cls K a.Sequence
  g_Sequence : mg "Sequence" = some (.ref a.Sequence)
  M_Sequence : L2.Mk K a.Sequence a.Sequence___init__
  n_steps : NoAttr K a.Sequence "_steps"
  p_steps : PropOf K a.Sequence "steps" a.P_steps a.Sequence_steps
  rd_Sequence : ClX.CRead K a.Sequence (.type "type")
  sta_is_step : CSta K a.Sequence (.type "type") "is_step" a.S_is_step a.Sequence_is_step
  sti_is_step : CStI K a.Sequence "is_step" a.S_is_step a.Sequence_is_step
  eqA : PySem.W.findIn K (.ref a.Sequence) "__eq__" = some (some (.ref a.Sequence___eq__))
  eqF : PySem.W.isFn K (.ref a.Sequence___eq__) = true
  neA : PySem.W.findIn K (.ref a.Sequence) "__ne__" = some (some (.builtin "object.__ne__"))
  sub : PySem.W.subIn K (.ref a.Sequence) (.type "object") = some true
  addA : PySem.W.findIn K (.ref a.Sequence) "__add__" = some (some (.ref a.Sequence___add__))
  addF : PySem.W.isFn K (.ref a.Sequence___add__) = true
  mulA : PySem.W.findIn K (.ref a.Sequence) "__mul__" = some (some (.ref a.Sequence___mul__))
  mulF : PySem.W.isFn K (.ref a.Sequence___mul__) = true
  rmul : PySem.W.findIn K (.ref a.Sequence) "__rmul__" = some none
  lenA : PySem.W.findIn K (.ref a.Sequence) "__len__" = some (some (.ref a.Sequence___len__))
  lenF : PySem.W.isFn K (.ref a.Sequence___len__) = true
  sf : PySem.W.selfFirst K a.Sequence = true
  si : PySem.W.subIn K (.type "int") (.ref a.Sequence) = some false
  isi : C8.InsC K a.Sequence
  callO : StX.CallO K a.Sequence a.Sequence___call__
  x_LL : PySem.W.exmOne K (.ref a.InvalidList) (.ref a.InvalidList) = some true
  x_SL : PySem.W.exmOne K (.ref a.StepFailed) (.ref a.InvalidList) = some false
  x_SS : PySem.W.exmOne K (.ref a.StepFailed) (.ref a.StepFailed) = some true
  r_SR : PySem.W.kitOne K (.ref a.StepFailed) (.ref a.RankError) = some false


def cntV : V → Bool
  | .int i => decide (0 ≤ i)
  | _ => false
def rnkV : V → Bool
  | .int i => decide (0 < i)
  | _ => false
def spInt (K : PySem.W.Frag) : Sp := fun vs H Q _ => ∃ x, vs = [x] ∧ KV K H x ∧ Q (.bl (isI x)) H
def spRank (K : PySem.W.Frag) : Sp := fun vs H Q _ => ∃ x, vs = [x] ∧ KV K H x ∧ Q (.bl (rnkV x)) H
/-- a list or a tuple of values of known kinds -/
def Sq (K : PySem.W.Frag) (H : Hp) (x : V) (xs : List V) : Prop := ∃ p, x = .ref p ∧ (SqL K H p xs ∨ SqT K H p xs) ∧ (∀ y ∈ xs, KV K H y) ∧ xs.length ≤ 100000
/-- a value of another kind -/
def Od (K : PySem.W.Frag) (H : Hp) (x : V) : Prop := ∃ n, TyB K H x n ∧ tyN n = true ∧ n ≠ "list" ∧ n ≠ "tuple"
/-- a check of lists: what it says of a list's items -/
def spChk (K : PySem.W.Frag) (f : List V → Bool) : Sp := fun vs H Q _ => ∃ x, vs = [x] ∧ ((∃ xs, Sq K H x xs ∧ ∀ H', Same H H' → Q (.bl (f xs)) H') ∨ (Od K H x ∧ ∀ H', Same H H' → Q (.bl false) H'))
def numsV (xs : List V) : Bool := xs.all isI
section
variable {P : Program} {w : World} {K : PySem.W.Frag} {mg : Str → Option Value} {base : Heap} {a : Ads}

theorem ok_is_integer (T : Txt K mg a) : FnR P w K mg base CX0 1 a.is_integer (spInt K) := by
  obtain ⟨fd, F⟩ := T.F_is_integer
  refine XT.okR F sc_is_integer bn_is_integer (fun vs H Q E h => ?_) (fun cdv A outer s H vs Q E hr h => ?_)
  · obtain ⟨x, rfl, _⟩ := h
    rfl
  · obtain ⟨x, rfl, ⟨n, ht, hn⟩, q⟩ := h
    refine ⟨_, (pss_one (ps_ret (pe_cmpR op_eqTy (pe_callTy (typeK K) (by rfl) T.b_type (by decide +kernel) (pa_cons (pv 0) pa_nil)) (pe_bltn (v := .ty "int") (u := .type "int") (by rfl) T.b_int (by decide +kernel) rfl) (nomark _)))), ?_⟩
    refine ⟨x, rfl, x, n, rfl, ht, n, "int", rfl, rfl, hn, by decide +kernel, ?_⟩
    rw [tyB_isI ht]
    exact q

theorem ok_is_rank (T : Txt K mg a) : FnR P w K mg base CX0 2 a.is_rank (spRank K) := by
  obtain ⟨fd, F⟩ := T.F_is_rank
  refine XT.okR F sc_is_rank bn_is_rank (fun vs H Q E h => ?_) (fun cdv A outer s H vs Q E hr h => ?_)
  · obtain ⟨x, rfl, _⟩ := h
    rfl
  · obtain ⟨x, rfl, hk, q⟩ := h
    have G_is_integer := ok_is_integer (P := P) (w := w) (base := base) T
    refine ⟨_, (pss_one (ps_ret (pe_and (pe_callR G_is_integer (hr.mono (by decide)) rfl T.g_is_integer T.k_is_integer pass0 (pa_cons (pv 0) pa_nil)) (pe_one (pe_cmpR op_gt (pv 0) pe_int (nomark _)))))), ?_⟩
    refine ⟨x, rfl, x, rfl, hk, _, rfl, ?_⟩
    cases x with
    | int i => exact iteT ⟨_, rfl, _, _, rfl, rfl, q⟩
    | _ => exact iteF q

theorem iteH {c : Bool} {A B : Prop} (h : c = true) (x : A) : if c = true then A else B := by
  rw [if_pos h]
  exact x
theorem iteN {c : Bool} {A B : Prop} (h : c = false) (x : B) : if c = true then A else B := by
  rw [h]
  exact iteF x
theorem all_map_bl (f : V → Bool) (xs : List V) : ((xs.map f).all id) = xs.all f := by
  rw [List.all_map]
  rfl
theorem in_lt {n : String} (h1 : n ≠ "list") (h2 : n ≠ "tuple") : (["list", "tuple"].any fun m => decide (m = n)) = false := by
  simp [Ne.symm h1, Ne.symm h2]
theorem line_ge : (100000 : Nat) ≤ sizeLine := by rw [sizeLine_eq]; decide
theorem tyB_isS {H : Hp} {x : V} {n : String} (h : TyB K H x n) : decide (n = "str") = (match x with | .str _ => true | _ => false) := by
  cases h <;> first | rfl | decide +kernel
/-- whether a pair is a step -/
def stpV : V → V → Bool
  | .str z, y => if decide (V.str z = V.str "insert") = true then isI y else (decide (V.str z = V.str "remove") && rnkV y)
  | _, _ => false
theorem stpV_st (s : Stp) : stpV (.str (wrd s.1)) (.int s.2) = goodS s := by
  obtain ⟨b, i⟩ := s
  cases b
  · have h1 : decide (V.str (wrd false) = V.str "insert") = false := by decide +kernel
    have h2 : decide (V.str (wrd false) = V.str "remove") = true := by decide +kernel
    simp only [stpV, h1, h2, Bool.false_eq_true, if_false, Bool.true_and, rnkV, goodS, Bool.false_or]
  · have h1 : decide (V.str (wrd true) = V.str "insert") = true := by decide +kernel
    simp only [stpV, h1, if_true, isI, goodS, Bool.true_or]
/-- is_step -/
def spStp (K : PySem.W.Frag) : Sp := fun vs H Q _ => ∃ x, vs = [x] ∧ ((∃ n, TyB K H x n ∧ tyN n = true ∧ n ≠ "tuple" ∧ Q (.bl false) H) ∨ (∃ r xs, x = .ref r ∧ SqT K H r xs ∧ xs.length ≠ 2 ∧ Q (.bl false) H) ∨
  ∃ r u y, x = .ref r ∧ SqT K H r [u, y] ∧ KV K H u ∧ KV K H y ∧ Q (.bl (stpV u y)) H)
theorem kv_str {H : Hp} (z : Str) : KV K H (.str z) := ⟨"str", .str z, by decide +kernel⟩
theorem stp_of {H : Hp} {Q : VK} {E : XK} {x : V} {s : Stp} (h : StAt K H x s) (q : Q (.bl (goodS s)) H) : spStp K [x] H Q E := by
  obtain ⟨r, rfl, hr⟩ := h
  exact ⟨_, rfl, .inr (.inr ⟨r, _, _, rfl, hr, kv_str _, kv_int _, by rw [stpV_st]; exact q⟩)⟩
theorem stp_good {H : Hp} {Q : VK} {E : XK} {x : V} {s : Stp} (h : StAt K H x s) (g : goodS s = true) (q : Q (.bl true) H) : spStp K [x] H Q E := stp_of h (by rw [g]; exact q)
theorem ok_Sequence_is_step (T : Txt K mg a) : FnR P w K mg base CX0 3 a.Sequence_is_step (spStp K) := by
  obtain ⟨fd, F⟩ := T.F_Sequence_is_step
  refine XT.okR F sc_Sequence_is_step bn_Sequence_is_step (fun vs H Q E h => ?_) (fun cdv A outer s H vs Q E hr h => ?_)
  · obtain ⟨x, rfl, _⟩ := h
    rfl
  · obtain ⟨x, rfl, h⟩ := h
    have G_is_integer := ok_is_integer (P := P) (w := w) (base := base) T
    have G_is_rank := ok_is_rank (P := P) (w := w) (base := base) T
    refine ⟨_, (pss_cons (ps_if (PW.pt (pw_or (pt_cmpR op_neTy (pe_callTy (typeK K) (by rfl) T.b_type (by decide +kernel) (pa_cons (pv 0) pa_nil)) (pe_bltn (v := .ty "tuple") (u := .type "tuple") (by rfl) T.b_tuple (by decide +kernel) rfl) (nomark _)) (pw_or1 (pt_cmpR op_ne (pe_callB (lenK K) (by rfl) T.b_len (by decide +kernel) (pa_cons (pv 0) pa_nil)) pe_int (nomark _))))) (pss_one (ps_ret pe_bl)) pss_nil)
      (pss_cons (ps_asg (pv 0) (tupK K (n := 2) (by rfl) (pgs_cons (pg_name (i := 1) sc_Sequence_is_step.nd rfl (Or.inl rfl)) (pgs_cons (pg_name (i := 2) sc_Sequence_is_step.nd rfl (Or.inl rfl)) pgs_nil))))
      (pss_cons (ps_if (pt_cmpR op_neTy (pe_callTy (typeK K) (by rfl) T.b_type (by decide +kernel) (pa_cons (pv 1) pa_nil)) (pe_bltn (v := .ty "str") (u := .type "str") (by rfl) T.b_str (by decide +kernel) rfl) (nomark _)) (pss_one (ps_ret pe_bl)) pss_nil)
      (pss_cons (ps_if (pt_cmpR op_eq (pv 1) pe_str (nomark _)) (pss_one (ps_ret (pe_callR G_is_integer (hr.mono (by decide)) rfl T.g_is_integer T.k_is_integer pass0 (pa_cons (pv 2) pa_nil)))) pss_nil)
      (pss_one (ps_ret (pe_and (pe_cmpR op_eq (pv 1) pe_str (nomark _)) (pe_one (pe_callR G_is_rank (hr.mono (by decide)) rfl T.g_is_rank T.k_is_rank pass0 (pa_cons (pv 2) pa_nil)))))))))), ?_⟩
    rcases h with ⟨n, ht, hn, hne, q⟩ | ⟨r, xs, rfl, hS, hl, q⟩ | ⟨r, u, y, rfl, hS, ku, ky, q⟩
    · refine ⟨_, rfl, _, n, rfl, ht, n, "tuple", rfl, rfl, hn, by decide +kernel, _, rfl, iteH (by simp [hne]) ?_⟩
      exact q
    · refine ⟨_, rfl, _, "tuple", rfl, .tup hS, "tuple", "tuple", rfl, rfl, by decide +kernel, by decide +kernel, _, rfl, iteN (by decide) ?_⟩
      refine ⟨_, rfl, r, xs, rfl, .inr hS, rfl, _, rfl, iteH (by simp; omega) ?_⟩
      exact q
    · refine ⟨_, rfl, _, "tuple", rfl, .tup hS, "tuple", "tuple", rfl, rfl, by decide +kernel, by decide +kernel, _, rfl, iteN (by decide) ?_⟩
      refine ⟨_, rfl, r, [u, y], rfl, .inr hS, rfl, _, rfl, iteN (by simp) ?_⟩
      refine ⟨_, rfl, r, [u, y], rfl, hS, rfl, u, [y], rfl, y, [], rfl, rfl, ?_⟩
      obtain ⟨nu, hu, hnu⟩ := ku
      have e := tyB_isS hu
      cases u with
      | str z =>
        refine ⟨_, rfl, _, nu, rfl, hu, nu, "str", rfl, rfl, hnu, by decide +kernel, _, rfl, iteN (by rw [e]; rfl) ?_⟩
        have q : Q (.bl (if decide (V.str z = V.str "insert") = true then isI y else (decide (V.str z = V.str "remove") && rnkV y))) H := q
        refine ⟨_, rfl, rfl, _, rfl, ite2 (fun h1 => ?_) (fun h1 => ?_)⟩
        · refine ⟨y, rfl, y, rfl, ky, ?_⟩
          rw [if_pos h1] at q
          exact q
        · rw [if_neg h1] at q
          refine ⟨_, rfl, rfl, _, rfl, ite2 (fun h2 => ?_) (fun h2 => ?_)⟩
          · refine ⟨y, rfl, y, rfl, ky, ?_⟩
            rw [h2] at q
            exact q
          · rw [Bool.not_eq_true _ |>.mp h2] at q
            exact q
      | _ =>
        refine ⟨_, rfl, _, nu, rfl, hu, nu, "str", rfl, rfl, hnu, by decide +kernel, _, rfl, iteH (by rw [e]; rfl) ?_⟩
        exact q

theorem ok_is_number_list (T : Txt K mg a) : FnR P w K mg base CX0 2 a.is_number_list (spChk K numsV) := by
  obtain ⟨fd, F⟩ := T.F_is_number_list
  refine XT.okR F sc_is_number_list bn_is_number_list (fun vs H Q E h => ?_) (fun cdv A outer s H vs Q E hr h => ?_)
  · obtain ⟨x, rfl, _⟩ := h
    rfl
  · obtain ⟨x, rfl, hq⟩ := h
    have G_is_integer := ok_is_integer (P := P) (w := w) (base := base) T
    rcases hq with ⟨xs, ⟨p, rfl, hS, kv, hl⟩, q0⟩ | ⟨⟨n, ht, hn, n1, n2⟩, q0⟩
    · rcases hS with hS | hS
      · refine ⟨_, (pss_one (ps_ret (pe_and (pe_cmpR (inTyK K) (pe_callTy (typeK K) (by rfl) T.b_type (by decide +kernel) (pa_cons (pv 0) pa_nil)) (pe_tup (pa_cons (pe_bltn (v := .ty "list") (u := .type "list") (by rfl) T.b_list (by decide +kernel) rfl) (pa_cons (pe_bltn (v := .ty "tuple") (u := .type "tuple") (by rfl) T.b_tuple (by decide +kernel) rfl) pa_nil))) (by rfl)) (pe_one (pe_callB (allK K rfl) (by rfl) T.b_all (by decide +kernel) (pa_cons (pe_lc (own := [("number", 1)])  rfl sc_is_number_list.nd (pi_list (pv 0)) (blkOk_by (N := N_is_number_list) (sc := defScope s_is_number_list) (by decide +kernel)) (fun _ _ _ _ _ => by exact (pg_name (i := 1) sc_is_number_list.nd rfl (Or.inl rfl))) (fun _ _ _ _ _ => by exact pts_nil) (fun _ _ _ _ _ => by exact (pe_callR G_is_integer (hr.mono (by decide)) rfl T.g_is_integer T.k_is_integer pass0 (pa_cons (pv 1) pa_nil)))) pa_nil)))))), ?_⟩
        have hS1 : ∀ q o, H q = Option.none → SqL K (upd H q o) p xs := fun q o hq => Same.seq (same_new hq) hS
        refine ⟨_, rfl, _, "list", rfl, TyB.lst hS, by decide, fun q hq => ⟨_, q, ["list", "tuple"], rfl, rfl, SqT.of upd_same, by decide +kernel, by decide +kernel, _, rfl, iteH (by decide +kernel) ?_⟩⟩
        refine ⟨_, rfl, p, rfl, ⟨xs, hS1 _ _ hq⟩, fun D hD => lcM (stat_list (hS1 _ _ hq)) hD (fun i => .bl (isI (xs.getD i .non))) (Nat.le_trans hl line_ge) ?_ ?_⟩
        · intro i y H2 R hi s px k
          refine ⟨rfl, y, rfl, y, rfl, (kv y (List.mem_of_getElem? px)).same ((same_new hq).trans s), ?_⟩
          have := k _ (Same.refl _)
          rw [getD_of px] at this
          exact this
        · intro H2 s hL
          rw [range_map (fun y => V.bl (isI y)) .non xs] at hL
          refine ⟨D, xs.map isI, rfl, SqL.of (by rw [hL, List.map_map]; rfl), ?_⟩
          rw [all_map_bl]
          exact q0 _ ((same_new hq).trans s)
      · refine ⟨_, (pss_one (ps_ret (pe_and (pe_cmpR (inTyK K) (pe_callTy (typeK K) (by rfl) T.b_type (by decide +kernel) (pa_cons (pv 0) pa_nil)) (pe_tup (pa_cons (pe_bltn (v := .ty "list") (u := .type "list") (by rfl) T.b_list (by decide +kernel) rfl) (pa_cons (pe_bltn (v := .ty "tuple") (u := .type "tuple") (by rfl) T.b_tuple (by decide +kernel) rfl) pa_nil))) (by rfl)) (pe_one (pe_callB (allK K rfl) (by rfl) T.b_all (by decide +kernel) (pa_cons (pe_lc (own := [("number", 1)])  rfl sc_is_number_list.nd (pi_tup (pv 0)) (blkOk_by (N := N_is_number_list) (sc := defScope s_is_number_list) (by decide +kernel)) (fun _ _ _ _ _ => by exact (pg_name (i := 1) sc_is_number_list.nd rfl (Or.inl rfl))) (fun _ _ _ _ _ => by exact pts_nil) (fun _ _ _ _ _ => by exact (pe_callR G_is_integer (hr.mono (by decide)) rfl T.g_is_integer T.k_is_integer pass0 (pa_cons (pv 1) pa_nil)))) pa_nil)))))), ?_⟩
        have hS1 : ∀ q o, H q = Option.none → SqT K (upd H q o) p xs := fun q o hq => same_seqT (same_new hq) hS
        refine ⟨_, rfl, _, "tuple", rfl, TyB.tup hS, by decide, fun q hq => ⟨_, q, ["list", "tuple"], rfl, rfl, SqT.of upd_same, by decide +kernel, by decide +kernel, _, rfl, iteH (by decide +kernel) ?_⟩⟩
        refine ⟨_, rfl, p, rfl, ⟨xs, hS1 _ _ hq⟩, fun D hD => lcM (stat_tup (hS1 _ _ hq)) hD (fun i => .bl (isI (xs.getD i .non))) (Nat.le_trans hl line_ge) ?_ ?_⟩
        · intro i y H2 R hi s px k
          refine ⟨rfl, y, rfl, y, rfl, (kv y (List.mem_of_getElem? px)).same ((same_new hq).trans s), ?_⟩
          have := k _ (Same.refl _)
          rw [getD_of px] at this
          exact this
        · intro H2 s hL
          rw [range_map (fun y => V.bl (isI y)) .non xs] at hL
          refine ⟨D, xs.map isI, rfl, SqL.of (by rw [hL, List.map_map]; rfl), ?_⟩
          rw [all_map_bl]
          exact q0 _ ((same_new hq).trans s)
    · refine ⟨_, (pss_one (ps_ret (pe_and (pe_cmpR (inTyK K) (pe_callTy (typeK K) (by rfl) T.b_type (by decide +kernel) (pa_cons (pv 0) pa_nil)) (pe_tup (pa_cons (pe_bltn (v := .ty "list") (u := .type "list") (by rfl) T.b_list (by decide +kernel) rfl) (pa_cons (pe_bltn (v := .ty "tuple") (u := .type "tuple") (by rfl) T.b_tuple (by decide +kernel) rfl) pa_nil))) (by rfl)) (pe_one (pe_callB (allK K rfl) (by rfl) T.b_all (by decide +kernel) (pa_cons (pe_lc (own := [("number", 1)])  rfl sc_is_number_list.nd (pi_list (pv 0)) (blkOk_by (N := N_is_number_list) (sc := defScope s_is_number_list) (by decide +kernel)) (fun _ _ _ _ _ => by exact (pg_name (i := 1) sc_is_number_list.nd rfl (Or.inl rfl))) (fun _ _ _ _ _ => by exact pts_nil) (fun _ _ _ _ _ => by exact (pe_callR G_is_integer (hr.mono (by decide)) rfl T.g_is_integer T.k_is_integer pass0 (pa_cons (pv 1) pa_nil)))) pa_nil)))))), ?_⟩
      exact ⟨_, rfl, _, n, rfl, ht, by decide, fun q hq => ⟨_, q, ["list", "tuple"], rfl, rfl, SqT.of upd_same, hn, by decide +kernel, _, rfl, iteN (in_lt n1 n2) (q0 _ (same_new hq))⟩⟩

def vi : V → Int
  | .int i => i
  | _ => 0
theorem nums_map {xs : List V} (h : numsV xs = true) : xs = (xs.map vi).map V.int := by
  unfold numsV at h
  rw [List.all_eq_true] at h
  rw [List.map_map]
  conv => lhs; rw [← List.map_id xs]
  apply List.map_congr_left
  intro x hx
  have := h x hx
  cases x with
  | int i => rfl
  | _ => exact absurd this Bool.false_ne_true
theorem nums_of (L : List Int) : numsV (L.map V.int) = true := by
  unfold numsV
  rw [List.all_map]
  exact List.all_eq_true.mpr fun x _ => rfl
theorem vi_map (L : List Int) : (L.map V.int).map vi = L := by
  rw [List.map_map]
  exact List.map_id L

end
end K02
namespace K02
open PySem L2 XT
section
variable {P : Program} {w : World} {K : PySem.W.Frag} {mg : Str → Option Value} {base : Heap} {a : Ads}
/-- a sequence's fields -/
abbrev sfl (p : Addr) : List (Str × V) := putF "_steps" (.ref p) []
/-- a sequence of the steps L stands at t -/
def SqcAt (K : PySem.W.Frag) (C : Addr) (H : Hp) (t : Addr) (L : List Stp) : Prop := ∃ dx p xs, H t = some (.ins C dx (sfl p)) ∧ SqT K H p xs ∧ StsAt K H xs L ∧ ∀ s ∈ L, goodS s = true
theorem SqcAt.same {C : Addr} {H H' : Hp} {t : Addr} {L : List Stp} (h : SqcAt K C H t L) (e : Same H H') : SqcAt K C H' t L :=
  let ⟨dx, p, xs, a, b, c, d⟩ := h
  ⟨dx, p, xs, e _ _ a, same_seqT e b, sts_same c e, d⟩
theorem SqcAt.insA {C : Addr} {H : Hp} {t : Addr} {L : List Stp} (h : SqcAt K C H t L) : InsA H t C := let ⟨dx, p, xs, a, _⟩ := h; ⟨dx, _, a⟩
theorem SqcAt.good {C : Addr} {H : Hp} {t : Addr} {L : List Stp} (h : SqcAt K C H t L) : ∀ s ∈ L, goodS s = true := let ⟨dx, p, xs, a, b, c, d⟩ := h; d
theorem SqcAt.ins {C : Addr} {H : Hp} {t : Addr} {L : List Stp} (h : SqcAt K C H t L) : ∃ dx p, H t = some (.ins C dx (sfl p)) := let ⟨dx, p, xs, a, _⟩ := h; ⟨dx, p, a⟩
theorem sfl_steps (p : Addr) : (sfl p).lookup ("_steps" : Str) = some (V.ref p) := by
  simp [sfl, putF, List.lookup]
theorem sfl_no (p : Addr) (m : Str) (h : (m == ("_steps" : Str)) = false) : (sfl p).lookup m = Option.none := by
  simp [sfl, putF, List.lookup, h]
/-- Sequence.__init__: at its best -/
def spInit (K : PySem.W.Frag) (C : Addr) : Sp := fun vs H Q _ => ∃ (t p dx : Addr) (xs : List V) (L : List Stp), vs = [.ref t, .ref p] ∧ H t = some (.ins C dx []) ∧ SqT K H p xs ∧ StsAt K H xs L ∧ (∀ s ∈ L, goodS s = true) ∧ Q .non (upd H t (.ins C dx (sfl p)))
theorem ok_Sequence___init__ (T : Txt K mg a) : FnR P w K mg base CX0 4 a.Sequence___init__ (spStar 1 (spInit K a.Sequence)) := by
  obtain ⟨fd, F⟩ := T.F_Sequence___init__
  have G_is_step := ok_Sequence_is_step (P := P) (w := w) (base := base) T
  refine XT.okStar0 (ps := ["self"]) F sc_Sequence___init__ bn_Sequence___init__ (fun cdv A outer s H vs Q E hr h => ?_)
  obtain ⟨t, p, dx, xs, L, rfl, ht, hS, hL, hg, q⟩ := h
  refine ⟨_, PSs.nox ((pss_cons (ps_for PassesOwn.never rfl (pi_tup (pv 1)) (pg_name (i := 2) sc_Sequence___init__.nd rfl (Or.inl rfl))
        (pss_one (ps_if (pt_not (pt_val (pe_staI (pv 0) T.sti_is_step G_is_step (hr.mono (by decide)) pass0 (pa_cons (pv 2) pa_nil)))) (pss_one ps_never) pss_nil)))
      (pss_one (ps_fld (pv 0) (pv 1) rfl)))), ?_⟩
  refine ⟨_, rfl, p, rfl, ⟨_, hS⟩, for_tup (K := K) (a := p) (xs := xs) (fun i σ H' => H' = H ∧ ∃ o, σ = [some (.ref t), some (.ref p), o]) ⟨rfl, _, rfl⟩ (fun i σ H' _ ⟨e, _⟩ => by rw [e]; exact hS) ?_ ?_⟩
  · rintro i x σ H' hx ⟨rfl, o, rfl⟩
    obtain ⟨s, hs, hst⟩ := pd_get hL hx
    refine ⟨_, rfl, t, dx, [], rfl, ht, rfl, _, rfl, ?_⟩
    dsimp only [tNil]
    refine stp_good hst (hg s (List.mem_of_getElem? hs)) ⟨_, rfl, iteN rfl ?_⟩
    exact ⟨rfl, _, rfl⟩
  · rintro σ H' ⟨rfl, o, rfl⟩
    exact ⟨_, rfl, _, rfl, t, a.Sequence, dx, _, rfl, ht, T.cl, T.n_steps, (by show 0 < 1000; decide), q⟩
/-- a sequence made out of steps -/
theorem sq_mk {C : Addr} {H1 : Hp} {xs : List V} {L : List Stp} {Q : VK} {E : XK} {x dx : Addr} (nx : H1 x = Option.none) (ndx : H1 dx = Option.none) (ne : dx ≠ x) (hL : StsAt K H1 xs L) (hg : ∀ s ∈ L, goodS s = true) (hz : xs.length ≤ 100000) (k : ∀ H', Same H1 H' → SqcAt K C H' x L → Q .non H') :
    spStar 1 (spInit K C) (V.ref x :: xs) (upd (upd H1 dx (.own x)) x (.ins C dx [])) Q E := by
  refine ⟨[V.ref x], xs, rfl, rfl, Nat.le_trans hz line_ge, fun p hp => ?_⟩
  have npx : p ≠ x := fun z => by rw [z, upd_same] at hp; cases hp
  have npd : p ≠ dx := fun z => by rw [z, upd_ne ne, upd_same] at hp; cases hp
  have hp1 : H1 p = Option.none := by rw [upd_ne npx, upd_ne npd] at hp; exact hp
  have s1 : Same H1 (upd (upd (upd H1 dx (.own x)) x (.ins C dx [])) p (.tup xs)) := (same_upd (same_new ndx) nx).trans (same_new hp)
  have s2 : Same H1 (upd (upd (upd (upd H1 dx (.own x)) x (.ins C dx [])) p (.tup xs)) x (.ins C dx (sfl p))) := same_upd s1 nx
  exact ⟨x, p, dx, xs, L, rfl, by rw [upd_ne (Ne.symm npx), upd_same], SqT.of upd_same, sts_same hL s1, hg, k _ s2 ⟨dx, p, xs, upd_same, SqT.of (by rw [upd_ne npx, upd_same]), sts_same hL s2, hg⟩⟩
theorem sq_made {C : Addr} {H1 : Hp} {xs : List V} {L : List Stp} {Q : VK} {E : XK} (hL : StsAt K H1 xs L) (hg : ∀ s ∈ L, goodS s = true) (hz : xs.length ≤ 100000) (k : ∀ t H', Same H1 H' → H1 t = Option.none → SqcAt K C H' t L → Q (.ref t) H') :
    ∀ x dx, H1 x = Option.none → H1 dx = Option.none → dx ≠ x → spStar 1 (spInit K C) (V.ref x :: xs) (upd (upd H1 dx (.own x)) x (.ins C dx [])) (fun v H2 => v = .non ∧ Q (.ref x) H2) E :=
  fun x dx nx ndx ne => sq_mk nx ndx ne hL hg hz fun H' s h => ⟨rfl, k x H' s nx h⟩
/-- .. asked with something that is no step -/
def spInitBad (K : PySem.W.Frag) (C CE : Addr) : Sp := fun vs H _ E => ∃ (t p dx : Addr) (xs ys : List V) (y : V) (L : List Stp), vs = [.ref t, .ref p] ∧ H t = some (.ins C dx []) ∧ SqT K H p (xs ++ y :: ys) ∧ StsAt K H xs L ∧ (∀ s ∈ L, goodS s = true) ∧
  ((∃ n, TyB K H y n ∧ tyN n = true ∧ n ≠ "tuple") ∨ (∃ r zs, y = .ref r ∧ SqT K H r zs ∧ zs.length ≠ 2) ∨ ∃ r u z, y = .ref r ∧ SqT K H r [u, z] ∧ KV K H u ∧ KV K H z ∧ stpV u z = false) ∧
  ∀ d, H d = Option.none → E (.ref CE) (some d) (upd H d (.xd [("value", y)]))
theorem okE_InvalidList (T : Txt K mg a) (e : ErrC K a.InvalidList a.InvalidList___init__ "value") {fd : FuncData} (F : Fun K "__init__" "InvalidList.__init__" s_InvalidList___init__ a.InvalidList___init__ fd) : FnOk P w K mg base CX0 1 a.InvalidList___init__ fd ["self", "value"] (spErr "value" a.InvalidList) := by
  refine F.ok sc_InvalidList___init__ (fun vs H Q E h => ?_) (fun cdv A outer s H vs Q E hr h => ?_)
  · obtain ⟨x, v, rfl, _⟩ := h
    rfl
  · obtain ⟨x, v, rfl, hx, q⟩ := h
    exact ⟨_, (pss_one (ps_ost (pv 0) (pv 1))), _, rfl, _, rfl, x, a.InvalidList, rfl, e.oex, e.no, .inl ⟨hx, fun dx hn hne => q dx hn hne⟩⟩
theorem okE_InvalidStep (T : Txt K mg a) (e : ErrC K a.InvalidStep a.InvalidStep___init__ "value") {fd : FuncData} (F : Fun K "__init__" "InvalidStep.__init__" s_InvalidStep___init__ a.InvalidStep___init__ fd) : FnOk P w K mg base CX0 1 a.InvalidStep___init__ fd ["self", "value"] (spErr "value" a.InvalidStep) := by
  refine F.ok sc_InvalidStep___init__ (fun vs H Q E h => ?_) (fun cdv A outer s H vs Q E hr h => ?_)
  · obtain ⟨x, v, rfl, _⟩ := h
    rfl
  · obtain ⟨x, v, rfl, hx, q⟩ := h
    exact ⟨_, (pss_one (ps_ost (pv 0) (pv 1))), _, rfl, _, rfl, x, a.InvalidStep, rfl, e.oex, e.no, .inl ⟨hx, fun dx hn hne => q dx hn hne⟩⟩
theorem okE_StepFailed (T : Txt K mg a) (e : ErrG K a.StepFailed a.StepFailed___init__ "index" "RuntimeError" "RuntimeError.__new__" "RuntimeError.__init__" [.type "RuntimeError", .type "Exception", .type "BaseException", .type "object"]) {fd : FuncData} (F : Fun K "__init__" "StepFailed.__init__" s_StepFailed___init__ a.StepFailed___init__ fd) : FnOk P w K mg base CX0 1 a.StepFailed___init__ fd ["self", "index"] (spErr "index" a.StepFailed) := by
  refine F.ok sc_StepFailed___init__ (fun vs H Q E h => ?_) (fun cdv A outer s H vs Q E hr h => ?_)
  · obtain ⟨x, v, rfl, _⟩ := h
    rfl
  · obtain ⟨x, v, rfl, hx, q⟩ := h
    exact ⟨_, (pss_one (ps_gst (pv 0) (pv 1))), _, rfl, _, rfl, x, a.StepFailed, _, _, _, _, rfl, e.bx, e.oex, e.no, hx, fun dx hn hne => q dx hn hne⟩
theorem okX_Sequence_init (T : Txt K mg a) : FnR P w K mg base (L2.CX P w) 4 a.Sequence___init__ (spStar 1 (spInitBad K a.Sequence a.InvalidStep)) := by
  obtain ⟨fd, F⟩ := T.F_Sequence___init__
  obtain ⟨fdE, FE⟩ := T.F_InvalidStep___init__
  have GE_InvalidStep := okE_InvalidStep (P := P) (w := w) (base := base) T T.e_InvalidStep FE
  have BE_InvalidStep := FE.binds bn_InvalidStep___init__
  have G_is_step := ok_Sequence_is_step (P := P) (w := w) (base := base) T
  refine XT.okStar (ps := ["self"]) F sc_Sequence___init__ bn_Sequence___init__ (fun cdv A outer s H vs Q E hr h => ?_)
  obtain ⟨t, p, dx, xs, ys, y, L, rfl, ht, hS, hL, hg, hy, k⟩ := h
  refine ⟨_, (pss_cons (ps_for (passes_of rfl) rfl (pi_tup (pv 1)) (pg_name (i := 2) sc_Sequence___init__.nd rfl (Or.inl rfl))
        (pss_one (ps_if (pt_not (pt_val (pe_staI (pv 0) T.sti_is_step G_is_step (hr.mono (by decide)) pass0 (pa_cons (pv 2) pa_nil)))) (pss_one (ps_raiseE T.e_InvalidStep GE_InvalidStep BE_InvalidStep (hr.mono (by decide)) T.g_InvalidStep rfl (takes_of rfl rfl rfl rfl) (pv 2))) pss_nil)))
      (pss_one (ps_fld (pv 0) (pv 1) rfl))), ?_⟩
  refine ⟨_, rfl, p, rfl, ⟨_, hS⟩, for_tup (K := K) (a := p) (xs := xs ++ y :: ys) (fun i σ H' => i ≤ xs.length ∧ H' = H ∧ ∃ o, σ = [some (.ref t), some (.ref p), o]) ⟨Nat.zero_le _, rfl, _, rfl⟩ (fun i σ H' _ ⟨_, e, _⟩ => by rw [e]; exact hS) ?_ ?_⟩
  · rintro i x σ H' hx ⟨hi, rfl, o, rfl⟩
    by_cases hlt : i < xs.length
    · have hx' : xs[i]? = some x := by rw [← hx, List.getElem?_append_left hlt]
      obtain ⟨s, hs, hst⟩ := pd_get hL hx'
      refine ⟨_, rfl, t, dx, [], rfl, ht, rfl, _, rfl, ?_⟩
      dsimp only [tNil]
      refine stp_good hst (hg s (List.mem_of_getElem? hs)) ⟨_, rfl, iteN rfl ?_⟩
      exact ⟨hlt, rfl, _, rfl⟩
    · have e : i = xs.length := by omega
      subst e
      have hx' : x = y := by simpa using hx.symm
      subst hx'
      refine ⟨_, rfl, t, dx, [], rfl, ht, rfl, _, rfl, ?_⟩
      dsimp only [tNil]
      have go : ∀ (D : Ends) {σ : L2.St}, σ[2]? = some (some x) → tErr a.InvalidStep "value" (tVar 2) σ H' (fun cls d H'' => E cls d H'') := fun D σ e => ⟨x, e, err_rd fun d hd => k d hd⟩
      rcases hy with ⟨n, h1, h2, h3⟩ | ⟨r, zs, rfl, h1, h2⟩ | ⟨r, u, z, rfl, h1, h2, h3, h4⟩
      · exact ⟨x, rfl, .inl ⟨n, h1, h2, h3, _, rfl, iteH rfl ⟨x, rfl, err_rd fun d hd => k d hd⟩⟩⟩
      · exact ⟨_, rfl, .inr (.inl ⟨r, zs, rfl, h1, h2, _, rfl, iteH rfl ⟨_, rfl, err_rd fun d hd => k d hd⟩⟩)⟩
      · refine ⟨_, rfl, .inr (.inr ⟨r, u, z, rfl, h1, h2, h3, ?_⟩)⟩
        rw [h4]
        exact ⟨_, rfl, iteH rfl ⟨_, rfl, err_rd fun d hd => k d hd⟩⟩
  · rintro σ H' ⟨hi, _⟩
    exfalso
    rw [List.length_append, List.length_cons] at hi
    omega
def spSteps (K : PySem.W.Frag) (C : Addr) : Sp := fun vs H Q _ => ∃ t L, vs = [.ref t] ∧ SqcAt K C H t L ∧ ∀ p xs, SqT K H p xs → StsAt K H xs L → Q (.ref p) H
def spLen (K : PySem.W.Frag) (C : Addr) : Sp := fun vs H Q _ => ∃ t L, vs = [.ref t] ∧ SqcAt K C H t L ∧ Q (.int (L.length : Int)) H
def spEqS (K : PySem.W.Frag) (C : Addr) : Sp := fun vs H Q _ => ∃ t u L M, vs = [.ref t, .ref u] ∧ SqcAt K C H t L ∧ SqcAt K C H u M ∧ Q (.bl (decide (L = M))) H
def spEqSo (K : PySem.W.Frag) (C : Addr) : Sp := fun vs H Q _ => ∃ (t : Addr) (y : V) (ty : Value), vs = [.ref t, y] ∧ TyX K H y ty ∧ PySem.W.kitOne K ty (.ref C) = some false ∧ Q (.bl false) H
def spAddS (K : PySem.W.Frag) (C : Addr) : Sp := fun vs H Q _ => ∃ t u L M, vs = [.ref t, .ref u] ∧ SqcAt K C H t L ∧ SqcAt K C H u M ∧ L.length + M.length ≤ 100000 ∧ ∀ r H', Same H H' → H r = Option.none → SqcAt K C H' r (L ++ M) → Q (.ref r) H'
def spMulS (K : PySem.W.Frag) (C : Addr) : Sp := fun vs H Q _ => ∃ t L n, vs = [.ref t, .int n] ∧ SqcAt K C H t L ∧ 0 ≤ n ∧ (L = [] ∨ n ≤ 100) ∧ L.length ≤ 1000 ∧ ∀ r H', Same H H' → H r = Option.none → SqcAt K C H' r (List.replicate n.toNat L).flatten → Q (.ref r) H'
theorem rep_nil (n : Nat) : (List.replicate n ([] : List Stp)).flatten = [] := by simp
theorem ok_Sequence_steps (T : Txt K mg a) : FnR P w K mg base CX0 1 a.Sequence_steps (spSteps K a.Sequence) := by
  obtain ⟨fd, F⟩ := T.F_Sequence_steps
  refine XT.okR F sc_Sequence_steps bn_Sequence_steps (fun vs H Q E h => ?_) (fun cdv A outer s H vs Q E hr h => ?_)
  · obtain ⟨t, L, rfl, _⟩ := h
    rfl
  · obtain ⟨t, L, rfl, ⟨dx, p, xs, ht, hS, hL, hg⟩, q⟩ := h
    refine ⟨_, (pss_one (ps_ret (fldK K (pv 0) rfl))), ?_⟩
    exact ⟨_, rfl, t, a.Sequence, dx, _, _, rfl, ht, T.cl, T.n_steps, sfl_steps _, q p xs hS hL⟩

theorem ok_Sequence___len__ (T : Txt K mg a) : FnR P w K mg base CX0 1 a.Sequence___len__ (spLen K a.Sequence) := by
  obtain ⟨fd, F⟩ := T.F_Sequence___len__
  refine XT.okR F sc_Sequence___len__ bn_Sequence___len__ (fun vs H Q E h => ?_) (fun cdv A outer s H vs Q E hr h => ?_)
  · obtain ⟨t, L, rfl, _⟩ := h
    rfl
  · obtain ⟨t, L, rfl, ⟨dx, p, xs, ht, hS, hL, hg⟩, q⟩ := h
    refine ⟨_, (pss_one (ps_ret (pe_callB (lenK K) (by rfl) T.b_len (by decide +kernel) (pa_cons (fldK K (pv 0) rfl) pa_nil)))), ?_⟩
    refine ⟨_, rfl, t, a.Sequence, dx, _, _, rfl, ht, T.cl, T.n_steps, sfl_steps _, p, xs, rfl, .inr hS, ?_⟩
    rw [hL.length]
    exact q

theorem ok_Sequence___eq__ (T : Txt K mg a) : FnR P w K mg base CX0 1 a.Sequence___eq__ (spEqS K a.Sequence) := by
  obtain ⟨fd, F⟩ := T.F_Sequence___eq__
  refine XT.okR F sc_Sequence___eq__ bn_Sequence___eq__ (fun vs H Q E h => ?_) (fun cdv A outer s H vs Q E hr h => ?_)
  · obtain ⟨t, u, L, L2, rfl, _⟩ := h
    rfl
  · obtain ⟨t, u, L, L2, rfl, ⟨dx, p, xs, ht, hS, hL, hg⟩, ⟨dy, p2, ys, hu, hS2, hL2, hg2⟩, q⟩ := h
    refine ⟨_, (pss_one (ps_ret (pe_and (pe_callB (C8.call_isC T.isi) (by rfl) T.b_isinstance (by decide +kernel) (pa_cons (pv 1) (pa_cons (pe_glob (v := .ref a.Sequence) (by rfl) T.g_Sequence rfl) pa_nil))) (pe_one (pe_cmpR (eqDK K hr.units) (fldK K (pv 0) rfl) (fldK K (pv 1) rfl) (nomark _)))))), ?_⟩
    refine ⟨_, rfl, ?_⟩
    refine ⟨u, dy, _, rfl, hu, _, rfl, iteH rfl ?_⟩
    refine ⟨_, rfl, t, a.Sequence, dx, _, _, rfl, ht, T.cl, T.n_steps, sfl_steps _, _, rfl, u, a.Sequence, dy, _, _, rfl, hu, T.cl, T.n_steps, sfl_steps _, ?_⟩
    refine ⟨_, _, dp_stsT hS hL, dp_stsT hS2 hL2, sh_stsT _, sh_stsT _, ?_⟩
    rw [eqv_stsT]
    exact q

theorem ok_Sequence_eqO (T : Txt K mg a) : FnR P w K mg base CX0 1 a.Sequence___eq__ (spEqSo K a.Sequence) := by
  obtain ⟨fd, F⟩ := T.F_Sequence___eq__
  refine XT.okR F sc_Sequence___eq__ bn_Sequence___eq__ (fun vs H Q E h => ?_) (fun cdv A outer s H vs Q E hr h => ?_)
  · obtain ⟨t, y, ty, rfl, _⟩ := h
    rfl
  · obtain ⟨t, y, ty, rfl, hy, hk, q⟩ := h
    refine ⟨_, (pss_one (ps_ret (pe_and (pe_callB call_isi (by rfl) T.b_isinstance (by decide +kernel) (pa_cons (pv 1) (pa_cons (pe_glob (v := .ref a.Sequence) (by rfl) T.g_Sequence rfl) pa_nil))) (pe_one (pe_cmpR (eqDK K hr.units) (fldK K (pv 0) rfl) (fldK K (pv 1) rfl) (nomark _)))))), ?_⟩
    exact ⟨_, rfl, y, .ref a.Sequence, ty, .ref a.Sequence, false, rfl, .own _, hy, hk, _, rfl, iteN rfl q⟩
theorem ok_Sequence___add__ (T : Txt K mg a) : FnR P w K mg base CX0 6 a.Sequence___add__ (spAddS K a.Sequence) := by
  obtain ⟨fd, F⟩ := T.F_Sequence___add__
  refine XT.okR F sc_Sequence___add__ bn_Sequence___add__ (fun vs H Q E h => ?_) (fun cdv A outer s H vs Q E hr h => ?_)
  · obtain ⟨t, u, L, L2, rfl, _⟩ := h
    rfl
  · obtain ⟨t, u, L, L2, rfl, ⟨dx, p, xs, ht, hS, hL, hg⟩, ⟨dy, p2, ys, hu, hS2, hL2, hg2⟩, hz, k⟩ := h
    have G_Sequence_init := ok_Sequence___init__ (P := P) (w := w) (base := base) T
    refine ⟨_, (pss_cons (ps_set (i := 2) sc_Sequence___add__.nd rfl (Or.inl rfl) (pe_op op_catA (fldK K (pv 0) rfl) (fldK K (pv 1) rfl)))
      (pss_one (ps_ret (pe_makeS1 T.M_Sequence G_Sequence_init (hr.mono (by decide)) rfl T.g_Sequence pass0 (pv 2))))), ?_⟩
    have hgg : ∀ s ∈ L ++ L2, goodS s = true := fun s hs => (List.mem_append.mp hs).elim (hg s) (hg2 s)
    have l1 := hL.length
    have l2 := hL2.length
    have fin : ∀ (q : Addr) (zs : List V) (H1 : Hp), Same H H1 → SqT K H1 q zs → StsAt K H1 zs (L ++ L2) → (∀ x dx, H1 x = Option.none → H1 dx = Option.none → dx ≠ x → spStar 1 (spInit K a.Sequence) (V.ref x :: zs) (upd (upd H1 dx (.own x)) x (.ins a.Sequence dx [])) (fun v H2 => v = .non ∧ Q (.ref x) H2) E0) := fun q zs H1 s1 hq hz1 =>
      sq_made hz1 hgg (by rw [hz1.length, List.length_append]; omega) fun r H' s2 nr hr => k r H' (s1.trans s2) (s1.free nr) hr
    refine ⟨_, rfl, t, a.Sequence, dx, _, _, rfl, ht, T.cl, T.n_steps, sfl_steps _, _, rfl, u, a.Sequence, dy, _, _, rfl, hu, T.cl, T.n_steps, sfl_steps _, p, p2, xs, ys, rfl, rfl, hS, hS2, Nat.le_trans (by omega) line_ge, fun e => ?_, fun e1 e2 => ?_, fun e1 e2 q hq => ?_⟩
    · subst e
      cases hL
      exact ⟨_, rfl, _, _, rfl, .inl hS2, fin p2 ys H (Same.refl H) hS2 hL2⟩
    · subst e2
      cases hL2
      exact ⟨_, rfl, _, _, rfl, .inl hS, fin p xs H (Same.refl H) hS (by rw [List.append_nil]; exact hL)⟩
    · exact ⟨_, rfl, _, _, rfl, .inl (SqT.of upd_same), fin q (xs ++ ys) _ (same_new hq) (SqT.of upd_same) (sts_same (pd_append hL hL2) (same_new hq))⟩

theorem ok_Sequence___mul__ (T : Txt K mg a) : FnR P w K mg base CX0 6 a.Sequence___mul__ (spMulS K a.Sequence) := by
  obtain ⟨fd, F⟩ := T.F_Sequence___mul__
  refine XT.okR F sc_Sequence___mul__ bn_Sequence___mul__ (fun vs H Q E h => ?_) (fun cdv A outer s H vs Q E hr h => ?_)
  · obtain ⟨t, L, n, rfl, _⟩ := h
    rfl
  · obtain ⟨t, L, n, rfl, ⟨dx, p, xs, ht, hS, hL, hg⟩, n0, n1, hz, k⟩ := h
    have G_Sequence_init := ok_Sequence___init__ (P := P) (w := w) (base := base) T
    refine ⟨_, (pss_cons (ps_if (pt_not (pt_truth (fldK K (pv 0) rfl) (fun _ => rfl))) (pss_one (ps_ret (pe_makeR0 T.M_Sequence G_Sequence_init (hr.mono (by decide)) rfl T.g_Sequence pass0))) pss_nil)
      (pss_cons (ps_set (i := 2) sc_Sequence___mul__.nd rfl (Or.inl rfl) (pe_op op_repA (fldK K (pv 0) rfl) (pv 1)))
      (pss_one (ps_ret (pe_makeS1 T.M_Sequence G_Sequence_init (hr.mono (by decide)) rfl T.g_Sequence pass0 (pv 2)))))), ?_⟩
    have l1 := hL.length
    refine ⟨_, rfl, t, a.Sequence, dx, _, _, rfl, ht, T.cl, T.n_steps, sfl_steps _, _, .inr (.inl ⟨xs, hS, rfl⟩), ?_⟩
    by_cases e : xs = []
    · subst e
      cases hL
      refine iteH rfl ?_
      refine sq_made (xs := []) (L := []) .nil (fun s hs => by cases hs) (by decide) fun r H' s1 nr hr => k r H' s1 nr ?_
      rw [rep_nil]
      exact hr
    · refine iteN (by cases xs with | nil => exact absurd rfl e | cons _ _ => rfl) ?_
      have hn : n ≤ 100 := by
        rcases n1 with rfl | h
        · cases hL
          exact absurd rfl e
        · exact h
      refine ⟨_, rfl, t, a.Sequence, dx, _, _, rfl, ht, T.cl, T.n_steps, sfl_steps _, _, rfl, p, n, xs, rfl, rfl, hS, n0, by omega, by omega, fun q H1 s1 hq => ?_⟩
      have hr1 := pd_rep n.toNat (sts_same hL s1)
      refine ⟨_, rfl, _, _, rfl, .inl hq, ?_⟩
      refine sq_made hr1 (fun s hs => ?_) ?_ fun r H' s2 nr hr => k r H' (s1.trans s2) (s1.free nr) hr
      · rw [List.mem_flatten] at hs
        obtain ⟨l, h1, h2⟩ := hs
        rw [List.eq_of_mem_replicate h1] at h2
        exact hg s h2
      · rw [PyProof.Rows.lm_len_rep_flat]
        have : n.toNat * xs.length ≤ 100 * 1000 := Nat.mul_le_mul (by omega) (by omega)
        omega

end
end K02
namespace K02
open PySem L2 XT
section
variable {P : Program} {w : World} {K : PySem.W.Frag} {mg : Str → Option Value} {base : Heap} {a : Ads}
local macro_rules | `(tactic| walk_at "rside") => `(tactic| first | (show (0 : Int) < _; first | decide | omega) | (exact ⟨by first | decide | omega, by first | decide | omega⟩) | (exact Or.inl ⟨by omega, by omega⟩) | (exact Or.inr ⟨by omega, by omega⟩) | (exact ⟨by decide, by decide, by decide⟩))
local macro_rules | `(tactic| walk_at "rd1") => `(tactic| first | (refine ⟨_, rfl, ?_⟩) | (refine ⟨_, _, rfl, rfl, (by walk_at "rside"), ?_⟩) | (refine ⟨_, _, rfl, rfl, ?_⟩))
local macro_rules | `(tactic| walk_at "rd") => `(tactic| repeat (walk_at "rd1"))

/-- the law's pool: two numbers -/
def PoolAt (H : Hp) (p : Addr) : Prop := ∃ x y : Int, H p = some (.lst [.int x, .int y]) ∧ 0 ≤ x ∧ 0 ≤ y ∧ y < 2147483648
/-- all stays but what stands at p -/
def But (p : Addr) (H H' : Hp) : Prop := ∀ b o, b ≠ p → H b = some o → H' b = some o
theorem But.refl (p : Addr) (H : Hp) : But p H H := fun _ _ _ h => h
theorem But.trans {p : Addr} {H H1 H2 : Hp} (a : But p H H1) (b : But p H1 H2) : But p H H2 := fun c o n h => b c o n (a c o n h)
theorem but_same {p : Addr} {H H' : Hp} (h : Same H H') : But p H H' := fun b o _ e => h b o e
theorem but_upd {p : Addr} {H : Hp} {o : HO} : But p H (upd H p o) := fun b u n e => by
  rw [upd_ne n]
  exact e
/-- what is apart from p stays -/
theorem but_to {p : Addr} {H0 H H' : Hp} (s : Same H0 H) (n : H0 p = Option.none) (b : But p H H') : Same H0 H' := fun c o e => b c o (fun z => by rw [z, n] at e; cases e) (s c o e)
def spPool (K : PySem.W.Frag) : Sp := fun vs H Q _ => ∃ (sc : Addr) (ns : List Int) (k : Int), vs = [.ref sc, .int k] ∧ SqL K H sc (ns.map V.int) ∧ 0 ≤ k ∧ k ≤ 1000 ∧ ∀ p H', Same H H' → H p = Option.none → PoolAt H' p → Q (.ref p) H'
def spTake : Sp := fun vs H Q _ => ∃ (p : Addr) (m : Int), vs = [.ref p, .int m] ∧ PoolAt H p ∧ 0 < m ∧ m < 1000 ∧ ∀ r H', 0 ≤ r → r < m → But p H H' → PoolAt H' p → Q (.int r) H'
theorem ok_law_pool (T : Txt K mg a) : FnR P w K mg base CX0 1 a.law_pool (spPool K) := by
  obtain ⟨fd, F⟩ := T.F_law_pool
  refine XT.okR F sc_law_pool bn_law_pool (fun vs H Q E h => ?_) (fun cdv A outer s H vs Q E hr h => ?_)
  · obtain ⟨sc, ns, k, rfl, _⟩ := h
    rfl
  · obtain ⟨sc, ns, k, rfl, hS, k0, k1, q⟩ := h
    refine ⟨_, (pss_cons (ps_set (i := 2) sc_law_pool.nd rfl (Or.inl rfl) pe_int)
      (pss_cons (ps_if (pt_cmpR op_lt (pv 1) (pe_callB (lenK K) (by rfl) T.b_len (by decide +kernel) (pa_cons (pv 0) pa_nil)) (nomark _)) (pss_one (ps_set (i := 2) sc_law_pool.nd rfl (Or.inl rfl) (pe_callB call_abs (by rfl) T.b_abs (by decide +kernel) (pa_cons (pe_ix (ixLK K) (pv 0) (pv 1) (fun _ _ => rfl)) pa_nil)))) pss_nil)
      (pss_cons (ps_set (i := 3) sc_law_pool.nd rfl (Or.inl rfl) (pe_op op_mod (pe_op op_mul (pe_op op_add (pe_op op_add (pe_op op_add (pe_op op_mod (pv 2) pe_int) (pe_op op_mul (pe_op op_mul pe_int (pv 1)) (pv 1))) (pe_op op_mul pe_int (pv 1))) pe_int) pe_int) pe_int))
      (pss_one (ps_ret (pe_lst (pa_cons (pe_op op_mul (pv 2) (pe_callTy call_int1 (by rfl) T.b_int (by decide +kernel) (pa_cons (pe_cmpR op_ge (pv 2) (pe_op op_pow pe_int pe_int) (nomark _)) pa_nil))) (pa_cons (pe_op op_mod (pe_op op_mul (pv 3) (pv 3)) pe_int) pa_nil)))))))), ?_⟩
    refine ⟨_, rfl, _, rfl, sc, _, rfl, .inl hS, _, _, rfl, rfl, _, rfl, ite2 (fun h1 => ?_) (fun h1 => ?_)⟩
    · have h1' : k < ((ns.map V.int).length : Int) := of_decide_eq_true h1
      rw [List.length_map] at h1'
      obtain ⟨j, rfl⟩ : ∃ j : Nat, k = (j : Int) := ⟨k.toNat, by omega⟩
      have hj : j < ns.length := by omega
      have hg : (ns.map V.int)[j]? = some (V.int ns[j]) := by simp [hj]
      refine ⟨_, rfl, _, rfl, sc, _, _, _, rfl, rfl, hS, atI_nat hg, _, rfl, ?_⟩
      have hc : 0 ≤ (if ns[j] < 0 then -ns[j] else ns[j]) := by split <;> omega
      generalize (if ns[j] < 0 then -ns[j] else ns[j]) = c at hc ⊢
      walk_at "rd"
      refine .inr ⟨_, rfl, ?_⟩
      refine ⟨_, _, rfl, rfl, .inr (by split <;> omega), ?_⟩
      have hm : ∀ z : Int, 0 ≤ z % 2147483647 ∧ z % 2147483647 < 2147483647 := fun z => ⟨Int.emod_nonneg _ (by decide), Int.emod_lt_of_pos _ (by decide)⟩
      refine ⟨_, rfl, _, rfl, _, _, rfl, rfl, .inl ⟨by have := hm ((c % 2147483629 + 7919 * (j : Int) * (j : Int) + 31 * (j : Int) + 17) * 48271); omega, by have := hm ((c % 2147483629 + 7919 * (j : Int) * (j : Int) + 31 * (j : Int) + 17) * 48271); omega⟩, ?_⟩
      refine ⟨_, _, rfl, rfl, (by show (0 : Int) < _; decide), ?_⟩
      refine ⟨by show 2 ≤ sizeLine; decide, fun p hp => q p _ (same_new hp) hp ⟨_, _, upd_same, ?_, Int.emod_nonneg _ (by decide), Int.lt_trans (Int.emod_lt_of_pos _ (by decide)) (by decide)⟩⟩
      split <;> omega
    · walk_at "rd"
      refine .inr ⟨_, rfl, ?_⟩
      refine ⟨_, _, rfl, rfl, .inr (by split <;> omega), ?_⟩
      have hm : ∀ z : Int, 0 ≤ z % 2147483647 ∧ z % 2147483647 < 2147483647 := fun z => ⟨Int.emod_nonneg _ (by decide), Int.emod_lt_of_pos _ (by decide)⟩
      refine ⟨_, rfl, _, rfl, _, _, rfl, rfl, .inl ⟨by have := hm (((0 : Int) % 2147483629 + 7919 * k * k + 31 * k + 17) * 48271); omega, by have := hm (((0 : Int) % 2147483629 + 7919 * k * k + 31 * k + 17) * 48271); omega⟩, ?_⟩
      refine ⟨_, _, rfl, rfl, (by show (0 : Int) < _; decide), ?_⟩
      refine ⟨by show 2 ≤ sizeLine; decide, fun p hp => q p _ (same_new hp) hp ⟨_, _, upd_same, ?_, Int.emod_nonneg _ (by decide), Int.lt_trans (Int.emod_lt_of_pos _ (by decide)) (by decide)⟩⟩
      exact Int.le_of_eq (Int.zero_mul _).symm

theorem ok_law_take (T : Txt K mg a) : FnR P w K mg base CX0 1 a.law_take (spTake) := by
  obtain ⟨fd, F⟩ := T.F_law_take
  refine XT.okR F sc_law_take bn_law_take (fun vs H Q E h => ?_) (fun cdv A outer s H vs Q E hr h => ?_)
  · obtain ⟨p, m, rfl, _⟩ := h
    rfl
  · obtain ⟨p, m, rfl, ⟨x, y, hp, hx, hy, hy2⟩, hm0, hm1, k⟩ := h
    refine ⟨_, (pss_cons (ps_if (pt_cmpR op_gt (pe_ix (ixLK K) (pv 0) pe_int (fun _ _ => rfl)) pe_int (nomark _)) (pss_cons (ps_set (i := 2) sc_law_take.nd rfl (Or.inl rfl) (pe_op op_mod (pe_ix (ixLK K) (pv 0) pe_int (fun _ _ => rfl)) (pv 1)))
      (pss_cons (ps_asg (pe_op op_fdiv (pe_ix (ixLK K) (pv 0) pe_int (fun _ _ => rfl)) (pv 1)) (pg_sub (pv 0) pe_int set_list))
      (pss_one (ps_ret (pv 2))))) pss_nil)
      (pss_cons (ps_asg (pe_op op_mod (pe_op op_add (pe_op op_mul (pe_ix (ixLK K) (pv 0) pe_int (fun _ _ => rfl)) pe_int) pe_int) pe_int) (pg_sub (pv 0) pe_int set_list))
      (pss_one (ps_ret (pe_op op_mod (pe_op op_fdiv (pe_op op_mod (pe_op op_mul (pe_ix (ixLK K) (pv 0) pe_int (fun _ _ => rfl)) (pe_ix (ixLK K) (pv 0) pe_int (fun _ _ => rfl))) pe_int) pe_int) (pv 1)))))), ?_⟩
    have g0 : ([V.int x, V.int y] : List V)[0]? = some (V.int x) := rfl
    have g1 : ([V.int x, V.int y] : List V)[1]? = some (V.int y) := rfl
    refine ⟨_, rfl, p, _, 0, _, rfl, rfl, SqL.of hp, atI_nat (j := 0) g0, _, _, rfl, rfl, _, rfl, ite2 (fun h1 => ?_) (fun h1 => ?_)⟩
    · have h1' := of_decide_eq_true h1
      refine ⟨_, rfl, p, _, 0, _, rfl, rfl, SqL.of hp, atI_nat (j := 0) g0, _, rfl, _, _, rfl, rfl, hm0, ?_⟩
      refine ⟨_, rfl, p, _, 0, _, rfl, rfl, SqL.of hp, atI_nat (j := 0) g0, _, rfl, _, _, rfl, rfl, ⟨hm0, by omega⟩, ?_⟩
      refine ⟨_, rfl, p, _, 0, 0, rfl, rfl, hp, rfl, ?_⟩
      refine ⟨_, rfl, k _ _ (Int.emod_nonneg _ (by omega)) (Int.emod_lt_of_pos _ hm0) but_upd ⟨x / m, y, upd_same, Int.ediv_nonneg hx (by omega), hy, hy2⟩⟩
    · refine ⟨_, rfl, p, _, 1, _, rfl, rfl, SqL.of hp, atI_nat (j := 1) g1, _, _, rfl, rfl, .inr ⟨by decide, by decide⟩, _, _, rfl, rfl, _, _, rfl, rfl, (by show (0 : Int) < _; decide), ?_⟩
      refine ⟨_, rfl, p, _, 1, 1, rfl, rfl, hp, rfl, ?_⟩
      have hz0 : 0 ≤ (y * 48271 + 12345) % 2147483647 := Int.emod_nonneg _ (by decide)
      have hz1 : (y * 48271 + 12345) % 2147483647 < 2147483647 := Int.emod_lt_of_pos _ (by decide)
      have g2 : ([V.int x, V.int ((y * 48271 + 12345) % 2147483647)] : List V)[1]? = some (V.int ((y * 48271 + 12345) % 2147483647)) := rfl
      have hs : (upd H p (.lst ([V.int x, V.int y].set 1 (V.int ((y * 48271 + 12345) % 2147483647))))) p = some (.lst [V.int x, V.int ((y * 48271 + 12345) % 2147483647)]) := upd_same
      refine ⟨_, rfl, p, _, 1, _, rfl, rfl, SqL.of hs, atI_nat (j := 1) g2, _, rfl, p, _, 1, _, rfl, rfl, SqL.of hs, atI_nat (j := 1) g2, _, _, rfl, rfl, .inl ⟨by omega, by omega⟩, _, _, rfl, rfl, (by show (0 : Int) < _; decide), _, _, rfl, rfl, ⟨by decide, by decide⟩, _, rfl, _, _, rfl, rfl, hm0, ?_⟩
      exact k _ _ (Int.emod_nonneg _ (by omega)) (Int.emod_lt_of_pos _ hm0) but_upd ⟨x, _, hs, hx, hz0, by omega⟩

end
end K02
namespace K02
open PySem L2 XT
section
variable {P : Program} {w : World} {K : PySem.W.Frag} {mg : Str → Option Value} {base : Heap} {a : Ads}
theorem pick_four {c0 c1 c2 c3 r : Int} (h0 : 0 ≤ r) (h1 : r < 4) : ∃ z, atI ([V.int c0, V.int c1, V.int c2, V.int c3] : List V) r = some (.int z) ∧ (z = c0 ∨ z = c1 ∨ z = c2 ∨ z = c3) := by
  have : r = 0 ∨ r = 1 ∨ r = 2 ∨ r = 3 := by omega
  rcases this with rfl | rfl | rfl | rfl
  · exact ⟨_, rfl, .inl rfl⟩
  · exact ⟨_, rfl, .inr (.inl rfl)⟩
  · exact ⟨_, rfl, .inr (.inr (.inl rfl))⟩
  · exact ⟨_, rfl, .inr (.inr (.inr rfl))⟩
theorem pool_but {H H' : Hp} {p q : Addr} {o : HO} (h : PoolAt H p) (n : H q = Option.none) (e : H' = upd H q o) : PoolAt H' p := by
  obtain ⟨x, y, a, b⟩ := h
  have : p ≠ q := fun z => by rw [z, n] at a; cases a
  exact ⟨x, y, by rw [e, upd_ne this]; exact a, b⟩
theorem pool_same {H H' : Hp} {p : Addr} (h : PoolAt H p) (e : Same H H') : PoolAt H' p := let ⟨x, y, a, b⟩ := h; ⟨x, y, e _ _ a, b⟩
theorem pool_ne {H : Hp} {p q : Addr} (h : PoolAt H p) (n : H q = Option.none) : q ≠ p := fun z => by
  obtain ⟨x, y, a, _⟩ := h
  rw [z, a] at n
  cases n
/-- tuples stay -/
def Kt (K : PySem.W.Frag) (H H' : Hp) : Prop := ∀ r ys, SqT K H r ys → SqT K H' r ys
theorem Kt.trans {H H1 H2 : Hp} (h : Kt K H H1) (k : Kt K H1 H2) : Kt K H H2 := fun r ys z => k r ys (h r ys z)
theorem kt_same {H H' : Hp} (h : Same H H') : Kt K H H' := fun r ys z => same_seqT h z
theorem kt_upd {H : Hp} {l : Addr} {zs : List V} {o : HO} (hl : H l = some (.lst zs)) : Kt K H (upd H l o) := fun r ys z => by
  rcases z with (z | ⟨ob, z⟩) | z
  · exact .inl (.inl (by rw [upd_ne (fun q => by rw [q, hl] at z; cases z)]; exact z))
  · exact .inl (.inr ⟨ob, by rw [upd_ne (fun q => by rw [q, hl] at z; cases z)]; exact z⟩)
  · exact .inr z
theorem kt_but {H H' : Hp} {p : Addr} (hp : PoolAt H p) (b : But p H H') : Kt K H H' := fun r ys z => by
  obtain ⟨x, y, a, _⟩ := hp
  rcases z with (z | ⟨ob, z⟩) | z
  · exact .inl (.inl (b _ _ (fun q => by rw [q, a] at z; cases z) z))
  · exact .inl (.inr ⟨ob, b _ _ (fun q => by rw [q, a] at z; cases z) z⟩)
  · exact .inr z
theorem sts_kt {H H' : Hp} {xs : List V} {L : List Stp} (h : StsAt K H xs L) (k : Kt K H H') : StsAt K H' xs L := L2.Paired.mapP h fun _ _ ⟨r, e, z⟩ => ⟨r, e, k _ _ z⟩
theorem sqc_but {C : Addr} {H H' : Hp} {t p : Addr} {L : List Stp} (h : SqcAt K C H t L) (hp : PoolAt H p) (b : But p H H') : SqcAt K C H' t L := by
  obtain ⟨dx, q, xs, h1, h2, h3, h4⟩ := h
  have n : t ≠ p := fun z => by
    obtain ⟨x, y, e, _⟩ := hp
    rw [z, e] at h1
    cases h1
  exact ⟨dx, q, xs, b _ _ n h1, kt_but hp b _ _ h2, sts_kt h3 (kt_but hp b), h4⟩
/-- the steps of a law -/
structure LSt (L : List Stp) : Prop where
  good : ∀ s ∈ L, goodS s = true
  sm : ∀ s ∈ L, -1000 ≤ s.2 ∧ s.2 ≤ 1000
def spLSteps (K : PySem.W.Frag) : Sp := fun vs H Q _ => ∃ (p : Addr) (m : Int), vs = [.ref p, .int m] ∧ PoolAt H p ∧ 0 ≤ m ∧ m ≤ 100 ∧
  ∀ l xs L H', But p H H' → PoolAt H' p → H l = Option.none → H' l = some (.lst xs) → StsAt K H' xs L → LSt L → (L.length : Int) ≤ m → Q (.ref l) H'
def InvSt (K : PySem.W.Frag) (p l : Addr) (m u : Int) (H0 : Hp) (i : Nat) (σ : L2.St) (H : Hp) : Prop := ∃ (xs : List V) (L : List Stp) (tv : Option V), σ = [some (.ref p), some (.int m), some (.ref l), some (.int u), tv] ∧ H l = some (.lst xs) ∧ PoolAt H p ∧ But p H0 H ∧
  StsAt K H xs L ∧ LSt L ∧ L.length = i
theorem lst_snoc {L : List Stp} {s : Stp} (h : LSt L) (g : goodS s = true) (a : -1000 ≤ s.2) (b : s.2 ≤ 1000) : LSt (L ++ [s]) :=
  ⟨fun t ht => (List.mem_append.mp ht).elim (h.good t) fun z => by rw [List.mem_singleton.mp z]; exact g, fun t ht => (List.mem_append.mp ht).elim (h.sm t) fun z => by rw [List.mem_singleton.mp z]; exact ⟨a, b⟩⟩
theorem ok_law_steps (T : Txt K mg a) : FnR P w K mg base CX0 2 a.law_steps (spLSteps K) := by
  obtain ⟨fd, F⟩ := T.F_law_steps
  refine XT.okR F sc_law_steps bn_law_steps (fun vs H Q E h => ?_) (fun cdv A outer s H vs Q E hr h => ?_)
  · obtain ⟨p, m, rfl, _⟩ := h
    rfl
  · obtain ⟨p, m, rfl, hp, m0, m1, k⟩ := h
    have G_law_take := ok_law_take (P := P) (w := w) (base := base) T
    refine ⟨_, (pss_cons (ps_par (i := 2) (j := 3) (by rfl) sc_law_steps.nd rfl rfl (by decide) rfl rfl (pa_cons (pe_lst pa_nil) (pa_cons (pe_callR G_law_take (hr.mono (by decide)) rfl T.g_law_take T.k_law_take pass0 (pa_cons (pv 0) (pa_cons pe_int pa_nil))) pa_nil)) (by rfl))
      (pss_cons (ps_for PassesOwn.never rfl (pi_rng1 (by rfl) T.b_range (pa_cons (pe_callR G_law_take (hr.mono (by decide)) rfl T.g_law_take T.k_law_take pass0 (pa_cons (pv 0) (pa_cons (pe_op op_add (pv 1) pe_int) pa_nil))) pa_nil)) (pg_name (i := 4) sc_law_steps.nd rfl (Or.inl rfl))
        (pss_one (ps_if (pt_cmpR op_eq (pe_callR G_law_take (hr.mono (by decide)) rfl T.g_law_take T.k_law_take pass0 (pa_cons (pv 0) (pa_cons (pe_ix (ixLK K) (pe_lst (pa_cons pe_int (pa_cons pe_int (pa_cons pe_int (pa_cons pe_int pa_nil))))) (pv 3) (fun _ _ => rfl)) pa_nil))) pe_int (nomark _)) (pss_one (ps_expr (bmK K (pe_bm PySem.F.plainAttrs_list PySem.F.slot_list_append PySem.F.type_list_append mt_append (pv 2) (pa_cons (pe_tup (pa_cons pe_str (pa_cons (pe_op op_add pe_int (pe_callR G_law_take (hr.mono (by decide)) rfl T.g_law_take T.k_law_take pass0 (pa_cons (pv 0) (pa_cons (pe_ix (ixLK K) (pe_lst (pa_cons pe_int (pa_cons pe_int (pa_cons pe_int (pa_cons pe_int pa_nil))))) (pv 3) (fun _ _ => rfl)) pa_nil)))) pa_nil))) pa_nil))))) (pss_one (ps_expr (bmK K (pe_bm PySem.F.plainAttrs_list PySem.F.slot_list_append PySem.F.type_list_append mt_append (pv 2) (pa_cons (pe_tup (pa_cons pe_str (pa_cons (pe_op op_sub (pe_op op_mul (pe_ix (ixLK K) (pe_lst (pa_cons pe_int (pa_cons pe_int (pa_cons pe_int (pa_cons pe_int pa_nil))))) (pv 3) (fun _ _ => rfl)) (pe_callR G_law_take (hr.mono (by decide)) rfl T.g_law_take T.k_law_take pass0 (pa_cons (pv 0) (pa_cons (pe_ix (ixLK K) (pe_lst (pa_cons pe_int (pa_cons pe_int (pa_cons pe_int (pa_cons pe_int pa_nil))))) (pv 3) (fun _ _ => rfl)) pa_nil)))) pe_int) pa_nil))) pa_nil))))))))
      (pss_one (ps_ret (pv 2))))), ?_⟩
    refine ⟨Nat.zero_le _, fun l hl => ?_⟩
    have nlp := pool_ne hp hl
    have b1 : But p H (upd H l (.lst [])) := but_same (same_new hl)
    have hp1 : PoolAt (upd H l (.lst [])) p := pool_but hp hl rfl
    refine ⟨_, rfl, p, 4, rfl, hp1, by decide, by decide, fun u H1 u0 u1 b2 hp2 => ?_⟩
    have hl1 : H1 l = some (.lst []) := b2 _ _ nlp upd_same
    refine ⟨_, _, rfl, ?_⟩
    refine ⟨_, rfl, _, rfl, _, _, rfl, rfl, p, m + 1, rfl, hp2, by omega, by omega, fun r3 H3 r30 r31 b5 hp5 => ⟨_, rfl, ?_⟩⟩
    refine for_range (lo := 0) (n := r3.toNat) (InvSt K p l m u H) ⟨[], [], _, rfl, b5 _ _ nlp hl1, hp5, (b1.trans b2).trans b5, .nil, ⟨(fun _ h => by cases h), (fun _ h => by cases h)⟩, rfl⟩ ?_ ?_
    · rintro i σ H4 hi ⟨xs, L, tv, rfl, hL, hpp, bb, hSt, lst, hlen⟩
      have hi100 : i ≤ 100 := by omega
      refine ⟨_, rfl, by show 4 ≤ sizeLine; decide, fun d hd => ?_⟩
      have s4 := same_new (o := .lst [V.int 2, V.int 3, V.int 2, V.int 4]) hd
      obtain ⟨z, ez, hz⟩ := pick_four (c0 := 2) (c1 := 3) (c2 := 2) (c3 := 4) u0 u1
      refine ⟨_, rfl, d, _, u, .int z, rfl, rfl, SqL.of upd_same, ez, p, z, rfl, pool_same hpp s4, by omega, by omega, fun r4 H5 r40 r41 b6 hp6 => ?_⟩
      have b46 : But p H4 H5 := (but_same s4).trans b6
      have hL5 : H5 l = some (.lst xs) := b46 _ _ nlp hL
      have kt45 : Kt K H4 H5 := kt_but hpp b46
      refine ⟨rfl, _, rfl, ite2 (fun hz0 => ?_) (fun hz0 => ?_)⟩
      · refine ⟨_, rfl, .inl ⟨rfl, _, SqL.of hL5⟩, _, rfl, by show 4 ≤ sizeLine; decide, fun d2 hd2 => ?_⟩
        have s5 := same_new (o := .lst [V.int 3, V.int 5, V.int 2, V.int 9]) hd2
        obtain ⟨z2, ez2, hz2⟩ := pick_four (c0 := 3) (c1 := 5) (c2 := 2) (c3 := 9) u0 u1
        refine ⟨_, rfl, d2, _, u, .int z2, rfl, rfl, SqL.of upd_same, ez2, p, z2, rfl, pool_same hp6 s5, by omega, by omega, fun r5 H6 r50 r51 b7 hp7 => ?_⟩
        have b57 : But p H5 H6 := (but_same s5).trans b7
        have hL6 : H6 l = some (.lst xs) := b57 _ _ nlp hL5
        have kt56 : Kt K H4 H6 := kt45.trans (kt_but hp6 b57)
        refine ⟨_, _, rfl, rfl, by show 2 ≤ sizeLine; decide, fun q hq => ?_⟩
        have nlq : q ≠ l := fun z => by rw [z, hL6] at hq; cases hq
        have hlq : (upd H6 q (.tup [V.str "remove", V.int (1 + r5)])) l = some (.lst xs) := by rw [upd_ne (Ne.symm nlq)]; exact hL6
        have lx := hSt.length
        refine ⟨l, _, _, rfl, rfl, hlq, Nat.lt_of_lt_of_le (show xs.length < 100000 by omega) line_ge, ?_⟩
        have kt0 : Kt K H6 (upd (upd H6 q (.tup [V.str "remove", V.int (1 + r5)])) l (.lst (xs ++ [V.ref q]))) := (kt_same (same_new hq)).trans (kt_upd hlq)
        have bb2 : But p H6 (upd (upd H6 q (.tup [V.str "remove", V.int (1 + r5)])) l (.lst (xs ++ [V.ref q]))) → But p H (upd (upd H6 q (.tup [V.str "remove", V.int (1 + r5)])) l (.lst (xs ++ [V.ref q]))) := fun z => ((bb.trans b46).trans b57).trans z
        refine ⟨xs ++ [V.ref q], L ++ [(false, (1 + r5))], _, rfl, upd_same, ?_, ?_, pd_append (sts_kt hSt (kt56.trans kt0)) (.cons (st_of (b := false) (by rw [upd_ne nlq, upd_same]; rfl)) .nil), lst_snoc lst (by show goodS (false, 1 + r5) = true; simp [goodS]; omega) (by show (-1000 : Int) ≤ 1 + r5; omega) (by show 1 + r5 ≤ (1000 : Int); omega), by rw [List.length_append, hlen]; rfl⟩
        · obtain ⟨x, y, e, rest⟩ := hp7
          exact ⟨x, y, by rw [upd_ne (Ne.symm nlp), upd_ne (Ne.symm (pool_ne ⟨x, y, e, rest⟩ hq))]; exact e, rest⟩
        · intro b o nb e
          have nbl : b ≠ l := fun z => by rw [z, hl] at e; cases e
          have e2 := ((bb.trans b46).trans b57) _ _ nb e
          rw [upd_ne nbl, upd_ne (fun z => by rw [z, hq] at e2; cases e2)]
          exact e2
      · refine ⟨_, rfl, .inl ⟨rfl, _, SqL.of hL5⟩, by show 4 ≤ sizeLine; decide, fun d1 hd1 => ?_⟩
        have s5 := same_new (o := .lst [V.int 2, V.int 1, V.int 2, V.int 1]) hd1
        obtain ⟨z1, ez1, hz1⟩ := pick_four (c0 := 2) (c1 := 1) (c2 := 2) (c3 := 1) u0 u1
        refine ⟨_, rfl, d1, _, u, .int z1, rfl, rfl, SqL.of upd_same, ez1, _, rfl, by show 4 ≤ sizeLine; decide, fun d2 hd2 => ?_⟩
        have s6 := s5.trans (same_new (o := .lst [V.int 3, V.int 9, V.int 1, V.int 5]) hd2)
        obtain ⟨z2, ez2, hz2⟩ := pick_four (c0 := 3) (c1 := 9) (c2 := 1) (c3 := 5) u0 u1
        refine ⟨_, rfl, d2, _, u, .int z2, rfl, rfl, SqL.of upd_same, ez2, p, z2, rfl, pool_same hp6 s6, by omega, by omega, fun r5 H6 r50 r51 b7 hp7 => ?_⟩
        have b57 : But p H5 H6 := (but_same s6).trans b7
        have hL6 : H6 l = some (.lst xs) := b57 _ _ nlp hL5
        have kt56 : Kt K H4 H6 := kt45.trans (kt_but hp6 b57)
        have hm0 : 0 ≤ z1 * r5 := Int.mul_nonneg (by omega) r50
        have hm1 : z1 * r5 ≤ 2 * 9 := Int.mul_le_mul (by omega) (by omega) r50 (by decide)
        refine ⟨_, _, rfl, rfl, .inl ⟨by omega, by omega⟩, _, _, rfl, rfl, by show 2 ≤ sizeLine; decide, fun q hq => ?_⟩
        have nlq : q ≠ l := fun z => by rw [z, hL6] at hq; cases hq
        have hlq : (upd H6 q (.tup [V.str "insert", V.int (z1 * r5 - 2)])) l = some (.lst xs) := by rw [upd_ne (Ne.symm nlq)]; exact hL6
        have lx := hSt.length
        refine ⟨l, _, _, rfl, rfl, hlq, Nat.lt_of_lt_of_le (show xs.length < 100000 by omega) line_ge, ?_⟩
        have kt0 : Kt K H6 (upd (upd H6 q (.tup [V.str "insert", V.int (z1 * r5 - 2)])) l (.lst (xs ++ [V.ref q]))) := (kt_same (same_new hq)).trans (kt_upd hlq)
        have bb2 : But p H6 (upd (upd H6 q (.tup [V.str "insert", V.int (z1 * r5 - 2)])) l (.lst (xs ++ [V.ref q]))) → But p H (upd (upd H6 q (.tup [V.str "insert", V.int (z1 * r5 - 2)])) l (.lst (xs ++ [V.ref q]))) := fun z => ((bb.trans b46).trans b57).trans z
        refine ⟨xs ++ [V.ref q], L ++ [(true, (z1 * r5 - 2))], _, rfl, upd_same, ?_, ?_, pd_append (sts_kt hSt (kt56.trans kt0)) (.cons (st_of (b := true) (by rw [upd_ne nlq, upd_same]; rfl)) .nil), lst_snoc lst (by rfl) (by show (-1000 : Int) ≤ z1 * r5 - 2; omega) (by show z1 * r5 - 2 ≤ (1000 : Int); omega), by rw [List.length_append, hlen]; rfl⟩
        · obtain ⟨x, y, e, rest⟩ := hp7
          exact ⟨x, y, by rw [upd_ne (Ne.symm nlp), upd_ne (Ne.symm (pool_ne ⟨x, y, e, rest⟩ hq))]; exact e, rest⟩
        · intro b o nb e
          have nbl : b ≠ l := fun z => by rw [z, hl] at e; cases e
          have e2 := ((bb.trans b46).trans b57) _ _ nb e
          rw [upd_ne nbl, upd_ne (fun z => by rw [z, hq] at e2; cases e2)]
          exact e2
    · rintro σ H4 ⟨xs, L, tv, rfl, hL, hpp, bb, hSt, lst, hlen⟩
      exact ⟨_, rfl, k l xs L H4 bb hpp hl hL hSt lst (by omega)⟩

end
end K02
namespace K02
open PySem L2 XT
section
variable {P : Program} {w : World} {K : PySem.W.Frag} {mg : Str → Option Value} {base : Heap} {a : Ads}
def spLMade (K : PySem.W.Frag) (C : Addr) : Sp := fun vs H Q _ => ∃ (l : Addr) (xs : List V) (L : List Stp), vs = [.ref l] ∧ SqL K H l xs ∧ StsAt K H xs L ∧ (∀ s ∈ L, goodS s = true) ∧ L.length ≤ 1000 ∧ ∀ r H', Same H H' → H r = Option.none → SqcAt K C H' r L → Q (.ref r) H'
theorem ok_law_made (T : Txt K mg a) : FnR P w K mg base CX0 7 a.law_made (spLMade K a.Sequence) := by
  obtain ⟨fd, F⟩ := T.F_law_made
  refine XT.okR F sc_law_made bn_law_made (fun vs H Q E h => ?_) (fun cdv A outer s H vs Q E hr h => ?_)
  · obtain ⟨l, xs, L, rfl, _⟩ := h
    rfl
  · obtain ⟨l, xs, L, rfl, hS, hL, hg, hz, k⟩ := h
    have G_Sequence_init := ok_Sequence___init__ (P := P) (w := w) (base := base) T
    have G_add := ok_Sequence___add__ (P := P) (w := w) (base := base) T
    refine ⟨_, (pss_cons (ps_set (i := 1) sc_law_made.nd rfl (Or.inl rfl) (pe_makeR0 T.M_Sequence G_Sequence_init (hr.mono (by decide)) rfl T.g_Sequence pass0))
      (pss_cons (ps_for PassesOwn.never rfl (pi_list (pv 0)) (pg_name (i := 2) sc_law_made.nd rfl (Or.inl rfl))
        (pss_one (ps_set (i := 1) sc_law_made.nd rfl (Or.inl rfl) (pe_op (op_ownB T.sf T.addA T.addF G_add (hr.mono (by decide)) pass0) (pv 1) (StX.pe_makeR T.M_Sequence G_Sequence_init (hr.mono (by decide)) rfl T.g_Sequence pass0 (pa_cons (pv 2) pa_nil))))))
      (pss_one (ps_ret (pv 1))))), ?_⟩
    refine fun t0 d0 n0 nd0 ne0 => ?_
    refine sq_mk (xs := []) (L := []) n0 nd0 ne0 .nil (fun s hs => by cases hs) (by decide) fun H0 s0 h0 => ⟨rfl, ?_⟩
    refine ⟨_, rfl, l, rfl, ⟨_, s0.seq hS⟩, for_list (K := K) (a := l) (xs := xs) (fun i σ H' => ∃ t o, σ = [some (.ref l), some (.ref t), o] ∧ Same H H' ∧ H t = Option.none ∧ SqcAt K a.Sequence H' t (L.take i)) ⟨_, _, rfl, s0, n0, h0⟩ (fun i σ H' _ ⟨_, _, _, s, _⟩ => s.seq hS) ?_ ?_⟩
    · rintro i x σ H' hx ⟨t, o, rfl, s, nt, ht⟩
      obtain ⟨st, hst, hxs⟩ := pd_get hL hx
      have gst := hg st (List.mem_of_getElem? hst)
      refine ⟨_, rfl, _, rfl, ?_⟩
      refine fun r d2 nr nd2 ne2 => ?_
      refine sq_mk (xs := [x]) (L := [st]) nr nd2 ne2 (.cons (hxs.same s) .nil) (fun u hu => by rw [List.mem_singleton.mp hu]; exact gst) (show 1 ≤ 100000 by decide) fun H2 s2 hr => ⟨rfl, ?_⟩
      refine ⟨t, r, rfl, rfl, (ht.same s2).insA, hr.insA, t, r, L.take i, [st], rfl, ht.same s2, hr, ?_, fun q H3 s3 nq hq => ?_⟩
      · rw [List.length_take, List.length_singleton]
        omega
      · refine ⟨q, _, rfl, (s.trans s2).trans s3, (s.trans s2).free nq, ?_⟩
        rw [List.take_add_one, hst]
        exact hq
    · rintro σ H' ⟨t, o, rfl, s, nt, ht⟩
      refine ⟨_, rfl, k t H' s nt ?_⟩
      rw [hL.length, List.take_length] at ht
      exact ht

end
end K02
namespace K02
open PySem L2 XT
section
variable {P : Program} {w : World} {K : PySem.W.Frag} {mg : Str → Option Value} {base : Heap} {a : Ads}
/-- something that is no list of numbers -/
def BadN (K : PySem.W.Frag) (H : Hp) (x : V) : Prop := (∃ xs, Sq K H x xs ∧ numsV xs = false) ∨ Od K H x
theorem BadN.same {H H' : Hp} {x : V} (h : BadN K H x) (s : Same H H') : BadN K H' x := by
  rcases h with ⟨xs, ⟨q, e1, e2, e3, e4⟩, e5⟩ | ⟨n, e1, e2, e3⟩
  · exact .inl ⟨xs, ⟨q, e1, e2.imp (fun h => s.seq h) (fun h => same_seqT s h), fun y hy => (e3 y hy).same s, e4⟩, e5⟩
  · exact .inr ⟨n, same_tyB s e1, e2, e3⟩
/-- a list or a tuple of the numbers L -/
def NumsAt (K : PySem.W.Frag) (H : Hp) (x : V) (L : List Int) : Prop := ∃ p, x = .ref p ∧ (SqL K H p (L.map V.int) ∨ SqT K H p (L.map V.int)) ∧ L.length ≤ 1000
theorem NumsAt.same {H H' : Hp} {x : V} {L : List Int} (h : NumsAt K H x L) (s : Same H H') : NumsAt K H' x L := let ⟨p, e, h1, h2⟩ := h; ⟨p, e, h1.imp (fun h => s.seq h) (fun h => same_seqT s h), h2⟩
def spAsc (K : PySem.W.Frag) (CI : Addr) : Sp := fun vs H Q E => ∃ x, vs = [x] ∧ ((∃ L, NumsAt K H x L ∧ ∀ m H', Same H H' → H m = Option.none → H' m = some (.lst ((srt L).map V.int)) → Q (.ref m) H') ∨ (BadN K H x ∧ ∀ d H', Same H H' → H d = Option.none → H' d = some (.xd [("value", x)]) → E (.ref CI) (some d) H'))
def spAfter (K : PySem.W.Frag) (CS : Addr) : Sp := fun vs H Q E => ∃ (l : Addr) (i : Int) (x : V) (L : List Int) (s : Stp), vs = [.ref l, .int i, x] ∧ SqL K H l (L.map V.int) ∧ StAt K H x s ∧ goodS s = true ∧ L.length ≤ 5000 ∧
  (∀ M, stepR L s = some M → ∀ m H', Same H H' → H m = Option.none → H' m = some (.lst (M.map V.int)) → Q (.ref m) H') ∧ (stepR L s = Option.none → ∀ d H', Same H H' → H d = Option.none → H' d = some (.xd [("index", .int i)]) → E (.ref CS) (some d) H')
theorem kv_ints {H : Hp} (L : List Int) : ∀ y ∈ L.map V.int, KV K H y := fun y hy => by
  obtain ⟨i, _, rfl⟩ := List.mem_map.mp hy
  exact kv_int i
theorem okX_ascending (T : Txt K mg a) : FnR P w K mg base (L2.CX P w) 3 a.ascending (spAsc K a.InvalidList) := by
  obtain ⟨fd, F⟩ := T.F_ascending
  obtain ⟨fdE, FE⟩ := T.F_InvalidList___init__
  have GE_InvalidList := okE_InvalidList (P := P) (w := w) (base := base) T T.e_InvalidList FE
  have BE_InvalidList := FE.binds bn_InvalidList___init__
  have G_is_number_list := ok_is_number_list (P := P) (w := w) (base := base) T
  refine XT.okX F sc_ascending bn_ascending (fun vs H Q E h => ?_) (fun cdv A outer s H vs Q E hr h => ?_)
  · obtain ⟨x, rfl, _⟩ := h
    rfl
  · obtain ⟨x, rfl, h⟩ := h
    refine ⟨_, (pss_cons (ps_if (pt_not (pt_val (pe_callR G_is_number_list (hr.mono (by decide)) rfl T.g_is_number_list T.k_is_number_list pass0 (pa_cons (pv 0) pa_nil)))) (pss_one (ps_raiseE T.e_InvalidList GE_InvalidList BE_InvalidList (hr.mono (by decide)) T.g_InvalidList rfl (takes_of rfl rfl rfl rfl) (pv 0))) pss_nil)
      (pss_one (ps_ret (pe_callB (sortedAK K) (by rfl) T.b_sorted (by decide +kernel) (pa_cons (pv 0) pa_nil))))), ?_⟩
    rcases h with ⟨L, ⟨p, rfl, hS, hl⟩, k⟩ | ⟨bad, k⟩
    · refine ⟨_, rfl, _, rfl, .inl ⟨L.map V.int, ⟨p, rfl, hS, kv_ints L, by rw [List.length_map]; omega⟩, fun H1 s1 => ⟨_, rfl, iteN (by rw [nums_of]; rfl) ?_⟩⟩⟩
      refine ⟨_, rfl, p, L, rfl, hS.imp (fun h => s1.seq h) (fun h => same_seqT s1 h), fun N q pm up nq => ?_⟩
      rw [srt_of pm up]
      exact k q _ (s1.trans (same_new nq)) (s1.free nq) upd_same
    · refine ⟨x, rfl, x, rfl, ?_⟩
      rcases bad with ⟨xs, hS, hn⟩ | od
      · exact .inl ⟨xs, hS, fun H1 s1 => ⟨_, rfl, iteH (by rw [hn]; rfl) ⟨x, rfl, err_rd fun d hd => k d _ (s1.trans (same_new hd)) (s1.free hd) upd_same⟩⟩⟩
      · exact .inr ⟨od, fun H1 s1 => ⟨_, rfl, iteH rfl ⟨x, rfl, err_rd fun d hd => k d _ (s1.trans (same_new hd)) (s1.free hd) upd_same⟩⟩⟩
theorem wrd_ins (b : Bool) : decide (V.str (wrd b) = V.str "insert") = b := by cases b <;> decide +kernel
theorem okX_after_step (T : Txt K mg a) : FnR P w K mg base (L2.CX P w) 3 a.after_step (spAfter K a.StepFailed) := by
  obtain ⟨fd, F⟩ := T.F_after_step
  obtain ⟨fdE, FE⟩ := T.F_StepFailed___init__
  have GE_StepFailed := okE_StepFailed (P := P) (w := w) (base := base) T T.e_StepFailed FE
  have BE_StepFailed := FE.binds bn_StepFailed___init__
  refine XT.okX F sc_after_step bn_after_step (fun vs H Q E h => ?_) (fun cdv A outer s H vs Q E hr h => ?_)
  · obtain ⟨l, i, x, L, st, rfl, _⟩ := h
    rfl
  · obtain ⟨l, i, x, L, ⟨b, n⟩, rfl, hS, ⟨r, rfl, hr2⟩, gd, hl, k1, k2⟩ := h
    refine ⟨_, (pss_cons (ps_asg (pv 2) (tupK K (n := 2) (by rfl) (pgs_cons (pg_name (i := 3) sc_after_step.nd rfl (Or.inl rfl)) (pgs_cons (pg_name (i := 4) sc_after_step.nd rfl (Or.inl rfl)) pgs_nil))))
      (pss_cons (ps_if (pt_cmpR op_eq (pv 3) pe_str (nomark _)) (pss_one (ps_ret (pe_callB (sortedAK K) (by rfl) T.b_sorted (by decide +kernel) (pa_cons (pe_lst (starK K (StX.pa_star (pv 0) (pa_cons (pv 4) pa_nil)))) pa_nil)))) pss_nil)
      (pss_cons (ps_if (pt_cmpR op_gt (pv 4) (pe_callB (lenK K) (by rfl) T.b_len (by decide +kernel) (pa_cons (pv 0) pa_nil)) (nomark _)) (pss_one (ps_raiseG T.e_StepFailed GE_StepFailed BE_StepFailed (hr.mono (by decide)) T.g_StepFailed rfl (takes_of rfl rfl rfl rfl) (pv 1))) pss_nil)
      (pss_one (ps_ret (pe_op op_cat (pe_slice (slLK K) (pv 0) po_none (po_some (pe_op op_sub (pv 4) pe_int))) (pe_slice (slLK K) (pv 0) (po_some (pv 4)) po_none))))))), ?_⟩
    refine ⟨_, rfl, r, _, rfl, hr2, rfl, _, _, rfl, _, _, rfl, rfl, ?_⟩
    refine ⟨_, rfl, rfl, _, rfl, ?_⟩
    cases b with
    | true =>
      refine iteH (wrd_ins true) ?_
      refine ⟨_, rfl, l, _, rfl, .inr hS, _, rfl, ?_, fun p hp => ?_⟩
      · show (L.map V.int ++ [V.int n]).length ≤ sizeLine
        rw [List.length_append, List.length_map, List.length_singleton]
        exact Nat.le_trans (show L.length + 1 ≤ 100000 by omega) line_ge
      · have e : (L.map V.int ++ [V.int n] : List V) = (L ++ [n]).map V.int := by rw [List.map_append]; rfl
        refine ⟨p, L ++ [n], rfl, .inl (SqL.of (by rw [← e]; exact upd_same)), fun N q pm up nq => ?_⟩
        rw [srt_of pm up]
        have sp := same_new (o := .lst (L.map V.int ++ [V.int n])) hp
        exact k1 _ rfl q _ (sp.trans (same_new nq)) (sp.free nq) upd_same
    | false =>
      refine iteN (wrd_ins false) ?_
      have gd' : 0 < n := by simpa [goodS] using gd
      refine ⟨_, rfl, _, rfl, l, _, rfl, .inl hS, _, _, rfl, rfl, _, rfl, ite2 (fun h1 => ?_) (fun h1 => ?_)⟩
      · have h1' : n > ((L.map V.int).length : Int) := of_decide_eq_true h1
        rw [List.length_map] at h1'
        have e : stepR L (false, n) = Option.none := by
          simp only [stepR]
          rw [if_pos (show (L.length : Int) < n by omega)]
        exact ⟨_, rfl, err_rd fun d hd => k2 e d _ (same_new hd) hd upd_same⟩
      · have h1' : ¬ n > ((L.map V.int).length : Int) := fun z => h1 (decide_eq_true z)
        rw [List.length_map] at h1'
        have e : stepR L (false, n) = some (L.take (n - 1).toNat ++ L.drop n.toNat) := by
          simp only [stepR]
          rw [if_neg (show ¬ (L.length : Int) < n by omega)]
        refine ⟨_, rfl, _, rfl, _, _, rfl, rfl, _, rfl, l, _, rfl, hS, fun p1 hp1 => ?_⟩
        have s1 := same_new (o := .lst (cutV (L.map V.int) Option.none (some (n - 1)))) hp1
        refine ⟨_, rfl, _, rfl, _, rfl, l, _, rfl, s1.seq hS, fun p2 hp2 => ?_⟩
        have s2 := same_new (o := .lst (cutV (L.map V.int) (some n) Option.none)) hp2
        refine ⟨p1, p2, _, _, rfl, rfl, s2 _ _ upd_same, upd_same, ?_, fun p3 hp3 => ?_⟩
        · have h1 := cutV_length (L.map V.int) Option.none (some (n - 1))
          have h2 := cutV_length (L.map V.int) (some n) Option.none
          rw [List.length_map] at h1 h2
          exact Nat.le_trans (Nat.add_le_add h1 h2) (Nat.le_trans (show L.length + L.length ≤ 100000 by omega) line_ge)
        · exact k1 _ e p3 _ ((s1.trans s2).trans (same_new hp3)) ((s1.trans s2).free hp3) (by rw [upd_same, cut_rm gd'])
/-- Sequence.__call__: the list after the steps, or the error -/
def spCallQ (K : PySem.W.Frag) (C CI CS : Addr) : Sp := fun vs H Q E => ∃ (t : Addr) (x : V) (S : List Stp), vs = [.ref t, x] ∧ SqcAt K C H t S ∧ S.length ≤ 1000 ∧
  ((∃ L, NumsAt K H x L ∧ (∀ M, runR (srt L) 0 S = .inl M → ∀ m H', Same H H' → H m = Option.none → H' m = some (.lst (M.map V.int)) → Q (.ref m) H') ∧ (∀ i, runR (srt L) 0 S = .inr i → ∀ d H', Same H H' → H d = Option.none → H' d = some (.xd [("index", .int (i : Int))]) → E (.ref CS) (some d) H')) ∨
   (BadN K H x ∧ ∀ d H', Same H H' → H d = Option.none → H' d = some (.xd [("value", x)]) → E (.ref CI) (some d) H'))
theorem okX_Sequence_call (T : Txt K mg a) : FnR P w K mg base (L2.CX P w) 4 a.Sequence___call__ (spCallQ K a.Sequence a.InvalidList a.StepFailed) := by
  obtain ⟨fd, F⟩ := T.F_Sequence___call__
  have G_ascending := okX_ascending (P := P) (w := w) (base := base) T
  have G_after_step := okX_after_step (P := P) (w := w) (base := base) T
  refine XT.okX F sc_Sequence___call__ bn_Sequence___call__ (fun vs H Q E h => ?_) (fun cdv A outer s H vs Q E hr h => ?_)
  · obtain ⟨t, x, S, rfl, _⟩ := h
    rfl
  · obtain ⟨t, x, S, rfl, ⟨dx, p, xs, ht, hS, hX, hg⟩, hz, h⟩ := h
    refine ⟨_, (pss_cons (ps_set (i := 2) sc_Sequence___call__.nd rfl (Or.inl rfl) (pe_callR G_ascending (hr.mono (by decide)) rfl T.g_ascending T.k_ascending (passes_call (takes_of rfl rfl rfl rfl) (fun _ _ _ _ h => h)) (pa_cons (pv 1) pa_nil)))
      (pss_cons (ps_for (passes_of rfl) rfl (pi_enumT (by rfl) T.b_enumerate (pa_cons (fldK K (pv 0) rfl) pa_nil)) (tupK K (n := 2) (by rfl) (pgs_cons (pg_name (i := 3) sc_Sequence___call__.nd rfl (Or.inl rfl)) (pgs_cons (pg_name (i := 4) sc_Sequence___call__.nd rfl (Or.inl rfl)) pgs_nil)))
        (pss_one (ps_set (i := 2) sc_Sequence___call__.nd rfl (Or.inl rfl) (pe_callR G_after_step (hr.mono (by decide)) rfl T.g_after_step T.k_after_step (passes_call (takes_of rfl rfl rfl rfl) (fun _ _ _ _ h => h)) (pa_cons (pv 2) (pa_cons (pv 3) (pa_cons (pv 4) pa_nil)))))))
      (pss_one (ps_ret (pv 2))))), ?_⟩
    rcases h with ⟨L, hN, k1, k2⟩ | ⟨bad, k⟩
    · refine ⟨x, rfl, x, rfl, .inl ⟨L, hN, fun m0 H1 s1 n0 h0 => ?_⟩⟩
      have hLL : L.length ≤ 1000 := by obtain ⟨_, _, _, h⟩ := hN; exact h
      refine ⟨_, rfl, t, a.Sequence, dx, _, _, rfl, s1 _ _ ht, T.cl, T.n_steps, sfl_steps _, p, xs, rfl, same_seqT s1 hS, ?_⟩
      refine for_enT (xs := xs) (same_seqT s1 hS) (fun i σ H' => ∃ (m : Addr) (M : List Int) (o3 o4 : Option V), σ = [some (.ref t), some x, some (.ref m), o3, o4] ∧ Same H H' ∧ H m = Option.none ∧ H' m = some (.lst (M.map V.int)) ∧ M.length ≤ 1000 + i ∧ runR (srt L) 0 S = runR M i (S.drop i)) (fun i σ H' hi ⟨_, _, _, _, _, s, _⟩ => same_seqT s hS) ⟨m0, srt L, _, _, rfl, s1, n0, h0, by rw [srt_len]; omega, rfl⟩ ?_ ?_
      · rintro i y T' σ H' hi hy hT ⟨m, M, o3, o4, rfl, s, nm, hm, hl, hrun⟩
        obtain ⟨st, hst, hy2⟩ := pd_get hX hy
        have s2 := s.trans (same_new (o := .tup [V.int (i : Int), y]) hT)
        refine ⟨T', [V.int (i : Int), y], rfl, SqT.of upd_same, rfl, _, [y], rfl, y, [], rfl, rfl, ?_⟩
        have hi2 : i < S.length := (List.getElem?_eq_some_iff.mp hst).1
        have hm2 := (same_new (o := .tup [V.int (i : Int), y]) hT) _ _ hm
        refine ⟨_, rfl, _, rfl, y, rfl, m, (i : Int), y, M, st, rfl, SqL.of hm2, hy2.same s2, hg st (List.mem_of_getElem? hst), by omega, fun M2 e2 m2 H2 s3 n2 h2 => ?_, fun e2 d H2 s3 nd hd => ?_⟩
        · exact ⟨m2, M2, _, _, rfl, s2.trans s3, s2.free n2, h2, by have := stepR_len e2; omega, by rw [hrun, runR_step hst e2]⟩
        · exact k2 i (by rw [hrun, runR_fail hst e2]) d H2 (s2.trans s3) (s2.free nd) hd
      · rintro σ H' ⟨m, M, o3, o4, rfl, s, nm, hm, hl, hrun⟩
        refine ⟨_, rfl, k1 M ?_ m H' s nm hm⟩
        rw [hrun, hX.length, List.drop_length]
        rfl
    · exact ⟨x, rfl, x, rfl, .inr ⟨bad, fun d H1 s1 nd hd => k d H1 s1 nd hd⟩⟩
end
end K02
namespace K02
open PySem L2 XT
section
variable {P : Program} {w : World} {K : PySem.W.Frag} {mg : Str → Option Value} {base : Heap} {a : Ads}
def spDue (K : PySem.W.Frag) : Sp := fun vs H Q _ => ∃ (l q : Addr) (xs : List V) (S : List Stp) (L : List Int), vs = [.ref l, .ref q] ∧ SqL K H l xs ∧ StsAt K H xs S ∧ (∀ s ∈ S, goodS s = true) ∧ SqL K H q (L.map V.int) ∧ L.length ≤ 1000 ∧ S.length ≤ 1000 ∧
  ∀ r H', Same H H' → H r = Option.none → ResAt K H' r (runR (srt L) 0 S) → Q (.ref r) H'
theorem ok_law_due (T : Txt K mg a) : FnR P w K mg base CX0 1 a.law_due (spDue K) := by
  obtain ⟨fd, F⟩ := T.F_law_due
  refine XT.okR F sc_law_due bn_law_due (fun vs H Q E h => ?_) (fun cdv A outer s H vs Q E hr h => ?_)
  · obtain ⟨l, q, xs, S, L, rfl, _⟩ := h
    rfl
  · obtain ⟨l, q, xs, S, L, rfl, hS, hX, hg, hL, hl, hs, k⟩ := h
    refine ⟨_, (pss_cons (ps_set (i := 2) sc_law_due.nd rfl (Or.inl rfl) (pe_callB (sortedAK K) (by rfl) T.b_sorted (by decide +kernel) (pa_cons (pv 1) pa_nil)))
      (pss_cons (ps_for PassesOwn.never rfl (pi_enum (by rfl) T.b_enumerate (pa_cons (pv 0) pa_nil)) (tupK K (n := 2) (by rfl) (pgs_cons (pg_name (i := 3) sc_law_due.nd rfl (Or.inl rfl)) (pgs_cons (pg_name (i := 4) sc_law_due.nd rfl (Or.inl rfl)) pgs_nil)))
        (pss_one (ps_if (pt_cmpR op_eq (pe_ix (ixTK K) (pv 4) pe_int (fun _ _ => rfl)) pe_str (nomark _)) (pss_one (ps_set (i := 2) sc_law_due.nd rfl (Or.inl rfl) (pe_callB (sortedAK K) (by rfl) T.b_sorted (by decide +kernel) (pa_cons (pe_op op_cat (pv 2) (pe_lst (pa_cons (pe_ix (ixTK K) (pv 4) pe_int (fun _ _ => rfl)) pa_nil))) pa_nil)))) (pss_one (ps_if (pt_cmpR op_gt (pe_ix (ixTK K) (pv 4) pe_int (fun _ _ => rfl)) (pe_callB (lenK K) (by rfl) T.b_len (by decide +kernel) (pa_cons (pv 2) pa_nil)) (nomark _)) (pss_one (ps_ret (pe_lst (pa_cons pe_str (pa_cons (pv 3) (pa_cons pe_bl pa_nil)))))) (pss_one (ps_set (i := 2) sc_law_due.nd rfl (Or.inl rfl) (pe_op op_cat (pe_slice (slLK K) (pv 2) po_none (po_some (pe_op op_sub (pe_ix (ixTK K) (pv 4) pe_int (fun _ _ => rfl)) pe_int))) (pe_slice (slLK K) (pv 2) (po_some (pe_ix (ixTK K) (pv 4) pe_int (fun _ _ => rfl))) po_none)))))))))
      (pss_one (ps_ret (pe_lst (pa_cons pe_str (pa_cons (pv 2) pa_nil))))))), ?_⟩
    refine ⟨_, rfl, q, L, rfl, .inl hL, fun N m0 pm up n0 => ?_⟩
    rw [srt_of pm up]
    have s1 := same_new (o := .lst ((srt L).map V.int)) n0
    refine ⟨_, rfl, l, xs, rfl, s1.seq hS, ?_⟩
    refine for_enL (xs := xs) (fun i σ H' => ∃ (m : Addr) (M : List Int) (o3 o4 : Option V), σ = [some (.ref l), some (.ref q), some (.ref m), o3, o4] ∧ Same H H' ∧ H m = Option.none ∧ H' m = some (.lst (M.map V.int)) ∧ M.length ≤ 1000 + i ∧ runR (srt L) 0 S = runR M i (S.drop i)) (fun i σ H' hi ⟨_, _, _, _, _, s, _⟩ => s.seq hS) ⟨m0, srt L, _, _, rfl, s1, n0, upd_same, by rw [srt_len]; omega, rfl⟩ ?_ ?_
    · rintro i y T' σ H' hi hy hT ⟨m, M, o3, o4, rfl, s, nm, hm, hml, hrun⟩
      obtain ⟨⟨b, n⟩, hst, ⟨r, rfl, hr2⟩⟩ := pd_get hX hy
      have gst := hg _ (List.mem_of_getElem? hst)
      have sT := same_new (o := .tup [V.int (i : Int), V.ref r]) hT
      have s2 := s.trans sT
      have hi2 : i < S.length := (List.getElem?_eq_some_iff.mp hst).1
      have hm2 := sT _ _ hm
      have hr3 := same_seqT s2 hr2
      refine ⟨T', [V.int (i : Int), V.ref r], rfl, SqT.of upd_same, rfl, _, [V.ref r], rfl, _, [], rfl, rfl, ?_⟩
      refine ⟨_, rfl, r, _, 0, .str (wrd b), rfl, rfl, hr3, rfl, rfl, _, rfl, ?_⟩
      cases b with
      | true =>
        refine iteH (wrd_ins true) ?_
        refine ⟨_, rfl, _, rfl, r, _, 1, .int n, rfl, rfl, hr3, rfl, by show 1 ≤ sizeLine; decide, fun c1 hc1 => ?_⟩
        have sc1 := same_new (o := .lst [V.int n]) hc1
        refine ⟨m, c1, _, _, rfl, rfl, sc1 _ _ hm2, upd_same, ?_, fun c2 hc2 => ?_⟩
        · rw [List.length_map, List.length_singleton]
          exact Nat.le_trans (show M.length + 1 ≤ 100000 by omega) line_ge
        have sc2 := same_new (o := .lst (M.map V.int ++ [V.int n])) hc2
        have e : (M.map V.int ++ [V.int n] : List V) = (M ++ [n]).map V.int := by rw [List.map_append]; rfl
        refine ⟨c2, M ++ [n], rfl, .inl (SqL.of (by rw [← e]; exact upd_same)), fun N2 q2 pm2 up2 nq2 => ?_⟩
        rw [srt_of pm2 up2]
        have s3 := ((s2.trans sc1).trans sc2)
        exact ⟨q2, srt (M ++ [n]), _, _, rfl, s3.trans (same_new nq2), s3.free nq2, upd_same, by rw [srt_len, List.length_append]; simp; omega, by rw [hrun, runR_step hst (M := srt (M ++ [n])) rfl]⟩
      | false =>
        refine iteN (wrd_ins false) ?_
        have gd' : 0 < n := by simpa [goodS] using gst
        refine ⟨_, rfl, r, _, 1, .int n, rfl, rfl, hr3, rfl, _, rfl, m, _, rfl, .inl (SqL.of hm2), _, _, rfl, rfl, _, rfl, ite2 (fun h1 => ?_) (fun h1 => ?_)⟩
        · have h1' : n > ((M.map V.int).length : Int) := of_decide_eq_true h1
          rw [List.length_map] at h1'
          have e : stepR M (false, n) = Option.none := by
            simp only [stepR]
            rw [if_pos (show (M.length : Int) < n by omega)]
          refine ⟨_, rfl, by show 3 ≤ sizeLine; decide, fun c hc => ?_⟩
          refine k c _ (s2.trans (same_new hc)) (s2.free hc) ?_
          rw [hrun, runR_fail hst e]
          exact upd_same
        · have h1' : ¬ n > ((M.map V.int).length : Int) := fun z => h1 (decide_eq_true z)
          rw [List.length_map] at h1'
          have e : stepR M (false, n) = some (M.take (n - 1).toNat ++ M.drop n.toNat) := by
            simp only [stepR]
            rw [if_neg (show ¬ (M.length : Int) < n by omega)]
          refine ⟨_, rfl, _, rfl, r, _, 1, .int n, rfl, rfl, hr3, rfl, _, _, rfl, rfl, _, rfl, m, _, rfl, SqL.of hm2, fun p1 hp1 => ?_⟩
          have sp1 := same_new (o := .lst (cutV (M.map V.int) Option.none (some (n - 1)))) hp1
          refine ⟨_, rfl, _, rfl, r, _, 1, .int n, rfl, rfl, same_seqT sp1 hr3, rfl, _, rfl, m, _, rfl, SqL.of (sp1 _ _ hm2), fun p2 hp2 => ?_⟩
          have sp2 := same_new (o := .lst (cutV (M.map V.int) (some n) Option.none)) hp2
          refine ⟨p1, p2, _, _, rfl, rfl, sp2 _ _ upd_same, upd_same, ?_, fun p3 hp3 => ?_⟩
          · have h1 := cutV_length (M.map V.int) Option.none (some (n - 1))
            have h2 := cutV_length (M.map V.int) (some n) Option.none
            rw [List.length_map] at h1 h2
            exact Nat.le_trans (Nat.add_le_add h1 h2) (Nat.le_trans (show M.length + M.length ≤ 100000 by omega) line_ge)
          · have s3 := (s2.trans sp1).trans sp2
            exact ⟨p3, _, _, _, rfl, s3.trans (same_new hp3), s3.free hp3, by rw [upd_same, cut_rm gd'], by have := stepR_len e; omega, by rw [hrun, runR_step hst e]⟩
    · rintro σ H' ⟨m, M, o3, o4, rfl, s, nm, hm, hml, hrun⟩
      refine ⟨_, rfl, by show 2 ≤ sizeLine; decide, fun c hc => ?_⟩
      refine k c _ (s.trans (same_new hc)) (s.free hc) ?_
      rw [hrun, hX.length, List.drop_length]
      exact ⟨m, upd_same, (same_new hc) _ _ hm⟩

def spCaughtQ (K : PySem.W.Frag) (C : Addr) : Sp := fun vs H Q _ => ∃ (t : Addr) (x : V) (S : List Stp), vs = [.ref t, x] ∧ SqcAt K C H t S ∧ S.length ≤ 1000 ∧
  ((∃ L, NumsAt K H x L ∧ ∀ r H', Same H H' → H r = Option.none → ResAt K H' r (runR (srt L) 0 S) → Q (.ref r) H') ∨
   (∃ d, BadN K H x ∧ Okd d ∧ Rd K H x d ∧ ∀ r H', Same H H' → H r = Option.none → H' r = some (.lst [.str "invalid", .str d.shown]) → Q (.ref r) H'))
abbrev WLd (K : PySem.W.Frag) (a : Ads) : List (Value × Nat × (Addr → Value → Option Addr → TS)) := [(.ref a.InvalidList, 2, (fun ea cls d => tRet (tLst (tCons (tC (V.str "invalid")) (tCons (tCB (rReprD K) (tCons (tXf ea cls d a.InvalidList "value" (tVar 2)) tNil)) tNil))))), (.ref a.StepFailed, 2, (fun ea cls d => tRet (tLst (tCons (tC (V.str "failed")) (tCons (tXf ea cls d a.StepFailed "index" (tVar 2)) (tCons (tCB (rIsED K a.StepFailed ea cls d) (tCons (tVar 2) (tCons (tC (V.ref a.RankError)) tNil))) tNil))))))]
theorem ok_law_caught (T : Txt K mg a) : FnG P w K mg base CX0 6 a.law_caught (spCaughtQ K a.Sequence) := by
  obtain ⟨fd, F⟩ := T.F_law_caught
  have G_C := okX_Sequence_call (P := P) (w := w) (base := base) T
  refine XT.okGX F sc_law_caught bn_law_caught (fun vs H Q E h => ?_) (fun cdv A outer s H vs Q E hg hr h => ?_)
  · obtain ⟨t, x, S, rfl, _⟩ := h
    rfl
  · obtain ⟨t, x, S, rfl, hq, hz, h⟩ := h
    refine ⟨_, (pss_one (ps_try_asL rfl rfl sc_law_caught.nd takes0 (fun W pn xe tk po => (pss_one (ps_ret (pe_lst (pa_cons pe_str (pa_cons (pe_callI (pv 0) T.callO G_C (hr.mono (by decide)) (passAll tk 3 rfl) (pa_cons (pv 1) pa_nil)) pa_nil))))))
      (AsOk.cons (i := 2) ⟨by rfl, by decide, .inl T.g_InvalidList⟩ rfl rfl (fun ea oe cls d pn hz hf => (pss_one (ps_ret (pe_lst (pa_cons pe_str (pa_cons (pe_callB (reprKx K hg hr.units) (by rfl) T.b_repr (by decide +kernel) (pa_cons (pe_xf T.e_InvalidList.xf T.e_InvalidList.no hz hf (pv 2)) pa_nil)) pa_nil))))))
      (AsOk.cons (i := 2) ⟨by rfl, by decide, .inl T.g_StepFailed⟩ rfl rfl (fun ea oe cls d pn hz hf => (pss_one (ps_ret (pe_lst (pa_cons pe_str (pa_cons (pe_xf T.e_StepFailed.xf T.e_StepFailed.no hz hf (pv 2)) (pa_cons (pe_callB (isEKx K T.e_StepFailed.exc hz hf) (by rfl) T.b_isinstance (by decide +kernel) (pa_cons (pv 2) (pa_cons (pe_glob (v := .ref a.RankError) (by rfl) T.g_RankError rfl) pa_nil))) pa_nil))))))) AsOk.nil)))), ?_⟩
    rcases h with ⟨L, hN, k⟩ | ⟨D, bad, od, rd, k⟩
    · refine ⟨_, rfl, t, rfl, x, rfl, hq.insA, ?_⟩
      refine ⟨t, x, S, rfl, hq, hz, .inl ⟨L, hN, fun M e m H1 s1 n1 h1 => ?_, fun i e d H1 s1 nd hd σ hσ => ?_⟩⟩
      · refine ⟨by show 2 ≤ sizeLine; decide, fun r hr => ?_⟩
        refine k r _ (s1.trans (same_new hr)) (s1.free hr) ?_
        rw [e]
        exact ⟨m, upd_same, (same_new hr) _ _ h1⟩
      · refine ⟨false, T.x_SL, (fun q => Bool.noConfusion q), fun _ => ⟨true, T.x_SS, fun _ ea hea => ?_, fun q => Bool.noConfusion q⟩⟩
        have he : (σ.set 2 (some (V.ref ea)))[2]? = some (some (V.ref ea)) := by simp [hσ]
        refine ⟨_, he, rfl, rfl, d, _, _, rfl, hd, rfl, ?_⟩
        refine ⟨_, he, _, _, false, d, _, rfl, rfl, (fun u r => r), rfl, hd, T.r_SR, ?_⟩
        refine ⟨by show 3 ≤ sizeLine; decide, fun r hr => ?_⟩
        refine k r _ (s1.trans (same_new hr)) (s1.free hr) ?_
        rw [e]
        exact upd_same
    · refine ⟨_, rfl, t, rfl, x, rfl, hq.insA, ?_⟩
      refine ⟨t, x, S, rfl, hq, hz, .inr ⟨bad, fun d H1 s1 nd hd σ hσ => ?_⟩⟩
      refine ⟨true, T.x_LL, fun _ ea hea => ?_, fun q => Bool.noConfusion q⟩
      have he : (σ.set 2 (some (V.ref ea)))[2]? = some (some (V.ref ea)) := by simp [hσ]
      refine ⟨_, he, rfl, rfl, d, _, _, rfl, hd, rfl, _, D, rfl, rd_same s1 rd, od.pl, od.dp, od.sz, ?_⟩
      exact ⟨by show 2 ≤ sizeLine; decide, fun r hr => k r _ (s1.trans (same_new hr)) (s1.free hr) upd_same⟩
end
end K02
namespace K02
open PySem L2 XT
section
variable {P : Program} {w : World} {K : PySem.W.Frag} {mg : Str → Option Value} {base : Heap} {a : Ads}
theorem cm80 {x : Int} (h : -9 ≤ x) (k : x ≤ 9) : CMulW (10 ^ (60 : Int).toNat * 10 ^ (20 : Int).toNat) x :=
  wide_mul (a := 300) (b := 4) (by decide +kernel) (by omega) (by decide) (by decide) (by decide)
theorem sm80 {x : Int} (h : -9 ≤ x) (k : x ≤ 9) : (10 ^ (60 : Int).toNat * 10 ^ (20 : Int).toNat * x).natAbs < 2 ^ 1920 := by
  have h1 : (10 ^ (60 : Int).toNat * 10 ^ (20 : Int).toNat : Int).natAbs < 2 ^ 300 := by decide +kernel
  have h2 : x.natAbs < 2 ^ 4 := by omega
  have := wide_lt h1 h2
  exact Nat.lt_of_lt_of_le this (Nat.pow_le_pow_right (by decide) (by decide))
theorem sm9 {x : Int} (h : -9 ≤ x) (k : x ≤ 9) : x.natAbs < 2 ^ 1920 := Nat.lt_of_lt_of_le (show x.natAbs < 2 ^ 4 by omega) (Nat.pow_le_pow_right (by decide) (by decide))
theorem okd_ints {Ns : List Int} (h : ∀ x ∈ Ns, x.natAbs < 2 ^ 1920) (k : Ns.length ≤ 100) : Okd (.list (Ns.map PyData.int)) := by
  refine ⟨?_, ?_, ?_⟩
  · simp [plainD, plainAll_ints h]
  · simp [PyData.depth, depth_ints]
  · simp [sc, scAll_ints]
    omega
theorem rd_ints {H : Hp} {q : Addr} {Ns : List Int} (h : H q = some (.lst (Ns.map V.int))) : Rd K H (.ref q) (.list (Ns.map PyData.int)) :=
  .inl ⟨dp_lst (SqL.of h), by simp [PyData.hasDict, PyData.hasDictAll_of_canLayAll _ (canLay_ints Ns)]⟩
theorem ne_res (r : List Int ⊕ Nat) : (!PyData.eqv (resD r) (resD r)) = false := ne_self (sh_res r)
theorem sh_inv {x : Str} (hx : PyData.strOk x = true) : SeqAt.shaped (.list [.str "invalid", .str x]) = true := by
  simp [SeqAt.shaped, PyData.canLay0, PyData.canLayAll0, PyData.depth, PyData.depthAll, ok_of, hx]
/-- the numbers drawn so far -/
def InvN (p D : Addr) (Hs : Hp) (i : Nat) (H : Hp) (acc : List V) : Prop := ∃ ns : List Int, acc = ns.map V.int ∧ ns.length = i ∧ H D = some (.lst acc) ∧ PoolAt H p ∧ But p Hs H ∧ ∀ x ∈ ns, -9 ≤ x ∧ x ≤ 9
/-- something odd instead of numbers, as data -/
structure OddN (K : PySem.W.Frag) (H : Hp) (x : V) (d : PyData) : Prop where
  bd : BadN K H x
  rd : Rd K H x d
  pl : plainD d = true
  de : d.depth ≤ 10
  sz : sc d ≤ 100000
  tx : txD d = true
theorem OddN.same {H H' : Hp} {x : V} {d : PyData} (h : OddN K H x d) (s : Same H H') : OddN K H' x d := ⟨h.bd.same s, rd_same s h.rd, h.pl, h.de, h.sz, h.tx⟩
theorem OddN.ok {H : Hp} {x : V} {d : PyData} (h : OddN K H x d) : Okd d := ⟨h.pl, by have := h.de; omega, by have := h.sz; omega⟩
theorem kv_bl {H : Hp} (b : Bool) : KV K H (.bl b) := ⟨"bool", .bl b, by decide +kernel⟩
theorem kv_non {H : Hp} : KV K H .non := ⟨"NoneType", .non, by decide +kernel⟩
theorem kv_str' {H : Hp} (z : Str) : KV K H (.str z) := ⟨"str", .str z, by decide +kernel⟩
theorem bd_l {H : Hp} {a : Addr} {xs : List V} (h : H a = some (.lst xs)) (k : ∀ y ∈ xs, KV K H y) (hl : xs.length ≤ 100000) (r : numsV xs = false) : BadN K H (.ref a) := .inl ⟨xs, ⟨a, rfl, .inl (SqL.of h), k, hl⟩, r⟩
theorem bd_t {H : Hp} {a : Addr} {xs : List V} (h : H a = some (.tup xs)) (k : ∀ y ∈ xs, KV K H y) (hl : xs.length ≤ 100000) (r : numsV xs = false) : BadN K H (.ref a) := .inl ⟨xs, ⟨a, rfl, .inr (SqT.of h), k, hl⟩, r⟩
theorem odds9 {H : Hp} {z1 z2 z3 z4 z5 z6 z7 : Addr} (h1 : H z1 = some (.dK [])) (h2 : H z2 = some (.lst [V.bl true])) (h3 : H z3 = some (.lst [V.int 1, V.non])) (h4 : H z4 = some (.lst [V.int 1])) (h5 : H z5 = some (.tup [V.ref z4])) (h6 : H z6 = some (.lst [V.int 1, V.str "2"])) (h7 : H z7 = some (.tup [V.int 1, V.bl false])) :
    ∀ x ∈ [V.non, V.int 5, V.str "12", V.ref z1, V.ref z2, V.ref z3, V.ref z5, V.ref z6, V.ref z7], ∃ d, OddN K H x d := by
  intro x hx
  simp only [List.mem_cons, List.not_mem_nil, or_false] at hx
  rcases hx with rfl | rfl | rfl | rfl | rfl | rfl | rfl | rfl | rfl
  · exact ⟨.none, .inr ⟨"NoneType", .non, by decide +kernel, by decide, by decide⟩, .inl ⟨.non, rfl⟩, by decide +kernel, by decide +kernel, by decide +kernel, by decide +kernel⟩
  · exact ⟨.int 5, .inr ⟨"int", .int _, by decide +kernel, by decide, by decide⟩, .inl ⟨.int _, rfl⟩, by decide +kernel, by decide +kernel, by decide +kernel, by decide +kernel⟩
  · exact ⟨.str "12", .inr ⟨"str", .str _, by decide +kernel, by decide, by decide⟩, .inl ⟨.str _, rfl⟩, by decide +kernel, by decide +kernel, by decide +kernel, by decide +kernel⟩
  · exact ⟨.dict [], .inr ⟨"dict", .dK h1, by decide +kernel, by decide, by decide⟩, .inr (.inl ⟨z1, rfl, h1, rfl⟩), by decide +kernel, by decide +kernel, by decide +kernel, by decide +kernel⟩
  · exact ⟨.list [.bool true], bd_l h2 (by simp [kv_bl]) (by decide) (by decide +kernel), .inl ⟨.lst (SqL.of h2) (.cons (.bl _) .nil), rfl⟩, by decide +kernel, by decide +kernel, by decide +kernel, by decide +kernel⟩
  · exact ⟨.list [.int 1, .none], bd_l h3 (by simp [kv_int, kv_non]) (by decide) (by decide +kernel), .inl ⟨.lst (SqL.of h3) (.cons (.int _) (.cons .non .nil)), rfl⟩, by decide +kernel, by decide +kernel, by decide +kernel, by decide +kernel⟩
  · exact ⟨.tuple [.list [.int 1]], bd_t h5 (fun y hy => by rw [List.mem_singleton.mp hy]; exact ⟨"list", .lst (SqL.of h4), by decide +kernel⟩) (by show 1 ≤ 100000; decide) rfl, .inl ⟨.tup (SqT.of h5) (.cons (.lst (SqL.of h4) (.cons (.int _) .nil)) .nil), rfl⟩, by decide +kernel, by decide +kernel, by decide +kernel, by decide +kernel⟩
  · exact ⟨.list [.int 1, .str "2"], bd_l h6 (by simp [kv_int, kv_str']) (by decide) (by decide +kernel), .inl ⟨.lst (SqL.of h6) (.cons (.int _) (.cons (.str _) .nil)), rfl⟩, by decide +kernel, by decide +kernel, by decide +kernel, by decide +kernel⟩
  · exact ⟨.tuple [.int 1, .bool false], bd_t h7 (by simp [kv_int, kv_bl]) (by decide) (by decide +kernel), .inl ⟨.tup (SqT.of h7) (.cons (.int _) (.cons (.bl _) .nil)), rfl⟩, by decide +kernel, by decide +kernel, by decide +kernel, by decide +kernel⟩
def spLaw (K : PySem.W.Frag) : Sp := fun vs H Q _ => ∃ (sc : Addr) (ns : List Int), vs = [.ref sc] ∧ SqL K H sc (ns.map V.int) ∧ ns.length ≤ 63 ∧ ∀ H', Q (.bl true) H'
end
end K02
namespace K02
open PySem L2 XT
section
variable {P : Program} {w : World} {K : PySem.W.Frag} {mg : Str → Option Value} {base : Heap} {a : Ads}
theorem srt12 : srt [1, 2] = [1, 2] := (srt_of (N := [1, 2]) (L := [1, 2]) (.refl _) (by simp)).symm
theorem ok_law (T : Txt K mg a) {fd : FuncData} (F : Fun K "law" "law" s_law a.law fd) : FnG P w K mg base CX0 12 a.law (spLaw K) := by
  refine XT.okGX F sc_law bn_law (fun vs H Q E h => ?_) (fun cdv A outer s H vs Q E hg hr h => ?_)
  · obtain ⟨sc, ns, rfl, _⟩ := h
    rfl
  · obtain ⟨sc, ns, rfl, hS, hn, k⟩ := h
    have G_law_pool := ok_law_pool (P := P) (w := w) (base := base) T
    have G_law_take := ok_law_take (P := P) (w := w) (base := base) T
    have G_law_steps := ok_law_steps (P := P) (w := w) (base := base) T
    have G_law_made := ok_law_made (P := P) (w := w) (base := base) T
    have G_law_due := ok_law_due (P := P) (w := w) (base := base) T
    have G_caught := ok_law_caught (P := P) (w := w) (base := base) T
    have G_Sequence_init := ok_Sequence___init__ (P := P) (w := w) (base := base) T
    have G_steps := ok_Sequence_steps (P := P) (w := w) (base := base) T
    have G_C := okX_Sequence_call (P := P) (w := w) (base := base) T
    refine ⟨_, PSs.nox ((pss_cons (ps_for PassesOwn.never rfl (pi_rng1 (by rfl) T.b_range (pa_cons (pe_callB (call_max2 rfl) (by rfl) T.b_max (by decide +kernel) (pa_cons pe_int (pa_cons (pe_callB (call_min2 rfl) (by rfl) T.b_min (by decide +kernel) (pa_cons pe_int (pa_cons (pe_callB (lenK K) (by rfl) T.b_len (by decide +kernel) (pa_cons (pv 0) pa_nil)) pa_nil))) pa_nil))) pa_nil)) (pg_name (i := 1) sc_law.nd rfl (Or.inl rfl))
        (pss_cons (ps_set (i := 2) sc_law.nd rfl (Or.inr rfl) (pe_callR G_law_pool (hr.mono (by decide)) rfl T.g_law_pool T.k_law_pool pass0 (pa_cons (pv 0) (pa_cons (pv 1) pa_nil))))
      (pss_cons (ps_set (i := 3) sc_law.nd rfl (Or.inl rfl) (pe_callR G_law_steps (hr.mono (by decide)) rfl T.g_law_steps T.k_law_steps pass0 (pa_cons (pv 2) (pa_cons pe_int pa_nil))))
      (pss_cons (ps_set (i := 4) sc_law.nd rfl (Or.inl rfl) (pe_callR G_law_made (hr.mono (by decide)) rfl T.g_law_made T.k_law_made pass0 (pa_cons (pv 3) pa_nil)))
      (pss_cons (ps_for PassesOwn.never rfl (pi_rng1 (by rfl) T.b_range (pa_cons pe_int pa_nil)) (pg_name (i := 5) sc_law.nd rfl (Or.inl rfl))
        (pss_cons (ps_setLc (own := [("_law_item", 7)]) (i := 6) rfl sc_law.nd rfl rfl (sw_true rfl rfl rfl (by decide +kernel)) (pi_rng1 (by rfl) T.b_range (pa_cons (pe_callR G_law_take (hr.mono (by decide)) rfl T.g_law_take T.k_law_take pass0 (pa_cons (pv 2) (pa_cons pe_int pa_nil))) pa_nil)) (blkOk_by (N := N_law) (sc := defScope s_law) (by decide +kernel)) (fun _ _ _ _ _ => by exact (pg_name (i := 7) sc_law.nd rfl (Or.inl rfl))) (fun _ _ _ _ _ => by exact pts_nil) (fun _ _ _ _ _ => by exact (pe_op op_sub (pe_callR G_law_take (hr.mono (by decide)) rfl T.g_law_take T.k_law_take pass0 (pa_cons (pv 2) (pa_cons pe_int pa_nil))) pe_int)))
      (pss_cons (ps_if (pt_cmpR op_eq (pe_callR G_law_take (hr.mono (by decide)) rfl T.g_law_take T.k_law_take pass0 (pa_cons (pv 2) (pa_cons pe_int pa_nil))) pe_int (nomark _)) (pss_one (ps_setLc (own := [("_law_number", 8)]) (i := 6) rfl sc_law.nd rfl rfl (sw_true rfl rfl rfl (by decide +kernel)) (pi_list (pv 6)) (blkOk_by (N := N_law) (sc := defScope s_law) (by decide +kernel)) (fun _ _ _ _ _ => by exact (pg_name (i := 8) sc_law.nd rfl (Or.inl rfl))) (fun _ _ _ _ _ => by exact pts_nil) (fun _ _ _ _ _ => by exact (pe_op op_mulW (pe_op op_mulW (pe_op op_pow pe_int pe_int) (pe_op op_pow pe_int pe_int)) (pv 8))))) pss_nil)
      (pss_cons (ps_par (i := 9) (j := 10) (by rfl) sc_law.nd rfl rfl (by decide) rfl rfl (pa_cons (pe_callB (reprKx K hg hr.units) (by rfl) T.b_repr (by decide +kernel) (pa_cons (pv 6) pa_nil)) (pa_cons (pe_callR G_law_due (hr.mono (by decide)) rfl T.g_law_due T.k_law_due pass0 (pa_cons (pv 3) (pa_cons (pv 6) pa_nil))) pa_nil)) (by rfl))
      (pss_cons (ps_if (PW.pt (pw_or (pt_cmpR (neDK K hr.units) (pe_callG G_caught hg (hr.mono (by decide)) rfl T.g_law_caught T.k_law_caught pass0 (pa_cons (pv 4) (pa_cons (pv 6) pa_nil))) (pv 10) (nomark _)) (pw_or1 (pt_cmpR (neDK K hr.units) (pe_callG G_caught hg (hr.mono (by decide)) rfl T.g_law_caught T.k_law_caught pass0 (pa_cons (pv 4) (pa_cons (pe_callTy (tupleK K) (by rfl) T.b_tuple (by decide +kernel) (pa_cons (pv 6) pa_nil)) pa_nil))) (pv 10) (nomark _))))) (pss_one (ps_ret pe_bl)) pss_nil)
      (pss_cons (ps_set (i := 11) sc_law.nd rfl (Or.inl rfl) (pe_callG G_caught hg (hr.mono (by decide)) rfl T.g_law_caught T.k_law_caught pass0 (pa_cons (pv 4) (pa_cons (pv 6) pa_nil))))
      (pss_one (ps_if (PW.pt (pw_or (PW.pt (pw_and (pt_cmpR op_eq (pe_ix (ixLK K) (pv 11) pe_int (fun _ _ => rfl)) pe_str (nomark _)) (pw_and1 (pt_not (pt_val (pe_callB call_isi (by rfl) T.b_isinstance (by decide +kernel) (pa_cons (pe_ix (ixLK K) (pv 11) pe_int (fun _ _ => rfl)) (pa_cons (pe_bltn (v := .ty "list") (u := .type "list") (by rfl) T.b_list (by decide +kernel) rfl) pa_nil)))))))) (pw_or1 (pt_cmpR op_ne (pe_callB (reprKx K hg hr.units) (by rfl) T.b_repr (by decide +kernel) (pa_cons (pv 6) pa_nil)) (pv 9) (nomark _))))) (pss_one (ps_ret pe_bl)) pss_nil))))))))
      (pss_cons (ps_set (i := 6) sc_law.nd rfl (Or.inl rfl) (pe_lst (pa_cons pe_int (pa_cons pe_int pa_nil))))
      (pss_cons (ps_set (i := 11) sc_law.nd rfl (Or.inl rfl) (pe_callI (pe_makeR0 T.M_Sequence G_Sequence_init (hr.mono (by decide)) rfl T.g_Sequence pass0) T.callO G_C (hr.mono (by decide)) passL (pa_cons (pv 6) pa_nil)))
      (pss_cons (ps_expr (bmK K (pe_bm PySem.F.plainAttrs_list PySem.F.slot_list_append PySem.F.type_list_append mt_append (pv 11) (pa_cons pe_int pa_nil))))
      (pss_cons (ps_if (PW.pt (pw_or (pt_cmpR (neDK K hr.units) (pv 6) (pe_lst (pa_cons pe_int (pa_cons pe_int pa_nil))) (nomark _)) (pw_or1 (pt_cmpR (neDK K hr.units) (pe_callI (pe_makeR0 T.M_Sequence G_Sequence_init (hr.mono (by decide)) rfl T.g_Sequence pass0) T.callO G_C (hr.mono (by decide)) passL (pa_cons (pv 6) pa_nil)) (pe_lst (pa_cons pe_int (pa_cons pe_int pa_nil))) (nomark _))))) (pss_one (ps_ret pe_bl)) pss_nil)
      (pss_one (ps_for PassesOwn.never rfl (pi_list (pe_lst (pa_cons pe_non (pa_cons pe_int (pa_cons pe_str (pa_cons pe_dnewK (pa_cons (pe_lst (pa_cons pe_bl pa_nil)) (pa_cons (pe_lst (pa_cons pe_int (pa_cons pe_non pa_nil))) (pa_cons (pe_tup (pa_cons (pe_lst (pa_cons pe_int pa_nil)) pa_nil)) (pa_cons (pe_lst (pa_cons pe_int (pa_cons pe_str pa_nil))) (pa_cons (pe_tup (pa_cons pe_int (pa_cons pe_bl pa_nil))) pa_nil))))))))))) (pg_name (i := 12) sc_law.nd rfl (Or.inl rfl))
        (pss_one (ps_if (pt_cmpR (neDK K hr.units) (pe_callG G_caught hg (hr.mono (by decide)) rfl T.g_law_caught T.k_law_caught pass0 (pa_cons (pv 4) (pa_cons (pv 12) pa_nil))) (pe_lst (pa_cons pe_str (pa_cons (pe_callB (reprKx K hg hr.units) (by rfl) T.b_repr (by decide +kernel) (pa_cons (pv 12) pa_nil)) pa_nil))) (nomark _)) (pss_one (ps_ret pe_bl)) pss_nil)))))))))))))
      (pss_one (ps_ret (pe_cmpR (eqDK K hr.units) (pe_propR (pv 4) T.cl T.p_steps G_steps (hr.mono (by decide)) pass0 rfl) (pe_callTy (tupleK K) (by rfl) T.b_tuple (by decide +kernel) (pa_cons (pv 3) pa_nil)) (nomark _)))))), ?_⟩
    refine ⟨_, rfl, sc, _, rfl, .inl hS, 10, _, rfl, 1, _, rfl, _, rfl, ?_⟩
    refine for_range (lo := 0) (fun i σ H' => ∃ o1 o2 o3 o4 o5 o6 o7 o8 o9 o10 o11 o12, σ = [some (.ref sc), o1, o2, o3, o4, o5, o6, o7, o8, o9, o10, o11, o12] ∧ Same H H' ∧ (i = 0 ∨ ∃ l t xs S, o3 = some (.ref l) ∧ o4 = some (.ref t) ∧ H' l = some (.lst xs) ∧ StsAt K H' xs S ∧ SqcAt K a.Sequence H' t S)) ⟨_, _, _, _, _, _, _, _, _, _, _, _, rfl, Same.refl _, .inl rfl⟩ ?_ ?_
    · rintro i σ H2 hi ⟨o1, o2, o3, o4, o5, o6, o7, o8, o9, o10, o11, o12, rfl, s2, _⟩
      have hi2 : i ≤ 1000 := by
        rw [List.length_map] at hi
        have : (if (if (ns.length : Int) < 10 then (ns.length : Int) else 10) > 1 then (if (ns.length : Int) < 10 then (ns.length : Int) else 10) else 1) ≤ 63 := by split <;> (try split) <;> omega
        omega
      refine ⟨_, rfl, _, rfl, sc, ns, (0 : Int) + i, rfl, s2.seq hS, by omega, by omega, fun p H3 s3 n3 hp => ?_⟩
      refine ⟨_, rfl, p, 12, rfl, hp, by decide, by decide, fun l xs S H4 b4 hp4 n1 hl hX lS lenS => ?_⟩
      have nlp := pool_ne hp n1
      have lx := hX.length
      refine ⟨_, rfl, l, xs, S, rfl, SqL.of hl, hX, lS.good, by omega, fun t H5 s5 nt ht => ?_⟩
      have hp5 := pool_same hp4 s5
      have s35 : Same H H5 := (but_to (s2.trans s3) (s2.free n3) b4).trans s5
      have hl5 := s5 _ _ hl
      have hX5 := sts_same hX s5
      clear hp4 hl hX hp
      try dsimp only [gName]
      refine seq_cut2 (fun σ' H' => ∃ u5 u6 u7 u8 u9 u10 u11, σ' = [some (.ref sc), some (.int (0 + (i : Int))), some (.ref p), some (.ref l), some (.ref t), u5, u6, u7, u8, u9, u10, u11, o12] ∧ But p H5 H' ∧ PoolAt H' p) (fun N cont => ?_) (fun σ H6 h6 => ?_)
      · refine ⟨_, rfl, for_range (lo := 0) (fun _ σ H' => ∃ u5 u6 u7 u8 u9 u10 u11, σ = [some (.ref sc), some (.int (0 + (i : Int))), some (.ref p), some (.ref l), some (.ref t), u5, u6, u7, u8, u9, u10, u11, o12] ∧ But p H5 H' ∧ PoolAt H' p) ⟨_, _, _, _, _, _, _, rfl, But.refl _ _, hp5⟩ ?_ ?_⟩
        · rintro j σ Hx hj ⟨u5, u6, u7, u8, u9, u10, u11, rfl, bx, hpx⟩
          -- the numbers
          try dsimp only [gName]
          refine seq_cut2 (fun σ' H' => ∃ (q : Addr) (Ns : List Int) (w5 w7 : Option V), σ' = [some (.ref sc), some (.int (0 + (i : Int))), some (.ref p), some (.ref l), some (.ref t), w5, some (.ref q), w7, u8, u9, u10, u11, o12] ∧ But p H5 H' ∧ PoolAt H' p ∧ H' q = some (.lst (Ns.map V.int)) ∧ q ≠ p ∧ Ns.length ≤ 9 ∧ ∀ x ∈ Ns, -9 ≤ x ∧ x ≤ 9) (fun N2 cont2 => ?_) (fun σ H7 h7 => ?_)
          · refine ⟨_, rfl, p, 9, rfl, hpx, by decide, by decide, fun r3 Hy r30 r31 by_ hpy => ⟨_, rfl, fun D hD => ?_⟩⟩
            have nD := pool_ne hpy hD
            refine lcE (InvN p D Hy) ⟨[], rfl, rfl, upd_same, pool_but hpy hD rfl, but_same (same_new hD), by simp⟩ (Nat.le_trans (show r3.toNat ≤ 100000 by omega) line_ge) (fun i' H' acc ⟨ns, e, hl, _⟩ => by rw [e, List.length_map]; exact hl) ?_ ?_
            · rintro i' H' acc R hi' ⟨ns', rfl, hlen, hDD, hpp, bb, hsm⟩ kk
              refine ⟨rfl, _, rfl, p, 13, rfl, hpp, by decide, by decide, fun r4 H8 r40 r41 b8 hp8 => ⟨_, _, rfl, rfl, ?_⟩⟩
              have hD8 := b8 _ _ nD hDD
              have np8 : p ≠ D := Ne.symm nD
              refine kk _ H8 hD8 ⟨ns' ++ [r4 - 4], by rw [List.map_append]; rfl, by rw [List.length_append, hlen]; rfl, upd_same, ?_, ?_, ?_⟩
              · obtain ⟨x, y, e, rest⟩ := hp8
                exact ⟨x, y, by rw [upd_ne np8]; exact e, rest⟩
              · intro b o nb e
                have hbD : b ≠ D := fun z => by rw [z, hD] at e; cases e
                rw [upd_ne hbD]
                exact b8 _ _ nb (bb _ _ nb e)
              · intro x hx
                rcases List.mem_append.mp hx with hx | hx
                · exact hsm x hx
                · rw [List.mem_singleton.mp hx]
                  omega
            · rintro H' acc ⟨ns', rfl, hlen, hDD, hpp, bb, hsm⟩
              exact cont2 _ _ ⟨D, ns', _, _, rfl, (bx.trans by_).trans bb, hpp, hDD, nD, by omega, hsm⟩
          obtain ⟨q, Ns, w5, w7, rfl, b7, hp7, hq7, nq, len7, sm7⟩ := h7
          try dsimp only [gName]
          refine seq_cut2 (fun σ' H' => ∃ (q : Addr) (Ns : List Int) (w8 : Option V), σ' = [some (.ref sc), some (.int (0 + (i : Int))), some (.ref p), some (.ref l), some (.ref t), w5, some (.ref q), w7, w8, u9, u10, u11, o12] ∧ But p H5 H' ∧ PoolAt H' p ∧ H' q = some (.lst (Ns.map V.int)) ∧ q ≠ p ∧ Ns.length ≤ 9 ∧ ∀ x ∈ Ns, x.natAbs < 2 ^ 1920) (fun N2 cont2 => ?_) (fun σ H8 h8 => ?_)
          · refine ⟨_, rfl, p, 4, rfl, hp7, by decide, by decide, fun r4 H8 r40 r41 b8 hp8 => ?_⟩
            have hq8 := b8 _ _ nq hq7
            refine ⟨rfl, _, rfl, ite2 (fun hz => ?_) (fun hz => ?_)⟩
            · refine ⟨_, rfl, q, rfl, ⟨_, SqL.of hq8⟩, fun D hD => lcM (stat_list (SqL.of hq8)) hD (fun i => .int (10 ^ (60 : Int).toNat * 10 ^ (20 : Int).toNat * Ns.getD i 0)) (Nat.le_trans (by rw [List.length_map]; omega) line_ge) ?_ ?_⟩
              · intro i' x H' R hi' sj px kk
                rw [List.getElem?_map] at px
                obtain ⟨y, hy, rfl⟩ := Option.map_eq_some_iff.mp px
                have hk := kk H' (Same.refl H')
                have e0 : Ns.getD i' 0 = y := by simp [List.getD, hy]
                rw [e0] at hk
                have hs := sm7 y (List.mem_of_getElem? hy)
                refine ⟨rfl, _, _, rfl, rfl, ⟨by decide, by decide, by decide⟩, _, _, rfl, rfl, ⟨by decide, by decide, by decide⟩, _, _, rfl, rfl, by unfold CMulW; decide +kernel, ?_⟩
                exact ⟨_, rfl, _, _, rfl, rfl, cm80 hs.1 hs.2, hk⟩
              · intro H' s' hL
                have e : (List.range (Ns.map V.int).length).map (fun i => V.int (10 ^ (60 : Int).toNat * 10 ^ (20 : Int).toNat * Ns.getD i 0)) = (Ns.map fun x => 10 ^ (60 : Int).toNat * 10 ^ (20 : Int).toNat * x).map V.int := by
                  rw [List.length_map]
                  apply List.ext_getElem
                  · simp
                  · intro i h1 h2
                    have h3 : i < Ns.length := by simpa using h1
                    simp [List.getD, h3]
                rw [e] at hL
                refine cont2 _ _ ⟨D, _, _, rfl, b7.trans (b8.trans (but_same s')), pool_same hp8 s', hL, pool_ne hp8 hD, by rw [List.length_map]; exact len7, fun x hx => ?_⟩
                obtain ⟨y, hy, rfl⟩ := List.mem_map.mp hx
                exact sm80 (sm7 y hy).1 (sm7 y hy).2
            · exact cont2 _ _ ⟨q, Ns, _, rfl, b7.trans b8, hp8, hq8, nq, len7, fun x hx => sm9 (sm7 x hx).1 (sm7 x hx).2⟩
          obtain ⟨q, Ns, w8, rfl, b8, hp8, hq8, nq, len8, sm8⟩ := h8
          clear sm7 len7 hq7 hp7 b7
          have hl8 := b8 _ _ nlp hl5
          have hX8 := sts_kt hX5 (kt_but hp5 b8)
          have ht8 := sqc_but ht hp5 b8
          have okN := okd_ints sm8 (by omega)
          -- text and due
          try dsimp only [gName]
          refine seq_cut2 (fun σ' H' => ∃ r, σ' = [some (.ref sc), some (.int (0 + (i : Int))), some (.ref p), some (.ref l), some (.ref t), w5, some (.ref q), w7, w8, some (.str (PyData.list (Ns.map PyData.int)).shown), some (.ref r), u11, o12] ∧ Same H8 H' ∧ ResAt K H' r (runR (srt Ns) 0 S)) (fun N2 cont2 => ?_) (fun σ H9 h9 => ?_)
          · refine ⟨_, rfl, _, _, rfl, rd_ints hq8, okN.pl, okN.dp, okN.sz, ?_⟩
            refine ⟨_, rfl, _, rfl, l, q, xs, S, Ns, rfl, SqL.of hl8, hX8, lS.good, SqL.of hq8, by omega, by omega, fun r H9 s9 nr hr => ⟨_, _, rfl, ?_⟩⟩
            exact cont2 _ _ ⟨r, rfl, s9, hr⟩
          obtain ⟨r, rfl, s9, hr9⟩ := h9
          have hq9 := s9 _ _ hq8
          have ht9 := ht8.same s9
          try dsimp only [gName]
          refine seq_cut (fun H' => Same H9 H') (fun N2 cont2 => ?_) (fun HA sA => ?_)
          · refine ⟨_, rfl, _, rfl, t, .ref q, S, rfl, ht9, by omega, .inl ⟨Ns, ⟨q, rfl, .inl (SqL.of hq9), by omega⟩, fun r2 H1 s1 nr2 hr2 => ?_⟩⟩
            refine ⟨_, rfl, _, _, hr2.dp, (hr9.same s1).dp, sh_res _, sh_res _, _, rfl, iteN (ne_res _) ?_⟩
            refine ⟨_, rfl, _, rfl, q, _, rfl, .inl ⟨SqL.of (s1 _ _ hq9), fun q2 hq2 => ?_⟩⟩
            have s2' := s1.trans (same_new (o := .tup (Ns.map V.int)) hq2)
            refine ⟨t, .ref q2, S, rfl, ht9.same s2', by omega, .inl ⟨Ns, ⟨q2, rfl, .inr (SqT.of upd_same), by omega⟩, fun r3 H3' s3' nr3 hr3 => ?_⟩⟩
            refine ⟨_, rfl, _, _, hr3.dp, (hr9.same (s2'.trans s3')).dp, sh_res _, sh_res _, _, rfl, iteN (ne_res _) ?_⟩
            exact cont2 _ (s2'.trans s3')
          have hqA := sA _ _ hq9
          have htA := ht9.same sA
          refine ⟨_, rfl, _, rfl, t, .ref q, S, rfl, htA, by omega, .inl ⟨Ns, ⟨q, rfl, .inl (SqL.of hqA), by omega⟩, fun r2 HB sB nr2 hr2 => ?_⟩⟩
          have b5B : But p H5 HB := b8.trans (but_same ((s9.trans sA).trans sB))
          have hpB := pool_same hp8 ((s9.trans sA).trans sB)
          have hqB := sB _ _ hqA
          have last : ∀ {Z : Prop}, Z → Z := fun z => z
          have fin : ∀ (e : runR (srt Ns) 0 S = runR (srt Ns) 0 S), True := fun _ => trivial
          generalize hrun : runR (srt Ns) 0 S = res at hr2
          cases res with
          | inl M =>
            obtain ⟨m, e1, e2⟩ := hr2
            refine ⟨_, rfl, r2, _, 0, .str "list", rfl, rfl, SqL.of e1, rfl, rfl, _, rfl, iteH (by decide) ?_⟩
            refine ⟨_, rfl, r2, _, 1, .ref m, rfl, rfl, SqL.of e1, rfl, .ref m, .ty "list", .type "list", .type "list", true, rfl, .ty _, .base (.lst e2), kit_ty, _, rfl, ?_⟩
            refine iteN rfl ?_
            refine ⟨_, rfl, _, _, rfl, rd_ints hqB, okN.pl, okN.dp, okN.sz, _, rfl, rfl, _, rfl, iteN (by simp) ?_⟩
            exact ⟨_, _, _, _, _, _, _, rfl, b5B, hpB⟩
          | inr at_ =>
            refine ⟨_, rfl, r2, _, 0, .str "failed", rfl, rfl, SqL.of hr2, rfl, rfl, _, rfl, iteN (by decide +kernel) ?_⟩
            refine iteN rfl ?_
            refine ⟨_, rfl, _, _, rfl, rd_ints hqB, okN.pl, okN.dp, okN.sz, _, rfl, rfl, _, rfl, iteN (by simp) ?_⟩
            exact ⟨_, _, _, _, _, _, _, rfl, b5B, hpB⟩
        · rintro σ Hx ⟨u5, u6, u7, u8, u9, u10, u11, rfl, bx, hpx⟩
          exact cont _ _ ⟨u5, u6, u7, u8, u9, u10, u11, rfl, bx, hpx⟩
      obtain ⟨u5, u6, u7, u8, u9, u10, u11, rfl, b6, hp6⟩ := h6
      have hl6 := b6 _ _ nlp hl5
      have hX6 := sts_kt hX5 (kt_but hp5 b6)
      have ht6 := sqc_but ht hp5 b6
      have s06 : Same H H6 := but_to s35 (s2.free n3) b6
      clear hp6 b6 hl5 hX5 ht hp5 s35
      refine ⟨by show 2 ≤ sizeLine; decide, fun q1 hq1 => ?_⟩
      have s7 := same_new (o := .lst [V.int 1, V.int 2]) hq1
      have fq := @upd_same H6 q1 (.lst [V.int 1, V.int 2])
      have hl7 := s7 _ _ hl6
      have hX7 := sts_same hX6 s7
      have ht7 := ht6.same s7
      have s07 := s06.trans s7
      try dsimp only [gName]
      generalize upd H6 q1 (.lst [V.int 1, V.int 2]) = H7 at s7 fq hl7 hX7 ht7 s07 ⊢
      refine seq_cut2 (fun σ' H' => ∃ m : Addr, σ' = [some (.ref sc), some (.int (0 + (i : Int))), some (.ref p), some (.ref l), some (.ref t), u5, some (.ref q1), u7, u8, u9, u10, some (.ref m), o12] ∧ Same H7 H' ∧ H7 m = none ∧ H' m = some (.lst [V.int 1, V.int 2])) (fun N cont => ?_) (fun σ H8 h8 => ?_)
      · refine fun x dx nx ndx ne => ?_
        refine sq_mk (xs := []) (L := []) nx ndx ne .nil (fun s hs => by cases hs) (by decide) fun H1 s1 h1 => ⟨rfl, ?_⟩
        refine ⟨x, rfl, _, rfl, h1.insA, x, .ref q1, [], rfl, h1, by decide, .inl ⟨[1, 2], ⟨q1, rfl, .inl (SqL.of (s1 _ _ fq)), by decide⟩, fun M e m H2 s2 nm hm => ?_, fun i e => by cases e⟩⟩
        have e' : srt [1, 2] = M := by
          have : (Sum.inl (srt [1, 2]) : List Int ⊕ Nat) = .inl M := e
          cases this
          rfl
        rw [← e', srt12] at hm
        exact cont _ _ ⟨m, rfl, s1.trans s2, s1.free nm, hm⟩
      obtain ⟨m, rfl, s8, nm, hm⟩ := h8
      refine ⟨_, rfl, .inl ⟨rfl, _, SqL.of hm⟩, m, _, _, rfl, rfl, hm, Nat.lt_of_lt_of_le (show 2 < 100000 by decide) line_ge, ?_⟩
      have s9 : Same H7 (upd H8 m (.lst ([V.int 1, V.int 2] ++ [V.int 9]))) := same_upd s8 nm
      have fq9 := s9 _ _ fq
      have s09 := s07.trans s9
      have hl9 := s9 _ _ hl7
      have hX9 := sts_same hX7 s9
      have ht9 := ht7.same s9
      try dsimp only [gName]
      generalize upd H8 m (.lst ([V.int 1, V.int 2] ++ [V.int 9])) = H9 at s9 fq9 s09 hl9 hX9 ht9 ⊢
      refine seq_cut (fun H' => Same H9 H') (fun N cont => ?_) (fun HA sA => ?_)
      · refine ⟨_, rfl, by show 2 ≤ sizeLine; decide, fun q2 hq2 => ?_⟩
        have s2' := same_new (o := .lst [V.int 1, V.int 2]) hq2
        refine ⟨_, _, dp_lst (L := [1, 2]) (SqL.of (s2' _ _ fq9)), dp_lst (L := [1, 2]) (SqL.of upd_same), shaped_lst _, shaped_lst _, _, rfl, iteN (by rw [eqv_lsts]; rfl) ?_⟩
        refine fun x dx nx ndx ne => ?_
        refine sq_mk (xs := []) (L := []) nx ndx ne .nil (fun s hs => by cases hs) (by decide) fun H1 s1 h1 => ⟨rfl, ?_⟩
        refine ⟨x, rfl, _, rfl, h1.insA, x, .ref q1, [], rfl, h1, by decide, .inl ⟨[1, 2], ⟨q1, rfl, .inl (SqL.of (s1 _ _ (s2' _ _ fq9))), by decide⟩, fun M e m2 H2 s3 nm2 hm2 => ?_, fun i e => by cases e⟩⟩
        have e' : srt [1, 2] = M := by
          have : (Sum.inl (srt [1, 2]) : List Int ⊕ Nat) = .inl M := e
          cases this
          rfl
        rw [← e', srt12] at hm2
        refine ⟨by show 2 ≤ sizeLine; decide, fun q3 hq3 => ?_⟩
        have s4 := same_new (o := .lst [V.int 1, V.int 2]) hq3
        refine ⟨_, _, dp_lst (L := [1, 2]) (SqL.of (s4 _ _ hm2)), dp_lst (L := [1, 2]) (SqL.of upd_same), shaped_lst _, shaped_lst _, _, rfl, iteN (by rw [eqv_lsts]; rfl) ?_⟩
        exact cont _ (((s2'.trans s1).trans s3).trans s4)
      have s0A := s09.trans sA
      have hlA := sA _ _ hl9
      have hXA := sts_same hX9 sA
      have htA := ht9.same sA
      clear hl6 hX6 ht6 s06 hl7 hX7 ht7 s07 s7 s8 s9 hl9 hX9 ht9 s09 sA
      refine fun z1 hb1 => ⟨by show 1 ≤ sizeLine; decide, fun z2 hb2 => ⟨by show 2 ≤ sizeLine; decide, fun z3 hb3 => ⟨by show 1 ≤ sizeLine; decide, fun z4 hb4 => ⟨by show 1 ≤ sizeLine; decide, fun z5 hb5 => ⟨by show 2 ≤ sizeLine; decide, fun z6 hb6 => ⟨by show 2 ≤ sizeLine; decide, fun z7 hb7 => ⟨by show 9 ≤ sizeLine; decide, fun lz hb8 => ?_⟩⟩⟩⟩⟩⟩⟩
      have eb1 := same_new (o := .dK []) hb1
      have eb2 := same_new (o := .lst [V.bl true]) hb2
      have eb3 := same_new (o := .lst [V.int 1, V.non]) hb3
      have eb4 := same_new (o := .lst [V.int 1]) hb4
      have eb5 := same_new (o := .tup [V.ref z4]) hb5
      have eb6 := same_new (o := .lst [V.int 1, V.str "2"]) hb6
      have eb7 := same_new (o := .tup [V.int 1, V.bl false]) hb7
      have eb8 := same_new (o := .lst [V.non, V.int 5, V.str "12", V.ref z1, V.ref z2, V.ref z3, V.ref z5, V.ref z6, V.ref z7]) hb8
      have fb1 := eb8 _ _ (eb7 _ _ (eb6 _ _ (eb5 _ _ (eb4 _ _ (eb3 _ _ (eb2 _ _ upd_same))))))
      have fb2 := eb8 _ _ (eb7 _ _ (eb6 _ _ (eb5 _ _ (eb4 _ _ (eb3 _ _ upd_same)))))
      have fb3 := eb8 _ _ (eb7 _ _ (eb6 _ _ (eb5 _ _ (eb4 _ _ upd_same))))
      have fb4 := eb8 _ _ (eb7 _ _ (eb6 _ _ (eb5 _ _ upd_same)))
      have fb5 := eb8 _ _ (eb7 _ _ (eb6 _ _ upd_same))
      have fb6 := eb8 _ _ (eb7 _ _ upd_same)
      have fb7 := eb8 _ _ upd_same
      have fb8 := @upd_same (upd (upd (upd (upd (upd (upd (upd HA z1 (.dK [])) z2 (.lst [V.bl true])) z3 (.lst [V.int 1, V.non])) z4 (.lst [V.int 1])) z5 (.tup [V.ref z4])) z6 (.lst [V.int 1, V.str "2"])) z7 (.tup [V.int 1, V.bl false])) lz (.lst [V.non, V.int 5, V.str "12", V.ref z1, V.ref z2, V.ref z3, V.ref z5, V.ref z6, V.ref z7])
      have sb := eb1 |>.trans eb2 |>.trans eb3 |>.trans eb4 |>.trans eb5 |>.trans eb6 |>.trans eb7 |>.trans eb8
      generalize upd (upd (upd (upd (upd (upd (upd (upd HA z1 (.dK [])) z2 (.lst [V.bl true])) z3 (.lst [V.int 1, V.non])) z4 (.lst [V.int 1])) z5 (.tup [V.ref z4])) z6 (.lst [V.int 1, V.str "2"])) z7 (.tup [V.int 1, V.bl false])) lz (.lst [V.non, V.int 5, V.str "12", V.ref z1, V.ref z2, V.ref z3, V.ref z5, V.ref z6, V.ref z7]) = HB at sb fb1 fb2 fb3 fb4 fb5 fb6 fb7 fb8 ⊢
      have od9 := odds9 (K := K) fb1 fb2 fb3 fb4 fb5 fb6 fb7
      have s0B := s0A.trans sb
      have hlB := sb _ _ hlA
      have hXB := sts_same hXA sb
      have htB := htA.same sb
      generalize [V.non, V.int 5, V.str "12", V.ref z1, V.ref z2, V.ref z3, V.ref z5, V.ref z6, V.ref z7] = ys at fb8 od9
      refine ⟨lz, rfl, ⟨_, SqL.of fb8⟩, for_list (K := K) (a := lz) (xs := ys) (fun _ σ H' => ∃ o12, σ = [some (.ref sc), some (.int (0 + (i : Int))), some (.ref p), some (.ref l), some (.ref t), u5, some (.ref q1), u7, u8, u9, u10, some (.ref m), o12] ∧ Same HB H') ⟨_, rfl, Same.refl _⟩ (fun _ σ H' _ ⟨_, _, s⟩ => s.seq (SqL.of fb8)) ?_ ?_⟩
      · rintro j y σ Hx hx ⟨o12, rfl, sx⟩
        obtain ⟨d, od0⟩ := od9 y (List.mem_of_getElem? hx)
        have od := od0.same sx
        refine ⟨_, rfl, _, rfl, t, y, S, rfl, htB.same sx, by omega, .inr ⟨d, od.bd, od.ok, od.rd, fun r H2 s2 nr hr2 => ?_⟩⟩
        refine ⟨_, rfl, _, _, rfl, (od.same s2).rd, od.pl, od.ok.dp, od.ok.sz, by show 2 ≤ sizeLine; decide, fun p2 hp2 => ?_⟩
        have s3 := same_new (o := .lst [V.str "invalid", V.str d.shown]) hp2
        refine ⟨.list [.str "invalid", .str d.shown], .list [.str "invalid", .str d.shown], .lst (SqL.of (s3 _ _ hr2)) (.cons (.str _) (.cons (.str _) .nil)), .lst (SqL.of upd_same) (.cons (.str _) (.cons (.str _) .nil)), sh_inv (ok_shown _ od.tx), sh_inv (ok_shown _ od.tx), _, rfl, iteN (ne_self (sh_inv (ok_shown _ od.tx))) ?_⟩
        exact ⟨_, rfl, (sx.trans s2).trans s3⟩
      · rintro σ Hx ⟨o12, rfl, sx⟩
        exact ⟨_, _, _, _, _, _, _, _, _, _, _, _, rfl, s0B.trans sx, .inr ⟨l, t, xs, S, rfl, rfl, sx _ _ hlB, sts_same hXB sx, htB.same sx⟩⟩

    · rintro σ H2 ⟨o1, o2, o3, o4, o5, o6, o7, o8, o9, o10, o11, o12, rfl, s2, h⟩
      have hn0 : ¬ (if (if ((ns.map V.int).length : Int) < 10 then ((ns.map V.int).length : Int) else 10) > 1 then (if ((ns.map V.int).length : Int) < 10 then ((ns.map V.int).length : Int) else 10) else 1).toNat = 0 := by
        split <;> (try split) <;> omega
      rcases h with h | ⟨l, t, xs, S, rfl, rfl, hl, hX, ht⟩
      · exact absurd h (by simpa using hn0)
      obtain ⟨dx, pp, it⟩ := ht.ins
      refine ⟨_, rfl, t, dx, _, rfl, it, t, S, rfl, ht, fun p1 ys hS1 hL1 => ?_⟩
      refine ⟨_, rfl, l, _, rfl, .inl ⟨SqL.of hl, fun q hq => ?_⟩⟩
      have sq := same_new (o := .tup xs) hq
      refine ⟨_, _, dp_stsT (same_seqT sq hS1) (sts_same hL1 sq), dp_stsT (SqT.of upd_same) (sts_same hX sq), sh_stsT _, sh_stsT _, ?_⟩
      rw [eqv_stsT, decide_eq_true rfl]
      exact k _

end
end K02
namespace K02
open PySem L2 XT
section
variable {P : Program} {w : World} {K : PySem.W.Frag} {mg : Str → Option Value} {base : Heap} {a : Ads}
theorem kit_subB {B C : Addr} (hc : (PySem.W.clsIn K C).isSome = true) (ht : PySem.W.typeIn K (.ref C) = some (.type "type")) (hs : PySem.W.subIn K (.ref B) (.ref C) = some false) (hr : PySem.W.subIn K (.ref B) (.ref B) = some true) : PySem.W.kitOne K (.ref B) (.ref C) = some false := by
  have hne : B ≠ C := fun e => by
    rw [e] at hr hs
    rw [hr] at hs
    cases hs
  simp [PySem.W.kitOne, PySem.W.kitCls, hc, ht, hs, hne]
theorem kit_self {a : Addr} : PySem.W.kitOne K (.ref a) (.ref a) = some true := by simp [PySem.W.kitOne]
theorem exm_of {D C : Addr} {b : Bool} (h1 : PySem.W.subIn K (.ref C) (.type "BaseException") = some true) (h2 : PySem.W.isClsIn K C = true) (h3 : PySem.W.typeIn K (.ref C) = some (.type "type")) (h4 : PySem.W.subIn K (.ref D) (.ref C) = some b) : PySem.W.exmOne K (.ref D) (.ref C) = some b := by
  have h2' : (PySem.W.clsIn K C).isSome = true := h2
  simp [PySem.W.exmOne, PySem.W.kitCls, h1, h2', h3, h4]
theorem all_mk {l : PySem.W.OpenLaw} {h : Heap} {fa : Addr} (X : K.In h) (G : h.Ns mainGlobals mg) (hfa : mg "law" = some (.ref fa)) {is_integer is_rank is_number_list InvalidList___init__ InvalidStep___init__ StepFailed___init__ ascending after_step Sequence___init__ Sequence_is_step Sequence_steps Sequence___len__ Sequence___eq__ Sequence___add__ Sequence___mul__ Sequence___call__ law_pool law_take law_steps law_made law_due law_caught law InvalidList RankError InvalidStep StepFailed Sequence P_steps S_is_step : Addr} {rest_steps rest_is_step : List Value}
    {nm_InvalidList q_InvalidList : Str} {N_InvalidList : Addr} {bs_InvalidList : List Value} {sn_InvalidList : List Str} {sub_InvalidList : List Value} {ab_InvalidList : Bool} {col_InvalidList : Option Bool} {dd_InvalidList : Option Addr} {e0_InvalidList e1_InvalidList e2_InvalidList e3_InvalidList e5_InvalidList : Option Value}
    {nm_InvalidStep q_InvalidStep : Str} {N_InvalidStep : Addr} {bs_InvalidStep : List Value} {sn_InvalidStep : List Str} {sub_InvalidStep : List Value} {ab_InvalidStep : Bool} {col_InvalidStep : Option Bool} {dd_InvalidStep : Option Addr} {e0_InvalidStep e1_InvalidStep e2_InvalidStep e3_InvalidStep e5_InvalidStep : Option Value}
    {nm_StepFailed q_StepFailed : Str} {N_StepFailed : Addr} {bs_StepFailed : List Value} {sn_StepFailed : List Str} {sub_StepFailed : List Value} {ab_StepFailed : Bool} {col_StepFailed : Option Bool} {dd_StepFailed : Option Addr} {e0_StepFailed e1_StepFailed e2_StepFailed e3_StepFailed e5_StepFailed : Option Value}
    {oc_is_integer kV_is_integer dc_is_integer pm_is_integer cd_is_integer ct_is_integer : Value} {od_is_integer an_is_integer : Option Addr} {sl_is_integer : Array (Option Value)}
    {oc_is_rank kV_is_rank dc_is_rank pm_is_rank cd_is_rank ct_is_rank : Value} {od_is_rank an_is_rank : Option Addr} {sl_is_rank : Array (Option Value)}
    {oc_is_number_list kV_is_number_list dc_is_number_list pm_is_number_list cd_is_number_list ct_is_number_list : Value} {od_is_number_list an_is_number_list : Option Addr} {sl_is_number_list : Array (Option Value)}
    {oc_InvalidList___init__ kV_InvalidList___init__ dc_InvalidList___init__ pm_InvalidList___init__ cd_InvalidList___init__ ct_InvalidList___init__ : Value} {od_InvalidList___init__ an_InvalidList___init__ : Option Addr} {sl_InvalidList___init__ : Array (Option Value)}
    {oc_InvalidStep___init__ kV_InvalidStep___init__ dc_InvalidStep___init__ pm_InvalidStep___init__ cd_InvalidStep___init__ ct_InvalidStep___init__ : Value} {od_InvalidStep___init__ an_InvalidStep___init__ : Option Addr} {sl_InvalidStep___init__ : Array (Option Value)}
    {oc_StepFailed___init__ kV_StepFailed___init__ dc_StepFailed___init__ pm_StepFailed___init__ cd_StepFailed___init__ ct_StepFailed___init__ : Value} {od_StepFailed___init__ an_StepFailed___init__ : Option Addr} {sl_StepFailed___init__ : Array (Option Value)}
    {oc_ascending kV_ascending dc_ascending pm_ascending cd_ascending ct_ascending : Value} {od_ascending an_ascending : Option Addr} {sl_ascending : Array (Option Value)}
    {oc_after_step kV_after_step dc_after_step pm_after_step cd_after_step ct_after_step : Value} {od_after_step an_after_step : Option Addr} {sl_after_step : Array (Option Value)}
    {oc_Sequence___init__ kV_Sequence___init__ dc_Sequence___init__ pm_Sequence___init__ cd_Sequence___init__ ct_Sequence___init__ : Value} {od_Sequence___init__ an_Sequence___init__ : Option Addr} {sl_Sequence___init__ : Array (Option Value)}
    {oc_Sequence_is_step kV_Sequence_is_step dc_Sequence_is_step pm_Sequence_is_step cd_Sequence_is_step ct_Sequence_is_step : Value} {od_Sequence_is_step an_Sequence_is_step : Option Addr} {sl_Sequence_is_step : Array (Option Value)}
    {oc_Sequence_steps kV_Sequence_steps dc_Sequence_steps pm_Sequence_steps cd_Sequence_steps ct_Sequence_steps : Value} {od_Sequence_steps an_Sequence_steps : Option Addr} {sl_Sequence_steps : Array (Option Value)}
    {oc_Sequence___len__ kV_Sequence___len__ dc_Sequence___len__ pm_Sequence___len__ cd_Sequence___len__ ct_Sequence___len__ : Value} {od_Sequence___len__ an_Sequence___len__ : Option Addr} {sl_Sequence___len__ : Array (Option Value)}
    {oc_Sequence___eq__ kV_Sequence___eq__ dc_Sequence___eq__ pm_Sequence___eq__ cd_Sequence___eq__ ct_Sequence___eq__ : Value} {od_Sequence___eq__ an_Sequence___eq__ : Option Addr} {sl_Sequence___eq__ : Array (Option Value)}
    {oc_Sequence___add__ kV_Sequence___add__ dc_Sequence___add__ pm_Sequence___add__ cd_Sequence___add__ ct_Sequence___add__ : Value} {od_Sequence___add__ an_Sequence___add__ : Option Addr} {sl_Sequence___add__ : Array (Option Value)}
    {oc_Sequence___mul__ kV_Sequence___mul__ dc_Sequence___mul__ pm_Sequence___mul__ cd_Sequence___mul__ ct_Sequence___mul__ : Value} {od_Sequence___mul__ an_Sequence___mul__ : Option Addr} {sl_Sequence___mul__ : Array (Option Value)}
    {oc_Sequence___call__ kV_Sequence___call__ dc_Sequence___call__ pm_Sequence___call__ cd_Sequence___call__ ct_Sequence___call__ : Value} {od_Sequence___call__ an_Sequence___call__ : Option Addr} {sl_Sequence___call__ : Array (Option Value)}
    {oc_law_pool kV_law_pool dc_law_pool pm_law_pool cd_law_pool ct_law_pool : Value} {od_law_pool an_law_pool : Option Addr} {sl_law_pool : Array (Option Value)}
    {oc_law_take kV_law_take dc_law_take pm_law_take cd_law_take ct_law_take : Value} {od_law_take an_law_take : Option Addr} {sl_law_take : Array (Option Value)}
    {oc_law_steps kV_law_steps dc_law_steps pm_law_steps cd_law_steps ct_law_steps : Value} {od_law_steps an_law_steps : Option Addr} {sl_law_steps : Array (Option Value)}
    {oc_law_made kV_law_made dc_law_made pm_law_made cd_law_made ct_law_made : Value} {od_law_made an_law_made : Option Addr} {sl_law_made : Array (Option Value)}
    {oc_law_due kV_law_due dc_law_due pm_law_due cd_law_due ct_law_due : Value} {od_law_due an_law_due : Option Addr} {sl_law_due : Array (Option Value)}
    {oc_law_caught kV_law_caught dc_law_caught pm_law_caught cd_law_caught ct_law_caught : Value} {od_law_caught an_law_caught : Option Addr} {sl_law_caught : Array (Option Value)}
    {oc_law kV_law dc_law pm_law cd_law ct_law : Value} {od_law an_law : Option Addr} {sl_law : Array (Option Value)}
    (a_is_integer : PySem.W.nsIn K mainGlobals "is_integer" = some (some (.ref is_integer)))
    (a_is_rank : PySem.W.nsIn K mainGlobals "is_rank" = some (some (.ref is_rank)))
    (a_is_number_list : PySem.W.nsIn K mainGlobals "is_number_list" = some (some (.ref is_number_list)))
    (a_ascending : PySem.W.nsIn K mainGlobals "ascending" = some (some (.ref ascending)))
    (a_after_step : PySem.W.nsIn K mainGlobals "after_step" = some (some (.ref after_step)))
    (a_law_pool : PySem.W.nsIn K mainGlobals "_law_pool" = some (some (.ref law_pool)))
    (a_law_take : PySem.W.nsIn K mainGlobals "_law_take" = some (some (.ref law_take)))
    (a_law_steps : PySem.W.nsIn K mainGlobals "_law_steps" = some (some (.ref law_steps)))
    (a_law_made : PySem.W.nsIn K mainGlobals "_law_made" = some (some (.ref law_made)))
    (a_law_due : PySem.W.nsIn K mainGlobals "_law_due" = some (some (.ref law_due)))
    (a_law_caught : PySem.W.nsIn K mainGlobals "_law_caught" = some (some (.ref law_caught)))
    (a_law : PySem.W.nsIn K mainGlobals "law" = some (some (.ref law)))
    (a_InvalidList : PySem.W.nsIn K mainGlobals "InvalidList" = some (some (.ref InvalidList)))
    (a_RankError : PySem.W.nsIn K mainGlobals "RankError" = some (some (.ref RankError)))
    (a_InvalidStep : PySem.W.nsIn K mainGlobals "InvalidStep" = some (some (.ref InvalidStep)))
    (a_StepFailed : PySem.W.nsIn K mainGlobals "StepFailed" = some (some (.ref StepFailed)))
    (a_Sequence : PySem.W.nsIn K mainGlobals "Sequence" = some (some (.ref Sequence)))
    (at_Sequence___init__ : PySem.W.findIn K (.ref Sequence) "__init__" = some (some (.ref Sequence___init__)))
    (f_Sequence___init__ : PySem.W.isFn K (.ref Sequence___init__) = true)
    (at_Sequence___len__ : PySem.W.findIn K (.ref Sequence) "__len__" = some (some (.ref Sequence___len__)))
    (f_Sequence___len__ : PySem.W.isFn K (.ref Sequence___len__) = true)
    (at_Sequence___eq__ : PySem.W.findIn K (.ref Sequence) "__eq__" = some (some (.ref Sequence___eq__)))
    (f_Sequence___eq__ : PySem.W.isFn K (.ref Sequence___eq__) = true)
    (at_Sequence___add__ : PySem.W.findIn K (.ref Sequence) "__add__" = some (some (.ref Sequence___add__)))
    (f_Sequence___add__ : PySem.W.isFn K (.ref Sequence___add__) = true)
    (at_Sequence___mul__ : PySem.W.findIn K (.ref Sequence) "__mul__" = some (some (.ref Sequence___mul__)))
    (f_Sequence___mul__ : PySem.W.isFn K (.ref Sequence___mul__) = true)
    (at_Sequence___call__ : PySem.W.findIn K (.ref Sequence) "__call__" = some (some (.ref Sequence___call__)))
    (f_Sequence___call__ : PySem.W.isFn K (.ref Sequence___call__) = true)
    (at_steps : PySem.W.findIn K (.ref Sequence) "steps" = some (some (.ref P_steps)))
    (rec_steps : PySem.W.recIn K P_steps "property" = some (.ref Sequence_steps :: rest_steps))
    (get_steps : PySem.W.specialIn K (.ref P_steps) "__get__" = some (some (.builtin "property.__get__")))
    (tak_steps : PySem.W.takesIn K (.ref P_steps) = some true)
    (z_type : PySem.W.nsIn K mainGlobals "type" = some none)
    (z_int : PySem.W.nsIn K mainGlobals "int" = some none)
    (z_list : PySem.W.nsIn K mainGlobals "list" = some none)
    (z_tuple : PySem.W.nsIn K mainGlobals "tuple" = some none)
    (z_str : PySem.W.nsIn K mainGlobals "str" = some none)
    (z_len : PySem.W.nsIn K mainGlobals "len" = some none)
    (z_isinstance : PySem.W.nsIn K mainGlobals "isinstance" = some none)
    (z_abs : PySem.W.nsIn K mainGlobals "abs" = some none)
    (z_max : PySem.W.nsIn K mainGlobals "max" = some none)
    (z_min : PySem.W.nsIn K mainGlobals "min" = some none)
    (z_range : PySem.W.nsIn K mainGlobals "range" = some none)
    (z_repr : PySem.W.nsIn K mainGlobals "repr" = some none)
    (z_all : PySem.W.nsIn K mainGlobals "all" = some none)
    (z_sorted : PySem.W.nsIn K mainGlobals "sorted" = some none)
    (z_enumerate : PySem.W.nsIn K mainGlobals "enumerate" = some none)
    (xl_InvalidList : K.lookup InvalidList = some (excClassObj nm_InvalidList q_InvalidList InvalidList N_InvalidList bs_InvalidList [.ref RankError, .type "ValueError", .type "Exception", .type "BaseException", .type "object"] true sn_InvalidList sub_InvalidList ab_InvalidList col_InvalidList dd_InvalidList e0_InvalidList e1_InvalidList e2_InvalidList e3_InvalidList e5_InvalidList "ValueError.__new__"))
    (sa_InvalidList : PySem.W.findIn K (.ref InvalidList) "__setattr__" = some (some (.builtin "object.__setattr__")))
    (ex_InvalidList : PySem.W.subIn K (.ref InvalidList) (.type "BaseException") = some true)
    (ty_InvalidList : PySem.W.typeIn K (.ref InvalidList) = some (.type "type"))
    (kc_InvalidList : PySem.W.keepIn K (.ref InvalidList) = true)
    (in_InvalidList : PySem.W.findIn K (.ref InvalidList) "__init__" = some (some (.ref InvalidList___init__)))
    (ti_InvalidList : PySem.W.typeIn K (.ref InvalidList___init__) = some (.type "function"))
    (no_InvalidList : PySem.W.findIn K (.ref InvalidList) "value" = some none)
    (ga_InvalidList : PySem.W.findIn K (.ref InvalidList) "__getattribute__" = some (some (.builtin "BaseException.__getattribute__")))
    (gg_InvalidList : PySem.W.findIn K (.ref InvalidList) "__getattr__" = some none)
    (hd_InvalidList : PySem.W.hasDictIn K InvalidList = true)
    (ha_InvalidList : PySem.W.findIn K (.ref InvalidList) "__class__" = some (some (.builtin "object.__class__")))
    (hm_InvalidList : PySem.W.mroIn K InvalidList (.type "object") = some true)
    (ic_InvalidList : PySem.W.isClsIn K InvalidList = true)
    (xl_InvalidStep : K.lookup InvalidStep = some (excClassObj nm_InvalidStep q_InvalidStep InvalidStep N_InvalidStep bs_InvalidStep [.ref RankError, .type "ValueError", .type "Exception", .type "BaseException", .type "object"] true sn_InvalidStep sub_InvalidStep ab_InvalidStep col_InvalidStep dd_InvalidStep e0_InvalidStep e1_InvalidStep e2_InvalidStep e3_InvalidStep e5_InvalidStep "ValueError.__new__"))
    (sa_InvalidStep : PySem.W.findIn K (.ref InvalidStep) "__setattr__" = some (some (.builtin "object.__setattr__")))
    (ex_InvalidStep : PySem.W.subIn K (.ref InvalidStep) (.type "BaseException") = some true)
    (ty_InvalidStep : PySem.W.typeIn K (.ref InvalidStep) = some (.type "type"))
    (kc_InvalidStep : PySem.W.keepIn K (.ref InvalidStep) = true)
    (in_InvalidStep : PySem.W.findIn K (.ref InvalidStep) "__init__" = some (some (.ref InvalidStep___init__)))
    (ti_InvalidStep : PySem.W.typeIn K (.ref InvalidStep___init__) = some (.type "function"))
    (no_InvalidStep : PySem.W.findIn K (.ref InvalidStep) "value" = some none)
    (ga_InvalidStep : PySem.W.findIn K (.ref InvalidStep) "__getattribute__" = some (some (.builtin "BaseException.__getattribute__")))
    (gg_InvalidStep : PySem.W.findIn K (.ref InvalidStep) "__getattr__" = some none)
    (hd_InvalidStep : PySem.W.hasDictIn K InvalidStep = true)
    (ha_InvalidStep : PySem.W.findIn K (.ref InvalidStep) "__class__" = some (some (.builtin "object.__class__")))
    (hm_InvalidStep : PySem.W.mroIn K InvalidStep (.type "object") = some true)
    (ic_InvalidStep : PySem.W.isClsIn K InvalidStep = true)
    (xl_StepFailed : K.lookup StepFailed = some (excClassObj nm_StepFailed q_StepFailed StepFailed N_StepFailed bs_StepFailed [.type "RuntimeError", .type "Exception", .type "BaseException", .type "object"] true sn_StepFailed sub_StepFailed ab_StepFailed col_StepFailed dd_StepFailed e0_StepFailed e1_StepFailed e2_StepFailed e3_StepFailed e5_StepFailed "RuntimeError.__new__"))
    (sa_StepFailed : PySem.W.findIn K (.ref StepFailed) "__setattr__" = some (some (.builtin "object.__setattr__")))
    (ex_StepFailed : PySem.W.subIn K (.ref StepFailed) (.type "BaseException") = some true)
    (ty_StepFailed : PySem.W.typeIn K (.ref StepFailed) = some (.type "type"))
    (kc_StepFailed : PySem.W.keepIn K (.ref StepFailed) = true)
    (in_StepFailed : PySem.W.findIn K (.ref StepFailed) "__init__" = some (some (.ref StepFailed___init__)))
    (ti_StepFailed : PySem.W.typeIn K (.ref StepFailed___init__) = some (.type "function"))
    (no_StepFailed : PySem.W.findIn K (.ref StepFailed) "index" = some none)
    (ga_StepFailed : PySem.W.findIn K (.ref StepFailed) "__getattribute__" = some (some (.builtin "BaseException.__getattribute__")))
    (gg_StepFailed : PySem.W.findIn K (.ref StepFailed) "__getattr__" = some none)
    (hd_StepFailed : PySem.W.hasDictIn K StepFailed = true)
    (ha_StepFailed : PySem.W.findIn K (.ref StepFailed) "__class__" = some (some (.builtin "object.__class__")))
    (hm_StepFailed : PySem.W.mroIn K StepFailed (.type "object") = some true)
    (ic_StepFailed : PySem.W.isClsIn K StepFailed = true)
    (at_is_step : PySem.W.findIn K (.ref Sequence) "is_step" = some (some (.ref S_is_step)))
    (rec_is_step : PySem.W.recIn K S_is_step "staticmethod" = some (.ref Sequence_is_step :: rest_is_step))
    (sty_is_step : PySem.W.typeIn K (.ref S_is_step) = some (.type "staticmethod"))
    (get_is_step : PySem.W.specialIn K (.ref S_is_step) "__get__" = some (some (.builtin "staticmethod.__get__")))
    (tak_is_step : PySem.W.takesIn K (.ref S_is_step) = some false)
    (cls_is_step : PySem.W.findCls K (.ref Sequence) (.type "type") "is_step" = some (.get (.builtin "staticmethod.__get__") (.ref S_is_step) .none (.ref Sequence)))
    (rds_Sequence : PySem.W.readsIn K Sequence (.type "type") = true)
    (rga_Sequence : PySem.W.specialIn K (.ref Sequence) "__getattribute__" = some (some (.builtin "type.__getattribute__")))
    (l_is_integer : K.lookup is_integer = some ⟨oc_is_integer, od_is_integer, .func (PySem.W.fnOf "is_integer" "is_integer" (defArgs s_is_integer) (defBody s_is_integer) (defScope s_is_integer) .none kV_is_integer dc_is_integer pm_is_integer an_is_integer cd_is_integer ct_is_integer), sl_is_integer⟩)
    (c_is_integer : PySem.W.codeIn K cd_is_integer "is_integer" = true)
    (k_is_integer : PySem.W.keepIn K (.ref is_integer) = true)
    (l_is_rank : K.lookup is_rank = some ⟨oc_is_rank, od_is_rank, .func (PySem.W.fnOf "is_rank" "is_rank" (defArgs s_is_rank) (defBody s_is_rank) (defScope s_is_rank) .none kV_is_rank dc_is_rank pm_is_rank an_is_rank cd_is_rank ct_is_rank), sl_is_rank⟩)
    (c_is_rank : PySem.W.codeIn K cd_is_rank "is_rank" = true)
    (k_is_rank : PySem.W.keepIn K (.ref is_rank) = true)
    (l_is_number_list : K.lookup is_number_list = some ⟨oc_is_number_list, od_is_number_list, .func (PySem.W.fnOf "is_number_list" "is_number_list" (defArgs s_is_number_list) (defBody s_is_number_list) (defScope s_is_number_list) .none kV_is_number_list dc_is_number_list pm_is_number_list an_is_number_list cd_is_number_list ct_is_number_list), sl_is_number_list⟩)
    (c_is_number_list : PySem.W.codeIn K cd_is_number_list "is_number_list" = true)
    (k_is_number_list : PySem.W.keepIn K (.ref is_number_list) = true)
    (l_InvalidList___init__ : K.lookup InvalidList___init__ = some ⟨oc_InvalidList___init__, od_InvalidList___init__, .func (PySem.W.fnOf "__init__" "InvalidList.__init__" (defArgs s_InvalidList___init__) (defBody s_InvalidList___init__) (defScope s_InvalidList___init__) .none kV_InvalidList___init__ dc_InvalidList___init__ pm_InvalidList___init__ an_InvalidList___init__ cd_InvalidList___init__ ct_InvalidList___init__), sl_InvalidList___init__⟩)
    (c_InvalidList___init__ : PySem.W.codeIn K cd_InvalidList___init__ "InvalidList.__init__" = true)
    (k_InvalidList___init__ : PySem.W.keepIn K (.ref InvalidList___init__) = true)
    (l_InvalidStep___init__ : K.lookup InvalidStep___init__ = some ⟨oc_InvalidStep___init__, od_InvalidStep___init__, .func (PySem.W.fnOf "__init__" "InvalidStep.__init__" (defArgs s_InvalidStep___init__) (defBody s_InvalidStep___init__) (defScope s_InvalidStep___init__) .none kV_InvalidStep___init__ dc_InvalidStep___init__ pm_InvalidStep___init__ an_InvalidStep___init__ cd_InvalidStep___init__ ct_InvalidStep___init__), sl_InvalidStep___init__⟩)
    (c_InvalidStep___init__ : PySem.W.codeIn K cd_InvalidStep___init__ "InvalidStep.__init__" = true)
    (k_InvalidStep___init__ : PySem.W.keepIn K (.ref InvalidStep___init__) = true)
    (l_StepFailed___init__ : K.lookup StepFailed___init__ = some ⟨oc_StepFailed___init__, od_StepFailed___init__, .func (PySem.W.fnOf "__init__" "StepFailed.__init__" (defArgs s_StepFailed___init__) (defBody s_StepFailed___init__) (defScope s_StepFailed___init__) .none kV_StepFailed___init__ dc_StepFailed___init__ pm_StepFailed___init__ an_StepFailed___init__ cd_StepFailed___init__ ct_StepFailed___init__), sl_StepFailed___init__⟩)
    (c_StepFailed___init__ : PySem.W.codeIn K cd_StepFailed___init__ "StepFailed.__init__" = true)
    (k_StepFailed___init__ : PySem.W.keepIn K (.ref StepFailed___init__) = true)
    (l_ascending : K.lookup ascending = some ⟨oc_ascending, od_ascending, .func (PySem.W.fnOf "ascending" "ascending" (defArgs s_ascending) (defBody s_ascending) (defScope s_ascending) .none kV_ascending dc_ascending pm_ascending an_ascending cd_ascending ct_ascending), sl_ascending⟩)
    (c_ascending : PySem.W.codeIn K cd_ascending "ascending" = true)
    (k_ascending : PySem.W.keepIn K (.ref ascending) = true)
    (l_after_step : K.lookup after_step = some ⟨oc_after_step, od_after_step, .func (PySem.W.fnOf "after_step" "after_step" (defArgs s_after_step) (defBody s_after_step) (defScope s_after_step) .none kV_after_step dc_after_step pm_after_step an_after_step cd_after_step ct_after_step), sl_after_step⟩)
    (c_after_step : PySem.W.codeIn K cd_after_step "after_step" = true)
    (k_after_step : PySem.W.keepIn K (.ref after_step) = true)
    (l_Sequence___init__ : K.lookup Sequence___init__ = some ⟨oc_Sequence___init__, od_Sequence___init__, .func (PySem.W.fnOf "__init__" "Sequence.__init__" (defArgs s_Sequence___init__) (defBody s_Sequence___init__) (defScope s_Sequence___init__) .none kV_Sequence___init__ dc_Sequence___init__ pm_Sequence___init__ an_Sequence___init__ cd_Sequence___init__ ct_Sequence___init__), sl_Sequence___init__⟩)
    (c_Sequence___init__ : PySem.W.codeIn K cd_Sequence___init__ "Sequence.__init__" = true)
    (k_Sequence___init__ : PySem.W.keepIn K (.ref Sequence___init__) = true)
    (l_Sequence_is_step : K.lookup Sequence_is_step = some ⟨oc_Sequence_is_step, od_Sequence_is_step, .func (PySem.W.fnOf "is_step" "Sequence.is_step" (defArgs s_Sequence_is_step) (defBody s_Sequence_is_step) (defScope s_Sequence_is_step) .none kV_Sequence_is_step dc_Sequence_is_step pm_Sequence_is_step an_Sequence_is_step cd_Sequence_is_step ct_Sequence_is_step), sl_Sequence_is_step⟩)
    (c_Sequence_is_step : PySem.W.codeIn K cd_Sequence_is_step "Sequence.is_step" = true)
    (k_Sequence_is_step : PySem.W.keepIn K (.ref Sequence_is_step) = true)
    (l_Sequence_steps : K.lookup Sequence_steps = some ⟨oc_Sequence_steps, od_Sequence_steps, .func (PySem.W.fnOf "steps" "Sequence.steps" (defArgs s_Sequence_steps) (defBody s_Sequence_steps) (defScope s_Sequence_steps) .none kV_Sequence_steps dc_Sequence_steps pm_Sequence_steps an_Sequence_steps cd_Sequence_steps ct_Sequence_steps), sl_Sequence_steps⟩)
    (c_Sequence_steps : PySem.W.codeIn K cd_Sequence_steps "Sequence.steps" = true)
    (k_Sequence_steps : PySem.W.keepIn K (.ref Sequence_steps) = true)
    (l_Sequence___len__ : K.lookup Sequence___len__ = some ⟨oc_Sequence___len__, od_Sequence___len__, .func (PySem.W.fnOf "__len__" "Sequence.__len__" (defArgs s_Sequence___len__) (defBody s_Sequence___len__) (defScope s_Sequence___len__) .none kV_Sequence___len__ dc_Sequence___len__ pm_Sequence___len__ an_Sequence___len__ cd_Sequence___len__ ct_Sequence___len__), sl_Sequence___len__⟩)
    (c_Sequence___len__ : PySem.W.codeIn K cd_Sequence___len__ "Sequence.__len__" = true)
    (k_Sequence___len__ : PySem.W.keepIn K (.ref Sequence___len__) = true)
    (l_Sequence___eq__ : K.lookup Sequence___eq__ = some ⟨oc_Sequence___eq__, od_Sequence___eq__, .func (PySem.W.fnOf "__eq__" "Sequence.__eq__" (defArgs s_Sequence___eq__) (defBody s_Sequence___eq__) (defScope s_Sequence___eq__) .none kV_Sequence___eq__ dc_Sequence___eq__ pm_Sequence___eq__ an_Sequence___eq__ cd_Sequence___eq__ ct_Sequence___eq__), sl_Sequence___eq__⟩)
    (c_Sequence___eq__ : PySem.W.codeIn K cd_Sequence___eq__ "Sequence.__eq__" = true)
    (k_Sequence___eq__ : PySem.W.keepIn K (.ref Sequence___eq__) = true)
    (l_Sequence___add__ : K.lookup Sequence___add__ = some ⟨oc_Sequence___add__, od_Sequence___add__, .func (PySem.W.fnOf "__add__" "Sequence.__add__" (defArgs s_Sequence___add__) (defBody s_Sequence___add__) (defScope s_Sequence___add__) .none kV_Sequence___add__ dc_Sequence___add__ pm_Sequence___add__ an_Sequence___add__ cd_Sequence___add__ ct_Sequence___add__), sl_Sequence___add__⟩)
    (c_Sequence___add__ : PySem.W.codeIn K cd_Sequence___add__ "Sequence.__add__" = true)
    (k_Sequence___add__ : PySem.W.keepIn K (.ref Sequence___add__) = true)
    (l_Sequence___mul__ : K.lookup Sequence___mul__ = some ⟨oc_Sequence___mul__, od_Sequence___mul__, .func (PySem.W.fnOf "__mul__" "Sequence.__mul__" (defArgs s_Sequence___mul__) (defBody s_Sequence___mul__) (defScope s_Sequence___mul__) .none kV_Sequence___mul__ dc_Sequence___mul__ pm_Sequence___mul__ an_Sequence___mul__ cd_Sequence___mul__ ct_Sequence___mul__), sl_Sequence___mul__⟩)
    (c_Sequence___mul__ : PySem.W.codeIn K cd_Sequence___mul__ "Sequence.__mul__" = true)
    (k_Sequence___mul__ : PySem.W.keepIn K (.ref Sequence___mul__) = true)
    (l_Sequence___call__ : K.lookup Sequence___call__ = some ⟨oc_Sequence___call__, od_Sequence___call__, .func (PySem.W.fnOf "__call__" "Sequence.__call__" (defArgs s_Sequence___call__) (defBody s_Sequence___call__) (defScope s_Sequence___call__) .none kV_Sequence___call__ dc_Sequence___call__ pm_Sequence___call__ an_Sequence___call__ cd_Sequence___call__ ct_Sequence___call__), sl_Sequence___call__⟩)
    (c_Sequence___call__ : PySem.W.codeIn K cd_Sequence___call__ "Sequence.__call__" = true)
    (k_Sequence___call__ : PySem.W.keepIn K (.ref Sequence___call__) = true)
    (l_law_pool : K.lookup law_pool = some ⟨oc_law_pool, od_law_pool, .func (PySem.W.fnOf "_law_pool" "_law_pool" (defArgs s_law_pool) (defBody s_law_pool) (defScope s_law_pool) .none kV_law_pool dc_law_pool pm_law_pool an_law_pool cd_law_pool ct_law_pool), sl_law_pool⟩)
    (c_law_pool : PySem.W.codeIn K cd_law_pool "_law_pool" = true)
    (k_law_pool : PySem.W.keepIn K (.ref law_pool) = true)
    (l_law_take : K.lookup law_take = some ⟨oc_law_take, od_law_take, .func (PySem.W.fnOf "_law_take" "_law_take" (defArgs s_law_take) (defBody s_law_take) (defScope s_law_take) .none kV_law_take dc_law_take pm_law_take an_law_take cd_law_take ct_law_take), sl_law_take⟩)
    (c_law_take : PySem.W.codeIn K cd_law_take "_law_take" = true)
    (k_law_take : PySem.W.keepIn K (.ref law_take) = true)
    (l_law_steps : K.lookup law_steps = some ⟨oc_law_steps, od_law_steps, .func (PySem.W.fnOf "_law_steps" "_law_steps" (defArgs s_law_steps) (defBody s_law_steps) (defScope s_law_steps) .none kV_law_steps dc_law_steps pm_law_steps an_law_steps cd_law_steps ct_law_steps), sl_law_steps⟩)
    (c_law_steps : PySem.W.codeIn K cd_law_steps "_law_steps" = true)
    (k_law_steps : PySem.W.keepIn K (.ref law_steps) = true)
    (l_law_made : K.lookup law_made = some ⟨oc_law_made, od_law_made, .func (PySem.W.fnOf "_law_made" "_law_made" (defArgs s_law_made) (defBody s_law_made) (defScope s_law_made) .none kV_law_made dc_law_made pm_law_made an_law_made cd_law_made ct_law_made), sl_law_made⟩)
    (c_law_made : PySem.W.codeIn K cd_law_made "_law_made" = true)
    (k_law_made : PySem.W.keepIn K (.ref law_made) = true)
    (l_law_due : K.lookup law_due = some ⟨oc_law_due, od_law_due, .func (PySem.W.fnOf "_law_due" "_law_due" (defArgs s_law_due) (defBody s_law_due) (defScope s_law_due) .none kV_law_due dc_law_due pm_law_due an_law_due cd_law_due ct_law_due), sl_law_due⟩)
    (c_law_due : PySem.W.codeIn K cd_law_due "_law_due" = true)
    (k_law_due : PySem.W.keepIn K (.ref law_due) = true)
    (l_law_caught : K.lookup law_caught = some ⟨oc_law_caught, od_law_caught, .func (PySem.W.fnOf "_law_caught" "_law_caught" (defArgs s_law_caught) (defBody s_law_caught) (defScope s_law_caught) .none kV_law_caught dc_law_caught pm_law_caught an_law_caught cd_law_caught ct_law_caught), sl_law_caught⟩)
    (c_law_caught : PySem.W.codeIn K cd_law_caught "_law_caught" = true)
    (k_law_caught : PySem.W.keepIn K (.ref law_caught) = true)
    (l_law : K.lookup law = some ⟨oc_law, od_law, .func (PySem.W.fnOf "law" "law" (defArgs s_law) (defBody s_law) (defScope s_law) .none kV_law dc_law pm_law an_law cd_law ct_law), sl_law⟩)
    (c_law : PySem.W.codeIn K cd_law "law" = true)
    (k_law : PySem.W.keepIn K (.ref law) = true)
    (hn : PySem.W.specialIn K (.builtin "object.__class__") "__get__" = some (some (.builtin "getset_descriptor.__get__")))
    (htk : PySem.W.takesIn K (.builtin "object.__class__") = some true)
    (pg_Sequence : PySem.W.plainGet K Sequence Str.empty = true)
    (hd_Sequence : PySem.W.hasDictIn K Sequence = true)
    (po_Sequence : PySem.W.plainOver K Sequence = true)
    (sa_Sequence : PySem.W.findIn K (.ref Sequence) "__setattr__" = some (some (.builtin "object.__setattr__")))
    (mkI_Sequence : PySem.W.makesIn K Sequence = true)
    (kc_Sequence : PySem.W.keepIn K (.ref Sequence) = true)
    (ha_Sequence : PySem.W.findIn K (.ref Sequence) "__class__" = some (some (.builtin "object.__class__")))
    (hm_Sequence : PySem.W.mroIn K Sequence (.type "object") = some true)
    (ic_Sequence : PySem.W.isClsIn K Sequence = true)
    (ty_Sequence : PySem.W.typeIn K (.ref Sequence) = some (.type "type"))
    (n_steps_Sequence : PySem.W.findIn K (.ref Sequence) "_steps" = some none)
    (neA : PySem.W.findIn K (.ref Sequence) "__ne__" = some (some (.builtin "object.__ne__")))
    (sub : PySem.W.subIn K (.ref Sequence) (.type "object") = some true)
    (sf : PySem.W.selfFirst K Sequence = true)
    (rmul : PySem.W.findIn K (.ref Sequence) "__rmul__" = some none)
    (si : PySem.W.subIn K (.type "int") (.ref Sequence) = some false)
    (fi : PySem.W.fnIn K Sequence___call__ = true)
    (s_LL : PySem.W.subIn K (.ref InvalidList) (.ref InvalidList) = some true)
    (s_SL : PySem.W.subIn K (.ref StepFailed) (.ref InvalidList) = some false)
    (s_SS : PySem.W.subIn K (.ref StepFailed) (.ref StepFailed) = some true)
    (s_SR : PySem.W.subIn K (.ref StepFailed) (.ref RankError) = some false)
    (ic_R : PySem.W.isClsIn K RankError = true)
    (ty_R : PySem.W.typeIn K (.ref RankError) = some (.type "type")) :
    ∀ base : Heap, K.In base → base.Ns mainGlobals mg → FnG l.prog w K mg base CX0 12 fa (spLaw K) := by
  have e := hfa.symm.trans (PySem.W.mg_of X G a_law)
  cases e
  have T : Txt K mg { is_integer := is_integer, is_rank := is_rank, is_number_list := is_number_list, InvalidList___init__ := InvalidList___init__, InvalidStep___init__ := InvalidStep___init__, StepFailed___init__ := StepFailed___init__, ascending := ascending, after_step := after_step, Sequence___init__ := Sequence___init__, Sequence_is_step := Sequence_is_step, Sequence_steps := Sequence_steps, Sequence___len__ := Sequence___len__, Sequence___eq__ := Sequence___eq__, Sequence___add__ := Sequence___add__, Sequence___mul__ := Sequence___mul__, Sequence___call__ := Sequence___call__, law_pool := law_pool, law_take := law_take, law_steps := law_steps, law_made := law_made, law_due := law_due, law_caught := law_caught, law := fa, InvalidList := InvalidList, RankError := RankError, InvalidStep := InvalidStep, StepFailed := StepFailed, Sequence := Sequence, P_steps := P_steps, S_is_step := S_is_step } :=
    { g_is_integer := PySem.W.mg_of X G a_is_integer,
      k_is_integer := k_is_integer,
      F_is_integer := ⟨_, fun_mk (st := s_is_integer) l_is_integer c_is_integer k_is_integer⟩,
      g_is_rank := PySem.W.mg_of X G a_is_rank,
      k_is_rank := k_is_rank,
      F_is_rank := ⟨_, fun_mk (st := s_is_rank) l_is_rank c_is_rank k_is_rank⟩,
      g_is_number_list := PySem.W.mg_of X G a_is_number_list,
      k_is_number_list := k_is_number_list,
      F_is_number_list := ⟨_, fun_mk (st := s_is_number_list) l_is_number_list c_is_number_list k_is_number_list⟩,
      F_InvalidList___init__ := ⟨_, fun_mk (st := s_InvalidList___init__) l_InvalidList___init__ c_InvalidList___init__ k_InvalidList___init__⟩,
      F_InvalidStep___init__ := ⟨_, fun_mk (st := s_InvalidStep___init__) l_InvalidStep___init__ c_InvalidStep___init__ k_InvalidStep___init__⟩,
      F_StepFailed___init__ := ⟨_, fun_mk (st := s_StepFailed___init__) l_StepFailed___init__ c_StepFailed___init__ k_StepFailed___init__⟩,
      g_ascending := PySem.W.mg_of X G a_ascending,
      k_ascending := k_ascending,
      F_ascending := ⟨_, fun_mk (st := s_ascending) l_ascending c_ascending k_ascending⟩,
      g_after_step := PySem.W.mg_of X G a_after_step,
      k_after_step := k_after_step,
      F_after_step := ⟨_, fun_mk (st := s_after_step) l_after_step c_after_step k_after_step⟩,
      F_Sequence___init__ := ⟨_, fun_mk (st := s_Sequence___init__) l_Sequence___init__ c_Sequence___init__ k_Sequence___init__⟩,
      F_Sequence_is_step := ⟨_, fun_mk (st := s_Sequence_is_step) l_Sequence_is_step c_Sequence_is_step k_Sequence_is_step⟩,
      F_Sequence_steps := ⟨_, fun_mk (st := s_Sequence_steps) l_Sequence_steps c_Sequence_steps k_Sequence_steps⟩,
      F_Sequence___len__ := ⟨_, fun_mk (st := s_Sequence___len__) l_Sequence___len__ c_Sequence___len__ k_Sequence___len__⟩,
      F_Sequence___eq__ := ⟨_, fun_mk (st := s_Sequence___eq__) l_Sequence___eq__ c_Sequence___eq__ k_Sequence___eq__⟩,
      F_Sequence___add__ := ⟨_, fun_mk (st := s_Sequence___add__) l_Sequence___add__ c_Sequence___add__ k_Sequence___add__⟩,
      F_Sequence___mul__ := ⟨_, fun_mk (st := s_Sequence___mul__) l_Sequence___mul__ c_Sequence___mul__ k_Sequence___mul__⟩,
      F_Sequence___call__ := ⟨_, fun_mk (st := s_Sequence___call__) l_Sequence___call__ c_Sequence___call__ k_Sequence___call__⟩,
      g_law_pool := PySem.W.mg_of X G a_law_pool,
      k_law_pool := k_law_pool,
      F_law_pool := ⟨_, fun_mk (st := s_law_pool) l_law_pool c_law_pool k_law_pool⟩,
      g_law_take := PySem.W.mg_of X G a_law_take,
      k_law_take := k_law_take,
      F_law_take := ⟨_, fun_mk (st := s_law_take) l_law_take c_law_take k_law_take⟩,
      g_law_steps := PySem.W.mg_of X G a_law_steps,
      k_law_steps := k_law_steps,
      F_law_steps := ⟨_, fun_mk (st := s_law_steps) l_law_steps c_law_steps k_law_steps⟩,
      g_law_made := PySem.W.mg_of X G a_law_made,
      k_law_made := k_law_made,
      F_law_made := ⟨_, fun_mk (st := s_law_made) l_law_made c_law_made k_law_made⟩,
      g_law_due := PySem.W.mg_of X G a_law_due,
      k_law_due := k_law_due,
      F_law_due := ⟨_, fun_mk (st := s_law_due) l_law_due c_law_due k_law_due⟩,
      g_law_caught := PySem.W.mg_of X G a_law_caught,
      k_law_caught := k_law_caught,
      F_law_caught := ⟨_, fun_mk (st := s_law_caught) l_law_caught c_law_caught k_law_caught⟩,
      g_law := PySem.W.mg_of X G a_law,
      k_law := k_law,
      F_law := ⟨_, fun_mk (st := s_law) l_law c_law k_law⟩,
      g_InvalidList := PySem.W.mg_of X G a_InvalidList,
      g_RankError := PySem.W.mg_of X G a_RankError,
      g_InvalidStep := PySem.W.mg_of X G a_InvalidStep,
      g_StepFailed := PySem.W.mg_of X G a_StepFailed,
      g_Sequence := PySem.W.mg_of X G a_Sequence,
      p_steps := ⟨at_steps, get_steps, tak_steps, ⟨_, rec_steps⟩⟩,
      b_type := PySem.W.mg_none_of X G z_type,
      b_int := PySem.W.mg_none_of X G z_int,
      b_list := PySem.W.mg_none_of X G z_list,
      b_tuple := PySem.W.mg_none_of X G z_tuple,
      b_str := PySem.W.mg_none_of X G z_str,
      b_len := PySem.W.mg_none_of X G z_len,
      b_isinstance := PySem.W.mg_none_of X G z_isinstance,
      b_abs := PySem.W.mg_none_of X G z_abs,
      b_max := PySem.W.mg_none_of X G z_max,
      b_min := PySem.W.mg_none_of X G z_min,
      b_range := PySem.W.mg_none_of X G z_range,
      b_repr := PySem.W.mg_none_of X G z_repr,
      b_all := PySem.W.mg_none_of X G z_all,
      b_sorted := PySem.W.mg_none_of X G z_sorted,
      b_enumerate := PySem.W.mg_none_of X G z_enumerate,
      sta_is_step := ⟨cls_is_step, ⟨_, rec_is_step⟩, k_Sequence_is_step⟩,
      sti_is_step := ⟨pg_Sequence, ic_Sequence, at_is_step, sty_is_step, get_is_step, tak_is_step, by decide +kernel, ⟨_, rec_is_step⟩, k_Sequence_is_step⟩,
      rd_Sequence := ⟨rds_Sequence, rga_Sequence⟩,
      cl := ⟨pg_Sequence, hd_Sequence, po_Sequence, sa_Sequence⟩,
      M_Sequence := ⟨mkI_Sequence, at_Sequence___init__, f_Sequence___init__, kc_Sequence⟩,
      n_steps := n_steps_Sequence,
      eqA := at_Sequence___eq__,
      eqF := f_Sequence___eq__,
      neA := neA,
      sub := sub,
      addA := at_Sequence___add__,
      addF := f_Sequence___add__,
      mulA := at_Sequence___mul__,
      mulF := f_Sequence___mul__,
      rmul := rmul,
      lenA := at_Sequence___len__,
      lenF := f_Sequence___len__,
      sf := sf,
      si := si,
      isi := ⟨⟨pg_Sequence, hd_Sequence, po_Sequence, sa_Sequence⟩, ha_Sequence, hn, htk, hm_Sequence, kit_self⟩,
      e_InvalidList := ⟨⟨⟨_, _, _, _, _, _, _, _, _, _, _, _, _, _, _, xl_InvalidList, show PySem.HandSPX.refsVE [.type "ValueError", .type "Exception", .type "BaseException", .type "object"] = true by decide +kernel⟩, sa_InvalidList, ex_InvalidList, ty_InvalidList, kc_InvalidList⟩, in_InvalidList, ti_InvalidList, no_InvalidList, ga_InvalidList, gg_InvalidList, hd_InvalidList, ha_InvalidList, hn, htk, hm_InvalidList⟩,
      e_InvalidStep := ⟨⟨⟨_, _, _, _, _, _, _, _, _, _, _, _, _, _, _, xl_InvalidStep, show PySem.HandSPX.refsVE [.type "ValueError", .type "Exception", .type "BaseException", .type "object"] = true by decide +kernel⟩, sa_InvalidStep, ex_InvalidStep, ty_InvalidStep, kc_InvalidStep⟩, in_InvalidStep, ti_InvalidStep, no_InvalidStep, ga_InvalidStep, gg_InvalidStep, hd_InvalidStep, ha_InvalidStep, hn, htk, hm_InvalidStep⟩,
      e_StepFailed := ⟨bx_Runtime, ⟨⟨_, _, _, _, [], _, _, _, _, _, _, _, _, _, _, xl_StepFailed⟩, sa_StepFailed, ex_StepFailed, ty_StepFailed, kc_StepFailed⟩, in_StepFailed, ti_StepFailed, no_StepFailed, ga_StepFailed, gg_StepFailed, hd_StepFailed, ha_StepFailed, hn, htk, hm_StepFailed⟩,
      callO := ⟨at_Sequence___call__, f_Sequence___call__, fi⟩,
      x_LL := exm_of ex_InvalidList ic_InvalidList ty_InvalidList s_LL,
      x_SL := exm_of ex_InvalidList ic_InvalidList ty_InvalidList s_SL,
      x_SS := exm_of ex_StepFailed ic_StepFailed ty_StepFailed s_SS,
      r_SR := kit_subB ic_R ty_R s_SR s_SS }
  exact fun base _ _ => ok_law T (fun_mk (st := s_law) l_law c_law k_law)
theorem walk {l : PySem.W.OpenLaw} {q : Program} {loose : List Str} {XP : (Str → Option Value) → Heap → Prop} {YP : World → Heap → Prop} {d : DefRec} {K : Params → PySem.W.Frag} (hn : l.most = some 63) (hdf : d.params.defaults = [])
    (hY : ∀ (w : World) (h : Heap), YP w h → (K w.params).In h)
    (F : ∀ (w : World) (mg : Str → Option Value) (fa : Addr) (h : Heap), (K w.params).In h → h.Ns mainGlobals mg → mg d.name = some (.ref fa) →
      ∀ base : Heap, (K w.params).In base → base.Ns mainGlobals mg → FnG l.prog w (K w.params) mg base CX0 12 fa (spLaw (K w.params))) :
    PySem.W.WalkO q loose XP YP l.row.toRowW d [] (fun f vs => PySem.call f vs) :=
  walkG (n := 63) (k := 12) (CX := fun _ => CX0) (sp := fun w => spLaw (K w.params)) hn (by decide) hdf ⟨rfl, by decide, by decide⟩ hY F (fun _ _ a ns hl _ hS => ⟨a, ns, rfl, hS, hl, fun _ => rfl⟩) fun _ _ _ _ _ z => z
end
end K02
open PySem PySem.W PyProof.Rows
set_option maxRecDepth 100000 in
set_option maxHeartbeats 0 in
theorem PySem.Challenge.cw_rankeffect_k02_lists_after_sequences_holds : PySem.Challenge.rw_rankeffect_k02_lists_after_sequences.Holds := by
  w_on; o_law; k_head; (case hw => w_witness2)
  k_fill
  refine K02.walk (l := PySem.Challenge.rw_rankeffect_k02_lists_after_sequences) rfl rfl (fun w h Y => PySem.W.kIn_of Y) ?F
  case F =>
    intro w mg fa h KX G hmg
    refine' K02.all_mk KX G hmg ?a_is_integer ?a_is_rank ?a_is_number_list ?a_ascending ?a_after_step ?a_law_pool ?a_law_take ?a_law_steps ?a_law_made ?a_law_due ?a_law_caught ?a_law ?a_InvalidList ?a_RankError ?a_InvalidStep ?a_StepFailed ?a_Sequence ?at_Sequence___init__ ?f_Sequence___init__ ?at_Sequence___len__ ?f_Sequence___len__ ?at_Sequence___eq__ ?f_Sequence___eq__ ?at_Sequence___add__ ?f_Sequence___add__ ?at_Sequence___mul__ ?f_Sequence___mul__ ?at_Sequence___call__ ?f_Sequence___call__ ?at_steps ?rec_steps ?get_steps ?tak_steps ?z_type ?z_int ?z_list ?z_tuple ?z_str ?z_len ?z_isinstance ?z_abs ?z_max ?z_min ?z_range ?z_repr ?z_all ?z_sorted ?z_enumerate ?xl_InvalidList ?sa_InvalidList ?ex_InvalidList ?ty_InvalidList ?kc_InvalidList ?in_InvalidList ?ti_InvalidList ?no_InvalidList ?ga_InvalidList ?gg_InvalidList ?hd_InvalidList ?ha_InvalidList ?hm_InvalidList ?ic_InvalidList ?xl_InvalidStep ?sa_InvalidStep ?ex_InvalidStep ?ty_InvalidStep ?kc_InvalidStep ?in_InvalidStep ?ti_InvalidStep ?no_InvalidStep ?ga_InvalidStep ?gg_InvalidStep ?hd_InvalidStep ?ha_InvalidStep ?hm_InvalidStep ?ic_InvalidStep ?xl_StepFailed ?sa_StepFailed ?ex_StepFailed ?ty_StepFailed ?kc_StepFailed ?in_StepFailed ?ti_StepFailed ?no_StepFailed ?ga_StepFailed ?gg_StepFailed ?hd_StepFailed ?ha_StepFailed ?hm_StepFailed ?ic_StepFailed ?at_is_step ?rec_is_step ?sty_is_step ?get_is_step ?tak_is_step ?cls_is_step ?rds_Sequence ?rga_Sequence ?l_is_integer ?c_is_integer ?k_is_integer ?l_is_rank ?c_is_rank ?k_is_rank ?l_is_number_list ?c_is_number_list ?k_is_number_list ?l_InvalidList___init__ ?c_InvalidList___init__ ?k_InvalidList___init__ ?l_InvalidStep___init__ ?c_InvalidStep___init__ ?k_InvalidStep___init__ ?l_StepFailed___init__ ?c_StepFailed___init__ ?k_StepFailed___init__ ?l_ascending ?c_ascending ?k_ascending ?l_after_step ?c_after_step ?k_after_step ?l_Sequence___init__ ?c_Sequence___init__ ?k_Sequence___init__ ?l_Sequence_is_step ?c_Sequence_is_step ?k_Sequence_is_step ?l_Sequence_steps ?c_Sequence_steps ?k_Sequence_steps ?l_Sequence___len__ ?c_Sequence___len__ ?k_Sequence___len__ ?l_Sequence___eq__ ?c_Sequence___eq__ ?k_Sequence___eq__ ?l_Sequence___add__ ?c_Sequence___add__ ?k_Sequence___add__ ?l_Sequence___mul__ ?c_Sequence___mul__ ?k_Sequence___mul__ ?l_Sequence___call__ ?c_Sequence___call__ ?k_Sequence___call__ ?l_law_pool ?c_law_pool ?k_law_pool ?l_law_take ?c_law_take ?k_law_take ?l_law_steps ?c_law_steps ?k_law_steps ?l_law_made ?c_law_made ?k_law_made ?l_law_due ?c_law_due ?k_law_due ?l_law_caught ?c_law_caught ?k_law_caught ?l_law ?c_law ?k_law ?hn ?htk ?pg_Sequence ?hd_Sequence ?po_Sequence ?sa_Sequence ?mkI_Sequence ?kc_Sequence ?ha_Sequence ?hm_Sequence ?ic_Sequence ?ty_Sequence ?n_steps_Sequence ?neA ?sub ?sf ?rmul ?si ?fi ?s_LL ?s_SL ?s_SS ?s_SR ?ic_R ?ty_R
    (case a_is_integer => first | k_is | rfl)
    (case a_is_rank => first | k_is | rfl)
    (case a_is_number_list => first | k_is | rfl)
    (case a_ascending => first | k_is | rfl)
    (case a_after_step => first | k_is | rfl)
    (case a_law_pool => first | k_is | rfl)
    (case a_law_take => first | k_is | rfl)
    (case a_law_steps => first | k_is | rfl)
    (case a_law_made => first | k_is | rfl)
    (case a_law_due => first | k_is | rfl)
    (case a_law_caught => first | k_is | rfl)
    (case a_law => first | k_is | rfl)
    (case a_InvalidList => first | k_is | rfl)
    (case a_RankError => first | k_is | rfl)
    (case a_InvalidStep => first | k_is | rfl)
    (case a_StepFailed => first | k_is | rfl)
    (case a_Sequence => first | k_is | rfl)
    (case at_Sequence___init__ => first | k_is | rfl)
    (case f_Sequence___init__ => first | k_is | rfl)
    (case at_Sequence___len__ => first | k_is | rfl)
    (case f_Sequence___len__ => first | k_is | rfl)
    (case at_Sequence___eq__ => first | k_is | rfl)
    (case f_Sequence___eq__ => first | k_is | rfl)
    (case at_Sequence___add__ => first | k_is | rfl)
    (case f_Sequence___add__ => first | k_is | rfl)
    (case at_Sequence___mul__ => first | k_is | rfl)
    (case f_Sequence___mul__ => first | k_is | rfl)
    (case at_Sequence___call__ => first | k_is | rfl)
    (case f_Sequence___call__ => first | k_is | rfl)
    (case at_steps => first | k_is | rfl)
    (case rec_steps => first | k_is | rfl)
    (case get_steps => first | k_is | rfl)
    (case tak_steps => first | k_is | rfl)
    (case z_type => first | k_is | rfl)
    (case z_int => first | k_is | rfl)
    (case z_list => first | k_is | rfl)
    (case z_tuple => first | k_is | rfl)
    (case z_str => first | k_is | rfl)
    (case z_len => first | k_is | rfl)
    (case z_isinstance => first | k_is | rfl)
    (case z_abs => first | k_is | rfl)
    (case z_max => first | k_is | rfl)
    (case z_min => first | k_is | rfl)
    (case z_range => first | k_is | rfl)
    (case z_repr => first | k_is | rfl)
    (case z_all => first | k_is | rfl)
    (case z_sorted => first | k_is | rfl)
    (case z_enumerate => first | k_is | rfl)
    (case xl_InvalidList => first | k_is | rfl)
    (case sa_InvalidList => first | k_is | rfl)
    (case ex_InvalidList => first | k_is | rfl)
    (case ty_InvalidList => first | k_is | rfl)
    (case kc_InvalidList => first | k_is | rfl)
    (case in_InvalidList => first | k_is | rfl)
    (case ti_InvalidList => first | k_is | rfl)
    (case no_InvalidList => first | k_is | rfl)
    (case ga_InvalidList => first | k_is | rfl)
    (case gg_InvalidList => first | k_is | rfl)
    (case hd_InvalidList => first | k_is | rfl)
    (case ha_InvalidList => first | k_is | rfl)
    (case hm_InvalidList => first | k_is | rfl)
    (case ic_InvalidList => first | k_is | rfl)
    (case xl_InvalidStep => first | k_is | rfl)
    (case sa_InvalidStep => first | k_is | rfl)
    (case ex_InvalidStep => first | k_is | rfl)
    (case ty_InvalidStep => first | k_is | rfl)
    (case kc_InvalidStep => first | k_is | rfl)
    (case in_InvalidStep => first | k_is | rfl)
    (case ti_InvalidStep => first | k_is | rfl)
    (case no_InvalidStep => first | k_is | rfl)
    (case ga_InvalidStep => first | k_is | rfl)
    (case gg_InvalidStep => first | k_is | rfl)
    (case hd_InvalidStep => first | k_is | rfl)
    (case ha_InvalidStep => first | k_is | rfl)
    (case hm_InvalidStep => first | k_is | rfl)
    (case ic_InvalidStep => first | k_is | rfl)
    (case xl_StepFailed => first | k_is | rfl)
    (case sa_StepFailed => first | k_is | rfl)
    (case ex_StepFailed => first | k_is | rfl)
    (case ty_StepFailed => first | k_is | rfl)
    (case kc_StepFailed => first | k_is | rfl)
    (case in_StepFailed => first | k_is | rfl)
    (case ti_StepFailed => first | k_is | rfl)
    (case no_StepFailed => first | k_is | rfl)
    (case ga_StepFailed => first | k_is | rfl)
    (case gg_StepFailed => first | k_is | rfl)
    (case hd_StepFailed => first | k_is | rfl)
    (case ha_StepFailed => first | k_is | rfl)
    (case hm_StepFailed => first | k_is | rfl)
    (case ic_StepFailed => first | k_is | rfl)
    (case at_is_step => first | k_is | rfl)
    (case rec_is_step => first | k_is | rfl)
    (case sty_is_step => first | k_is | rfl)
    (case get_is_step => first | k_is | rfl)
    (case tak_is_step => first | k_is | rfl)
    (case cls_is_step => first | k_is | rfl)
    (case rds_Sequence => first | k_is | rfl)
    (case rga_Sequence => first | k_is | rfl)
    (case l_is_integer => first | k_is | rfl)
    (case c_is_integer => first | k_is | rfl)
    (case k_is_integer => first | k_is | rfl)
    (case l_is_rank => first | k_is | rfl)
    (case c_is_rank => first | k_is | rfl)
    (case k_is_rank => first | k_is | rfl)
    (case l_is_number_list => first | k_is | rfl)
    (case c_is_number_list => first | k_is | rfl)
    (case k_is_number_list => first | k_is | rfl)
    (case l_InvalidList___init__ => first | k_is | rfl)
    (case c_InvalidList___init__ => first | k_is | rfl)
    (case k_InvalidList___init__ => first | k_is | rfl)
    (case l_InvalidStep___init__ => first | k_is | rfl)
    (case c_InvalidStep___init__ => first | k_is | rfl)
    (case k_InvalidStep___init__ => first | k_is | rfl)
    (case l_StepFailed___init__ => first | k_is | rfl)
    (case c_StepFailed___init__ => first | k_is | rfl)
    (case k_StepFailed___init__ => first | k_is | rfl)
    (case l_ascending => first | k_is | rfl)
    (case c_ascending => first | k_is | rfl)
    (case k_ascending => first | k_is | rfl)
    (case l_after_step => first | k_is | rfl)
    (case c_after_step => first | k_is | rfl)
    (case k_after_step => first | k_is | rfl)
    (case l_Sequence___init__ => first | k_is | rfl)
    (case c_Sequence___init__ => first | k_is | rfl)
    (case k_Sequence___init__ => first | k_is | rfl)
    (case l_Sequence_is_step => first | k_is | rfl)
    (case c_Sequence_is_step => first | k_is | rfl)
    (case k_Sequence_is_step => first | k_is | rfl)
    (case l_Sequence_steps => first | k_is | rfl)
    (case c_Sequence_steps => first | k_is | rfl)
    (case k_Sequence_steps => first | k_is | rfl)
    (case l_Sequence___len__ => first | k_is | rfl)
    (case c_Sequence___len__ => first | k_is | rfl)
    (case k_Sequence___len__ => first | k_is | rfl)
    (case l_Sequence___eq__ => first | k_is | rfl)
    (case c_Sequence___eq__ => first | k_is | rfl)
    (case k_Sequence___eq__ => first | k_is | rfl)
    (case l_Sequence___add__ => first | k_is | rfl)
    (case c_Sequence___add__ => first | k_is | rfl)
    (case k_Sequence___add__ => first | k_is | rfl)
    (case l_Sequence___mul__ => first | k_is | rfl)
    (case c_Sequence___mul__ => first | k_is | rfl)
    (case k_Sequence___mul__ => first | k_is | rfl)
    (case l_Sequence___call__ => first | k_is | rfl)
    (case c_Sequence___call__ => first | k_is | rfl)
    (case k_Sequence___call__ => first | k_is | rfl)
    (case l_law_pool => first | k_is | rfl)
    (case c_law_pool => first | k_is | rfl)
    (case k_law_pool => first | k_is | rfl)
    (case l_law_take => first | k_is | rfl)
    (case c_law_take => first | k_is | rfl)
    (case k_law_take => first | k_is | rfl)
    (case l_law_steps => first | k_is | rfl)
    (case c_law_steps => first | k_is | rfl)
    (case k_law_steps => first | k_is | rfl)
    (case l_law_made => first | k_is | rfl)
    (case c_law_made => first | k_is | rfl)
    (case k_law_made => first | k_is | rfl)
    (case l_law_due => first | k_is | rfl)
    (case c_law_due => first | k_is | rfl)
    (case k_law_due => first | k_is | rfl)
    (case l_law_caught => first | k_is | rfl)
    (case c_law_caught => first | k_is | rfl)
    (case k_law_caught => first | k_is | rfl)
    (case l_law => first | k_is | rfl)
    (case c_law => first | k_is | rfl)
    (case k_law => first | k_is | rfl)
    (case hn => first | k_is | rfl)
    (case htk => first | k_is | rfl)
    (case pg_Sequence => first | k_is | rfl)
    (case hd_Sequence => first | k_is | rfl)
    (case po_Sequence => first | k_is | rfl)
    (case sa_Sequence => first | k_is | rfl)
    (case mkI_Sequence => first | k_is | rfl)
    (case kc_Sequence => first | k_is | rfl)
    (case ha_Sequence => first | k_is | rfl)
    (case hm_Sequence => first | k_is | rfl)
    (case ic_Sequence => first | k_is | rfl)
    (case ty_Sequence => first | k_is | rfl)
    (case n_steps_Sequence => first | k_is | rfl)
    (case neA => first | k_is | rfl)
    (case sub => first | k_is | rfl)
    (case sf => first | k_is | rfl)
    (case rmul => first | k_is | rfl)
    (case si => first | k_is | rfl)
    (case fi => first | k_is | rfl)
    (case s_LL => first | k_is | rfl)
    (case s_SL => first | k_is | rfl)
    (case s_SS => first | k_is | rfl)
    (case s_SR => first | k_is | rfl)
    (case ic_R => first | k_is | rfl)
    (case ty_R => first | k_is | rfl)
