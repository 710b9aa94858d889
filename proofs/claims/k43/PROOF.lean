import PyProof.Rows.All
import Wide.All
import OpenK.AllK
import Wide.FinOn
import HandS.ForMost
import HandS.ForExc
import HandS.Star
import HandS.SlotsOwn
import HandS.Zip
import HandS.SortInts
import HandS.Property
import HandS.TupAny
import HandS.IsInst
import PyProof.LongRange
import PyProof.FactsAll.object_2
import KE.GoesMore
import KE.GoesEnum
import HandS.Iter
import PyProof.TypeEq
import HandS.Codes
import HandS.NoneIn
import KE.KEqSeq
import HandS.ExcInit
import HandS.ExcField
import HandS.ExcIs
import HandS.WordsExc
import HandS.TryMany
import PyProof.ReprRoads
import HandS.Ends
import KE.KExcIs
import HandS.Style
import HandS.Dict
import PyProof.P3Eq
import HandS.ClsMeth
import PyProof.FString
import HandS.TupMul
import HandS.NamedTupGet
import HandS.Wide
import KE.KExcInit
import PyProof.TupleOfSeq
import HandS.SetFor
import HandS.MakeKwOnly
import HandS.Strs
import HandS.CallLocal
import HandS.OwnEq
import HandS.ExcOwn
import HandS.More
import HandS.Conv
import HandS.TryOnly
import PySem.Challenge.RW_rankeffect_k43_sequences_that_agree
set_option Elab.async false
set_option linter.all false
set_option maxRecDepth 100000
set_option maxHeartbeats 4000000
namespace XT
open PySem PySem.Spec PyProof.Rows L2

section
variable {prog : Program} {w : World} {A : Around} {E : Value → Shared → Prop} {s : Shared} {K : PySem.W.Frag} {x C f : Addr} {ox : Obj} {od : Option Obj}
/-- the answer of an own __ne__ that is the object's: an own __eq__ is asked -/
theorem ne_body {y : Value} {R : Fin → Shared → Prop} (hu : A.units < cLine) (X : K.In s.heap) (I : PySem.W.InstAt s.heap x ox C od)
    (hs : PySem.W.findIn K (.ref C) "__eq__" = some (some (.ref f))) (hf : PySem.W.isFn K (.ref f) = true)
    (h : wpAny (model prog w) A (call (.ref f) [.ref x, y]) (fun r s1 => ∃ b, r = Value.bool b ∧ R (.done (.ret (.bool (!b)))) s1) E s) :
    wpAny (model prog w) A (Builtin.«object.__ne__» ⟨[.ref x, y], []⟩) R E s := by
  unfold Builtin.«object.__ne__»
  refine wpAny_bind (m := slotArgs "__ne__" 1 ⟨[.ref x, y], []⟩) (wpAny_pure ?_)
  dsimp only
  refine wpAny_bind (wpAny_cRoomFor hu ?_)
  refine wpAny_bind (m := callSpecialIfBound? (.ref x) (Str.ofString "__eq__") [y]) (PySem.W.ifBound_K X I hs hf (wpAny_mono h (fun r s' hr => ?_) fun _ _ e => e))
  obtain ⟨b, rfl, q⟩ := hr
  dsimp only
  refine wpAny_bind (m := truthy (.bool b)) (wpAny_pure ?_)
  exact wpAny_pure q
theorem ne_check {y : Value} {Q : Unit → Shared → Prop} (X : K.In s.heap) (I : PySem.W.InstAt s.heap x ox C od) (hs : PySem.W.subIn K (.ref C) (.type "object") = some true) (h : Q () s) :
    wpAny (model prog w) A (checkBuiltinCall "object.__ne__" ⟨[.ref x, y], []⟩) Q E s := by
  have hk : builtinKind "object.__ne__" = some .slot := by decide +kernel
  have hsp : splitId "object.__ne__" = some ("object", "__ne__") := by decide +kernel
  unfold checkBuiltinCall
  simp only [hk, hsp]
  refine wpAny_bind ?_
  unfold isInstance
  refine wpAny_bind (I.type.here ((PySem.W.looks_subIn X hs).here ?_))
  simp only [Bool.not_true, Bool.false_eq_true, if_false]
  have ha := PySem.F.args_object_ne_2 (.ref x) y
  cases hsig : Manifest.signature? "object.__ne__" with
  | none => exact wpAny_pure h
  | some sig =>
    simp only [argsOk, hsig] at ha
    have h2 : Bind.checkArgs "object.__ne__" sig ⟨[.ref x, y], []⟩ = pure () := ha
    show wpAny _ A (Bind.checkArgs "object.__ne__" sig ⟨[.ref x, y], []⟩) Q E s
    rw [h2]
    exact wpAny_pure h
/-- x != y, the class with an own __eq__ and no own __ne__ -/
theorem ne_own {y tb : Value} {Q : Value → Shared → Prop} (hu : A.units + 1 < cLine) (X : K.In s.heap) (I : PySem.W.InstAt s.heap x ox C od) (hb : PySem.W.Looks (model prog w) s.heap (typeOf y) tb) (hn : PySem.W.notFirst K C tb = true)
    (hne : PySem.W.findIn K (.ref C) "__ne__" = some (some (.builtin "object.__ne__"))) (ho : PySem.W.subIn K (.ref C) (.type "object") = some true)
    (hs : PySem.W.findIn K (.ref C) "__eq__" = some (some (.ref f))) (hf : PySem.W.isFn K (.ref f) = true)
    (h : wpAny (model prog w) A.in1 (call (.ref f) [.ref x, y]) (fun r s1 => ∃ b, r = Value.bool b ∧ Q (.bool (!b)) s1) E s) :
    wpAny (model prog w) A (richCompare .NotEq (.ref x) y) Q E s := by
  have hu0 : A.units < cLine := Nat.lt_of_le_of_lt (Nat.le_succ _) hu
  have run : wpAny (model prog w) A (call (.builtin "object.__ne__") [.ref x, y]) (fun r s1 => ∃ b, r = Value.bool b ∧ Q r s1) E s := by
    refine wpAny_call (codeAny_call_builtin PySem.F.slot_object_ne.plain PySem.F.entry_object_ne (ne_check X I ho ?_))
    refine ne_body (by simpa using hu) X I hs hf (wpAny_mono h (fun r s1 z => ?_) fun _ _ e => e)
    obtain ⟨b, rfl, q⟩ := z
    exact ⟨b, rfl, ⟨_, rfl, q⟩⟩
  have one : wpAny (model prog w) A (tryCompare (.ref x) "__ne__" y) (fun r s' => ∃ v, r = some v ∧ Q v s') E s := by
    unfold tryCompare
    refine wpAny_bind ?_
    simp only [callSpecialIfBound?, bindSpecialIfBound?]
    refine wpAny_holding (wpAny_bind (wpAny_bind (wpAny_bind (I.type.here ((PySem.W.looks_findIn X hne).here ?_)))))
    have fin : wpAny (model prog w) A (call (.builtin "object.__ne__") ([.ref x] ++ [y]) >>= fun v => pure (some v)) (fun r s' => wpAny (model prog w) A (match r with | some .notImplemented | none => pure none | some v => pure (some v)) (fun r s' => ∃ v, r = some v ∧ Q v s') E s') E s := by
      refine wpAny_bind (wpAny_mono run (fun v s' z => ?_) fun _ _ e => e)
      obtain ⟨b, rfl, q⟩ := z
      exact wpAny_pure (wpAny_pure ⟨_, rfl, q⟩)
    refine wpAny_bind (wpAny_askSetting (wpAny_ite ?_))
    split
    · exact wpAny_bind (wpAny_of_eq (PySem.F.slot_object_ne.bind (.ref x)) (wpAny_pure (by exact fin)))
    · exact wpAny_tryCatch (wpAny_bind (wpAny_of_eq (PySem.F.slot_object_ne.bind (.ref x)) (wpAny_pure (by exact fin))))
  unfold richCompare
  simp only [oneThing_ref]
  refine wpAny_holding (wpAny_bind (wpAny_cRoomFor hu0 ?_))
  refine wpAny_bind (I.type.here (wpAny_bind (hb.here ?_)))
  split
  · rename_i q
    have e : PySem.W.subIn K tb (.ref C) = some false := by
      rcases Bool.or_eq_true_iff.mp hn with e | e
      · rw [beq_iff_eq.mp e] at q; simp at q
      · exact beq_iff_eq.mp e
    refine wpAny_bind ((PySem.W.looks_subIn X e).here ?_)
    simp only [Bool.false_eq_true, if_false]
    refine wpAny_bind (wpAny_mono one (fun r s' z => ?_) fun _ _ e => e)
    obtain ⟨v, rfl, hq⟩ := z
    exact wpAny_pure hq
  · refine wpAny_bind (wpAny_pure ?_)
    simp only [Bool.false_eq_true, if_false]
    refine wpAny_bind (wpAny_mono one (fun r s' z => ?_) fun _ _ e => e)
    obtain ⟨v, rfl, hq⟩ := z
    exact wpAny_pure hq
theorem type_bool : isType (.type "bool") = pure true := by first | rfl | kernel_rfl | (unfold isType; rw [isSubtype_type]; kernel_rfl)
/-- bool(x) by an own __bool__ -/
theorem bool_own {Q : Value → Shared → Prop} (X : K.In s.heap) (I : PySem.W.InstAt s.heap x ox C od) (hs : PySem.W.findIn K (.ref C) "__bool__" = some (some (.ref f))) (hf : PySem.W.isFn K (.ref f) = true)
    (h : wpAny (model prog w) A.in1.in1 (call (.ref f) [.ref x]) (fun r s1 => ∃ b, r = Value.bool b ∧ Q r s1) E s) : wpAny (model prog w) A (call (.type "bool") [.ref x]) Q E s := by
  refine callType_codes (T := "bool") (Bi := Builtin.«object.__init__») (Q₁ := fun r s1 => ∃ b, r = Value.bool b ∧ Q r s1) PySem.F.called_bool (PySem.F.typeCall_bool_1 _) PySem.F.entry_object_init ?_ ?_
  · refine codeAny_of_tree ?_
    show wpAny _ A.in1.in1 (do checkBuiltinCall "bool.__new__" ⟨[.type "bool", .ref x], []⟩; again (.builtin "bool.__new__" ⟨[.type "bool", .ref x], []⟩)) _ _ s
    refine wpAny_bind (wpAny_of_eq (PySem.F.newCall_bool_1 _) (wpAny_pure ⟨plainId_quiet (by decide +kernel) _, codeAny_builtin PySem.F.entry_bool_new ?_⟩))
    rw [Around.under_plainId (by decide +kernel) _]
    unfold Builtin.«bool.__new__»
    refine wpAny_bind (wpAny_of_eq (a := true) type_bool ?_)
    refine PySem.W.KFB.if_not rfl ?_
    refine wpAny_bind (wpAny_of_eq (a := true) PySem.F.conv_sub_bool ?_)
    refine PySem.W.KFB.if_not rfl ?_
    refine wpAny_bind (m := someArgs "bool" 0 1 _) (wpAny_of_eq (a := [Value.ref x]) (by first | rfl | kernel_rfl | simp [someArgs]) ?_)
    dsimp only
    refine wpAny_bind (m := truthy (.ref x)) ?_
    unfold truthy
    refine wpAny_bind (m := callSpecial? (.ref x) (Str.ofString "__bool__")) (PySem.W.special_fn X I hs (beq_iff_eq.mp hf) (wpAny_mono h (fun r s' hr => ?_) fun _ _ y => y))
    obtain ⟨b, rfl, hq⟩ := hr
    exact wpAny_pure (wpAny_pure ⟨b, rfl, hq⟩)
  · rintro obj s₁ ⟨b, rfl, hq⟩
    exact ⟨PySem.typeIs_bool _ _, PySem.F.args_object_init_2 _ _, object_init_meets PySem.F.called_bool.init.lookup PySem.F.called_bool.made (by decide) prog w A.in1 _ s₁ ⟨PySem.typeIs_bool _ _, rfl, hq⟩⟩
end
/-! ### operators of instances of own classes -/
/-- an instance of the class at C -/
def InsA (H : Hp) (a C : Addr) : Prop := ∃ dx fs, H a = some (.ins C dx fs)
section
variable {X : Cx} {CX : CXT} {n : Nat} {C g : Addr} {sp : Sp} {E : XK}
theorem insA_at {pins : List (Addr × Obj)} {σ : L2.St} {H : Hp} {s : Shared} {a : Addr} (I : Inv X pins σ H s) (h : InsA H a C) : ∃ ox od, PySem.W.InstAt s.heap a ox C od := by
  obtain ⟨dx, fs, h⟩ := h
  obtain ⟨mA, O, _⟩ := ins_get I.hok h
  obtain ⟨od, J, _⟩ := O.look
  exact ⟨_, _, J⟩
/-- x op y, both instances of the class at C, which has a def for it at g -/
def rOwnB (C : Addr) (sp : Sp) (E : XK) : R2 := fun x y H Q => ∃ a b, x = .ref a ∧ y = .ref b ∧ InsA H a C ∧ InsA H b C ∧ sp [x, y] H Q E
theorem op_ownB {op : Operator} (hc : PySem.W.selfFirst X.K C = true) (hs : PySem.W.findIn X.K (.ref C) (PySem.dunder op.info.2) = some (some (.ref g))) (hf : PySem.W.isFn X.K (.ref g) = true) (F : FnR X.prog X.w X.K X.mg X.base CX n g sp)
    (hr : Room n X.A) (hx : Passes CX X E) : OpR X (binaryOp op) (rOwnB C sp E) := by
  intro pins s σ H x y v u Q I rx ry h
  obtain ⟨a, b, rfl, rfl, ha, hb, q⟩ := h
  cases (show v = Value.ref a from rx)
  cases (show u = Value.ref b from ry)
  obtain ⟨ox, od, J⟩ := insA_at I ha
  obtain ⟨oy, oe, J'⟩ := insA_at I hb
  obtain ⟨m, hF⟩ := I.fr
  refine PySem.W.binop_K (op := op) hF I.ok.mod.kin J J'.type hc hs hf ?_
  refine wpAny_mono (wpAny_call (run_fnR (us := [.ref a, .ref b]) (vs := [.ref a, .ref b]) F hr hx I (.cons rfl (.cons rfl .nil)) q)) (fun w s' z => ?_) fun _ _ x => x
  obtain ⟨z', H', I', rz, qz⟩ := z
  exact SlX.cmpback rz ⟨z', H', I', rz, qz⟩
/-- x == y -/
theorem op_ownE (hs : PySem.W.findIn X.K (.ref C) "__eq__" = some (some (.ref g))) (hf : PySem.W.isFn X.K (.ref g) = true) (F : FnR X.prog X.w X.K X.mg X.base CX n g sp)
    (hr : Room n X.A) (hx : Passes CX X E) : OpR X (compareOp .Eq) (rOwnB C sp E) := by
  intro pins s σ H x y v u Q I rx ry h
  obtain ⟨a, b, rfl, rfl, ha, hb, q⟩ := h
  cases (show v = Value.ref a from rx)
  cases (show u = Value.ref b from ry)
  obtain ⟨ox, od, J⟩ := insA_at I ha
  obtain ⟨oy, oe, J'⟩ := insA_at I hb
  obtain ⟨m, hF⟩ := I.fr
  show wpAny _ _ (richCompare .Eq _ _) _ _ _
  refine PySem.W.cmp_K (op := .Eq) (tb := .ref C) hr.units0 hF I.ok.mod.kin J J'.type (by unfold PySem.W.notFirst; simp) hs hf ?_
  refine wpAny_mono (wpAny_call (run_fnR (us := [.ref a, .ref b]) (vs := [.ref a, .ref b]) F hr hx I (.cons rfl (.cons rfl .nil)) q)) (fun w s' z => ?_) fun _ _ x => x
  obtain ⟨z', H', I', rz, qz⟩ := z
  exact SlX.cmpback rz ⟨z', H', I', rz, qz⟩
/-- x != y, by == -/
def rOwnN (C : Addr) (sp : Sp) (E : XK) : R2 := fun x y H Q => ∃ a b, x = .ref a ∧ y = .ref b ∧ InsA H a C ∧ InsA H b C ∧ sp [x, y] H (fun z H' => ∃ k, z = .bl k ∧ Q (.bl (!k)) H') E
theorem op_ownN (hne : PySem.W.findIn X.K (.ref C) "__ne__" = some (some (.builtin "object.__ne__"))) (ho : PySem.W.subIn X.K (.ref C) (.type "object") = some true)
    (hs : PySem.W.findIn X.K (.ref C) "__eq__" = some (some (.ref g))) (hf : PySem.W.isFn X.K (.ref g) = true) (F : FnR X.prog X.w X.K X.mg X.base CX n g sp)
    (hr : Room (n + 1) X.A) (hx : Passes CX X E) : OpR X (compareOp .NotEq) (rOwnN C sp E) := by
  intro pins s σ H x y v u Q I rx ry h
  obtain ⟨a, b, rfl, rfl, ha, hb, q⟩ := h
  cases (show v = Value.ref a from rx)
  cases (show u = Value.ref b from ry)
  obtain ⟨ox, od, J⟩ := insA_at I ha
  obtain ⟨oy, oe, J'⟩ := insA_at I hb
  show wpAny _ _ (richCompare .NotEq _ _) _ _ _
  refine ne_own (tb := .ref C) (by have := hr.units; omega) I.kIn J J'.type (by unfold PySem.W.notFirst; simp) hne ho hs hf ?_
  refine wpAny_mono (wpAny_call (SlX.run_at (us := [.ref a, .ref b]) (ws := [.ref a, .ref b]) F hr.in1 I.env0.in1 hx I (.cons rfl (.cons rfl .nil)) q)) (fun w s' z => ?_) fun _ _ x => x
  obtain ⟨z', H', I', rz, k, rfl, qz⟩ := z
  cases (show w = Value.bool k from rz)
  exact ⟨k, rfl, .bl (!k), H', I', rfl, qz⟩
/-- bool(x) -/
def rBoolO (C : Addr) (sp : Sp) (E : XK) : List V → Hp → VK → Prop := fun xs H Q => ∃ a, xs = [V.ref a] ∧ InsA H a C ∧ sp xs H (fun z H' => ∃ k, z = .bl k ∧ Q z H') E
theorem call_boolO (hs : PySem.W.findIn X.K (.ref C) "__bool__" = some (some (.ref g))) (hf : PySem.W.isFn X.K (.ref g) = true) (F : FnR X.prog X.w X.K X.mg X.base CX n g sp) (hr : Room (n + 2) X.A) (hx : Passes CX X E) : CallR X (.type "bool") (rBoolO C sp E) := by
  intro pins s σ H xs us Q I r h
  obtain ⟨a, rfl, ha, q⟩ := h
  obtain ⟨u, rfl, ru⟩ := r.one
  cases (show u = Value.ref a from ru)
  obtain ⟨ox, od, J⟩ := insA_at I ha
  have hr2 : Room n X.A.in1.in1 := (show Room (n + 1) X.A.in1 from Room.in1 hr).in1
  refine bool_own I.kIn J hs hf (wpAny_mono (wpAny_call (SlX.run_at (us := [.ref a]) (ws := [.ref a]) F hr2 I.env0.in1.in1 hx I (.cons rfl .nil) q)) (fun w s' z => ?_) fun _ _ x => x)
  obtain ⟨z', H', I', rz, k, rfl, qz⟩ := z
  cases (show w = Value.bool k from rz)
  exact ⟨k, rfl, .bl k, H', I', rfl, qz⟩
end
end XT

namespace XT
open PySem PySem.Spec PyProof.Rows L2
/-! ### range(a, b) of ints of any size -/
theorem turn_lrange {P : Program} {w : World} {K : PySem.W.Frag} {tg : Expr} (it : Addr) (lo : Int) (n : Nat) : Turn P w K tg (Itr lo n) [it] it (fun i h => IsLongIter h it (lo + (i : Nat) * 1) ((n : Int) - (i : Nat)) 1) where
  mem := by simp
  obj := fun i h st b hb => by
    have e : b = it := by simpa using hb
    subst e
    exact ⟨_, st, fun v z => by
      have z' : Data.fields _ = Data.cell v := z
      cases z'⟩
  keep := fun i h h' st k => k it (by simp) _ st
  item := by
    intro X hP hw hK hc i pins s σ H E I hf st hg
    subst hP hw hK
    obtain ⟨f0, f1, f2, f3, f4, f5⟩ := hf it (by simp)
    have W := Walks.longrange (prog := X.prog) (w := X.w) (I.ok.hd hc) it lo 1 n
    refine W.item i s _ _ hg st fun v h' tk hv st' kk => ?_
    obtain ⟨t, rfl⟩ := hv
    have I1 : Inv X pins σ H { s with heap := h', toks := tk } := I.turned (fun b o hb e => kk b o (by simpa using hb) e) f0 f1 f3 f4 f5
    refine ⟨_, rfl, go_of (s := { s with heap := h', toks := tk }) (n := "longrange_iterator") st' rfl rfl (by decide) ⟨.int (lo + i), H, I1, ⟨t, ?_⟩, ⟨rfl, rfl⟩, st', fun b hb => (hf b hb).1⟩⟩
    rw [Int.mul_one]
  done := by
    intro X hP hw hK hc i pins s σ H E I hf st hg
    subst hP hw hK
    obtain ⟨f0, f1, f2, f3, f4, f5⟩ := hf it (by simp)
    exact wpAny_pyNext_long_end (I.ok.hd hc) st (by have : n ≤ i := hg; omega) fun h' eb => ⟨rfl, I.turned (t' := s.toks) (fun b o hb e => eb b o hb e) f0 f1 f3 f4 f5⟩
  self := fun _ _ _ _ _ st h => wpAny_pyIter_longiter st h
section
variable {X : Cx} {tg : Expr}
theorem lrange_it {pins : List (Addr × Obj)} {σ : L2.St} {H : Hp} {s : Shared} {R : It → Hp → Prop} {E : Value → Shared → Prop} {lo hi : Int} {t u v : Tok} {tk : Nat} (I : Inv X pins σ H s)
    (q : R (Itr lo (hi - lo).toNat) H) : wpAny (model X.prog X.w) X.A (pyIter (.ref s.heap.objs.size)) (PIE X pins σ tg R) E { s with heap := s.heap.push { cls := .type "range", data := .fields #[.int lo t, .int hi u, .int 1 v] }, toks := tk } := by
  have I1 : Inv X pins σ H { s with heap := s.heap.push { cls := .type "range", data := .fields #[.int lo t, .int hi u, .int 1 v] }, toks := tk } := I.kept fun b o e => Heap.get?_push_of_some _ e
  have e1 : lo + ((0 : Nat) : Int) * 1 = lo := by simp
  have e2 : (((hi - lo).toNat : Nat) : Int) - ((0 : Nat) : Int) = Builtin.Range.rangeSize lo hi 1 := by rw [rangeSize_one]; split <;> omega
  have fp : ∀ b ∈ [(s.heap.push { cls := .type "range", data := .fields #[.int lo t, .int hi u, .int 1 v] }).objs.size], FpOk X pins H b := fun b hb => by
    have e : b = (s.heap.push { cls := .type "range", data := .fields #[.int lo t, .int hi u, .int 1 v] }).objs.size := by simpa using hb
    subst e
    exact I1.fpOk (Nat.le_refl _) (I1.hok.fresh (Nat.le_refl _))
  cases hsm : Builtin.Range.small lo hi 1 with
  | true =>
    refine wpAny_pyIter_range (IsRange.new ..) hsm ?_
    refine ⟨(s.heap.push { cls := .type "range", data := .fields #[.int lo t, .int hi u, .int 1 v] }).objs.size, [(s.heap.push { cls := .type "range", data := .fields #[.int lo t, .int hi u, .int 1 v] }).objs.size], _, _, H, rfl,
      I1.kept (t' := tk) fun b o e => Heap.get?_push_of_some _ e, turn_range _ lo (hi - lo).toNat, ?_, fp, q⟩
    show IsRangeIter _ _ (lo + ((0 : Nat) : Int) * 1) ((((hi - lo).toNat : Nat) : Int) - ((0 : Nat) : Int)) 1
    rw [e1, e2]
    exact Heap.get?_push_size _ rfl
  | false =>
    refine wpAny_pyIter_longrange (IsRange.new ..) hsm ?_
    refine ⟨(s.heap.push { cls := .type "range", data := .fields #[.int lo t, .int hi u, .int 1 v] }).objs.size, [(s.heap.push { cls := .type "range", data := .fields #[.int lo t, .int hi u, .int 1 v] }).objs.size], _, _, H, rfl,
      I1.kept (t' := tk) fun b o e => Heap.get?_push_of_some _ e, turn_lrange _ lo (hi - lo).toNat, ?_, fp, q⟩
    show IsLongIter _ _ (lo + ((0 : Nat) : Int) * 1) ((((hi - lo).toNat : Nat) : Int) - ((0 : Nat) : Int)) 1
    rw [e1, e2]
    exact Heap.get?_push_size _ rfl
def iRngW1 (ta : TA) : TI := fun σ H R => ta σ H fun vs H1 => ∃ j : Int, vs = [.int j] ∧ R (Itr 0 j.toNat) H1
def iRngW2 (ta : TA) : TI := fun σ H R => ta σ H fun vs H1 => ∃ i j : Int, vs = [.int i, .int j] ∧ R (Itr i (j - i).toNat) H1
theorem pi_rng1 {a : Expr} {ta : TA} {p pos : Pos} (hg : Gl X "range") (hm : X.mg "range" = none) (ha : PA X [a] ta) (hs : starEach [a] X.env = [(false, eval a X.env)] := by rfl) : PI X tg (.Call (.Name "range" p) [a] [] pos) (iRngW1 ta) := by
  refine ⟨fun pins s σ H R I h => ?_⟩
  refine Call_ (ld_blt I hg hm boot_range (PyProof.Rows.callWith_type1 (thn (ha.run pos pins s σ H _ I h) fun us s1 ⟨vs, H1, I1, r1, q1⟩ => ?_) hs rfl))
  obtain ⟨j, e, q⟩ := q1
  subst e
  cases r1 with
  | cons r rr =>
    cases rr
    obtain ⟨t, rfl⟩ := r
    exact call_range_1 (lrange_it I1 (by simpa using q))
theorem pi_rng2 {a b : Expr} {ta : TA} {p pos : Pos} (hg : Gl X "range") (hm : X.mg "range" = none) (ha : PA X [a, b] ta) (hs : starEach [a, b] X.env = [(false, eval a X.env), (false, eval b X.env)] := by rfl) (hs2 : starEach [b] X.env = [(false, eval b X.env)] := by rfl) :
    PI X tg (.Call (.Name "range" p) [a, b] [] pos) (iRngW2 ta) := by
  refine ⟨fun pins s σ H R I h => ?_⟩
  refine Call_ (ld_blt I hg hm boot_range (PyProof.Rows.callWith_type1 (thn (ha.run pos pins s σ H _ I h) fun us s1 ⟨vs, H1, I1, r1, q1⟩ => ?_) (by rw [hs, hs2]) (by rw [hs2]; rfl)))
  obtain ⟨i, j, e, q⟩ := q1
  subst e
  cases r1 with
  | cons r rr =>
    cases rr with
    | cons r' rr =>
      cases rr
      obtain ⟨t, rfl⟩ := r
      obtain ⟨t', rfl⟩ := r'
      exact call_range_2 (lrange_it I1 q)
end
/-! ### enumerate(tuple) -/
theorem meets_enumerate_newT (l : Addr) (items : Array Value) (n : Nat) (dct : Option Addr) (sl : Array (Option Value)) :
    Meets (Builtin.«enumerate.__new__» ⟨[.type "enumerate", .ref l], []⟩) (fun _ R s => s.heap.get? l = some { cls := .type "tuple", dict := dct, data := .seq items n, slots := sl } ∧
      R (.ok (.ret (.ref (s.heap.push { cls := .type "tuple_iterator", data := .fields #[.ref l, .int 0 0] }).objs.size)))
        { s with heap := (s.heap.push { cls := .type "tuple_iterator", data := .fields #[.ref l, .int 0 0] }).push { cls := .type "enumerate", data := .fields #[.none, .bool false, .ref s.heap.objs.size, rawInt 0, .none, .none] } }) :=
  .of_wp fun prog w A R s h => by
    obtain ⟨hp, g, d, tk, os⟩ := s; obtain ⟨hl, h⟩ := h
    have hsub := sub_enumerate
    have hL : Heap.IsTuple (Shared.heap ⟨hp, g, d, tk, os⟩) l items := ⟨_, hl, rfl, n, rfl⟩
    wp_walk using AutoSeq1.wpAny_loadPart' hl
    refine wpAny_stack_any fun st => wpAny_pure ?_
    split
    · rename_i c _ _ _ _ _
      cases (c == Value.type "enumerate")
      · wp_walk using AutoSeq1.wpAny_loadPart' hl, wpAny_pyIter_tuple hL
        exact ⟨_, rfl, h⟩
      · wp_walk using AutoSeq1.wpAny_loadPart' hl, wpAny_pyIter_tuple hL
        exact ⟨_, rfl, h⟩
    · wp_walk using AutoSeq1.wpAny_loadPart' hl, wpAny_pyIter_tuple hL
      exact ⟨_, rfl, h⟩
theorem call_enumerate_tuple {prog : Program} {w : World} {A : Around} {E : Value → Shared → Prop} {s : Shared} {l : Addr} {items : Array Value} {Q : Value → Shared → Prop} (hL : s.heap.IsTuple l items)
    (h : ∀ h', IsEnum h' (s.heap.objs.size + 1) s.heap.objs.size 0 .none → h'.IsTupleIter s.heap.objs.size l 0 → h'.objs.size = s.heap.objs.size + 2 →
      (∀ b o, s.heap.get? b = some o → h'.get? b = some o) → Q (.ref (s.heap.objs.size + 1)) { s with heap := h' }) :
    wpAny (model prog w) A (call (.type "enumerate") [.ref l]) Q E s := by
  obtain ⟨⟨c, dct, dt, sl⟩, hl, hc, n, hd⟩ := hL
  replace hc : c = .type "tuple" := hc
  replace hd : dt = .seq items n := hd
  subst hc hd
  refine callType_new PySem.F.called_enumerate (by decide) (PySem.F.typeCall_enumerate_1 _) (PySem.F.newCall_enumerate_1 _) (fun obj => PySem.F.args_object_init_2 obj _) PySem.F.entry_enumerate_new
    (meets_enumerate_newT l items n dct sl) ⟨hl, ?_⟩
  have hz : (s.heap.push { cls := .type "tuple_iterator", data := .fields #[.ref l, .int 0 0] }).objs.size = s.heap.objs.size + 1 := Heap.size_push ..
  show _ ∧ _
  rw [hz]
  have he : IsEnum ((s.heap.push { cls := .type "tuple_iterator", data := .fields #[.ref l, .int 0 0] }).push
      { cls := .type "enumerate", data := .fields #[.none, .bool false, .ref s.heap.objs.size, rawInt 0, .none, .none] }) (s.heap.objs.size + 1) s.heap.objs.size 0 .none := by
    have := Heap.get?_push_size (s.heap.push { cls := .type "tuple_iterator", data := .fields #[.ref l, .int 0 0] })
      (o := { cls := .type "enumerate", data := .fields #[.none, .bool false, .ref s.heap.objs.size, rawInt 0, .none, .none] }) rfl
    rw [hz] at this; exact this
  refine ⟨⟨_, he, rfl⟩, h _ he ⟨_, Heap.get?_push_of_some _ (Heap.get?_push_size _ rfl), rfl, rfl⟩ (by rw [Heap.size_push, hz]) fun b o x => Heap.get?_push_of_some _ (Heap.get?_push_of_some _ x)⟩
def IteT (K : PySem.W.Frag) (a : Addr) : It :=
  ⟨fun i H => ∃ (xs : List V) (x : V), SqT K H a xs ∧ xs[i]? = some x, fun i H v H' => ∃ T x, v = .ref T ∧ H T = none ∧ H' = upd H T (.tup [.int (i : Nat), x]) ∧ ∀ xs, SqT K H a xs → xs[i]? = some x, fun i H => ∃ xs : List V, SqT K H a xs ∧ xs.length ≤ i⟩
theorem turn_enumT {P : Program} {w : World} {K : PySem.W.Frag} {elts : List Expr} {kk : Nat} {tpos : Pos} (a e it : Addr) :
    Turn P w K (.Tuple elts kk tpos) (IteT K a) [e, it] e (fun i h => (∃ old, IsEnum h e it ((i : Nat) : Int) old) ∧ h.IsTupleIter it a i ∧ e ≠ it ∧ a ≠ it ∧ a ≠ e) where
  mem := by simp
  obj := fun i h st b hb => by
    obtain ⟨⟨old, he⟩, ⟨o, ho, hc, hd⟩, _⟩ := st
    have e' : b = e ∨ b = it := by simpa using hb
    rcases e' with z | z
    · rw [z]; exact ⟨_, he, fun v q => nomatch q⟩
    · rw [z]; exact ⟨o, ho, fun v q => by rw [hd] at q; cases q⟩
  keep := fun i h h' st k => let ⟨⟨old, he⟩, hi, hne⟩ := st; ⟨⟨old, k e (by simp) _ he⟩, hi.at fun o q => k it (by simp) o q, hne⟩
  item := by
    intro X hP hw hK hc i pins s σ H E I hf st hg
    subst hP hw hK
    obtain ⟨⟨old, he⟩, hit, hne, hai, hae⟩ := st
    obtain ⟨xs, x, hq, hx⟩ := hg
    obtain ⟨its, rv, p, hz⟩ := I.tuple hq
    obtain ⟨u, hu, ru⟩ := rv.get hx
    have hel : e < s.heap.objs.size := Heap.lt_size he
    have hil : it < s.heap.objs.size := by obtain ⟨_, q, _⟩ := hit; exact Heap.lt_size q
    have D := Draws.tuple (prog := X.prog) (w := X.w) (A := X.A.in1) (by have := I.ok.hd hc; simpa using this) it a hai its.toArray
    have hp : s.heap.IsTuple a its.toArray := p
    have hl : i < its.toArray.size := by
      have := (List.getElem?_eq_some_iff.mp hu).1
      simpa using this
    refine wpAny_pyNext_enum_itemD D he ⟨hit, hp⟩ hl hne (by simp [hne, Ne.symm hae]) fun x' h' tk hP ho hSt hT hsz hk => ?_
    have hxu : x' = u := by
      have e1 : its.toArray[i]? = some u := by simpa using hu
      rw [e1] at hP
      exact (Option.some.inj hP).symm
    subst hxu
    refine ⟨_, rfl, wpAny_letOwnedTupleGo_enum (s := { s with heap := h', toks := tk + 1 }) ho fun h'' he' sb => ?_⟩
    have hT2 : h''.get? s.heap.objs.size = some { cls := .type "tuple", data := .seq #[.int i tk, x'] } := (sb.2 _ (Nat.ne_of_gt hel)).trans hT
    have new : ObjOk X.prog X.w (upd H s.heap.objs.size (.tup [.int (i : Nat), x])) h'' s.heap.objs.size (.tup [.int (i : Nat), x]) :=
      ⟨by show 2 ≤ sizeLine; decide, [.int i tk, x'], .cons ⟨_, rfl⟩ (.cons ru .nil), ⟨_, hT2, rfl, _, rfl⟩⟩
    have I1 : Inv X pins σ (upd H s.heap.objs.size (.tup [.int (i : Nat), x])) { s with heap := h'', toks := tk + 1 } :=
      I.turnedNew (ch := [e, it]) (fun b ob hb q => (sb.2 b (fun z => hb (by simp [z]))).trans (hk b ob (fun z => hb (by simp [z])) (fun z => hb (by simp [z])) q)) hf (Nat.le_refl _) new
    refine ⟨.ref s.heap.objs.size, _, I1, rfl, ⟨_, x, rfl, I.hok.fresh (Nat.le_refl _), rfl, fun ys hy => by rw [I.tuple_inj hy hq]; exact hx⟩, ⟨⟨x', ?_⟩, hSt.1.at fun o q => (sb.2 it (Ne.symm hne)).trans q, hne, hai, hae⟩, fun b hb => ?_⟩
    · have e1 : ((i + 1 : Nat) : Int) = (i : Int) + 1 := by omega
      rw [e1]; exact he'
    · have hb' : b < s.heap.objs.size := by
        have e' : b = e ∨ b = it := by simpa using hb
        rcases e' with z | z
        · rw [z]; exact hel
        · rw [z]; exact hil
      rw [upd_ne (Nat.ne_of_lt hb')]
      exact (hf b hb).1
  done := by
    intro X hP hw hK hc i pins s σ H E I hf st hg
    subst hP hw hK
    obtain ⟨⟨old, he⟩, hit, hne, hai, hae⟩ := st
    obtain ⟨xs, hq, hx⟩ := hg
    obtain ⟨its, rv, p, hz⟩ := I.tuple hq
    obtain ⟨f0, f1, f2, f3, f4, f5⟩ := hf it (by simp)
    have hl := rv.length
    have hp : s.heap.IsTuple a its.toArray := p
    have hT : s.TypeIs (.ref e) "enumerate" := ⟨_, he, rfl⟩
    have hh : X.A.handled = none := I.ok.hd hc
    unfold pyNext
    refine wpAny_bind (wpAny_attempt (wpAny_callSpecial?_slot (name := Str.ofString "__next__") hT PySem.F.slot_enumerate_next
      (wpAny_call_entry PySem.F.slot_enumerate_next hT PySem.F.entry_enumerate_next ?_ (PySem.F.args_enumerate_next_1 _))))
    show wpAny _ _ (field (.ref e) 2 >>= _) _ _ _
    refine wpAny_bind (wpAny_field he rfl (x := .ref it) rfl ?_)
    refine wpAny_bind (wpAny_nextOf_tuple_end (by simpa using hh) hit hp (by simp; omega) fun h' x he' hx' => ?_)
    obtain ⟨o, ho, hc⟩ := hx'
    refine wpAny_bind (wpAny_isInstance (T := "StopIteration") (b := true) ⟨o, ho, hc⟩ isSubtype_stop ?_)
    exact wpAny_pure ⟨rfl, I.turned (t' := s.toks) (fun b o hb q => he' b o hb q) f0 f1 f3 f4 f5⟩
  self := fun A i s Q E st h => let ⟨⟨_, he⟩, _⟩ := st; wpAny_pyIter_enum he h
def iEnumT (K : PySem.W.Frag) (ta : TA) : TI := fun σ H R => ta σ H fun vs H1 => ∃ a xs, vs = [.ref a] ∧ SqT K H1 a xs ∧ R (IteT K a) H1
theorem pi_enumT {X : Cx} {e : Expr} {ta : TA} {p pos tpos : Pos} {elts : List Expr} {kk : Nat} (hg : Gl X "enumerate") (hm : X.mg "enumerate" = none) (ha : PA X [e] ta) (hs : starEach [e] X.env = [(false, eval e X.env)] := by rfl) :
    PI X (.Tuple elts kk tpos) (.Call (.Name "enumerate" p) [e] [] pos) (iEnumT X.K ta) := by
  refine ⟨fun pins s σ H R I h => ?_⟩
  refine Call_ (ld_blt I hg hm boot_enumerate (PyProof.Rows.callWith_type1 (thn (ha.run pos pins s σ H _ I h) fun us s1 ⟨vs, H1, I1, r1, q1⟩ => ?_) hs rfl))
  obtain ⟨a, xs, ex, hq, q⟩ := q1
  subst ex
  cases r1 with
  | cons r rr =>
    cases rr
    cases r
    obtain ⟨its, rv, p', hz⟩ := I1.tuple hq
    have hp : s1.heap.IsTuple a its.toArray := p'
    have hal : a < s1.heap.objs.size := by obtain ⟨o, ho, _⟩ := hp; exact Heap.lt_size ho
    refine call_enumerate_tuple hp fun h' he hit hsz hk => wpAny_pyIter_enum he ?_
    have I2 : Inv X pins σ H1 { s1 with heap := h' } := I1.kept (t' := s1.toks) hk
    refine ⟨s1.heap.objs.size + 1, [s1.heap.objs.size + 1, s1.heap.objs.size], _, _, H1, rfl, I2, turn_enumT a (s1.heap.objs.size + 1) s1.heap.objs.size, ⟨⟨.none, he⟩, hit, Nat.succ_ne_self _, Nat.ne_of_lt hal, Nat.ne_of_lt (Nat.lt_succ_of_lt hal)⟩, fun b hb => ?_, q⟩
    have e' : b = s1.heap.objs.size + 1 ∨ b = s1.heap.objs.size := by simpa using hb
    have hle : s1.heap.objs.size ≤ b := by
      rcases e' with z | z
      · rw [z]; exact Nat.le_add_right _ _
      · rw [z]; exact Nat.le_refl _
    exact I1.fpOk hle (I1.hok.fresh hle)
end XT

namespace XT
open PySem PySem.Spec PyProof.Rows L2
/-! ### types compared -/
def tyN (m : String) : Bool := ["int", "str", "bool", "NoneType", "list", "tuple", "dict"].contains m
theorem tyN_meta {m : String} (h : tyN m = true) (s' : Shared) : s'.TypeIs (.type m) "type" := by
  unfold tyN at h
  simp only [List.contains_cons, List.contains_nil, Bool.or_eq_true, beq_iff_eq, Bool.false_eq_true, or_false] at h
  rcases h with rfl | rfl | rfl | rfl | rfl | rfl | rfl
  · exact TypeEq.meta_int s'
  · exact TypeEq.meta_str s'
  · exact TypeEq.meta_bool s'
  · exact TypeEq.meta_NoneType s'
  · exact TypeEq.meta_list s'
  · exact TypeEq.meta_tuple s'
  · exact TypeEq.meta_dict s'
section
variable {X : Cx}
theorem op_eqTy : OpR X (compareOp .Eq) (fun x y H Q => ∃ m n, x = .ty m ∧ y = .ty n ∧ tyN m = true ∧ tyN n = true ∧ Q (.bl (decide (m = n))) H) := by
  intro pins s σ H x y v u Q I rx ry h
  obtain ⟨m, n, rfl, rfl, hm, hn, q⟩ := h
  cases (show v = Value.type m from rx)
  cases (show u = Value.type n from ry)
  by_cases e : m = n
  · subst e
    exact TypeEq.eq_type_same (fun s' => tyN_meta hm s') ⟨.bl true, H, I, rfl, by simpa using q⟩
  · refine TypeEq.eq_type_other (fun s' => tyN_meta hm s') (fun s' => tyN_meta hn s') ?_ ⟨.bl false, H, I, rfl, by simpa [e] using q⟩
    rw [Bool.eq_false_iff]
    intro z
    rw [beq_iff_eq] at z
    injection z with z
    exact e z
theorem eqAt_ty {A : Around} {s : Shared} {m n : String} (hm : tyN m = true) (hn : tyN n = true) : SeqAt.EqAt A s (.type m) (.type n) (decide (m = n)) := fun prog w E Q h => by
  unfold eqBool
  refine wpAny_holding ?_
  refine wpAny_ite_split (fun hab => ?_) (fun hab => ?_)
  · have e : m = n := by have := eq_of_beq hab; injection this
    subst e
    exact wpAny_bind (wpAny_rule (wpAny_pure (by simpa using h)))
  · have e : m ≠ n := fun z => hab (by rw [z]; exact beq_self_eq_true _)
    refine wpAny_bind (m := richCompare .Eq (.type m) (.type n)) (show wpAny _ _ (compareOp .Eq _ _) _ _ _ from TypeEq.eq_type_other (fun s' => tyN_meta hm s') (fun s' => tyN_meta hn s') ?_ ?_)
    · rw [Bool.eq_false_iff]
      intro z
      rw [beq_iff_eq] at z
      injection z with z
      exact e z
    · exact wpAny_pure (by simpa [e] using h)
def tyU (m : String) : Value → Bool
  | .type n => decide (n = m)
  | _ => false
theorem op_inTy : OpR X (compareOp .In) (fun x y H Q => ∃ (m : String) (p : Addr) (ns : List String), x = .ty m ∧ y = .ref p ∧ SqT X.K H p (ns.map V.ty) ∧ tyN m = true ∧ (∀ n ∈ ns, tyN n = true) ∧ Q (.bl (ns.any fun n => decide (n = m))) H) := by
  intro pins s σ H x y v u Q I rx ry h
  obtain ⟨m, p, ns, rfl, rfl, hq, hm, hn, q⟩ := h
  cases (show v = Value.type m from rx)
  cases (show u = Value.ref p from ry)
  obtain ⟨its, r, pl, hz⟩ := I.tuple hq
  have key : ∀ (ns : List String) (its : List Value), Vals (ns.map V.ty) its → its = ns.map Value.type := by
    intro ns
    induction ns with
    | nil => intro its r; cases r; rfl
    | cons n ns ih =>
      intro its r
      cases r with
      | cons a t =>
        rw [ih _ t, List.map_cons]
        congr 1
  have e := key ns its r
  subst e
  refine SeqAt.in_tupleAt (tyU m) pl (fun w hw => ?_) ⟨.bl _, H, I, rfl, ?_⟩
  · have hw' : w ∈ ns.map Value.type := by simpa using hw
    obtain ⟨n, hmem, rfl⟩ := List.mem_map.mp hw'
    exact eqAt_ty (hn n hmem) hm
  · have e2 : ((ns.map Value.type).toArray.any (tyU m)) = ns.any fun n => decide (n = m) := by
      rw [List.any_toArray, List.any_map]
      rfl
    rw [e2]
    exact q
/-! ### calls by promises of positional values -/
def tCallR (sp : Sp) (E : XK) (t : TA) : TE := fun σ H Q => t σ H fun vs H1 => sp vs H1 Q E
theorem pe_callR {CX : CXT} {k : Nat} {f : Addr} {sp : Sp} {E : XK} {x : Str} {e : Expr} {es : List Expr} {t : TA} {p pos : Pos} (F : FnR X.prog X.w X.K X.mg X.base CX k f sp) (hr : Room k X.A) (hg : Gl X x) (hm : X.mg x = some (.ref f)) (hk : PySem.W.keepIn X.K (.ref f) = true) (hx : Passes CX X E) (ha : PA X (e :: es) t) (hd : (x == ("__debug__" : Str)) = false := by decide)
    (he : starEach (e :: es) X.env = (false, eval e X.env) :: starEach es X.env := by rfl) (hst : (backTo pos (starEach es X.env)).any (·.1) = false := by rfl) :
    PE X (.Call (.Name x p) (e :: es) [] pos) (tCallR sp E t) := by
  refine ⟨fun pins s σ H Q I h => ?_⟩
  refine wpAny_Call_Name_kw (ld_glob I hg hm ?_ hd)
  refine PySem.W.callWith_K (h₀ := X.base) I.ok.mod.kin hk (thn (ha.run pos pins s σ H _ I h) fun us s1 ⟨vs, H1, I1, r, q⟩ => ⟨I1.kIn, ?_⟩) he hst
  exact wpAny_call (run_fnR F hr hx I1 r q)
def tPropR (C : Addr) (sp : Sp) (E : XK) (ta : TE) : TE := fun σ H Q => ta σ H fun x H1 => ∃ a dx fs, x = .ref a ∧ H1 a = some (.ins C dx fs) ∧ sp [.ref a] H1 Q E
theorem pe_propR {CX : CXT} {k : Nat} {C p g : Addr} {f : Str} {sp : Sp} {E : XK} {e : Expr} {pos : Pos} {ta : TE} (he : PE X e ta) (c : Cls X.K C) (hp : PropOf X.K C f p g) (F : FnR X.prog X.w X.K X.mg X.base CX k g sp) (hr : Room (k + 1) X.A) (hx : Passes CX X.nox E)
    (hab : attributeBase e f X.env (eval e X.env) = eval e X.env) : PE X (.Attribute e f pos) (tPropR C sp E ta) := by
  refine ⟨fun pins s σ H Q I h => ?_⟩
  refine attr_of hab (thn (he.run pins s σ H _ I h) fun u s1 ⟨x, H1, I1, rx, a, dx, fs, ex, ea, q⟩ => ?_)
  subst ex
  obtain rfl : u = Value.ref a := rx
  obtain ⟨mA, O, _, _, _, _⟩ := ins_get I1.hok ea
  obtain ⟨od, J, _⟩ := O.look
  obtain ⟨rest, hrec⟩ := hp.rec_
  have I2 := I1.tok (s1.toks + 1)
  have hc : (PySem.W.clsIn X.K C).isSome = true := by
    obtain ⟨cd, hc, _⟩ := PySem.W.any_some c.hd
    rw [hc]
    rfl
  refine PySem.W.get_bind I1.kIn J (PySem.W.plainGet_of (c.get f)).1 (PySem.W.findObj_data hc hp.at_ hp.get hp.tak) (PySem.W.plainGet_of (c.get f)).2 (wpAny_call (PySem.W.prop_get (s := { s1 with toks := s1.toks + 1 }) I1.kIn hrec ?_))
  refine codeAny_mono (F X.A.in1 X.stack { s1 with toks := s1.toks + 1 } H1 [.ref a] [.ref a] Q E hr.in1 I2.env0.in1 (.cons rfl .nil) q) fun r s' hq => ?_
  cases r with
  | error er => exact False.elim (hx pins σ H1 { s1 with toks := s1.toks + 1 } er s' (I2.wish _) hq)
  | ok fl =>
    cases fl with
    | ret u =>
      obtain ⟨v, H', I3, rv, q3⟩ := I2.after hq
      show wpAny _ _ (handedOut u) _ _ _
      rw [PySem.W.handedOut_of (handed_of rv)]
      exact wpAny_pure ⟨v, H', I3, rv, q3⟩
    | next => exact False.elim hq
    | brk => exact False.elim hq
    | cont => exact False.elim hq
end
section
variable {P : Program} {w : World} {K : PySem.W.Frag} {mg : Str → Option Value} {base : Heap}
/-- how arguments bind, for every such def -/
def Bnd (x qual : Str) (st : Stmt) (ps : List Str) : Prop := ∀ (kV doc pm : Value) (an : Option Addr) (cdv ct : Value) (us : List Value), us.length = ps.length → bindArgs (PySem.W.fnOf x qual (defArgs st) (defBody st) (defScope st) .none kV doc pm an cdv ct) ⟨us, []⟩ = pure (ps.zip us)
/-- a def's promise by positional values; no exception leaves it -/
theorem okR {x qual : Str} {st : Stmt} {f : Addr} {fd : FuncData} {N ps : List Str} {k : Nat} {sp : Sp} (F : Fun K x qual st f fd) (S : FnScope N ps (defScope st)) (B : Bnd x qual st ps) (len : ∀ vs H Q E, sp vs H Q E → vs.length = ps.length)
    (hbody : ∀ (cdv : Value) (A : Around) (outer : List Env) (s : Shared) (H : Hp) (vs : List V) (Q : VK) (E : XK), Room k (A.deeper (envOfC qual (defScope st) s.heap.objs.size f cdv)) → sp vs H Q E →
      ∃ t, PSs (cxOf CX0 P w K mg base N qual (defScope st) f cdv A outer s H E).nox (defBody st) t ∧ t { nx := fun _ H' => Q .non H', rt := Q } (start N vs) H) : FnR P w K mg base CX0 (k + 1) f sp := by
  have G := F.ok S len hbody
  have hb := F.binds B
  exact (G.raw hb .nil).imp fun vs H Q E h => by simpa using h
end
end XT

namespace XT
open PySem PySem.Spec PyProof.Rows L2
/-! ### heaps that grow -/
theorem same_upd {H H1 : Hp} {p : Addr} {o : HO} (h : Same H H1) (n : H p = Option.none) : Same H (upd H1 p o) := fun b u e => by
  have hb : b ≠ p := fun q => by rw [q, n] at e; cases e
  rw [upd_ne hb]
  exact h b u e
theorem same_new {H : Hp} {p : Addr} {o : HO} (n : H p = Option.none) : Same H (upd H p o) := same_upd (Same.refl H) n
theorem same_seqT {K : PySem.W.Frag} {H H' : Hp} {a : Addr} {xs : List V} (e : Same H H') (h : SqT K H a xs) : SqT K H' a xs := by
  rcases h with (h | ⟨o, h⟩) | h
  · exact .inl (.inl (e _ _ h))
  · exact .inl (.inr ⟨o, e _ _ h⟩)
  · exact .inr h
theorem same_tyB {K : PySem.W.Frag} {H H' : Hp} {x : V} {n : String} (e : Same H H') (h : TyB K H x n) : TyB K H' x n := by
  cases h with
  | non => exact .non
  | bl b => exact .bl b
  | int i => exact .int i
  | str z => exact .str z
  | byt b => exact .byt b
  | lst h => exact .lst (e.seq h)
  | tup h => exact .tup (same_seqT e h)
  | dK h => exact .dK (e _ _ h)
/-- a value of a known kind -/
def KV (K : PySem.W.Frag) (H : Hp) (x : V) : Prop := ∃ n, TyB K H x n ∧ tyN n = true
theorem KV.same {K : PySem.W.Frag} {H H' : Hp} {x : V} (h : KV K H x) (e : Same H H') : KV K H' x := let ⟨n, a, b⟩ := h; ⟨n, same_tyB e a, b⟩
theorem kv_int {K : PySem.W.Frag} {H : Hp} (i : Int) : KV K H (.int i) := ⟨"int", .int i, by decide +kernel⟩
def isI : V → Bool
  | .int _ => true
  | _ => false
theorem tyB_isI {K : PySem.W.Frag} {H : Hp} {x : V} {n : String} (h : TyB K H x n) : decide (n = "int") = isI x := by
  cases h <;> first | rfl | decide +kernel
/-! ### what is walked, while only new things are made -/
structure StatJ (J : It) (H0 : Hp) (n : Nat) (P : Nat → V → Hp → Prop) : Prop where
  go : ∀ i H, i < n → Same H0 H → J.go i H
  stop : ∀ H, Same H0 H → J.stop n H
  yld : ∀ i H x H', i < n → Same H0 H → J.yld i H x H' → Same H H' ∧ P i x H'
theorem stat_list {K : PySem.W.Frag} {H0 : Hp} {a : Addr} {xs : List V} (h : SqL K H0 a xs) : StatJ (Itl K a) H0 xs.length (fun i x _ => xs[i]? = some x) where
  go := fun i H hi s => ⟨xs, xs[i], s.seq h, by simp [hi]⟩
  stop := fun H s => ⟨xs, s.seq h, Nat.le_refl _⟩
  yld := fun i H x H' hi s y => by
    obtain ⟨e, y⟩ := y
    subst e
    exact ⟨Same.refl _, y xs (s.seq h)⟩
theorem stat_tup {K : PySem.W.Frag} {H0 : Hp} {a : Addr} {xs : List V} (h : SqT K H0 a xs) : StatJ (Itt K a) H0 xs.length (fun i x _ => xs[i]? = some x) where
  go := fun i H hi s => ⟨xs, xs[i], same_seqT s h, by simp [hi]⟩
  stop := fun H s => ⟨xs, same_seqT s h, Nat.le_refl _⟩
  yld := fun i H x H' hi s y => by
    obtain ⟨e, y⟩ := y
    subst e
    exact ⟨Same.refl _, y xs (same_seqT s h)⟩
theorem stat_rng {H0 : Hp} (lo : Int) (n : Nat) : StatJ (Itr lo n) H0 n (fun i x _ => x = .int (lo + i)) where
  go := fun i H hi s => hi
  stop := fun H s => Nat.le_refl _
  yld := fun i H x H' hi s y => by
    obtain ⟨e, y⟩ := y
    subst e
    exact ⟨Same.refl _, y⟩
theorem stat_enumT {K : PySem.W.Frag} {H0 : Hp} {a : Addr} {xs : List V} (h : SqT K H0 a xs) : StatJ (IteT K a) H0 xs.length (fun i v H => ∃ T x, v = .ref T ∧ H T = some (.tup [.int (i : Nat), x]) ∧ xs[i]? = some x) where
  go := fun i H hi s => ⟨xs, xs[i], same_seqT s h, by simp [hi]⟩
  stop := fun H s => ⟨xs, same_seqT s h, Nat.le_refl _⟩
  yld := fun i H x H' hi s y => by
    obtain ⟨T, x', e, n, e', y⟩ := y
    subst e e'
    exact ⟨same_new n, T, x', rfl, upd_same, y xs (same_seqT s h)⟩
theorem stat_zip {K : PySem.W.Frag} {H0 : Hp} {a b : Addr} {xs ys : List V} (h : SqL K H0 a xs) (k : SqL K H0 b ys) : StatJ (Itz K a b) H0 (min xs.length ys.length) (fun i v H => ∃ T x y, v = .ref T ∧ H T = some (.tup [x, y]) ∧ xs[i]? = some x ∧ ys[i]? = some y) where
  go := fun i H hi s => ⟨xs, ys, xs[i], ys[i], s.seq h, s.seq k, by simp, by simp⟩
  stop := fun H s => ⟨xs, ys, s.seq h, s.seq k, by omega⟩
  yld := fun i H x H' hi s y => by
    obtain ⟨T, x', y', e, n, e', p, q⟩ := y
    subst e e'
    exact ⟨same_new n, T, x', y', rfl, upd_same, p xs (s.seq h), q ys (s.seq k)⟩
theorem stat_zipT {K : PySem.W.Frag} {H0 : Hp} {a b : Addr} {xs ys : List V} (h : SqT K H0 a xs) (k : SqT K H0 b ys) : StatJ (RZ.ItzT K a b) H0 (min xs.length ys.length) (fun i v H => ∃ T x y, v = .ref T ∧ H T = some (.tup [x, y]) ∧ xs[i]? = some x ∧ ys[i]? = some y) where
  go := fun i H hi s => ⟨xs, ys, xs[i], ys[i], same_seqT s h, same_seqT s k, by simp, by simp⟩
  stop := fun H s => ⟨xs, ys, same_seqT s h, same_seqT s k, by omega⟩
  yld := fun i H x H' hi s y => by
    obtain ⟨T, x', y', e, n, e', p, q⟩ := y
    subst e e'
    exact ⟨same_new n, T, x', y', rfl, upd_same, p xs (same_seqT s h), q ys (same_seqT s k)⟩
/-- what a comprehension collects -/
def outs (out : Nat → Option V) (n : Nat) : List V := (List.range n).filterMap out
theorem outs_succ (out : Nat → Option V) (n : Nat) : outs out (n + 1) = outs out n ++ (out n).toList := by
  unfold outs
  rw [List.range_succ, List.filterMap_append]
  cases h : out n <;> simp [List.filterMap, h]
theorem outs_len (out : Nat → Option V) (n : Nat) : (outs out n).length ≤ n := by
  unfold outs
  exact Nat.le_trans (List.length_filterMap_le _ _) (by simp)
theorem outs_list (f : V → Option V) (xs : List V) : outs (fun i => (xs[i]?).bind f) xs.length = xs.filterMap f := by
  have : ∀ n, n ≤ xs.length → outs (fun i => (xs[i]?).bind f) n = (xs.take n).filterMap f := by
    intro n
    induction n with
    | zero => intro _; rfl
    | succ n ih =>
      intro h
      rw [outs_succ, ih (by omega), List.take_succ, List.filterMap_append]
      congr 1
      have e : xs[n]? = some xs[n] := by simp
      rw [e]
      cases h2 : f xs[n] <;> simp [h2]
  rw [this _ (Nat.le_refl _), List.take_length]
theorem outs_map (f : V → V) (xs : List V) : outs (fun i => (xs[i]?).map f) xs.length = xs.map f := by
  have e : (fun (i : Nat) => (xs[i]?).map f) = fun (i : Nat) => (xs[i]?).bind fun x => some (f x) := by funext i; cases xs[i]? <;> rfl
  rw [e, outs_list]
  simp
theorem outs_fun (f : Nat → V) (n : Nat) : outs (fun i => some (f i)) n = (List.range n).map f := by
  unfold outs
  simp
theorem outs_congr {o o' : Nat → Option V} {n : Nat} (h : ∀ i, i < n → o i = o' i) : outs o n = outs o' n := by
  induction n with
  | zero => rfl
  | succ n ih => rw [outs_succ, outs_succ, ih fun i hi => h i (by omega), h n (by omega)]
/-- a comprehension over what stands still -/
theorem lcG {J : It} {n : Nat} {P : Nat → V → Hp → Prop} {g : TG} {tt : TT} {te : TE} {vs : List Nat} {σ : L2.St} {H1 : Hp} {D : Addr} {Qd : Hp → Prop} (S : StatJ J H1 n P) (hD : H1 D = Option.none) (out : Nat → Option V) (hn : n ≤ sizeLine)
    (hs : ∀ i x H (R : Option V → Hp → Prop), i < n → Same H1 H → P i x H → (∀ H', Same H H' → R (out i) H') → g x (wipe σ vs) H fun σ2 H2 => wipe σ2 vs = wipe σ vs ∧ tt σ2 H2 fun b H3 => if b = true then te σ2 H3 fun y H4 => R (some y) H4 else R Option.none H3)
    (hd : ∀ H, Same H1 H → H D = some (.lst (outs out n)) → Qd H) :
    ∃ W : Nat → Nat → Hp → Prop, (∃ m, W 0 m (upd H1 D (.lst []))) ∧ ∀ i m H, W i m H →
      (J.stop i H ∧ Qd H) ∨ (J.go i H ∧ ∃ Nx : Hp → Prop, (∀ H', Nx H' → ∃ m', m' < m ∧ W (i + 1) m' H') ∧ ∀ x H', J.yld i H x H' → g x (wipe σ vs) H' fun σ2 H2 => wipe σ2 vs = wipe σ vs ∧ tt σ2 H2 fun b H3 =>
        if b = true then te σ2 H3 fun y H4 => ∃ acc, H4 D = some (.lst acc) ∧ acc.length < sizeLine ∧ Nx (upd H4 D (.lst (acc ++ [y]))) else Nx H3) := by
  refine ⟨fun i m H => m = n - i ∧ i ≤ n ∧ Same H1 H ∧ H D = some (.lst (outs out i)), ⟨n, by simp, Nat.zero_le _, same_new hD, by rw [upd_same]; rfl⟩, ?_⟩
  rintro i m H ⟨rfl, hi, s, hH⟩
  by_cases hlt : i < n
  · refine .inr ⟨S.go i H hlt s, fun H' => Same H1 H' ∧ H' D = some (.lst (outs out (i + 1))), fun H' p => ⟨n - (i + 1), by omega, rfl, hlt, p.1, p.2⟩, fun x H' y => ?_⟩
    obtain ⟨s2, px⟩ := S.yld i H x H' hlt s y
    refine hs i x H' (fun r H4 => match r with | some y => ∃ acc, H4 D = some (.lst acc) ∧ acc.length < sizeLine ∧ (Same H1 (upd H4 D (.lst (acc ++ [y]))) ∧ (upd H4 D (.lst (acc ++ [y]))) D = some (.lst (outs out (i + 1)))) | none => Same H1 H4 ∧ H4 D = some (.lst (outs out (i + 1)))) hlt (s.trans s2) px fun H4 s4 => ?_
    have h4 : H4 D = some (.lst (outs out i)) := s4 _ _ (s2 _ _ hH)
    have s14 : Same H1 H4 := (s.trans s2).trans s4
    cases ho : out i with
    | none =>
      refine ⟨s14, ?_⟩
      rw [outs_succ, ho, h4]
      simp
    | some y =>
      refine ⟨_, h4, Nat.lt_of_le_of_lt (outs_len out i) (Nat.lt_of_lt_of_le hlt hn), same_upd s14 hD, ?_⟩
      rw [upd_same, outs_succ, ho]
      rfl
  · have e : i = n := by omega
    subst e
    exact .inl ⟨S.stop H s, hd H s hH⟩
/-- without a test -/
theorem lcM {J : It} {n : Nat} {P : Nat → V → Hp → Prop} {g : TG} {te : TE} {vs : List Nat} {σ : L2.St} {H1 : Hp} {D : Addr} {Qd : Hp → Prop} (S : StatJ J H1 n P) (hD : H1 D = Option.none) (out : Nat → V) (hn : n ≤ sizeLine)
    (hs : ∀ i x H (R : V → Hp → Prop), i < n → Same H1 H → P i x H → (∀ H', Same H H' → R (out i) H') → g x (wipe σ vs) H fun σ2 H2 => wipe σ2 vs = wipe σ vs ∧ te σ2 H2 R)
    (hd : ∀ H, Same H1 H → H D = some (.lst ((List.range n).map out)) → Qd H) :
    ∃ W : Nat → Nat → Hp → Prop, (∃ m, W 0 m (upd H1 D (.lst []))) ∧ ∀ i m H, W i m H →
      (J.stop i H ∧ Qd H) ∨ (J.go i H ∧ ∃ Nx : Hp → Prop, (∀ H', Nx H' → ∃ m', m' < m ∧ W (i + 1) m' H') ∧ ∀ x H', J.yld i H x H' → g x (wipe σ vs) H' fun σ2 H2 => wipe σ2 vs = wipe σ vs ∧ tYes σ2 H2 fun b H3 =>
        if b = true then te σ2 H3 fun y H4 => ∃ acc, H4 D = some (.lst acc) ∧ acc.length < sizeLine ∧ Nx (upd H4 D (.lst (acc ++ [y]))) else Nx H3) := by
  refine ⟨fun i m H => m = n - i ∧ i ≤ n ∧ Same H1 H ∧ H D = some (.lst ((List.range i).map out)), ⟨n, by simp, Nat.zero_le _, same_new hD, by rw [upd_same]; rfl⟩, ?_⟩
  rintro i m H ⟨rfl, hi, s, hH⟩
  by_cases hlt : i < n
  · refine .inr ⟨S.go i H hlt s, fun H' => Same H1 H' ∧ H' D = some (.lst ((List.range (i + 1)).map out)), fun H' p => ⟨n - (i + 1), by omega, rfl, hlt, p.1, p.2⟩, fun x H' y => ?_⟩
    obtain ⟨s2, px⟩ := S.yld i H x H' hlt s y
    show g x (wipe σ vs) H' fun σ2 H2 => wipe σ2 vs = wipe σ vs ∧ (if true = true then te σ2 H2 fun y H4 => ∃ acc, H4 D = some (.lst acc) ∧ acc.length < sizeLine ∧ (Same H1 (upd H4 D (.lst (acc ++ [y]))) ∧ (upd H4 D (.lst (acc ++ [y]))) D = some (.lst ((List.range (i + 1)).map out))) else (Same H1 H2 ∧ H2 D = some (.lst ((List.range (i + 1)).map out))))
    simp only [if_true]
    refine hs i x H' (fun y H4 => ∃ acc, H4 D = some (.lst acc) ∧ acc.length < sizeLine ∧ (Same H1 (upd H4 D (.lst (acc ++ [y]))) ∧ (upd H4 D (.lst (acc ++ [y]))) D = some (.lst ((List.range (i + 1)).map out)))) hlt (s.trans s2) px fun H4 s4 => ?_
    have h4 : H4 D = some (.lst ((List.range i).map out)) := s4 _ _ (s2 _ _ hH)
    refine ⟨_, h4, Nat.lt_of_le_of_lt (by simp) (Nat.lt_of_lt_of_le hlt hn), same_upd ((s.trans s2).trans s4) hD, ?_⟩
    rw [upd_same, List.range_succ, List.map_append]
    rfl
  · have e : i = n := by omega
    subst e
    exact .inl ⟨S.stop H s, hd H s hH⟩
theorem range_map (f : V → V) (d : V) (xs : List V) : (List.range xs.length).map (fun i => f (xs.getD i d)) = xs.map f := by
  apply List.ext_getElem
  · simp
  · intro i h1 h2
    have h3 : i < xs.length := by simpa using h2
    simp [List.getD, h3]
theorem getD_of {xs : List V} {i : Nat} {x d : V} (h : xs[i]? = some x) : xs.getD i d = x := by
  simp [List.getD, h]
end XT

namespace XT
open PySem PySem.Spec PyProof.Rows L2
/-! ### the rules whose reading names the written part, with that part given -/
section
variable {X : Cx} (K : PySem.W.Frag)
theorem fldK {e : Expr} {f : Str} {pos : Pos} {ta : TE} (he : PE X e ta) (hb : attributeBase e f X.env (eval e X.env) = eval e X.env) (hK : X.K = K := by rfl) : PE X (.Attribute e f pos) (tFld K ta f) := by subst hK; exact pe_fld he hb
theorem tupK {es : List Expr} {k : Nat} {pos : Pos} {t : TGs} {n : Nat} (hc : X.calm = true) (h : PGs X es t) (hK : X.K = K := by rfl) (hn : (assignEach es X.env).length = n := by rfl) (hst : (assignEach es X.env).findIdx? (·.1) = none := by rfl) : PG X (.Tuple es k pos) (gTup K n t) := by
  subst hK
  exact pg_tup hc h hn hst
theorem unlK {es : List Expr} {k : Nat} {pos : Pos} {t : TGs} {n : Nat} (hc : X.calm = true) (h : PGs X es t) (hK : X.K = K := by rfl) (hn : (assignEach es X.env).length = n := by rfl) (hst : (assignEach es X.env).findIdx? (·.1) = none := by rfl) : PG X (.Tuple es k pos) (gUnl K n t) := by
  subst hK
  exact pg_unl hc h hn hst
theorem ixLK (hK : X.K = K := by rfl) : IxR X (rIxL K) := by subst hK; exact ix_list
theorem ixTK (hK : X.K = K := by rfl) : IxR X (rIxT K) := by subst hK; exact ix_tup
theorem slLK (hK : X.K = K := by rfl) : SlR X (rSlL K) := by subst hK; exact sl_list
theorem slTK (hK : X.K = K := by rfl) : SlR X (rSlA K) := by subst hK; exact sl_tupA
theorem lenK (hK : X.K = K := by rfl) : CallR X (.builtin "len") (fun xs H Q => ∃ p ys, xs = [.ref p] ∧ (SqL K H p ys ∨ SqT K H p ys) ∧ Q (.int ys.length) H) := by subst hK; exact call_len_seq
theorem typeK (hK : X.K = K := by rfl) : CallR X (.type "type") (rTyp K) := by subst hK; exact call_type1
theorem allK (hc : X.calm = true) (hK : X.K = K := by rfl) : CallR X (.builtin "all") (rAll K) := by subst hK; exact cr_all hc
theorem sortedK (hK : X.K = K := by rfl) : CallR X (.builtin "sorted") (rSortedI K) := by subst hK; exact cr_sortedI
theorem listK (hK : X.K = K := by rfl) : CallR X (.type "list") (fun xs H Q => ∃ p ys, xs = [.ref p] ∧ (SqL K H p ys ∨ SqT K H p ys) ∧ ∀ l, H l = Option.none → Q (.ref l) (upd H l (.lst ys))) := by subst hK; exact call_list_of
theorem tupleK (hK : X.K = K := by rfl) : CallR X (.type "tuple") (fun xs H Q => ∃ p ys, xs = [.ref p] ∧ ((SqL K H p ys ∧ ∀ l, H l = Option.none → Q (.ref l) (upd H l (.tup ys))) ∨ (SqT K H p ys ∧ Q (.ref p) H))) := by subst hK; exact call_tuple_of
theorem inK (hK : X.K = K := by rfl) : OpR X (compareOp .In) (rIn K false) := by subst hK; exact op_in_seq
theorem notInK (hK : X.K = K := by rfl) : OpR X (compareOp .NotIn) (rIn K true) := by subst hK; exact op_notIn_seq
theorem eqDK (hu : X.A.units + 64 < cLine) (hK : X.K = K := by rfl) : OpR X (compareOp .Eq) (rEqD K) := by subst hK; exact op_eqD hu
theorem neDK (hu : X.A.units + 64 < cLine) (hK : X.K = K := by rfl) : OpR X (compareOp .NotEq) (rNeD K) := by subst hK; exact op_neD hu
theorem inTyK (hK : X.K = K := by rfl) : OpR X (compareOp .In) (fun x y H Q => ∃ (m : String) (p : Addr) (ns : List String), x = .ty m ∧ y = .ref p ∧ SqT K H p (ns.map V.ty) ∧ tyN m = true ∧ (∀ n ∈ ns, tyN n = true) ∧ Q (.bl (ns.any fun n => decide (n = m))) H) := by subst hK; exact op_inTy
theorem bmK {o e : Expr} {es : List Expr} {name : Str} {apos cpos : Pos} {to : TE} {t : TA} {r : V → List V → Hp → VK → Prop} {T : String} (h : PE X (.Call (.Attribute o name apos) (e :: es) [] cpos) (tBM X.K T r to t)) (hK : X.K = K := by rfl) : PE X (.Call (.Attribute o name apos) (e :: es) [] cpos) (tBM K T r to t) := by subst hK; exact h
theorem starK {e : Expr} {p : Pos} {es : List Expr} {te : TE} {t : TA} (h : PA X (.Starred e p :: es) (StX.tStar X.K te t)) (hK : X.K = K := by rfl) : PA X (.Starred e p :: es) (StX.tStar K te t) := by subst hK; exact h
end
end XT

namespace XT
open PySem PySem.Spec PyProof.Rows L2
/-! ### data of ints -/
theorem dpAll_ints {K : PySem.W.Frag} {H : Hp} (L : List Int) : DpAll K H (L.map V.int) (L.map PyData.int) := by
  induction L with
  | nil => exact .nil
  | cons x L ih => exact .cons (.int x) ih
theorem dp_lst {K : PySem.W.Frag} {H : Hp} {p : Addr} {L : List Int} (h : SqL K H p (L.map V.int)) : Dp K H (.ref p) (.list (L.map PyData.int)) := .lst h (dpAll_ints L)
theorem dp_tup {K : PySem.W.Frag} {H : Hp} {p : Addr} {L : List Int} (h : SqT K H p (L.map V.int)) : Dp K H (.ref p) (.tuple (L.map PyData.int)) := .tup h (dpAll_ints L)
theorem eqvAll_ints (L : List Int) : ∀ M : List Int, PyData.eqvAll (L.map PyData.int) (M.map PyData.int) = decide (L = M) := by
  induction L with
  | nil =>
    intro M
    cases M with
    | nil => simp [PyData.eqvAll]
    | cons y M => simp [PyData.eqvAll]
  | cons x L ih =>
    intro M
    cases M with
    | nil => simp [PyData.eqvAll]
    | cons y M =>
      rw [List.map_cons, List.map_cons, PyData.eqvAll, ih]
      by_cases h : x = y
      · subst h
        simp [PyData.eqv]
      · have : (PyData.int x).eqv (.int y) = false := by simp [PyData.eqv, h]
        rw [this]
        simp [h]
theorem eqv_tups (L M : List Int) : PyData.eqv (.tuple (L.map PyData.int)) (.tuple (M.map PyData.int)) = decide (L = M) := by
  rw [PyData.eqv]
  exact eqvAll_ints L M
theorem eqv_lsts (L M : List Int) : PyData.eqv (.list (L.map PyData.int)) (.list (M.map PyData.int)) = decide (L = M) := by
  rw [PyData.eqv]
  exact eqvAll_ints L M
theorem shaped_lst (L : List Int) : SeqAt.shaped (.list (L.map PyData.int)) = true := PySem.W.ke_shaped_ints L
theorem shaped_tup (L : List Int) : SeqAt.shaped (.tuple (L.map PyData.int)) = true := by
  have := PySem.W.ke_shaped_ints L
  unfold SeqAt.shaped at this ⊢
  simpa [PyData.canLay0, PyData.depth] using this
/-! ### bool(x) by its truth -/
section
variable {prog : Program} {w : World} {A : Around} {E : Value → Shared → Prop} {s : Shared}
theorem bool_gen {v : Value} {Q : Value → Shared → Prop} (h : wpAny (model prog w) A.in1.in1 (truthy v) (fun b s1 => Q (.bool b) s1) E s) : wpAny (model prog w) A (call (.type "bool") [v]) Q E s := by
  refine callType_codes (T := "bool") (Bi := Builtin.«object.__init__») (Q₁ := fun r s1 => ∃ b, r = Value.bool b ∧ Q r s1) PySem.F.called_bool (PySem.F.typeCall_bool_1 _) PySem.F.entry_object_init ?_ ?_
  · refine codeAny_of_tree ?_
    show wpAny _ A.in1.in1 (do checkBuiltinCall "bool.__new__" ⟨[.type "bool", v], []⟩; again (.builtin "bool.__new__" ⟨[.type "bool", v], []⟩)) _ _ s
    refine wpAny_bind (wpAny_of_eq (PySem.F.newCall_bool_1 _) (wpAny_pure ⟨plainId_quiet (by decide +kernel) _, codeAny_builtin PySem.F.entry_bool_new ?_⟩))
    rw [Around.under_plainId (by decide +kernel) _]
    unfold Builtin.«bool.__new__»
    refine wpAny_bind (wpAny_of_eq (a := true) type_bool ?_)
    refine PySem.W.KFB.if_not rfl ?_
    refine wpAny_bind (wpAny_of_eq (a := true) PySem.F.conv_sub_bool ?_)
    refine PySem.W.KFB.if_not rfl ?_
    refine wpAny_bind (m := someArgs "bool" 0 1 _) (wpAny_of_eq (a := [v]) (by first | rfl | kernel_rfl | simp [someArgs]) ?_)
    dsimp only
    exact wpAny_bind (wpAny_mono h (fun b s1 q => wpAny_pure ⟨b, rfl, q⟩) fun _ _ y => y)
  · rintro obj s₁ ⟨b, rfl, hq⟩
    exact ⟨PySem.typeIs_bool _ _, PySem.F.args_object_init_2 _ _, object_init_meets PySem.F.called_bool.init.lookup PySem.F.called_bool.made (by decide) prog w A.in1 _ s₁ ⟨PySem.typeIs_bool _ _, rfl, hq⟩⟩
end
section
variable {X : Cx} (K : PySem.W.Frag)
theorem boolT (hK : X.K = K := by rfl) : CallR X (.type "bool") (fun xs H Q => ∃ (a : Addr) (zs : List V), xs = [.ref a] ∧ SqT K H a zs ∧ Q (.bl (!zs.isEmpty)) H) := by
  subst hK
  intro pins s σ H xs us Q I r h
  obtain ⟨a, zs, rfl, hq, q⟩ := h
  obtain rfl := Vals.ref1 r
  obtain ⟨its, rv, pl, hz⟩ := I.tuple hq
  have hl := line63
  have hlen := rv.length
  refine bool_gen (truthy_tuple pl (by simp only [List.size_toArray]; omega) ?_)
  exact ⟨.bl (!zs.isEmpty), H, I.tok _, by rw [isEmpty_of rv]; rfl, q⟩
end
end XT

namespace XT
open PySem PySem.Spec PyProof.Rows L2
/-! ### defs that ask which list or tuple is being written (repr): nothing of that kind is under way -/
/-- as FnR, no repr being under way -/
def FnG (P : Program) (w : World) (K : PySem.W.Frag) (mg : Str → Option Value) (base : Heap) (CX : CXT) (k : Nat) (f : Addr) (sp : Sp) : Prop :=
  ∀ (A : Around) (outer : List Env) (s : Shared) (H : Hp) (us : List Value) (vs : List V) (Q : VK) (E : XK), A.guards = some [] → Room k A → Env0 P w K mg base A outer s H → Vals vs us → sp vs H Q E →
    codeAny (model P w) A (.call (.ref f) ⟨us, []⟩) (CR CX outer P w H s Q E) s
section
variable {P : Program} {w : World} {K : PySem.W.Frag} {mg : Str → Option Value} {base : Heap} {CX : CXT} {j k : Nat} {f : Addr} {sp sp' : Sp}
theorem FnG.imp (F : FnG P w K mg base CX k f sp) (h : ∀ vs H Q E, sp' vs H Q E → sp vs H Q E) : FnG P w K mg base CX k f sp' := fun A outer s H us vs Q E hg hr e0 r hs => F A outer s H us vs Q E hg hr e0 r (h _ _ _ _ hs)
theorem FnR.toG (F : FnR P w K mg base CX k f sp) : FnG P w K mg base CX k f sp := fun A outer s H us vs Q E _ hr e0 r hs => F A outer s H us vs Q E hr e0 r hs
/-- a def by its body, one entry at a time -/
theorem fnG_of {name qual : Str} {params : Arguments} {body : List Stmt} {scope : Scope} {dV kV doc pm cdv ct oc : Value} {an od : Option Addr}
    {osl : Array (Option Value)} {N ps : List Str} (lk : K.lookup f = some ⟨oc, od, .func (PySem.W.fnOf name qual params body scope dV kV doc pm an cdv ct), osl⟩) (hcd : PySem.W.codeIn K cdv qual = true) (S : FnScope N ps scope)
    (hb : Binds K (PySem.W.fnOf name qual params body scope dV kV doc pm an cdv ct) ps []) (len : ∀ vs H Q E, sp vs H Q E → vs.length = ps.length)
    (hbody : ∀ (A : Around) (outer : List Env) (s : Shared) (H : Hp) (vs : List V) (Q : VK) (E : XK), (A.deeper (envOfC qual scope s.heap.objs.size f cdv)).guards = some [] → Room k (A.deeper (envOfC qual scope s.heap.objs.size f cdv)) → sp vs H Q E →
      ∃ t, PSs (cxOf CX P w K mg base N qual scope f cdv A outer s H E) body t ∧ t { nx := fun _ H' => Q .non H', rt := Q } (start N vs) H) :
    FnG P w K mg base CX (k + 1) f sp := by
  intro A outer s H us vs Q E hg hr e0 r hsp
  have hl := len _ _ _ _ hsp
  have hlu : us.length = ps.length := r.length ▸ hl
  have keep : ∀ b o, base.get? b = some o → s.heap.get? b = some o := fun b o e => (e0.bs b o e).1
  have KX : K.In s.heap := e0.mod.kin.keeps keep
  have lim : s.heap.NoLimit := e0.mod.nolimit.keeps keep
  have hkind : ∀ y ∈ ps.zip us, scope.names.lookup y.1 = some .local ∨ (scope.names.lookup y.1 = some .cell ∧ ((cellsFrom (s.heap.objs.size + 1) scope.names []).lookup y.1).isSome = true) := fun ⟨n, v⟩ hy => by
    rcases S.par n (List.of_mem_zip hy).1 with q | q
    · exact .inl q
    · exact .inr ⟨q, PySem.W.cellsFrom_some _ _ _ (.inl q)⟩
  have hbt : BindsTo s (PySem.W.fnOf name qual params body scope dV kV doc pm an cdv ct) ⟨us, []⟩ (ps.zip us) := by
    have z := hb s us KX (by simpa using hlu)
    simpa using z
  refine codeAny_call_function hr.depth (KX _ _ lk) rfl S.co S.gen rfl (PySem.W.codeRec_of KX hcd) (hbt _ _ _ _ ?_)
  refine wpAny_newFunctionEnv_cells S.kind hkind fun env he s1 x => ?_
  subst he
  refine ⟨lim.keeps x.toInCall.keep, codeAny_func ?_⟩
  obtain ⟨t, ht, hq⟩ := hbody A outer s H vs Q E hg (hr.deeper _) hsp
  have I : Inv (cxOf CX P w K mg base N qual scope f cdv A outer s H E) [] (start N vs) H s1 := inv_start S hr.hd e0 hl r x
  have fin : ∀ {σ' : L2.St} {H' : Hp} {v : V} {u : Value} {s' : Shared}, Inv (cxOf CX P w K mg base N qual scope f cdv A outer s H E) [] σ' H' s' → RelV v u → Q v H' → CE outer P w H s Q u s' :=
    fun {σ' H' v u s'} J rv q => ⟨v, H', J.os, J.bare, J.base, J.hok, rv, q⟩
  refine wpAny_mono (ht.run [] s1 (start N vs) H _ I hq) (fun fl s' hs => ?_) fun e s' hs => hs
  match fl, hs with
  | .ret u, ⟨v, σ', H', J, rv, q⟩ => exact fin J rv q
  | .next, ⟨σ', H', J, q⟩ => exact fin (v := V.non) (u := Value.none) J rfl q
  | .brk, ⟨_, _, _, q⟩ => exact q.elim
  | .cont, ⟨_, _, _, q⟩ => exact q.elim
/-- a def that may raise, by positional values -/
theorem okGX {x qual : Str} {st : Stmt} {fd : FuncData} {N ps : List Str} (F : Fun K x qual st f fd) (S : FnScope N ps (defScope st)) (B : Bnd x qual st ps) (len : ∀ vs H Q E, sp vs H Q E → vs.length = ps.length)
    (hbody : ∀ (cdv : Value) (A : Around) (outer : List Env) (s : Shared) (H : Hp) (vs : List V) (Q : VK) (E : XK), (A.deeper (envOfC qual (defScope st) s.heap.objs.size f cdv)).guards = some [] → Room k (A.deeper (envOfC qual (defScope st) s.heap.objs.size f cdv)) → sp vs H Q E →
      ∃ t, PSs (cxOf CX P w K mg base N qual (defScope st) f cdv A outer s H E) (defBody st) t ∧ t { nx := fun _ H' => Q .non H', rt := Q } (start N vs) H) : FnG P w K mg base CX (k + 1) f sp := by
  have hb := F.binds B
  obtain ⟨oc, od, kV, doc, pm, an, cdv, ct, osl, rfl, lk, hcd⟩ := F.ex
  exact fnG_of lk hcd S hb len fun A outer s H vs Q E hg hr hsp => hbody cdv A outer s H vs Q E hg hr hsp
/-- a def that may raise, by positional values -/
theorem okX {x qual : Str} {st : Stmt} {fd : FuncData} {N ps : List Str} (F : Fun K x qual st f fd) (S : FnScope N ps (defScope st)) (B : Bnd x qual st ps) (len : ∀ vs H Q E, sp vs H Q E → vs.length = ps.length)
    (hbody : ∀ (cdv : Value) (A : Around) (outer : List Env) (s : Shared) (H : Hp) (vs : List V) (Q : VK) (E : XK), Room k (A.deeper (envOfC qual (defScope st) s.heap.objs.size f cdv)) → sp vs H Q E →
      ∃ t, PSs (cxOf (L2.CX P w) P w K mg base N qual (defScope st) f cdv A outer s H E) (defBody st) t ∧ t { nx := fun _ H' => Q .non H', rt := Q } (start N vs) H) : FnR P w K mg base (L2.CX P w) (k + 1) f sp := by
  have G := F.okX S len hbody
  have hb := F.binds B
  exact (G.raw hb .nil).imp fun vs H Q E h => by simpa using h
end
end XT

namespace XT
open PySem PySem.Spec PyProof.Rows L2
/-! ### several clauses «except X as n» behind one another -/
/-- the ways out of a suite that has bound slot i -/
def endsAs (i : Nat) (D : Ends) : Ends := { nx := fun σ' H' => D.nx (σ'.set i none) H', rt := D.rt, bk := fun σ' H' => D.bk (σ'.set i none) H', ct := fun σ' H' => D.ct (σ'.set i none) H' }
/-- what the clauses wish of an exception: class, slot, suite -/
def wAsL (K : PySem.W.Frag) (Wout : WX) (D : Ends) : List (Value × Nat × (Addr → Value → Option Addr → TS)) → WX
  | [] => Wout
  | (c, i, ts) :: r => fun cls d σ H => ∃ b, PySem.W.exmOne K cls c = some b ∧ (b = true → ∀ a, H a = none → ts a cls d (endsAs i D) (σ.set i (some (.ref a))) H) ∧ (b = false → wAsL K Wout D r cls d σ H)
/-- the written clauses, one by one -/
inductive AsOk (X : Cx) : List ExceptHandler → List (Value × Nat × (Addr → Value → Option Addr → TS)) → Prop
  | nil : AsOk X [] []
  | cons {x n : Str} {c : Value} {i : Nat} {ts : Addr → Value → Option Addr → TS} {b₀ : Stmt} {suite : List Stmt} {np pos' : Pos} {hds : List ExceptHandler} {l : List (Value × Nat × (Addr → Value → Option Addr → TS))} (hc : Names X x c)
      (hi : X.N[i]? = some n) (hln : X.env.kindOf n = some .local)
      (hsu : ∀ (a : Addr) (oe : Obj) (cls : Value) (d : Option Addr) (pn : List (Addr × Obj)), Zc cls d oe → (∃ vs, oe.data = .fields vs) → PSs (X.suite a ((a, oe) :: pn)) (b₀ :: suite) (ts a cls d)) (r : AsOk X hds l) :
      AsOk X (.ExceptHandler (some (.Name x np)) (some n) (b₀ :: suite) pos' :: hds) ((c, i, ts) :: l)
section
variable {X : Cx} {body : List Stmt} {h₀ : ExceptHandler} {hds : List ExceptHandler} {l : List (Value × Nat × (Addr → Value → Option Addr → TS))} {pos : Pos} {tb : WX → TS} {Wout : WX}
theorem ps_try_asL (hs : X.stack = X.env :: X.outer) (hf : X.env.frame = some X.env.locals) (hN : X.N.Nodup) (tk : Takes X Wout)
    (hb : ∀ (W : WX) (pn : List (Addr × Obj)) (xe : Value → Shared → Prop), Takes (X.tr pn xe) W → PassesOwn (model X.prog X.w) X.A X.env xe → PSs (X.tr pn xe) body (tb W))
    (hh : AsOk X (h₀ :: hds) l) : PS X (.Try body (h₀ :: hds) [] [] pos) (fun D σ H => tb (wAsL X.K Wout D l) D σ H) := by
  refine ⟨fun pins s σ H D I h => ?_⟩
  have ok := I.ok
  have hfr : X.A.frames = some (X.env :: X.outer) := ok.frames.trans (congrArg some hs)
  refine wpAny_Try_except ?_
  refine wpAny_mono ((hb (wAsL X.K Wout D l) (X.pn ++ pins) (fun e s₁ => wpAny (model X.prog X.w) X.A (noteFrame e X.env) (fun _ s₂ => wpAny (model X.prog X.w) X.A (setFlight e none) (fun _ s₃ =>
    wpAny (model X.prog X.w) X.A (handleBy e X.env (h₀ :: hds)) (SP X pins D) X.xe s₃) X.xe s₂) X.xe s₁) (fun u s' xx => ?_) PassesOwn.looking).run [] s σ H D (I.toTry _) h) (fun f s1 hsp => ?_) (fun e s1 he => he)
  · obtain ⟨a, B, sI, pins', σ', H', cls, d, rfl, J', nb, up, sky, na, os, ag, w⟩ := xx
    have J : Inv X pins σ' H' sI := J'.ofTry ok
    have sky' : Sky B (X.env :: X.outer) a (Zc cls d) X.env.locals s'.heap := hs ▸ sky
    show wpAny (model X.prog X.w) X.A (noteFrame (.ref a) X.env) _ _ _
    refine Sky.land Zc.steady hfr hf sky' fun h3 fl3 up3 => ?_
    have up13 := up.trans up3
    have J3 : Inv X pins σ' H' { s' with heap := h3 } := J.landed nb fl3.1 up13 os ag
    obtain ⟨oe3, vs3, he3, hz3, hd3⟩ := fl3.there
    have nfr : a ∉ frs (X.env :: X.outer) := fun hm => by
      obtain ⟨_, o', e', hnf⟩ := fl3.2.2.1.mem hm
      exact hnf _ (by rw [he3] at e'; cases e'; exact hd3)
    have nL : a ≠ X.env.locals := fun z => nfr (List.mem_filterMap.mpr ⟨X.env, List.mem_cons_self, hf.trans (congrArg some z.symm)⟩)
    have nF : a ∉ X.fs := fun hm => by
      obtain ⟨e, he, q⟩ := List.mem_filterMap.mp hm
      exact nfr (List.mem_filterMap.mpr ⟨e, List.mem_cons_of_mem _ he, q⟩)
    have S3 := J3.suite he3 hd3 na nL nF
    have LT : PySem.W.Looks (model X.prog X.w) h3 (typeOf (.ref a)) cls := fun A Q E s k q => wpAny_typeOf_ref (k _ _ he3) (hz3.1.symm ▸ q)
    have go : ∀ {hds' : List ExceptHandler} {l' : List (Value × Nat × (Addr → Value → Option Addr → TS))}, AsOk X hds' l' → wAsL X.K Wout D l' cls d σ' H' →
        wpAny (model X.prog X.w) X.A (handleBy (.ref a) X.env hds') (SP X pins D) X.xe { s' with heap := h3 } := by
      intro hds' l' hk
      induction hk with
      | nil =>
        intro w
        refine wpAny_handleBy_nil ?_
        obtain ⟨k1, k2, k3, oe, vs, T, oT, ts', he, hz, hd, h1, hr⟩ := id fl3
        unfold PySem.passOn
        refine wpAny_bind (wpAny_field he hd h1 ?_)
        rw [if_neg (show ¬ ((Value.ref T == Value.none) = true) from by simp)]
        have fin : wpAny (model X.prog X.w) X.A (setFlight (.ref a) X.env.frame) (fun _ s4 => wpAny (model X.prog X.w) X.A (throw (.ref a) : Sem Flow) (SP X pins D) X.xe s4) X.xe { s' with heap := h3 } := by
          rw [hf]
          exact HandSPX.setFlight_upZ fl3 fun h4 hh4 up4 => wpAny_throw (tk _ _ ⟨a, B, sI, pins, σ', H', cls, d, rfl, J, nb, up13.trans up4, .inr (.inr (by rw [hs]; exact hh4)), na, os, ag, w⟩)
        first
          | exact wpAny_bind (wpAny_pure (wpAny_bind fin))
          | exact wpAny_bind fin
      | @cons x n c i ts b₀ suite np pos' hds2 l2 hc hi hln hsu r ih =>
        intro w
        obtain ⟨b, hb1, hyes, hno⟩ := w
        refine wpAny_handleBy_cons (codeAny_handlers_test ?_) (by intro q; cases q)
        have LM := PySem.W.exm_one (M := model X.prog X.w) (J3.kIn) LT hb1
        have test : ∀ {Q : Value → Shared → Prop} {E : Value → Shared → Prop}, Q c { s' with heap := h3 } → wpAny (model X.prog X.w) (X.A.mark (some (.ref a))) (eval (.Name x np) X.env) Q E { s' with heap := h3 } := fun {Q E} q => by
          obtain ⟨hg, hdbg, hm | ⟨hm, hv, hnn⟩⟩ := hc
          · exact ld_glob (X := X.suite a ((a, oe3) :: (X.pn ++ pins))) S3 hg hm q hdbg
          · exact ld_blt (X := X.suite a ((a, oe3) :: (X.pn ++ pins))) S3 hg hm hv q hnn hdbg
        refine test (LM.here ?_)
        cases b with
        | true =>
          refine codeAny_handlers_suite_as ?_
          refine HandSPX.lands_againZ fl3 fun h4 fl4 up4 => ?_
          have J4 : Inv X pins σ' H' { s' with heap := h4 } := J.landed nb fl4.1 (up13.trans up4) os ag
          obtain ⟨oe4, vs4, he4, hz4, hd4⟩ := fl4.there
          have S4 := J4.suite he4 hd4 na nL nF
          refine store_ok (X := X.suite a ((a, oe4) :: (X.pn ++ pins))) (v := .ref a) S4 hN hi (.inl hln) rfl (fun s5 S5 => ?_) (.inr hln)
          refine wpAny_mono ((hsu a oe4 cls d (X.pn ++ pins) hz4 ⟨_, hd4⟩).run [] s5 _ H' _ S5 (hyes rfl a na)) (fun f s6 hsp => ?_) (fun _ _ z => False.elim z)
          have done_ : ∀ {σ6 : L2.St} {H6 : Hp} {Q : Shared → Prop}, Inv (X.suite a ((a, oe4) :: (X.pn ++ pins))) [] σ6 H6 s6 → (∀ s7, Inv X pins (σ6.set i none) H6 s7 → Q s7) →
              wpAny (model X.prog X.w) X.A (do bindName X.env n .none; unbindBehindTheSuite X.env n pos') (fun _ s7 => Q s7) X.xe s6 := fun {σ6 H6 Q} S6 hq => gone_ok (S6.unsuite ok) hN hi hln hq
          match f, hsp with
          | .next, ⟨σ6, H6, S6, q6⟩ => exact done_ S6 fun s7 J7 => ⟨_, _, J7, q6⟩
          | .brk, ⟨σ6, H6, S6, q6⟩ => exact done_ S6 fun s7 J7 => ⟨_, _, J7, q6⟩
          | .cont, ⟨σ6, H6, S6, q6⟩ => exact done_ S6 fun s7 J7 => ⟨_, _, J7, q6⟩
          | .ret u, ⟨v6, σ6, H6, S6, r6, q6⟩ => exact done_ S6 fun s7 J7 => ⟨_, _, _, J7, r6, q6⟩
        | false =>
          show wpAny _ X.A (handleBy (.ref a) X.env hds2) _ _ _
          exact ih (hno rfl)
    exact go hh w
  · match f, hsp with
    | .next, ⟨σ', H', J', q⟩ => exact wpAny_execs_nil ⟨σ', H', J'.ofTry ok, q⟩
    | .brk, ⟨σ', H', J', q⟩ => exact ⟨σ', H', J'.ofTry ok, q⟩
    | .cont, ⟨σ', H', J', q⟩ => exact ⟨σ', H', J'.ofTry ok, q⟩
    | .ret u, ⟨v, σ', H', J', r, q⟩ => exact ⟨v, σ', H', J'.ofTry ok, r, q⟩
end
end XT

namespace XT
open PySem PySem.Spec PyProof.Rows L2
/-! ### repr of data -/
mutual
/-- what the text of d may come to -/
def sc : PyData → Nat
  | .none | .bool _ => 5
  | .int _ => 1921
  | .str x => 10 * x.length + 2
  | .list xs | .tuple xs => scAll xs + 3
  | .dict _ => 2
def scAll : List PyData → Nat
  | [] => 0
  | x :: xs => sc x + 2 + scAll xs
end
mutual
/-- data whose text is known: ints not too big, dicts empty -/
def plainD : PyData → Bool
  | .none | .bool _ => true
  | .int i => decide (i.natAbs.log2 < 1920)
  | .str x => x.cps.toList.all fun c => decide (c < 16 ^ 8)
  | .list xs | .tuple xs => plainAll xs
  | .dict kvs => kvs.isEmpty
def plainAll : List PyData → Bool
  | [] => true
  | x :: xs => plainD x && plainAll xs
end
mutual
theorem plain_showable : ∀ d : PyData, plainD d = true → d.showable = true
  | .none, _ => by simp [PyData.showable]
  | .bool _, _ => by simp [PyData.showable]
  | .int i, h => by simpa [PyData.showable, plainD] using h
  | .str _, _ => by simp [PyData.showable]
  | .list xs, h => by
    simp only [PyData.showable]
    exact plainAll_showable xs (by simpa [plainD] using h)
  | .tuple xs, h => by
    simp only [PyData.showable]
    exact plainAll_showable xs (by simpa [plainD] using h)
  | .dict [], _ => by simp [PyData.showable, PyData.showableKv]
  | .dict (_ :: _), h => by simp [plainD] at h
theorem plainAll_showable : ∀ xs : List PyData, plainAll xs = true → PyData.showableAll xs = true
  | [], _ => by simp [PyData.showableAll]
  | x :: xs, h => by
    have h' : plainD x = true ∧ plainAll xs = true := by simpa [plainAll] using h
    simp only [PyData.showableAll, Bool.and_eq_true]
    exact ⟨plain_showable x h'.1, plainAll_showable xs h'.2⟩
end
mutual
theorem shown_sc : ∀ d : PyData, plainD d = true → d.shown.length ≤ sc d
  | .none, _ => by decide +kernel
  | .bool true, _ => by decide +kernel
  | .bool false, _ => by decide +kernel
  | .int i, h => by
    have e : i.natAbs.log2 < 1920 := by simpa [plainD] using h
    have := PySem.int_text_length_le (k := 1920) (by decide) e
    show (Str.ofString (toString i)).length ≤ 1921
    rw [PySem.ofString_length]
    exact this
  | .str x, h => by
    simp only [sc, PyData.shown]
    refine StrLaws.reprText_len x ?_
    unfold plainD at h
    rw [List.all_eq_true] at h
    exact fun c hc => of_decide_eq_true (h c hc)
  | .list xs, h => by
    simp only [sc, PyData.shown]
    have := shownAll_sc xs (by simpa [plainD] using h)
    have := listText_len_le (PyData.shownAll xs)
    omega
  | .tuple xs, h => by
    simp only [sc, PyData.shown]
    have := shownAll_sc xs (by simpa [plainD] using h)
    have := tupleText_len_le (PyData.shownAll xs)
    omega
  | .dict [], _ => by decide +kernel
  | .dict (_ :: _), h => by simp [plainD] at h
theorem shownAll_sc : ∀ xs : List PyData, plainAll xs = true → ((PyData.shownAll xs).map (·.length)).sum + 2 * (PyData.shownAll xs).length ≤ scAll xs
  | [], _ => by simp [PyData.shownAll, scAll]
  | x :: xs, h => by
    have h' : plainD x = true ∧ plainAll xs = true := by simpa [plainAll] using h
    have h1 := shown_sc x h'.1
    have h2 := shownAll_sc xs h'.2
    simp only [PyData.shownAll, scAll, List.map_cons, List.sum_cons, List.length_cons]
    omega
end
theorem scAll_ints (L : List Int) : scAll (L.map PyData.int) = 1923 * L.length := by
  induction L with
  | nil => rfl
  | cons x L ih => simp only [List.map_cons, scAll, ih, sc, List.length_cons]; omega
theorem log2_lt_of {m : Nat} (h : m < 2 ^ 1920) : m.log2 < 1920 := by
  by_cases e : m = 0
  · subst e
    decide
  · exact (Nat.log2_lt e).mpr h
theorem plainAll_ints {L : List Int} (h : ∀ x ∈ L, x.natAbs < 2 ^ 1920) : plainAll (L.map PyData.int) = true := by
  induction L with
  | nil => rfl
  | cons x L ih =>
    simp only [List.map_cons, plainAll, Bool.and_eq_true]
    refine ⟨?_, ih fun y hy => h y (List.mem_cons_of_mem _ hy)⟩
    simp only [plainD, decide_eq_true_eq]
    exact log2_lt_of (h x List.mem_cons_self)
/-- x stands for the data d: flat and nested lists and tuples; an empty dict alone, or second in a pair -/
def Rd (K : PySem.W.Frag) (H : Hp) (x : V) (d : PyData) : Prop :=
  (Dp K H x d ∧ d.hasDict = false) ∨ (∃ a, x = .ref a ∧ H a = some (.dK []) ∧ d = .dict []) ∨ ∃ (a b : Addr) (i : Int), x = .ref a ∧ SqT K H a [.int i, .ref b] ∧ H b = some (.dK []) ∧ d = .tuple [.int i, .dict []]
section
variable {X : Cx} {pins : List (Addr × Obj)} {σ : L2.St} {H : Hp} {s : Shared}
theorem emp_reads {a : Addr} (I : Inv X pins σ H s) (h : H a = some (.dK [])) : Reads s.heap (.ref a) (.dict []) [a] ∧ a ≠ sysModules := by
  obtain ⟨_, hs, vs, hkv, o, es, ep, ho, hx, hd, _, hp, _⟩ := I.hok a _ h
  have ev : vs = [] := by cases hkv; rfl
  subst ev
  have ee : es.toList = [] := by
    first
      | (cases hp; assumption)
      | (have := hp.length; simpa using this)
      | (generalize es.toList = l at hp; cases hp; rfl)
  refine ⟨?_, fun z => by subst z; simp at hs⟩
  have z := Reads.dict (kvs := []) (as := []) (bs := []) ho hx.1 hd (by rw [ee]; exact .nil) (by rw [ee]; exact .nil)
  simpa using z
theorem Rd.reads {x : V} {u : Value} {d : PyData} (I : Inv X pins σ H s) (h : Rd X.K H x d) (r : RelV x u) : ∃ as, Reads s.heap u d as ∧ (d.hasDict = true → sysModules ∉ as) := by
  rcases h with ⟨h, hn⟩ | ⟨a, rfl, h, rfl⟩ | ⟨a, b, i, rfl, ht, h, rfl⟩
  · obtain ⟨as, q⟩ := Dp.reads I d x u h r
    exact ⟨as, q, PyData.noDict_hsm hn⟩
  · cases r
    obtain ⟨q, ne⟩ := emp_reads I h
    exact ⟨_, q, fun _ z => ne (List.mem_singleton.mp z).symm⟩
  · cases r
    obtain ⟨q, ne⟩ := emp_reads I h
    obtain ⟨its, rv, ⟨o, ho, hc, n, hd⟩, _⟩ := I.tuple ht
    cases rv with
    | cons r1 rr =>
      cases rr with
      | cons r2 rr =>
        cases rr
        obtain ⟨t, rfl⟩ := r1
        cases r2
        refine ⟨_, Reads.tuple ho hc hd (.cons (.int i t) (.cons q .nil)), fun _ z => ?_⟩
        simp at z
        exact ne z.symm
/-- repr(x) of data -/
def rReprD (K : PySem.W.Frag) : List V → Hp → VK → Prop := fun xs H Q => ∃ x d, xs = [x] ∧ Rd K H x d ∧ plainD d = true ∧ d.depth ≤ 50 ∧ sc d ≤ 16000000 ∧ Q (.str d.shown) H
theorem call_reprD (hg : X.A.guards = some []) (hu : X.A.units + 64 < cLine) : CallR X (.builtin "repr") (rReprD X.K) := by
  intro pins s σ H xs us Q I r h
  obtain ⟨x, d, rfl, hr, hp, hd, hz, q⟩ := h
  obtain ⟨u, rfl, ru⟩ := r.one
  obtain ⟨as, hre, hsm⟩ := hr.reads I ru
  have hsz : d.shown.length ≤ sizeLine := by
    have := shown_sc d hp
    rw [sizeLine_eq]
    omega
  have fin : ∀ h' v tk, (∀ b o, s.heap.get? b = some o → h'.get? b = some o) → EP X pins σ Q (.str d.shown v) { s with heap := h', toks := tk } := fun h' v tk k => ⟨.str d.shown, H, I.kept (t' := tk) k, ⟨v, rfl⟩, q⟩
  cases hre with
  | none => exact PySem.P.repr_of_none (fin s.heap _ _ fun _ _ z => z)
  | bool b => exact PySem.P.repr_of_bool (by cases b <;> exact fin s.heap _ _ fun _ _ z => z)
  | int i t => exact PySem.P.repr_of_int (by simpa [plainD] using hp) (fin s.heap _ _ fun _ _ z => z)
  | str y t => exact PySem.P.repr_of_str (fin s.heap _ _ fun _ _ z => z) hsz
  | list h1 h2 h3 h4 => exact repr_of_reads' (.list h1 h2 h3 h4) (plain_showable _ hp) hsm hg (by omega) (fun _ _ z => z) fin hsz
  | tuple h1 h2 h3 h4 => exact repr_of_reads' (.tuple h1 h2 h3 h4) (plain_showable _ hp) hsm hg (by omega) (fun _ _ z => z) fin hsz
  | dict h1 h2 h3 h4 h5 => exact repr_of_reads' (.dict h1 h2 h3 h4 h5) (plain_showable _ hp) hsm hg (by omega) (fun _ _ z => z) fin hsz
end
end XT

namespace XT
open PySem PySem.Spec PyProof.Rows L2
/-! ### the law's call, no repr under way at its start -/
section
variable {P : Program} {w : World} {K : PySem.W.Frag} {mg mb : Str → Option Value} {CX : CXT} {k : Nat} {fa a : Addr} {sp : Sp} {s₁ : Shared} {vs : List Value} {ns : List Int}
/-- from one abstract heap: nothing but the script is tracked -/
theorem law_coreG (H : Hp) (KX : K.In s₁.heap) (hns : s₁.heap.Ns mainGlobals mg) (hb : s₁.heap.Ns builtinsNs mb) (hbb : ∀ x : Str, x ≠ "__name__" → mb x = bootBuiltins x) (hlim : s₁.heap.NoLimit) (hg : s₁.gens = #[])
    (ha : s₁.heap.get? a = some { cls := .type "list", data := .seq vs.toArray }) (hr : Room k callerA)
    (F : ∀ base : Heap, K.In base → base.Ns mainGlobals mg → FnG P w K mg base CX k fa sp)
    (hq : sp [.ref a] H (fun v _ => v = .bl true) fun _ _ _ => False) (hCX : ∀ H e s', CX [] H s₁ (fun _ _ _ => False) e s' → False)
    (hO : Only H) (hok : HOk P w H s₁.heap) (hA : ∀ b, H b ≠ none → b = a) (hK : H a ≠ none → K.lookup a = none) :
    codeAny (model P w) callerA (.call (.ref fa) ⟨[.ref a], []⟩) (fun r s' => r = .ok (.ret (.bool true)) ∧ OldK s₁.heap s'.heap ∧ s'.os = s₁.os ∧ AllBare s'.gens) s₁ := by
  have free : ∀ {b : Addr}, (b = a → False) → H b = none := fun {b} h => by
    by_cases q : H b = none
    · exact q
    · exact (h (hA b q)).elim
  have noA : ∀ {b : Addr} {o : Obj} {es : Array DictEntry} {ep : Nat}, s₁.heap.get? b = some o → o.data = .dict es ep → H b = none := fun {b o es ep} e d => free fun z => by
    subst z
    rw [ha] at e
    cases e
    have d' : Data.seq vs.toArray _ = Data.dict es ep := d
    cases d'
  have hKb : K.In (hidT s₁.heap H) := fun b o e => hidT_get (KX b o e) (by
    by_cases q : H b = none
    · exact q
    · have z := hA b q
      subst z
      rw [hK q] at e
      cases e)
  have nsK : ∀ {b : Addr} {m : Str → Option Value}, s₁.heap.Ns b m → (hidT s₁.heap H).Ns b m := fun {b m} ⟨o, es, ep, e, d, r⟩ => ⟨o, es, ep, hidT_get e (noA e d), d, r⟩
  have hM : Mod K mg (hidT s₁.heap H) := ⟨hKb, nsK hns, ⟨mb, nsK hb, hbb⟩, let ⟨mc, h1, h2⟩ := hlim; ⟨mc, nsK h1, h2⟩⟩
  have e0 : Env0 P w K mg (hidT s₁.heap H) callerA [] s₁ H := ⟨rfl, hM, fun b o e => of_hidT e, Nat.le_of_eq (hidT_size _ _), trivial, fun b hb => absurd (show b ∈ ([] : List Addr) from hb) (by simp), hok, .of_eq hg⟩
  refine codeAny_mono (F _ hKb (nsK hns) callerA [] s₁ H [.ref a] [.ref a] _ _ rfl hr e0 (.cons rfl .nil) hq) fun r s' h => ?_
  match r, h with
  | .error e, h => exact (hCX H e s' h).elim
  | .ok (.ret u), ⟨v, H', os, bare, un, hok', r', q⟩ =>
    have q' : v = .bl true := q
    subst q'
    obtain rfl : u = Value.bool true := r'
    refine ⟨rfl, OldK.of_keep fun b o e => ?_, os, bare⟩
    cases q : H b with
    | none => exact un.keep b o e q (by intro z; exact absurd (show b ∈ ([] : List Addr) from z) (by simp)) (by simp)
    | some u =>
      rcases hO b with z | ⟨ob, xs, z⟩
      · rw [q] at z
        cases z
      · obtain ⟨e1, _⟩ := hok b _ z
        obtain ⟨e2, _⟩ := hok' b _ (un.frzs b ob _ z)
        rw [e] at e1
        cases e1
        exact e2
theorem law_callG (KX : K.In s₁.heap) (hns : s₁.heap.Ns mainGlobals mg) (hb : s₁.heap.Ns builtinsNs mb) (hbb : ∀ x : Str, x ≠ "__name__" → mb x = bootBuiltins x) (hlim : s₁.heap.NoLimit) (hg : s₁.gens = #[])
    (ha : s₁.heap.get? a = some { cls := .type "list", data := .seq vs.toArray }) (hi : IntsAre vs ns) (hl : ns.length ≤ sizeLine) (hr : Room k callerA)
    (F : ∀ base : Heap, K.In base → base.Ns mainGlobals mg → FnG P w K mg base CX k fa sp)
    (hsp : ∀ H : Hp, Only H → SqL K H a (ns.map V.int) → sp [.ref a] H (fun v _ => v = .bl true) fun _ _ _ => False)
    (hCX : ∀ H e s', CX [] H s₁ (fun _ _ _ => False) e s' → False) :
    codeAny (model P w) callerA (.call (.ref fa) ⟨[.ref a], []⟩) (fun r s' => r = .ok (.ret (.bool true)) ∧ OldK s₁.heap s'.heap ∧ s'.os = s₁.os ∧ AllBare s'.gens) s₁ := by
  have rv := vals_ints hi
  have lenV := hi.length
  cases hk : K.lookup a with
  | some o =>
    have e := KX a o hk
    rw [ha] at e
    cases e
    have hO : Only fun _ => none := fun _ => .inl rfl
    exact law_coreG (fun _ => none) KX hns hb hbb hlim hg ha hr F (hsp _ hO (.inr ⟨_, vs.toArray, _, hk, rfl, rfl, rfl, by rw [List.size_toArray, lenV]; exact hl, by simpa using rv⟩)) hCX hO (fun b u z => nomatch (show (none : Option HO) = some u from z)) (fun b z => absurd rfl z) fun z => absurd rfl z
  | none =>
    let o : HO := .frz { cls := .type "list", data := .seq vs.toArray } (.lst (ns.map V.int))
    let H : Hp := fun b => if b = a then some o else none
    have at_ : H a = some o := if_pos rfl
    have off : ∀ {b}, b ≠ a → H b = none := fun h => if_neg h
    have hO : Only H := fun b => by
      by_cases e : b = a
      · subst e
        exact .inr ⟨_, _, at_⟩
      · exact .inl (off e)
    refine law_coreG H KX hns hb hbb hlim hg ha hr F (hsp H hO (.inl (.inr ⟨_, at_⟩))) hCX hO (fun b u z => ?_) (fun b z => ?_) fun _ => hk
    · by_cases e : b = a
      · subst e
        rw [at_] at z
        cases z
        exact ⟨ha, by rw [List.length_map]; exact hl, vs, _, rv, ha⟩
      · rw [off e] at z
        cases z
    · by_cases e : b = a
      · exact e
      · exact absurd (off e) z
end
/-- the goal of the head, from the law's promise -/
theorem walkG {l : PySem.W.OpenLaw} {n k : Nat} {q : Program} {loose : List Str} {XP : (Str → Option Value) → Heap → Prop} {YP : World → Heap → Prop} {d : DefRec} {K : Params → PySem.W.Frag} {CX : World → CXT} {sp : World → Sp}
    (hn : l.most = some n) (hn2 : n ≤ sizeLine) (hdf : d.params.defaults = []) (hr : Room k callerA)
    (hY : ∀ (w : World) (h : Heap), YP w h → (K w.params).In h)
    (F : ∀ (w : World) (mg : Str → Option Value) (fa : Addr) (h : Heap), (K w.params).In h → h.Ns mainGlobals mg → mg d.name = some (.ref fa) →
      ∀ base : Heap, (K w.params).In base → base.Ns mainGlobals mg → FnG l.prog w (K w.params) mg base (CX w) k fa (sp w))
    (hsp : ∀ (w : World) (H : Hp) (a : Addr) (ns : List Int), ns.length ≤ n → Only H → SqL (K w.params) H a (ns.map V.int) → sp w [.ref a] H (fun v _ => v = .bl true) fun _ _ _ => False)
    (hCX : ∀ (w : World) (H : Hp) (s : Shared) (e : Value) (s' : Shared), CX w [] H s (fun _ _ _ => False) e s' → False) :
    PySem.W.WalkO q loose XP YP l.row.toRowW d [] (fun f vs => PySem.call f vs) := by
  refine Att.attach_call hn hdf fun w s₀ s₁ mg mb fa o pm cd doc a vs ns G Y ho hd hcd hmg hobj hints hlen hg => ?_
  have KX := hY w _ Y
  exact law_callG KX G.T.g G.T.b G.T.builtins G.T.nolimit hg hobj hints (Nat.le_trans hlen hn2) hr (F w mg fa _ KX G.T.g hmg) (fun H hO hS => hsp w H a ns hlen hO hS) fun H e s' => hCX w H s₁ e s'
end XT

namespace XT
open PySem PySem.Spec PyProof.Rows L2
/-! ### own errors that keep one field -/
section
variable {X : Cx}
/-- isinstance(e, c), e the exception that the suite holds, with a dict of its own -/
def rIsED (K : PySem.W.Frag) (D a : Addr) (cls : Value) (d : Option Addr) : List V → Hp → VK → Prop := fun xs H Q => ∃ (c : V) (cv : Value) (b : Bool) (dd : Addr) (fs : List (Str × V)), xs = [.ref a, c] ∧ cls = .ref D ∧ (∀ u, RelV c u → u = cv) ∧ d = some dd ∧ H dd = some (.xd fs) ∧ PySem.W.kitOne K (.ref D) cv = some b ∧ Q (.bl b) H
theorem call_isED {a D : Addr} {oe : Obj} {cls : Value} {d : Option Addr} {pn : List (Addr × Obj)} (C : ExcC X.K D) (hz : Zc cls d oe) (hf : ∃ vs, oe.data = .fields vs) : CallR (X.suite a ((a, oe) :: pn)) (.builtin "isinstance") (rIsED X.K D a cls d) := by
  intro pins s σ H xs us Q I r h
  obtain ⟨c, cv, b, dd, fs, rfl, rfl, hcv, rfl, ed, e, q⟩ := h
  cases r with
  | cons rx rr =>
    cases rr with
    | cons rt rr =>
      cases rr
      cases rx
      have ec := hcv _ rt
      subst ec
      obtain ⟨hget, _⟩ := I.pin (a, oe) (List.mem_append.mpr (.inl List.mem_cons_self))
      obtain ⟨vs, hv⟩ := hf
      obtain ⟨mA, hns, hr⟩ := show ∃ mA, s.heap.Ns1 dd mA ∧ ∀ f, RelO (fs.lookup f) (mA f) from I.hok dd _ ed
      obtain ⟨od, ho, _⟩ := lookIn_ns hns
      have J : PySem.W.InstAt s.heap a oe D (some od) := ⟨hget, hz.1, by unfold PySem.W.notCls; rw [hv] <;> rfl, by rw [hz.2]; exact ho⟩
      have hc : (PySem.W.clsIn X.K D).isSome = true := by
        obtain ⟨cd, hc, _⟩ := PySem.W.any_some C.hd
        rw [hc]
        rfl
      exact PySem.W.kia_one (PySem.W.kitx_exc hc C.hg C.hk C.hs C.ha C.hn C.ht C.hm) I.kIn J e (fun z => nomatch z) fun tk => ⟨.bl b, H, I.kept (t' := tk) fun _ _ z => z, rfl, q⟩
end
/-- the __init__ of such an error: self.f = v -/
def spErr (f : Str) (C : Addr) : Sp := fun vs H Q _ => ∃ (a : Addr) (v : V), vs = [.ref a, v] ∧ H a = some (exo a C none) ∧ ∀ d, H d = none → d ≠ a → Q .non (upd (upd H d (exd d [(f, v)])) a (exo a C (some d)))
/-- what the written part says of such an error -/
structure ErrC (K : PySem.W.Frag) (C fI : Addr) (f : Str) : Prop where
  oex : OexC K C
  iC : PySem.W.findIn K (.ref C) "__init__" = some (some (.ref fI))
  tI : PySem.W.typeIn K (.ref fI) = some (.type "function")
  no : PySem.W.findIn K (.ref C) f = some none
  ga : PySem.W.findIn K (.ref C) "__getattribute__" = some (some (.builtin "BaseException.__getattribute__"))
  gg : PySem.W.findIn K (.ref C) "__getattr__" = some none
  hd : PySem.W.hasDictIn K C = true
  ha : PySem.W.findIn K (.ref C) "__class__" = some (some (.builtin "object.__class__"))
  hn : PySem.W.specialIn K (.builtin "object.__class__") "__get__" = some (some (.builtin "getset_descriptor.__get__"))
  ht : PySem.W.takesIn K (.builtin "object.__class__") = some true
  hm : PySem.W.mroIn K C (.type "object") = some true
theorem ErrC.xf {K : PySem.W.Frag} {C fI : Addr} {f : Str} (T : ErrC K C fI f) : XfC K C := ⟨T.ga, T.gg, T.oex.exC, T.hd⟩
theorem ErrC.exc {K : PySem.W.Frag} {C fI : Addr} {f : Str} (T : ErrC K C fI f) : ExcC K C := ⟨T.ga, T.gg, T.oex.exC, T.hd, T.ha, T.hn, T.ht, T.hm⟩
theorem made_same {H : Hp} {a d C : Addr} {f : Str} {v : V} (ha : H a = none) (hd : d ≠ a) :
    upd (del (upd (upd (upd H a (exo a C none)) d (exd d [(f, v)])) a (exo a C (some d))) a) d (.xd [(f, v)]) = upd H d (.xd [(f, v)]) := by
  funext b
  by_cases e1 : b = d
  · subst e1
    rw [upd_same, upd_same]
  · rw [upd_ne e1, upd_ne e1]
    by_cases e2 : b = a
    · subst e2
      rw [del_same, ha]
    · rw [del_ne e2, upd_ne e2, upd_ne e1, upd_ne e2]
section
variable {X : Cx}
/-- C(e), the error made -/
def tErr (C : Addr) (f : Str) (te : TE) : L2.St → Hp → XK → Prop := fun σ H Q => te σ H fun v H1 => tMkO C (spErr f C) [] (fun _ H Q => Q [v] H) σ H1 Q
theorem err_rd {C : Addr} {f : Str} {v : V} {σ : L2.St} {H : Hp} {Q : XK} (h : ∀ d, H d = none → Q (.ref C) (some d) (upd H d (.xd [(f, v)]))) : tMkO C (spErr f C) [] (fun _ H Q => Q [v] H) σ H Q := by
  refine ⟨by simp, fun a ha => ⟨a, v, rfl, upd_same, fun d hd hne => ⟨rfl, d, [(f, v)], upd_same, ?_, ?_, ?_⟩⟩⟩
  · rw [upd_ne hne, upd_same]
  · rw [upd_ne hne] at hd
    exact hd
  · have hd' : H d = none := by
      rw [upd_ne hne] at hd
      exact hd
    rw [made_same ha hne]
    exact h d hd'
theorem pmk_err {x : Str} {C fI : Addr} {f : Str} {k : Nat} {fd : FuncData} {ps : List Str} {e : Expr} {te : TE} {p pos : Pos} (T : ErrC X.K C fI f) (F1 : FnOk X.prog X.w X.K X.mg X.base CX0 k fI fd ps (spErr f C)) (hb : Binds X.K fd ps []) (hr : Room (k + 1) X.A)
    (hg : Gl X x) (hm : X.mg x = some (.ref C)) (he : PE X e te) (hdb : (x == ("__debug__" : Str)) = false := by decide)
    (hs : starEach [e] X.env = (false, eval e X.env) :: starEach [] X.env := by rfl) (hpl : (backTo pos (starEach [] X.env)).any (·.1) = false := by rfl) :
    PMk X (.Call (.Name x p) [e] [] pos) (tErr C f te) :=
  pmk_oex T.oex T.iC T.tI F1 hr hb .nil pass0 hg hm (pa_cons he pa_nil hs) hdb hs hpl
/-- raise C(e) in a def -/
theorem ps_raiseE {W : WX} {x : Str} {C fI : Addr} {f : Str} {k : Nat} {fd : FuncData} {ps : List Str} {e : Expr} {te : TE} {p pos rpos : Pos} (T : ErrC X.K C fI f) (F1 : FnOk X.prog X.w X.K X.mg X.base CX0 k fI fd ps (spErr f C)) (hb : Binds X.K fd ps []) (hr : Room (k + 1) X.A)
    (hm : X.mg x = some (.ref C)) (hc : X.calm = true) (tk : Takes X W) (he : PE X e te) (hg : Gl X x := by rfl) (hdb : (x == ("__debug__" : Str)) = false := by decide)
    (hs : starEach [e] X.env = (false, eval e X.env) :: starEach [] X.env := by rfl) (hpl : (backTo pos (starEach [] X.env)).any (·.1) = false := by rfl) :
    PS X (.Raise (some (.Call (.Name x p) [e] [] pos)) none rpos) (fun _ σ H => tErr C f te σ H fun cls d H' => W cls d σ H') :=
  ps_raise hc tk (pmk_err T F1 hb hr hg hm he hdb hs hpl)
end
end XT

namespace XT
open PySem PySem.Spec PyProof.Rows L2
section
variable {P : Program} {w : World} {K : PySem.W.Frag} {mg : Str → Option Value} {base : Heap} {CX : CXT} {j k : Nat} {f : Addr} {sp sp' : Sp}
/-- a def that lets nothing out, where something may be let out -/
theorem fnR_lift (F : FnR P w K mg base CX0 k f sp) : FnR P w K mg base CX k f sp := fun A outer s H us vs Q E hr e0 r hs =>
  codeAny_mono (F A outer s H us vs Q E hr e0 r hs) fun r s' h => by
    match r, h with
    | .ok (.ret u), h => exact h
    | .error e, h => exact False.elim h
theorem fnR_or (F : FnR P w K mg base CX k f sp) (G : FnR P w K mg base CX k f sp') : FnR P w K mg base CX k f (fun vs H Q E => sp vs H Q E ∨ sp' vs H Q E) := fun A outer s H us vs Q E hr e0 r hs =>
  hs.elim (fun h => F A outer s H us vs Q E hr e0 r h) (fun h => G A outer s H us vs Q E hr e0 r h)
end
/-- what a call in a try may let out: told for all slots -/
theorem passAll {X : Cx} {W : WX} (tk : Takes X W) (n : Nat) (hn : X.N.length = n) : Passes (L2.CX X.prog X.w) X (fun cls d H => ∀ σ : L2.St, σ.length = n → W cls d σ H) :=
  fun _ σ _ _ e s' I c => tk e s' (XE.of_call I (fun _ _ _ h => h σ (I.len.trans hn)) c)
mutual
theorem dp_same {K : PySem.W.Frag} {H H' : Hp} (s : Same H H') : ∀ (d : PyData) (v : V), Dp K H v d → Dp K H' v d
  | .none, _, h => by cases h; exact .non
  | .bool b, _, h => by cases h; exact .bl b
  | .int i, _, h => by cases h; exact .int i
  | .str x, _, h => by cases h; exact .str x
  | .list ds, _, h => by
    cases h with
    | lst hs ha => exact .lst (s.seq hs) (dpAll_same s ds _ ha)
  | .tuple ds, _, h => by
    cases h with
    | tup hs ha => exact .tup (same_seqT s hs) (dpAll_same s ds _ ha)
  | .dict _, _, h => by cases h
theorem dpAll_same {K : PySem.W.Frag} {H H' : Hp} (s : Same H H') : ∀ (ds : List PyData) (vs : List V), DpAll K H vs ds → DpAll K H' vs ds
  | [], _, h => by cases h; exact .nil
  | d :: ds, _, h => by
    cases h with
    | cons h1 h2 => exact .cons (dp_same s d _ h1) (dpAll_same s ds _ h2)
end
theorem rd_same {K : PySem.W.Frag} {H H' : Hp} (s : Same H H') {v : V} {d : PyData} (h : Rd K H v d) : Rd K H' v d := by
  rcases h with ⟨h, n⟩ | ⟨a, e, h, e2⟩ | ⟨a, b, i, e, h1, h2, e2⟩
  · exact .inl ⟨dp_same s d v h, n⟩
  · exact .inr (.inl ⟨a, e, s _ _ h, e2⟩)
  · exact .inr (.inr ⟨a, b, i, e, same_seqT s h1, s _ _ h2, e2⟩)
/-- data whose text may be asked for -/
structure Okd (d : PyData) : Prop where
  pl : plainD d = true
  dp : d.depth ≤ 50
  sz : sc d ≤ 16000000
theorem repr_rd {K : PySem.W.Frag} {x : V} {d : PyData} {H : Hp} {Q : VK} (h : Rd K H x d) (o : Okd d) (q : Q (.str d.shown) H) : rReprD K [x] H Q := ⟨x, d, rfl, h, o.pl, o.dp, o.sz, q⟩
section
variable {X : Cx} (K : PySem.W.Frag)
theorem reprKx (hg : X.A.guards = some []) (hu : X.A.units + 64 < cLine) (hK : X.K = K := by rfl) : CallR X (.builtin "repr") (rReprD K) := by
  subst hK
  exact call_reprD hg hu
theorem isEKx {a D : Addr} {oe : Obj} {cls : Value} {d : Option Addr} {pn : List (Addr × Obj)} (C : ExcC K D) (hz : Zc cls d oe) (hf : ∃ vs, oe.data = .fields vs) (hK : X.K = K := by rfl) : CallR (X.suite a ((a, oe) :: pn)) (.builtin "isinstance") (rIsED K D a cls d) := by
  subst hK
  exact call_isED C hz hf
end
section
variable {X : Cx}
/-- f(e, ..), f an expression that gives a tracked instance of C -/
def tCallI (C : Addr) (sp : Sp) (E : XK) (tf : TE) (t : TA) : TE := fun σ H Q => tf σ H fun y H1 => ∃ a, y = V.ref a ∧ t σ H1 fun vs H2 => InsA H2 a C ∧ sp (V.ref a :: vs) H2 Q E
theorem pe_callI {CX : CXT} {C : Addr} {k : Nat} {sp : Sp} {E : XK} {fe e : Expr} {es : List Expr} {tf : TE} {t : TA} {pos : Pos} {g : Addr} (hf : PE X fe tf) (c : StX.CallO X.K C g) (F : FnR X.prog X.w X.K X.mg X.base CX k g sp) (hr : Room k X.A) (hx : Passes CX X E) (ha : PA X (e :: es) t)
    (ht : eval (.Call fe (e :: es) [] pos) X.env = (do callWith pos (← eval fe X.env) [] (backTo pos (starEach (e :: es) X.env)) (backToKw pos (keywordEach [] X.env))) := by rfl)
    (he : starEach (e :: es) X.env = (false, eval e X.env) :: starEach es X.env := by rfl) (hpl : (backTo pos (starEach es X.env)).any (·.1) = false := by rfl) : PE X (.Call fe (e :: es) [] pos) (tCallI C sp E tf t) := by
  refine ⟨fun pins s σ H Q I h => ?_⟩
  refine Call_ (thn (hf.run pins s σ H _ I h) fun u s1 ⟨y, H1, I1, ry, a, ey, q⟩ => ?_) ht
  subst ey
  obtain rfl : u = Value.ref a := ry
  refine StX.callO_with (thn (ha.run pos pins s1 σ H1 _ I1 q) fun us s2 ⟨vs, H2, I2, r, hi, q2⟩ => ?_) he hpl
  have hi' : StX.InsC X H2 a C := let ⟨dx, fs, h⟩ := hi; .inr ⟨dx, fs, h⟩
  obtain ⟨ox, od, J, hd⟩ := StX.insC_at I2 hi'
  exact ⟨⟨C, ox, od, J, hd⟩, StX.run_callO c F hr hx I2 hi' r q2⟩
/-- f(e, ..), f a global def with a promise where no repr is under way -/
theorem pe_callG {CX : CXT} {k : Nat} {f : Addr} {sp : Sp} {E : XK} {x : Str} {e : Expr} {es : List Expr} {t : TA} {p pos : Pos} (F : FnG X.prog X.w X.K X.mg X.base CX k f sp) (hgu : X.A.guards = some []) (hr : Room k X.A) (hg : Gl X x) (hm : X.mg x = some (.ref f)) (hk : PySem.W.keepIn X.K (.ref f) = true) (hx : Passes CX X E) (ha : PA X (e :: es) t) (hd : (x == ("__debug__" : Str)) = false := by decide)
    (he : starEach (e :: es) X.env = (false, eval e X.env) :: starEach es X.env := by rfl) (hst : (backTo pos (starEach es X.env)).any (·.1) = false := by rfl) :
    PE X (.Call (.Name x p) (e :: es) [] pos) (tCallR sp E t) := by
  refine ⟨fun pins s σ H Q I h => ?_⟩
  refine wpAny_Call_Name_kw (ld_glob I hg hm ?_ hd)
  refine PySem.W.callWith_K (h₀ := X.base) I.ok.mod.kin hk (thn (ha.run pos pins s σ H _ I h) fun us s1 ⟨vs, H1, I1, r, q⟩ => ⟨I1.kIn, ?_⟩) he hst
  refine wpAny_call (codeAny_mono (F X.A X.stack s1 H1 us vs Q E hgu hr I1.env0 r q) fun r s' hq => ?_)
  match r, hq with
  | .error e, hq => exact hx pins σ H1 s1 e s' I1 hq
  | .ok (.ret u), hq => exact I1.after hq
end
end XT

namespace XT
open PySem PySem.Spec PyProof.Rows L2
section
variable {X : Cx} (K : PySem.W.Frag)
/-- x == y, x of an own class with __eq__, y of another type -/
def rOwnEo (K : PySem.W.Frag) (C : Addr) (sp : Sp) (E : XK) : R2 := fun x y H Q => ∃ a t, x = .ref a ∧ InsA H a C ∧ TyX K H y t ∧ PySem.W.notFirst K C t = true ∧ sp [x, y] H Q E
theorem op_ownEo {CX : CXT} {n : Nat} {C g : Addr} {sp : Sp} {E : XK} (hs : PySem.W.findIn X.K (.ref C) "__eq__" = some (some (.ref g))) (hf : PySem.W.isFn X.K (.ref g) = true) (F : FnR X.prog X.w X.K X.mg X.base CX n g sp)
    (hr : Room n X.A) (hx : Passes CX X E) : OpR X (compareOp .Eq) (rOwnEo X.K C sp E) := by
  intro pins s σ H x y v u Q I rx ry h
  obtain ⟨a, t, rfl, ha, ht, hn, q⟩ := h
  cases (show v = Value.ref a from rx)
  obtain ⟨ox, od, J⟩ := insA_at I ha
  obtain ⟨Z, kz, hz, _⟩ := kit_of I ry ht
  obtain ⟨m, hF⟩ := I.fr
  show wpAny _ _ (richCompare .Eq _ _) _ _ _
  refine PySem.W.cmp_K (op := .Eq) (tb := t) hr.units0 hF I.ok.mod.kin J (kz.ty _ _ I.kIn hz) hn hs hf ?_
  refine wpAny_mono (wpAny_call (run_fnR (us := [.ref a, u]) (vs := [.ref a, y]) F hr hx I (.cons rfl (.cons ry .nil)) q)) (fun w s' z => ?_) fun _ _ x => x
  obtain ⟨z', H', I', rz, qz⟩ := z
  exact SlX.cmpback rz ⟨z', H', I', rz, qz⟩
theorem op_ownEoK {CX : CXT} {n : Nat} {C g : Addr} {sp : Sp} {E : XK} (hs : PySem.W.findIn K (.ref C) "__eq__" = some (some (.ref g))) (hf : PySem.W.isFn K (.ref g) = true) (F : FnR X.prog X.w K X.mg X.base CX n g sp)
    (hr : Room n X.A) (hx : Passes CX X E) (hK : X.K = K := by rfl) : OpR X (compareOp .Eq) (rOwnEo K C sp E) := by
  subst hK
  exact op_ownEo hs hf F hr hx
/-- not x, x of an own class with __bool__ -/
def tNotO (C : Addr) (sp : Sp) (E : XK) (ta : TE) : TE := fun σ H Q => ta σ H fun x H1 => ∃ a, x = .ref a ∧ InsA H1 a C ∧ sp [x] H1 (fun z H2 => ∃ b, z = .bl b ∧ Q (.bl (!b)) H2) E
theorem pe_notO {CX : CXT} {n : Nat} {C g : Addr} {sp : Sp} {E : XK} {e : Expr} {pos : Pos} {ta : TE} (he : PE X e ta) (hs : PySem.W.findIn X.K (.ref C) "__bool__" = some (some (.ref g))) (hf : PySem.W.isFn X.K (.ref g) = true)
    (F : FnR X.prog X.w X.K X.mg X.base CX n g sp) (hr : Room n X.A) (hx : Passes CX X E) : PE X (.UnaryOp .Not e pos) (tNotO C sp E ta) := by
  refine ⟨fun pins s σ H Q I h => ?_⟩
  refine UnaryOp_ (thn (he.run pins s σ H _ I h) fun v s1 ⟨x, H1, I1, r1, q1⟩ => ?_)
  obtain ⟨a, rfl, ha, q⟩ := q1
  cases (show v = Value.ref a from r1)
  obtain ⟨ox, od, J⟩ := insA_at I1 ha
  refine not_of ?_
  unfold truthy
  refine wpAny_bind (m := callSpecial? (.ref a) (Str.ofString "__bool__")) (PySem.W.special_fn I1.kIn J hs (beq_iff_eq.mp hf) (wpAny_mono (wpAny_call (run_fnR (us := [.ref a]) (vs := [.ref a]) F hr hx I1 (.cons rfl .nil) q)) (fun r s' hr => ?_) fun _ _ y => y))
  obtain ⟨z, H', I', rz, b, rfl, hq⟩ := hr
  cases (show r = Value.bool b from rz)
  exact wpAny_pure ⟨.bl (!b), H', I', rfl, hq⟩
end
/-- isinstance of a value of another type -/
theorem kit_other {K : PySem.W.Frag} {C : Addr} {n : String} {b : Bool} (hc : (PySem.W.clsIn K C).isSome = true) (ht : PySem.W.typeIn K (.ref C) = some (.type "type")) (hs : PySem.W.subIn K (.type n) (.ref C) = some b) : PySem.W.kitOne K (.type n) (.ref C) = some b := by
  simp [PySem.W.kitOne, PySem.W.kitCls, hc, ht, hs]
theorem kit_sub {K : PySem.W.Frag} {B C : Addr} (hc : (PySem.W.clsIn K C).isSome = true) (ht : PySem.W.typeIn K (.ref C) = some (.type "type")) (hs : PySem.W.subIn K (.ref B) (.ref C) = some true) : PySem.W.kitOne K (.ref B) (.ref C) = some true := by
  simp [PySem.W.kitOne, PySem.W.kitCls, hc, ht, hs]
end XT

namespace XT
open PySem PySem.Spec PyProof.Rows L2
/-! ### the characters of a text of data are characters -/
theorem ok_of (s : String) : PyData.strOk (Str.ofString s) = true := by
  unfold PyData.strOk
  rw [Str.ofString_eq_toList]
  simp only [List.all_toArray, List.all_map, List.all_eq_true]
  intro c _
  have h : c.toNat < 0x110000 := by
    have := c.valid
    unfold UInt32.isValidChar Nat.isValidChar at this
    have e : c.toNat = c.val.toNat := rfl
    omega
  exact decide_eq_true h
theorem ok_app {x y : Str} (h : PyData.strOk x = true) (k : PyData.strOk y = true) : PyData.strOk (x ++ y) = true := by
  unfold PyData.strOk at *
  show (x.cps ++ y.cps).all _ = true
  rw [Array.all_append, h, k]
  rfl
theorem ok_textFrom : ∀ (ts : List Str) (k : Nat) (acc : Str), (∀ t ∈ ts, PyData.strOk t = true) → PyData.strOk acc = true → PyData.strOk (textFrom k acc ts) = true
  | [], _, _, _, h => h
  | t :: ts, k, acc, ht, h => by
    refine ok_textFrom ts (k + 1) _ (fun u hu => ht u (List.mem_cons_of_mem _ hu)) (ok_app (ok_app h ?_) (ht t List.mem_cons_self))
    exact ok_of _
theorem ok_listText {ts : List Str} (h : ∀ t ∈ ts, PyData.strOk t = true) : PyData.strOk (listText ts) = true := ok_app (ok_textFrom ts 0 _ h (ok_of "[")) (ok_of "]")
theorem ok_join {sep : Str} (hs : PyData.strOk sep = true) : ∀ (ts : List Str), (∀ t ∈ ts, PyData.strOk t = true) → PyData.strOk (Str.join sep ts) = true
  | [], _ => (by decide +kernel : PyData.strOk Str.empty = true)
  | [x], h => h x List.mem_cons_self
  | x :: y :: r, h => ok_app (ok_app (h x List.mem_cons_self) hs) (ok_join hs (y :: r) fun t ht => h t (List.mem_cons_of_mem _ ht))
theorem ok_tupleText {ts : List Str} (h : ∀ t ∈ ts, PyData.strOk t = true) : PyData.strOk (tupleText ts) = true := ok_app (ok_app (ok_of "(") (ok_join (ok_of ", ") ts h)) (ok_of _)
mutual
/-- the texts in d are of characters, also written out -/
def txD : PyData → Bool
  | .none | .bool _ | .int _ => true
  | .str x => PyData.strOk (reprText x)
  | .list xs | .tuple xs => txAll xs
  | .dict kvs => kvs.isEmpty
def txAll : List PyData → Bool
  | [] => true
  | x :: xs => txD x && txAll xs
end
mutual
theorem ok_shown : ∀ d : PyData, txD d = true → PyData.strOk d.shown = true
  | .none, _ => by decide +kernel
  | .bool true, _ => by decide +kernel
  | .bool false, _ => by decide +kernel
  | .int i, _ => ok_of _
  | .str x, h => by simpa [txD, PyData.shown] using h
  | .list xs, h => by
    simp only [PyData.shown]
    exact ok_listText (ok_shownAll xs (by simpa [txD] using h))
  | .tuple xs, h => by
    simp only [PyData.shown]
    exact ok_tupleText (ok_shownAll xs (by simpa [txD] using h))
  | .dict [], _ => by decide +kernel
  | .dict (_ :: _), h => by simp [txD] at h
theorem ok_shownAll : ∀ xs : List PyData, txAll xs = true → ∀ t ∈ PyData.shownAll xs, PyData.strOk t = true
  | [], _, t, ht => by simp [PyData.shownAll] at ht
  | x :: xs, h, t, ht => by
    have h' : txD x = true ∧ txAll xs = true := by simpa [txAll] using h
    simp only [PyData.shownAll, List.mem_cons] at ht
    rcases ht with rfl | ht
    · exact ok_shown x h'.1
    · exact ok_shownAll xs h'.2 t ht
end
theorem txAll_ints (L : List Int) : txAll (L.map PyData.int) = true := by
  induction L with
  | nil => rfl
  | cons x L ih => simp only [List.map_cons, txAll, txD, ih, Bool.and_self]
/-- comparing shaped data with itself -/
theorem ne_self {d : PyData} (h : SeqAt.shaped d = true) : (!PyData.eqv d d) = false := by rw [SeqAt.eqv_refl d (SeqAt.canLay_of_shaped h)]; rfl
theorem sh_told {w x : Str} (hw : PyData.strOk w = true) (hx : PyData.strOk x = true) (b : Bool) : SeqAt.shaped (.list [.str w, .str x, .bool b]) = true := by
  simp [SeqAt.shaped, PyData.canLay0, PyData.canLayAll0, PyData.depth, PyData.depthAll, hw, hx]
theorem dp_told {K : PySem.W.Frag} {H : Hp} {r : Addr} {w x : Str} {b : Bool} (h : H r = some (.lst [.str w, .str x, .bl b])) : Dp K H (.ref r) (.list [.str w, .str x, .bool b]) := .lst (SqL.of h) (.cons (.str w) (.cons (.str x) (.cons (.bl b) .nil)))
theorem canLay_ints : ∀ L : List Int, PyData.canLayAll0 (L.map PyData.int) = true
  | [] => rfl
  | x :: L => by simp [PyData.canLayAll0, PyData.canLay0, canLay_ints L]
theorem depth_ints : ∀ L : List Int, PyData.depthAll (L.map PyData.int) = 0
  | [] => rfl
  | x :: L => by simp [PyData.depthAll, PyData.depth, depth_ints L]
theorem sh_three (s g : Int) (L : List Int) : SeqAt.shaped (.list [.int s, .tuple (L.map PyData.int), .int g]) = true := by
  simp [SeqAt.shaped, PyData.canLay0, PyData.canLayAll0, PyData.depth, PyData.depthAll, canLay_ints, depth_ints]
theorem sh_tab (w : Str) (hw : PyData.strOk w = true) (s : Int) (L : List Int) : SeqAt.shaped (.list [.str w, .int s, .tuple (L.map PyData.int)]) = true := by
  simp [SeqAt.shaped, PyData.canLay0, PyData.canLayAll0, PyData.depth, PyData.depthAll, canLay_ints, depth_ints, hw]
theorem sh_pair {w x : Str} (hw : PyData.strOk w = true) (hx : PyData.strOk x = true) (b : Bool) : SeqAt.shaped (.list [.list [.str w, .str x, .bool b], .list [.str w, .str x, .bool b]]) = true := by
  simp [SeqAt.shaped, PyData.canLay0, PyData.canLayAll0, PyData.depth, PyData.depthAll, hw, hx]
/-- one statement, the rest cut off behind it -/
theorem seq_cut2 {t u : TS} {D : Ends} {σ : L2.St} {H : Hp} (G : L2.St → Hp → Prop) (h : ∀ N : L2.St → Hp → Prop, (∀ σ' H', G σ' H' → N σ' H') → t { D with nx := N } σ H) (k : ∀ σ' H', G σ' H' → u D σ' H') : tSeq t u D σ H := h (u D) k
theorem next_go {D : Ends} {σ : L2.St} {H : Hp} (h : D.nx σ H) : tNext D σ H := h
theorem seq_cut {t u : TS} {D : Ends} {σ : L2.St} {H : Hp} (G : Hp → Prop) (h : ∀ N : L2.St → Hp → Prop, (∀ H', G H' → N σ H') → t { D with nx := N } σ H) (k : ∀ H', G H' → u D σ H') : tSeq t u D σ H := h (u D) k
end XT

namespace XT
open PySem PySem.Spec PyProof.Rows L2
/-! ### static methods -/
/-- C.m is a static method: its record at p, its def at g -/
structure CSta (K : PySem.W.Frag) (C : Addr) (mc : Value) (m : Str) (p g : Addr) : Prop where
  at_ : PySem.W.findCls K (.ref C) mc m = some (.get (.builtin "staticmethod.__get__") (.ref p) .none (.ref C))
  rc : ∃ rest, PySem.W.recIn K p "staticmethod" = some (.ref g :: rest)
  kp : PySem.W.keepIn K (.ref g) = true
/-- the same, reached through an instance -/
structure CStI (K : PySem.W.Frag) (C : Addr) (m : Str) (p g : Addr) : Prop where
  pg : PySem.W.plainGet K C Str.empty = true
  ic : PySem.W.isClsIn K C = true
  at_ : PySem.W.findIn K (.ref C) m = some (some (.ref p))
  ty : PySem.W.typeIn K (.ref p) = some (.type "staticmethod")
  get : PySem.W.specialIn K (.ref p) "__get__" = some (some (.builtin "staticmethod.__get__"))
  tk : PySem.W.takesIn K (.ref p) = some false
  cp : PySem.W.copiedNames.contains m = false
  rc : ∃ rest, PySem.W.recIn K p "staticmethod" = some (.ref g :: rest)
  kp : PySem.W.keepIn K (.ref g) = true
def tSta (C : Addr) (sp : Sp) (E : XK) (ta : TE) (t : TA) : TE := fun σ H Q => ta σ H fun x H1 => x = .ref C ∧ t σ H1 fun vs H2 => sp vs H2 Q E
def tStaI (C : Addr) (m : Str) (sp : Sp) (E : XK) (ta : TE) (t : TA) : TE := fun σ H Q => ta σ H fun x H1 => ∃ a dx fs, x = .ref a ∧ H1 a = some (.ins C dx fs) ∧ fs.lookup m = none ∧ t σ H1 fun vs H2 => sp vs H2 Q E
section
variable {X : Cx} {CX : CXT} {k : Nat} {C p g : Addr} {mc : Value} {sp : Sp} {E : XK} {o e : Expr} {es : List Expr} {f m : Str} {pos apos : Pos} {ta : TE} {t : TA} {pl : Sem Bool}
theorem pe_sta (he : PE X o ta) (r : ClX.CRead X.K C mc) (c : CSta X.K C mc m p g) (F : FnR X.prog X.w X.K X.mg X.base CX k g sp) (hr : Room k X.A) (hx : Passes CX X E) (ha : PA X (e :: es) t)
    (hst : starEach (e :: es) X.env = (false, eval e X.env) :: starEach es X.env := by rfl) (hpl : (backTo pos (starEach es X.env)).any (·.1) = false := by rfl)
    (ht : eval (.Call (.Attribute o m apos) (e :: es) [] pos) X.env = (do
      let ov ← eval o X.env
      standAt apos.atName
      let (f, first) ← holding [ov] (getMethod ov m pl)
      callWith pos f first (backTo pos (starEach (e :: es) X.env)) (backToKw pos (keywordEach [] X.env))) := by rfl) :
    PE X (.Call (.Attribute o m apos) (e :: es) [] pos) (tSta C sp E ta t) := by
  refine ⟨fun pins s σ H Q I h => ?_⟩
  refine PySem.W.methodCall_KW (pl := pl) (thn (he.run pins s σ H _ I h) fun u s1 ⟨x, H1, I1, rx, ex, q⟩ => ?_) ht
  subst ex
  obtain rfl : u = Value.ref C := rx
  refine PySem.W.method_cls I1.kIn r.ga ?_
  obtain ⟨rest, hp⟩ := c.rc
  refine PySem.W.cls_bind I1.kIn r.rd c.at_ ?_
  refine wpAny_call (PySem.W.sm_get (s := { s1 with toks := s1.toks + 1 }) I1.kIn hp (PySem.W.handed_on rfl ?_))
  have I2 := I1.tok (s1.toks + 1)
  refine PySem.W.callWith_K (h₀ := X.base) I.ok.mod.kin c.kp (thn (ha.run pos pins _ σ H1 _ I2 q) fun us s2 ⟨vs, H2, I3, r2, q2⟩ => ⟨I3.kIn, ?_⟩) hst hpl
  exact wpAny_call (run_fnR F hr hx I3 r2 q2)
theorem pe_staI (he : PE X o ta) (c : CStI X.K C m p g) (F : FnR X.prog X.w X.K X.mg X.base CX k g sp) (hr : Room k X.A) (hx : Passes CX X E) (ha : PA X (e :: es) t)
    (hst : starEach (e :: es) X.env = (false, eval e X.env) :: starEach es X.env := by rfl) (hpl : (backTo pos (starEach es X.env)).any (·.1) = false := by rfl)
    (ht : eval (.Call (.Attribute o m apos) (e :: es) [] pos) X.env = (do
      let ov ← eval o X.env
      standAt apos.atName
      let (f, first) ← holding [ov] (getMethod ov m pl)
      callWith pos f first (backTo pos (starEach (e :: es) X.env)) (backToKw pos (keywordEach [] X.env))) := by rfl) :
    PE X (.Call (.Attribute o m apos) (e :: es) [] pos) (tStaI C m sp E ta t) := by
  refine ⟨fun pins s σ H Q I h => ?_⟩
  refine PySem.W.methodCall_KW (pl := pl) (thn (he.run pins s σ H _ I h) fun u s1 ⟨x, H1, I1, rx, a, dx, fs, ex, ea, l, q⟩ => ?_) ht
  subst ex
  obtain rfl : u = Value.ref a := rx
  obtain ⟨mA, O, rr, _, _, _⟩ := ins_get I1.hok ea
  have hn : mA m = none := RelO.none_of (by rw [← l]; exact rr m)
  obtain ⟨od, J, hl⟩ := O.look
  obtain ⟨rest, hp⟩ := c.rc
  have hg : PySem.W.plainGet X.K C m = true := c.pg
  refine PySem.W.method_usual (r := some (.ref p)) I1.kIn J (PySem.W.plainGet_of hg).1 (PySem.W.plainGet_of hg).2 c.at_ ?_ ?_
  · show ((PySem.W.typeIn X.K (.ref p)).any fun t => t != .type "function" && t != .type "method_descriptor" && t != .type "wrapper_descriptor") = true
    rw [c.ty]
    first
    | rfl
    | decide +kernel
  · refine PySem.W.get_bind I1.kIn J (PySem.W.plainGet_of hg).1 (ClX.find_cm c.ic c.at_ c.get c.tk c.cp (by rw [hl m, hn])) (PySem.W.plainGet_of hg).2 ?_
    refine wpAny_call (PySem.W.sm_get (s := { s1 with toks := s1.toks + 1 }) I1.kIn hp (PySem.W.handed_on rfl ?_))
    have I2 := I1.tok (s1.toks + 1)
    refine PySem.W.callWith_K (h₀ := X.base) I.ok.mod.kin c.kp (thn (ha.run pos pins _ σ H1 _ I2 q) fun us s2 ⟨vs, H2, I3, r2, q2⟩ => ⟨I3.kIn, ?_⟩) hst hpl
    exact wpAny_call (run_fnR F hr hx I3 r2 q2)
/-! ### C(), C(*e) by a positional promise of its __init__ -/
def tMakeR0 (C : Addr) (sp : Sp) (E : XK) : TE := fun _ H Q => ∀ x dx, H x = none → H dx = none → dx ≠ x → sp [V.ref x] (upd (upd H dx (.own x)) x (.ins C dx [])) (fun v H2 => v = .non ∧ Q (.ref x) H2) E
theorem pe_makeR0 {x : Str} {p : Pos} (M : Mk X.K C g) (F : FnR X.prog X.w X.K X.mg X.base CX k g sp) (hr : Room (k + 1) X.A) (hg : Gl X x) (hm : X.mg x = some (.ref C)) (hx : Passes CX X E) (hdb : (x == ("__debug__" : Str)) = false := by decide) :
    PE X (.Call (.Name x p) [] [] pos) (tMakeR0 C sp E) := by
  refine ⟨fun pins s σ H Q I h => ?_⟩
  refine wpAny_Call_Name_kw (ld_glob I hg hm ?_ hdb)
  refine PySem.W.callWith_K0 (first := []) I.kIn M.kp ?_
  exact StX.run_makeR (us := []) (vs := []) M F hr hx I .nil h
theorem pe_makeS1 {x : Str} {p sp_ : Pos} {te : TE} (M : Mk X.K C g) (F : FnR X.prog X.w X.K X.mg X.base CX k g sp) (hr : Room (k + 1) X.A) (hg : Gl X x) (hm : X.mg x = some (.ref C)) (hx : Passes CX X E) (he : PE X e te) (hdb : (x == ("__debug__" : Str)) = false := by decide)
    (hst : starEach [.Starred e sp_] X.env = [(true, eval e X.env)] := by rfl) :
    PE X (.Call (.Name x p) [.Starred e sp_] [] pos) (fun σ H Q => te σ H fun y H1 => ∃ a xs, y = V.ref a ∧ (SqT X.K H1 a xs ∨ SqL X.K H1 a xs) ∧ ∀ x dx, H1 x = none → H1 dx = none → dx ≠ x → sp (V.ref x :: xs) (upd (upd H1 dx (.own x)) x (.ins C dx [])) (fun v H2 => v = .non ∧ Q (.ref x) H2) E) := by
  refine ⟨fun pins s σ H Q I h => ?_⟩
  refine wpAny_Call_Name_kw (ld_glob I hg hm ?_ hdb)
  refine PySem.W.callWith_S (h₀ := X.base) I.ok.mod.kin M.kp (thn (he.run pins s σ H _ I h) fun v s1 ⟨y, H1, I1, ry, a, xs, ey, hxs, q⟩ => ?_) hst
  subst ey
  obtain rfl : v = Value.ref a := ry
  exact StX.star_any I1 hxs fun us s2 I2 rv => ⟨I2.kIn, StX.run_makeR M F hr hx I2 rv q⟩
end
/-! ### defs with a star -/
section
variable {P : Program} {w : World} {K : PySem.W.Frag} {mg : Str → Option Value} {base : Heap}
def BndS (x qual : Str) (st : Stmt) (ps : List Str) (pv : Str) : Prop := ∀ (kV doc pm : Value) (an : Option Addr) (cdv ct : Value) (us rest : List Value), us.length = ps.length →
  bindArgs (PySem.W.fnOf x qual (defArgs st) (defBody st) (defScope st) .none kV doc pm an cdv ct) ⟨us ++ rest, []⟩ = (newTuple rest >>= fun t => pure (ps.zip us ++ [(pv, t)]))
/-- the promise of a def whose last parameter takes what is left over -/
def spStar (n : Nat) (sp : Sp) : Sp := fun vs H Q E => ∃ ws rest, vs = ws ++ rest ∧ ws.length = n ∧ rest.length ≤ sizeLine ∧ ∀ p, H p = none → sp (ws ++ [V.ref p]) (upd H p (.tup rest)) Q E
theorem okStar {x qual : Str} {st : Stmt} {f : Addr} {fd : FuncData} {N ps : List Str} {pv : Str} {k : Nat} {sp : Sp} (F : Fun K x qual st f fd) (S : FnScope N (ps ++ [pv]) (defScope st)) (B : BndS x qual st ps pv)
    (hbody : ∀ (cdv : Value) (A : Around) (outer : List Env) (s : Shared) (H : Hp) (vs : List V) (Q : VK) (E : XK), Room k (A.deeper (envOfC qual (defScope st) s.heap.objs.size f cdv)) → sp vs H Q E →
      ∃ t, PSs (cxOf (L2.CX P w) P w K mg base N qual (defScope st) f cdv A outer s H E) (defBody st) t ∧ t { nx := fun _ H' => Q .non H', rt := Q } (start N vs) H) : FnR P w K mg base (L2.CX P w) (k + 1) f (spStar ps.length sp) := by
  obtain ⟨oc, od, kV, doc, pm, an, cdv, ct, osl, rfl, lk, hcd⟩ := F.ex
  exact StX.fn_star lk hcd S StX.cxUp (fun us rest h => B kV doc pm an cdv ct us rest h) fun A outer s H vs Q E hr hsp => hbody cdv A outer s H vs Q E hr hsp
theorem okStar0 {x qual : Str} {st : Stmt} {f : Addr} {fd : FuncData} {N ps : List Str} {pv : Str} {k : Nat} {sp : Sp} (F : Fun K x qual st f fd) (S : FnScope N (ps ++ [pv]) (defScope st)) (B : BndS x qual st ps pv)
    (hbody : ∀ (cdv : Value) (A : Around) (outer : List Env) (s : Shared) (H : Hp) (vs : List V) (Q : VK) (E : XK), Room k (A.deeper (envOfC qual (defScope st) s.heap.objs.size f cdv)) → sp vs H Q E →
      ∃ t, PSs (cxOf CX0 P w K mg base N qual (defScope st) f cdv A outer s H E) (defBody st) t ∧ t { nx := fun _ H' => Q .non H', rt := Q } (start N vs) H) : FnR P w K mg base CX0 (k + 1) f (spStar ps.length sp) := by
  obtain ⟨oc, od, kV, doc, pm, an, cdv, ct, osl, rfl, lk, hcd⟩ := F.ex
  exact StX.fn_star lk hcd S StX.cxUp_none (fun us rest h => B kV doc pm an cdv ct us rest h) fun A outer s H vs Q E hr hsp => hbody cdv A outer s H vs Q E hr hsp
end
end XT

namespace XT
open PySem PySem.Spec PyProof.Rows L2
/-! ### types told apart by != -/
theorem slot_type_ne : Slot "type" (cmpInfo .NotEq).2.1 "object.__ne__" :=
  .of (owner := "object") (n := "__ne__") (by rw [typeLookup_type, builtinLookup_eq_fast]; kernel_rfl) (by decide +kernel) (by decide +kernel) (by decide +kernel)
    (by first | exact .inl (by decide +kernel) | exact .inr (by decide +kernel)) (by rw [isSubtype_type]; kernel_rfl)
theorem slot_type_ne_refl : Slot "type" (cmpInfo .NotEq).2.2 "object.__ne__" :=
  .of (owner := "object") (n := "__ne__") (by rw [typeLookup_type, builtinLookup_eq_fast]; kernel_rfl) (by decide +kernel) (by decide +kernel) (by decide +kernel)
    (by first | exact .inl (by decide +kernel) | exact .inr (by decide +kernel)) (by rw [isSubtype_type]; kernel_rfl)
section
variable {prog : Program} {w : World} {A : Around} {E : Value → Shared → Prop} {s : Shared} {Q : Value → Shared → Prop}
theorem ne_ty_same {X : String} (hX : ∀ s' : Shared, s'.TypeIs (.type X) "type") (h : Q (.bool false) s) : wpAny (model prog w) A (call (.builtin "object.__ne__") [.type X, .type X]) (fun v s' => v = .bool false ∧ Q v s') E s := by
  refine wpAny_call_entry slot_type_ne (hX s) PySem.F.entry_object_ne ?_ (PySem.F.args_object_ne_2 _ _)
  unfold Builtin.«object.__ne__»
  refine wpAny_bind (m := slotArgs "__ne__" 1 ⟨[.type X, .type X], []⟩) (wpAny_pure ?_)
  dsimp only
  refine wpAny_bind (wpAny_cRoomFor_or (.inl rfl) ?_)
  refine wpAny_bind (m := callSpecialIfBound? (.type X) (Str.ofString "__eq__") [.type X]) (wpAny_callSpecialIfBound?_slot (name := Str.ofString "__eq__") (hX s) TypeEq.slot_type_eq
    (call_gives TypeEq.slot_type_eq (hX s) PySem.F.entry_object_eq (PySem.F.args_object_eq_2 _ _) (TypeEq.object_eq_same rfl (by simp)) ?_))
  show wpAny _ _ _ _ _ _
  refine wpAny_bind (m := truthy (.bool true)) (wpAny_pure ?_)
  exact wpAny_pure ⟨_, rfl, rfl, h⟩
theorem ne_ty_other {X Y : String} (hX : ∀ s' : Shared, s'.TypeIs (.type X) "type") (hne : (Value.type X == Value.type Y) = false) (h : Q .notImplemented s) : wpAny (model prog w) A (call (.builtin "object.__ne__") [.type X, .type Y]) (fun v s' => v = .notImplemented ∧ Q v s') E s := by
  refine wpAny_call_entry slot_type_ne (hX s) PySem.F.entry_object_ne ?_ (PySem.F.args_object_ne_2 _ _)
  unfold Builtin.«object.__ne__»
  refine wpAny_bind (m := slotArgs "__ne__" 1 ⟨[.type X, .type Y], []⟩) (wpAny_pure ?_)
  dsimp only
  refine wpAny_bind (wpAny_cRoomFor_or (.inl rfl) ?_)
  refine wpAny_bind (m := callSpecialIfBound? (.type X) (Str.ofString "__eq__") [.type Y]) (wpAny_callSpecialIfBound?_slot (name := Str.ofString "__eq__") (hX s) TypeEq.slot_type_eq
    (call_gives TypeEq.slot_type_eq (hX s) PySem.F.entry_object_eq (PySem.F.args_object_eq_2 _ _) (TypeEq.object_eq_other rfl hne) ?_))
  exact wpAny_pure ⟨_, rfl, rfl, h⟩
theorem ne_type_same {X : String} (hX : ∀ s' : Shared, s'.TypeIs (.type X) "type") (h : Q (.bool false) s) : wpAny (model prog w) A (compareOp .NotEq (.type X) (.type X)) Q E s := by
  show wpAny _ A (richCompare .NotEq _ _) Q E s
  exact wpAny_richCompare_same (T := "type") (hX s) (hX s) slot_type_ne (wpAny_mono (ne_ty_same (Q := Q) hX h) (fun v s' z => ⟨(by rw [z.1]; intro e; cases e), z.2⟩) fun _ _ z => z)
theorem ne_type_other {X Y : String} (hX : ∀ s' : Shared, s'.TypeIs (.type X) "type") (hY : ∀ s' : Shared, s'.TypeIs (.type Y) "type") (hne : (Value.type X == Value.type Y) = false) (h : Q (.bool true) s) : wpAny (model prog w) A (compareOp .NotEq (.type X) (.type Y)) Q E s := by
  have hne' : (Value.type Y == Value.type X) = false := by
    rw [Bool.eq_false_iff] at hne ⊢
    intro e
    exact hne (by rw [beq_iff_eq] at e ⊢; exact e.symm)
  show wpAny _ A (richCompare .NotEq _ _) Q E s
  have h1 := slot_type_ne
  have h2 := slot_type_ne_refl
  rcases hi : cmpInfo CmpOp.NotEq with ⟨sym, f, r⟩
  rw [hi] at h1 h2
  simp only [richCompare, hi, (hX s).oneThing_none]
  try with_reducible refine wpAny_holding ?_
  refine wpAny_bind (wpAny_cRoomFor_or (.inl rfl) ?_)
  refine wpAny_bind (wpAny_typeOf (hX s) (wpAny_bind (wpAny_typeOf (hY s) ?_)))
  simp only [bne_self_eq_false, Bool.false_eq_true, if_false, pure_bind, Bool.not_false, if_true]
  refine wpAny_bind (m := tryCompare (.type X) _ (.type Y)) (wpAny_tryCompare_declines (hX s) h1 (ne_ty_other (Q := fun _ s₁ => _) hX hne ?_))
  refine wpAny_bind (m := tryCompare (.type Y) _ (.type X)) (wpAny_tryCompare_declines (hY s) h2 (ne_ty_other (Q := fun _ s₁ => _) hY hne' ?_))
  refine wpAny_bind (wpAny_rule (wpAny_bind (wpAny_of_eq (a := false) (by rw [isSame_plain rfl, hne]) (wpAny_pure ?_))))
  simpa using h
end
section
variable {X : Cx}
theorem op_neTy : OpR X (compareOp .NotEq) (fun x y H Q => ∃ m n, x = .ty m ∧ y = .ty n ∧ tyN m = true ∧ tyN n = true ∧ Q (.bl (!decide (m = n))) H) := by
  intro pins s σ H x y v u Q I rx ry h
  obtain ⟨m, n, rfl, rfl, hm, hn, q⟩ := h
  cases (show v = Value.type m from rx)
  cases (show u = Value.type n from ry)
  by_cases e : m = n
  · subst e
    exact ne_type_same (fun s' => tyN_meta hm s') ⟨.bl false, H, I, rfl, by simpa using q⟩
  · refine ne_type_other (fun s' => tyN_meta hm s') (fun s' => tyN_meta hn s') ?_ ⟨.bl true, H, I, rfl, by simpa [e] using q⟩
    rw [Bool.eq_false_iff]
    intro z
    rw [beq_iff_eq] at z
    injection z with z
    exact e z
/-! ### tuple * int -/
theorem tuple_mul1 (l : Addr) (items : Array Value) (n : Nat) (dd : Option Addr) (sl : Array (Option Value)) (x : Int) (u : Tok) (c0 : (decide (x < -(2 ^ 63)) || decide (x ≥ 2 ^ 63)) = false) (c1 : (items.isEmpty || x == 1) = true) :
    Meets (Builtin.«tuple.__mul__» ⟨[.ref l, .int x u], []⟩) (fun _ R s => s.heap.get? l = some { cls := .type "tuple", dict := dd, data := .seq items n, slots := sl } ∧ R (.ok (.ret (Value.ref l))) s) :=
  .of_wp fun prog w A R s h => by
    obtain ⟨hp, g, d, tk, os⟩ := s
    obtain ⟨hl, h⟩ := h
    have f1 := AutoSeq1.idx_int
    wp_walk using wpAny_loadPart' hl
    repeat (first
      | (refine wpAny_ite_false (decide_eq_false (by rw [c0]; exact Bool.false_ne_true)) ?_; wp_walk using wpAny_loadPart' hl)
      | (refine wpAny_ite_true (decide_eq_true (by rw [c1])) ?_; wp_walk using wpAny_loadPart' hl))
    exact ⟨_, rfl, h⟩
theorem tuple_mul0 (l : Addr) (items : Array Value) (n : Nat) (dd : Option Addr) (sl : Array (Option Value)) (u : Tok) (c1 : items.isEmpty = false) :
    Meets (Builtin.«tuple.__mul__» ⟨[.ref l, .int 0 u], []⟩) (fun _ R s => s.heap.get? l = some { cls := .type "tuple", dict := dd, data := .seq items n, slots := sl } ∧ R (.ok (.ret (Value.ref s.heap.objs.size))) { s with heap := s.heap.push { cls := Value.type "tuple", data := Data.seq #[] }, toks := s.toks }) :=
  .of_wp fun prog w A R s h => by
    obtain ⟨hp, g, d, tk, os⟩ := s
    obtain ⟨hl, h⟩ := h
    have f1 := AutoSeq1.idx_int
    have c0 : (decide ((0 : Int) < -(2 ^ 63)) || decide ((0 : Int) ≥ 2 ^ 63)) = false := by decide
    have c2 : (items.isEmpty || (0 : Int) == 1) = false := by rw [c1]; decide
    have c3 : (decide ((0 : Int) ≤ 0) || items.isEmpty) = true := by simp
    wp_walk using wpAny_loadPart' hl
    repeat (first
      | (refine wpAny_ite_false (decide_eq_false (by rw [c0]; exact Bool.false_ne_true)) ?_; wp_walk using wpAny_loadPart' hl)
      | (refine wpAny_ite_false (decide_eq_false (by rw [c2]; exact Bool.false_ne_true)) ?_; wp_walk using wpAny_loadPart' hl)
      | (refine wpAny_ite_true (decide_eq_true (by rw [c3])) ?_; wp_walk using wpAny_loadPart' hl))
    exact ⟨_, rfl, h⟩
/-- t * k, k a small count -/
def rRepA (K : PySem.W.Frag) : R2 := fun x y H Q => ∃ l k xs, x = .ref l ∧ y = .int k ∧ SqT K H l xs ∧ 0 ≤ k ∧ k ≤ 1000 ∧ xs.length ≤ 1000 ∧ (∀ p H', Same H H' → SqT K H' p (List.replicate k.toNat xs).flatten → Q (.ref p) H')
theorem op_repA : OpR X (binaryOp .Mult) (rRepA X.K) := by
  intro pins s σ H x y v u Q I rx ry h
  obtain ⟨l, k, xs, rfl, rfl, hT, h0, h2, hz, q⟩ := h
  by_cases hb : 2 ≤ k ∧ xs ≠ []
  · exact op_repT pins s σ H _ _ v u Q I rx ry ⟨l, k, xs, rfl, rfl, hT, hb.2, hb.1, h2, hz, fun p hp => q p _ (same_new hp) (SqT.of upd_same)⟩
  have hT0 := hT
  cases rx
  obtain ⟨t, rfl⟩ := ry
  obtain ⟨its, r, ⟨⟨cls, dd, data, sl⟩, ho, hc, n, hd⟩, hs⟩ := I.tuple hT
  simp only at hc hd
  subst hc hd
  have c0 : (decide (k < -(2 ^ 63)) || decide (k ≥ 2 ^ 63)) = false := by
    rw [decide_eq_false (by omega), decide_eq_false (by omega)] <;> rfl
  by_cases h1 : k = 1 ∨ xs = []
  · have c1 : (its.toArray.isEmpty || k == 1) = true := by
      rcases h1 with rfl | rfl
      · simp
      · cases r
        rfl
    refine wpAny_binaryOp_repeat_ref (T := "tuple") (U := "int") (by decide) ⟨_, ho, rfl⟩ (fun s' => typeIs_int s' k t) noFill_tuple_mul F.fills_int_mul F.slot_int_rmul repeat_tuple F.slot_int_index.lookup
      (call_meets F.slot_int_rmul (typeIs_int s k t) F.entry_int_rmul (F.args_int_rmul_2 _ _) (int_rmul_tuple k t l its.toArray n dd sl)
        ⟨ho, rfl, ⟨_, ho, rfl⟩, call_meets F.slot_tuple_mul ⟨_, ho, rfl⟩ F.entry_tuple_mul (F.args_tuple_mul_2 _ _) (tuple_mul1 l its.toArray n dd sl k t c0 c1) ⟨ho, ?_⟩⟩)
    refine ⟨.ref l, H, I, rfl, q l H (Same.refl H) ?_⟩
    rcases h1 with rfl | rfl
    · have : (List.replicate (1 : Int).toNat xs).flatten = xs := by simp
      rw [this]
      exact hT0
    · have : (List.replicate k.toNat ([] : List V)).flatten = [] := by simp
      rw [this]
      exact hT0
  · have hk : k = 0 := by
      by_cases hx : xs = []
      · exact absurd (.inr hx) h1
      · have : ¬ 2 ≤ k := fun z => hb ⟨z, hx⟩
        have : k ≠ 1 := fun z => h1 (.inl z)
        omega
    subst hk
    have hx : its.toArray.isEmpty = false := by
      cases r with
      | nil => exact absurd (.inr rfl) h1
      | cons _ _ => rfl
    refine wpAny_binaryOp_repeat_ref (T := "tuple") (U := "int") (by decide) ⟨_, ho, rfl⟩ (fun s' => typeIs_int s' 0 t) noFill_tuple_mul F.fills_int_mul F.slot_int_rmul repeat_tuple F.slot_int_index.lookup
      (call_meets F.slot_int_rmul (typeIs_int s 0 t) F.entry_int_rmul (F.args_int_rmul_2 _ _) (int_rmul_tuple 0 t l its.toArray n dd sl)
        ⟨ho, rfl, ⟨_, ho, rfl⟩, call_meets F.slot_tuple_mul ⟨_, ho, rfl⟩ F.entry_tuple_mul (F.args_tuple_mul_2 _ _) (tuple_mul0 l its.toArray n dd sl t hx) ⟨ho, ?_⟩⟩)
    refine ⟨.ref s.heap.objs.size, _, I.laid (t' := s.toks) (o := .tup []) (fun b ob q => Heap.get?_push_of_some _ q) (Nat.le_refl _) ?_, rfl, q _ _ (same_new (I.hok.fresh (Nat.le_refl _))) ?_⟩
    · exact ⟨Nat.zero_le _, [], .nil, IsTup.new _ _⟩
    · have : (List.replicate (0 : Int).toNat xs).flatten = ([] : List V) := by simp
      rw [this]
      exact SqT.of upd_same
end
end XT

namespace XT
open PySem PySem.Spec PyProof.Rows L2
/-! ### what stands side by side -/
section
variable {α β : Type} {F : α → β → Prop}
theorem pd_append : ∀ {l m : List α} {l' m' : List β}, Paired F l l' → Paired F m m' → Paired F (l ++ m) (l' ++ m')
  | _, _, _, _, .nil, h => h
  | _, _, _, _, .cons r t, h => .cons r (pd_append t h)
theorem pd_get : ∀ {l : List α} {l' : List β}, Paired F l l' → ∀ {i : Nat} {x : α}, l[i]? = some x → ∃ y, l'[i]? = some y ∧ F x y
  | _, _, .nil, _, _, h => by simp at h
  | _, _, .cons r t, 0, _, h => ⟨_, rfl, by
      have : some _ = some _ := h
      cases this
      exact r⟩
  | _, _, .cons r t, i + 1, x, h => by
      obtain ⟨y, h1, h2⟩ := pd_get t (i := i) (x := x) (by simpa using h)
      exact ⟨y, by simpa using h1, h2⟩
theorem pd_get' : ∀ {l : List α} {l' : List β}, Paired F l l' → ∀ {i : Nat} {y : β}, l'[i]? = some y → ∃ x, l[i]? = some x ∧ F x y
  | _, _, .nil, _, _, h => by simp at h
  | _, _, .cons r t, 0, _, h => ⟨_, rfl, by
      have : some _ = some _ := h
      cases this
      exact r⟩
  | _, _, .cons r t, i + 1, x, h => by
      obtain ⟨y, h1, h2⟩ := pd_get' t (i := i) (y := x) (by simpa using h)
      exact ⟨y, by simpa using h1, h2⟩
theorem pd_take : ∀ {l : List α} {l' : List β} (n : Nat), Paired F l l' → Paired F (l.take n) (l'.take n)
  | _, _, 0, _ => by simpa using Paired.nil
  | _, _, n + 1, .nil => by simpa using Paired.nil
  | _, _, n + 1, .cons r t => by
      rw [List.take_succ_cons, List.take_succ_cons]
      exact .cons r (pd_take n t)
theorem pd_drop : ∀ {l : List α} {l' : List β} (n : Nat), Paired F l l' → Paired F (l.drop n) (l'.drop n)
  | _, _, 0, h => h
  | _, _, n + 1, .nil => by simpa using Paired.nil
  | _, _, n + 1, .cons r t => by
      rw [List.drop_succ_cons, List.drop_succ_cons]
      exact pd_drop n t
theorem pd_rev : ∀ {l : List α} {l' : List β}, Paired F l l' → Paired F l.reverse l'.reverse
  | _, _, .nil => .nil
  | _, _, .cons r t => by
      rw [List.reverse_cons, List.reverse_cons]
      exact pd_append (pd_rev t) (.cons r .nil)
theorem pd_rep (n : Nat) {l : List α} {l' : List β} (h : Paired F l l') : Paired F (List.replicate n l).flatten (List.replicate n l').flatten := by
  induction n with
  | zero => exact .nil
  | succ n ih =>
    rw [List.replicate_succ, List.replicate_succ, List.flatten_cons, List.flatten_cons]
    exact pd_append h ih
end
/-! ### steps -/
/-- a step: an insertion (true) or a removal, and its number -/
abbrev Stp := Bool × Int
def wrd : Bool → Str
  | true => "insert"
  | false => "remove"
def goodS (s : Stp) : Bool := s.1 || decide (0 < s.2)
def stD (s : Stp) : PyData := .tuple [.str (wrd s.1), .int s.2]
def StAt (K : PySem.W.Frag) (H : Hp) (x : V) (s : Stp) : Prop := ∃ r, x = .ref r ∧ SqT K H r [.str (wrd s.1), .int s.2]
abbrev StsAt (K : PySem.W.Frag) (H : Hp) : List V → List Stp → Prop := Paired (StAt K H)
theorem StAt.same {K : PySem.W.Frag} {H H' : Hp} {x : V} {s : Stp} (h : StAt K H x s) (e : Same H H') : StAt K H' x s := let ⟨r, a, b⟩ := h; ⟨r, a, same_seqT e b⟩
theorem sts_same {K : PySem.W.Frag} {H H' : Hp} {xs : List V} {L : List Stp} (h : StsAt K H xs L) (e : Same H H') : StsAt K H' xs L := L2.Paired.mapP h fun _ _ z => z.same e
theorem st_of {K : PySem.W.Frag} {H : Hp} {r : Addr} {b : Bool} {i : Int} (h : H r = some (.tup [.str (wrd b), .int i])) : StAt K H (.ref r) (b, i) := ⟨r, rfl, SqT.of h⟩
theorem st_dp {K : PySem.W.Frag} {H : Hp} {x : V} {s : Stp} (h : StAt K H x s) : Dp K H x (stD s) := by
  obtain ⟨r, rfl, hr⟩ := h
  exact .tup hr (.cons (.str _) (.cons (.int _) .nil))
theorem sts_dp {K : PySem.W.Frag} {H : Hp} : ∀ {xs : List V} {L : List Stp}, StsAt K H xs L → DpAll K H xs (L.map stD)
  | _, _, .nil => .nil
  | _, _, .cons r t => .cons (st_dp r) (sts_dp t)
theorem dp_stsT {K : PySem.W.Frag} {H : Hp} {p : Addr} {xs : List V} {L : List Stp} (h : SqT K H p xs) (k : StsAt K H xs L) : Dp K H (.ref p) (.tuple (L.map stD)) := .tup h (sts_dp k)
theorem dp_stsL {K : PySem.W.Frag} {H : Hp} {p : Addr} {xs : List V} {L : List Stp} (h : SqL K H p xs) (k : StsAt K H xs L) : Dp K H (.ref p) (.list (L.map stD)) := .lst h (sts_dp k)
theorem wrd_inj {b c : Bool} : (wrd b == wrd c) = decide (b = c) := by cases b <;> cases c <;> decide +kernel
theorem eqv_st (s t : Stp) : PyData.eqv (stD s) (stD t) = decide (s = t) := by
  obtain ⟨b, i⟩ := s
  obtain ⟨c, j⟩ := t
  have h1 : PyData.eqv (.str (wrd b)) (.str (wrd c)) = decide (b = c) := by
    have := wrd_inj (b := b) (c := c)
    simp only [PyData.eqv]
    first | exact this | simpa using this
  have h2 : PyData.eqv (.int i) (.int j) = decide (i = j) := by
    simp only [PyData.eqv]
    rw [Bool.eq_iff_iff]
    simp
  simp only [stD, PyData.eqv, PyData.eqvAll]
  simp only [PyData.eqv] at h1 h2
  first
    | (rw [h1, h2, Bool.and_true, Bool.eq_iff_iff]; simp)
    | (simp only [h1, h2]; rw [Bool.eq_iff_iff]; simp)
theorem eqvAll_sts (L : List Stp) : ∀ M : List Stp, PyData.eqvAll (L.map stD) (M.map stD) = decide (L = M) := by
  induction L with
  | nil =>
    intro M
    cases M <;> simp [PyData.eqvAll]
  | cons x L ih =>
    intro M
    cases M with
    | nil => simp [PyData.eqvAll]
    | cons y M =>
      rw [List.map_cons, List.map_cons, PyData.eqvAll, ih, eqv_st, Bool.eq_iff_iff]
      simp
theorem eqv_stsT (L M : List Stp) : PyData.eqv (.tuple (L.map stD)) (.tuple (M.map stD)) = decide (L = M) := by
  rw [PyData.eqv]
  exact eqvAll_sts L M
theorem eqv_stsL (L M : List Stp) : PyData.eqv (.list (L.map stD)) (.list (M.map stD)) = decide (L = M) := by
  rw [PyData.eqv]
  exact eqvAll_sts L M
theorem wrd_ok (b : Bool) : PyData.strOk (wrd b) = true := by cases b <;> exact ok_of _
theorem canLay_sts : ∀ L : List Stp, PyData.canLayAll0 (L.map stD) = true
  | [] => rfl
  | x :: L => by simp [PyData.canLayAll0, PyData.canLay0, stD, wrd_ok, canLay_sts L]
theorem depth_sts : ∀ L : List Stp, PyData.depthAll (L.map stD) ≤ 1
  | [] => by simp [PyData.depthAll]
  | x :: L => by
    have := depth_sts L
    simp [PyData.depthAll, PyData.depth, stD]
    omega
theorem sh_stsT (L : List Stp) : SeqAt.shaped (.tuple (L.map stD)) = true := by
  have := depth_sts L
  simp [SeqAt.shaped, PyData.canLay0, PyData.depth, canLay_sts]
  omega
theorem sh_stsL (L : List Stp) : SeqAt.shaped (.list (L.map stD)) = true := by
  have := depth_sts L
  simp [SeqAt.shaped, PyData.canLay0, PyData.depth, canLay_sts]
  omega
end XT

namespace XT
open PySem PySem.Spec PyProof.Rows L2
section
variable {prog : Program} {w : World} {A : Around} {E : Value → Shared → Prop} {s : Shared} {K : PySem.W.Frag} {x C f L : Addr} {ox : Obj} {od : Option Obj} {h₀ : Heap} {m : Str → Option Value}
/-- len(x), by an own __len__ -/
theorem len_own {Q : Value → Shared → Prop} (X : K.In s.heap) (I : PySem.W.InstAt s.heap x ox C od) (hs : PySem.W.findIn K (.ref C) "__len__" = some (some (.ref f))) (hf : PySem.W.isFn K (.ref f) = true)
    (h : wpAny (model prog w) A.in1 (call (.ref f) [.ref x]) (fun r s1 => ∃ (n : Int) (t : Tok), r = Value.int n t ∧ 0 ≤ n ∧ n < 2 ^ 63 ∧ Q (.int n s1.toks) { s1 with toks := s1.toks + 1 }) E s) : wpAny (model prog w) A (call (.builtin "len") [.ref x]) Q E s := by
  refine Calls.call_function_entry PySem.kind_len PySem.plain_len PySem.entry_len (PySem.args_len1 _) ?_
  unfold Builtin.«len»
  refine wpAny_bind (m := oneArg "len" _) (wpAny_pure ?_)
  refine wpAny_bind (m := callSpecial? (.ref x) (PySem.Str.ofString "__len__")) (PySem.W.special_fn X I hs (beq_iff_eq.mp hf) (wpAny_mono h (fun r s' hr => ?_) fun _ _ y => y))
  obtain ⟨n, t, rfl, h0, h1, q⟩ := hr
  dsimp only
  refine wpAny_bind (wpAny_holding (wpAny_pure ?_))
  refine wpAny_bind (wpAny_letGo ?_)
  show wpAny _ _ (if n < 0 then _ else _) _ _ _
  rw [if_neg (by omega)]
  show wpAny _ _ (if n ≥ 2 ^ 63 then _ else _) _ _ _
  rw [if_neg (by omega)]
  exact wpAny_bind (wpAny_mkInt (wpAny_pure ⟨_, rfl, q⟩))
/-- x * n, n an int, by an own __mul__ and no own __rmul__ -/
theorem mul_own {n : Int} {t : Tok} {Q : Value → Shared → Prop} (F : PyProof.Rows.Fr h₀ L s.heap m) (X₀ : K.In h₀) (I : PySem.W.InstAt s.heap x ox C od) (hc : PySem.W.selfFirst K C = true) (hi : PySem.W.subIn K (.type "int") (.ref C) = some false)
    (hs : PySem.W.findIn K (.ref C) "__mul__" = some (some (.ref f))) (hrm : PySem.W.findIn K (.ref C) "__rmul__" = some none) (hf : PySem.W.isFn K (.ref f) = true)
    (h : wpAny (model prog w) A (call (.ref f) [.ref x, .int n t]) (PySem.W.CmpBack Q) E s) : wpAny (model prog w) A (binaryOp .Mult (.ref x) (.int n t)) Q E s := by
  have X := X₀.keeps F.keep
  obtain ⟨cd, hcd, hm⟩ := PySem.W.any_some hc
  obtain ⟨rest, hm⟩ : ∃ rest, cd.mro = .ref C :: rest := by
    cases q : cd.mro with
    | nil => rw [q] at hm; cases hm
    | cons a r => rw [q] at hm; exact ⟨r, by rw [List.head?_cons] at hm; cases (beq_iff_eq.mp hm); rfl⟩
  have hs' : PySem.W.findIn K (.ref C) (PySem.dunder "mul") = some (some (.ref f)) := hs
  have hr' : PySem.W.findIn K (.ref C) (PySem.dunderR "mul") = some none := hrm
  unfold binaryOp
  refine wpAny_holding (wpAny_bind ?_)
  show wpAny _ _ (binaryOp1 "mul" _ _) _ _ _
  unfold binaryOp1
  refine wpAny_bind (I.type.here (wpAny_bind (wpAny_typeOf (typeIs_int s n t) (wpAny_bind ((PySem.W.fills_K X hcd hm hs').here ?_)))))
  have e1 : (Value.ref C == Value.type "int") = false := rfl
  rw [e1]
  refine wpAny_bind ?_
  refine wpAny_of_eq (a := true) PySem.F.fills_int_mul ?_
  simp only [Bool.and_self, if_true]
  refine wpAny_bind ((PySem.W.looks_subIn X hi).here ?_)
  simp only [Bool.false_eq_true, if_false, Bool.not_false, Bool.and_self, if_true, Bool.and_true]
  have nsp : wpAny (model prog w) A (numberSlotInPython (.ref C) "mul") (fun b s' => b = true ∧ s' = s) E s := by
    unfold numberSlotInPython
    refine wpAny_bind ((PySem.W.looks_findIn X hs').here ?_)
    refine wpAny_bind (m := calledByName (.ref C) _ (some (.ref f))) (wpAny_pure ?_)
    refine wpAny_bind ((PySem.W.looks_findIn X hr').here ?_)
    refine wpAny_bind (m := calledByName (.ref C) _ none) (wpAny_pure ?_)
    simp only [Bool.or_false, if_true]
    exact wpAny_pure ⟨rfl, rfl⟩
  have fin : wpAny (model prog w) A (tryMethod (.ref x) (PySem.dunder "mul") (.int n t)) (fun r s' => ∃ v, r = some v ∧ Q v s') E s := by
    unfold tryMethod
    refine wpAny_bind (PySem.W.special_fn X I hs' (beq_iff_eq.mp hf) (wpAny_mono h (fun v s' hv => ?_) fun _ _ e => e))
    cases v <;> first | exact hv.elim | exact wpAny_pure ⟨_, rfl, hv⟩
  refine wpAny_bind (wpAny_mono nsp (fun b s' z => ?_) fun _ _ e => e)
  obtain ⟨rfl, rfl⟩ := z
  simp only [if_true]
  refine wpAny_bind (m := numberSlotInPython (.type "int") "mul") (wpAny_pure ?_)
  simp only [Bool.not_false, if_true]
  refine wpAny_bind (wpAny_of_eq (a := some (.builtin "int.__rmul__")) PySem.F.slot_int_rmul.lookup ?_)
  refine wpAny_bind (wpAny_mono fin (fun v s2 z => ?_) fun _ _ e => e)
  obtain ⟨u, rfl, hq⟩ := z
  exact wpAny_pure (wpAny_pure hq)
end
section
variable {X : Cx} {CX : CXT} {n : Nat} {C g : Addr} {sp : Sp} {E : XK}
/-- len(x) -/
def rLenO (C : Addr) (sp : Sp) (E : XK) : List V → Hp → VK → Prop := fun xs H Q => ∃ a, xs = [V.ref a] ∧ InsA H a C ∧ sp xs H (fun z H' => ∃ k : Int, z = .int k ∧ 0 ≤ k ∧ k < 2 ^ 63 ∧ Q z H') E
theorem call_lenO (hs : PySem.W.findIn X.K (.ref C) "__len__" = some (some (.ref g))) (hf : PySem.W.isFn X.K (.ref g) = true) (F : FnR X.prog X.w X.K X.mg X.base CX n g sp) (hr : Room (n + 1) X.A) (hx : Passes CX X E) : CallR X (.builtin "len") (rLenO C sp E) := by
  intro pins s σ H xs us Q I r h
  obtain ⟨a, rfl, ha, q⟩ := h
  obtain ⟨u, rfl, ru⟩ := r.one
  cases (show u = Value.ref a from ru)
  obtain ⟨ox, od, J⟩ := insA_at I ha
  refine len_own I.kIn J hs hf (wpAny_mono (wpAny_call (SlX.run_at (us := [.ref a]) (ws := [.ref a]) F hr.in1 I.env0.in1 hx I (.cons rfl .nil) q)) (fun w s' z => ?_) fun _ _ x => x)
  obtain ⟨z', H', I', rz, k, rfl, k0, k1, qz⟩ := z
  obtain ⟨t, rfl⟩ : ∃ t, w = Value.int k t := rz
  exact ⟨k, t, rfl, k0, k1, .int k, H', I'.tok _, ⟨_, rfl⟩, qz⟩
/-- x * n -/
def rMulO (C : Addr) (sp : Sp) (E : XK) : R2 := fun x y H Q => ∃ a i, x = .ref a ∧ y = .int i ∧ InsA H a C ∧ sp [x, y] H Q E
theorem op_mulO (hc : PySem.W.selfFirst X.K C = true) (hi : PySem.W.subIn X.K (.type "int") (.ref C) = some false) (hs : PySem.W.findIn X.K (.ref C) "__mul__" = some (some (.ref g))) (hrm : PySem.W.findIn X.K (.ref C) "__rmul__" = some none)
    (hf : PySem.W.isFn X.K (.ref g) = true) (F : FnR X.prog X.w X.K X.mg X.base CX n g sp) (hr : Room n X.A) (hx : Passes CX X E) : OpR X (binaryOp .Mult) (rMulO C sp E) := by
  intro pins s σ H x y v u Q I rx ry h
  obtain ⟨a, i, rfl, rfl, ha, q⟩ := h
  cases (show v = Value.ref a from rx)
  obtain ⟨t, rfl⟩ : ∃ t, u = Value.int i t := ry
  obtain ⟨ox, od, J⟩ := insA_at I ha
  obtain ⟨m, hF⟩ := I.fr
  refine mul_own hF I.ok.mod.kin J hc hi hs hrm hf ?_
  refine wpAny_mono (wpAny_call (run_fnR (us := [.ref a, .int i t]) (vs := [.ref a, .int i]) F hr hx I (.cons rfl (.cons ⟨t, rfl⟩ .nil)) q)) (fun w s' z => ?_) fun _ _ x => x
  obtain ⟨z', H', I', rz, qz⟩ := z
  exact SlX.cmpback rz ⟨z', H', I', rz, qz⟩
end
end XT

namespace XT
open PySem PySem.Spec PyProof.Rows L2
section
variable {X : Cx} (K : PySem.W.Frag)
/-- x != y, by an own ==, y of another type -/
def rOwnNo (K : PySem.W.Frag) (C : Addr) (sp : Sp) (E : XK) : R2 := fun x y H Q => ∃ a t, x = .ref a ∧ InsA H a C ∧ TyX K H y t ∧ PySem.W.notFirst K C t = true ∧ sp [x, y] H (fun z H' => ∃ k, z = .bl k ∧ Q (.bl (!k)) H') E
theorem op_ownNoK {CX : CXT} {n : Nat} {C g : Addr} {sp : Sp} {E : XK} (hne : PySem.W.findIn K (.ref C) "__ne__" = some (some (.builtin "object.__ne__"))) (ho : PySem.W.subIn K (.ref C) (.type "object") = some true)
    (hs : PySem.W.findIn K (.ref C) "__eq__" = some (some (.ref g))) (hf : PySem.W.isFn K (.ref g) = true) (F : FnR X.prog X.w K X.mg X.base CX n g sp)
    (hr : Room (n + 1) X.A) (hx : Passes CX X E) (hK : X.K = K := by rfl) : OpR X (compareOp .NotEq) (rOwnNo K C sp E) := by
  subst hK
  intro pins s σ H x y v u Q I rx ry h
  obtain ⟨a, t, rfl, ha, ht, hn, q⟩ := h
  cases (show v = Value.ref a from rx)
  obtain ⟨ox, od, J⟩ := insA_at I ha
  obtain ⟨Z, kz, hz, _⟩ := kit_of I ry ht
  show wpAny _ _ (richCompare .NotEq _ _) _ _ _
  refine ne_own (tb := t) (by have := hr.units; omega) I.kIn J (kz.ty _ _ I.kIn hz) hn hne ho hs hf ?_
  refine wpAny_mono (wpAny_call (SlX.run_at (us := [.ref a, u]) (ws := [.ref a, y]) F hr.in1 I.env0.in1 hx I (.cons rfl (.cons ry .nil)) q)) (fun w s' z => ?_) fun _ _ x => x
  obtain ⟨z', H', I', rz, k, rfl, qz⟩ := z
  cases (show w = Value.bool k from rz)
  exact ⟨k, rfl, .bl (!k), H', I', rfl, qz⟩
theorem revLK {e : Expr} {te : TE} {k : Nat} {p1 p2 p3 pos : Pos} (he : PE X e te) (hK : X.K = K := by rfl) : PE X (.Subscript e (.Slice none none (some (.UnaryOp .USub (.Constant (.int 1) k p1) p2)) p3) pos) (tRevL K te) := by subst hK; exact pe_revL he
theorem catAK (hK : X.K = K := by rfl) : OpR X (binaryOp .Add) (rCatA K) := by subst hK; exact op_catA
end
theorem tyX_tup {K : PySem.W.Frag} {H : Hp} {p : Addr} {xs : List V} (h : SqT K H p xs) : TyX K H (.ref p) (.type "tuple") := by
  rcases h with (h | ⟨o, h⟩) | h
  · exact .base (.tup h)
  · exact .fTuple h
  · obtain ⟨o, its, n, e, c, _⟩ := h
    exact .kTuple e c
theorem kit_ty {K : PySem.W.Frag} {n : String} : PySem.W.kitOne K (.type n) (.type n) = some true := by simp [PySem.W.kitOne]
end XT

namespace XT
open PySem PySem.Spec PyProof.Rows L2
/-! ### own exception classes over any built-in one, their __init__ a def -/
/-- what is asked of the built-in class: tl its chain, nw its maker -/
structure BaseX (B nw ini : String) (tl : List Value) : Prop where
  eb : ExcBaseFacts B nw ini tl
  st : ∀ self : Value, PySem.refuseLoop self "__setattr__" tl = pure ()
  ob : tl.contains (.type "object") = true
theorem bx_Value : BaseX "ValueError" "ValueError.__new__" "ValueError.__init__" [.type "ValueError", .type "Exception", .type "BaseException", .type "object"] := ⟨F.excBase_ValueError, F.store_ValueError.passes, by decide +kernel⟩
theorem bx_Runtime : BaseX "RuntimeError" "RuntimeError.__new__" "RuntimeError.__init__" [.type "RuntimeError", .type "Exception", .type "BaseException", .type "object"] := ⟨F.excBase_RuntimeError, F.store_RuntimeError.passes, by decide +kernel⟩
theorem bx_Lookup : BaseX "LookupError" "LookupError.__new__" "LookupError.__init__" [.type "LookupError", .type "Exception", .type "BaseException", .type "object"] := ⟨F.excBase_LookupError, F.store_LookupError.passes, by decide +kernel⟩
theorem bx_Overflow : BaseX "OverflowError" "OverflowError.__new__" "OverflowError.__init__" [.type "OverflowError", .type "ArithmeticError", .type "Exception", .type "BaseException", .type "object"] := ⟨F.excBase_OverflowError, F.store_OverflowError.passes, by decide +kernel⟩
section
variable {tl : List Value}
theorem chain_has (cs : List Addr) (n : String) : (cs.map Value.ref ++ tl).contains (.type n) = tl.contains (.type n) := by
  induction cs with
  | nil => rfl
  | cons c cs ih =>
    rw [List.map_cons, List.cons_append, List.contains_cons, ih]
    rfl
theorem chain_pass (st : ∀ self : Value, PySem.refuseLoop self "__setattr__" tl = pure ()) (self : Value) (cs : List Addr) : PySem.refuseLoop self "__setattr__" (cs.map Value.ref ++ tl) = pure () := by
  induction cs with
  | nil => exact st self
  | cons c cs ih =>
    rw [List.map_cons, List.cons_append, PySem.refuseLoop_ref]
    exact ih
end
/-- the written part of such a class -/
structure OexG (K : PySem.W.Frag) (C : Addr) (tl : List Value) (nw : String) : Prop where
  cls : ∃ (nm q : Str) (N : Addr) (bs : List Value) (cs : List Addr) (sn : List Str) (sub : List Value) (ab : Bool) (col : Option Bool) (dd : Option Addr) (k0 k1 k2 k3 k5 : Option Value), K.lookup C = some (excClassObj nm q C N bs (cs.map Value.ref ++ tl) true sn sub ab col dd k0 k1 k2 k3 k5 nw)
  sa : PySem.W.findIn K (.ref C) "__setattr__" = some (some (.builtin "object.__setattr__"))
  exC : PySem.W.subIn K (.ref C) (.type "BaseException") = some true
  tyC : PySem.W.typeIn K (.ref C) = some (.type "type")
  kC : PySem.W.keepIn K (.ref C) = true
section
variable {prog : Program} {w : World} {A : Around} {R : Result → Shared → Prop} {hp : Heap} {g : Array GenState} {d : Drawn} {t : Nat} {os : OsState}
/-- the first field of such an exception -/
theorem gx_store {K : PySem.W.Frag} {name : Str} {tk : Tok} {v : Value} {x C : Addr} {fv : Array Value} {cd : ClassData} {tl : List Value} {cs : List Addr} (st : ∀ self : Value, PySem.refuseLoop self "__setattr__" tl = pure ()) (ob : tl.contains (.type "object") = true)
    (X : K.In hp) (hx : hp.get? x = some { cls := .ref C, data := .fields fv }) (hcd : PySem.W.clsIn K C = some cd) (hm : cd.mro = (C :: cs).map Value.ref ++ tl) (hh : cd.hasDict = true) (ha : PySem.W.findIn K (.ref C) name = some none)
    (hq : ∀ h' tk' dx, (∀ b o, b ≠ x → hp.get? b = some o → h'.get? b = some o) → hp.objs.size ≤ dx → dx ≠ x → h'.get? x = some { cls := .ref C, dict := some dx, data := .fields fv } →
      h'.Ns1 dx (fun y => if y = name then some v else none) → R (.ok (.ret .none)) ⟨h', g, d, tk', os⟩) :
    codeAny (model prog w) A (.call (.builtin "object.__setattr__") ⟨[.ref x, .str name tk, v], []⟩) R ⟨hp, g, d, t, os⟩ := by
  have J : PySem.W.InstAt hp x { cls := .ref C, data := .fields fv } C none := ⟨hx, rfl, rfl, trivial⟩
  have hob : cd.mro.contains (.type "object") = true := by rw [hm, chain_has, ob]
  have hne : cd.mro.isEmpty = false := by rw [hm]; rfl
  have hx0 : x ≠ hp.objs.size := Nat.ne_of_lt (Heap.lt_size hx)
  have isO : PySem.W.Looks (model prog w) hp (isInstance (.ref x) (.type "object")) true := J.type.andThen (PySem.W.looks_mroIn X (by unfold PySem.W.mroIn; rw [hcd, Option.bind_some, if_neg (by rw [hne]; decide), hob]))
  have SF := F.store_object
  refine codeAny_call_builtin SF.slot.plain SF.entry (@PySem.W.check_slot (model prog w) _ _ ⟨hp, g, d, t, os⟩ "object.__setattr__" "object" "__setattr__" (.ref x) [.str name tk, v] [] _ SF.kind SF.split isO (SF.args (.ref x) (.str name tk) v) ?_)
  have lm : PySem.W.Looks (model prog w) hp (mroOf (.ref C)) cd.mro := (PySem.W.looks_clsIn X hcd).andThen .now
  have lc : PySem.W.Looks (model prog w) hp (classData C) cd := PySem.W.looks_clsIn X hcd
  have lt : PySem.W.Looks (model prog w) hp (Builtin.ObjectAttr.storeTaker? none) none := .now
  rw [PySem.W.osa_eq, PySem.refuse_eq]
  refine wpAny_bind (wpAny_bind (J.type.at (wpAny_bind (lm.at ?_))))
  rw [hm, chain_pass st]
  refine wpAny_pure (wpAny_bind (J.type.at (wpAny_bind ((PySem.W.looks_findIn X ha).at (wpAny_bind (lt.at ?_))))))
  show wpAny _ _ (Builtin.ObjectAttr.storeInOwnDict (.ref x) (.ref C) (.str name tk) name v false) _ _ _
  obtain ⟨nm, bs, mro, ns, qn, hd, sn, sb, ab, col, del⟩ := cd
  dsimp only at hh
  subst hh
  unfold Builtin.ObjectAttr.storeInOwnDict Builtin.ObjectAttr.ownDictForStores
  repeat (first | with_reducible refine PySem.HandSPX.store_in_new ?_ ?_ | with_reducible refine wpAny_loadPart_at hx ?_ | with_reducible refine lc.at ?_ | wp_step)
  · exact ⟨_, #[], _, (Heap.get?_update_ne _ _ _ _ hx0.symm).trans (Heap.get?_push_at rfl rfl), rfl, fun e he => absurd he (by simp), fun _ => rfl⟩
  · intro h' tk' hn' hs
    have hx1 : (hp.push { cls := .type "dict", data := .dict #[] }).get? x = some { cls := .ref C, data := .fields fv } := Heap.get?_push_of_some _ hx
    exact hq h' tk' hp.objs.size (fun b o hb ho => (hs.2 b (Nat.ne_of_lt (Heap.lt_size ho))).trans ((Heap.get?_update_ne _ _ _ _ hb).trans (Heap.get?_push_of_some _ ho))) (Nat.le_refl _) hx0.symm ((hs.2 x hx0).trans (Heap.get?_update_self _ hx1 rfl)) hn'
end
section
variable {X : Cx} {pins : List (Addr × Obj)} {σ : L2.St} {H : Hp} {s : Shared} {a C : Addr} {f : Str} {y : V} {u : Value} {Q : Unit → Shared → Prop} {E : Value → Shared → Prop} {A : Around} {B nw ini : String} {tl : List Value}
theorem gst_new (bx : BaseX B nw ini tl) (T : OexG X.K C tl nw) (I : Inv X pins σ H s) (e : H a = some (exo a C none)) (hno : PySem.W.findIn X.K (.ref C) f = some none) (ry : RelV y u)
    (h : ∀ dx s', H dx = none → dx ≠ a → Inv X pins σ (upd (upd H dx (exd dx [(f, y)])) a (exo a C (some dx))) s' → Q () s') : wpAny (model X.prog X.w) A (setAttr (.ref a) f u) Q E s := by
  obtain ⟨nm, q, N, bs, cs, sn, sub, ab, col, dd, k0, k1, k2, k3, k5, hC⟩ := T.cls
  have hcl : PySem.W.clsIn X.K C = some { name := nm, bases := bs, mro := .ref C :: (cs.map Value.ref ++ tl), ns := N, qualname := q, hasDict := true, slotNames := sn, subclasses := sub, abstract := ab, collection := col, hasDel := false } := by unfold PySem.W.clsIn; rw [hC] <;> rfl
  obtain ⟨t1, ho⟩ := exo_at I.hok e
  obtain ⟨hp, g, d, t, os⟩ := s
  refine PySem.W.set_plain I.kIn (ox := { cls := .ref C, dict := none, data := .fields #[.ref t1, .none, .none, .none, .bool false, .none] }) (od := none) ⟨ho, rfl, rfl, trivial⟩ T.sa ?_
  refine gx_store (cs := cs) bx.st bx.ob I.kIn ho hcl rfl rfl hno (fun h' tk' dx k dn dne hx hn => ?_)
  have fresh : H dx = none := I.hok.fresh dn
  have low : ∀ {b : Addr} {o : Obj}, hp.get? b = some o → b ≠ dx := fun z => Nat.ne_of_lt (Nat.lt_of_lt_of_le (Heap.lt_size z) dn)
  have notA : ∀ {b : Addr}, H b = none → b ≠ a := fun {b} n z => by rw [z, e] at n; cases n
  have both : ∀ {b : Addr} {v : HO}, H b = some v → exo a C none ≠ v → upd (upd H dx (exd dx [(f, y)])) a (exo a C (some dx)) b = some v := fun {b v} z ne => by
    rw [upd_ne (fun q => by rw [q, e] at z; exact ne (Option.some.inj z)), upd_ne (fun q => by rw [q, fresh] at z; cases z)]
    exact z
  have U : Un X.fs [] H (upd (upd H dx (exd dx [(f, y)])) a (exo a C (some dx))) hp h' := {
    keep := fun b o z n _ _ => k b o (notA n) z
    slot := fun b o z n _ _ => ⟨o.slots, k b o (notA n) z⟩
    free := fun b o z n _ => by rw [upd_ne (notA n), upd_ne (low z)]; exact n
    there := fun b o z _ => by
      by_cases hb : b = a
      · subst hb
        exact ⟨_, hx⟩
      · exact ⟨o, k b o hb z⟩
    tups := fun b xs z => both z exo_tup
    frzs := fun b o v z => both z exo_frz
    tbls := fun b ps z => ⟨#[], by rw [both z exo_tbl]; simp⟩ }
  refine h dx _ fresh dne (I.un (t' := tk') U fun b o z => ?_)
  by_cases hb : b = a
  · subst hb
    rw [upd_same] at z
    cases z
    exact exo_ok hx
  · rw [upd_ne hb] at z
    by_cases hd : b = dx
    · subst hd
      rw [upd_same] at z
      cases z
      exact exd_ok hn (relO_put (fs := []) ry fun g => True.intro)
    · rw [upd_ne hd] at z
      refine (I.hok b o z).stay (fun c v hc zz => k c v ?_ zz) (fun c hc => both hc exo_own) (fun c xs hc => both hc exo_tup)
      rcases hc with rfl | hc
      · exact hb
      · exact at_ne e hc exo_own
end
/-- self.f = e in such an __init__ -/
def tGst (K : PySem.W.Frag) (f : Str) (to te : TE) : TS := fun D σ H => te σ H fun y H1 => to σ H1 fun x H2 => ∃ (a C : Addr) (B nw ini : String) (tl : List Value), x = .ref a ∧ BaseX B nw ini tl ∧ OexG K C tl nw ∧ PySem.W.findIn K (.ref C) f = some none ∧
  H2 a = some (exo a C none) ∧ ∀ dx, H2 dx = none → dx ≠ a → D.nx σ (upd (upd H2 dx (exd dx [(f, y)])) a (exo a C (some dx)))
section
variable {X : Cx} {o e : Expr} {es : List Expr} {to te : TE} {ta : TA} {f : Str} {p p' pos : Pos} {B nw ini : String} {tl : List Value}
theorem ps_gst (ho : PE X o to) (he : PE X e te) (hs : swapsWith e (some (.Attribute o f p')) pos.line X.env = pure false := by rfl) : PS X (.Assign [.Attribute o f p'] e pos) (tGst X.K f to te) := by
  refine ⟨fun pins s σ H D I h => ?_⟩
  refine plainObj_wpAny_Assign_Attribute (thn (he.run pins s σ H _ I h) fun v s1 ⟨y, H1, I1, r1, q1⟩ => thn (ho.run pins s1 σ H1 _ I1 q1) fun u s2 ⟨x, H2, I2, r2, a, C, B, nw, ini, tl, ex, bx, T, hno, ea, q⟩ => ?_) hs
  subst ex
  obtain rfl : u = Value.ref a := r2
  exact gst_new bx T I2 ea hno r1 fun dx s' n ne J => ⟨σ, _, J, q dx n ne⟩
/-- C(e, ..) to be raised -/
theorem pmk_gex {CX : CXT} {x : Str} {C fI : Addr} {k : Nat} {fd : FuncData} {ps : List Str} {sp : Sp} (bx : BaseX B nw ini tl) (T : OexG X.K C tl nw) (iC : PySem.W.findIn X.K (.ref C) "__init__" = some (some (.ref fI))) (tI : PySem.W.typeIn X.K (.ref fI) = some (.type "function"))
    (F1 : FnOk X.prog X.w X.K X.mg X.base CX k fI fd ps sp) (hr : Room (k + 1) X.A) (hb : Binds X.K fd ps []) (hx : Passes CX X (fun _ _ _ => False)) (hg : Gl X x) (hm : X.mg x = some (.ref C)) (ha : PA X (e :: es) ta)
    (hdb : (x == ("__debug__" : Str)) = false := by decide) (he : starEach (e :: es) X.env = (false, eval e X.env) :: starEach es X.env := by rfl) (hpl : (backTo pos (starEach es X.env)).any (·.1) = false := by rfl) :
    PMk X (.Call (.Name x p) (e :: es) [] pos) (tMkO C sp [] ta) := by
  intro pins s σ H Q I h
  obtain ⟨nm, q, N, bs, cs, sn, sub, ab, col, dd, k0, k1, k2, k3, k5, hC⟩ := T.cls
  refine wpAny_Call_Name_kw (ld_glob I hg hm ?_ hdb)
  refine PySem.W.callWith_K (h₀ := X.base) I.ok.mod.kin T.kC (thn (ha.run pos pins s σ H _ I h) fun us s1 ⟨vs, H1, I1, r1, hz, q1⟩ => ⟨I1.kIn, ?_⟩) he hpl
  show wpAny _ _ (call (.ref C) us) _ _ _
  obtain ⟨hp, g, dr, tk, os⟩ := s1
  have up : hp.objs.size ≤ hp.objs.size + 1 := Nat.le_succ _
  have hq := q1 (hp.objs.size + 1) (I1.hok.fresh up)
  have kk : ∀ b o, hp.get? b = some o → ((hp.push (PySem.W.kdv_tup us)).push (PySem.HandSPX.excO C hp.objs.size)).get? b = some o := fun b o z => Heap.get?_push_of_some _ (Heap.get?_push_of_some _ z)
  have I2 : Inv X pins σ (upd H1 (hp.objs.size + 1) (exo (hp.objs.size + 1) C none)) ⟨(hp.push (PySem.W.kdv_tup us)).push (PySem.HandSPX.excO C hp.objs.size), g, dr, tk, os⟩ :=
    I1.laid (t' := tk) (a := hp.objs.size + 1) (o := exo (hp.objs.size + 1) C none) kk up (exo_ok (t1 := hp.objs.size) (by heap_get))
  have r2 : Vals (V.ref (hp.objs.size + 1) :: (vs ++ [])) (Value.ref (hp.objs.size + 1) :: us) := .cons rfl (by rw [List.append_nil]; exact r1)
  have hl : (Value.ref (hp.objs.size + 1) :: us).length = ps.length := r2.length.symm.trans (F1.len _ _ _ _ hq)
  have hus : us.length ≤ sizeLine := by
    rw [← Paired.length r1, sizeLine_eq]
    omega
  have hbd := hb ⟨(hp.push (PySem.W.kdv_tup us)).push (PySem.HandSPX.excO C hp.objs.size), g, dr, tk, os⟩ (Value.ref (hp.objs.size + 1) :: us) I2.kIn (by simpa using hl)
  refine wpAny_call (PySem.HandSPX.call_own bx.eb (chain_has cs) (I1.kIn _ _ hC) (PySem.W.looks_findIn I1.kIn iC) (fun self => PySem.W.bind_fn I1.kIn self tI) hus
    (codeAny_mono (F1.run _ X.stack _ _ ⟨Value.ref (hp.objs.size + 1) :: us, []⟩ (Value.ref (hp.objs.size + 1) :: us) _ _ (fun _ _ _ => False) (hr.make C us []) (I2.env0.make C us []) (by simpa using hbd) r2 hq) fun r s' hq' => ?_))
  match r, hq' with
  | .error er, hq' => exact hx pins σ _ _ er s' I2 hq'
  | .ok (.ret u), hq' =>
    obtain ⟨v, H2, os2, bare2, un2, hok2, rv, ev, d, fs, ea, ed, hd1, q2⟩ := hq'
    subst ev
    obtain ⟨h2, g2, d2, t2, os'⟩ := s'
    exact ⟨rv, mk_end (raises_own T.exC T.tyC) I1 up kk un2 hok2 os2 bare2 ea ed hd1 q2⟩
end
/-- what the written part says of such an error -/
structure ErrG (K : PySem.W.Frag) (C fI : Addr) (f : Str) (B nw ini : String) (tl : List Value) : Prop where
  bx : BaseX B nw ini tl
  oex : OexG K C tl nw
  iC : PySem.W.findIn K (.ref C) "__init__" = some (some (.ref fI))
  tI : PySem.W.typeIn K (.ref fI) = some (.type "function")
  no : PySem.W.findIn K (.ref C) f = some none
  ga : PySem.W.findIn K (.ref C) "__getattribute__" = some (some (.builtin "BaseException.__getattribute__"))
  gg : PySem.W.findIn K (.ref C) "__getattr__" = some none
  hd : PySem.W.hasDictIn K C = true
  ha : PySem.W.findIn K (.ref C) "__class__" = some (some (.builtin "object.__class__"))
  hn : PySem.W.specialIn K (.builtin "object.__class__") "__get__" = some (some (.builtin "getset_descriptor.__get__"))
  ht : PySem.W.takesIn K (.builtin "object.__class__") = some true
  hm : PySem.W.mroIn K C (.type "object") = some true
section
variable {K : PySem.W.Frag} {C fI : Addr} {f : Str} {B nw ini : String} {tl : List Value}
theorem ErrG.xf (T : ErrG K C fI f B nw ini tl) : XfC K C := ⟨T.ga, T.gg, T.oex.exC, T.hd⟩
theorem ErrG.exc (T : ErrG K C fI f B nw ini tl) : ExcC K C := ⟨T.ga, T.gg, T.oex.exC, T.hd, T.ha, T.hn, T.ht, T.hm⟩
/-- raise C(e) in a def -/
theorem ps_raiseG {X : Cx} {W : WX} {x : Str} {k : Nat} {fd : FuncData} {ps : List Str} {e : Expr} {te : TE} {p pos rpos : Pos} (T : ErrG X.K C fI f B nw ini tl) (F1 : FnOk X.prog X.w X.K X.mg X.base CX0 k fI fd ps (spErr f C)) (hb : Binds X.K fd ps []) (hr : Room (k + 1) X.A)
    (hm : X.mg x = some (.ref C)) (hc : X.calm = true) (tk : Takes X W) (he : PE X e te) (hg : Gl X x := by rfl) (hdb : (x == ("__debug__" : Str)) = false := by decide)
    (hs : starEach [e] X.env = (false, eval e X.env) :: starEach [] X.env := by rfl) (hpl : (backTo pos (starEach [] X.env)).any (·.1) = false := by rfl) :
    PS X (.Raise (some (.Call (.Name x p) [e] [] pos)) none rpos) (fun _ σ H => tErr C f te σ H fun cls d H' => W cls d σ H') :=
  ps_raise hc tk (pmk_gex T.bx T.oex T.iC T.tI F1 hr hb pass0 hg hm (pa_cons he pa_nil hs) hdb hs hpl)
end
end XT

namespace XT
open PySem PySem.Spec PyProof.Rows L2
/-! ### sorted(t) of a tuple of ints -/
def rSortedA (K : PySem.W.Frag) : List V → Hp → VK → Prop := fun vs H Q => ∃ (a : Addr) (ns : List Int), vs = [V.ref a] ∧ (SqL K H a (ns.map V.int) ∨ SqT K H a (ns.map V.int)) ∧
  ∀ (ns' : List Int) (p : Addr), ns'.Perm ns → ns'.Pairwise (· ≤ ·) → H p = none → Q (.ref p) (upd H p (.lst (ns'.map V.int)))
section
variable {X : Cx}
theorem cr_sortedA : CallR X (.builtin "sorted") (rSortedA X.K) := by
  intro pins s σ H vs us Q I r h
  obtain ⟨a, ns, rfl, hs | hs, q⟩ := h
  · exact cr_sortedI pins s σ H _ us Q I r ⟨a, ns, rfl, hs, q⟩
  obtain ⟨its, rv, hl, hz⟩ := I.tuple hs
  rw [Vals.ref1 r]
  have hi := rv.ints
  have hle : its.length ≤ sizeLine := by rw [← rv.length]; exact hz
  obtain ⟨o, ho, hc, n, hd⟩ := hl
  refine Calls.call_function_entry kind_sorted plain_sorted entry_sorted (args_sorted1 _) ?_
  unfold Builtin.«sorted»
  refine wpAny_bind (m := checkCount "sorted" 1 1 _) (wpAny_pure ?_)
  refine wpAny_bind (wpAny_collect_seq a (.inr rfl) ho hc hd (fun h' hk => ?_) (by rw [List.size_toArray]; exact hle))
  have e0 : its.toArray.toList = its := by simp
  rw [e0]
  refine wpAny_bind (wpAny_newList ?_ hle)
  have hoL : (h'.push (seqObj "list" its.toArray 0)).get? h'.objs.size = some (seqObj "list" its.toArray 0) := Heap.get?_push_size _ rfl
  show wpAny _ _ _ _ _ { s with heap := h'.push (seqObj "list" its.toArray 0) }
  refine wpAny_bind (wpAny_holding (wpAny_call_entry slot_list_sort ⟨_, hoL, rfl⟩ entry_list_sort (SrtO.list_sort_ord SrtO.swo_int hoL hle (fun h2 => SrtO.ints_sortable hi h2) fun out q1 q2 => ⟨_, rfl, ?_⟩) (args_list_sort _)))
  refine wpAny_pure ⟨_, rfl, ?_⟩
  obtain ⟨k1, k2, k3⟩ := SrtO.ints_out hi q1 q2
  obtain ⟨ep, he'⟩ := PyProof.Rows.sortedHeap_at (vs := its) (out := out.toArray) hoL
  have hlen : ((out.map SrtO.iv).map V.int).length ≤ sizeLine := by
    rw [List.length_map, k2.length_eq]
    rw [List.length_map] at hz
    exact hz
  have I1 : Inv X pins σ H { s with heap := h' } := I.kept (t' := s.toks) hk
  have h2 : ∀ b u, h'.get? b = some u → b ≠ h'.objs.size ∧ (h'.push (seqObj "list" its.toArray 0)).get? b = some u := fun b u z => ⟨Nat.ne_of_lt (Heap.lt_size z), Heap.get?_push_of_some _ z⟩
  exact ⟨.ref _, upd H h'.objs.size (.lst ((out.map SrtO.iv).map V.int)), I1.laid (t' := s.toks) (fun b u z => by rw [PyProof.Rows.sortedHeap_old (h2 b u z).1 (Heap.lt_size (h2 b u z).2)]; exact (h2 b u z).2) (Nat.le_refl _) ⟨hlen, out, ep, vals_of_ints k1, he'⟩, rfl, q _ _ k2 k3 (I1.hok.fresh (Nat.le_refl _))⟩
theorem sortedAK (K : PySem.W.Frag) (hK : X.K = K := by rfl) : CallR X (.builtin "sorted") (rSortedA K) := by subst hK; exact cr_sortedA
end
end XT

namespace XT
open PySem PySem.Spec PyProof.Rows L2
/-! ### own exception classes called with one keyword -/
section
variable {prog : Program} {w : World} {A : Around} {E : Value → Shared → Prop} {R : Result → Shared → Prop} {h : Heap} {g : Array GenState} {d : Drawn} {t : Nat} {os : OsState} {nm q : Str} {C N fI : Addr} {bs bm bmB : List Value} {hdct : Bool} {sn : List Str} {sub : List Value} {ab : Bool} {col : Option Bool} {dd : Option Addr}
  {k0 k1 k2 k3 k5 : Option Value} {B newId initId : String} {kf : Str} {kv : Value}
theorem kx_new {M : Model} (F : ExcBaseFacts B newId initId bmB) (hT : ∀ X : String, bm.contains (.type X) = bmB.contains (.type X)) {Q : Unit → Shared → Prop}
    (hC : h.get? C = some (excClassObj nm q C N bs bm hdct sn sub ab col dd k0 k1 k2 k3 k5 newId)) (hq : Q () ⟨h, g, d, t, os⟩) : wpAny M A (checkBuiltinCall newId ⟨[.ref C], [(kf, kv)]⟩) Q E ⟨h, g, d, t, os⟩ := by
  have hcont : (Value.ref C :: bm).contains (.type B) = true := by rw [List.contains_cons, hT, F.hasB, Bool.or_true]
  have hstar := F.noStar
  simp only [checkBuiltinCall, F.newKind, F.newSplit, F.newRow]
  repeat (first | refine wpAny_loadPart_at hC ?_ | (refine wpAny_isSubtype_exc hC ?_; rw [hcont]) | refine wpAny_staticBase_exc hC ?_ | refine wpAny_madeBy_exc hC ?_ | simp only [bne_self_eq_false, Bool.false_eq_true, if_false] | wp_step)
  exact hq
theorem kx_tc {M : Model} {Q : Unit → Shared → Prop} (hC : h.get? C = some (excClassObj nm q C N bs bm hdct sn sub ab col dd k0 k1 k2 k3 k5 newId))
    (hq : Q () ⟨h, g, d, t, os⟩) : wpAny M A (checkBuiltinCall "type.__call__" ⟨[.ref C], [(kf, kv)]⟩) Q E ⟨h, g, d, t, os⟩ := by
  have f3 := tc_sub
  have hT : (⟨h, g, d, t, os⟩ : Shared).TypeIs (.ref C) "type" := ⟨_, hC, rfl⟩
  simp only [checkBuiltinCall, tc_kind, tc_split]
  repeat (any_goals (first | assumption | with_reducible refine wpAny_loadPart_at hC ?_ | with_reducible refine wpAny_onRaise ?_ | with_reducible refine wpAny_map ?_ | wp_step))
end
end XT

namespace XT
open PySem PySem.Spec PyProof.Rows L2
section
variable {prog : Program} {w : World} {A : Around} {E : Value → Shared → Prop} {R : Result → Shared → Prop} {h : Heap} {g : Array GenState} {d : Drawn} {t : Nat} {os : OsState} {nm q : Str} {C N fI : Addr} {bs bm bmB : List Value} {hdct : Bool} {sn : List Str} {sub : List Value} {ab : Bool} {col : Option Bool} {dd : Option Addr}
  {k0 k1 k2 k3 k5 : Option Value} {B newId initId : String} {kf : Str} {kv : Value}
theorem kx_newobj (F : ExcBaseFacts B newId initId bmB) (hT : ∀ X : String, bm.contains (.type X) = bmB.contains (.type X)) (hC : h.get? C = some (excClassObj nm q C N bs bm hdct sn sub ab col dd k0 k1 k2 k3 k5 newId))
    (hq : R (.ok (.ret (.ref (h.objs.size + 1)))) ⟨(h.push (PySem.W.kdv_tup [])).push (PySem.HandSPX.excO C h.objs.size), g, d, t, os⟩) :
    codeAny (model prog w) A (.builtin newId ⟨[.ref C], [(kf, kv)]⟩) R ⟨h, g, d, t, os⟩ := by
  have hends := F.ends
  have hcB : (Value.ref C :: bm).contains (.type B) = true := by rw [List.contains_cons, hT, F.hasB, Bool.or_true]
  have hcA : (Value.ref C :: bm).contains (.type "AttributeError") = false := by rw [List.contains_cons, hT, F.noAttr]; rfl
  have hcN : (Value.ref C :: bm).contains (.type "NameError") = false := by rw [List.contains_cons, hT, F.noName]; rfl
  refine codeAny_builtinAt F.entry ?_
  unfold Builtin.«BaseException.__new__»
  refine PySem.wpAt_bind ?_
  show PySem.wpAt _ _ _ (stack >>= _) _ _ _
  refine PySem.wpAt_bind (PySem.wpAt_stack fun p below => PySem.wpAt_of_wpAny ?_)
  wp_walk
  refine PySem.wpAt_of_wpAny ?_
  rw [F.owner]
  repeat (first | with_reducible refine wpAny_madeHere_exc F.canon hC ?_ | with_reducible refine wpAny_loadPart_at hC ?_ | (with_reducible refine wpAny_isSubtype_exc hC ?_; first | rw [hcB] | rw [hcA] | rw [hcN]) | wp_step)
  show R _ _
  rw [Heap.size_push]
  exact hq
theorem kx_type {Q : PySem.Fin → Shared → Prop} (F : ExcBaseFacts B newId initId bmB) (hT : ∀ X : String, bm.contains (.type X) = bmB.contains (.type X)) (hC : h.get? C = some (excClassObj nm q C N bs bm hdct sn sub ab col dd k0 k1 k2 k3 k5 newId))
    (hi : PySem.W.Looks (model prog w) h (typeLookup (.ref C) "__init__") (some (.ref fI))) (hb : ∀ self, PySem.W.Looks (model prog w) h (bindSpecial (.ref fI) self) (.ref fI, [self]))
    (hq : codeAny (model prog w) A (.call (.ref fI) ⟨[.ref (h.objs.size + 1)], [(kf, kv)]⟩)
      (fun r s' => match r with | .ok (.ret v) => v = .none ∧ Q (.done (.ret (.ref (h.objs.size + 1)))) s' | .ok _ => False | .error e => E e s')
      ⟨(h.push (PySem.W.kdv_tup [])).push (PySem.HandSPX.excO C h.objs.size), g, d, t, os⟩) :
    wpAny (model prog w) A (Builtin.«type.__call__» ⟨[.ref C], [(kf, kv)]⟩) Q E ⟨h, g, d, t, os⟩ := by
  repeat (first | with_reducible refine wpAny_loadPart_at hC ?_ | with_reducible refine wpAny_madeBy_exc hC ?_ | wp_step)
  refine codeAny_call_builtin_code (Code.quiet_builtin _ F.quiet) (kx_new F hT hC ?_)
  refine kx_newobj F hT hC ?_
  show wpAny _ _ _ _ _ _
  have kk : ∀ b o, h.get? b = some o → ((h.push (PySem.W.kdv_tup [])).push (PySem.HandSPX.excO C h.objs.size)).get? b = some o := fun b o e => Heap.get?_push_of_some _ (Heap.get?_push_of_some _ e)
  have hC1 := kk _ _ hC
  have hget : ((h.push (PySem.W.kdv_tup [])).push (PySem.HandSPX.excO C h.objs.size)).get? (h.objs.size + 1) = some (PySem.HandSPX.excO C h.objs.size) := by heap_get
  have hcC : (Value.ref C :: bm).contains (.ref C) = true := by simp
  have i1 := hi.keeps kk
  have b1 := (hb (.ref (h.objs.size + 1))).keeps kk
  unfold isInstance
  repeat (first | with_reducible refine wpAny_loadPart_at hget ?_ | (with_reducible refine wpAny_isSubtype_exc hC1 ?_; rw [hcC]) | wp_step)
  show wpAny _ _ (typeLookup (.ref C) _) _ _ _
  refine i1.at ?_
  refine wpAny_holding (wpAny_bind (b1.at ?_))
  refine wpAny_bind (wpAny_call (codeAny_mono hq fun r s' z => ?_))
  rcases r with e | (v | _ | _ | _) <;> first | exact z | exact z.elim | skip
  obtain ⟨rfl, z⟩ := z
  first
    | exact wpAny_pure (wpAny_pure z)
    | (wp_walk; exact z)
theorem kx_call (F : ExcBaseFacts B newId initId bmB) (hT : ∀ X : String, bm.contains (.type X) = bmB.contains (.type X)) (hC : h.get? C = some (excClassObj nm q C N bs bm hdct sn sub ab col dd k0 k1 k2 k3 k5 newId))
    (hi : PySem.W.Looks (model prog w) h (typeLookup (.ref C) "__init__") (some (.ref fI))) (hb : ∀ self, PySem.W.Looks (model prog w) h (bindSpecial (.ref fI) self) (.ref fI, [self]))
    (hq : codeAny (model prog w) (A.under (.builtin "type.__call__" ⟨[.ref C], [(kf, kv)]⟩)) (.call (.ref fI) ⟨[.ref (h.objs.size + 1)], [(kf, kv)]⟩) (PySem.W.InitBack (h.objs.size + 1) R)
      ⟨(h.push (PySem.W.kdv_tup [])).push (PySem.HandSPX.excO C h.objs.size), g, d, t, os⟩) :
    codeAny (model prog w) A (.call (.ref C) ⟨[], [(kf, kv)]⟩) R ⟨h, g, d, t, os⟩ := by
  have f1 := tc_lookup
  have f2 := tc_bind (.ref C)
  have hTy : (⟨h, g, d, t, os⟩ : Shared).TypeIs (.ref C) "type" := ⟨_, hC, rfl⟩
  refine codeAny_of_tree ?_
  show wpAny _ _ (callAny (.ref C) _) _ _ _
  repeat (any_goals (first | assumption | with_reducible refine wpAny_loadPart_at hC ?_ | wp_step))
  refine ⟨rfl, ?_⟩
  refine codeAny_call_builtin_at (Code.quiet_builtin _ (by decide +kernel)) entry_typeCall (kx_tc hC (kx_type F hT hC hi hb ?_))
  refine codeAny_mono hq fun r s' z => ?_
  rcases r with e | (v | _ | _ | _) <;> exact z
end
end XT

namespace XT
open PySem PySem.Spec PyProof.Rows L2
/-! ### errors as values -/
/-- an error of the class at C stands at a, its field f holds v -/
def ErrAt (H : Hp) (C : Addr) (f : Str) (v : V) (a : Addr) : Prop := ∃ d, H a = some (exo a C (some d)) ∧ H d = some (exd d [(f, v)])
theorem ErrAt.same {H H' : Hp} {C : Addr} {f : Str} {v : V} {a : Addr} (h : ErrAt H C f v a) (e : Same H H') : ErrAt H' C f v a := let ⟨d, p, q⟩ := h; ⟨d, e _ _ p, e _ _ q⟩
theorem err_made {H : Hp} {a d C : Addr} {f : Str} {v : V} (ha : H a = none) (hd : H d = none) (ne : d ≠ a) : Same H (upd (upd (upd H a (exo a C none)) d (exd d [(f, v)])) a (exo a C (some d))) ∧ ErrAt (upd (upd (upd H a (exo a C none)) d (exd d [(f, v)])) a (exo a C (some d))) C f v a := by
  refine ⟨fun b o e => ?_, d, upd_same, by rw [upd_ne ne, upd_same]⟩
  have h1 : b ≠ a := fun q => by rw [q, ha] at e; cases e
  have h2 : b ≠ d := fun q => by rw [q, hd] at e; cases e
  rw [upd_ne h1, upd_ne h2, upd_ne h1]
  exact e
/-- C(e), C(f=e), as a value -/
def tMkV (C : Addr) (f : Str) (te : TE) : TE := fun σ H Q => tCons te tNil σ H fun vs H1 => ∃ v, vs = [v] ∧ ∀ a H2, Same H1 H2 → H1 a = none → ErrAt H2 C f v a → Q (.ref a) H2
section
variable {X : Cx} {B nw ini : String} {tl : List Value} {C fI : Addr} {f x : Str} {k : Nat} {fd : FuncData} {e : Expr} {te : TE} {p pos kp : Pos}
theorem run_err {pins : List (Addr × Obj)} {σ : L2.St} {H : Hp} {s : Shared} {Q : VK} {v : V} {u : Value} {ps : List Str} {args : Args} (F1 : FnOk X.prog X.w X.K X.mg X.base CX0 k fI fd ps (spErr f C)) (hr : Room (k + 1) X.A)
    (I : Inv X pins σ H s) (rv : RelV v u) (kw : List (Str × Value)) (us : List Value)
    (hbd : BindsTo { s with heap := (s.heap.push (PySem.W.kdv_tup us)).push (PySem.HandSPX.excO C s.heap.objs.size) } fd args (ps.zip [Value.ref (s.heap.objs.size + 1), u]))
    (q : ∀ a H2, Same H H2 → H a = none → ErrAt H2 C f v a → Q (.ref a) H2) :
    codeAny (model X.prog X.w) (X.A.under (.builtin "type.__call__" ⟨.ref C :: us, kw⟩)) (.call (.ref fI) args) (PySem.W.InitBack (s.heap.objs.size + 1) (fun r s' => match r with | .ok (.ret v) => EP X pins σ Q v s' | .ok _ => False | .error e => X.xe e s'))
      { s with heap := (s.heap.push (PySem.W.kdv_tup us)).push (PySem.HandSPX.excO C s.heap.objs.size) } := by
  have up : s.heap.objs.size ≤ s.heap.objs.size + 1 := Nat.le_succ _
  have kk : ∀ b o, s.heap.get? b = some o → ((s.heap.push (PySem.W.kdv_tup us)).push (PySem.HandSPX.excO C s.heap.objs.size)).get? b = some o := fun b o z => Heap.get?_push_of_some _ (Heap.get?_push_of_some _ z)
  have I2 : Inv X pins σ (upd H (s.heap.objs.size + 1) (exo (s.heap.objs.size + 1) C none)) { s with heap := (s.heap.push (PySem.W.kdv_tup us)).push (PySem.HandSPX.excO C s.heap.objs.size) } :=
    I.laid (t' := s.toks) (a := s.heap.objs.size + 1) (o := exo (s.heap.objs.size + 1) C none) kk up (exo_ok (t1 := s.heap.objs.size) (by heap_get))
  have n0 : H (s.heap.objs.size + 1) = none := I.hok.fresh up
  have r2 : Vals [V.ref (s.heap.objs.size + 1), v] [Value.ref (s.heap.objs.size + 1), u] := .cons rfl (.cons rv .nil)
  have hq : spErr f C [V.ref (s.heap.objs.size + 1), v] (upd H (s.heap.objs.size + 1) (exo (s.heap.objs.size + 1) C none)) (fun v' H2 => v' = .non ∧ Q (.ref (s.heap.objs.size + 1)) H2) E0 :=
    ⟨_, v, rfl, upd_same, fun d hd hne => ⟨rfl, by
      have hd' : H d = none := by rw [upd_ne hne] at hd; exact hd
      obtain ⟨s1, e1⟩ := err_made (C := C) (f := f) (v := v) n0 hd' hne
      exact q _ _ s1 n0 e1⟩⟩
  refine codeAny_mono (F1.run _ X.stack _ _ args [Value.ref (s.heap.objs.size + 1), u] [V.ref (s.heap.objs.size + 1), v] _ E0 (hr.make C us kw) (I2.env0.make C us kw) hbd r2 hq) fun r s' hq' => ?_
  match r, hq' with
  | .error er, hq' => exact hq'.elim
  | .ok (.ret u'), hq' =>
    obtain ⟨v', H', I3, rv', ev, q3⟩ := I2.after hq'
    subst ev
    exact ⟨rv', ⟨V.ref (s.heap.objs.size + 1), H', I3, rfl, q3⟩⟩
theorem pe_mkErr {ps : List Str} (T : ErrG X.K C fI f B nw ini tl) (F1 : FnOk X.prog X.w X.K X.mg X.base CX0 k fI fd ps (spErr f C)) (hb : Binds X.K fd ps []) (hl : ps.length = 2) (hr : Room (k + 1) X.A) (hg : Gl X x) (hm : X.mg x = some (.ref C)) (he : PE X e te)
    (hdb : (x == ("__debug__" : Str)) = false := by decide) (hs : starEach [e] X.env = (false, eval e X.env) :: starEach [] X.env := by rfl) (hpl : (backTo pos (starEach [] X.env)).any (·.1) = false := by rfl) :
    PE X (.Call (.Name x p) [e] [] pos) (tMkV C f te) := by
  refine ⟨fun pins s σ H Q I h => ?_⟩
  obtain ⟨nm, q, N, bs, cs, sn, sub, ab, col, dd, k0, k1, k2, k3, k5, hC⟩ := T.oex.cls
  refine wpAny_Call_Name_kw (ld_glob I hg hm ?_ hdb)
  refine PySem.W.callWith_K (h₀ := X.base) I.ok.mod.kin T.oex.kC (thn ((pa_cons he pa_nil hs).run pos pins s σ H _ I h) fun us s1 ⟨vs, H1, I1, r1, v, ev, q1⟩ => ⟨I1.kIn, ?_⟩) hs hpl
  subst ev
  obtain ⟨u, rfl, ru⟩ := r1.one
  obtain ⟨hp, g, d, t, os⟩ := s1
  have hbd := hb ⟨(hp.push (PySem.W.kdv_tup [u])).push (PySem.HandSPX.excO C hp.objs.size), g, d, t, os⟩ [Value.ref (hp.objs.size + 1), u] (I1.kept (t' := t) fun b o z => Heap.get?_push_of_some _ (Heap.get?_push_of_some _ z)).kIn (by rw [hl]; rfl)
  refine wpAny_call (codeAny_mono (PySem.HandSPX.call_own T.bx.eb (chain_has cs) (I1.kIn _ _ hC) (PySem.W.looks_findIn I1.kIn T.iC) (fun self => PySem.W.bind_fn I1.kIn self T.tI) (show 1 ≤ sizeLine by decide)
    (run_err F1 hr I1 ru [] [u] (by simpa using hbd) q1)) fun r s' z => z)
theorem pe_mkErrK {ps : List Str} (T : ErrG X.K C fI f B nw ini tl) (F1 : FnOk X.prog X.w X.K X.mg X.base CX0 k fI fd ps (spErr f C)) (hb : ∀ (s : Shared) (a u : Value), BindsTo s fd ⟨[a], [(f, u)]⟩ (ps.zip [a, u])) (hr : Room (k + 1) X.A) (hg : Gl X x) (hm : X.mg x = some (.ref C)) (he : PE X e te)
    (hdb : (x == ("__debug__" : Str)) = false := by decide)
    (hall : (backToKw pos (keywordEach [⟨some f, e, kp⟩] X.env)).all (·.1.isSome) = true := by rfl) (hks : (backToKw pos (keywordEach [⟨some f, e, kp⟩] X.env)).filterMap (·.1) = [f] := by rfl)
    (hpl : ((backTo pos (starEach [] X.env)).any (·.1) || (backToKw pos (keywordEach [⟨some f, e, kp⟩] X.env)).any (·.1.isNone)) = false := by rfl) :
    PE X (.Call (.Name x p) [] [⟨some f, e, kp⟩] pos) (tMkV C f te) := by
  refine ⟨fun pins s σ H Q I h => ?_⟩
  obtain ⟨nm, q, N, bs, cs, sn, sub, ab, col, dd, k0, k1, k2, k3, k5, hC⟩ := T.oex.cls
  refine wpAny_Call_Name_kw (ld_glob I hg hm ?_ hdb)
  refine PySem.W.callWith_KW0 (h₀ := X.base) I.ok.mod.kin T.oex.kC hall ?_ hpl
  refine thn ((pk_cons (nm := some f) (kpos := kp) he pk_nil).run pos pins s σ H _ I h) fun us s1 ⟨vs, H1, I1, r1, v, ev, q1⟩ => ⟨I1.kIn, ?_⟩
  subst ev
  obtain ⟨u, rfl, ru⟩ := r1.one
  rw [hks]
  obtain ⟨hp, g, d, t, os⟩ := s1
  refine wpAny_call (codeAny_mono (kx_call (kf := f) (kv := u) T.bx.eb (chain_has cs) (I1.kIn _ _ hC) (PySem.W.looks_findIn I1.kIn T.iC) (fun self => PySem.W.bind_fn I1.kIn self T.tI)
    (run_err F1 hr I1 ru [(f, u)] [] (hb _ _ _) q1)) fun r s' z => z)
/-- isinstance(e, c), e such an error -/
def rIsErr (K : PySem.W.Frag) : List V → Hp → VK → Prop := fun xs H Q => ∃ (a C : Addr) (f : Str) (v c : V) (u : Value) (b : Bool), xs = [.ref a, c] ∧ ErrAt H C f v a ∧ ExcC K C ∧ ClsV c u ∧ PySem.W.kitOne K (.ref C) u = some b ∧ Q (.bl b) H
theorem call_isErr : CallR X (.builtin "isinstance") (rIsErr X.K) := by
  intro pins s σ H xs us Q I r h
  obtain ⟨a, C, f, v, c, u, b, rfl, ⟨d, ea, ed⟩, T, hc, e, q⟩ := h
  cases r with
  | cons rx rr =>
    cases rr with
    | cons rt rr =>
      cases rr
      cases rx
      have ec := hc.eq rt
      subst ec
      obtain ⟨t1, ho⟩ := exo_at I.hok ea
      obtain ⟨mA, hns, hr⟩ := exd_at I.hok ed
      obtain ⟨od, hd, _⟩ := lookIn_ns hns
      have J : PySem.W.InstAt s.heap a _ C (some od) := ⟨ho, rfl, rfl, hd⟩
      have hcl : (PySem.W.clsIn X.K C).isSome = true := by
        obtain ⟨cd, hc, _⟩ := PySem.W.any_some T.hd
        rw [hc]
        rfl
      exact PySem.W.kia_one (PySem.W.kitx_exc hcl T.hg T.hk T.hs T.ha T.hn T.ht T.hm) I.kIn J e (fun z => nomatch z) fun tk => ⟨.bl b, H, I.kept (t' := tk) fun _ _ z => z, rfl, q⟩
theorem isErrK (K : PySem.W.Frag) (hK : X.K = K := by rfl) : CallR X (.builtin "isinstance") (rIsErr K) := by subst hK; exact call_isErr
/-- e.f -/
def tFldE (K : PySem.W.Frag) (n : Str) (ta : TE) : TE := fun σ H Q => ta σ H fun x H1 => ∃ (a C : Addr) (v : V), x = .ref a ∧ XfC K C ∧ PySem.W.findIn K (.ref C) n = some none ∧ ErrAt H1 C n v a ∧ Q v H1
theorem pe_fldE (K : PySem.W.Frag) {ta : TE} {n : Str} (he : PE X e ta) (hb : attributeBase e n X.env (eval e X.env) = eval e X.env := by rfl) (hK : X.K = K := by rfl) : PE X (.Attribute e n pos) (tFldE K n ta) := by
  subst hK
  refine ⟨fun pins s σ H Q I h => ?_⟩
  refine attr_of hb (thn (he.run pins s σ H _ I h) fun u s1 ⟨x, H1, I1, rx, a, C, v, ex, T, hno, ⟨d, ea, ed⟩, q⟩ => ?_)
  subst ex
  obtain rfl : u = Value.ref a := rx
  obtain ⟨t1, ho⟩ := exo_at I1.hok ea
  obtain ⟨mA, hns, hr⟩ := exd_at I1.hok ed
  obtain ⟨od, hd, hl⟩ := lookIn_ns hns
  obtain ⟨u, hu, ru⟩ := RelO.some_of (v := v) (o := mA n) (by have := hr n; simpa [List.lookup] using this)
  have J : PySem.W.InstAt s1.heap a _ C (some od) := ⟨ho, rfl, rfl, hd⟩
  exact HandSPX.exc_get I1.kIn J T.ga T.gg T.exC (PySem.W.findObj_own T.hdC hno rfl (by rw [hl, hu])) (handed_of ru) ⟨v, H1, I1.tok _, ru, q⟩
/-- xs.count(y) of flat values -/
def rCntV (K : PySem.W.Frag) : V → List V → Hp → VK → Prop := fun x xs H Q => ∃ (p : Addr) (ys : List V) (y : V), x = .ref p ∧ xs = [y] ∧ SqL K H p ys ∧ flatV y = true ∧ ys.all flatV = true ∧ Q (.int (ys.countP (fun z => eqV z y) : Nat)) H
theorem cnt_of {y : V} {u : Value} (ru : RelV y u) : ∀ {ys : List V} {its : List Value}, Vals ys its → ys.all flatV = true → its.countP (eqU y) = ys.countP (fun z => eqV z y)
  | _, _, .nil, _ => rfl
  | _, _, .cons (a := z) (b := w) rz t, h => by
    rw [List.all_cons, Bool.and_eq_true] at h
    rw [List.countP_cons, List.countP_cons, cnt_of ru t h.2, eqU_of rz h.1]
theorem mt_countV : MtR X "list.count" (rCntV X.K) := by
  intro pins s σ H x xs v us Q I rx rxs h
  obtain ⟨p, ys, y, rfl, rfl, hs, fy, fys, q⟩ := h
  cases rx
  obtain ⟨u, rfl, ru⟩ := rxs.one
  obtain ⟨its, rv, ⟨⟨cls, dd, data, sl⟩, n, ho, hc, hdn, hd⟩, hlen⟩ := I.list hs
  simp only at hc hd
  subst hc hd
  refine call_meets PySem.F.slot_list_count ⟨_, ho, rfl⟩ PySem.F.entry_list_count (PySem.F.args_list_count_2 _ _)
    (SeqAt.list_countAt p its.toArray n dd sl u (eqU y)) ⟨ho, fun u' hu' => mem_eqAt ru fy rv fys u' (by simpa using hu'), ?_⟩
  have ec : its.toArray.toList.countP (eqU y) = ys.countP (fun z => eqV z y) := cnt_of ru rv fys
  exact ⟨.int (ys.countP (fun z => eqV z y) : Nat), H, I.tok _, ⟨s.toks, by rw [ec]⟩, q⟩
end
/-- how one keyword binds -/
def BndK (x qual : Str) (st : Stmt) (p f : Str) : Prop := ∀ (kV doc pm : Value) (an : Option Addr) (cdv ct : Value) (a u : Value), bindArgs (PySem.W.fnOf x qual (defArgs st) (defBody st) (defScope st) .none kV doc pm an cdv ct) ⟨[a], [(f, u)]⟩ = pure [(p, a), (f, u)]
theorem bindsK {K : PySem.W.Frag} {x qual : Str} {st : Stmt} {g : Addr} {fd : FuncData} {p f : Str} (F : Fun K x qual st g fd) (B : BndK x qual st p f) : ∀ (s : Shared) (a u : Value), BindsTo s fd ⟨[a], [(f, u)]⟩ (([p, f] : List Str).zip [a, u]) := by
  obtain ⟨oc, od, kV, doc, pm, an, cdv, ct, osl, rfl, lk, hcd⟩ := F.ex
  exact fun s a u => .of_eq (B kV doc pm an cdv ct a u)
end XT

namespace XT
open PySem PySem.Spec PyProof.Rows L2
/-! ### list + list, the left one perhaps not the program's own -/
theorem list_addG (l b : Addr) (xs ys : Array Value) (n m : Nat) (d1 d2 : Option Addr) (s1 s2 : Array (Option Value)) (hz : xs.size + ys.size ≤ sizeLine) :
    Meets (Builtin.«list.__add__» ⟨[.ref l, .ref b], []⟩) (fun _ R s => s.heap.get? l = some { cls := .type "list", dict := d1, data := .seq xs n, slots := s1 } ∧ s.heap.get? b = some { cls := .type "list", dict := d2, data := .seq ys m, slots := s2 } ∧
      R (.ok (.ret (.ref s.heap.objs.size))) { s with heap := s.heap.push { cls := .type "list", data := .seq (xs ++ ys) } }) :=
  .of_wp fun prog w A R s h => by
    obtain ⟨hp, g, d, tk, os⟩ := s
    obtain ⟨hl, hb, h⟩ := h
    have f3 := AutoSeq1.sub_list_list
    wp_walk using wpAny_loadPart' hl, wpAny_loadPart' hb
    exact ⟨_, rfl, h⟩
def rCatQ (K : PySem.W.Frag) : R2 := fun x y H Q => ∃ l b xs zs, x = .ref l ∧ y = .ref b ∧ SqL K H l xs ∧ SqL K H b zs ∧ xs.length + zs.length ≤ sizeLine ∧ ∀ p, H p = none → Q (.ref p) (upd H p (.lst (xs ++ zs)))
theorem op_catQ {X : Cx} : OpR X (binaryOp .Add) (rCatQ X.K) := by
  intro pins s σ H x y v u Q I rx ry h
  obtain ⟨l, b, xs, zs, rfl, rfl, hH, hB, hz, q⟩ := h
  cases rx
  cases ry
  obtain ⟨its, r, ⟨⟨cls, dd, data, sl⟩, n, ho, hc, hdn, hd⟩, _⟩ := I.list hH
  obtain ⟨its2, r2, ⟨⟨cls2, dd2, data2, sl2⟩, n2, ho2, hc2, hdn2, hd2⟩, _⟩ := I.list hB
  simp only at hc hd hdn hc2 hd2 hdn2
  subst hc hc2
  have l1 := r.length
  have l2 := r2.length
  subst hdn hdn2 hd hd2
  refine concat_meets ⟨_, ho, rfl⟩ ⟨_, ho2, rfl⟩ noFill_list_add seq_list_add F.slot_list_add F.entry_list_add (F.args_list_add_2 _ _) (list_addG l b its.toArray its2.toArray _ _ _ _ _ _ (by rw [List.size_toArray, List.size_toArray]; omega)) ⟨ho, ho2, ?_⟩
  have ea : its.toArray ++ its2.toArray = (its ++ its2).toArray := by simp
  rw [ea]
  exact ⟨.ref _, _, I.lnew (t' := s.toks) (r.append r2) (by rw [List.length_append]; omega), rfl, q _ I.fresh⟩
end XT

namespace Tbl
/-- how many are at most c -/
def cnt (L : List Int) (c : Int) : Int := ((L.countP fun x => decide (x ≤ c) : Nat) : Int)
abbrev Asc (L : List Int) : Prop := L.Pairwise (· < ·)
abbrev Up (L : List Int) : Prop := L.Pairwise (· ≤ ·)
def Pos (L : List Int) : Prop := ∀ x ∈ L, 1 ≤ x
def bnds : Nat → List Int → List Int
  | _, [] => []
  | i, x :: L => (x - (i : Int)) :: bnds (i + 1) L
def kr (L : List Int) (p : Int) : Int := p + cnt (bnds 0 L) p
def mp (s : Int) (L : List Int) (c : Int) : Int := s + c - cnt L c
theorem cnt_nil (c : Int) : cnt [] c = 0 := rfl
theorem cnt_cons (x : Int) (L : List Int) (c : Int) : cnt (x :: L) c = (if x ≤ c then 1 else 0) + cnt L c := by
  unfold cnt
  rw [List.countP_cons]
  by_cases h : x ≤ c
  · simp [h]; omega
  · simp [h]
theorem cnt_nn (L : List Int) (c : Int) : 0 ≤ cnt L c := Int.natCast_nonneg _
theorem cnt_le_len (L : List Int) (c : Int) : cnt L c ≤ L.length := by
  unfold cnt
  exact Int.ofNat_le.mpr List.countP_le_length
theorem cnt_mono (L : List Int) {c d : Int} (h : c ≤ d) : cnt L c ≤ cnt L d := by
  induction L with
  | nil => exact Int.le_refl _
  | cons x L ih =>
    rw [cnt_cons, cnt_cons]
    by_cases h1 : x ≤ c
    · rw [if_pos h1, if_pos (Int.le_trans h1 h)]; omega
    · rw [if_neg h1]; split <;> omega
theorem cnt_zero {L : List Int} {c : Int} (h : ∀ x ∈ L, c < x) : cnt L c = 0 := by
  induction L with
  | nil => rfl
  | cons x L ih =>
    rw [cnt_cons, if_neg (by have := h x (List.mem_cons_self ..); omega), ih fun y hy => h y (List.mem_cons_of_mem _ hy)]
    rfl
theorem cnt_all {L : List Int} {c : Int} (h : ∀ x ∈ L, x ≤ c) : cnt L c = L.length := by
  induction L with
  | nil => rfl
  | cons x L ih =>
    rw [cnt_cons, if_pos (h x (List.mem_cons_self ..)), ih fun y hy => h y (List.mem_cons_of_mem _ hy), List.length_cons]
    omega
theorem cnt_append (L M : List Int) (c : Int) : cnt (L ++ M) c = cnt L c + cnt M c := by
  unfold cnt
  rw [List.countP_append]
  omega
theorem cnt_perm {L M : List Int} (h : L.Perm M) (c : Int) : cnt L c = cnt M c := by
  unfold cnt
  rw [h.countP_eq]
theorem cnt_map_sub (L : List Int) (p : Int) : cnt (L.map (· - 1)) p = cnt L (p + 1) := by
  induction L with
  | nil => rfl
  | cons x L ih =>
    rw [List.map_cons, cnt_cons, cnt_cons, ih]
    by_cases h : x ≤ p + 1
    · rw [if_pos h, if_pos (by omega)]
    · rw [if_neg h, if_neg (by omega)]
theorem bnds_succ (L : List Int) : ∀ i : Nat, bnds (i + 1) L = (bnds i L).map (· - 1) := by
  induction L with
  | nil => intro i; rfl
  | cons x L ih =>
    intro i
    show (x - ((i + 1 : Nat) : Int)) :: bnds (i + 1 + 1) L = (x - (i : Int) - 1) :: (bnds (i + 1) L).map (· - 1)
    rw [ih (i + 1)]
    congr 1
    omega
theorem bnds_length (L : List Int) : ∀ i : Nat, (bnds i L).length = L.length := by
  induction L with
  | nil => intro i; rfl
  | cons x L ih => intro i; show (bnds (i + 1) L).length + 1 = L.length + 1; rw [ih]
theorem bnds_snoc (L : List Int) (x : Int) : ∀ i : Nat, bnds i (L ++ [x]) = bnds i L ++ [x - ((i + L.length : Nat) : Int)] := by
  induction L with
  | nil => intro i; rfl
  | cons y L ih =>
    intro i
    show (y - (i : Int)) :: bnds (i + 1) (L ++ [x]) = (y - (i : Int)) :: (bnds (i + 1) L ++ [x - ((i + (L.length + 1) : Nat) : Int)])
    rw [ih (i + 1)]
    congr 4
    omega
theorem bnds_ge {L : List Int} : ∀ {i : Nat} {x : Int}, Asc L → (∀ y ∈ L, x + (i : Int) ≤ y) → ∀ b ∈ bnds i L, x ≤ b := by
  induction L with
  | nil => intro i x _ _ b hb; cases hb
  | cons y L ih =>
    intro i x ha h b hb
    rcases List.mem_cons.mp hb with rfl | hb
    · have := h y (List.mem_cons_self ..); omega
    · refine ih (i := i + 1) (List.pairwise_cons.mp ha).2 (fun z hz => ?_) b hb
      have h1 := (List.pairwise_cons.mp ha).1 z hz
      have h2 := h y (List.mem_cons_self ..)
      omega
theorem bnds_up {L : List Int} : ∀ {i : Nat}, Asc L → Up (bnds i L) := by
  induction L with
  | nil => intro i _; exact List.Pairwise.nil
  | cons y L ih =>
    intro i ha
    refine List.pairwise_cons.mpr ⟨fun b hb => ?_, ih (List.pairwise_cons.mp ha).2⟩
    refine bnds_ge (i := i + 1) (List.pairwise_cons.mp ha).2 (fun z hz => ?_) b hb
    have h1 := (List.pairwise_cons.mp ha).1 z hz
    omega
theorem cnt_gap {L : List Int} : ∀ {p c : Int}, Asc L → (∀ y ∈ L, p < y) → p ≤ c → cnt L c ≤ c - p := by
  induction L with
  | nil => intro p c _ _ h; rw [cnt_nil]; omega
  | cons y L ih =>
    intro p c ha h hpc
    have hy := h y (List.mem_cons_self ..)
    rw [cnt_cons]
    by_cases hc : y ≤ c
    · rw [if_pos hc]
      have := ih (p := y) (c := c) (List.pairwise_cons.mp ha).2 (List.pairwise_cons.mp ha).1 hc
      omega
    · rw [if_neg hc, cnt_zero fun z hz => by have := (List.pairwise_cons.mp ha).1 z hz; omega]
      omega
theorem kr_cons_le {x : Int} {L : List Int} {p : Int} (h : x ≤ p) : kr (x :: L) p = kr L (p + 1) := by
  unfold kr
  show p + cnt ((x - ((0 : Nat) : Int)) :: bnds 1 L) p = _
  rw [cnt_cons, bnds_succ, cnt_map_sub, if_pos (by omega)]
  omega
theorem kr_cons_gt {x : Int} {L : List Int} {p : Int} (ha : Asc (x :: L)) (h : p < x) : kr (x :: L) p = p := by
  unfold kr
  rw [cnt_zero]
  · omega
  · intro b hb
    have := bnds_ge (i := 0) (x := x) ha (fun y hy => by
      rcases List.mem_cons.mp hy with rfl | hy
      · omega
      · have := (List.pairwise_cons.mp ha).1 y hy; omega) b hb
    omega
theorem kr_ge (L : List Int) (p : Int) : p ≤ kr L p := by unfold kr; have := cnt_nn (bnds 0 L) p; omega
theorem kr_lt {L : List Int} {p q : Int} (h : p < q) : kr L p < kr L q := by
  unfold kr
  have := cnt_mono (bnds 0 L) (Int.le_of_lt h)
  omega
/-- the place p is reached at c exactly if the p-th kept rank is at most c -/
theorem gal {L : List Int} : ∀ {p c : Int}, Asc L → (p ≤ c - cnt L c ↔ kr L p ≤ c) := by
  induction L with
  | nil => intro p c _; rw [cnt_nil]; unfold kr bnds; rw [cnt_nil]; omega
  | cons x L ih =>
    intro p c ha
    have hL := (List.pairwise_cons.mp ha).2
    by_cases hp : x ≤ p
    · rw [kr_cons_le hp, cnt_cons]
      by_cases hc : x ≤ c
      · rw [if_pos hc]
        have := ih (p := p + 1) (c := c) hL
        omega
      · rw [if_neg hc]
        have h1 := cnt_nn L c
        have h2 := kr_ge L (p + 1)
        omega
    · have hp' : p < x := by omega
      rw [kr_cons_gt ha hp']
      constructor
      · intro h; have := cnt_nn (x :: L) c; omega
      · intro h
        have := cnt_gap (p := p) (c := c) ha (fun y hy => by
          rcases List.mem_cons.mp hy with rfl | hy
          · exact hp'
          · have := (List.pairwise_cons.mp ha).1 y hy; omega) h
        omega
theorem cnt_mem {L : List Int} (ha : Asc L) {x : Int} : x ∈ L ↔ cnt L x = cnt L (x - 1) + 1 := by
  induction L with
  | nil => rw [cnt_nil, cnt_nil]; simp
  | cons y L ih =>
    have hL := (List.pairwise_cons.mp ha).2
    have hy := (List.pairwise_cons.mp ha).1
    rw [cnt_cons, cnt_cons]
    by_cases e : x = y
    · subst e
      rw [if_pos (Int.le_refl _), if_neg (by omega), cnt_zero hy, cnt_zero fun z hz => by have := hy z hz; omega]
      simp
    · rw [List.mem_cons]
      have := ih hL
      by_cases h : y ≤ x
      · rw [if_pos h, if_pos (by omega)]
        constructor
        · rintro (h1 | h1)
          · exact absurd h1 e
          · have := this.mp h1; omega
        · intro h1; exact .inr (this.mpr (by omega))
      · rw [if_neg h, if_neg (by omega)]
        constructor
        · rintro (h1 | h1)
          · exact absurd h1 e
          · have := this.mp h1; omega
        · intro h1; exact .inr (this.mpr (by omega))
theorem asc_ext {L : List Int} : ∀ {M : List Int}, Asc L → Asc M → (∀ x, x ∈ L ↔ x ∈ M) → L = M := by
  induction L with
  | nil =>
    intro M _ _ h
    cases M with
    | nil => rfl
    | cons y M => exact absurd ((h y).mpr (List.mem_cons_self ..)) (by simp)
  | cons x L ih =>
    intro M ha hb h
    cases M with
    | nil => exact absurd ((h x).mp (List.mem_cons_self ..)) (by simp)
    | cons y M =>
      have ha1 := (List.pairwise_cons.mp ha).1
      have hb1 := (List.pairwise_cons.mp hb).1
      have e : x = y := by
        rcases List.mem_cons.mp ((h x).mp (List.mem_cons_self ..)) with e | e
        · exact e
        · rcases List.mem_cons.mp ((h y).mpr (List.mem_cons_self ..)) with e' | e'
          · exact e'.symm
          · have := hb1 x e; have := ha1 y e'; omega
      subst e
      rw [ih (List.pairwise_cons.mp ha).2 (List.pairwise_cons.mp hb).2 fun z => ?_]
      constructor
      · intro hz
        rcases List.mem_cons.mp ((h z).mp (List.mem_cons_of_mem _ hz)) with e | e
        · subst e; have := ha1 z hz; omega
        · exact e
      · intro hz
        rcases List.mem_cons.mp ((h z).mpr (List.mem_cons_of_mem _ hz)) with e | e
        · subst e; have := hb1 z hz; omega
        · exact e
theorem asc_nodup {L : List Int} (h : Asc L) : L.Nodup := h.imp fun h e => by omega
theorem up_nodup {L : List Int} (h : Up L) (n : L.Nodup) : Asc L := (h.and n).imp fun ⟨a, b⟩ => by omega
theorem kr_notin {L : List Int} (ha : Asc L) (p : Int) : kr L p ∉ L := by
  intro h
  have h1 := (cnt_mem ha).mp h
  have h2 := (gal (p := p) (c := kr L p) ha).mpr (Int.le_refl _)
  have h3 := (gal (p := p) (c := kr L p - 1) ha)
  have : kr L p ≤ kr L p - 1 := h3.mp (by omega)
  omega
theorem cnt_le {L : List Int} (ha : Asc L) (hp : Pos L) {c : Int} (hc : 0 ≤ c) : cnt L c ≤ c := by
  have := cnt_gap (p := 0) (c := c) ha (fun y hy => by have := hp y hy; omega) hc
  omega
/-! ### tables -/
structure Ok (s : Int) (L : List Int) : Prop where
  s0 : 0 ≤ s
  asc : Asc L
  pos : Pos L
theorem Ok.mp_ge {s : Int} {L : List Int} (h : Ok s L) {c : Int} (hc : 0 ≤ c) : s ≤ mp s L c := by
  have := cnt_le h.asc h.pos hc
  unfold mp; omega
theorem Ok.mp_nn {s : Int} {L : List Int} (h : Ok s L) {c : Int} (hc : 0 ≤ c) : 0 ≤ mp s L c := Int.le_trans h.s0 (h.mp_ge hc)
theorem mp_zero {s : Int} {L : List Int} (h : Ok s L) : mp s L 0 = s := by
  unfold mp
  rw [cnt_zero fun x hx => by have := h.pos x hx; omega]
  omega
/-- two tables that map alike are one -/
theorem ok_ext {s t : Int} {L M : List Int} (h : Ok s L) (k : Ok t M) (e : ∀ c, 0 ≤ c → mp s L c = mp t M c) : s = t ∧ L = M := by
  have es : s = t := by
    have := e 0 (Int.le_refl _)
    rwa [mp_zero h, mp_zero k] at this
  refine ⟨es, asc_ext h.asc k.asc fun x => ?_⟩
  subst es
  have ec : ∀ c, 0 ≤ c → cnt L c = cnt M c := fun c hc => by have := e c hc; unfold mp at this; omega
  by_cases hx : 1 ≤ x
  · rw [cnt_mem h.asc, cnt_mem k.asc, ec x (by omega), ec (x - 1) (by omega)]
  · constructor
    · intro z; exact absurd (h.pos x z) hx
    · intro z; exact absurd (k.pos x z) hx
/-- the kept ranks that the second table loses -/
def found (s : Int) (L M : List Int) : List Int := ((M.filter fun r => decide (s < r)).map fun r => r - s).map (kr L)
theorem found_nodup {s : Int} {L M : List Int} (hM : Asc M) : (found s L M).Nodup := by
  unfold found
  have h1 : Asc (M.filter fun r => decide (s < r)) := hM.filter _
  have h2 : Asc ((M.filter fun r => decide (s < r)).map fun r => r - s) := List.pairwise_map.mpr (h1.imp fun h => by omega)
  have h3 : Asc (((M.filter fun r => decide (s < r)).map fun r => r - s).map (kr L)) := List.pairwise_map.mpr (h2.imp fun h => kr_lt h)
  exact asc_nodup h3
theorem found_pos {s : Int} {L M : List Int} : Pos (found s L M) := by
  intro x hx
  unfold found at hx
  obtain ⟨p, hp, rfl⟩ := List.mem_map.mp hx
  obtain ⟨r, hr, rfl⟩ := List.mem_map.mp hp
  have := (List.mem_filter.mp hr).2
  have h1 : s < r := by simpa using this
  have := kr_ge L (r - s)
  omega
theorem cnt_found {s : Int} {L M : List Int} (hL : Asc L) {c : Int} (hc : cnt L c ≤ c) : cnt M (mp s L c) = cnt M s + cnt (found s L M) c := by
  induction M with
  | nil => rfl
  | cons r M ih =>
    unfold found at ih ⊢
    rw [List.filter_cons]
    by_cases h : s < r
    · rw [if_pos (show decide (s < r) = true from decide_eq_true h), List.map_cons, List.map_cons, cnt_cons, cnt_cons, cnt_cons, if_neg (show ¬ r ≤ s by omega), ih]
      have g := gal (p := r - s) (c := c) hL
      by_cases h2 : r ≤ mp s L c
      · have h3 : kr L (r - s) ≤ c := g.mp (by unfold mp at h2; omega)
        rw [if_pos h2, if_pos h3]; omega
      · have h3 : ¬ kr L (r - s) ≤ c := fun z => h2 (by have := g.mpr z; unfold mp; omega)
        rw [if_neg h2, if_neg h3]; omega
    · rw [if_neg (show ¬ decide (s < r) = true by simpa using h), cnt_cons, cnt_cons, ih, if_pos (show r ≤ s by omega), if_pos (show r ≤ mp s L c by unfold mp; omega)]
      omega
/-- the sum of two tables: its start, and lost ranks in ascending order that are those of the first and the found ones -/
theorem ok_add {s t : Int} {L M N : List Int} (h : Ok s L) (k : Ok t M) (p : N.Perm (L ++ found s L M)) (u : Up N) : Ok (mp t M s) N := by
  refine ⟨k.mp_nn h.s0, up_nodup u (p.nodup_iff.mpr ?_), fun x hx => ?_⟩
  · refine List.nodup_append.mpr ⟨asc_nodup h.asc, found_nodup k.asc, fun a ha b hb e => ?_⟩
    subst e
    unfold found at hb
    obtain ⟨q, _, e⟩ := List.mem_map.mp hb
    exact kr_notin h.asc q (e ▸ ha)
  · rcases List.mem_append.mp (p.mem_iff.mp hx) with hx | hx
    · exact h.pos x hx
    · exact found_pos x hx
theorem mp_add {s t : Int} {L M N : List Int} (h : Ok s L) (p : N.Perm (L ++ found s L M)) {c : Int} (hc : 0 ≤ c) : mp (mp t M s) N c = mp t M (mp s L c) := by
  have h1 := cnt_found (s := s) (M := M) h.asc (cnt_le h.asc h.pos hc)
  have h2 := cnt_perm p c
  rw [cnt_append] at h2
  unfold mp at *
  omega
theorem len_add {s : Int} {L M N : List Int} (p : N.Perm (L ++ found s L M)) : (N.length : Int) = L.length + (M.length - cnt M s) := by
  rw [p.length_eq, List.length_append]
  unfold found
  rw [List.length_map, List.length_map]
  have : ∀ M : List Int, (((M.filter fun r => decide (s < r)).length : Nat) : Int) = M.length - cnt M s := by
    intro M
    induction M with
    | nil => rfl
    | cons r M ih =>
      rw [List.filter_cons, cnt_cons]
      by_cases h : s < r
      · rw [if_pos (by simpa using h), if_neg (by omega), List.length_cons, List.length_cons]; omega
      · rw [if_neg (by simpa using h), if_pos (by omega), List.length_cons]; omega
  have := this M
  omega
/-- the least count that becomes at least k -/
def lst (s : Int) (L : List Int) (k : Int) : Int := if k ≤ s then 0 else kr L (k - s)
theorem lst_nn {s : Int} {L : List Int} (k : Int) : 0 ≤ lst s L k := by
  unfold lst
  split
  · exact Int.le_refl _
  · have := kr_ge L (k - s); omega
theorem lst_gal {s : Int} {L : List Int} (h : Ok s L) {k c : Int} (hc : 0 ≤ c) : lst s L k ≤ c ↔ k ≤ mp s L c := by
  unfold lst
  by_cases hk : k ≤ s
  · rw [if_pos hk]
    have := h.mp_ge hc
    omega
  · rw [if_neg hk, ← gal h.asc]
    unfold mp; omega
theorem lst_add {s t : Int} {L M N : List Int} (h : Ok s L) (k : Ok t M) (p : N.Perm (L ++ found s L M)) (u : Up N) (c : Int) : lst (mp t M s) N c = lst s L (lst t M c) := by
  have key : ∀ d, 0 ≤ d → (lst (mp t M s) N c ≤ d ↔ lst s L (lst t M c) ≤ d) := fun d hd => by
    rw [lst_gal (ok_add h k p u) hd, mp_add h p hd, lst_gal h hd, lst_gal k (h.mp_nn hd)]
  have h1 := (key _ (lst_nn (s := mp t M s) (L := N) c)).mp (Int.le_refl _)
  have h2 := (key _ (lst_nn (s := s) (L := L) (lst t M c))).mpr (Int.le_refl _)
  omega
theorem nil_add {t : Int} {M N : List Int} (k : Ok t M) (p : N.Perm (found 0 [] M)) (u : Up N) : mp t M 0 = t ∧ N = M := by
  have h : Ok 0 [] := ⟨Int.le_refl _, List.Pairwise.nil, fun _ h => by cases h⟩
  have k2 := ok_add h k (N := N) (by simpa using p) u
  exact ok_ext k2 k fun c hc => by
    rw [mp_add h (by simpa using p) hc]
    have e : mp 0 [] c = c := by unfold mp; rw [cnt_nil]; omega
    rw [e]
theorem add_nil {s : Int} {L N : List Int} (h : Ok s L) (p : N.Perm (L ++ found s L [])) (u : Up N) : mp 0 [] s = s ∧ N = L := by
  have k : Ok 0 [] := ⟨Int.le_refl _, List.Pairwise.nil, fun _ h => by cases h⟩
  have k2 := ok_add h k p u
  exact ok_ext k2 h fun c hc => by rw [mp_add h p hc]; unfold mp; rw [cnt_nil]; omega
theorem add_assoc {s t u : Int} {L M O N1 N2 R1 R2 : List Int} (h : Ok s L) (k : Ok t M) (l : Ok u O)
    (p1 : N1.Perm (L ++ found s L M)) (u1 : Up N1) (q1 : R1.Perm (N1 ++ found (mp t M s) N1 O)) (v1 : Up R1)
    (p2 : N2.Perm (M ++ found t M O)) (u2 : Up N2) (q2 : R2.Perm (L ++ found s L N2)) (v2 : Up R2) :
    mp u O (mp t M s) = mp (mp u O t) N2 s ∧ R1 = R2 := by
  have a := ok_add h k p1 u1
  have b := ok_add k l p2 u2
  refine ok_ext (ok_add a l q1 v1) (ok_add h b q2 v2) fun c hc => ?_
  rw [mp_add a q1 hc, mp_add h p1 hc, mp_add h q2 hc, mp_add k p2 (h.mp_nn hc)]
end Tbl
namespace Tbl
theorem asc_adj {L : List Int} : Asc L ↔ ∀ i, (h : i + 1 < L.length) → L[i] < L[i + 1] := by
  induction L with
  | nil => simp
  | cons x L ih =>
    rw [Asc, List.pairwise_cons]
    constructor
    · rintro ⟨h1, h2⟩ i h
      cases i with
      | zero => exact h1 _ (List.getElem_mem _)
      | succ i => exact (ih.mp h2) i (by simpa using h)
    · intro h
      have h2 : Asc L := ih.mpr fun i hi => h (i + 1) (by simpa using hi)
      refine ⟨fun y hy => ?_, h2⟩
      cases L with
      | nil => cases hy
      | cons z L =>
        have h0 := h 0 (by simp)
        have h0' : x < z := h0
        rcases List.mem_cons.mp hy with rfl | hy
        · exact h0'
        · have := (List.pairwise_cons.mp h2).1 y hy; omega
end Tbl
namespace Tbl
theorem cnt_split {B : List Int} {c : Int} {k : Nat} (hk : k ≤ B.length) (h1 : ∀ j, (h : j < B.length) → j < k → B[j] ≤ c) (h2 : ∀ j, (h : j < B.length) → k ≤ j → c < B[j]) : cnt B c = k := by
  have e : B = B.take k ++ B.drop k := (List.take_append_drop k B).symm
  rw [e, cnt_append, cnt_all (L := B.take k), cnt_zero (L := B.drop k), List.length_take]
  · omega
  · intro x hx
    obtain ⟨i, hi, rfl⟩ := List.getElem_of_mem hx
    rw [List.getElem_drop]
    exact h2 _ _ (by omega)
  · intro x hx
    obtain ⟨i, hi, rfl⟩ := List.getElem_of_mem hx
    rw [List.getElem_take]
    have hi' : i < k ∧ i < B.length := by rw [List.length_take] at hi; omega
    exact h1 i hi'.2 hi'.1
theorem up_get {B : List Int} (h : Up B) {i j : Nat} (hi : i < B.length) (hj : j < B.length) (hij : i ≤ j) : B[i] ≤ B[j] := by
  rcases Nat.lt_or_ge i j with h1 | h1
  · exact (List.pairwise_iff_getElem.mp h) i j hi hj h1
  · have : i = j := by omega
    subst this
    exact Int.le_refl _
theorem asc_up {L : List Int} (h : Asc L) : Up L := h.imp fun h => by omega
end Tbl

namespace XT
open PySem PySem.Spec PyProof.Rows L2
/-! ### running a sequence on a list -/
def srt (L : List Int) : List Int := L.mergeSort fun a b => decide (a ≤ b)
theorem srt_perm (L : List Int) : (srt L).Perm L := List.mergeSort_perm L _
theorem srt_up (L : List Int) : (srt L).Pairwise (· ≤ ·) := by
  have := List.pairwise_mergeSort (le := fun a b : Int => decide (a ≤ b)) (by simp; omega) (by simp; omega) L
  exact this.imp fun h => by simpa using h
theorem srt_of {N L : List Int} (p : N.Perm L) (u : N.Pairwise (· ≤ ·)) : N = srt L :=
  List.Perm.eq_of_pairwise (le := (· ≤ ·)) (fun a b _ _ h1 h2 => Int.le_antisymm h1 h2) u (srt_up L) (p.trans (srt_perm L).symm)
theorem srt_len (L : List Int) : (srt L).length = L.length := (srt_perm L).length_eq
def stepR (L : List Int) : Stp → Option (List Int)
  | (true, x) => some (srt (L ++ [x]))
  | (false, k) => if (L.length : Int) < k then none else some (L.take (k - 1).toNat ++ L.drop k.toNat)
def runR (L : List Int) (i : Nat) : List Stp → List Int ⊕ Nat
  | [] => .inl L
  | s :: r => match stepR L s with
    | none => .inr i
    | some M => runR M (i + 1) r
theorem runR_step {L M : List Int} {i : Nat} {S : List Stp} {s : Stp} (h : S[i]? = some s) (e : stepR L s = some M) : runR L i (S.drop i) = runR M (i + 1) (S.drop (i + 1)) := by
  obtain ⟨hi, hs⟩ := List.getElem?_eq_some_iff.mp h
  rw [List.drop_eq_getElem_cons hi, hs]
  simp only [runR, e]
theorem runR_fail {L : List Int} {i : Nat} {S : List Stp} {s : Stp} (h : S[i]? = some s) (e : stepR L s = none) : runR L i (S.drop i) = .inr i := by
  obtain ⟨hi, hs⟩ := List.getElem?_eq_some_iff.mp h
  rw [List.drop_eq_getElem_cons hi, hs]
  simp only [runR, e]
theorem stepR_len {L M : List Int} {s : Stp} (e : stepR L s = some M) : M.length ≤ L.length + 1 := by
  obtain ⟨b, k⟩ := s
  cases b with
  | true =>
    have e' : some (srt (L ++ [k])) = some M := e
    cases e'
    rw [srt_len, List.length_append]
    simp
  | false =>
    simp only [stepR] at e
    split at e
    · cases e
    · cases e
      rw [List.length_append, List.length_take, List.length_drop]
      omega
theorem cut_to (n : Nat) (xs : List V) : cutV xs none (some (n : Int)) = xs.take n := by
  unfold cutV
  have e : HT.sIx xs.length xs.length (some (n : Int)) = min n xs.length := HT.sIx_nat xs.length xs.length n
  rw [HT.sIx_none, e]
  simp
  try omega
theorem cut_from (n : Nat) (xs : List V) : cutV xs (some (n : Int)) none = xs.drop n := by
  unfold cutV
  have e : HT.sIx xs.length 0 (some (n : Int)) = min n xs.length := HT.sIx_nat xs.length 0 n
  rw [e, HT.sIx_none]
  by_cases h : n ≤ xs.length
  · rw [Nat.min_eq_left h]
    exact List.take_of_length_le (by simp)
  · have h' : xs.length ≤ n := by omega
    rw [Nat.min_eq_right h', List.drop_eq_nil_of_le h']
    simp
theorem cut_rm {L : List Int} {k : Int} (h : 0 < k) : cutV (L.map V.int) none (some (k - 1)) ++ cutV (L.map V.int) (some k) none = (L.take (k - 1).toNat ++ L.drop k.toNat).map V.int := by
  have e1 : k - 1 = ((k - 1).toNat : Int) := by omega
  have e2 : k = (k.toNat : Int) := by omega
  have h1 := cut_to (k - 1).toNat (L.map V.int)
  have h2 := cut_from k.toNat (L.map V.int)
  rw [← e1] at h1
  rw [← e2] at h2
  rw [h1, h2, List.map_append, List.map_take, List.map_drop]
/-- what comes of it, as data -/
def resD : List Int ⊕ Nat → PyData
  | .inl M => .list [.str "list", .list (M.map PyData.int)]
  | .inr i => .list [.str "failed", .int (i : Int), .bool false]
theorem sh_res (r : List Int ⊕ Nat) : SeqAt.shaped (resD r) = true := by
  cases r with
  | inl M => simp [resD, SeqAt.shaped, PyData.canLay0, PyData.canLayAll0, PyData.depth, PyData.depthAll, canLay_ints, depth_ints, ok_of]
  | inr i => simp [resD, SeqAt.shaped, PyData.canLay0, PyData.canLayAll0, PyData.depth, PyData.depthAll, ok_of]
/-- the list that tells it -/
def ResAt (K : PySem.W.Frag) (H : Hp) (r : Addr) : List Int ⊕ Nat → Prop
  | .inl M => ∃ m, H r = some (.lst [.str "list", .ref m]) ∧ H m = some (.lst (M.map V.int))
  | .inr i => H r = some (.lst [.str "failed", .int (i : Int), .bl false])
theorem ResAt.same {K : PySem.W.Frag} {H H' : Hp} {r : Addr} {v : List Int ⊕ Nat} (h : ResAt K H r v) (e : Same H H') : ResAt K H' r v := by
  cases v with
  | inl M =>
    obtain ⟨m, a, b⟩ := h
    exact ⟨m, e _ _ a, e _ _ b⟩
  | inr i => exact e _ _ h
theorem ResAt.dp {K : PySem.W.Frag} {H : Hp} {r : Addr} {v : List Int ⊕ Nat} (h : ResAt K H r v) : Dp K H (.ref r) (resD v) := by
  cases v with
  | inl M =>
    obtain ⟨m, a, b⟩ := h
    exact .lst (SqL.of a) (.cons (.str _) (.cons (dp_lst (SqL.of b)) .nil))
  | inr i => exact .lst (SqL.of h) (.cons (.str _) (.cons (.int _) (.cons (.bl _) .nil)))
/-! ### a comprehension over a range whose element changes something -/
theorem lcE {lo : Int} {n : Nat} {g : TG} {te : TE} {vs : List Nat} {σ : L2.St} {H1 : Hp} {D : Addr} {Qd : Hp → Prop} (I : Nat → Hp → List V → Prop) (h0 : I 0 (upd H1 D (.lst [])) []) (hn : n ≤ sizeLine)
    (hl : ∀ i H acc, I i H acc → acc.length = i)
    (hs : ∀ i H acc (R : V → Hp → Prop), i < n → I i H acc → (∀ y H', H' D = some (.lst acc) → I (i + 1) (upd H' D (.lst (acc ++ [y]))) (acc ++ [y]) → R y H') → g (.int (lo + (i : Nat))) (wipe σ vs) H fun σ2 H2 => wipe σ2 vs = wipe σ vs ∧ te σ2 H2 R)
    (hd : ∀ H acc, I n H acc → Qd H) :
    ∃ W : Nat → Nat → Hp → Prop, (∃ m, W 0 m (upd H1 D (.lst []))) ∧ ∀ i m H, W i m H →
      ((Itr lo n).stop i H ∧ Qd H) ∨ ((Itr lo n).go i H ∧ ∃ Nx : Hp → Prop, (∀ H', Nx H' → ∃ m', m' < m ∧ W (i + 1) m' H') ∧ ∀ x H', (Itr lo n).yld i H x H' → g x (wipe σ vs) H' fun σ2 H2 => wipe σ2 vs = wipe σ vs ∧ tYes σ2 H2 fun b H3 =>
        if b = true then te σ2 H3 fun y H4 => ∃ acc, H4 D = some (.lst acc) ∧ acc.length < sizeLine ∧ Nx (upd H4 D (.lst (acc ++ [y]))) else Nx H3) := by
  refine ⟨fun i m H => m = n - i ∧ i ≤ n ∧ ∃ acc, I i H acc, ⟨n, by simp, Nat.zero_le _, _, h0⟩, ?_⟩
  rintro i m H ⟨rfl, hi, acc, hI⟩
  by_cases hlt : i < n
  · refine .inr ⟨hlt, fun H' => ∃ acc, I (i + 1) H' acc, fun H' p => ⟨n - (i + 1), by omega, rfl, hlt, p⟩, fun x H' y => ?_⟩
    obtain ⟨e, y⟩ := y
    subst e y
    show g _ _ _ fun σ2 H2 => _ ∧ (if true = true then te σ2 H2 fun y H4 => ∃ acc, H4 D = some (.lst acc) ∧ acc.length < sizeLine ∧ (∃ acc', I (i + 1) (upd H4 D (.lst (acc ++ [y]))) acc') else (∃ acc, I (i + 1) H2 acc))
    simp only [if_true]
    exact hs i _ acc _ hlt hI fun y H' e k => ⟨acc, e, by rw [hl i _ acc hI]; exact Nat.lt_of_lt_of_le hlt hn, _, k⟩
  · have e : i = n := by omega
    subst e
    exact .inl ⟨Nat.le_refl _, hd H acc hI⟩
/-- for i, x in enumerate(t) -/
theorem for_enT {K : PySem.W.Frag} {a : Addr} {xs : List V} {g : TG} {tb : TS} {D : Ends} {σ : L2.St} {H : Hp} (h1 : SqT K H a xs) (Pv : Nat → L2.St → Hp → Prop) (hl : ∀ i σ H, i ≤ xs.length → Pv i σ H → SqT K H a xs) (h0 : Pv 0 σ H)
    (hs : ∀ i x T σ H, i < xs.length → xs[i]? = some x → H T = none → Pv i σ H → g (.ref T) σ (upd H T (.tup [.int (i : Nat), x])) fun σ2 H2 => tb { D with nx := Pv (i + 1), ct := Pv (i + 1), bk := D.nx } σ2 H2) (hd : ∀ σ H, Pv xs.length σ H → D.nx σ H) :
    ∃ W : Nat → Nat → L2.St → Hp → Prop, (∃ m, W 0 m σ H) ∧ ∀ i m σ H, W i m σ H →
      ((IteT K a).stop i H ∧ D.nx σ H) ∨ ((IteT K a).go i H ∧ ∃ N : L2.St → Hp → Prop, (∀ σ' H', N σ' H' → ∃ m', m' < m ∧ W (i + 1) m' σ' H') ∧ ∀ x H', (IteT K a).yld i H x H' → g x σ H' fun σ2 H2 => tb { D with nx := N, ct := N, bk := D.nx } σ2 H2) := by
  refine ⟨fun i m σ H => m = xs.length - i ∧ i ≤ xs.length ∧ Pv i σ H, ⟨xs.length, by simp, Nat.zero_le _, h0⟩, ?_⟩
  rintro i m σ H ⟨rfl, hi, p⟩
  have q := hl i σ H hi p
  by_cases hlt : i < xs.length
  · have e : xs[i]? = some xs[i] := by simp [hlt]
    refine .inr ⟨⟨xs, xs[i], q, e⟩, Pv (i + 1), fun σ' H' p' => ⟨xs.length - (i + 1), by omega, rfl, hlt, p'⟩, fun x H' y => ?_⟩
    obtain ⟨T, x', e1, n, e2, y⟩ := y
    subst e1 e2
    exact hs i x' T σ H hlt (y xs q) n p
  · have e : i = xs.length := by omega
    subst e
    exact .inl ⟨⟨xs, q, Nat.le_refl _⟩, hd σ H p⟩
/-- for i, x in enumerate(l) -/
theorem for_enL {K : PySem.W.Frag} {a : Addr} {xs : List V} {g : TG} {tb : TS} {D : Ends} {σ : L2.St} {H : Hp} (Pv : Nat → L2.St → Hp → Prop) (hl : ∀ i σ H, i ≤ xs.length → Pv i σ H → SqL K H a xs) (h0 : Pv 0 σ H)
    (hs : ∀ i x T σ H, i < xs.length → xs[i]? = some x → H T = none → Pv i σ H → g (.ref T) σ (upd H T (.tup [.int (i : Nat), x])) fun σ2 H2 => tb { D with nx := Pv (i + 1), ct := Pv (i + 1), bk := D.nx } σ2 H2) (hd : ∀ σ H, Pv xs.length σ H → D.nx σ H) :
    ∃ W : Nat → Nat → L2.St → Hp → Prop, (∃ m, W 0 m σ H) ∧ ∀ i m σ H, W i m σ H →
      ((Ite K a).stop i H ∧ D.nx σ H) ∨ ((Ite K a).go i H ∧ ∃ N : L2.St → Hp → Prop, (∀ σ' H', N σ' H' → ∃ m', m' < m ∧ W (i + 1) m' σ' H') ∧ ∀ x H', (Ite K a).yld i H x H' → g x σ H' fun σ2 H2 => tb { D with nx := N, ct := N, bk := D.nx } σ2 H2) := by
  refine ⟨fun i m σ H => m = xs.length - i ∧ i ≤ xs.length ∧ Pv i σ H, ⟨xs.length, by simp, Nat.zero_le _, h0⟩, ?_⟩
  rintro i m σ H ⟨rfl, hi, p⟩
  have q := hl i σ H hi p
  by_cases hlt : i < xs.length
  · have e : xs[i]? = some xs[i] := by simp [hlt]
    refine .inr ⟨⟨xs, xs[i], q, e⟩, Pv (i + 1), fun σ' H' p' => ⟨xs.length - (i + 1), by omega, rfl, hlt, p'⟩, fun x H' y => ?_⟩
    obtain ⟨T, x', e1, n, e2, y⟩ := y
    subst e1 e2
    exact hs i x' T σ H hlt (y xs q) n p
  · have e : i = xs.length := by omega
    subst e
    exact .inl ⟨⟨xs, q, Nat.le_refl _⟩, hd σ H p⟩
end XT

namespace Eff
open Tbl XT
/-! ### the table of a threshold, step by step -/
def insAt (L : List Int) (i : Int) (x : Int) : List Int := L.take i.toNat ++ [x] ++ L.drop i.toNat
def tstep (t : Int) (p : Int × List Int) (s : Stp) : Int × List Int :=
  if s.1 = true then (if s.2 ≤ t then (p.1 + 1, p.2) else p)
  else if s.2 ≤ p.1 then (p.1 - 1, p.2)
  else (p.1, insAt p.2 (kr p.2 (s.2 - p.1) - (s.2 - p.1)) (kr p.2 (s.2 - p.1)))
def tb (t : Int) (S : List Stp) : Int × List Int := S.foldl (tstep t) (0, [])
def smp1 (t : Int) (c : Int) (s : Stp) : Int := if s.1 = true then (if s.2 ≤ t then c + 1 else c) else if s.2 ≤ c then c - 1 else c
def smp (t : Int) (S : List Stp) (c : Int) : Int := S.foldl (smp1 t) c
theorem cnt_notin {L : List Int} {x : Int} (h : x ∉ L) : cnt L x = cnt L (x - 1) := by
  induction L with
  | nil => rfl
  | cons y L ih =>
    have h1 : x ≠ y := fun e => h (e ▸ List.mem_cons_self)
    rw [cnt_cons, cnt_cons, ih fun z => h (List.mem_cons_of_mem _ z)]
    by_cases c : y ≤ x
    · rw [if_pos c, if_pos (by omega)]
    · rw [if_neg c, if_neg (by omega)]
theorem kr_place {L : List Int} (ha : Asc L) (p : Int) : kr L p - p = cnt L (kr L p) := by
  have h1 := (gal (p := p) (c := kr L p) ha).mpr (Int.le_refl _)
  have h2 := cnt_notin (kr_notin ha p)
  have h3 : ¬ p ≤ kr L p - 1 - cnt L (kr L p - 1) := fun h => by
    have := (gal (p := p) (c := kr L p - 1) ha).mp h
    omega
  omega
theorem insAt_perm (L : List Int) (i x : Int) : (insAt L i x).Perm (x :: L) := by
  unfold insAt
  have h : (L.take i.toNat ++ [x] ++ L.drop i.toNat).Perm ([x] ++ (L.take i.toNat ++ L.drop i.toNat)) := by
    rw [List.append_assoc]
    exact List.perm_append_comm_assoc _ _ _
  rw [List.take_append_drop] at h
  exact h
theorem insAt_asc {x : Int} : ∀ {L : List Int}, Asc L → x ∉ L → Asc (insAt L (cnt L x) x)
  | [], _, _ => by simp [insAt]
  | y :: L, ha, hx => by
    have hy := (List.pairwise_cons.mp ha).1
    have hL := (List.pairwise_cons.mp ha).2
    have hxL : x ∉ L := fun z => hx (List.mem_cons_of_mem _ z)
    have hne : x ≠ y := fun e => hx (e ▸ List.mem_cons_self)
    by_cases c : y ≤ x
    · rw [cnt_cons, if_pos c]
      have n0 := cnt_nn L x
      have e : (1 + cnt L x).toNat = (cnt L x).toNat + 1 := by omega
      have e2 : insAt (y :: L) (1 + cnt L x) x = y :: insAt L (cnt L x) x := by
        unfold insAt
        rw [e]
        rfl
      rw [e2]
      refine List.pairwise_cons.mpr ⟨fun z hz => ?_, insAt_asc hL hxL⟩
      rcases List.mem_cons.mp ((insAt_perm L _ x).mem_iff.mp hz) with rfl | hz
      · omega
      · exact hy z hz
    · have e : cnt (y :: L) x = 0 := cnt_zero fun z hz => by
        rcases List.mem_cons.mp hz with rfl | hz
        · omega
        · have := hy z hz; omega
      rw [e]
      show Asc (x :: y :: L)
      refine List.pairwise_cons.mpr ⟨fun z hz => ?_, ha⟩
      rcases List.mem_cons.mp hz with rfl | hz
      · omega
      · have := hy z hz; omega
theorem tstep_ok {t : Int} {p : Int × List Int} {st : Stp} (h : Ok p.1 p.2) (g : goodS st = true) : Ok (tstep t p st).1 (tstep t p st).2 ∧ ∀ c, 0 ≤ c → mp (tstep t p st).1 (tstep t p st).2 c = smp1 t (mp p.1 p.2 c) st := by
  obtain ⟨b, k⟩ := st
  obtain ⟨s, L⟩ := p
  have h : Ok s L := h
  unfold tstep smp1
  cases b with
  | true =>
    simp only [if_true]
    by_cases c : k ≤ t
    · simp only [if_pos c]
      refine ⟨⟨by have := h.s0; omega, h.asc, h.pos⟩, fun c _ => ?_⟩
      unfold mp; omega
    · simp only [if_neg c]
      exact ⟨h, fun _ _ => trivial⟩
  | false =>
    have hk : 0 < k := by simpa [goodS] using g
    simp only [Bool.false_eq_true, if_false]
    by_cases c : k ≤ s
    · simp only [if_pos c]
      refine ⟨⟨by have := h.s0; omega, h.asc, h.pos⟩, fun d hd => ?_⟩
      have := h.mp_ge hd
      rw [if_pos (by omega)]
      unfold mp; omega
    · simp only [if_neg c]
      have hp : 1 ≤ k - s := by omega
      have hr := kr_ge L (k - s)
      have hn := kr_notin h.asc (k - s)
      have hpl := kr_place h.asc (k - s)
      have hg := fun d => gal (p := k - s) (c := d) h.asc
      generalize hr' : kr L (k - s) = r at hr hn hpl hg ⊢
      rw [hpl]
      have pm := insAt_perm L (cnt L r) r
      refine ⟨⟨h.s0, insAt_asc h.asc hn, fun x hx => ?_⟩, fun d hd => ?_⟩
      · rcases List.mem_cons.mp (pm.mem_iff.mp hx) with rfl | hx
        · omega
        · exact h.pos x hx
      · have e := cnt_perm pm d
        rw [cnt_cons] at e
        unfold mp
        rw [e]
        by_cases cc : r ≤ d
        · rw [if_pos cc, if_pos (by have := (hg d).mpr cc; omega)]; omega
        · rw [if_neg cc, if_neg (fun z => cc ((hg d).mp (by omega)))]; omega
theorem fold_ok {t : Int} : ∀ {S : List Stp} {p : Int × List Int}, Ok p.1 p.2 → (∀ s ∈ S, goodS s = true) → Ok (S.foldl (tstep t) p).1 (S.foldl (tstep t) p).2 ∧ ∀ c, 0 ≤ c → mp (S.foldl (tstep t) p).1 (S.foldl (tstep t) p).2 c = S.foldl (smp1 t) (mp p.1 p.2 c)
  | [], p, h, _ => ⟨h, fun _ _ => rfl⟩
  | s :: S, p, h, g => by
    obtain ⟨h1, h2⟩ := tstep_ok (t := t) (st := s) h (g s List.mem_cons_self)
    obtain ⟨h3, h4⟩ := fold_ok (t := t) (S := S) h1 fun x hx => g x (List.mem_cons_of_mem _ hx)
    refine ⟨h3, fun c hc => ?_⟩
    rw [List.foldl_cons, List.foldl_cons, h4 c hc, h2 c hc]
theorem ok0 : Ok 0 [] := ⟨Int.le_refl _, List.Pairwise.nil, fun _ h => by cases h⟩
theorem tb_ok {t : Int} {S : List Stp} (g : ∀ s ∈ S, goodS s = true) : Ok (tb t S).1 (tb t S).2 := (fold_ok (t := t) (p := (0, [])) ok0 g).1
theorem tb_mp {t : Int} {S : List Stp} (g : ∀ s ∈ S, goodS s = true) {c : Int} (hc : 0 ≤ c) : mp (tb t S).1 (tb t S).2 c = smp t S c := by
  have := (fold_ok (t := t) (p := (0, [])) ok0 g).2 c hc
  have e : mp (0, ([] : List Int)).1 (0, ([] : List Int)).2 c = c := by unfold mp; rw [cnt_nil]; omega
  rw [e] at this
  exact this
theorem tb_snoc (t : Int) (S : List Stp) (s : Stp) : tb t (S ++ [s]) = tstep t (tb t S) s := by
  unfold tb
  rw [List.foldl_append]
  rfl
theorem smp_append (t : Int) (S M : List Stp) (c : Int) : smp t (S ++ M) c = smp t M (smp t S c) := by
  unfold smp
  rw [List.foldl_append]
theorem smp_nn {t : Int} : ∀ {S : List Stp} {c : Int}, (∀ s ∈ S, goodS s = true) → 0 ≤ c → 0 ≤ smp t S c
  | [], c, _, h => h
  | (b, k) :: S, c, g, h => by
    show 0 ≤ smp t S (smp1 t c (b, k))
    refine smp_nn (fun s hs => g s (List.mem_cons_of_mem _ hs)) ?_
    have := g _ List.mem_cons_self
    unfold smp1
    cases b with
    | true => simp only [if_true]; split <;> omega
    | false =>
      have hk : 0 < k := by simpa [goodS] using this
      simp only [Bool.false_eq_true, if_false]
      split <;> omega
/-! ### growth -/
def gr1 (t : Int) (s : Stp) : Int := if s.1 = true then (if s.2 ≤ t then 1 else 0) else -1
def gr (t : Int) : List Stp → Int
  | [] => 0
  | s :: S => gr1 t s + gr t S
theorem insAt_len (L : List Int) (i x : Int) : (insAt L i x).length = L.length + 1 := by rw [(insAt_perm L i x).length_eq, List.length_cons]
theorem tstep_gr (t : Int) (p : Int × List Int) (s : Stp) : (tstep t p s).1 - ((tstep t p s).2.length : Int) = p.1 - (p.2.length : Int) + gr1 t s := by
  unfold tstep gr1
  split
  · split
    · simp only; omega
    · omega
  · split
    · simp only; omega
    · simp only [insAt_len]; omega
theorem fold_gr (t : Int) : ∀ (S : List Stp) (p : Int × List Int), (S.foldl (tstep t) p).1 - ((S.foldl (tstep t) p).2.length : Int) = p.1 - (p.2.length : Int) + gr t S
  | [], p => by show _ = _ + 0; rw [Int.add_zero]; rfl
  | s :: S, p => by
    rw [List.foldl_cons, fold_gr t S, tstep_gr]
    show _ = _ + (gr1 t s + gr t S)
    omega
theorem tb_gr (t : Int) (S : List Stp) : (tb t S).1 - ((tb t S).2.length : Int) = gr t S := by
  have := fold_gr t S (0, [])
  simpa [tb] using this
theorem fold_len (t : Int) : ∀ (S : List Stp) (p : Int × List Int), (S.foldl (tstep t) p).2.length ≤ p.2.length + S.length ∧ (S.foldl (tstep t) p).1 ≤ p.1 + S.length
  | [], p => ⟨Nat.le_refl _, by simp⟩
  | s :: S, p => by
    have h := fold_len t S (tstep t p s)
    have h2 : (tstep t p s).2.length ≤ p.2.length + 1 ∧ (tstep t p s).1 ≤ p.1 + 1 := by
      unfold tstep
      split
      · split
        · exact ⟨Nat.le_succ _, Int.le_refl _⟩
        · exact ⟨Nat.le_succ _, by omega⟩
      · split
        · exact ⟨Nat.le_succ _, by simp only; omega⟩
        · exact ⟨by simp only [insAt_len]; omega, by simp only; omega⟩
    rw [List.foldl_cons, List.length_cons]
    omega
theorem tb_len (t : Int) (S : List Stp) : (tb t S).2.length ≤ S.length := by have := (fold_len t S (0, [])).1; simpa [tb] using this
theorem tb_start (t : Int) (S : List Stp) : (tb t S).1 ≤ S.length := by have := (fold_len t S (0, [])).2; simpa [tb] using this
theorem gr_mono {t u : Int} (h : t ≤ u) : ∀ S : List Stp, gr t S ≤ gr u S
  | [] => Int.le_refl _
  | s :: S => by
    have := gr_mono h S
    have : gr1 t s ≤ gr1 u s := by
      unfold gr1
      split
      · split
        · rw [if_pos (by omega)]; exact Int.le_refl _
        · split <;> omega
      · exact Int.le_refl _
    show gr1 t s + gr t S ≤ gr1 u s + gr u S
    omega
theorem gr_lt {t u x : Int} (h : t < x) (h2 : x ≤ u) : ∀ {S : List Stp}, (true, x) ∈ S → gr t S < gr u S
  | s :: S, hm => by
    show gr1 t s + gr t S < gr1 u s + gr u S
    rcases List.mem_cons.mp hm with e | hm
    · subst e
      have := gr_mono (t := t) (u := u) (by omega) S
      have e1 : gr1 t (true, x) = 0 := by unfold gr1; rw [if_pos rfl, if_neg (by show ¬ x ≤ t; omega)]
      have e2 : gr1 u (true, x) = 1 := by unfold gr1; rw [if_pos rfl, if_pos (show x ≤ u by omega)]
      omega
    · have := gr_lt h h2 hm
      have := gr_mono (t := t) (u := u) (by omega) [s]
      have : gr1 t s ≤ gr1 u s := by simpa [gr] using this
      omega
theorem gr_append (t : Int) : ∀ S M : List Stp, gr t (S ++ M) = gr t S + gr t M
  | [], M => by show gr t M = 0 + gr t M; omega
  | s :: S, M => by
    show gr1 t s + gr t (S ++ M) = gr1 t s + gr t S + gr t M
    rw [gr_append t S M]
    omega
/-! ### thresholds between the breaks -/
theorem tb_local {t u : Int} {S : List Stp} (h : ∀ x, (true, x) ∈ S → (x ≤ t ↔ x ≤ u)) : tb t S = tb u S := by
  have : ∀ (S : List Stp) (p : Int × List Int), (∀ x, (true, x) ∈ S → (x ≤ t ↔ x ≤ u)) → S.foldl (tstep t) p = S.foldl (tstep u) p := by
    intro S
    induction S with
    | nil => intro p _; rfl
    | cons s S ih =>
      intro p h
      obtain ⟨b, k⟩ := s
      have e : tstep t p (b, k) = tstep u p (b, k) := by
        unfold tstep
        cases b with
        | true =>
          have := h k List.mem_cons_self
          simp only [if_true]
          by_cases c : k ≤ t
          · rw [if_pos c, if_pos (this.mp c)]
          · rw [if_neg c, if_neg fun z => c (this.mpr z)]
        | false => simp
      rw [List.foldl_cons, List.foldl_cons, e]
      exact ih _ fun x hx => h x (List.mem_cons_of_mem _ hx)
  exact this S _ h
/-- the breaks of a sequence -/
structure Brk (S : List Stp) (B : List Int) : Prop where
  asc : Asc B
  mem : ∀ x, x ∈ B ↔ (true, x) ∈ S
theorem Brk.ext {S : List Stp} {B C : List Int} (h : Brk S B) (k : Brk S C) : B = C := asc_ext h.asc k.asc fun x => by rw [h.mem, k.mem]
def low (B : List Int) : Int := match B with
  | [] => 0
  | b :: _ => b - 1
def thr (B : List Int) : List Int := low B :: B
theorem low_lt {B : List Int} (h : Asc B) : ∀ x ∈ B, low B < x := by
  intro x hx
  cases B with
  | nil => cases hx
  | cons b B =>
    show b - 1 < x
    rcases List.mem_cons.mp hx with rfl | hx
    · omega
    · have := (List.pairwise_cons.mp h).1 x hx; omega
theorem cnt_at {B : List Int} (h : Asc B) : ∀ (t : Int) (j : Nat), cnt B t = (j : Int) + 1 → ∃ b, B[j]? = some b ∧ b ≤ t ∧ ∀ x ∈ B, x ≤ t ↔ x ≤ b := by
  induction B with
  | nil => intro t j e; rw [cnt_nil] at e; omega
  | cons y B ih =>
    intro t j e
    have hy := (List.pairwise_cons.mp h).1
    have hB := (List.pairwise_cons.mp h).2
    rw [cnt_cons] at e
    by_cases c : y ≤ t
    · rw [if_pos c] at e
      cases j with
      | zero =>
        refine ⟨y, rfl, c, fun x hx => ?_⟩
        rcases List.mem_cons.mp hx with rfl | hx
        · constructor <;> intro <;> omega
        · have h1 := hy x hx
          constructor
          · intro h2
            exfalso
            have : (1 : Int) ≤ cnt B t := by
              have h3 := (cnt_mem hB).mp hx
              have h4 := cnt_nn B (x - 1)
              have h5 := cnt_mono B h2
              omega
            omega
          · intro; omega
      | succ j =>
        obtain ⟨b, h1, h2, h3⟩ := ih hB t j (by omega)
        refine ⟨b, by simpa using h1, h2, fun x hx => ?_⟩
        rcases List.mem_cons.mp hx with rfl | hx
        · have := hy b (List.mem_of_getElem? h1)
          constructor <;> intro <;> omega
        · exact h3 x hx
    · rw [if_neg c] at e
      have := cnt_zero (L := B) (c := t) fun z hz => by have := hy z hz; omega
      omega
theorem thr_at {S : List Stp} {B : List Int} (h : Brk S B) (t : Int) : ∃ u, (thr B)[(cnt B t).toNat]? = some u ∧ tb u S = tb t S ∧ gr u S = gr t S := by
  have n0 := cnt_nn B t
  have key : ∀ u, (∀ x ∈ B, x ≤ t ↔ x ≤ u) → tb u S = tb t S ∧ gr u S = gr t S := fun u hu => by
    have e : tb u S = tb t S := tb_local fun x hx => (hu x ((h.mem x).mpr hx)).symm
    exact ⟨e, by rw [← tb_gr u S, ← tb_gr t S, e]⟩
  by_cases e : cnt B t = 0
  · refine ⟨low B, by rw [e]; rfl, key _ fun x hx => ?_⟩
    have h1 := low_lt h.asc x hx
    have h2 : ¬ x ≤ t := fun z => by
      have h3 := (cnt_mem h.asc).mp hx
      have h4 := cnt_nn B (x - 1)
      have h5 := cnt_mono B z
      omega
    constructor <;> intro <;> omega
  · obtain ⟨b, h1, h2, h3⟩ := cnt_at h.asc t ((cnt B t).toNat - 1) (by omega)
    refine ⟨b, ?_, key b h3⟩
    have : (cnt B t).toNat = (cnt B t).toNat - 1 + 1 := by omega
    rw [this]
    simpa [thr] using h1
/-- its tables -/
def tbs (S : List Stp) (B : List Int) : List (Int × List Int) := (thr B).map fun t => tb t S
theorem tbs_at {S : List Stp} {B : List Int} (h : Brk S B) (t : Int) : (tbs S B)[(cnt B t).toNat]? = some (tb t S) := by
  obtain ⟨u, h1, h2, _⟩ := thr_at h t
  unfold tbs
  rw [List.getElem?_map, h1, ← h2]
  rfl
theorem tbs_len (S : List Stp) (B : List Int) : (tbs S B).length = B.length + 1 := by simp [tbs, thr]
theorem brk_iff {S : List Stp} {B : List Int} (h : Brk S B) (b : Int) : b ∈ B ↔ tb b S ≠ tb (b - 1) S := by
  rw [h.mem]
  constructor
  · intro hb e
    have := gr_lt (t := b - 1) (u := b) (by omega) (Int.le_refl _) hb
    rw [← tb_gr b S, ← tb_gr (b - 1) S, e] at this
    omega
  · intro e
    refine Classical.byContradiction fun hb => e (tb_local fun x hx => ?_)
    have : x ≠ b := fun z => hb (z ▸ hx)
    constructor <;> intro <;> omega
/-- effects that have the same tables are one -/
theorem eff_ext {S M : List Stp} {B C : List Int} (h : Brk S B) (k : Brk M C) : (B = C ∧ tbs S B = tbs M C) ↔ ∀ t, tb t S = tb t M := by
  constructor
  · rintro ⟨rfl, e⟩ t
    have h1 := tbs_at h t
    have h2 := tbs_at k t
    rw [e, h2] at h1
    exact (Option.some.inj h1).symm
  · intro e
    have : B = C := asc_ext h.asc k.asc fun x => by rw [brk_iff h, brk_iff k, e, e]
    subst this
    refine ⟨rfl, ?_⟩
    unfold tbs
    exact List.map_congr_left fun t _ => e t
theorem tb_eq_iff {t u : Int} {S M : List Stp} (g : ∀ s ∈ S, goodS s = true) (g2 : ∀ s ∈ M, goodS s = true) : tb t S = tb u M ↔ ∀ c, 0 ≤ c → smp t S c = smp u M c := by
  constructor
  · intro e c hc
    rw [← tb_mp g hc, ← tb_mp g2 hc, e]
  · intro e
    obtain ⟨h1, h2⟩ := ok_ext (tb_ok (t := t) g) (tb_ok (t := u) g2) fun c hc => by rw [tb_mp g hc, tb_mp g2 hc, e c hc]
    exact Prod.ext h1 h2
/-- the sum of two tables -/
theorem tb_add {t : Int} {S M : List Stp} {N : List Int} (g : ∀ s ∈ S, goodS s = true) (g2 : ∀ s ∈ M, goodS s = true) (p : N.Perm ((tb t S).2 ++ found (tb t S).1 (tb t S).2 (tb t M).2)) (u : Up N) :
    (mp (tb t M).1 (tb t M).2 (tb t S).1, N) = tb t (S ++ M) := by
  have g3 : ∀ s ∈ S ++ M, goodS s = true := fun s hs => (List.mem_append.mp hs).elim (g s) (g2 s)
  have o1 := tb_ok (t := t) g
  have o2 := tb_ok (t := t) g2
  obtain ⟨h1, h2⟩ := ok_ext (ok_add o1 o2 p u) (tb_ok (t := t) g3) fun c hc => by
    rw [mp_add o1 p hc, tb_mp g hc, tb_mp g2 (smp_nn g hc), tb_mp g3 hc, smp_append]
  exact Prod.ext h1 h2
/-- neighboring tables differ -/
theorem tbs_adj {S : List Stp} {B : List Int} (h : Brk S B) : ∀ (i : Nat) (p q : Int × List Int), (tbs S B)[i]? = some p → (tbs S B)[i + 1]? = some q → p ≠ q := by
  intro i p q hp hq e
  unfold tbs at hp hq
  rw [List.getElem?_map] at hp hq
  obtain ⟨t, ht, rfl⟩ := Option.map_eq_some_iff.mp hp
  obtain ⟨u, hu, rfl⟩ := Option.map_eq_some_iff.mp hq
  have hu' : B[i]? = some u := by simpa [thr] using hu
  have hum := List.mem_of_getElem? hu'
  have hlt : t < u := by
    cases i with
    | zero =>
      have : low B = t := by simpa [thr] using ht
      rw [← this]
      exact low_lt h.asc u hum
    | succ i =>
      have ht' : B[i]? = some t := by simpa [thr] using ht
      obtain ⟨h1, e1⟩ := List.getElem?_eq_some_iff.mp ht'
      obtain ⟨h2, e2⟩ := List.getElem?_eq_some_iff.mp hu'
      have := (List.pairwise_iff_getElem.mp h.asc) i (i + 1) h1 h2 (by omega)
      omega
  have := gr_lt hlt (Int.le_refl u) ((h.mem u).mp hum)
  rw [← tb_gr t S, ← tb_gr u S, e] at this
  omega
/-! ### runs -/
theorem up_srt (L : List Int) : Up (srt L) := srt_up L
theorem cnt_srt (L : List Int) (t : Int) : cnt (srt L) t = cnt L t := cnt_perm (srt_perm L) t
theorem cnt_rm {N : List Int} (u : Up N) (t : Int) : ∀ j : Nat, j < N.length → cnt (N.take j ++ N.drop (j + 1)) t = cnt N t - (if (j : Int) < cnt N t then 1 else 0) := by
  induction N with
  | nil => intro j h; cases h
  | cons y N ih =>
    intro j h
    have hy := (List.pairwise_cons.mp u).1
    have hN := (List.pairwise_cons.mp u).2
    have n0 := cnt_nn N t
    have hz : ¬ y ≤ t → cnt N t = 0 := fun c => cnt_zero fun z hz => by have := hy z hz; omega
    cases j with
    | zero =>
      show cnt N t = _
      rw [cnt_cons]
      by_cases c : y ≤ t
      · rw [if_pos c, if_pos (by simp only [Int.natCast_zero, Int.ofNat_zero] at *; omega)]; omega
      · rw [if_neg c, hz c]; rfl
    | succ j =>
      have := ih hN j (by simpa using h)
      show cnt (y :: (N.take j ++ N.drop (j + 1))) t = _
      rw [cnt_cons, cnt_cons, this]
      by_cases c : y ≤ t
      · rw [if_pos c]
        by_cases d : (j : Int) < cnt N t
        · rw [if_pos d, if_pos (by omega)]; omega
        · rw [if_neg d, if_neg (by omega)]; omega
      · rw [if_neg c, hz c]
        rw [if_neg (by omega), if_neg (by omega)]
        omega
theorem step_cnt {N M : List Int} {s : Stp} (u : Up N) (g : goodS s = true) (e : stepR N s = some M) : Up M ∧ (∀ t, cnt M t = smp1 t (cnt N t) s) ∧ (M.length : Int) = N.length + (if s.1 = true then 1 else -1) ∧ ∀ x ∈ M, x ∈ N ∨ s = (true, x) := by
  obtain ⟨b, k⟩ := s
  cases b with
  | true =>
    have e' : some (srt (N ++ [k])) = some M := e
    cases e'
    refine ⟨up_srt _, fun t => ?_, ?_, fun x hx => ?_⟩
    · rw [cnt_srt, cnt_append, cnt_cons, cnt_nil]
      unfold smp1
      simp only [if_true]
      split <;> omega
    · rw [srt_len, List.length_append]
      simp
    · rcases List.mem_append.mp ((srt_perm _).mem_iff.mp hx) with h | h
      · exact .inl h
      · rw [List.mem_singleton.mp h]; exact .inr rfl
  | false =>
    have hk : 0 < k := by simpa [goodS] using g
    simp only [stepR] at e
    split at e
    · cases e
    · rename_i hl
      cases e
      have hj : (k - 1).toNat < N.length := by omega
      have ej : k.toNat = (k - 1).toNat + 1 := by omega
      rw [ej]
      refine ⟨?_, fun t => ?_, ?_, fun x hx => .inl ?_⟩
      · refine List.pairwise_append.mpr ⟨u.sublist (List.take_sublist _ _), u.sublist (List.drop_sublist _ _), fun a ha b hb => ?_⟩
        have h1 : a ∈ N.take ((k - 1).toNat + 1) := (List.take_sublist_take_left (by omega)).subset ha
        have h2 := u
        rw [← List.take_append_drop ((k - 1).toNat + 1) N] at h2
        exact (List.pairwise_append.mp h2).2.2 a h1 b hb
      · rw [cnt_rm u t _ hj]
        unfold smp1
        simp only [Bool.false_eq_true, if_false]
        by_cases c : k ≤ cnt N t
        · rw [if_pos c, if_pos (by omega)]
        · rw [if_neg c, if_neg (by omega)]; omega
      · rw [List.length_append, List.length_take, List.length_drop]
        simp
        omega
      · rcases List.mem_append.mp hx with h | h
        · exact List.mem_of_mem_take h
        · exact List.mem_of_mem_drop h
theorem run_cnt : ∀ {S : List Stp} {N M : List Int} {i : Nat}, Up N → (∀ s ∈ S, goodS s = true) → runR N i S = .inl M → Up M ∧ (∀ t, cnt M t = smp t S (cnt N t)) ∧ ∀ x ∈ M, x ∈ N ∨ (true, x) ∈ S
  | [], N, M, i, u, _, e => by
    have e' : (Sum.inl N : List Int ⊕ Nat) = .inl M := e
    cases e'
    exact ⟨u, fun _ => rfl, fun x hx => .inl hx⟩
  | s :: S, N, M, i, u, g, e => by
    simp only [runR] at e
    cases h : stepR N s with
    | none => rw [h] at e; cases e
    | some N1 =>
      rw [h] at e
      obtain ⟨u1, c1, _, m1⟩ := step_cnt u (g s List.mem_cons_self) h
      obtain ⟨u2, c2, m2⟩ := run_cnt u1 (fun x hx => g x (List.mem_cons_of_mem _ hx)) e
      refine ⟨u2, fun t => ?_, fun x hx => ?_⟩
      · rw [c2 t, c1 t]
        rfl
      · rcases m2 x hx with h1 | h1
        · rcases m1 x h1 with h2 | h2
          · exact .inl h2
          · rw [h2]; exact .inr List.mem_cons_self
        · exact .inr (List.mem_cons_of_mem _ h1)
/-- a threshold above all inserted numbers -/
def Top (T : Int) (S : List Stp) : Prop := ∀ x, (true, x) ∈ S → x ≤ T
theorem smp_ge {t : Int} : ∀ (S : List Stp) (c : Int), c + gr t S ≤ smp t S c
  | [], c => by show c + 0 ≤ c; omega
  | (b, k) :: S, c => by
    have := smp_ge (t := t) S (smp1 t c (b, k))
    have h : c + gr1 t (b, k) ≤ smp1 t c (b, k) := by
      unfold gr1 smp1
      cases b with
      | true => simp only [if_true]; split <;> omega
      | false => simp only [Bool.false_eq_true, if_false]; split <;> omega
    show c + (gr1 t (b, k) + gr t S) ≤ smp t S (smp1 t c (b, k))
    omega
theorem run_ok {T : Int} : ∀ {S : List Stp} {N : List Int} {i : Nat}, Up N → (∀ s ∈ S, goodS s = true) → Top T S → ((∃ M, runR N i S = .inl M) ↔ smp T S N.length = N.length + gr T S)
  | [], N, i, _, _, _ => by
    constructor
    · intro _; show (N.length : Int) = N.length + 0; omega
    · intro _; exact ⟨N, rfl⟩
  | (b, k) :: S, N, i, u, g, tp => by
    have gS : ∀ s ∈ S, goodS s = true := fun x hx => g x (List.mem_cons_of_mem _ hx)
    have tS : Top T S := fun x hx => tp x (List.mem_cons_of_mem _ hx)
    show (∃ M, runR N i ((b, k) :: S) = .inl M) ↔ smp T S (smp1 T N.length (b, k)) = N.length + (gr1 T (b, k) + gr T S)
    simp only [runR]
    cases h : stepR N (b, k) with
    | some N1 =>
      obtain ⟨u1, _, l1, _⟩ := step_cnt u (g _ List.mem_cons_self) h
      have ih := run_ok (T := T) (i := i + 1) u1 gS tS
      have e1 : smp1 T N.length (b, k) = N1.length ∧ gr1 T (b, k) = (if b = true then 1 else -1) := by
        unfold smp1 gr1
        cases b with
        | true =>
          have := tp k List.mem_cons_self
          simp only [if_true] at l1 ⊢
          rw [if_pos this, if_pos this]
          omega
        | false =>
          simp only [stepR] at h
          split at h
          · cases h
          · simp only [Bool.false_eq_true, if_false] at l1 ⊢
            rw [if_pos (by omega)]
            constructor <;> first | omega | trivial
      rw [e1.1, e1.2]
      refine ih.trans ?_
      simp only at l1
      rw [l1]
      constructor <;> intro <;> omega
    | none =>
      cases b with
      | true => cases h
      | false =>
        simp only [stepR] at h
        split at h
        · rename_i hl
          have e1 : smp1 T N.length (false, k) = N.length := by
            unfold smp1
            simp only [Bool.false_eq_true, if_false]
            rw [if_neg (by omega)]
          have e2 : gr1 T (false, k) = -1 := by unfold gr1; simp
          rw [e1, e2]
          have := smp_ge (t := T) S N.length
          constructor
          · rintro ⟨M, z⟩; cases z
          · intro; omega
        · cases h
/-- the least length that is enough -/
def needL (L : List Int) : Int := L.getLastD 0
theorem needL_iff {L : List Int} (h : Asc L) (p : Pos L) {n : Int} (n0 : 0 ≤ n) : needL L ≤ n ↔ ∀ x ∈ L, x ≤ n := by
  unfold needL
  cases hL : L.getLast? with
  | none =>
    rw [List.getLast?_eq_none_iff] at hL
    subst hL
    simp
    exact n0
  | some x =>
    have e : L.getLastD 0 = x := by rw [List.getLastD_eq_getLast?, hL]; rfl
    rw [e]
    obtain ⟨M, rfl⟩ := List.getLast?_eq_some_iff.mp hL
    constructor
    · intro hx y hy
      rcases List.mem_append.mp hy with hy | hy
      · have := (List.pairwise_append.mp h).2.2 y hy x (List.mem_singleton.mpr rfl); omega
      · rw [List.mem_singleton.mp hy]; exact hx
    · intro hall; exact hall x (List.mem_append.mpr (.inr (List.mem_singleton.mpr rfl)))
theorem needL_nn {L : List Int} (p : Pos L) : 0 ≤ needL L := by
  unfold needL
  cases hL : L.getLast? with
  | none => rw [List.getLast?_eq_none_iff] at hL; subst hL; simp
  | some x =>
    have e : L.getLastD 0 = x := by rw [List.getLastD_eq_getLast?, hL]; rfl
    rw [e]
    have := p x (List.mem_of_getLast? hL)
    omega
theorem cnt_full {L : List Int} {n : Int} : cnt L n = L.length ↔ ∀ x ∈ L, x ≤ n := by
  constructor
  · intro e
    induction L with
    | nil => intro x hx; cases hx
    | cons y L ih =>
      rw [cnt_cons, List.length_cons] at e
      have := cnt_le_len L n
      intro x hx
      by_cases c : y ≤ n
      · rw [if_pos c] at e
        rcases List.mem_cons.mp hx with rfl | hx
        · exact c
        · exact ih (by omega) x hx
      · rw [if_neg c] at e
        omega
  · exact cnt_all
theorem run_need {T : Int} {S : List Stp} {N : List Int} {i : Nat} (u : Up N) (g : ∀ s ∈ S, goodS s = true) (tp : Top T S) : (∃ M, runR N i S = .inl M) ↔ needL (tb T S).2 ≤ N.length := by
  have o := tb_ok (t := T) g
  rw [run_ok u g tp, needL_iff o.asc o.pos (Int.natCast_nonneg _), ← cnt_full, ← tb_mp g (Int.natCast_nonneg _), ← tb_gr]
  unfold mp
  constructor <;> intro <;> omega
/-! ### lists by their counts -/
theorem up_ext {L : List Int} : ∀ {M : List Int}, Up L → Up M → (∀ t, cnt L t = cnt M t) → L = M := by
  intro M hL hM e
  have c : ∀ (x : Int) (L : List Int), (L.count x : Int) = cnt L x - cnt L (x - 1) := by
    intro x L
    induction L with
    | nil => rfl
    | cons y L ih =>
      rw [cnt_cons, cnt_cons, List.count_cons]
      by_cases h : y = x
      · subst h
        rw [if_pos (show y ≤ y from Int.le_refl _), if_neg (show ¬ y ≤ y - 1 by omega), if_pos (show (y == y) = true by simp)]
        omega
      · rw [if_neg (show ¬ (y == x) = true by simpa using h)]
        by_cases h2 : y ≤ x
        · rw [if_pos h2, if_pos (show y ≤ x - 1 by omega)]
          omega
        · rw [if_neg h2, if_neg (show ¬ y ≤ x - 1 by omega)]
          omega
  have p : L.Perm M := List.perm_iff_count.mpr fun x => by
    have h1 := c x L
    have h2 := c x M
    rw [e x, e (x - 1)] at h1
    omega
  exact p.eq_of_pairwise (le := (· ≤ ·)) (fun a b _ _ h1 h2 => Int.le_antisymm h1 h2) hL hM
theorem up_split {v : Int} : ∀ {M : List Int}, Up M → (∀ x ∈ M, v ≤ x) → ∃ M', M = List.replicate (cnt M v).toNat v ++ M' ∧ Up M' ∧ ∀ x ∈ M', v < x
  | [], _, _ => ⟨[], rfl, List.Pairwise.nil, fun _ h => by cases h⟩
  | y :: M, u, h => by
    have hy := (List.pairwise_cons.mp u).1
    have hM := (List.pairwise_cons.mp u).2
    have h1 := h y List.mem_cons_self
    by_cases c : y ≤ v
    · have e : y = v := by omega
      subst e
      obtain ⟨M', e1, u1, g1⟩ := up_split hM fun x hx => hy x hx
      refine ⟨M', ?_, u1, g1⟩
      rw [cnt_cons, if_pos (Int.le_refl _)]
      have n0 := cnt_nn M y
      have e2 : (1 + cnt M y).toNat = (cnt M y).toNat + 1 := by omega
      rw [e2, List.replicate_succ, List.cons_append, ← e1]
    · refine ⟨y :: M, ?_, u, fun x hx => ?_⟩
      · have : cnt (y :: M) v = 0 := cnt_zero fun x hx => by
          rcases List.mem_cons.mp hx with rfl | hx
          · omega
          · have := hy x hx; omega
        rw [this]
        rfl
      · rcases List.mem_cons.mp hx with rfl | hx
        · omega
        · have := hy x hx; omega
/-- what spread makes -/
def spr (b : Int) : List (Int × Int) → List Int
  | [] => []
  | (v, f) :: V => List.replicate (f - b).toNat v ++ spr f V
theorem spr_run {V : List Int} : ∀ {M : List Int} {b : Int} {f : Int → Int}, Asc V → Up M → (∀ x ∈ M, x ∈ V) → (∀ v ∈ V, f v = b + cnt M v) → spr b (V.map fun v => (v, f v)) = M := by
  induction V with
  | nil =>
    intro M b f _ _ h _
    cases M with
    | nil => rfl
    | cons x M => exact absurd (h x List.mem_cons_self) (by simp)
  | cons v V ih =>
    intro M b f ha u h hf
    have hv := (List.pairwise_cons.mp ha).1
    have hV := (List.pairwise_cons.mp ha).2
    obtain ⟨M', e, u', g'⟩ := up_split (v := v) u fun x hx => by
      rcases List.mem_cons.mp (h x hx) with rfl | hx
      · exact Int.le_refl _
      · have := hv x hx; omega
    have n0 := cnt_nn M v
    have h1 := hf v List.mem_cons_self
    show List.replicate (f v - b).toNat v ++ spr (f v) (V.map fun v => (v, f v)) = M
    have e1 : (f v - b).toNat = (cnt M v).toNat := by omega
    rw [e1, ih (M := M') hV u' (fun x hx => ?_) (fun w hw => ?_), ← e]
    · have hx2 : x ∈ M := by rw [e]; exact List.mem_append.mpr (.inr hx)
      rcases List.mem_cons.mp (h x hx2) with rfl | h3
      · have := g' x hx; omega
      · exact h3
    · rw [hf w (List.mem_cons_of_mem _ hw), h1]
      have hw2 := hv w hw
      have e2 : cnt M w = cnt M v + cnt M' w := by
        have h3 := congrArg (fun L => cnt L w) e
        simp only [cnt_append] at h3
        rw [h3, cnt_all (L := List.replicate (cnt M v).toNat v) fun x hx => by rw [List.eq_of_mem_replicate hx]; omega, List.length_replicate]
        omega
      omega
theorem spr_len : ∀ (V : List (Int × Int)) (b : Int) (m : Int), b ≤ m → (V.map (·.2)).Pairwise (· ≤ ·) → (∀ p ∈ V, b ≤ p.2 ∧ p.2 ≤ m) → ((spr b V).length : Int) ≤ m - b
  | [], b, m, h, _, _ => by show ((0 : Nat) : Int) ≤ m - b; omega
  | (v, f) :: V, b, m, h, u, k => by
    have hf := k (v, f) List.mem_cons_self
    rw [List.map_cons] at u
    have hu := List.pairwise_cons.mp u
    have := spr_len V f m hf.2 hu.2 fun p hp => ⟨hu.1 p.2 (List.mem_map.mpr ⟨p, hp, rfl⟩), (k p (List.mem_cons_of_mem _ hp)).2⟩
    show ((List.replicate (f - b).toNat v ++ spr f V).length : Int) ≤ m - b
    rw [List.length_append, List.length_replicate]
    simp only at hf
    omega
/-! ### shifted -/
def shf (o : Int) (S : List Stp) : List Stp := S.map fun s => if s.1 = true then (true, s.2 + o) else s
theorem tb_shf (o t : Int) (S : List Stp) : tb (t + o) (shf o S) = tb t S := by
  have : ∀ (S : List Stp) (p : Int × List Int), (shf o S).foldl (tstep (t + o)) p = S.foldl (tstep t) p := by
    intro S
    induction S with
    | nil => intro p; rfl
    | cons s S ih =>
      intro p
      show (shf o S).foldl (tstep (t + o)) (tstep (t + o) p (if s.1 = true then (true, s.2 + o) else s)) = _
      rw [ih, List.foldl_cons]
      congr 1
      obtain ⟨b, k⟩ := s
      unfold tstep
      cases b with
      | true =>
        simp only [if_true]
        by_cases c : k ≤ t
        · rw [if_pos c, if_pos (by omega)]
        · rw [if_neg c, if_neg (by omega)]
      | false => simp
  exact this S _
theorem good_shf {o : Int} {S : List Stp} (g : ∀ s ∈ S, goodS s = true) : ∀ s ∈ shf o S, goodS s = true := by
  intro s hs
  obtain ⟨x, hx, rfl⟩ := List.mem_map.mp hs
  have := g x hx
  split
  · rfl
  · exact this
end Eff
namespace Eff
open Tbl XT
/-- a threshold above all numbers of the steps -/
def topOf (S : List Stp) : Int := S.foldr (fun s m => max s.2 m) 0
theorem top_ge : ∀ {S : List Stp} {s : Stp}, s ∈ S → s.2 ≤ topOf S
  | x :: S, s, h => by
    show s.2 ≤ max x.2 (topOf S)
    rcases List.mem_cons.mp h with rfl | h
    · exact Int.le_max_left _ _
    · exact Int.le_trans (top_ge h) (Int.le_max_right _ _)
theorem top_top (S : List Stp) : Top (topOf S) S := fun x hx => top_ge hx
def need (S : List Stp) : Int := needL (tb (topOf S) S).2
def grow (S : List Stp) : Int := gr (topOf S) S
theorem tb_top {T : Int} {S : List Stp} (h : Top T S) : tb T S = tb (topOf S) S := tb_local fun x hx => by
  have h1 := h x hx
  have h2 := top_top S x hx
  constructor <;> intro <;> omega
theorem gr_top {T : Int} {S : List Stp} (h : Top T S) : gr T S = grow S := by
  unfold grow
  rw [← tb_gr T S, ← tb_gr (topOf S) S, tb_top h]
theorem tbs_last {S : List Stp} {B : List Int} (h : Brk S B) : (tbs S B)[B.length]? = some (tb (topOf S) S) := by
  have h1 := tbs_at h (topOf S)
  have h2 : cnt B (topOf S) = B.length := cnt_all fun x hx => top_top S x ((h.mem x).mp hx)
  rw [h2, Int.toNat_natCast] at h1
  exact h1
theorem need_nn {S : List Stp} (g : ∀ s ∈ S, goodS s = true) : 0 ≤ need S := needL_nn (tb_ok g).pos
theorem run_iff {S : List Stp} {N : List Int} {i : Nat} (u : Up N) (g : ∀ s ∈ S, goodS s = true) : (∃ M, runR N i S = .inl M) ↔ need S ≤ N.length := run_need u g (top_top S)
theorem brk_nil : Brk [] [] := ⟨List.Pairwise.nil, fun x => by simp⟩
/-- the inserted numbers -/
def ins (S : List Stp) : List Int := S.filterMap fun s => if s.1 = true then some s.2 else none
theorem mem_ins {S : List Stp} {x : Int} : x ∈ ins S ↔ (true, x) ∈ S := by
  unfold ins
  rw [List.mem_filterMap]
  constructor
  · rintro ⟨⟨b, k⟩, h, e⟩
    cases b with
    | true => simp at e; subst e; exact h
    | false => simp at e
  · intro h
    exact ⟨(true, x), h, by simp⟩
theorem ins_len (S : List Stp) : (ins S).length ≤ S.length := List.length_filterMap_le _ _
theorem all_eq_iff {S M : List Stp} {B : List Int} : ((List.range (tbs S B).length).all fun i => decide ((tbs S B)[i]? = (tbs M B)[i]?)) = true ↔ tbs S B = tbs M B := by
  rw [List.all_eq_true]
  constructor
  · intro h
    apply List.ext_getElem?
    intro i
    by_cases hi : i < (tbs S B).length
    · exact of_decide_eq_true (h i (List.mem_range.mpr hi))
    · rw [List.getElem?_eq_none (by omega), List.getElem?_eq_none (by rw [tbs_len] at hi ⊢; omega)]
  · intro e i _
    rw [e]
    exact decide_eq_true rfl
end Eff

namespace XT
open PySem PySem.Spec PyProof.Rows L2
section
variable {X : Cx} {o : Expr} {lo hi : Option Expr} {to : TE} {tl th : TO} {pos p2 : Pos}
/-- o[lo:hi] = a list -/
def gSl (to : TE) (tl th : TO) : TG := fun v σ H Q => to σ H fun o H1 => tl σ H1 fun a H2 => th σ H2 fun c H3 =>
  ∃ (l b : Addr) (xs ys : List V) (i j : Int), o = .ref l ∧ v = .ref b ∧ a = some i ∧ c = some j ∧ H3 l = some (.lst xs) ∧ H3 b = some (.lst ys) ∧ l ≠ b ∧ 0 ≤ i ∧ i ≤ j ∧ j ≤ xs.length ∧ xs.length + ys.length ≤ sizeLine ∧
    Q σ (upd H3 l (.lst (xs.take i.toNat ++ ys ++ xs.drop j.toNat)))
theorem isPart_rel {u : Value} {i : Int} (h : IsPart u (some i)) : RelV (.int i) u := by
  cases h with
  | int i t => exact ⟨t, rfl⟩
theorem pg_slice (ho : PE X o to) (hl : PO X lo tl) (hu : PO X hi th)
    (ha : ∀ v, assign (.Subscript o (.Slice lo hi none p2) pos) X.env v = (do
      let ov ← holding [v] (eval o X.env)
      let iv ← holding [v, ov] (eval (.Slice lo hi none p2) X.env)
      standAt pos
      holding [v, ov, iv] (setItem ov iv v)
      release [iv, v, ov] []) := by intro _; rfl) : PG X (.Subscript o (.Slice lo hi none p2) pos) (gSl to tl th) := by
  refine ⟨fun pins s σ H v u Q I r h => ?_⟩
  rw [ha]
  refine wpAny_bind (wpAny_holding (thn (ho.run pins s σ H _ I h) fun ov s1 ⟨x, H1, I1, r1, q1⟩ => ?_))
  refine wpAny_bind (wpAny_holding ?_)
  refine wpAny_Slice (thn (hl.run pins s1 σ H1 _ I1 q1) fun vl s2 ⟨l, H2, I2, pl, q2⟩ => thn (hu.run pins s2 σ H2 _ I2 q2) fun vu s3 ⟨c, H3, I3, pu, q3⟩ => ?_)
  rw [evalPart_none]
  refine wpAny_pure ?_
  have I4 : Inv X pins σ H3 { s3 with heap := s3.heap.push { cls := .type "slice", data := .fields #[vl, vu, .none] } } := I3.kept (t' := s3.toks) fun b ob q => Heap.get?_push_of_some _ q
  obtain ⟨lA, bA, xs, ys, i, j, rfl, rfl, rfl, rfl, hx, hy, hne, h0, hij, hj, hz, q⟩ := q3
  cases r1
  cases r
  refine wpAny_bind (wpAny_standAt (wpAny_bind (wpAny_holding ?_)))
  refine set_slice I4 hx hy hne (Heap.IsSliceOf.new ..) (isPart_rel pl) (isPart_rel pu) h0 hij hj hz fun s' I' => ?_
  exact wpAny_release ⟨σ, _, I', q⟩
end
end XT

namespace Eff
open Tbl XT
theorem smp_big {t m : Int} : ∀ {S : List Stp} {c : Int}, (∀ s ∈ S, s.1 = false → s.2 ≤ m) → m + S.length ≤ c → smp t S c = c + gr t S
  | [], c, _, _ => by show c = c + 0; omega
  | (b, k) :: S, c, h, hc => by
    rw [List.length_cons] at hc
    have ih := fun (d : Int) (hd : m + S.length ≤ d) => smp_big (t := t) (S := S) (c := d) (fun s hs => h s (List.mem_cons_of_mem _ hs)) hd
    show smp t S (smp1 t c (b, k)) = c + (gr1 t (b, k) + gr t S)
    unfold smp1 gr1
    cases b with
    | true =>
      simp only [if_true]
      by_cases d : k ≤ t
      · rw [if_pos d, if_pos d, ih _ (by omega)]; omega
      · rw [if_neg d, if_neg d, ih _ (by omega)]; omega
    | false =>
      have := h _ List.mem_cons_self rfl
      simp only [Bool.false_eq_true, if_false]
      rw [if_pos (show k ≤ c by simp only at this; omega), ih _ (by omega)]
      omega
theorem range_filt {L : List Int} {lo : Int} {n : Nat} {p : Nat → Bool} (ha : Asc L) (hb : ∀ x ∈ L, lo ≤ x ∧ x < lo + n) (hp : ∀ i : Nat, i < n → (p i = true ↔ lo + (i : Int) ∈ L)) : ((List.range n).filter p).map (fun i : Nat => lo + (i : Int)) = L := by
  refine asc_ext ?_ ha fun x => ?_
  · refine List.pairwise_map.mpr ((List.pairwise_lt_range (n := n)).filter p |>.imp fun h => ?_)
    omega
  · rw [List.mem_map]
    constructor
    · rintro ⟨i, hi, rfl⟩
      obtain ⟨h1, h2⟩ := List.mem_filter.mp hi
      exact (hp i (List.mem_range.mp h1)).mp h2
    · intro hx
      obtain ⟨h1, h2⟩ := hb x hx
      refine ⟨(x - lo).toNat, List.mem_filter.mpr ⟨List.mem_range.mpr (by omega), (hp _ (by omega)).mpr ?_⟩, by omega⟩
      have : lo + (((x - lo).toNat : Nat) : Int) = x := by omega
      rw [this]
      exact hx
theorem mem_lost {t : Int} {S : List Stp} (g : ∀ s ∈ S, goodS s = true) {x : Int} (hx : 1 ≤ x) : x ∈ (tb t S).2 ↔ smp t S x = smp t S (x - 1) := by
  have o := tb_ok (t := t) g
  rw [cnt_mem o.asc, ← tb_mp g (show 0 ≤ x by omega), ← tb_mp g (show 0 ≤ x - 1 by omega)]
  unfold mp
  constructor <;> intro <;> omega
theorem lost_le {t m : Int} {S : List Stp} (g : ∀ s ∈ S, goodS s = true) (h : ∀ s ∈ S, s.1 = false → s.2 ≤ m) (hm : 0 ≤ m) : ∀ x ∈ (tb t S).2, x ≤ m + S.length := by
  intro x hx
  have o := tb_ok (t := t) g
  have h1 := o.pos x hx
  have h2 := (mem_lost g h1).mp hx
  refine Classical.byContradiction fun c => ?_
  rw [smp_big h (by omega), smp_big h (by omega)] at h2
  omega
def row (t : Int) (S : List Stp) : List Int := (List.range 31).map fun c : Nat => smp t S (c : Int)
theorem row_iff {S : List Stp} {B : List Int} (h : Brk S B) (g : ∀ s ∈ S, goodS s = true) (hr : ∀ s ∈ S, s.1 = false → s.2 ≤ 14) (hl : S.length ≤ 12) (t : Int) : ¬ row t S = row (t - 1) S ↔ t ∈ B := by
  rw [brk_iff h]
  constructor
  · intro c e
    exact c (List.map_congr_left fun x _ => (tb_eq_iff g g).mp e x (Int.natCast_nonneg _))
  · intro c e
    have hb := (h.mem t).mp ((brk_iff h t).mpr c)
    have h1 := gr_lt (t := t - 1) (u := t) (by omega) (Int.le_refl _) hb
    have h2 := congrArg (fun l => l[30]?) e
    simp only [row] at h2
    rw [List.getElem?_map, List.getElem?_map] at h2
    have h3 : (List.range 31)[30]? = some 30 := rfl
    rw [h3] at h2
    have h4 : smp t S ((30 : Nat) : Int) = smp (t - 1) S ((30 : Nat) : Int) := Option.some.inj h2
    rw [smp_big hr (by omega), smp_big hr (by omega)] at h4
    omega
theorem row_len (t : Int) (S : List Stp) : (row t S).length = 31 := by simp [row]
theorem cuts_eq {S : List Stp} {B : List Int} (h : Brk S B) (g : ∀ s ∈ S, goodS s = true) (hr : ∀ s ∈ S, -2 ≤ s.2 ∧ s.2 ≤ 14) (hl : S.length ≤ 12) :
    ((List.range 20).filter fun i : Nat => !decide (row (-5 + (i : Int)) S = row (-6 + (i : Int)) S)).map (fun i : Nat => -5 + (i : Int)) = B := by
  refine range_filt h.asc (fun x hx => ?_) fun i hi => ?_
  · have := hr _ ((h.mem x).mp hx)
    simp only at this
    omega
  · rw [← row_iff h g (fun s hs _ => (hr s hs).2) hl]
    have e : -5 + (i : Int) - 1 = -6 + (i : Int) := by omega
    rw [e]
    simp
theorem top14 {S : List Stp} (hr : ∀ s ∈ S, -2 ≤ s.2 ∧ s.2 ≤ 14) : Top 14 S := fun x hx => (hr _ hx).2
theorem need_eq {S : List Stp} (g : ∀ s ∈ S, goodS s = true) (hr : ∀ s ∈ S, -2 ≤ s.2 ∧ s.2 ≤ 14) (hl : S.length ≤ 12) :
    ((List.range 30).filter fun i : Nat => decide (smp 14 S (1 + (i : Int)) = smp 14 S (1 + (i : Int) - 1))).map (fun i : Nat => 1 + (i : Int)) = (tb (topOf S) S).2 := by
  rw [← tb_top (top14 hr)]
  have o := tb_ok (t := 14) g
  refine range_filt o.asc (fun x hx => ?_) fun i hi => ?_
  · have h1 := o.pos x hx
    have h2 := lost_le (m := 14) g (fun s hs _ => (hr s hs).2) (by decide) x hx
    omega
  · rw [mem_lost g (by omega)]
    simp
theorem grow_eq {S : List Stp} (hr : ∀ s ∈ S, -2 ≤ s.2 ∧ s.2 ≤ 14) (hl : S.length ≤ 12) : smp 14 S 30 - 30 = grow S := by
  rw [smp_big (m := 14) (fun s hs _ => (hr s hs).2) (by omega), gr_top (top14 hr)]
  omega
end Eff
namespace Eff
open Tbl XT
theorem top14c {S : List Stp} {k : Int} (hr : ∀ s ∈ S, -2 ≤ s.2 ∧ s.2 ≤ 14) : Top 14 (S ++ [(false, k)]) := fun x hx => by
  rcases List.mem_append.mp hx with h | h
  · exact (hr _ h).2
  · have := List.mem_singleton.mp h
    cases this
theorem great_need {S : List Stp} {k : Int} (g : ∀ s ∈ S, goodS s = true) (hr : ∀ s ∈ S, -2 ≤ s.2 ∧ s.2 ≤ 14) (hl : S.length ≤ 12) (hk : 1000 ≤ k) : need (S ++ [(false, k)]) = k - grow S := by
  have e0 : need (S ++ [(false, k)]) = needL (tb 14 (S ++ [(false, k)])).2 := by unfold need; rw [tb_top (top14c hr)]
  rw [e0, tb_snoc]
  have o := tb_ok (t := 14) g
  have ll := lost_le (t := 14) (m := 14) g (fun s hs _ => (hr s hs).2) (by decide)
  have lg := tb_gr 14 S
  have ls := tb_start 14 S
  rw [gr_top (top14 hr)] at lg
  generalize hp : tb 14 S = p at o ll lg ls ⊢
  obtain ⟨s, L⟩ := p
  simp only at o ll lg ls
  unfold tstep
  rw [if_neg (by simp), if_neg (show ¬ k ≤ s by omega)]
  have kp := kr_place o.asc (k - s)
  have kg := kr_ge L (k - s)
  have kc : cnt L (kr L (k - s)) = L.length := cnt_all fun x hx => by have := ll x hx; omega
  have e1 : insAt L (kr L (k - s) - (k - s)) (kr L (k - s)) = L ++ [kr L (k - s)] := by
    unfold insAt
    rw [kp, kc, Int.toNat_natCast, List.take_length, List.drop_length, List.append_nil]
  show needL (insAt L (kr L (k - s) - (k - s)) (kr L (k - s))) = _
  rw [e1]
  have e2 : needL (L ++ [kr L (k - s)]) = kr L (k - s) := by unfold needL; simp
  rw [e2]
  omega
theorem great_grow {S : List Stp} {k : Int} (hr : ∀ s ∈ S, -2 ≤ s.2 ∧ s.2 ≤ 14) : grow (S ++ [(false, k)]) = grow S - 1 := by
  rw [← gr_top (top14c hr), ← gr_top (top14 hr), gr_append]
  show gr 14 S + (gr1 14 (false, k) + 0) = _
  unfold gr1
  simp
  omega
theorem tb_low {S : List Stp} {B : List Int} (h : Brk S B) {t : Int} (ht : ∀ x, (true, x) ∈ S → t < x) : tb t S = tb (low B) S := tb_local fun x hx => by
  have h1 := ht x hx
  have h2 := low_lt h.asc x ((h.mem x).mpr hx)
  constructor <;> intro <;> omega
theorem tb_high {S : List Stp} {t : Int} (ht : ∀ x, (true, x) ∈ S → x ≤ t) : tb t S = tb (topOf S) S := tb_top ht
theorem brk_of_nil {B : List Int} (h : Brk [] B) : B = [] := h.ext brk_nil
end Eff

namespace Eff
open Tbl XT
/-! ### calling an effect: lengths -/
theorem runR_len : ∀ {S : List Stp} {N M : List Int} {i : Nat}, runR N i S = .inl M → M.length ≤ N.length + S.length
  | [], N, M, i, e => by
    have e' : (Sum.inl N : List Int ⊕ Nat) = .inl M := e
    cases e'
    exact Nat.le_refl _
  | s :: S, N, M, i, e => by
    simp only [runR] at e
    cases h : stepR N s with
    | none => rw [h] at e; cases e
    | some N1 =>
      rw [h] at e
      have h1 := runR_len e
      have h2 := stepR_len h
      rw [List.length_cons]
      omega
theorem asc_sub : ∀ {B L : List Int}, Asc B → (∀ x ∈ B, x ∈ L) → B.length ≤ L.length
  | [], L, _, _ => Nat.zero_le _
  | b :: B, L, a, h => by
    have hb := h b List.mem_cons_self
    have hp := List.pairwise_cons.mp a
    have := asc_sub (B := B) (L := L.erase b) hp.2 fun x hx => by
      have h1 := hp.1 x hx
      exact (List.mem_erase_of_ne (by omega)).mpr (h x (List.mem_cons_of_mem _ hx))
    rw [List.length_erase_of_mem hb] at this
    have : 0 < L.length := List.length_pos_of_mem hb
    rw [List.length_cons]
    omega
theorem brk_len {S : List Stp} {B : List Int} (h : Brk S B) : B.length ≤ S.length :=
  Nat.le_trans (asc_sub h.asc fun x hx => mem_ins.mpr ((h.mem x).mp hx)) (ins_len S)
theorem zip_self (A : List Int) (g : Int → Int) : A.zip (A.map g) = A.map fun v => (v, g v) := by
  induction A with
  | nil => rfl
  | cons x A ih => rw [List.map_cons, List.zip_cons_cons, ih, List.map_cons]
theorem rng_map (A : List Int) (g : Int → V) : ((List.range A.length).map fun i => g (A.getD i 0)) = A.map g := by
  apply List.ext_getElem
  · simp
  · intro i h1 h2
    simp at h1
    simp [h1]
theorem run_grow {T : Int} : ∀ {S : List Stp} {N M : List Int} {i : Nat}, Up N → (∀ s ∈ S, goodS s = true) → Top T S → runR N i S = .inl M → (M.length : Int) = N.length + gr T S
  | [], N, M, i, _, _, _, e => by
    have e' : (Sum.inl N : List Int ⊕ Nat) = .inl M := e
    cases e'
    show (N.length : Int) = N.length + 0
    omega
  | s :: S, N, M, i, u, g, tp, e => by
    simp only [runR] at e
    cases h : stepR N s with
    | none => rw [h] at e; cases e
    | some N1 =>
      rw [h] at e
      obtain ⟨u1, c1, l1, m1⟩ := step_cnt u (g s List.mem_cons_self) h
      have h1 := run_grow u1 (fun x hx => g x (List.mem_cons_of_mem _ hx)) (fun x hx => tp x (List.mem_cons_of_mem _ hx)) e
      show (M.length : Int) = N.length + (gr1 T s + gr T S)
      have : gr1 T s = if s.1 = true then 1 else -1 := by
        unfold gr1
        obtain ⟨b, k⟩ := s
        cases b with
        | true =>
          have := tp k List.mem_cons_self
          simp only [if_true]
          rw [if_pos this]
        | false => rfl
      omega
theorem run_len {S : List Stp} {N M : List Int} {i : Nat} (u : Up N) (g : ∀ s ∈ S, goodS s = true) (e : runR N i S = .inl M) : (M.length : Int) = N.length + grow S := run_grow u g (top_top S) e
/-! ### numbers renamed in order -/
def ren (f : Int → Int) (s : Stp) : Stp := if s.1 = true then (true, f s.2) else s
def Mono (f : Int → Int) : Prop := ∀ a b, a ≤ b → f a ≤ f b
theorem srt_map {f : Int → Int} (m : Mono f) (L : List Int) : (srt L).map f = srt (L.map f) :=
  srt_of ((srt_perm L).map f) (List.pairwise_map.mpr ((srt_up L).imp fun h => m _ _ h))
theorem srt_eq {L M : List Int} (p : L.Perm M) : srt L = srt M := srt_of ((srt_perm L).trans p) (srt_up L)
theorem srt_self {L : List Int} (u : Up L) : srt L = L := (srt_of (List.Perm.refl L) u).symm
theorem srt_srt (L : List Int) : srt (srt L) = srt L := srt_self (srt_up L)
theorem step_map {f : Int → Int} (m : Mono f) (L : List Int) (s : Stp) : stepR (L.map f) (ren f s) = (stepR L s).map (List.map f) := by
  obtain ⟨b, k⟩ := s
  cases b with
  | true =>
    show some (srt (L.map f ++ [f k])) = some ((srt (L ++ [k])).map f)
    rw [srt_map m, List.map_append]
    rfl
  | false =>
    show stepR (L.map f) (false, k) = _
    simp only [stepR, List.length_map]
    by_cases c : (L.length : Int) < k
    · rw [if_pos c, if_pos c]; rfl
    · rw [if_neg c, if_neg c]
      simp
theorem run_map {f : Int → Int} (m : Mono f) : ∀ (S : List Stp) (L : List Int) (i : Nat), runR (L.map f) i (S.map (ren f)) = Sum.map (List.map f) id (runR L i S)
  | [], L, i => rfl
  | s :: S, L, i => by
    simp only [runR, List.map_cons, step_map m]
    cases h : stepR L s with
    | none => rfl
    | some M => exact run_map m S M (i + 1)
/-! ### a smaller list has smaller results -/
theorem smp1_mono (t : Int) (s : Stp) {c d : Int} (h : c ≤ d) : smp1 t c s ≤ smp1 t d s := by
  unfold smp1
  split
  · split <;> omega
  · split <;> split <;> omega
theorem smp_mono (t : Int) : ∀ (S : List Stp) {c d : Int}, c ≤ d → smp t S c ≤ smp t S d
  | [], c, d, h => h
  | s :: S, c, d, h => smp_mono t S (smp1_mono t s h)
theorem cnt_ge_get {B : List Int} (u : Up B) {i : Nat} (h : i < B.length) : (i : Int) + 1 ≤ cnt B B[i] := by
  have e : cnt B B[i] = cnt (B.take (i + 1)) B[i] + cnt (B.drop (i + 1)) B[i] := by rw [← cnt_append, List.take_append_drop]
  have e2 : cnt (B.take (i + 1)) B[i] = (B.take (i + 1)).length := cnt_all fun x hx => by
    obtain ⟨j, hj, rfl⟩ := List.mem_iff_getElem.mp hx
    rw [List.length_take] at hj
    rw [List.getElem_take]
    rcases Nat.lt_or_ge j i with c | c
    · exact List.pairwise_iff_getElem.mp u j i (by omega) h c
    · have : j = i := by omega
      subst this
      exact Int.le_refl _
  have := cnt_nn (B.drop (i + 1)) B[i]
  rw [List.length_take] at e2
  omega
theorem cnt_lt_get {A : List Int} (u : Up A) {i : Nat} (h : i < A.length) {t : Int} (ht : t < A[i]) : cnt A t ≤ i := by
  have e : cnt A t = cnt (A.take i) t + cnt (A.drop i) t := by rw [← cnt_append, List.take_append_drop]
  have e2 : cnt (A.drop i) t = 0 := cnt_zero fun x hx => by
    obtain ⟨j, hj, rfl⟩ := List.mem_iff_getElem.mp hx
    rw [List.length_drop] at hj
    rw [List.getElem_drop]
    rcases Nat.eq_zero_or_pos j with c | c
    · subst c; exact ht
    · have := List.pairwise_iff_getElem.mp u i (i + j) h (by omega) (by omega)
      omega
  have := cnt_le_len (A.take i) t
  rw [List.length_take] at this
  omega
theorem dom_get {A B : List Int} (u : Up A) (v : Up B) (h : ∀ t, cnt B t ≤ cnt A t) {i : Nat} (hi : i < A.length) (hj : i < B.length) : A[i] ≤ B[i] := by
  by_cases c : B[i] < A[i]
  · have h1 := cnt_ge_get v hj
    have h2 := cnt_lt_get u hi c
    have h3 := h B[i]
    omega
  · omega
theorem cnt_pair {A B : List Int} (hl : A.length = B.length) (h : ∀ (i : Nat) (p : i < A.length) (q : i < B.length), A[i] ≤ B[i]) (t : Int) : cnt B t ≤ cnt A t := by
  induction A generalizing B with
  | nil =>
    cases B with
    | nil => exact Int.le_refl _
    | cons b B => cases hl
  | cons x A ih =>
    cases B with
    | nil => cases hl
    | cons b B =>
      rw [cnt_cons, cnt_cons]
      have h0 := h 0 (by simp) (by simp)
      have h1 := ih (B := B) (by simpa using hl) fun i p q => by
        have := h (i + 1) (Nat.succ_lt_succ p) (Nat.succ_lt_succ q)
        rw [List.getElem_cons_succ, List.getElem_cons_succ] at this
        exact this
      have h0' : x ≤ b := h0
      by_cases c : b ≤ t
      · rw [if_pos c, if_pos (by omega)]; omega
      · rw [if_neg c]; split <;> omega
theorem run_dom {S : List Stp} {A B C D : List Int} {i j : Nat} (g : ∀ s ∈ S, goodS s = true) (h : ∀ t, cnt B t ≤ cnt A t) (e1 : runR (srt A) i S = .inl C) (e2 : runR (srt B) j S = .inl D) : ∀ (k : Nat) (p : k < C.length) (q : k < D.length), C[k] ≤ D[k] := by
  obtain ⟨u1, c1, _⟩ := run_cnt (srt_up A) g e1
  obtain ⟨u2, c2, _⟩ := run_cnt (srt_up B) g e2
  exact fun k p q => dom_get u1 u2 (fun t => by rw [c1, c2]; exact smp_mono t S (by rw [cnt_srt, cnt_srt]; exact h t)) p q
/-! ### one more element beyond all others -/
theorem srt_big {K : Int} (L : List Int) (h : ∀ x ∈ L, x ≤ K) : srt (L ++ [K]) = srt L ++ [K] := by
  refine (srt_of ((List.Perm.append_right [K] (srt_perm L))) ?_).symm
  refine List.pairwise_append.mpr ⟨srt_up L, List.pairwise_singleton _ _, fun a ha b hb => ?_⟩
  rw [List.mem_singleton.mp hb]
  exact h a ((srt_perm L).mem_iff.mp ha)
theorem run_big {K : Int} : ∀ {S : List Stp} {L M : List Int} {i : Nat}, (∀ x ∈ L, x ≤ K) → (∀ s ∈ S, goodS s = true) → (∀ s ∈ S, s.1 = true → s.2 ≤ K) → runR L i S = .inl M → runR (L ++ [K]) i S = .inl (M ++ [K])
  | [], L, M, i, _, _, _, e => by
    have e' : (Sum.inl L : List Int ⊕ Nat) = .inl M := e
    cases e'
    rfl
  | (b, k) :: S, L, M, i, h, g, hk, e => by
    simp only [runR] at e ⊢
    cases b with
    | true =>
      have hkk : k ≤ K := hk (true, k) List.mem_cons_self rfl
      have e1 : stepR (L ++ [K]) (true, k) = some (srt (L ++ [k]) ++ [K]) := by
        show some (srt (L ++ [K] ++ [k])) = _
        rw [← srt_big (L ++ [k]) fun x hx => (List.mem_append.mp hx).elim (h x) fun z => by rw [List.mem_singleton.mp z]; exact hkk]
        congr 1
        refine srt_eq ?_
        rw [List.append_assoc, List.append_assoc]
        exact List.Perm.append_left L (List.perm_append_comm (l₁ := [K]) (l₂ := [k]))
      rw [e1]
      have e2 : stepR L (true, k) = some (srt (L ++ [k])) := rfl
      rw [e2] at e
      exact run_big (fun x hx => (List.mem_append.mp ((srt_perm _).mem_iff.mp hx)).elim (h x) fun z => by rw [List.mem_singleton.mp z]; exact hkk) (fun s hs => g s (List.mem_cons_of_mem _ hs)) (fun s hs => hk s (List.mem_cons_of_mem _ hs)) e
    | false =>
      have gk : 0 < k := by simpa [goodS] using g (false, k) List.mem_cons_self
      by_cases c : (L.length : Int) < k
      · have e2 : stepR L (false, k) = none := by simp only [stepR]; rw [if_pos c]
        rw [e2] at e
        cases e
      · have e2 : stepR L (false, k) = some (L.take (k - 1).toNat ++ L.drop k.toNat) := by simp only [stepR]; rw [if_neg c]
        have e3 : stepR (L ++ [K]) (false, k) = some (L.take (k - 1).toNat ++ L.drop k.toNat ++ [K]) := by
          simp only [stepR]
          rw [if_neg (by rw [List.length_append, List.length_singleton]; omega), List.take_append_of_le_length (by omega), List.drop_append_of_le_length (by omega), List.append_assoc]
        rw [e2] at e
        rw [e3]
        exact run_big (fun x hx => (List.mem_append.mp hx).elim (fun z => h x (List.mem_of_mem_take z)) fun z => h x (List.mem_of_mem_drop z)) (fun s hs => g s (List.mem_cons_of_mem _ hs)) (fun s hs => hk s (List.mem_cons_of_mem _ hs)) e
end Eff

/-! sets of ints out of lists; sorted of them, any number -/
namespace XT
open PySem PySem.Spec PyProof.Rows L2
section
variable {P : Program} {w : World} {A : Around} {E : Value → Shared → Prop} {s : Shared}
/-- a new set's object -/
abbrev nS (w : World) : Obj := { cls := .type "set", dict := none, data := .set #[] 0 (.fresh 0 0 (!w.params.followText "set-order")) }
/-- what set.__init__ leaves -/
def InitS (w : World) (s : Shared) (ns : List Int) (s2 : Shared) : Prop := ∃ (h' : Heap) (tk c : Nat), s2 = { s with heap := h', toks := tk } ∧ SetR w h' s.heap.objs.size (fun j => decide (j ∈ ns)) c ∧ c ≤ ns.length ∧ ∀ b o, s.heap.get? b = some o → h'.get? b = some o
theorem init_list {l : Addr} {its : Array Value} {ns : List Int} (hA : A.handled = none) (hl : s.heap.IsList l its) (hi : IntsAre its.toList ns) (hb : ns.length + 1 < scanBound) :
    codeAny (model P w) A (.call (.builtin "set.__init__") ⟨[.ref s.heap.objs.size, .ref l], []⟩) (wants (fun r s2 => r = .none ∧ InitS w s ns s2) E) { s with heap := s.heap.push (nS w) } := by
  have nit : its.size = ns.length := by have q := IntsAre.length hi; rwa [Array.length_toList] at q
  have gS : (s.heap.push (nS w)).get? s.heap.objs.size = some (nS w) := Heap.get?_push_size _ rfl
  have tS : Shared.TypeIs { s with heap := s.heap.push (nS w) } (.ref s.heap.objs.size) "set" := ⟨_, gS, rfl⟩
  refine codeAny_call_builtin F.called_set.init.plain F.entry_set_init (check_set_init_1 tS ?_)
  obtain ⟨⟨c1, d1, w1, k1⟩, ho, hc, n1, hd⟩ := hl
  simp only at hc hd
  subst hc
  subst hd
  have lS : l < s.heap.objs.size := Heap.lt_size ho
  have gL : (s.heap.push (nS w)).get? l = some { cls := .type "list", dict := d1, data := .seq its n1, slots := k1 } := Heap.get?_push_of_some _ ho
  have f1 := F.sub_list_set
  have f2 := F.sub_list_frozenset
  have f3 : (Value.type "list" == Value.type "dict") = false := by decide
  have iL : (s.heap.push (nS w)).IsList l its := ⟨_, gL, rfl, n1, rfl⟩
  unfold Builtin.«set.__init__» noKeywords Builtin.Frozenset.updateFrom
  generalize hPI : pyIter = PI
  wp_walk
  subst hPI
  refine wpAny_pyIter_list iL (wpAny_bind (wpAny_runValue ?_))
  have zS : (s.heap.push (nS w)).objs.size = s.heap.objs.size + 1 := Heap.size_push ..
  have nIt : l ≠ (s.heap.push (nS w)).objs.size := Nat.ne_of_lt (by rw [zS]; exact Nat.lt_succ_of_lt lS)
  have nfp : s.heap.objs.size ∉ [(s.heap.push (nS w)).objs.size, l] := by
    simp only [List.mem_cons, List.not_mem_nil, or_false, not_or]
    exact ⟨Nat.ne_of_lt (by rw [zS]; exact Nat.lt_succ_self _), Nat.ne_of_gt lS⟩
  have val : ∀ (i : Nat) (v : Value), its[i]? = some v → ∃ k t, ns[i]? = some k ∧ v = .int k t := fun i v hv => by
    have lt : i < ns.length := by rw [← nit]; exact (Array.getElem?_eq_some_iff.mp hv).1
    obtain ⟨t, e⟩ := PyProof.Rows.IntsAre.int_at hi i v (by rw [Array.getElem?_toList]; exact hv)
    exact ⟨ns[i], t, List.getElem?_eq_getElem lt, by rw [e, List.getD_eq_getElem?_getD, List.getElem?_eq_getElem lt] <;> rfl⟩
  refine set_update_ints ((Walks.list (by simp [hA]) _ l nIt its).toS) s.heap.objs.size nfp ns nit hb val (its.size - 0) 0 _ (by omega) (Nat.zero_le _) ⟨⟨_, Heap.get?_push_size _ rfl, rfl, rfl⟩, (iL.push _)⟩
    ⟨0, Nat.le_refl 0, setR_new_at (Heap.get?_push_of_some _ gS)⟩ fun s' c mv hc' R => ?_
  obtain ⟨h', gn, dr, tk, os⟩ := s'
  cases (show gn = s.gens from mv.gens)
  cases (show dr = s.drawn from mv.drawn)
  cases (show os = s.os from mv.os)
  show wpAny _ _ _ _ _ _
  refine wpAny_pure ?_
  show wpAny _ _ (ret Value.none) _ _ _
  rw [nit] at hc'
  refine wpAny_pure ⟨rfl, h', tk, c, rfl, R, hc', fun b o e => ?_⟩
  have lb : b < s.heap.objs.size := Heap.lt_size e
  refine mv.heap b o ?_ (Heap.get?_push_of_some _ (Heap.get?_push_of_some _ e))
  simp only [List.mem_cons, List.not_mem_nil, or_false, not_or]
  exact ⟨Nat.ne_of_lt lb, Nat.ne_of_lt (by rw [zS]; exact Nat.lt_succ_of_lt lb)⟩
theorem call_setL {l : Addr} {its : Array Value} {ns : List Int} {Q : Value → Shared → Prop} (hA : A.handled = none) (hl : s.heap.IsList l its) (hi : IntsAre its.toList ns) (hb : ns.length + 1 < scanBound)
    (h : ∀ (h' : Heap) (tk c : Nat), SetR w h' s.heap.objs.size (fun j => decide (j ∈ ns)) c → c ≤ ns.length → (∀ b o, s.heap.get? b = some o → h'.get? b = some o) → Q (.ref s.heap.objs.size) { s with heap := h', toks := tk }) :
    wpAny (model P w) A (call (.type "set") [.ref l]) Q E s := by
  obtain ⟨c, tl, m1⟩ := F.called_set.mro
  have m2 := F.called_set.made
  have m3 := F.called_set.sub
  have m4 := F.called_set.notType
  have m5 := F.called_set.canCreate
  have m6 := F.typeCall_set_1 (.ref l)
  refine wpAny_call (codeAny_of_tree ?_)
  show wpAny _ _ (callAny (.type "set") _) _ _ _
  refine wpAny_pure ⟨Code.quiet_builtin _ (by decide +kernel), codeAny_builtin F.entry_type_call ?_⟩
  rw [Around.under_plain (weight_type_call_type "set" [.ref l] []) rfl]
  repeat (any_goals (first | assumption | wp_step))
  refine codeAny_mono (code_set_led1 (.ref l) (E := E) (Q₁ := fun obj s1 => obj = .ref s.heap.objs.size ∧ s1 = { s with heap := s.heap.push (nS w) }) ⟨rfl, rfl⟩) fun r s1 hr => ?_
  match r, hr with
  | .error e, hr => exact hr
  | .ok (.ret obj), hr =>
    obtain ⟨rfl, rfl⟩ := hr
    have gS : (s.heap.push (nS w)).get? s.heap.objs.size = some (nS w) := Heap.get?_push_size _ rfl
    have tS : Shared.TypeIs { s with heap := s.heap.push (nS w) } (.ref s.heap.objs.size) "set" := ⟨_, gS, rfl⟩
    have i1 := F.called_set.init.lookup
    have i2 := F.called_set.init.bind (.ref s.heap.objs.size)
    repeat (any_goals (first | assumption | wp_step))
    refine codeAny_mono (init_list (E := E) (by simpa using hA) hl hi hb) fun r2 s2 hr2 => ?_
    match r2, hr2 with
    | .error e, hr2 => exact hr2
    | .ok (.ret r), hr2 =>
      obtain ⟨rfl, h', tk, c', rfl, R, hc, hk⟩ := hr2
      repeat (any_goals (first | assumption | wp_step))
      exact h _ _ _ R hc hk
    | .ok .next, hr2 => exact False.elim hr2
    | .ok .brk, hr2 => exact False.elim hr2
    | .ok .cont, hr2 => exact False.elim hr2
  | .ok .next, hr => exact False.elim hr
  | .ok .brk, hr => exact False.elim hr
  | .ok .cont, hr => exact False.elim hr
/-- sorted of a set of ints -/
theorem sorted_setA {a : Addr} {S : Int → Bool} {n : Nat} {Q : Value → Shared → Prop} (R : SetR w s.heap a S n) (hA : A.handled = none)
    (hQ : ∀ s' p (out : List Value) (c : Nat) (ns : List Int), (∀ b o, s.heap.get? b = some o → s'.heap.get? b = some o) → s'.gens = s.gens → s'.os = s.os → s.heap.objs.size ≤ p →
      s'.heap.get? p = some (seqObj "list" out.toArray c) → IntsAre out ns → ns.Pairwise (· < ·) → (∀ k, k ∈ ns ↔ S k = true) → ns.length = n → Q (.ref p) s') :
    wpAny (model P w) A (call (.builtin "sorted") [.ref a]) Q E s := by
  obtain ⟨o, es, ep, t, ho, ex, hd, g, nd, hm, hb, hf, hn, hr, hl⟩ := R
  refine Calls.call_function_entry kind_sorted plain_sorted entry_sorted (args_sorted1 _) ?_
  unfold Builtin.«sorted»
  refine wpAny_bind (m := checkCount "sorted" 1 1 _) (wpAny_pure (wpAny_bind ?_))
  refine collect_set (A := A.in1) hA ⟨o, ho, ex.1, hd⟩ hf hb hr hl fun s1 vs k1 hz g1 o1 pm => ?_
  have nv : vs.length = n := by rw [pm.length_eq, List.length_map, Array.length_toList]; exact hn
  have iI : IntsAre vs (vs.map SrtO.iv) := SrtO.ints_iv fun v hv => by
    obtain ⟨e, he, q⟩ := List.mem_map.mp (pm.mem_iff.mp hv)
    obtain ⟨k, tk, h1, _⟩ := g e he
    exact ⟨k, tk, by rw [← q]; exact h1⟩
  have pk : (vs.map SrtO.iv).Perm (es.toList.map keyOf) := by
    have q := pm.map SrtO.iv
    rw [List.map_map] at q
    have e : es.toList.map (SrtO.iv ∘ (·.2)) = es.toList.map keyOf := List.map_congr_left fun x hx => by
      obtain ⟨k, tk, h1, _⟩ := g x hx
      show SrtO.iv x.2 = keyOf x
      unfold keyOf
      rw [h1]
      rfl
    rw [← e]
    exact q
  have sz : vs.length ≤ sizeLine := by rw [nv, ← hn, sizeLine_eq]; unfold scanBound at hb; omega
  refine wpAny_bind (wpAny_newList ?_ sz)
  have oL : (s1.heap.push (seqObj "list" vs.toArray 0)).get? s1.heap.objs.size = some (seqObj "list" vs.toArray 0) := Heap.get?_push_size _ rfl
  refine wpAny_bind (wpAny_holding (wpAny_call_entry slot_list_sort ⟨_, oL, rfl⟩ entry_list_sort
    (SrtO.list_sort_ord SrtO.swo_int oL sz (fun h2 => SrtO.ints_sortable iI h2) fun out h1 h2 => ⟨_, rfl, ?_⟩) (args_list_sort _)))
  obtain ⟨q1, q2, q3⟩ := SrtO.ints_out iI h1 h2
  obtain ⟨c, hc⟩ := sortedHeap_at (vs := vs) (out := out.toArray) oL
  have pn : (out.map SrtO.iv).Perm (es.toList.map keyOf) := q2.trans pk
  refine wpAny_pure ⟨_, rfl, hQ _ s1.heap.objs.size out c (out.map SrtO.iv) (fun b u e => ?_) g1 o1 hz hc q1 (lt_of_le_nodup _ q3 (pn.nodup_iff.mpr nd)) (fun k => by rw [pn.mem_iff, ← hm k]) ?_⟩
  · have q := k1 b u e
    have lt := Heap.lt_size q
    show (sortedHeap (s1.heap.push (seqObj "list" vs.toArray 0)) s1.heap.objs.size vs out.toArray).get? b = some u
    rw [sortedHeap_old (Nat.ne_of_lt lt) (by rw [size_push']; exact Nat.lt_succ_of_lt lt)]
    exact Heap.get?_push_of_some _ q
  · rw [pn.length_eq, List.length_map, Array.length_toList]; exact hn
end
end XT

namespace XT
open PySem PySem.Spec PyProof.Rows L2
/-! ### set(xs), sorted(set(xs)) -/
section
variable {X : Cx}
def rSetL (K : PySem.W.Frag) (w : World) : List V → Hp → VK → Prop := fun xs H Q => ∃ (l : Addr) (ns : List Int), xs = [V.ref l] ∧ SqL K H l (ns.map V.int) ∧ ns.length ≤ 4000 ∧
  ∀ (p : Addr) (n : Nat), H p = Option.none → n ≤ ns.length → Q (.ref p) (upd H p (SetO w p (fun j => decide (j ∈ ns)) n))
theorem setLK (K : PySem.W.Frag) (w : World) (hc : X.calm = true) (hK : X.K = K := by rfl) (hw : X.w = w := by rfl) : CallR X (.type "set") (rSetL K w) := by
  subst hK
  subst hw
  intro pins s σ H xs us Q I r h
  obtain ⟨l, ns, rfl, hs, hz, q⟩ := h
  rw [Vals.ref1 r]
  obtain ⟨its, rv, hl, _⟩ := I.list hs
  refine call_setL (I.ok.hd hc) hl.isList rv.ints (by unfold scanBound; omega) fun h' tk c R hcn hk => ?_
  exact ⟨.ref _, upd H s.heap.objs.size (SetO X.w s.heap.objs.size (fun j => decide (j ∈ ns)) c), I.laid (t' := tk) hk (Nat.le_refl _) (setO_new R), rfl, q _ _ (I.hok.fresh (Nat.le_refl _)) hcn⟩
def rSortS (w : World) : List V → Hp → VK → Prop := fun vs H Q => ∃ (a : Addr) (S : Int → Bool) (n : Nat), vs = [V.ref a] ∧ H a = some (SetO w a S n) ∧ n ≤ 4000 ∧
  ∀ (ns : List Int) (p : Addr), ns.Pairwise (· < ·) → (∀ k : Int, k ∈ ns ↔ S k = true) → ns.length = n → H p = Option.none → Q (.ref p) (upd H p (.lst (ns.map V.int)))
theorem sortSK (w : World) (hc : X.calm = true) (hw : X.w = w := by rfl) : CallR X (.builtin "sorted") (rSortS w) := by
  subst hw
  intro pins s σ H vs us Q I r h
  obtain ⟨a, S, n, rfl, ha, hz, q⟩ := h
  have R := setO_get I ha
  rw [Vals.ref1 r]
  refine sorted_setA R (I.ok.hd hc) fun s' p out c ns k g o hp hg hi hs hm hl => ?_
  have hlen : (ns.map V.int).length ≤ sizeLine := by rw [List.length_map, hl, sizeLine_eq]; omega
  have hn : H p = Option.none := I.hok.fresh hp
  have J : Inv X pins σ (upd H p (.lst (ns.map V.int))) { s with heap := s'.heap, gens := s'.gens, drawn := s'.drawn, toks := s'.toks } :=
    I.call (ch := []) (Un.laid k hp hn) (I.hok.laid k hp ⟨hlen, out, c, vals_of_ints hi, hg⟩) (by rw [g]; exact I.bare) (fun _ z => nomatch z)
  have e : s' = { s with heap := s'.heap, gens := s'.gens, drawn := s'.drawn, toks := s'.toks } := by
    cases s'
    cases s
    cases o
    rfl
  rw [e]
  exact ⟨.ref p, _, J, rfl, q ns p hs hm hl hn⟩
/-! ### type(x) == C -/
theorem op_eqCls {C : Addr} (ht : PySem.W.typeIn X.K (.ref C) = some (.type "type")) (hu : X.A.units < cLine) : OpR X (compareOp .Eq) (fun x y H Q => x = V.ref C ∧ y = V.ref C ∧ Q (.bl true) H) := by
  intro pins s σ H x y v u Q I rx ry h
  obtain ⟨rfl, rfl, q⟩ := h
  cases rx
  cases ry
  obtain ⟨o, ho, hc⟩ := Option.map_eq_some_iff.mp ht
  have ta : s.TypeIs (.ref C) "type" := ⟨o, I.kIn _ _ ho, hc⟩
  show wpAny _ _ (richCompare .Eq _ _) _ _ _
  refine wpAny_richCompare_same_room (op := .Eq) ta ta TypeEq.slot_type_eq (GQ.call_here TypeEq.slot_type_eq ta PySem.F.cmpEntry_eq (PySem.F.cmpArgs_eq _ _) ?_) hu
  exact objEq_entry_same (M := model X.prog X.w) ⟨(fun z => nomatch z), .bl true, H, I, rfl, q⟩
/-! ### class methods without arguments; C(..) where C is in a slot -/
variable {CX : CXT} {k : Nat} {C p g f : Addr} {mc : Value} {sp : Sp} {E : XK} {o e : Expr} {es : List Expr} {m x : Str} {pos apos : Pos} {ta : TE} {t : TA} {pl : Sem Bool}
theorem pe_cmeth0 (he : PE X o ta) (r : ClX.CRead X.K C mc) (c : ClX.CMet X.K C mc m p g) (F : FnR X.prog X.w X.K X.mg X.base CX k g sp) (hr : Room k X.A) (hx : Passes CX X E)
    (ht : eval (.Call (.Attribute o m apos) [] [] pos) X.env = (do
      let ov ← eval o X.env
      standAt apos.atName
      let (f, first) ← holding [ov] (getMethod ov m pl)
      callWith pos f first (backTo pos (starEach [] X.env)) (backToKw pos (keywordEach [] X.env))) := by rfl) :
    PE X (.Call (.Attribute o m apos) [] [] pos) (ClX.tCMeth C sp E ta tNil) := by
  refine ⟨fun pins s σ H Q I h => ?_⟩
  refine PySem.W.methodCall_KW (pl := pl) (thn (he.run pins s σ H _ I h) fun u s1 ⟨x, H1, I1, rx, ex, q⟩ => ?_) ht
  subst ex
  obtain rfl : u = Value.ref C := rx
  refine ClX.getmethcm_ok I1 r c fun s2 I2 => PySem.W.callWith_M0 (first := []) ⟨ClX.pin_at I2, I2.kIn⟩ c.fi ?_
  exact ClX.run_cm F hr hx I2 .nil q
theorem pe_imeth0 (he : PE X o ta) (c : ClX.CInst X.K C m p g) (F : FnR X.prog X.w X.K X.mg X.base CX k g sp) (hr : Room k X.A) (hx : Passes CX X E)
    (ht : eval (.Call (.Attribute o m apos) [] [] pos) X.env = (do
      let ov ← eval o X.env
      standAt apos.atName
      let (f, first) ← holding [ov] (getMethod ov m pl)
      callWith pos f first (backTo pos (starEach [] X.env)) (backToKw pos (keywordEach [] X.env))) := by rfl) :
    PE X (.Call (.Attribute o m apos) [] [] pos) (ClX.tIMethD C m sp E ta tNil) := by
  refine ⟨fun pins s σ H Q I h => ?_⟩
  refine PySem.W.methodCall_KW (pl := pl) (thn (he.run pins s σ H _ I h) fun u s1 ⟨x, H1, I1, rx, a, dx, fs, ex, ea, l, q⟩ => ?_) ht
  subst ex
  obtain rfl : u = Value.ref a := rx
  obtain ⟨mA, O, rr, _, _, _⟩ := ins_get I1.hok ea
  have hn : mA m = none := RelO.none_of (by rw [← l]; exact rr m)
  obtain ⟨od, J, hl⟩ := O.look
  refine ClX.getmethim_ok I1 J (by rw [hl m, hn]) c fun s2 I2 => PySem.W.callWith_M0 (first := []) ⟨ClX.pin_at I2, I2.kIn⟩ c.fi ?_
  exact ClX.run_cm F hr hx I2 .nil q
def tMakeL (i : Nat) (C : Addr) (sp : Sp) (E : XK) (t : TA) : TE := fun σ H Q => σ[i]? = some (some (.ref C)) ∧ StX.tMakeR C sp E t σ H Q
theorem pe_makeL {i : Nat} {p : Pos} (M : Mk X.K C f) (F : FnR X.prog X.w X.K X.mg X.base CX k f sp) (hr : Room (k + 1) X.A) (hN : X.N[i]? = some x) (hv : Vis X.env.scope x) (hx : Passes CX X E) (ha : PA X (e :: es) t)
    (hdb : (x == ("__debug__" : Str)) = false := by decide) (hcd : (x == ("__classdict__" : Str)) = false := by decide)
    (he : starEach (e :: es) X.env = (false, eval e X.env) :: starEach es X.env := by rfl) (hpl : (backTo pos (starEach es X.env)).any (·.1) = false := by rfl) : PE X (.Call (.Name x p) (e :: es) [] pos) (tMakeL i C sp E t) := by
  refine ⟨fun pins s σ H Q I h => ?_⟩
  obtain ⟨hs, ht⟩ := h
  refine wpAny_Call_Name_kw (thn ((pe_var (pos := p) hN hv hdb hcd).run pins s σ H (fun v H1 => v = .ref C ∧ H1 = H) I ⟨.ref C, hs, rfl, rfl⟩) fun u s1 ⟨v, H1, I1, r1, q1⟩ => ?_)
  obtain ⟨rfl, rfl⟩ := q1
  cases r1
  refine PySem.W.callWith_K (h₀ := X.base) I.ok.mod.kin M.kp (thn (ha.run pos pins s1 σ _ _ I1 ht) fun us s2 ⟨vs, H2, I2, r, q⟩ => ⟨I2.kIn, ?_⟩) he hpl
  exact StX.run_makeR M F hr hx I2 r q
/-! ### type(x) not in (list, tuple) -/
theorem op_notInTy : OpR X (compareOp .NotIn) (fun x y H Q => ∃ (m : String) (p : Addr) (ns : List String), x = .ty m ∧ y = .ref p ∧ SqT X.K H p (ns.map V.ty) ∧ tyN m = true ∧ (∀ n ∈ ns, tyN n = true) ∧ Q (.bl (!(ns.any fun n => decide (n = m)))) H) := by
  intro pins s σ H x y v u Q I rx ry h
  obtain ⟨m, p, ns, rfl, rfl, hq, hm, hn, q⟩ := h
  cases (show v = Value.type m from rx)
  cases (show u = Value.ref p from ry)
  obtain ⟨its, r, pl, hz⟩ := I.tuple hq
  have key : ∀ (ns : List String) (its : List Value), Vals (ns.map V.ty) its → its = ns.map Value.type := by
    intro ns
    induction ns with
    | nil => intro its r; cases r; rfl
    | cons n ns ih =>
      intro its r
      cases r with
      | cons a t =>
        rw [ih _ t, List.map_cons]
        congr 1
  have e := key ns its r
  subst e
  refine SeqAt.notIn_tupleAt (tyU m) pl (fun w hw => ?_) ⟨.bl _, H, I, rfl, ?_⟩
  · have hw' : w ∈ ns.map Value.type := by simpa using hw
    obtain ⟨n, hmem, rfl⟩ := List.mem_map.mp hw'
    exact eqAt_ty (hn n hmem) hm
  · have e2 : ((ns.map Value.type).toArray.any (tyU m)) = ns.any fun n => decide (n = m) := by
      rw [List.any_toArray, List.any_map]
      rfl
    rw [e2]
    exact q
end
section
variable {X : Cx} (K : PySem.W.Frag)
theorem notInTyK (hK : X.K = K := by rfl) : OpR X (compareOp .NotIn) (fun x y H Q => ∃ (m : String) (p : Addr) (ns : List String), x = .ty m ∧ y = .ref p ∧ SqT K H p (ns.map V.ty) ∧ tyN m = true ∧ (∀ n ∈ ns, tyN n = true) ∧ Q (.bl (!(ns.any fun n => decide (n = m)))) H) := by subst hK; exact op_notInTy
end
/-! ### a comprehension whose items are made anew -/
theorem lcR {J : It} {n : Nat} {P : Nat → V → Hp → Prop} {g : TG} {te : TE} {vs : List Nat} {σ : L2.St} {H1 : Hp} {D : Addr} {Qd : Hp → Prop} (S : StatJ J H1 n P) (hD : H1 D = Option.none) (R : Nat → V → Hp → Prop) (hR : ∀ i y H H', Same H H' → R i y H → R i y H') (hU : ∀ i y H a b, H D = some (.lst a) → R i y H → R i y (upd H D (.lst b))) (hn : n ≤ sizeLine)
    (hs : ∀ i x H (T : V → Hp → Prop), i < n → Same H1 H → P i x H → (∀ y H', Same H H' → R i y H' → T y H') → g x (wipe σ vs) H fun σ2 H2 => wipe σ2 vs = wipe σ vs ∧ te σ2 H2 T)
    (hd : ∀ H acc, Same H1 H → acc.length = n → (∀ i y, acc[i]? = some y → R i y H) → H D = some (.lst acc) → Qd H) :
    ∃ W : Nat → Nat → Hp → Prop, (∃ m, W 0 m (upd H1 D (.lst []))) ∧ ∀ i m H, W i m H →
      (J.stop i H ∧ Qd H) ∨ (J.go i H ∧ ∃ Nx : Hp → Prop, (∀ H', Nx H' → ∃ m', m' < m ∧ W (i + 1) m' H') ∧ ∀ x H', J.yld i H x H' → g x (wipe σ vs) H' fun σ2 H2 => wipe σ2 vs = wipe σ vs ∧ tYes σ2 H2 fun b H3 =>
        if b = true then te σ2 H3 fun y H4 => ∃ acc, H4 D = some (.lst acc) ∧ acc.length < sizeLine ∧ Nx (upd H4 D (.lst (acc ++ [y]))) else Nx H3) := by
  refine ⟨fun i m H => m = n - i ∧ i ≤ n ∧ Same H1 H ∧ ∃ acc, H D = some (.lst acc) ∧ acc.length = i ∧ ∀ j y, acc[j]? = some y → R j y H, ⟨n, by simp, Nat.zero_le _, same_new hD, [], upd_same, rfl, fun j y e => by simp at e⟩, ?_⟩
  rintro i m H ⟨rfl, hi, s, acc, hH, hlen, hacc⟩
  by_cases hlt : i < n
  · refine .inr ⟨S.go i H hlt s, fun H' => Same H1 H' ∧ ∃ acc, H' D = some (.lst acc) ∧ acc.length = i + 1 ∧ ∀ j y, acc[j]? = some y → R j y H', fun H' p => ⟨n - (i + 1), by omega, rfl, hlt, p.1, p.2⟩, fun x H' y => ?_⟩
    obtain ⟨s2, px⟩ := S.yld i H x H' hlt s y
    show g x (wipe σ vs) H' fun σ2 H2 => wipe σ2 vs = wipe σ vs ∧ (if true = true then te σ2 H2 fun y H4 => ∃ acc, H4 D = some (.lst acc) ∧ acc.length < sizeLine ∧ (Same H1 (upd H4 D (.lst (acc ++ [y]))) ∧ ∃ acc', (upd H4 D (.lst (acc ++ [y]))) D = some (.lst acc') ∧ acc'.length = i + 1 ∧ ∀ j y', acc'[j]? = some y' → R j y' (upd H4 D (.lst (acc ++ [y])))) else (Same H1 H2 ∧ ∃ acc', H2 D = some (.lst acc') ∧ acc'.length = i + 1 ∧ ∀ j y', acc'[j]? = some y' → R j y' H2))
    simp only [if_true]
    refine hs i x H' _ hlt (s.trans s2) px fun y H4 s4 ry => ?_
    have h4 : H4 D = some (.lst acc) := s4 _ _ (s2 _ _ hH)
    have s14 : Same H1 H4 := (s.trans s2).trans s4
    have sl : acc.length < sizeLine := by rw [hlen]; exact Nat.lt_of_lt_of_le hlt hn
    refine ⟨acc, h4, sl, same_upd s14 hD, acc ++ [y], upd_same, by rw [List.length_append, hlen]; rfl, fun j y' e => ?_⟩
    refine hU _ _ _ _ _ h4 ?_
    by_cases c : j < acc.length
    · rw [List.getElem?_append_left c] at e
      exact hR _ _ _ _ (s2.trans s4) (hacc j y' e)
    · rw [List.getElem?_append_right (by omega)] at e
      have hj : j - acc.length = 0 := by
        rcases Nat.eq_zero_or_pos (j - acc.length) with z | z
        · exact z
        · rw [List.getElem?_eq_none (by rw [List.length_singleton]; omega)] at e
          cases e
      rw [hj] at e
      have e' : y = y' := by simpa using e
      subst e'
      have : j = i := by omega
      rw [this]
      exact ry
  · have e : i = n := by omega
    subst e
    exact .inl ⟨S.stop H s, hd H acc s hlen hacc hH⟩
end XT

namespace XT
open PySem PySem.Spec PyProof.Rows L2
/-! ### calls in a try whose wishes are told at the caller's slots -/
section
variable {X : Cx} {CX : CXT} {k : Nat} {C f g : Addr} {m x : Str} {sp : Sp} {E : L2.St → XK} {o e fe : Expr} {es : List Expr} {ta tf : TE} {t : TA} {p apos pos : Pos} {pl : Sem Bool}
theorem run_fnRS {pins : List (Addr × Obj)} {σ : L2.St} {H : Hp} {s : Shared} {Q : VK} {E : XK} {us : List Value} {vs : List V} (F : FnR X.prog X.w X.K X.mg X.base CX k f sp) (hr : Room k X.A) (hx : PassesAt CX X σ E) (I : Inv X pins σ H s) (r : Vals vs us) (h : sp vs H Q E) :
    codeAny (model X.prog X.w) X.A (.call (.ref f) ⟨us, []⟩) (fun r s' => match r with | .ok (.ret v) => EP X pins σ Q v s' | .ok _ => False | .error e => X.xe e s') s := by
  refine codeAny_mono (F X.A X.stack s H us vs Q E hr I.env0 r h) fun r s' hq => ?_
  match r, hq with
  | .error e, hq => exact hx pins H s e s' I hq
  | .ok (.ret u), hq => exact I.after hq
def tMthS (C : Addr) (m : Str) (sp : Sp) (E : L2.St → XK) (ta : TE) (t : TA) : TE := fun σ H Q => ta σ H fun x H1 => ∃ a dx fs, x = .ref a ∧ H1 a = some (.ins C dx fs) ∧ fs.lookup m = none ∧ t σ H1 fun vs H2 => sp (.ref a :: vs) H2 Q (E σ)
theorem pe_mthS (he : PE X o ta) (c : Cls X.K C) (hm : Meth X.K C m f) (F : FnR X.prog X.w X.K X.mg X.base CX k f sp) (hr : Room k X.A) (hx : ∀ σ, PassesAt CX X σ (E σ)) (ha : PA X (e :: es) t)
    (hst : starEach (e :: es) X.env = (false, eval e X.env) :: starEach es X.env := by rfl) (hpl : (backTo pos (starEach es X.env)).any (·.1) = false := by rfl)
    (ht : eval (.Call (.Attribute o m apos) (e :: es) [] pos) X.env = (do
      let ov ← eval o X.env
      standAt apos.atName
      let (f, first) ← holding [ov] (getMethod ov m pl)
      callWith pos f first (backTo pos (starEach (e :: es) X.env)) (backToKw pos (keywordEach [] X.env))) := by rfl) :
    PE X (.Call (.Attribute o m apos) (e :: es) [] pos) (tMthS C m sp E ta t) := by
  refine ⟨fun pins s σ H Q I h => ?_⟩
  refine PySem.W.methodCall_KW (pl := pl) (thn (he.run pins s σ H _ I h) fun u s1 ⟨x, H1, I1, rx, a, dx, fs, ex, ea, l, q⟩ => ?_) ht
  subst ex
  obtain rfl : u = Value.ref a := rx
  refine getmeth_ok I1 ea c hm l (PySem.W.callWith_K (first := [.ref a]) (h₀ := X.base) I.ok.mod.kin hm.kp (thn (ha.run pos pins s1 σ H1 _ I1 q) fun us s2 ⟨vs, H2, I2, r, q2⟩ => ⟨I2.kIn, ?_⟩) hst hpl)
  exact wpAny_call (run_fnRS (us := .ref a :: us) (vs := .ref a :: vs) F hr (hx σ) I2 (.cons rfl r) q2)
def tCliS (C : Addr) (sp : Sp) (E : L2.St → XK) (tf : TE) (t : TA) : TE := fun σ H Q => tf σ H fun y H1 => ∃ a, y = V.ref a ∧ t σ H1 fun vs H2 => InsA H2 a C ∧ sp (V.ref a :: vs) H2 Q (E σ)
theorem pe_cliS (hf : PE X fe tf) (c : StX.CallO X.K C g) (F : FnR X.prog X.w X.K X.mg X.base CX k g sp) (hr : Room k X.A) (hx : ∀ σ, PassesAt CX X σ (E σ)) (ha : PA X (e :: es) t)
    (ht : eval (.Call fe (e :: es) [] pos) X.env = (do callWith pos (← eval fe X.env) [] (backTo pos (starEach (e :: es) X.env)) (backToKw pos (keywordEach [] X.env))) := by rfl)
    (he : starEach (e :: es) X.env = (false, eval e X.env) :: starEach es X.env := by rfl) (hpl : (backTo pos (starEach es X.env)).any (·.1) = false := by rfl) : PE X (.Call fe (e :: es) [] pos) (tCliS C sp E tf t) := by
  refine ⟨fun pins s σ H Q I h => ?_⟩
  refine Call_ (thn (hf.run pins s σ H _ I h) fun u s1 ⟨y, H1, I1, ry, a, ey, q⟩ => ?_) ht
  subst ey
  obtain rfl : u = Value.ref a := ry
  refine StX.callO_with (thn (ha.run pos pins s1 σ H1 _ I1 q) fun us s2 ⟨vs, H2, I2, r, hi, q2⟩ => ?_) he hpl
  have hi' : StX.InsC X H2 a C := let ⟨dx, fs, h⟩ := hi; .inr ⟨dx, fs, h⟩
  obtain ⟨ox, od, J, hd⟩ := StX.insC_at I2 hi'
  exact ⟨⟨C, ox, od, J, hd⟩, wpAny_call (PySem.W.kco_code I2.kIn J hd c.at_ c.fn c.fi (run_fnRS (us := .ref a :: us) (vs := .ref a :: vs) F hr (hx σ) I2 (.cons rfl r) q2))⟩
/-- f(e, ..), f a global def -/
def tClrS (sp : Sp) (E : L2.St → XK) (t : TA) : TE := fun σ H Q => t σ H fun vs H1 => sp vs H1 Q (E σ)
theorem pe_clrS (F : FnR X.prog X.w X.K X.mg X.base CX k f sp) (hr : Room k X.A) (hg : Gl X x) (hm : X.mg x = some (.ref f)) (hk : PySem.W.keepIn X.K (.ref f) = true) (hx : ∀ σ, PassesAt CX X σ (E σ)) (ha : PA X (e :: es) t) (hd : (x == ("__debug__" : Str)) = false := by decide)
    (he : starEach (e :: es) X.env = (false, eval e X.env) :: starEach es X.env := by rfl) (hst : (backTo pos (starEach es X.env)).any (·.1) = false := by rfl) :
    PE X (.Call (.Name x p) (e :: es) [] pos) (tClrS sp E t) := by
  refine ⟨fun pins s σ H Q I h => ?_⟩
  refine wpAny_Call_Name_kw (ld_glob I hg hm ?_ hd)
  refine PySem.W.callWith_K (h₀ := X.base) I.ok.mod.kin hk (thn (ha.run pos pins s σ H _ I h) fun us s1 ⟨vs, H1, I1, r, q⟩ => ⟨I1.kIn, ?_⟩) he hst
  exact wpAny_call (run_fnRS F hr (hx σ) I1 r q)
end
end XT

namespace XT
open PySem PySem.Spec PyProof.Rows L2
theorem stat_enumL {K : PySem.W.Frag} {H0 : Hp} {a : Addr} {xs : List V} (h : SqL K H0 a xs) : StatJ (Ite K a) H0 xs.length (fun i v H => ∃ T x, v = .ref T ∧ H T = some (.tup [.int (i : Nat), x]) ∧ xs[i]? = some x) where
  go := fun i H hi s => ⟨xs, xs[i], s.seq h, by simp [hi]⟩
  stop := fun H s => ⟨xs, s.seq h, Nat.le_refl _⟩
  yld := fun i H x H' hi s y => by
    obtain ⟨T, x', e, n, e', y⟩ := y
    subst e e'
    exact ⟨same_new n, T, x', rfl, upd_same, y xs (s.seq h)⟩
/-- a comprehension over a list whose element changes something -/
theorem lcEL {K : PySem.W.Frag} {a : Addr} {xs : List V} {g : TG} {te : TE} {vs : List Nat} {σ : L2.St} {H1 : Hp} {D : Addr} {Qd : Hp → Prop} (I : Nat → Hp → List V → Prop) (h0 : I 0 (upd H1 D (.lst [])) []) (hn : xs.length ≤ sizeLine)
    (hl : ∀ i H acc, I i H acc → SqL K H a xs ∧ acc.length = i)
    (hs : ∀ i x H acc (R : V → Hp → Prop), xs[i]? = some x → I i H acc → (∀ y H', H' D = some (.lst acc) → I (i + 1) (upd H' D (.lst (acc ++ [y]))) (acc ++ [y]) → R y H') → g x (wipe σ vs) H fun σ2 H2 => wipe σ2 vs = wipe σ vs ∧ te σ2 H2 R)
    (hd : ∀ H acc, I xs.length H acc → Qd H) :
    ∃ W : Nat → Nat → Hp → Prop, (∃ m, W 0 m (upd H1 D (.lst []))) ∧ ∀ i m H, W i m H →
      ((Itl K a).stop i H ∧ Qd H) ∨ ((Itl K a).go i H ∧ ∃ Nx : Hp → Prop, (∀ H', Nx H' → ∃ m', m' < m ∧ W (i + 1) m' H') ∧ ∀ x H', (Itl K a).yld i H x H' → g x (wipe σ vs) H' fun σ2 H2 => wipe σ2 vs = wipe σ vs ∧ tYes σ2 H2 fun b H3 =>
        if b = true then te σ2 H3 fun y H4 => ∃ acc, H4 D = some (.lst acc) ∧ acc.length < sizeLine ∧ Nx (upd H4 D (.lst (acc ++ [y]))) else Nx H3) := by
  refine ⟨fun i m H => m = xs.length - i ∧ i ≤ xs.length ∧ ∃ acc, I i H acc, ⟨xs.length, by simp, Nat.zero_le _, _, h0⟩, ?_⟩
  rintro i m H ⟨rfl, hi, acc, hI⟩
  have q := (hl i H acc hI).1
  by_cases hlt : i < xs.length
  · have e : xs[i]? = some xs[i] := by simp [hlt]
    refine .inr ⟨⟨xs, xs[i], q, e⟩, fun H' => ∃ acc, I (i + 1) H' acc, fun H' p => ⟨xs.length - (i + 1), by omega, rfl, hlt, p⟩, fun x H' y => ?_⟩
    obtain ⟨e1, y⟩ := y
    subst e1
    have ex := y xs q
    show g _ _ _ fun σ2 H2 => _ ∧ (if true = true then te σ2 H2 fun y H4 => ∃ acc, H4 D = some (.lst acc) ∧ acc.length < sizeLine ∧ (∃ acc', I (i + 1) (upd H4 D (.lst (acc ++ [y]))) acc') else (∃ acc, I (i + 1) H2 acc))
    simp only [if_true]
    exact hs i x _ acc _ ex hI fun y H' e k => ⟨acc, e, by rw [(hl i _ acc hI).2]; exact Nat.lt_of_lt_of_le hlt hn, _, k⟩
  · have e : i = xs.length := by omega
    subst e
    exact .inl ⟨⟨xs, q, Nat.le_refl _⟩, hd H acc hI⟩
theorem outs_none (n : Nat) : outs (fun _ => Option.none) n = [] := by
  induction n with
  | zero => rfl
  | succ n ih => rw [outs_succ, ih]; rfl
end XT

namespace XT
open PySem PySem.SeqAt
open AutoSeq1 (wpAny_loadPart')
open MeetsSeq MeetsSeq2 MeetsSeq3 SeqRoads2
section
variable {prog : Program} {w : World} {A : Around} {R : Result → Shared → Prop}
/-- == of two tuples of one length, pair by pair, whatever a pair answers -/
theorem tup_eqB (l b : Addr) (xs ys : Array Value) (n m : Nat) (d1 d2 : Option Addr) (s1 s2 : Array (Option Value)) (hsz : xs.size = ys.size) (I : Shared → Prop) (e : Nat → Bool)
    (turn : ∀ i (h1 : i < xs.size) (h2 : i < ys.size) s, I s → wpAny (model prog w) A.in1 (eqBool xs[i] ys[i]) (fun r s' => r = e i ∧ I s') (fun x s' => R (.error x) s') s)
    (fin : ∀ s, I s → R (.ok (.ret (.bool ((List.range xs.size).all e)))) s) {s : Shared} (hl : s.heap.get? l = some { cls := .type "tuple", dict := d1, data := .seq xs n, slots := s1 })
    (hb : s.heap.get? b = some { cls := .type "tuple", dict := d2, data := .seq ys m, slots := s2 }) (h : I s) :
    wpAny (model prog w) A.in1 (Builtin.«tuple.__eq__» ⟨[.ref l, .ref b], []⟩) (GQ.FinOf prog w A R) (fun x s' => R (.error x) s') s := by
  have f2 := AutoSeq1.sub_tuple_tuple
  have hZ : (xs.toList.zip ys.toList).length = xs.size := by simp [hsz]
  have hI0 := h
  obtain ⟨hp, g, d, tk, os⟩ := s
  wp_walk using wpAny_loadPart' hl, wpAny_loadPart' hb, wpAny_forIn_list _ (fun rest b s' => b.1 = none ∧ ∃ i, rest = (xs.toList.zip ys.toList).drop i ∧ i ≤ xs.size ∧ (∀ j, j < i → e j = true) ∧ I s') _
  case turn =>
    rintro ⟨y, x⟩ rest b s' ⟨hb', i, hz, hi, hj, hI⟩
    have hlt : i < (xs.toList.zip ys.toList).length := by
      refine Nat.lt_of_not_le fun h' => ?_
      rw [List.drop_of_length_le h'] at hz
      cases hz
    have h1 : i < xs.size := by omega
    have h2 : i < ys.size := by omega
    rw [List.drop_eq_getElem_cons hlt] at hz
    injection hz with hyx hrest
    have hy : y = xs[i] := by have := congrArg Prod.fst hyx; simpa using this
    have hx : x = ys[i] := by have := congrArg Prod.snd hyx; simpa using this
    subst hy hx
    refine wpAny_bind (wpAny_mono (turn i h1 h2 s' hI) (fun r s2 q => ?_) fun _ _ z => z)
    obtain ⟨hr, q2⟩ := q
    subst hr
    cases he : e i with
    | true =>
      wp_walk
      refine ⟨rfl, i + 1, hrest, h1, fun j hj' => ?_, q2⟩
      by_cases c : j = i
      · rw [c]; exact he
      · exact hj j (by omega)
    | false =>
      have hf : ((List.range xs.size).all e) = false := by
        rw [List.all_eq_false]
        exact ⟨i, List.mem_range.mpr h1, by rw [he]; decide⟩
      have hR := fin s2 q2
      rw [hf] at hR
      wp_walk
      exact hR
  case fin =>
    rintro ⟨b1, b2⟩ s' ⟨hb', i, hz, hi, hj, hI⟩
    simp only at hb'
    subst hb'
    have hge : xs.size ≤ i := by
      refine Nat.le_of_not_lt fun h' => ?_
      rw [List.drop_eq_getElem_cons (by omega)] at hz
      cases hz
    have ha : ((List.range xs.size).all e) = true := by
      rw [List.all_eq_true]
      intro j hj'
      exact hj j (by have := List.mem_range.mp hj'; omega)
    have hR := fin s' hI
    rw [ha] at hR
    wp_walk
    simpa [Builtin.Tuple.tupleCompareSizes, hsz] using hR
  case h =>
    exact ⟨rfl, 0, rfl, Nat.zero_le _, (fun j hj => by omega), hI0⟩
end
section
variable {prog : Program} {w : World} {A : Around} {E : Value → Shared → Prop} {s : Shared}
theorem rc_tupB {l b : Addr} {xs ys : Array Value} {Q : Value → Shared → Prop} (hsz : xs.size = ys.size) (hu : A.units < cLine) (I : Shared → Prop) (e : Nat → Bool) (hl : s.heap.IsTuple l xs) (hb : s.heap.IsTuple b ys)
    (turn : ∀ i (h1 : i < xs.size) (h2 : i < ys.size) s, I s → wpAny (model prog w) A.in1 (eqBool xs[i] ys[i]) (fun r s' => r = e i ∧ I s') E s)
    (fin : ∀ s, I s → Q (.bool ((List.range xs.size).all e)) s) (h : I s) : wpAny (model prog w) A (richCompare .Eq (.ref l) (.ref b)) Q E s := by
  obtain ⟨⟨c1, d1, w1, k1⟩, ho, hc, n, hd⟩ := id hl
  obtain ⟨⟨c2, d2, w2, k2⟩, ho2, hc2, m, hd2⟩ := id hb
  simp only at hc hd hc2 hd2
  subst hc hd hc2 hd2
  refine wpAny_richCompare_same_room (op := .Eq) ⟨_, ho, rfl⟩ ⟨_, ho2, rfl⟩ F.slot_tuple_eq (GQ.call_here F.slot_tuple_eq ⟨_, ho, rfl⟩ F.entry_tuple_eq (F.args_tuple_eq_2 _ _) ?_) hu
  exact tup_eqB (R := wants (fun v s' => v ≠ .notImplemented ∧ Q v s') E) l b xs ys n m d1 d2 k1 k2 hsz I e turn (fun s' q => ⟨(fun x => nomatch x), fin s' q⟩) ho ho2 h
end
end XT
namespace XT
open PySem PySem.Spec PyProof.Rows L2
/-- how == answers, by the abstract heap -/
abbrev EqvB := V → V → Hp → Bool → Prop
def MonB (D : EqvB) : Prop := ∀ x y H H' b, L2.Ext H H' → D x y H b → D x y H' b
def EqB (X : Cx) (n : Nat) (D : EqvB) : Prop :=
  ∀ (A : Around) (pins : List (Addr × Obj)) (s : Shared) (σ : L2.St) (H : Hp) (x y : V) (u v : Value) (b : Bool), L2.Sub X n A → Inv X pins σ H s → RelV x u → RelV y v → D x y H b →
    wpAny (model X.prog X.w) A (eqBool u v) (fun r s' => r = b ∧ ∃ H', Inv X pins σ H' s' ∧ L2.Ext H H') X.xe s
def RcB (X : Cx) (n : Nat) (D : EqvB) : Prop :=
  ∀ (A : Around) (pins : List (Addr × Obj)) (s : Shared) (σ : L2.St) (H : Hp) (x y : V) (u v : Value) (b : Bool), L2.Sub X n A → Inv X pins σ H s → RelV x u → RelV y v → D x y H b →
    wpAny (model X.prog X.w) A (richCompare .Eq u v) (fun r s' => r = .bool b ∧ ∃ H', Inv X pins σ H' s' ∧ L2.Ext H H') X.xe s
section
variable {X : Cx} {n : Nat} {D : EqvB}
def DTupB (K : PySem.W.Frag) (D : EqvB) : EqvB := fun x y H b => ∃ a c xs ys, ∃ e : Nat → Bool, x = .ref a ∧ y = .ref c ∧ SqT K H a xs ∧ SqT K H c ys ∧ xs.length = ys.length ∧ (∀ (i : Nat) x y, xs[i]? = some x → ys[i]? = some y → D x y H (e i)) ∧ b = (List.range xs.length).all e
theorem rcB_tup (hD : MonB D) (h : EqB X n D) : RcB X (n + 1) (DTupB X.K D) := by
  intro A pins s σ H x y u v b sb I rx ry d
  obtain ⟨a, c, xs, ys, e, rfl, rfl, ha, hb, hlen, hp, rfl⟩ := d
  cases rx
  cases ry
  obtain ⟨its, r, e1, z⟩ := I.tuple ha
  obtain ⟨its2, r2, e2, z2⟩ := I.tuple hb
  have hsz : its.toArray.size = its2.toArray.size := by rw [List.size_toArray, List.size_toArray, ← r.length, ← r2.length]; exact hlen
  refine rc_tupB hsz sb.room.units0 (fun s' => LoopI X pins σ H s') e e1 e2 (fun i h1 h2 s' q => ?_) (fun s' q => ⟨by rw [List.size_toArray, ← r.length], q⟩) ⟨H, I, L2.Ext.rfl'⟩
  obtain ⟨H1, I1, x1⟩ := q
  have h1' : i < its.length := by simpa using h1
  have h2' : i < its2.length := by simpa using h2
  have k1 : i < xs.length := by rw [r.length]; exact h1'
  have k2 : i < ys.length := by rw [← hlen]; exact k1
  obtain ⟨u, hu, ru⟩ := r.get (List.getElem?_eq_getElem k1)
  obtain ⟨v, hv, rv⟩ := r2.get (List.getElem?_eq_getElem k2)
  have g1 : u = its.toArray[i] := by
    rw [List.getElem?_eq_getElem h1'] at hu
    simpa using (Option.some.inj hu).symm
  have g2 : v = its2.toArray[i] := by
    rw [List.getElem?_eq_getElem h2'] at hv
    simpa using (Option.some.inj hv).symm
  subst g1 g2
  refine wpAny_mono (h A.in1 pins s' σ H1 _ _ _ _ (e i) sb.in1 I1 ru rv (hD _ _ _ _ _ x1 (hp i _ _ (List.getElem?_eq_getElem k1) (List.getElem?_eq_getElem k2)))) (fun r s2 q => ?_) fun _ _ z => z
  obtain ⟨hr, H2, I2, x2⟩ := q
  exact ⟨hr, H2, I2, x1.trans x2⟩
theorem RcB.eqB (h : RcB X n D) (hr : ∀ x y H b, D x y H b → ∃ a c, x = .ref a ∧ y = .ref c) (hid : ∀ pins s σ H a b, Inv X pins σ H s → D (.ref a) (.ref a) H b → b = true) : EqB X n D := by
  intro A pins s σ H x y u v b sb I rx ry d
  obtain ⟨a, c, rfl, rfl⟩ := hr _ _ _ _ d
  cases rx
  cases ry
  by_cases hab : a = c
  · subst hab
    rw [hid _ _ _ _ _ _ I d]
    exact SeqAt.EqAt.same (A := A) (s := s) (.ref a) X.prog X.w X.xe _ ⟨rfl, H, I, L2.Ext.rfl'⟩
  · refine GQ.eqBool_refG hab (wpAny_mono (h A pins s σ H (.ref a) (.ref c) _ _ b sb I rfl rfl d) (fun r s' q => ?_) fun _ _ z => z)
    obtain ⟨hr', q⟩ := q
    exact ⟨b, hr', rfl, q⟩
theorem seqT_inj {pins : List (Addr × Obj)} {s : Shared} {σ : L2.St} {H : Hp} {a : Addr} {L M : List Int} (I : Inv X pins σ H s) (h : SqT X.K H a (L.map V.int)) (k : SqT X.K H a (M.map V.int)) : L = M := by
  obtain ⟨its, r, e, _⟩ := I.tuple h
  obtain ⟨its2, r2, e2, _⟩ := I.tuple k
  obtain ⟨o, ho, _, n, hd⟩ := e
  obtain ⟨o2, ho2, _, n2, hd2⟩ := e2
  have eo : o = o2 := Option.some.inj (ho.symm.trans ho2)
  subst eo
  rw [hd] at hd2
  have ei : its = its2 := by
    injection hd2 with q _
    simpa using q
  subst ei
  rw [← SrtO.iv_ints r.ints, ← SrtO.iv_ints r2.ints]
/-- by an own __eq__ -/
theorem rcB_own {CX : CXT} {C f : Addr} {sp : Sp} {E : XK} (F : FnR X.prog X.w X.K X.mg X.base CX n f sp) (hs : PySem.W.findIn X.K (.ref C) "__eq__" = some (some (.ref f))) (hf : PySem.W.isFn X.K (.ref f) = true) (hx : Passes CX X E)
    (hD : ∀ x y H b, D x y H b → ∃ a c, x = .ref a ∧ y = .ref c ∧ InsA H a C ∧ InsA H c C ∧ sp [x, y] H (fun z H' => z = .bl b ∧ L2.Ext H H') E) : RcB X n D := by
  intro A pins s σ H x y u v b sb I rx ry d
  obtain ⟨a, c, rfl, rfl, ha, hc, hsp⟩ := hD _ _ _ _ d
  cases rx
  cases ry
  obtain ⟨ox, od, J⟩ := insA_at I ha
  obtain ⟨oy, oe, J'⟩ := insA_at I hc
  obtain ⟨m, hF⟩ := I.fr
  refine PySem.W.cmp_K (op := .Eq) (tb := .ref C) sb.room.units0 hF I.ok.mod.kin J J'.type (by simp [PySem.W.notFirst]) hs hf ?_
  have e0 : Env0 X.prog X.w X.K X.mg X.base A X.stack s H := by
    have e := I.env0
    exact ⟨by rw [sb.fr]; exact e.frames, e.mod, e.bs, e.bsz, e.funs, e.frf, e.hok, e.bare⟩
  refine wpAny_mono (wpAny_call (SlX.run_at (us := [.ref a, .ref c]) (ws := [.ref a, .ref c]) F sb.room e0 hx I (.cons rfl (.cons rfl .nil)) hsp)) (fun w s' z => ?_) fun _ _ x => x
  obtain ⟨z', H', I', rz, ez, ex⟩ := z
  subst ez
  cases (show w = Value.bool b from rz)
  exact ⟨rfl, H', I', ex⟩
/-- x == y as an expression -/
def rEqB (D : EqvB) : R2 := fun x y H Q => ∃ b, D x y H b ∧ ∀ H', L2.Ext H H' → Q (.bl b) H'
theorem op_eqB (h : RcB X n D) (hr : Room n X.A) : OpR X (compareOp .Eq) (rEqB D) := by
  intro pins s σ H x y v u Q I rx ry hq
  obtain ⟨b, d, q⟩ := hq
  show wpAny (model X.prog X.w) X.A (richCompare .Eq v u) (EP X pins σ Q) X.xe s
  refine wpAny_mono (h X.A pins s σ H x y v u b ⟨hr, rfl⟩ I rx ry d) (fun r s' z => ?_) fun _ _ x => x
  obtain ⟨hr', H', I', e⟩ := z
  subst hr'
  exact ⟨.bl b, H', I', rfl, q H' e⟩
end
end XT

namespace XT
open PySem PySem.SeqAt
open AutoSeq1 (wpAny_loadPart')
open MeetsSeq MeetsSeq2 MeetsSeq3 SeqRoads2
section
variable {prog : Program} {w : World} {A : Around} {R : Result → Shared → Prop}
/-- at each turn the two lists are read anew -/
def LstB (prog : Program) (w : World) (A : Around) (E : Value → Shared → Prop) (l b : Addr) (N : Nat) (I : Shared → Prop) (e : Nat → Bool) : Prop :=
  ∀ s, I s → ∃ (xs ys : Array Value) (n m : Nat), s.heap.get? l = some { cls := .type "list", data := .seq xs n } ∧ s.heap.get? b = some { cls := .type "list", data := .seq ys m } ∧ xs.size = N ∧ ys.size = N ∧
    ∀ i (h1 : i < xs.size) (h2 : i < ys.size), wpAny (model prog w) A.in1 (eqBool xs[i] ys[i]) (fun r s' => r = e i ∧ I s') E s
theorem loopEqB (l b : Addr) (N : Nat) (I : Shared → Prop) (e : Nat → Bool) (hl : LstB prog w A (fun x s' => R (.error x) s') l b N I e) (fin : ∀ s, I s → R (.ok (.ret (.bool (((List.range N).all e))))) s) (k : Nat) :
    ∀ i : Nat, N - i = k → i ≤ N → (∀ j, j < i → e j = true) → ∀ s, I s →
      wpAny (model prog w) A.in1 (Builtin.«list.__eq__.loop» ⟨[.ref l, .ref b, rawInt i, rawInt 2], []⟩) (GQ.FinOf prog w A R) (fun x s' => R (.error x) s') s := by
  induction k with
  | zero =>
    intro i hk hi hj s h
    obtain ⟨xs, ys, n, m, g1, g2, z1, z2, _⟩ := hl _ h
    have ha : ((List.range N).all e) = true := by
      rw [List.all_eq_true]
      intro j hj'
      exact hj j (by have := List.mem_range.mp hj'; omega)
    have hR := fin s h
    rw [ha] at hR
    obtain ⟨hp, g, d, tk, os⟩ := s
    wp_walk using wpAny_loadPart' g1, wpAny_loadPart' g2
    have q1 : xs[((i : Nat) : Int).toNat]? = none := by simp; omega
    have q2 : ys[((i : Nat) : Int).toNat]? = none := by simp; omega
    rw [q1, q2]
    wp_walk using wpAny_loadPart' g1, wpAny_loadPart' g2
    show R (.ok (.ret (.bool (xs.size == ys.size)))) _
    rw [z1, z2]
    simpa using hR
  | succ k ih =>
    intro i hk hi hj s h
    obtain ⟨xs, ys, n, m, g1, g2, z1, z2, turn⟩ := hl _ h
    have l1 : i < xs.size := by omega
    have l2 : i < ys.size := by omega
    have ht := turn i l1 l2
    obtain ⟨hp, g, d, tk, os⟩ := s
    wp_walk using wpAny_loadPart' g1, wpAny_loadPart' g2
    have q1 : xs[((i : Nat) : Int).toNat]? = some xs[i] := by simp [l1]
    have q2 : ys[((i : Nat) : Int).toNat]? = some ys[i] := by simp [l2]
    have qc : ((i : Int) + 1) = ((i + 1 : Nat) : Int) := by omega
    rw [q1, q2]
    refine wpAny_bind (wpAny_mono ht (fun r s2 h2 => ?_) fun _ _ z => z)
    obtain ⟨hr, h2⟩ := h2
    subst hr
    cases he : e i with
    | true =>
      have hrec := ih (i + 1) (by omega) (by omega) (fun j hj' => by
        by_cases c : j = i
        · rw [c]; exact he
        · exact hj j (by omega)) s2 h2
      obtain ⟨hp2, g2', d2, tk2, os2⟩ := s2
      wp_walk
      rw [qc]
      exact ⟨plainId_quiet plain_eq_loop _, codeAny_builtin entry_eq_loop (by rw [Around.under_plainId plain_eq_loop _]; exact hrec)⟩
    | false =>
      have hf : ((List.range N).all e) = false := by
        rw [List.all_eq_false]
        exact ⟨i, List.mem_range.mpr (by omega), by rw [he]; decide⟩
      obtain ⟨xs', ys', n', m', g1', g2', z1', z2', _⟩ := hl _ h2
      have hR := fin s2 h2
      rw [hf] at hR
      have l1' : i < xs'.size := by omega
      have l2' : i < ys'.size := by omega
      obtain ⟨hp2, gg2, d2, tk2, os2⟩ := s2
      wp_walk using wpAny_loadPart' g1', wpAny_loadPart' g2'
      have q1' : xs'[((i : Nat) : Int).toNat]? = some xs'[i] := by simp [l1']
      have q2' : ys'[((i : Nat) : Int).toNat]? = some ys'[i] := by simp [l2']
      rw [q1', q2']
      wp_walk
      simpa using hR
theorem lstEqB (l b : Addr) (N : Nat) (I : Shared → Prop) (e : Nat → Bool) (hl : LstB prog w A (fun x s' => R (.error x) s') l b N I e) (fin : ∀ s, I s → R (.ok (.ret (.bool (((List.range N).all e))))) s) {s : Shared} (h : I s) :
    wpAny (model prog w) A.in1 (Builtin.«list.__eq__» ⟨[.ref l, .ref b], []⟩) (GQ.FinOf prog w A R) (fun x s' => R (.error x) s') s := by
  obtain ⟨xs, ys, n, m, g1, g2, z1, z2, _⟩ := hl _ h
  have hrec := loopEqB (A := A) (R := R) l b N I e hl fin _ 0 rfl (Nat.zero_le _) (fun j hj => by omega) s h
  obtain ⟨hp, g, d, tk, os⟩ := s
  have f3 := AutoSeq1.sub_list_list
  have hne : ¬ (xs.size != ys.size) = true := by simp [z1, z2]
  wp_walk using wpAny_loadPart' g1, wpAny_loadPart' g2
  exact ⟨plainId_quiet plain_eq_loop _, codeAny_builtin entry_eq_loop (by rw [Around.under_plainId plain_eq_loop _]; exact hrec)⟩
theorem loopNeB (l b : Addr) (N : Nat) (I : Shared → Prop) (e : Nat → Bool) (hl : LstB prog w A (fun x s' => R (.error x) s') l b N I e) (fin : ∀ s, I s → R (.ok (.ret (.bool (!((List.range N).all e))))) s) (k : Nat) :
    ∀ i : Nat, N - i = k → i ≤ N → (∀ j, j < i → e j = true) → ∀ s, I s →
      wpAny (model prog w) A.in1 (Builtin.«list.__eq__.loop» ⟨[.ref l, .ref b, rawInt i, rawInt 3], []⟩) (GQ.FinOf prog w A R) (fun x s' => R (.error x) s') s := by
  induction k with
  | zero =>
    intro i hk hi hj s h
    obtain ⟨xs, ys, n, m, g1, g2, z1, z2, _⟩ := hl _ h
    have ha : ((List.range N).all e) = true := by
      rw [List.all_eq_true]
      intro j hj'
      exact hj j (by have := List.mem_range.mp hj'; omega)
    have hR := fin s h
    rw [ha] at hR
    obtain ⟨hp, g, d, tk, os⟩ := s
    wp_walk using wpAny_loadPart' g1, wpAny_loadPart' g2
    have q1 : xs[((i : Nat) : Int).toNat]? = none := by simp; omega
    have q2 : ys[((i : Nat) : Int).toNat]? = none := by simp; omega
    rw [q1, q2]
    wp_walk using wpAny_loadPart' g1, wpAny_loadPart' g2
    show R (.ok (.ret (.bool (xs.size != ys.size)))) _
    rw [z1, z2]
    simpa using hR
  | succ k ih =>
    intro i hk hi hj s h
    obtain ⟨xs, ys, n, m, g1, g2, z1, z2, turn⟩ := hl _ h
    have l1 : i < xs.size := by omega
    have l2 : i < ys.size := by omega
    have ht := turn i l1 l2
    obtain ⟨hp, g, d, tk, os⟩ := s
    wp_walk using wpAny_loadPart' g1, wpAny_loadPart' g2
    have q1 : xs[((i : Nat) : Int).toNat]? = some xs[i] := by simp [l1]
    have q2 : ys[((i : Nat) : Int).toNat]? = some ys[i] := by simp [l2]
    have qc : ((i : Int) + 1) = ((i + 1 : Nat) : Int) := by omega
    rw [q1, q2]
    refine wpAny_bind (wpAny_mono ht (fun r s2 h2 => ?_) fun _ _ z => z)
    obtain ⟨hr, h2⟩ := h2
    subst hr
    cases he : e i with
    | true =>
      have hrec := ih (i + 1) (by omega) (by omega) (fun j hj' => by
        by_cases c : j = i
        · rw [c]; exact he
        · exact hj j (by omega)) s2 h2
      obtain ⟨hp2, g2', d2, tk2, os2⟩ := s2
      wp_walk
      rw [qc]
      exact ⟨plainId_quiet plain_eq_loop _, codeAny_builtin entry_eq_loop (by rw [Around.under_plainId plain_eq_loop _]; exact hrec)⟩
    | false =>
      have hf : ((List.range N).all e) = false := by
        rw [List.all_eq_false]
        exact ⟨i, List.mem_range.mpr (by omega), by rw [he]; decide⟩
      obtain ⟨xs', ys', n', m', g1', g2', z1', z2', _⟩ := hl _ h2
      have hR := fin s2 h2
      rw [hf] at hR
      have l1' : i < xs'.size := by omega
      have l2' : i < ys'.size := by omega
      obtain ⟨hp2, gg2, d2, tk2, os2⟩ := s2
      wp_walk using wpAny_loadPart' g1', wpAny_loadPart' g2'
      have q1' : xs'[((i : Nat) : Int).toNat]? = some xs'[i] := by simp [l1']
      have q2' : ys'[((i : Nat) : Int).toNat]? = some ys'[i] := by simp [l2']
      rw [q1', q2']
      wp_walk
      simpa using hR
theorem lstNeB (l b : Addr) (N : Nat) (I : Shared → Prop) (e : Nat → Bool) (hl : LstB prog w A (fun x s' => R (.error x) s') l b N I e) (fin : ∀ s, I s → R (.ok (.ret (.bool (!((List.range N).all e))))) s) {s : Shared} (h : I s) :
    wpAny (model prog w) A.in1 (Builtin.«list.__ne__» ⟨[.ref l, .ref b], []⟩) (GQ.FinOf prog w A R) (fun x s' => R (.error x) s') s := by
  obtain ⟨xs, ys, n, m, g1, g2, z1, z2, _⟩ := hl _ h
  have hrec := loopNeB (A := A) (R := R) l b N I e hl fin _ 0 rfl (Nat.zero_le _) (fun j hj => by omega) s h
  obtain ⟨hp, g, d, tk, os⟩ := s
  have f3 := AutoSeq1.sub_list_list
  have hne : ¬ (xs.size != ys.size) = true := by simp [z1, z2]
  wp_walk using wpAny_loadPart' g1, wpAny_loadPart' g2
  exact ⟨plainId_quiet plain_eq_loop _, codeAny_builtin entry_eq_loop (by rw [Around.under_plainId plain_eq_loop _]; exact hrec)⟩
theorem tup_neB (l b : Addr) (xs ys : Array Value) (n m : Nat) (d1 d2 : Option Addr) (s1 s2 : Array (Option Value)) (hsz : xs.size = ys.size) (I : Shared → Prop) (e : Nat → Bool)
    (turn : ∀ i (h1 : i < xs.size) (h2 : i < ys.size) s, I s → wpAny (model prog w) A.in1 (eqBool xs[i] ys[i]) (fun r s' => r = e i ∧ I s') (fun x s' => R (.error x) s') s)
    (fin : ∀ s, I s → R (.ok (.ret (.bool (!((List.range xs.size).all e))))) s) {s : Shared} (hl : s.heap.get? l = some { cls := .type "tuple", dict := d1, data := .seq xs n, slots := s1 })
    (hb : s.heap.get? b = some { cls := .type "tuple", dict := d2, data := .seq ys m, slots := s2 }) (h : I s) :
    wpAny (model prog w) A.in1 (Builtin.«tuple.__ne__» ⟨[.ref l, .ref b], []⟩) (GQ.FinOf prog w A R) (fun x s' => R (.error x) s') s := by
  have f2 := AutoSeq1.sub_tuple_tuple
  have hZ : (xs.toList.zip ys.toList).length = xs.size := by simp [hsz]
  have hI0 := h
  obtain ⟨hp, g, d, tk, os⟩ := s
  wp_walk using wpAny_loadPart' hl, wpAny_loadPart' hb, wpAny_forIn_list _ (fun rest b s' => b.1 = none ∧ ∃ i, rest = (xs.toList.zip ys.toList).drop i ∧ i ≤ xs.size ∧ (∀ j, j < i → e j = true) ∧ I s') _
  case turn =>
    rintro ⟨y, x⟩ rest b s' ⟨hb', i, hz, hi, hj, hI⟩
    have hlt : i < (xs.toList.zip ys.toList).length := by
      refine Nat.lt_of_not_le fun h' => ?_
      rw [List.drop_of_length_le h'] at hz
      cases hz
    have h1 : i < xs.size := by omega
    have h2 : i < ys.size := by omega
    rw [List.drop_eq_getElem_cons hlt] at hz
    injection hz with hyx hrest
    have hy : y = xs[i] := by have := congrArg Prod.fst hyx; simpa using this
    have hx : x = ys[i] := by have := congrArg Prod.snd hyx; simpa using this
    subst hy hx
    refine wpAny_bind (wpAny_mono (turn i h1 h2 s' hI) (fun r s2 q => ?_) fun _ _ z => z)
    obtain ⟨hr, q2⟩ := q
    subst hr
    cases he : e i with
    | true =>
      wp_walk
      refine ⟨rfl, i + 1, hrest, h1, fun j hj' => ?_, q2⟩
      by_cases c : j = i
      · rw [c]; exact he
      · exact hj j (by omega)
    | false =>
      have hf : ((List.range xs.size).all e) = false := by
        rw [List.all_eq_false]
        exact ⟨i, List.mem_range.mpr h1, by rw [he]; decide⟩
      have hR := fin s2 q2
      rw [hf] at hR
      wp_walk
      exact hR
  case fin =>
    rintro ⟨b1, b2⟩ s' ⟨hb', i, hz, hi, hj, hI⟩
    simp only at hb'
    subst hb'
    have hge : xs.size ≤ i := by
      refine Nat.le_of_not_lt fun h' => ?_
      rw [List.drop_eq_getElem_cons (by omega)] at hz
      cases hz
    have ha : ((List.range xs.size).all e) = true := by
      rw [List.all_eq_true]
      intro j hj'
      exact hj j (by have := List.mem_range.mp hj'; omega)
    have hR := fin s' hI
    rw [ha] at hR
    wp_walk
    simpa [Builtin.Tuple.tupleCompareSizes, hsz, bne] using hR
  case h =>
    exact ⟨rfl, 0, rfl, Nat.zero_le _, (fun j hj => by omega), hI0⟩
end
section
variable {prog : Program} {w : World} {A : Around} {E : Value → Shared → Prop} {s : Shared}
theorem rc_lstEqB {l b : Addr} {N : Nat} {Q : Value → Shared → Prop} (hu : A.units < cLine) (I : Shared → Prop) (e : Nat → Bool) (hl : LstB prog w A E l b N I e) (fin : ∀ s, I s → Q (.bool (((List.range N).all e))) s) (h : I s) : wpAny (model prog w) A (richCompare .Eq (.ref l) (.ref b)) Q E s := by
  obtain ⟨xs, ys, n, m, g1, g2, _, _, _⟩ := hl _ h
  refine wpAny_richCompare_same_room (op := .Eq) ⟨_, g1, rfl⟩ ⟨_, g2, rfl⟩ F.slot_list_eq (GQ.call_here F.slot_list_eq ⟨_, g1, rfl⟩ F.entry_list_eq (F.args_list_eq_2 _ _) ?_) hu
  exact lstEqB (R := wants (fun v s' => v ≠ .notImplemented ∧ Q v s') E) l b N I e hl (fun s' q => ⟨(fun x => nomatch x), fin s' q⟩) h
theorem rc_lstNeB {l b : Addr} {N : Nat} {Q : Value → Shared → Prop} (hu : A.units < cLine) (I : Shared → Prop) (e : Nat → Bool) (hl : LstB prog w A E l b N I e) (fin : ∀ s, I s → Q (.bool (!((List.range N).all e))) s) (h : I s) : wpAny (model prog w) A (richCompare .NotEq (.ref l) (.ref b)) Q E s := by
  obtain ⟨xs, ys, n, m, g1, g2, _, _, _⟩ := hl _ h
  refine wpAny_richCompare_same_room (op := .NotEq) ⟨_, g1, rfl⟩ ⟨_, g2, rfl⟩ F.slot_list_ne (GQ.call_here F.slot_list_ne ⟨_, g1, rfl⟩ F.entry_list_ne (F.args_list_ne_2 _ _) ?_) hu
  exact lstNeB (R := wants (fun v s' => v ≠ .notImplemented ∧ Q v s') E) l b N I e hl (fun s' q => ⟨(fun x => nomatch x), fin s' q⟩) h
theorem rc_tupNeB {l b : Addr} {xs ys : Array Value} {Q : Value → Shared → Prop} (hsz : xs.size = ys.size) (hu : A.units < cLine) (I : Shared → Prop) (e : Nat → Bool) (hl : s.heap.IsTuple l xs) (hb : s.heap.IsTuple b ys)
    (turn : ∀ i (h1 : i < xs.size) (h2 : i < ys.size) s, I s → wpAny (model prog w) A.in1 (eqBool xs[i] ys[i]) (fun r s' => r = e i ∧ I s') E s)
    (fin : ∀ s, I s → Q (.bool (!((List.range xs.size).all e))) s) (h : I s) : wpAny (model prog w) A (richCompare .NotEq (.ref l) (.ref b)) Q E s := by
  obtain ⟨⟨c1, d1, w1, k1⟩, ho, hc, n, hd⟩ := id hl
  obtain ⟨⟨c2, d2, w2, k2⟩, ho2, hc2, m, hd2⟩ := id hb
  simp only at hc hd hc2 hd2
  subst hc hd hc2 hd2
  refine wpAny_richCompare_same_room (op := .NotEq) ⟨_, ho, rfl⟩ ⟨_, ho2, rfl⟩ F.slot_tuple_ne (GQ.call_here F.slot_tuple_ne ⟨_, ho, rfl⟩ F.entry_tuple_ne (F.args_tuple_ne_2 _ _) ?_) hu
  exact tup_neB (R := wants (fun v s' => v ≠ .notImplemented ∧ Q v s') E) l b xs ys n m d1 d2 k1 k2 hsz I e turn (fun s' q => ⟨(fun x => nomatch x), fin s' q⟩) ho ho2 h
end
end XT
namespace XT
open PySem PySem.Spec PyProof.Rows L2
/-! ### the layer -/
section
variable {X : Cx} {n m : Nat} {D D' : EqvB}
theorem EqB.mono (h : EqB X n D) (hn : n ≤ m) : EqB X m D := fun A pins s σ H x y u v b sb => h A pins s σ H x y u v b (sb.mono hn)
theorem EqB.or (h : EqB X n D) (h' : EqB X n D') : EqB X n (fun x y H b => D x y H b ∨ D' x y H b) := fun A pins s σ H x y u v b sb I rx ry d => by
  rcases d with d | d
  · exact h A pins s σ H x y u v b sb I rx ry d
  · exact h' A pins s σ H x y u v b sb I rx ry d
theorem MonB.or (h : MonB D) (h' : MonB D') : MonB (fun x y H b => D x y H b ∨ D' x y H b) := fun x y H H' b e d => d.elim (fun d => .inl (h x y H H' b e d)) fun d => .inr (h' x y H H' b e d)
def DFlatB : EqvB := fun x y _ b => flatV x = true ∧ flatV y = true ∧ b = eqV x y
theorem monB_flat : MonB DFlatB := fun _ _ _ _ _ _ d => d
theorem eqB_flat : EqB X 0 DFlatB := by
  intro A pins s σ H x y u v b sb I rx ry d
  obtain ⟨fx, fy, rfl⟩ := d
  exact eqAt_V (A := A) (s := s) rx ry fx fy X.prog X.w X.xe _ ⟨rfl, H, I, L2.Ext.rfl'⟩
/-- data at any depth -/
def DDat (K : PySem.W.Frag) : EqvB := fun x y H b => ∃ d e, Dp K H x d ∧ Dp K H y e ∧ SeqAt.shaped d = true ∧ SeqAt.shaped e = true ∧ b = PyData.eqv d e
def DLstB (D : EqvB) : EqvB := fun x y H b => ∃ a c xs ys, ∃ e : Nat → Bool, x = .ref a ∧ y = .ref c ∧ H a = some (.lst xs) ∧ H c = some (.lst ys) ∧ xs.length = ys.length ∧ (∀ (i : Nat) x y, xs[i]? = some x → ys[i]? = some y → D x y H (e i)) ∧ b = (List.range xs.length).all e
theorem turnB (hD : MonB D) (h : EqB X n D) {A : Around} (sb : L2.Sub X (n + 1) A) {pins : List (Addr × Obj)} {σ : L2.St} {H : Hp} {xs ys : List V} {its its2 : List Value} {e : Nat → Bool} (hlen : xs.length = ys.length) (hp : ∀ (i : Nat) x y, xs[i]? = some x → ys[i]? = some y → D x y H (e i)) (r : Vals xs its) (r2 : Vals ys its2)
    (i : Nat) (h1 : i < its.toArray.size) (h2 : i < its2.toArray.size) (s' : Shared) (q : LoopI X pins σ H s') : wpAny (model X.prog X.w) A.in1 (eqBool its.toArray[i] its2.toArray[i]) (fun r s2 => r = e i ∧ LoopI X pins σ H s2) X.xe s' := by
  obtain ⟨H1, I1, x1⟩ := q
  have h1' : i < its.length := by simpa using h1
  have h2' : i < its2.length := by simpa using h2
  have k1 : i < xs.length := by rw [r.length]; exact h1'
  have k2 : i < ys.length := by rw [← hlen]; exact k1
  obtain ⟨u, hu, ru⟩ := r.get (List.getElem?_eq_getElem k1)
  obtain ⟨v, hv, rv⟩ := r2.get (List.getElem?_eq_getElem k2)
  have g1 : u = its.toArray[i] := by
    rw [List.getElem?_eq_getElem h1'] at hu
    simpa using (Option.some.inj hu).symm
  have g2 : v = its2.toArray[i] := by
    rw [List.getElem?_eq_getElem h2'] at hv
    simpa using (Option.some.inj hv).symm
  subst g1 g2
  refine wpAny_mono (h A.in1 pins s' σ H1 _ _ _ _ (e i) sb.in1 I1 ru rv (hD _ _ _ _ _ x1 (hp i _ _ (List.getElem?_eq_getElem k1) (List.getElem?_eq_getElem k2)))) (fun r s2 q => ?_) fun _ _ z => z
  obtain ⟨hr, H2, I2, x2⟩ := q
  exact ⟨hr, H2, I2, x1.trans x2⟩
theorem lstB_of (hD : MonB D) (h : EqB X n D) {A : Around} (sb : L2.Sub X (n + 1) A) {pins : List (Addr × Obj)} {σ : L2.St} {H : Hp} {a c : Addr} {xs ys : List V} {e : Nat → Bool} (ha : H a = some (.lst xs)) (hc : H c = some (.lst ys)) (hlen : xs.length = ys.length)
    (hp : ∀ (i : Nat) x y, xs[i]? = some x → ys[i]? = some y → D x y H (e i)) : LstB X.prog X.w A X.xe a c xs.length (LoopI X pins σ H) e := by
  intro s q
  obtain ⟨H1, I1, x1⟩ := id q
  obtain ⟨z, its, k, r, g1⟩ := I1.hok a _ (x1 _ _ ha)
  obtain ⟨z2, its2, k2, r2, g2⟩ := I1.hok c _ (x1 _ _ hc)
  exact ⟨its.toArray, its2.toArray, k, k2, g1, g2, by rw [List.size_toArray, ← r.length], by rw [List.size_toArray, ← r2.length, ← hlen], fun i h1 h2 => turnB hD h sb hlen hp r r2 i h1 h2 s q⟩
theorem rcB_lst (hD : MonB D) (h : EqB X n D) : RcB X (n + 1) (DLstB D) := by
  intro A pins s σ H x y u v b sb I rx ry d
  obtain ⟨a, c, xs, ys, e, rfl, rfl, ha, hc, hlen, hp, rfl⟩ := d
  cases rx
  cases ry
  exact rc_lstEqB sb.room.units0 (LoopI X pins σ H) e (lstB_of hD h sb ha hc hlen hp) (fun s' q => ⟨rfl, q⟩) ⟨H, I, L2.Ext.rfl'⟩
/-- != -/
def RnB (X : Cx) (n : Nat) (D : EqvB) : Prop :=
  ∀ (A : Around) (pins : List (Addr × Obj)) (s : Shared) (σ : L2.St) (H : Hp) (x y : V) (u v : Value) (b : Bool), L2.Sub X n A → Inv X pins σ H s → RelV x u → RelV y v → D x y H b →
    wpAny (model X.prog X.w) A (richCompare .NotEq u v) (fun r s' => r = .bool (!b) ∧ ∃ H', Inv X pins σ H' s' ∧ L2.Ext H H') X.xe s
theorem rnB_lst (hD : MonB D) (h : EqB X n D) : RnB X (n + 1) (DLstB D) := by
  intro A pins s σ H x y u v b sb I rx ry d
  obtain ⟨a, c, xs, ys, e, rfl, rfl, ha, hc, hlen, hp, rfl⟩ := d
  cases rx
  cases ry
  exact rc_lstNeB sb.room.units0 (LoopI X pins σ H) e (lstB_of hD h sb ha hc hlen hp) (fun s' q => ⟨rfl, q⟩) ⟨H, I, L2.Ext.rfl'⟩
theorem rnB_tup (hD : MonB D) (h : EqB X n D) : RnB X (n + 1) (DTupB X.K D) := by
  intro A pins s σ H x y u v b sb I rx ry d
  obtain ⟨a, c, xs, ys, e, rfl, rfl, ha, hb, hlen, hp, rfl⟩ := d
  cases rx
  cases ry
  obtain ⟨its, r, e1, z⟩ := I.tuple ha
  obtain ⟨its2, r2, e2, z2⟩ := I.tuple hb
  have hsz : its.toArray.size = its2.toArray.size := by rw [List.size_toArray, List.size_toArray, ← r.length, ← r2.length]; exact hlen
  exact rc_tupNeB hsz sb.room.units0 (LoopI X pins σ H) e e1 e2 (fun i h1 h2 s' q => turnB hD h sb hlen hp r r2 i h1 h2 s' q) (fun s' q => ⟨by rw [List.size_toArray, ← r.length], q⟩) ⟨H, I, L2.Ext.rfl'⟩
def rNeB (D : EqvB) : R2 := fun x y H Q => ∃ b, D x y H b ∧ ∀ H', L2.Ext H H' → Q (.bl (!b)) H'
theorem op_neB (h : RnB X n D) (hr : Room n X.A) : OpR X (compareOp .NotEq) (rNeB D) := by
  intro pins s σ H x y v u Q I rx ry hq
  obtain ⟨b, d, q⟩ := hq
  show wpAny (model X.prog X.w) X.A (richCompare .NotEq v u) (EP X pins σ Q) X.xe s
  refine wpAny_mono (h X.A pins s σ H x y v u b ⟨hr, rfl⟩ I rx ry d) (fun r s' z => ?_) fun _ _ x => x
  obtain ⟨hr', H', I', e⟩ := z
  subst hr'
  exact ⟨.bl (!b), H', I', rfl, q H' e⟩
end
end XT

namespace XT
open PySem PySem.Spec PyProof.Rows L2
/-- a comprehension over a list with a test, its items made anew -/
theorem lcELT {K : PySem.W.Frag} {a : Addr} {xs : List V} {g : TG} {tt : L2.St → Hp → (Bool → Hp → Prop) → Prop} {te : TE} {vs : List Nat} {σ : L2.St} {H1 : Hp} {D : Addr} {Qd : Hp → Prop} (I : Nat → Hp → List V → Prop) (h0 : I 0 (upd H1 D (.lst [])) []) (hn : xs.length ≤ sizeLine)
    (hl : ∀ i H acc, I i H acc → SqL K H a xs ∧ acc.length ≤ i)
    (hs : ∀ i x H acc (R : V → Hp → Prop) (Nx : Hp → Prop), xs[i]? = some x → I i H acc → (∀ y H', H' D = some (.lst acc) → I (i + 1) (upd H' D (.lst (acc ++ [y]))) (acc ++ [y]) → R y H') → (∀ H', I (i + 1) H' acc → Nx H') → g x (wipe σ vs) H fun σ2 H2 => wipe σ2 vs = wipe σ vs ∧ tt σ2 H2 fun b H3 => if b = true then te σ2 H3 R else Nx H3)
    (hd : ∀ H acc, I xs.length H acc → Qd H) :
    ∃ W : Nat → Nat → Hp → Prop, (∃ m, W 0 m (upd H1 D (.lst []))) ∧ ∀ i m H, W i m H →
      ((Itl K a).stop i H ∧ Qd H) ∨ ((Itl K a).go i H ∧ ∃ Nx : Hp → Prop, (∀ H', Nx H' → ∃ m', m' < m ∧ W (i + 1) m' H') ∧ ∀ x H', (Itl K a).yld i H x H' → g x (wipe σ vs) H' fun σ2 H2 => wipe σ2 vs = wipe σ vs ∧ tt σ2 H2 fun b H3 =>
        if b = true then te σ2 H3 fun y H4 => ∃ acc, H4 D = some (.lst acc) ∧ acc.length < sizeLine ∧ Nx (upd H4 D (.lst (acc ++ [y]))) else Nx H3) := by
  refine ⟨fun i m H => m = xs.length - i ∧ i ≤ xs.length ∧ ∃ acc, I i H acc, ⟨xs.length, by simp, Nat.zero_le _, _, h0⟩, ?_⟩
  rintro i m H ⟨rfl, hi, acc, hI⟩
  have q := (hl i H acc hI).1
  by_cases hlt : i < xs.length
  · have e : xs[i]? = some xs[i] := by simp [hlt]
    refine .inr ⟨⟨xs, xs[i], q, e⟩, fun H' => ∃ acc, I (i + 1) H' acc, fun H' p => ⟨xs.length - (i + 1), by omega, rfl, hlt, p⟩, fun x H' y => ?_⟩
    obtain ⟨e1, y⟩ := y
    subst e1
    have ex := y xs q
    exact hs i x _ acc _ _ ex hI (fun y H' e k => ⟨acc, e, by have := (hl i _ acc hI).2; exact Nat.lt_of_le_of_lt this (Nat.lt_of_lt_of_le hlt hn), _, k⟩) fun H' k => ⟨acc, k⟩
  · have e : i = xs.length := by omega
    subst e
    exact .inl ⟨⟨xs, q, Nat.le_refl _⟩, hd H acc hI⟩
end XT

namespace XT
open PySem PySem.Spec PyProof.Rows L2
/-! ### repr of data with empty dicts anywhere -/
mutual
inductive Dz (K : PySem.W.Frag) (H : Hp) : V → PyData → Prop
  | non : Dz K H .non .none
  | bl (b : Bool) : Dz K H (.bl b) (.bool b)
  | int (i : Int) : Dz K H (.int i) (.int i)
  | str (x : Str) : Dz K H (.str x) (.str x)
  | dk {a : Addr} : H a = some (.dK []) → Dz K H (.ref a) (.dict [])
  | lst {a : Addr} {xs : List V} {ds : List PyData} : SqL K H a xs → DzAll K H xs ds → Dz K H (.ref a) (.list ds)
  | tup {a : Addr} {xs : List V} {ds : List PyData} : SqT K H a xs → DzAll K H xs ds → Dz K H (.ref a) (.tuple ds)
inductive DzAll (K : PySem.W.Frag) (H : Hp) : List V → List PyData → Prop
  | nil : DzAll K H [] []
  | cons {v : V} {vs : List V} {d : PyData} {ds : List PyData} : Dz K H v d → DzAll K H vs ds → DzAll K H (v :: vs) (d :: ds)
end
section
variable {X : Cx} {pins : List (Addr × Obj)} {σ : L2.St} {H : Hp} {s : Shared}
mutual
/-- it reads as d, and shows as d's text -/
theorem Dz.shows (I : Inv X pins σ H s) : ∀ (d : PyData) (v : V) (u : Value), Dz X.K H v d → RelV v u → d.showable = true → d.shown.length ≤ sizeLine → ∃ as bs, Reads s.heap u d as ∧ ReadAtMost s.heap d.depth bs ∧ ReprK X.prog X.w bs s.heap d.depth u d.shown
  | .none, _, _, h, r, hs, hz => by
    cases h
    cases r
    obtain ⟨bs, q1, q2⟩ := ReprK.of_reads (prog := X.prog) (w := X.w) (Reads.none (h := s.heap)) hs (fun _ => by simp) hz
    exact ⟨_, bs, Reads.none, q1, q2⟩
  | .bool b, _, _, h, r, hs, hz => by
    cases h
    cases r
    obtain ⟨bs, q1, q2⟩ := ReprK.of_reads (prog := X.prog) (w := X.w) (Reads.bool (h := s.heap) b) hs (fun _ => by simp) hz
    exact ⟨_, bs, Reads.bool b, q1, q2⟩
  | .int i, _, _, h, r, hs, hz => by
    cases h
    obtain ⟨t, rfl⟩ := r
    obtain ⟨bs, q1, q2⟩ := ReprK.of_reads (prog := X.prog) (w := X.w) (Reads.int (h := s.heap) i t) hs (fun _ => by simp) hz
    exact ⟨_, bs, Reads.int i t, q1, q2⟩
  | .str x, _, _, h, r, hs, hz => by
    cases h
    obtain ⟨t, rfl⟩ := r
    obtain ⟨bs, q1, q2⟩ := ReprK.of_reads (prog := X.prog) (w := X.w) (Reads.str (h := s.heap) x t) hs (fun _ => by simp) hz
    exact ⟨_, bs, Reads.str x t, q1, q2⟩
  | .list ds, _, _, h, r, hs, hz => by
    cases h with
    | lst hq ha =>
      cases r
      obtain ⟨its, rv, ⟨o, n, ho, hc, _, hd⟩, _⟩ := I.list hq
      have hz' : (listText (PyData.shownAll ds)).length ≤ sizeLine := by simpa only [PyData.shown] using hz
      obtain ⟨as, bs, hr, hb, hk⟩ := Dz.showsAll I ds _ its ha rv (by simpa [PyData.showable] using hs) fun t ht => Nat.le_trans (listText_mem_le ht) hz'
      have rd := Reads.list ho hc hd hr
      refine ⟨_, _, rd, ReadAtMost.cons rd (by simp only [PyData.depth]; omega) hb, ?_⟩
      have hna := not_mem_of_deeper rd (by simp only [PyData.depth]; omega) hb
      simp only [PyData.depth, PyData.shown]
      cases its with
      | nil =>
        cases hr
        simp only [PyData.shownAll, listText_nil]
        exact ReprK.listEmpty ho hc hd
      | cons x l => exact ReprK.list ho hc hd hna (by simpa using hk.length_eq) (fun i y e => hk.item i y (by simpa using e))
  | .tuple ds, _, _, h, r, hs, hz => by
    cases h with
    | tup hq ha =>
      cases r
      obtain ⟨its, rv, ⟨o, ho, hc, n, hd⟩, _⟩ := I.tuple hq
      have hz' : (tupleText (PyData.shownAll ds)).length ≤ sizeLine := by simpa only [PyData.shown] using hz
      obtain ⟨as, bs, hr, hb, hk⟩ := Dz.showsAll I ds _ its ha rv (by simpa [PyData.showable] using hs) fun t ht => Nat.le_trans (tupleText_mem_le ht) hz'
      have rd := Reads.tuple ho hc hd hr
      refine ⟨_, _, rd, ReadAtMost.cons rd (by simp only [PyData.depth]; omega) hb, ?_⟩
      have hna := not_mem_of_deeper rd (by simp only [PyData.depth]; omega) hb
      simp only [PyData.depth, PyData.shown]
      exact ReprK.tuple ho hc hd hna hk
  | .dict _, _, _, h, r, hs, hz => by
    cases h with
    | dk hk =>
      cases r
      obtain ⟨q, ne⟩ := emp_reads I hk
      obtain ⟨bs, q1, q2⟩ := ReprK.of_reads (prog := X.prog) (w := X.w) q hs (fun _ z => ne (List.mem_singleton.mp z).symm) hz
      exact ⟨_, bs, q, q1, q2⟩
theorem Dz.showsAll (I : Inv X pins σ H s) : ∀ (ds : List PyData) (vs : List V) (us : List Value), DzAll X.K H vs ds → Vals vs us → PyData.showableAll ds = true → (∀ t ∈ PyData.shownAll ds, t.length ≤ sizeLine) →
    ∃ as bs, ReadsAll s.heap us ds as ∧ ReadAtMost s.heap (PyData.depthAll ds) bs ∧ ReprAllK X.prog X.w bs s.heap (PyData.depthAll ds) us (PyData.shownAll ds)
  | [], _, _, h, r, _, _ => by
    cases h
    cases r
    exact ⟨_, [], ReadsAll.nil, (fun _ h => nomatch h), by simp only [PyData.shownAll]; exact .nil⟩
  | d :: ds, _, _, h, r, hs, hz => by
    cases h with
    | cons h1 h2 =>
      cases r with
      | cons r1 r2 =>
        have hs' : d.showable = true ∧ PyData.showableAll ds = true := by simpa [PyData.showableAll] using hs
        obtain ⟨as, b1, q1, m1, k1⟩ := Dz.shows I d _ _ h1 r1 hs'.1 (hz _ (by simp only [PyData.shownAll]; exact List.mem_cons_self))
        obtain ⟨bs, b2, q2, m2, k2⟩ := Dz.showsAll I ds _ _ h2 r2 hs'.2 fun t ht => hz t (by simp only [PyData.shownAll]; exact List.mem_cons_of_mem _ ht)
        refine ⟨_, b1 ++ b2, ReadsAll.cons q1 q2, ?_, ?_⟩
        · simp only [PyData.depthAll]
          exact (m1.mono (Nat.le_max_left _ _)).append (m2.mono (Nat.le_max_right _ _))
        · simp only [PyData.depthAll, PyData.shownAll]
          exact .cons ((k1.more fun b hb => List.mem_append_left _ hb).level_le (Nat.le_max_left _ _)) (k2.more_le (fun b hb => List.mem_append_right _ hb) (Nat.le_max_right _ _))
end
end
mutual
theorem dz_same {K : PySem.W.Frag} {H H' : Hp} (s : Same H H') : ∀ (d : PyData) (v : V), Dz K H v d → Dz K H' v d
  | .none, _, h => by cases h; exact .non
  | .bool b, _, h => by cases h; exact .bl b
  | .int i, _, h => by cases h; exact .int i
  | .str x, _, h => by cases h; exact .str x
  | .list ds, _, h => by
    cases h with
    | lst hs ha => exact .lst (s.seq hs) (dzAll_same s ds _ ha)
  | .tuple ds, _, h => by
    cases h with
    | tup hs ha => exact .tup (same_seqT s hs) (dzAll_same s ds _ ha)
  | .dict _, _, h => by
    cases h with
    | dk hk => exact .dk (s _ _ hk)
theorem dzAll_same {K : PySem.W.Frag} {H H' : Hp} (s : Same H H') : ∀ (ds : List PyData) (vs : List V), DzAll K H vs ds → DzAll K H' vs ds
  | [], _, h => by cases h; exact .nil
  | d :: ds, _, h => by
    cases h with
    | cons h1 h2 => exact .cons (dz_same s d _ h1) (dzAll_same s ds _ h2)
end
mutual
theorem dz_of {K : PySem.W.Frag} {H : Hp} : ∀ (d : PyData) (v : V), Dp K H v d → Dz K H v d
  | .none, _, h => by cases h; exact .non
  | .bool b, _, h => by cases h; exact .bl b
  | .int i, _, h => by cases h; exact .int i
  | .str x, _, h => by cases h; exact .str x
  | .list ds, _, h => by
    cases h with
    | lst hs ha => exact .lst hs (dzAll_of ds _ ha)
  | .tuple ds, _, h => by
    cases h with
    | tup hs ha => exact .tup hs (dzAll_of ds _ ha)
  | .dict _, _, h => by cases h
theorem dzAll_of {K : PySem.W.Frag} {H : Hp} : ∀ (ds : List PyData) (vs : List V), DpAll K H vs ds → DzAll K H vs ds
  | [], _, h => by cases h; exact .nil
  | d :: ds, _, h => by
    cases h with
    | cons h1 h2 => exact .cons (dz_of d _ h1) (dzAll_of ds _ h2)
end
theorem dzAll_app {K : PySem.W.Frag} {H : Hp} : ∀ {ds es : List PyData} {vs us : List V}, DzAll K H vs ds → DzAll K H us es → DzAll K H (vs ++ us) (ds ++ es)
  | [], _, _, _, h, k => by cases h; exact k
  | d :: ds, _, _, _, h, k => by
    cases h with
    | cons h1 h2 => exact .cons h1 (dzAll_app h2 k)
/-- repr(x) of data -/
def rReprZ (K : PySem.W.Frag) : List V → Hp → VK → Prop := fun xs H Q => ∃ x d, xs = [x] ∧ Dz K H x d ∧ plainD d = true ∧ d.depth ≤ 50 ∧ sc d ≤ 16000000 ∧ Q (.str d.shown) H
section
variable {X : Cx}
theorem call_reprZ (hg : X.A.guards = some []) (hu : X.A.units + 64 < cLine) : CallR X (.builtin "repr") (rReprZ X.K) := by
  intro pins s σ H xs us Q I r h
  obtain ⟨x, d, rfl, hr, hp, hd, hz, q⟩ := h
  have hsz : d.shown.length ≤ sizeLine := by
    have := shown_sc d hp
    rw [sizeLine_eq]
    omega
  have fin : ∀ h' v tk, (∀ b o, s.heap.get? b = some o → h'.get? b = some o) → EP X pins σ Q (.str d.shown v) { s with heap := h', toks := tk } := fun h' v tk k => ⟨.str d.shown, H, I.kept (t' := tk) k, ⟨v, rfl⟩, q⟩
  have old : Rd X.K H x d → wpAny (model X.prog X.w) X.A (call (.builtin "repr") us) (EP X pins σ Q) X.xe s := fun rd => call_reprD hg hu pins s σ H _ us Q I r ⟨x, d, rfl, rd, hp, hd, hz, q⟩
  have hsw := plain_showable d hp
  cases hr with
  | non => exact old (.inl ⟨.non, by simp [PyData.hasDict]⟩)
  | bl b => exact old (.inl ⟨.bl b, by simp [PyData.hasDict]⟩)
  | int i => exact old (.inl ⟨.int i, by simp [PyData.hasDict]⟩)
  | str y => exact old (.inl ⟨.str y, by simp [PyData.hasDict]⟩)
  | dk hk => exact old (.inr (.inl ⟨_, rfl, hk, rfl⟩))
  | lst hq ha =>
    rename_i a xs ds
    clear old
    obtain ⟨u, rfl, ru⟩ := r.one
    cases ru
    obtain ⟨its, rv, ⟨o, n, ho, hc, _, hdd⟩, _⟩ := I.list hq
    have hz' : (listText (PyData.shownAll ds)).length ≤ sizeLine := by simpa only [PyData.shown] using hsz
    obtain ⟨as, bs, hr, hb, hk⟩ := Dz.showsAll I ds _ its ha rv (by simpa [PyData.showable] using hsw) fun t ht => Nat.le_trans (listText_mem_le ht) hz'
    have rd := Reads.list ho hc hdd hr
    have hna := not_mem_of_deeper rd (by simp only [PyData.depth]; omega) hb
    simp only [PyData.depth] at hd
    simp only [PyData.shown] at fin
    refine call_repr_slot (by omega) ⟨o, ho, hc⟩ F.slot_list_repr.toG ?_
    cases its with
    | nil =>
      cases hr
      simp only [PyData.shownAll, listText_nil] at fin
      exact call_list_repr_empty ⟨o, ho, hc⟩ ho hdd ⟨_, _, rfl, fin s.heap _ _ fun _ _ e => e⟩
    | cons x l => exact call_list_reprK ho hc hdd hna (by simpa using hk.length_eq) (fun i y e => hk.item i y (by simpa using e)) hg (fun b _ => Clear.nil b) (by show X.A.units + 1 + _ < cLine; omega) (fun _ _ e => e) (fun h' u tk k => ⟨_, _, rfl, fin h' u tk k⟩) hz'
  | tup hq ha =>
    rename_i a xs ds
    clear old
    obtain ⟨u, rfl, ru⟩ := r.one
    cases ru
    obtain ⟨its, rv, ⟨o, ho, hc, n, hdd⟩, _⟩ := I.tuple hq
    have hz' : (tupleText (PyData.shownAll ds)).length ≤ sizeLine := by simpa only [PyData.shown] using hsz
    obtain ⟨as, bs, hr, hb, hk⟩ := Dz.showsAll I ds _ its ha rv (by simpa [PyData.showable] using hsw) fun t ht => Nat.le_trans (tupleText_mem_le ht) hz'
    have rd := Reads.tuple ho hc hdd hr
    have hna := not_mem_of_deeper rd (by simp only [PyData.depth]; omega) hb
    simp only [PyData.depth] at hd
    simp only [PyData.shown] at fin
    refine call_repr_slot (by omega) ⟨o, ho, hc⟩ F.slot_tuple_repr ?_
    exact call_tuple_reprK ho hc hdd hna hk hg (fun b _ => Clear.nil b) (by show X.A.units + 1 + _ < cLine; omega) (fun _ _ e => e) (fun h' u tk k => ⟨_, _, rfl, fin h' u tk k⟩) hz'
theorem reprZK (K : PySem.W.Frag) (hg : X.A.guards = some []) (hu : X.A.units + 64 < cLine) (hK : X.K = K := by rfl) : CallR X (.builtin "repr") (rReprZ K) := by subst hK; exact call_reprZ hg hu
end
end XT

namespace XT
open PySem PyProof.Rows L2
section
variable {P : Program} {w : World} {K : PySem.W.Frag} {mg : Str → Option Value} {base : Heap}
/-- a def that may raise, called so that it does not -/
theorem fnR_good {n : Nat} {f : Addr} {sp sp' : Sp} (F : FnR P w K mg base (L2.CX P w) n f sp') (h : ∀ vs H Q E, sp vs H Q E → sp' vs H Q E0) : FnR P w K mg base CX0 n f sp := fun A outer s H us vs Q E hr e0 r hs =>
  codeAny_mono (F A outer s H us vs Q E0 hr e0 r (h _ _ _ _ hs)) fun res s' g => by
    cases res with
    | ok v =>
      cases v <;> first | exact g | exact g.elim
    | error e =>
      obtain ⟨_, _, _, _, _, _, _, _, _, _, _, _, hE⟩ := g
      exact hE.elim
end
end XT

namespace K43
open PySem L2 XT
def top (i : Nat) : Stmt := PySem.Challenge.pw_rankeffect_k43_sequences_that_agree.main.body.getD i (.Pass ⟨0, 0, 0, 0⟩)

abbrev s_is_integer : Stmt := top 2
abbrev N_is_integer : List Str := ["value"]
theorem sc_is_integer : FnScope N_is_integer ["value"] (defScope s_is_integer) := ⟨rfl, rfl, rfl, by decide +kernel, rfl, by decide +kernel, by decide +kernel⟩
theorem bn_is_integer : XT.Bnd "is_integer" "is_integer" s_is_integer ["value"] := fun _ _ _ _ _ _ us hl => match us, hl with | [_], _ => rfl

abbrev s_is_rank : Stmt := top 3
abbrev N_is_rank : List Str := ["value"]
theorem sc_is_rank : FnScope N_is_rank ["value"] (defScope s_is_rank) := ⟨rfl, rfl, rfl, by decide +kernel, rfl, by decide +kernel, by decide +kernel⟩
theorem bn_is_rank : XT.Bnd "is_rank" "is_rank" s_is_rank ["value"] := fun _ _ _ _ _ _ us hl => match us, hl with | [_], _ => rfl

abbrev s_is_number_list : Stmt := top 4
abbrev N_is_number_list : List Str := ["value", "number"]
theorem sc_is_number_list : FnScope N_is_number_list ["value"] (defScope s_is_number_list) := ⟨rfl, rfl, rfl, by decide +kernel, rfl, by decide +kernel, by decide +kernel⟩
theorem bn_is_number_list : XT.Bnd "is_number_list" "is_number_list" s_is_number_list ["value"] := fun _ _ _ _ _ _ us hl => match us, hl with | [_], _ => rfl

abbrev s_InvalidFacts___init__ : Stmt := inClass (top 9) 0
abbrev N_InvalidFacts___init__ : List Str := ["self", "value"]
theorem sc_InvalidFacts___init__ : FnScope N_InvalidFacts___init__ ["self", "value"] (defScope s_InvalidFacts___init__) := ⟨rfl, rfl, rfl, by decide +kernel, rfl, by decide +kernel, by decide +kernel⟩
theorem bn_InvalidFacts___init__ : XT.Bnd "__init__" "InvalidFacts.__init__" s_InvalidFacts___init__ ["self", "value"] := fun _ _ _ _ _ _ us hl => match us, hl with | [_, _], _ => rfl

abbrev s_StepFailed___init__ : Stmt := inClass (top 10) 0
abbrev N_StepFailed___init__ : List Str := ["self", "index"]
theorem sc_StepFailed___init__ : FnScope N_StepFailed___init__ ["self", "index"] (defScope s_StepFailed___init__) := ⟨rfl, rfl, rfl, by decide +kernel, rfl, by decide +kernel, by decide +kernel⟩
theorem bn_StepFailed___init__ : XT.Bnd "__init__" "StepFailed.__init__" s_StepFailed___init__ ["self", "index"] := fun _ _ _ _ _ _ us hl => match us, hl with | [_, _], _ => rfl

abbrev s_is_fact : Stmt := top 12
abbrev N_is_fact : List Str := ["value", "before", "after"]
theorem sc_is_fact : FnScope N_is_fact ["value"] (defScope s_is_fact) := ⟨rfl, rfl, rfl, by decide +kernel, rfl, by decide +kernel, by decide +kernel⟩
theorem bn_is_fact : XT.Bnd "is_fact" "is_fact" s_is_fact ["value"] := fun _ _ _ _ _ _ us hl => match us, hl with | [_], _ => rfl

abbrev s_is_fact_list : Stmt := top 13
abbrev N_is_fact_list : List Str := ["value", "fact"]
theorem sc_is_fact_list : FnScope N_is_fact_list ["value"] (defScope s_is_fact_list) := ⟨rfl, rfl, rfl, by decide +kernel, rfl, by decide +kernel, by decide +kernel⟩
theorem bn_is_fact_list : XT.Bnd "is_fact_list" "is_fact_list" s_is_fact_list ["value"] := fun _ _ _ _ _ _ us hl => match us, hl with | [_], _ => rfl

abbrev s_result_of : Stmt := top 14
abbrev N_result_of : List Str := ["sequence", "numbers"]
theorem sc_result_of : FnScope N_result_of ["sequence", "numbers"] (defScope s_result_of) := ⟨rfl, rfl, rfl, by decide +kernel, rfl, by decide +kernel, by decide +kernel⟩
theorem bn_result_of : XT.Bnd "result_of" "result_of" s_result_of ["sequence", "numbers"] := fun _ _ _ _ _ _ us hl => match us, hl with | [_, _], _ => rfl

abbrev s_agrees : Stmt := top 15
abbrev N_agrees : List Str := ["sequence", "facts", "before", "after", "wanted"]
theorem sc_agrees : FnScope N_agrees ["sequence", "facts"] (defScope s_agrees) := ⟨rfl, rfl, rfl, by decide +kernel, rfl, by decide +kernel, by decide +kernel⟩
theorem bn_agrees : XT.Bnd "agrees" "agrees" s_agrees ["sequence", "facts"] := fun _ _ _ _ _ _ us hl => match us, hl with | [_, _], _ => rfl

abbrev s_agreeing : Stmt := top 16
abbrev N_agreeing : List Str := ["sequences", "facts", "index", "sequence"]
theorem sc_agreeing : FnScope N_agreeing ["sequences", "facts"] (defScope s_agreeing) := ⟨rfl, rfl, rfl, by decide +kernel, rfl, by decide +kernel, by decide +kernel⟩
theorem bn_agreeing : XT.Bnd "agreeing" "agreeing" s_agreeing ["sequences", "facts"] := fun _ _ _ _ _ _ us hl => match us, hl with | [_, _], _ => rfl

abbrev s_ascending : Stmt := top 18
abbrev N_ascending : List Str := ["numbers"]
theorem sc_ascending : FnScope N_ascending ["numbers"] (defScope s_ascending) := ⟨rfl, rfl, rfl, by decide +kernel, rfl, by decide +kernel, by decide +kernel⟩
theorem bn_ascending : XT.Bnd "ascending" "ascending" s_ascending ["numbers"] := fun _ _ _ _ _ _ us hl => match us, hl with | [_], _ => rfl

abbrev s_after_step : Stmt := top 19
abbrev N_after_step : List Str := ["numbers", "index", "step", "word", "number"]
theorem sc_after_step : FnScope N_after_step ["numbers", "index", "step"] (defScope s_after_step) := ⟨rfl, rfl, rfl, by decide +kernel, rfl, by decide +kernel, by decide +kernel⟩
theorem bn_after_step : XT.Bnd "after_step" "after_step" s_after_step ["numbers", "index", "step"] := fun _ _ _ _ _ _ us hl => match us, hl with | [_, _, _], _ => rfl

abbrev s_Sequence___init__ : Stmt := inClass (top 20) 0
abbrev N_Sequence___init__ : List Str := ["self", "steps", "step"]
theorem sc_Sequence___init__ : FnScope N_Sequence___init__ ["self", "steps"] (defScope s_Sequence___init__) := ⟨rfl, rfl, rfl, by decide +kernel, rfl, by decide +kernel, by decide +kernel⟩
theorem bn_Sequence___init__ : XT.BndS "__init__" "Sequence.__init__" s_Sequence___init__ ["self"] "steps" := fun _ _ _ _ _ _ us rest hl => StX.bind_star1 (B := fun us => bindArgs _ ⟨us, []⟩) (fun _ => rfl) (fun _ _ _ => rfl) us rest hl

abbrev s_Sequence_is_step : Stmt := inClass (top 20) 1
abbrev N_Sequence_is_step : List Str := ["value", "word", "number"]
theorem sc_Sequence_is_step : FnScope N_Sequence_is_step ["value"] (defScope s_Sequence_is_step) := ⟨rfl, rfl, rfl, by decide +kernel, rfl, by decide +kernel, by decide +kernel⟩
theorem bn_Sequence_is_step : XT.Bnd "is_step" "Sequence.is_step" s_Sequence_is_step ["value"] := fun _ _ _ _ _ _ us hl => match us, hl with | [_], _ => rfl

abbrev s_Sequence_steps : Stmt := inClass (top 20) 2
abbrev N_Sequence_steps : List Str := ["self"]
theorem sc_Sequence_steps : FnScope N_Sequence_steps ["self"] (defScope s_Sequence_steps) := ⟨rfl, rfl, rfl, by decide +kernel, rfl, by decide +kernel, by decide +kernel⟩
theorem bn_Sequence_steps : XT.Bnd "steps" "Sequence.steps" s_Sequence_steps ["self"] := fun _ _ _ _ _ _ us hl => match us, hl with | [_], _ => rfl

abbrev s_Sequence___add__ : Stmt := inClass (top 20) 5
abbrev N_Sequence___add__ : List Str := ["self", "other", "steps"]
theorem sc_Sequence___add__ : FnScope N_Sequence___add__ ["self", "other"] (defScope s_Sequence___add__) := ⟨rfl, rfl, rfl, by decide +kernel, rfl, by decide +kernel, by decide +kernel⟩
theorem bn_Sequence___add__ : XT.Bnd "__add__" "Sequence.__add__" s_Sequence___add__ ["self", "other"] := fun _ _ _ _ _ _ us hl => match us, hl with | [_, _], _ => rfl

abbrev s_Sequence___call__ : Stmt := inClass (top 20) 7
abbrev N_Sequence___call__ : List Str := ["self", "numbers", "current", "index", "step"]
theorem sc_Sequence___call__ : FnScope N_Sequence___call__ ["self", "numbers"] (defScope s_Sequence___call__) := ⟨rfl, rfl, rfl, by decide +kernel, rfl, by decide +kernel, by decide +kernel⟩
theorem bn_Sequence___call__ : XT.Bnd "__call__" "Sequence.__call__" s_Sequence___call__ ["self", "numbers"] := fun _ _ _ _ _ _ us hl => match us, hl with | [_, _], _ => rfl

abbrev s_law_pool : Stmt := top 22
abbrev N_law_pool : List Str := ["_law_script", "_law_k", "_law_cell", "_law_mixed"]
theorem sc_law_pool : FnScope N_law_pool ["_law_script", "_law_k"] (defScope s_law_pool) := ⟨rfl, rfl, rfl, by decide +kernel, rfl, by decide +kernel, by decide +kernel⟩
theorem bn_law_pool : XT.Bnd "_law_pool" "_law_pool" s_law_pool ["_law_script", "_law_k"] := fun _ _ _ _ _ _ us hl => match us, hl with | [_, _], _ => rfl

abbrev s_law_take : Stmt := top 23
abbrev N_law_take : List Str := ["_law_pool_here", "_law_count", "_law_result"]
theorem sc_law_take : FnScope N_law_take ["_law_pool_here", "_law_count"] (defScope s_law_take) := ⟨rfl, rfl, rfl, by decide +kernel, rfl, by decide +kernel, by decide +kernel⟩
theorem bn_law_take : XT.Bnd "_law_take" "_law_take" s_law_take ["_law_pool_here", "_law_count"] := fun _ _ _ _ _ _ us hl => match us, hl with | [_, _], _ => rfl

abbrev s_law_step : Stmt := top 24
abbrev N_law_step : List Str := ["_law_pool_here", "_law_most"]
theorem sc_law_step : FnScope N_law_step ["_law_pool_here", "_law_most"] (defScope s_law_step) := ⟨rfl, rfl, rfl, by decide +kernel, rfl, by decide +kernel, by decide +kernel⟩
theorem bn_law_step : XT.Bnd "_law_step" "_law_step" s_law_step ["_law_pool_here", "_law_most"] := fun _ _ _ _ _ _ us hl => match us, hl with | [_, _], _ => rfl

abbrev s_law_steps : Stmt := top 25
abbrev N_law_steps : List Str := ["_law_pool_here", "_law_many", "_law_most", "_law_turn"]
theorem sc_law_steps : FnScope N_law_steps ["_law_pool_here", "_law_many", "_law_most"] (defScope s_law_steps) := ⟨rfl, rfl, rfl, by decide +kernel, rfl, by decide +kernel, by decide +kernel⟩
theorem bn_law_steps : XT.Bnd "_law_steps" "_law_steps" s_law_steps ["_law_pool_here", "_law_many", "_law_most"] := fun _ _ _ _ _ _ us hl => match us, hl with | [_, _, _], _ => rfl

abbrev s_law_sequence : Stmt := top 26
abbrev N_law_sequence : List Str := ["_law_steps_here", "_law_result", "_law_step_here"]
theorem sc_law_sequence : FnScope N_law_sequence ["_law_steps_here"] (defScope s_law_sequence) := ⟨rfl, rfl, rfl, by decide +kernel, rfl, by decide +kernel, by decide +kernel⟩
theorem bn_law_sequence : XT.Bnd "_law_sequence" "_law_sequence" s_law_sequence ["_law_steps_here"] := fun _ _ _ _ _ _ us hl => match us, hl with | [_], _ => rfl

abbrev s_law_done : Stmt := top 27
abbrev N_law_done : List Str := ["_law_numbers", "_law_steps_here", "_law_rest", "_law_index", "_law_word", "_law_number"]
theorem sc_law_done : FnScope N_law_done ["_law_numbers", "_law_steps_here"] (defScope s_law_done) := ⟨rfl, rfl, rfl, by decide +kernel, rfl, by decide +kernel, by decide +kernel⟩
theorem bn_law_done : XT.Bnd "_law_done" "_law_done" s_law_done ["_law_numbers", "_law_steps_here"] := fun _ _ _ _ _ _ us hl => match us, hl with | [_, _], _ => rfl

abbrev s_law_fact : Stmt := top 28
abbrev N_law_fact : List Str := ["_law_pool_here", "_law_some", "_law_before", "_law_turn", "_law_later", "_law_kind"]
theorem sc_law_fact : FnScope N_law_fact ["_law_pool_here", "_law_some"] (defScope s_law_fact) := ⟨rfl, rfl, rfl, by decide +kernel, rfl, by decide +kernel, by decide +kernel⟩
theorem bn_law_fact : XT.Bnd "_law_fact" "_law_fact" s_law_fact ["_law_pool_here", "_law_some"] := fun _ _ _ _ _ _ us hl => match us, hl with | [_, _], _ => rfl

abbrev s_law_agrees : Stmt := top 29
abbrev N_law_agrees : List Str := ["_law_steps_here", "_law_facts", "_law_before", "_law_later", "_law_found"]
theorem sc_law_agrees : FnScope N_law_agrees ["_law_steps_here", "_law_facts"] (defScope s_law_agrees) := ⟨rfl, rfl, rfl, by decide +kernel, rfl, by decide +kernel, by decide +kernel⟩
theorem bn_law_agrees : XT.Bnd "_law_agrees" "_law_agrees" s_law_agrees ["_law_steps_here", "_law_facts"] := fun _ _ _ _ _ _ us hl => match us, hl with | [_, _], _ => rfl

abbrev s_law_error : Stmt := top 30
abbrev N_law_error : List Str := ["_law_facts", "e"]
theorem sc_law_error : FnScope N_law_error ["_law_facts"] (defScope s_law_error) := ⟨rfl, rfl, rfl, by decide +kernel, rfl, by decide +kernel, by decide +kernel⟩
theorem bn_law_error : XT.Bnd "_law_error" "_law_error" s_law_error ["_law_facts"] := fun _ _ _ _ _ _ us hl => match us, hl with | [_], _ => rfl

abbrev s_law : Stmt := top 31
abbrev N_law : List Str := ["_law_script", "_law_k", "_law_pool_here", "_law_some", "_law_turn", "_law_sequences", "_law_steps_here", "_law_facts", "_law_before", "_law_due", "_law_index", "_law_found", "_law_odd", "_law_bad", "_law_far"]
theorem sc_law : FnScope N_law ["_law_script"] (defScope s_law) := ⟨rfl, rfl, rfl, by decide +kernel, rfl, by decide +kernel, by decide +kernel⟩
theorem bn_law : XT.Bnd "law" "law" s_law ["_law_script"] := fun _ _ _ _ _ _ us hl => match us, hl with | [_], _ => rfl

structure Ads where
  is_integer : Addr
  is_rank : Addr
  is_number_list : Addr
  InvalidFacts___init__ : Addr
  StepFailed___init__ : Addr
  is_fact : Addr
  is_fact_list : Addr
  result_of : Addr
  agrees : Addr
  agreeing : Addr
  ascending : Addr
  after_step : Addr
  Sequence___init__ : Addr
  Sequence_is_step : Addr
  Sequence_steps : Addr
  Sequence___add__ : Addr
  Sequence___call__ : Addr
  law_pool : Addr
  law_take : Addr
  law_step : Addr
  law_steps : Addr
  law_sequence : Addr
  law_done : Addr
  law_fact : Addr
  law_agrees : Addr
  law_error : Addr
  law : Addr
  RankError : Addr
  InvalidFacts : Addr
  StepFailed : Addr
  InvalidList : Addr
  Sequence : Addr
  P_steps : Addr
  S_is_step : Addr

structure Txt (K : PySem.W.Frag) (mg : Str → Option Value) (a : Ads) : Prop where
  F_is_integer : ∃ fd, Fun K "is_integer" "is_integer" s_is_integer a.is_integer fd
  g_is_integer : mg "is_integer" = some (.ref a.is_integer)
  k_is_integer : PySem.W.keepIn K (.ref a.is_integer) = true
  F_is_rank : ∃ fd, Fun K "is_rank" "is_rank" s_is_rank a.is_rank fd
  g_is_rank : mg "is_rank" = some (.ref a.is_rank)
  k_is_rank : PySem.W.keepIn K (.ref a.is_rank) = true
  F_is_number_list : ∃ fd, Fun K "is_number_list" "is_number_list" s_is_number_list a.is_number_list fd
  g_is_number_list : mg "is_number_list" = some (.ref a.is_number_list)
  k_is_number_list : PySem.W.keepIn K (.ref a.is_number_list) = true
  F_InvalidFacts___init__ : ∃ fd, Fun K "__init__" "InvalidFacts.__init__" s_InvalidFacts___init__ a.InvalidFacts___init__ fd
  F_StepFailed___init__ : ∃ fd, Fun K "__init__" "StepFailed.__init__" s_StepFailed___init__ a.StepFailed___init__ fd
  F_is_fact : ∃ fd, Fun K "is_fact" "is_fact" s_is_fact a.is_fact fd
  g_is_fact : mg "is_fact" = some (.ref a.is_fact)
  k_is_fact : PySem.W.keepIn K (.ref a.is_fact) = true
  F_is_fact_list : ∃ fd, Fun K "is_fact_list" "is_fact_list" s_is_fact_list a.is_fact_list fd
  g_is_fact_list : mg "is_fact_list" = some (.ref a.is_fact_list)
  k_is_fact_list : PySem.W.keepIn K (.ref a.is_fact_list) = true
  F_result_of : ∃ fd, Fun K "result_of" "result_of" s_result_of a.result_of fd
  g_result_of : mg "result_of" = some (.ref a.result_of)
  k_result_of : PySem.W.keepIn K (.ref a.result_of) = true
  F_agrees : ∃ fd, Fun K "agrees" "agrees" s_agrees a.agrees fd
  g_agrees : mg "agrees" = some (.ref a.agrees)
  k_agrees : PySem.W.keepIn K (.ref a.agrees) = true
  F_agreeing : ∃ fd, Fun K "agreeing" "agreeing" s_agreeing a.agreeing fd
  g_agreeing : mg "agreeing" = some (.ref a.agreeing)
  k_agreeing : PySem.W.keepIn K (.ref a.agreeing) = true
  F_ascending : ∃ fd, Fun K "ascending" "ascending" s_ascending a.ascending fd
  g_ascending : mg "ascending" = some (.ref a.ascending)
  k_ascending : PySem.W.keepIn K (.ref a.ascending) = true
  F_after_step : ∃ fd, Fun K "after_step" "after_step" s_after_step a.after_step fd
  g_after_step : mg "after_step" = some (.ref a.after_step)
  k_after_step : PySem.W.keepIn K (.ref a.after_step) = true
  F_Sequence___init__ : ∃ fd, Fun K "__init__" "Sequence.__init__" s_Sequence___init__ a.Sequence___init__ fd
  F_Sequence_is_step : ∃ fd, Fun K "is_step" "Sequence.is_step" s_Sequence_is_step a.Sequence_is_step fd
  F_Sequence_steps : ∃ fd, Fun K "steps" "Sequence.steps" s_Sequence_steps a.Sequence_steps fd
  F_Sequence___add__ : ∃ fd, Fun K "__add__" "Sequence.__add__" s_Sequence___add__ a.Sequence___add__ fd
  F_Sequence___call__ : ∃ fd, Fun K "__call__" "Sequence.__call__" s_Sequence___call__ a.Sequence___call__ fd
  F_law_pool : ∃ fd, Fun K "_law_pool" "_law_pool" s_law_pool a.law_pool fd
  g_law_pool : mg "_law_pool" = some (.ref a.law_pool)
  k_law_pool : PySem.W.keepIn K (.ref a.law_pool) = true
  F_law_take : ∃ fd, Fun K "_law_take" "_law_take" s_law_take a.law_take fd
  g_law_take : mg "_law_take" = some (.ref a.law_take)
  k_law_take : PySem.W.keepIn K (.ref a.law_take) = true
  F_law_step : ∃ fd, Fun K "_law_step" "_law_step" s_law_step a.law_step fd
  g_law_step : mg "_law_step" = some (.ref a.law_step)
  k_law_step : PySem.W.keepIn K (.ref a.law_step) = true
  F_law_steps : ∃ fd, Fun K "_law_steps" "_law_steps" s_law_steps a.law_steps fd
  g_law_steps : mg "_law_steps" = some (.ref a.law_steps)
  k_law_steps : PySem.W.keepIn K (.ref a.law_steps) = true
  F_law_sequence : ∃ fd, Fun K "_law_sequence" "_law_sequence" s_law_sequence a.law_sequence fd
  g_law_sequence : mg "_law_sequence" = some (.ref a.law_sequence)
  k_law_sequence : PySem.W.keepIn K (.ref a.law_sequence) = true
  F_law_done : ∃ fd, Fun K "_law_done" "_law_done" s_law_done a.law_done fd
  g_law_done : mg "_law_done" = some (.ref a.law_done)
  k_law_done : PySem.W.keepIn K (.ref a.law_done) = true
  F_law_fact : ∃ fd, Fun K "_law_fact" "_law_fact" s_law_fact a.law_fact fd
  g_law_fact : mg "_law_fact" = some (.ref a.law_fact)
  k_law_fact : PySem.W.keepIn K (.ref a.law_fact) = true
  F_law_agrees : ∃ fd, Fun K "_law_agrees" "_law_agrees" s_law_agrees a.law_agrees fd
  g_law_agrees : mg "_law_agrees" = some (.ref a.law_agrees)
  k_law_agrees : PySem.W.keepIn K (.ref a.law_agrees) = true
  F_law_error : ∃ fd, Fun K "_law_error" "_law_error" s_law_error a.law_error fd
  g_law_error : mg "_law_error" = some (.ref a.law_error)
  k_law_error : PySem.W.keepIn K (.ref a.law_error) = true
  F_law : ∃ fd, Fun K "law" "law" s_law a.law fd
  g_law : mg "law" = some (.ref a.law)
  k_law : PySem.W.keepIn K (.ref a.law) = true
  b_type : mg "type" = none
  b_int : mg "int" = none
  b_list : mg "list" = none
  b_tuple : mg "tuple" = none
  b_str : mg "str" = none
  b_len : mg "len" = none
  b_isinstance : mg "isinstance" = none
  b_abs : mg "abs" = none
  b_max : mg "max" = none
  b_min : mg "min" = none
  b_range : mg "range" = none
  b_repr : mg "repr" = none
  b_all : mg "all" = none
  b_enumerate : mg "enumerate" = none
  b_sorted : mg "sorted" = none
  g_RankError : mg "RankError" = some (.ref a.RankError)
  g_InvalidFacts : mg "InvalidFacts" = some (.ref a.InvalidFacts)
  g_StepFailed : mg "StepFailed" = some (.ref a.StepFailed)
  g_InvalidList : mg "InvalidList" = some (.ref a.InvalidList)
  e_InvalidFacts : ErrC K a.InvalidFacts a.InvalidFacts___init__ "value"
  e_StepFailed : ErrG K a.StepFailed a.StepFailed___init__ "index" "RuntimeError" "RuntimeError.__new__" "RuntimeError.__init__" [.type "RuntimeError", .type "Exception", .type "BaseException", .type "object"]
  cl_S : Cls K a.Sequence
  g_Sequence : mg "Sequence" = some (.ref a.Sequence)
  M_Sequence : L2.Mk K a.Sequence a.Sequence___init__
  isi_S : C8.InsC K a.Sequence
  ty_Sequence : PySem.W.typeIn K (.ref a.Sequence) = some (.type "type")
  n_steps : NoAttr K a.Sequence "_steps"
  p_steps : PropOf K a.Sequence "steps" a.P_steps a.Sequence_steps
  rd_Sequence : ClX.CRead K a.Sequence (.type "type")
  sta_is_step : CSta K a.Sequence (.type "type") "is_step" a.S_is_step a.Sequence_is_step
  sti_is_step : CStI K a.Sequence "is_step" a.S_is_step a.Sequence_is_step
  sf_S : PySem.W.selfFirst K a.Sequence = true
  addA_S : PySem.W.findIn K (.ref a.Sequence) "__add__" = some (some (.ref a.Sequence___add__))
  addF_S : PySem.W.isFn K (.ref a.Sequence___add__) = true
  callO_S : StX.CallO K a.Sequence a.Sequence___call__
  x_FF : PySem.W.exmOne K (.ref a.InvalidFacts) (.ref a.InvalidFacts) = some true
  x_SS : PySem.W.exmOne K (.ref a.StepFailed) (.ref a.StepFailed) = some true
  r_FR : PySem.W.kitOne K (.ref a.InvalidFacts) (.ref a.RankError) = some true
  r_FL : PySem.W.kitOne K (.ref a.InvalidFacts) (.ref a.InvalidList) = some false


def cntV : V → Bool
  | .int i => decide (0 ≤ i)
  | _ => false
def rnkV : V → Bool
  | .int i => decide (0 < i)
  | _ => false
def spInt (K : PySem.W.Frag) : Sp := fun vs H Q _ => ∃ x, vs = [x] ∧ KV K H x ∧ Q (.bl (isI x)) H
def spCount (K : PySem.W.Frag) : Sp := fun vs H Q _ => ∃ x, vs = [x] ∧ KV K H x ∧ Q (.bl (cntV x)) H
def spRank (K : PySem.W.Frag) : Sp := fun vs H Q _ => ∃ x, vs = [x] ∧ KV K H x ∧ Q (.bl (rnkV x)) H
/-- a list or a tuple of values of known kinds -/
def Sq (K : PySem.W.Frag) (H : Hp) (x : V) (xs : List V) : Prop := ∃ p, x = .ref p ∧ (SqL K H p xs ∨ SqT K H p xs) ∧ (∀ y ∈ xs, KV K H y) ∧ xs.length ≤ 100000
/-- a value of another kind -/
def Od (K : PySem.W.Frag) (H : Hp) (x : V) : Prop := ∃ n, TyB K H x n ∧ tyN n = true ∧ n ≠ "list" ∧ n ≠ "tuple"
/-- a check of lists: what it says of a list's items -/
def spChk (K : PySem.W.Frag) (f : List V → Bool) : Sp := fun vs H Q _ => ∃ x, vs = [x] ∧ ((∃ xs, Sq K H x xs ∧ ∀ H', Same H H' → Q (.bl (f xs)) H') ∨ (Od K H x ∧ ∀ H', Same H H' → Q (.bl false) H'))
def numsV (xs : List V) : Bool := xs.all isI
section
variable {P : Program} {w : World} {K : PySem.W.Frag} {mg : Str → Option Value} {base : Heap} {a : Ads}

theorem ok_is_integer (T : Txt K mg a) : FnR P w K mg base CX0 1 a.is_integer (spInt K) := by
  obtain ⟨fd, F⟩ := T.F_is_integer
  refine XT.okR F sc_is_integer bn_is_integer (fun vs H Q E h => ?_) (fun cdv A outer s H vs Q E hr h => ?_)
  · obtain ⟨x, rfl, _⟩ := h
    rfl
  · obtain ⟨x, rfl, ⟨n, ht, hn⟩, q⟩ := h
    refine ⟨_, (pss_one (ps_ret (pe_cmpR op_eqTy (pe_callTy (typeK K) (by rfl) T.b_type (by decide +kernel) (pa_cons (pv 0) pa_nil)) (pe_bltn (v := .ty "int") (u := .type "int") (by rfl) T.b_int (by decide +kernel) rfl) (nomark _)))), ?_⟩
    refine ⟨x, rfl, x, n, rfl, ht, n, "int", rfl, rfl, hn, by decide +kernel, ?_⟩
    rw [tyB_isI ht]
    exact q

theorem ok_is_rank (T : Txt K mg a) : FnR P w K mg base CX0 2 a.is_rank (spRank K) := by
  obtain ⟨fd, F⟩ := T.F_is_rank
  refine XT.okR F sc_is_rank bn_is_rank (fun vs H Q E h => ?_) (fun cdv A outer s H vs Q E hr h => ?_)
  · obtain ⟨x, rfl, _⟩ := h
    rfl
  · obtain ⟨x, rfl, hk, q⟩ := h
    have G_is_integer := ok_is_integer (P := P) (w := w) (base := base) T
    refine ⟨_, (pss_one (ps_ret (pe_and (pe_callR G_is_integer (hr.mono (by decide)) rfl T.g_is_integer T.k_is_integer pass0 (pa_cons (pv 0) pa_nil)) (pe_one (pe_cmpR op_gt (pv 0) pe_int (nomark _)))))), ?_⟩
    refine ⟨x, rfl, x, rfl, hk, _, rfl, ?_⟩
    cases x with
    | int i => exact iteT ⟨_, rfl, _, _, rfl, rfl, q⟩
    | _ => exact iteF q

theorem iteH {c : Bool} {A B : Prop} (h : c = true) (x : A) : if c = true then A else B := by
  rw [if_pos h]
  exact x
theorem iteN {c : Bool} {A B : Prop} (h : c = false) (x : B) : if c = true then A else B := by
  rw [h]
  exact iteF x
theorem all_map_bl (f : V → Bool) (xs : List V) : ((xs.map f).all id) = xs.all f := by
  rw [List.all_map]
  rfl
theorem in_lt {n : String} (h1 : n ≠ "list") (h2 : n ≠ "tuple") : (["list", "tuple"].any fun m => decide (m = n)) = false := by
  simp [Ne.symm h1, Ne.symm h2]
theorem line_ge : (100000 : Nat) ≤ sizeLine := by rw [sizeLine_eq]; decide
theorem ok_is_number_list (T : Txt K mg a) : FnR P w K mg base CX0 2 a.is_number_list (spChk K numsV) := by
  obtain ⟨fd, F⟩ := T.F_is_number_list
  refine XT.okR F sc_is_number_list bn_is_number_list (fun vs H Q E h => ?_) (fun cdv A outer s H vs Q E hr h => ?_)
  · obtain ⟨x, rfl, _⟩ := h
    rfl
  · obtain ⟨x, rfl, hq⟩ := h
    have G_is_integer := ok_is_integer (P := P) (w := w) (base := base) T
    rcases hq with ⟨xs, ⟨p, rfl, hS, kv, hl⟩, q0⟩ | ⟨⟨n, ht, hn, n1, n2⟩, q0⟩
    · rcases hS with hS | hS
      · refine ⟨_, (pss_one (ps_ret (pe_and (pe_cmpR (inTyK K) (pe_callTy (typeK K) (by rfl) T.b_type (by decide +kernel) (pa_cons (pv 0) pa_nil)) (pe_tup (pa_cons (pe_bltn (v := .ty "list") (u := .type "list") (by rfl) T.b_list (by decide +kernel) rfl) (pa_cons (pe_bltn (v := .ty "tuple") (u := .type "tuple") (by rfl) T.b_tuple (by decide +kernel) rfl) pa_nil))) (by rfl)) (pe_one (pe_callB (allK K rfl) (by rfl) T.b_all (by decide +kernel) (pa_cons (pe_lc (own := [("number", 1)])  rfl sc_is_number_list.nd (pi_list (pv 0)) (blkOk_by (N := N_is_number_list) (sc := defScope s_is_number_list) (by decide +kernel)) (fun _ _ _ _ _ => by exact (pg_name (i := 1) sc_is_number_list.nd rfl (Or.inl rfl))) (fun _ _ _ _ _ => by exact pts_nil) (fun _ _ _ _ _ => by exact (pe_callR G_is_integer (hr.mono (by decide)) rfl T.g_is_integer T.k_is_integer pass0 (pa_cons (pv 1) pa_nil)))) pa_nil)))))), ?_⟩
        have hS1 : ∀ q o, H q = Option.none → SqL K (upd H q o) p xs := fun q o hq => Same.seq (same_new hq) hS
        refine ⟨_, rfl, _, "list", rfl, TyB.lst hS, by decide, fun q hq => ⟨_, q, ["list", "tuple"], rfl, rfl, SqT.of upd_same, by decide +kernel, by decide +kernel, _, rfl, iteH (by decide +kernel) ?_⟩⟩
        refine ⟨_, rfl, p, rfl, ⟨xs, hS1 _ _ hq⟩, fun D hD => lcM (stat_list (hS1 _ _ hq)) hD (fun i => .bl (isI (xs.getD i .non))) (Nat.le_trans hl line_ge) ?_ ?_⟩
        · intro i y H2 R hi s px k
          refine ⟨rfl, y, rfl, y, rfl, (kv y (List.mem_of_getElem? px)).same ((same_new hq).trans s), ?_⟩
          have := k _ (Same.refl _)
          rw [getD_of px] at this
          exact this
        · intro H2 s hL
          rw [range_map (fun y => V.bl (isI y)) .non xs] at hL
          refine ⟨D, xs.map isI, rfl, SqL.of (by rw [hL, List.map_map]; rfl), ?_⟩
          rw [all_map_bl]
          exact q0 _ ((same_new hq).trans s)
      · refine ⟨_, (pss_one (ps_ret (pe_and (pe_cmpR (inTyK K) (pe_callTy (typeK K) (by rfl) T.b_type (by decide +kernel) (pa_cons (pv 0) pa_nil)) (pe_tup (pa_cons (pe_bltn (v := .ty "list") (u := .type "list") (by rfl) T.b_list (by decide +kernel) rfl) (pa_cons (pe_bltn (v := .ty "tuple") (u := .type "tuple") (by rfl) T.b_tuple (by decide +kernel) rfl) pa_nil))) (by rfl)) (pe_one (pe_callB (allK K rfl) (by rfl) T.b_all (by decide +kernel) (pa_cons (pe_lc (own := [("number", 1)])  rfl sc_is_number_list.nd (pi_tup (pv 0)) (blkOk_by (N := N_is_number_list) (sc := defScope s_is_number_list) (by decide +kernel)) (fun _ _ _ _ _ => by exact (pg_name (i := 1) sc_is_number_list.nd rfl (Or.inl rfl))) (fun _ _ _ _ _ => by exact pts_nil) (fun _ _ _ _ _ => by exact (pe_callR G_is_integer (hr.mono (by decide)) rfl T.g_is_integer T.k_is_integer pass0 (pa_cons (pv 1) pa_nil)))) pa_nil)))))), ?_⟩
        have hS1 : ∀ q o, H q = Option.none → SqT K (upd H q o) p xs := fun q o hq => same_seqT (same_new hq) hS
        refine ⟨_, rfl, _, "tuple", rfl, TyB.tup hS, by decide, fun q hq => ⟨_, q, ["list", "tuple"], rfl, rfl, SqT.of upd_same, by decide +kernel, by decide +kernel, _, rfl, iteH (by decide +kernel) ?_⟩⟩
        refine ⟨_, rfl, p, rfl, ⟨xs, hS1 _ _ hq⟩, fun D hD => lcM (stat_tup (hS1 _ _ hq)) hD (fun i => .bl (isI (xs.getD i .non))) (Nat.le_trans hl line_ge) ?_ ?_⟩
        · intro i y H2 R hi s px k
          refine ⟨rfl, y, rfl, y, rfl, (kv y (List.mem_of_getElem? px)).same ((same_new hq).trans s), ?_⟩
          have := k _ (Same.refl _)
          rw [getD_of px] at this
          exact this
        · intro H2 s hL
          rw [range_map (fun y => V.bl (isI y)) .non xs] at hL
          refine ⟨D, xs.map isI, rfl, SqL.of (by rw [hL, List.map_map]; rfl), ?_⟩
          rw [all_map_bl]
          exact q0 _ ((same_new hq).trans s)
    · refine ⟨_, (pss_one (ps_ret (pe_and (pe_cmpR (inTyK K) (pe_callTy (typeK K) (by rfl) T.b_type (by decide +kernel) (pa_cons (pv 0) pa_nil)) (pe_tup (pa_cons (pe_bltn (v := .ty "list") (u := .type "list") (by rfl) T.b_list (by decide +kernel) rfl) (pa_cons (pe_bltn (v := .ty "tuple") (u := .type "tuple") (by rfl) T.b_tuple (by decide +kernel) rfl) pa_nil))) (by rfl)) (pe_one (pe_callB (allK K rfl) (by rfl) T.b_all (by decide +kernel) (pa_cons (pe_lc (own := [("number", 1)])  rfl sc_is_number_list.nd (pi_list (pv 0)) (blkOk_by (N := N_is_number_list) (sc := defScope s_is_number_list) (by decide +kernel)) (fun _ _ _ _ _ => by exact (pg_name (i := 1) sc_is_number_list.nd rfl (Or.inl rfl))) (fun _ _ _ _ _ => by exact pts_nil) (fun _ _ _ _ _ => by exact (pe_callR G_is_integer (hr.mono (by decide)) rfl T.g_is_integer T.k_is_integer pass0 (pa_cons (pv 1) pa_nil)))) pa_nil)))))), ?_⟩
      exact ⟨_, rfl, _, n, rfl, ht, by decide, fun q hq => ⟨_, q, ["list", "tuple"], rfl, rfl, SqT.of upd_same, hn, by decide +kernel, _, rfl, iteN (in_lt n1 n2) (q0 _ (same_new hq))⟩⟩

def vi : V → Int
  | .int i => i
  | _ => 0
theorem nums_map {xs : List V} (h : numsV xs = true) : xs = (xs.map vi).map V.int := by
  unfold numsV at h
  rw [List.all_eq_true] at h
  rw [List.map_map]
  conv => lhs; rw [← List.map_id xs]
  apply List.map_congr_left
  intro x hx
  have := h x hx
  cases x with
  | int i => rfl
  | _ => exact absurd this Bool.false_ne_true
theorem nums_of (L : List Int) : numsV (L.map V.int) = true := by
  unfold numsV
  rw [List.all_map]
  exact List.all_eq_true.mpr fun x _ => rfl
theorem vi_map (L : List Int) : (L.map V.int).map vi = L := by
  rw [List.map_map]
  exact List.map_id L
def ascV (xs : List V) : Bool := numsV xs && decide (Tbl.Asc (xs.map vi))
theorem cut1 (xs : List V) : cutV xs (some 1) Option.none = xs.drop 1 := by
  unfold cutV
  have e : HT.sIx xs.length 0 (some 1) = min 1 xs.length := HT.sIx_nat xs.length 0 1
  rw [e, HT.sIx_none]
  cases xs with
  | nil => rfl
  | cons x xs => simp
theorem asc_all (L : List Int) : ((List.range (min L.length (L.drop 1).length)).map fun i => decide (L.getD i 0 < L.getD (i + 1) 0)).all id = decide (Tbl.Asc L) := by
  rw [Bool.eq_iff_iff, decide_eq_true_eq, Tbl.asc_adj, List.all_eq_true]
  constructor
  · intro h i hi
    have := h (decide (L.getD i 0 < L.getD (i + 1) 0)) (List.mem_map.mpr ⟨i, List.mem_range.mpr (by simp; omega), rfl⟩)
    simpa [List.getD, hi, Nat.lt_of_succ_lt hi] using this
  · intro h b hb
    obtain ⟨i, hi, rfl⟩ := List.mem_map.mp hb
    have hi' : i + 1 < L.length := by have := List.mem_range.mp hi; simp at this; omega
    simpa [List.getD, hi', Nat.lt_of_succ_lt hi'] using h i hi' 
theorem tyB_isS {H : Hp} {x : V} {n : String} (h : TyB K H x n) : decide (n = "str") = (match x with | .str _ => true | _ => false) := by
  cases h <;> first | rfl | decide +kernel
/-- whether a pair is a step -/
def stpV : V → V → Bool
  | .str z, y => if decide (V.str z = V.str "insert") = true then isI y else (decide (V.str z = V.str "remove") && rnkV y)
  | _, _ => false
theorem stpV_st (s : Stp) : stpV (.str (wrd s.1)) (.int s.2) = goodS s := by
  obtain ⟨b, i⟩ := s
  cases b
  · have h1 : decide (V.str (wrd false) = V.str "insert") = false := by decide +kernel
    have h2 : decide (V.str (wrd false) = V.str "remove") = true := by decide +kernel
    simp only [stpV, h1, h2, Bool.false_eq_true, if_false, Bool.true_and, rnkV, goodS, Bool.false_or]
  · have h1 : decide (V.str (wrd true) = V.str "insert") = true := by decide +kernel
    simp only [stpV, h1, if_true, isI, goodS, Bool.true_or]
/-- is_step -/
def spStp (K : PySem.W.Frag) : Sp := fun vs H Q _ => ∃ x, vs = [x] ∧ ((∃ n, TyB K H x n ∧ tyN n = true ∧ n ≠ "tuple" ∧ Q (.bl false) H) ∨ (∃ r xs, x = .ref r ∧ SqT K H r xs ∧ xs.length ≠ 2 ∧ Q (.bl false) H) ∨
  ∃ r u y, x = .ref r ∧ SqT K H r [u, y] ∧ KV K H u ∧ KV K H y ∧ Q (.bl (stpV u y)) H)
theorem kv_str {H : Hp} (z : Str) : KV K H (.str z) := ⟨"str", .str z, by decide +kernel⟩
theorem stp_of {H : Hp} {Q : VK} {E : XK} {x : V} {s : Stp} (h : StAt K H x s) (q : Q (.bl (goodS s)) H) : spStp K [x] H Q E := by
  obtain ⟨r, rfl, hr⟩ := h
  exact ⟨_, rfl, .inr (.inr ⟨r, _, _, rfl, hr, kv_str _, kv_int _, by rw [stpV_st]; exact q⟩)⟩
theorem stp_good {H : Hp} {Q : VK} {E : XK} {x : V} {s : Stp} (h : StAt K H x s) (g : goodS s = true) (q : Q (.bl true) H) : spStp K [x] H Q E := stp_of h (by rw [g]; exact q)
theorem ok_Sequence_is_step (T : Txt K mg a) : FnR P w K mg base CX0 3 a.Sequence_is_step (spStp K) := by
  obtain ⟨fd, F⟩ := T.F_Sequence_is_step
  refine XT.okR F sc_Sequence_is_step bn_Sequence_is_step (fun vs H Q E h => ?_) (fun cdv A outer s H vs Q E hr h => ?_)
  · obtain ⟨x, rfl, _⟩ := h
    rfl
  · obtain ⟨x, rfl, h⟩ := h
    have G_is_integer := ok_is_integer (P := P) (w := w) (base := base) T
    have G_is_rank := ok_is_rank (P := P) (w := w) (base := base) T
    refine ⟨_, (pss_cons (ps_if (PW.pt (pw_or (pt_cmpR op_neTy (pe_callTy (typeK K) (by rfl) T.b_type (by decide +kernel) (pa_cons (pv 0) pa_nil)) (pe_bltn (v := .ty "tuple") (u := .type "tuple") (by rfl) T.b_tuple (by decide +kernel) rfl) (nomark _)) (pw_or1 (pt_cmpR op_ne (pe_callB (lenK K) (by rfl) T.b_len (by decide +kernel) (pa_cons (pv 0) pa_nil)) pe_int (nomark _))))) (pss_one (ps_ret pe_bl)) pss_nil)
      (pss_cons (ps_asg (pv 0) (tupK K (n := 2) (by rfl) (pgs_cons (pg_name (i := 1) sc_Sequence_is_step.nd rfl (Or.inl rfl)) (pgs_cons (pg_name (i := 2) sc_Sequence_is_step.nd rfl (Or.inl rfl)) pgs_nil))))
      (pss_cons (ps_if (pt_cmpR op_neTy (pe_callTy (typeK K) (by rfl) T.b_type (by decide +kernel) (pa_cons (pv 1) pa_nil)) (pe_bltn (v := .ty "str") (u := .type "str") (by rfl) T.b_str (by decide +kernel) rfl) (nomark _)) (pss_one (ps_ret pe_bl)) pss_nil)
      (pss_cons (ps_if (pt_cmpR op_eq (pv 1) pe_str (nomark _)) (pss_one (ps_ret (pe_callR G_is_integer (hr.mono (by decide)) rfl T.g_is_integer T.k_is_integer pass0 (pa_cons (pv 2) pa_nil)))) pss_nil)
      (pss_one (ps_ret (pe_and (pe_cmpR op_eq (pv 1) pe_str (nomark _)) (pe_one (pe_callR G_is_rank (hr.mono (by decide)) rfl T.g_is_rank T.k_is_rank pass0 (pa_cons (pv 2) pa_nil)))))))))), ?_⟩
    rcases h with ⟨n, ht, hn, hne, q⟩ | ⟨r, xs, rfl, hS, hl, q⟩ | ⟨r, u, y, rfl, hS, ku, ky, q⟩
    · refine ⟨_, rfl, _, n, rfl, ht, n, "tuple", rfl, rfl, hn, by decide +kernel, _, rfl, iteH (by simp [hne]) ?_⟩
      exact q
    · refine ⟨_, rfl, _, "tuple", rfl, .tup hS, "tuple", "tuple", rfl, rfl, by decide +kernel, by decide +kernel, _, rfl, iteN (by decide) ?_⟩
      refine ⟨_, rfl, r, xs, rfl, .inr hS, rfl, _, rfl, iteH (by simp; omega) ?_⟩
      exact q
    · refine ⟨_, rfl, _, "tuple", rfl, .tup hS, "tuple", "tuple", rfl, rfl, by decide +kernel, by decide +kernel, _, rfl, iteN (by decide) ?_⟩
      refine ⟨_, rfl, r, [u, y], rfl, .inr hS, rfl, _, rfl, iteN (by simp) ?_⟩
      refine ⟨_, rfl, r, [u, y], rfl, hS, rfl, u, [y], rfl, y, [], rfl, rfl, ?_⟩
      obtain ⟨nu, hu, hnu⟩ := ku
      have e := tyB_isS hu
      cases u with
      | str z =>
        refine ⟨_, rfl, _, nu, rfl, hu, nu, "str", rfl, rfl, hnu, by decide +kernel, _, rfl, iteN (by rw [e]; rfl) ?_⟩
        have q : Q (.bl (if decide (V.str z = V.str "insert") = true then isI y else (decide (V.str z = V.str "remove") && rnkV y))) H := q
        refine ⟨_, rfl, rfl, _, rfl, ite2 (fun h1 => ?_) (fun h1 => ?_)⟩
        · refine ⟨y, rfl, y, rfl, ky, ?_⟩
          rw [if_pos h1] at q
          exact q
        · rw [if_neg h1] at q
          refine ⟨_, rfl, rfl, _, rfl, ite2 (fun h2 => ?_) (fun h2 => ?_)⟩
          · refine ⟨y, rfl, y, rfl, ky, ?_⟩
            rw [h2] at q
            exact q
          · rw [Bool.not_eq_true _ |>.mp h2] at q
            exact q
      | _ =>
        refine ⟨_, rfl, _, nu, rfl, hu, nu, "str", rfl, rfl, hnu, by decide +kernel, _, rfl, iteH (by rw [e]; rfl) ?_⟩
        exact q

end
end K43
namespace K43
open PySem L2 XT
section
variable {P : Program} {w : World} {K : PySem.W.Frag} {mg : Str → Option Value} {base : Heap} {a : Ads}
local macro_rules | `(tactic| walk_at "rside") => `(tactic| first | (show (0 : Int) < _; first | decide | omega) | (exact ⟨by first | decide | omega, by first | decide | omega⟩) | (exact Or.inl ⟨by omega, by omega⟩) | (exact Or.inr ⟨by omega, by omega⟩) | (exact ⟨by decide, by decide, by decide⟩))
local macro_rules | `(tactic| walk_at "rd1") => `(tactic| first | (refine ⟨_, rfl, ?_⟩) | (refine ⟨_, _, rfl, rfl, (by walk_at "rside"), ?_⟩) | (refine ⟨_, _, rfl, rfl, ?_⟩))
local macro_rules | `(tactic| walk_at "rd") => `(tactic| repeat (walk_at "rd1"))

/-- a sequence's fields -/
abbrev sfl (p : Addr) : List (Str × V) := putF "_steps" (.ref p) []
/-- a sequence of the steps L stands at t -/
def SqcAt (K : PySem.W.Frag) (C : Addr) (H : Hp) (t : Addr) (L : List Stp) : Prop := ∃ dx p xs, H t = some (.ins C dx (sfl p)) ∧ SqT K H p xs ∧ StsAt K H xs L ∧ ∀ s ∈ L, goodS s = true
theorem SqcAt.same {C : Addr} {H H' : Hp} {t : Addr} {L : List Stp} (h : SqcAt K C H t L) (e : Same H H') : SqcAt K C H' t L :=
  let ⟨dx, p, xs, a, b, c, d⟩ := h
  ⟨dx, p, xs, e _ _ a, same_seqT e b, sts_same c e, d⟩
theorem SqcAt.insA {C : Addr} {H : Hp} {t : Addr} {L : List Stp} (h : SqcAt K C H t L) : InsA H t C := let ⟨dx, p, xs, a, _⟩ := h; ⟨dx, _, a⟩
theorem SqcAt.good {C : Addr} {H : Hp} {t : Addr} {L : List Stp} (h : SqcAt K C H t L) : ∀ s ∈ L, goodS s = true := let ⟨dx, p, xs, a, b, c, d⟩ := h; d
theorem SqcAt.ins {C : Addr} {H : Hp} {t : Addr} {L : List Stp} (h : SqcAt K C H t L) : ∃ dx p, H t = some (.ins C dx (sfl p)) := let ⟨dx, p, xs, a, _⟩ := h; ⟨dx, p, a⟩
theorem sfl_steps (p : Addr) : (sfl p).lookup ("_steps" : Str) = some (V.ref p) := by
  simp [sfl, putF, List.lookup]
theorem sfl_no (p : Addr) (m : Str) (h : (m == ("_steps" : Str)) = false) : (sfl p).lookup m = Option.none := by
  simp [sfl, putF, List.lookup, h]
/-- Sequence.__init__: at its best -/
def spInit (K : PySem.W.Frag) (C : Addr) : Sp := fun vs H Q _ => ∃ (t p dx : Addr) (xs : List V) (L : List Stp), vs = [.ref t, .ref p] ∧ H t = some (.ins C dx []) ∧ SqT K H p xs ∧ StsAt K H xs L ∧ (∀ s ∈ L, goodS s = true) ∧ Q .non (upd H t (.ins C dx (sfl p)))
theorem ok_Sequence___init__ (T : Txt K mg a) : FnR P w K mg base CX0 4 a.Sequence___init__ (spStar 1 (spInit K a.Sequence)) := by
  obtain ⟨fd, F⟩ := T.F_Sequence___init__
  have G_is_step := ok_Sequence_is_step (P := P) (w := w) (base := base) T
  refine XT.okStar0 (ps := ["self"]) F sc_Sequence___init__ bn_Sequence___init__ (fun cdv A outer s H vs Q E hr h => ?_)
  obtain ⟨t, p, dx, xs, L, rfl, ht, hS, hL, hg, q⟩ := h
  refine ⟨_, PSs.nox ((pss_cons (ps_for PassesOwn.never rfl (pi_tup (pv 1)) (pg_name (i := 2) sc_Sequence___init__.nd rfl (Or.inl rfl))
        (pss_one (ps_if (pt_not (pt_val (pe_staI (pv 0) T.sti_is_step G_is_step (hr.mono (by decide)) pass0 (pa_cons (pv 2) pa_nil)))) (pss_one ps_never) pss_nil)))
      (pss_one (ps_fld (pv 0) (pv 1) rfl)))), ?_⟩
  refine ⟨_, rfl, p, rfl, ⟨_, hS⟩, for_tup (K := K) (a := p) (xs := xs) (fun i σ H' => H' = H ∧ ∃ o, σ = [some (.ref t), some (.ref p), o]) ⟨rfl, _, rfl⟩ (fun i σ H' _ ⟨e, _⟩ => by rw [e]; exact hS) ?_ ?_⟩
  · rintro i x σ H' hx ⟨rfl, o, rfl⟩
    obtain ⟨s, hs, hst⟩ := pd_get hL hx
    refine ⟨_, rfl, t, dx, [], rfl, ht, rfl, _, rfl, ?_⟩
    dsimp only [tNil]
    refine stp_good hst (hg s (List.mem_of_getElem? hs)) ⟨_, rfl, iteN rfl ?_⟩
    exact ⟨rfl, _, rfl⟩
  · rintro σ H' ⟨rfl, o, rfl⟩
    exact ⟨_, rfl, _, rfl, t, a.Sequence, dx, _, rfl, ht, T.cl_S, T.n_steps, (by show 0 < 1000; decide), q⟩
/-- a sequence made out of steps -/
theorem sq_mk {C : Addr} {H1 : Hp} {xs : List V} {L : List Stp} {Q : VK} {E : XK} {x dx : Addr} (nx : H1 x = Option.none) (ndx : H1 dx = Option.none) (ne : dx ≠ x) (hL : StsAt K H1 xs L) (hg : ∀ s ∈ L, goodS s = true) (hz : xs.length ≤ 100000) (k : ∀ H', Same H1 H' → SqcAt K C H' x L → Q .non H') :
    spStar 1 (spInit K C) (V.ref x :: xs) (upd (upd H1 dx (.own x)) x (.ins C dx [])) Q E := by
  refine ⟨[V.ref x], xs, rfl, rfl, Nat.le_trans hz line_ge, fun p hp => ?_⟩
  have npx : p ≠ x := fun z => by rw [z, upd_same] at hp; cases hp
  have npd : p ≠ dx := fun z => by rw [z, upd_ne ne, upd_same] at hp; cases hp
  have hp1 : H1 p = Option.none := by rw [upd_ne npx, upd_ne npd] at hp; exact hp
  have s1 : Same H1 (upd (upd (upd H1 dx (.own x)) x (.ins C dx [])) p (.tup xs)) := (same_upd (same_new ndx) nx).trans (same_new hp)
  have s2 : Same H1 (upd (upd (upd (upd H1 dx (.own x)) x (.ins C dx [])) p (.tup xs)) x (.ins C dx (sfl p))) := same_upd s1 nx
  exact ⟨x, p, dx, xs, L, rfl, by rw [upd_ne (Ne.symm npx), upd_same], SqT.of upd_same, sts_same hL s1, hg, k _ s2 ⟨dx, p, xs, upd_same, SqT.of (by rw [upd_ne npx, upd_same]), sts_same hL s2, hg⟩⟩
theorem sq_made {C : Addr} {H1 : Hp} {xs : List V} {L : List Stp} {Q : VK} {E : XK} (hL : StsAt K H1 xs L) (hg : ∀ s ∈ L, goodS s = true) (hz : xs.length ≤ 100000) (k : ∀ t H', Same H1 H' → H1 t = Option.none → SqcAt K C H' t L → Q (.ref t) H') :
    ∀ x dx, H1 x = Option.none → H1 dx = Option.none → dx ≠ x → spStar 1 (spInit K C) (V.ref x :: xs) (upd (upd H1 dx (.own x)) x (.ins C dx [])) (fun v H2 => v = .non ∧ Q (.ref x) H2) E :=
  fun x dx nx ndx ne => sq_mk nx ndx ne hL hg hz fun H' s h => ⟨rfl, k x H' s nx h⟩
/-- .. asked with something that is no step -/
def spInitBad (K : PySem.W.Frag) (C CE : Addr) : Sp := fun vs H _ E => ∃ (t p dx : Addr) (xs ys : List V) (y : V) (L : List Stp), vs = [.ref t, .ref p] ∧ H t = some (.ins C dx []) ∧ SqT K H p (xs ++ y :: ys) ∧ StsAt K H xs L ∧ (∀ s ∈ L, goodS s = true) ∧
  ((∃ n, TyB K H y n ∧ tyN n = true ∧ n ≠ "tuple") ∨ (∃ r zs, y = .ref r ∧ SqT K H r zs ∧ zs.length ≠ 2) ∨ ∃ r u z, y = .ref r ∧ SqT K H r [u, z] ∧ KV K H u ∧ KV K H z ∧ stpV u z = false) ∧
  ∀ d, H d = Option.none → E (.ref CE) (some d) (upd H d (.xd [("value", y)]))
theorem okE_InvalidFacts (T : Txt K mg a) (e : ErrC K a.InvalidFacts a.InvalidFacts___init__ "value") {fd : FuncData} (F : Fun K "__init__" "InvalidFacts.__init__" s_InvalidFacts___init__ a.InvalidFacts___init__ fd) : FnOk P w K mg base CX0 1 a.InvalidFacts___init__ fd ["self", "value"] (spErr "value" a.InvalidFacts) := by
  refine F.ok sc_InvalidFacts___init__ (fun vs H Q E h => ?_) (fun cdv A outer s H vs Q E hr h => ?_)
  · obtain ⟨x, v, rfl, _⟩ := h
    rfl
  · obtain ⟨x, v, rfl, hx, q⟩ := h
    exact ⟨_, (pss_one (ps_ost (pv 0) (pv 1))), _, rfl, _, rfl, x, a.InvalidFacts, rfl, e.oex, e.no, .inl ⟨hx, fun dx hn hne => q dx hn hne⟩⟩
theorem okE_StepFailed (T : Txt K mg a) (e : ErrG K a.StepFailed a.StepFailed___init__ "index" "RuntimeError" "RuntimeError.__new__" "RuntimeError.__init__" [.type "RuntimeError", .type "Exception", .type "BaseException", .type "object"]) {fd : FuncData} (F : Fun K "__init__" "StepFailed.__init__" s_StepFailed___init__ a.StepFailed___init__ fd) : FnOk P w K mg base CX0 1 a.StepFailed___init__ fd ["self", "index"] (spErr "index" a.StepFailed) := by
  refine F.ok sc_StepFailed___init__ (fun vs H Q E h => ?_) (fun cdv A outer s H vs Q E hr h => ?_)
  · obtain ⟨x, v, rfl, _⟩ := h
    rfl
  · obtain ⟨x, v, rfl, hx, q⟩ := h
    exact ⟨_, (pss_one (ps_gst (pv 0) (pv 1))), _, rfl, _, rfl, x, a.StepFailed, _, _, _, _, rfl, e.bx, e.oex, e.no, hx, fun dx hn hne => q dx hn hne⟩
def spSteps (K : PySem.W.Frag) (C : Addr) : Sp := fun vs H Q _ => ∃ t L, vs = [.ref t] ∧ SqcAt K C H t L ∧ ∀ p xs, SqT K H p xs → StsAt K H xs L → Q (.ref p) H
def spLen (K : PySem.W.Frag) (C : Addr) : Sp := fun vs H Q _ => ∃ t L, vs = [.ref t] ∧ SqcAt K C H t L ∧ Q (.int (L.length : Int)) H
def spEqS (K : PySem.W.Frag) (C : Addr) : Sp := fun vs H Q _ => ∃ t u L M, vs = [.ref t, .ref u] ∧ SqcAt K C H t L ∧ SqcAt K C H u M ∧ Q (.bl (decide (L = M))) H
def spEqSo (K : PySem.W.Frag) (C : Addr) : Sp := fun vs H Q _ => ∃ (t : Addr) (y : V) (ty : Value), vs = [.ref t, y] ∧ TyX K H y ty ∧ PySem.W.kitOne K ty (.ref C) = some false ∧ Q (.bl false) H
def spAddS (K : PySem.W.Frag) (C : Addr) : Sp := fun vs H Q _ => ∃ t u L M, vs = [.ref t, .ref u] ∧ SqcAt K C H t L ∧ SqcAt K C H u M ∧ L.length + M.length ≤ 100000 ∧ ∀ r H', Same H H' → H r = Option.none → SqcAt K C H' r (L ++ M) → Q (.ref r) H'
def spMulS (K : PySem.W.Frag) (C : Addr) : Sp := fun vs H Q _ => ∃ t L n, vs = [.ref t, .int n] ∧ SqcAt K C H t L ∧ 0 ≤ n ∧ (L = [] ∨ n ≤ 100) ∧ L.length ≤ 1000 ∧ ∀ r H', Same H H' → H r = Option.none → SqcAt K C H' r (List.replicate n.toNat L).flatten → Q (.ref r) H'
theorem rep_nil (n : Nat) : (List.replicate n ([] : List Stp)).flatten = [] := by simp
theorem ok_Sequence_steps (T : Txt K mg a) : FnR P w K mg base CX0 1 a.Sequence_steps (spSteps K a.Sequence) := by
  obtain ⟨fd, F⟩ := T.F_Sequence_steps
  refine XT.okR F sc_Sequence_steps bn_Sequence_steps (fun vs H Q E h => ?_) (fun cdv A outer s H vs Q E hr h => ?_)
  · obtain ⟨t, L, rfl, _⟩ := h
    rfl
  · obtain ⟨t, L, rfl, ⟨dx, p, xs, ht, hS, hL, hg⟩, q⟩ := h
    refine ⟨_, (pss_one (ps_ret (fldK K (pv 0) rfl))), ?_⟩
    exact ⟨_, rfl, t, a.Sequence, dx, _, _, rfl, ht, T.cl_S, T.n_steps, sfl_steps _, q p xs hS hL⟩

theorem ok_Sequence___add__ (T : Txt K mg a) : FnR P w K mg base CX0 6 a.Sequence___add__ (spAddS K a.Sequence) := by
  obtain ⟨fd, F⟩ := T.F_Sequence___add__
  refine XT.okR F sc_Sequence___add__ bn_Sequence___add__ (fun vs H Q E h => ?_) (fun cdv A outer s H vs Q E hr h => ?_)
  · obtain ⟨t, u, L, L2, rfl, _⟩ := h
    rfl
  · obtain ⟨t, u, L, L2, rfl, ⟨dx, p, xs, ht, hS, hL, hg⟩, ⟨dy, p2, ys, hu, hS2, hL2, hg2⟩, hz, k⟩ := h
    have G_Sequence_init := ok_Sequence___init__ (P := P) (w := w) (base := base) T
    refine ⟨_, (pss_cons (ps_set (i := 2) sc_Sequence___add__.nd rfl (Or.inl rfl) (pe_op op_catA (fldK K (pv 0) rfl) (fldK K (pv 1) rfl)))
      (pss_one (ps_ret (pe_makeS1 T.M_Sequence G_Sequence_init (hr.mono (by decide)) rfl T.g_Sequence pass0 (pv 2))))), ?_⟩
    have hgg : ∀ s ∈ L ++ L2, goodS s = true := fun s hs => (List.mem_append.mp hs).elim (hg s) (hg2 s)
    have l1 := hL.length
    have l2 := hL2.length
    have fin : ∀ (q : Addr) (zs : List V) (H1 : Hp), Same H H1 → SqT K H1 q zs → StsAt K H1 zs (L ++ L2) → (∀ x dx, H1 x = Option.none → H1 dx = Option.none → dx ≠ x → spStar 1 (spInit K a.Sequence) (V.ref x :: zs) (upd (upd H1 dx (.own x)) x (.ins a.Sequence dx [])) (fun v H2 => v = .non ∧ Q (.ref x) H2) E0) := fun q zs H1 s1 hq hz1 =>
      sq_made hz1 hgg (by rw [hz1.length, List.length_append]; omega) fun r H' s2 nr hr => k r H' (s1.trans s2) (s1.free nr) hr
    refine ⟨_, rfl, t, a.Sequence, dx, _, _, rfl, ht, T.cl_S, T.n_steps, sfl_steps _, _, rfl, u, a.Sequence, dy, _, _, rfl, hu, T.cl_S, T.n_steps, sfl_steps _, p, p2, xs, ys, rfl, rfl, hS, hS2, Nat.le_trans (by omega) line_ge, fun e => ?_, fun e1 e2 => ?_, fun e1 e2 q hq => ?_⟩
    · subst e
      cases hL
      exact ⟨_, rfl, _, _, rfl, .inl hS2, fin p2 ys H (Same.refl H) hS2 hL2⟩
    · subst e2
      cases hL2
      exact ⟨_, rfl, _, _, rfl, .inl hS, fin p xs H (Same.refl H) hS (by rw [List.append_nil]; exact hL)⟩
    · exact ⟨_, rfl, _, _, rfl, .inl (SqT.of upd_same), fin q (xs ++ ys) _ (same_new hq) (SqT.of upd_same) (sts_same (pd_append hL hL2) (same_new hq))⟩

end
end K43
namespace K43
open PySem L2 XT
section
variable {P : Program} {w : World} {K : PySem.W.Frag} {mg : Str → Option Value} {base : Heap} {a : Ads}
local macro_rules | `(tactic| walk_at "rside") => `(tactic| first | (show (0 : Int) < _; first | decide | omega) | (exact ⟨by first | decide | omega, by first | decide | omega⟩) | (exact Or.inl ⟨by omega, by omega⟩) | (exact Or.inr ⟨by omega, by omega⟩) | (exact ⟨by decide, by decide, by decide⟩))
local macro_rules | `(tactic| walk_at "rd1") => `(tactic| first | (refine ⟨_, rfl, ?_⟩) | (refine ⟨_, _, rfl, rfl, (by walk_at "rside"), ?_⟩) | (refine ⟨_, _, rfl, rfl, ?_⟩))
local macro_rules | `(tactic| walk_at "rd") => `(tactic| repeat (walk_at "rd1"))

local macro_rules | `(tactic| walk_at "rside") => `(tactic| first | (show (0 : Int) < _; first | decide | omega) | (exact ⟨by first | decide | omega, by first | decide | omega⟩) | (exact Or.inl ⟨by omega, by omega⟩) | (exact Or.inr ⟨by omega, by omega⟩) | (exact ⟨by decide, by decide, by decide⟩))
local macro_rules | `(tactic| walk_at "rd1") => `(tactic| first | (refine ⟨_, rfl, ?_⟩) | (refine ⟨_, _, rfl, rfl, (by walk_at "rside"), ?_⟩) | (refine ⟨_, _, rfl, rfl, ?_⟩))
local macro_rules | `(tactic| walk_at "rd") => `(tactic| repeat (walk_at "rd1"))

/-- the law's pool: two numbers -/
def PoolAt (H : Hp) (p : Addr) : Prop := ∃ x y : Int, H p = some (.lst [.int x, .int y]) ∧ 0 ≤ x ∧ 0 ≤ y ∧ y < 2147483648
/-- all stays but what stands at p -/
def But (p : Addr) (H H' : Hp) : Prop := ∀ b o, b ≠ p → H b = some o → H' b = some o
theorem But.refl (p : Addr) (H : Hp) : But p H H := fun _ _ _ h => h
theorem But.trans {p : Addr} {H H1 H2 : Hp} (a : But p H H1) (b : But p H1 H2) : But p H H2 := fun c o n h => b c o n (a c o n h)
theorem but_same {p : Addr} {H H' : Hp} (h : Same H H') : But p H H' := fun b o _ e => h b o e
theorem but_upd {p : Addr} {H : Hp} {o : HO} : But p H (upd H p o) := fun b u n e => by
  rw [upd_ne n]
  exact e
/-- what is apart from p stays -/
theorem but_to {p : Addr} {H0 H H' : Hp} (s : Same H0 H) (n : H0 p = Option.none) (b : But p H H') : Same H0 H' := fun c o e => b c o (fun z => by rw [z, n] at e; cases e) (s c o e)
def spPool (K : PySem.W.Frag) : Sp := fun vs H Q _ => ∃ (sc : Addr) (ns : List Int) (k : Int), vs = [.ref sc, .int k] ∧ SqL K H sc (ns.map V.int) ∧ 0 ≤ k ∧ k ≤ 1000 ∧ ∀ p H', Same H H' → H p = Option.none → PoolAt H' p → Q (.ref p) H'
def spTake : Sp := fun vs H Q _ => ∃ (p : Addr) (m : Int), vs = [.ref p, .int m] ∧ PoolAt H p ∧ 0 < m ∧ m < 1000 ∧ ∀ r H', 0 ≤ r → r < m → But p H H' → PoolAt H' p → Q (.int r) H'
theorem ok_law_pool (T : Txt K mg a) : FnR P w K mg base CX0 1 a.law_pool (spPool K) := by
  obtain ⟨fd, F⟩ := T.F_law_pool
  refine XT.okR F sc_law_pool bn_law_pool (fun vs H Q E h => ?_) (fun cdv A outer s H vs Q E hr h => ?_)
  · obtain ⟨sc, ns, k, rfl, _⟩ := h
    rfl
  · obtain ⟨sc, ns, k, rfl, hS, k0, k1, q⟩ := h
    refine ⟨_, (pss_cons (ps_set (i := 2) sc_law_pool.nd rfl (Or.inl rfl) pe_int)
      (pss_cons (ps_if (pt_cmpR op_lt (pv 1) (pe_callB (lenK K) (by rfl) T.b_len (by decide +kernel) (pa_cons (pv 0) pa_nil)) (nomark _)) (pss_one (ps_set (i := 2) sc_law_pool.nd rfl (Or.inl rfl) (pe_callB call_abs (by rfl) T.b_abs (by decide +kernel) (pa_cons (pe_ix (ixLK K) (pv 0) (pv 1) (fun _ _ => rfl)) pa_nil)))) pss_nil)
      (pss_cons (ps_set (i := 3) sc_law_pool.nd rfl (Or.inl rfl) (pe_op op_mod (pe_op op_mul (pe_op op_add (pe_op op_add (pe_op op_add (pe_op op_mod (pv 2) pe_int) (pe_op op_mul (pe_op op_mul pe_int (pv 1)) (pv 1))) (pe_op op_mul pe_int (pv 1))) pe_int) pe_int) pe_int))
      (pss_one (ps_ret (pe_lst (pa_cons (pe_op op_mul (pv 2) (pe_callTy call_int1 (by rfl) T.b_int (by decide +kernel) (pa_cons (pe_cmpR op_ge (pv 2) (pe_op op_pow pe_int pe_int) (nomark _)) pa_nil))) (pa_cons (pe_op op_mod (pe_op op_mul (pv 3) (pv 3)) pe_int) pa_nil)))))))), ?_⟩
    refine ⟨_, rfl, _, rfl, sc, _, rfl, .inl hS, _, _, rfl, rfl, _, rfl, ite2 (fun h1 => ?_) (fun h1 => ?_)⟩
    · have h1' : k < ((ns.map V.int).length : Int) := of_decide_eq_true h1
      rw [List.length_map] at h1'
      obtain ⟨j, rfl⟩ : ∃ j : Nat, k = (j : Int) := ⟨k.toNat, by omega⟩
      have hj : j < ns.length := by omega
      have hg : (ns.map V.int)[j]? = some (V.int ns[j]) := by simp [hj]
      refine ⟨_, rfl, _, rfl, sc, _, _, _, rfl, rfl, hS, atI_nat hg, _, rfl, ?_⟩
      have hc : 0 ≤ (if ns[j] < 0 then -ns[j] else ns[j]) := by split <;> omega
      generalize (if ns[j] < 0 then -ns[j] else ns[j]) = c at hc ⊢
      walk_at "rd"
      refine .inr ⟨_, rfl, ?_⟩
      refine ⟨_, _, rfl, rfl, .inr (by split <;> omega), ?_⟩
      have hm : ∀ z : Int, 0 ≤ z % 2147483647 ∧ z % 2147483647 < 2147483647 := fun z => ⟨Int.emod_nonneg _ (by decide), Int.emod_lt_of_pos _ (by decide)⟩
      refine ⟨_, rfl, _, rfl, _, _, rfl, rfl, .inl ⟨by have := hm ((c % 2147483629 + 7919 * (j : Int) * (j : Int) + 31 * (j : Int) + 17) * 48271); omega, by have := hm ((c % 2147483629 + 7919 * (j : Int) * (j : Int) + 31 * (j : Int) + 17) * 48271); omega⟩, ?_⟩
      refine ⟨_, _, rfl, rfl, (by show (0 : Int) < _; decide), ?_⟩
      refine ⟨by show 2 ≤ sizeLine; decide, fun p hp => q p _ (same_new hp) hp ⟨_, _, upd_same, ?_, Int.emod_nonneg _ (by decide), Int.lt_trans (Int.emod_lt_of_pos _ (by decide)) (by decide)⟩⟩
      split <;> omega
    · walk_at "rd"
      refine .inr ⟨_, rfl, ?_⟩
      refine ⟨_, _, rfl, rfl, .inr (by split <;> omega), ?_⟩
      have hm : ∀ z : Int, 0 ≤ z % 2147483647 ∧ z % 2147483647 < 2147483647 := fun z => ⟨Int.emod_nonneg _ (by decide), Int.emod_lt_of_pos _ (by decide)⟩
      refine ⟨_, rfl, _, rfl, _, _, rfl, rfl, .inl ⟨by have := hm (((0 : Int) % 2147483629 + 7919 * k * k + 31 * k + 17) * 48271); omega, by have := hm (((0 : Int) % 2147483629 + 7919 * k * k + 31 * k + 17) * 48271); omega⟩, ?_⟩
      refine ⟨_, _, rfl, rfl, (by show (0 : Int) < _; decide), ?_⟩
      refine ⟨by show 2 ≤ sizeLine; decide, fun p hp => q p _ (same_new hp) hp ⟨_, _, upd_same, ?_, Int.emod_nonneg _ (by decide), Int.lt_trans (Int.emod_lt_of_pos _ (by decide)) (by decide)⟩⟩
      exact Int.le_of_eq (Int.zero_mul _).symm

theorem ok_law_take (T : Txt K mg a) : FnR P w K mg base CX0 1 a.law_take (spTake) := by
  obtain ⟨fd, F⟩ := T.F_law_take
  refine XT.okR F sc_law_take bn_law_take (fun vs H Q E h => ?_) (fun cdv A outer s H vs Q E hr h => ?_)
  · obtain ⟨p, m, rfl, _⟩ := h
    rfl
  · obtain ⟨p, m, rfl, ⟨x, y, hp, hx, hy, hy2⟩, hm0, hm1, k⟩ := h
    refine ⟨_, (pss_cons (ps_if (pt_cmpR op_gt (pe_ix (ixLK K) (pv 0) pe_int (fun _ _ => rfl)) pe_int (nomark _)) (pss_cons (ps_set (i := 2) sc_law_take.nd rfl (Or.inl rfl) (pe_op op_mod (pe_ix (ixLK K) (pv 0) pe_int (fun _ _ => rfl)) (pv 1)))
      (pss_cons (ps_asg (pe_op op_fdiv (pe_ix (ixLK K) (pv 0) pe_int (fun _ _ => rfl)) (pv 1)) (pg_sub (pv 0) pe_int set_list))
      (pss_one (ps_ret (pv 2))))) pss_nil)
      (pss_cons (ps_asg (pe_op op_mod (pe_op op_add (pe_op op_mul (pe_ix (ixLK K) (pv 0) pe_int (fun _ _ => rfl)) pe_int) pe_int) pe_int) (pg_sub (pv 0) pe_int set_list))
      (pss_one (ps_ret (pe_op op_mod (pe_op op_fdiv (pe_op op_mod (pe_op op_mul (pe_ix (ixLK K) (pv 0) pe_int (fun _ _ => rfl)) (pe_ix (ixLK K) (pv 0) pe_int (fun _ _ => rfl))) pe_int) pe_int) (pv 1)))))), ?_⟩
    have g0 : ([V.int x, V.int y] : List V)[0]? = some (V.int x) := rfl
    have g1 : ([V.int x, V.int y] : List V)[1]? = some (V.int y) := rfl
    refine ⟨_, rfl, p, _, 0, _, rfl, rfl, SqL.of hp, atI_nat (j := 0) g0, _, _, rfl, rfl, _, rfl, ite2 (fun h1 => ?_) (fun h1 => ?_)⟩
    · have h1' := of_decide_eq_true h1
      refine ⟨_, rfl, p, _, 0, _, rfl, rfl, SqL.of hp, atI_nat (j := 0) g0, _, rfl, _, _, rfl, rfl, hm0, ?_⟩
      refine ⟨_, rfl, p, _, 0, _, rfl, rfl, SqL.of hp, atI_nat (j := 0) g0, _, rfl, _, _, rfl, rfl, ⟨hm0, by omega⟩, ?_⟩
      refine ⟨_, rfl, p, _, 0, 0, rfl, rfl, hp, rfl, ?_⟩
      refine ⟨_, rfl, k _ _ (Int.emod_nonneg _ (by omega)) (Int.emod_lt_of_pos _ hm0) but_upd ⟨x / m, y, upd_same, Int.ediv_nonneg hx (by omega), hy, hy2⟩⟩
    · refine ⟨_, rfl, p, _, 1, _, rfl, rfl, SqL.of hp, atI_nat (j := 1) g1, _, _, rfl, rfl, .inr ⟨by decide, by decide⟩, _, _, rfl, rfl, _, _, rfl, rfl, (by show (0 : Int) < _; decide), ?_⟩
      refine ⟨_, rfl, p, _, 1, 1, rfl, rfl, hp, rfl, ?_⟩
      have hz0 : 0 ≤ (y * 48271 + 12345) % 2147483647 := Int.emod_nonneg _ (by decide)
      have hz1 : (y * 48271 + 12345) % 2147483647 < 2147483647 := Int.emod_lt_of_pos _ (by decide)
      have g2 : ([V.int x, V.int ((y * 48271 + 12345) % 2147483647)] : List V)[1]? = some (V.int ((y * 48271 + 12345) % 2147483647)) := rfl
      have hs : (upd H p (.lst ([V.int x, V.int y].set 1 (V.int ((y * 48271 + 12345) % 2147483647))))) p = some (.lst [V.int x, V.int ((y * 48271 + 12345) % 2147483647)]) := upd_same
      refine ⟨_, rfl, p, _, 1, _, rfl, rfl, SqL.of hs, atI_nat (j := 1) g2, _, rfl, p, _, 1, _, rfl, rfl, SqL.of hs, atI_nat (j := 1) g2, _, _, rfl, rfl, .inl ⟨by omega, by omega⟩, _, _, rfl, rfl, (by show (0 : Int) < _; decide), _, _, rfl, rfl, ⟨by decide, by decide⟩, _, rfl, _, _, rfl, rfl, hm0, ?_⟩
      exact k _ _ (Int.emod_nonneg _ (by omega)) (Int.emod_lt_of_pos _ hm0) but_upd ⟨x, _, hs, hx, hz0, by omega⟩

end
end K43
namespace K43
open PySem L2 XT
section
variable {P : Program} {w : World} {K : PySem.W.Frag} {mg : Str → Option Value} {base : Heap} {a : Ads}
local macro_rules | `(tactic| walk_at "rside") => `(tactic| first | (show (0 : Int) < _; first | decide | omega) | (exact ⟨by first | decide | omega, by first | decide | omega⟩) | (exact Or.inl ⟨by omega, by omega⟩) | (exact Or.inr ⟨by omega, by omega⟩) | (exact ⟨by decide, by decide, by decide⟩))
local macro_rules | `(tactic| walk_at "rd1") => `(tactic| first | (refine ⟨_, rfl, ?_⟩) | (refine ⟨_, _, rfl, rfl, (by walk_at "rside"), ?_⟩) | (refine ⟨_, _, rfl, rfl, ?_⟩))
local macro_rules | `(tactic| walk_at "rd") => `(tactic| repeat (walk_at "rd1"))

theorem pool_but {H H' : Hp} {p q : Addr} {o : HO} (h : PoolAt H p) (n : H q = Option.none) (e : H' = upd H q o) : PoolAt H' p := by
  obtain ⟨x, y, a, b⟩ := h
  have : p ≠ q := fun z => by rw [z, n] at a; cases a
  exact ⟨x, y, by rw [e, upd_ne this]; exact a, b⟩
theorem pool_same {H H' : Hp} {p : Addr} (h : PoolAt H p) (e : Same H H') : PoolAt H' p := let ⟨x, y, a, b⟩ := h; ⟨x, y, e _ _ a, b⟩
theorem pool_ne {H : Hp} {p q : Addr} (h : PoolAt H p) (n : H q = Option.none) : q ≠ p := fun z => by
  obtain ⟨x, y, a, _⟩ := h
  rw [z, a] at n
  cases n
/-- tuples stay -/
def Kt (K : PySem.W.Frag) (H H' : Hp) : Prop := ∀ r ys, SqT K H r ys → SqT K H' r ys
theorem Kt.trans {H H1 H2 : Hp} (h : Kt K H H1) (k : Kt K H1 H2) : Kt K H H2 := fun r ys z => k r ys (h r ys z)
theorem kt_same {H H' : Hp} (h : Same H H') : Kt K H H' := fun r ys z => same_seqT h z
theorem kt_upd {H : Hp} {l : Addr} {zs : List V} {o : HO} (hl : H l = some (.lst zs)) : Kt K H (upd H l o) := fun r ys z => by
  rcases z with (z | ⟨ob, z⟩) | z
  · exact .inl (.inl (by rw [upd_ne (fun q => by rw [q, hl] at z; cases z)]; exact z))
  · exact .inl (.inr ⟨ob, by rw [upd_ne (fun q => by rw [q, hl] at z; cases z)]; exact z⟩)
  · exact .inr z
theorem kt_but {H H' : Hp} {p : Addr} (hp : PoolAt H p) (b : But p H H') : Kt K H H' := fun r ys z => by
  obtain ⟨x, y, a, _⟩ := hp
  rcases z with (z | ⟨ob, z⟩) | z
  · exact .inl (.inl (b _ _ (fun q => by rw [q, a] at z; cases z) z))
  · exact .inl (.inr ⟨ob, b _ _ (fun q => by rw [q, a] at z; cases z) z⟩)
  · exact .inr z
theorem sts_kt {H H' : Hp} {xs : List V} {L : List Stp} (h : StsAt K H xs L) (k : Kt K H H') : StsAt K H' xs L := L2.Paired.mapP h fun _ _ ⟨r, e, z⟩ => ⟨r, e, k _ _ z⟩
theorem sqc_but {C : Addr} {H H' : Hp} {t p : Addr} {L : List Stp} (h : SqcAt K C H t L) (hp : PoolAt H p) (b : But p H H') : SqcAt K C H' t L := by
  obtain ⟨dx, q, xs, h1, h2, h3, h4⟩ := h
  have n : t ≠ p := fun z => by
    obtain ⟨x, y, e, _⟩ := hp
    rw [z, e] at h1
    cases h1
  exact ⟨dx, q, xs, b _ _ n h1, kt_but hp b _ _ h2, sts_kt h3 (kt_but hp b), h4⟩

/-- the steps of a law of stage 3: numbers from -3 to 5, ranks up to m -/
structure LSq (m : Int) (L : List Stp) : Prop where
  good : ∀ s ∈ L, goodS s = true
  lo : ∀ s ∈ L, -3 ≤ s.2
  hi : ∀ s ∈ L, s.2 ≤ max 5 m
theorem lsq_snoc {m : Int} {L : List Stp} {s : Stp} (h : LSq m L) (g : goodS s = true) (a : -3 ≤ s.2) (b : s.2 ≤ max 5 m) : LSq m (L ++ [s]) :=
  ⟨fun t ht => (List.mem_append.mp ht).elim (h.good t) fun z => by rw [List.mem_singleton.mp z]; exact g, fun t ht => (List.mem_append.mp ht).elim (h.lo t) fun z => by rw [List.mem_singleton.mp z]; exact a, fun t ht => (List.mem_append.mp ht).elim (h.hi t) fun z => by rw [List.mem_singleton.mp z]; exact b⟩
theorem lsq_nil {m : Int} : LSq m [] := ⟨(fun _ h => by cases h), (fun _ h => by cases h), (fun _ h => by cases h)⟩
def spLStep (K : PySem.W.Frag) : Sp := fun vs H Q _ => ∃ (p : Addr) (m : Int), vs = [.ref p, .int m] ∧ PoolAt H p ∧ 0 < m ∧ m ≤ 100 ∧
  ∀ t s H', But p H H' → PoolAt H' p → H t = Option.none → StAt K H' (.ref t) s → goodS s = true → -3 ≤ s.2 → s.2 ≤ max 5 m → Q (.ref t) H'
theorem ok_law_step (T : Txt K mg a) : FnR P w K mg base CX0 2 a.law_step (spLStep K) := by
  obtain ⟨fd, F⟩ := T.F_law_step
  refine XT.okR F sc_law_step bn_law_step (fun vs H Q E h => ?_) (fun cdv A outer s H vs Q E hr h => ?_)
  · obtain ⟨p, m, rfl, _⟩ := h
    rfl
  · obtain ⟨p, m, rfl, hp, m0, m1, k⟩ := h
    have G_law_take := ok_law_take (P := P) (w := w) (base := base) T
    refine ⟨_, (pss_cons (ps_if (pt_cmpR op_lt (pe_callR G_law_take (hr.mono (by decide)) rfl T.g_law_take T.k_law_take pass0 (pa_cons (pv 0) (pa_cons pe_int pa_nil))) pe_int (nomark _)) (pss_one (ps_ret (pe_tup (pa_cons pe_str (pa_cons (pe_op op_sub (pe_callR G_law_take (hr.mono (by decide)) rfl T.g_law_take T.k_law_take pass0 (pa_cons (pv 0) (pa_cons pe_int pa_nil))) pe_int) pa_nil))))) pss_nil)
      (pss_one (ps_ret (pe_tup (pa_cons pe_str (pa_cons (pe_op op_add pe_int (pe_callR G_law_take (hr.mono (by decide)) rfl T.g_law_take T.k_law_take pass0 (pa_cons (pv 0) (pa_cons (pv 1) pa_nil)))) pa_nil)))))), ?_⟩
    refine ⟨_, rfl, p, 5, rfl, hp, by decide, by decide, fun u H1 u0 u1 b1 hp1 => ⟨_, _, rfl, rfl, _, rfl, ite2 (fun h1 => ?_) (fun h1 => ?_)⟩⟩
    · refine ⟨_, rfl, p, 9, rfl, hp1, by decide, by decide, fun r H2 r0 r1 b2 hp2 => ⟨_, _, rfl, rfl, by show 2 ≤ sizeLine; decide, fun t ht => ?_⟩⟩
      have b12 := b1.trans b2
      have ntp := pool_ne hp2 ht
      have nt : H t = Option.none := by
        cases e : H t with
        | none => rfl
        | some o => exact absurd (b12 _ _ ntp e) (by rw [ht]; simp)
      exact k t (true, r - 3) _ (b12.trans (but_same (same_new ht))) (pool_but hp2 ht rfl) nt (st_of upd_same) rfl (by show -3 ≤ r - 3; omega) (by show r - 3 ≤ max 5 m; omega)
    · refine ⟨_, rfl, _, rfl, p, m, rfl, hp1, m0, by omega, fun r H2 r0 r1 b2 hp2 => ⟨_, _, rfl, rfl, by show 2 ≤ sizeLine; decide, fun t ht => ?_⟩⟩
      have b12 := b1.trans b2
      have ntp := pool_ne hp2 ht
      have nt : H t = Option.none := by
        cases e : H t with
        | none => rfl
        | some o => exact absurd (b12 _ _ ntp e) (by rw [ht]; simp)
      exact k t (false, 1 + r) _ (b12.trans (but_same (same_new ht))) (pool_but hp2 ht rfl) nt (st_of upd_same) (by simp [goodS]; omega) (by show -3 ≤ 1 + r; omega) (by show 1 + r ≤ max 5 m; omega)

def InvS (K : PySem.W.Frag) (p D : Addr) (m : Int) (H0 : Hp) (i : Nat) (H : Hp) (acc : List V) : Prop := ∃ L : List Stp, acc.length = i ∧ L.length = i ∧ H D = some (.lst acc) ∧ PoolAt H p ∧ But p H0 H ∧ StsAt K H acc L ∧ LSq m L
theorem invS_step {p D t : Addr} {m : Int} {H0 H H2 : Hp} {i : Nat} {acc : List V} {s : Stp} (hD0 : H0 D = Option.none) (nD : D ≠ p) (h : InvS K p D m H0 i H acc) (b2 : But p H H2) (hp2 : PoolAt H2 p) (nt : H t = Option.none) (ht : StAt K H2 (.ref t) s) (g : goodS s = true) (a : -3 ≤ s.2) (b : s.2 ≤ max 5 m) :
    InvS K p D m H0 (i + 1) (upd H2 D (.lst (acc ++ [.ref t]))) (acc ++ [.ref t]) := by
  obtain ⟨L, ha, hl, hD, hp, bb, hs, lq⟩ := h
  have hD2 := b2 _ _ nD hD
  have kt2 : Kt K H H2 := kt_but hp b2
  have ktD : Kt K H2 (upd H2 D (.lst (acc ++ [.ref t]))) := kt_upd hD2
  refine ⟨L ++ [s], by rw [List.length_append, ha]; rfl, by rw [List.length_append, hl]; rfl, upd_same, ?_, ?_, ?_, lsq_snoc lq g a b⟩
  · obtain ⟨x, y, e, rest⟩ := hp2
    exact ⟨x, y, by rw [upd_ne (Ne.symm nD)]; exact e, rest⟩
  · intro b o nb e
    have hbD : b ≠ D := fun z => by rw [z, hD0] at e; cases e
    rw [upd_ne hbD]
    exact b2 _ _ nb (bb _ _ nb e)
  · refine pd_append (sts_kt hs (kt2.trans ktD)) (.cons ?_ .nil)
    obtain ⟨r, e, z⟩ := ht
    exact ⟨r, e, ktD _ _ z⟩
def spLSteps3 (K : PySem.W.Frag) : Sp := fun vs H Q _ => ∃ (p : Addr) (n m : Int), vs = [.ref p, .int n, .int m] ∧ PoolAt H p ∧ 0 ≤ n ∧ n ≤ 100 ∧ 0 < m ∧ m ≤ 100 ∧
  ∀ l xs L H', But p H H' → PoolAt H' p → H l = Option.none → H' l = some (.lst xs) → StsAt K H' xs L → LSq m L → (L.length : Int) ≤ n → Q (.ref l) H'
theorem ok_law_steps (T : Txt K mg a) : FnR P w K mg base CX0 3 a.law_steps (spLSteps3 K) := by
  obtain ⟨fd, F⟩ := T.F_law_steps
  refine XT.okR F sc_law_steps bn_law_steps (fun vs H Q E h => ?_) (fun cdv A outer s H vs Q E hr h => ?_)
  · obtain ⟨p, n, m, rfl, _⟩ := h
    rfl
  · obtain ⟨p, n, m, rfl, hp, n0, n1, m0, m1, k⟩ := h
    have G_law_take := ok_law_take (P := P) (w := w) (base := base) T
    have G_law_step := ok_law_step (P := P) (w := w) (base := base) T
    refine ⟨_, (pss_one (ps_ret (pe_lc (own := [("_law_turn", 3)])  rfl sc_law_steps.nd (pi_rng1 (by rfl) T.b_range (pa_cons (pe_callR G_law_take (hr.mono (by decide)) rfl T.g_law_take T.k_law_take pass0 (pa_cons (pv 0) (pa_cons (pe_op op_add (pv 1) pe_int) pa_nil))) pa_nil)) (blkOk_by (N := N_law_steps) (sc := defScope s_law_steps) (by decide +kernel)) (fun _ _ _ _ _ => by exact (pg_name (i := 3) sc_law_steps.nd rfl (Or.inl rfl))) (fun _ _ _ _ _ => by exact pts_nil) (fun _ _ _ _ _ => by exact (pe_callR G_law_step (hr.mono (by decide)) rfl T.g_law_step T.k_law_step pass0 (pa_cons (pv 0) (pa_cons (pv 2) pa_nil))))))), ?_⟩
    refine ⟨_, rfl, _, rfl, _, _, rfl, rfl, p, n + 1, rfl, hp, by omega, by omega, fun u H1 u0 u1 b1 hp1 => ⟨_, rfl, fun D hD => ?_⟩⟩
    have nD := pool_ne hp1 hD
    have nDH : H D = Option.none := by
      cases e : H D with
      | none => rfl
      | some o => exact absurd (b1 _ _ nD e) (by rw [hD]; simp)
    refine lcE (InvS K p D m H1) ⟨[], rfl, rfl, upd_same, pool_but hp1 hD rfl, but_same (same_new hD), .nil, lsq_nil⟩ (Nat.le_trans (show u.toNat ≤ 100000 by omega) line_ge) (fun i' H' acc ⟨L, ex, _⟩ => ex) ?_ ?_
    · rintro i' H' acc R hi' hI kk
      have hI' := hI
      obtain ⟨L, ha, hl, hDD, hpp, bb, hst, lq⟩ := hI'
      refine ⟨rfl, _, rfl, _, rfl, p, m, rfl, hpp, m0, m1, fun t s H8 b8 hp8 nt hs g x1 x2 => ?_⟩
      exact kk _ H8 (b8 _ _ nD hDD) (invS_step hD nD hI b8 hp8 nt hs g x1 x2)
    · rintro H' acc ⟨L, ha, hl, hDD, hpp, bb, hst, lq⟩
      exact k D acc L H' (b1.trans bb) hpp nDH hDD hst lq (by omega)

end
end K43
namespace K43
open PySem L2 XT
section
variable {P : Program} {w : World} {K : PySem.W.Frag} {mg : Str → Option Value} {base : Heap} {a : Ads}
local macro_rules | `(tactic| walk_at "rside") => `(tactic| first | (show (0 : Int) < _; first | decide | omega) | (exact ⟨by first | decide | omega, by first | decide | omega⟩) | (exact Or.inl ⟨by omega, by omega⟩) | (exact Or.inr ⟨by omega, by omega⟩) | (exact ⟨by decide, by decide, by decide⟩))
local macro_rules | `(tactic| walk_at "rd1") => `(tactic| first | (refine ⟨_, rfl, ?_⟩) | (refine ⟨_, _, rfl, rfl, (by walk_at "rside"), ?_⟩) | (refine ⟨_, _, rfl, rfl, ?_⟩))
local macro_rules | `(tactic| walk_at "rd") => `(tactic| repeat (walk_at "rd1"))

theorem kv_ints {H : Hp} (L : List Int) : ∀ y ∈ L.map V.int, XT.KV K H y := fun y hy => by
  obtain ⟨i, _, rfl⟩ := List.mem_map.mp hy
  exact kv_int i
/-- a list or a tuple of the numbers L -/
def NumsAt (K : PySem.W.Frag) (H : Hp) (x : V) (L : List Int) : Prop := ∃ p, x = .ref p ∧ (SqL K H p (L.map V.int) ∨ SqT K H p (L.map V.int)) ∧ L.length ≤ 1000
theorem NumsAt.same {H H' : Hp} {x : V} {L : List Int} (h : NumsAt K H x L) (s : Same H H') : NumsAt K H' x L := let ⟨p, e, h1, h2⟩ := h; ⟨p, e, h1.imp (fun h => s.seq h) (fun h => same_seqT s h), h2⟩
theorem nums_lst {H : Hp} {q : Addr} {L : List Int} (h : H q = some (.lst (L.map V.int))) (hl : L.length ≤ 1000) : NumsAt K H (.ref q) L := ⟨q, rfl, .inl (SqL.of h), hl⟩
def spAscG (K : PySem.W.Frag) : Sp := fun vs H Q _ => ∃ x L, vs = [x] ∧ NumsAt K H x L ∧ ∀ m H', Same H H' → H m = Option.none → H' m = some (.lst ((XT.srt L).map V.int)) → Q (.ref m) H'
theorem ok_ascending (T : Txt K mg a) : FnR P w K mg base CX0 3 a.ascending (spAscG K) := by
  obtain ⟨fd, F⟩ := T.F_ascending
  refine XT.okR F sc_ascending bn_ascending (fun vs H Q E h => ?_) (fun cdv A outer s H vs Q E hr h => ?_)
  · obtain ⟨x, L, rfl, _⟩ := h
    rfl
  · obtain ⟨x, L, rfl, ⟨p, rfl, hS, hl⟩, k⟩ := h
    have G_is_number_list := ok_is_number_list (P := P) (w := w) (base := base) T
    refine ⟨_, (pss_cons (ps_if (pt_not (pt_val (pe_callR G_is_number_list (hr.mono (by decide)) rfl T.g_is_number_list T.k_is_number_list pass0 (pa_cons (pv 0) pa_nil)))) (pss_one ps_never) pss_nil)
      (pss_one (ps_ret (pe_callB (sortedAK K) (by rfl) T.b_sorted (by decide +kernel) (pa_cons (pv 0) pa_nil))))), ?_⟩
    refine ⟨_, rfl, _, rfl, .inl ⟨L.map V.int, ⟨p, rfl, hS, kv_ints L, by rw [List.length_map]; omega⟩, fun H1 s1 => ⟨_, rfl, iteN (by rw [nums_of]; rfl) ?_⟩⟩⟩
    refine ⟨_, rfl, p, L, rfl, hS.imp (fun h => s1.seq h) (fun h => same_seqT s1 h), fun N q pm up nq => ?_⟩
    rw [XT.srt_of pm up]
    exact k q _ (s1.trans (same_new nq)) (s1.free nq) upd_same

def spAfterX (K : PySem.W.Frag) (CS : Addr) : Sp := fun vs H Q E => ∃ (l : Addr) (i : Int) (x : V) (L : List Int) (s : Stp), vs = [.ref l, .int i, x] ∧ SqL K H l (L.map V.int) ∧ StAt K H x s ∧ goodS s = true ∧ L.length ≤ 5000 ∧
  (∀ M, XT.stepR L s = some M → ∀ m H', Same H H' → H m = Option.none → H' m = some (.lst (M.map V.int)) → Q (.ref m) H') ∧ (XT.stepR L s = Option.none → ∀ d H', Same H H' → H d = Option.none → H' d = some (.xd [("index", .int i)]) → E (.ref CS) (some d) H')
theorem wrd_ins (b : Bool) : decide (V.str (wrd b) = V.str "insert") = b := by cases b <;> decide +kernel
theorem okX_after_step (T : Txt K mg a) : FnR P w K mg base (L2.CX P w) 3 a.after_step (spAfterX K a.StepFailed) := by
  obtain ⟨fd, F⟩ := T.F_after_step
  obtain ⟨fd_StepFailed, FE_StepFailed⟩ := T.F_StepFailed___init__
  have GE_StepFailed := okE_StepFailed (P := P) (w := w) (base := base) T T.e_StepFailed FE_StepFailed
  have BE_StepFailed := FE_StepFailed.binds bn_StepFailed___init__
  refine XT.okX F sc_after_step bn_after_step (fun vs H Q E h => ?_) (fun cdv A outer s H vs Q E hr h => ?_)
  · obtain ⟨l, i, x, L, st, rfl, _⟩ := h
    rfl
  · obtain ⟨l, i, x, L, ⟨b, n⟩, rfl, hS, ⟨r, rfl, hr2⟩, gd, hl, k1, k2⟩ := h
    refine ⟨_, (pss_cons (ps_asg (pv 2) (tupK K (n := 2) (by rfl) (pgs_cons (pg_name (i := 3) sc_after_step.nd rfl (Or.inl rfl)) (pgs_cons (pg_name (i := 4) sc_after_step.nd rfl (Or.inl rfl)) pgs_nil))))
      (pss_cons (ps_if (pt_cmpR op_eq (pv 3) pe_str (nomark _)) (pss_one (ps_ret (pe_callB (sortedAK K) (by rfl) T.b_sorted (by decide +kernel) (pa_cons (pe_lst (starK K (StX.pa_star (pv 0) (pa_cons (pv 4) pa_nil)))) pa_nil)))) pss_nil)
      (pss_cons (ps_if (pt_cmpR op_gt (pv 4) (pe_callB (lenK K) (by rfl) T.b_len (by decide +kernel) (pa_cons (pv 0) pa_nil)) (nomark _)) (pss_one (ps_raiseG T.e_StepFailed GE_StepFailed BE_StepFailed (hr.mono (by decide)) T.g_StepFailed rfl (takes_of rfl rfl rfl rfl) (pv 1))) pss_nil)
      (pss_one (ps_ret (pe_op op_cat (pe_slice (slLK K) (pv 0) po_none (po_some (pe_op op_sub (pv 4) pe_int))) (pe_slice (slLK K) (pv 0) (po_some (pv 4)) po_none))))))), ?_⟩
    refine ⟨_, rfl, r, _, rfl, hr2, rfl, _, _, rfl, _, _, rfl, rfl, ?_⟩
    refine ⟨_, rfl, rfl, _, rfl, ?_⟩
    cases b with
    | true =>
      refine iteH (wrd_ins true) ?_
      refine ⟨_, rfl, l, _, rfl, .inr hS, _, rfl, ?_, fun p hp => ?_⟩
      · show (L.map V.int ++ [V.int n]).length ≤ sizeLine
        rw [List.length_append, List.length_map, List.length_singleton]
        exact Nat.le_trans (show L.length + 1 ≤ 100000 by omega) line_ge
      · have e : (L.map V.int ++ [V.int n] : List V) = (L ++ [n]).map V.int := by rw [List.map_append]; rfl
        refine ⟨p, L ++ [n], rfl, .inl (SqL.of (by rw [← e]; exact upd_same)), fun N q pm up nq => ?_⟩
        rw [XT.srt_of pm up]
        have sp := same_new (o := .lst (L.map V.int ++ [V.int n])) hp
        exact k1 _ rfl q _ (sp.trans (same_new nq)) (sp.free nq) upd_same
    | false =>
      refine iteN (wrd_ins false) ?_
      have gd' : 0 < n := by simpa [goodS] using gd
      refine ⟨_, rfl, _, rfl, l, _, rfl, .inl hS, _, _, rfl, rfl, _, rfl, ite2 (fun h1 => ?_) (fun h1 => ?_)⟩
      · have h1' : n > ((L.map V.int).length : Int) := of_decide_eq_true h1
        rw [List.length_map] at h1'
        have e : XT.stepR L (false, n) = Option.none := by
          simp only [XT.stepR]
          rw [if_pos (show (L.length : Int) < n by omega)]
        exact ⟨_, rfl, err_rd fun d hd => k2 e d _ (same_new hd) hd upd_same⟩
      · have h1' : ¬ n > ((L.map V.int).length : Int) := fun z => h1 (decide_eq_true z)
        rw [List.length_map] at h1'
        have e : XT.stepR L (false, n) = some (L.take (n - 1).toNat ++ L.drop n.toNat) := by
          simp only [XT.stepR]
          rw [if_neg (show ¬ (L.length : Int) < n by omega)]
        refine ⟨_, rfl, _, rfl, _, _, rfl, rfl, _, rfl, l, _, rfl, hS, fun p1 hp1 => ?_⟩
        have s1 := same_new (o := .lst (cutV (L.map V.int) Option.none (some (n - 1)))) hp1
        refine ⟨_, rfl, _, rfl, _, rfl, l, _, rfl, s1.seq hS, fun p2 hp2 => ?_⟩
        have s2 := same_new (o := .lst (cutV (L.map V.int) (some n) Option.none)) hp2
        refine ⟨p1, p2, _, _, rfl, rfl, s2 _ _ upd_same, upd_same, ?_, fun p3 hp3 => ?_⟩
        · have h1 := cutV_length (L.map V.int) Option.none (some (n - 1))
          have h2 := cutV_length (L.map V.int) (some n) Option.none
          rw [List.length_map] at h1 h2
          exact Nat.le_trans (Nat.add_le_add h1 h2) (Nat.le_trans (show L.length + L.length ≤ 100000 by omega) line_ge)
        · exact k1 _ e p3 _ ((s1.trans s2).trans (same_new hp3)) ((s1.trans s2).free hp3) (by rw [upd_same, XT.cut_rm gd'])

/-- Sequence.__call__: the list after the steps, or the error -/
def spCallX (K : PySem.W.Frag) (C CS : Addr) : Sp := fun vs H Q E => ∃ (t : Addr) (x : V) (S : List Stp) (L : List Int), vs = [.ref t, x] ∧ SqcAt K C H t S ∧ S.length ≤ 1000 ∧ NumsAt K H x L ∧
  (∀ M, XT.runR (XT.srt L) 0 S = .inl M → ∀ m H', Same H H' → H m = Option.none → H' m = some (.lst (M.map V.int)) → Q (.ref m) H') ∧ (∀ i, XT.runR (XT.srt L) 0 S = .inr i → ∀ d H', Same H H' → H d = Option.none → H' d = some (.xd [("index", .int (i : Int))]) → E (.ref CS) (some d) H')
theorem okX_Sequence_call (T : Txt K mg a) : FnR P w K mg base (L2.CX P w) 5 a.Sequence___call__ (spCallX K a.Sequence a.StepFailed) := by
  obtain ⟨fd, F⟩ := T.F_Sequence___call__
  refine XT.okX F sc_Sequence___call__ bn_Sequence___call__ (fun vs H Q E h => ?_) (fun cdv A outer s H vs Q E hr h => ?_)
  · obtain ⟨t, x, S, L, rfl, _⟩ := h
    rfl
  · obtain ⟨t, x, S, L, rfl, ⟨dx, p, xs, ht, hS, hX, hg⟩, hz, hN, k1, k2⟩ := h
    have G_ascending := ok_ascending (P := P) (w := w) (base := base) T
    have G_after_step := okX_after_step (P := P) (w := w) (base := base) T
    refine ⟨_, (pss_cons (ps_set (i := 2) sc_Sequence___call__.nd rfl (Or.inl rfl) (pe_callR G_ascending (hr.mono (by decide)) rfl T.g_ascending T.k_ascending pass0 (pa_cons (pv 1) pa_nil)))
      (pss_cons (ps_for (passes_of rfl) rfl (pi_enumT (by rfl) T.b_enumerate (pa_cons (fldK K (pv 0) rfl) pa_nil)) (tupK K (n := 2) (by rfl) (pgs_cons (pg_name (i := 3) sc_Sequence___call__.nd rfl (Or.inl rfl)) (pgs_cons (pg_name (i := 4) sc_Sequence___call__.nd rfl (Or.inl rfl)) pgs_nil)))
        (pss_one (ps_set (i := 2) sc_Sequence___call__.nd rfl (Or.inl rfl) (pe_callR G_after_step (hr.mono (by decide)) rfl T.g_after_step T.k_after_step (passes_call (takes_of rfl rfl rfl rfl) (fun _ _ _ _ h => h)) (pa_cons (pv 2) (pa_cons (pv 3) (pa_cons (pv 4) pa_nil)))))))
      (pss_one (ps_ret (pv 2))))), ?_⟩
    refine ⟨_, rfl, x, L, rfl, hN, fun m0 H1 s1 n0 h0 => ?_⟩
    have hLL : L.length ≤ 1000 := by obtain ⟨_, _, _, h⟩ := hN; exact h
    refine ⟨_, rfl, t, a.Sequence, dx, _, _, rfl, s1 _ _ ht, T.cl_S, T.n_steps, sfl_steps _, p, xs, rfl, same_seqT s1 hS, ?_⟩
    refine for_enT (xs := xs) (same_seqT s1 hS) (fun i σ H' => ∃ (m : Addr) (M : List Int) (o3 o4 : Option V), σ = [some (.ref t), some x, some (.ref m), o3, o4] ∧ Same H H' ∧ H m = Option.none ∧ H' m = some (.lst (M.map V.int)) ∧ M.length ≤ 1000 + i ∧ XT.runR (XT.srt L) 0 S = XT.runR M i (S.drop i)) (fun i σ H' hi ⟨_, _, _, _, _, s, _⟩ => same_seqT s hS) ⟨m0, XT.srt L, _, _, rfl, s1, n0, h0, by rw [XT.srt_len]; omega, rfl⟩ ?_ ?_
    · rintro i y T' σ H' hi hy hT ⟨m, M, o3, o4, rfl, s, nm, hm, hl, hrun⟩
      obtain ⟨st, hst, hy2⟩ := pd_get hX hy
      have s2 := s.trans (same_new (o := .tup [V.int (i : Int), y]) hT)
      refine ⟨T', [V.int (i : Int), y], rfl, SqT.of upd_same, rfl, _, [y], rfl, y, [], rfl, rfl, ?_⟩
      have hi2 : i < S.length := (List.getElem?_eq_some_iff.mp hst).1
      have hm2 := (same_new (o := .tup [V.int (i : Int), y]) hT) _ _ hm
      refine ⟨_, rfl, _, rfl, y, rfl, m, (i : Int), y, M, st, rfl, SqL.of hm2, hy2.same s2, hg st (List.mem_of_getElem? hst), by omega, fun M2 e2 m2 H2 s3 n2 h2 => ?_, fun e2 d H2 s3 nd hd => ?_⟩
      · exact ⟨m2, M2, _, _, rfl, s2.trans s3, s2.free n2, h2, by have := XT.stepR_len e2; omega, by rw [hrun, XT.runR_step hst e2]⟩
      · exact k2 i (by rw [hrun, XT.runR_fail hst e2]) d H2 (s2.trans s3) (s2.free nd) hd
    · rintro σ H' ⟨m, M, o3, o4, rfl, s, nm, hm, hl, hrun⟩
      refine ⟨_, rfl, k1 M ?_ m H' s nm hm⟩
      rw [hrun, hX.length, List.drop_length]
      rfl


end
end K43
namespace K43
open PySem L2 XT
section
variable {P : Program} {w : World} {K : PySem.W.Frag} {mg : Str → Option Value} {base : Heap} {a : Ads}
local macro_rules | `(tactic| walk_at "rside") => `(tactic| first | (show (0 : Int) < _; first | decide | omega) | (exact ⟨by first | decide | omega, by first | decide | omega⟩) | (exact Or.inl ⟨by omega, by omega⟩) | (exact Or.inr ⟨by omega, by omega⟩) | (exact ⟨by decide, by decide, by decide⟩))
local macro_rules | `(tactic| walk_at "rd1") => `(tactic| first | (refine ⟨_, rfl, ?_⟩) | (refine ⟨_, _, rfl, rfl, (by walk_at "rside"), ?_⟩) | (refine ⟨_, _, rfl, rfl, ?_⟩))
local macro_rules | `(tactic| walk_at "rd") => `(tactic| repeat (walk_at "rd1"))

/-- something that is no list of numbers -/
def BadN (K : PySem.W.Frag) (H : Hp) (x : V) : Prop := (∃ xs, Sq K H x xs ∧ numsV xs = false) ∨ Od K H x
theorem BadN.same {H H' : Hp} {x : V} (h : BadN K H x) (s : Same H H') : BadN K H' x := by
  rcases h with ⟨xs, ⟨q, e1, e2, e3, e4⟩, e5⟩ | ⟨n, e1, e2, e3⟩
  · exact .inl ⟨xs, ⟨q, e1, e2.imp (fun h => s.seq h) (fun h => same_seqT s h), fun y hy => (e3 y hy).same s, e4⟩, e5⟩
  · exact .inr ⟨n, same_tyB s e1, e2, e3⟩
/-- whether x is a list of numbers -/
def NumB (K : PySem.W.Frag) (H : Hp) (x : V) (b : Bool) : Prop := (b = true ∧ ∃ L, NumsAt K H x L) ∨ (b = false ∧ BadN K H x)
theorem NumB.same {H H' : Hp} {x : V} {b : Bool} (h : NumB K H x b) (s : Same H H') : NumB K H' x b := h.imp (fun ⟨e, L, h⟩ => ⟨e, L, h.same s⟩) fun ⟨e, h⟩ => ⟨e, h.same s⟩
def spNumB (K : PySem.W.Frag) : Sp := fun vs H Q _ => ∃ x b, vs = [x] ∧ NumB K H x b ∧ ∀ H', Same H H' → Q (.bl b) H'
theorem okN_is_number_list (T : Txt K mg a) : FnR P w K mg base CX0 2 a.is_number_list (spNumB K) := fun A outer s H us vs Q E hr e0 r ⟨x, b, e, h, k⟩ => by
  refine ok_is_number_list (P := P) (w := w) (base := base) T A outer s H us vs Q E hr e0 r ⟨x, e, ?_⟩
  rcases h with ⟨rfl, L, p, rfl, hS, hl⟩ | ⟨rfl, ⟨xs, hS, hn⟩ | od⟩
  · exact .inl ⟨L.map V.int, ⟨p, rfl, hS, kv_ints L, by rw [List.length_map]; omega⟩, fun H1 s1 => by rw [nums_of]; exact k H1 s1⟩
  · exact .inl ⟨xs, hS, fun H1 s1 => by rw [hn]; exact k H1 s1⟩
  · exact .inr ⟨od, k⟩
/-- whether x is a fact -/
def FtB (K : PySem.W.Frag) (H : Hp) (x : V) (b : Bool) : Prop := (∃ n, TyB K H x n ∧ tyN n = true ∧ n ≠ "tuple" ∧ b = false) ∨ (∃ r xs, x = .ref r ∧ SqT K H r xs ∧ xs.length ≠ 2 ∧ b = false) ∨
  ∃ r u y b1, x = .ref r ∧ SqT K H r [u, y] ∧ NumB K H u b1 ∧ ((y = .non ∧ b = b1) ∨ ∃ b2, y ≠ .non ∧ NumB K H y b2 ∧ b = (b1 && b2))
theorem FtB.same {H H' : Hp} {x : V} {b : Bool} (h : FtB K H x b) (s : Same H H') : FtB K H' x b := by
  rcases h with ⟨n, h1, h⟩ | ⟨r, xs, e, h1, h⟩ | ⟨r, u, y, b1, e, h1, h2, h3⟩
  · exact .inl ⟨n, same_tyB s h1, h⟩
  · exact .inr (.inl ⟨r, xs, e, same_seqT s h1, h⟩)
  · exact .inr (.inr ⟨r, u, y, b1, e, same_seqT s h1, h2.same s, h3.imp id fun ⟨b2, n, h, e⟩ => ⟨b2, n, h.same s, e⟩⟩)
def spFact (K : PySem.W.Frag) : Sp := fun vs H Q _ => ∃ x b, vs = [x] ∧ FtB K H x b ∧ ∀ H', Same H H' → Q (.bl b) H'
theorem ok_is_fact (T : Txt K mg a) : FnR P w K mg base CX0 3 a.is_fact (spFact K) := by
  obtain ⟨fd, F⟩ := T.F_is_fact
  refine XT.okR F sc_is_fact bn_is_fact (fun vs H Q E h => ?_) (fun cdv A outer s H vs Q E hr h => ?_)
  · obtain ⟨x, b, rfl, _⟩ := h
    rfl
  · obtain ⟨x, b, rfl, h, q⟩ := h
    have G_is_number_list := okN_is_number_list (P := P) (w := w) (base := base) T
    refine ⟨_, (pss_cons (ps_if (PW.pt (pw_or (pt_cmpR op_neTy (pe_callTy (typeK K) (by rfl) T.b_type (by decide +kernel) (pa_cons (pv 0) pa_nil)) (pe_bltn (v := .ty "tuple") (u := .type "tuple") (by rfl) T.b_tuple (by decide +kernel) rfl) (nomark _)) (pw_or1 (pt_cmpR op_ne (pe_callB (lenK K) (by rfl) T.b_len (by decide +kernel) (pa_cons (pv 0) pa_nil)) pe_int (nomark _))))) (pss_one (ps_ret pe_bl)) pss_nil)
      (pss_cons (ps_asg (pv 0) (tupK K (n := 2) (by rfl) (pgs_cons (pg_name (i := 1) sc_is_fact.nd rfl (Or.inl rfl)) (pgs_cons (pg_name (i := 2) sc_is_fact.nd rfl (Or.inl rfl)) pgs_nil))))
      (pss_one (ps_ret (pe_and (pe_callR G_is_number_list (hr.mono (by decide)) rfl T.g_is_number_list T.k_is_number_list pass0 (pa_cons (pv 1) pa_nil)) (pe_one (pe_or (pe_cmpR op_isN (pv 2) pe_non (nomark _)) (pe_one (pe_callR G_is_number_list (hr.mono (by decide)) rfl T.g_is_number_list T.k_is_number_list pass0 (pa_cons (pv 2) pa_nil)))))))))), ?_⟩
    rcases h with ⟨n, ht, hn, hne, rfl⟩ | ⟨r, xs, rfl, hS, hl, rfl⟩ | ⟨r, u, y, b1, rfl, hS, hu, hy⟩
    · refine ⟨_, rfl, _, n, rfl, ht, n, "tuple", rfl, rfl, hn, by decide +kernel, _, rfl, iteH (by simp [hne]) ?_⟩
      exact q H (Same.refl H)
    · refine ⟨_, rfl, _, "tuple", rfl, .tup hS, "tuple", "tuple", rfl, rfl, by decide +kernel, by decide +kernel, _, rfl, iteN (by decide) ?_⟩
      refine ⟨_, rfl, r, xs, rfl, .inr hS, rfl, _, rfl, iteH (by simp; omega) ?_⟩
      exact q H (Same.refl H)
    · refine ⟨_, rfl, _, "tuple", rfl, .tup hS, "tuple", "tuple", rfl, rfl, by decide +kernel, by decide +kernel, _, rfl, iteN (by decide) ?_⟩
      refine ⟨_, rfl, r, [u, y], rfl, .inr hS, rfl, _, rfl, iteN (by simp) ?_⟩
      refine ⟨_, rfl, r, [u, y], rfl, hS, rfl, u, [y], rfl, y, [], rfl, rfl, ?_⟩
      refine ⟨u, rfl, u, b1, rfl, hu, fun H1 s1 => ⟨b1, rfl, ?_⟩⟩
      cases b1 with
      | false =>
        refine iteN rfl ?_
        have : b = false := by
          rcases hy with ⟨_, rfl⟩ | ⟨b2, _, _, rfl⟩ <;> rfl
        subst this
        exact q H1 s1
      | true =>
        refine iteH rfl ?_
        rcases hy with ⟨rfl, rfl⟩ | ⟨b2, hn, hy2, e2⟩
        · exact ⟨_, rfl, rfl, _, rfl, iteH rfl (q H1 s1)⟩
        · refine ⟨_, rfl, rfl, _, rfl, iteN (decide_eq_false hn) ?_⟩
          have e3 : b = b2 := by rw [e2]; rfl
          subst e3
          exact ⟨y, rfl, y, b, rfl, hy2.same s1, fun H2 s2 => q H2 (s1.trans s2)⟩

/-- a list or tuple of facts, and whether each is one -/
def spFacts (K : PySem.W.Frag) : Sp := fun vs H Q _ => ∃ x, vs = [x] ∧ ((∃ p xs bs, x = .ref p ∧ (SqL K H p xs ∨ SqT K H p xs) ∧ Paired (FtB K H) xs bs ∧ xs.length ≤ 100000 ∧ ∀ H', Same H H' → Q (.bl (bs.all id)) H') ∨ (Od K H x ∧ ∀ H', Same H H' → Q (.bl false) H'))
theorem getD_pd {α : Type} {F : α → Bool → Prop} {xs : List α} {bs : List Bool} (h : Paired F xs bs) {i : Nat} {x : α} (e : xs[i]? = some x) : F x (bs.getD i false) := by
  obtain ⟨b, hb, hf⟩ := pd_get h e
  simp [List.getD, hb]
  exact hf
theorem rng_bl (bs : List Bool) : (List.range bs.length).map (fun i => V.bl (bs.getD i false)) = bs.map V.bl := by
  refine List.ext_getElem (by simp) fun i h1 h2 => ?_
  simp [List.getD, List.getElem?_eq_getElem (show i < bs.length by simpa using h2)]
theorem ok_is_fact_list (T : Txt K mg a) : FnR P w K mg base CX0 4 a.is_fact_list (spFacts K) := by
  obtain ⟨fd, F⟩ := T.F_is_fact_list
  refine XT.okR F sc_is_fact_list bn_is_fact_list (fun vs H Q E h => ?_) (fun cdv A outer s H vs Q E hr h => ?_)
  · obtain ⟨x, rfl, _⟩ := h
    rfl
  · obtain ⟨x, rfl, hq⟩ := h
    have G_is_fact := ok_is_fact (P := P) (w := w) (base := base) T
    rcases hq with ⟨p, xs, bs, rfl, hS, hb, hl, q0⟩ | ⟨⟨n, ht, hn, n1, n2⟩, q0⟩
    · rcases hS with hS | hS
      · refine ⟨_, (pss_one (ps_ret (pe_and (pe_cmpR (inTyK K) (pe_callTy (typeK K) (by rfl) T.b_type (by decide +kernel) (pa_cons (pv 0) pa_nil)) (pe_tup (pa_cons (pe_bltn (v := .ty "list") (u := .type "list") (by rfl) T.b_list (by decide +kernel) rfl) (pa_cons (pe_bltn (v := .ty "tuple") (u := .type "tuple") (by rfl) T.b_tuple (by decide +kernel) rfl) pa_nil))) (by rfl)) (pe_one (pe_callB (allK K rfl) (by rfl) T.b_all (by decide +kernel) (pa_cons (pe_lc (own := [("fact", 1)])  rfl sc_is_fact_list.nd (pi_list (pv 0)) (blkOk_by (N := N_is_fact_list) (sc := defScope s_is_fact_list) (by decide +kernel)) (fun _ _ _ _ _ => by exact (pg_name (i := 1) sc_is_fact_list.nd rfl (Or.inl rfl))) (fun _ _ _ _ _ => by exact pts_nil) (fun _ _ _ _ _ => by exact (pe_callR G_is_fact (hr.mono (by decide)) rfl T.g_is_fact T.k_is_fact pass0 (pa_cons (pv 1) pa_nil)))) pa_nil)))))), ?_⟩
        have hS1 : ∀ q o, H q = Option.none → SqL K (upd H q o) p xs := fun q o hq => Same.seq (same_new hq) hS
        refine ⟨_, rfl, _, "list", rfl, TyB.lst hS, by decide, fun q hq => ⟨_, q, ["list", "tuple"], rfl, rfl, SqT.of upd_same, by decide +kernel, by decide +kernel, _, rfl, iteT ?_⟩⟩
        refine ⟨_, rfl, p, rfl, ⟨xs, hS1 _ _ hq⟩, fun D hD => lcM (stat_list (hS1 _ _ hq)) hD (fun i => .bl (bs.getD i false)) (Nat.le_trans hl line_ge) ?_ ?_⟩
        · intro i y H2 R hi s px k
          refine ⟨rfl, y, rfl, y, _, rfl, (getD_pd hb px).same ((same_new hq).trans s), fun H3 s3 => k H3 s3⟩
        · intro H2 s hL
          rw [hb.length, rng_bl] at hL
          exact ⟨D, bs, rfl, SqL.of hL, q0 _ ((same_new hq).trans s)⟩
      · refine ⟨_, (pss_one (ps_ret (pe_and (pe_cmpR (inTyK K) (pe_callTy (typeK K) (by rfl) T.b_type (by decide +kernel) (pa_cons (pv 0) pa_nil)) (pe_tup (pa_cons (pe_bltn (v := .ty "list") (u := .type "list") (by rfl) T.b_list (by decide +kernel) rfl) (pa_cons (pe_bltn (v := .ty "tuple") (u := .type "tuple") (by rfl) T.b_tuple (by decide +kernel) rfl) pa_nil))) (by rfl)) (pe_one (pe_callB (allK K rfl) (by rfl) T.b_all (by decide +kernel) (pa_cons (pe_lc (own := [("fact", 1)])  rfl sc_is_fact_list.nd (pi_tup (pv 0)) (blkOk_by (N := N_is_fact_list) (sc := defScope s_is_fact_list) (by decide +kernel)) (fun _ _ _ _ _ => by exact (pg_name (i := 1) sc_is_fact_list.nd rfl (Or.inl rfl))) (fun _ _ _ _ _ => by exact pts_nil) (fun _ _ _ _ _ => by exact (pe_callR G_is_fact (hr.mono (by decide)) rfl T.g_is_fact T.k_is_fact pass0 (pa_cons (pv 1) pa_nil)))) pa_nil)))))), ?_⟩
        have hS1 : ∀ q o, H q = Option.none → SqT K (upd H q o) p xs := fun q o hq => same_seqT (same_new hq) hS
        refine ⟨_, rfl, _, "tuple", rfl, TyB.tup hS, by decide, fun q hq => ⟨_, q, ["list", "tuple"], rfl, rfl, SqT.of upd_same, by decide +kernel, by decide +kernel, _, rfl, iteT ?_⟩⟩
        refine ⟨_, rfl, p, rfl, ⟨xs, hS1 _ _ hq⟩, fun D hD => lcM (stat_tup (hS1 _ _ hq)) hD (fun i => .bl (bs.getD i false)) (Nat.le_trans hl line_ge) ?_ ?_⟩
        · intro i y H2 R hi s px k
          refine ⟨rfl, y, rfl, y, _, rfl, (getD_pd hb px).same ((same_new hq).trans s), fun H3 s3 => k H3 s3⟩
        · intro H2 s hL
          rw [hb.length, rng_bl] at hL
          exact ⟨D, bs, rfl, SqL.of hL, q0 _ ((same_new hq).trans s)⟩
    · refine ⟨_, (pss_one (ps_ret (pe_and (pe_cmpR (inTyK K) (pe_callTy (typeK K) (by rfl) T.b_type (by decide +kernel) (pa_cons (pv 0) pa_nil)) (pe_tup (pa_cons (pe_bltn (v := .ty "list") (u := .type "list") (by rfl) T.b_list (by decide +kernel) rfl) (pa_cons (pe_bltn (v := .ty "tuple") (u := .type "tuple") (by rfl) T.b_tuple (by decide +kernel) rfl) pa_nil))) (by rfl)) (pe_one (pe_callB (allK K rfl) (by rfl) T.b_all (by decide +kernel) (pa_cons (pe_lc (own := [("fact", 1)])  rfl sc_is_fact_list.nd (pi_list (pv 0)) (blkOk_by (N := N_is_fact_list) (sc := defScope s_is_fact_list) (by decide +kernel)) (fun _ _ _ _ _ => by exact (pg_name (i := 1) sc_is_fact_list.nd rfl (Or.inl rfl))) (fun _ _ _ _ _ => by exact pts_nil) (fun _ _ _ _ _ => by exact (pe_callR G_is_fact (hr.mono (by decide)) rfl T.g_is_fact T.k_is_fact pass0 (pa_cons (pv 1) pa_nil)))) pa_nil)))))), ?_⟩
      exact ⟨_, rfl, _, n, rfl, ht, by decide, fun q hq => ⟨_, q, ["list", "tuple"], rfl, rfl, SqT.of upd_same, hn, by decide +kernel, _, rfl, iteN (in_lt n1 n2) (q0 _ (same_new hq))⟩⟩

end
end K43
namespace K43
open PySem L2 XT
section
variable {P : Program} {w : World} {K : PySem.W.Frag} {mg : Str → Option Value} {base : Heap} {a : Ads}
local macro_rules | `(tactic| walk_at "rside") => `(tactic| first | (show (0 : Int) < _; first | decide | omega) | (exact ⟨by first | decide | omega, by first | decide | omega⟩) | (exact Or.inl ⟨by omega, by omega⟩) | (exact Or.inr ⟨by omega, by omega⟩) | (exact ⟨by decide, by decide, by decide⟩))
local macro_rules | `(tactic| walk_at "rd1") => `(tactic| first | (refine ⟨_, rfl, ?_⟩) | (refine ⟨_, _, rfl, rfl, (by walk_at "rside"), ?_⟩) | (refine ⟨_, _, rfl, rfl, ?_⟩))
local macro_rules | `(tactic| walk_at "rd") => `(tactic| repeat (walk_at "rd1"))

/-- what a run gives, as data -/
def outD : List Int ⊕ Nat → PyData
  | .inl M => .list (M.map PyData.int)
  | .inr _ => .none
def outO : List Int ⊕ Nat → Option (List Int)
  | .inl M => some M
  | .inr _ => Option.none
def optL : Option (List Int) → PyData
  | some M => .list (M.map PyData.int)
  | Option.none => .none
theorem out_opt : ∀ r : List Int ⊕ Nat, outD r = optL (outO r)
  | .inl _ => rfl
  | .inr _ => rfl
theorem sh_optL : ∀ r : Option (List Int), SeqAt.shaped (optL r) = true
  | some M => shaped_lst M
  | Option.none => by show SeqAt.shaped .none = true; decide
theorem eqv_optL (r q : Option (List Int)) : PyData.eqv (optL r) (optL q) = decide (r = q) := by
  cases r with
  | some M =>
    cases q with
    | some N =>
      show PyData.eqv (.list _) (.list _) = _
      rw [eqv_lsts]
      by_cases h : M = N
      · rw [decide_eq_true h, decide_eq_true (by rw [h])]
      · rw [decide_eq_false h, decide_eq_false (fun z => h (Option.some.inj z))]
    | none => rfl
  | none =>
    cases q with
    | some N => rfl
    | none => rfl
def spRes (K : PySem.W.Frag) (C : Addr) : Sp := fun vs H Q _ => ∃ (t : Addr) (x : V) (S : List Stp) (L : List Int), vs = [.ref t, x] ∧ SqcAt K C H t S ∧ S.length ≤ 1000 ∧ NumsAt K H x L ∧ ∀ v H', Same H H' → Dp K H' v (optL (outO (XT.runR (XT.srt L) 0 S))) → Q v H'
theorem ok_result_of (T : Txt K mg a) : FnR P w K mg base CX0 7 a.result_of (spRes K a.Sequence) := by
  obtain ⟨fd, F⟩ := T.F_result_of
  have G_call_S := okX_Sequence_call (P := P) (w := w) (base := base) T
  refine XT.okR F sc_result_of bn_result_of (fun vs H Q E h => ?_) (fun cdv A outer s H vs Q E hr h => ?_)
  · obtain ⟨t, x, S, L, rfl, _⟩ := h
    rfl
  · obtain ⟨t, x, S, L, rfl, ht, hz, hN, k⟩ := h
    refine ⟨_, (pss_one (ps_try_only rfl rfl ⟨by rfl, by decide, .inl T.g_StepFailed⟩ takes0 (fun W pn xe tk _ => (pss_one (ps_ret (pe_callI (pv 0) T.callO_S G_call_S (hr.mono (by decide)) (passAll tk 2 rfl) (pa_cons (pv 1) pa_nil))))) (fun ea oe cls d pn _ _ => (pss_one (ps_ret pe_non))))), ?_⟩
    refine ⟨_, rfl, t, rfl, x, rfl, ht.insA, t, x, S, L, rfl, ht, hz, hN, fun M hM m H1 s1 n1 h1 => ?_, fun i hi d H1 s1 nd hd σ hσ => ?_⟩
    · have := k (.ref m) H1 s1
      rw [hM] at this
      exact this (dp_lst (SqL.of h1))
    · refine ⟨true, T.x_SS, fun _ ea hea => ?_, fun q => Bool.noConfusion q⟩
      have := k .non H1 s1
      rw [hi] at this
      exact this .non
theorem iteKA {σ : L2.St} {H : Hp} {kk : V → Hp → Prop} {c : Bool} {A B : Prop} (h1 : c = true → A) (h2 : ¬ c = true → B) : if c = true then A else B := by
  split
  · rename_i h; exact h1 h
  · rename_i h; exact h2 h
abbrev Fc := List Int × Option (List Int)
/-- a fact -/
def FcAt (K : PySem.W.Frag) (H : Hp) (x : V) (f : Fc) : Prop := ∃ r u y, x = .ref r ∧ SqT K H r [u, y] ∧ NumsAt K H u f.1 ∧ ((f.2 = Option.none ∧ y = .non) ∨ ∃ A, f.2 = some A ∧ NumsAt K H y A)
theorem FcAt.same {H H' : Hp} {x : V} {f : Fc} (h : FcAt K H x f) (s : Same H H') : FcAt K H' x f := by
  obtain ⟨r, u, y, e, h1, h2, h3⟩ := h
  exact ⟨r, u, y, e, same_seqT s h1, h2.same s, h3.imp id fun ⟨A, e, h⟩ => ⟨A, e, h.same s⟩⟩
theorem numsAt_ne {H : Hp} {x : V} {L : List Int} (h : NumsAt K H x L) : x ≠ .non := by
  obtain ⟨p, rfl, _⟩ := h
  exact fun z => V.noConfusion z
theorem FcAt.ft {H : Hp} {x : V} {f : Fc} (h : FcAt K H x f) : FtB K H x true := by
  obtain ⟨r, u, y, e, h1, h2, h3⟩ := h
  refine .inr (.inr ⟨r, u, y, true, e, h1, .inl ⟨rfl, _, h2⟩, ?_⟩)
  rcases h3 with ⟨_, rfl⟩ | ⟨A, _, h⟩
  · exact .inl ⟨rfl, rfl⟩
  · exact .inr ⟨true, numsAt_ne h, .inl ⟨rfl, _, h⟩, rfl⟩
def agr1 (S : List Stp) (f : Fc) : Bool := decide (outO (XT.runR (XT.srt f.1) 0 S) = f.2.map XT.srt)
def agr (S : List Stp) (F : List Fc) : Bool := F.all (agr1 S)
def spAgr (K : PySem.W.Frag) (C : Addr) : Sp := fun vs H Q _ => ∃ (t p : Addr) (xs : List V) (S : List Stp) (F : List Fc), vs = [.ref t, .ref p] ∧ SqcAt K C H t S ∧ S.length ≤ 1000 ∧ (SqL K H p xs ∨ SqT K H p xs) ∧ Paired (FcAt K H) xs F ∧ ∀ H', Same H H' → Q (.bl (agr S F)) H'
theorem all_false {S : List Stp} {F : List Fc} {i : Nat} {f : Fc} (h : F[i]? = some f) (e : agr1 S f = false) : agr S F = false := by
  unfold agr
  rw [List.all_eq_false]
  exact ⟨f, List.mem_of_getElem? h, by rw [e]; exact Bool.false_ne_true⟩
theorem take_all {S : List Stp} {F : List Fc} {i : Nat} {f : Fc} (h0 : (F.take i).all (agr1 S) = true) (h : F[i]? = some f) (e : agr1 S f = true) : (F.take (i + 1)).all (agr1 S) = true := by
  rw [List.take_add_one, h, List.all_append, h0]
  simp [e]
theorem ok_agrees (T : Txt K mg a) : FnR P w K mg base CX0 9 a.agrees (spAgr K a.Sequence) := by
  obtain ⟨fd, F⟩ := T.F_agrees
  refine XT.okR F sc_agrees bn_agrees (fun vs H Q E h => ?_) (fun cdv A outer s H vs Q E hr h => ?_)
  · obtain ⟨t, p, xs, S, F, rfl, _⟩ := h
    rfl
  · obtain ⟨t, p, xs, S, F, rfl, ht, hz, hP, hF, k⟩ := h
    have G_result_of := ok_result_of (P := P) (w := w) (base := base) T
    have kk : ∀ {H'}, Same H H' → agr S F = false → Q (.bl false) H' := fun {H'} s e => by have := k H' s; rw [e] at this; exact this
    rcases hP with hP | hP
    · refine ⟨_, (pss_cons (ps_for PassesOwn.never rfl (pi_list (pv 1)) (tupK K (n := 2) (by rfl) (pgs_cons (pg_name (i := 2) sc_agrees.nd rfl (Or.inl rfl)) (pgs_cons (pg_name (i := 3) sc_agrees.nd rfl (Or.inl rfl)) pgs_nil)))
              (pss_cons (ps_set (i := 4) sc_agrees.nd rfl (Or.inl rfl) (pe_ifExp (pt_cmpR op_isN (pv 3) pe_non (nomark _)) pe_non (pe_callB (sortedAK K) (by rfl) T.b_sorted (by decide +kernel) (pa_cons (pv 3) pa_nil))))
            (pss_one (ps_if (pt_cmpR (neDK K hr.units) (pe_callR G_result_of (hr.mono (by decide)) rfl T.g_result_of T.k_result_of pass0 (pa_cons (pv 0) (pa_cons (pv 2) pa_nil))) (pv 4) (nomark _)) (pss_one (ps_ret pe_bl)) pss_nil))))
            (pss_one (ps_ret pe_bl))), ?_⟩
      refine ⟨_, rfl, p, rfl, ⟨_, hP⟩, for_list (K := K) (a := p) (xs := xs) (fun i σ H' => ∃ o2 o3 o4, σ = [some (.ref t), some (.ref p), o2, o3, o4] ∧ Same H H' ∧ (F.take i).all (agr1 S) = true) ⟨_, _, _, rfl, Same.refl _, by simp⟩ (fun i σ H' _ ⟨_, _, _, _, s, _⟩ => (fun s h => Same.seq s h) s hP) ?_ ?_⟩
      · rintro i x σ H1 hx ⟨o2, o3, o4, rfl, s1, hall⟩
        obtain ⟨f, hf, r, u, y, rfl, hr0, hu, hy⟩ := pd_get hF hx
        refine ⟨r, [u, y], rfl, same_seqT s1 hr0, rfl, u, [y], rfl, y, [], rfl, rfl, ?_⟩
        have step : ∀ (v w : V) (H2 : Hp), True := fun _ _ _ => trivial
        have ht1 := ht.same s1
        have hu1 := hu.same s1
        rcases hy with ⟨e2, rfl⟩ | ⟨A, e2, hA⟩
        · refine ⟨_, rfl, rfl, _, rfl, iteH rfl ?_⟩
          refine ⟨_, rfl, _, rfl, t, u, S, f.1, rfl, ht1, hz, hu1, fun v H2 s2 hv => ⟨_, rfl, _, optL Option.none, hv, .non, sh_optL _, sh_optL Option.none, _, rfl, ?_⟩⟩
          rw [eqv_optL]
          refine ite2 (fun h1 => ?_) (fun h1 => ?_)
          · refine kk (s1.trans s2) ?_
            refine all_false hf ?_
            unfold agr1
            rw [e2]
            show decide (_ = Option.none) = false
            simpa using h1
          · refine ⟨_, _, _, rfl, s1.trans s2, take_all hall hf ?_⟩
            unfold agr1
            rw [e2]
            show decide (_ = Option.none) = true
            simpa using h1
        · refine ⟨_, rfl, rfl, _, rfl, iteN (decide_eq_false (numsAt_ne hA)) ?_⟩
          obtain ⟨pa, rfl, hpa, hal⟩ := hA.same s1
          refine ⟨_, rfl, pa, A, rfl, hpa, fun N q pm up nq => ?_⟩
          rw [XT.srt_of pm up]
          have s2 := same_new (o := .lst ((XT.srt A).map V.int)) nq
          have hq2 := upd_same (H := H1) (a := q) (o := .lst ((XT.srt A).map V.int))
          generalize upd H1 q (.lst ((XT.srt A).map V.int)) = H2 at s2 hq2 ⊢
          refine ⟨_, rfl, _, rfl, t, u, S, f.1, rfl, ht1.same s2, hz, hu1.same s2, fun v H3 s3 hv => ⟨_, rfl, _, optL (some (XT.srt A)), hv, dp_lst (SqL.of (s3 _ _ hq2)), sh_optL _, sh_optL (some (XT.srt A)), _, rfl, ?_⟩⟩
          have s13 := (s1.trans s2).trans s3
          rw [eqv_optL]
          refine ite2 (fun h1 => ?_) (fun h1 => ?_)
          · refine kk s13 ?_
            refine all_false hf ?_
            unfold agr1
            rw [e2]
            show decide (_ = some (XT.srt A)) = false
            simpa using h1
          · refine ⟨_, _, _, rfl, s13, take_all hall hf ?_⟩
            unfold agr1
            rw [e2]
            show decide (_ = some (XT.srt A)) = true
            simpa using h1
      · rintro σ H1 ⟨o2, o3, o4, rfl, s1, hall⟩
        rw [hF.length, List.take_length] at hall
        have := k H1 s1
        unfold agr at this
        rw [hall] at this
        exact this
    · refine ⟨_, (pss_cons (ps_for PassesOwn.never rfl (pi_tup (pv 1)) (tupK K (n := 2) (by rfl) (pgs_cons (pg_name (i := 2) sc_agrees.nd rfl (Or.inl rfl)) (pgs_cons (pg_name (i := 3) sc_agrees.nd rfl (Or.inl rfl)) pgs_nil)))
              (pss_cons (ps_set (i := 4) sc_agrees.nd rfl (Or.inl rfl) (pe_ifExp (pt_cmpR op_isN (pv 3) pe_non (nomark _)) pe_non (pe_callB (sortedAK K) (by rfl) T.b_sorted (by decide +kernel) (pa_cons (pv 3) pa_nil))))
            (pss_one (ps_if (pt_cmpR (neDK K hr.units) (pe_callR G_result_of (hr.mono (by decide)) rfl T.g_result_of T.k_result_of pass0 (pa_cons (pv 0) (pa_cons (pv 2) pa_nil))) (pv 4) (nomark _)) (pss_one (ps_ret pe_bl)) pss_nil))))
            (pss_one (ps_ret pe_bl))), ?_⟩
      refine ⟨_, rfl, p, rfl, ⟨_, hP⟩, for_tup (K := K) (a := p) (xs := xs) (fun i σ H' => ∃ o2 o3 o4, σ = [some (.ref t), some (.ref p), o2, o3, o4] ∧ Same H H' ∧ (F.take i).all (agr1 S) = true) ⟨_, _, _, rfl, Same.refl _, by simp⟩ (fun i σ H' _ ⟨_, _, _, _, s, _⟩ => (fun s h => same_seqT s h) s hP) ?_ ?_⟩
      · rintro i x σ H1 hx ⟨o2, o3, o4, rfl, s1, hall⟩
        obtain ⟨f, hf, r, u, y, rfl, hr0, hu, hy⟩ := pd_get hF hx
        refine ⟨r, [u, y], rfl, same_seqT s1 hr0, rfl, u, [y], rfl, y, [], rfl, rfl, ?_⟩
        have step : ∀ (v w : V) (H2 : Hp), True := fun _ _ _ => trivial
        have ht1 := ht.same s1
        have hu1 := hu.same s1
        rcases hy with ⟨e2, rfl⟩ | ⟨A, e2, hA⟩
        · refine ⟨_, rfl, rfl, _, rfl, iteH rfl ?_⟩
          refine ⟨_, rfl, _, rfl, t, u, S, f.1, rfl, ht1, hz, hu1, fun v H2 s2 hv => ⟨_, rfl, _, optL Option.none, hv, .non, sh_optL _, sh_optL Option.none, _, rfl, ?_⟩⟩
          rw [eqv_optL]
          refine ite2 (fun h1 => ?_) (fun h1 => ?_)
          · refine kk (s1.trans s2) ?_
            refine all_false hf ?_
            unfold agr1
            rw [e2]
            show decide (_ = Option.none) = false
            simpa using h1
          · refine ⟨_, _, _, rfl, s1.trans s2, take_all hall hf ?_⟩
            unfold agr1
            rw [e2]
            show decide (_ = Option.none) = true
            simpa using h1
        · refine ⟨_, rfl, rfl, _, rfl, iteN (decide_eq_false (numsAt_ne hA)) ?_⟩
          obtain ⟨pa, rfl, hpa, hal⟩ := hA.same s1
          refine ⟨_, rfl, pa, A, rfl, hpa, fun N q pm up nq => ?_⟩
          rw [XT.srt_of pm up]
          have s2 := same_new (o := .lst ((XT.srt A).map V.int)) nq
          have hq2 := upd_same (H := H1) (a := q) (o := .lst ((XT.srt A).map V.int))
          generalize upd H1 q (.lst ((XT.srt A).map V.int)) = H2 at s2 hq2 ⊢
          refine ⟨_, rfl, _, rfl, t, u, S, f.1, rfl, ht1.same s2, hz, hu1.same s2, fun v H3 s3 hv => ⟨_, rfl, _, optL (some (XT.srt A)), hv, dp_lst (SqL.of (s3 _ _ hq2)), sh_optL _, sh_optL (some (XT.srt A)), _, rfl, ?_⟩⟩
          have s13 := (s1.trans s2).trans s3
          rw [eqv_optL]
          refine ite2 (fun h1 => ?_) (fun h1 => ?_)
          · refine kk s13 ?_
            refine all_false hf ?_
            unfold agr1
            rw [e2]
            show decide (_ = some (XT.srt A)) = false
            simpa using h1
          · refine ⟨_, _, _, rfl, s13, take_all hall hf ?_⟩
            unfold agr1
            rw [e2]
            show decide (_ = some (XT.srt A)) = true
            simpa using h1
      · rintro σ H1 ⟨o2, o3, o4, rfl, s1, hall⟩
        rw [hF.length, List.take_length] at hall
        have := k H1 s1
        unfold agr at this
        rw [hall] at this
        exact this

end
end K43
namespace K43
open PySem L2 XT
section
variable {P : Program} {w : World} {K : PySem.W.Frag} {mg : Str → Option Value} {base : Heap} {a : Ads}
local macro_rules | `(tactic| walk_at "rside") => `(tactic| first | (show (0 : Int) < _; first | decide | omega) | (exact ⟨by first | decide | omega, by first | decide | omega⟩) | (exact Or.inl ⟨by omega, by omega⟩) | (exact Or.inr ⟨by omega, by omega⟩) | (exact ⟨by decide, by decide, by decide⟩))
local macro_rules | `(tactic| walk_at "rd1") => `(tactic| first | (refine ⟨_, rfl, ?_⟩) | (refine ⟨_, _, rfl, rfl, (by walk_at "rside"), ?_⟩) | (refine ⟨_, _, rfl, rfl, ?_⟩))
local macro_rules | `(tactic| walk_at "rd") => `(tactic| repeat (walk_at "rd1"))

/-- the indices of the sequences that agree -/
def idx (Ss : List (List Stp)) (F : List Fc) : List Int := ((List.range Ss.length).filter fun i => agr (Ss.getD i []) F).map fun (i : Nat) => (i : Int)
theorem outs_filt (p : Nat → Bool) (f : Nat → Int) (n : Nat) : outs (fun i => if p i = true then some (V.int (f i)) else Option.none) n = (((List.range n).filter p).map f).map V.int := by
  unfold outs
  generalize List.range n = R
  induction R with
  | nil => rfl
  | cons x R ih =>
    rw [List.filterMap_cons, List.filter_cons]
    by_cases h : p x = true
    · simp only [h, if_true, List.map_cons, ih]
    · simp only [h, if_false, ih]
      simp
def FactsBad (K : PySem.W.Frag) (H : Hp) (x : V) : Prop := (∃ p xs bs, x = .ref p ∧ (SqL K H p xs ∨ SqT K H p xs) ∧ Paired (FtB K H) xs bs ∧ xs.length ≤ 100000 ∧ bs.all id = false) ∨ Od K H x
abbrev SsAt (K : PySem.W.Frag) (C : Addr) (H : Hp) : List V → List (List Stp) → Prop := Paired fun v S => ∃ t, v = V.ref t ∧ SqcAt K C H t S ∧ S.length ≤ 1000
def spAgg (K : PySem.W.Frag) (C CI : Addr) : Sp := fun vs H Q E => ∃ (q : Addr) (ts : List V) (Ss : List (List Stp)) (x : V), vs = [.ref q, x] ∧ (SqL K H q ts ∨ SqT K H q ts) ∧ SsAt K C H ts Ss ∧ ts.length ≤ 1000 ∧
  ((∃ p xs F, x = .ref p ∧ (SqL K H p xs ∨ SqT K H p xs) ∧ Paired (FcAt K H) xs F ∧ xs.length ≤ 100000 ∧ ∀ r H', Same H H' → H r = Option.none → H' r = some (.lst ((idx Ss F).map V.int)) → Q (.ref r) H') ∨
   (FactsBad K H x ∧ ∀ d H', Same H H' → H d = Option.none → H' d = some (.xd [("value", x)]) → E (.ref CI) (some d) H'))
theorem pd_ft {H : Hp} {xs : List V} {F : List Fc} (h : Paired (FcAt K H) xs F) : Paired (FtB K H) xs (F.map fun _ => true) := by
  induction h with
  | nil => exact .nil
  | cons h t ih => exact .cons h.ft ih
theorem all_tr (F : List Fc) : (F.map fun _ => true).all id = true := by simp
theorem okX_agreeing (T : Txt K mg a) : FnR P w K mg base (L2.CX P w) 10 a.agreeing (spAgg K a.Sequence a.InvalidFacts) := by
  obtain ⟨fd, F⟩ := T.F_agreeing
  obtain ⟨fd_InvalidFacts, FE_InvalidFacts⟩ := T.F_InvalidFacts___init__
  have GE_InvalidFacts := okE_InvalidFacts (P := P) (w := w) (base := base) T T.e_InvalidFacts FE_InvalidFacts
  have BE_InvalidFacts := FE_InvalidFacts.binds bn_InvalidFacts___init__
  refine XT.okX F sc_agreeing bn_agreeing (fun vs H Q E h => ?_) (fun cdv A outer s H vs Q E hr h => ?_)
  · obtain ⟨q, ts, Ss, x, rfl, _⟩ := h
    rfl
  · obtain ⟨q, ts, Ss, x, rfl, hQ, hT, hz0, h⟩ := h
    have G_is_fact_list := ok_is_fact_list (P := P) (w := w) (base := base) T
    have G_agrees := ok_agrees (P := P) (w := w) (base := base) T
    rcases hQ with hQ | hQ
    · refine ⟨_, (pss_cons (ps_if (pt_not (pt_val (pe_callR G_is_fact_list (hr.mono (by decide)) rfl T.g_is_fact_list T.k_is_fact_list pass0 (pa_cons (pv 1) pa_nil)))) (pss_one (ps_raiseE T.e_InvalidFacts GE_InvalidFacts BE_InvalidFacts (hr.mono (by decide)) T.g_InvalidFacts rfl (takes_of rfl rfl rfl rfl) (pv 1))) pss_nil)
            (pss_one (ps_ret (pe_lc (own := [("index", 2), ("sequence", 3)])  rfl sc_agreeing.nd (pi_enum (by rfl) T.b_enumerate (pa_cons (pv 0) pa_nil)) (blkOk_by (N := N_agreeing) (sc := defScope s_agreeing) (by decide +kernel)) (fun _ _ _ _ _ => by exact (tupK K (n := 2) (by rfl) (pgs_cons (pg_name (i := 2) sc_agreeing.nd rfl (Or.inl rfl)) (pgs_cons (pg_name (i := 3) sc_agreeing.nd rfl (Or.inl rfl)) pgs_nil)))) (fun _ _ _ _ _ => by exact pts_one (pt_val (pe_callR G_agrees (hr.mono (by decide)) rfl T.g_agrees T.k_agrees pass0 (pa_cons (pv 3) (pa_cons (pv 1) pa_nil))))) (fun _ _ _ _ _ => by exact (pv 2)))))), ?_⟩
      rcases h with ⟨p, xs, F, rfl, hP, hF, hl, k⟩ | ⟨bad, k⟩
      · refine ⟨_, rfl, _, rfl, .inl ⟨p, xs, _, rfl, hP, pd_ft hF, hl, fun H1 s1 => ⟨_, rfl, iteN (by rw [all_tr]; rfl) ?_⟩⟩⟩
        have hQ1 := (fun s h => Same.seq s h) s1 hQ
        refine ⟨_, rfl, q, ts, rfl, hQ1, fun D hD => lcG (stat_enumL hQ1) hD (fun i => if agr (Ss.getD i []) F = true then some (V.int (i : Int)) else Option.none) (Nat.le_trans (show ts.length ≤ 100000 by omega) line_ge) ?_ ?_⟩
        · intro i x H2 R hi s2 px kk
          obtain ⟨T', y, rfl, hT', hy⟩ := px
          obtain ⟨S, hSs, t, rfl, ht, hz⟩ := pd_get hT hy
          have e0 : Ss.getD i [] = S := by simp [List.getD, hSs]
          rw [e0] at kk
          have s12 := s1.trans s2
          refine ⟨T', [V.int (i : Int), V.ref t], rfl, SqT.of hT', rfl, _, [V.ref t], rfl, V.ref t, [], rfl, rfl, rfl, ?_⟩
          refine ⟨_, rfl, _, rfl, t, p, xs, S, F, rfl, ht.same s12, hz, hP.imp (fun h => s12.seq h) (fun h => same_seqT s12 h), L2.Paired.mapP hF fun _ _ h => h.same s12, fun H3 s3 => ⟨_, rfl, ?_⟩⟩
          have := kk H3 s3
          refine ite2 (fun h1 => ?_) (fun h1 => ?_)
          · rw [if_pos h1] at this
            exact ⟨_, rfl, this⟩
          · rw [if_neg h1] at this
            exact this
        · intro H2 s2 hD2
          rw [outs_filt (fun i => agr (Ss.getD i []) F) (fun i => (i : Int)) ts.length, hT.length] at hD2
          exact k D H2 (s1.trans s2) (s1.free hD) hD2
      · refine ⟨_, rfl, x, rfl, ?_⟩
        rcases bad with ⟨p, xs, bs, rfl, hP, hb, hl, hn⟩ | od
        · exact .inl ⟨p, xs, bs, rfl, hP, hb, hl, fun H1 s1 => ⟨_, rfl, iteH (by rw [hn]; rfl) ⟨_, rfl, err_rd fun d hd => k d _ (s1.trans (same_new hd)) (s1.free hd) upd_same⟩⟩⟩
        · exact .inr ⟨od, fun H1 s1 => ⟨_, rfl, iteH rfl ⟨_, rfl, err_rd fun d hd => k d _ (s1.trans (same_new hd)) (s1.free hd) upd_same⟩⟩⟩
    · refine ⟨_, (pss_cons (ps_if (pt_not (pt_val (pe_callR G_is_fact_list (hr.mono (by decide)) rfl T.g_is_fact_list T.k_is_fact_list pass0 (pa_cons (pv 1) pa_nil)))) (pss_one (ps_raiseE T.e_InvalidFacts GE_InvalidFacts BE_InvalidFacts (hr.mono (by decide)) T.g_InvalidFacts rfl (takes_of rfl rfl rfl rfl) (pv 1))) pss_nil)
            (pss_one (ps_ret (pe_lc (own := [("index", 2), ("sequence", 3)])  rfl sc_agreeing.nd (pi_enumT (by rfl) T.b_enumerate (pa_cons (pv 0) pa_nil)) (blkOk_by (N := N_agreeing) (sc := defScope s_agreeing) (by decide +kernel)) (fun _ _ _ _ _ => by exact (tupK K (n := 2) (by rfl) (pgs_cons (pg_name (i := 2) sc_agreeing.nd rfl (Or.inl rfl)) (pgs_cons (pg_name (i := 3) sc_agreeing.nd rfl (Or.inl rfl)) pgs_nil)))) (fun _ _ _ _ _ => by exact pts_one (pt_val (pe_callR G_agrees (hr.mono (by decide)) rfl T.g_agrees T.k_agrees pass0 (pa_cons (pv 3) (pa_cons (pv 1) pa_nil))))) (fun _ _ _ _ _ => by exact (pv 2)))))), ?_⟩
      rcases h with ⟨p, xs, F, rfl, hP, hF, hl, k⟩ | ⟨bad, k⟩
      · refine ⟨_, rfl, _, rfl, .inl ⟨p, xs, _, rfl, hP, pd_ft hF, hl, fun H1 s1 => ⟨_, rfl, iteN (by rw [all_tr]; rfl) ?_⟩⟩⟩
        have hQ1 := (fun s h => same_seqT s h) s1 hQ
        refine ⟨_, rfl, q, ts, rfl, hQ1, fun D hD => lcG (stat_enumT hQ1) hD (fun i => if agr (Ss.getD i []) F = true then some (V.int (i : Int)) else Option.none) (Nat.le_trans (show ts.length ≤ 100000 by omega) line_ge) ?_ ?_⟩
        · intro i x H2 R hi s2 px kk
          obtain ⟨T', y, rfl, hT', hy⟩ := px
          obtain ⟨S, hSs, t, rfl, ht, hz⟩ := pd_get hT hy
          have e0 : Ss.getD i [] = S := by simp [List.getD, hSs]
          rw [e0] at kk
          have s12 := s1.trans s2
          refine ⟨T', [V.int (i : Int), V.ref t], rfl, SqT.of hT', rfl, _, [V.ref t], rfl, V.ref t, [], rfl, rfl, rfl, ?_⟩
          refine ⟨_, rfl, _, rfl, t, p, xs, S, F, rfl, ht.same s12, hz, hP.imp (fun h => s12.seq h) (fun h => same_seqT s12 h), L2.Paired.mapP hF fun _ _ h => h.same s12, fun H3 s3 => ⟨_, rfl, ?_⟩⟩
          have := kk H3 s3
          refine ite2 (fun h1 => ?_) (fun h1 => ?_)
          · rw [if_pos h1] at this
            exact ⟨_, rfl, this⟩
          · rw [if_neg h1] at this
            exact this
        · intro H2 s2 hD2
          rw [outs_filt (fun i => agr (Ss.getD i []) F) (fun i => (i : Int)) ts.length, hT.length] at hD2
          exact k D H2 (s1.trans s2) (s1.free hD) hD2
      · refine ⟨_, rfl, x, rfl, ?_⟩
        rcases bad with ⟨p, xs, bs, rfl, hP, hb, hl, hn⟩ | od
        · exact .inl ⟨p, xs, bs, rfl, hP, hb, hl, fun H1 s1 => ⟨_, rfl, iteH (by rw [hn]; rfl) ⟨_, rfl, err_rd fun d hd => k d _ (s1.trans (same_new hd)) (s1.free hd) upd_same⟩⟩⟩
        · exact .inr ⟨od, fun H1 s1 => ⟨_, rfl, iteH rfl ⟨_, rfl, err_rd fun d hd => k d _ (s1.trans (same_new hd)) (s1.free hd) upd_same⟩⟩⟩

end
end K43
namespace K43
open PySem L2 XT
section
variable {P : Program} {w : World} {K : PySem.W.Frag} {mg : Str → Option Value} {base : Heap} {a : Ads}
local macro_rules | `(tactic| walk_at "rside") => `(tactic| first | (show (0 : Int) < _; first | decide | omega) | (exact ⟨by first | decide | omega, by first | decide | omega⟩) | (exact Or.inl ⟨by omega, by omega⟩) | (exact Or.inr ⟨by omega, by omega⟩) | (exact ⟨by decide, by decide, by decide⟩))
local macro_rules | `(tactic| walk_at "rd1") => `(tactic| first | (refine ⟨_, rfl, ?_⟩) | (refine ⟨_, _, rfl, rfl, (by walk_at "rside"), ?_⟩) | (refine ⟨_, _, rfl, rfl, ?_⟩))
local macro_rules | `(tactic| walk_at "rd") => `(tactic| repeat (walk_at "rd1"))

def spLMade (K : PySem.W.Frag) (C : Addr) : Sp := fun vs H Q _ => ∃ (l : Addr) (xs : List V) (L : List Stp), vs = [.ref l] ∧ SqL K H l xs ∧ StsAt K H xs L ∧ (∀ s ∈ L, goodS s = true) ∧ L.length ≤ 1000 ∧ ∀ r H', Same H H' → H r = Option.none → SqcAt K C H' r L → Q (.ref r) H'
theorem ok_law_sequence (T : Txt K mg a) : FnR P w K mg base CX0 7 a.law_sequence (spLMade K a.Sequence) := by
  obtain ⟨fd, F⟩ := T.F_law_sequence
  refine XT.okR F sc_law_sequence bn_law_sequence (fun vs H Q E h => ?_) (fun cdv A outer s H vs Q E hr h => ?_)
  · obtain ⟨l, xs, L, rfl, _⟩ := h
    rfl
  · obtain ⟨l, xs, L, rfl, hS, hL, hg, hz, k⟩ := h
    have G_Sequence_init := ok_Sequence___init__ (P := P) (w := w) (base := base) T
    have G_add_S := ok_Sequence___add__ (P := P) (w := w) (base := base) T
    refine ⟨_, (pss_cons (ps_set (i := 1) sc_law_sequence.nd rfl (Or.inl rfl) (pe_makeR0 T.M_Sequence G_Sequence_init (hr.mono (by decide)) rfl T.g_Sequence pass0))
      (pss_cons (ps_for PassesOwn.never rfl (pi_list (pv 0)) (pg_name (i := 2) sc_law_sequence.nd rfl (Or.inl rfl))
        (pss_one (ps_set (i := 1) sc_law_sequence.nd rfl (Or.inl rfl) (pe_op (op_ownB T.sf_S T.addA_S T.addF_S G_add_S (hr.mono (by decide)) pass0) (pv 1) (StX.pe_makeR T.M_Sequence G_Sequence_init (hr.mono (by decide)) rfl T.g_Sequence pass0 (pa_cons (pv 2) pa_nil))))))
      (pss_one (ps_ret (pv 1))))), ?_⟩
    refine fun t0 d0 n0 nd0 ne0 => ?_
    refine sq_mk (xs := []) (L := []) n0 nd0 ne0 .nil (fun s hs => by cases hs) (by decide) fun H0 s0 h0 => ⟨rfl, ?_⟩
    refine ⟨_, rfl, l, rfl, ⟨_, s0.seq hS⟩, for_list (K := K) (a := l) (xs := xs) (fun i σ H' => ∃ t o, σ = [some (.ref l), some (.ref t), o] ∧ Same H H' ∧ H t = Option.none ∧ SqcAt K a.Sequence H' t (L.take i)) ⟨_, _, rfl, s0, n0, h0⟩ (fun i σ H' _ ⟨_, _, _, s, _⟩ => s.seq hS) ?_ ?_⟩
    · rintro i x σ H' hx ⟨t, o, rfl, s, nt, ht⟩
      obtain ⟨st, hst, hxs⟩ := pd_get hL hx
      have gst := hg st (List.mem_of_getElem? hst)
      refine ⟨_, rfl, _, rfl, ?_⟩
      refine fun r d2 nr nd2 ne2 => ?_
      refine sq_mk (xs := [x]) (L := [st]) nr nd2 ne2 (.cons (hxs.same s) .nil) (fun u hu => by rw [List.mem_singleton.mp hu]; exact gst) (show 1 ≤ 100000 by decide) fun H2 s2 hr => ⟨rfl, ?_⟩
      refine ⟨t, r, rfl, rfl, (ht.same s2).insA, hr.insA, t, r, L.take i, [st], rfl, ht.same s2, hr, ?_, fun q H3 s3 nq hq => ?_⟩
      · rw [List.length_take, List.length_singleton]
        omega
      · refine ⟨q, _, rfl, (s.trans s2).trans s3, (s.trans s2).free nq, ?_⟩
        rw [List.take_add_one, hst]
        exact hq
    · rintro σ H' ⟨t, o, rfl, s, nt, ht⟩
      refine ⟨_, rfl, k t H' s nt ?_⟩
      rw [hL.length, List.take_length] at ht
      exact ht

/-- a value that a law asks with, and its data -/
structure Odv (K : PySem.W.Frag) (H : Hp) (x : V) (d : PyData) : Prop where
  kv : KV K H x
  od : Okd d
  rd : Rd K H x d
  tx : txD d = true
theorem Odv.same {H H' : Hp} {x : V} {d : PyData} (h : Odv K H x d) (s : Same H H') : Odv K H' x d := ⟨h.kv.same s, h.od, rd_same s h.rd, h.tx⟩
theorem sh_err {w : Str} (hw : PyData.strOk w = true) (b : Bool) : SeqAt.shaped (.tuple [.str w, .bool b]) = true := by
  simp [SeqAt.shaped, PyData.canLay0, PyData.canLayAll0, PyData.depth, PyData.depthAll, hw]
theorem dp_err {H : Hp} {r : Addr} {w : Str} {b : Bool} (h : H r = some (.tup [.str w, .bl b])) : Dp K H (.ref r) (.tuple [.str w, .bool b]) := .tup (SqT.of h) (.cons (.str w) (.cons (.bl b) .nil))
theorem log_small {i : Int} (h : i.natAbs < 2 ^ 250) : i.natAbs.log2 < 1920 := by
  by_cases z : i.natAbs = 0
  · rw [z]; decide
  · exact (Nat.log2_lt z).mpr (Nat.lt_of_lt_of_le h (Nat.pow_le_pow_right (by decide) (by decide)))
theorem odv_int {H : Hp} {i : Int} (h : i.natAbs < 2 ^ 250) : Odv K H (.int i) (.int i) := ⟨kv_int i, ⟨by simp [plainD, log_small h], by simp [PyData.depth], by simp [sc]⟩, .inl ⟨.int _, rfl⟩, rfl⟩
theorem odv_non {H : Hp} : Odv K H .non .none := ⟨⟨"NoneType", .non, by decide +kernel⟩, ⟨by decide +kernel, by decide +kernel, by decide +kernel⟩, .inl ⟨.non, rfl⟩, by decide +kernel⟩
theorem odv_bl {H : Hp} (b : Bool) : Odv K H (.bl b) (.bool b) := ⟨⟨"bool", .bl _, by decide +kernel⟩, ⟨by cases b <;> decide +kernel, by cases b <;> decide +kernel, by cases b <;> decide +kernel⟩, .inl ⟨.bl _, rfl⟩, by cases b <;> decide +kernel⟩
theorem odv_str {H : Hp} (x : Str) (h1 : plainD (.str x) = true) (h2 : sc (.str x) ≤ 16000000) (h3 : txD (.str x) = true) : Odv K H (.str x) (.str x) := ⟨⟨"str", .str _, by decide +kernel⟩, ⟨h1, by simp [PyData.depth], h2⟩, .inl ⟨.str _, rfl⟩, h3⟩
theorem odv_tup1 {H : Hp} {z : Addr} {i : Int} (f : H z = some (.tup [.int i])) (h : i.natAbs < 2 ^ 250) : Odv K H (.ref z) (.tuple [.int i]) := ⟨⟨"tuple", .tup (SqT.of f), by decide +kernel⟩, ⟨by simp [plainD, plainAll, log_small h], by simp [PyData.depth, PyData.depthAll], by simp [sc, scAll]⟩, .inl ⟨dp_tup (L := [i]) (SqT.of f), rfl⟩, rfl⟩
theorem odv_lst1 {H : Hp} {z : Addr} {i : Int} (f : H z = some (.lst [.int i])) (h : i.natAbs < 2 ^ 250) : Odv K H (.ref z) (.list [.int i]) := ⟨⟨"list", .lst (SqL.of f), by decide +kernel⟩, ⟨by simp [plainD, plainAll, log_small h], by simp [PyData.depth, PyData.depthAll], by simp [sc, scAll]⟩, .inl ⟨dp_lst (L := [i]) (SqL.of f), rfl⟩, rfl⟩
theorem odv_lst0 {H : Hp} {z : Addr} (f : H z = some (.lst [])) : Odv K H (.ref z) (.list []) := ⟨⟨"list", .lst (SqL.of f), by decide +kernel⟩, ⟨by decide +kernel, by decide +kernel, by decide +kernel⟩, .inl ⟨dp_lst (L := []) (SqL.of f), rfl⟩, rfl⟩
theorem odv_dict {H : Hp} {z : Addr} (f : H z = some (.dK [])) : Odv K H (.ref z) (.dict []) := ⟨⟨"dict", .dK f, by decide +kernel⟩, ⟨by decide +kernel, by decide +kernel, by decide +kernel⟩, .inr (.inl ⟨z, rfl, f, rfl⟩), by decide +kernel⟩
def InvN (p D : Addr) (lo hi : Int) (H0 : Hp) (i : Nat) (H : Hp) (acc : List V) : Prop := ∃ ns : List Int, acc = ns.map V.int ∧ ns.length = i ∧ H D = some (.lst (ns.map V.int)) ∧ PoolAt H p ∧ But p H0 H ∧ ∀ x ∈ ns, lo ≤ x ∧ x ≤ hi
theorem invN_step {p D : Addr} {lo hi : Int} {H0 H H2 : Hp} {i : Nat} {ns : List Int} {z : Int} (hD0 : H0 D = Option.none) (nD : D ≠ p) (hlen : ns.length = i) (bb : But p H0 H) (b2 : But p H H2) (hp2 : PoolAt H2 p) (sm : ∀ x ∈ ns, lo ≤ x ∧ x ≤ hi) (h1 : lo ≤ z) (h2 : z ≤ hi) :
    InvN p D lo hi H0 (i + 1) (upd H2 D (.lst (ns.map V.int ++ [.int z]))) (ns.map V.int ++ [.int z]) := by
  refine ⟨ns ++ [z], by rw [List.map_append]; rfl, by rw [List.length_append, hlen]; rfl, by rw [upd_same, List.map_append]; rfl, ?_, ?_, ?_⟩
  · obtain ⟨x, y, e, rest⟩ := hp2
    exact ⟨x, y, by rw [upd_ne (Ne.symm nD)]; exact e, rest⟩
  · intro b o nb e
    have hbD : b ≠ D := fun z => by rw [z, hD0] at e; cases e
    rw [upd_ne hbD]
    exact b2 _ _ nb (bb _ _ nb e)
  · intro x hx
    rcases List.mem_append.mp hx with hx | hx
    · exact sm x hx
    · rw [List.mem_singleton.mp hx]
      exact ⟨h1, h2⟩
theorem but_lst {p D : Addr} {H H' : Hp} {xs : List V} (h : H D = some (.lst xs)) (n : D ≠ p) (b : But p H H') : H' D = some (.lst xs) := b _ _ n h

/-- the law's own run, which tells the step that fails -/
def spDone (K : PySem.W.Frag) : Sp := fun vs H Q _ => ∃ (p l : Addr) (xs : List V) (S : List Stp) (L : List Int), vs = [.ref p, .ref l] ∧ (SqL K H p (L.map V.int) ∨ SqT K H p (L.map V.int)) ∧ L.length ≤ 1000 ∧ SqL K H l xs ∧ StsAt K H xs S ∧ (∀ s ∈ S, goodS s = true) ∧ S.length ≤ 1000 ∧
  (∀ M, XT.runR (XT.srt L) 0 S = .inl M → M.length ≤ 2000 → ∀ m H', Same H H' → H m = Option.none → H' m = some (.lst (M.map V.int)) → Q (.ref m) H') ∧ (∀ i : Nat, XT.runR (XT.srt L) 0 S = .inr i → ∀ t H', Same H H' → H t = Option.none → H' t = some (.tup [.str "failed", .int (i : Int)]) → Q (.ref t) H')
theorem ok_law_done (T : Txt K mg a) : FnR P w K mg base CX0 1 a.law_done (spDone K) := by
  obtain ⟨fd, F⟩ := T.F_law_done
  refine XT.okR F sc_law_done bn_law_done (fun vs H Q E h => ?_) (fun cdv A outer s H vs Q E hr h => ?_)
  · obtain ⟨p, l, xs, S, L, rfl, _⟩ := h
    rfl
  · obtain ⟨p, l, xs, S, L, rfl, hN, hl, hS, hX, hg, hs, k1, k2⟩ := h
    refine ⟨_, (pss_cons (ps_set (i := 2) sc_law_done.nd rfl (Or.inl rfl) (pe_callB (sortedAK K) (by rfl) T.b_sorted (by decide +kernel) (pa_cons (pv 0) pa_nil)))
      (pss_cons (ps_for PassesOwn.never rfl (pi_enum (by rfl) T.b_enumerate (pa_cons (pv 1) pa_nil)) (tupK K (n := 2) (by rfl) (pgs_cons (pg_name (i := 3) sc_law_done.nd rfl (Or.inl rfl)) (pgs_cons (tupK K (n := 2) (by rfl) (pgs_cons (pg_name (i := 4) sc_law_done.nd rfl (Or.inl rfl)) (pgs_cons (pg_name (i := 5) sc_law_done.nd rfl (Or.inl rfl)) pgs_nil))) pgs_nil)))
        (pss_one (ps_if (pt_cmpR op_eq (pv 4) pe_str (nomark _)) (pss_one (ps_set (i := 2) sc_law_done.nd rfl (Or.inl rfl) (pe_callB (sortedAK K) (by rfl) T.b_sorted (by decide +kernel) (pa_cons (pe_op op_cat (pv 2) (pe_lst (pa_cons (pv 5) pa_nil))) pa_nil)))) (pss_one (ps_if (pt_cmpR op_gt (pv 5) (pe_callB (lenK K) (by rfl) T.b_len (by decide +kernel) (pa_cons (pv 2) pa_nil)) (nomark _)) (pss_one (ps_ret (pe_tup (pa_cons pe_str (pa_cons (pv 3) pa_nil))))) (pss_one (ps_set (i := 2) sc_law_done.nd rfl (Or.inl rfl) (pe_op op_cat (pe_slice (slLK K) (pv 2) po_none (po_some (pe_op op_sub (pv 5) pe_int))) (pe_slice (slLK K) (pv 2) (po_some (pv 5)) po_none)))))))))
      (pss_one (ps_ret (pv 2))))), ?_⟩
    refine ⟨_, rfl, p, L, rfl, hN, fun N m0 pm up n0 => ?_⟩
    rw [XT.srt_of pm up]
    have s1 := same_new (o := .lst ((XT.srt L).map V.int)) n0
    refine ⟨_, rfl, l, xs, rfl, s1.seq hS, ?_⟩
    refine for_enL (xs := xs) (fun i σ H' => ∃ (m : Addr) (M : List Int) (o3 o4 o5 : Option V), σ = [some (.ref p), some (.ref l), some (.ref m), o3, o4, o5] ∧ Same H H' ∧ H m = Option.none ∧ H' m = some (.lst (M.map V.int)) ∧ M.length ≤ 1000 + i ∧ XT.runR (XT.srt L) 0 S = XT.runR M i (S.drop i)) (fun i σ H' hi ⟨_, _, _, _, _, _, s, _⟩ => s.seq hS)
      ⟨m0, XT.srt L, _, _, _, rfl, s1, n0, upd_same, by rw [XT.srt_len]; omega, rfl⟩ ?_ ?_
    · rintro i x T' σ H' hi hx hT ⟨m, M, o3, o4, o5, rfl, s, nm, hm, hml, hrun⟩
      obtain ⟨⟨b, n⟩, hst, r, rfl, hr2⟩ := pd_get hX hx
      have gst := hg _ (List.mem_of_getElem? hst)
      have sT := same_new (o := .tup [V.int (i : Int), V.ref r]) hT
      have s := s.trans sT
      have hi2 : i < S.length := (List.getElem?_eq_some_iff.mp hst).1
      have hm := sT _ _ hm
      refine ⟨T', [V.int (i : Int), V.ref r], rfl, SqT.of upd_same, rfl, _, [V.ref r], rfl, _, [], rfl, r, [.str (wrd b), .int n], rfl, same_seqT s hr2, rfl, _, [.int n], rfl, _, [], rfl, rfl, rfl, ?_⟩
      refine ⟨_, rfl, rfl, _, rfl, ?_⟩
      rw [wrd_ins]
      cases b with
      | true =>
        refine iteH rfl ?_
        refine ⟨_, rfl, _, rfl, by show 1 ≤ sizeLine; decide, fun c1 hc1 => ?_⟩
        have sc1 := same_new (o := .lst [V.int n]) hc1
        refine ⟨m, c1, _, _, rfl, rfl, sc1 _ _ hm, upd_same, ?_, fun c2 hc2 => ?_⟩
        · rw [List.length_map, List.length_singleton]
          exact Nat.le_trans (show M.length + 1 ≤ 100000 by omega) line_ge
        have sc2 := same_new (o := .lst (M.map V.int ++ [V.int n])) hc2
        have e : (M.map V.int ++ [V.int n] : List V) = (M ++ [n]).map V.int := by rw [List.map_append]; rfl
        refine ⟨c2, M ++ [n], rfl, .inl (SqL.of (by rw [← e]; exact upd_same)), fun N2 q2 pm2 up2 nq2 => ?_⟩
        rw [XT.srt_of pm2 up2]
        have s3 := ((s.trans sc1).trans sc2)
        exact ⟨q2, XT.srt (M ++ [n]), _, _, _, rfl, s3.trans (same_new nq2), s3.free nq2, upd_same, by rw [XT.srt_len, List.length_append]; simp; omega, by rw [hrun, XT.runR_step hst (M := XT.srt (M ++ [n])) rfl]⟩
      | false =>
        refine iteN rfl ?_
        have gd' : 0 < n := by simpa [goodS] using gst
        refine ⟨_, rfl, _, rfl, m, _, rfl, .inl (SqL.of hm), _, _, rfl, rfl, _, rfl, ite2 (fun h1 => ?_) (fun h1 => ?_)⟩
        · have h1' : n > ((M.map V.int).length : Int) := of_decide_eq_true h1
          rw [List.length_map] at h1'
          have e : XT.stepR M (false, n) = Option.none := by
            simp only [XT.stepR]
            rw [if_pos (show (M.length : Int) < n by omega)]
          refine ⟨_, rfl, by show 2 ≤ sizeLine; decide, fun t ht => ?_⟩
          exact k2 i (by rw [hrun, XT.runR_fail hst e]) t _ (s.trans (same_new ht)) (s.free ht) upd_same
        · have h1' : ¬ n > ((M.map V.int).length : Int) := fun z => h1 (decide_eq_true z)
          rw [List.length_map] at h1'
          have e : XT.stepR M (false, n) = some (M.take (n - 1).toNat ++ M.drop n.toNat) := by
            simp only [XT.stepR]
            rw [if_neg (show ¬ (M.length : Int) < n by omega)]
          refine ⟨_, rfl, _, rfl, _, _, rfl, rfl, _, rfl, m, _, rfl, SqL.of hm, fun p1 hp1 => ?_⟩
          have sp1 := same_new (o := .lst (cutV (M.map V.int) Option.none (some (n - 1)))) hp1
          refine ⟨_, rfl, _, rfl, _, rfl, m, _, rfl, SqL.of (sp1 _ _ hm), fun p2 hp2 => ?_⟩
          have sp2 := same_new (o := .lst (cutV (M.map V.int) (some n) Option.none)) hp2
          refine ⟨p1, p2, _, _, rfl, rfl, sp2 _ _ upd_same, upd_same, ?_, fun p3 hp3 => ?_⟩
          · have h1 := cutV_length (M.map V.int) Option.none (some (n - 1))
            have h2 := cutV_length (M.map V.int) (some n) Option.none
            rw [List.length_map] at h1 h2
            exact Nat.le_trans (Nat.add_le_add h1 h2) (Nat.le_trans (show M.length + M.length ≤ 100000 by omega) line_ge)
          · have s3 := (s.trans sp1).trans sp2
            exact ⟨p3, _, _, _, _, rfl, s3.trans (same_new hp3), s3.free hp3, by rw [upd_same, XT.cut_rm gd'], by have := XT.stepR_len e; omega, by rw [hrun, XT.runR_step hst e]⟩
    · rintro σ H' ⟨m, M, o3, o4, o5, rfl, s, nm, hm, hml, hrun⟩
      refine ⟨_, rfl, k1 M ?_ (by have := hX.length; omega) m H' s nm hm⟩
      rw [hrun, hX.length, List.drop_length]
      rfl

/-- lists of steps, one for each sequence -/
def SmR (K : PySem.W.Frag) (H : Hp) (v : V) (S : List Stp) : Prop := ∃ l xs, v = .ref l ∧ H l = some (.lst xs) ∧ StsAt K H xs S ∧ LSq 4 S ∧ S.length ≤ 5
abbrev SmAt (K : PySem.W.Frag) (H : Hp) : List V → List (List Stp) → Prop := Paired (SmR K H)
theorem SmR.same {H H' : Hp} {v : V} {S : List Stp} (h : SmR K H v S) (s : Same H H') : SmR K H' v S := by
  obtain ⟨l, xs, e, h1, h2, h3⟩ := h
  exact ⟨l, xs, e, s _ _ h1, sts_same h2 s, h3⟩
theorem pool_sts {H : Hp} {p l : Addr} {xs : List V} {S : List Stp} (hp : PoolAt H p) (h : H l = some (.lst xs)) (k : StsAt K H xs S) : l ≠ p := fun z => by
  obtain ⟨x, y, e, _⟩ := hp
  rw [z, e] at h
  cases h
  cases k with
  | cons h _ =>
    obtain ⟨r, e, _⟩ := h
    cases e
theorem SmR.but {H H' : Hp} {p : Addr} {v : V} {S : List Stp} (h : SmR K H v S) (hp : PoolAt H p) (b : But p H H') : SmR K H' v S := by
  obtain ⟨l, xs, e, h1, h2, h3⟩ := h
  exact ⟨l, xs, e, b _ _ (pool_sts hp h1 h2) h1, sts_kt h2 (kt_but hp b), h3⟩
theorem sm_but {H H' : Hp} {p : Addr} {vs : List V} {Ss : List (List Stp)} (h : SmAt K H vs Ss) (hp : PoolAt H p) (b : But p H H') : SmAt K H' vs Ss := L2.Paired.mapP h fun _ _ z => z.but hp b
theorem sm_same {H H' : Hp} {vs : List V} {Ss : List (List Stp)} (h : SmAt K H vs Ss) (s : Same H H') : SmAt K H' vs Ss := L2.Paired.mapP h fun _ _ z => z.same s
theorem sm_dp {H : Hp} : ∀ {vs : List V} {Ss : List (List Stp)}, SmAt K H vs Ss → DpAll K H vs (Ss.map fun l => .list (l.map stD))
  | _, _, .nil => .nil
  | _, _, .cons h t => by
    obtain ⟨l, xs, rfl, h1, h2, _⟩ := h
    exact .cons (dp_stsL (SqL.of h1) h2) (sm_dp t)
theorem canLay_pts : ∀ L : List (List Stp), PyData.canLayAll0 (L.map fun l => .list (l.map stD)) = true
  | [] => rfl
  | x :: L => by simp [PyData.canLayAll0, PyData.canLay0, canLay_sts x, canLay_pts L]
theorem depth_pts : ∀ L : List (List Stp), PyData.depthAll (L.map fun l => .list (l.map stD)) ≤ 2
  | [] => by simp [PyData.depthAll]
  | x :: L => by
    have := depth_pts L
    have := depth_sts x
    simp [PyData.depthAll, PyData.depth]
    omega
theorem sh_pts (L : List (List Stp)) : SeqAt.shaped (.list (L.map fun l => .list (l.map stD))) = true := by
  have := depth_pts L
  simp [SeqAt.shaped, PyData.canLay0, PyData.depth, canLay_pts]
  omega
theorem eqv_ptsnil (L : List (List Stp)) : (!PyData.eqv (.list (L.map fun l => .list (l.map stD))) (.list ([] : List PyData))) = !decide (L = []) := by
  cases L <;> simp [PyData.eqv, PyData.eqvAll]
/-- a short list of small numbers -/
def Sml (L : List Int) : Prop := L.length ≤ 50 ∧ ∀ x ∈ L, -50 ≤ x ∧ x ≤ 50
/-- numbers that stand where H0 has nothing -/
def NumsN (K : PySem.W.Frag) (H0 H : Hp) (x : V) (L : List Int) : Prop := NumsAt K H x L ∧ (∀ q, x = .ref q → H0 q = Option.none) ∧ Sml L
theorem NumsN.same {H0 H H' : Hp} {x : V} {L : List Int} (h : NumsN K H0 H x L) (s : Same H H') : NumsN K H0 H' x L := ⟨h.1.same s, h.2⟩
theorem NumsN.mono {H0 H1 H : Hp} {x : V} {L : List Int} (h : NumsN K H0 H x L) (s : ∀ q, H0 q = Option.none → H1 q = Option.none) : NumsN K H1 H x L := ⟨h.1, fun q e => s q (h.2.1 q e), h.2.2⟩
theorem NumsN.but {H0 H H' : Hp} {p : Addr} {x : V} {L : List Int} (h : NumsN K H0 H x L) (hp : H0 p ≠ Option.none) (b : But p H H') : NumsN K H0 H' x L := by
  obtain ⟨⟨q, rfl, hq, hl⟩, ne, sm⟩ := h
  have nq : q ≠ p := fun z => hp (by rw [← z]; exact ne q rfl)
  refine ⟨⟨q, rfl, ?_, hl⟩, ne, sm⟩
  rcases hq with ((h | ⟨o, h⟩) | h) | ((h | ⟨o, h⟩) | h)
  · exact .inl (.inl (.inl (b _ _ nq h)))
  · exact .inl (.inl (.inr ⟨o, b _ _ nq h⟩))
  · exact .inl (.inr h)
  · exact .inr (.inl (.inl (b _ _ nq h)))
  · exact .inr (.inl (.inr ⟨o, b _ _ nq h⟩))
  · exact .inr (.inr h)
/-- a drawn fact -/
def FcN (K : PySem.W.Frag) (H0 H : Hp) (x : V) (f : Fc) : Prop := ∃ r u y, x = .ref r ∧ SqT K H r [u, y] ∧ NumsN K H0 H u f.1 ∧ ((f.2 = Option.none ∧ y = .non) ∨ ∃ A, f.2 = some A ∧ NumsN K H0 H y A)
theorem FcN.fc {H0 H : Hp} {x : V} {f : Fc} (h : FcN K H0 H x f) : FcAt K H x f := by
  obtain ⟨r, u, y, e, h1, h2, h3⟩ := h
  exact ⟨r, u, y, e, h1, h2.1, h3.imp id fun ⟨A, e, h⟩ => ⟨A, e, h.1⟩⟩
theorem FcN.but {H0 H H' : Hp} {p : Addr} {x : V} {f : Fc} (h : FcN K H0 H x f) (hp : H0 p ≠ Option.none) (k : Kt K H H') (b : But p H H') : FcN K H0 H' x f := by
  obtain ⟨r, u, y, e, h1, h2, h3⟩ := h
  exact ⟨r, u, y, e, k _ _ h1, h2.but hp b, h3.imp id fun ⟨A, e, h⟩ => ⟨A, e, h.but hp b⟩⟩
theorem FcN.same {H0 H H' : Hp} {x : V} {f : Fc} (h : FcN K H0 H x f) (s : Same H H') : FcN K H0 H' x f := by
  obtain ⟨r, u, y, e, h1, h2, h3⟩ := h
  exact ⟨r, u, y, e, same_seqT s h1, h2.same s, h3.imp id fun ⟨A, e, h⟩ => ⟨A, e, h.same s⟩⟩
theorem FcN.mono {H0 H1 H : Hp} {x : V} {f : Fc} (h : FcN K H0 H x f) (s : ∀ q, H0 q = Option.none → H1 q = Option.none) : FcN K H1 H x f := by
  obtain ⟨r, u, y, e, h1, h2, h3⟩ := h
  exact ⟨r, u, y, e, h1, h2.mono s, h3.imp id fun ⟨A, e, h⟩ => ⟨A, e, h.mono s⟩⟩
def spLFact (K : PySem.W.Frag) : Sp := fun vs H Q _ => ∃ (p m : Addr) (ms : List V) (Ss : List (List Stp)), vs = [.ref p, .ref m] ∧ PoolAt H p ∧ m ≠ p ∧ SqL K H m ms ∧ SmAt K H ms Ss ∧ ms.length ≤ 50 ∧
  ∀ t f H', But p H H' → PoolAt H' p → H t = Option.none → FcN K H H' (.ref t) f → Q (.ref t) H'
/-- a list's numbers, or None -/
def Lat (K : PySem.W.Frag) (H0 H : Hp) (v : V) (A : Option (List Int)) : Prop := (A = Option.none ∧ v = .non) ∨ ∃ L, A = some L ∧ NumsN K H0 H v L
theorem fresh_but {p q : Addr} {H H' : Hp} (b : But p H H') (hp : PoolAt H' p) (n : H' q = Option.none) : H q = Option.none := by
  cases e : H q with
  | none => rfl
  | some o =>
    have := b _ _ (pool_ne hp n) e
    rw [n] at this
    cases this
theorem numsN_of {q : Addr} {H0 H : Hp} {L : List Int} (n : H0 q = Option.none) (h : H q = some (.lst (L.map V.int))) (s : Sml L) : NumsN K H0 H (.ref q) L := ⟨⟨q, rfl, .inl (SqL.of h), by have := s.1; omega⟩, fun z e => by rw [← V.ref.inj e]; exact n, s⟩
theorem numsN_ofT {q : Addr} {H0 H : Hp} {L : List Int} (n : H0 q = Option.none) (h : H q = some (.tup (L.map V.int))) (s : Sml L) : NumsN K H0 H (.ref q) L := ⟨⟨q, rfl, .inr (SqT.of h), by have := s.1; omega⟩, fun z e => by rw [← V.ref.inj e]; exact n, s⟩
def LatL (H0 H : Hp) (v : V) (A : Option (List Int)) : Prop := (A = Option.none ∧ v = .non) ∨ ∃ L q, A = some L ∧ v = .ref q ∧ H q = some (.lst (L.map V.int)) ∧ H0 q = Option.none ∧ Sml L
theorem LatL.lat {H0 H : Hp} {v : V} {A : Option (List Int)} (h : LatL H0 H v A) : Lat K H0 H v A := h.imp id fun ⟨L, q, e, ev, h, n, s⟩ => ⟨L, e, by rw [ev]; exact numsN_of n h s⟩
theorem pool_some {H : Hp} {p : Addr} (h : PoolAt H p) : H p ≠ Option.none := fun z => by
  obtain ⟨x, y, e, _⟩ := h
  rw [z] at e
  cases e
theorem sml_run {B M : List Int} {S : List Stp} (h : XT.runR (XT.srt B) 0 S = .inl M) (g : LSq 4 S) (hz : S.length ≤ 5) (hB : B.length ≤ 6) (sm : ∀ x ∈ B, 0 ≤ x ∧ x ≤ 6) : Sml M := by
  refine ⟨?_, fun x hx => ?_⟩
  · have := Eff.runR_len h
    rw [XT.srt_len] at this
    omega
  · rcases (Eff.run_cnt (Eff.up_srt B) g.good h).2.2 x hx with h1 | h1
    · have := sm x (by simpa [XT.srt] using h1)
      omega
    · have h2 := g.lo _ h1
      have h3 := g.hi _ h1
      simp only at h2 h3
      omega
theorem but_seqL' {H H' : Hp} {p m : Addr} {xs : List V} (hp : PoolAt H p) (n : m ≠ p) (b : But p H H') (h : SqL K H m xs) : SqL K H' m xs := by
  rcases h with (h | ⟨o, h⟩) | h
  · exact .inl (.inl (b _ _ n h))
  · exact .inl (.inr ⟨o, b _ _ n h⟩)
  · exact .inr h
theorem ok_law_fact (T : Txt K mg a) : FnR P w K mg base CX0 3 a.law_fact (spLFact K) := by
  obtain ⟨fd, F⟩ := T.F_law_fact
  refine XT.okR F sc_law_fact bn_law_fact (fun vs H Q E h => ?_) (fun cdv A outer s H vs Q E hr h => ?_)
  · obtain ⟨p, m, ms, Ss, rfl, _⟩ := h
    rfl
  · obtain ⟨p, m, ms, Ss, rfl, hp, nm, hm, hms, lms0, k⟩ := h
    have G_law_take := ok_law_take (P := P) (w := w) (base := base) T
    have G_law_done := ok_law_done (P := P) (w := w) (base := base) T
    refine ⟨_, (pss_cons (ps_setLc (own := [("_law_turn", 3)]) (i := 2) rfl sc_law_fact.nd rfl rfl (sw_true rfl rfl rfl (by decide +kernel)) (pi_rng1 (by rfl) T.b_range (pa_cons (pe_callR G_law_take (hr.mono (by decide)) rfl T.g_law_take T.k_law_take pass0 (pa_cons (pv 0) (pa_cons pe_int pa_nil))) pa_nil)) (blkOk_by (N := N_law_fact) (sc := defScope s_law_fact) (by decide +kernel)) (fun _ _ _ _ _ => by exact (pg_name (i := 3) sc_law_fact.nd rfl (Or.inl rfl))) (fun _ _ _ _ _ => by exact pts_nil) (fun _ _ _ _ _ => by exact (pe_callR G_law_take (hr.mono (by decide)) rfl T.g_law_take T.k_law_take pass0 (pa_cons (pv 0) (pa_cons pe_int pa_nil)))))
      (pss_cons (ps_set (i := 4) sc_law_fact.nd rfl (Or.inl rfl) (pe_ifExp (pt_cmpR (neDK K hr.units) (pv 1) (pe_lst pa_nil) (nomark _)) (pe_callR G_law_done (hr.mono (by decide)) rfl T.g_law_done T.k_law_done pass0 (pa_cons (pv 2) (pa_cons (pe_ix (ixLK K) (pv 1) (pe_callR G_law_take (hr.mono (by decide)) rfl T.g_law_take T.k_law_take pass0 (pa_cons (pv 0) (pa_cons (pe_callB (lenK K) (by rfl) T.b_len (by decide +kernel) (pa_cons (pv 1) pa_nil)) pa_nil))) (fun _ _ => rfl)) pa_nil))) (pe_lst pa_nil)))
      (pss_cons (ps_set (i := 4) sc_law_fact.nd rfl (Or.inl rfl) (pe_ifExp (pt_val (pe_callB call_isi (by rfl) T.b_isinstance (by decide +kernel) (pa_cons (pv 4) (pa_cons (pe_bltn (v := .ty "tuple") (u := .type "tuple") (by rfl) T.b_tuple (by decide +kernel) rfl) pa_nil)))) pe_non (pv 4)))
      (pss_cons (ps_set (i := 5) sc_law_fact.nd rfl (Or.inl rfl) (pe_callR G_law_take (hr.mono (by decide)) rfl T.g_law_take T.k_law_take pass0 (pa_cons (pv 0) (pa_cons pe_int pa_nil))))
      (pss_cons (ps_if (pt_cmpR op_eq (pv 5) pe_int (nomark _)) (pss_one (ps_set (i := 4) sc_law_fact.nd rfl (Or.inl rfl) pe_non)) (pss_one (ps_if (pt_cmpR op_eq (pv 5) pe_int (nomark _)) (pss_one (ps_setLc (own := [("_law_turn", 3)]) (i := 4) rfl sc_law_fact.nd rfl rfl (sw_true rfl rfl rfl (by decide +kernel)) (pi_rng1 (by rfl) T.b_range (pa_cons (pe_callR G_law_take (hr.mono (by decide)) rfl T.g_law_take T.k_law_take pass0 (pa_cons (pv 0) (pa_cons pe_int pa_nil))) pa_nil)) (blkOk_by (N := N_law_fact) (sc := defScope s_law_fact) (by decide +kernel)) (fun _ _ _ _ _ => by exact (pg_name (i := 3) sc_law_fact.nd rfl (Or.inl rfl))) (fun _ _ _ _ _ => by exact pts_nil) (fun _ _ _ _ _ => by exact (pe_callR G_law_take (hr.mono (by decide)) rfl T.g_law_take T.k_law_take pass0 (pa_cons (pv 0) (pa_cons pe_int pa_nil)))))) (pss_one (ps_if (PW.pt (pw_and (pt_cmpR op_eq (pv 5) pe_int (nomark _)) (pw_and1 (pt_cmpR op_notN (pv 4) pe_non (nomark _))))) (pss_one (ps_set (i := 4) sc_law_fact.nd rfl (Or.inl rfl) (pe_callTy (tupleK K) (by rfl) T.b_tuple (by decide +kernel) (pa_cons (revLK K (pv 4)) pa_nil)))) pss_nil)))))
      (pss_one (ps_ret (pe_tup (pa_cons (pe_ifExp (pt_cmpR op_eq (pv 5) pe_int (nomark _)) (pe_callTy (tupleK K) (by rfl) T.b_tuple (by decide +kernel) (pa_cons (pv 2) pa_nil)) (pv 2)) (pa_cons (pv 4) pa_nil)))))))))), ?_⟩
    refine ⟨_, rfl, p, 6, rfl, hp, by decide, by decide, fun u H1 u0 u1 b1 hp1 => ⟨_, rfl, fun D hD => ?_⟩⟩
    have nDH := fresh_but b1 hp1 hD
    have nD := pool_ne hp1 hD
    refine lcE (InvN p D 0 6 H1) ⟨[], rfl, rfl, upd_same, pool_but hp1 hD rfl, but_same (same_new hD), by simp⟩ (Nat.le_trans (show u.toNat ≤ 100000 by omega) line_ge) (fun i' H' acc ⟨ns, ex, hl, _⟩ => by rw [ex, List.length_map]; exact hl) ?_ ?_
    · rintro i' H' acc Rk hi' ⟨ns', rfl, hlen, hDD, hpp, bb, hsm'⟩ kk
      refine ⟨rfl, _, rfl, p, 7, rfl, hpp, by decide, by decide, fun r4 H8 r40 r41 b8 hp8 => ?_⟩
      exact kk _ H8 (b8 _ _ nD hDD) (invN_step hD nD hlen bb b8 hp8 hsm' (by omega) (by omega))
    rintro H2 acc ⟨B, rfl, lB, hD2, hp2, b12, smB⟩
    have b02 := b1.trans b12
    have hm2 := but_seqL' hp nm b02 hm
    have hms2 := sm_but hms hp b02
    have lms := hms.length
    try dsimp only [tNext]
    show tSeq _ _ _ _ _
    refine seq_cut2 (fun σ' H' => ∃ v, σ' = [some (.ref p), some (.ref m), some (.ref D), none, some v, none] ∧ But p H2 H' ∧ PoolAt H' p ∧ ((∃ q M, v = .ref q ∧ H' q = some (.lst (M.map V.int)) ∧ H q = Option.none ∧ Sml M) ∨ ∃ t i, v = .ref t ∧ H' t = some (.tup [.str "failed", .int i]))) (fun N cont => ?_) (fun σ H3 h3 => ?_)
    · refine ⟨_, rfl, Nat.zero_le _, fun z hz => ?_⟩
      have sz := same_new (o := .lst []) hz
      have hp3 := pool_same hp2 sz
      refine ⟨_, _, .lst (sz.seq hm2) (sm_dp (sm_same hms2 sz)), .lst (SqL.of upd_same) .nil, sh_pts _, by decide +kernel, _, rfl, ?_⟩
      rw [eqv_ptsnil]
      generalize upd H2 z (.lst []) = Hz at sz hp3 ⊢
      refine ite2 (fun hne => ?_) (fun hne => ?_)
      · have hne : 0 < Ss.length := by
          cases Ss with
          | nil => simp at hne
          | cons _ _ => simp
        refine ⟨_, rfl, _, rfl, _, rfl, _, rfl, m, ms, rfl, .inl (sz.seq hm2), p, (ms.length : Int), rfl, hp3, by omega, by omega, fun r H4 r0 r1 b4 hp4 => ?_⟩
        have b24 := (but_same (p := p) sz).trans b4
        obtain ⟨y, hy⟩ : ∃ y, ms[r.toNat]? = some y := ⟨_, List.getElem?_eq_getElem (show r.toNat < ms.length by omega)⟩
        obtain ⟨S, hS, l, xs, rfl, hl, hst, lq, hz5⟩ := pd_get (sm_but hms2 hp2 b24) hy
        refine ⟨m, ms, _, _, rfl, rfl, but_seqL' hp2 nm b24 hm2, at_of (show r = ((r.toNat : Nat) : Int) by omega) hy, ?_⟩
        have hD4 := b24 _ _ nD hD2
        refine ⟨D, l, xs, S, B, rfl, .inl (SqL.of hD4), by omega, SqL.of hl, hst, lq.good, by omega, fun M hM zM q H5 s5 nq hq => ?_, fun i hi t H5 s5 nt ht => ?_⟩
        · exact cont _ _ ⟨_, rfl, b24.trans (but_same s5), pool_same hp4 s5, .inl ⟨q, M, rfl, hq, fresh_but (b02.trans b24) hp4 nq, sml_run hM lq hz5 (by omega) smB⟩⟩
        · exact cont _ _ ⟨_, rfl, b24.trans (but_same s5), pool_same hp4 s5, .inr ⟨t, _, rfl, ht⟩⟩
      · refine ⟨Nat.zero_le _, fun q hq => ?_⟩
        exact cont _ _ ⟨_, rfl, (but_same sz).trans (but_same (same_new hq)), pool_but hp3 hq rfl, .inl ⟨q, [], rfl, upd_same, fresh_but (b02.trans (but_same sz)) hp3 hq, by unfold Sml; simp⟩⟩
    obtain ⟨v, rfl, b23, hp3, hv⟩ := h3
    try dsimp only [tNext]
    show tSeq _ _ _ _ _
    refine seq_cut2 (fun σ' H' => ∃ v A, σ' = [some (.ref p), some (.ref m), some (.ref D), none, some v, none] ∧ H' = H3 ∧ LatL H H3 v A) (fun N cont => ?_) (fun σ H3 h3 => ?_)
    · rcases hv with ⟨q, M, rfl, hq, nq, sM⟩ | ⟨t, i, rfl, ht⟩
      · refine ⟨_, rfl, _, _, _, _, false, rfl, .ty "tuple", .base (.lst hq), kit_ty (by decide +kernel), _, rfl, iteN (by simp) ?_⟩
        exact ⟨_, rfl, cont _ _ ⟨_, some M, rfl, rfl, .inr ⟨M, q, rfl, rfl, hq, nq, sM⟩⟩⟩
      · refine ⟨_, rfl, _, _, _, _, true, rfl, .ty "tuple", .base (.tup ht), kit_ty (by decide +kernel), _, rfl, iteH rfl ?_⟩
        exact cont _ _ ⟨_, Option.none, rfl, rfl, .inl ⟨rfl, rfl⟩⟩
    clear hv
    obtain ⟨v, A, rfl, rfl, hv⟩ := h3
    refine ⟨_, rfl, p, 6, rfl, hp3, by decide, by decide, fun kd H4 k0 k6 b4 hp4 => ?_⟩
    have hv4 : LatL H H4 v A := hv.imp id fun ⟨L, q, e, ev, h, n, s⟩ => ⟨L, q, e, ev, b4 _ _ (fun z => pool_some hp (by rw [← z]; exact n)) h, n, s⟩
    have b04 := (b02.trans b23).trans b4
    have hD4 := b4 _ _ nD (b23 _ _ nD hD2)
    try dsimp only [tNext]
    show tSeq _ _ _ _ _
    refine seq_cut2 (fun σ' H' => ∃ v A, σ' = [some (.ref p), some (.ref m), some (.ref D), none, some v, some (.int kd)] ∧ But p H4 H' ∧ PoolAt H' p ∧ Lat K H H' v A) (fun N cont => ?_) (fun σ H5 h5 => ?_)
    · refine ⟨_, rfl, rfl, _, rfl, ite2 (fun h0 => ?_) (fun h0 => ?_)⟩
      · exact cont _ _ ⟨_, Option.none, rfl, But.refl _ _, hp4, .inl ⟨rfl, rfl⟩⟩
      refine ⟨_, rfl, rfl, _, rfl, ite2 (fun h1 => ?_) (fun h1 => ?_)⟩
      · refine ⟨_, rfl, p, 4, rfl, hp4, by decide, by decide, fun u5 H5 u50 u51 b5 hp5 => ⟨_, rfl, fun E hE => ?_⟩⟩
        have nE := pool_ne hp5 hE
        refine lcE (InvN p E 0 6 H5) ⟨[], rfl, rfl, upd_same, pool_but hp5 hE rfl, but_same (same_new hE), by simp⟩ (Nat.le_trans (show u5.toNat ≤ 100000 by omega) line_ge) (fun i' H' acc ⟨ns, ex, hl, _⟩ => by rw [ex, List.length_map]; exact hl) ?_ ?_
        · rintro i' H' acc Rk hi' ⟨ns', rfl, hlen, hDD, hpp, bb, hsm'⟩ kk
          refine ⟨rfl, _, rfl, p, 7, rfl, hpp, by decide, by decide, fun r4 H8 r40 r41 b8 hp8 => ?_⟩
          exact kk _ H8 (b8 _ _ nE hDD) (invN_step hE nE hlen bb b8 hp8 hsm' (by omega) (by omega))
        rintro H6 acc ⟨A2, rfl, lA, hA2, hp6, b56, smA⟩
        exact cont _ _ ⟨_, some A2, rfl, b5.trans b56, hp6, .inr ⟨A2, rfl, numsN_of (fresh_but (b04.trans b5) hp5 hE) hA2 ⟨by omega, fun x hx => by have := smA x hx; omega⟩⟩⟩
      refine ⟨_, rfl, rfl, _, rfl, ite2 (fun h2 => ?_) (fun h2 => ?_)⟩
      · rcases hv4 with ⟨rfl, rfl⟩ | ⟨L, q, rfl, rfl, hq, nq, sm⟩
        · refine ⟨_, rfl, rfl, _, rfl, iteN (by rfl) ?_⟩
          exact cont _ _ ⟨_, Option.none, rfl, But.refl _ _, hp4, .inl ⟨rfl, rfl⟩⟩
        · refine ⟨_, rfl, rfl, _, rfl, iteH (by rfl) ?_⟩
          refine ⟨_, rfl, q, _, rfl, SqL.of hq, fun o2 ho2 => ?_⟩
          have s5 := same_new (o := .lst (L.map V.int).reverse) ho2
          refine ⟨o2, _, rfl, .inl ⟨SqL.of upd_same, fun tu htu => ?_⟩⟩
          have s6 := same_new (o := .tup (L.map V.int).reverse) htu
          refine cont _ _ ⟨_, some L.reverse, rfl, but_same (s5.trans s6), pool_same hp4 (s5.trans s6), .inr ⟨_, rfl, numsN_ofT (fresh_but (b04.trans (but_same s5)) (pool_same hp4 s5) htu) (by rw [upd_same, List.map_reverse]) ⟨by rw [List.length_reverse]; exact sm.1, fun x hx => sm.2 x (List.mem_reverse.mp hx)⟩⟩⟩
      · exact cont _ _ ⟨_, A, rfl, But.refl _ _, hp4, hv4.lat⟩
    obtain ⟨v2, A2, rfl, b45, hp5, hv5⟩ := h5
    have hD5 := b45 _ _ nD hD4
    have sB : Sml B := ⟨by omega, fun x hx => by have := smB x hx; omega⟩
    refine ⟨_, rfl, rfl, _, rfl, ite2 (fun h3 => ?_) (fun h3 => ?_)⟩
    · refine ⟨_, rfl, D, _, rfl, .inl ⟨SqL.of hD5, fun tu htu => ?_⟩⟩
      have s6 := same_new (o := .tup (B.map V.int)) htu
      refine ⟨_, rfl, by show 2 ≤ sizeLine; decide, fun t ht => ?_⟩
      have s7 := same_new (o := .tup [V.ref tu, v2]) ht
      have b07 := (b04.trans b45).trans (but_same (s6.trans s7))
      have hp7 := pool_same hp5 (s6.trans s7)
      refine k t (B, A2) _ b07 hp7 (fresh_but (b04.trans (b45.trans (but_same s6))) (pool_same hp5 s6) ht) ⟨t, .ref tu, v2, rfl, SqT.of upd_same, numsN_ofT (fresh_but (b04.trans b45) hp5 htu) (s7 _ _ upd_same) sB, hv5.imp id fun ⟨L, e, h⟩ => ⟨L, e, h.same (s6.trans s7)⟩⟩
    · refine ⟨_, rfl, _, rfl, by show 2 ≤ sizeLine; decide, fun t ht => ?_⟩
      have s7 := same_new (o := .tup [V.ref D, v2]) ht
      refine k t (B, A2) _ ((b04.trans b45).trans (but_same s7)) (pool_same hp5 s7) (fresh_but (b04.trans b45) hp5 ht) ⟨t, .ref D, v2, rfl, SqT.of upd_same, numsN_of nDH (s7 _ _ hD5) sB, hv5.imp id fun ⟨L, e, h⟩ => ⟨L, e, h.same s7⟩⟩


end
end K43
namespace K43
open PySem L2 XT
section
variable {P : Program} {w : World} {K : PySem.W.Frag} {mg : Str → Option Value} {base : Heap} {a : Ads}
local macro_rules | `(tactic| walk_at "rside") => `(tactic| first | (show (0 : Int) < _; first | decide | omega) | (exact ⟨by first | decide | omega, by first | decide | omega⟩) | (exact Or.inl ⟨by omega, by omega⟩) | (exact Or.inr ⟨by omega, by omega⟩) | (exact ⟨by decide, by decide, by decide⟩))
local macro_rules | `(tactic| walk_at "rd1") => `(tactic| first | (refine ⟨_, rfl, ?_⟩) | (refine ⟨_, _, rfl, rfl, (by walk_at "rside"), ?_⟩) | (refine ⟨_, _, rfl, rfl, ?_⟩))
local macro_rules | `(tactic| walk_at "rd") => `(tactic| repeat (walk_at "rd1"))

def spLAgr (K : PySem.W.Frag) : Sp := fun vs H Q _ => ∃ (l p : Addr) (ys xs : List V) (S : List Stp) (F : List Fc), vs = [.ref l, .ref p] ∧ SqL K H l ys ∧ StsAt K H ys S ∧ (∀ s ∈ S, goodS s = true) ∧ S.length ≤ 1000 ∧ SqL K H p xs ∧ Paired (FcAt K H) xs F ∧ ∀ H', Same H H' → Q (.bl (agr S F)) H'
theorem ok_law_agrees (T : Txt K mg a) : FnR P w K mg base CX0 3 a.law_agrees (spLAgr K) := by
  obtain ⟨fd, F⟩ := T.F_law_agrees
  refine XT.okR F sc_law_agrees bn_law_agrees (fun vs H Q E h => ?_) (fun cdv A outer s H vs Q E hr h => ?_)
  · obtain ⟨l, p, ys, xs, S, F, rfl, _⟩ := h
    rfl
  · obtain ⟨l, p, ys, xs, S, F, rfl, hL, hst, gd, hz, hP, hF, k⟩ := h
    have G_law_done := ok_law_done (P := P) (w := w) (base := base) T
    have kk : ∀ {H'}, Same H H' → agr S F = false → Q (.bl false) H' := fun {H'} s e => by have := k H' s; rw [e] at this; exact this
    refine ⟨_, (pss_cons (ps_for PassesOwn.never rfl (pi_list (pv 1)) (tupK K (n := 2) (by rfl) (pgs_cons (pg_name (i := 2) sc_law_agrees.nd rfl (Or.inl rfl)) (pgs_cons (pg_name (i := 3) sc_law_agrees.nd rfl (Or.inl rfl)) pgs_nil)))
        (pss_cons (ps_set (i := 4) sc_law_agrees.nd rfl (Or.inl rfl) (pe_callR G_law_done (hr.mono (by decide)) rfl T.g_law_done T.k_law_done pass0 (pa_cons (pv 2) (pa_cons (pv 0) pa_nil))))
      (pss_one (ps_if (pt_cmpR (neDK K hr.units) (pe_ifExp (pt_val (pe_callB call_isi (by rfl) T.b_isinstance (by decide +kernel) (pa_cons (pv 4) (pa_cons (pe_bltn (v := .ty "tuple") (u := .type "tuple") (by rfl) T.b_tuple (by decide +kernel) rfl) pa_nil)))) pe_non (pv 4)) (pe_ifExp (pt_cmpR op_isN (pv 3) pe_non (nomark _)) pe_non (pe_callB (sortedAK K) (by rfl) T.b_sorted (by decide +kernel) (pa_cons (pv 3) pa_nil))) (nomark _)) (pss_one (ps_ret pe_bl)) pss_nil))))
      (pss_one (ps_ret pe_bl))), ?_⟩
    refine ⟨_, rfl, p, rfl, ⟨_, hP⟩, for_list (K := K) (a := p) (xs := xs) (fun i σ H' => ∃ o2 o3 o4, σ = [some (.ref l), some (.ref p), o2, o3, o4] ∧ Same H H' ∧ (F.take i).all (agr1 S) = true) ⟨_, _, _, rfl, Same.refl _, by simp⟩ (fun i σ H' _ ⟨_, _, _, _, s, _⟩ => Same.seq s hP) ?_ ?_⟩
    · rintro i x σ H1 hx ⟨o2, o3, o4, rfl, s1, hall⟩
      obtain ⟨f, hf, r, u, y, rfl, hr0, hu, hy⟩ := pd_get hF hx
      refine ⟨r, [u, y], rfl, same_seqT s1 hr0, rfl, u, [y], rfl, y, [], rfl, rfl, ?_⟩
      obtain ⟨pu, rfl, hpu, hlu⟩ := hu.same s1
      refine ⟨_, rfl, _, rfl, pu, l, ys, S, f.1, rfl, hpu, hlu, s1.seq hL, sts_same hst s1, gd, hz, fun M hM zM q H2 s2 nq hq => ?_, fun j hj t H2 s2 nt ht => ?_⟩
      · refine ⟨_, rfl, _, _, _, _, false, rfl, .ty "tuple", .base (.lst hq), kit_ty (by decide +kernel), _, rfl, iteN (by simp) ?_⟩
        refine ⟨_, rfl, ?_⟩
        have dpq : Dp K H2 (.ref q) (optL (some M)) := dp_lst (SqL.of hq)
        have e1 : outO (XT.runR (XT.srt f.1) 0 S) = some M := by rw [hM]; rfl
        rcases hy with ⟨e2, rfl⟩ | ⟨A, e2, hA⟩
        · refine ⟨_, rfl, rfl, _, rfl, iteH rfl ?_⟩
          refine ⟨_, optL Option.none, dpq, .non, sh_optL _, sh_optL Option.none, _, rfl, ?_⟩
          rw [eqv_optL]
          refine ite2 (fun h1 => ?_) (fun h1 => ?_)
          · refine kk (s1.trans s2) ?_
            refine all_false hf ?_
            unfold agr1
            rw [e1, e2]
            show decide (_ = Option.none) = false
            simpa using h1
          · refine ⟨_, _, _, rfl, s1.trans s2, take_all hall hf ?_⟩
            unfold agr1
            rw [e1, e2]
            show decide (_ = Option.none) = true
            simpa using h1
        · refine ⟨_, rfl, rfl, _, rfl, iteN (decide_eq_false (numsAt_ne hA)) ?_⟩
          obtain ⟨pa, rfl, hpa, hal⟩ := hA.same (s1.trans s2)
          refine ⟨_, rfl, pa, A, rfl, hpa, fun N q3 pm up nq => ?_⟩
          rw [XT.srt_of pm up]
          have s3 := same_new (o := .lst ((XT.srt A).map V.int)) nq
          refine ⟨_, optL (some (XT.srt A)), dp_same s3 _ _ (dpq), dp_lst (SqL.of upd_same), sh_optL _, sh_optL (some (XT.srt A)), _, rfl, ?_⟩
          have s13 := (s1.trans s2).trans s3
          rw [eqv_optL]
          refine ite2 (fun h1 => ?_) (fun h1 => ?_)
          · refine kk s13 ?_
            refine all_false hf ?_
            unfold agr1
            rw [e1, e2]
            show decide (_ = some (XT.srt A)) = false
            simpa using h1
          · refine ⟨_, _, _, rfl, s13, take_all hall hf ?_⟩
            unfold agr1
            rw [e1, e2]
            show decide (_ = some (XT.srt A)) = true
            simpa using h1
      · refine ⟨_, rfl, _, _, _, _, true, rfl, .ty "tuple", .base (.tup ht), kit_ty (by decide +kernel), _, rfl, iteH rfl ?_⟩
        have dpq : Dp K H2 V.non (optL Option.none) := .non
        have e1 : outO (XT.runR (XT.srt f.1) 0 S) = Option.none := by rw [hj]; rfl
        rcases hy with ⟨e2, rfl⟩ | ⟨A, e2, hA⟩
        · refine ⟨_, rfl, rfl, _, rfl, iteH rfl ?_⟩
          refine ⟨_, optL Option.none, dpq, .non, sh_optL _, sh_optL Option.none, _, rfl, ?_⟩
          rw [eqv_optL]
          refine ite2 (fun h1 => ?_) (fun h1 => ?_)
          · refine kk (s1.trans s2) ?_
            refine all_false hf ?_
            unfold agr1
            rw [e1, e2]
            show decide (_ = Option.none) = false
            simpa using h1
          · refine ⟨_, _, _, rfl, s1.trans s2, take_all hall hf ?_⟩
            unfold agr1
            rw [e1, e2]
            show decide (_ = Option.none) = true
            simpa using h1
        · refine ⟨_, rfl, rfl, _, rfl, iteN (decide_eq_false (numsAt_ne hA)) ?_⟩
          obtain ⟨pa, rfl, hpa, hal⟩ := hA.same (s1.trans s2)
          refine ⟨_, rfl, pa, A, rfl, hpa, fun N q3 pm up nq => ?_⟩
          rw [XT.srt_of pm up]
          have s3 := same_new (o := .lst ((XT.srt A).map V.int)) nq
          refine ⟨_, optL (some (XT.srt A)), dp_same s3 _ _ (dpq), dp_lst (SqL.of upd_same), sh_optL _, sh_optL (some (XT.srt A)), _, rfl, ?_⟩
          have s13 := (s1.trans s2).trans s3
          rw [eqv_optL]
          refine ite2 (fun h1 => ?_) (fun h1 => ?_)
          · refine kk s13 ?_
            refine all_false hf ?_
            unfold agr1
            rw [e1, e2]
            show decide (_ = some (XT.srt A)) = false
            simpa using h1
          · refine ⟨_, _, _, rfl, s13, take_all hall hf ?_⟩
            unfold agr1
            rw [e1, e2]
            show decide (_ = some (XT.srt A)) = true
            simpa using h1
    · rintro σ H1 ⟨o2, o3, o4, rfl, s1, hall⟩
      rw [hF.length, List.take_length] at hall
      have := k H1 s1
      unfold agr at this
      rw [hall] at this
      exact this

/-- data that a law shows -/
structure Sz (d : PyData) : Prop where
  pl : plainD d = true
  dp : d.depth ≤ 50
  sz : sc d ≤ 16000000
  tx : txD d = true
def Odz (K : PySem.W.Frag) (H : Hp) (x : V) (d : PyData) : Prop := Dz K H x d ∧ Sz d
theorem Odz.same {H H' : Hp} {x : V} {d : PyData} (h : Odz K H x d) (s : Same H H') : Odz K H' x d := ⟨dz_same s _ _ h.1, h.2⟩
theorem FactsBad.same {H H' : Hp} {x : V} (h : FactsBad K H x) (s : Same H H') : FactsBad K H' x := by
  rcases h with ⟨p, xs, bs, e, hS, hb, hl, hn⟩ | ⟨n, h, r⟩
  · exact .inl ⟨p, xs, bs, e, hS.imp (fun h => s.seq h) (fun h => same_seqT s h), L2.Paired.mapP hb fun _ _ h => h.same s, hl, hn⟩
  · exact .inr ⟨n, same_tyB s h, r⟩
def spLErr (K : PySem.W.Frag) : Sp := fun vs H Q _ => ∃ (x : V) (d : PyData), vs = [x] ∧ FactsBad K H x ∧ Odz K H x d ∧ ∀ t H', Same H H' → H t = Option.none → H' t = some (.tup [.str d.shown, .bl true]) → Q (.ref t) H'
theorem ok_law_error (T : Txt K mg a) : FnG P w K mg base CX0 12 a.law_error (spLErr K) := by
  obtain ⟨fd, F⟩ := T.F_law_error
  have G_agreeing := okX_agreeing (P := P) (w := w) (base := base) T
  have G_Sequence_init := ok_Sequence___init__ (P := P) (w := w) (base := base) T
  refine XT.okGX F sc_law_error bn_law_error (fun vs H Q E h => ?_) (fun cdv A outer s H vs Q E hg hr h => ?_)
  · obtain ⟨x, d, rfl, _⟩ := h
    rfl
  · obtain ⟨x, d, rfl, bad, od, k⟩ := h
    refine ⟨_, (pss_cons (ps_try_asL rfl rfl sc_law_error.nd takes0 (fun W pn xe tk po => (pss_one (ps_expr (pe_callR G_agreeing (hr.mono (by decide)) rfl T.g_agreeing T.k_agreeing (passAll tk 2 rfl) (pa_cons (pe_lst (pa_cons (pe_makeR0 T.M_Sequence G_Sequence_init (hr.mono (by decide)) rfl T.g_Sequence pass0) pa_nil)) (pa_cons (pv 0) pa_nil))))))
      (AsOk.cons (i := 1) ⟨by rfl, by decide, .inl T.g_InvalidFacts⟩ rfl rfl (fun ea oe cls d pn hz hf => (pss_one (ps_ret (pe_tup (pa_cons (pe_callB (reprZK K hg hr.units) (by rfl) T.b_repr (by decide +kernel) (pa_cons (pe_xf T.e_InvalidFacts.xf T.e_InvalidFacts.no hz hf (pv 1)) pa_nil)) (pa_cons (pe_and (pe_callB (isEKx K T.e_InvalidFacts.exc hz hf) (by rfl) T.b_isinstance (by decide +kernel) (pa_cons (pv 1) (pa_cons (pe_glob (v := .ref a.RankError) (by rfl) T.g_RankError rfl) pa_nil))) (pe_one (pe_not (pe_callB (isEKx K T.e_InvalidFacts.exc hz hf) (by rfl) T.b_isinstance (by decide +kernel) (pa_cons (pv 1) (pa_cons (pe_glob (v := .ref a.InvalidList) (by rfl) T.g_InvalidList rfl) pa_nil)))))) pa_nil))))))
      AsOk.nil))
      (pss_one (ps_ret pe_non))), ?_⟩
    refine fun t0 d0 n0 nd0 ne0 => ?_
    refine sq_mk (xs := []) (L := []) n0 nd0 ne0 .nil (fun s hs => by cases hs) (by decide) fun H0 s0 h0 => ⟨rfl, ?_⟩
    refine ⟨by show 1 ≤ sizeLine; decide, fun ql hql => ?_⟩
    have s1 := same_new (o := .lst [V.ref t0]) hql
    refine ⟨_, rfl, ql, [.ref t0], [[]], x, rfl, .inl (SqL.of upd_same), .cons ⟨t0, rfl, h0.same s1, by decide⟩ .nil, by show 1 ≤ 1000; decide, .inr ⟨bad.same (s0.trans s1), fun dd HX sX nX hdd σ hσ => ?_⟩⟩
    refine ⟨true, T.x_FF, fun _ ea hea => ?_, fun q => Bool.noConfusion q⟩
    have he4 : (σ.set 1 (some (V.ref ea)))[1]? = some (some (V.ref ea)) := by simp [hσ]
    have s9 := (s0.trans s1).trans sX
    refine ⟨_, he4, rfl, rfl, dd, _, _, rfl, hdd, rfl, _, d, rfl, dz_same s9 _ _ od.1, od.2.pl, od.2.dp, od.2.sz, ?_⟩
    refine ⟨_, he4, _, _, true, dd, _, rfl, rfl, (fun u r => r), rfl, hdd, T.r_FR, ?_⟩
    exact ⟨_, rfl, iteT ⟨_, he4, _, _, false, dd, _, rfl, rfl, (fun u r => r), rfl, hdd, T.r_FL, _, rfl, by show 2 ≤ sizeLine; decide, fun t ht => k t _ (s9.trans (same_new ht)) (s9.free ht) upd_same⟩⟩
end
end K43
namespace K43
open PySem L2 XT
section
variable {P : Program} {w : World} {K : PySem.W.Frag} {mg : Str → Option Value} {base : Heap} {a : Ads}
local macro_rules | `(tactic| walk_at "rside") => `(tactic| first | (show (0 : Int) < _; first | decide | omega) | (exact ⟨by first | decide | omega, by first | decide | omega⟩) | (exact Or.inl ⟨by omega, by omega⟩) | (exact Or.inr ⟨by omega, by omega⟩) | (exact ⟨by decide, by decide, by decide⟩))
local macro_rules | `(tactic| walk_at "rd1") => `(tactic| first | (refine ⟨_, rfl, ?_⟩) | (refine ⟨_, _, rfl, rfl, (by walk_at "rside"), ?_⟩) | (refine ⟨_, _, rfl, rfl, ?_⟩))
local macro_rules | `(tactic| walk_at "rd") => `(tactic| repeat (walk_at "rd1"))

def spAggG (K : PySem.W.Frag) (C : Addr) : Sp := fun vs H Q _ => ∃ (q p : Addr) (ts xs : List V) (Ss : List (List Stp)) (F : List Fc), vs = [.ref q, .ref p] ∧ (SqL K H q ts ∨ SqT K H q ts) ∧ SsAt K C H ts Ss ∧ ts.length ≤ 1000 ∧ (SqL K H p xs ∨ SqT K H p xs) ∧ Paired (FcAt K H) xs F ∧ xs.length ≤ 100000 ∧
  ∀ r H', Same H H' → H r = Option.none → H' r = some (.lst ((idx Ss F).map V.int)) → Q (.ref r) H'
theorem ok_agreeing (T : Txt K mg a) : FnR P w K mg base CX0 10 a.agreeing (spAggG K a.Sequence) := fnR_good (okX_agreeing T) fun vs H Q E ⟨q, p, ts, xs, Ss, F, e, hQ, hT, hz, hP, hF, hl, k⟩ => ⟨q, ts, Ss, _, e, hQ, hT, hz, .inl ⟨p, xs, F, rfl, hP, hF, hl, k⟩⟩
theorem sqc_lst {C D t : Addr} {H : Hp} {xs ys : List V} {L : List Stp} (hD : H D = some (.lst xs)) (h : SqcAt K C H t L) : SqcAt K C (upd H D (.lst ys)) t L := by
  obtain ⟨dx, q, zs, h1, h2, h3, h4⟩ := h
  have n : t ≠ D := fun z => by rw [z, hD] at h1; cases h1
  exact ⟨dx, q, zs, by rw [upd_ne n]; exact h1, kt_upd hD _ _ h2, sts_kt h3 (kt_upd hD), h4⟩
theorem ss_lst {C D : Addr} {H : Hp} {xs ys ts : List V} {L : List (List Stp)} (hD : H D = some (.lst xs)) (h : SsAt K C H ts L) : SsAt K C (upd H D (.lst ys)) ts L := L2.Paired.mapP h fun _ _ ⟨t, e, z, l⟩ => ⟨t, e, sqc_lst hD z, l⟩
theorem ss_same {C : Addr} {H H' : Hp} {ts : List V} {L : List (List Stp)} (h : SsAt K C H ts L) (s : Same H H') : SsAt K C H' ts L := L2.Paired.mapP h fun _ _ ⟨t, e, z, l⟩ => ⟨t, e, z.same s, l⟩
theorem ss_but {C p : Addr} {H H' : Hp} {ts : List V} {L : List (List Stp)} (h : SsAt K C H ts L) (hp : PoolAt H p) (b : But p H H') : SsAt K C H' ts L := L2.Paired.mapP h fun _ _ ⟨t, e, z, l⟩ => ⟨t, e, sqc_but z hp b, l⟩
theorem pool_upd {H : Hp} {p l : Addr} {o : HO} (h : PoolAt H p) (n : l ≠ p) : PoolAt (upd H l o) p := by
  obtain ⟨x, y, e, r⟩ := h
  exact ⟨x, y, (upd_ne n.symm).trans e, r⟩
theorem butU {p D : Addr} {H0 H H2 : Hp} {o : HO} (h0 : H0 D = Option.none) (b : But p H0 H) (b2 : But p H H2) : But p H0 (upd H2 D o) := fun c o n e => by
  have : c ≠ D := fun z => by rw [z, h0] at e; cases e
  rw [upd_ne this]
  exact b2 _ _ n (b _ _ n e)
/-- the lists of steps being made -/
def InvM (K : PySem.W.Frag) (p D : Addr) (H0 : Hp) (i : Nat) (H : Hp) (acc : List V) : Prop := ∃ Ss, acc.length = i ∧ H D = some (.lst acc) ∧ PoolAt H p ∧ But p H0 H ∧ Paired (fun v S => SmR K H v S ∧ v ≠ .ref D) acc Ss
theorem SmR.upd {D : Addr} {H : Hp} {xs ys : List V} {v : V} {S : List Stp} (hD : H D = some (.lst xs)) (n : v ≠ .ref D) (h : SmR K H v S) : SmR K (upd H D (.lst ys)) v S := by
  obtain ⟨l, zs, e, h1, h2, h3⟩ := h
  have : l ≠ D := fun z => n (by rw [e, z])
  exact ⟨l, zs, e, by rw [upd_ne this]; exact h1, sts_kt h2 (kt_upd hD), h3⟩
theorem invM_step {p D : Addr} {H0 H H2 : Hp} {i : Nat} {acc : List V} {v : V} {S : List Stp} (hD0 : H0 D = Option.none) (nD : D ≠ p) (h : InvM K p D H0 i H acc) (b2 : But p H H2) (hp2 : PoolAt H2 p) (hv : SmR K H2 v S) (nv : v ≠ .ref D) : InvM K p D H0 (i + 1) (upd H2 D (.lst (acc ++ [v]))) (acc ++ [v]) := by
  obtain ⟨Ss, ha, hD, hp, bb, hs⟩ := h
  have hD2 := b2 _ _ nD hD
  refine ⟨Ss ++ [S], by rw [List.length_append, ha]; rfl, upd_same, pool_upd hp2 nD, butU hD0 bb b2, ?_⟩
  exact pd_append (L2.Paired.mapP hs fun _ _ ⟨z, n⟩ => ⟨(z.but hp b2).upd hD2 n, n⟩) (.cons ⟨hv.upd hD2 nv, nv⟩ .nil)
/-- the facts being made -/
def InvF (K : PySem.W.Frag) (p D : Addr) (H0 : Hp) (i : Nat) (H : Hp) (acc : List V) : Prop := ∃ F, acc.length = i ∧ H D = some (.lst acc) ∧ PoolAt H p ∧ But p H0 H ∧ Paired (FcN K (upd H0 D (.lst [])) H) acc F
theorem invF_step {p D : Addr} {H0 H H2 : Hp} {i : Nat} {acc : List V} {v : V} {f : Fc} (hD0 : H0 D = Option.none) (hp0 : PoolAt H0 p) (nD : D ≠ p) (h : InvF K p D H0 i H acc) (b2 : But p H H2) (hp2 : PoolAt H2 p) (hv : FcN K H H2 v f) : InvF K p D H0 (i + 1) (upd H2 D (.lst (acc ++ [v]))) (acc ++ [v]) := by
  obtain ⟨F, ha, hD, hp, bb, hs⟩ := h
  have hD2 := b2 _ _ nD hD
  have hpD : (L2.upd H0 D (.lst [])) p ≠ Option.none := by rw [upd_ne nD.symm]; exact pool_some hp0
  have hDD : (L2.upd H0 D (.lst [])) D ≠ Option.none := by rw [upd_same]; exact fun z => by cases z
  have fr : ∀ q, H q = Option.none → (L2.upd H0 D (.lst [])) q = Option.none := fun q hq => by
    have : q ≠ D := fun z => by rw [z, hD] at hq; cases hq
    rw [upd_ne this]
    exact fresh_but bb hp hq
  have bD : But D H2 (L2.upd H2 D (.lst (acc ++ [v]))) := fun c o n e => by rw [upd_ne n]; exact e
  have one : ∀ {x g}, FcN K (L2.upd H0 D (.lst [])) H2 x g → FcN K (L2.upd H0 D (.lst [])) (L2.upd H2 D (.lst (acc ++ [v]))) x g := fun z => z.but hDD (kt_upd hD2) bD
  refine ⟨F ++ [f], by rw [List.length_append, ha]; rfl, upd_same, pool_upd hp2 nD, butU hD0 bb b2, ?_⟩
  exact pd_append (L2.Paired.mapP hs fun _ _ z => one (z.but hpD (kt_but hp b2) b2)) (.cons (one (hv.mono fr)) .nil)
/-- data of items -/
structure SzA (ds : List PyData) : Prop where
  pl : plainAll ds = true
  dp : PyData.depthAll ds ≤ 20
  sz : scAll ds ≤ 8000000
  tx : txAll ds = true
theorem plainAll_app : ∀ ds es : List PyData, plainAll (ds ++ es) = (plainAll ds && plainAll es)
  | [], _ => rfl
  | d :: ds, es => by simp [plainAll, plainAll_app ds es, Bool.and_assoc]
theorem txAll_app : ∀ ds es : List PyData, txAll (ds ++ es) = (txAll ds && txAll es)
  | [], _ => rfl
  | d :: ds, es => by simp [txAll, txAll_app ds es, Bool.and_assoc]
theorem scAll_app : ∀ ds es : List PyData, scAll (ds ++ es) = scAll ds + scAll es
  | [], _ => by simp [scAll]
  | d :: ds, es => by simp [scAll, scAll_app ds es]; omega
theorem depthAll_app : ∀ ds es : List PyData, PyData.depthAll (ds ++ es) = max (PyData.depthAll ds) (PyData.depthAll es)
  | [], _ => by simp [PyData.depthAll]
  | d :: ds, es => by simp [PyData.depthAll, depthAll_app ds es] <;> omega
theorem SzA.lst {ds : List PyData} (h : SzA ds) : Sz (.list ds) := ⟨by simpa [plainD] using h.pl, by have := h.dp; simp only [PyData.depth]; omega, by have := h.sz; simp only [sc]; omega, by simpa [txD] using h.tx⟩
theorem SzA.app {ds es : List PyData} (h : SzA ds) (k : SzA es) (hz : scAll ds + scAll es ≤ 8000000) : SzA (ds ++ es) := ⟨by rw [plainAll_app, h.pl, k.pl]; rfl, by rw [depthAll_app]; have := h.dp; have := k.dp; omega, by rw [scAll_app]; exact hz, by rw [txAll_app, h.tx, k.tx]; rfl⟩
theorem numsN_dz {H0 H : Hp} {x : V} {L : List Int} (h : NumsN K H0 H x L) : ∃ d, Dz K H x d ∧ plainD d = true ∧ d.depth ≤ 1 ∧ sc d ≤ 100000 ∧ txD d = true := by
  obtain ⟨⟨q, rfl, hq, hl⟩, _, hz, sm⟩ := h
  have h1 : plainAll (L.map PyData.int) = true := plainAll_ints fun x hx => Nat.lt_of_lt_of_le (show x.natAbs < 2 ^ 6 by have := sm x hx; omega) (Nat.pow_le_pow_right (by decide) (by decide))
  have h2 := depth_ints L
  have h3 := scAll_ints L
  have h4 := txAll_ints L
  rcases hq with hq | hq
  · exact ⟨_, dz_of _ _ (dp_lst hq), by simpa [plainD] using h1, by simp [PyData.depth, h2], by simp only [sc]; omega, by simpa [txD] using h4⟩
  · exact ⟨_, dz_of _ _ (dp_tup hq), by simpa [plainD] using h1, by simp [PyData.depth, h2], by simp only [sc]; omega, by simpa [txD] using h4⟩
theorem fcN_dz {H0 H : Hp} {x : V} {f : Fc} (h : FcN K H0 H x f) : ∃ d, Dz K H x d ∧ plainD d = true ∧ d.depth ≤ 2 ∧ sc d ≤ 300000 ∧ txD d = true := by
  obtain ⟨r, u, y, rfl, hr, hu, hy⟩ := h
  obtain ⟨du, z1, z2, z3, z4, z5⟩ := numsN_dz hu
  have : ∃ d, Dz K H y d ∧ plainD d = true ∧ d.depth ≤ 1 ∧ sc d ≤ 100000 ∧ txD d = true := by
    rcases hy with ⟨_, rfl⟩ | ⟨A, _, hA⟩
    · exact ⟨.none, .non, by decide +kernel, by decide +kernel, by decide +kernel, by decide +kernel⟩
    · exact numsN_dz hA
  obtain ⟨dy, y1, y2, y3, y4, y5⟩ := this
  exact ⟨.tuple [du, dy], .tup hr (.cons z1 (.cons y1 .nil)), by simp [plainD, plainAll, z2, y2], by simp [PyData.depth, PyData.depthAll]; omega, by simp only [sc, scAll]; omega, by simp [txD, txAll, z5, y5]⟩
theorem fcs_dz {H0 H : Hp} : ∀ {xs : List V} {F : List Fc}, Paired (FcN K H0 H) xs F → ∃ ds, DzAll K H xs ds ∧ plainAll ds = true ∧ PyData.depthAll ds ≤ 2 ∧ scAll ds ≤ 300002 * xs.length ∧ txAll ds = true
  | _, _, .nil => ⟨[], .nil, rfl, by simp [PyData.depthAll], by simp [scAll], rfl⟩
  | _, _, .cons h t => by
    obtain ⟨d, z1, z2, z3, z4, z5⟩ := fcN_dz h
    obtain ⟨ds, y1, y2, y3, y4, y5⟩ := fcs_dz t
    exact ⟨d :: ds, .cons z1 y1, by simp [plainAll, z2, y2], by simp only [PyData.depthAll]; omega, by simp only [scAll, List.length_cons]; omega, by simp [txAll, z5, y5]⟩
def spLaw (K : PySem.W.Frag) : Sp := fun vs H Q _ => ∃ (sc : Addr) (ns : List Int), vs = [.ref sc] ∧ SqL K H sc (ns.map V.int) ∧ ns.length ≤ 63 ∧ ∀ H', Q (.bl true) H'
theorem srt0 : XT.srt [] = [] := (XT.srt_of (List.Perm.refl _) List.Pairwise.nil).symm
theorem srt1 (x : Int) : XT.srt [x] = [x] := (XT.srt_of (List.Perm.refl _) (List.pairwise_singleton _ _)).symm
theorem srtA {x y : Int} (h : x ≤ y) : XT.srt [x, y] = [x, y] := (XT.srt_of (List.Perm.refl _) (by simp [h])).symm
theorem srtB {x y : Int} (h : x ≤ y) : XT.srt [y, x] = [x, y] := (XT.srt_of (List.Perm.swap _ _ _) (by simp [h])).symm
theorem idx2 {S1 S2 : List Stp} {F : List Fc} {b1 b2 : Bool} (h1 : agr S1 F = b1) (h2 : agr S2 F = b2) : idx [S1, S2] F = (if b1 = true then [0] else []) ++ (if b2 = true then [1] else []) := by
  subst h1 h2
  unfold idx
  show ((List.range 2).filter _).map _ = _
  rw [show List.range 2 = [0, 1] from rfl, List.filter_cons, List.filter_cons, List.filter_nil]
  cases h1 : agr S1 F <;> cases h2 : agr S2 F <;> simp [h1, h2]
theorem idA (far : Int) : idx [[(false, 1)], [(true, far)]] [([5], some []), ([], Option.none)] = [0] := by
  refine idx2 (b1 := true) (b2 := false) ?_ ?_
  · simp [agr, agr1, XT.runR, XT.stepR, srt1, srt0, outO]
  · simp [agr, agr1, XT.runR, XT.stepR, srt1, srt0, outO]
theorem nlen {L M : List Int} (h : L.length ≠ M.length) : ¬ (L = XT.srt M) := fun z => h (by rw [z, XT.srt_len])
theorem idB (far : Int) : idx [[(false, 1)], [(true, far)]] [([far - 1], some [far, far - 1])] = [1] := by
  refine idx2 (b1 := false) (b2 := true) ?_ ?_
  · simp [agr, agr1, XT.runR, XT.stepR, srt1, srt0, outO]
    exact fun z => by
      have := congrArg List.length z
      rw [XT.srt_len] at this
      simp at this
  · simp [agr, agr1, XT.runR, XT.stepR, srt1, srt0, outO]
    rw [srtA (show far - 1 ≤ far by omega), srtB (show far - 1 ≤ far by omega)]
theorem idC (far : Int) : idx [[(false, 1)], [(true, far)]] [([far - 1], some [far - 1, far + 1])] = [] := by
  refine idx2 (b1 := false) (b2 := false) ?_ ?_
  · simp [agr, agr1, XT.runR, XT.stepR, srt1, srt0, outO]
    exact fun z => by
      have := congrArg List.length z
      rw [XT.srt_len] at this
      simp at this
  · simp [agr, agr1, XT.runR, XT.stepR, srt1, srt0, outO]
    rw [srtA (show far - 1 ≤ far by omega), srtA (show far - 1 ≤ far + 1 by omega)]
    intro z
    injection z with _ z
    injection z with z
    omega
theorem ok_law (T : Txt K mg a) {fd : FuncData} (F : Fun K "law" "law" s_law a.law fd) : FnG P w K mg base CX0 14 a.law (spLaw K) := by
  refine XT.okGX F sc_law bn_law (fun vs H Q E h => ?_) (fun cdv A outer s H vs Q E hg hr h => ?_)
  · obtain ⟨sc, ns, rfl, _⟩ := h
    rfl
  · obtain ⟨sc, ns, rfl, hS, hn, k⟩ := h
    have G_law_pool := ok_law_pool (P := P) (w := w) (base := base) T
    have G_law_take := ok_law_take (P := P) (w := w) (base := base) T
    have G_law_steps := ok_law_steps (P := P) (w := w) (base := base) T
    have G_law_sequence := ok_law_sequence (P := P) (w := w) (base := base) T
    have G_law_fact := ok_law_fact (P := P) (w := w) (base := base) T
    have G_law_agrees := ok_law_agrees (P := P) (w := w) (base := base) T
    have G_law_error := ok_law_error (P := P) (w := w) (base := base) T
    have G_agreeing := ok_agreeing (P := P) (w := w) (base := base) T
    have G_Sequence_init := ok_Sequence___init__ (P := P) (w := w) (base := base) T
    refine ⟨_, PSs.nox ((pss_cons (ps_for PassesOwn.never rfl (pi_rng1 (by rfl) T.b_range (pa_cons (pe_callB (call_max2 rfl) (by rfl) T.b_max (by decide +kernel) (pa_cons pe_int (pa_cons (pe_callB (call_min2 rfl) (by rfl) T.b_min (by decide +kernel) (pa_cons pe_int (pa_cons (pe_callB (lenK K) (by rfl) T.b_len (by decide +kernel) (pa_cons (pv 0) pa_nil)) pa_nil))) pa_nil))) pa_nil)) (pg_name (i := 1) sc_law.nd rfl (Or.inl rfl))
        (pss_cons (ps_set (i := 2) sc_law.nd rfl (Or.inr rfl) (pe_callR G_law_pool (hr.mono (by decide)) rfl T.g_law_pool T.k_law_pool pass0 (pa_cons (pv 0) (pa_cons (pv 1) pa_nil))))
      (pss_cons (ps_set (i := 3) sc_law.nd rfl (Or.inr rfl) (pe_lc (own := [("_law_turn", 4)])  rfl sc_law.nd (pi_rng1 (by rfl) T.b_range (pa_cons (pe_callR G_law_take (hr.mono (by decide)) rfl T.g_law_take T.k_law_take pass0 (pa_cons (pv 2) (pa_cons pe_int pa_nil))) pa_nil)) (blkOk_by (N := N_law) (sc := defScope s_law) (by decide +kernel)) (fun _ _ _ _ _ => by exact (pg_name (i := 4) sc_law.nd rfl (Or.inl rfl))) (fun _ _ _ _ _ => by exact pts_nil) (fun _ _ _ _ _ => by exact (pe_callR G_law_steps (hr.mono (by decide)) rfl T.g_law_steps T.k_law_steps pass0 (pa_cons (pv 2) (pa_cons pe_int (pa_cons pe_int pa_nil)))))))
      (pss_cons (ps_setLc (own := [("_law_steps_here", 6)]) (i := 5) rfl sc_law.nd rfl rfl (sw_true rfl rfl rfl (by decide +kernel)) (pi_list (pv 3)) (blkOk_by (N := N_law) (sc := defScope s_law) (by decide +kernel)) (fun _ _ _ _ _ => by exact (pg_name (i := 6) sc_law.nd rfl (Or.inl rfl))) (fun _ _ _ _ _ => by exact pts_nil) (fun _ _ _ _ _ => by exact (pe_callR G_law_sequence (hr.mono (by decide)) rfl T.g_law_sequence T.k_law_sequence pass0 (pa_cons (pv 6) pa_nil))))
      (pss_cons (ps_set (i := 7) sc_law.nd rfl (Or.inr rfl) (pe_lc (own := [("_law_turn", 4)])  rfl sc_law.nd (pi_rng1 (by rfl) T.b_range (pa_cons (pe_callR G_law_take (hr.mono (by decide)) rfl T.g_law_take T.k_law_take pass0 (pa_cons (pv 2) (pa_cons pe_int pa_nil))) pa_nil)) (blkOk_by (N := N_law) (sc := defScope s_law) (by decide +kernel)) (fun _ _ _ _ _ => by exact (pg_name (i := 4) sc_law.nd rfl (Or.inl rfl))) (fun _ _ _ _ _ => by exact pts_nil) (fun _ _ _ _ _ => by exact (pe_callR G_law_fact (hr.mono (by decide)) rfl T.g_law_fact T.k_law_fact pass0 (pa_cons (pv 2) (pa_cons (pv 3) pa_nil))))))
      (pss_cons (ps_par (i := 8) (j := 9) (by rfl) sc_law.nd rfl rfl (by decide) rfl rfl (pa_cons (pe_callB (reprZK K hg hr.units) (by rfl) T.b_repr (by decide +kernel) (pa_cons (pv 7) pa_nil)) (pa_cons (pe_lc (own := [("_law_index", 10), ("_law_steps_here", 6)])  rfl sc_law.nd (pi_enum (by rfl) T.b_enumerate (pa_cons (pv 3) pa_nil)) (blkOk_by (N := N_law) (sc := defScope s_law) (by decide +kernel)) (fun _ _ _ _ _ => by exact (tupK K (n := 2) (by rfl) (pgs_cons (pg_name (i := 10) sc_law.nd rfl (Or.inl rfl)) (pgs_cons (pg_name (i := 6) sc_law.nd rfl (Or.inl rfl)) pgs_nil)))) (fun _ _ _ _ _ => by exact pts_one (pt_val (pe_callR G_law_agrees (hr.mono (by decide)) rfl T.g_law_agrees T.k_law_agrees pass0 (pa_cons (pv 6) (pa_cons (pv 7) pa_nil))))) (fun _ _ _ _ _ => by exact (pv 10))) pa_nil)) (by rfl))
      (pss_cons (ps_for PassesOwn.never rfl (pi_rng1 (by rfl) T.b_range (pa_cons pe_int pa_nil)) (pg_name (i := 4) sc_law.nd rfl (Or.inl rfl))
        (pss_cons (ps_set (i := 11) sc_law.nd rfl (Or.inl rfl) (pe_callR G_agreeing (hr.mono (by decide)) rfl T.g_agreeing T.k_agreeing pass0 (pa_cons (pv 5) (pa_cons (pv 7) pa_nil))))
      (pss_cons (ps_if (PW.pt (pw_or (pt_cmpR op_ne (pe_callB (reprZK K hg hr.units) (by rfl) T.b_repr (by decide +kernel) (pa_cons (pv 11) pa_nil)) (pe_callB (reprZK K hg hr.units) (by rfl) T.b_repr (by decide +kernel) (pa_cons (pv 9) pa_nil)) (nomark _)) (pw_or (pt_cmpR (neDK K hr.units) (pe_callR G_agreeing (hr.mono (by decide)) rfl T.g_agreeing T.k_agreeing pass0 (pa_cons (pe_callTy (tupleK K) (by rfl) T.b_tuple (by decide +kernel) (pa_cons (pv 5) pa_nil)) (pa_cons (pe_callTy (tupleK K) (by rfl) T.b_tuple (by decide +kernel) (pa_cons (pv 7) pa_nil)) pa_nil))) (pv 9) (nomark _)) (pw_or1 (pt_cmpR op_ne (pe_callB (reprZK K hg hr.units) (by rfl) T.b_repr (by decide +kernel) (pa_cons (pv 7) pa_nil)) (pv 8) (nomark _)))))) (pss_one (ps_ret pe_bl)) pss_nil)
      (pss_one (ps_expr (bmK K (pe_bm PySem.F.plainAttrs_list PySem.F.slot_list_append PySem.F.type_list_append mt_append (pv 11) (pa_cons pe_non pa_nil))))))))
      (pss_cons (ps_set (i := 12) sc_law.nd rfl (Or.inl rfl) (pe_lst (pa_cons pe_non (pa_cons pe_int (pa_cons pe_str (pa_cons pe_dnewK (pa_cons (pe_lst (pa_cons pe_non pa_nil)) (pa_cons (pe_lst (pa_cons (pe_tup (pa_cons (pe_lst pa_nil) (pa_cons (pe_lst pa_nil) (pa_cons (pe_lst pa_nil) pa_nil)))) pa_nil)) (pa_cons (pe_lst (pa_cons (pe_lst (pa_cons (pe_lst pa_nil) (pa_cons (pe_lst pa_nil) pa_nil))) pa_nil)) (pa_cons (pe_lst (pa_cons (pe_tup (pa_cons (pe_lst (pa_cons pe_int pa_nil)) (pa_cons (pe_lst (pa_cons pe_bl pa_nil)) pa_nil))) pa_nil)) (pa_cons (pe_lst (pa_cons (pe_tup (pa_cons (pe_lst (pa_cons pe_int pa_nil)) (pa_cons pe_str pa_nil))) pa_nil)) (pa_cons (pe_lst (pa_cons (pe_tup (pa_cons pe_non (pa_cons (pe_lst pa_nil) pa_nil))) pa_nil)) pa_nil))))))))))))
      (pss_one (ps_for PassesOwn.never rfl (pi_list (pe_op op_cat (pv 12) (pe_lst (pa_cons (pe_op op_cat (pv 7) (pe_lst (pa_cons (pe_tup (pa_cons (pe_lst (pa_cons pe_int pa_nil)) pa_nil)) pa_nil))) (pa_cons (pe_op op_cat (pv 7) (pe_lst (pa_cons (pe_tup (pa_cons (pe_lst (pa_cons pe_str pa_nil)) (pa_cons pe_non pa_nil))) pa_nil))) (pa_cons (pe_tup (pa_cons (pe_lst pa_nil) (pa_cons (pe_lst pa_nil) pa_nil))) (pa_cons (pe_lst (pa_cons (pe_tup (pa_cons (pe_lst (pa_cons pe_int pa_nil)) (pa_cons pe_int pa_nil))) pa_nil)) (pa_cons (pe_lst (pa_cons (pe_tup (pa_cons pe_dnewK (pa_cons pe_non pa_nil))) pa_nil)) pa_nil)))))))) (pg_name (i := 13) sc_law.nd rfl (Or.inl rfl))
        (pss_one (ps_if (pt_cmpR (neDK K hr.units) (pe_callG G_law_error hg (hr.mono (by decide)) rfl T.g_law_error T.k_law_error pass0 (pa_cons (pv 13) pa_nil)) (pe_tup (pa_cons (pe_callB (reprZK K hg hr.units) (by rfl) T.b_repr (by decide +kernel) (pa_cons (pv 13) pa_nil)) (pa_cons pe_bl pa_nil))) (nomark _)) (pss_one (ps_ret pe_bl)) pss_nil))))))))))))
      (pss_cons (ps_asg (pe_tup (pa_cons (pe_lst (pa_cons (StX.pe_makeR T.M_Sequence G_Sequence_init (hr.mono (by decide)) rfl T.g_Sequence pass0 (pa_cons (pe_tup (pa_cons pe_str (pa_cons pe_int pa_nil))) pa_nil)) (pa_cons (StX.pe_makeR T.M_Sequence G_Sequence_init (hr.mono (by decide)) rfl T.g_Sequence pass0 (pa_cons (pe_tup (pa_cons pe_str (pa_cons (pe_op op_pow pe_int pe_int) pa_nil))) pa_nil)) pa_nil))) (pa_cons (pe_op op_pow pe_int pe_int) pa_nil))) (tupK K (n := 2) (by rfl) (pgs_cons (pg_name (i := 3) sc_law.nd rfl (Or.inr rfl)) (pgs_cons (pg_name (i := 14) sc_law.nd rfl (Or.inl rfl)) pgs_nil))))
      (pss_cons (ps_if (PW.pt (pw_or (pt_cmpR (neDK K hr.units) (pe_callR G_agreeing (hr.mono (by decide)) rfl T.g_agreeing T.k_agreeing pass0 (pa_cons (pv 3) (pa_cons (pe_lst (pa_cons (pe_tup (pa_cons (pe_lst (pa_cons pe_int pa_nil)) (pa_cons (pe_lst pa_nil) pa_nil))) (pa_cons (pe_tup (pa_cons (pe_lst pa_nil) (pa_cons pe_non pa_nil))) pa_nil))) pa_nil))) (pe_lst (pa_cons pe_int pa_nil)) (nomark _)) (pw_or1 (pt_cmpR (neDK K hr.units) (pe_callR G_agreeing (hr.mono (by decide)) rfl T.g_agreeing T.k_agreeing pass0 (pa_cons (pv 3) (pa_cons (pe_lst (pa_cons (pe_tup (pa_cons (pe_lst (pa_cons (pe_op op_sub (pv 14) pe_int) pa_nil)) (pa_cons (pe_lst (pa_cons (pv 14) (pa_cons (pe_op op_sub (pv 14) pe_int) pa_nil))) pa_nil))) pa_nil)) pa_nil))) (pe_lst (pa_cons pe_int pa_nil)) (nomark _))))) (pss_one (ps_ret pe_bl)) pss_nil)
      (pss_cons (ps_if (pt_cmpR (neDK K hr.units) (pe_callR G_agreeing (hr.mono (by decide)) rfl T.g_agreeing T.k_agreeing pass0 (pa_cons (pv 3) (pa_cons (pe_lst (pa_cons (pe_tup (pa_cons (pe_lst (pa_cons (pe_op op_sub (pv 14) pe_int) pa_nil)) (pa_cons (pe_lst (pa_cons (pe_op op_sub (pv 14) pe_int) (pa_cons (pe_op op_add (pv 14) pe_int) pa_nil))) pa_nil))) pa_nil)) pa_nil))) (pe_lst pa_nil) (nomark _)) (pss_one (ps_ret pe_bl)) pss_nil)
      (pss_one (ps_ret (pe_cmpR (eqDK K hr.units) (pe_callR G_agreeing (hr.mono (by decide)) rfl T.g_agreeing T.k_agreeing pass0 (pa_cons (pe_lst pa_nil) (pa_cons (pe_lst (pa_cons (pe_tup (pa_cons (pe_lst (pa_cons pe_int pa_nil)) (pa_cons (pe_lst (pa_cons pe_int pa_nil)) pa_nil))) pa_nil)) pa_nil))) (pe_lst pa_nil) (nomark _))))))))), ?_⟩
    refine ⟨_, rfl, sc, _, rfl, .inl hS, 8, _, rfl, 1, _, rfl, _, rfl, ?_⟩
    refine for_range (lo := 0) (fun i σ H' => ∃ o1 o2 o3 o4 o5 o7 o8 o9 o11 o12 o13 o14, σ = [some (.ref sc), o1, o2, o3, o4, o5, none, o7, o8, o9, none, o11, o12, o13, o14] ∧ Same H H') ⟨_, _, _, _, _, _, _, _, _, _, _, _, rfl, Same.refl _⟩ ?_ ?_
    · rintro i σ H2 hi ⟨o1, o2, o3, o4, o5, o7, o8, o9, o11, o12, o13, o14, rfl, s2⟩
      have hi2 : i ≤ 1000 := by
        rw [List.length_map] at hi
        have : (if (if (ns.length : Int) < 8 then (ns.length : Int) else 8) > 1 then (if (ns.length : Int) < 8 then (ns.length : Int) else 8) else 1) ≤ 63 := by split <;> (try split) <;> omega
        omega
      refine ⟨_, rfl, _, rfl, sc, ns, (0 : Int) + i, rfl, s2.seq hS, by omega, by omega, fun p H3 s3 n3 hp => ?_⟩
      refine ⟨_, rfl, p, 7, rfl, hp, by decide, by decide, fun u H4 u0 u7 b4 hp4 => ⟨_, rfl, fun m hm => ?_⟩⟩
      have nm := pool_ne hp4 hm
      refine lcE (InvM K p m H4) ⟨[], rfl, upd_same, pool_but hp4 hm rfl, but_same (same_new hm), .nil⟩ (Nat.le_trans (show u.toNat ≤ 100000 by omega) line_ge) (fun i' H' acc ⟨_, e, _⟩ => e) ?_ ?_
      · rintro i' H' acc Rk hi' hI kk
        obtain ⟨Ss, ha, hDD, hpp, bb, hs⟩ := id hI
        refine ⟨rfl, _, rfl, p, 5, 4, rfl, hpp, by decide, by decide, by decide, by decide, fun l xs S H8 b8 hp8 nl hl hst lq hz => ?_⟩
        refine kk _ H8 (b8 _ _ nm hDD) (invM_step hm nm hI b8 hp8 ⟨l, xs, rfl, hl, hst, lq, by omega⟩ fun z => ?_)
        rw [V.ref.inj z, hDD] at nl
        cases nl
      rintro H5 ms ⟨Ss, lms, hm5, hp5, b45, hms0⟩
      have hms5 : SmAt K H5 ms Ss := L2.Paired.mapP hms0 fun _ _ z => z.1
      have lms2 : ms.length ≤ 6 := by omega
      clear hms0
      refine ⟨_, rfl, m, rfl, ⟨_, SqL.of hm5⟩, fun sq hsq => ?_⟩
      refine lcEL (K := K) (a := m) (xs := ms) (fun j H' acc => acc.length = j ∧ H' sq = some (.lst acc) ∧ Same H5 H' ∧ SsAt K a.Sequence H' acc (Ss.take j)) ⟨rfl, upd_same, same_new hsq, .nil⟩ (Nat.le_trans (show ms.length ≤ 100000 by omega) line_ge) (fun j H' acc ⟨e, _, s, _⟩ => ⟨s.seq (SqL.of hm5), e⟩) ?_ ?_
      · rintro j v H' acc Rk hv ⟨ha, hsq', s, hs⟩ kk
        obtain ⟨S, hSs, l, xs, rfl, hl, hst, lq, hz⟩ := pd_get hms5 hv
        refine ⟨rfl, _, rfl, l, xs, S, rfl, s.seq (SqL.of hl), sts_same hst s, lq.good, by omega, fun r H8 s8 n8 hr8 => ?_⟩
        have hsq8 := s8 _ _ hsq'
        refine kk _ H8 hsq8 ⟨by rw [List.length_append, ha]; rfl, upd_same, same_upd (s.trans s8) hsq, ?_⟩
        rw [List.take_add_one, hSs]
        exact pd_append (ss_lst hsq8 (ss_same hs s8)) (.cons ⟨r, rfl, sqc_lst hsq8 hr8, by omega⟩ .nil)
      rintro H6 ts ⟨lts, hsq6, s56, hts⟩
      rw [hms5.length, List.take_length] at hts
      have hp6 := pool_same hp5 s56
      refine ⟨_, rfl, p, 6, rfl, hp6, by decide, by decide, fun u7 H7 v0 v6 b7 hp7 => ⟨_, rfl, fun fl hfl => ?_⟩⟩
      have nsq := pool_ne hp5 hsq
      have nfl := pool_ne hp7 hfl
      have b57 := (but_same (p := p) s56).trans b7
      have nmf : fl ≠ m := fun z => by
        have := b57 _ _ nm hm5
        rw [← z, hfl] at this
        cases this
      refine lcE (InvF K p fl H7) ⟨[], rfl, upd_same, pool_but hp7 hfl rfl, but_same (same_new hfl), .nil⟩ (Nat.le_trans (show u7.toNat ≤ 100000 by omega) line_ge) (fun i' H' acc ⟨_, e, _⟩ => e) ?_ ?_
      · rintro i' H' acc Rk hi' hI kk
        obtain ⟨F, ha, hDD, hpp, bb, hs⟩ := id hI
        have b5' := b57.trans bb
        refine ⟨rfl, _, rfl, _, rfl, p, m, ms, Ss, rfl, hpp, nm, SqL.of (b5' _ _ nm hm5), sm_but hms5 hp5 b5', by omega, fun t f H8 b8 hp8 nt hf => ?_⟩
        exact kk _ H8 (b8 _ _ nfl hDD) (invF_step hfl hp7 nfl hI b8 hp8 hf)
      rintro H8 fs ⟨F, lfs, hfl8, hp8, b78, hF⟩
      have lfs2 : fs.length ≤ 5 := by omega
      have b58 := b57.trans b78
      have b68 := b7.trans b78
      have hm8 := b58 _ _ nm hm5
      have hms8 := sm_but hms5 hp5 b58
      have hsq8 := b68 _ _ nsq hsq6
      have hts8 := ss_but hts hp6 b68
      obtain ⟨ds, hds, d1, d2, d3, d4⟩ := fcs_dz hF
      have szA : SzA ds := ⟨d1, by omega, by omega, d4⟩
      have szF := szA.lst
      have hfs : ∀ {H'}, Same H8 H' → Dz K H' (.ref fl) (.list ds) := fun s => .lst (SqL.of (s _ _ hfl8)) (dzAll_same s _ _ hds)
      have hFc : Paired (FcAt K H8) fs F := L2.Paired.mapP hF fun _ _ z => z.fc
      have lF := hF.length
      have b28 : Same H2 H8 := but_to s3 n3 (b4.trans (b45.trans b58))
      clear hF hms5 hts
      refine ⟨_, rfl, _, _, rfl, hfs (Same.refl _), szF.pl, szF.dp, szF.sz, ?_⟩
      refine ⟨_, rfl, m, ms, rfl, SqL.of hm8, fun du hdu => lcG (stat_enumL (SqL.of hm8)) hdu (fun j => if agr (Ss.getD j []) F = true then some (V.int (j : Int)) else Option.none) (Nat.le_trans (show ms.length ≤ 100000 by omega) line_ge) ?_ ?_⟩
      · intro j x H' R hj s px kk
        obtain ⟨T', y, rfl, hT', hy⟩ := px
        obtain ⟨S, hSs, l, xs, rfl, hl, hst, lq, hz⟩ := pd_get hms8 hy
        have e0 : Ss.getD j [] = S := by simp [List.getD, hSs]
        rw [e0] at kk
        refine ⟨T', [V.int (j : Int), V.ref l], rfl, SqT.of hT', rfl, _, [V.ref l], rfl, V.ref l, [], rfl, rfl, rfl, ?_⟩
        refine ⟨_, rfl, _, rfl, l, fl, xs, fs, S, F, rfl, s.seq (SqL.of hl), sts_same hst s, lq.good, by omega, SqL.of (s _ _ hfl8), L2.Paired.mapP hFc fun _ _ h => h.same s, fun H3 s3 => ⟨_, rfl, ?_⟩⟩
        have := kk H3 s3
        refine ite2 (fun h1 => ?_) (fun h1 => ?_)
        · rw [if_pos h1] at this
          exact ⟨_, rfl, this⟩
        · rw [if_neg h1] at this
          exact this
      intro H9 s89 hdu9
      rw [outs_filt (fun j => agr (Ss.getD j []) F) (fun j => (j : Int)) ms.length, hms8.length] at hdu9
      have hdu9 : H9 du = some (.lst ((idx Ss F).map V.int)) := hdu9
      have lix : ∀ {x}, x ∈ idx Ss F → x.natAbs < 2 ^ 1920 := fun {x} hx => by
        unfold idx at hx
        obtain ⟨j, hj, rfl⟩ := List.mem_map.mp hx
        have h1 := List.mem_range.mp (List.mem_filter.mp hj).1
        have h2 := hms8.length
        exact Nat.lt_of_lt_of_le (show ((j : Int)).natAbs < 2 ^ 6 by omega) (Nat.pow_le_pow_right (by decide) (by decide))
      have lil : (idx Ss F).length ≤ 6 := by
        unfold idx
        rw [List.length_map]
        have h1 := List.length_filter_le (fun j => agr (Ss.getD j []) F) (List.range Ss.length)
        rw [List.length_range] at h1
        have h2 := hms8.length
        omega
      have szD : Sz (.list ((idx Ss F).map PyData.int)) := SzA.lst ⟨plainAll_ints fun x hx => lix hx, by rw [depth_ints]; omega, by rw [scAll_ints]; omega, txAll_ints _⟩
      clear lix
      refine ⟨_, _, rfl, ?_⟩
      try dsimp only [tNext]
      show tSeq _ _ _ _ _
      refine seq_cut2 (fun σ' H' => ∃ o4 o11, σ' = [some (.ref sc), some (.int (0 + (i : Int))), some (.ref p), some (.ref m), o4, some (.ref sq), none, some (.ref fl), some (.str (PyData.list ds).shown), some (.ref du), none, o11, o12, o13, o14] ∧ Same H9 H') (fun N cont => ?_) (fun σ HA hA => ?_)
      · refine ⟨2, rfl, ?_⟩
        refine for_range (lo := 0) (n := 2) (fun j σ H' => ∃ o4 o11, σ = [some (.ref sc), some (.int (0 + (i : Int))), some (.ref p), some (.ref m), o4, some (.ref sq), none, some (.ref fl), some (.str (PyData.list ds).shown), some (.ref du), none, o11, o12, o13, o14] ∧ Same H9 H') ⟨_, _, rfl, Same.refl _⟩ ?_ ?_
        · rintro j σ Ha hj ⟨o4, o11, rfl, sa⟩
          have s8a := s89.trans sa
          refine ⟨_, rfl, _, rfl, sq, fl, ts, fs, Ss, F, rfl, .inl (SqL.of (s8a _ _ hsq8)), ss_same hts8 s8a, by omega, .inl (SqL.of (s8a _ _ hfl8)), L2.Paired.mapP hFc fun _ _ h => h.same s8a, by omega, fun r Hb sb nr hr => ?_⟩
          have s8b := s8a.trans sb
          have dz1 : Dz K Hb (.ref r) (.list ((idx Ss F).map PyData.int)) := dz_of _ _ (dp_lst (SqL.of hr))
          have dz2 : Dz K Hb (.ref du) (.list ((idx Ss F).map PyData.int)) := dz_of _ _ (dp_lst (SqL.of ((sa.trans sb) _ _ hdu9)))
          refine ⟨_, rfl, _, _, rfl, dz1, szD.pl, szD.dp, szD.sz, _, rfl, _, _, rfl, dz2, szD.pl, szD.dp, szD.sz, rfl, _, rfl, iteN (by simp) ?_⟩
          refine ⟨_, rfl, sq, _, rfl, .inl ⟨SqL.of (s8b _ _ hsq8), fun t1 ht1 => ?_⟩⟩
          have u1 := same_new (o := .tup ts) ht1
          have g1 := upd_same (H := Hb) (a := t1) (o := .tup ts)
          generalize upd Hb t1 (.tup ts) = Hc at u1 g1 ⊢
          refine ⟨_, rfl, fl, _, rfl, .inl ⟨SqL.of ((s8b.trans u1) _ _ hfl8), fun t2 ht2 => ?_⟩⟩
          have u2 := same_new (o := .tup fs) ht2
          have g2 := upd_same (H := Hc) (a := t2) (o := .tup fs)
          have g1 := u2 _ _ g1
          generalize upd Hc t2 (.tup fs) = Hd at u2 g1 g2 ⊢
          have s8d := (s8b.trans u1).trans u2
          refine ⟨t1, t2, ts, fs, Ss, F, rfl, .inr (SqT.of g1), ss_same hts8 s8d, by omega, .inr (SqT.of g2), L2.Paired.mapP hFc fun _ _ h => h.same s8d, by omega, fun r2 He se nr2 hr2 => ?_⟩
          have s8e := s8d.trans se
          have s9e : Same H9 He := (((sa.trans sb).trans u1).trans u2).trans se
          refine ⟨_, rfl, _, _, dp_lst (SqL.of hr2), dp_lst (SqL.of (s9e _ _ hdu9)), shaped_lst _, shaped_lst _, _, rfl, iteN (by rw [eqv_lsts]; simp) ?_⟩
          refine ⟨_, rfl, _, _, rfl, hfs s8e, szF.pl, szF.dp, szF.sz, _, rfl, rfl, _, rfl, iteN (by simp) ?_⟩
          have hre := ((u1.trans u2).trans se) _ _ hr
          refine ⟨_, rfl, .inl ⟨rfl, _, SqL.of hre⟩, r, _, _, rfl, rfl, hre, Nat.lt_of_lt_of_le (show ((idx Ss F).map V.int).length < 100000 by rw [List.length_map]; omega) line_ge, ?_⟩
          exact ⟨_, _, rfl, same_upd s9e (sa.free nr)⟩
        · rintro σ Ha ⟨o4, o11, rfl, sa⟩
          exact cont _ _ ⟨_, _, rfl, sa⟩
      obtain ⟨o4, o11, rfl, s9A⟩ := hA
      have s8A := s89.trans s9A
      have hflA := s8A _ _ hfl8
      have hdsA := dzAll_same s8A _ _ hds
      have hFcA : Paired (FcAt K HA) fs F := L2.Paired.mapP hFc fun _ _ h => h.same s8A
      have s2A := b28.trans s8A
      clear hfs hFc hts8 hms8 hds
      refine fun az0 haz0 => ?_
      refine ⟨by show 1 ≤ sizeLine; decide, fun az1 haz1 => ?_⟩
      refine ⟨Nat.zero_le _, fun az2 haz2 => ?_⟩
      refine ⟨Nat.zero_le _, fun az3 haz3 => ?_⟩
      refine ⟨Nat.zero_le _, fun az4 haz4 => ?_⟩
      refine ⟨by show 3 ≤ sizeLine; decide, fun az5 haz5 => ?_⟩
      refine ⟨by show 1 ≤ sizeLine; decide, fun az6 haz6 => ?_⟩
      refine ⟨Nat.zero_le _, fun az7 haz7 => ?_⟩
      refine ⟨Nat.zero_le _, fun az8 haz8 => ?_⟩
      refine ⟨by show 2 ≤ sizeLine; decide, fun az9 haz9 => ?_⟩
      refine ⟨by show 1 ≤ sizeLine; decide, fun az10 haz10 => ?_⟩
      refine ⟨by show 1 ≤ sizeLine; decide, fun az11 haz11 => ?_⟩
      refine ⟨by show 1 ≤ sizeLine; decide, fun az12 haz12 => ?_⟩
      refine ⟨by show 2 ≤ sizeLine; decide, fun az13 haz13 => ?_⟩
      refine ⟨by show 1 ≤ sizeLine; decide, fun az14 haz14 => ?_⟩
      refine ⟨by show 1 ≤ sizeLine; decide, fun az15 haz15 => ?_⟩
      refine ⟨by show 2 ≤ sizeLine; decide, fun az16 haz16 => ?_⟩
      refine ⟨by show 1 ≤ sizeLine; decide, fun az17 haz17 => ?_⟩
      refine ⟨Nat.zero_le _, fun az18 haz18 => ?_⟩
      refine ⟨by show 2 ≤ sizeLine; decide, fun az19 haz19 => ?_⟩
      refine ⟨by show 1 ≤ sizeLine; decide, fun az20 haz20 => ?_⟩
      refine ⟨by show 10 ≤ sizeLine; decide, fun az21 haz21 => ?_⟩
      have ae0 := same_new (o := .dK []) haz0
      have ae1 := same_new (o := .lst [V.non]) haz1
      have ae2 := same_new (o := .lst []) haz2
      have ae3 := same_new (o := .lst []) haz3
      have ae4 := same_new (o := .lst []) haz4
      have ae5 := same_new (o := .tup [V.ref az2, V.ref az3, V.ref az4]) haz5
      have ae6 := same_new (o := .lst [V.ref az5]) haz6
      have ae7 := same_new (o := .lst []) haz7
      have ae8 := same_new (o := .lst []) haz8
      have ae9 := same_new (o := .lst [V.ref az7, V.ref az8]) haz9
      have ae10 := same_new (o := .lst [V.ref az9]) haz10
      have ae11 := same_new (o := .lst [V.int 1]) haz11
      have ae12 := same_new (o := .lst [V.bl true]) haz12
      have ae13 := same_new (o := .tup [V.ref az11, V.ref az12]) haz13
      have ae14 := same_new (o := .lst [V.ref az13]) haz14
      have ae15 := same_new (o := .lst [V.int 1]) haz15
      have ae16 := same_new (o := .tup [V.ref az15, V.str "1"]) haz16
      have ae17 := same_new (o := .lst [V.ref az16]) haz17
      have ae18 := same_new (o := .lst []) haz18
      have ae19 := same_new (o := .tup [V.non, V.ref az18]) haz19
      have ae20 := same_new (o := .lst [V.ref az19]) haz20
      have ae21 := same_new (o := .lst [V.non, V.int 5, V.str "facts", V.ref az0, V.ref az1, V.ref az6, V.ref az10, V.ref az14, V.ref az17, V.ref az20]) haz21
      have af0 := (ae21 _ _ (ae20 _ _ (ae19 _ _ (ae18 _ _ (ae17 _ _ (ae16 _ _ (ae15 _ _ (ae14 _ _ (ae13 _ _ (ae12 _ _ (ae11 _ _ (ae10 _ _ (ae9 _ _ (ae8 _ _ (ae7 _ _ (ae6 _ _ (ae5 _ _ (ae4 _ _ (ae3 _ _ (ae2 _ _ (ae1 _ _ (upd_same (H := HA) (a := az0) (o := .dK [])))))))))))))))))))))))
      have af1 := (ae21 _ _ (ae20 _ _ (ae19 _ _ (ae18 _ _ (ae17 _ _ (ae16 _ _ (ae15 _ _ (ae14 _ _ (ae13 _ _ (ae12 _ _ (ae11 _ _ (ae10 _ _ (ae9 _ _ (ae8 _ _ (ae7 _ _ (ae6 _ _ (ae5 _ _ (ae4 _ _ (ae3 _ _ (ae2 _ _ (upd_same (H := (upd HA az0 (.dK []))) (a := az1) (o := .lst [V.non]))))))))))))))))))))))
      have af2 := (ae21 _ _ (ae20 _ _ (ae19 _ _ (ae18 _ _ (ae17 _ _ (ae16 _ _ (ae15 _ _ (ae14 _ _ (ae13 _ _ (ae12 _ _ (ae11 _ _ (ae10 _ _ (ae9 _ _ (ae8 _ _ (ae7 _ _ (ae6 _ _ (ae5 _ _ (ae4 _ _ (ae3 _ _ (upd_same (H := (upd (upd HA az0 (.dK [])) az1 (.lst [V.non]))) (a := az2) (o := .lst [])))))))))))))))))))))
      have af3 := (ae21 _ _ (ae20 _ _ (ae19 _ _ (ae18 _ _ (ae17 _ _ (ae16 _ _ (ae15 _ _ (ae14 _ _ (ae13 _ _ (ae12 _ _ (ae11 _ _ (ae10 _ _ (ae9 _ _ (ae8 _ _ (ae7 _ _ (ae6 _ _ (ae5 _ _ (ae4 _ _ (upd_same (H := (upd (upd (upd HA az0 (.dK [])) az1 (.lst [V.non])) az2 (.lst []))) (a := az3) (o := .lst []))))))))))))))))))))
      have af4 := (ae21 _ _ (ae20 _ _ (ae19 _ _ (ae18 _ _ (ae17 _ _ (ae16 _ _ (ae15 _ _ (ae14 _ _ (ae13 _ _ (ae12 _ _ (ae11 _ _ (ae10 _ _ (ae9 _ _ (ae8 _ _ (ae7 _ _ (ae6 _ _ (ae5 _ _ (upd_same (H := (upd (upd (upd (upd HA az0 (.dK [])) az1 (.lst [V.non])) az2 (.lst [])) az3 (.lst []))) (a := az4) (o := .lst [])))))))))))))))))))
      have af5 := (ae21 _ _ (ae20 _ _ (ae19 _ _ (ae18 _ _ (ae17 _ _ (ae16 _ _ (ae15 _ _ (ae14 _ _ (ae13 _ _ (ae12 _ _ (ae11 _ _ (ae10 _ _ (ae9 _ _ (ae8 _ _ (ae7 _ _ (ae6 _ _ (upd_same (H := (upd (upd (upd (upd (upd HA az0 (.dK [])) az1 (.lst [V.non])) az2 (.lst [])) az3 (.lst [])) az4 (.lst []))) (a := az5) (o := .tup [V.ref az2, V.ref az3, V.ref az4]))))))))))))))))))
      have af6 := (ae21 _ _ (ae20 _ _ (ae19 _ _ (ae18 _ _ (ae17 _ _ (ae16 _ _ (ae15 _ _ (ae14 _ _ (ae13 _ _ (ae12 _ _ (ae11 _ _ (ae10 _ _ (ae9 _ _ (ae8 _ _ (ae7 _ _ (upd_same (H := (upd (upd (upd (upd (upd (upd HA az0 (.dK [])) az1 (.lst [V.non])) az2 (.lst [])) az3 (.lst [])) az4 (.lst [])) az5 (.tup [V.ref az2, V.ref az3, V.ref az4]))) (a := az6) (o := .lst [V.ref az5])))))))))))))))))
      have af7 := (ae21 _ _ (ae20 _ _ (ae19 _ _ (ae18 _ _ (ae17 _ _ (ae16 _ _ (ae15 _ _ (ae14 _ _ (ae13 _ _ (ae12 _ _ (ae11 _ _ (ae10 _ _ (ae9 _ _ (ae8 _ _ (upd_same (H := (upd (upd (upd (upd (upd (upd (upd HA az0 (.dK [])) az1 (.lst [V.non])) az2 (.lst [])) az3 (.lst [])) az4 (.lst [])) az5 (.tup [V.ref az2, V.ref az3, V.ref az4])) az6 (.lst [V.ref az5]))) (a := az7) (o := .lst []))))))))))))))))
      have af8 := (ae21 _ _ (ae20 _ _ (ae19 _ _ (ae18 _ _ (ae17 _ _ (ae16 _ _ (ae15 _ _ (ae14 _ _ (ae13 _ _ (ae12 _ _ (ae11 _ _ (ae10 _ _ (ae9 _ _ (upd_same (H := (upd (upd (upd (upd (upd (upd (upd (upd HA az0 (.dK [])) az1 (.lst [V.non])) az2 (.lst [])) az3 (.lst [])) az4 (.lst [])) az5 (.tup [V.ref az2, V.ref az3, V.ref az4])) az6 (.lst [V.ref az5])) az7 (.lst []))) (a := az8) (o := .lst [])))))))))))))))
      have af9 := (ae21 _ _ (ae20 _ _ (ae19 _ _ (ae18 _ _ (ae17 _ _ (ae16 _ _ (ae15 _ _ (ae14 _ _ (ae13 _ _ (ae12 _ _ (ae11 _ _ (ae10 _ _ (upd_same (H := (upd (upd (upd (upd (upd (upd (upd (upd (upd HA az0 (.dK [])) az1 (.lst [V.non])) az2 (.lst [])) az3 (.lst [])) az4 (.lst [])) az5 (.tup [V.ref az2, V.ref az3, V.ref az4])) az6 (.lst [V.ref az5])) az7 (.lst [])) az8 (.lst []))) (a := az9) (o := .lst [V.ref az7, V.ref az8]))))))))))))))
      have af10 := (ae21 _ _ (ae20 _ _ (ae19 _ _ (ae18 _ _ (ae17 _ _ (ae16 _ _ (ae15 _ _ (ae14 _ _ (ae13 _ _ (ae12 _ _ (ae11 _ _ (upd_same (H := (upd (upd (upd (upd (upd (upd (upd (upd (upd (upd HA az0 (.dK [])) az1 (.lst [V.non])) az2 (.lst [])) az3 (.lst [])) az4 (.lst [])) az5 (.tup [V.ref az2, V.ref az3, V.ref az4])) az6 (.lst [V.ref az5])) az7 (.lst [])) az8 (.lst [])) az9 (.lst [V.ref az7, V.ref az8]))) (a := az10) (o := .lst [V.ref az9])))))))))))))
      have af11 := (ae21 _ _ (ae20 _ _ (ae19 _ _ (ae18 _ _ (ae17 _ _ (ae16 _ _ (ae15 _ _ (ae14 _ _ (ae13 _ _ (ae12 _ _ (upd_same (H := (upd (upd (upd (upd (upd (upd (upd (upd (upd (upd (upd HA az0 (.dK [])) az1 (.lst [V.non])) az2 (.lst [])) az3 (.lst [])) az4 (.lst [])) az5 (.tup [V.ref az2, V.ref az3, V.ref az4])) az6 (.lst [V.ref az5])) az7 (.lst [])) az8 (.lst [])) az9 (.lst [V.ref az7, V.ref az8])) az10 (.lst [V.ref az9]))) (a := az11) (o := .lst [V.int 1]))))))))))))
      have af12 := (ae21 _ _ (ae20 _ _ (ae19 _ _ (ae18 _ _ (ae17 _ _ (ae16 _ _ (ae15 _ _ (ae14 _ _ (ae13 _ _ (upd_same (H := (upd (upd (upd (upd (upd (upd (upd (upd (upd (upd (upd (upd HA az0 (.dK [])) az1 (.lst [V.non])) az2 (.lst [])) az3 (.lst [])) az4 (.lst [])) az5 (.tup [V.ref az2, V.ref az3, V.ref az4])) az6 (.lst [V.ref az5])) az7 (.lst [])) az8 (.lst [])) az9 (.lst [V.ref az7, V.ref az8])) az10 (.lst [V.ref az9])) az11 (.lst [V.int 1]))) (a := az12) (o := .lst [V.bl true])))))))))))
      have af13 := (ae21 _ _ (ae20 _ _ (ae19 _ _ (ae18 _ _ (ae17 _ _ (ae16 _ _ (ae15 _ _ (ae14 _ _ (upd_same (H := (upd (upd (upd (upd (upd (upd (upd (upd (upd (upd (upd (upd (upd HA az0 (.dK [])) az1 (.lst [V.non])) az2 (.lst [])) az3 (.lst [])) az4 (.lst [])) az5 (.tup [V.ref az2, V.ref az3, V.ref az4])) az6 (.lst [V.ref az5])) az7 (.lst [])) az8 (.lst [])) az9 (.lst [V.ref az7, V.ref az8])) az10 (.lst [V.ref az9])) az11 (.lst [V.int 1])) az12 (.lst [V.bl true]))) (a := az13) (o := .tup [V.ref az11, V.ref az12]))))))))))
      have af14 := (ae21 _ _ (ae20 _ _ (ae19 _ _ (ae18 _ _ (ae17 _ _ (ae16 _ _ (ae15 _ _ (upd_same (H := (upd (upd (upd (upd (upd (upd (upd (upd (upd (upd (upd (upd (upd (upd HA az0 (.dK [])) az1 (.lst [V.non])) az2 (.lst [])) az3 (.lst [])) az4 (.lst [])) az5 (.tup [V.ref az2, V.ref az3, V.ref az4])) az6 (.lst [V.ref az5])) az7 (.lst [])) az8 (.lst [])) az9 (.lst [V.ref az7, V.ref az8])) az10 (.lst [V.ref az9])) az11 (.lst [V.int 1])) az12 (.lst [V.bl true])) az13 (.tup [V.ref az11, V.ref az12]))) (a := az14) (o := .lst [V.ref az13])))))))))
      have af15 := (ae21 _ _ (ae20 _ _ (ae19 _ _ (ae18 _ _ (ae17 _ _ (ae16 _ _ (upd_same (H := (upd (upd (upd (upd (upd (upd (upd (upd (upd (upd (upd (upd (upd (upd (upd HA az0 (.dK [])) az1 (.lst [V.non])) az2 (.lst [])) az3 (.lst [])) az4 (.lst [])) az5 (.tup [V.ref az2, V.ref az3, V.ref az4])) az6 (.lst [V.ref az5])) az7 (.lst [])) az8 (.lst [])) az9 (.lst [V.ref az7, V.ref az8])) az10 (.lst [V.ref az9])) az11 (.lst [V.int 1])) az12 (.lst [V.bl true])) az13 (.tup [V.ref az11, V.ref az12])) az14 (.lst [V.ref az13]))) (a := az15) (o := .lst [V.int 1]))))))))
      have af16 := (ae21 _ _ (ae20 _ _ (ae19 _ _ (ae18 _ _ (ae17 _ _ (upd_same (H := (upd (upd (upd (upd (upd (upd (upd (upd (upd (upd (upd (upd (upd (upd (upd (upd HA az0 (.dK [])) az1 (.lst [V.non])) az2 (.lst [])) az3 (.lst [])) az4 (.lst [])) az5 (.tup [V.ref az2, V.ref az3, V.ref az4])) az6 (.lst [V.ref az5])) az7 (.lst [])) az8 (.lst [])) az9 (.lst [V.ref az7, V.ref az8])) az10 (.lst [V.ref az9])) az11 (.lst [V.int 1])) az12 (.lst [V.bl true])) az13 (.tup [V.ref az11, V.ref az12])) az14 (.lst [V.ref az13])) az15 (.lst [V.int 1]))) (a := az16) (o := .tup [V.ref az15, V.str "1"])))))))
      have af17 := (ae21 _ _ (ae20 _ _ (ae19 _ _ (ae18 _ _ (upd_same (H := (upd (upd (upd (upd (upd (upd (upd (upd (upd (upd (upd (upd (upd (upd (upd (upd (upd HA az0 (.dK [])) az1 (.lst [V.non])) az2 (.lst [])) az3 (.lst [])) az4 (.lst [])) az5 (.tup [V.ref az2, V.ref az3, V.ref az4])) az6 (.lst [V.ref az5])) az7 (.lst [])) az8 (.lst [])) az9 (.lst [V.ref az7, V.ref az8])) az10 (.lst [V.ref az9])) az11 (.lst [V.int 1])) az12 (.lst [V.bl true])) az13 (.tup [V.ref az11, V.ref az12])) az14 (.lst [V.ref az13])) az15 (.lst [V.int 1])) az16 (.tup [V.ref az15, V.str "1"]))) (a := az17) (o := .lst [V.ref az16]))))))
      have af18 := (ae21 _ _ (ae20 _ _ (ae19 _ _ (upd_same (H := (upd (upd (upd (upd (upd (upd (upd (upd (upd (upd (upd (upd (upd (upd (upd (upd (upd (upd HA az0 (.dK [])) az1 (.lst [V.non])) az2 (.lst [])) az3 (.lst [])) az4 (.lst [])) az5 (.tup [V.ref az2, V.ref az3, V.ref az4])) az6 (.lst [V.ref az5])) az7 (.lst [])) az8 (.lst [])) az9 (.lst [V.ref az7, V.ref az8])) az10 (.lst [V.ref az9])) az11 (.lst [V.int 1])) az12 (.lst [V.bl true])) az13 (.tup [V.ref az11, V.ref az12])) az14 (.lst [V.ref az13])) az15 (.lst [V.int 1])) az16 (.tup [V.ref az15, V.str "1"])) az17 (.lst [V.ref az16]))) (a := az18) (o := .lst [])))))
      have af19 := (ae21 _ _ (ae20 _ _ (upd_same (H := (upd (upd (upd (upd (upd (upd (upd (upd (upd (upd (upd (upd (upd (upd (upd (upd (upd (upd (upd HA az0 (.dK [])) az1 (.lst [V.non])) az2 (.lst [])) az3 (.lst [])) az4 (.lst [])) az5 (.tup [V.ref az2, V.ref az3, V.ref az4])) az6 (.lst [V.ref az5])) az7 (.lst [])) az8 (.lst [])) az9 (.lst [V.ref az7, V.ref az8])) az10 (.lst [V.ref az9])) az11 (.lst [V.int 1])) az12 (.lst [V.bl true])) az13 (.tup [V.ref az11, V.ref az12])) az14 (.lst [V.ref az13])) az15 (.lst [V.int 1])) az16 (.tup [V.ref az15, V.str "1"])) az17 (.lst [V.ref az16])) az18 (.lst []))) (a := az19) (o := .tup [V.non, V.ref az18]))))
      have af20 := (ae21 _ _ (upd_same (H := (upd (upd (upd (upd (upd (upd (upd (upd (upd (upd (upd (upd (upd (upd (upd (upd (upd (upd (upd (upd HA az0 (.dK [])) az1 (.lst [V.non])) az2 (.lst [])) az3 (.lst [])) az4 (.lst [])) az5 (.tup [V.ref az2, V.ref az3, V.ref az4])) az6 (.lst [V.ref az5])) az7 (.lst [])) az8 (.lst [])) az9 (.lst [V.ref az7, V.ref az8])) az10 (.lst [V.ref az9])) az11 (.lst [V.int 1])) az12 (.lst [V.bl true])) az13 (.tup [V.ref az11, V.ref az12])) az14 (.lst [V.ref az13])) az15 (.lst [V.int 1])) az16 (.tup [V.ref az15, V.str "1"])) az17 (.lst [V.ref az16])) az18 (.lst [])) az19 (.tup [V.non, V.ref az18]))) (a := az20) (o := .lst [V.ref az19])))
      have af21 := (upd_same (H := (upd (upd (upd (upd (upd (upd (upd (upd (upd (upd (upd (upd (upd (upd (upd (upd (upd (upd (upd (upd (upd HA az0 (.dK [])) az1 (.lst [V.non])) az2 (.lst [])) az3 (.lst [])) az4 (.lst [])) az5 (.tup [V.ref az2, V.ref az3, V.ref az4])) az6 (.lst [V.ref az5])) az7 (.lst [])) az8 (.lst [])) az9 (.lst [V.ref az7, V.ref az8])) az10 (.lst [V.ref az9])) az11 (.lst [V.int 1])) az12 (.lst [V.bl true])) az13 (.tup [V.ref az11, V.ref az12])) az14 (.lst [V.ref az13])) az15 (.lst [V.int 1])) az16 (.tup [V.ref az15, V.str "1"])) az17 (.lst [V.ref az16])) az18 (.lst [])) az19 (.tup [V.non, V.ref az18])) az20 (.lst [V.ref az19]))) (a := az21) (o := .lst [V.non, V.int 5, V.str "facts", V.ref az0, V.ref az1, V.ref az6, V.ref az10, V.ref az14, V.ref az17, V.ref az20]))
      have as := (((((((((((((((((((((ae0.trans ae1).trans ae2).trans ae3).trans ae4).trans ae5).trans ae6).trans ae7).trans ae8).trans ae9).trans ae10).trans ae11).trans ae12).trans ae13).trans ae14).trans ae15).trans ae16).trans ae17).trans ae18).trans ae19).trans ae20).trans ae21)
      generalize upd (upd (upd (upd (upd (upd (upd (upd (upd (upd (upd (upd (upd (upd (upd (upd (upd (upd (upd (upd (upd (upd HA az0 (.dK [])) az1 (.lst [V.non])) az2 (.lst [])) az3 (.lst [])) az4 (.lst [])) az5 (.tup [V.ref az2, V.ref az3, V.ref az4])) az6 (.lst [V.ref az5])) az7 (.lst [])) az8 (.lst [])) az9 (.lst [V.ref az7, V.ref az8])) az10 (.lst [V.ref az9])) az11 (.lst [V.int 1])) az12 (.lst [V.bl true])) az13 (.tup [V.ref az11, V.ref az12])) az14 (.lst [V.ref az13])) az15 (.lst [V.int 1])) az16 (.tup [V.ref az15, V.str "1"])) az17 (.lst [V.ref az16])) az18 (.lst [])) az19 (.tup [V.non, V.ref az18])) az20 (.lst [V.ref az19])) az21 (.lst [V.non, V.int 5, V.str "facts", V.ref az0, V.ref az1, V.ref az6, V.ref az10, V.ref az14, V.ref az17, V.ref az20]) = HB at as af0 af1 af2 af3 af4 af5 af6 af7 af8 af9 af10 af11 af12 af13 af14 af15 af16 af17 af18 af19 af20 af21 ⊢
      clear ae0 ae1 ae2 ae3 ae4 ae5 ae6 ae7 ae8 ae9 ae10 ae11 ae12 ae13 ae14 ae15 ae16 ae17 ae18 ae19 ae20 ae21
      have odds1 : ∀ x ∈ ([V.non, V.int 5, V.str "facts", V.ref az0, V.ref az1, V.ref az6, V.ref az10, V.ref az14, V.ref az17, V.ref az20] : List V), ∃ d, FactsBad K HB x ∧ Odz K HB x d := by
        intro x hx
        simp only [List.mem_cons, List.not_mem_nil, or_false] at hx
        rcases hx with rfl | rfl | rfl | rfl | rfl | rfl | rfl | rfl | rfl | rfl
        · exact ⟨.none, .inr ⟨_, .non, by decide +kernel, by decide, by decide⟩, .non, by decide +kernel, by decide +kernel, by decide +kernel, by decide +kernel⟩
        · exact ⟨.int 5, .inr ⟨_, .int _, by decide +kernel, by decide, by decide⟩, (.int _), by decide +kernel, by decide +kernel, by decide +kernel, by decide +kernel⟩
        · exact ⟨.str "facts", .inr ⟨_, .str _, by decide +kernel, by decide, by decide⟩, (.str _), by decide +kernel, by decide +kernel, by decide +kernel, by decide +kernel⟩
        · exact ⟨.dict [], .inr ⟨_, .dK af0, by decide +kernel, by decide, by decide⟩, (.dk af0), by decide +kernel, by decide +kernel, by decide +kernel, by decide +kernel⟩
        · exact ⟨.list [.none], .inl ⟨az1, [V.non], [false], rfl, .inl (SqL.of af1), (.cons (.inl ⟨_, .non, by decide +kernel, by decide, rfl⟩) .nil), by show 1 ≤ 100000; decide, rfl⟩, (.lst (SqL.of af1) (.cons .non .nil)), by decide +kernel, by decide +kernel, by decide +kernel, by decide +kernel⟩
        · exact ⟨.list [.tuple [.list [], .list [], .list []]], .inl ⟨az6, [V.ref az5], [false], rfl, .inl (SqL.of af6), (.cons (.inr (.inl ⟨az5, [V.ref az2, V.ref az3, V.ref az4], rfl, SqT.of af5, by simp, rfl⟩)) .nil), by show 1 ≤ 100000; decide, rfl⟩, (.lst (SqL.of af6) (.cons (.tup (SqT.of af5) (.cons (.lst (SqL.of af2) .nil) (.cons (.lst (SqL.of af3) .nil) (.cons (.lst (SqL.of af4) .nil) .nil)))) .nil)), by decide +kernel, by decide +kernel, by decide +kernel, by decide +kernel⟩
        · exact ⟨.list [.list [.list [], .list []]], .inl ⟨az10, [V.ref az9], [false], rfl, .inl (SqL.of af10), (.cons (.inl ⟨_, .lst (SqL.of af9), by decide +kernel, by decide, rfl⟩) .nil), by show 1 ≤ 100000; decide, rfl⟩, (.lst (SqL.of af10) (.cons (.lst (SqL.of af9) (.cons (.lst (SqL.of af7) .nil) (.cons (.lst (SqL.of af8) .nil) .nil))) .nil)), by decide +kernel, by decide +kernel, by decide +kernel, by decide +kernel⟩
        · exact ⟨.list [.tuple [.list [.int 1], .list [.bool true]]], .inl ⟨az14, [V.ref az13], [false], rfl, .inl (SqL.of af14), (.cons (.inr (.inr ⟨az13, V.ref az11, V.ref az12, true, rfl, SqT.of af13, (.inl ⟨rfl, [1], ⟨az11, rfl, .inl (SqL.of af11), by decide⟩⟩), .inr ⟨false, by simp, (.inr ⟨rfl, .inl ⟨[V.bl true], ⟨az12, rfl, .inl (SqL.of af12), (fun y hy => by rw [List.mem_singleton.mp hy]; exact ⟨_, .bl _, by decide +kernel⟩), by decide⟩, rfl⟩⟩), rfl⟩⟩)) .nil), by show 1 ≤ 100000; decide, rfl⟩, (.lst (SqL.of af14) (.cons (.tup (SqT.of af13) (.cons (.lst (SqL.of af11) (.cons (.int _) .nil)) (.cons (.lst (SqL.of af12) (.cons (.bl _) .nil)) .nil))) .nil)), by decide +kernel, by decide +kernel, by decide +kernel, by decide +kernel⟩
        · exact ⟨.list [.tuple [.list [.int 1], .str "1"]], .inl ⟨az17, [V.ref az16], [false], rfl, .inl (SqL.of af17), (.cons (.inr (.inr ⟨az16, V.ref az15, V.str "1", true, rfl, SqT.of af16, (.inl ⟨rfl, [1], ⟨az15, rfl, .inl (SqL.of af15), by decide⟩⟩), .inr ⟨false, by simp, (.inr ⟨rfl, .inr ⟨_, .str _, by decide +kernel, by decide, by decide⟩⟩), rfl⟩⟩)) .nil), by show 1 ≤ 100000; decide, rfl⟩, (.lst (SqL.of af17) (.cons (.tup (SqT.of af16) (.cons (.lst (SqL.of af15) (.cons (.int _) .nil)) (.cons (.str _) .nil))) .nil)), by decide +kernel, by decide +kernel, by decide +kernel, by decide +kernel⟩
        · exact ⟨.list [.tuple [.none, .list []]], .inl ⟨az20, [V.ref az19], [false], rfl, .inl (SqL.of af20), (.cons (.inr (.inr ⟨az19, V.non, V.ref az18, false, rfl, SqT.of af19, (.inr ⟨rfl, .inr ⟨_, .non, by decide +kernel, by decide, by decide⟩⟩), .inr ⟨true, by simp, (.inl ⟨rfl, [], ⟨az18, rfl, .inl (SqL.of af18), by decide⟩⟩), rfl⟩⟩)) .nil), by show 1 ≤ 100000; decide, rfl⟩, (.lst (SqL.of af20) (.cons (.tup (SqT.of af19) (.cons .non (.cons (.lst (SqL.of af18) .nil) .nil))) .nil)), by decide +kernel, by decide +kernel, by decide +kernel, by decide +kernel⟩
      have lo1 : ([V.non, V.int 5, V.str "facts", V.ref az0, V.ref az1, V.ref az6, V.ref az10, V.ref az14, V.ref az17, V.ref az20] : List V).length = 10 := rfl
      generalize ([V.non, V.int 5, V.str "facts", V.ref az0, V.ref az1, V.ref az6, V.ref az10, V.ref az14, V.ref az17, V.ref az20] : List V) = os1 at af21 odds1 lo1 ⊢
      have hflB := as _ _ hflA
      have hdsB := dzAll_same as _ _ hdsA
      have hFcB : Paired (FcAt K HB) fs F := L2.Paired.mapP hFcA fun _ _ h => h.same as
      have s2B := s2A.trans as
      clear hFcA hdsA hflA
      refine ⟨_, rfl, ?_⟩
      refine ⟨_, rfl, ?_⟩
      refine ⟨by show 1 ≤ sizeLine; decide, fun bz0 hbz0 => ?_⟩
      refine ⟨by show 1 ≤ sizeLine; decide, fun bz1 hbz1 => ?_⟩
      refine ⟨by show 1 ≤ sizeLine; decide, fun bz2 hbz2 => ?_⟩
      refine ⟨fl, bz2, _, _, rfl, rfl, (same_new (o := .lst [V.ref bz1]) hbz2 _ _ (same_new (o := .tup [V.ref bz0]) hbz1 _ _ (same_new (o := .lst [V.int 1]) hbz0 _ _ hflB))), (upd_same (H := (upd (upd HB bz0 (.lst [V.int 1])) bz1 (.tup [V.ref bz0]))) (a := bz2) (o := .lst [V.ref bz1])), Nat.le_trans (show fs.length + 1 ≤ 100000 by omega) line_ge, fun bz3 hbz3 => ?_⟩
      refine ⟨_, rfl, ?_⟩
      refine ⟨by show 1 ≤ sizeLine; decide, fun bz4 hbz4 => ?_⟩
      refine ⟨by show 2 ≤ sizeLine; decide, fun bz5 hbz5 => ?_⟩
      refine ⟨by show 1 ≤ sizeLine; decide, fun bz6 hbz6 => ?_⟩
      refine ⟨fl, bz6, _, _, rfl, rfl, (same_new (o := .lst [V.ref bz5]) hbz6 _ _ (same_new (o := .tup [V.ref bz4, V.non]) hbz5 _ _ (same_new (o := .lst [V.str "1"]) hbz4 _ _ (same_new (o := .lst (fs ++ [V.ref bz1])) hbz3 _ _ (same_new (o := .lst [V.ref bz1]) hbz2 _ _ (same_new (o := .tup [V.ref bz0]) hbz1 _ _ (same_new (o := .lst [V.int 1]) hbz0 _ _ hflB))))))), (upd_same (H := (upd (upd (upd (upd (upd (upd HB bz0 (.lst [V.int 1])) bz1 (.tup [V.ref bz0])) bz2 (.lst [V.ref bz1])) bz3 (.lst (fs ++ [V.ref bz1]))) bz4 (.lst [V.str "1"])) bz5 (.tup [V.ref bz4, V.non]))) (a := bz6) (o := .lst [V.ref bz5])), Nat.le_trans (show fs.length + 1 ≤ 100000 by omega) line_ge, fun bz7 hbz7 => ?_⟩
      refine ⟨Nat.zero_le _, fun bz8 hbz8 => ?_⟩
      refine ⟨Nat.zero_le _, fun bz9 hbz9 => ?_⟩
      refine ⟨by show 2 ≤ sizeLine; decide, fun bz10 hbz10 => ?_⟩
      refine ⟨by show 1 ≤ sizeLine; decide, fun bz11 hbz11 => ?_⟩
      refine ⟨by show 2 ≤ sizeLine; decide, fun bz12 hbz12 => ?_⟩
      refine ⟨by show 1 ≤ sizeLine; decide, fun bz13 hbz13 => ?_⟩
      refine fun bz14 hbz14 => ?_
      refine ⟨by show 2 ≤ sizeLine; decide, fun bz15 hbz15 => ?_⟩
      refine ⟨by show 1 ≤ sizeLine; decide, fun bz16 hbz16 => ?_⟩
      refine ⟨by show 5 ≤ sizeLine; decide, fun bzl hbzl => ?_⟩
      have be0 := same_new (o := .lst [V.int 1]) hbz0
      have be1 := same_new (o := .tup [V.ref bz0]) hbz1
      have be2 := same_new (o := .lst [V.ref bz1]) hbz2
      have be3 := same_new (o := .lst (fs ++ [V.ref bz1])) hbz3
      have be4 := same_new (o := .lst [V.str "1"]) hbz4
      have be5 := same_new (o := .tup [V.ref bz4, V.non]) hbz5
      have be6 := same_new (o := .lst [V.ref bz5]) hbz6
      have be7 := same_new (o := .lst (fs ++ [V.ref bz5])) hbz7
      have be8 := same_new (o := .lst []) hbz8
      have be9 := same_new (o := .lst []) hbz9
      have be10 := same_new (o := .tup [V.ref bz8, V.ref bz9]) hbz10
      have be11 := same_new (o := .lst [V.int 1]) hbz11
      have be12 := same_new (o := .tup [V.ref bz11, V.int 5]) hbz12
      have be13 := same_new (o := .lst [V.ref bz12]) hbz13
      have be14 := same_new (o := .dK []) hbz14
      have be15 := same_new (o := .tup [V.ref bz14, V.non]) hbz15
      have be16 := same_new (o := .lst [V.ref bz15]) hbz16
      have be17 := same_new (o := .lst [V.ref bz3, V.ref bz7, V.ref bz10, V.ref bz13, V.ref bz16]) hbzl
      have bf0 := (be17 _ _ (be16 _ _ (be15 _ _ (be14 _ _ (be13 _ _ (be12 _ _ (be11 _ _ (be10 _ _ (be9 _ _ (be8 _ _ (be7 _ _ (be6 _ _ (be5 _ _ (be4 _ _ (be3 _ _ (be2 _ _ (be1 _ _ (upd_same (H := HB) (a := bz0) (o := .lst [V.int 1])))))))))))))))))))
      have bf1 := (be17 _ _ (be16 _ _ (be15 _ _ (be14 _ _ (be13 _ _ (be12 _ _ (be11 _ _ (be10 _ _ (be9 _ _ (be8 _ _ (be7 _ _ (be6 _ _ (be5 _ _ (be4 _ _ (be3 _ _ (be2 _ _ (upd_same (H := (upd HB bz0 (.lst [V.int 1]))) (a := bz1) (o := .tup [V.ref bz0]))))))))))))))))))
      have bf2 := (be17 _ _ (be16 _ _ (be15 _ _ (be14 _ _ (be13 _ _ (be12 _ _ (be11 _ _ (be10 _ _ (be9 _ _ (be8 _ _ (be7 _ _ (be6 _ _ (be5 _ _ (be4 _ _ (be3 _ _ (upd_same (H := (upd (upd HB bz0 (.lst [V.int 1])) bz1 (.tup [V.ref bz0]))) (a := bz2) (o := .lst [V.ref bz1])))))))))))))))))
      have bf3 := (be17 _ _ (be16 _ _ (be15 _ _ (be14 _ _ (be13 _ _ (be12 _ _ (be11 _ _ (be10 _ _ (be9 _ _ (be8 _ _ (be7 _ _ (be6 _ _ (be5 _ _ (be4 _ _ (upd_same (H := (upd (upd (upd HB bz0 (.lst [V.int 1])) bz1 (.tup [V.ref bz0])) bz2 (.lst [V.ref bz1]))) (a := bz3) (o := .lst (fs ++ [V.ref bz1])))))))))))))))))
      have bf4 := (be17 _ _ (be16 _ _ (be15 _ _ (be14 _ _ (be13 _ _ (be12 _ _ (be11 _ _ (be10 _ _ (be9 _ _ (be8 _ _ (be7 _ _ (be6 _ _ (be5 _ _ (upd_same (H := (upd (upd (upd (upd HB bz0 (.lst [V.int 1])) bz1 (.tup [V.ref bz0])) bz2 (.lst [V.ref bz1])) bz3 (.lst (fs ++ [V.ref bz1])))) (a := bz4) (o := .lst [V.str "1"])))))))))))))))
      have bf5 := (be17 _ _ (be16 _ _ (be15 _ _ (be14 _ _ (be13 _ _ (be12 _ _ (be11 _ _ (be10 _ _ (be9 _ _ (be8 _ _ (be7 _ _ (be6 _ _ (upd_same (H := (upd (upd (upd (upd (upd HB bz0 (.lst [V.int 1])) bz1 (.tup [V.ref bz0])) bz2 (.lst [V.ref bz1])) bz3 (.lst (fs ++ [V.ref bz1]))) bz4 (.lst [V.str "1"]))) (a := bz5) (o := .tup [V.ref bz4, V.non]))))))))))))))
      have bf6 := (be17 _ _ (be16 _ _ (be15 _ _ (be14 _ _ (be13 _ _ (be12 _ _ (be11 _ _ (be10 _ _ (be9 _ _ (be8 _ _ (be7 _ _ (upd_same (H := (upd (upd (upd (upd (upd (upd HB bz0 (.lst [V.int 1])) bz1 (.tup [V.ref bz0])) bz2 (.lst [V.ref bz1])) bz3 (.lst (fs ++ [V.ref bz1]))) bz4 (.lst [V.str "1"])) bz5 (.tup [V.ref bz4, V.non]))) (a := bz6) (o := .lst [V.ref bz5])))))))))))))
      have bf7 := (be17 _ _ (be16 _ _ (be15 _ _ (be14 _ _ (be13 _ _ (be12 _ _ (be11 _ _ (be10 _ _ (be9 _ _ (be8 _ _ (upd_same (H := (upd (upd (upd (upd (upd (upd (upd HB bz0 (.lst [V.int 1])) bz1 (.tup [V.ref bz0])) bz2 (.lst [V.ref bz1])) bz3 (.lst (fs ++ [V.ref bz1]))) bz4 (.lst [V.str "1"])) bz5 (.tup [V.ref bz4, V.non])) bz6 (.lst [V.ref bz5]))) (a := bz7) (o := .lst (fs ++ [V.ref bz5])))))))))))))
      have bf8 := (be17 _ _ (be16 _ _ (be15 _ _ (be14 _ _ (be13 _ _ (be12 _ _ (be11 _ _ (be10 _ _ (be9 _ _ (upd_same (H := (upd (upd (upd (upd (upd (upd (upd (upd HB bz0 (.lst [V.int 1])) bz1 (.tup [V.ref bz0])) bz2 (.lst [V.ref bz1])) bz3 (.lst (fs ++ [V.ref bz1]))) bz4 (.lst [V.str "1"])) bz5 (.tup [V.ref bz4, V.non])) bz6 (.lst [V.ref bz5])) bz7 (.lst (fs ++ [V.ref bz5])))) (a := bz8) (o := .lst [])))))))))))
      have bf9 := (be17 _ _ (be16 _ _ (be15 _ _ (be14 _ _ (be13 _ _ (be12 _ _ (be11 _ _ (be10 _ _ (upd_same (H := (upd (upd (upd (upd (upd (upd (upd (upd (upd HB bz0 (.lst [V.int 1])) bz1 (.tup [V.ref bz0])) bz2 (.lst [V.ref bz1])) bz3 (.lst (fs ++ [V.ref bz1]))) bz4 (.lst [V.str "1"])) bz5 (.tup [V.ref bz4, V.non])) bz6 (.lst [V.ref bz5])) bz7 (.lst (fs ++ [V.ref bz5]))) bz8 (.lst []))) (a := bz9) (o := .lst []))))))))))
      have bf10 := (be17 _ _ (be16 _ _ (be15 _ _ (be14 _ _ (be13 _ _ (be12 _ _ (be11 _ _ (upd_same (H := (upd (upd (upd (upd (upd (upd (upd (upd (upd (upd HB bz0 (.lst [V.int 1])) bz1 (.tup [V.ref bz0])) bz2 (.lst [V.ref bz1])) bz3 (.lst (fs ++ [V.ref bz1]))) bz4 (.lst [V.str "1"])) bz5 (.tup [V.ref bz4, V.non])) bz6 (.lst [V.ref bz5])) bz7 (.lst (fs ++ [V.ref bz5]))) bz8 (.lst [])) bz9 (.lst []))) (a := bz10) (o := .tup [V.ref bz8, V.ref bz9])))))))))
      have bf11 := (be17 _ _ (be16 _ _ (be15 _ _ (be14 _ _ (be13 _ _ (be12 _ _ (upd_same (H := (upd (upd (upd (upd (upd (upd (upd (upd (upd (upd (upd HB bz0 (.lst [V.int 1])) bz1 (.tup [V.ref bz0])) bz2 (.lst [V.ref bz1])) bz3 (.lst (fs ++ [V.ref bz1]))) bz4 (.lst [V.str "1"])) bz5 (.tup [V.ref bz4, V.non])) bz6 (.lst [V.ref bz5])) bz7 (.lst (fs ++ [V.ref bz5]))) bz8 (.lst [])) bz9 (.lst [])) bz10 (.tup [V.ref bz8, V.ref bz9]))) (a := bz11) (o := .lst [V.int 1]))))))))
      have bf12 := (be17 _ _ (be16 _ _ (be15 _ _ (be14 _ _ (be13 _ _ (upd_same (H := (upd (upd (upd (upd (upd (upd (upd (upd (upd (upd (upd (upd HB bz0 (.lst [V.int 1])) bz1 (.tup [V.ref bz0])) bz2 (.lst [V.ref bz1])) bz3 (.lst (fs ++ [V.ref bz1]))) bz4 (.lst [V.str "1"])) bz5 (.tup [V.ref bz4, V.non])) bz6 (.lst [V.ref bz5])) bz7 (.lst (fs ++ [V.ref bz5]))) bz8 (.lst [])) bz9 (.lst [])) bz10 (.tup [V.ref bz8, V.ref bz9])) bz11 (.lst [V.int 1]))) (a := bz12) (o := .tup [V.ref bz11, V.int 5])))))))
      have bf13 := (be17 _ _ (be16 _ _ (be15 _ _ (be14 _ _ (upd_same (H := (upd (upd (upd (upd (upd (upd (upd (upd (upd (upd (upd (upd (upd HB bz0 (.lst [V.int 1])) bz1 (.tup [V.ref bz0])) bz2 (.lst [V.ref bz1])) bz3 (.lst (fs ++ [V.ref bz1]))) bz4 (.lst [V.str "1"])) bz5 (.tup [V.ref bz4, V.non])) bz6 (.lst [V.ref bz5])) bz7 (.lst (fs ++ [V.ref bz5]))) bz8 (.lst [])) bz9 (.lst [])) bz10 (.tup [V.ref bz8, V.ref bz9])) bz11 (.lst [V.int 1])) bz12 (.tup [V.ref bz11, V.int 5]))) (a := bz13) (o := .lst [V.ref bz12]))))))
      have bf14 := (be17 _ _ (be16 _ _ (be15 _ _ (upd_same (H := (upd (upd (upd (upd (upd (upd (upd (upd (upd (upd (upd (upd (upd (upd HB bz0 (.lst [V.int 1])) bz1 (.tup [V.ref bz0])) bz2 (.lst [V.ref bz1])) bz3 (.lst (fs ++ [V.ref bz1]))) bz4 (.lst [V.str "1"])) bz5 (.tup [V.ref bz4, V.non])) bz6 (.lst [V.ref bz5])) bz7 (.lst (fs ++ [V.ref bz5]))) bz8 (.lst [])) bz9 (.lst [])) bz10 (.tup [V.ref bz8, V.ref bz9])) bz11 (.lst [V.int 1])) bz12 (.tup [V.ref bz11, V.int 5])) bz13 (.lst [V.ref bz12]))) (a := bz14) (o := .dK [])))))
      have bf15 := (be17 _ _ (be16 _ _ (upd_same (H := (upd (upd (upd (upd (upd (upd (upd (upd (upd (upd (upd (upd (upd (upd (upd HB bz0 (.lst [V.int 1])) bz1 (.tup [V.ref bz0])) bz2 (.lst [V.ref bz1])) bz3 (.lst (fs ++ [V.ref bz1]))) bz4 (.lst [V.str "1"])) bz5 (.tup [V.ref bz4, V.non])) bz6 (.lst [V.ref bz5])) bz7 (.lst (fs ++ [V.ref bz5]))) bz8 (.lst [])) bz9 (.lst [])) bz10 (.tup [V.ref bz8, V.ref bz9])) bz11 (.lst [V.int 1])) bz12 (.tup [V.ref bz11, V.int 5])) bz13 (.lst [V.ref bz12])) bz14 (.dK []))) (a := bz15) (o := .tup [V.ref bz14, V.non]))))
      have bf16 := (be17 _ _ (upd_same (H := (upd (upd (upd (upd (upd (upd (upd (upd (upd (upd (upd (upd (upd (upd (upd (upd HB bz0 (.lst [V.int 1])) bz1 (.tup [V.ref bz0])) bz2 (.lst [V.ref bz1])) bz3 (.lst (fs ++ [V.ref bz1]))) bz4 (.lst [V.str "1"])) bz5 (.tup [V.ref bz4, V.non])) bz6 (.lst [V.ref bz5])) bz7 (.lst (fs ++ [V.ref bz5]))) bz8 (.lst [])) bz9 (.lst [])) bz10 (.tup [V.ref bz8, V.ref bz9])) bz11 (.lst [V.int 1])) bz12 (.tup [V.ref bz11, V.int 5])) bz13 (.lst [V.ref bz12])) bz14 (.dK [])) bz15 (.tup [V.ref bz14, V.non]))) (a := bz16) (o := .lst [V.ref bz15])))
      have bf17 := (upd_same (H := (upd (upd (upd (upd (upd (upd (upd (upd (upd (upd (upd (upd (upd (upd (upd (upd (upd HB bz0 (.lst [V.int 1])) bz1 (.tup [V.ref bz0])) bz2 (.lst [V.ref bz1])) bz3 (.lst (fs ++ [V.ref bz1]))) bz4 (.lst [V.str "1"])) bz5 (.tup [V.ref bz4, V.non])) bz6 (.lst [V.ref bz5])) bz7 (.lst (fs ++ [V.ref bz5]))) bz8 (.lst [])) bz9 (.lst [])) bz10 (.tup [V.ref bz8, V.ref bz9])) bz11 (.lst [V.int 1])) bz12 (.tup [V.ref bz11, V.int 5])) bz13 (.lst [V.ref bz12])) bz14 (.dK [])) bz15 (.tup [V.ref bz14, V.non])) bz16 (.lst [V.ref bz15]))) (a := bzl) (o := .lst [V.ref bz3, V.ref bz7, V.ref bz10, V.ref bz13, V.ref bz16]))
      have bs := (((((((((((((((((be0.trans be1).trans be2).trans be3).trans be4).trans be5).trans be6).trans be7).trans be8).trans be9).trans be10).trans be11).trans be12).trans be13).trans be14).trans be15).trans be16).trans be17)
      generalize upd (upd (upd (upd (upd (upd (upd (upd (upd (upd (upd (upd (upd (upd (upd (upd (upd (upd HB bz0 (.lst [V.int 1])) bz1 (.tup [V.ref bz0])) bz2 (.lst [V.ref bz1])) bz3 (.lst (fs ++ [V.ref bz1]))) bz4 (.lst [V.str "1"])) bz5 (.tup [V.ref bz4, V.non])) bz6 (.lst [V.ref bz5])) bz7 (.lst (fs ++ [V.ref bz5]))) bz8 (.lst [])) bz9 (.lst [])) bz10 (.tup [V.ref bz8, V.ref bz9])) bz11 (.lst [V.int 1])) bz12 (.tup [V.ref bz11, V.int 5])) bz13 (.lst [V.ref bz12])) bz14 (.dK [])) bz15 (.tup [V.ref bz14, V.non])) bz16 (.lst [V.ref bz15])) bzl (.lst [V.ref bz3, V.ref bz7, V.ref bz10, V.ref bz13, V.ref bz16]) = HC at bs bf0 bf1 bf2 bf3 bf4 bf5 bf6 bf7 bf8 bf9 bf10 bf11 bf12 bf13 bf14 bf15 bf16 bf17 ⊢
      clear be0 be1 be2 be3 be4 be5 be6 be7 be8 be9 be10 be11 be12 be13 be14 be15 be16 be17
      refine ⟨az21, bzl, _, _, rfl, rfl, bs _ _ af21, bf17, Nat.le_trans (show os1.length + 5 ≤ 100000 by omega) line_ge, fun wl hwl => ?_⟩
      have odds2 : ∀ x ∈ ([V.ref bz3, V.ref bz7, V.ref bz10, V.ref bz13, V.ref bz16] : List V), ∃ d, FactsBad K HC x ∧ Odz K HC x d := by
        intro x hx
        simp only [List.mem_cons, List.not_mem_nil, or_false] at hx
        rcases hx with rfl | rfl | rfl | rfl | rfl
        · exact by
            have z1 : DzAll K HC (fs ++ [V.ref bz1]) (ds ++ [.tuple [.list [.int 1]]]) := dzAll_app (dzAll_same bs _ _ hdsB) (.cons (.tup (SqT.of bf1) (.cons (.lst (SqL.of bf0) (.cons (.int _) .nil)) .nil)) .nil)
            have z2 : SzA [.tuple [.list [.int 1]]] := ⟨by decide +kernel, by decide +kernel, by decide +kernel, by decide +kernel⟩
            have z3 : scAll [.tuple [.list [.int 1]]] ≤ 10000 := by decide +kernel
            refine ⟨.list (ds ++ [.tuple [.list [.int 1]]]), .inl ⟨bz3, fs ++ [V.ref bz1], (F.map fun _ => true) ++ [false], rfl, .inl (SqL.of bf3), pd_append (pd_ft (L2.Paired.mapP hFcB fun _ _ h => h.same bs)) (.cons (.inr (.inl ⟨bz1, [V.ref bz0], rfl, SqT.of bf1, by simp, rfl⟩)) .nil), ?_, by simp⟩, .lst (SqL.of bf3) z1, (szA.app z2 (by omega)).lst⟩
            rw [List.length_append]
            show fs.length + 1 ≤ 100000
            omega
        · exact by
            have z1 : DzAll K HC (fs ++ [V.ref bz5]) (ds ++ [.tuple [.list [.str "1"], .none]]) := dzAll_app (dzAll_same bs _ _ hdsB) (.cons (.tup (SqT.of bf5) (.cons (.lst (SqL.of bf4) (.cons (.str _) .nil)) (.cons .non .nil))) .nil)
            have z2 : SzA [.tuple [.list [.str "1"], .none]] := ⟨by decide +kernel, by decide +kernel, by decide +kernel, by decide +kernel⟩
            have z3 : scAll [.tuple [.list [.str "1"], .none]] ≤ 10000 := by decide +kernel
            refine ⟨.list (ds ++ [.tuple [.list [.str "1"], .none]]), .inl ⟨bz7, fs ++ [V.ref bz5], (F.map fun _ => true) ++ [false], rfl, .inl (SqL.of bf7), pd_append (pd_ft (L2.Paired.mapP hFcB fun _ _ h => h.same bs)) (.cons (.inr (.inr ⟨bz5, V.ref bz4, V.non, false, rfl, SqT.of bf5, (.inr ⟨rfl, .inl ⟨[V.str "1"], ⟨bz4, rfl, .inl (SqL.of bf4), (fun y hy => by rw [List.mem_singleton.mp hy]; exact ⟨_, .str _, by decide +kernel⟩), by decide⟩, rfl⟩⟩), .inl ⟨rfl, rfl⟩⟩)) .nil), ?_, by simp⟩, .lst (SqL.of bf7) z1, (szA.app z2 (by omega)).lst⟩
            rw [List.length_append]
            show fs.length + 1 ≤ 100000
            omega
        · exact ⟨.tuple [.list [], .list []], .inl ⟨bz10, [V.ref bz8, V.ref bz9], [false, false], rfl, .inr (SqT.of bf10), (.cons (.inl ⟨_, .lst (SqL.of bf8), by decide +kernel, by decide, rfl⟩) (.cons (.inl ⟨_, .lst (SqL.of bf9), by decide +kernel, by decide, rfl⟩) .nil)), by show 2 ≤ 100000; decide, rfl⟩, (.tup (SqT.of bf10) (.cons (.lst (SqL.of bf8) .nil) (.cons (.lst (SqL.of bf9) .nil) .nil))), by decide +kernel, by decide +kernel, by decide +kernel, by decide +kernel⟩
        · exact ⟨.list [.tuple [.list [.int 1], .int 5]], .inl ⟨bz13, [V.ref bz12], [false], rfl, .inl (SqL.of bf13), (.cons (.inr (.inr ⟨bz12, V.ref bz11, V.int 5, true, rfl, SqT.of bf12, (.inl ⟨rfl, [1], ⟨bz11, rfl, .inl (SqL.of bf11), by decide⟩⟩), .inr ⟨false, by simp, (.inr ⟨rfl, .inr ⟨_, .int _, by decide +kernel, by decide, by decide⟩⟩), rfl⟩⟩)) .nil), by show 1 ≤ 100000; decide, rfl⟩, (.lst (SqL.of bf13) (.cons (.tup (SqT.of bf12) (.cons (.lst (SqL.of bf11) (.cons (.int _) .nil)) (.cons (.int _) .nil))) .nil)), by decide +kernel, by decide +kernel, by decide +kernel, by decide +kernel⟩
        · exact ⟨.list [.tuple [.dict [], .none]], .inl ⟨bz16, [V.ref bz15], [false], rfl, .inl (SqL.of bf16), (.cons (.inr (.inr ⟨bz15, V.ref bz14, V.non, false, rfl, SqT.of bf15, (.inr ⟨rfl, .inr ⟨_, .dK bf14, by decide +kernel, by decide, by decide⟩⟩), .inl ⟨rfl, rfl⟩⟩)) .nil), by show 1 ≤ 100000; decide, rfl⟩, (.lst (SqL.of bf16) (.cons (.tup (SqT.of bf15) (.cons (.dk bf14) (.cons .non .nil))) .nil)), by decide +kernel, by decide +kernel, by decide +kernel, by decide +kernel⟩

      have odds : ∀ x ∈ os1 ++ [V.ref bz3, V.ref bz7, V.ref bz10, V.ref bz13, V.ref bz16], ∃ d, FactsBad K HC x ∧ Odz K HC x d := fun x hx => (List.mem_append.mp hx).elim (fun h => let ⟨d, h1, h2⟩ := odds1 x h; ⟨d, h1.same bs, h2.same bs⟩) (odds2 x)
      have sw := same_new (o := .lst (os1 ++ [V.ref bz3, V.ref bz7, V.ref bz10, V.ref bz13, V.ref bz16])) hwl
      have hw := upd_same (H := HC) (a := wl) (o := .lst (os1 ++ [V.ref bz3, V.ref bz7, V.ref bz10, V.ref bz13, V.ref bz16]))
      generalize os1 ++ [V.ref bz3, V.ref bz7, V.ref bz10, V.ref bz13, V.ref bz16] = os at odds sw hw ⊢
      generalize upd HC wl (.lst os) = HW at sw hw ⊢
      have s2W := (s2B.trans bs).trans sw
      clear odds1 odds2 bf0 bf1 bf2 bf3 bf4 bf5 bf6 bf7 bf8 bf9 bf10 bf11 bf12 bf13 bf14 bf15 bf16 bf17
      refine ⟨wl, rfl, ⟨_, SqL.of hw⟩, for_list (K := K) (a := wl) (xs := os) (fun _ σ H' => ∃ o13, σ = [some (.ref sc), some (.int (0 + (i : Int))), some (.ref p), some (.ref m), o4, some (.ref sq), none, some (.ref fl), some (.str (PyData.list ds).shown), some (.ref du), none, o11, some (.ref az21), o13, o14] ∧ Same HW H') ⟨_, rfl, Same.refl _⟩ (fun _ σ H' _ ⟨_, _, s⟩ => s.seq (SqL.of hw)) ?_ ?_⟩
      · rintro j x σ Hx hx ⟨o13, rfl, sx⟩
        obtain ⟨d, bd0, od0⟩ := odds x (List.mem_of_getElem? hx)
        have od := od0.same (sw.trans sx)
        refine ⟨_, rfl, x, d, rfl, bd0.same (sw.trans sx), od, fun t Hy sy nt ht => ?_⟩
        refine ⟨_, rfl, x, d, rfl, dz_same sy _ _ od.1, od.2.pl, od.2.dp, od.2.sz, by show 2 ≤ sizeLine; decide, fun q2 hq2 => ?_⟩
        have v2 := same_new (o := .tup [V.str d.shown, V.bl true]) hq2
        have shc := sh_err (ok_shown d od.2.tx) true
        refine ⟨_, _, dp_err (K := K) (v2 _ _ ht), dp_err upd_same, shc, shc, _, rfl, iteN (ne_self shc) ?_⟩
        exact ⟨_, rfl, (sx.trans sy).trans v2⟩
      · rintro σ Hx ⟨o13, rfl, sx⟩
        exact ⟨_, _, _, _, _, _, _, _, _, _, _, _, rfl, s2.trans (s2W.trans sx)⟩

    · rintro σ H2 ⟨o1, o2, o3, o4, o5, o7, o8, o9, o11, o12, o13, o14, rfl, s2⟩
      refine ⟨by show 2 ≤ sizeLine; decide, fun t1 h1 => ?_⟩
      have u1 := same_new (o := .tup [V.str "remove", V.int 1]) h1
      have g1 := upd_same (H := H2) (a := t1) (o := .tup [V.str "remove", V.int 1])
      generalize upd H2 t1 (.tup [V.str "remove", V.int 1]) = H3 at u1 g1 ⊢
      refine fun q1 d1 nq1 nd1 ne1 => ?_
      refine sq_mk (xs := [.ref t1]) (L := [(false, 1)]) nq1 nd1 ne1 (.cons (st_of (b := false) g1) .nil) (fun u hu => by rw [List.mem_singleton.mp hu]; rfl) (by show 1 ≤ 100000; decide) fun H4 s4 hq1 => ⟨rfl, ?_⟩
      refine ⟨_, _, rfl, rfl, ⟨by decide, by decide, by decide⟩, by show 2 ≤ sizeLine; decide, fun t2 h2 => ?_⟩
      have u2 := same_new (o := .tup [V.str "insert", V.int ((10 : Int) ^ (60 : Int).toNat)]) h2
      have g2 := upd_same (H := H4) (a := t2) (o := .tup [V.str "insert", V.int ((10 : Int) ^ (60 : Int).toNat)])
      generalize upd H4 t2 (.tup [V.str "insert", V.int ((10 : Int) ^ (60 : Int).toNat)]) = H5 at u2 g2 ⊢
      refine fun q2 d2 nq2 nd2 ne2 => ?_
      refine sq_mk (xs := [.ref t2]) (L := [(true, ((10 : Int) ^ (60 : Int).toNat))]) nq2 nd2 ne2 (.cons (st_of (b := true) g2) .nil) (fun u hu => by rw [List.mem_singleton.mp hu]; rfl) (by show 1 ≤ 100000; decide) fun H6 s6 hq2 => ⟨rfl, ?_⟩
      refine ⟨by show 2 ≤ sizeLine; decide, fun l1 hl1 => ⟨_, _, rfl, rfl, ⟨by decide, by decide, by decide⟩, by show 2 ≤ sizeLine; decide, fun tt htt => ?_⟩⟩
      refine ⟨tt, _, rfl, SqT.of upd_same, rfl, _, [V.int _], rfl, _, [], rfl, rfl, ?_⟩
      have v1 := same_new (o := .lst [V.ref q1, V.ref q2]) hl1
      have v2 := same_new (o := .tup [V.ref l1, V.int ((10 : Int) ^ (60 : Int).toNat)]) htt
      have hl := v2 _ _ (upd_same (H := H6) (a := l1) (o := .lst [V.ref q1, V.ref q2]))
      have v := v1.trans v2
      generalize upd (upd H6 l1 (.lst [V.ref q1, V.ref q2])) tt (.tup [V.ref l1, V.int ((10 : Int) ^ (60 : Int).toNat)]) = H7 at v hl ⊢
      have hsz : SsAt K a.Sequence H7 [.ref q1, .ref q2] [[(false, 1)], [(true, ((10 : Int) ^ (60 : Int).toNat))]] := .cons ⟨q1, rfl, hq1.same ((u2.trans s6).trans v), by show 1 ≤ 1000; decide⟩ (.cons ⟨q2, rfl, hq2.same v, by show 1 ≤ 1000; decide⟩ .nil)
      clear v1 v2 v u1 u2 g1 g2 hq1 hq2 htt hl1
      refine ⟨_, rfl, ?_⟩
      refine ⟨by show 1 ≤ sizeLine; decide, fun cz0 hcz0 => ?_⟩
      refine ⟨Nat.zero_le _, fun cz1 hcz1 => ?_⟩
      refine ⟨by show 2 ≤ sizeLine; decide, fun cz2 hcz2 => ?_⟩
      refine ⟨Nat.zero_le _, fun cz3 hcz3 => ?_⟩
      refine ⟨by show 2 ≤ sizeLine; decide, fun cz4 hcz4 => ?_⟩
      refine ⟨by show 2 ≤ sizeLine; decide, fun cz5 hcz5 => ?_⟩
      have ce0 := same_new (o := .lst [V.int 5]) hcz0
      have ce1 := same_new (o := .lst []) hcz1
      have ce2 := same_new (o := .tup [V.ref cz0, V.ref cz1]) hcz2
      have ce3 := same_new (o := .lst []) hcz3
      have ce4 := same_new (o := .tup [V.ref cz3, V.non]) hcz4
      have ce5 := same_new (o := .lst [V.ref cz2, V.ref cz4]) hcz5
      have cf0 := (ce5 _ _ (ce4 _ _ (ce3 _ _ (ce2 _ _ (ce1 _ _ (upd_same (H := H7) (a := cz0) (o := .lst [V.int 5])))))))
      have cf1 := (ce5 _ _ (ce4 _ _ (ce3 _ _ (ce2 _ _ (upd_same (H := (upd H7 cz0 (.lst [V.int 5]))) (a := cz1) (o := .lst []))))))
      have cf2 := (ce5 _ _ (ce4 _ _ (ce3 _ _ (upd_same (H := (upd (upd H7 cz0 (.lst [V.int 5])) cz1 (.lst []))) (a := cz2) (o := .tup [V.ref cz0, V.ref cz1])))))
      have cf3 := (ce5 _ _ (ce4 _ _ (upd_same (H := (upd (upd (upd H7 cz0 (.lst [V.int 5])) cz1 (.lst [])) cz2 (.tup [V.ref cz0, V.ref cz1]))) (a := cz3) (o := .lst []))))
      have cf4 := (ce5 _ _ (upd_same (H := (upd (upd (upd (upd H7 cz0 (.lst [V.int 5])) cz1 (.lst [])) cz2 (.tup [V.ref cz0, V.ref cz1])) cz3 (.lst []))) (a := cz4) (o := .tup [V.ref cz3, V.non])))
      have cf5 := (upd_same (H := (upd (upd (upd (upd (upd H7 cz0 (.lst [V.int 5])) cz1 (.lst [])) cz2 (.tup [V.ref cz0, V.ref cz1])) cz3 (.lst [])) cz4 (.tup [V.ref cz3, V.non]))) (a := cz5) (o := .lst [V.ref cz2, V.ref cz4]))
      have cs := (((((ce0.trans ce1).trans ce2).trans ce3).trans ce4).trans ce5)
      generalize upd (upd (upd (upd (upd (upd H7 cz0 (.lst [V.int 5])) cz1 (.lst [])) cz2 (.tup [V.ref cz0, V.ref cz1])) cz3 (.lst [])) cz4 (.tup [V.ref cz3, V.non])) cz5 (.lst [V.ref cz2, V.ref cz4]) = cA at cs cf0 cf1 cf2 cf3 cf4 cf5 ⊢
      clear ce0 ce1 ce2 ce3 ce4 ce5
      refine ⟨l1, cz5, [.ref q1, .ref q2], [V.ref cz2, V.ref cz4], [[(false, 1)], [(true, ((10 : Int) ^ (60 : Int).toNat))]], [([5], some []), ([], Option.none)], rfl, .inl (SqL.of (cs _ _ hl)), ss_same hsz cs, by show 2 ≤ 1000; decide, .inl (SqL.of cf5), (.cons ⟨cz2, .ref cz0, .ref cz1, rfl, SqT.of cf2, ⟨cz0, rfl, .inl (SqL.of cf0), by show 1 ≤ 1000; decide⟩, .inr ⟨[], rfl, ⟨cz1, rfl, .inl (SqL.of cf1), by show 0 ≤ 1000; decide⟩⟩⟩ (.cons ⟨cz4, .ref cz3, .non, rfl, SqT.of cf4, ⟨cz3, rfl, .inl (SqL.of cf3), by show 0 ≤ 1000; decide⟩, .inl ⟨rfl, rfl⟩⟩ .nil)), by show 2 ≤ 100000; decide, fun r cB sB nr hr => ?_⟩
      rw [idA ((10 : Int) ^ (60 : Int).toNat)] at hr
      refine ⟨by show 1 ≤ sizeLine; decide, fun y hy => ?_⟩
      have sy := same_new (o := .lst [V.int 0]) hy
      have sx := (cs.trans sB).trans sy
      refine ⟨_, _, dp_lst (L := [0]) (SqL.of (sy _ _ hr)), dp_lst (L := [0]) (SqL.of upd_same), shaped_lst _, shaped_lst _, _, rfl, iteN (by rw [eqv_lsts]; simp) ?_⟩
      have hl := sx _ _ hl
      have hsz := ss_same hsz sx
      generalize upd cB y (.lst [V.int 0]) = cC at sx hl hsz ⊢
      clear sy sB hr nr hy
      refine ⟨_, rfl, ?_⟩
      refine ⟨_, rfl, _, _, rfl, rfl, by show 1 ≤ sizeLine; decide, fun dz0 hdz0 => ?_⟩
      refine ⟨_, rfl, _, rfl, _, _, rfl, rfl, by show 2 ≤ sizeLine; decide, fun dz1 hdz1 => ?_⟩
      refine ⟨by show 2 ≤ sizeLine; decide, fun dz2 hdz2 => ?_⟩
      refine ⟨by show 1 ≤ sizeLine; decide, fun dz3 hdz3 => ?_⟩
      have de0 := same_new (o := .lst [V.int (((10 : Int) ^ (60 : Int).toNat) - 1)]) hdz0
      have de1 := same_new (o := .lst [V.int ((10 : Int) ^ (60 : Int).toNat), V.int (((10 : Int) ^ (60 : Int).toNat) - 1)]) hdz1
      have de2 := same_new (o := .tup [V.ref dz0, V.ref dz1]) hdz2
      have de3 := same_new (o := .lst [V.ref dz2]) hdz3
      have df0 := (de3 _ _ (de2 _ _ (de1 _ _ (upd_same (H := cC) (a := dz0) (o := .lst [V.int (((10 : Int) ^ (60 : Int).toNat) - 1)])))))
      have df1 := (de3 _ _ (de2 _ _ (upd_same (H := (upd cC dz0 (.lst [V.int (((10 : Int) ^ (60 : Int).toNat) - 1)]))) (a := dz1) (o := .lst [V.int ((10 : Int) ^ (60 : Int).toNat), V.int (((10 : Int) ^ (60 : Int).toNat) - 1)]))))
      have df2 := (de3 _ _ (upd_same (H := (upd (upd cC dz0 (.lst [V.int (((10 : Int) ^ (60 : Int).toNat) - 1)])) dz1 (.lst [V.int ((10 : Int) ^ (60 : Int).toNat), V.int (((10 : Int) ^ (60 : Int).toNat) - 1)]))) (a := dz2) (o := .tup [V.ref dz0, V.ref dz1])))
      have df3 := (upd_same (H := (upd (upd (upd cC dz0 (.lst [V.int (((10 : Int) ^ (60 : Int).toNat) - 1)])) dz1 (.lst [V.int ((10 : Int) ^ (60 : Int).toNat), V.int (((10 : Int) ^ (60 : Int).toNat) - 1)])) dz2 (.tup [V.ref dz0, V.ref dz1]))) (a := dz3) (o := .lst [V.ref dz2]))
      have ds := (((de0.trans de1).trans de2).trans de3)
      generalize upd (upd (upd (upd cC dz0 (.lst [V.int (((10 : Int) ^ (60 : Int).toNat) - 1)])) dz1 (.lst [V.int ((10 : Int) ^ (60 : Int).toNat), V.int (((10 : Int) ^ (60 : Int).toNat) - 1)])) dz2 (.tup [V.ref dz0, V.ref dz1])) dz3 (.lst [V.ref dz2]) = dA at ds df0 df1 df2 df3 ⊢
      clear de0 de1 de2 de3
      refine ⟨l1, dz3, [.ref q1, .ref q2], [V.ref dz2], [[(false, 1)], [(true, ((10 : Int) ^ (60 : Int).toNat))]], [([((10 : Int) ^ (60 : Int).toNat) - 1], some [((10 : Int) ^ (60 : Int).toNat), ((10 : Int) ^ (60 : Int).toNat) - 1])], rfl, .inl (SqL.of (ds _ _ hl)), ss_same hsz ds, by show 2 ≤ 1000; decide, .inl (SqL.of df3), (.cons ⟨dz2, .ref dz0, .ref dz1, rfl, SqT.of df2, ⟨dz0, rfl, .inl (SqL.of df0), by show 1 ≤ 1000; decide⟩, .inr ⟨[((10 : Int) ^ (60 : Int).toNat), ((10 : Int) ^ (60 : Int).toNat) - 1], rfl, ⟨dz1, rfl, .inl (SqL.of df1), by show 2 ≤ 1000; decide⟩⟩⟩ .nil), by show 1 ≤ 100000; decide, fun r dB sB nr hr => ?_⟩
      rw [idB ((10 : Int) ^ (60 : Int).toNat)] at hr
      refine ⟨by show 1 ≤ sizeLine; decide, fun y hy => ?_⟩
      have sy := same_new (o := .lst [V.int 1]) hy
      have sx := (ds.trans sB).trans sy
      refine ⟨_, _, dp_lst (L := [1]) (SqL.of (sy _ _ hr)), dp_lst (L := [1]) (SqL.of upd_same), shaped_lst _, shaped_lst _, _, rfl, iteN (by rw [eqv_lsts]; simp) ?_⟩
      have hl := sx _ _ hl
      have hsz := ss_same hsz sx
      generalize upd dB y (.lst [V.int 1]) = dC at sx hl hsz ⊢
      clear sy sB hr nr hy
      refine ⟨_, rfl, ?_⟩
      refine ⟨_, rfl, _, _, rfl, rfl, by show 1 ≤ sizeLine; decide, fun ez0 hez0 => ?_⟩
      refine ⟨_, rfl, _, _, rfl, rfl, _, rfl, _, _, rfl, rfl, by show 2 ≤ sizeLine; decide, fun ez1 hez1 => ?_⟩
      refine ⟨by show 2 ≤ sizeLine; decide, fun ez2 hez2 => ?_⟩
      refine ⟨by show 1 ≤ sizeLine; decide, fun ez3 hez3 => ?_⟩
      have ee0 := same_new (o := .lst [V.int (((10 : Int) ^ (60 : Int).toNat) - 1)]) hez0
      have ee1 := same_new (o := .lst [V.int (((10 : Int) ^ (60 : Int).toNat) - 1), V.int (((10 : Int) ^ (60 : Int).toNat) + 1)]) hez1
      have ee2 := same_new (o := .tup [V.ref ez0, V.ref ez1]) hez2
      have ee3 := same_new (o := .lst [V.ref ez2]) hez3
      have ef0 := (ee3 _ _ (ee2 _ _ (ee1 _ _ (upd_same (H := dC) (a := ez0) (o := .lst [V.int (((10 : Int) ^ (60 : Int).toNat) - 1)])))))
      have ef1 := (ee3 _ _ (ee2 _ _ (upd_same (H := (upd dC ez0 (.lst [V.int (((10 : Int) ^ (60 : Int).toNat) - 1)]))) (a := ez1) (o := .lst [V.int (((10 : Int) ^ (60 : Int).toNat) - 1), V.int (((10 : Int) ^ (60 : Int).toNat) + 1)]))))
      have ef2 := (ee3 _ _ (upd_same (H := (upd (upd dC ez0 (.lst [V.int (((10 : Int) ^ (60 : Int).toNat) - 1)])) ez1 (.lst [V.int (((10 : Int) ^ (60 : Int).toNat) - 1), V.int (((10 : Int) ^ (60 : Int).toNat) + 1)]))) (a := ez2) (o := .tup [V.ref ez0, V.ref ez1])))
      have ef3 := (upd_same (H := (upd (upd (upd dC ez0 (.lst [V.int (((10 : Int) ^ (60 : Int).toNat) - 1)])) ez1 (.lst [V.int (((10 : Int) ^ (60 : Int).toNat) - 1), V.int (((10 : Int) ^ (60 : Int).toNat) + 1)])) ez2 (.tup [V.ref ez0, V.ref ez1]))) (a := ez3) (o := .lst [V.ref ez2]))
      have es := (((ee0.trans ee1).trans ee2).trans ee3)
      generalize upd (upd (upd (upd dC ez0 (.lst [V.int (((10 : Int) ^ (60 : Int).toNat) - 1)])) ez1 (.lst [V.int (((10 : Int) ^ (60 : Int).toNat) - 1), V.int (((10 : Int) ^ (60 : Int).toNat) + 1)])) ez2 (.tup [V.ref ez0, V.ref ez1])) ez3 (.lst [V.ref ez2]) = eA at es ef0 ef1 ef2 ef3 ⊢
      clear ee0 ee1 ee2 ee3
      refine ⟨l1, ez3, [.ref q1, .ref q2], [V.ref ez2], [[(false, 1)], [(true, ((10 : Int) ^ (60 : Int).toNat))]], [([((10 : Int) ^ (60 : Int).toNat) - 1], some [((10 : Int) ^ (60 : Int).toNat) - 1, ((10 : Int) ^ (60 : Int).toNat) + 1])], rfl, .inl (SqL.of (es _ _ hl)), ss_same hsz es, by show 2 ≤ 1000; decide, .inl (SqL.of ef3), (.cons ⟨ez2, .ref ez0, .ref ez1, rfl, SqT.of ef2, ⟨ez0, rfl, .inl (SqL.of ef0), by show 1 ≤ 1000; decide⟩, .inr ⟨[((10 : Int) ^ (60 : Int).toNat) - 1, ((10 : Int) ^ (60 : Int).toNat) + 1], rfl, ⟨ez1, rfl, .inl (SqL.of ef1), by show 2 ≤ 1000; decide⟩⟩⟩ .nil), by show 1 ≤ 100000; decide, fun r eB sB nr hr => ?_⟩
      rw [idC ((10 : Int) ^ (60 : Int).toNat)] at hr
      refine ⟨Nat.zero_le _, fun y hy => ?_⟩
      have sy := same_new (o := .lst []) hy
      have sx := (es.trans sB).trans sy
      refine ⟨_, _, dp_lst (L := []) (SqL.of (sy _ _ hr)), dp_lst (L := []) (SqL.of upd_same), shaped_lst _, shaped_lst _, _, rfl, iteN (by rw [eqv_lsts]; simp) ?_⟩
      have hl := sx _ _ hl
      have hsz := ss_same hsz sx
      generalize upd eB y (.lst []) = eC at sx hl hsz ⊢
      clear sy sB hr nr hy
      refine ⟨Nat.zero_le _, fun k0 hk0 => ?_⟩
      refine ⟨by show 1 ≤ sizeLine; decide, fun k1 hk1 => ⟨by show 1 ≤ sizeLine; decide, fun k2 hk2 => ⟨by show 2 ≤ sizeLine; decide, fun k3 hk3 => ⟨by show 1 ≤ sizeLine; decide, fun k4 hk4 => ?_⟩⟩⟩⟩
      have ke0 := same_new (o := .lst []) hk0
      have ke1 := same_new (o := .lst [V.int 1]) hk1
      have ke2 := same_new (o := .lst [V.int 1]) hk2
      have ke3 := same_new (o := .tup [V.ref k1, V.ref k2]) hk3
      have ke4 := same_new (o := .lst [V.ref k3]) hk4
      have kf0 := (ke4 _ _ (ke3 _ _ (ke2 _ _ (ke1 _ _ (upd_same (H := eC) (a := k0) (o := .lst []))))))
      have kf1 := (ke4 _ _ (ke3 _ _ (ke2 _ _ (upd_same (H := (upd eC k0 (.lst []))) (a := k1) (o := .lst [V.int 1])))))
      have kf2 := (ke4 _ _ (ke3 _ _ (upd_same (H := (upd (upd eC k0 (.lst [])) k1 (.lst [V.int 1]))) (a := k2) (o := .lst [V.int 1]))))
      have kf3 := (ke4 _ _ (upd_same (H := (upd (upd (upd eC k0 (.lst [])) k1 (.lst [V.int 1])) k2 (.lst [V.int 1]))) (a := k3) (o := .tup [V.ref k1, V.ref k2])))
      have kf4 := (upd_same (H := (upd (upd (upd (upd eC k0 (.lst [])) k1 (.lst [V.int 1])) k2 (.lst [V.int 1])) k3 (.tup [V.ref k1, V.ref k2]))) (a := k4) (o := .lst [V.ref k3]))
      have ks := ((((ke0.trans ke1).trans ke2).trans ke3).trans ke4)
      generalize upd (upd (upd (upd (upd eC k0 (.lst [])) k1 (.lst [V.int 1])) k2 (.lst [V.int 1])) k3 (.tup [V.ref k1, V.ref k2])) k4 (.lst [V.ref k3]) = KA at ks kf0 kf1 kf2 kf3 kf4 ⊢
      clear ke0 ke1 ke2 ke3 ke4
      refine ⟨k0, k4, [], [V.ref k3], [], [([1], some [1])], rfl, .inl (SqL.of kf0), .nil, by show 0 ≤ 1000; decide, .inl (SqL.of kf4), .cons ⟨k3, .ref k1, .ref k2, rfl, SqT.of kf3, ⟨k1, rfl, .inl (SqL.of kf1), by show 1 ≤ 1000; decide⟩, .inr ⟨[1], rfl, ⟨k2, rfl, .inl (SqL.of kf2), by show 1 ≤ 1000; decide⟩⟩⟩ .nil, by show 1 ≤ 100000; decide, fun r KB sB nr hr => ?_⟩
      refine ⟨Nat.zero_le _, fun y hy => ?_⟩
      have sy := same_new (o := .lst []) hy
      refine ⟨_, _, dp_lst (L := []) (SqL.of (sy _ _ hr)), dp_lst (L := []) (SqL.of upd_same), shaped_lst _, shaped_lst _, ?_⟩
      rw [eqv_lsts]
      exact k _

end
end K43
namespace K43
open PySem L2 XT
section
variable {P : Program} {w : World} {K : PySem.W.Frag} {mg : Str → Option Value} {base : Heap} {a : Ads}
local macro_rules | `(tactic| walk_at "rside") => `(tactic| first | (show (0 : Int) < _; first | decide | omega) | (exact ⟨by first | decide | omega, by first | decide | omega⟩) | (exact Or.inl ⟨by omega, by omega⟩) | (exact Or.inr ⟨by omega, by omega⟩) | (exact ⟨by decide, by decide, by decide⟩))
local macro_rules | `(tactic| walk_at "rd1") => `(tactic| first | (refine ⟨_, rfl, ?_⟩) | (refine ⟨_, _, rfl, rfl, (by walk_at "rside"), ?_⟩) | (refine ⟨_, _, rfl, rfl, ?_⟩))
local macro_rules | `(tactic| walk_at "rd") => `(tactic| repeat (walk_at "rd1"))

theorem kit_subB {B C : Addr} (hc : (PySem.W.clsIn K C).isSome = true) (ht : PySem.W.typeIn K (.ref C) = some (.type "type")) (hs : PySem.W.subIn K (.ref B) (.ref C) = some false) (hr : PySem.W.subIn K (.ref B) (.ref B) = some true) : PySem.W.kitOne K (.ref B) (.ref C) = some false := by
  have hne : B ≠ C := fun e => by
    rw [e] at hr hs
    rw [hr] at hs
    cases hs
  simp [PySem.W.kitOne, PySem.W.kitCls, hc, ht, hs, hne]
theorem kit_self {a : Addr} : PySem.W.kitOne K (.ref a) (.ref a) = some true := by simp [PySem.W.kitOne]
theorem exm_of {D C : Addr} {b : Bool} (h1 : PySem.W.subIn K (.ref C) (.type "BaseException") = some true) (h2 : PySem.W.isClsIn K C = true) (h3 : PySem.W.typeIn K (.ref C) = some (.type "type")) (h4 : PySem.W.subIn K (.ref D) (.ref C) = some b) : PySem.W.exmOne K (.ref D) (.ref C) = some b := by
  have h2' : (PySem.W.clsIn K C).isSome = true := h2
  simp [PySem.W.exmOne, PySem.W.kitCls, h1, h2', h3, h4]
theorem all_mk {l : PySem.W.OpenLaw} {h : Heap} {fa : Addr} (X : K.In h) (G : h.Ns mainGlobals mg) (hfa : mg "law" = some (.ref fa)) {is_integer is_rank is_number_list InvalidFacts___init__ StepFailed___init__ is_fact is_fact_list result_of agrees agreeing ascending after_step Sequence___init__ Sequence_is_step Sequence_steps Sequence___add__ Sequence___call__ law_pool law_take law_step law_steps law_sequence law_done law_fact law_agrees law_error law RankError InvalidFacts StepFailed InvalidList Sequence P_steps S_is_step : Addr} {rest_steps rest_is_step : List Value}
    {nm_InvalidFacts q_InvalidFacts : Str} {N_InvalidFacts : Addr} {bs_InvalidFacts : List Value} {sn_InvalidFacts : List Str} {sub_InvalidFacts : List Value} {ab_InvalidFacts : Bool} {col_InvalidFacts : Option Bool} {dd_InvalidFacts : Option Addr} {e0_InvalidFacts e1_InvalidFacts e2_InvalidFacts e3_InvalidFacts e5_InvalidFacts : Option Value}
    {nm_StepFailed q_StepFailed : Str} {N_StepFailed : Addr} {bs_StepFailed : List Value} {sn_StepFailed : List Str} {sub_StepFailed : List Value} {ab_StepFailed : Bool} {col_StepFailed : Option Bool} {dd_StepFailed : Option Addr} {e0_StepFailed e1_StepFailed e2_StepFailed e3_StepFailed e5_StepFailed : Option Value}
    {oc_is_integer kV_is_integer dc_is_integer pm_is_integer cd_is_integer ct_is_integer : Value} {od_is_integer an_is_integer : Option Addr} {sl_is_integer : Array (Option Value)}
    {oc_is_rank kV_is_rank dc_is_rank pm_is_rank cd_is_rank ct_is_rank : Value} {od_is_rank an_is_rank : Option Addr} {sl_is_rank : Array (Option Value)}
    {oc_is_number_list kV_is_number_list dc_is_number_list pm_is_number_list cd_is_number_list ct_is_number_list : Value} {od_is_number_list an_is_number_list : Option Addr} {sl_is_number_list : Array (Option Value)}
    {oc_InvalidFacts___init__ kV_InvalidFacts___init__ dc_InvalidFacts___init__ pm_InvalidFacts___init__ cd_InvalidFacts___init__ ct_InvalidFacts___init__ : Value} {od_InvalidFacts___init__ an_InvalidFacts___init__ : Option Addr} {sl_InvalidFacts___init__ : Array (Option Value)}
    {oc_StepFailed___init__ kV_StepFailed___init__ dc_StepFailed___init__ pm_StepFailed___init__ cd_StepFailed___init__ ct_StepFailed___init__ : Value} {od_StepFailed___init__ an_StepFailed___init__ : Option Addr} {sl_StepFailed___init__ : Array (Option Value)}
    {oc_is_fact kV_is_fact dc_is_fact pm_is_fact cd_is_fact ct_is_fact : Value} {od_is_fact an_is_fact : Option Addr} {sl_is_fact : Array (Option Value)}
    {oc_is_fact_list kV_is_fact_list dc_is_fact_list pm_is_fact_list cd_is_fact_list ct_is_fact_list : Value} {od_is_fact_list an_is_fact_list : Option Addr} {sl_is_fact_list : Array (Option Value)}
    {oc_result_of kV_result_of dc_result_of pm_result_of cd_result_of ct_result_of : Value} {od_result_of an_result_of : Option Addr} {sl_result_of : Array (Option Value)}
    {oc_agrees kV_agrees dc_agrees pm_agrees cd_agrees ct_agrees : Value} {od_agrees an_agrees : Option Addr} {sl_agrees : Array (Option Value)}
    {oc_agreeing kV_agreeing dc_agreeing pm_agreeing cd_agreeing ct_agreeing : Value} {od_agreeing an_agreeing : Option Addr} {sl_agreeing : Array (Option Value)}
    {oc_ascending kV_ascending dc_ascending pm_ascending cd_ascending ct_ascending : Value} {od_ascending an_ascending : Option Addr} {sl_ascending : Array (Option Value)}
    {oc_after_step kV_after_step dc_after_step pm_after_step cd_after_step ct_after_step : Value} {od_after_step an_after_step : Option Addr} {sl_after_step : Array (Option Value)}
    {oc_Sequence___init__ kV_Sequence___init__ dc_Sequence___init__ pm_Sequence___init__ cd_Sequence___init__ ct_Sequence___init__ : Value} {od_Sequence___init__ an_Sequence___init__ : Option Addr} {sl_Sequence___init__ : Array (Option Value)}
    {oc_Sequence_is_step kV_Sequence_is_step dc_Sequence_is_step pm_Sequence_is_step cd_Sequence_is_step ct_Sequence_is_step : Value} {od_Sequence_is_step an_Sequence_is_step : Option Addr} {sl_Sequence_is_step : Array (Option Value)}
    {oc_Sequence_steps kV_Sequence_steps dc_Sequence_steps pm_Sequence_steps cd_Sequence_steps ct_Sequence_steps : Value} {od_Sequence_steps an_Sequence_steps : Option Addr} {sl_Sequence_steps : Array (Option Value)}
    {oc_Sequence___add__ kV_Sequence___add__ dc_Sequence___add__ pm_Sequence___add__ cd_Sequence___add__ ct_Sequence___add__ : Value} {od_Sequence___add__ an_Sequence___add__ : Option Addr} {sl_Sequence___add__ : Array (Option Value)}
    {oc_Sequence___call__ kV_Sequence___call__ dc_Sequence___call__ pm_Sequence___call__ cd_Sequence___call__ ct_Sequence___call__ : Value} {od_Sequence___call__ an_Sequence___call__ : Option Addr} {sl_Sequence___call__ : Array (Option Value)}
    {oc_law_pool kV_law_pool dc_law_pool pm_law_pool cd_law_pool ct_law_pool : Value} {od_law_pool an_law_pool : Option Addr} {sl_law_pool : Array (Option Value)}
    {oc_law_take kV_law_take dc_law_take pm_law_take cd_law_take ct_law_take : Value} {od_law_take an_law_take : Option Addr} {sl_law_take : Array (Option Value)}
    {oc_law_step kV_law_step dc_law_step pm_law_step cd_law_step ct_law_step : Value} {od_law_step an_law_step : Option Addr} {sl_law_step : Array (Option Value)}
    {oc_law_steps kV_law_steps dc_law_steps pm_law_steps cd_law_steps ct_law_steps : Value} {od_law_steps an_law_steps : Option Addr} {sl_law_steps : Array (Option Value)}
    {oc_law_sequence kV_law_sequence dc_law_sequence pm_law_sequence cd_law_sequence ct_law_sequence : Value} {od_law_sequence an_law_sequence : Option Addr} {sl_law_sequence : Array (Option Value)}
    {oc_law_done kV_law_done dc_law_done pm_law_done cd_law_done ct_law_done : Value} {od_law_done an_law_done : Option Addr} {sl_law_done : Array (Option Value)}
    {oc_law_fact kV_law_fact dc_law_fact pm_law_fact cd_law_fact ct_law_fact : Value} {od_law_fact an_law_fact : Option Addr} {sl_law_fact : Array (Option Value)}
    {oc_law_agrees kV_law_agrees dc_law_agrees pm_law_agrees cd_law_agrees ct_law_agrees : Value} {od_law_agrees an_law_agrees : Option Addr} {sl_law_agrees : Array (Option Value)}
    {oc_law_error kV_law_error dc_law_error pm_law_error cd_law_error ct_law_error : Value} {od_law_error an_law_error : Option Addr} {sl_law_error : Array (Option Value)}
    {oc_law kV_law dc_law pm_law cd_law ct_law : Value} {od_law an_law : Option Addr} {sl_law : Array (Option Value)}
    (a_is_integer : PySem.W.nsIn K mainGlobals "is_integer" = some (some (.ref is_integer)))
    (a_is_rank : PySem.W.nsIn K mainGlobals "is_rank" = some (some (.ref is_rank)))
    (a_is_number_list : PySem.W.nsIn K mainGlobals "is_number_list" = some (some (.ref is_number_list)))
    (a_is_fact : PySem.W.nsIn K mainGlobals "is_fact" = some (some (.ref is_fact)))
    (a_is_fact_list : PySem.W.nsIn K mainGlobals "is_fact_list" = some (some (.ref is_fact_list)))
    (a_result_of : PySem.W.nsIn K mainGlobals "result_of" = some (some (.ref result_of)))
    (a_agrees : PySem.W.nsIn K mainGlobals "agrees" = some (some (.ref agrees)))
    (a_agreeing : PySem.W.nsIn K mainGlobals "agreeing" = some (some (.ref agreeing)))
    (a_ascending : PySem.W.nsIn K mainGlobals "ascending" = some (some (.ref ascending)))
    (a_after_step : PySem.W.nsIn K mainGlobals "after_step" = some (some (.ref after_step)))
    (a_law_pool : PySem.W.nsIn K mainGlobals "_law_pool" = some (some (.ref law_pool)))
    (a_law_take : PySem.W.nsIn K mainGlobals "_law_take" = some (some (.ref law_take)))
    (a_law_step : PySem.W.nsIn K mainGlobals "_law_step" = some (some (.ref law_step)))
    (a_law_steps : PySem.W.nsIn K mainGlobals "_law_steps" = some (some (.ref law_steps)))
    (a_law_sequence : PySem.W.nsIn K mainGlobals "_law_sequence" = some (some (.ref law_sequence)))
    (a_law_done : PySem.W.nsIn K mainGlobals "_law_done" = some (some (.ref law_done)))
    (a_law_fact : PySem.W.nsIn K mainGlobals "_law_fact" = some (some (.ref law_fact)))
    (a_law_agrees : PySem.W.nsIn K mainGlobals "_law_agrees" = some (some (.ref law_agrees)))
    (a_law_error : PySem.W.nsIn K mainGlobals "_law_error" = some (some (.ref law_error)))
    (a_law : PySem.W.nsIn K mainGlobals "law" = some (some (.ref law)))
    (a_RankError : PySem.W.nsIn K mainGlobals "RankError" = some (some (.ref RankError)))
    (a_InvalidFacts : PySem.W.nsIn K mainGlobals "InvalidFacts" = some (some (.ref InvalidFacts)))
    (a_StepFailed : PySem.W.nsIn K mainGlobals "StepFailed" = some (some (.ref StepFailed)))
    (a_InvalidList : PySem.W.nsIn K mainGlobals "InvalidList" = some (some (.ref InvalidList)))
    (a_Sequence : PySem.W.nsIn K mainGlobals "Sequence" = some (some (.ref Sequence)))
    (at_Sequence___init__ : PySem.W.findIn K (.ref Sequence) "__init__" = some (some (.ref Sequence___init__)))
    (f_Sequence___init__ : PySem.W.isFn K (.ref Sequence___init__) = true)
    (at_Sequence___add__ : PySem.W.findIn K (.ref Sequence) "__add__" = some (some (.ref Sequence___add__)))
    (f_Sequence___add__ : PySem.W.isFn K (.ref Sequence___add__) = true)
    (at_Sequence___call__ : PySem.W.findIn K (.ref Sequence) "__call__" = some (some (.ref Sequence___call__)))
    (f_Sequence___call__ : PySem.W.isFn K (.ref Sequence___call__) = true)
    (pat_steps : PySem.W.findIn K (.ref Sequence) "steps" = some (some (.ref P_steps)))
    (rec_steps : PySem.W.recIn K P_steps "property" = some (.ref Sequence_steps :: rest_steps))
    (get_steps : PySem.W.specialIn K (.ref P_steps) "__get__" = some (some (.builtin "property.__get__")))
    (tak_steps : PySem.W.takesIn K (.ref P_steps) = some true)
    (at_is_step : PySem.W.findIn K (.ref Sequence) "is_step" = some (some (.ref S_is_step)))
    (rec_is_step : PySem.W.recIn K S_is_step "staticmethod" = some (.ref Sequence_is_step :: rest_is_step))
    (sty_is_step : PySem.W.typeIn K (.ref S_is_step) = some (.type "staticmethod"))
    (get_is_step : PySem.W.specialIn K (.ref S_is_step) "__get__" = some (some (.builtin "staticmethod.__get__")))
    (tak_is_step : PySem.W.takesIn K (.ref S_is_step) = some false)
    (cls_is_step : PySem.W.findCls K (.ref Sequence) (.type "type") "is_step" = some (.get (.builtin "staticmethod.__get__") (.ref S_is_step) .none (.ref Sequence)))
    (rds_Sequence : PySem.W.readsIn K Sequence (.type "type") = true)
    (rga_Sequence : PySem.W.specialIn K (.ref Sequence) "__getattribute__" = some (some (.builtin "type.__getattribute__")))
    (z_type : PySem.W.nsIn K mainGlobals "type" = some none)
    (z_int : PySem.W.nsIn K mainGlobals "int" = some none)
    (z_list : PySem.W.nsIn K mainGlobals "list" = some none)
    (z_tuple : PySem.W.nsIn K mainGlobals "tuple" = some none)
    (z_str : PySem.W.nsIn K mainGlobals "str" = some none)
    (z_len : PySem.W.nsIn K mainGlobals "len" = some none)
    (z_isinstance : PySem.W.nsIn K mainGlobals "isinstance" = some none)
    (z_abs : PySem.W.nsIn K mainGlobals "abs" = some none)
    (z_max : PySem.W.nsIn K mainGlobals "max" = some none)
    (z_min : PySem.W.nsIn K mainGlobals "min" = some none)
    (z_range : PySem.W.nsIn K mainGlobals "range" = some none)
    (z_repr : PySem.W.nsIn K mainGlobals "repr" = some none)
    (z_all : PySem.W.nsIn K mainGlobals "all" = some none)
    (z_enumerate : PySem.W.nsIn K mainGlobals "enumerate" = some none)
    (z_sorted : PySem.W.nsIn K mainGlobals "sorted" = some none)
    (xl_InvalidFacts : K.lookup InvalidFacts = some (excClassObj nm_InvalidFacts q_InvalidFacts InvalidFacts N_InvalidFacts bs_InvalidFacts [.ref RankError, .type "ValueError", .type "Exception", .type "BaseException", .type "object"] true sn_InvalidFacts sub_InvalidFacts ab_InvalidFacts col_InvalidFacts dd_InvalidFacts e0_InvalidFacts e1_InvalidFacts e2_InvalidFacts e3_InvalidFacts e5_InvalidFacts "ValueError.__new__"))
    (sa_InvalidFacts : PySem.W.findIn K (.ref InvalidFacts) "__setattr__" = some (some (.builtin "object.__setattr__")))
    (ex_InvalidFacts : PySem.W.subIn K (.ref InvalidFacts) (.type "BaseException") = some true)
    (ty_InvalidFacts : PySem.W.typeIn K (.ref InvalidFacts) = some (.type "type"))
    (kc_InvalidFacts : PySem.W.keepIn K (.ref InvalidFacts) = true)
    (in_InvalidFacts : PySem.W.findIn K (.ref InvalidFacts) "__init__" = some (some (.ref InvalidFacts___init__)))
    (ti_InvalidFacts : PySem.W.typeIn K (.ref InvalidFacts___init__) = some (.type "function"))
    (no_InvalidFacts : PySem.W.findIn K (.ref InvalidFacts) "value" = some none)
    (ga_InvalidFacts : PySem.W.findIn K (.ref InvalidFacts) "__getattribute__" = some (some (.builtin "BaseException.__getattribute__")))
    (gg_InvalidFacts : PySem.W.findIn K (.ref InvalidFacts) "__getattr__" = some none)
    (hd_InvalidFacts : PySem.W.hasDictIn K InvalidFacts = true)
    (ha_InvalidFacts : PySem.W.findIn K (.ref InvalidFacts) "__class__" = some (some (.builtin "object.__class__")))
    (hm_InvalidFacts : PySem.W.mroIn K InvalidFacts (.type "object") = some true)
    (ic_InvalidFacts : PySem.W.isClsIn K InvalidFacts = true)
    (xl_StepFailed : K.lookup StepFailed = some (excClassObj nm_StepFailed q_StepFailed StepFailed N_StepFailed bs_StepFailed [.type "RuntimeError", .type "Exception", .type "BaseException", .type "object"] true sn_StepFailed sub_StepFailed ab_StepFailed col_StepFailed dd_StepFailed e0_StepFailed e1_StepFailed e2_StepFailed e3_StepFailed e5_StepFailed "RuntimeError.__new__"))
    (sa_StepFailed : PySem.W.findIn K (.ref StepFailed) "__setattr__" = some (some (.builtin "object.__setattr__")))
    (ex_StepFailed : PySem.W.subIn K (.ref StepFailed) (.type "BaseException") = some true)
    (ty_StepFailed : PySem.W.typeIn K (.ref StepFailed) = some (.type "type"))
    (kc_StepFailed : PySem.W.keepIn K (.ref StepFailed) = true)
    (in_StepFailed : PySem.W.findIn K (.ref StepFailed) "__init__" = some (some (.ref StepFailed___init__)))
    (ti_StepFailed : PySem.W.typeIn K (.ref StepFailed___init__) = some (.type "function"))
    (no_StepFailed : PySem.W.findIn K (.ref StepFailed) "index" = some none)
    (ga_StepFailed : PySem.W.findIn K (.ref StepFailed) "__getattribute__" = some (some (.builtin "BaseException.__getattribute__")))
    (gg_StepFailed : PySem.W.findIn K (.ref StepFailed) "__getattr__" = some none)
    (hd_StepFailed : PySem.W.hasDictIn K StepFailed = true)
    (ha_StepFailed : PySem.W.findIn K (.ref StepFailed) "__class__" = some (some (.builtin "object.__class__")))
    (hm_StepFailed : PySem.W.mroIn K StepFailed (.type "object") = some true)
    (ic_StepFailed : PySem.W.isClsIn K StepFailed = true)
    (l_is_integer : K.lookup is_integer = some ⟨oc_is_integer, od_is_integer, .func (PySem.W.fnOf "is_integer" "is_integer" (defArgs s_is_integer) (defBody s_is_integer) (defScope s_is_integer) .none kV_is_integer dc_is_integer pm_is_integer an_is_integer cd_is_integer ct_is_integer), sl_is_integer⟩)
    (c_is_integer : PySem.W.codeIn K cd_is_integer "is_integer" = true)
    (k_is_integer : PySem.W.keepIn K (.ref is_integer) = true)
    (l_is_rank : K.lookup is_rank = some ⟨oc_is_rank, od_is_rank, .func (PySem.W.fnOf "is_rank" "is_rank" (defArgs s_is_rank) (defBody s_is_rank) (defScope s_is_rank) .none kV_is_rank dc_is_rank pm_is_rank an_is_rank cd_is_rank ct_is_rank), sl_is_rank⟩)
    (c_is_rank : PySem.W.codeIn K cd_is_rank "is_rank" = true)
    (k_is_rank : PySem.W.keepIn K (.ref is_rank) = true)
    (l_is_number_list : K.lookup is_number_list = some ⟨oc_is_number_list, od_is_number_list, .func (PySem.W.fnOf "is_number_list" "is_number_list" (defArgs s_is_number_list) (defBody s_is_number_list) (defScope s_is_number_list) .none kV_is_number_list dc_is_number_list pm_is_number_list an_is_number_list cd_is_number_list ct_is_number_list), sl_is_number_list⟩)
    (c_is_number_list : PySem.W.codeIn K cd_is_number_list "is_number_list" = true)
    (k_is_number_list : PySem.W.keepIn K (.ref is_number_list) = true)
    (l_InvalidFacts___init__ : K.lookup InvalidFacts___init__ = some ⟨oc_InvalidFacts___init__, od_InvalidFacts___init__, .func (PySem.W.fnOf "__init__" "InvalidFacts.__init__" (defArgs s_InvalidFacts___init__) (defBody s_InvalidFacts___init__) (defScope s_InvalidFacts___init__) .none kV_InvalidFacts___init__ dc_InvalidFacts___init__ pm_InvalidFacts___init__ an_InvalidFacts___init__ cd_InvalidFacts___init__ ct_InvalidFacts___init__), sl_InvalidFacts___init__⟩)
    (c_InvalidFacts___init__ : PySem.W.codeIn K cd_InvalidFacts___init__ "InvalidFacts.__init__" = true)
    (k_InvalidFacts___init__ : PySem.W.keepIn K (.ref InvalidFacts___init__) = true)
    (l_StepFailed___init__ : K.lookup StepFailed___init__ = some ⟨oc_StepFailed___init__, od_StepFailed___init__, .func (PySem.W.fnOf "__init__" "StepFailed.__init__" (defArgs s_StepFailed___init__) (defBody s_StepFailed___init__) (defScope s_StepFailed___init__) .none kV_StepFailed___init__ dc_StepFailed___init__ pm_StepFailed___init__ an_StepFailed___init__ cd_StepFailed___init__ ct_StepFailed___init__), sl_StepFailed___init__⟩)
    (c_StepFailed___init__ : PySem.W.codeIn K cd_StepFailed___init__ "StepFailed.__init__" = true)
    (k_StepFailed___init__ : PySem.W.keepIn K (.ref StepFailed___init__) = true)
    (l_is_fact : K.lookup is_fact = some ⟨oc_is_fact, od_is_fact, .func (PySem.W.fnOf "is_fact" "is_fact" (defArgs s_is_fact) (defBody s_is_fact) (defScope s_is_fact) .none kV_is_fact dc_is_fact pm_is_fact an_is_fact cd_is_fact ct_is_fact), sl_is_fact⟩)
    (c_is_fact : PySem.W.codeIn K cd_is_fact "is_fact" = true)
    (k_is_fact : PySem.W.keepIn K (.ref is_fact) = true)
    (l_is_fact_list : K.lookup is_fact_list = some ⟨oc_is_fact_list, od_is_fact_list, .func (PySem.W.fnOf "is_fact_list" "is_fact_list" (defArgs s_is_fact_list) (defBody s_is_fact_list) (defScope s_is_fact_list) .none kV_is_fact_list dc_is_fact_list pm_is_fact_list an_is_fact_list cd_is_fact_list ct_is_fact_list), sl_is_fact_list⟩)
    (c_is_fact_list : PySem.W.codeIn K cd_is_fact_list "is_fact_list" = true)
    (k_is_fact_list : PySem.W.keepIn K (.ref is_fact_list) = true)
    (l_result_of : K.lookup result_of = some ⟨oc_result_of, od_result_of, .func (PySem.W.fnOf "result_of" "result_of" (defArgs s_result_of) (defBody s_result_of) (defScope s_result_of) .none kV_result_of dc_result_of pm_result_of an_result_of cd_result_of ct_result_of), sl_result_of⟩)
    (c_result_of : PySem.W.codeIn K cd_result_of "result_of" = true)
    (k_result_of : PySem.W.keepIn K (.ref result_of) = true)
    (l_agrees : K.lookup agrees = some ⟨oc_agrees, od_agrees, .func (PySem.W.fnOf "agrees" "agrees" (defArgs s_agrees) (defBody s_agrees) (defScope s_agrees) .none kV_agrees dc_agrees pm_agrees an_agrees cd_agrees ct_agrees), sl_agrees⟩)
    (c_agrees : PySem.W.codeIn K cd_agrees "agrees" = true)
    (k_agrees : PySem.W.keepIn K (.ref agrees) = true)
    (l_agreeing : K.lookup agreeing = some ⟨oc_agreeing, od_agreeing, .func (PySem.W.fnOf "agreeing" "agreeing" (defArgs s_agreeing) (defBody s_agreeing) (defScope s_agreeing) .none kV_agreeing dc_agreeing pm_agreeing an_agreeing cd_agreeing ct_agreeing), sl_agreeing⟩)
    (c_agreeing : PySem.W.codeIn K cd_agreeing "agreeing" = true)
    (k_agreeing : PySem.W.keepIn K (.ref agreeing) = true)
    (l_ascending : K.lookup ascending = some ⟨oc_ascending, od_ascending, .func (PySem.W.fnOf "ascending" "ascending" (defArgs s_ascending) (defBody s_ascending) (defScope s_ascending) .none kV_ascending dc_ascending pm_ascending an_ascending cd_ascending ct_ascending), sl_ascending⟩)
    (c_ascending : PySem.W.codeIn K cd_ascending "ascending" = true)
    (k_ascending : PySem.W.keepIn K (.ref ascending) = true)
    (l_after_step : K.lookup after_step = some ⟨oc_after_step, od_after_step, .func (PySem.W.fnOf "after_step" "after_step" (defArgs s_after_step) (defBody s_after_step) (defScope s_after_step) .none kV_after_step dc_after_step pm_after_step an_after_step cd_after_step ct_after_step), sl_after_step⟩)
    (c_after_step : PySem.W.codeIn K cd_after_step "after_step" = true)
    (k_after_step : PySem.W.keepIn K (.ref after_step) = true)
    (l_Sequence___init__ : K.lookup Sequence___init__ = some ⟨oc_Sequence___init__, od_Sequence___init__, .func (PySem.W.fnOf "__init__" "Sequence.__init__" (defArgs s_Sequence___init__) (defBody s_Sequence___init__) (defScope s_Sequence___init__) .none kV_Sequence___init__ dc_Sequence___init__ pm_Sequence___init__ an_Sequence___init__ cd_Sequence___init__ ct_Sequence___init__), sl_Sequence___init__⟩)
    (c_Sequence___init__ : PySem.W.codeIn K cd_Sequence___init__ "Sequence.__init__" = true)
    (k_Sequence___init__ : PySem.W.keepIn K (.ref Sequence___init__) = true)
    (l_Sequence_is_step : K.lookup Sequence_is_step = some ⟨oc_Sequence_is_step, od_Sequence_is_step, .func (PySem.W.fnOf "is_step" "Sequence.is_step" (defArgs s_Sequence_is_step) (defBody s_Sequence_is_step) (defScope s_Sequence_is_step) .none kV_Sequence_is_step dc_Sequence_is_step pm_Sequence_is_step an_Sequence_is_step cd_Sequence_is_step ct_Sequence_is_step), sl_Sequence_is_step⟩)
    (c_Sequence_is_step : PySem.W.codeIn K cd_Sequence_is_step "Sequence.is_step" = true)
    (k_Sequence_is_step : PySem.W.keepIn K (.ref Sequence_is_step) = true)
    (l_Sequence_steps : K.lookup Sequence_steps = some ⟨oc_Sequence_steps, od_Sequence_steps, .func (PySem.W.fnOf "steps" "Sequence.steps" (defArgs s_Sequence_steps) (defBody s_Sequence_steps) (defScope s_Sequence_steps) .none kV_Sequence_steps dc_Sequence_steps pm_Sequence_steps an_Sequence_steps cd_Sequence_steps ct_Sequence_steps), sl_Sequence_steps⟩)
    (c_Sequence_steps : PySem.W.codeIn K cd_Sequence_steps "Sequence.steps" = true)
    (k_Sequence_steps : PySem.W.keepIn K (.ref Sequence_steps) = true)
    (l_Sequence___add__ : K.lookup Sequence___add__ = some ⟨oc_Sequence___add__, od_Sequence___add__, .func (PySem.W.fnOf "__add__" "Sequence.__add__" (defArgs s_Sequence___add__) (defBody s_Sequence___add__) (defScope s_Sequence___add__) .none kV_Sequence___add__ dc_Sequence___add__ pm_Sequence___add__ an_Sequence___add__ cd_Sequence___add__ ct_Sequence___add__), sl_Sequence___add__⟩)
    (c_Sequence___add__ : PySem.W.codeIn K cd_Sequence___add__ "Sequence.__add__" = true)
    (k_Sequence___add__ : PySem.W.keepIn K (.ref Sequence___add__) = true)
    (l_Sequence___call__ : K.lookup Sequence___call__ = some ⟨oc_Sequence___call__, od_Sequence___call__, .func (PySem.W.fnOf "__call__" "Sequence.__call__" (defArgs s_Sequence___call__) (defBody s_Sequence___call__) (defScope s_Sequence___call__) .none kV_Sequence___call__ dc_Sequence___call__ pm_Sequence___call__ an_Sequence___call__ cd_Sequence___call__ ct_Sequence___call__), sl_Sequence___call__⟩)
    (c_Sequence___call__ : PySem.W.codeIn K cd_Sequence___call__ "Sequence.__call__" = true)
    (k_Sequence___call__ : PySem.W.keepIn K (.ref Sequence___call__) = true)
    (l_law_pool : K.lookup law_pool = some ⟨oc_law_pool, od_law_pool, .func (PySem.W.fnOf "_law_pool" "_law_pool" (defArgs s_law_pool) (defBody s_law_pool) (defScope s_law_pool) .none kV_law_pool dc_law_pool pm_law_pool an_law_pool cd_law_pool ct_law_pool), sl_law_pool⟩)
    (c_law_pool : PySem.W.codeIn K cd_law_pool "_law_pool" = true)
    (k_law_pool : PySem.W.keepIn K (.ref law_pool) = true)
    (l_law_take : K.lookup law_take = some ⟨oc_law_take, od_law_take, .func (PySem.W.fnOf "_law_take" "_law_take" (defArgs s_law_take) (defBody s_law_take) (defScope s_law_take) .none kV_law_take dc_law_take pm_law_take an_law_take cd_law_take ct_law_take), sl_law_take⟩)
    (c_law_take : PySem.W.codeIn K cd_law_take "_law_take" = true)
    (k_law_take : PySem.W.keepIn K (.ref law_take) = true)
    (l_law_step : K.lookup law_step = some ⟨oc_law_step, od_law_step, .func (PySem.W.fnOf "_law_step" "_law_step" (defArgs s_law_step) (defBody s_law_step) (defScope s_law_step) .none kV_law_step dc_law_step pm_law_step an_law_step cd_law_step ct_law_step), sl_law_step⟩)
    (c_law_step : PySem.W.codeIn K cd_law_step "_law_step" = true)
    (k_law_step : PySem.W.keepIn K (.ref law_step) = true)
    (l_law_steps : K.lookup law_steps = some ⟨oc_law_steps, od_law_steps, .func (PySem.W.fnOf "_law_steps" "_law_steps" (defArgs s_law_steps) (defBody s_law_steps) (defScope s_law_steps) .none kV_law_steps dc_law_steps pm_law_steps an_law_steps cd_law_steps ct_law_steps), sl_law_steps⟩)
    (c_law_steps : PySem.W.codeIn K cd_law_steps "_law_steps" = true)
    (k_law_steps : PySem.W.keepIn K (.ref law_steps) = true)
    (l_law_sequence : K.lookup law_sequence = some ⟨oc_law_sequence, od_law_sequence, .func (PySem.W.fnOf "_law_sequence" "_law_sequence" (defArgs s_law_sequence) (defBody s_law_sequence) (defScope s_law_sequence) .none kV_law_sequence dc_law_sequence pm_law_sequence an_law_sequence cd_law_sequence ct_law_sequence), sl_law_sequence⟩)
    (c_law_sequence : PySem.W.codeIn K cd_law_sequence "_law_sequence" = true)
    (k_law_sequence : PySem.W.keepIn K (.ref law_sequence) = true)
    (l_law_done : K.lookup law_done = some ⟨oc_law_done, od_law_done, .func (PySem.W.fnOf "_law_done" "_law_done" (defArgs s_law_done) (defBody s_law_done) (defScope s_law_done) .none kV_law_done dc_law_done pm_law_done an_law_done cd_law_done ct_law_done), sl_law_done⟩)
    (c_law_done : PySem.W.codeIn K cd_law_done "_law_done" = true)
    (k_law_done : PySem.W.keepIn K (.ref law_done) = true)
    (l_law_fact : K.lookup law_fact = some ⟨oc_law_fact, od_law_fact, .func (PySem.W.fnOf "_law_fact" "_law_fact" (defArgs s_law_fact) (defBody s_law_fact) (defScope s_law_fact) .none kV_law_fact dc_law_fact pm_law_fact an_law_fact cd_law_fact ct_law_fact), sl_law_fact⟩)
    (c_law_fact : PySem.W.codeIn K cd_law_fact "_law_fact" = true)
    (k_law_fact : PySem.W.keepIn K (.ref law_fact) = true)
    (l_law_agrees : K.lookup law_agrees = some ⟨oc_law_agrees, od_law_agrees, .func (PySem.W.fnOf "_law_agrees" "_law_agrees" (defArgs s_law_agrees) (defBody s_law_agrees) (defScope s_law_agrees) .none kV_law_agrees dc_law_agrees pm_law_agrees an_law_agrees cd_law_agrees ct_law_agrees), sl_law_agrees⟩)
    (c_law_agrees : PySem.W.codeIn K cd_law_agrees "_law_agrees" = true)
    (k_law_agrees : PySem.W.keepIn K (.ref law_agrees) = true)
    (l_law_error : K.lookup law_error = some ⟨oc_law_error, od_law_error, .func (PySem.W.fnOf "_law_error" "_law_error" (defArgs s_law_error) (defBody s_law_error) (defScope s_law_error) .none kV_law_error dc_law_error pm_law_error an_law_error cd_law_error ct_law_error), sl_law_error⟩)
    (c_law_error : PySem.W.codeIn K cd_law_error "_law_error" = true)
    (k_law_error : PySem.W.keepIn K (.ref law_error) = true)
    (l_law : K.lookup law = some ⟨oc_law, od_law, .func (PySem.W.fnOf "law" "law" (defArgs s_law) (defBody s_law) (defScope s_law) .none kV_law dc_law pm_law an_law cd_law ct_law), sl_law⟩)
    (c_law : PySem.W.codeIn K cd_law "law" = true)
    (k_law : PySem.W.keepIn K (.ref law) = true)
    (hn : PySem.W.specialIn K (.builtin "object.__class__") "__get__" = some (some (.builtin "getset_descriptor.__get__")))
    (htk : PySem.W.takesIn K (.builtin "object.__class__") = some true)
    (pg_Sequence : PySem.W.plainGet K Sequence Str.empty = true)
    (hd_Sequence : PySem.W.hasDictIn K Sequence = true)
    (po_Sequence : PySem.W.plainOver K Sequence = true)
    (sa_Sequence : PySem.W.findIn K (.ref Sequence) "__setattr__" = some (some (.builtin "object.__setattr__")))
    (mkI_Sequence : PySem.W.makesIn K Sequence = true)
    (kc_Sequence : PySem.W.keepIn K (.ref Sequence) = true)
    (ha_Sequence : PySem.W.findIn K (.ref Sequence) "__class__" = some (some (.builtin "object.__class__")))
    (hm_Sequence : PySem.W.mroIn K Sequence (.type "object") = some true)
    (ic_Sequence : PySem.W.isClsIn K Sequence = true)
    (ty_Sequence : PySem.W.typeIn K (.ref Sequence) = some (.type "type"))
    (n_steps : PySem.W.findIn K (.ref Sequence) "_steps" = some none)
    (sf_S : PySem.W.selfFirst K Sequence = true)
    (fic_S : PySem.W.fnIn K Sequence___call__ = true)
    (s_FF : PySem.W.subIn K (.ref InvalidFacts) (.ref InvalidFacts) = some true)
    (s_SS : PySem.W.subIn K (.ref StepFailed) (.ref StepFailed) = some true)
    (s_FR : PySem.W.subIn K (.ref InvalidFacts) (.ref RankError) = some true)
    (s_FL : PySem.W.subIn K (.ref InvalidFacts) (.ref InvalidList) = some false)
    (ic_R : PySem.W.isClsIn K RankError = true)
    (ty_R : PySem.W.typeIn K (.ref RankError) = some (.type "type"))
    (ic_L : PySem.W.isClsIn K InvalidList = true)
    (ty_L : PySem.W.typeIn K (.ref InvalidList) = some (.type "type")) :
    ∀ base : Heap, K.In base → base.Ns mainGlobals mg → FnG l.prog w K mg base CX0 14 fa (spLaw K) := by
  have e := hfa.symm.trans (PySem.W.mg_of X G a_law)
  cases e
  have T : Txt K mg { is_integer := is_integer, is_rank := is_rank, is_number_list := is_number_list, InvalidFacts___init__ := InvalidFacts___init__, StepFailed___init__ := StepFailed___init__, is_fact := is_fact, is_fact_list := is_fact_list, result_of := result_of, agrees := agrees, agreeing := agreeing, ascending := ascending, after_step := after_step, Sequence___init__ := Sequence___init__, Sequence_is_step := Sequence_is_step, Sequence_steps := Sequence_steps, Sequence___add__ := Sequence___add__, Sequence___call__ := Sequence___call__, law_pool := law_pool, law_take := law_take, law_step := law_step, law_steps := law_steps, law_sequence := law_sequence, law_done := law_done, law_fact := law_fact, law_agrees := law_agrees, law_error := law_error, law := fa, RankError := RankError, InvalidFacts := InvalidFacts, StepFailed := StepFailed, InvalidList := InvalidList, Sequence := Sequence, P_steps := P_steps, S_is_step := S_is_step } :=
    { g_is_integer := PySem.W.mg_of X G a_is_integer,
      k_is_integer := k_is_integer,
      F_is_integer := ⟨_, fun_mk (st := s_is_integer) l_is_integer c_is_integer k_is_integer⟩,
      g_is_rank := PySem.W.mg_of X G a_is_rank,
      k_is_rank := k_is_rank,
      F_is_rank := ⟨_, fun_mk (st := s_is_rank) l_is_rank c_is_rank k_is_rank⟩,
      g_is_number_list := PySem.W.mg_of X G a_is_number_list,
      k_is_number_list := k_is_number_list,
      F_is_number_list := ⟨_, fun_mk (st := s_is_number_list) l_is_number_list c_is_number_list k_is_number_list⟩,
      F_InvalidFacts___init__ := ⟨_, fun_mk (st := s_InvalidFacts___init__) l_InvalidFacts___init__ c_InvalidFacts___init__ k_InvalidFacts___init__⟩,
      F_StepFailed___init__ := ⟨_, fun_mk (st := s_StepFailed___init__) l_StepFailed___init__ c_StepFailed___init__ k_StepFailed___init__⟩,
      g_is_fact := PySem.W.mg_of X G a_is_fact,
      k_is_fact := k_is_fact,
      F_is_fact := ⟨_, fun_mk (st := s_is_fact) l_is_fact c_is_fact k_is_fact⟩,
      g_is_fact_list := PySem.W.mg_of X G a_is_fact_list,
      k_is_fact_list := k_is_fact_list,
      F_is_fact_list := ⟨_, fun_mk (st := s_is_fact_list) l_is_fact_list c_is_fact_list k_is_fact_list⟩,
      g_result_of := PySem.W.mg_of X G a_result_of,
      k_result_of := k_result_of,
      F_result_of := ⟨_, fun_mk (st := s_result_of) l_result_of c_result_of k_result_of⟩,
      g_agrees := PySem.W.mg_of X G a_agrees,
      k_agrees := k_agrees,
      F_agrees := ⟨_, fun_mk (st := s_agrees) l_agrees c_agrees k_agrees⟩,
      g_agreeing := PySem.W.mg_of X G a_agreeing,
      k_agreeing := k_agreeing,
      F_agreeing := ⟨_, fun_mk (st := s_agreeing) l_agreeing c_agreeing k_agreeing⟩,
      g_ascending := PySem.W.mg_of X G a_ascending,
      k_ascending := k_ascending,
      F_ascending := ⟨_, fun_mk (st := s_ascending) l_ascending c_ascending k_ascending⟩,
      g_after_step := PySem.W.mg_of X G a_after_step,
      k_after_step := k_after_step,
      F_after_step := ⟨_, fun_mk (st := s_after_step) l_after_step c_after_step k_after_step⟩,
      F_Sequence___init__ := ⟨_, fun_mk (st := s_Sequence___init__) l_Sequence___init__ c_Sequence___init__ k_Sequence___init__⟩,
      F_Sequence_is_step := ⟨_, fun_mk (st := s_Sequence_is_step) l_Sequence_is_step c_Sequence_is_step k_Sequence_is_step⟩,
      F_Sequence_steps := ⟨_, fun_mk (st := s_Sequence_steps) l_Sequence_steps c_Sequence_steps k_Sequence_steps⟩,
      F_Sequence___add__ := ⟨_, fun_mk (st := s_Sequence___add__) l_Sequence___add__ c_Sequence___add__ k_Sequence___add__⟩,
      F_Sequence___call__ := ⟨_, fun_mk (st := s_Sequence___call__) l_Sequence___call__ c_Sequence___call__ k_Sequence___call__⟩,
      g_law_pool := PySem.W.mg_of X G a_law_pool,
      k_law_pool := k_law_pool,
      F_law_pool := ⟨_, fun_mk (st := s_law_pool) l_law_pool c_law_pool k_law_pool⟩,
      g_law_take := PySem.W.mg_of X G a_law_take,
      k_law_take := k_law_take,
      F_law_take := ⟨_, fun_mk (st := s_law_take) l_law_take c_law_take k_law_take⟩,
      g_law_step := PySem.W.mg_of X G a_law_step,
      k_law_step := k_law_step,
      F_law_step := ⟨_, fun_mk (st := s_law_step) l_law_step c_law_step k_law_step⟩,
      g_law_steps := PySem.W.mg_of X G a_law_steps,
      k_law_steps := k_law_steps,
      F_law_steps := ⟨_, fun_mk (st := s_law_steps) l_law_steps c_law_steps k_law_steps⟩,
      g_law_sequence := PySem.W.mg_of X G a_law_sequence,
      k_law_sequence := k_law_sequence,
      F_law_sequence := ⟨_, fun_mk (st := s_law_sequence) l_law_sequence c_law_sequence k_law_sequence⟩,
      g_law_done := PySem.W.mg_of X G a_law_done,
      k_law_done := k_law_done,
      F_law_done := ⟨_, fun_mk (st := s_law_done) l_law_done c_law_done k_law_done⟩,
      g_law_fact := PySem.W.mg_of X G a_law_fact,
      k_law_fact := k_law_fact,
      F_law_fact := ⟨_, fun_mk (st := s_law_fact) l_law_fact c_law_fact k_law_fact⟩,
      g_law_agrees := PySem.W.mg_of X G a_law_agrees,
      k_law_agrees := k_law_agrees,
      F_law_agrees := ⟨_, fun_mk (st := s_law_agrees) l_law_agrees c_law_agrees k_law_agrees⟩,
      g_law_error := PySem.W.mg_of X G a_law_error,
      k_law_error := k_law_error,
      F_law_error := ⟨_, fun_mk (st := s_law_error) l_law_error c_law_error k_law_error⟩,
      g_law := PySem.W.mg_of X G a_law,
      k_law := k_law,
      F_law := ⟨_, fun_mk (st := s_law) l_law c_law k_law⟩,
      g_RankError := PySem.W.mg_of X G a_RankError,
      g_InvalidFacts := PySem.W.mg_of X G a_InvalidFacts,
      g_StepFailed := PySem.W.mg_of X G a_StepFailed,
      g_InvalidList := PySem.W.mg_of X G a_InvalidList,
      g_Sequence := PySem.W.mg_of X G a_Sequence,
      p_steps := ⟨pat_steps, get_steps, tak_steps, ⟨_, rec_steps⟩⟩,
      sta_is_step := ⟨cls_is_step, ⟨_, rec_is_step⟩, k_Sequence_is_step⟩,
      sti_is_step := ⟨pg_Sequence, ic_Sequence, at_is_step, sty_is_step, get_is_step, tak_is_step, by decide +kernel, ⟨_, rec_is_step⟩, k_Sequence_is_step⟩,
      rd_Sequence := ⟨rds_Sequence, rga_Sequence⟩,
      b_type := PySem.W.mg_none_of X G z_type,
      b_int := PySem.W.mg_none_of X G z_int,
      b_list := PySem.W.mg_none_of X G z_list,
      b_tuple := PySem.W.mg_none_of X G z_tuple,
      b_str := PySem.W.mg_none_of X G z_str,
      b_len := PySem.W.mg_none_of X G z_len,
      b_isinstance := PySem.W.mg_none_of X G z_isinstance,
      b_abs := PySem.W.mg_none_of X G z_abs,
      b_max := PySem.W.mg_none_of X G z_max,
      b_min := PySem.W.mg_none_of X G z_min,
      b_range := PySem.W.mg_none_of X G z_range,
      b_repr := PySem.W.mg_none_of X G z_repr,
      b_all := PySem.W.mg_none_of X G z_all,
      b_enumerate := PySem.W.mg_none_of X G z_enumerate,
      b_sorted := PySem.W.mg_none_of X G z_sorted,
      e_InvalidFacts := ⟨⟨⟨_, _, _, _, _, _, _, _, _, _, _, _, _, _, _, xl_InvalidFacts, show PySem.HandSPX.refsVE [.type "ValueError", .type "Exception", .type "BaseException", .type "object"] = true by decide +kernel⟩, sa_InvalidFacts, ex_InvalidFacts, ty_InvalidFacts, kc_InvalidFacts⟩, in_InvalidFacts, ti_InvalidFacts, no_InvalidFacts, ga_InvalidFacts, gg_InvalidFacts, hd_InvalidFacts, ha_InvalidFacts, hn, htk, hm_InvalidFacts⟩,
      e_StepFailed := ⟨bx_Runtime, ⟨⟨_, _, _, _, [], _, _, _, _, _, _, _, _, _, _, xl_StepFailed⟩, sa_StepFailed, ex_StepFailed, ty_StepFailed, kc_StepFailed⟩, in_StepFailed, ti_StepFailed, no_StepFailed, ga_StepFailed, gg_StepFailed, hd_StepFailed, ha_StepFailed, hn, htk, hm_StepFailed⟩,
      n_steps := n_steps,
      cl_S := ⟨pg_Sequence, hd_Sequence, po_Sequence, sa_Sequence⟩,
      M_Sequence := ⟨mkI_Sequence, at_Sequence___init__, f_Sequence___init__, kc_Sequence⟩,
      isi_S := ⟨⟨pg_Sequence, hd_Sequence, po_Sequence, sa_Sequence⟩, ha_Sequence, hn, htk, hm_Sequence, kit_self⟩,
      ty_Sequence := ty_Sequence,
      sf_S := sf_S,
      addA_S := at_Sequence___add__,
      addF_S := f_Sequence___add__,
      callO_S := ⟨at_Sequence___call__, f_Sequence___call__, fic_S⟩,
      x_FF := exm_of ex_InvalidFacts ic_InvalidFacts ty_InvalidFacts s_FF,
      x_SS := exm_of ex_StepFailed ic_StepFailed ty_StepFailed s_SS,
      r_FR := kit_sub ic_R ty_R s_FR,
      r_FL := kit_subB ic_L ty_L s_FL s_FF }
  exact fun base _ _ => ok_law T (fun_mk (st := s_law) l_law c_law k_law)
theorem walk {l : PySem.W.OpenLaw} {q : Program} {loose : List Str} {XP : (Str → Option Value) → Heap → Prop} {YP : World → Heap → Prop} {d : DefRec} {K : Params → PySem.W.Frag} (hn : l.most = some 63) (hdf : d.params.defaults = [])
    (hY : ∀ (w : World) (h : Heap), YP w h → (K w.params).In h)
    (F : ∀ (w : World) (mg : Str → Option Value) (fa : Addr) (h : Heap), (K w.params).In h → h.Ns mainGlobals mg → mg d.name = some (.ref fa) →
      ∀ base : Heap, (K w.params).In base → base.Ns mainGlobals mg → FnG l.prog w (K w.params) mg base CX0 14 fa (spLaw (K w.params))) :
    PySem.W.WalkO q loose XP YP l.row.toRowW d [] (fun f vs => PySem.call f vs) :=
  walkG (n := 63) (k := 14) (CX := fun _ => CX0) (sp := fun w => spLaw (K w.params)) hn (by decide) hdf ⟨rfl, by decide, by decide⟩ hY F (fun _ _ a ns hl _ hS => ⟨a, ns, rfl, hS, hl, fun _ => rfl⟩) fun _ _ _ _ _ z => z
end
end K43
open PySem PySem.W PyProof.Rows
set_option maxRecDepth 100000 in
set_option maxHeartbeats 0 in
theorem PySem.Challenge.cw_rankeffect_k43_sequences_that_agree_holds : PySem.Challenge.rw_rankeffect_k43_sequences_that_agree.Holds := by
  w_on; o_law; k_head; (case hw => w_witness2)
  k_fill
  refine K43.walk (l := PySem.Challenge.rw_rankeffect_k43_sequences_that_agree) rfl rfl (fun w h Y => PySem.W.kIn_of Y) ?F
  case F =>
    intro w mg fa h KX G hmg
    refine' K43.all_mk KX G hmg ?a_is_integer ?a_is_rank ?a_is_number_list ?a_is_fact ?a_is_fact_list ?a_result_of ?a_agrees ?a_agreeing ?a_ascending ?a_after_step ?a_law_pool ?a_law_take ?a_law_step ?a_law_steps ?a_law_sequence ?a_law_done ?a_law_fact ?a_law_agrees ?a_law_error ?a_law ?a_RankError ?a_InvalidFacts ?a_StepFailed ?a_InvalidList ?a_Sequence ?at_Sequence___init__ ?f_Sequence___init__ ?at_Sequence___add__ ?f_Sequence___add__ ?at_Sequence___call__ ?f_Sequence___call__ ?pat_steps ?rec_steps ?get_steps ?tak_steps ?at_is_step ?rec_is_step ?sty_is_step ?get_is_step ?tak_is_step ?cls_is_step ?rds_Sequence ?rga_Sequence ?z_type ?z_int ?z_list ?z_tuple ?z_str ?z_len ?z_isinstance ?z_abs ?z_max ?z_min ?z_range ?z_repr ?z_all ?z_enumerate ?z_sorted ?xl_InvalidFacts ?sa_InvalidFacts ?ex_InvalidFacts ?ty_InvalidFacts ?kc_InvalidFacts ?in_InvalidFacts ?ti_InvalidFacts ?no_InvalidFacts ?ga_InvalidFacts ?gg_InvalidFacts ?hd_InvalidFacts ?ha_InvalidFacts ?hm_InvalidFacts ?ic_InvalidFacts ?xl_StepFailed ?sa_StepFailed ?ex_StepFailed ?ty_StepFailed ?kc_StepFailed ?in_StepFailed ?ti_StepFailed ?no_StepFailed ?ga_StepFailed ?gg_StepFailed ?hd_StepFailed ?ha_StepFailed ?hm_StepFailed ?ic_StepFailed ?l_is_integer ?c_is_integer ?k_is_integer ?l_is_rank ?c_is_rank ?k_is_rank ?l_is_number_list ?c_is_number_list ?k_is_number_list ?l_InvalidFacts___init__ ?c_InvalidFacts___init__ ?k_InvalidFacts___init__ ?l_StepFailed___init__ ?c_StepFailed___init__ ?k_StepFailed___init__ ?l_is_fact ?c_is_fact ?k_is_fact ?l_is_fact_list ?c_is_fact_list ?k_is_fact_list ?l_result_of ?c_result_of ?k_result_of ?l_agrees ?c_agrees ?k_agrees ?l_agreeing ?c_agreeing ?k_agreeing ?l_ascending ?c_ascending ?k_ascending ?l_after_step ?c_after_step ?k_after_step ?l_Sequence___init__ ?c_Sequence___init__ ?k_Sequence___init__ ?l_Sequence_is_step ?c_Sequence_is_step ?k_Sequence_is_step ?l_Sequence_steps ?c_Sequence_steps ?k_Sequence_steps ?l_Sequence___add__ ?c_Sequence___add__ ?k_Sequence___add__ ?l_Sequence___call__ ?c_Sequence___call__ ?k_Sequence___call__ ?l_law_pool ?c_law_pool ?k_law_pool ?l_law_take ?c_law_take ?k_law_take ?l_law_step ?c_law_step ?k_law_step ?l_law_steps ?c_law_steps ?k_law_steps ?l_law_sequence ?c_law_sequence ?k_law_sequence ?l_law_done ?c_law_done ?k_law_done ?l_law_fact ?c_law_fact ?k_law_fact ?l_law_agrees ?c_law_agrees ?k_law_agrees ?l_law_error ?c_law_error ?k_law_error ?l_law ?c_law ?k_law ?hn ?htk ?pg_Sequence ?hd_Sequence ?po_Sequence ?sa_Sequence ?mkI_Sequence ?kc_Sequence ?ha_Sequence ?hm_Sequence ?ic_Sequence ?ty_Sequence ?n_steps ?sf_S ?fic_S ?s_FF ?s_SS ?s_FR ?s_FL ?ic_R ?ty_R ?ic_L ?ty_L
    (case a_is_integer => first | k_is | rfl)
    (case a_is_rank => first | k_is | rfl)
    (case a_is_number_list => first | k_is | rfl)
    (case a_is_fact => first | k_is | rfl)
    (case a_is_fact_list => first | k_is | rfl)
    (case a_result_of => first | k_is | rfl)
    (case a_agrees => first | k_is | rfl)
    (case a_agreeing => first | k_is | rfl)
    (case a_ascending => first | k_is | rfl)
    (case a_after_step => first | k_is | rfl)
    (case a_law_pool => first | k_is | rfl)
    (case a_law_take => first | k_is | rfl)
    (case a_law_step => first | k_is | rfl)
    (case a_law_steps => first | k_is | rfl)
    (case a_law_sequence => first | k_is | rfl)
    (case a_law_done => first | k_is | rfl)
    (case a_law_fact => first | k_is | rfl)
    (case a_law_agrees => first | k_is | rfl)
    (case a_law_error => first | k_is | rfl)
    (case a_law => first | k_is | rfl)
    (case a_RankError => first | k_is | rfl)
    (case a_InvalidFacts => first | k_is | rfl)
    (case a_StepFailed => first | k_is | rfl)
    (case a_InvalidList => first | k_is | rfl)
    (case a_Sequence => first | k_is | rfl)
    (case at_Sequence___init__ => first | k_is | rfl)
    (case f_Sequence___init__ => first | k_is | rfl)
    (case at_Sequence___add__ => first | k_is | rfl)
    (case f_Sequence___add__ => first | k_is | rfl)
    (case at_Sequence___call__ => first | k_is | rfl)
    (case f_Sequence___call__ => first | k_is | rfl)
    (case pat_steps => first | k_is | rfl)
    (case rec_steps => first | k_is | rfl)
    (case get_steps => first | k_is | rfl)
    (case tak_steps => first | k_is | rfl)
    (case at_is_step => first | k_is | rfl)
    (case rec_is_step => first | k_is | rfl)
    (case sty_is_step => first | k_is | rfl)
    (case get_is_step => first | k_is | rfl)
    (case tak_is_step => first | k_is | rfl)
    (case cls_is_step => first | k_is | rfl)
    (case rds_Sequence => first | k_is | rfl)
    (case rga_Sequence => first | k_is | rfl)
    (case z_type => first | k_is | rfl)
    (case z_int => first | k_is | rfl)
    (case z_list => first | k_is | rfl)
    (case z_tuple => first | k_is | rfl)
    (case z_str => first | k_is | rfl)
    (case z_len => first | k_is | rfl)
    (case z_isinstance => first | k_is | rfl)
    (case z_abs => first | k_is | rfl)
    (case z_max => first | k_is | rfl)
    (case z_min => first | k_is | rfl)
    (case z_range => first | k_is | rfl)
    (case z_repr => first | k_is | rfl)
    (case z_all => first | k_is | rfl)
    (case z_enumerate => first | k_is | rfl)
    (case z_sorted => first | k_is | rfl)
    (case xl_InvalidFacts => first | k_is | rfl)
    (case sa_InvalidFacts => first | k_is | rfl)
    (case ex_InvalidFacts => first | k_is | rfl)
    (case ty_InvalidFacts => first | k_is | rfl)
    (case kc_InvalidFacts => first | k_is | rfl)
    (case in_InvalidFacts => first | k_is | rfl)
    (case ti_InvalidFacts => first | k_is | rfl)
    (case no_InvalidFacts => first | k_is | rfl)
    (case ga_InvalidFacts => first | k_is | rfl)
    (case gg_InvalidFacts => first | k_is | rfl)
    (case hd_InvalidFacts => first | k_is | rfl)
    (case ha_InvalidFacts => first | k_is | rfl)
    (case hm_InvalidFacts => first | k_is | rfl)
    (case ic_InvalidFacts => first | k_is | rfl)
    (case xl_StepFailed => first | k_is | rfl)
    (case sa_StepFailed => first | k_is | rfl)
    (case ex_StepFailed => first | k_is | rfl)
    (case ty_StepFailed => first | k_is | rfl)
    (case kc_StepFailed => first | k_is | rfl)
    (case in_StepFailed => first | k_is | rfl)
    (case ti_StepFailed => first | k_is | rfl)
    (case no_StepFailed => first | k_is | rfl)
    (case ga_StepFailed => first | k_is | rfl)
    (case gg_StepFailed => first | k_is | rfl)
    (case hd_StepFailed => first | k_is | rfl)
    (case ha_StepFailed => first | k_is | rfl)
    (case hm_StepFailed => first | k_is | rfl)
    (case ic_StepFailed => first | k_is | rfl)
    (case l_is_integer => first | k_is | rfl)
    (case c_is_integer => first | k_is | rfl)
    (case k_is_integer => first | k_is | rfl)
    (case l_is_rank => first | k_is | rfl)
    (case c_is_rank => first | k_is | rfl)
    (case k_is_rank => first | k_is | rfl)
    (case l_is_number_list => first | k_is | rfl)
    (case c_is_number_list => first | k_is | rfl)
    (case k_is_number_list => first | k_is | rfl)
    (case l_InvalidFacts___init__ => first | k_is | rfl)
    (case c_InvalidFacts___init__ => first | k_is | rfl)
    (case k_InvalidFacts___init__ => first | k_is | rfl)
    (case l_StepFailed___init__ => first | k_is | rfl)
    (case c_StepFailed___init__ => first | k_is | rfl)
    (case k_StepFailed___init__ => first | k_is | rfl)
    (case l_is_fact => first | k_is | rfl)
    (case c_is_fact => first | k_is | rfl)
    (case k_is_fact => first | k_is | rfl)
    (case l_is_fact_list => first | k_is | rfl)
    (case c_is_fact_list => first | k_is | rfl)
    (case k_is_fact_list => first | k_is | rfl)
    (case l_result_of => first | k_is | rfl)
    (case c_result_of => first | k_is | rfl)
    (case k_result_of => first | k_is | rfl)
    (case l_agrees => first | k_is | rfl)
    (case c_agrees => first | k_is | rfl)
    (case k_agrees => first | k_is | rfl)
    (case l_agreeing => first | k_is | rfl)
    (case c_agreeing => first | k_is | rfl)
    (case k_agreeing => first | k_is | rfl)
    (case l_ascending => first | k_is | rfl)
    (case c_ascending => first | k_is | rfl)
    (case k_ascending => first | k_is | rfl)
    (case l_after_step => first | k_is | rfl)
    (case c_after_step => first | k_is | rfl)
    (case k_after_step => first | k_is | rfl)
    (case l_Sequence___init__ => first | k_is | rfl)
    (case c_Sequence___init__ => first | k_is | rfl)
    (case k_Sequence___init__ => first | k_is | rfl)
    (case l_Sequence_is_step => first | k_is | rfl)
    (case c_Sequence_is_step => first | k_is | rfl)
    (case k_Sequence_is_step => first | k_is | rfl)
    (case l_Sequence_steps => first | k_is | rfl)
    (case c_Sequence_steps => first | k_is | rfl)
    (case k_Sequence_steps => first | k_is | rfl)
    (case l_Sequence___add__ => first | k_is | rfl)
    (case c_Sequence___add__ => first | k_is | rfl)
    (case k_Sequence___add__ => first | k_is | rfl)
    (case l_Sequence___call__ => first | k_is | rfl)
    (case c_Sequence___call__ => first | k_is | rfl)
    (case k_Sequence___call__ => first | k_is | rfl)
    (case l_law_pool => first | k_is | rfl)
    (case c_law_pool => first | k_is | rfl)
    (case k_law_pool => first | k_is | rfl)
    (case l_law_take => first | k_is | rfl)
    (case c_law_take => first | k_is | rfl)
    (case k_law_take => first | k_is | rfl)
    (case l_law_step => first | k_is | rfl)
    (case c_law_step => first | k_is | rfl)
    (case k_law_step => first | k_is | rfl)
    (case l_law_steps => first | k_is | rfl)
    (case c_law_steps => first | k_is | rfl)
    (case k_law_steps => first | k_is | rfl)
    (case l_law_sequence => first | k_is | rfl)
    (case c_law_sequence => first | k_is | rfl)
    (case k_law_sequence => first | k_is | rfl)
    (case l_law_done => first | k_is | rfl)
    (case c_law_done => first | k_is | rfl)
    (case k_law_done => first | k_is | rfl)
    (case l_law_fact => first | k_is | rfl)
    (case c_law_fact => first | k_is | rfl)
    (case k_law_fact => first | k_is | rfl)
    (case l_law_agrees => first | k_is | rfl)
    (case c_law_agrees => first | k_is | rfl)
    (case k_law_agrees => first | k_is | rfl)
    (case l_law_error => first | k_is | rfl)
    (case c_law_error => first | k_is | rfl)
    (case k_law_error => first | k_is | rfl)
    (case l_law => first | k_is | rfl)
    (case c_law => first | k_is | rfl)
    (case k_law => first | k_is | rfl)
    (case hn => first | k_is | rfl)
    (case htk => first | k_is | rfl)
    (case pg_Sequence => first | k_is | rfl)
    (case hd_Sequence => first | k_is | rfl)
    (case po_Sequence => first | k_is | rfl)
    (case sa_Sequence => first | k_is | rfl)
    (case mkI_Sequence => first | k_is | rfl)
    (case kc_Sequence => first | k_is | rfl)
    (case ha_Sequence => first | k_is | rfl)
    (case hm_Sequence => first | k_is | rfl)
    (case ic_Sequence => first | k_is | rfl)
    (case ty_Sequence => first | k_is | rfl)
    (case n_steps => first | k_is | rfl)
    (case sf_S => first | k_is | rfl)
    (case fic_S => first | k_is | rfl)
    (case s_FF => first | k_is | rfl)
    (case s_SS => first | k_is | rfl)
    (case s_FR => first | k_is | rfl)
    (case s_FL => first | k_is | rfl)
    (case ic_R => first | k_is | rfl)
    (case ty_R => first | k_is | rfl)
    (case ic_L => first | k_is | rfl)
    (case ty_L => first | k_is | rfl)
