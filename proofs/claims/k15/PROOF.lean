import PyProof.Rows.All
import Wide.All
import OpenK.AllK
import Wide.FinOn
import HandS.ForMost
import HandS.ForExc
import HandS.Star
import HandS.SlotsOwn
import HandS.Zip
import HandS.SortInts
import HandS.Property
import HandS.TupAny
import HandS.IsInst
import PyProof.LongRange
import PyProof.FactsAll.object_2
import KE.GoesMore
import KE.GoesEnum
import HandS.Iter
import PyProof.TypeEq
import HandS.Codes
import HandS.NoneIn
import KE.KEqSeq
import HandS.ExcInit
import HandS.ExcField
import HandS.ExcIs
import HandS.WordsExc
import HandS.TryMany
import PyProof.ReprRoads
import HandS.Ends
import KE.KExcIs
import HandS.Style
import HandS.Dict
import PyProof.P3Eq
import HandS.ClsMeth
import PyProof.FString
import HandS.TupMul
import HandS.NamedTupGet
import HandS.Wide
import KE.KExcInit
import PyProof.TupleOfSeq
import HandS.SetFor
import HandS.MakeKwOnly
import HandS.OwnEq
import HandS.Strs
import HandS.CallLocal
import HandS.ExcOwn
import HandS.List
import PyProof.Rows.SumAny
import PyProof.TupleIter
import PyProof.WalksMore
import HandS.Conv
import PySem.Challenge.RW_rankeffect_k15_results_by_gaps
set_option Elab.async false
set_option linter.all false
set_option maxRecDepth 100000
set_option maxHeartbeats 4000000
namespace XT
open PySem PySem.Spec PyProof.Rows L2

section
variable {prog : Program} {w : World} {A : Around} {E : Value → Shared → Prop} {s : Shared} {K : PySem.W.Frag} {x C f : Addr} {ox : Obj} {od : Option Obj}
/-- the answer of an own __ne__ that is the object's: an own __eq__ is asked -/
theorem ne_body {y : Value} {R : Fin → Shared → Prop} (hu : A.units < cLine) (X : K.In s.heap) (I : PySem.W.InstAt s.heap x ox C od)
    (hs : PySem.W.findIn K (.ref C) "__eq__" = some (some (.ref f))) (hf : PySem.W.isFn K (.ref f) = true)
    (h : wpAny (model prog w) A (call (.ref f) [.ref x, y]) (fun r s1 => ∃ b, r = Value.bool b ∧ R (.done (.ret (.bool (!b)))) s1) E s) :
    wpAny (model prog w) A (Builtin.«object.__ne__» ⟨[.ref x, y], []⟩) R E s := by
  unfold Builtin.«object.__ne__»
  refine wpAny_bind (m := slotArgs "__ne__" 1 ⟨[.ref x, y], []⟩) (wpAny_pure ?_)
  dsimp only
  refine wpAny_bind (wpAny_cRoomFor hu ?_)
  refine wpAny_bind (m := callSpecialIfBound? (.ref x) (Str.ofString "__eq__") [y]) (PySem.W.ifBound_K X I hs hf (wpAny_mono h (fun r s' hr => ?_) fun _ _ e => e))
  obtain ⟨b, rfl, q⟩ := hr
  dsimp only
  refine wpAny_bind (m := truthy (.bool b)) (wpAny_pure ?_)
  exact wpAny_pure q
theorem ne_check {y : Value} {Q : Unit → Shared → Prop} (X : K.In s.heap) (I : PySem.W.InstAt s.heap x ox C od) (hs : PySem.W.subIn K (.ref C) (.type "object") = some true) (h : Q () s) :
    wpAny (model prog w) A (checkBuiltinCall "object.__ne__" ⟨[.ref x, y], []⟩) Q E s := by
  have hk : builtinKind "object.__ne__" = some .slot := by decide +kernel
  have hsp : splitId "object.__ne__" = some ("object", "__ne__") := by decide +kernel
  unfold checkBuiltinCall
  simp only [hk, hsp]
  refine wpAny_bind ?_
  unfold isInstance
  refine wpAny_bind (I.type.here ((PySem.W.looks_subIn X hs).here ?_))
  simp only [Bool.not_true, Bool.false_eq_true, if_false]
  have ha := PySem.F.args_object_ne_2 (.ref x) y
  cases hsig : Manifest.signature? "object.__ne__" with
  | none => exact wpAny_pure h
  | some sig =>
    simp only [argsOk, hsig] at ha
    have h2 : Bind.checkArgs "object.__ne__" sig ⟨[.ref x, y], []⟩ = pure () := ha
    show wpAny _ A (Bind.checkArgs "object.__ne__" sig ⟨[.ref x, y], []⟩) Q E s
    rw [h2]
    exact wpAny_pure h
/-- x != y, the class with an own __eq__ and no own __ne__ -/
theorem ne_own {y tb : Value} {Q : Value → Shared → Prop} (hu : A.units + 1 < cLine) (X : K.In s.heap) (I : PySem.W.InstAt s.heap x ox C od) (hb : PySem.W.Looks (model prog w) s.heap (typeOf y) tb) (hn : PySem.W.notFirst K C tb = true)
    (hne : PySem.W.findIn K (.ref C) "__ne__" = some (some (.builtin "object.__ne__"))) (ho : PySem.W.subIn K (.ref C) (.type "object") = some true)
    (hs : PySem.W.findIn K (.ref C) "__eq__" = some (some (.ref f))) (hf : PySem.W.isFn K (.ref f) = true)
    (h : wpAny (model prog w) A.in1 (call (.ref f) [.ref x, y]) (fun r s1 => ∃ b, r = Value.bool b ∧ Q (.bool (!b)) s1) E s) :
    wpAny (model prog w) A (richCompare .NotEq (.ref x) y) Q E s := by
  have hu0 : A.units < cLine := Nat.lt_of_le_of_lt (Nat.le_succ _) hu
  have run : wpAny (model prog w) A (call (.builtin "object.__ne__") [.ref x, y]) (fun r s1 => ∃ b, r = Value.bool b ∧ Q r s1) E s := by
    refine wpAny_call (codeAny_call_builtin PySem.F.slot_object_ne.plain PySem.F.entry_object_ne (ne_check X I ho ?_))
    refine ne_body (by simpa using hu) X I hs hf (wpAny_mono h (fun r s1 z => ?_) fun _ _ e => e)
    obtain ⟨b, rfl, q⟩ := z
    exact ⟨b, rfl, ⟨_, rfl, q⟩⟩
  have one : wpAny (model prog w) A (tryCompare (.ref x) "__ne__" y) (fun r s' => ∃ v, r = some v ∧ Q v s') E s := by
    unfold tryCompare
    refine wpAny_bind ?_
    simp only [callSpecialIfBound?, bindSpecialIfBound?]
    refine wpAny_holding (wpAny_bind (wpAny_bind (wpAny_bind (I.type.here ((PySem.W.looks_findIn X hne).here ?_)))))
    have fin : wpAny (model prog w) A (call (.builtin "object.__ne__") ([.ref x] ++ [y]) >>= fun v => pure (some v)) (fun r s' => wpAny (model prog w) A (match r with | some .notImplemented | none => pure none | some v => pure (some v)) (fun r s' => ∃ v, r = some v ∧ Q v s') E s') E s := by
      refine wpAny_bind (wpAny_mono run (fun v s' z => ?_) fun _ _ e => e)
      obtain ⟨b, rfl, q⟩ := z
      exact wpAny_pure (wpAny_pure ⟨_, rfl, q⟩)
    refine wpAny_bind (wpAny_askSetting (wpAny_ite ?_))
    split
    · exact wpAny_bind (wpAny_of_eq (PySem.F.slot_object_ne.bind (.ref x)) (wpAny_pure (by exact fin)))
    · exact wpAny_tryCatch (wpAny_bind (wpAny_of_eq (PySem.F.slot_object_ne.bind (.ref x)) (wpAny_pure (by exact fin))))
  unfold richCompare
  simp only [oneThing_ref]
  refine wpAny_holding (wpAny_bind (wpAny_cRoomFor hu0 ?_))
  refine wpAny_bind (I.type.here (wpAny_bind (hb.here ?_)))
  split
  · rename_i q
    have e : PySem.W.subIn K tb (.ref C) = some false := by
      rcases Bool.or_eq_true_iff.mp hn with e | e
      · rw [beq_iff_eq.mp e] at q; simp at q
      · exact beq_iff_eq.mp e
    refine wpAny_bind ((PySem.W.looks_subIn X e).here ?_)
    simp only [Bool.false_eq_true, if_false]
    refine wpAny_bind (wpAny_mono one (fun r s' z => ?_) fun _ _ e => e)
    obtain ⟨v, rfl, hq⟩ := z
    exact wpAny_pure hq
  · refine wpAny_bind (wpAny_pure ?_)
    simp only [Bool.false_eq_true, if_false]
    refine wpAny_bind (wpAny_mono one (fun r s' z => ?_) fun _ _ e => e)
    obtain ⟨v, rfl, hq⟩ := z
    exact wpAny_pure hq
theorem type_bool : isType (.type "bool") = pure true := by first | rfl | kernel_rfl | (unfold isType; rw [isSubtype_type]; kernel_rfl)
/-- bool(x) by an own __bool__ -/
theorem bool_own {Q : Value → Shared → Prop} (X : K.In s.heap) (I : PySem.W.InstAt s.heap x ox C od) (hs : PySem.W.findIn K (.ref C) "__bool__" = some (some (.ref f))) (hf : PySem.W.isFn K (.ref f) = true)
    (h : wpAny (model prog w) A.in1.in1 (call (.ref f) [.ref x]) (fun r s1 => ∃ b, r = Value.bool b ∧ Q r s1) E s) : wpAny (model prog w) A (call (.type "bool") [.ref x]) Q E s := by
  refine callType_codes (T := "bool") (Bi := Builtin.«object.__init__») (Q₁ := fun r s1 => ∃ b, r = Value.bool b ∧ Q r s1) PySem.F.called_bool (PySem.F.typeCall_bool_1 _) PySem.F.entry_object_init ?_ ?_
  · refine codeAny_of_tree ?_
    show wpAny _ A.in1.in1 (do checkBuiltinCall "bool.__new__" ⟨[.type "bool", .ref x], []⟩; again (.builtin "bool.__new__" ⟨[.type "bool", .ref x], []⟩)) _ _ s
    refine wpAny_bind (wpAny_of_eq (PySem.F.newCall_bool_1 _) (wpAny_pure ⟨plainId_quiet (by decide +kernel) _, codeAny_builtin PySem.F.entry_bool_new ?_⟩))
    rw [Around.under_plainId (by decide +kernel) _]
    unfold Builtin.«bool.__new__»
    refine wpAny_bind (wpAny_of_eq (a := true) type_bool ?_)
    refine PySem.W.KFB.if_not rfl ?_
    refine wpAny_bind (wpAny_of_eq (a := true) PySem.F.conv_sub_bool ?_)
    refine PySem.W.KFB.if_not rfl ?_
    refine wpAny_bind (m := someArgs "bool" 0 1 _) (wpAny_of_eq (a := [Value.ref x]) (by first | rfl | kernel_rfl | simp [someArgs]) ?_)
    dsimp only
    refine wpAny_bind (m := truthy (.ref x)) ?_
    unfold truthy
    refine wpAny_bind (m := callSpecial? (.ref x) (Str.ofString "__bool__")) (PySem.W.special_fn X I hs (beq_iff_eq.mp hf) (wpAny_mono h (fun r s' hr => ?_) fun _ _ y => y))
    obtain ⟨b, rfl, hq⟩ := hr
    exact wpAny_pure (wpAny_pure ⟨b, rfl, hq⟩)
  · rintro obj s₁ ⟨b, rfl, hq⟩
    exact ⟨PySem.typeIs_bool _ _, PySem.F.args_object_init_2 _ _, object_init_meets PySem.F.called_bool.init.lookup PySem.F.called_bool.made (by decide) prog w A.in1 _ s₁ ⟨PySem.typeIs_bool _ _, rfl, hq⟩⟩
end
/-! ### operators of instances of own classes -/
/-- an instance of the class at C -/
def InsA (H : Hp) (a C : Addr) : Prop := ∃ dx fs, H a = some (.ins C dx fs)
section
variable {X : Cx} {CX : CXT} {n : Nat} {C g : Addr} {sp : Sp} {E : XK}
theorem insA_at {pins : List (Addr × Obj)} {σ : L2.St} {H : Hp} {s : Shared} {a : Addr} (I : Inv X pins σ H s) (h : InsA H a C) : ∃ ox od, PySem.W.InstAt s.heap a ox C od := by
  obtain ⟨dx, fs, h⟩ := h
  obtain ⟨mA, O, _⟩ := ins_get I.hok h
  obtain ⟨od, J, _⟩ := O.look
  exact ⟨_, _, J⟩
/-- x op y, both instances of the class at C, which has a def for it at g -/
def rOwnB (C : Addr) (sp : Sp) (E : XK) : R2 := fun x y H Q => ∃ a b, x = .ref a ∧ y = .ref b ∧ InsA H a C ∧ InsA H b C ∧ sp [x, y] H Q E
theorem op_ownB {op : Operator} (hc : PySem.W.selfFirst X.K C = true) (hs : PySem.W.findIn X.K (.ref C) (PySem.dunder op.info.2) = some (some (.ref g))) (hf : PySem.W.isFn X.K (.ref g) = true) (F : FnR X.prog X.w X.K X.mg X.base CX n g sp)
    (hr : Room n X.A) (hx : Passes CX X E) : OpR X (binaryOp op) (rOwnB C sp E) := by
  intro pins s σ H x y v u Q I rx ry h
  obtain ⟨a, b, rfl, rfl, ha, hb, q⟩ := h
  cases (show v = Value.ref a from rx)
  cases (show u = Value.ref b from ry)
  obtain ⟨ox, od, J⟩ := insA_at I ha
  obtain ⟨oy, oe, J'⟩ := insA_at I hb
  obtain ⟨m, hF⟩ := I.fr
  refine PySem.W.binop_K (op := op) hF I.ok.mod.kin J J'.type hc hs hf ?_
  refine wpAny_mono (wpAny_call (run_fnR (us := [.ref a, .ref b]) (vs := [.ref a, .ref b]) F hr hx I (.cons rfl (.cons rfl .nil)) q)) (fun w s' z => ?_) fun _ _ x => x
  obtain ⟨z', H', I', rz, qz⟩ := z
  exact SlX.cmpback rz ⟨z', H', I', rz, qz⟩
/-- x == y -/
theorem op_ownE (hs : PySem.W.findIn X.K (.ref C) "__eq__" = some (some (.ref g))) (hf : PySem.W.isFn X.K (.ref g) = true) (F : FnR X.prog X.w X.K X.mg X.base CX n g sp)
    (hr : Room n X.A) (hx : Passes CX X E) : OpR X (compareOp .Eq) (rOwnB C sp E) := by
  intro pins s σ H x y v u Q I rx ry h
  obtain ⟨a, b, rfl, rfl, ha, hb, q⟩ := h
  cases (show v = Value.ref a from rx)
  cases (show u = Value.ref b from ry)
  obtain ⟨ox, od, J⟩ := insA_at I ha
  obtain ⟨oy, oe, J'⟩ := insA_at I hb
  obtain ⟨m, hF⟩ := I.fr
  show wpAny _ _ (richCompare .Eq _ _) _ _ _
  refine PySem.W.cmp_K (op := .Eq) (tb := .ref C) hr.units0 hF I.ok.mod.kin J J'.type (by unfold PySem.W.notFirst; simp) hs hf ?_
  refine wpAny_mono (wpAny_call (run_fnR (us := [.ref a, .ref b]) (vs := [.ref a, .ref b]) F hr hx I (.cons rfl (.cons rfl .nil)) q)) (fun w s' z => ?_) fun _ _ x => x
  obtain ⟨z', H', I', rz, qz⟩ := z
  exact SlX.cmpback rz ⟨z', H', I', rz, qz⟩
/-- x != y, by == -/
def rOwnN (C : Addr) (sp : Sp) (E : XK) : R2 := fun x y H Q => ∃ a b, x = .ref a ∧ y = .ref b ∧ InsA H a C ∧ InsA H b C ∧ sp [x, y] H (fun z H' => ∃ k, z = .bl k ∧ Q (.bl (!k)) H') E
theorem op_ownN (hne : PySem.W.findIn X.K (.ref C) "__ne__" = some (some (.builtin "object.__ne__"))) (ho : PySem.W.subIn X.K (.ref C) (.type "object") = some true)
    (hs : PySem.W.findIn X.K (.ref C) "__eq__" = some (some (.ref g))) (hf : PySem.W.isFn X.K (.ref g) = true) (F : FnR X.prog X.w X.K X.mg X.base CX n g sp)
    (hr : Room (n + 1) X.A) (hx : Passes CX X E) : OpR X (compareOp .NotEq) (rOwnN C sp E) := by
  intro pins s σ H x y v u Q I rx ry h
  obtain ⟨a, b, rfl, rfl, ha, hb, q⟩ := h
  cases (show v = Value.ref a from rx)
  cases (show u = Value.ref b from ry)
  obtain ⟨ox, od, J⟩ := insA_at I ha
  obtain ⟨oy, oe, J'⟩ := insA_at I hb
  show wpAny _ _ (richCompare .NotEq _ _) _ _ _
  refine ne_own (tb := .ref C) (by have := hr.units; omega) I.kIn J J'.type (by unfold PySem.W.notFirst; simp) hne ho hs hf ?_
  refine wpAny_mono (wpAny_call (SlX.run_at (us := [.ref a, .ref b]) (ws := [.ref a, .ref b]) F hr.in1 I.env0.in1 hx I (.cons rfl (.cons rfl .nil)) q)) (fun w s' z => ?_) fun _ _ x => x
  obtain ⟨z', H', I', rz, k, rfl, qz⟩ := z
  cases (show w = Value.bool k from rz)
  exact ⟨k, rfl, .bl (!k), H', I', rfl, qz⟩
/-- bool(x) -/
def rBoolO (C : Addr) (sp : Sp) (E : XK) : List V → Hp → VK → Prop := fun xs H Q => ∃ a, xs = [V.ref a] ∧ InsA H a C ∧ sp xs H (fun z H' => ∃ k, z = .bl k ∧ Q z H') E
theorem call_boolO (hs : PySem.W.findIn X.K (.ref C) "__bool__" = some (some (.ref g))) (hf : PySem.W.isFn X.K (.ref g) = true) (F : FnR X.prog X.w X.K X.mg X.base CX n g sp) (hr : Room (n + 2) X.A) (hx : Passes CX X E) : CallR X (.type "bool") (rBoolO C sp E) := by
  intro pins s σ H xs us Q I r h
  obtain ⟨a, rfl, ha, q⟩ := h
  obtain ⟨u, rfl, ru⟩ := r.one
  cases (show u = Value.ref a from ru)
  obtain ⟨ox, od, J⟩ := insA_at I ha
  have hr2 : Room n X.A.in1.in1 := (show Room (n + 1) X.A.in1 from Room.in1 hr).in1
  refine bool_own I.kIn J hs hf (wpAny_mono (wpAny_call (SlX.run_at (us := [.ref a]) (ws := [.ref a]) F hr2 I.env0.in1.in1 hx I (.cons rfl .nil) q)) (fun w s' z => ?_) fun _ _ x => x)
  obtain ⟨z', H', I', rz, k, rfl, qz⟩ := z
  cases (show w = Value.bool k from rz)
  exact ⟨k, rfl, .bl k, H', I', rfl, qz⟩
end
end XT

namespace XT
open PySem PySem.Spec PyProof.Rows L2
/-! ### range(a, b) of ints of any size -/
theorem turn_lrange {P : Program} {w : World} {K : PySem.W.Frag} {tg : Expr} (it : Addr) (lo : Int) (n : Nat) : Turn P w K tg (Itr lo n) [it] it (fun i h => IsLongIter h it (lo + (i : Nat) * 1) ((n : Int) - (i : Nat)) 1) where
  mem := by simp
  obj := fun i h st b hb => by
    have e : b = it := by simpa using hb
    subst e
    exact ⟨_, st, fun v z => by
      have z' : Data.fields _ = Data.cell v := z
      cases z'⟩
  keep := fun i h h' st k => k it (by simp) _ st
  item := by
    intro X hP hw hK hc i pins s σ H E I hf st hg
    subst hP hw hK
    obtain ⟨f0, f1, f2, f3, f4, f5⟩ := hf it (by simp)
    have W := Walks.longrange (prog := X.prog) (w := X.w) (I.ok.hd hc) it lo 1 n
    refine W.item i s _ _ hg st fun v h' tk hv st' kk => ?_
    obtain ⟨t, rfl⟩ := hv
    have I1 : Inv X pins σ H { s with heap := h', toks := tk } := I.turned (fun b o hb e => kk b o (by simpa using hb) e) f0 f1 f3 f4 f5
    refine ⟨_, rfl, go_of (s := { s with heap := h', toks := tk }) (n := "longrange_iterator") st' rfl rfl (by decide) ⟨.int (lo + i), H, I1, ⟨t, ?_⟩, ⟨rfl, rfl⟩, st', fun b hb => (hf b hb).1⟩⟩
    rw [Int.mul_one]
  done := by
    intro X hP hw hK hc i pins s σ H E I hf st hg
    subst hP hw hK
    obtain ⟨f0, f1, f2, f3, f4, f5⟩ := hf it (by simp)
    exact wpAny_pyNext_long_end (I.ok.hd hc) st (by have : n ≤ i := hg; omega) fun h' eb => ⟨rfl, I.turned (t' := s.toks) (fun b o hb e => eb b o hb e) f0 f1 f3 f4 f5⟩
  self := fun _ _ _ _ _ st h => wpAny_pyIter_longiter st h
section
variable {X : Cx} {tg : Expr}
theorem lrange_it {pins : List (Addr × Obj)} {σ : L2.St} {H : Hp} {s : Shared} {R : It → Hp → Prop} {E : Value → Shared → Prop} {lo hi : Int} {t u v : Tok} {tk : Nat} (I : Inv X pins σ H s)
    (q : R (Itr lo (hi - lo).toNat) H) : wpAny (model X.prog X.w) X.A (pyIter (.ref s.heap.objs.size)) (PIE X pins σ tg R) E { s with heap := s.heap.push { cls := .type "range", data := .fields #[.int lo t, .int hi u, .int 1 v] }, toks := tk } := by
  have I1 : Inv X pins σ H { s with heap := s.heap.push { cls := .type "range", data := .fields #[.int lo t, .int hi u, .int 1 v] }, toks := tk } := I.kept fun b o e => Heap.get?_push_of_some _ e
  have e1 : lo + ((0 : Nat) : Int) * 1 = lo := by simp
  have e2 : (((hi - lo).toNat : Nat) : Int) - ((0 : Nat) : Int) = Builtin.Range.rangeSize lo hi 1 := by rw [rangeSize_one]; split <;> omega
  have fp : ∀ b ∈ [(s.heap.push { cls := .type "range", data := .fields #[.int lo t, .int hi u, .int 1 v] }).objs.size], FpOk X pins H b := fun b hb => by
    have e : b = (s.heap.push { cls := .type "range", data := .fields #[.int lo t, .int hi u, .int 1 v] }).objs.size := by simpa using hb
    subst e
    exact I1.fpOk (Nat.le_refl _) (I1.hok.fresh (Nat.le_refl _))
  cases hsm : Builtin.Range.small lo hi 1 with
  | true =>
    refine wpAny_pyIter_range (IsRange.new ..) hsm ?_
    refine ⟨(s.heap.push { cls := .type "range", data := .fields #[.int lo t, .int hi u, .int 1 v] }).objs.size, [(s.heap.push { cls := .type "range", data := .fields #[.int lo t, .int hi u, .int 1 v] }).objs.size], _, _, H, rfl,
      I1.kept (t' := tk) fun b o e => Heap.get?_push_of_some _ e, turn_range _ lo (hi - lo).toNat, ?_, fp, q⟩
    show IsRangeIter _ _ (lo + ((0 : Nat) : Int) * 1) ((((hi - lo).toNat : Nat) : Int) - ((0 : Nat) : Int)) 1
    rw [e1, e2]
    exact Heap.get?_push_size _ rfl
  | false =>
    refine wpAny_pyIter_longrange (IsRange.new ..) hsm ?_
    refine ⟨(s.heap.push { cls := .type "range", data := .fields #[.int lo t, .int hi u, .int 1 v] }).objs.size, [(s.heap.push { cls := .type "range", data := .fields #[.int lo t, .int hi u, .int 1 v] }).objs.size], _, _, H, rfl,
      I1.kept (t' := tk) fun b o e => Heap.get?_push_of_some _ e, turn_lrange _ lo (hi - lo).toNat, ?_, fp, q⟩
    show IsLongIter _ _ (lo + ((0 : Nat) : Int) * 1) ((((hi - lo).toNat : Nat) : Int) - ((0 : Nat) : Int)) 1
    rw [e1, e2]
    exact Heap.get?_push_size _ rfl
def iRngW1 (ta : TA) : TI := fun σ H R => ta σ H fun vs H1 => ∃ j : Int, vs = [.int j] ∧ R (Itr 0 j.toNat) H1
def iRngW2 (ta : TA) : TI := fun σ H R => ta σ H fun vs H1 => ∃ i j : Int, vs = [.int i, .int j] ∧ R (Itr i (j - i).toNat) H1
theorem pi_rng1 {a : Expr} {ta : TA} {p pos : Pos} (hg : Gl X "range") (hm : X.mg "range" = none) (ha : PA X [a] ta) (hs : starEach [a] X.env = [(false, eval a X.env)] := by rfl) : PI X tg (.Call (.Name "range" p) [a] [] pos) (iRngW1 ta) := by
  refine ⟨fun pins s σ H R I h => ?_⟩
  refine Call_ (ld_blt I hg hm boot_range (PyProof.Rows.callWith_type1 (thn (ha.run pos pins s σ H _ I h) fun us s1 ⟨vs, H1, I1, r1, q1⟩ => ?_) hs rfl))
  obtain ⟨j, e, q⟩ := q1
  subst e
  cases r1 with
  | cons r rr =>
    cases rr
    obtain ⟨t, rfl⟩ := r
    exact call_range_1 (lrange_it I1 (by simpa using q))
theorem pi_rng2 {a b : Expr} {ta : TA} {p pos : Pos} (hg : Gl X "range") (hm : X.mg "range" = none) (ha : PA X [a, b] ta) (hs : starEach [a, b] X.env = [(false, eval a X.env), (false, eval b X.env)] := by rfl) (hs2 : starEach [b] X.env = [(false, eval b X.env)] := by rfl) :
    PI X tg (.Call (.Name "range" p) [a, b] [] pos) (iRngW2 ta) := by
  refine ⟨fun pins s σ H R I h => ?_⟩
  refine Call_ (ld_blt I hg hm boot_range (PyProof.Rows.callWith_type1 (thn (ha.run pos pins s σ H _ I h) fun us s1 ⟨vs, H1, I1, r1, q1⟩ => ?_) (by rw [hs, hs2]) (by rw [hs2]; rfl)))
  obtain ⟨i, j, e, q⟩ := q1
  subst e
  cases r1 with
  | cons r rr =>
    cases rr with
    | cons r' rr =>
      cases rr
      obtain ⟨t, rfl⟩ := r
      obtain ⟨t', rfl⟩ := r'
      exact call_range_2 (lrange_it I1 q)
end
/-! ### enumerate(tuple) -/
theorem meets_enumerate_newT (l : Addr) (items : Array Value) (n : Nat) (dct : Option Addr) (sl : Array (Option Value)) :
    Meets (Builtin.«enumerate.__new__» ⟨[.type "enumerate", .ref l], []⟩) (fun _ R s => s.heap.get? l = some { cls := .type "tuple", dict := dct, data := .seq items n, slots := sl } ∧
      R (.ok (.ret (.ref (s.heap.push { cls := .type "tuple_iterator", data := .fields #[.ref l, .int 0 0] }).objs.size)))
        { s with heap := (s.heap.push { cls := .type "tuple_iterator", data := .fields #[.ref l, .int 0 0] }).push { cls := .type "enumerate", data := .fields #[.none, .bool false, .ref s.heap.objs.size, rawInt 0, .none, .none] } }) :=
  .of_wp fun prog w A R s h => by
    obtain ⟨hp, g, d, tk, os⟩ := s; obtain ⟨hl, h⟩ := h
    have hsub := sub_enumerate
    have hL : Heap.IsTuple (Shared.heap ⟨hp, g, d, tk, os⟩) l items := ⟨_, hl, rfl, n, rfl⟩
    wp_walk using AutoSeq1.wpAny_loadPart' hl
    refine wpAny_stack_any fun st => wpAny_pure ?_
    split
    · rename_i c _ _ _ _ _
      cases (c == Value.type "enumerate")
      · wp_walk using AutoSeq1.wpAny_loadPart' hl, wpAny_pyIter_tuple hL
        exact ⟨_, rfl, h⟩
      · wp_walk using AutoSeq1.wpAny_loadPart' hl, wpAny_pyIter_tuple hL
        exact ⟨_, rfl, h⟩
    · wp_walk using AutoSeq1.wpAny_loadPart' hl, wpAny_pyIter_tuple hL
      exact ⟨_, rfl, h⟩
theorem call_enumerate_tuple {prog : Program} {w : World} {A : Around} {E : Value → Shared → Prop} {s : Shared} {l : Addr} {items : Array Value} {Q : Value → Shared → Prop} (hL : s.heap.IsTuple l items)
    (h : ∀ h', IsEnum h' (s.heap.objs.size + 1) s.heap.objs.size 0 .none → h'.IsTupleIter s.heap.objs.size l 0 → h'.objs.size = s.heap.objs.size + 2 →
      (∀ b o, s.heap.get? b = some o → h'.get? b = some o) → Q (.ref (s.heap.objs.size + 1)) { s with heap := h' }) :
    wpAny (model prog w) A (call (.type "enumerate") [.ref l]) Q E s := by
  obtain ⟨⟨c, dct, dt, sl⟩, hl, hc, n, hd⟩ := hL
  replace hc : c = .type "tuple" := hc
  replace hd : dt = .seq items n := hd
  subst hc hd
  refine callType_new PySem.F.called_enumerate (by decide) (PySem.F.typeCall_enumerate_1 _) (PySem.F.newCall_enumerate_1 _) (fun obj => PySem.F.args_object_init_2 obj _) PySem.F.entry_enumerate_new
    (meets_enumerate_newT l items n dct sl) ⟨hl, ?_⟩
  have hz : (s.heap.push { cls := .type "tuple_iterator", data := .fields #[.ref l, .int 0 0] }).objs.size = s.heap.objs.size + 1 := Heap.size_push ..
  show _ ∧ _
  rw [hz]
  have he : IsEnum ((s.heap.push { cls := .type "tuple_iterator", data := .fields #[.ref l, .int 0 0] }).push
      { cls := .type "enumerate", data := .fields #[.none, .bool false, .ref s.heap.objs.size, rawInt 0, .none, .none] }) (s.heap.objs.size + 1) s.heap.objs.size 0 .none := by
    have := Heap.get?_push_size (s.heap.push { cls := .type "tuple_iterator", data := .fields #[.ref l, .int 0 0] })
      (o := { cls := .type "enumerate", data := .fields #[.none, .bool false, .ref s.heap.objs.size, rawInt 0, .none, .none] }) rfl
    rw [hz] at this; exact this
  refine ⟨⟨_, he, rfl⟩, h _ he ⟨_, Heap.get?_push_of_some _ (Heap.get?_push_size _ rfl), rfl, rfl⟩ (by rw [Heap.size_push, hz]) fun b o x => Heap.get?_push_of_some _ (Heap.get?_push_of_some _ x)⟩
def IteT (K : PySem.W.Frag) (a : Addr) : It :=
  ⟨fun i H => ∃ (xs : List V) (x : V), SqT K H a xs ∧ xs[i]? = some x, fun i H v H' => ∃ T x, v = .ref T ∧ H T = none ∧ H' = upd H T (.tup [.int (i : Nat), x]) ∧ ∀ xs, SqT K H a xs → xs[i]? = some x, fun i H => ∃ xs : List V, SqT K H a xs ∧ xs.length ≤ i⟩
theorem turn_enumT {P : Program} {w : World} {K : PySem.W.Frag} {elts : List Expr} {kk : Nat} {tpos : Pos} (a e it : Addr) :
    Turn P w K (.Tuple elts kk tpos) (IteT K a) [e, it] e (fun i h => (∃ old, IsEnum h e it ((i : Nat) : Int) old) ∧ h.IsTupleIter it a i ∧ e ≠ it ∧ a ≠ it ∧ a ≠ e) where
  mem := by simp
  obj := fun i h st b hb => by
    obtain ⟨⟨old, he⟩, ⟨o, ho, hc, hd⟩, _⟩ := st
    have e' : b = e ∨ b = it := by simpa using hb
    rcases e' with z | z
    · rw [z]; exact ⟨_, he, fun v q => nomatch q⟩
    · rw [z]; exact ⟨o, ho, fun v q => by rw [hd] at q; cases q⟩
  keep := fun i h h' st k => let ⟨⟨old, he⟩, hi, hne⟩ := st; ⟨⟨old, k e (by simp) _ he⟩, hi.at fun o q => k it (by simp) o q, hne⟩
  item := by
    intro X hP hw hK hc i pins s σ H E I hf st hg
    subst hP hw hK
    obtain ⟨⟨old, he⟩, hit, hne, hai, hae⟩ := st
    obtain ⟨xs, x, hq, hx⟩ := hg
    obtain ⟨its, rv, p, hz⟩ := I.tuple hq
    obtain ⟨u, hu, ru⟩ := rv.get hx
    have hel : e < s.heap.objs.size := Heap.lt_size he
    have hil : it < s.heap.objs.size := by obtain ⟨_, q, _⟩ := hit; exact Heap.lt_size q
    have D := Draws.tuple (prog := X.prog) (w := X.w) (A := X.A.in1) (by have := I.ok.hd hc; simpa using this) it a hai its.toArray
    have hp : s.heap.IsTuple a its.toArray := p
    have hl : i < its.toArray.size := by
      have := (List.getElem?_eq_some_iff.mp hu).1
      simpa using this
    refine wpAny_pyNext_enum_itemD D he ⟨hit, hp⟩ hl hne (by simp [hne, Ne.symm hae]) fun x' h' tk hP ho hSt hT hsz hk => ?_
    have hxu : x' = u := by
      have e1 : its.toArray[i]? = some u := by simpa using hu
      rw [e1] at hP
      exact (Option.some.inj hP).symm
    subst hxu
    refine ⟨_, rfl, wpAny_letOwnedTupleGo_enum (s := { s with heap := h', toks := tk + 1 }) ho fun h'' he' sb => ?_⟩
    have hT2 : h''.get? s.heap.objs.size = some { cls := .type "tuple", data := .seq #[.int i tk, x'] } := (sb.2 _ (Nat.ne_of_gt hel)).trans hT
    have new : ObjOk X.prog X.w (upd H s.heap.objs.size (.tup [.int (i : Nat), x])) h'' s.heap.objs.size (.tup [.int (i : Nat), x]) :=
      ⟨by show 2 ≤ sizeLine; decide, [.int i tk, x'], .cons ⟨_, rfl⟩ (.cons ru .nil), ⟨_, hT2, rfl, _, rfl⟩⟩
    have I1 : Inv X pins σ (upd H s.heap.objs.size (.tup [.int (i : Nat), x])) { s with heap := h'', toks := tk + 1 } :=
      I.turnedNew (ch := [e, it]) (fun b ob hb q => (sb.2 b (fun z => hb (by simp [z]))).trans (hk b ob (fun z => hb (by simp [z])) (fun z => hb (by simp [z])) q)) hf (Nat.le_refl _) new
    refine ⟨.ref s.heap.objs.size, _, I1, rfl, ⟨_, x, rfl, I.hok.fresh (Nat.le_refl _), rfl, fun ys hy => by rw [I.tuple_inj hy hq]; exact hx⟩, ⟨⟨x', ?_⟩, hSt.1.at fun o q => (sb.2 it (Ne.symm hne)).trans q, hne, hai, hae⟩, fun b hb => ?_⟩
    · have e1 : ((i + 1 : Nat) : Int) = (i : Int) + 1 := by omega
      rw [e1]; exact he'
    · have hb' : b < s.heap.objs.size := by
        have e' : b = e ∨ b = it := by simpa using hb
        rcases e' with z | z
        · rw [z]; exact hel
        · rw [z]; exact hil
      rw [upd_ne (Nat.ne_of_lt hb')]
      exact (hf b hb).1
  done := by
    intro X hP hw hK hc i pins s σ H E I hf st hg
    subst hP hw hK
    obtain ⟨⟨old, he⟩, hit, hne, hai, hae⟩ := st
    obtain ⟨xs, hq, hx⟩ := hg
    obtain ⟨its, rv, p, hz⟩ := I.tuple hq
    obtain ⟨f0, f1, f2, f3, f4, f5⟩ := hf it (by simp)
    have hl := rv.length
    have hp : s.heap.IsTuple a its.toArray := p
    have hT : s.TypeIs (.ref e) "enumerate" := ⟨_, he, rfl⟩
    have hh : X.A.handled = none := I.ok.hd hc
    unfold pyNext
    refine wpAny_bind (wpAny_attempt (wpAny_callSpecial?_slot (name := Str.ofString "__next__") hT PySem.F.slot_enumerate_next
      (wpAny_call_entry PySem.F.slot_enumerate_next hT PySem.F.entry_enumerate_next ?_ (PySem.F.args_enumerate_next_1 _))))
    show wpAny _ _ (field (.ref e) 2 >>= _) _ _ _
    refine wpAny_bind (wpAny_field he rfl (x := .ref it) rfl ?_)
    refine wpAny_bind (wpAny_nextOf_tuple_end (by simpa using hh) hit hp (by simp; omega) fun h' x he' hx' => ?_)
    obtain ⟨o, ho, hc⟩ := hx'
    refine wpAny_bind (wpAny_isInstance (T := "StopIteration") (b := true) ⟨o, ho, hc⟩ isSubtype_stop ?_)
    exact wpAny_pure ⟨rfl, I.turned (t' := s.toks) (fun b o hb q => he' b o hb q) f0 f1 f3 f4 f5⟩
  self := fun A i s Q E st h => let ⟨⟨_, he⟩, _⟩ := st; wpAny_pyIter_enum he h
def iEnumT (K : PySem.W.Frag) (ta : TA) : TI := fun σ H R => ta σ H fun vs H1 => ∃ a xs, vs = [.ref a] ∧ SqT K H1 a xs ∧ R (IteT K a) H1
theorem pi_enumT {X : Cx} {e : Expr} {ta : TA} {p pos tpos : Pos} {elts : List Expr} {kk : Nat} (hg : Gl X "enumerate") (hm : X.mg "enumerate" = none) (ha : PA X [e] ta) (hs : starEach [e] X.env = [(false, eval e X.env)] := by rfl) :
    PI X (.Tuple elts kk tpos) (.Call (.Name "enumerate" p) [e] [] pos) (iEnumT X.K ta) := by
  refine ⟨fun pins s σ H R I h => ?_⟩
  refine Call_ (ld_blt I hg hm boot_enumerate (PyProof.Rows.callWith_type1 (thn (ha.run pos pins s σ H _ I h) fun us s1 ⟨vs, H1, I1, r1, q1⟩ => ?_) hs rfl))
  obtain ⟨a, xs, ex, hq, q⟩ := q1
  subst ex
  cases r1 with
  | cons r rr =>
    cases rr
    cases r
    obtain ⟨its, rv, p', hz⟩ := I1.tuple hq
    have hp : s1.heap.IsTuple a its.toArray := p'
    have hal : a < s1.heap.objs.size := by obtain ⟨o, ho, _⟩ := hp; exact Heap.lt_size ho
    refine call_enumerate_tuple hp fun h' he hit hsz hk => wpAny_pyIter_enum he ?_
    have I2 : Inv X pins σ H1 { s1 with heap := h' } := I1.kept (t' := s1.toks) hk
    refine ⟨s1.heap.objs.size + 1, [s1.heap.objs.size + 1, s1.heap.objs.size], _, _, H1, rfl, I2, turn_enumT a (s1.heap.objs.size + 1) s1.heap.objs.size, ⟨⟨.none, he⟩, hit, Nat.succ_ne_self _, Nat.ne_of_lt hal, Nat.ne_of_lt (Nat.lt_succ_of_lt hal)⟩, fun b hb => ?_, q⟩
    have e' : b = s1.heap.objs.size + 1 ∨ b = s1.heap.objs.size := by simpa using hb
    have hle : s1.heap.objs.size ≤ b := by
      rcases e' with z | z
      · rw [z]; exact Nat.le_add_right _ _
      · rw [z]; exact Nat.le_refl _
    exact I1.fpOk hle (I1.hok.fresh hle)
end XT

namespace XT
open PySem PySem.Spec PyProof.Rows L2
/-! ### types compared -/
def tyN (m : String) : Bool := ["int", "str", "bool", "NoneType", "list", "tuple", "dict"].contains m
theorem tyN_meta {m : String} (h : tyN m = true) (s' : Shared) : s'.TypeIs (.type m) "type" := by
  unfold tyN at h
  simp only [List.contains_cons, List.contains_nil, Bool.or_eq_true, beq_iff_eq, Bool.false_eq_true, or_false] at h
  rcases h with rfl | rfl | rfl | rfl | rfl | rfl | rfl
  · exact TypeEq.meta_int s'
  · exact TypeEq.meta_str s'
  · exact TypeEq.meta_bool s'
  · exact TypeEq.meta_NoneType s'
  · exact TypeEq.meta_list s'
  · exact TypeEq.meta_tuple s'
  · exact TypeEq.meta_dict s'
section
variable {X : Cx}
theorem op_eqTy : OpR X (compareOp .Eq) (fun x y H Q => ∃ m n, x = .ty m ∧ y = .ty n ∧ tyN m = true ∧ tyN n = true ∧ Q (.bl (decide (m = n))) H) := by
  intro pins s σ H x y v u Q I rx ry h
  obtain ⟨m, n, rfl, rfl, hm, hn, q⟩ := h
  cases (show v = Value.type m from rx)
  cases (show u = Value.type n from ry)
  by_cases e : m = n
  · subst e
    exact TypeEq.eq_type_same (fun s' => tyN_meta hm s') ⟨.bl true, H, I, rfl, by simpa using q⟩
  · refine TypeEq.eq_type_other (fun s' => tyN_meta hm s') (fun s' => tyN_meta hn s') ?_ ⟨.bl false, H, I, rfl, by simpa [e] using q⟩
    rw [Bool.eq_false_iff]
    intro z
    rw [beq_iff_eq] at z
    injection z with z
    exact e z
theorem eqAt_ty {A : Around} {s : Shared} {m n : String} (hm : tyN m = true) (hn : tyN n = true) : SeqAt.EqAt A s (.type m) (.type n) (decide (m = n)) := fun prog w E Q h => by
  unfold eqBool
  refine wpAny_holding ?_
  refine wpAny_ite_split (fun hab => ?_) (fun hab => ?_)
  · have e : m = n := by have := eq_of_beq hab; injection this
    subst e
    exact wpAny_bind (wpAny_rule (wpAny_pure (by simpa using h)))
  · have e : m ≠ n := fun z => hab (by rw [z]; exact beq_self_eq_true _)
    refine wpAny_bind (m := richCompare .Eq (.type m) (.type n)) (show wpAny _ _ (compareOp .Eq _ _) _ _ _ from TypeEq.eq_type_other (fun s' => tyN_meta hm s') (fun s' => tyN_meta hn s') ?_ ?_)
    · rw [Bool.eq_false_iff]
      intro z
      rw [beq_iff_eq] at z
      injection z with z
      exact e z
    · exact wpAny_pure (by simpa [e] using h)
def tyU (m : String) : Value → Bool
  | .type n => decide (n = m)
  | _ => false
theorem op_inTy : OpR X (compareOp .In) (fun x y H Q => ∃ (m : String) (p : Addr) (ns : List String), x = .ty m ∧ y = .ref p ∧ SqT X.K H p (ns.map V.ty) ∧ tyN m = true ∧ (∀ n ∈ ns, tyN n = true) ∧ Q (.bl (ns.any fun n => decide (n = m))) H) := by
  intro pins s σ H x y v u Q I rx ry h
  obtain ⟨m, p, ns, rfl, rfl, hq, hm, hn, q⟩ := h
  cases (show v = Value.type m from rx)
  cases (show u = Value.ref p from ry)
  obtain ⟨its, r, pl, hz⟩ := I.tuple hq
  have key : ∀ (ns : List String) (its : List Value), Vals (ns.map V.ty) its → its = ns.map Value.type := by
    intro ns
    induction ns with
    | nil => intro its r; cases r; rfl
    | cons n ns ih =>
      intro its r
      cases r with
      | cons a t =>
        rw [ih _ t, List.map_cons]
        congr 1
  have e := key ns its r
  subst e
  refine SeqAt.in_tupleAt (tyU m) pl (fun w hw => ?_) ⟨.bl _, H, I, rfl, ?_⟩
  · have hw' : w ∈ ns.map Value.type := by simpa using hw
    obtain ⟨n, hmem, rfl⟩ := List.mem_map.mp hw'
    exact eqAt_ty (hn n hmem) hm
  · have e2 : ((ns.map Value.type).toArray.any (tyU m)) = ns.any fun n => decide (n = m) := by
      rw [List.any_toArray, List.any_map]
      rfl
    rw [e2]
    exact q
/-! ### calls by promises of positional values -/
def tCallR (sp : Sp) (E : XK) (t : TA) : TE := fun σ H Q => t σ H fun vs H1 => sp vs H1 Q E
theorem pe_callR {CX : CXT} {k : Nat} {f : Addr} {sp : Sp} {E : XK} {x : Str} {e : Expr} {es : List Expr} {t : TA} {p pos : Pos} (F : FnR X.prog X.w X.K X.mg X.base CX k f sp) (hr : Room k X.A) (hg : Gl X x) (hm : X.mg x = some (.ref f)) (hk : PySem.W.keepIn X.K (.ref f) = true) (hx : Passes CX X E) (ha : PA X (e :: es) t) (hd : (x == ("__debug__" : Str)) = false := by decide)
    (he : starEach (e :: es) X.env = (false, eval e X.env) :: starEach es X.env := by rfl) (hst : (backTo pos (starEach es X.env)).any (·.1) = false := by rfl) :
    PE X (.Call (.Name x p) (e :: es) [] pos) (tCallR sp E t) := by
  refine ⟨fun pins s σ H Q I h => ?_⟩
  refine wpAny_Call_Name_kw (ld_glob I hg hm ?_ hd)
  refine PySem.W.callWith_K (h₀ := X.base) I.ok.mod.kin hk (thn (ha.run pos pins s σ H _ I h) fun us s1 ⟨vs, H1, I1, r, q⟩ => ⟨I1.kIn, ?_⟩) he hst
  exact wpAny_call (run_fnR F hr hx I1 r q)
def tPropR (C : Addr) (sp : Sp) (E : XK) (ta : TE) : TE := fun σ H Q => ta σ H fun x H1 => ∃ a dx fs, x = .ref a ∧ H1 a = some (.ins C dx fs) ∧ sp [.ref a] H1 Q E
theorem pe_propR {CX : CXT} {k : Nat} {C p g : Addr} {f : Str} {sp : Sp} {E : XK} {e : Expr} {pos : Pos} {ta : TE} (he : PE X e ta) (c : Cls X.K C) (hp : PropOf X.K C f p g) (F : FnR X.prog X.w X.K X.mg X.base CX k g sp) (hr : Room (k + 1) X.A) (hx : Passes CX X.nox E)
    (hab : attributeBase e f X.env (eval e X.env) = eval e X.env) : PE X (.Attribute e f pos) (tPropR C sp E ta) := by
  refine ⟨fun pins s σ H Q I h => ?_⟩
  refine attr_of hab (thn (he.run pins s σ H _ I h) fun u s1 ⟨x, H1, I1, rx, a, dx, fs, ex, ea, q⟩ => ?_)
  subst ex
  obtain rfl : u = Value.ref a := rx
  obtain ⟨mA, O, _, _, _, _⟩ := ins_get I1.hok ea
  obtain ⟨od, J, _⟩ := O.look
  obtain ⟨rest, hrec⟩ := hp.rec_
  have I2 := I1.tok (s1.toks + 1)
  have hc : (PySem.W.clsIn X.K C).isSome = true := by
    obtain ⟨cd, hc, _⟩ := PySem.W.any_some c.hd
    rw [hc]
    rfl
  refine PySem.W.get_bind I1.kIn J (PySem.W.plainGet_of (c.get f)).1 (PySem.W.findObj_data hc hp.at_ hp.get hp.tak) (PySem.W.plainGet_of (c.get f)).2 (wpAny_call (PySem.W.prop_get (s := { s1 with toks := s1.toks + 1 }) I1.kIn hrec ?_))
  refine codeAny_mono (F X.A.in1 X.stack { s1 with toks := s1.toks + 1 } H1 [.ref a] [.ref a] Q E hr.in1 I2.env0.in1 (.cons rfl .nil) q) fun r s' hq => ?_
  cases r with
  | error er => exact False.elim (hx pins σ H1 { s1 with toks := s1.toks + 1 } er s' (I2.wish _) hq)
  | ok fl =>
    cases fl with
    | ret u =>
      obtain ⟨v, H', I3, rv, q3⟩ := I2.after hq
      show wpAny _ _ (handedOut u) _ _ _
      rw [PySem.W.handedOut_of (handed_of rv)]
      exact wpAny_pure ⟨v, H', I3, rv, q3⟩
    | next => exact False.elim hq
    | brk => exact False.elim hq
    | cont => exact False.elim hq
end
section
variable {P : Program} {w : World} {K : PySem.W.Frag} {mg : Str → Option Value} {base : Heap}
/-- how arguments bind, for every such def -/
def Bnd (x qual : Str) (st : Stmt) (ps : List Str) : Prop := ∀ (kV doc pm : Value) (an : Option Addr) (cdv ct : Value) (us : List Value), us.length = ps.length → bindArgs (PySem.W.fnOf x qual (defArgs st) (defBody st) (defScope st) .none kV doc pm an cdv ct) ⟨us, []⟩ = pure (ps.zip us)
/-- a def's promise by positional values; no exception leaves it -/
theorem okR {x qual : Str} {st : Stmt} {f : Addr} {fd : FuncData} {N ps : List Str} {k : Nat} {sp : Sp} (F : Fun K x qual st f fd) (S : FnScope N ps (defScope st)) (B : Bnd x qual st ps) (len : ∀ vs H Q E, sp vs H Q E → vs.length = ps.length)
    (hbody : ∀ (cdv : Value) (A : Around) (outer : List Env) (s : Shared) (H : Hp) (vs : List V) (Q : VK) (E : XK), Room k (A.deeper (envOfC qual (defScope st) s.heap.objs.size f cdv)) → sp vs H Q E →
      ∃ t, PSs (cxOf CX0 P w K mg base N qual (defScope st) f cdv A outer s H E).nox (defBody st) t ∧ t { nx := fun _ H' => Q .non H', rt := Q } (start N vs) H) : FnR P w K mg base CX0 (k + 1) f sp := by
  have G := F.ok S len hbody
  have hb := F.binds B
  exact (G.raw hb .nil).imp fun vs H Q E h => by simpa using h
end
end XT

namespace XT
open PySem PySem.Spec PyProof.Rows L2
/-! ### heaps that grow -/
theorem same_upd {H H1 : Hp} {p : Addr} {o : HO} (h : Same H H1) (n : H p = Option.none) : Same H (upd H1 p o) := fun b u e => by
  have hb : b ≠ p := fun q => by rw [q, n] at e; cases e
  rw [upd_ne hb]
  exact h b u e
theorem same_new {H : Hp} {p : Addr} {o : HO} (n : H p = Option.none) : Same H (upd H p o) := same_upd (Same.refl H) n
theorem same_seqT {K : PySem.W.Frag} {H H' : Hp} {a : Addr} {xs : List V} (e : Same H H') (h : SqT K H a xs) : SqT K H' a xs := by
  rcases h with (h | ⟨o, h⟩) | h
  · exact .inl (.inl (e _ _ h))
  · exact .inl (.inr ⟨o, e _ _ h⟩)
  · exact .inr h
theorem same_tyB {K : PySem.W.Frag} {H H' : Hp} {x : V} {n : String} (e : Same H H') (h : TyB K H x n) : TyB K H' x n := by
  cases h with
  | non => exact .non
  | bl b => exact .bl b
  | int i => exact .int i
  | str z => exact .str z
  | byt b => exact .byt b
  | lst h => exact .lst (e.seq h)
  | tup h => exact .tup (same_seqT e h)
  | dK h => exact .dK (e _ _ h)
/-- a value of a known kind -/
def KV (K : PySem.W.Frag) (H : Hp) (x : V) : Prop := ∃ n, TyB K H x n ∧ tyN n = true
theorem KV.same {K : PySem.W.Frag} {H H' : Hp} {x : V} (h : KV K H x) (e : Same H H') : KV K H' x := let ⟨n, a, b⟩ := h; ⟨n, same_tyB e a, b⟩
theorem kv_int {K : PySem.W.Frag} {H : Hp} (i : Int) : KV K H (.int i) := ⟨"int", .int i, by decide +kernel⟩
def isI : V → Bool
  | .int _ => true
  | _ => false
theorem tyB_isI {K : PySem.W.Frag} {H : Hp} {x : V} {n : String} (h : TyB K H x n) : decide (n = "int") = isI x := by
  cases h <;> first | rfl | decide +kernel
/-! ### what is walked, while only new things are made -/
structure StatJ (J : It) (H0 : Hp) (n : Nat) (P : Nat → V → Hp → Prop) : Prop where
  go : ∀ i H, i < n → Same H0 H → J.go i H
  stop : ∀ H, Same H0 H → J.stop n H
  yld : ∀ i H x H', i < n → Same H0 H → J.yld i H x H' → Same H H' ∧ P i x H'
theorem stat_list {K : PySem.W.Frag} {H0 : Hp} {a : Addr} {xs : List V} (h : SqL K H0 a xs) : StatJ (Itl K a) H0 xs.length (fun i x _ => xs[i]? = some x) where
  go := fun i H hi s => ⟨xs, xs[i], s.seq h, by simp [hi]⟩
  stop := fun H s => ⟨xs, s.seq h, Nat.le_refl _⟩
  yld := fun i H x H' hi s y => by
    obtain ⟨e, y⟩ := y
    subst e
    exact ⟨Same.refl _, y xs (s.seq h)⟩
theorem stat_tup {K : PySem.W.Frag} {H0 : Hp} {a : Addr} {xs : List V} (h : SqT K H0 a xs) : StatJ (Itt K a) H0 xs.length (fun i x _ => xs[i]? = some x) where
  go := fun i H hi s => ⟨xs, xs[i], same_seqT s h, by simp [hi]⟩
  stop := fun H s => ⟨xs, same_seqT s h, Nat.le_refl _⟩
  yld := fun i H x H' hi s y => by
    obtain ⟨e, y⟩ := y
    subst e
    exact ⟨Same.refl _, y xs (same_seqT s h)⟩
theorem stat_rng {H0 : Hp} (lo : Int) (n : Nat) : StatJ (Itr lo n) H0 n (fun i x _ => x = .int (lo + i)) where
  go := fun i H hi s => hi
  stop := fun H s => Nat.le_refl _
  yld := fun i H x H' hi s y => by
    obtain ⟨e, y⟩ := y
    subst e
    exact ⟨Same.refl _, y⟩
theorem stat_enumT {K : PySem.W.Frag} {H0 : Hp} {a : Addr} {xs : List V} (h : SqT K H0 a xs) : StatJ (IteT K a) H0 xs.length (fun i v H => ∃ T x, v = .ref T ∧ H T = some (.tup [.int (i : Nat), x]) ∧ xs[i]? = some x) where
  go := fun i H hi s => ⟨xs, xs[i], same_seqT s h, by simp [hi]⟩
  stop := fun H s => ⟨xs, same_seqT s h, Nat.le_refl _⟩
  yld := fun i H x H' hi s y => by
    obtain ⟨T, x', e, n, e', y⟩ := y
    subst e e'
    exact ⟨same_new n, T, x', rfl, upd_same, y xs (same_seqT s h)⟩
theorem stat_zip {K : PySem.W.Frag} {H0 : Hp} {a b : Addr} {xs ys : List V} (h : SqL K H0 a xs) (k : SqL K H0 b ys) : StatJ (Itz K a b) H0 (min xs.length ys.length) (fun i v H => ∃ T x y, v = .ref T ∧ H T = some (.tup [x, y]) ∧ xs[i]? = some x ∧ ys[i]? = some y) where
  go := fun i H hi s => ⟨xs, ys, xs[i], ys[i], s.seq h, s.seq k, by simp, by simp⟩
  stop := fun H s => ⟨xs, ys, s.seq h, s.seq k, by omega⟩
  yld := fun i H x H' hi s y => by
    obtain ⟨T, x', y', e, n, e', p, q⟩ := y
    subst e e'
    exact ⟨same_new n, T, x', y', rfl, upd_same, p xs (s.seq h), q ys (s.seq k)⟩
theorem stat_zipT {K : PySem.W.Frag} {H0 : Hp} {a b : Addr} {xs ys : List V} (h : SqT K H0 a xs) (k : SqT K H0 b ys) : StatJ (RZ.ItzT K a b) H0 (min xs.length ys.length) (fun i v H => ∃ T x y, v = .ref T ∧ H T = some (.tup [x, y]) ∧ xs[i]? = some x ∧ ys[i]? = some y) where
  go := fun i H hi s => ⟨xs, ys, xs[i], ys[i], same_seqT s h, same_seqT s k, by simp, by simp⟩
  stop := fun H s => ⟨xs, ys, same_seqT s h, same_seqT s k, by omega⟩
  yld := fun i H x H' hi s y => by
    obtain ⟨T, x', y', e, n, e', p, q⟩ := y
    subst e e'
    exact ⟨same_new n, T, x', y', rfl, upd_same, p xs (same_seqT s h), q ys (same_seqT s k)⟩
/-- what a comprehension collects -/
def outs (out : Nat → Option V) (n : Nat) : List V := (List.range n).filterMap out
theorem outs_succ (out : Nat → Option V) (n : Nat) : outs out (n + 1) = outs out n ++ (out n).toList := by
  unfold outs
  rw [List.range_succ, List.filterMap_append]
  cases h : out n <;> simp [List.filterMap, h]
theorem outs_len (out : Nat → Option V) (n : Nat) : (outs out n).length ≤ n := by
  unfold outs
  exact Nat.le_trans (List.length_filterMap_le _ _) (by simp)
theorem outs_list (f : V → Option V) (xs : List V) : outs (fun i => (xs[i]?).bind f) xs.length = xs.filterMap f := by
  have : ∀ n, n ≤ xs.length → outs (fun i => (xs[i]?).bind f) n = (xs.take n).filterMap f := by
    intro n
    induction n with
    | zero => intro _; rfl
    | succ n ih =>
      intro h
      rw [outs_succ, ih (by omega), List.take_succ, List.filterMap_append]
      congr 1
      have e : xs[n]? = some xs[n] := by simp
      rw [e]
      cases h2 : f xs[n] <;> simp [h2]
  rw [this _ (Nat.le_refl _), List.take_length]
theorem outs_map (f : V → V) (xs : List V) : outs (fun i => (xs[i]?).map f) xs.length = xs.map f := by
  have e : (fun (i : Nat) => (xs[i]?).map f) = fun (i : Nat) => (xs[i]?).bind fun x => some (f x) := by funext i; cases xs[i]? <;> rfl
  rw [e, outs_list]
  simp
theorem outs_fun (f : Nat → V) (n : Nat) : outs (fun i => some (f i)) n = (List.range n).map f := by
  unfold outs
  simp
theorem outs_congr {o o' : Nat → Option V} {n : Nat} (h : ∀ i, i < n → o i = o' i) : outs o n = outs o' n := by
  induction n with
  | zero => rfl
  | succ n ih => rw [outs_succ, outs_succ, ih fun i hi => h i (by omega), h n (by omega)]
/-- a comprehension over what stands still -/
theorem lcG {J : It} {n : Nat} {P : Nat → V → Hp → Prop} {g : TG} {tt : TT} {te : TE} {vs : List Nat} {σ : L2.St} {H1 : Hp} {D : Addr} {Qd : Hp → Prop} (S : StatJ J H1 n P) (hD : H1 D = Option.none) (out : Nat → Option V) (hn : n ≤ sizeLine)
    (hs : ∀ i x H (R : Option V → Hp → Prop), i < n → Same H1 H → P i x H → (∀ H', Same H H' → R (out i) H') → g x (wipe σ vs) H fun σ2 H2 => wipe σ2 vs = wipe σ vs ∧ tt σ2 H2 fun b H3 => if b = true then te σ2 H3 fun y H4 => R (some y) H4 else R Option.none H3)
    (hd : ∀ H, Same H1 H → H D = some (.lst (outs out n)) → Qd H) :
    ∃ W : Nat → Nat → Hp → Prop, (∃ m, W 0 m (upd H1 D (.lst []))) ∧ ∀ i m H, W i m H →
      (J.stop i H ∧ Qd H) ∨ (J.go i H ∧ ∃ Nx : Hp → Prop, (∀ H', Nx H' → ∃ m', m' < m ∧ W (i + 1) m' H') ∧ ∀ x H', J.yld i H x H' → g x (wipe σ vs) H' fun σ2 H2 => wipe σ2 vs = wipe σ vs ∧ tt σ2 H2 fun b H3 =>
        if b = true then te σ2 H3 fun y H4 => ∃ acc, H4 D = some (.lst acc) ∧ acc.length < sizeLine ∧ Nx (upd H4 D (.lst (acc ++ [y]))) else Nx H3) := by
  refine ⟨fun i m H => m = n - i ∧ i ≤ n ∧ Same H1 H ∧ H D = some (.lst (outs out i)), ⟨n, by simp, Nat.zero_le _, same_new hD, by rw [upd_same]; rfl⟩, ?_⟩
  rintro i m H ⟨rfl, hi, s, hH⟩
  by_cases hlt : i < n
  · refine .inr ⟨S.go i H hlt s, fun H' => Same H1 H' ∧ H' D = some (.lst (outs out (i + 1))), fun H' p => ⟨n - (i + 1), by omega, rfl, hlt, p.1, p.2⟩, fun x H' y => ?_⟩
    obtain ⟨s2, px⟩ := S.yld i H x H' hlt s y
    refine hs i x H' (fun r H4 => match r with | some y => ∃ acc, H4 D = some (.lst acc) ∧ acc.length < sizeLine ∧ (Same H1 (upd H4 D (.lst (acc ++ [y]))) ∧ (upd H4 D (.lst (acc ++ [y]))) D = some (.lst (outs out (i + 1)))) | none => Same H1 H4 ∧ H4 D = some (.lst (outs out (i + 1)))) hlt (s.trans s2) px fun H4 s4 => ?_
    have h4 : H4 D = some (.lst (outs out i)) := s4 _ _ (s2 _ _ hH)
    have s14 : Same H1 H4 := (s.trans s2).trans s4
    cases ho : out i with
    | none =>
      refine ⟨s14, ?_⟩
      rw [outs_succ, ho, h4]
      simp
    | some y =>
      refine ⟨_, h4, Nat.lt_of_le_of_lt (outs_len out i) (Nat.lt_of_lt_of_le hlt hn), same_upd s14 hD, ?_⟩
      rw [upd_same, outs_succ, ho]
      rfl
  · have e : i = n := by omega
    subst e
    exact .inl ⟨S.stop H s, hd H s hH⟩
/-- without a test -/
theorem lcM {J : It} {n : Nat} {P : Nat → V → Hp → Prop} {g : TG} {te : TE} {vs : List Nat} {σ : L2.St} {H1 : Hp} {D : Addr} {Qd : Hp → Prop} (S : StatJ J H1 n P) (hD : H1 D = Option.none) (out : Nat → V) (hn : n ≤ sizeLine)
    (hs : ∀ i x H (R : V → Hp → Prop), i < n → Same H1 H → P i x H → (∀ H', Same H H' → R (out i) H') → g x (wipe σ vs) H fun σ2 H2 => wipe σ2 vs = wipe σ vs ∧ te σ2 H2 R)
    (hd : ∀ H, Same H1 H → H D = some (.lst ((List.range n).map out)) → Qd H) :
    ∃ W : Nat → Nat → Hp → Prop, (∃ m, W 0 m (upd H1 D (.lst []))) ∧ ∀ i m H, W i m H →
      (J.stop i H ∧ Qd H) ∨ (J.go i H ∧ ∃ Nx : Hp → Prop, (∀ H', Nx H' → ∃ m', m' < m ∧ W (i + 1) m' H') ∧ ∀ x H', J.yld i H x H' → g x (wipe σ vs) H' fun σ2 H2 => wipe σ2 vs = wipe σ vs ∧ tYes σ2 H2 fun b H3 =>
        if b = true then te σ2 H3 fun y H4 => ∃ acc, H4 D = some (.lst acc) ∧ acc.length < sizeLine ∧ Nx (upd H4 D (.lst (acc ++ [y]))) else Nx H3) := by
  refine ⟨fun i m H => m = n - i ∧ i ≤ n ∧ Same H1 H ∧ H D = some (.lst ((List.range i).map out)), ⟨n, by simp, Nat.zero_le _, same_new hD, by rw [upd_same]; rfl⟩, ?_⟩
  rintro i m H ⟨rfl, hi, s, hH⟩
  by_cases hlt : i < n
  · refine .inr ⟨S.go i H hlt s, fun H' => Same H1 H' ∧ H' D = some (.lst ((List.range (i + 1)).map out)), fun H' p => ⟨n - (i + 1), by omega, rfl, hlt, p.1, p.2⟩, fun x H' y => ?_⟩
    obtain ⟨s2, px⟩ := S.yld i H x H' hlt s y
    show g x (wipe σ vs) H' fun σ2 H2 => wipe σ2 vs = wipe σ vs ∧ (if true = true then te σ2 H2 fun y H4 => ∃ acc, H4 D = some (.lst acc) ∧ acc.length < sizeLine ∧ (Same H1 (upd H4 D (.lst (acc ++ [y]))) ∧ (upd H4 D (.lst (acc ++ [y]))) D = some (.lst ((List.range (i + 1)).map out))) else (Same H1 H2 ∧ H2 D = some (.lst ((List.range (i + 1)).map out))))
    simp only [if_true]
    refine hs i x H' (fun y H4 => ∃ acc, H4 D = some (.lst acc) ∧ acc.length < sizeLine ∧ (Same H1 (upd H4 D (.lst (acc ++ [y]))) ∧ (upd H4 D (.lst (acc ++ [y]))) D = some (.lst ((List.range (i + 1)).map out)))) hlt (s.trans s2) px fun H4 s4 => ?_
    have h4 : H4 D = some (.lst ((List.range i).map out)) := s4 _ _ (s2 _ _ hH)
    refine ⟨_, h4, Nat.lt_of_le_of_lt (by simp) (Nat.lt_of_lt_of_le hlt hn), same_upd ((s.trans s2).trans s4) hD, ?_⟩
    rw [upd_same, List.range_succ, List.map_append]
    rfl
  · have e : i = n := by omega
    subst e
    exact .inl ⟨S.stop H s, hd H s hH⟩
theorem range_map (f : V → V) (d : V) (xs : List V) : (List.range xs.length).map (fun i => f (xs.getD i d)) = xs.map f := by
  apply List.ext_getElem
  · simp
  · intro i h1 h2
    have h3 : i < xs.length := by simpa using h2
    simp [List.getD, h3]
theorem getD_of {xs : List V} {i : Nat} {x d : V} (h : xs[i]? = some x) : xs.getD i d = x := by
  simp [List.getD, h]
end XT

namespace XT
open PySem PySem.Spec PyProof.Rows L2
/-! ### the rules whose reading names the written part, with that part given -/
section
variable {X : Cx} (K : PySem.W.Frag)
theorem fldK {e : Expr} {f : Str} {pos : Pos} {ta : TE} (he : PE X e ta) (hb : attributeBase e f X.env (eval e X.env) = eval e X.env) (hK : X.K = K := by rfl) : PE X (.Attribute e f pos) (tFld K ta f) := by subst hK; exact pe_fld he hb
theorem tupK {es : List Expr} {k : Nat} {pos : Pos} {t : TGs} {n : Nat} (hc : X.calm = true) (h : PGs X es t) (hK : X.K = K := by rfl) (hn : (assignEach es X.env).length = n := by rfl) (hst : (assignEach es X.env).findIdx? (·.1) = none := by rfl) : PG X (.Tuple es k pos) (gTup K n t) := by
  subst hK
  exact pg_tup hc h hn hst
theorem unlK {es : List Expr} {k : Nat} {pos : Pos} {t : TGs} {n : Nat} (hc : X.calm = true) (h : PGs X es t) (hK : X.K = K := by rfl) (hn : (assignEach es X.env).length = n := by rfl) (hst : (assignEach es X.env).findIdx? (·.1) = none := by rfl) : PG X (.Tuple es k pos) (gUnl K n t) := by
  subst hK
  exact pg_unl hc h hn hst
theorem ixLK (hK : X.K = K := by rfl) : IxR X (rIxL K) := by subst hK; exact ix_list
theorem ixTK (hK : X.K = K := by rfl) : IxR X (rIxT K) := by subst hK; exact ix_tup
theorem slLK (hK : X.K = K := by rfl) : SlR X (rSlL K) := by subst hK; exact sl_list
theorem slTK (hK : X.K = K := by rfl) : SlR X (rSlA K) := by subst hK; exact sl_tupA
theorem lenK (hK : X.K = K := by rfl) : CallR X (.builtin "len") (fun xs H Q => ∃ p ys, xs = [.ref p] ∧ (SqL K H p ys ∨ SqT K H p ys) ∧ Q (.int ys.length) H) := by subst hK; exact call_len_seq
theorem typeK (hK : X.K = K := by rfl) : CallR X (.type "type") (rTyp K) := by subst hK; exact call_type1
theorem allK (hc : X.calm = true) (hK : X.K = K := by rfl) : CallR X (.builtin "all") (rAll K) := by subst hK; exact cr_all hc
theorem sortedK (hK : X.K = K := by rfl) : CallR X (.builtin "sorted") (rSortedI K) := by subst hK; exact cr_sortedI
theorem listK (hK : X.K = K := by rfl) : CallR X (.type "list") (fun xs H Q => ∃ p ys, xs = [.ref p] ∧ (SqL K H p ys ∨ SqT K H p ys) ∧ ∀ l, H l = Option.none → Q (.ref l) (upd H l (.lst ys))) := by subst hK; exact call_list_of
theorem tupleK (hK : X.K = K := by rfl) : CallR X (.type "tuple") (fun xs H Q => ∃ p ys, xs = [.ref p] ∧ ((SqL K H p ys ∧ ∀ l, H l = Option.none → Q (.ref l) (upd H l (.tup ys))) ∨ (SqT K H p ys ∧ Q (.ref p) H))) := by subst hK; exact call_tuple_of
theorem inK (hK : X.K = K := by rfl) : OpR X (compareOp .In) (rIn K false) := by subst hK; exact op_in_seq
theorem notInK (hK : X.K = K := by rfl) : OpR X (compareOp .NotIn) (rIn K true) := by subst hK; exact op_notIn_seq
theorem eqDK (hu : X.A.units + 64 < cLine) (hK : X.K = K := by rfl) : OpR X (compareOp .Eq) (rEqD K) := by subst hK; exact op_eqD hu
theorem neDK (hu : X.A.units + 64 < cLine) (hK : X.K = K := by rfl) : OpR X (compareOp .NotEq) (rNeD K) := by subst hK; exact op_neD hu
theorem inTyK (hK : X.K = K := by rfl) : OpR X (compareOp .In) (fun x y H Q => ∃ (m : String) (p : Addr) (ns : List String), x = .ty m ∧ y = .ref p ∧ SqT K H p (ns.map V.ty) ∧ tyN m = true ∧ (∀ n ∈ ns, tyN n = true) ∧ Q (.bl (ns.any fun n => decide (n = m))) H) := by subst hK; exact op_inTy
theorem bmK {o e : Expr} {es : List Expr} {name : Str} {apos cpos : Pos} {to : TE} {t : TA} {r : V → List V → Hp → VK → Prop} {T : String} (h : PE X (.Call (.Attribute o name apos) (e :: es) [] cpos) (tBM X.K T r to t)) (hK : X.K = K := by rfl) : PE X (.Call (.Attribute o name apos) (e :: es) [] cpos) (tBM K T r to t) := by subst hK; exact h
theorem starK {e : Expr} {p : Pos} {es : List Expr} {te : TE} {t : TA} (h : PA X (.Starred e p :: es) (StX.tStar X.K te t)) (hK : X.K = K := by rfl) : PA X (.Starred e p :: es) (StX.tStar K te t) := by subst hK; exact h
end
end XT

namespace XT
open PySem PySem.Spec PyProof.Rows L2
/-! ### data of ints -/
theorem dpAll_ints {K : PySem.W.Frag} {H : Hp} (L : List Int) : DpAll K H (L.map V.int) (L.map PyData.int) := by
  induction L with
  | nil => exact .nil
  | cons x L ih => exact .cons (.int x) ih
theorem dp_lst {K : PySem.W.Frag} {H : Hp} {p : Addr} {L : List Int} (h : SqL K H p (L.map V.int)) : Dp K H (.ref p) (.list (L.map PyData.int)) := .lst h (dpAll_ints L)
theorem dp_tup {K : PySem.W.Frag} {H : Hp} {p : Addr} {L : List Int} (h : SqT K H p (L.map V.int)) : Dp K H (.ref p) (.tuple (L.map PyData.int)) := .tup h (dpAll_ints L)
theorem eqvAll_ints (L : List Int) : ∀ M : List Int, PyData.eqvAll (L.map PyData.int) (M.map PyData.int) = decide (L = M) := by
  induction L with
  | nil =>
    intro M
    cases M with
    | nil => simp [PyData.eqvAll]
    | cons y M => simp [PyData.eqvAll]
  | cons x L ih =>
    intro M
    cases M with
    | nil => simp [PyData.eqvAll]
    | cons y M =>
      rw [List.map_cons, List.map_cons, PyData.eqvAll, ih]
      by_cases h : x = y
      · subst h
        simp [PyData.eqv]
      · have : (PyData.int x).eqv (.int y) = false := by simp [PyData.eqv, h]
        rw [this]
        simp [h]
theorem eqv_tups (L M : List Int) : PyData.eqv (.tuple (L.map PyData.int)) (.tuple (M.map PyData.int)) = decide (L = M) := by
  rw [PyData.eqv]
  exact eqvAll_ints L M
theorem eqv_lsts (L M : List Int) : PyData.eqv (.list (L.map PyData.int)) (.list (M.map PyData.int)) = decide (L = M) := by
  rw [PyData.eqv]
  exact eqvAll_ints L M
theorem shaped_lst (L : List Int) : SeqAt.shaped (.list (L.map PyData.int)) = true := PySem.W.ke_shaped_ints L
theorem shaped_tup (L : List Int) : SeqAt.shaped (.tuple (L.map PyData.int)) = true := by
  have := PySem.W.ke_shaped_ints L
  unfold SeqAt.shaped at this ⊢
  simpa [PyData.canLay0, PyData.depth] using this
/-! ### bool(x) by its truth -/
section
variable {prog : Program} {w : World} {A : Around} {E : Value → Shared → Prop} {s : Shared}
theorem bool_gen {v : Value} {Q : Value → Shared → Prop} (h : wpAny (model prog w) A.in1.in1 (truthy v) (fun b s1 => Q (.bool b) s1) E s) : wpAny (model prog w) A (call (.type "bool") [v]) Q E s := by
  refine callType_codes (T := "bool") (Bi := Builtin.«object.__init__») (Q₁ := fun r s1 => ∃ b, r = Value.bool b ∧ Q r s1) PySem.F.called_bool (PySem.F.typeCall_bool_1 _) PySem.F.entry_object_init ?_ ?_
  · refine codeAny_of_tree ?_
    show wpAny _ A.in1.in1 (do checkBuiltinCall "bool.__new__" ⟨[.type "bool", v], []⟩; again (.builtin "bool.__new__" ⟨[.type "bool", v], []⟩)) _ _ s
    refine wpAny_bind (wpAny_of_eq (PySem.F.newCall_bool_1 _) (wpAny_pure ⟨plainId_quiet (by decide +kernel) _, codeAny_builtin PySem.F.entry_bool_new ?_⟩))
    rw [Around.under_plainId (by decide +kernel) _]
    unfold Builtin.«bool.__new__»
    refine wpAny_bind (wpAny_of_eq (a := true) type_bool ?_)
    refine PySem.W.KFB.if_not rfl ?_
    refine wpAny_bind (wpAny_of_eq (a := true) PySem.F.conv_sub_bool ?_)
    refine PySem.W.KFB.if_not rfl ?_
    refine wpAny_bind (m := someArgs "bool" 0 1 _) (wpAny_of_eq (a := [v]) (by first | rfl | kernel_rfl | simp [someArgs]) ?_)
    dsimp only
    exact wpAny_bind (wpAny_mono h (fun b s1 q => wpAny_pure ⟨b, rfl, q⟩) fun _ _ y => y)
  · rintro obj s₁ ⟨b, rfl, hq⟩
    exact ⟨PySem.typeIs_bool _ _, PySem.F.args_object_init_2 _ _, object_init_meets PySem.F.called_bool.init.lookup PySem.F.called_bool.made (by decide) prog w A.in1 _ s₁ ⟨PySem.typeIs_bool _ _, rfl, hq⟩⟩
end
section
variable {X : Cx} (K : PySem.W.Frag)
theorem boolT (hK : X.K = K := by rfl) : CallR X (.type "bool") (fun xs H Q => ∃ (a : Addr) (zs : List V), xs = [.ref a] ∧ SqT K H a zs ∧ Q (.bl (!zs.isEmpty)) H) := by
  subst hK
  intro pins s σ H xs us Q I r h
  obtain ⟨a, zs, rfl, hq, q⟩ := h
  obtain rfl := Vals.ref1 r
  obtain ⟨its, rv, pl, hz⟩ := I.tuple hq
  have hl := line63
  have hlen := rv.length
  refine bool_gen (truthy_tuple pl (by simp only [List.size_toArray]; omega) ?_)
  exact ⟨.bl (!zs.isEmpty), H, I.tok _, by rw [isEmpty_of rv]; rfl, q⟩
end
end XT

namespace XT
open PySem PySem.Spec PyProof.Rows L2
/-! ### defs that ask which list or tuple is being written (repr): nothing of that kind is under way -/
/-- as FnR, no repr being under way -/
def FnG (P : Program) (w : World) (K : PySem.W.Frag) (mg : Str → Option Value) (base : Heap) (CX : CXT) (k : Nat) (f : Addr) (sp : Sp) : Prop :=
  ∀ (A : Around) (outer : List Env) (s : Shared) (H : Hp) (us : List Value) (vs : List V) (Q : VK) (E : XK), A.guards = some [] → Room k A → Env0 P w K mg base A outer s H → Vals vs us → sp vs H Q E →
    codeAny (model P w) A (.call (.ref f) ⟨us, []⟩) (CR CX outer P w H s Q E) s
section
variable {P : Program} {w : World} {K : PySem.W.Frag} {mg : Str → Option Value} {base : Heap} {CX : CXT} {j k : Nat} {f : Addr} {sp sp' : Sp}
theorem FnG.imp (F : FnG P w K mg base CX k f sp) (h : ∀ vs H Q E, sp' vs H Q E → sp vs H Q E) : FnG P w K mg base CX k f sp' := fun A outer s H us vs Q E hg hr e0 r hs => F A outer s H us vs Q E hg hr e0 r (h _ _ _ _ hs)
theorem FnR.toG (F : FnR P w K mg base CX k f sp) : FnG P w K mg base CX k f sp := fun A outer s H us vs Q E _ hr e0 r hs => F A outer s H us vs Q E hr e0 r hs
/-- a def by its body, one entry at a time -/
theorem fnG_of {name qual : Str} {params : Arguments} {body : List Stmt} {scope : Scope} {dV kV doc pm cdv ct oc : Value} {an od : Option Addr}
    {osl : Array (Option Value)} {N ps : List Str} (lk : K.lookup f = some ⟨oc, od, .func (PySem.W.fnOf name qual params body scope dV kV doc pm an cdv ct), osl⟩) (hcd : PySem.W.codeIn K cdv qual = true) (S : FnScope N ps scope)
    (hb : Binds K (PySem.W.fnOf name qual params body scope dV kV doc pm an cdv ct) ps []) (len : ∀ vs H Q E, sp vs H Q E → vs.length = ps.length)
    (hbody : ∀ (A : Around) (outer : List Env) (s : Shared) (H : Hp) (vs : List V) (Q : VK) (E : XK), (A.deeper (envOfC qual scope s.heap.objs.size f cdv)).guards = some [] → Room k (A.deeper (envOfC qual scope s.heap.objs.size f cdv)) → sp vs H Q E →
      ∃ t, PSs (cxOf CX P w K mg base N qual scope f cdv A outer s H E) body t ∧ t { nx := fun _ H' => Q .non H', rt := Q } (start N vs) H) :
    FnG P w K mg base CX (k + 1) f sp := by
  intro A outer s H us vs Q E hg hr e0 r hsp
  have hl := len _ _ _ _ hsp
  have hlu : us.length = ps.length := r.length ▸ hl
  have keep : ∀ b o, base.get? b = some o → s.heap.get? b = some o := fun b o e => (e0.bs b o e).1
  have KX : K.In s.heap := e0.mod.kin.keeps keep
  have lim : s.heap.NoLimit := e0.mod.nolimit.keeps keep
  have hkind : ∀ y ∈ ps.zip us, scope.names.lookup y.1 = some .local ∨ (scope.names.lookup y.1 = some .cell ∧ ((cellsFrom (s.heap.objs.size + 1) scope.names []).lookup y.1).isSome = true) := fun ⟨n, v⟩ hy => by
    rcases S.par n (List.of_mem_zip hy).1 with q | q
    · exact .inl q
    · exact .inr ⟨q, PySem.W.cellsFrom_some _ _ _ (.inl q)⟩
  have hbt : BindsTo s (PySem.W.fnOf name qual params body scope dV kV doc pm an cdv ct) ⟨us, []⟩ (ps.zip us) := by
    have z := hb s us KX (by simpa using hlu)
    simpa using z
  refine codeAny_call_function hr.depth (KX _ _ lk) rfl S.co S.gen rfl (PySem.W.codeRec_of KX hcd) (hbt _ _ _ _ ?_)
  refine wpAny_newFunctionEnv_cells S.kind hkind fun env he s1 x => ?_
  subst he
  refine ⟨lim.keeps x.toInCall.keep, codeAny_func ?_⟩
  obtain ⟨t, ht, hq⟩ := hbody A outer s H vs Q E hg (hr.deeper _) hsp
  have I : Inv (cxOf CX P w K mg base N qual scope f cdv A outer s H E) [] (start N vs) H s1 := inv_start S hr.hd e0 hl r x
  have fin : ∀ {σ' : L2.St} {H' : Hp} {v : V} {u : Value} {s' : Shared}, Inv (cxOf CX P w K mg base N qual scope f cdv A outer s H E) [] σ' H' s' → RelV v u → Q v H' → CE outer P w H s Q u s' :=
    fun {σ' H' v u s'} J rv q => ⟨v, H', J.os, J.bare, J.base, J.hok, rv, q⟩
  refine wpAny_mono (ht.run [] s1 (start N vs) H _ I hq) (fun fl s' hs => ?_) fun e s' hs => hs
  match fl, hs with
  | .ret u, ⟨v, σ', H', J, rv, q⟩ => exact fin J rv q
  | .next, ⟨σ', H', J, q⟩ => exact fin (v := V.non) (u := Value.none) J rfl q
  | .brk, ⟨_, _, _, q⟩ => exact q.elim
  | .cont, ⟨_, _, _, q⟩ => exact q.elim
/-- a def that may raise, by positional values -/
theorem okGX {x qual : Str} {st : Stmt} {fd : FuncData} {N ps : List Str} (F : Fun K x qual st f fd) (S : FnScope N ps (defScope st)) (B : Bnd x qual st ps) (len : ∀ vs H Q E, sp vs H Q E → vs.length = ps.length)
    (hbody : ∀ (cdv : Value) (A : Around) (outer : List Env) (s : Shared) (H : Hp) (vs : List V) (Q : VK) (E : XK), (A.deeper (envOfC qual (defScope st) s.heap.objs.size f cdv)).guards = some [] → Room k (A.deeper (envOfC qual (defScope st) s.heap.objs.size f cdv)) → sp vs H Q E →
      ∃ t, PSs (cxOf CX P w K mg base N qual (defScope st) f cdv A outer s H E) (defBody st) t ∧ t { nx := fun _ H' => Q .non H', rt := Q } (start N vs) H) : FnG P w K mg base CX (k + 1) f sp := by
  have hb := F.binds B
  obtain ⟨oc, od, kV, doc, pm, an, cdv, ct, osl, rfl, lk, hcd⟩ := F.ex
  exact fnG_of lk hcd S hb len fun A outer s H vs Q E hg hr hsp => hbody cdv A outer s H vs Q E hg hr hsp
/-- a def that may raise, by positional values -/
theorem okX {x qual : Str} {st : Stmt} {fd : FuncData} {N ps : List Str} (F : Fun K x qual st f fd) (S : FnScope N ps (defScope st)) (B : Bnd x qual st ps) (len : ∀ vs H Q E, sp vs H Q E → vs.length = ps.length)
    (hbody : ∀ (cdv : Value) (A : Around) (outer : List Env) (s : Shared) (H : Hp) (vs : List V) (Q : VK) (E : XK), Room k (A.deeper (envOfC qual (defScope st) s.heap.objs.size f cdv)) → sp vs H Q E →
      ∃ t, PSs (cxOf (L2.CX P w) P w K mg base N qual (defScope st) f cdv A outer s H E) (defBody st) t ∧ t { nx := fun _ H' => Q .non H', rt := Q } (start N vs) H) : FnR P w K mg base (L2.CX P w) (k + 1) f sp := by
  have G := F.okX S len hbody
  have hb := F.binds B
  exact (G.raw hb .nil).imp fun vs H Q E h => by simpa using h
end
end XT

namespace XT
open PySem PySem.Spec PyProof.Rows L2
/-! ### several clauses «except X as n» behind one another -/
/-- the ways out of a suite that has bound slot i -/
def endsAs (i : Nat) (D : Ends) : Ends := { nx := fun σ' H' => D.nx (σ'.set i none) H', rt := D.rt, bk := fun σ' H' => D.bk (σ'.set i none) H', ct := fun σ' H' => D.ct (σ'.set i none) H' }
/-- what the clauses wish of an exception: class, slot, suite -/
def wAsL (K : PySem.W.Frag) (Wout : WX) (D : Ends) : List (Value × Nat × (Addr → Value → Option Addr → TS)) → WX
  | [] => Wout
  | (c, i, ts) :: r => fun cls d σ H => ∃ b, PySem.W.exmOne K cls c = some b ∧ (b = true → ∀ a, H a = none → ts a cls d (endsAs i D) (σ.set i (some (.ref a))) H) ∧ (b = false → wAsL K Wout D r cls d σ H)
/-- the written clauses, one by one -/
inductive AsOk (X : Cx) : List ExceptHandler → List (Value × Nat × (Addr → Value → Option Addr → TS)) → Prop
  | nil : AsOk X [] []
  | cons {x n : Str} {c : Value} {i : Nat} {ts : Addr → Value → Option Addr → TS} {b₀ : Stmt} {suite : List Stmt} {np pos' : Pos} {hds : List ExceptHandler} {l : List (Value × Nat × (Addr → Value → Option Addr → TS))} (hc : Names X x c)
      (hi : X.N[i]? = some n) (hln : X.env.kindOf n = some .local)
      (hsu : ∀ (a : Addr) (oe : Obj) (cls : Value) (d : Option Addr) (pn : List (Addr × Obj)), Zc cls d oe → (∃ vs, oe.data = .fields vs) → PSs (X.suite a ((a, oe) :: pn)) (b₀ :: suite) (ts a cls d)) (r : AsOk X hds l) :
      AsOk X (.ExceptHandler (some (.Name x np)) (some n) (b₀ :: suite) pos' :: hds) ((c, i, ts) :: l)
section
variable {X : Cx} {body : List Stmt} {h₀ : ExceptHandler} {hds : List ExceptHandler} {l : List (Value × Nat × (Addr → Value → Option Addr → TS))} {pos : Pos} {tb : WX → TS} {Wout : WX}
theorem ps_try_asL (hs : X.stack = X.env :: X.outer) (hf : X.env.frame = some X.env.locals) (hN : X.N.Nodup) (tk : Takes X Wout)
    (hb : ∀ (W : WX) (pn : List (Addr × Obj)) (xe : Value → Shared → Prop), Takes (X.tr pn xe) W → PassesOwn (model X.prog X.w) X.A X.env xe → PSs (X.tr pn xe) body (tb W))
    (hh : AsOk X (h₀ :: hds) l) : PS X (.Try body (h₀ :: hds) [] [] pos) (fun D σ H => tb (wAsL X.K Wout D l) D σ H) := by
  refine ⟨fun pins s σ H D I h => ?_⟩
  have ok := I.ok
  have hfr : X.A.frames = some (X.env :: X.outer) := ok.frames.trans (congrArg some hs)
  refine wpAny_Try_except ?_
  refine wpAny_mono ((hb (wAsL X.K Wout D l) (X.pn ++ pins) (fun e s₁ => wpAny (model X.prog X.w) X.A (noteFrame e X.env) (fun _ s₂ => wpAny (model X.prog X.w) X.A (setFlight e none) (fun _ s₃ =>
    wpAny (model X.prog X.w) X.A (handleBy e X.env (h₀ :: hds)) (SP X pins D) X.xe s₃) X.xe s₂) X.xe s₁) (fun u s' xx => ?_) PassesOwn.looking).run [] s σ H D (I.toTry _) h) (fun f s1 hsp => ?_) (fun e s1 he => he)
  · obtain ⟨a, B, sI, pins', σ', H', cls, d, rfl, J', nb, up, sky, na, os, ag, w⟩ := xx
    have J : Inv X pins σ' H' sI := J'.ofTry ok
    have sky' : Sky B (X.env :: X.outer) a (Zc cls d) X.env.locals s'.heap := hs ▸ sky
    show wpAny (model X.prog X.w) X.A (noteFrame (.ref a) X.env) _ _ _
    refine Sky.land Zc.steady hfr hf sky' fun h3 fl3 up3 => ?_
    have up13 := up.trans up3
    have J3 : Inv X pins σ' H' { s' with heap := h3 } := J.landed nb fl3.1 up13 os ag
    obtain ⟨oe3, vs3, he3, hz3, hd3⟩ := fl3.there
    have nfr : a ∉ frs (X.env :: X.outer) := fun hm => by
      obtain ⟨_, o', e', hnf⟩ := fl3.2.2.1.mem hm
      exact hnf _ (by rw [he3] at e'; cases e'; exact hd3)
    have nL : a ≠ X.env.locals := fun z => nfr (List.mem_filterMap.mpr ⟨X.env, List.mem_cons_self, hf.trans (congrArg some z.symm)⟩)
    have nF : a ∉ X.fs := fun hm => by
      obtain ⟨e, he, q⟩ := List.mem_filterMap.mp hm
      exact nfr (List.mem_filterMap.mpr ⟨e, List.mem_cons_of_mem _ he, q⟩)
    have S3 := J3.suite he3 hd3 na nL nF
    have LT : PySem.W.Looks (model X.prog X.w) h3 (typeOf (.ref a)) cls := fun A Q E s k q => wpAny_typeOf_ref (k _ _ he3) (hz3.1.symm ▸ q)
    have go : ∀ {hds' : List ExceptHandler} {l' : List (Value × Nat × (Addr → Value → Option Addr → TS))}, AsOk X hds' l' → wAsL X.K Wout D l' cls d σ' H' →
        wpAny (model X.prog X.w) X.A (handleBy (.ref a) X.env hds') (SP X pins D) X.xe { s' with heap := h3 } := by
      intro hds' l' hk
      induction hk with
      | nil =>
        intro w
        refine wpAny_handleBy_nil ?_
        obtain ⟨k1, k2, k3, oe, vs, T, oT, ts', he, hz, hd, h1, hr⟩ := id fl3
        unfold PySem.passOn
        refine wpAny_bind (wpAny_field he hd h1 ?_)
        rw [if_neg (show ¬ ((Value.ref T == Value.none) = true) from by simp)]
        have fin : wpAny (model X.prog X.w) X.A (setFlight (.ref a) X.env.frame) (fun _ s4 => wpAny (model X.prog X.w) X.A (throw (.ref a) : Sem Flow) (SP X pins D) X.xe s4) X.xe { s' with heap := h3 } := by
          rw [hf]
          exact HandSPX.setFlight_upZ fl3 fun h4 hh4 up4 => wpAny_throw (tk _ _ ⟨a, B, sI, pins, σ', H', cls, d, rfl, J, nb, up13.trans up4, .inr (.inr (by rw [hs]; exact hh4)), na, os, ag, w⟩)
        first
          | exact wpAny_bind (wpAny_pure (wpAny_bind fin))
          | exact wpAny_bind fin
      | @cons x n c i ts b₀ suite np pos' hds2 l2 hc hi hln hsu r ih =>
        intro w
        obtain ⟨b, hb1, hyes, hno⟩ := w
        refine wpAny_handleBy_cons (codeAny_handlers_test ?_) (by intro q; cases q)
        have LM := PySem.W.exm_one (M := model X.prog X.w) (J3.kIn) LT hb1
        have test : ∀ {Q : Value → Shared → Prop} {E : Value → Shared → Prop}, Q c { s' with heap := h3 } → wpAny (model X.prog X.w) (X.A.mark (some (.ref a))) (eval (.Name x np) X.env) Q E { s' with heap := h3 } := fun {Q E} q => by
          obtain ⟨hg, hdbg, hm | ⟨hm, hv, hnn⟩⟩ := hc
          · exact ld_glob (X := X.suite a ((a, oe3) :: (X.pn ++ pins))) S3 hg hm q hdbg
          · exact ld_blt (X := X.suite a ((a, oe3) :: (X.pn ++ pins))) S3 hg hm hv q hnn hdbg
        refine test (LM.here ?_)
        cases b with
        | true =>
          refine codeAny_handlers_suite_as ?_
          refine HandSPX.lands_againZ fl3 fun h4 fl4 up4 => ?_
          have J4 : Inv X pins σ' H' { s' with heap := h4 } := J.landed nb fl4.1 (up13.trans up4) os ag
          obtain ⟨oe4, vs4, he4, hz4, hd4⟩ := fl4.there
          have S4 := J4.suite he4 hd4 na nL nF
          refine store_ok (X := X.suite a ((a, oe4) :: (X.pn ++ pins))) (v := .ref a) S4 hN hi (.inl hln) rfl (fun s5 S5 => ?_) (.inr hln)
          refine wpAny_mono ((hsu a oe4 cls d (X.pn ++ pins) hz4 ⟨_, hd4⟩).run [] s5 _ H' _ S5 (hyes rfl a na)) (fun f s6 hsp => ?_) (fun _ _ z => False.elim z)
          have done_ : ∀ {σ6 : L2.St} {H6 : Hp} {Q : Shared → Prop}, Inv (X.suite a ((a, oe4) :: (X.pn ++ pins))) [] σ6 H6 s6 → (∀ s7, Inv X pins (σ6.set i none) H6 s7 → Q s7) →
              wpAny (model X.prog X.w) X.A (do bindName X.env n .none; unbindBehindTheSuite X.env n pos') (fun _ s7 => Q s7) X.xe s6 := fun {σ6 H6 Q} S6 hq => gone_ok (S6.unsuite ok) hN hi hln hq
          match f, hsp with
          | .next, ⟨σ6, H6, S6, q6⟩ => exact done_ S6 fun s7 J7 => ⟨_, _, J7, q6⟩
          | .brk, ⟨σ6, H6, S6, q6⟩ => exact done_ S6 fun s7 J7 => ⟨_, _, J7, q6⟩
          | .cont, ⟨σ6, H6, S6, q6⟩ => exact done_ S6 fun s7 J7 => ⟨_, _, J7, q6⟩
          | .ret u, ⟨v6, σ6, H6, S6, r6, q6⟩ => exact done_ S6 fun s7 J7 => ⟨_, _, _, J7, r6, q6⟩
        | false =>
          show wpAny _ X.A (handleBy (.ref a) X.env hds2) _ _ _
          exact ih (hno rfl)
    exact go hh w
  · match f, hsp with
    | .next, ⟨σ', H', J', q⟩ => exact wpAny_execs_nil ⟨σ', H', J'.ofTry ok, q⟩
    | .brk, ⟨σ', H', J', q⟩ => exact ⟨σ', H', J'.ofTry ok, q⟩
    | .cont, ⟨σ', H', J', q⟩ => exact ⟨σ', H', J'.ofTry ok, q⟩
    | .ret u, ⟨v, σ', H', J', r, q⟩ => exact ⟨v, σ', H', J'.ofTry ok, r, q⟩
end
end XT

namespace XT
open PySem PySem.Spec PyProof.Rows L2
/-! ### repr of data -/
mutual
/-- what the text of d may come to -/
def sc : PyData → Nat
  | .none | .bool _ => 5
  | .int _ => 1921
  | .str x => 10 * x.length + 2
  | .list xs | .tuple xs => scAll xs + 3
  | .dict _ => 2
def scAll : List PyData → Nat
  | [] => 0
  | x :: xs => sc x + 2 + scAll xs
end
mutual
/-- data whose text is known: ints not too big, dicts empty -/
def plainD : PyData → Bool
  | .none | .bool _ => true
  | .int i => decide (i.natAbs.log2 < 1920)
  | .str x => x.cps.toList.all fun c => decide (c < 16 ^ 8)
  | .list xs | .tuple xs => plainAll xs
  | .dict kvs => kvs.isEmpty
def plainAll : List PyData → Bool
  | [] => true
  | x :: xs => plainD x && plainAll xs
end
mutual
theorem plain_showable : ∀ d : PyData, plainD d = true → d.showable = true
  | .none, _ => by simp [PyData.showable]
  | .bool _, _ => by simp [PyData.showable]
  | .int i, h => by simpa [PyData.showable, plainD] using h
  | .str _, _ => by simp [PyData.showable]
  | .list xs, h => by
    simp only [PyData.showable]
    exact plainAll_showable xs (by simpa [plainD] using h)
  | .tuple xs, h => by
    simp only [PyData.showable]
    exact plainAll_showable xs (by simpa [plainD] using h)
  | .dict [], _ => by simp [PyData.showable, PyData.showableKv]
  | .dict (_ :: _), h => by simp [plainD] at h
theorem plainAll_showable : ∀ xs : List PyData, plainAll xs = true → PyData.showableAll xs = true
  | [], _ => by simp [PyData.showableAll]
  | x :: xs, h => by
    have h' : plainD x = true ∧ plainAll xs = true := by simpa [plainAll] using h
    simp only [PyData.showableAll, Bool.and_eq_true]
    exact ⟨plain_showable x h'.1, plainAll_showable xs h'.2⟩
end
mutual
theorem shown_sc : ∀ d : PyData, plainD d = true → d.shown.length ≤ sc d
  | .none, _ => by decide +kernel
  | .bool true, _ => by decide +kernel
  | .bool false, _ => by decide +kernel
  | .int i, h => by
    have e : i.natAbs.log2 < 1920 := by simpa [plainD] using h
    have := PySem.int_text_length_le (k := 1920) (by decide) e
    show (Str.ofString (toString i)).length ≤ 1921
    rw [PySem.ofString_length]
    exact this
  | .str x, h => by
    simp only [sc, PyData.shown]
    refine StrLaws.reprText_len x ?_
    unfold plainD at h
    rw [List.all_eq_true] at h
    exact fun c hc => of_decide_eq_true (h c hc)
  | .list xs, h => by
    simp only [sc, PyData.shown]
    have := shownAll_sc xs (by simpa [plainD] using h)
    have := listText_len_le (PyData.shownAll xs)
    omega
  | .tuple xs, h => by
    simp only [sc, PyData.shown]
    have := shownAll_sc xs (by simpa [plainD] using h)
    have := tupleText_len_le (PyData.shownAll xs)
    omega
  | .dict [], _ => by decide +kernel
  | .dict (_ :: _), h => by simp [plainD] at h
theorem shownAll_sc : ∀ xs : List PyData, plainAll xs = true → ((PyData.shownAll xs).map (·.length)).sum + 2 * (PyData.shownAll xs).length ≤ scAll xs
  | [], _ => by simp [PyData.shownAll, scAll]
  | x :: xs, h => by
    have h' : plainD x = true ∧ plainAll xs = true := by simpa [plainAll] using h
    have h1 := shown_sc x h'.1
    have h2 := shownAll_sc xs h'.2
    simp only [PyData.shownAll, scAll, List.map_cons, List.sum_cons, List.length_cons]
    omega
end
theorem scAll_ints (L : List Int) : scAll (L.map PyData.int) = 1923 * L.length := by
  induction L with
  | nil => rfl
  | cons x L ih => simp only [List.map_cons, scAll, ih, sc, List.length_cons]; omega
theorem log2_lt_of {m : Nat} (h : m < 2 ^ 1920) : m.log2 < 1920 := by
  by_cases e : m = 0
  · subst e
    decide
  · exact (Nat.log2_lt e).mpr h
theorem plainAll_ints {L : List Int} (h : ∀ x ∈ L, x.natAbs < 2 ^ 1920) : plainAll (L.map PyData.int) = true := by
  induction L with
  | nil => rfl
  | cons x L ih =>
    simp only [List.map_cons, plainAll, Bool.and_eq_true]
    refine ⟨?_, ih fun y hy => h y (List.mem_cons_of_mem _ hy)⟩
    simp only [plainD, decide_eq_true_eq]
    exact log2_lt_of (h x List.mem_cons_self)
/-- x stands for the data d: flat and nested lists and tuples; an empty dict alone, or second in a pair -/
def Rd (K : PySem.W.Frag) (H : Hp) (x : V) (d : PyData) : Prop :=
  (Dp K H x d ∧ d.hasDict = false) ∨ (∃ a, x = .ref a ∧ H a = some (.dK []) ∧ d = .dict []) ∨ ∃ (a b : Addr) (i : Int), x = .ref a ∧ SqT K H a [.int i, .ref b] ∧ H b = some (.dK []) ∧ d = .tuple [.int i, .dict []]
section
variable {X : Cx} {pins : List (Addr × Obj)} {σ : L2.St} {H : Hp} {s : Shared}
theorem emp_reads {a : Addr} (I : Inv X pins σ H s) (h : H a = some (.dK [])) : Reads s.heap (.ref a) (.dict []) [a] ∧ a ≠ sysModules := by
  obtain ⟨_, hs, vs, hkv, o, es, ep, ho, hx, hd, _, hp, _⟩ := I.hok a _ h
  have ev : vs = [] := by cases hkv; rfl
  subst ev
  have ee : es.toList = [] := by
    first
      | (cases hp; assumption)
      | (have := hp.length; simpa using this)
      | (generalize es.toList = l at hp; cases hp; rfl)
  refine ⟨?_, fun z => by subst z; simp at hs⟩
  have z := Reads.dict (kvs := []) (as := []) (bs := []) ho hx.1 hd (by rw [ee]; exact .nil) (by rw [ee]; exact .nil)
  simpa using z
theorem Rd.reads {x : V} {u : Value} {d : PyData} (I : Inv X pins σ H s) (h : Rd X.K H x d) (r : RelV x u) : ∃ as, Reads s.heap u d as ∧ (d.hasDict = true → sysModules ∉ as) := by
  rcases h with ⟨h, hn⟩ | ⟨a, rfl, h, rfl⟩ | ⟨a, b, i, rfl, ht, h, rfl⟩
  · obtain ⟨as, q⟩ := Dp.reads I d x u h r
    exact ⟨as, q, PyData.noDict_hsm hn⟩
  · cases r
    obtain ⟨q, ne⟩ := emp_reads I h
    exact ⟨_, q, fun _ z => ne (List.mem_singleton.mp z).symm⟩
  · cases r
    obtain ⟨q, ne⟩ := emp_reads I h
    obtain ⟨its, rv, ⟨o, ho, hc, n, hd⟩, _⟩ := I.tuple ht
    cases rv with
    | cons r1 rr =>
      cases rr with
      | cons r2 rr =>
        cases rr
        obtain ⟨t, rfl⟩ := r1
        cases r2
        refine ⟨_, Reads.tuple ho hc hd (.cons (.int i t) (.cons q .nil)), fun _ z => ?_⟩
        simp at z
        exact ne z.symm
/-- repr(x) of data -/
def rReprD (K : PySem.W.Frag) : List V → Hp → VK → Prop := fun xs H Q => ∃ x d, xs = [x] ∧ Rd K H x d ∧ plainD d = true ∧ d.depth ≤ 50 ∧ sc d ≤ 16000000 ∧ Q (.str d.shown) H
theorem call_reprD (hg : X.A.guards = some []) (hu : X.A.units + 64 < cLine) : CallR X (.builtin "repr") (rReprD X.K) := by
  intro pins s σ H xs us Q I r h
  obtain ⟨x, d, rfl, hr, hp, hd, hz, q⟩ := h
  obtain ⟨u, rfl, ru⟩ := r.one
  obtain ⟨as, hre, hsm⟩ := hr.reads I ru
  have hsz : d.shown.length ≤ sizeLine := by
    have := shown_sc d hp
    rw [sizeLine_eq]
    omega
  have fin : ∀ h' v tk, (∀ b o, s.heap.get? b = some o → h'.get? b = some o) → EP X pins σ Q (.str d.shown v) { s with heap := h', toks := tk } := fun h' v tk k => ⟨.str d.shown, H, I.kept (t' := tk) k, ⟨v, rfl⟩, q⟩
  cases hre with
  | none => exact PySem.P.repr_of_none (fin s.heap _ _ fun _ _ z => z)
  | bool b => exact PySem.P.repr_of_bool (by cases b <;> exact fin s.heap _ _ fun _ _ z => z)
  | int i t => exact PySem.P.repr_of_int (by simpa [plainD] using hp) (fin s.heap _ _ fun _ _ z => z)
  | str y t => exact PySem.P.repr_of_str (fin s.heap _ _ fun _ _ z => z) hsz
  | list h1 h2 h3 h4 => exact repr_of_reads' (.list h1 h2 h3 h4) (plain_showable _ hp) hsm hg (by omega) (fun _ _ z => z) fin hsz
  | tuple h1 h2 h3 h4 => exact repr_of_reads' (.tuple h1 h2 h3 h4) (plain_showable _ hp) hsm hg (by omega) (fun _ _ z => z) fin hsz
  | dict h1 h2 h3 h4 h5 => exact repr_of_reads' (.dict h1 h2 h3 h4 h5) (plain_showable _ hp) hsm hg (by omega) (fun _ _ z => z) fin hsz
end
end XT

namespace XT
open PySem PySem.Spec PyProof.Rows L2
/-! ### the law's call, no repr under way at its start -/
section
variable {P : Program} {w : World} {K : PySem.W.Frag} {mg mb : Str → Option Value} {CX : CXT} {k : Nat} {fa a : Addr} {sp : Sp} {s₁ : Shared} {vs : List Value} {ns : List Int}
/-- from one abstract heap: nothing but the script is tracked -/
theorem law_coreG (H : Hp) (KX : K.In s₁.heap) (hns : s₁.heap.Ns mainGlobals mg) (hb : s₁.heap.Ns builtinsNs mb) (hbb : ∀ x : Str, x ≠ "__name__" → mb x = bootBuiltins x) (hlim : s₁.heap.NoLimit) (hg : s₁.gens = #[])
    (ha : s₁.heap.get? a = some { cls := .type "list", data := .seq vs.toArray }) (hr : Room k callerA)
    (F : ∀ base : Heap, K.In base → base.Ns mainGlobals mg → FnG P w K mg base CX k fa sp)
    (hq : sp [.ref a] H (fun v _ => v = .bl true) fun _ _ _ => False) (hCX : ∀ H e s', CX [] H s₁ (fun _ _ _ => False) e s' → False)
    (hO : Only H) (hok : HOk P w H s₁.heap) (hA : ∀ b, H b ≠ none → b = a) (hK : H a ≠ none → K.lookup a = none) :
    codeAny (model P w) callerA (.call (.ref fa) ⟨[.ref a], []⟩) (fun r s' => r = .ok (.ret (.bool true)) ∧ OldK s₁.heap s'.heap ∧ s'.os = s₁.os ∧ AllBare s'.gens) s₁ := by
  have free : ∀ {b : Addr}, (b = a → False) → H b = none := fun {b} h => by
    by_cases q : H b = none
    · exact q
    · exact (h (hA b q)).elim
  have noA : ∀ {b : Addr} {o : Obj} {es : Array DictEntry} {ep : Nat}, s₁.heap.get? b = some o → o.data = .dict es ep → H b = none := fun {b o es ep} e d => free fun z => by
    subst z
    rw [ha] at e
    cases e
    have d' : Data.seq vs.toArray _ = Data.dict es ep := d
    cases d'
  have hKb : K.In (hidT s₁.heap H) := fun b o e => hidT_get (KX b o e) (by
    by_cases q : H b = none
    · exact q
    · have z := hA b q
      subst z
      rw [hK q] at e
      cases e)
  have nsK : ∀ {b : Addr} {m : Str → Option Value}, s₁.heap.Ns b m → (hidT s₁.heap H).Ns b m := fun {b m} ⟨o, es, ep, e, d, r⟩ => ⟨o, es, ep, hidT_get e (noA e d), d, r⟩
  have hM : Mod K mg (hidT s₁.heap H) := ⟨hKb, nsK hns, ⟨mb, nsK hb, hbb⟩, let ⟨mc, h1, h2⟩ := hlim; ⟨mc, nsK h1, h2⟩⟩
  have e0 : Env0 P w K mg (hidT s₁.heap H) callerA [] s₁ H := ⟨rfl, hM, fun b o e => of_hidT e, Nat.le_of_eq (hidT_size _ _), trivial, fun b hb => absurd (show b ∈ ([] : List Addr) from hb) (by simp), hok, .of_eq hg⟩
  refine codeAny_mono (F _ hKb (nsK hns) callerA [] s₁ H [.ref a] [.ref a] _ _ rfl hr e0 (.cons rfl .nil) hq) fun r s' h => ?_
  match r, h with
  | .error e, h => exact (hCX H e s' h).elim
  | .ok (.ret u), ⟨v, H', os, bare, un, hok', r', q⟩ =>
    have q' : v = .bl true := q
    subst q'
    obtain rfl : u = Value.bool true := r'
    refine ⟨rfl, OldK.of_keep fun b o e => ?_, os, bare⟩
    cases q : H b with
    | none => exact un.keep b o e q (by intro z; exact absurd (show b ∈ ([] : List Addr) from z) (by simp)) (by simp)
    | some u =>
      rcases hO b with z | ⟨ob, xs, z⟩
      · rw [q] at z
        cases z
      · obtain ⟨e1, _⟩ := hok b _ z
        obtain ⟨e2, _⟩ := hok' b _ (un.frzs b ob _ z)
        rw [e] at e1
        cases e1
        exact e2
theorem law_callG (KX : K.In s₁.heap) (hns : s₁.heap.Ns mainGlobals mg) (hb : s₁.heap.Ns builtinsNs mb) (hbb : ∀ x : Str, x ≠ "__name__" → mb x = bootBuiltins x) (hlim : s₁.heap.NoLimit) (hg : s₁.gens = #[])
    (ha : s₁.heap.get? a = some { cls := .type "list", data := .seq vs.toArray }) (hi : IntsAre vs ns) (hl : ns.length ≤ sizeLine) (hr : Room k callerA)
    (F : ∀ base : Heap, K.In base → base.Ns mainGlobals mg → FnG P w K mg base CX k fa sp)
    (hsp : ∀ H : Hp, Only H → SqL K H a (ns.map V.int) → sp [.ref a] H (fun v _ => v = .bl true) fun _ _ _ => False)
    (hCX : ∀ H e s', CX [] H s₁ (fun _ _ _ => False) e s' → False) :
    codeAny (model P w) callerA (.call (.ref fa) ⟨[.ref a], []⟩) (fun r s' => r = .ok (.ret (.bool true)) ∧ OldK s₁.heap s'.heap ∧ s'.os = s₁.os ∧ AllBare s'.gens) s₁ := by
  have rv := vals_ints hi
  have lenV := hi.length
  cases hk : K.lookup a with
  | some o =>
    have e := KX a o hk
    rw [ha] at e
    cases e
    have hO : Only fun _ => none := fun _ => .inl rfl
    exact law_coreG (fun _ => none) KX hns hb hbb hlim hg ha hr F (hsp _ hO (.inr ⟨_, vs.toArray, _, hk, rfl, rfl, rfl, by rw [List.size_toArray, lenV]; exact hl, by simpa using rv⟩)) hCX hO (fun b u z => nomatch (show (none : Option HO) = some u from z)) (fun b z => absurd rfl z) fun z => absurd rfl z
  | none =>
    let o : HO := .frz { cls := .type "list", data := .seq vs.toArray } (.lst (ns.map V.int))
    let H : Hp := fun b => if b = a then some o else none
    have at_ : H a = some o := if_pos rfl
    have off : ∀ {b}, b ≠ a → H b = none := fun h => if_neg h
    have hO : Only H := fun b => by
      by_cases e : b = a
      · subst e
        exact .inr ⟨_, _, at_⟩
      · exact .inl (off e)
    refine law_coreG H KX hns hb hbb hlim hg ha hr F (hsp H hO (.inl (.inr ⟨_, at_⟩))) hCX hO (fun b u z => ?_) (fun b z => ?_) fun _ => hk
    · by_cases e : b = a
      · subst e
        rw [at_] at z
        cases z
        exact ⟨ha, by rw [List.length_map]; exact hl, vs, _, rv, ha⟩
      · rw [off e] at z
        cases z
    · by_cases e : b = a
      · exact e
      · exact absurd (off e) z
end
/-- the goal of the head, from the law's promise -/
theorem walkG {l : PySem.W.OpenLaw} {n k : Nat} {q : Program} {loose : List Str} {XP : (Str → Option Value) → Heap → Prop} {YP : World → Heap → Prop} {d : DefRec} {K : Params → PySem.W.Frag} {CX : World → CXT} {sp : World → Sp}
    (hn : l.most = some n) (hn2 : n ≤ sizeLine) (hdf : d.params.defaults = []) (hr : Room k callerA)
    (hY : ∀ (w : World) (h : Heap), YP w h → (K w.params).In h)
    (F : ∀ (w : World) (mg : Str → Option Value) (fa : Addr) (h : Heap), (K w.params).In h → h.Ns mainGlobals mg → mg d.name = some (.ref fa) →
      ∀ base : Heap, (K w.params).In base → base.Ns mainGlobals mg → FnG l.prog w (K w.params) mg base (CX w) k fa (sp w))
    (hsp : ∀ (w : World) (H : Hp) (a : Addr) (ns : List Int), ns.length ≤ n → Only H → SqL (K w.params) H a (ns.map V.int) → sp w [.ref a] H (fun v _ => v = .bl true) fun _ _ _ => False)
    (hCX : ∀ (w : World) (H : Hp) (s : Shared) (e : Value) (s' : Shared), CX w [] H s (fun _ _ _ => False) e s' → False) :
    PySem.W.WalkO q loose XP YP l.row.toRowW d [] (fun f vs => PySem.call f vs) := by
  refine Att.attach_call hn hdf fun w s₀ s₁ mg mb fa o pm cd doc a vs ns G Y ho hd hcd hmg hobj hints hlen hg => ?_
  have KX := hY w _ Y
  exact law_callG KX G.T.g G.T.b G.T.builtins G.T.nolimit hg hobj hints (Nat.le_trans hlen hn2) hr (F w mg fa _ KX G.T.g hmg) (fun H hO hS => hsp w H a ns hlen hO hS) fun H e s' => hCX w H s₁ e s'
end XT

namespace XT
open PySem PySem.Spec PyProof.Rows L2
/-! ### own errors that keep one field -/
section
variable {X : Cx}
/-- isinstance(e, c), e the exception that the suite holds, with a dict of its own -/
def rIsED (K : PySem.W.Frag) (D a : Addr) (cls : Value) (d : Option Addr) : List V → Hp → VK → Prop := fun xs H Q => ∃ (c : V) (cv : Value) (b : Bool) (dd : Addr) (fs : List (Str × V)), xs = [.ref a, c] ∧ cls = .ref D ∧ (∀ u, RelV c u → u = cv) ∧ d = some dd ∧ H dd = some (.xd fs) ∧ PySem.W.kitOne K (.ref D) cv = some b ∧ Q (.bl b) H
theorem call_isED {a D : Addr} {oe : Obj} {cls : Value} {d : Option Addr} {pn : List (Addr × Obj)} (C : ExcC X.K D) (hz : Zc cls d oe) (hf : ∃ vs, oe.data = .fields vs) : CallR (X.suite a ((a, oe) :: pn)) (.builtin "isinstance") (rIsED X.K D a cls d) := by
  intro pins s σ H xs us Q I r h
  obtain ⟨c, cv, b, dd, fs, rfl, rfl, hcv, rfl, ed, e, q⟩ := h
  cases r with
  | cons rx rr =>
    cases rr with
    | cons rt rr =>
      cases rr
      cases rx
      have ec := hcv _ rt
      subst ec
      obtain ⟨hget, _⟩ := I.pin (a, oe) (List.mem_append.mpr (.inl List.mem_cons_self))
      obtain ⟨vs, hv⟩ := hf
      obtain ⟨mA, hns, hr⟩ := show ∃ mA, s.heap.Ns1 dd mA ∧ ∀ f, RelO (fs.lookup f) (mA f) from I.hok dd _ ed
      obtain ⟨od, ho, _⟩ := lookIn_ns hns
      have J : PySem.W.InstAt s.heap a oe D (some od) := ⟨hget, hz.1, by unfold PySem.W.notCls; rw [hv] <;> rfl, by rw [hz.2]; exact ho⟩
      have hc : (PySem.W.clsIn X.K D).isSome = true := by
        obtain ⟨cd, hc, _⟩ := PySem.W.any_some C.hd
        rw [hc]
        rfl
      exact PySem.W.kia_one (PySem.W.kitx_exc hc C.hg C.hk C.hs C.ha C.hn C.ht C.hm) I.kIn J e (fun z => nomatch z) fun tk => ⟨.bl b, H, I.kept (t' := tk) fun _ _ z => z, rfl, q⟩
end
/-- the __init__ of such an error: self.f = v -/
def spErr (f : Str) (C : Addr) : Sp := fun vs H Q _ => ∃ (a : Addr) (v : V), vs = [.ref a, v] ∧ H a = some (exo a C none) ∧ ∀ d, H d = none → d ≠ a → Q .non (upd (upd H d (exd d [(f, v)])) a (exo a C (some d)))
/-- what the written part says of such an error -/
structure ErrC (K : PySem.W.Frag) (C fI : Addr) (f : Str) : Prop where
  oex : OexC K C
  iC : PySem.W.findIn K (.ref C) "__init__" = some (some (.ref fI))
  tI : PySem.W.typeIn K (.ref fI) = some (.type "function")
  no : PySem.W.findIn K (.ref C) f = some none
  ga : PySem.W.findIn K (.ref C) "__getattribute__" = some (some (.builtin "BaseException.__getattribute__"))
  gg : PySem.W.findIn K (.ref C) "__getattr__" = some none
  hd : PySem.W.hasDictIn K C = true
  ha : PySem.W.findIn K (.ref C) "__class__" = some (some (.builtin "object.__class__"))
  hn : PySem.W.specialIn K (.builtin "object.__class__") "__get__" = some (some (.builtin "getset_descriptor.__get__"))
  ht : PySem.W.takesIn K (.builtin "object.__class__") = some true
  hm : PySem.W.mroIn K C (.type "object") = some true
theorem ErrC.xf {K : PySem.W.Frag} {C fI : Addr} {f : Str} (T : ErrC K C fI f) : XfC K C := ⟨T.ga, T.gg, T.oex.exC, T.hd⟩
theorem ErrC.exc {K : PySem.W.Frag} {C fI : Addr} {f : Str} (T : ErrC K C fI f) : ExcC K C := ⟨T.ga, T.gg, T.oex.exC, T.hd, T.ha, T.hn, T.ht, T.hm⟩
theorem made_same {H : Hp} {a d C : Addr} {f : Str} {v : V} (ha : H a = none) (hd : d ≠ a) :
    upd (del (upd (upd (upd H a (exo a C none)) d (exd d [(f, v)])) a (exo a C (some d))) a) d (.xd [(f, v)]) = upd H d (.xd [(f, v)]) := by
  funext b
  by_cases e1 : b = d
  · subst e1
    rw [upd_same, upd_same]
  · rw [upd_ne e1, upd_ne e1]
    by_cases e2 : b = a
    · subst e2
      rw [del_same, ha]
    · rw [del_ne e2, upd_ne e2, upd_ne e1, upd_ne e2]
section
variable {X : Cx}
/-- C(e), the error made -/
def tErr (C : Addr) (f : Str) (te : TE) : L2.St → Hp → XK → Prop := fun σ H Q => te σ H fun v H1 => tMkO C (spErr f C) [] (fun _ H Q => Q [v] H) σ H1 Q
theorem err_rd {C : Addr} {f : Str} {v : V} {σ : L2.St} {H : Hp} {Q : XK} (h : ∀ d, H d = none → Q (.ref C) (some d) (upd H d (.xd [(f, v)]))) : tMkO C (spErr f C) [] (fun _ H Q => Q [v] H) σ H Q := by
  refine ⟨by simp, fun a ha => ⟨a, v, rfl, upd_same, fun d hd hne => ⟨rfl, d, [(f, v)], upd_same, ?_, ?_, ?_⟩⟩⟩
  · rw [upd_ne hne, upd_same]
  · rw [upd_ne hne] at hd
    exact hd
  · have hd' : H d = none := by
      rw [upd_ne hne] at hd
      exact hd
    rw [made_same ha hne]
    exact h d hd'
theorem pmk_err {x : Str} {C fI : Addr} {f : Str} {k : Nat} {fd : FuncData} {ps : List Str} {e : Expr} {te : TE} {p pos : Pos} (T : ErrC X.K C fI f) (F1 : FnOk X.prog X.w X.K X.mg X.base CX0 k fI fd ps (spErr f C)) (hb : Binds X.K fd ps []) (hr : Room (k + 1) X.A)
    (hg : Gl X x) (hm : X.mg x = some (.ref C)) (he : PE X e te) (hdb : (x == ("__debug__" : Str)) = false := by decide)
    (hs : starEach [e] X.env = (false, eval e X.env) :: starEach [] X.env := by rfl) (hpl : (backTo pos (starEach [] X.env)).any (·.1) = false := by rfl) :
    PMk X (.Call (.Name x p) [e] [] pos) (tErr C f te) :=
  pmk_oex T.oex T.iC T.tI F1 hr hb .nil pass0 hg hm (pa_cons he pa_nil hs) hdb hs hpl
/-- raise C(e) in a def -/
theorem ps_raiseE {W : WX} {x : Str} {C fI : Addr} {f : Str} {k : Nat} {fd : FuncData} {ps : List Str} {e : Expr} {te : TE} {p pos rpos : Pos} (T : ErrC X.K C fI f) (F1 : FnOk X.prog X.w X.K X.mg X.base CX0 k fI fd ps (spErr f C)) (hb : Binds X.K fd ps []) (hr : Room (k + 1) X.A)
    (hm : X.mg x = some (.ref C)) (hc : X.calm = true) (tk : Takes X W) (he : PE X e te) (hg : Gl X x := by rfl) (hdb : (x == ("__debug__" : Str)) = false := by decide)
    (hs : starEach [e] X.env = (false, eval e X.env) :: starEach [] X.env := by rfl) (hpl : (backTo pos (starEach [] X.env)).any (·.1) = false := by rfl) :
    PS X (.Raise (some (.Call (.Name x p) [e] [] pos)) none rpos) (fun _ σ H => tErr C f te σ H fun cls d H' => W cls d σ H') :=
  ps_raise hc tk (pmk_err T F1 hb hr hg hm he hdb hs hpl)
end
end XT

namespace XT
open PySem PySem.Spec PyProof.Rows L2
section
variable {P : Program} {w : World} {K : PySem.W.Frag} {mg : Str → Option Value} {base : Heap} {CX : CXT} {j k : Nat} {f : Addr} {sp sp' : Sp}
/-- a def that lets nothing out, where something may be let out -/
theorem fnR_lift (F : FnR P w K mg base CX0 k f sp) : FnR P w K mg base CX k f sp := fun A outer s H us vs Q E hr e0 r hs =>
  codeAny_mono (F A outer s H us vs Q E hr e0 r hs) fun r s' h => by
    match r, h with
    | .ok (.ret u), h => exact h
    | .error e, h => exact False.elim h
theorem fnR_or (F : FnR P w K mg base CX k f sp) (G : FnR P w K mg base CX k f sp') : FnR P w K mg base CX k f (fun vs H Q E => sp vs H Q E ∨ sp' vs H Q E) := fun A outer s H us vs Q E hr e0 r hs =>
  hs.elim (fun h => F A outer s H us vs Q E hr e0 r h) (fun h => G A outer s H us vs Q E hr e0 r h)
end
/-- what a call in a try may let out: told for all slots -/
theorem passAll {X : Cx} {W : WX} (tk : Takes X W) (n : Nat) (hn : X.N.length = n) : Passes (L2.CX X.prog X.w) X (fun cls d H => ∀ σ : L2.St, σ.length = n → W cls d σ H) :=
  fun _ σ _ _ e s' I c => tk e s' (XE.of_call I (fun _ _ _ h => h σ (I.len.trans hn)) c)
mutual
theorem dp_same {K : PySem.W.Frag} {H H' : Hp} (s : Same H H') : ∀ (d : PyData) (v : V), Dp K H v d → Dp K H' v d
  | .none, _, h => by cases h; exact .non
  | .bool b, _, h => by cases h; exact .bl b
  | .int i, _, h => by cases h; exact .int i
  | .str x, _, h => by cases h; exact .str x
  | .list ds, _, h => by
    cases h with
    | lst hs ha => exact .lst (s.seq hs) (dpAll_same s ds _ ha)
  | .tuple ds, _, h => by
    cases h with
    | tup hs ha => exact .tup (same_seqT s hs) (dpAll_same s ds _ ha)
  | .dict _, _, h => by cases h
theorem dpAll_same {K : PySem.W.Frag} {H H' : Hp} (s : Same H H') : ∀ (ds : List PyData) (vs : List V), DpAll K H vs ds → DpAll K H' vs ds
  | [], _, h => by cases h; exact .nil
  | d :: ds, _, h => by
    cases h with
    | cons h1 h2 => exact .cons (dp_same s d _ h1) (dpAll_same s ds _ h2)
end
theorem rd_same {K : PySem.W.Frag} {H H' : Hp} (s : Same H H') {v : V} {d : PyData} (h : Rd K H v d) : Rd K H' v d := by
  rcases h with ⟨h, n⟩ | ⟨a, e, h, e2⟩ | ⟨a, b, i, e, h1, h2, e2⟩
  · exact .inl ⟨dp_same s d v h, n⟩
  · exact .inr (.inl ⟨a, e, s _ _ h, e2⟩)
  · exact .inr (.inr ⟨a, b, i, e, same_seqT s h1, s _ _ h2, e2⟩)
/-- data whose text may be asked for -/
structure Okd (d : PyData) : Prop where
  pl : plainD d = true
  dp : d.depth ≤ 50
  sz : sc d ≤ 16000000
theorem repr_rd {K : PySem.W.Frag} {x : V} {d : PyData} {H : Hp} {Q : VK} (h : Rd K H x d) (o : Okd d) (q : Q (.str d.shown) H) : rReprD K [x] H Q := ⟨x, d, rfl, h, o.pl, o.dp, o.sz, q⟩
section
variable {X : Cx} (K : PySem.W.Frag)
theorem reprKx (hg : X.A.guards = some []) (hu : X.A.units + 64 < cLine) (hK : X.K = K := by rfl) : CallR X (.builtin "repr") (rReprD K) := by
  subst hK
  exact call_reprD hg hu
theorem isEKx {a D : Addr} {oe : Obj} {cls : Value} {d : Option Addr} {pn : List (Addr × Obj)} (C : ExcC K D) (hz : Zc cls d oe) (hf : ∃ vs, oe.data = .fields vs) (hK : X.K = K := by rfl) : CallR (X.suite a ((a, oe) :: pn)) (.builtin "isinstance") (rIsED K D a cls d) := by
  subst hK
  exact call_isED C hz hf
end
section
variable {X : Cx}
/-- f(e, ..), f an expression that gives a tracked instance of C -/
def tCallI (C : Addr) (sp : Sp) (E : XK) (tf : TE) (t : TA) : TE := fun σ H Q => tf σ H fun y H1 => ∃ a, y = V.ref a ∧ t σ H1 fun vs H2 => InsA H2 a C ∧ sp (V.ref a :: vs) H2 Q E
theorem pe_callI {CX : CXT} {C : Addr} {k : Nat} {sp : Sp} {E : XK} {fe e : Expr} {es : List Expr} {tf : TE} {t : TA} {pos : Pos} {g : Addr} (hf : PE X fe tf) (c : StX.CallO X.K C g) (F : FnR X.prog X.w X.K X.mg X.base CX k g sp) (hr : Room k X.A) (hx : Passes CX X E) (ha : PA X (e :: es) t)
    (ht : eval (.Call fe (e :: es) [] pos) X.env = (do callWith pos (← eval fe X.env) [] (backTo pos (starEach (e :: es) X.env)) (backToKw pos (keywordEach [] X.env))) := by rfl)
    (he : starEach (e :: es) X.env = (false, eval e X.env) :: starEach es X.env := by rfl) (hpl : (backTo pos (starEach es X.env)).any (·.1) = false := by rfl) : PE X (.Call fe (e :: es) [] pos) (tCallI C sp E tf t) := by
  refine ⟨fun pins s σ H Q I h => ?_⟩
  refine Call_ (thn (hf.run pins s σ H _ I h) fun u s1 ⟨y, H1, I1, ry, a, ey, q⟩ => ?_) ht
  subst ey
  obtain rfl : u = Value.ref a := ry
  refine StX.callO_with (thn (ha.run pos pins s1 σ H1 _ I1 q) fun us s2 ⟨vs, H2, I2, r, hi, q2⟩ => ?_) he hpl
  have hi' : StX.InsC X H2 a C := let ⟨dx, fs, h⟩ := hi; .inr ⟨dx, fs, h⟩
  obtain ⟨ox, od, J, hd⟩ := StX.insC_at I2 hi'
  exact ⟨⟨C, ox, od, J, hd⟩, StX.run_callO c F hr hx I2 hi' r q2⟩
/-- f(e, ..), f a global def with a promise where no repr is under way -/
theorem pe_callG {CX : CXT} {k : Nat} {f : Addr} {sp : Sp} {E : XK} {x : Str} {e : Expr} {es : List Expr} {t : TA} {p pos : Pos} (F : FnG X.prog X.w X.K X.mg X.base CX k f sp) (hgu : X.A.guards = some []) (hr : Room k X.A) (hg : Gl X x) (hm : X.mg x = some (.ref f)) (hk : PySem.W.keepIn X.K (.ref f) = true) (hx : Passes CX X E) (ha : PA X (e :: es) t) (hd : (x == ("__debug__" : Str)) = false := by decide)
    (he : starEach (e :: es) X.env = (false, eval e X.env) :: starEach es X.env := by rfl) (hst : (backTo pos (starEach es X.env)).any (·.1) = false := by rfl) :
    PE X (.Call (.Name x p) (e :: es) [] pos) (tCallR sp E t) := by
  refine ⟨fun pins s σ H Q I h => ?_⟩
  refine wpAny_Call_Name_kw (ld_glob I hg hm ?_ hd)
  refine PySem.W.callWith_K (h₀ := X.base) I.ok.mod.kin hk (thn (ha.run pos pins s σ H _ I h) fun us s1 ⟨vs, H1, I1, r, q⟩ => ⟨I1.kIn, ?_⟩) he hst
  refine wpAny_call (codeAny_mono (F X.A X.stack s1 H1 us vs Q E hgu hr I1.env0 r q) fun r s' hq => ?_)
  match r, hq with
  | .error e, hq => exact hx pins σ H1 s1 e s' I1 hq
  | .ok (.ret u), hq => exact I1.after hq
end
end XT

namespace XT
open PySem PySem.Spec PyProof.Rows L2
section
variable {X : Cx} (K : PySem.W.Frag)
/-- x == y, x of an own class with __eq__, y of another type -/
def rOwnEo (K : PySem.W.Frag) (C : Addr) (sp : Sp) (E : XK) : R2 := fun x y H Q => ∃ a t, x = .ref a ∧ InsA H a C ∧ TyX K H y t ∧ PySem.W.notFirst K C t = true ∧ sp [x, y] H Q E
theorem op_ownEo {CX : CXT} {n : Nat} {C g : Addr} {sp : Sp} {E : XK} (hs : PySem.W.findIn X.K (.ref C) "__eq__" = some (some (.ref g))) (hf : PySem.W.isFn X.K (.ref g) = true) (F : FnR X.prog X.w X.K X.mg X.base CX n g sp)
    (hr : Room n X.A) (hx : Passes CX X E) : OpR X (compareOp .Eq) (rOwnEo X.K C sp E) := by
  intro pins s σ H x y v u Q I rx ry h
  obtain ⟨a, t, rfl, ha, ht, hn, q⟩ := h
  cases (show v = Value.ref a from rx)
  obtain ⟨ox, od, J⟩ := insA_at I ha
  obtain ⟨Z, kz, hz, _⟩ := kit_of I ry ht
  obtain ⟨m, hF⟩ := I.fr
  show wpAny _ _ (richCompare .Eq _ _) _ _ _
  refine PySem.W.cmp_K (op := .Eq) (tb := t) hr.units0 hF I.ok.mod.kin J (kz.ty _ _ I.kIn hz) hn hs hf ?_
  refine wpAny_mono (wpAny_call (run_fnR (us := [.ref a, u]) (vs := [.ref a, y]) F hr hx I (.cons rfl (.cons ry .nil)) q)) (fun w s' z => ?_) fun _ _ x => x
  obtain ⟨z', H', I', rz, qz⟩ := z
  exact SlX.cmpback rz ⟨z', H', I', rz, qz⟩
theorem op_ownEoK {CX : CXT} {n : Nat} {C g : Addr} {sp : Sp} {E : XK} (hs : PySem.W.findIn K (.ref C) "__eq__" = some (some (.ref g))) (hf : PySem.W.isFn K (.ref g) = true) (F : FnR X.prog X.w K X.mg X.base CX n g sp)
    (hr : Room n X.A) (hx : Passes CX X E) (hK : X.K = K := by rfl) : OpR X (compareOp .Eq) (rOwnEo K C sp E) := by
  subst hK
  exact op_ownEo hs hf F hr hx
/-- not x, x of an own class with __bool__ -/
def tNotO (C : Addr) (sp : Sp) (E : XK) (ta : TE) : TE := fun σ H Q => ta σ H fun x H1 => ∃ a, x = .ref a ∧ InsA H1 a C ∧ sp [x] H1 (fun z H2 => ∃ b, z = .bl b ∧ Q (.bl (!b)) H2) E
theorem pe_notO {CX : CXT} {n : Nat} {C g : Addr} {sp : Sp} {E : XK} {e : Expr} {pos : Pos} {ta : TE} (he : PE X e ta) (hs : PySem.W.findIn X.K (.ref C) "__bool__" = some (some (.ref g))) (hf : PySem.W.isFn X.K (.ref g) = true)
    (F : FnR X.prog X.w X.K X.mg X.base CX n g sp) (hr : Room n X.A) (hx : Passes CX X E) : PE X (.UnaryOp .Not e pos) (tNotO C sp E ta) := by
  refine ⟨fun pins s σ H Q I h => ?_⟩
  refine UnaryOp_ (thn (he.run pins s σ H _ I h) fun v s1 ⟨x, H1, I1, r1, q1⟩ => ?_)
  obtain ⟨a, rfl, ha, q⟩ := q1
  cases (show v = Value.ref a from r1)
  obtain ⟨ox, od, J⟩ := insA_at I1 ha
  refine not_of ?_
  unfold truthy
  refine wpAny_bind (m := callSpecial? (.ref a) (Str.ofString "__bool__")) (PySem.W.special_fn I1.kIn J hs (beq_iff_eq.mp hf) (wpAny_mono (wpAny_call (run_fnR (us := [.ref a]) (vs := [.ref a]) F hr hx I1 (.cons rfl .nil) q)) (fun r s' hr => ?_) fun _ _ y => y))
  obtain ⟨z, H', I', rz, b, rfl, hq⟩ := hr
  cases (show r = Value.bool b from rz)
  exact wpAny_pure ⟨.bl (!b), H', I', rfl, hq⟩
end
/-- isinstance of a value of another type -/
theorem kit_other {K : PySem.W.Frag} {C : Addr} {n : String} {b : Bool} (hc : (PySem.W.clsIn K C).isSome = true) (ht : PySem.W.typeIn K (.ref C) = some (.type "type")) (hs : PySem.W.subIn K (.type n) (.ref C) = some b) : PySem.W.kitOne K (.type n) (.ref C) = some b := by
  simp [PySem.W.kitOne, PySem.W.kitCls, hc, ht, hs]
theorem kit_sub {K : PySem.W.Frag} {B C : Addr} (hc : (PySem.W.clsIn K C).isSome = true) (ht : PySem.W.typeIn K (.ref C) = some (.type "type")) (hs : PySem.W.subIn K (.ref B) (.ref C) = some true) : PySem.W.kitOne K (.ref B) (.ref C) = some true := by
  simp [PySem.W.kitOne, PySem.W.kitCls, hc, ht, hs]
end XT

namespace XT
open PySem PySem.Spec PyProof.Rows L2
/-! ### the characters of a text of data are characters -/
theorem ok_of (s : String) : PyData.strOk (Str.ofString s) = true := by
  unfold PyData.strOk
  rw [Str.ofString_eq_toList]
  simp only [List.all_toArray, List.all_map, List.all_eq_true]
  intro c _
  have h : c.toNat < 0x110000 := by
    have := c.valid
    unfold UInt32.isValidChar Nat.isValidChar at this
    have e : c.toNat = c.val.toNat := rfl
    omega
  exact decide_eq_true h
theorem ok_app {x y : Str} (h : PyData.strOk x = true) (k : PyData.strOk y = true) : PyData.strOk (x ++ y) = true := by
  unfold PyData.strOk at *
  show (x.cps ++ y.cps).all _ = true
  rw [Array.all_append, h, k]
  rfl
theorem ok_textFrom : ∀ (ts : List Str) (k : Nat) (acc : Str), (∀ t ∈ ts, PyData.strOk t = true) → PyData.strOk acc = true → PyData.strOk (textFrom k acc ts) = true
  | [], _, _, _, h => h
  | t :: ts, k, acc, ht, h => by
    refine ok_textFrom ts (k + 1) _ (fun u hu => ht u (List.mem_cons_of_mem _ hu)) (ok_app (ok_app h ?_) (ht t List.mem_cons_self))
    exact ok_of _
theorem ok_listText {ts : List Str} (h : ∀ t ∈ ts, PyData.strOk t = true) : PyData.strOk (listText ts) = true := ok_app (ok_textFrom ts 0 _ h (ok_of "[")) (ok_of "]")
theorem ok_join {sep : Str} (hs : PyData.strOk sep = true) : ∀ (ts : List Str), (∀ t ∈ ts, PyData.strOk t = true) → PyData.strOk (Str.join sep ts) = true
  | [], _ => (by decide +kernel : PyData.strOk Str.empty = true)
  | [x], h => h x List.mem_cons_self
  | x :: y :: r, h => ok_app (ok_app (h x List.mem_cons_self) hs) (ok_join hs (y :: r) fun t ht => h t (List.mem_cons_of_mem _ ht))
theorem ok_tupleText {ts : List Str} (h : ∀ t ∈ ts, PyData.strOk t = true) : PyData.strOk (tupleText ts) = true := ok_app (ok_app (ok_of "(") (ok_join (ok_of ", ") ts h)) (ok_of _)
mutual
/-- the texts in d are of characters, also written out -/
def txD : PyData → Bool
  | .none | .bool _ | .int _ => true
  | .str x => PyData.strOk (reprText x)
  | .list xs | .tuple xs => txAll xs
  | .dict kvs => kvs.isEmpty
def txAll : List PyData → Bool
  | [] => true
  | x :: xs => txD x && txAll xs
end
mutual
theorem ok_shown : ∀ d : PyData, txD d = true → PyData.strOk d.shown = true
  | .none, _ => by decide +kernel
  | .bool true, _ => by decide +kernel
  | .bool false, _ => by decide +kernel
  | .int i, _ => ok_of _
  | .str x, h => by simpa [txD, PyData.shown] using h
  | .list xs, h => by
    simp only [PyData.shown]
    exact ok_listText (ok_shownAll xs (by simpa [txD] using h))
  | .tuple xs, h => by
    simp only [PyData.shown]
    exact ok_tupleText (ok_shownAll xs (by simpa [txD] using h))
  | .dict [], _ => by decide +kernel
  | .dict (_ :: _), h => by simp [txD] at h
theorem ok_shownAll : ∀ xs : List PyData, txAll xs = true → ∀ t ∈ PyData.shownAll xs, PyData.strOk t = true
  | [], _, t, ht => by simp [PyData.shownAll] at ht
  | x :: xs, h, t, ht => by
    have h' : txD x = true ∧ txAll xs = true := by simpa [txAll] using h
    simp only [PyData.shownAll, List.mem_cons] at ht
    rcases ht with rfl | ht
    · exact ok_shown x h'.1
    · exact ok_shownAll xs h'.2 t ht
end
theorem txAll_ints (L : List Int) : txAll (L.map PyData.int) = true := by
  induction L with
  | nil => rfl
  | cons x L ih => simp only [List.map_cons, txAll, txD, ih, Bool.and_self]
/-- comparing shaped data with itself -/
theorem ne_self {d : PyData} (h : SeqAt.shaped d = true) : (!PyData.eqv d d) = false := by rw [SeqAt.eqv_refl d (SeqAt.canLay_of_shaped h)]; rfl
theorem sh_told {w x : Str} (hw : PyData.strOk w = true) (hx : PyData.strOk x = true) (b : Bool) : SeqAt.shaped (.list [.str w, .str x, .bool b]) = true := by
  simp [SeqAt.shaped, PyData.canLay0, PyData.canLayAll0, PyData.depth, PyData.depthAll, hw, hx]
theorem dp_told {K : PySem.W.Frag} {H : Hp} {r : Addr} {w x : Str} {b : Bool} (h : H r = some (.lst [.str w, .str x, .bl b])) : Dp K H (.ref r) (.list [.str w, .str x, .bool b]) := .lst (SqL.of h) (.cons (.str w) (.cons (.str x) (.cons (.bl b) .nil)))
theorem canLay_ints : ∀ L : List Int, PyData.canLayAll0 (L.map PyData.int) = true
  | [] => rfl
  | x :: L => by simp [PyData.canLayAll0, PyData.canLay0, canLay_ints L]
theorem depth_ints : ∀ L : List Int, PyData.depthAll (L.map PyData.int) = 0
  | [] => rfl
  | x :: L => by simp [PyData.depthAll, PyData.depth, depth_ints L]
theorem sh_three (s g : Int) (L : List Int) : SeqAt.shaped (.list [.int s, .tuple (L.map PyData.int), .int g]) = true := by
  simp [SeqAt.shaped, PyData.canLay0, PyData.canLayAll0, PyData.depth, PyData.depthAll, canLay_ints, depth_ints]
theorem sh_tab (w : Str) (hw : PyData.strOk w = true) (s : Int) (L : List Int) : SeqAt.shaped (.list [.str w, .int s, .tuple (L.map PyData.int)]) = true := by
  simp [SeqAt.shaped, PyData.canLay0, PyData.canLayAll0, PyData.depth, PyData.depthAll, canLay_ints, depth_ints, hw]
theorem sh_pair {w x : Str} (hw : PyData.strOk w = true) (hx : PyData.strOk x = true) (b : Bool) : SeqAt.shaped (.list [.list [.str w, .str x, .bool b], .list [.str w, .str x, .bool b]]) = true := by
  simp [SeqAt.shaped, PyData.canLay0, PyData.canLayAll0, PyData.depth, PyData.depthAll, hw, hx]
/-- one statement, the rest cut off behind it -/
theorem seq_cut2 {t u : TS} {D : Ends} {σ : L2.St} {H : Hp} (G : L2.St → Hp → Prop) (h : ∀ N : L2.St → Hp → Prop, (∀ σ' H', G σ' H' → N σ' H') → t { D with nx := N } σ H) (k : ∀ σ' H', G σ' H' → u D σ' H') : tSeq t u D σ H := h (u D) k
theorem next_go {D : Ends} {σ : L2.St} {H : Hp} (h : D.nx σ H) : tNext D σ H := h
theorem seq_cut {t u : TS} {D : Ends} {σ : L2.St} {H : Hp} (G : Hp → Prop) (h : ∀ N : L2.St → Hp → Prop, (∀ H', G H' → N σ H') → t { D with nx := N } σ H) (k : ∀ H', G H' → u D σ H') : tSeq t u D σ H := h (u D) k
end XT

namespace XT
open PySem PySem.Spec PyProof.Rows L2
/-! ### static methods -/
/-- C.m is a static method: its record at p, its def at g -/
structure CSta (K : PySem.W.Frag) (C : Addr) (mc : Value) (m : Str) (p g : Addr) : Prop where
  at_ : PySem.W.findCls K (.ref C) mc m = some (.get (.builtin "staticmethod.__get__") (.ref p) .none (.ref C))
  rc : ∃ rest, PySem.W.recIn K p "staticmethod" = some (.ref g :: rest)
  kp : PySem.W.keepIn K (.ref g) = true
/-- the same, reached through an instance -/
structure CStI (K : PySem.W.Frag) (C : Addr) (m : Str) (p g : Addr) : Prop where
  pg : PySem.W.plainGet K C Str.empty = true
  ic : PySem.W.isClsIn K C = true
  at_ : PySem.W.findIn K (.ref C) m = some (some (.ref p))
  ty : PySem.W.typeIn K (.ref p) = some (.type "staticmethod")
  get : PySem.W.specialIn K (.ref p) "__get__" = some (some (.builtin "staticmethod.__get__"))
  tk : PySem.W.takesIn K (.ref p) = some false
  cp : PySem.W.copiedNames.contains m = false
  rc : ∃ rest, PySem.W.recIn K p "staticmethod" = some (.ref g :: rest)
  kp : PySem.W.keepIn K (.ref g) = true
def tSta (C : Addr) (sp : Sp) (E : XK) (ta : TE) (t : TA) : TE := fun σ H Q => ta σ H fun x H1 => x = .ref C ∧ t σ H1 fun vs H2 => sp vs H2 Q E
def tStaI (C : Addr) (m : Str) (sp : Sp) (E : XK) (ta : TE) (t : TA) : TE := fun σ H Q => ta σ H fun x H1 => ∃ a dx fs, x = .ref a ∧ H1 a = some (.ins C dx fs) ∧ fs.lookup m = none ∧ t σ H1 fun vs H2 => sp vs H2 Q E
section
variable {X : Cx} {CX : CXT} {k : Nat} {C p g : Addr} {mc : Value} {sp : Sp} {E : XK} {o e : Expr} {es : List Expr} {f m : Str} {pos apos : Pos} {ta : TE} {t : TA} {pl : Sem Bool}
theorem pe_sta (he : PE X o ta) (r : ClX.CRead X.K C mc) (c : CSta X.K C mc m p g) (F : FnR X.prog X.w X.K X.mg X.base CX k g sp) (hr : Room k X.A) (hx : Passes CX X E) (ha : PA X (e :: es) t)
    (hst : starEach (e :: es) X.env = (false, eval e X.env) :: starEach es X.env := by rfl) (hpl : (backTo pos (starEach es X.env)).any (·.1) = false := by rfl)
    (ht : eval (.Call (.Attribute o m apos) (e :: es) [] pos) X.env = (do
      let ov ← eval o X.env
      standAt apos.atName
      let (f, first) ← holding [ov] (getMethod ov m pl)
      callWith pos f first (backTo pos (starEach (e :: es) X.env)) (backToKw pos (keywordEach [] X.env))) := by rfl) :
    PE X (.Call (.Attribute o m apos) (e :: es) [] pos) (tSta C sp E ta t) := by
  refine ⟨fun pins s σ H Q I h => ?_⟩
  refine PySem.W.methodCall_KW (pl := pl) (thn (he.run pins s σ H _ I h) fun u s1 ⟨x, H1, I1, rx, ex, q⟩ => ?_) ht
  subst ex
  obtain rfl : u = Value.ref C := rx
  refine PySem.W.method_cls I1.kIn r.ga ?_
  obtain ⟨rest, hp⟩ := c.rc
  refine PySem.W.cls_bind I1.kIn r.rd c.at_ ?_
  refine wpAny_call (PySem.W.sm_get (s := { s1 with toks := s1.toks + 1 }) I1.kIn hp (PySem.W.handed_on rfl ?_))
  have I2 := I1.tok (s1.toks + 1)
  refine PySem.W.callWith_K (h₀ := X.base) I.ok.mod.kin c.kp (thn (ha.run pos pins _ σ H1 _ I2 q) fun us s2 ⟨vs, H2, I3, r2, q2⟩ => ⟨I3.kIn, ?_⟩) hst hpl
  exact wpAny_call (run_fnR F hr hx I3 r2 q2)
theorem pe_staI (he : PE X o ta) (c : CStI X.K C m p g) (F : FnR X.prog X.w X.K X.mg X.base CX k g sp) (hr : Room k X.A) (hx : Passes CX X E) (ha : PA X (e :: es) t)
    (hst : starEach (e :: es) X.env = (false, eval e X.env) :: starEach es X.env := by rfl) (hpl : (backTo pos (starEach es X.env)).any (·.1) = false := by rfl)
    (ht : eval (.Call (.Attribute o m apos) (e :: es) [] pos) X.env = (do
      let ov ← eval o X.env
      standAt apos.atName
      let (f, first) ← holding [ov] (getMethod ov m pl)
      callWith pos f first (backTo pos (starEach (e :: es) X.env)) (backToKw pos (keywordEach [] X.env))) := by rfl) :
    PE X (.Call (.Attribute o m apos) (e :: es) [] pos) (tStaI C m sp E ta t) := by
  refine ⟨fun pins s σ H Q I h => ?_⟩
  refine PySem.W.methodCall_KW (pl := pl) (thn (he.run pins s σ H _ I h) fun u s1 ⟨x, H1, I1, rx, a, dx, fs, ex, ea, l, q⟩ => ?_) ht
  subst ex
  obtain rfl : u = Value.ref a := rx
  obtain ⟨mA, O, rr, _, _, _⟩ := ins_get I1.hok ea
  have hn : mA m = none := RelO.none_of (by rw [← l]; exact rr m)
  obtain ⟨od, J, hl⟩ := O.look
  obtain ⟨rest, hp⟩ := c.rc
  have hg : PySem.W.plainGet X.K C m = true := c.pg
  refine PySem.W.method_usual (r := some (.ref p)) I1.kIn J (PySem.W.plainGet_of hg).1 (PySem.W.plainGet_of hg).2 c.at_ ?_ ?_
  · show ((PySem.W.typeIn X.K (.ref p)).any fun t => t != .type "function" && t != .type "method_descriptor" && t != .type "wrapper_descriptor") = true
    rw [c.ty]
    first
    | rfl
    | decide +kernel
  · refine PySem.W.get_bind I1.kIn J (PySem.W.plainGet_of hg).1 (ClX.find_cm c.ic c.at_ c.get c.tk c.cp (by rw [hl m, hn])) (PySem.W.plainGet_of hg).2 ?_
    refine wpAny_call (PySem.W.sm_get (s := { s1 with toks := s1.toks + 1 }) I1.kIn hp (PySem.W.handed_on rfl ?_))
    have I2 := I1.tok (s1.toks + 1)
    refine PySem.W.callWith_K (h₀ := X.base) I.ok.mod.kin c.kp (thn (ha.run pos pins _ σ H1 _ I2 q) fun us s2 ⟨vs, H2, I3, r2, q2⟩ => ⟨I3.kIn, ?_⟩) hst hpl
    exact wpAny_call (run_fnR F hr hx I3 r2 q2)
/-! ### C(), C(*e) by a positional promise of its __init__ -/
def tMakeR0 (C : Addr) (sp : Sp) (E : XK) : TE := fun _ H Q => ∀ x dx, H x = none → H dx = none → dx ≠ x → sp [V.ref x] (upd (upd H dx (.own x)) x (.ins C dx [])) (fun v H2 => v = .non ∧ Q (.ref x) H2) E
theorem pe_makeR0 {x : Str} {p : Pos} (M : Mk X.K C g) (F : FnR X.prog X.w X.K X.mg X.base CX k g sp) (hr : Room (k + 1) X.A) (hg : Gl X x) (hm : X.mg x = some (.ref C)) (hx : Passes CX X E) (hdb : (x == ("__debug__" : Str)) = false := by decide) :
    PE X (.Call (.Name x p) [] [] pos) (tMakeR0 C sp E) := by
  refine ⟨fun pins s σ H Q I h => ?_⟩
  refine wpAny_Call_Name_kw (ld_glob I hg hm ?_ hdb)
  refine PySem.W.callWith_K0 (first := []) I.kIn M.kp ?_
  exact StX.run_makeR (us := []) (vs := []) M F hr hx I .nil h
theorem pe_makeS1 {x : Str} {p sp_ : Pos} {te : TE} (M : Mk X.K C g) (F : FnR X.prog X.w X.K X.mg X.base CX k g sp) (hr : Room (k + 1) X.A) (hg : Gl X x) (hm : X.mg x = some (.ref C)) (hx : Passes CX X E) (he : PE X e te) (hdb : (x == ("__debug__" : Str)) = false := by decide)
    (hst : starEach [.Starred e sp_] X.env = [(true, eval e X.env)] := by rfl) :
    PE X (.Call (.Name x p) [.Starred e sp_] [] pos) (fun σ H Q => te σ H fun y H1 => ∃ a xs, y = V.ref a ∧ (SqT X.K H1 a xs ∨ SqL X.K H1 a xs) ∧ ∀ x dx, H1 x = none → H1 dx = none → dx ≠ x → sp (V.ref x :: xs) (upd (upd H1 dx (.own x)) x (.ins C dx [])) (fun v H2 => v = .non ∧ Q (.ref x) H2) E) := by
  refine ⟨fun pins s σ H Q I h => ?_⟩
  refine wpAny_Call_Name_kw (ld_glob I hg hm ?_ hdb)
  refine PySem.W.callWith_S (h₀ := X.base) I.ok.mod.kin M.kp (thn (he.run pins s σ H _ I h) fun v s1 ⟨y, H1, I1, ry, a, xs, ey, hxs, q⟩ => ?_) hst
  subst ey
  obtain rfl : v = Value.ref a := ry
  exact StX.star_any I1 hxs fun us s2 I2 rv => ⟨I2.kIn, StX.run_makeR M F hr hx I2 rv q⟩
end
/-! ### defs with a star -/
section
variable {P : Program} {w : World} {K : PySem.W.Frag} {mg : Str → Option Value} {base : Heap}
def BndS (x qual : Str) (st : Stmt) (ps : List Str) (pv : Str) : Prop := ∀ (kV doc pm : Value) (an : Option Addr) (cdv ct : Value) (us rest : List Value), us.length = ps.length →
  bindArgs (PySem.W.fnOf x qual (defArgs st) (defBody st) (defScope st) .none kV doc pm an cdv ct) ⟨us ++ rest, []⟩ = (newTuple rest >>= fun t => pure (ps.zip us ++ [(pv, t)]))
/-- the promise of a def whose last parameter takes what is left over -/
def spStar (n : Nat) (sp : Sp) : Sp := fun vs H Q E => ∃ ws rest, vs = ws ++ rest ∧ ws.length = n ∧ rest.length ≤ sizeLine ∧ ∀ p, H p = none → sp (ws ++ [V.ref p]) (upd H p (.tup rest)) Q E
theorem okStar {x qual : Str} {st : Stmt} {f : Addr} {fd : FuncData} {N ps : List Str} {pv : Str} {k : Nat} {sp : Sp} (F : Fun K x qual st f fd) (S : FnScope N (ps ++ [pv]) (defScope st)) (B : BndS x qual st ps pv)
    (hbody : ∀ (cdv : Value) (A : Around) (outer : List Env) (s : Shared) (H : Hp) (vs : List V) (Q : VK) (E : XK), Room k (A.deeper (envOfC qual (defScope st) s.heap.objs.size f cdv)) → sp vs H Q E →
      ∃ t, PSs (cxOf (L2.CX P w) P w K mg base N qual (defScope st) f cdv A outer s H E) (defBody st) t ∧ t { nx := fun _ H' => Q .non H', rt := Q } (start N vs) H) : FnR P w K mg base (L2.CX P w) (k + 1) f (spStar ps.length sp) := by
  obtain ⟨oc, od, kV, doc, pm, an, cdv, ct, osl, rfl, lk, hcd⟩ := F.ex
  exact StX.fn_star lk hcd S StX.cxUp (fun us rest h => B kV doc pm an cdv ct us rest h) fun A outer s H vs Q E hr hsp => hbody cdv A outer s H vs Q E hr hsp
theorem okStar0 {x qual : Str} {st : Stmt} {f : Addr} {fd : FuncData} {N ps : List Str} {pv : Str} {k : Nat} {sp : Sp} (F : Fun K x qual st f fd) (S : FnScope N (ps ++ [pv]) (defScope st)) (B : BndS x qual st ps pv)
    (hbody : ∀ (cdv : Value) (A : Around) (outer : List Env) (s : Shared) (H : Hp) (vs : List V) (Q : VK) (E : XK), Room k (A.deeper (envOfC qual (defScope st) s.heap.objs.size f cdv)) → sp vs H Q E →
      ∃ t, PSs (cxOf CX0 P w K mg base N qual (defScope st) f cdv A outer s H E) (defBody st) t ∧ t { nx := fun _ H' => Q .non H', rt := Q } (start N vs) H) : FnR P w K mg base CX0 (k + 1) f (spStar ps.length sp) := by
  obtain ⟨oc, od, kV, doc, pm, an, cdv, ct, osl, rfl, lk, hcd⟩ := F.ex
  exact StX.fn_star lk hcd S StX.cxUp_none (fun us rest h => B kV doc pm an cdv ct us rest h) fun A outer s H vs Q E hr hsp => hbody cdv A outer s H vs Q E hr hsp
end
end XT

namespace XT
open PySem PySem.Spec PyProof.Rows L2
/-! ### types told apart by != -/
theorem slot_type_ne : Slot "type" (cmpInfo .NotEq).2.1 "object.__ne__" :=
  .of (owner := "object") (n := "__ne__") (by rw [typeLookup_type, builtinLookup_eq_fast]; kernel_rfl) (by decide +kernel) (by decide +kernel) (by decide +kernel)
    (by first | exact .inl (by decide +kernel) | exact .inr (by decide +kernel)) (by rw [isSubtype_type]; kernel_rfl)
theorem slot_type_ne_refl : Slot "type" (cmpInfo .NotEq).2.2 "object.__ne__" :=
  .of (owner := "object") (n := "__ne__") (by rw [typeLookup_type, builtinLookup_eq_fast]; kernel_rfl) (by decide +kernel) (by decide +kernel) (by decide +kernel)
    (by first | exact .inl (by decide +kernel) | exact .inr (by decide +kernel)) (by rw [isSubtype_type]; kernel_rfl)
section
variable {prog : Program} {w : World} {A : Around} {E : Value → Shared → Prop} {s : Shared} {Q : Value → Shared → Prop}
theorem ne_ty_same {X : String} (hX : ∀ s' : Shared, s'.TypeIs (.type X) "type") (h : Q (.bool false) s) : wpAny (model prog w) A (call (.builtin "object.__ne__") [.type X, .type X]) (fun v s' => v = .bool false ∧ Q v s') E s := by
  refine wpAny_call_entry slot_type_ne (hX s) PySem.F.entry_object_ne ?_ (PySem.F.args_object_ne_2 _ _)
  unfold Builtin.«object.__ne__»
  refine wpAny_bind (m := slotArgs "__ne__" 1 ⟨[.type X, .type X], []⟩) (wpAny_pure ?_)
  dsimp only
  refine wpAny_bind (wpAny_cRoomFor_or (.inl rfl) ?_)
  refine wpAny_bind (m := callSpecialIfBound? (.type X) (Str.ofString "__eq__") [.type X]) (wpAny_callSpecialIfBound?_slot (name := Str.ofString "__eq__") (hX s) TypeEq.slot_type_eq
    (call_gives TypeEq.slot_type_eq (hX s) PySem.F.entry_object_eq (PySem.F.args_object_eq_2 _ _) (TypeEq.object_eq_same rfl (by simp)) ?_))
  show wpAny _ _ _ _ _ _
  refine wpAny_bind (m := truthy (.bool true)) (wpAny_pure ?_)
  exact wpAny_pure ⟨_, rfl, rfl, h⟩
theorem ne_ty_other {X Y : String} (hX : ∀ s' : Shared, s'.TypeIs (.type X) "type") (hne : (Value.type X == Value.type Y) = false) (h : Q .notImplemented s) : wpAny (model prog w) A (call (.builtin "object.__ne__") [.type X, .type Y]) (fun v s' => v = .notImplemented ∧ Q v s') E s := by
  refine wpAny_call_entry slot_type_ne (hX s) PySem.F.entry_object_ne ?_ (PySem.F.args_object_ne_2 _ _)
  unfold Builtin.«object.__ne__»
  refine wpAny_bind (m := slotArgs "__ne__" 1 ⟨[.type X, .type Y], []⟩) (wpAny_pure ?_)
  dsimp only
  refine wpAny_bind (wpAny_cRoomFor_or (.inl rfl) ?_)
  refine wpAny_bind (m := callSpecialIfBound? (.type X) (Str.ofString "__eq__") [.type Y]) (wpAny_callSpecialIfBound?_slot (name := Str.ofString "__eq__") (hX s) TypeEq.slot_type_eq
    (call_gives TypeEq.slot_type_eq (hX s) PySem.F.entry_object_eq (PySem.F.args_object_eq_2 _ _) (TypeEq.object_eq_other rfl hne) ?_))
  exact wpAny_pure ⟨_, rfl, rfl, h⟩
theorem ne_type_same {X : String} (hX : ∀ s' : Shared, s'.TypeIs (.type X) "type") (h : Q (.bool false) s) : wpAny (model prog w) A (compareOp .NotEq (.type X) (.type X)) Q E s := by
  show wpAny _ A (richCompare .NotEq _ _) Q E s
  exact wpAny_richCompare_same (T := "type") (hX s) (hX s) slot_type_ne (wpAny_mono (ne_ty_same (Q := Q) hX h) (fun v s' z => ⟨(by rw [z.1]; intro e; cases e), z.2⟩) fun _ _ z => z)
theorem ne_type_other {X Y : String} (hX : ∀ s' : Shared, s'.TypeIs (.type X) "type") (hY : ∀ s' : Shared, s'.TypeIs (.type Y) "type") (hne : (Value.type X == Value.type Y) = false) (h : Q (.bool true) s) : wpAny (model prog w) A (compareOp .NotEq (.type X) (.type Y)) Q E s := by
  have hne' : (Value.type Y == Value.type X) = false := by
    rw [Bool.eq_false_iff] at hne ⊢
    intro e
    exact hne (by rw [beq_iff_eq] at e ⊢; exact e.symm)
  show wpAny _ A (richCompare .NotEq _ _) Q E s
  have h1 := slot_type_ne
  have h2 := slot_type_ne_refl
  rcases hi : cmpInfo CmpOp.NotEq with ⟨sym, f, r⟩
  rw [hi] at h1 h2
  simp only [richCompare, hi, (hX s).oneThing_none]
  try with_reducible refine wpAny_holding ?_
  refine wpAny_bind (wpAny_cRoomFor_or (.inl rfl) ?_)
  refine wpAny_bind (wpAny_typeOf (hX s) (wpAny_bind (wpAny_typeOf (hY s) ?_)))
  simp only [bne_self_eq_false, Bool.false_eq_true, if_false, pure_bind, Bool.not_false, if_true]
  refine wpAny_bind (m := tryCompare (.type X) _ (.type Y)) (wpAny_tryCompare_declines (hX s) h1 (ne_ty_other (Q := fun _ s₁ => _) hX hne ?_))
  refine wpAny_bind (m := tryCompare (.type Y) _ (.type X)) (wpAny_tryCompare_declines (hY s) h2 (ne_ty_other (Q := fun _ s₁ => _) hY hne' ?_))
  refine wpAny_bind (wpAny_rule (wpAny_bind (wpAny_of_eq (a := false) (by rw [isSame_plain rfl, hne]) (wpAny_pure ?_))))
  simpa using h
end
section
variable {X : Cx}
theorem op_neTy : OpR X (compareOp .NotEq) (fun x y H Q => ∃ m n, x = .ty m ∧ y = .ty n ∧ tyN m = true ∧ tyN n = true ∧ Q (.bl (!decide (m = n))) H) := by
  intro pins s σ H x y v u Q I rx ry h
  obtain ⟨m, n, rfl, rfl, hm, hn, q⟩ := h
  cases (show v = Value.type m from rx)
  cases (show u = Value.type n from ry)
  by_cases e : m = n
  · subst e
    exact ne_type_same (fun s' => tyN_meta hm s') ⟨.bl false, H, I, rfl, by simpa using q⟩
  · refine ne_type_other (fun s' => tyN_meta hm s') (fun s' => tyN_meta hn s') ?_ ⟨.bl true, H, I, rfl, by simpa [e] using q⟩
    rw [Bool.eq_false_iff]
    intro z
    rw [beq_iff_eq] at z
    injection z with z
    exact e z
/-! ### tuple * int -/
theorem tuple_mul1 (l : Addr) (items : Array Value) (n : Nat) (dd : Option Addr) (sl : Array (Option Value)) (x : Int) (u : Tok) (c0 : (decide (x < -(2 ^ 63)) || decide (x ≥ 2 ^ 63)) = false) (c1 : (items.isEmpty || x == 1) = true) :
    Meets (Builtin.«tuple.__mul__» ⟨[.ref l, .int x u], []⟩) (fun _ R s => s.heap.get? l = some { cls := .type "tuple", dict := dd, data := .seq items n, slots := sl } ∧ R (.ok (.ret (Value.ref l))) s) :=
  .of_wp fun prog w A R s h => by
    obtain ⟨hp, g, d, tk, os⟩ := s
    obtain ⟨hl, h⟩ := h
    have f1 := AutoSeq1.idx_int
    wp_walk using wpAny_loadPart' hl
    repeat (first
      | (refine wpAny_ite_false (decide_eq_false (by rw [c0]; exact Bool.false_ne_true)) ?_; wp_walk using wpAny_loadPart' hl)
      | (refine wpAny_ite_true (decide_eq_true (by rw [c1])) ?_; wp_walk using wpAny_loadPart' hl))
    exact ⟨_, rfl, h⟩
theorem tuple_mul0 (l : Addr) (items : Array Value) (n : Nat) (dd : Option Addr) (sl : Array (Option Value)) (u : Tok) (c1 : items.isEmpty = false) :
    Meets (Builtin.«tuple.__mul__» ⟨[.ref l, .int 0 u], []⟩) (fun _ R s => s.heap.get? l = some { cls := .type "tuple", dict := dd, data := .seq items n, slots := sl } ∧ R (.ok (.ret (Value.ref s.heap.objs.size))) { s with heap := s.heap.push { cls := Value.type "tuple", data := Data.seq #[] }, toks := s.toks }) :=
  .of_wp fun prog w A R s h => by
    obtain ⟨hp, g, d, tk, os⟩ := s
    obtain ⟨hl, h⟩ := h
    have f1 := AutoSeq1.idx_int
    have c0 : (decide ((0 : Int) < -(2 ^ 63)) || decide ((0 : Int) ≥ 2 ^ 63)) = false := by decide
    have c2 : (items.isEmpty || (0 : Int) == 1) = false := by rw [c1]; decide
    have c3 : (decide ((0 : Int) ≤ 0) || items.isEmpty) = true := by simp
    wp_walk using wpAny_loadPart' hl
    repeat (first
      | (refine wpAny_ite_false (decide_eq_false (by rw [c0]; exact Bool.false_ne_true)) ?_; wp_walk using wpAny_loadPart' hl)
      | (refine wpAny_ite_false (decide_eq_false (by rw [c2]; exact Bool.false_ne_true)) ?_; wp_walk using wpAny_loadPart' hl)
      | (refine wpAny_ite_true (decide_eq_true (by rw [c3])) ?_; wp_walk using wpAny_loadPart' hl))
    exact ⟨_, rfl, h⟩
/-- t * k, k a small count -/
def rRepA (K : PySem.W.Frag) : R2 := fun x y H Q => ∃ l k xs, x = .ref l ∧ y = .int k ∧ SqT K H l xs ∧ 0 ≤ k ∧ k ≤ 1000 ∧ xs.length ≤ 1000 ∧ (∀ p H', Same H H' → SqT K H' p (List.replicate k.toNat xs).flatten → Q (.ref p) H')
theorem op_repA : OpR X (binaryOp .Mult) (rRepA X.K) := by
  intro pins s σ H x y v u Q I rx ry h
  obtain ⟨l, k, xs, rfl, rfl, hT, h0, h2, hz, q⟩ := h
  by_cases hb : 2 ≤ k ∧ xs ≠ []
  · exact op_repT pins s σ H _ _ v u Q I rx ry ⟨l, k, xs, rfl, rfl, hT, hb.2, hb.1, h2, hz, fun p hp => q p _ (same_new hp) (SqT.of upd_same)⟩
  have hT0 := hT
  cases rx
  obtain ⟨t, rfl⟩ := ry
  obtain ⟨its, r, ⟨⟨cls, dd, data, sl⟩, ho, hc, n, hd⟩, hs⟩ := I.tuple hT
  simp only at hc hd
  subst hc hd
  have c0 : (decide (k < -(2 ^ 63)) || decide (k ≥ 2 ^ 63)) = false := by
    rw [decide_eq_false (by omega), decide_eq_false (by omega)] <;> rfl
  by_cases h1 : k = 1 ∨ xs = []
  · have c1 : (its.toArray.isEmpty || k == 1) = true := by
      rcases h1 with rfl | rfl
      · simp
      · cases r
        rfl
    refine wpAny_binaryOp_repeat_ref (T := "tuple") (U := "int") (by decide) ⟨_, ho, rfl⟩ (fun s' => typeIs_int s' k t) noFill_tuple_mul F.fills_int_mul F.slot_int_rmul repeat_tuple F.slot_int_index.lookup
      (call_meets F.slot_int_rmul (typeIs_int s k t) F.entry_int_rmul (F.args_int_rmul_2 _ _) (int_rmul_tuple k t l its.toArray n dd sl)
        ⟨ho, rfl, ⟨_, ho, rfl⟩, call_meets F.slot_tuple_mul ⟨_, ho, rfl⟩ F.entry_tuple_mul (F.args_tuple_mul_2 _ _) (tuple_mul1 l its.toArray n dd sl k t c0 c1) ⟨ho, ?_⟩⟩)
    refine ⟨.ref l, H, I, rfl, q l H (Same.refl H) ?_⟩
    rcases h1 with rfl | rfl
    · have : (List.replicate (1 : Int).toNat xs).flatten = xs := by simp
      rw [this]
      exact hT0
    · have : (List.replicate k.toNat ([] : List V)).flatten = [] := by simp
      rw [this]
      exact hT0
  · have hk : k = 0 := by
      by_cases hx : xs = []
      · exact absurd (.inr hx) h1
      · have : ¬ 2 ≤ k := fun z => hb ⟨z, hx⟩
        have : k ≠ 1 := fun z => h1 (.inl z)
        omega
    subst hk
    have hx : its.toArray.isEmpty = false := by
      cases r with
      | nil => exact absurd (.inr rfl) h1
      | cons _ _ => rfl
    refine wpAny_binaryOp_repeat_ref (T := "tuple") (U := "int") (by decide) ⟨_, ho, rfl⟩ (fun s' => typeIs_int s' 0 t) noFill_tuple_mul F.fills_int_mul F.slot_int_rmul repeat_tuple F.slot_int_index.lookup
      (call_meets F.slot_int_rmul (typeIs_int s 0 t) F.entry_int_rmul (F.args_int_rmul_2 _ _) (int_rmul_tuple 0 t l its.toArray n dd sl)
        ⟨ho, rfl, ⟨_, ho, rfl⟩, call_meets F.slot_tuple_mul ⟨_, ho, rfl⟩ F.entry_tuple_mul (F.args_tuple_mul_2 _ _) (tuple_mul0 l its.toArray n dd sl t hx) ⟨ho, ?_⟩⟩)
    refine ⟨.ref s.heap.objs.size, _, I.laid (t' := s.toks) (o := .tup []) (fun b ob q => Heap.get?_push_of_some _ q) (Nat.le_refl _) ?_, rfl, q _ _ (same_new (I.hok.fresh (Nat.le_refl _))) ?_⟩
    · exact ⟨Nat.zero_le _, [], .nil, IsTup.new _ _⟩
    · have : (List.replicate (0 : Int).toNat xs).flatten = ([] : List V) := by simp
      rw [this]
      exact SqT.of upd_same
end
end XT

namespace XT
open PySem PySem.Spec PyProof.Rows L2
/-! ### what stands side by side -/
section
variable {α β : Type} {F : α → β → Prop}
theorem pd_append : ∀ {l m : List α} {l' m' : List β}, Paired F l l' → Paired F m m' → Paired F (l ++ m) (l' ++ m')
  | _, _, _, _, .nil, h => h
  | _, _, _, _, .cons r t, h => .cons r (pd_append t h)
theorem pd_get : ∀ {l : List α} {l' : List β}, Paired F l l' → ∀ {i : Nat} {x : α}, l[i]? = some x → ∃ y, l'[i]? = some y ∧ F x y
  | _, _, .nil, _, _, h => by simp at h
  | _, _, .cons r t, 0, _, h => ⟨_, rfl, by
      have : some _ = some _ := h
      cases this
      exact r⟩
  | _, _, .cons r t, i + 1, x, h => by
      obtain ⟨y, h1, h2⟩ := pd_get t (i := i) (x := x) (by simpa using h)
      exact ⟨y, by simpa using h1, h2⟩
theorem pd_get' : ∀ {l : List α} {l' : List β}, Paired F l l' → ∀ {i : Nat} {y : β}, l'[i]? = some y → ∃ x, l[i]? = some x ∧ F x y
  | _, _, .nil, _, _, h => by simp at h
  | _, _, .cons r t, 0, _, h => ⟨_, rfl, by
      have : some _ = some _ := h
      cases this
      exact r⟩
  | _, _, .cons r t, i + 1, x, h => by
      obtain ⟨y, h1, h2⟩ := pd_get' t (i := i) (y := x) (by simpa using h)
      exact ⟨y, by simpa using h1, h2⟩
theorem pd_take : ∀ {l : List α} {l' : List β} (n : Nat), Paired F l l' → Paired F (l.take n) (l'.take n)
  | _, _, 0, _ => by simpa using Paired.nil
  | _, _, n + 1, .nil => by simpa using Paired.nil
  | _, _, n + 1, .cons r t => by
      rw [List.take_succ_cons, List.take_succ_cons]
      exact .cons r (pd_take n t)
theorem pd_drop : ∀ {l : List α} {l' : List β} (n : Nat), Paired F l l' → Paired F (l.drop n) (l'.drop n)
  | _, _, 0, h => h
  | _, _, n + 1, .nil => by simpa using Paired.nil
  | _, _, n + 1, .cons r t => by
      rw [List.drop_succ_cons, List.drop_succ_cons]
      exact pd_drop n t
theorem pd_rev : ∀ {l : List α} {l' : List β}, Paired F l l' → Paired F l.reverse l'.reverse
  | _, _, .nil => .nil
  | _, _, .cons r t => by
      rw [List.reverse_cons, List.reverse_cons]
      exact pd_append (pd_rev t) (.cons r .nil)
theorem pd_rep (n : Nat) {l : List α} {l' : List β} (h : Paired F l l') : Paired F (List.replicate n l).flatten (List.replicate n l').flatten := by
  induction n with
  | zero => exact .nil
  | succ n ih =>
    rw [List.replicate_succ, List.replicate_succ, List.flatten_cons, List.flatten_cons]
    exact pd_append h ih
end
/-! ### steps -/
/-- a step: an insertion (true) or a removal, and its number -/
abbrev Stp := Bool × Int
def wrd : Bool → Str
  | true => "insert"
  | false => "remove"
def goodS (s : Stp) : Bool := s.1 || decide (0 < s.2)
def stD (s : Stp) : PyData := .tuple [.str (wrd s.1), .int s.2]
def StAt (K : PySem.W.Frag) (H : Hp) (x : V) (s : Stp) : Prop := ∃ r, x = .ref r ∧ SqT K H r [.str (wrd s.1), .int s.2]
abbrev StsAt (K : PySem.W.Frag) (H : Hp) : List V → List Stp → Prop := Paired (StAt K H)
theorem StAt.same {K : PySem.W.Frag} {H H' : Hp} {x : V} {s : Stp} (h : StAt K H x s) (e : Same H H') : StAt K H' x s := let ⟨r, a, b⟩ := h; ⟨r, a, same_seqT e b⟩
theorem sts_same {K : PySem.W.Frag} {H H' : Hp} {xs : List V} {L : List Stp} (h : StsAt K H xs L) (e : Same H H') : StsAt K H' xs L := L2.Paired.mapP h fun _ _ z => z.same e
theorem st_of {K : PySem.W.Frag} {H : Hp} {r : Addr} {b : Bool} {i : Int} (h : H r = some (.tup [.str (wrd b), .int i])) : StAt K H (.ref r) (b, i) := ⟨r, rfl, SqT.of h⟩
theorem st_dp {K : PySem.W.Frag} {H : Hp} {x : V} {s : Stp} (h : StAt K H x s) : Dp K H x (stD s) := by
  obtain ⟨r, rfl, hr⟩ := h
  exact .tup hr (.cons (.str _) (.cons (.int _) .nil))
theorem sts_dp {K : PySem.W.Frag} {H : Hp} : ∀ {xs : List V} {L : List Stp}, StsAt K H xs L → DpAll K H xs (L.map stD)
  | _, _, .nil => .nil
  | _, _, .cons r t => .cons (st_dp r) (sts_dp t)
theorem dp_stsT {K : PySem.W.Frag} {H : Hp} {p : Addr} {xs : List V} {L : List Stp} (h : SqT K H p xs) (k : StsAt K H xs L) : Dp K H (.ref p) (.tuple (L.map stD)) := .tup h (sts_dp k)
theorem dp_stsL {K : PySem.W.Frag} {H : Hp} {p : Addr} {xs : List V} {L : List Stp} (h : SqL K H p xs) (k : StsAt K H xs L) : Dp K H (.ref p) (.list (L.map stD)) := .lst h (sts_dp k)
theorem wrd_inj {b c : Bool} : (wrd b == wrd c) = decide (b = c) := by cases b <;> cases c <;> decide +kernel
theorem eqv_st (s t : Stp) : PyData.eqv (stD s) (stD t) = decide (s = t) := by
  obtain ⟨b, i⟩ := s
  obtain ⟨c, j⟩ := t
  have h1 : PyData.eqv (.str (wrd b)) (.str (wrd c)) = decide (b = c) := by
    have := wrd_inj (b := b) (c := c)
    simp only [PyData.eqv]
    first | exact this | simpa using this
  have h2 : PyData.eqv (.int i) (.int j) = decide (i = j) := by
    simp only [PyData.eqv]
    rw [Bool.eq_iff_iff]
    simp
  simp only [stD, PyData.eqv, PyData.eqvAll]
  simp only [PyData.eqv] at h1 h2
  first
    | (rw [h1, h2, Bool.and_true, Bool.eq_iff_iff]; simp)
    | (simp only [h1, h2]; rw [Bool.eq_iff_iff]; simp)
theorem eqvAll_sts (L : List Stp) : ∀ M : List Stp, PyData.eqvAll (L.map stD) (M.map stD) = decide (L = M) := by
  induction L with
  | nil =>
    intro M
    cases M <;> simp [PyData.eqvAll]
  | cons x L ih =>
    intro M
    cases M with
    | nil => simp [PyData.eqvAll]
    | cons y M =>
      rw [List.map_cons, List.map_cons, PyData.eqvAll, ih, eqv_st, Bool.eq_iff_iff]
      simp
theorem eqv_stsT (L M : List Stp) : PyData.eqv (.tuple (L.map stD)) (.tuple (M.map stD)) = decide (L = M) := by
  rw [PyData.eqv]
  exact eqvAll_sts L M
theorem eqv_stsL (L M : List Stp) : PyData.eqv (.list (L.map stD)) (.list (M.map stD)) = decide (L = M) := by
  rw [PyData.eqv]
  exact eqvAll_sts L M
theorem wrd_ok (b : Bool) : PyData.strOk (wrd b) = true := by cases b <;> exact ok_of _
theorem canLay_sts : ∀ L : List Stp, PyData.canLayAll0 (L.map stD) = true
  | [] => rfl
  | x :: L => by simp [PyData.canLayAll0, PyData.canLay0, stD, wrd_ok, canLay_sts L]
theorem depth_sts : ∀ L : List Stp, PyData.depthAll (L.map stD) ≤ 1
  | [] => by simp [PyData.depthAll]
  | x :: L => by
    have := depth_sts L
    simp [PyData.depthAll, PyData.depth, stD]
    omega
theorem sh_stsT (L : List Stp) : SeqAt.shaped (.tuple (L.map stD)) = true := by
  have := depth_sts L
  simp [SeqAt.shaped, PyData.canLay0, PyData.depth, canLay_sts]
  omega
theorem sh_stsL (L : List Stp) : SeqAt.shaped (.list (L.map stD)) = true := by
  have := depth_sts L
  simp [SeqAt.shaped, PyData.canLay0, PyData.depth, canLay_sts]
  omega
end XT

namespace XT
open PySem PySem.Spec PyProof.Rows L2
section
variable {prog : Program} {w : World} {A : Around} {E : Value → Shared → Prop} {s : Shared} {K : PySem.W.Frag} {x C f L : Addr} {ox : Obj} {od : Option Obj} {h₀ : Heap} {m : Str → Option Value}
/-- len(x), by an own __len__ -/
theorem len_own {Q : Value → Shared → Prop} (X : K.In s.heap) (I : PySem.W.InstAt s.heap x ox C od) (hs : PySem.W.findIn K (.ref C) "__len__" = some (some (.ref f))) (hf : PySem.W.isFn K (.ref f) = true)
    (h : wpAny (model prog w) A.in1 (call (.ref f) [.ref x]) (fun r s1 => ∃ (n : Int) (t : Tok), r = Value.int n t ∧ 0 ≤ n ∧ n < 2 ^ 63 ∧ Q (.int n s1.toks) { s1 with toks := s1.toks + 1 }) E s) : wpAny (model prog w) A (call (.builtin "len") [.ref x]) Q E s := by
  refine Calls.call_function_entry PySem.kind_len PySem.plain_len PySem.entry_len (PySem.args_len1 _) ?_
  unfold Builtin.«len»
  refine wpAny_bind (m := oneArg "len" _) (wpAny_pure ?_)
  refine wpAny_bind (m := callSpecial? (.ref x) (PySem.Str.ofString "__len__")) (PySem.W.special_fn X I hs (beq_iff_eq.mp hf) (wpAny_mono h (fun r s' hr => ?_) fun _ _ y => y))
  obtain ⟨n, t, rfl, h0, h1, q⟩ := hr
  dsimp only
  refine wpAny_bind (wpAny_holding (wpAny_pure ?_))
  refine wpAny_bind (wpAny_letGo ?_)
  show wpAny _ _ (if n < 0 then _ else _) _ _ _
  rw [if_neg (by omega)]
  show wpAny _ _ (if n ≥ 2 ^ 63 then _ else _) _ _ _
  rw [if_neg (by omega)]
  exact wpAny_bind (wpAny_mkInt (wpAny_pure ⟨_, rfl, q⟩))
/-- x * n, n an int, by an own __mul__ and no own __rmul__ -/
theorem mul_own {n : Int} {t : Tok} {Q : Value → Shared → Prop} (F : PyProof.Rows.Fr h₀ L s.heap m) (X₀ : K.In h₀) (I : PySem.W.InstAt s.heap x ox C od) (hc : PySem.W.selfFirst K C = true) (hi : PySem.W.subIn K (.type "int") (.ref C) = some false)
    (hs : PySem.W.findIn K (.ref C) "__mul__" = some (some (.ref f))) (hrm : PySem.W.findIn K (.ref C) "__rmul__" = some none) (hf : PySem.W.isFn K (.ref f) = true)
    (h : wpAny (model prog w) A (call (.ref f) [.ref x, .int n t]) (PySem.W.CmpBack Q) E s) : wpAny (model prog w) A (binaryOp .Mult (.ref x) (.int n t)) Q E s := by
  have X := X₀.keeps F.keep
  obtain ⟨cd, hcd, hm⟩ := PySem.W.any_some hc
  obtain ⟨rest, hm⟩ : ∃ rest, cd.mro = .ref C :: rest := by
    cases q : cd.mro with
    | nil => rw [q] at hm; cases hm
    | cons a r => rw [q] at hm; exact ⟨r, by rw [List.head?_cons] at hm; cases (beq_iff_eq.mp hm); rfl⟩
  have hs' : PySem.W.findIn K (.ref C) (PySem.dunder "mul") = some (some (.ref f)) := hs
  have hr' : PySem.W.findIn K (.ref C) (PySem.dunderR "mul") = some none := hrm
  unfold binaryOp
  refine wpAny_holding (wpAny_bind ?_)
  show wpAny _ _ (binaryOp1 "mul" _ _) _ _ _
  unfold binaryOp1
  refine wpAny_bind (I.type.here (wpAny_bind (wpAny_typeOf (typeIs_int s n t) (wpAny_bind ((PySem.W.fills_K X hcd hm hs').here ?_)))))
  have e1 : (Value.ref C == Value.type "int") = false := rfl
  rw [e1]
  refine wpAny_bind ?_
  refine wpAny_of_eq (a := true) PySem.F.fills_int_mul ?_
  simp only [Bool.and_self, if_true]
  refine wpAny_bind ((PySem.W.looks_subIn X hi).here ?_)
  simp only [Bool.false_eq_true, if_false, Bool.not_false, Bool.and_self, if_true, Bool.and_true]
  have nsp : wpAny (model prog w) A (numberSlotInPython (.ref C) "mul") (fun b s' => b = true ∧ s' = s) E s := by
    unfold numberSlotInPython
    refine wpAny_bind ((PySem.W.looks_findIn X hs').here ?_)
    refine wpAny_bind (m := calledByName (.ref C) _ (some (.ref f))) (wpAny_pure ?_)
    refine wpAny_bind ((PySem.W.looks_findIn X hr').here ?_)
    refine wpAny_bind (m := calledByName (.ref C) _ none) (wpAny_pure ?_)
    simp only [Bool.or_false, if_true]
    exact wpAny_pure ⟨rfl, rfl⟩
  have fin : wpAny (model prog w) A (tryMethod (.ref x) (PySem.dunder "mul") (.int n t)) (fun r s' => ∃ v, r = some v ∧ Q v s') E s := by
    unfold tryMethod
    refine wpAny_bind (PySem.W.special_fn X I hs' (beq_iff_eq.mp hf) (wpAny_mono h (fun v s' hv => ?_) fun _ _ e => e))
    cases v <;> first | exact hv.elim | exact wpAny_pure ⟨_, rfl, hv⟩
  refine wpAny_bind (wpAny_mono nsp (fun b s' z => ?_) fun _ _ e => e)
  obtain ⟨rfl, rfl⟩ := z
  simp only [if_true]
  refine wpAny_bind (m := numberSlotInPython (.type "int") "mul") (wpAny_pure ?_)
  simp only [Bool.not_false, if_true]
  refine wpAny_bind (wpAny_of_eq (a := some (.builtin "int.__rmul__")) PySem.F.slot_int_rmul.lookup ?_)
  refine wpAny_bind (wpAny_mono fin (fun v s2 z => ?_) fun _ _ e => e)
  obtain ⟨u, rfl, hq⟩ := z
  exact wpAny_pure (wpAny_pure hq)
end
section
variable {X : Cx} {CX : CXT} {n : Nat} {C g : Addr} {sp : Sp} {E : XK}
/-- len(x) -/
def rLenO (C : Addr) (sp : Sp) (E : XK) : List V → Hp → VK → Prop := fun xs H Q => ∃ a, xs = [V.ref a] ∧ InsA H a C ∧ sp xs H (fun z H' => ∃ k : Int, z = .int k ∧ 0 ≤ k ∧ k < 2 ^ 63 ∧ Q z H') E
theorem call_lenO (hs : PySem.W.findIn X.K (.ref C) "__len__" = some (some (.ref g))) (hf : PySem.W.isFn X.K (.ref g) = true) (F : FnR X.prog X.w X.K X.mg X.base CX n g sp) (hr : Room (n + 1) X.A) (hx : Passes CX X E) : CallR X (.builtin "len") (rLenO C sp E) := by
  intro pins s σ H xs us Q I r h
  obtain ⟨a, rfl, ha, q⟩ := h
  obtain ⟨u, rfl, ru⟩ := r.one
  cases (show u = Value.ref a from ru)
  obtain ⟨ox, od, J⟩ := insA_at I ha
  refine len_own I.kIn J hs hf (wpAny_mono (wpAny_call (SlX.run_at (us := [.ref a]) (ws := [.ref a]) F hr.in1 I.env0.in1 hx I (.cons rfl .nil) q)) (fun w s' z => ?_) fun _ _ x => x)
  obtain ⟨z', H', I', rz, k, rfl, k0, k1, qz⟩ := z
  obtain ⟨t, rfl⟩ : ∃ t, w = Value.int k t := rz
  exact ⟨k, t, rfl, k0, k1, .int k, H', I'.tok _, ⟨_, rfl⟩, qz⟩
/-- x * n -/
def rMulO (C : Addr) (sp : Sp) (E : XK) : R2 := fun x y H Q => ∃ a i, x = .ref a ∧ y = .int i ∧ InsA H a C ∧ sp [x, y] H Q E
theorem op_mulO (hc : PySem.W.selfFirst X.K C = true) (hi : PySem.W.subIn X.K (.type "int") (.ref C) = some false) (hs : PySem.W.findIn X.K (.ref C) "__mul__" = some (some (.ref g))) (hrm : PySem.W.findIn X.K (.ref C) "__rmul__" = some none)
    (hf : PySem.W.isFn X.K (.ref g) = true) (F : FnR X.prog X.w X.K X.mg X.base CX n g sp) (hr : Room n X.A) (hx : Passes CX X E) : OpR X (binaryOp .Mult) (rMulO C sp E) := by
  intro pins s σ H x y v u Q I rx ry h
  obtain ⟨a, i, rfl, rfl, ha, q⟩ := h
  cases (show v = Value.ref a from rx)
  obtain ⟨t, rfl⟩ : ∃ t, u = Value.int i t := ry
  obtain ⟨ox, od, J⟩ := insA_at I ha
  obtain ⟨m, hF⟩ := I.fr
  refine mul_own hF I.ok.mod.kin J hc hi hs hrm hf ?_
  refine wpAny_mono (wpAny_call (run_fnR (us := [.ref a, .int i t]) (vs := [.ref a, .int i]) F hr hx I (.cons rfl (.cons ⟨t, rfl⟩ .nil)) q)) (fun w s' z => ?_) fun _ _ x => x
  obtain ⟨z', H', I', rz, qz⟩ := z
  exact SlX.cmpback rz ⟨z', H', I', rz, qz⟩
end
end XT

namespace XT
open PySem PySem.Spec PyProof.Rows L2
section
variable {X : Cx} (K : PySem.W.Frag)
/-- x != y, by an own ==, y of another type -/
def rOwnNo (K : PySem.W.Frag) (C : Addr) (sp : Sp) (E : XK) : R2 := fun x y H Q => ∃ a t, x = .ref a ∧ InsA H a C ∧ TyX K H y t ∧ PySem.W.notFirst K C t = true ∧ sp [x, y] H (fun z H' => ∃ k, z = .bl k ∧ Q (.bl (!k)) H') E
theorem op_ownNoK {CX : CXT} {n : Nat} {C g : Addr} {sp : Sp} {E : XK} (hne : PySem.W.findIn K (.ref C) "__ne__" = some (some (.builtin "object.__ne__"))) (ho : PySem.W.subIn K (.ref C) (.type "object") = some true)
    (hs : PySem.W.findIn K (.ref C) "__eq__" = some (some (.ref g))) (hf : PySem.W.isFn K (.ref g) = true) (F : FnR X.prog X.w K X.mg X.base CX n g sp)
    (hr : Room (n + 1) X.A) (hx : Passes CX X E) (hK : X.K = K := by rfl) : OpR X (compareOp .NotEq) (rOwnNo K C sp E) := by
  subst hK
  intro pins s σ H x y v u Q I rx ry h
  obtain ⟨a, t, rfl, ha, ht, hn, q⟩ := h
  cases (show v = Value.ref a from rx)
  obtain ⟨ox, od, J⟩ := insA_at I ha
  obtain ⟨Z, kz, hz, _⟩ := kit_of I ry ht
  show wpAny _ _ (richCompare .NotEq _ _) _ _ _
  refine ne_own (tb := t) (by have := hr.units; omega) I.kIn J (kz.ty _ _ I.kIn hz) hn hne ho hs hf ?_
  refine wpAny_mono (wpAny_call (SlX.run_at (us := [.ref a, u]) (ws := [.ref a, y]) F hr.in1 I.env0.in1 hx I (.cons rfl (.cons ry .nil)) q)) (fun w s' z => ?_) fun _ _ x => x
  obtain ⟨z', H', I', rz, k, rfl, qz⟩ := z
  cases (show w = Value.bool k from rz)
  exact ⟨k, rfl, .bl (!k), H', I', rfl, qz⟩
theorem revLK {e : Expr} {te : TE} {k : Nat} {p1 p2 p3 pos : Pos} (he : PE X e te) (hK : X.K = K := by rfl) : PE X (.Subscript e (.Slice none none (some (.UnaryOp .USub (.Constant (.int 1) k p1) p2)) p3) pos) (tRevL K te) := by subst hK; exact pe_revL he
theorem catAK (hK : X.K = K := by rfl) : OpR X (binaryOp .Add) (rCatA K) := by subst hK; exact op_catA
end
theorem tyX_tup {K : PySem.W.Frag} {H : Hp} {p : Addr} {xs : List V} (h : SqT K H p xs) : TyX K H (.ref p) (.type "tuple") := by
  rcases h with (h | ⟨o, h⟩) | h
  · exact .base (.tup h)
  · exact .fTuple h
  · obtain ⟨o, its, n, e, c, _⟩ := h
    exact .kTuple e c
theorem kit_ty {K : PySem.W.Frag} {n : String} : PySem.W.kitOne K (.type n) (.type n) = some true := by simp [PySem.W.kitOne]
end XT

namespace XT
open PySem PySem.Spec PyProof.Rows L2
/-! ### own exception classes over any built-in one, their __init__ a def -/
/-- what is asked of the built-in class: tl its chain, nw its maker -/
structure BaseX (B nw ini : String) (tl : List Value) : Prop where
  eb : ExcBaseFacts B nw ini tl
  st : ∀ self : Value, PySem.refuseLoop self "__setattr__" tl = pure ()
  ob : tl.contains (.type "object") = true
theorem bx_Value : BaseX "ValueError" "ValueError.__new__" "ValueError.__init__" [.type "ValueError", .type "Exception", .type "BaseException", .type "object"] := ⟨F.excBase_ValueError, F.store_ValueError.passes, by decide +kernel⟩
theorem bx_Runtime : BaseX "RuntimeError" "RuntimeError.__new__" "RuntimeError.__init__" [.type "RuntimeError", .type "Exception", .type "BaseException", .type "object"] := ⟨F.excBase_RuntimeError, F.store_RuntimeError.passes, by decide +kernel⟩
theorem bx_Lookup : BaseX "LookupError" "LookupError.__new__" "LookupError.__init__" [.type "LookupError", .type "Exception", .type "BaseException", .type "object"] := ⟨F.excBase_LookupError, F.store_LookupError.passes, by decide +kernel⟩
theorem bx_Overflow : BaseX "OverflowError" "OverflowError.__new__" "OverflowError.__init__" [.type "OverflowError", .type "ArithmeticError", .type "Exception", .type "BaseException", .type "object"] := ⟨F.excBase_OverflowError, F.store_OverflowError.passes, by decide +kernel⟩
section
variable {tl : List Value}
theorem chain_has (cs : List Addr) (n : String) : (cs.map Value.ref ++ tl).contains (.type n) = tl.contains (.type n) := by
  induction cs with
  | nil => rfl
  | cons c cs ih =>
    rw [List.map_cons, List.cons_append, List.contains_cons, ih]
    rfl
theorem chain_pass (st : ∀ self : Value, PySem.refuseLoop self "__setattr__" tl = pure ()) (self : Value) (cs : List Addr) : PySem.refuseLoop self "__setattr__" (cs.map Value.ref ++ tl) = pure () := by
  induction cs with
  | nil => exact st self
  | cons c cs ih =>
    rw [List.map_cons, List.cons_append, PySem.refuseLoop_ref]
    exact ih
end
/-- the written part of such a class -/
structure OexG (K : PySem.W.Frag) (C : Addr) (tl : List Value) (nw : String) : Prop where
  cls : ∃ (nm q : Str) (N : Addr) (bs : List Value) (cs : List Addr) (sn : List Str) (sub : List Value) (ab : Bool) (col : Option Bool) (dd : Option Addr) (k0 k1 k2 k3 k5 : Option Value), K.lookup C = some (excClassObj nm q C N bs (cs.map Value.ref ++ tl) true sn sub ab col dd k0 k1 k2 k3 k5 nw)
  sa : PySem.W.findIn K (.ref C) "__setattr__" = some (some (.builtin "object.__setattr__"))
  exC : PySem.W.subIn K (.ref C) (.type "BaseException") = some true
  tyC : PySem.W.typeIn K (.ref C) = some (.type "type")
  kC : PySem.W.keepIn K (.ref C) = true
section
variable {prog : Program} {w : World} {A : Around} {R : Result → Shared → Prop} {hp : Heap} {g : Array GenState} {d : Drawn} {t : Nat} {os : OsState}
/-- the first field of such an exception -/
theorem gx_store {K : PySem.W.Frag} {name : Str} {tk : Tok} {v : Value} {x C : Addr} {fv : Array Value} {cd : ClassData} {tl : List Value} {cs : List Addr} (st : ∀ self : Value, PySem.refuseLoop self "__setattr__" tl = pure ()) (ob : tl.contains (.type "object") = true)
    (X : K.In hp) (hx : hp.get? x = some { cls := .ref C, data := .fields fv }) (hcd : PySem.W.clsIn K C = some cd) (hm : cd.mro = (C :: cs).map Value.ref ++ tl) (hh : cd.hasDict = true) (ha : PySem.W.findIn K (.ref C) name = some none)
    (hq : ∀ h' tk' dx, (∀ b o, b ≠ x → hp.get? b = some o → h'.get? b = some o) → hp.objs.size ≤ dx → dx ≠ x → h'.get? x = some { cls := .ref C, dict := some dx, data := .fields fv } →
      h'.Ns1 dx (fun y => if y = name then some v else none) → R (.ok (.ret .none)) ⟨h', g, d, tk', os⟩) :
    codeAny (model prog w) A (.call (.builtin "object.__setattr__") ⟨[.ref x, .str name tk, v], []⟩) R ⟨hp, g, d, t, os⟩ := by
  have J : PySem.W.InstAt hp x { cls := .ref C, data := .fields fv } C none := ⟨hx, rfl, rfl, trivial⟩
  have hob : cd.mro.contains (.type "object") = true := by rw [hm, chain_has, ob]
  have hne : cd.mro.isEmpty = false := by rw [hm]; rfl
  have hx0 : x ≠ hp.objs.size := Nat.ne_of_lt (Heap.lt_size hx)
  have isO : PySem.W.Looks (model prog w) hp (isInstance (.ref x) (.type "object")) true := J.type.andThen (PySem.W.looks_mroIn X (by unfold PySem.W.mroIn; rw [hcd, Option.bind_some, if_neg (by rw [hne]; decide), hob]))
  have SF := F.store_object
  refine codeAny_call_builtin SF.slot.plain SF.entry (@PySem.W.check_slot (model prog w) _ _ ⟨hp, g, d, t, os⟩ "object.__setattr__" "object" "__setattr__" (.ref x) [.str name tk, v] [] _ SF.kind SF.split isO (SF.args (.ref x) (.str name tk) v) ?_)
  have lm : PySem.W.Looks (model prog w) hp (mroOf (.ref C)) cd.mro := (PySem.W.looks_clsIn X hcd).andThen .now
  have lc : PySem.W.Looks (model prog w) hp (classData C) cd := PySem.W.looks_clsIn X hcd
  have lt : PySem.W.Looks (model prog w) hp (Builtin.ObjectAttr.storeTaker? none) none := .now
  rw [PySem.W.osa_eq, PySem.refuse_eq]
  refine wpAny_bind (wpAny_bind (J.type.at (wpAny_bind (lm.at ?_))))
  rw [hm, chain_pass st]
  refine wpAny_pure (wpAny_bind (J.type.at (wpAny_bind ((PySem.W.looks_findIn X ha).at (wpAny_bind (lt.at ?_))))))
  show wpAny _ _ (Builtin.ObjectAttr.storeInOwnDict (.ref x) (.ref C) (.str name tk) name v false) _ _ _
  obtain ⟨nm, bs, mro, ns, qn, hd, sn, sb, ab, col, del⟩ := cd
  dsimp only at hh
  subst hh
  unfold Builtin.ObjectAttr.storeInOwnDict Builtin.ObjectAttr.ownDictForStores
  repeat (first | with_reducible refine PySem.HandSPX.store_in_new ?_ ?_ | with_reducible refine wpAny_loadPart_at hx ?_ | with_reducible refine lc.at ?_ | wp_step)
  · exact ⟨_, #[], _, (Heap.get?_update_ne _ _ _ _ hx0.symm).trans (Heap.get?_push_at rfl rfl), rfl, fun e he => absurd he (by simp), fun _ => rfl⟩
  · intro h' tk' hn' hs
    have hx1 : (hp.push { cls := .type "dict", data := .dict #[] }).get? x = some { cls := .ref C, data := .fields fv } := Heap.get?_push_of_some _ hx
    exact hq h' tk' hp.objs.size (fun b o hb ho => (hs.2 b (Nat.ne_of_lt (Heap.lt_size ho))).trans ((Heap.get?_update_ne _ _ _ _ hb).trans (Heap.get?_push_of_some _ ho))) (Nat.le_refl _) hx0.symm ((hs.2 x hx0).trans (Heap.get?_update_self _ hx1 rfl)) hn'
end
section
variable {X : Cx} {pins : List (Addr × Obj)} {σ : L2.St} {H : Hp} {s : Shared} {a C : Addr} {f : Str} {y : V} {u : Value} {Q : Unit → Shared → Prop} {E : Value → Shared → Prop} {A : Around} {B nw ini : String} {tl : List Value}
theorem gst_new (bx : BaseX B nw ini tl) (T : OexG X.K C tl nw) (I : Inv X pins σ H s) (e : H a = some (exo a C none)) (hno : PySem.W.findIn X.K (.ref C) f = some none) (ry : RelV y u)
    (h : ∀ dx s', H dx = none → dx ≠ a → Inv X pins σ (upd (upd H dx (exd dx [(f, y)])) a (exo a C (some dx))) s' → Q () s') : wpAny (model X.prog X.w) A (setAttr (.ref a) f u) Q E s := by
  obtain ⟨nm, q, N, bs, cs, sn, sub, ab, col, dd, k0, k1, k2, k3, k5, hC⟩ := T.cls
  have hcl : PySem.W.clsIn X.K C = some { name := nm, bases := bs, mro := .ref C :: (cs.map Value.ref ++ tl), ns := N, qualname := q, hasDict := true, slotNames := sn, subclasses := sub, abstract := ab, collection := col, hasDel := false } := by unfold PySem.W.clsIn; rw [hC] <;> rfl
  obtain ⟨t1, ho⟩ := exo_at I.hok e
  obtain ⟨hp, g, d, t, os⟩ := s
  refine PySem.W.set_plain I.kIn (ox := { cls := .ref C, dict := none, data := .fields #[.ref t1, .none, .none, .none, .bool false, .none] }) (od := none) ⟨ho, rfl, rfl, trivial⟩ T.sa ?_
  refine gx_store (cs := cs) bx.st bx.ob I.kIn ho hcl rfl rfl hno (fun h' tk' dx k dn dne hx hn => ?_)
  have fresh : H dx = none := I.hok.fresh dn
  have low : ∀ {b : Addr} {o : Obj}, hp.get? b = some o → b ≠ dx := fun z => Nat.ne_of_lt (Nat.lt_of_lt_of_le (Heap.lt_size z) dn)
  have notA : ∀ {b : Addr}, H b = none → b ≠ a := fun {b} n z => by rw [z, e] at n; cases n
  have both : ∀ {b : Addr} {v : HO}, H b = some v → exo a C none ≠ v → upd (upd H dx (exd dx [(f, y)])) a (exo a C (some dx)) b = some v := fun {b v} z ne => by
    rw [upd_ne (fun q => by rw [q, e] at z; exact ne (Option.some.inj z)), upd_ne (fun q => by rw [q, fresh] at z; cases z)]
    exact z
  have U : Un X.fs [] H (upd (upd H dx (exd dx [(f, y)])) a (exo a C (some dx))) hp h' := {
    keep := fun b o z n _ _ => k b o (notA n) z
    slot := fun b o z n _ _ => ⟨o.slots, k b o (notA n) z⟩
    free := fun b o z n _ => by rw [upd_ne (notA n), upd_ne (low z)]; exact n
    there := fun b o z _ => by
      by_cases hb : b = a
      · subst hb
        exact ⟨_, hx⟩
      · exact ⟨o, k b o hb z⟩
    tups := fun b xs z => both z exo_tup
    frzs := fun b o v z => both z exo_frz
    tbls := fun b ps z => ⟨#[], by rw [both z exo_tbl]; simp⟩ }
  refine h dx _ fresh dne (I.un (t' := tk') U fun b o z => ?_)
  by_cases hb : b = a
  · subst hb
    rw [upd_same] at z
    cases z
    exact exo_ok hx
  · rw [upd_ne hb] at z
    by_cases hd : b = dx
    · subst hd
      rw [upd_same] at z
      cases z
      exact exd_ok hn (relO_put (fs := []) ry fun g => True.intro)
    · rw [upd_ne hd] at z
      refine (I.hok b o z).stay (fun c v hc zz => k c v ?_ zz) (fun c hc => both hc exo_own) (fun c xs hc => both hc exo_tup)
      rcases hc with rfl | hc
      · exact hb
      · exact at_ne e hc exo_own
end
/-- self.f = e in such an __init__ -/
def tGst (K : PySem.W.Frag) (f : Str) (to te : TE) : TS := fun D σ H => te σ H fun y H1 => to σ H1 fun x H2 => ∃ (a C : Addr) (B nw ini : String) (tl : List Value), x = .ref a ∧ BaseX B nw ini tl ∧ OexG K C tl nw ∧ PySem.W.findIn K (.ref C) f = some none ∧
  H2 a = some (exo a C none) ∧ ∀ dx, H2 dx = none → dx ≠ a → D.nx σ (upd (upd H2 dx (exd dx [(f, y)])) a (exo a C (some dx)))
section
variable {X : Cx} {o e : Expr} {es : List Expr} {to te : TE} {ta : TA} {f : Str} {p p' pos : Pos} {B nw ini : String} {tl : List Value}
theorem ps_gst (ho : PE X o to) (he : PE X e te) (hs : swapsWith e (some (.Attribute o f p')) pos.line X.env = pure false := by rfl) : PS X (.Assign [.Attribute o f p'] e pos) (tGst X.K f to te) := by
  refine ⟨fun pins s σ H D I h => ?_⟩
  refine plainObj_wpAny_Assign_Attribute (thn (he.run pins s σ H _ I h) fun v s1 ⟨y, H1, I1, r1, q1⟩ => thn (ho.run pins s1 σ H1 _ I1 q1) fun u s2 ⟨x, H2, I2, r2, a, C, B, nw, ini, tl, ex, bx, T, hno, ea, q⟩ => ?_) hs
  subst ex
  obtain rfl : u = Value.ref a := r2
  exact gst_new bx T I2 ea hno r1 fun dx s' n ne J => ⟨σ, _, J, q dx n ne⟩
/-- C(e, ..) to be raised -/
theorem pmk_gex {CX : CXT} {x : Str} {C fI : Addr} {k : Nat} {fd : FuncData} {ps : List Str} {sp : Sp} (bx : BaseX B nw ini tl) (T : OexG X.K C tl nw) (iC : PySem.W.findIn X.K (.ref C) "__init__" = some (some (.ref fI))) (tI : PySem.W.typeIn X.K (.ref fI) = some (.type "function"))
    (F1 : FnOk X.prog X.w X.K X.mg X.base CX k fI fd ps sp) (hr : Room (k + 1) X.A) (hb : Binds X.K fd ps []) (hx : Passes CX X (fun _ _ _ => False)) (hg : Gl X x) (hm : X.mg x = some (.ref C)) (ha : PA X (e :: es) ta)
    (hdb : (x == ("__debug__" : Str)) = false := by decide) (he : starEach (e :: es) X.env = (false, eval e X.env) :: starEach es X.env := by rfl) (hpl : (backTo pos (starEach es X.env)).any (·.1) = false := by rfl) :
    PMk X (.Call (.Name x p) (e :: es) [] pos) (tMkO C sp [] ta) := by
  intro pins s σ H Q I h
  obtain ⟨nm, q, N, bs, cs, sn, sub, ab, col, dd, k0, k1, k2, k3, k5, hC⟩ := T.cls
  refine wpAny_Call_Name_kw (ld_glob I hg hm ?_ hdb)
  refine PySem.W.callWith_K (h₀ := X.base) I.ok.mod.kin T.kC (thn (ha.run pos pins s σ H _ I h) fun us s1 ⟨vs, H1, I1, r1, hz, q1⟩ => ⟨I1.kIn, ?_⟩) he hpl
  show wpAny _ _ (call (.ref C) us) _ _ _
  obtain ⟨hp, g, dr, tk, os⟩ := s1
  have up : hp.objs.size ≤ hp.objs.size + 1 := Nat.le_succ _
  have hq := q1 (hp.objs.size + 1) (I1.hok.fresh up)
  have kk : ∀ b o, hp.get? b = some o → ((hp.push (PySem.W.kdv_tup us)).push (PySem.HandSPX.excO C hp.objs.size)).get? b = some o := fun b o z => Heap.get?_push_of_some _ (Heap.get?_push_of_some _ z)
  have I2 : Inv X pins σ (upd H1 (hp.objs.size + 1) (exo (hp.objs.size + 1) C none)) ⟨(hp.push (PySem.W.kdv_tup us)).push (PySem.HandSPX.excO C hp.objs.size), g, dr, tk, os⟩ :=
    I1.laid (t' := tk) (a := hp.objs.size + 1) (o := exo (hp.objs.size + 1) C none) kk up (exo_ok (t1 := hp.objs.size) (by heap_get))
  have r2 : Vals (V.ref (hp.objs.size + 1) :: (vs ++ [])) (Value.ref (hp.objs.size + 1) :: us) := .cons rfl (by rw [List.append_nil]; exact r1)
  have hl : (Value.ref (hp.objs.size + 1) :: us).length = ps.length := r2.length.symm.trans (F1.len _ _ _ _ hq)
  have hus : us.length ≤ sizeLine := by
    rw [← Paired.length r1, sizeLine_eq]
    omega
  have hbd := hb ⟨(hp.push (PySem.W.kdv_tup us)).push (PySem.HandSPX.excO C hp.objs.size), g, dr, tk, os⟩ (Value.ref (hp.objs.size + 1) :: us) I2.kIn (by simpa using hl)
  refine wpAny_call (PySem.HandSPX.call_own bx.eb (chain_has cs) (I1.kIn _ _ hC) (PySem.W.looks_findIn I1.kIn iC) (fun self => PySem.W.bind_fn I1.kIn self tI) hus
    (codeAny_mono (F1.run _ X.stack _ _ ⟨Value.ref (hp.objs.size + 1) :: us, []⟩ (Value.ref (hp.objs.size + 1) :: us) _ _ (fun _ _ _ => False) (hr.make C us []) (I2.env0.make C us []) (by simpa using hbd) r2 hq) fun r s' hq' => ?_))
  match r, hq' with
  | .error er, hq' => exact hx pins σ _ _ er s' I2 hq'
  | .ok (.ret u), hq' =>
    obtain ⟨v, H2, os2, bare2, un2, hok2, rv, ev, d, fs, ea, ed, hd1, q2⟩ := hq'
    subst ev
    obtain ⟨h2, g2, d2, t2, os'⟩ := s'
    exact ⟨rv, mk_end (raises_own T.exC T.tyC) I1 up kk un2 hok2 os2 bare2 ea ed hd1 q2⟩
end
/-- what the written part says of such an error -/
structure ErrG (K : PySem.W.Frag) (C fI : Addr) (f : Str) (B nw ini : String) (tl : List Value) : Prop where
  bx : BaseX B nw ini tl
  oex : OexG K C tl nw
  iC : PySem.W.findIn K (.ref C) "__init__" = some (some (.ref fI))
  tI : PySem.W.typeIn K (.ref fI) = some (.type "function")
  no : PySem.W.findIn K (.ref C) f = some none
  ga : PySem.W.findIn K (.ref C) "__getattribute__" = some (some (.builtin "BaseException.__getattribute__"))
  gg : PySem.W.findIn K (.ref C) "__getattr__" = some none
  hd : PySem.W.hasDictIn K C = true
  ha : PySem.W.findIn K (.ref C) "__class__" = some (some (.builtin "object.__class__"))
  hn : PySem.W.specialIn K (.builtin "object.__class__") "__get__" = some (some (.builtin "getset_descriptor.__get__"))
  ht : PySem.W.takesIn K (.builtin "object.__class__") = some true
  hm : PySem.W.mroIn K C (.type "object") = some true
section
variable {K : PySem.W.Frag} {C fI : Addr} {f : Str} {B nw ini : String} {tl : List Value}
theorem ErrG.xf (T : ErrG K C fI f B nw ini tl) : XfC K C := ⟨T.ga, T.gg, T.oex.exC, T.hd⟩
theorem ErrG.exc (T : ErrG K C fI f B nw ini tl) : ExcC K C := ⟨T.ga, T.gg, T.oex.exC, T.hd, T.ha, T.hn, T.ht, T.hm⟩
/-- raise C(e) in a def -/
theorem ps_raiseG {X : Cx} {W : WX} {x : Str} {k : Nat} {fd : FuncData} {ps : List Str} {e : Expr} {te : TE} {p pos rpos : Pos} (T : ErrG X.K C fI f B nw ini tl) (F1 : FnOk X.prog X.w X.K X.mg X.base CX0 k fI fd ps (spErr f C)) (hb : Binds X.K fd ps []) (hr : Room (k + 1) X.A)
    (hm : X.mg x = some (.ref C)) (hc : X.calm = true) (tk : Takes X W) (he : PE X e te) (hg : Gl X x := by rfl) (hdb : (x == ("__debug__" : Str)) = false := by decide)
    (hs : starEach [e] X.env = (false, eval e X.env) :: starEach [] X.env := by rfl) (hpl : (backTo pos (starEach [] X.env)).any (·.1) = false := by rfl) :
    PS X (.Raise (some (.Call (.Name x p) [e] [] pos)) none rpos) (fun _ σ H => tErr C f te σ H fun cls d H' => W cls d σ H') :=
  ps_raise hc tk (pmk_gex T.bx T.oex T.iC T.tI F1 hr hb pass0 hg hm (pa_cons he pa_nil hs) hdb hs hpl)
end
end XT

namespace XT
open PySem PySem.Spec PyProof.Rows L2
/-! ### sorted(t) of a tuple of ints -/
def rSortedA (K : PySem.W.Frag) : List V → Hp → VK → Prop := fun vs H Q => ∃ (a : Addr) (ns : List Int), vs = [V.ref a] ∧ (SqL K H a (ns.map V.int) ∨ SqT K H a (ns.map V.int)) ∧
  ∀ (ns' : List Int) (p : Addr), ns'.Perm ns → ns'.Pairwise (· ≤ ·) → H p = none → Q (.ref p) (upd H p (.lst (ns'.map V.int)))
section
variable {X : Cx}
theorem cr_sortedA : CallR X (.builtin "sorted") (rSortedA X.K) := by
  intro pins s σ H vs us Q I r h
  obtain ⟨a, ns, rfl, hs | hs, q⟩ := h
  · exact cr_sortedI pins s σ H _ us Q I r ⟨a, ns, rfl, hs, q⟩
  obtain ⟨its, rv, hl, hz⟩ := I.tuple hs
  rw [Vals.ref1 r]
  have hi := rv.ints
  have hle : its.length ≤ sizeLine := by rw [← rv.length]; exact hz
  obtain ⟨o, ho, hc, n, hd⟩ := hl
  refine Calls.call_function_entry kind_sorted plain_sorted entry_sorted (args_sorted1 _) ?_
  unfold Builtin.«sorted»
  refine wpAny_bind (m := checkCount "sorted" 1 1 _) (wpAny_pure ?_)
  refine wpAny_bind (wpAny_collect_seq a (.inr rfl) ho hc hd (fun h' hk => ?_) (by rw [List.size_toArray]; exact hle))
  have e0 : its.toArray.toList = its := by simp
  rw [e0]
  refine wpAny_bind (wpAny_newList ?_ hle)
  have hoL : (h'.push (seqObj "list" its.toArray 0)).get? h'.objs.size = some (seqObj "list" its.toArray 0) := Heap.get?_push_size _ rfl
  show wpAny _ _ _ _ _ { s with heap := h'.push (seqObj "list" its.toArray 0) }
  refine wpAny_bind (wpAny_holding (wpAny_call_entry slot_list_sort ⟨_, hoL, rfl⟩ entry_list_sort (SrtO.list_sort_ord SrtO.swo_int hoL hle (fun h2 => SrtO.ints_sortable hi h2) fun out q1 q2 => ⟨_, rfl, ?_⟩) (args_list_sort _)))
  refine wpAny_pure ⟨_, rfl, ?_⟩
  obtain ⟨k1, k2, k3⟩ := SrtO.ints_out hi q1 q2
  obtain ⟨ep, he'⟩ := PyProof.Rows.sortedHeap_at (vs := its) (out := out.toArray) hoL
  have hlen : ((out.map SrtO.iv).map V.int).length ≤ sizeLine := by
    rw [List.length_map, k2.length_eq]
    rw [List.length_map] at hz
    exact hz
  have I1 : Inv X pins σ H { s with heap := h' } := I.kept (t' := s.toks) hk
  have h2 : ∀ b u, h'.get? b = some u → b ≠ h'.objs.size ∧ (h'.push (seqObj "list" its.toArray 0)).get? b = some u := fun b u z => ⟨Nat.ne_of_lt (Heap.lt_size z), Heap.get?_push_of_some _ z⟩
  exact ⟨.ref _, upd H h'.objs.size (.lst ((out.map SrtO.iv).map V.int)), I1.laid (t' := s.toks) (fun b u z => by rw [PyProof.Rows.sortedHeap_old (h2 b u z).1 (Heap.lt_size (h2 b u z).2)]; exact (h2 b u z).2) (Nat.le_refl _) ⟨hlen, out, ep, vals_of_ints k1, he'⟩, rfl, q _ _ k2 k3 (I1.hok.fresh (Nat.le_refl _))⟩
theorem sortedAK (K : PySem.W.Frag) (hK : X.K = K := by rfl) : CallR X (.builtin "sorted") (rSortedA K) := by subst hK; exact cr_sortedA
end
end XT

namespace XT
open PySem PySem.Spec PyProof.Rows L2
/-! ### own exception classes called with one keyword -/
section
variable {prog : Program} {w : World} {A : Around} {E : Value → Shared → Prop} {R : Result → Shared → Prop} {h : Heap} {g : Array GenState} {d : Drawn} {t : Nat} {os : OsState} {nm q : Str} {C N fI : Addr} {bs bm bmB : List Value} {hdct : Bool} {sn : List Str} {sub : List Value} {ab : Bool} {col : Option Bool} {dd : Option Addr}
  {k0 k1 k2 k3 k5 : Option Value} {B newId initId : String} {kf : Str} {kv : Value}
theorem kx_new {M : Model} (F : ExcBaseFacts B newId initId bmB) (hT : ∀ X : String, bm.contains (.type X) = bmB.contains (.type X)) {Q : Unit → Shared → Prop}
    (hC : h.get? C = some (excClassObj nm q C N bs bm hdct sn sub ab col dd k0 k1 k2 k3 k5 newId)) (hq : Q () ⟨h, g, d, t, os⟩) : wpAny M A (checkBuiltinCall newId ⟨[.ref C], [(kf, kv)]⟩) Q E ⟨h, g, d, t, os⟩ := by
  have hcont : (Value.ref C :: bm).contains (.type B) = true := by rw [List.contains_cons, hT, F.hasB, Bool.or_true]
  have hstar := F.noStar
  simp only [checkBuiltinCall, F.newKind, F.newSplit, F.newRow]
  repeat (first | refine wpAny_loadPart_at hC ?_ | (refine wpAny_isSubtype_exc hC ?_; rw [hcont]) | refine wpAny_staticBase_exc hC ?_ | refine wpAny_madeBy_exc hC ?_ | simp only [bne_self_eq_false, Bool.false_eq_true, if_false] | wp_step)
  exact hq
theorem kx_tc {M : Model} {Q : Unit → Shared → Prop} (hC : h.get? C = some (excClassObj nm q C N bs bm hdct sn sub ab col dd k0 k1 k2 k3 k5 newId))
    (hq : Q () ⟨h, g, d, t, os⟩) : wpAny M A (checkBuiltinCall "type.__call__" ⟨[.ref C], [(kf, kv)]⟩) Q E ⟨h, g, d, t, os⟩ := by
  have f3 := tc_sub
  have hT : (⟨h, g, d, t, os⟩ : Shared).TypeIs (.ref C) "type" := ⟨_, hC, rfl⟩
  simp only [checkBuiltinCall, tc_kind, tc_split]
  repeat (any_goals (first | assumption | with_reducible refine wpAny_loadPart_at hC ?_ | with_reducible refine wpAny_onRaise ?_ | with_reducible refine wpAny_map ?_ | wp_step))
end
end XT

namespace XT
open PySem PySem.Spec PyProof.Rows L2
section
variable {prog : Program} {w : World} {A : Around} {E : Value → Shared → Prop} {R : Result → Shared → Prop} {h : Heap} {g : Array GenState} {d : Drawn} {t : Nat} {os : OsState} {nm q : Str} {C N fI : Addr} {bs bm bmB : List Value} {hdct : Bool} {sn : List Str} {sub : List Value} {ab : Bool} {col : Option Bool} {dd : Option Addr}
  {k0 k1 k2 k3 k5 : Option Value} {B newId initId : String} {kf : Str} {kv : Value}
theorem kx_newobj (F : ExcBaseFacts B newId initId bmB) (hT : ∀ X : String, bm.contains (.type X) = bmB.contains (.type X)) (hC : h.get? C = some (excClassObj nm q C N bs bm hdct sn sub ab col dd k0 k1 k2 k3 k5 newId))
    (hq : R (.ok (.ret (.ref (h.objs.size + 1)))) ⟨(h.push (PySem.W.kdv_tup [])).push (PySem.HandSPX.excO C h.objs.size), g, d, t, os⟩) :
    codeAny (model prog w) A (.builtin newId ⟨[.ref C], [(kf, kv)]⟩) R ⟨h, g, d, t, os⟩ := by
  have hends := F.ends
  have hcB : (Value.ref C :: bm).contains (.type B) = true := by rw [List.contains_cons, hT, F.hasB, Bool.or_true]
  have hcA : (Value.ref C :: bm).contains (.type "AttributeError") = false := by rw [List.contains_cons, hT, F.noAttr]; rfl
  have hcN : (Value.ref C :: bm).contains (.type "NameError") = false := by rw [List.contains_cons, hT, F.noName]; rfl
  refine codeAny_builtinAt F.entry ?_
  unfold Builtin.«BaseException.__new__»
  refine PySem.wpAt_bind ?_
  show PySem.wpAt _ _ _ (stack >>= _) _ _ _
  refine PySem.wpAt_bind (PySem.wpAt_stack fun p below => PySem.wpAt_of_wpAny ?_)
  wp_walk
  refine PySem.wpAt_of_wpAny ?_
  rw [F.owner]
  repeat (first | with_reducible refine wpAny_madeHere_exc F.canon hC ?_ | with_reducible refine wpAny_loadPart_at hC ?_ | (with_reducible refine wpAny_isSubtype_exc hC ?_; first | rw [hcB] | rw [hcA] | rw [hcN]) | wp_step)
  show R _ _
  rw [Heap.size_push]
  exact hq
theorem kx_type {Q : PySem.Fin → Shared → Prop} (F : ExcBaseFacts B newId initId bmB) (hT : ∀ X : String, bm.contains (.type X) = bmB.contains (.type X)) (hC : h.get? C = some (excClassObj nm q C N bs bm hdct sn sub ab col dd k0 k1 k2 k3 k5 newId))
    (hi : PySem.W.Looks (model prog w) h (typeLookup (.ref C) "__init__") (some (.ref fI))) (hb : ∀ self, PySem.W.Looks (model prog w) h (bindSpecial (.ref fI) self) (.ref fI, [self]))
    (hq : codeAny (model prog w) A (.call (.ref fI) ⟨[.ref (h.objs.size + 1)], [(kf, kv)]⟩)
      (fun r s' => match r with | .ok (.ret v) => v = .none ∧ Q (.done (.ret (.ref (h.objs.size + 1)))) s' | .ok _ => False | .error e => E e s')
      ⟨(h.push (PySem.W.kdv_tup [])).push (PySem.HandSPX.excO C h.objs.size), g, d, t, os⟩) :
    wpAny (model prog w) A (Builtin.«type.__call__» ⟨[.ref C], [(kf, kv)]⟩) Q E ⟨h, g, d, t, os⟩ := by
  repeat (first | with_reducible refine wpAny_loadPart_at hC ?_ | with_reducible refine wpAny_madeBy_exc hC ?_ | wp_step)
  refine codeAny_call_builtin_code (Code.quiet_builtin _ F.quiet) (kx_new F hT hC ?_)
  refine kx_newobj F hT hC ?_
  show wpAny _ _ _ _ _ _
  have kk : ∀ b o, h.get? b = some o → ((h.push (PySem.W.kdv_tup [])).push (PySem.HandSPX.excO C h.objs.size)).get? b = some o := fun b o e => Heap.get?_push_of_some _ (Heap.get?_push_of_some _ e)
  have hC1 := kk _ _ hC
  have hget : ((h.push (PySem.W.kdv_tup [])).push (PySem.HandSPX.excO C h.objs.size)).get? (h.objs.size + 1) = some (PySem.HandSPX.excO C h.objs.size) := by heap_get
  have hcC : (Value.ref C :: bm).contains (.ref C) = true := by simp
  have i1 := hi.keeps kk
  have b1 := (hb (.ref (h.objs.size + 1))).keeps kk
  unfold isInstance
  repeat (first | with_reducible refine wpAny_loadPart_at hget ?_ | (with_reducible refine wpAny_isSubtype_exc hC1 ?_; rw [hcC]) | wp_step)
  show wpAny _ _ (typeLookup (.ref C) _) _ _ _
  refine i1.at ?_
  refine wpAny_holding (wpAny_bind (b1.at ?_))
  refine wpAny_bind (wpAny_call (codeAny_mono hq fun r s' z => ?_))
  rcases r with e | (v | _ | _ | _) <;> first | exact z | exact z.elim | skip
  obtain ⟨rfl, z⟩ := z
  first
    | exact wpAny_pure (wpAny_pure z)
    | (wp_walk; exact z)
theorem kx_call (F : ExcBaseFacts B newId initId bmB) (hT : ∀ X : String, bm.contains (.type X) = bmB.contains (.type X)) (hC : h.get? C = some (excClassObj nm q C N bs bm hdct sn sub ab col dd k0 k1 k2 k3 k5 newId))
    (hi : PySem.W.Looks (model prog w) h (typeLookup (.ref C) "__init__") (some (.ref fI))) (hb : ∀ self, PySem.W.Looks (model prog w) h (bindSpecial (.ref fI) self) (.ref fI, [self]))
    (hq : codeAny (model prog w) (A.under (.builtin "type.__call__" ⟨[.ref C], [(kf, kv)]⟩)) (.call (.ref fI) ⟨[.ref (h.objs.size + 1)], [(kf, kv)]⟩) (PySem.W.InitBack (h.objs.size + 1) R)
      ⟨(h.push (PySem.W.kdv_tup [])).push (PySem.HandSPX.excO C h.objs.size), g, d, t, os⟩) :
    codeAny (model prog w) A (.call (.ref C) ⟨[], [(kf, kv)]⟩) R ⟨h, g, d, t, os⟩ := by
  have f1 := tc_lookup
  have f2 := tc_bind (.ref C)
  have hTy : (⟨h, g, d, t, os⟩ : Shared).TypeIs (.ref C) "type" := ⟨_, hC, rfl⟩
  refine codeAny_of_tree ?_
  show wpAny _ _ (callAny (.ref C) _) _ _ _
  repeat (any_goals (first | assumption | with_reducible refine wpAny_loadPart_at hC ?_ | wp_step))
  refine ⟨rfl, ?_⟩
  refine codeAny_call_builtin_at (Code.quiet_builtin _ (by decide +kernel)) entry_typeCall (kx_tc hC (kx_type F hT hC hi hb ?_))
  refine codeAny_mono hq fun r s' z => ?_
  rcases r with e | (v | _ | _ | _) <;> exact z
end
end XT

namespace XT
open PySem PySem.Spec PyProof.Rows L2
/-! ### errors as values -/
/-- an error of the class at C stands at a, its field f holds v -/
def ErrAt (H : Hp) (C : Addr) (f : Str) (v : V) (a : Addr) : Prop := ∃ d, H a = some (exo a C (some d)) ∧ H d = some (exd d [(f, v)])
theorem ErrAt.same {H H' : Hp} {C : Addr} {f : Str} {v : V} {a : Addr} (h : ErrAt H C f v a) (e : Same H H') : ErrAt H' C f v a := let ⟨d, p, q⟩ := h; ⟨d, e _ _ p, e _ _ q⟩
theorem err_made {H : Hp} {a d C : Addr} {f : Str} {v : V} (ha : H a = none) (hd : H d = none) (ne : d ≠ a) : Same H (upd (upd (upd H a (exo a C none)) d (exd d [(f, v)])) a (exo a C (some d))) ∧ ErrAt (upd (upd (upd H a (exo a C none)) d (exd d [(f, v)])) a (exo a C (some d))) C f v a := by
  refine ⟨fun b o e => ?_, d, upd_same, by rw [upd_ne ne, upd_same]⟩
  have h1 : b ≠ a := fun q => by rw [q, ha] at e; cases e
  have h2 : b ≠ d := fun q => by rw [q, hd] at e; cases e
  rw [upd_ne h1, upd_ne h2, upd_ne h1]
  exact e
/-- C(e), C(f=e), as a value -/
def tMkV (C : Addr) (f : Str) (te : TE) : TE := fun σ H Q => tCons te tNil σ H fun vs H1 => ∃ v, vs = [v] ∧ ∀ a H2, Same H1 H2 → H1 a = none → ErrAt H2 C f v a → Q (.ref a) H2
section
variable {X : Cx} {B nw ini : String} {tl : List Value} {C fI : Addr} {f x : Str} {k : Nat} {fd : FuncData} {e : Expr} {te : TE} {p pos kp : Pos}
theorem run_err {pins : List (Addr × Obj)} {σ : L2.St} {H : Hp} {s : Shared} {Q : VK} {v : V} {u : Value} {ps : List Str} {args : Args} (F1 : FnOk X.prog X.w X.K X.mg X.base CX0 k fI fd ps (spErr f C)) (hr : Room (k + 1) X.A)
    (I : Inv X pins σ H s) (rv : RelV v u) (kw : List (Str × Value)) (us : List Value)
    (hbd : BindsTo { s with heap := (s.heap.push (PySem.W.kdv_tup us)).push (PySem.HandSPX.excO C s.heap.objs.size) } fd args (ps.zip [Value.ref (s.heap.objs.size + 1), u]))
    (q : ∀ a H2, Same H H2 → H a = none → ErrAt H2 C f v a → Q (.ref a) H2) :
    codeAny (model X.prog X.w) (X.A.under (.builtin "type.__call__" ⟨.ref C :: us, kw⟩)) (.call (.ref fI) args) (PySem.W.InitBack (s.heap.objs.size + 1) (fun r s' => match r with | .ok (.ret v) => EP X pins σ Q v s' | .ok _ => False | .error e => X.xe e s'))
      { s with heap := (s.heap.push (PySem.W.kdv_tup us)).push (PySem.HandSPX.excO C s.heap.objs.size) } := by
  have up : s.heap.objs.size ≤ s.heap.objs.size + 1 := Nat.le_succ _
  have kk : ∀ b o, s.heap.get? b = some o → ((s.heap.push (PySem.W.kdv_tup us)).push (PySem.HandSPX.excO C s.heap.objs.size)).get? b = some o := fun b o z => Heap.get?_push_of_some _ (Heap.get?_push_of_some _ z)
  have I2 : Inv X pins σ (upd H (s.heap.objs.size + 1) (exo (s.heap.objs.size + 1) C none)) { s with heap := (s.heap.push (PySem.W.kdv_tup us)).push (PySem.HandSPX.excO C s.heap.objs.size) } :=
    I.laid (t' := s.toks) (a := s.heap.objs.size + 1) (o := exo (s.heap.objs.size + 1) C none) kk up (exo_ok (t1 := s.heap.objs.size) (by heap_get))
  have n0 : H (s.heap.objs.size + 1) = none := I.hok.fresh up
  have r2 : Vals [V.ref (s.heap.objs.size + 1), v] [Value.ref (s.heap.objs.size + 1), u] := .cons rfl (.cons rv .nil)
  have hq : spErr f C [V.ref (s.heap.objs.size + 1), v] (upd H (s.heap.objs.size + 1) (exo (s.heap.objs.size + 1) C none)) (fun v' H2 => v' = .non ∧ Q (.ref (s.heap.objs.size + 1)) H2) E0 :=
    ⟨_, v, rfl, upd_same, fun d hd hne => ⟨rfl, by
      have hd' : H d = none := by rw [upd_ne hne] at hd; exact hd
      obtain ⟨s1, e1⟩ := err_made (C := C) (f := f) (v := v) n0 hd' hne
      exact q _ _ s1 n0 e1⟩⟩
  refine codeAny_mono (F1.run _ X.stack _ _ args [Value.ref (s.heap.objs.size + 1), u] [V.ref (s.heap.objs.size + 1), v] _ E0 (hr.make C us kw) (I2.env0.make C us kw) hbd r2 hq) fun r s' hq' => ?_
  match r, hq' with
  | .error er, hq' => exact hq'.elim
  | .ok (.ret u'), hq' =>
    obtain ⟨v', H', I3, rv', ev, q3⟩ := I2.after hq'
    subst ev
    exact ⟨rv', ⟨V.ref (s.heap.objs.size + 1), H', I3, rfl, q3⟩⟩
theorem pe_mkErr {ps : List Str} (T : ErrG X.K C fI f B nw ini tl) (F1 : FnOk X.prog X.w X.K X.mg X.base CX0 k fI fd ps (spErr f C)) (hb : Binds X.K fd ps []) (hl : ps.length = 2) (hr : Room (k + 1) X.A) (hg : Gl X x) (hm : X.mg x = some (.ref C)) (he : PE X e te)
    (hdb : (x == ("__debug__" : Str)) = false := by decide) (hs : starEach [e] X.env = (false, eval e X.env) :: starEach [] X.env := by rfl) (hpl : (backTo pos (starEach [] X.env)).any (·.1) = false := by rfl) :
    PE X (.Call (.Name x p) [e] [] pos) (tMkV C f te) := by
  refine ⟨fun pins s σ H Q I h => ?_⟩
  obtain ⟨nm, q, N, bs, cs, sn, sub, ab, col, dd, k0, k1, k2, k3, k5, hC⟩ := T.oex.cls
  refine wpAny_Call_Name_kw (ld_glob I hg hm ?_ hdb)
  refine PySem.W.callWith_K (h₀ := X.base) I.ok.mod.kin T.oex.kC (thn ((pa_cons he pa_nil hs).run pos pins s σ H _ I h) fun us s1 ⟨vs, H1, I1, r1, v, ev, q1⟩ => ⟨I1.kIn, ?_⟩) hs hpl
  subst ev
  obtain ⟨u, rfl, ru⟩ := r1.one
  obtain ⟨hp, g, d, t, os⟩ := s1
  have hbd := hb ⟨(hp.push (PySem.W.kdv_tup [u])).push (PySem.HandSPX.excO C hp.objs.size), g, d, t, os⟩ [Value.ref (hp.objs.size + 1), u] (I1.kept (t' := t) fun b o z => Heap.get?_push_of_some _ (Heap.get?_push_of_some _ z)).kIn (by rw [hl]; rfl)
  refine wpAny_call (codeAny_mono (PySem.HandSPX.call_own T.bx.eb (chain_has cs) (I1.kIn _ _ hC) (PySem.W.looks_findIn I1.kIn T.iC) (fun self => PySem.W.bind_fn I1.kIn self T.tI) (show 1 ≤ sizeLine by decide)
    (run_err F1 hr I1 ru [] [u] (by simpa using hbd) q1)) fun r s' z => z)
theorem pe_mkErrK {ps : List Str} (T : ErrG X.K C fI f B nw ini tl) (F1 : FnOk X.prog X.w X.K X.mg X.base CX0 k fI fd ps (spErr f C)) (hb : ∀ (s : Shared) (a u : Value), BindsTo s fd ⟨[a], [(f, u)]⟩ (ps.zip [a, u])) (hr : Room (k + 1) X.A) (hg : Gl X x) (hm : X.mg x = some (.ref C)) (he : PE X e te)
    (hdb : (x == ("__debug__" : Str)) = false := by decide)
    (hall : (backToKw pos (keywordEach [⟨some f, e, kp⟩] X.env)).all (·.1.isSome) = true := by rfl) (hks : (backToKw pos (keywordEach [⟨some f, e, kp⟩] X.env)).filterMap (·.1) = [f] := by rfl)
    (hpl : ((backTo pos (starEach [] X.env)).any (·.1) || (backToKw pos (keywordEach [⟨some f, e, kp⟩] X.env)).any (·.1.isNone)) = false := by rfl) :
    PE X (.Call (.Name x p) [] [⟨some f, e, kp⟩] pos) (tMkV C f te) := by
  refine ⟨fun pins s σ H Q I h => ?_⟩
  obtain ⟨nm, q, N, bs, cs, sn, sub, ab, col, dd, k0, k1, k2, k3, k5, hC⟩ := T.oex.cls
  refine wpAny_Call_Name_kw (ld_glob I hg hm ?_ hdb)
  refine PySem.W.callWith_KW0 (h₀ := X.base) I.ok.mod.kin T.oex.kC hall ?_ hpl
  refine thn ((pk_cons (nm := some f) (kpos := kp) he pk_nil).run pos pins s σ H _ I h) fun us s1 ⟨vs, H1, I1, r1, v, ev, q1⟩ => ⟨I1.kIn, ?_⟩
  subst ev
  obtain ⟨u, rfl, ru⟩ := r1.one
  rw [hks]
  obtain ⟨hp, g, d, t, os⟩ := s1
  refine wpAny_call (codeAny_mono (kx_call (kf := f) (kv := u) T.bx.eb (chain_has cs) (I1.kIn _ _ hC) (PySem.W.looks_findIn I1.kIn T.iC) (fun self => PySem.W.bind_fn I1.kIn self T.tI)
    (run_err F1 hr I1 ru [(f, u)] [] (hb _ _ _) q1)) fun r s' z => z)
/-- isinstance(e, c), e such an error -/
def rIsErr (K : PySem.W.Frag) : List V → Hp → VK → Prop := fun xs H Q => ∃ (a C : Addr) (f : Str) (v c : V) (u : Value) (b : Bool), xs = [.ref a, c] ∧ ErrAt H C f v a ∧ ExcC K C ∧ ClsV c u ∧ PySem.W.kitOne K (.ref C) u = some b ∧ Q (.bl b) H
theorem call_isErr : CallR X (.builtin "isinstance") (rIsErr X.K) := by
  intro pins s σ H xs us Q I r h
  obtain ⟨a, C, f, v, c, u, b, rfl, ⟨d, ea, ed⟩, T, hc, e, q⟩ := h
  cases r with
  | cons rx rr =>
    cases rr with
    | cons rt rr =>
      cases rr
      cases rx
      have ec := hc.eq rt
      subst ec
      obtain ⟨t1, ho⟩ := exo_at I.hok ea
      obtain ⟨mA, hns, hr⟩ := exd_at I.hok ed
      obtain ⟨od, hd, _⟩ := lookIn_ns hns
      have J : PySem.W.InstAt s.heap a _ C (some od) := ⟨ho, rfl, rfl, hd⟩
      have hcl : (PySem.W.clsIn X.K C).isSome = true := by
        obtain ⟨cd, hc, _⟩ := PySem.W.any_some T.hd
        rw [hc]
        rfl
      exact PySem.W.kia_one (PySem.W.kitx_exc hcl T.hg T.hk T.hs T.ha T.hn T.ht T.hm) I.kIn J e (fun z => nomatch z) fun tk => ⟨.bl b, H, I.kept (t' := tk) fun _ _ z => z, rfl, q⟩
theorem isErrK (K : PySem.W.Frag) (hK : X.K = K := by rfl) : CallR X (.builtin "isinstance") (rIsErr K) := by subst hK; exact call_isErr
/-- e.f -/
def tFldE (K : PySem.W.Frag) (n : Str) (ta : TE) : TE := fun σ H Q => ta σ H fun x H1 => ∃ (a C : Addr) (v : V), x = .ref a ∧ XfC K C ∧ PySem.W.findIn K (.ref C) n = some none ∧ ErrAt H1 C n v a ∧ Q v H1
theorem pe_fldE (K : PySem.W.Frag) {ta : TE} {n : Str} (he : PE X e ta) (hb : attributeBase e n X.env (eval e X.env) = eval e X.env := by rfl) (hK : X.K = K := by rfl) : PE X (.Attribute e n pos) (tFldE K n ta) := by
  subst hK
  refine ⟨fun pins s σ H Q I h => ?_⟩
  refine attr_of hb (thn (he.run pins s σ H _ I h) fun u s1 ⟨x, H1, I1, rx, a, C, v, ex, T, hno, ⟨d, ea, ed⟩, q⟩ => ?_)
  subst ex
  obtain rfl : u = Value.ref a := rx
  obtain ⟨t1, ho⟩ := exo_at I1.hok ea
  obtain ⟨mA, hns, hr⟩ := exd_at I1.hok ed
  obtain ⟨od, hd, hl⟩ := lookIn_ns hns
  obtain ⟨u, hu, ru⟩ := RelO.some_of (v := v) (o := mA n) (by have := hr n; simpa [List.lookup] using this)
  have J : PySem.W.InstAt s1.heap a _ C (some od) := ⟨ho, rfl, rfl, hd⟩
  exact HandSPX.exc_get I1.kIn J T.ga T.gg T.exC (PySem.W.findObj_own T.hdC hno rfl (by rw [hl, hu])) (handed_of ru) ⟨v, H1, I1.tok _, ru, q⟩
/-- xs.count(y) of flat values -/
def rCntV (K : PySem.W.Frag) : V → List V → Hp → VK → Prop := fun x xs H Q => ∃ (p : Addr) (ys : List V) (y : V), x = .ref p ∧ xs = [y] ∧ SqL K H p ys ∧ flatV y = true ∧ ys.all flatV = true ∧ Q (.int (ys.countP (fun z => eqV z y) : Nat)) H
theorem cnt_of {y : V} {u : Value} (ru : RelV y u) : ∀ {ys : List V} {its : List Value}, Vals ys its → ys.all flatV = true → its.countP (eqU y) = ys.countP (fun z => eqV z y)
  | _, _, .nil, _ => rfl
  | _, _, .cons (a := z) (b := w) rz t, h => by
    rw [List.all_cons, Bool.and_eq_true] at h
    rw [List.countP_cons, List.countP_cons, cnt_of ru t h.2, eqU_of rz h.1]
theorem mt_countV : MtR X "list.count" (rCntV X.K) := by
  intro pins s σ H x xs v us Q I rx rxs h
  obtain ⟨p, ys, y, rfl, rfl, hs, fy, fys, q⟩ := h
  cases rx
  obtain ⟨u, rfl, ru⟩ := rxs.one
  obtain ⟨its, rv, ⟨⟨cls, dd, data, sl⟩, n, ho, hc, hdn, hd⟩, hlen⟩ := I.list hs
  simp only at hc hd
  subst hc hd
  refine call_meets PySem.F.slot_list_count ⟨_, ho, rfl⟩ PySem.F.entry_list_count (PySem.F.args_list_count_2 _ _)
    (SeqAt.list_countAt p its.toArray n dd sl u (eqU y)) ⟨ho, fun u' hu' => mem_eqAt ru fy rv fys u' (by simpa using hu'), ?_⟩
  have ec : its.toArray.toList.countP (eqU y) = ys.countP (fun z => eqV z y) := cnt_of ru rv fys
  exact ⟨.int (ys.countP (fun z => eqV z y) : Nat), H, I.tok _, ⟨s.toks, by rw [ec]⟩, q⟩
end
/-- how one keyword binds -/
def BndK (x qual : Str) (st : Stmt) (p f : Str) : Prop := ∀ (kV doc pm : Value) (an : Option Addr) (cdv ct : Value) (a u : Value), bindArgs (PySem.W.fnOf x qual (defArgs st) (defBody st) (defScope st) .none kV doc pm an cdv ct) ⟨[a], [(f, u)]⟩ = pure [(p, a), (f, u)]
theorem bindsK {K : PySem.W.Frag} {x qual : Str} {st : Stmt} {g : Addr} {fd : FuncData} {p f : Str} (F : Fun K x qual st g fd) (B : BndK x qual st p f) : ∀ (s : Shared) (a u : Value), BindsTo s fd ⟨[a], [(f, u)]⟩ (([p, f] : List Str).zip [a, u]) := by
  obtain ⟨oc, od, kV, doc, pm, an, cdv, ct, osl, rfl, lk, hcd⟩ := F.ex
  exact fun s a u => .of_eq (B kV doc pm an cdv ct a u)
end XT

namespace XT
open PySem PySem.Spec PyProof.Rows L2
/-! ### list + list, the left one perhaps not the program's own -/
theorem list_addG (l b : Addr) (xs ys : Array Value) (n m : Nat) (d1 d2 : Option Addr) (s1 s2 : Array (Option Value)) (hz : xs.size + ys.size ≤ sizeLine) :
    Meets (Builtin.«list.__add__» ⟨[.ref l, .ref b], []⟩) (fun _ R s => s.heap.get? l = some { cls := .type "list", dict := d1, data := .seq xs n, slots := s1 } ∧ s.heap.get? b = some { cls := .type "list", dict := d2, data := .seq ys m, slots := s2 } ∧
      R (.ok (.ret (.ref s.heap.objs.size))) { s with heap := s.heap.push { cls := .type "list", data := .seq (xs ++ ys) } }) :=
  .of_wp fun prog w A R s h => by
    obtain ⟨hp, g, d, tk, os⟩ := s
    obtain ⟨hl, hb, h⟩ := h
    have f3 := AutoSeq1.sub_list_list
    wp_walk using wpAny_loadPart' hl, wpAny_loadPart' hb
    exact ⟨_, rfl, h⟩
def rCatQ (K : PySem.W.Frag) : R2 := fun x y H Q => ∃ l b xs zs, x = .ref l ∧ y = .ref b ∧ SqL K H l xs ∧ SqL K H b zs ∧ xs.length + zs.length ≤ sizeLine ∧ ∀ p, H p = none → Q (.ref p) (upd H p (.lst (xs ++ zs)))
theorem op_catQ {X : Cx} : OpR X (binaryOp .Add) (rCatQ X.K) := by
  intro pins s σ H x y v u Q I rx ry h
  obtain ⟨l, b, xs, zs, rfl, rfl, hH, hB, hz, q⟩ := h
  cases rx
  cases ry
  obtain ⟨its, r, ⟨⟨cls, dd, data, sl⟩, n, ho, hc, hdn, hd⟩, _⟩ := I.list hH
  obtain ⟨its2, r2, ⟨⟨cls2, dd2, data2, sl2⟩, n2, ho2, hc2, hdn2, hd2⟩, _⟩ := I.list hB
  simp only at hc hd hdn hc2 hd2 hdn2
  subst hc hc2
  have l1 := r.length
  have l2 := r2.length
  subst hdn hdn2 hd hd2
  refine concat_meets ⟨_, ho, rfl⟩ ⟨_, ho2, rfl⟩ noFill_list_add seq_list_add F.slot_list_add F.entry_list_add (F.args_list_add_2 _ _) (list_addG l b its.toArray its2.toArray _ _ _ _ _ _ (by rw [List.size_toArray, List.size_toArray]; omega)) ⟨ho, ho2, ?_⟩
  have ea : its.toArray ++ its2.toArray = (its ++ its2).toArray := by simp
  rw [ea]
  exact ⟨.ref _, _, I.lnew (t' := s.toks) (r.append r2) (by rw [List.length_append]; omega), rfl, q _ I.fresh⟩
end XT

namespace Tbl
/-- how many are at most c -/
def cnt (L : List Int) (c : Int) : Int := ((L.countP fun x => decide (x ≤ c) : Nat) : Int)
abbrev Asc (L : List Int) : Prop := L.Pairwise (· < ·)
abbrev Up (L : List Int) : Prop := L.Pairwise (· ≤ ·)
def Pos (L : List Int) : Prop := ∀ x ∈ L, 1 ≤ x
def bnds : Nat → List Int → List Int
  | _, [] => []
  | i, x :: L => (x - (i : Int)) :: bnds (i + 1) L
def kr (L : List Int) (p : Int) : Int := p + cnt (bnds 0 L) p
def mp (s : Int) (L : List Int) (c : Int) : Int := s + c - cnt L c
theorem cnt_nil (c : Int) : cnt [] c = 0 := rfl
theorem cnt_cons (x : Int) (L : List Int) (c : Int) : cnt (x :: L) c = (if x ≤ c then 1 else 0) + cnt L c := by
  unfold cnt
  rw [List.countP_cons]
  by_cases h : x ≤ c
  · simp [h]; omega
  · simp [h]
theorem cnt_nn (L : List Int) (c : Int) : 0 ≤ cnt L c := Int.natCast_nonneg _
theorem cnt_le_len (L : List Int) (c : Int) : cnt L c ≤ L.length := by
  unfold cnt
  exact Int.ofNat_le.mpr List.countP_le_length
theorem cnt_mono (L : List Int) {c d : Int} (h : c ≤ d) : cnt L c ≤ cnt L d := by
  induction L with
  | nil => exact Int.le_refl _
  | cons x L ih =>
    rw [cnt_cons, cnt_cons]
    by_cases h1 : x ≤ c
    · rw [if_pos h1, if_pos (Int.le_trans h1 h)]; omega
    · rw [if_neg h1]; split <;> omega
theorem cnt_zero {L : List Int} {c : Int} (h : ∀ x ∈ L, c < x) : cnt L c = 0 := by
  induction L with
  | nil => rfl
  | cons x L ih =>
    rw [cnt_cons, if_neg (by have := h x (List.mem_cons_self ..); omega), ih fun y hy => h y (List.mem_cons_of_mem _ hy)]
    rfl
theorem cnt_all {L : List Int} {c : Int} (h : ∀ x ∈ L, x ≤ c) : cnt L c = L.length := by
  induction L with
  | nil => rfl
  | cons x L ih =>
    rw [cnt_cons, if_pos (h x (List.mem_cons_self ..)), ih fun y hy => h y (List.mem_cons_of_mem _ hy), List.length_cons]
    omega
theorem cnt_append (L M : List Int) (c : Int) : cnt (L ++ M) c = cnt L c + cnt M c := by
  unfold cnt
  rw [List.countP_append]
  omega
theorem cnt_perm {L M : List Int} (h : L.Perm M) (c : Int) : cnt L c = cnt M c := by
  unfold cnt
  rw [h.countP_eq]
theorem cnt_map_sub (L : List Int) (p : Int) : cnt (L.map (· - 1)) p = cnt L (p + 1) := by
  induction L with
  | nil => rfl
  | cons x L ih =>
    rw [List.map_cons, cnt_cons, cnt_cons, ih]
    by_cases h : x ≤ p + 1
    · rw [if_pos h, if_pos (by omega)]
    · rw [if_neg h, if_neg (by omega)]
theorem bnds_succ (L : List Int) : ∀ i : Nat, bnds (i + 1) L = (bnds i L).map (· - 1) := by
  induction L with
  | nil => intro i; rfl
  | cons x L ih =>
    intro i
    show (x - ((i + 1 : Nat) : Int)) :: bnds (i + 1 + 1) L = (x - (i : Int) - 1) :: (bnds (i + 1) L).map (· - 1)
    rw [ih (i + 1)]
    congr 1
    omega
theorem bnds_length (L : List Int) : ∀ i : Nat, (bnds i L).length = L.length := by
  induction L with
  | nil => intro i; rfl
  | cons x L ih => intro i; show (bnds (i + 1) L).length + 1 = L.length + 1; rw [ih]
theorem bnds_snoc (L : List Int) (x : Int) : ∀ i : Nat, bnds i (L ++ [x]) = bnds i L ++ [x - ((i + L.length : Nat) : Int)] := by
  induction L with
  | nil => intro i; rfl
  | cons y L ih =>
    intro i
    show (y - (i : Int)) :: bnds (i + 1) (L ++ [x]) = (y - (i : Int)) :: (bnds (i + 1) L ++ [x - ((i + (L.length + 1) : Nat) : Int)])
    rw [ih (i + 1)]
    congr 4
    omega
theorem bnds_ge {L : List Int} : ∀ {i : Nat} {x : Int}, Asc L → (∀ y ∈ L, x + (i : Int) ≤ y) → ∀ b ∈ bnds i L, x ≤ b := by
  induction L with
  | nil => intro i x _ _ b hb; cases hb
  | cons y L ih =>
    intro i x ha h b hb
    rcases List.mem_cons.mp hb with rfl | hb
    · have := h y (List.mem_cons_self ..); omega
    · refine ih (i := i + 1) (List.pairwise_cons.mp ha).2 (fun z hz => ?_) b hb
      have h1 := (List.pairwise_cons.mp ha).1 z hz
      have h2 := h y (List.mem_cons_self ..)
      omega
theorem bnds_up {L : List Int} : ∀ {i : Nat}, Asc L → Up (bnds i L) := by
  induction L with
  | nil => intro i _; exact List.Pairwise.nil
  | cons y L ih =>
    intro i ha
    refine List.pairwise_cons.mpr ⟨fun b hb => ?_, ih (List.pairwise_cons.mp ha).2⟩
    refine bnds_ge (i := i + 1) (List.pairwise_cons.mp ha).2 (fun z hz => ?_) b hb
    have h1 := (List.pairwise_cons.mp ha).1 z hz
    omega
theorem cnt_gap {L : List Int} : ∀ {p c : Int}, Asc L → (∀ y ∈ L, p < y) → p ≤ c → cnt L c ≤ c - p := by
  induction L with
  | nil => intro p c _ _ h; rw [cnt_nil]; omega
  | cons y L ih =>
    intro p c ha h hpc
    have hy := h y (List.mem_cons_self ..)
    rw [cnt_cons]
    by_cases hc : y ≤ c
    · rw [if_pos hc]
      have := ih (p := y) (c := c) (List.pairwise_cons.mp ha).2 (List.pairwise_cons.mp ha).1 hc
      omega
    · rw [if_neg hc, cnt_zero fun z hz => by have := (List.pairwise_cons.mp ha).1 z hz; omega]
      omega
theorem kr_cons_le {x : Int} {L : List Int} {p : Int} (h : x ≤ p) : kr (x :: L) p = kr L (p + 1) := by
  unfold kr
  show p + cnt ((x - ((0 : Nat) : Int)) :: bnds 1 L) p = _
  rw [cnt_cons, bnds_succ, cnt_map_sub, if_pos (by omega)]
  omega
theorem kr_cons_gt {x : Int} {L : List Int} {p : Int} (ha : Asc (x :: L)) (h : p < x) : kr (x :: L) p = p := by
  unfold kr
  rw [cnt_zero]
  · omega
  · intro b hb
    have := bnds_ge (i := 0) (x := x) ha (fun y hy => by
      rcases List.mem_cons.mp hy with rfl | hy
      · omega
      · have := (List.pairwise_cons.mp ha).1 y hy; omega) b hb
    omega
theorem kr_ge (L : List Int) (p : Int) : p ≤ kr L p := by unfold kr; have := cnt_nn (bnds 0 L) p; omega
theorem kr_lt {L : List Int} {p q : Int} (h : p < q) : kr L p < kr L q := by
  unfold kr
  have := cnt_mono (bnds 0 L) (Int.le_of_lt h)
  omega
/-- the place p is reached at c exactly if the p-th kept rank is at most c -/
theorem gal {L : List Int} : ∀ {p c : Int}, Asc L → (p ≤ c - cnt L c ↔ kr L p ≤ c) := by
  induction L with
  | nil => intro p c _; rw [cnt_nil]; unfold kr bnds; rw [cnt_nil]; omega
  | cons x L ih =>
    intro p c ha
    have hL := (List.pairwise_cons.mp ha).2
    by_cases hp : x ≤ p
    · rw [kr_cons_le hp, cnt_cons]
      by_cases hc : x ≤ c
      · rw [if_pos hc]
        have := ih (p := p + 1) (c := c) hL
        omega
      · rw [if_neg hc]
        have h1 := cnt_nn L c
        have h2 := kr_ge L (p + 1)
        omega
    · have hp' : p < x := by omega
      rw [kr_cons_gt ha hp']
      constructor
      · intro h; have := cnt_nn (x :: L) c; omega
      · intro h
        have := cnt_gap (p := p) (c := c) ha (fun y hy => by
          rcases List.mem_cons.mp hy with rfl | hy
          · exact hp'
          · have := (List.pairwise_cons.mp ha).1 y hy; omega) h
        omega
theorem cnt_mem {L : List Int} (ha : Asc L) {x : Int} : x ∈ L ↔ cnt L x = cnt L (x - 1) + 1 := by
  induction L with
  | nil => rw [cnt_nil, cnt_nil]; simp
  | cons y L ih =>
    have hL := (List.pairwise_cons.mp ha).2
    have hy := (List.pairwise_cons.mp ha).1
    rw [cnt_cons, cnt_cons]
    by_cases e : x = y
    · subst e
      rw [if_pos (Int.le_refl _), if_neg (by omega), cnt_zero hy, cnt_zero fun z hz => by have := hy z hz; omega]
      simp
    · rw [List.mem_cons]
      have := ih hL
      by_cases h : y ≤ x
      · rw [if_pos h, if_pos (by omega)]
        constructor
        · rintro (h1 | h1)
          · exact absurd h1 e
          · have := this.mp h1; omega
        · intro h1; exact .inr (this.mpr (by omega))
      · rw [if_neg h, if_neg (by omega)]
        constructor
        · rintro (h1 | h1)
          · exact absurd h1 e
          · have := this.mp h1; omega
        · intro h1; exact .inr (this.mpr (by omega))
theorem asc_ext {L : List Int} : ∀ {M : List Int}, Asc L → Asc M → (∀ x, x ∈ L ↔ x ∈ M) → L = M := by
  induction L with
  | nil =>
    intro M _ _ h
    cases M with
    | nil => rfl
    | cons y M => exact absurd ((h y).mpr (List.mem_cons_self ..)) (by simp)
  | cons x L ih =>
    intro M ha hb h
    cases M with
    | nil => exact absurd ((h x).mp (List.mem_cons_self ..)) (by simp)
    | cons y M =>
      have ha1 := (List.pairwise_cons.mp ha).1
      have hb1 := (List.pairwise_cons.mp hb).1
      have e : x = y := by
        rcases List.mem_cons.mp ((h x).mp (List.mem_cons_self ..)) with e | e
        · exact e
        · rcases List.mem_cons.mp ((h y).mpr (List.mem_cons_self ..)) with e' | e'
          · exact e'.symm
          · have := hb1 x e; have := ha1 y e'; omega
      subst e
      rw [ih (List.pairwise_cons.mp ha).2 (List.pairwise_cons.mp hb).2 fun z => ?_]
      constructor
      · intro hz
        rcases List.mem_cons.mp ((h z).mp (List.mem_cons_of_mem _ hz)) with e | e
        · subst e; have := ha1 z hz; omega
        · exact e
      · intro hz
        rcases List.mem_cons.mp ((h z).mpr (List.mem_cons_of_mem _ hz)) with e | e
        · subst e; have := hb1 z hz; omega
        · exact e
theorem asc_nodup {L : List Int} (h : Asc L) : L.Nodup := h.imp fun h e => by omega
theorem up_nodup {L : List Int} (h : Up L) (n : L.Nodup) : Asc L := (h.and n).imp fun ⟨a, b⟩ => by omega
theorem kr_notin {L : List Int} (ha : Asc L) (p : Int) : kr L p ∉ L := by
  intro h
  have h1 := (cnt_mem ha).mp h
  have h2 := (gal (p := p) (c := kr L p) ha).mpr (Int.le_refl _)
  have h3 := (gal (p := p) (c := kr L p - 1) ha)
  have : kr L p ≤ kr L p - 1 := h3.mp (by omega)
  omega
theorem cnt_le {L : List Int} (ha : Asc L) (hp : Pos L) {c : Int} (hc : 0 ≤ c) : cnt L c ≤ c := by
  have := cnt_gap (p := 0) (c := c) ha (fun y hy => by have := hp y hy; omega) hc
  omega
/-! ### tables -/
structure Ok (s : Int) (L : List Int) : Prop where
  s0 : 0 ≤ s
  asc : Asc L
  pos : Pos L
theorem Ok.mp_ge {s : Int} {L : List Int} (h : Ok s L) {c : Int} (hc : 0 ≤ c) : s ≤ mp s L c := by
  have := cnt_le h.asc h.pos hc
  unfold mp; omega
theorem Ok.mp_nn {s : Int} {L : List Int} (h : Ok s L) {c : Int} (hc : 0 ≤ c) : 0 ≤ mp s L c := Int.le_trans h.s0 (h.mp_ge hc)
theorem mp_zero {s : Int} {L : List Int} (h : Ok s L) : mp s L 0 = s := by
  unfold mp
  rw [cnt_zero fun x hx => by have := h.pos x hx; omega]
  omega
/-- two tables that map alike are one -/
theorem ok_ext {s t : Int} {L M : List Int} (h : Ok s L) (k : Ok t M) (e : ∀ c, 0 ≤ c → mp s L c = mp t M c) : s = t ∧ L = M := by
  have es : s = t := by
    have := e 0 (Int.le_refl _)
    rwa [mp_zero h, mp_zero k] at this
  refine ⟨es, asc_ext h.asc k.asc fun x => ?_⟩
  subst es
  have ec : ∀ c, 0 ≤ c → cnt L c = cnt M c := fun c hc => by have := e c hc; unfold mp at this; omega
  by_cases hx : 1 ≤ x
  · rw [cnt_mem h.asc, cnt_mem k.asc, ec x (by omega), ec (x - 1) (by omega)]
  · constructor
    · intro z; exact absurd (h.pos x z) hx
    · intro z; exact absurd (k.pos x z) hx
/-- the kept ranks that the second table loses -/
def found (s : Int) (L M : List Int) : List Int := ((M.filter fun r => decide (s < r)).map fun r => r - s).map (kr L)
theorem found_nodup {s : Int} {L M : List Int} (hM : Asc M) : (found s L M).Nodup := by
  unfold found
  have h1 : Asc (M.filter fun r => decide (s < r)) := hM.filter _
  have h2 : Asc ((M.filter fun r => decide (s < r)).map fun r => r - s) := List.pairwise_map.mpr (h1.imp fun h => by omega)
  have h3 : Asc (((M.filter fun r => decide (s < r)).map fun r => r - s).map (kr L)) := List.pairwise_map.mpr (h2.imp fun h => kr_lt h)
  exact asc_nodup h3
theorem found_pos {s : Int} {L M : List Int} : Pos (found s L M) := by
  intro x hx
  unfold found at hx
  obtain ⟨p, hp, rfl⟩ := List.mem_map.mp hx
  obtain ⟨r, hr, rfl⟩ := List.mem_map.mp hp
  have := (List.mem_filter.mp hr).2
  have h1 : s < r := by simpa using this
  have := kr_ge L (r - s)
  omega
theorem cnt_found {s : Int} {L M : List Int} (hL : Asc L) {c : Int} (hc : cnt L c ≤ c) : cnt M (mp s L c) = cnt M s + cnt (found s L M) c := by
  induction M with
  | nil => rfl
  | cons r M ih =>
    unfold found at ih ⊢
    rw [List.filter_cons]
    by_cases h : s < r
    · rw [if_pos (show decide (s < r) = true from decide_eq_true h), List.map_cons, List.map_cons, cnt_cons, cnt_cons, cnt_cons, if_neg (show ¬ r ≤ s by omega), ih]
      have g := gal (p := r - s) (c := c) hL
      by_cases h2 : r ≤ mp s L c
      · have h3 : kr L (r - s) ≤ c := g.mp (by unfold mp at h2; omega)
        rw [if_pos h2, if_pos h3]; omega
      · have h3 : ¬ kr L (r - s) ≤ c := fun z => h2 (by have := g.mpr z; unfold mp; omega)
        rw [if_neg h2, if_neg h3]; omega
    · rw [if_neg (show ¬ decide (s < r) = true by simpa using h), cnt_cons, cnt_cons, ih, if_pos (show r ≤ s by omega), if_pos (show r ≤ mp s L c by unfold mp; omega)]
      omega
/-- the sum of two tables: its start, and lost ranks in ascending order that are those of the first and the found ones -/
theorem ok_add {s t : Int} {L M N : List Int} (h : Ok s L) (k : Ok t M) (p : N.Perm (L ++ found s L M)) (u : Up N) : Ok (mp t M s) N := by
  refine ⟨k.mp_nn h.s0, up_nodup u (p.nodup_iff.mpr ?_), fun x hx => ?_⟩
  · refine List.nodup_append.mpr ⟨asc_nodup h.asc, found_nodup k.asc, fun a ha b hb e => ?_⟩
    subst e
    unfold found at hb
    obtain ⟨q, _, e⟩ := List.mem_map.mp hb
    exact kr_notin h.asc q (e ▸ ha)
  · rcases List.mem_append.mp (p.mem_iff.mp hx) with hx | hx
    · exact h.pos x hx
    · exact found_pos x hx
theorem mp_add {s t : Int} {L M N : List Int} (h : Ok s L) (p : N.Perm (L ++ found s L M)) {c : Int} (hc : 0 ≤ c) : mp (mp t M s) N c = mp t M (mp s L c) := by
  have h1 := cnt_found (s := s) (M := M) h.asc (cnt_le h.asc h.pos hc)
  have h2 := cnt_perm p c
  rw [cnt_append] at h2
  unfold mp at *
  omega
theorem len_add {s : Int} {L M N : List Int} (p : N.Perm (L ++ found s L M)) : (N.length : Int) = L.length + (M.length - cnt M s) := by
  rw [p.length_eq, List.length_append]
  unfold found
  rw [List.length_map, List.length_map]
  have : ∀ M : List Int, (((M.filter fun r => decide (s < r)).length : Nat) : Int) = M.length - cnt M s := by
    intro M
    induction M with
    | nil => rfl
    | cons r M ih =>
      rw [List.filter_cons, cnt_cons]
      by_cases h : s < r
      · rw [if_pos (by simpa using h), if_neg (by omega), List.length_cons, List.length_cons]; omega
      · rw [if_neg (by simpa using h), if_pos (by omega), List.length_cons]; omega
  have := this M
  omega
/-- the least count that becomes at least k -/
def lst (s : Int) (L : List Int) (k : Int) : Int := if k ≤ s then 0 else kr L (k - s)
theorem lst_nn {s : Int} {L : List Int} (k : Int) : 0 ≤ lst s L k := by
  unfold lst
  split
  · exact Int.le_refl _
  · have := kr_ge L (k - s); omega
theorem lst_gal {s : Int} {L : List Int} (h : Ok s L) {k c : Int} (hc : 0 ≤ c) : lst s L k ≤ c ↔ k ≤ mp s L c := by
  unfold lst
  by_cases hk : k ≤ s
  · rw [if_pos hk]
    have := h.mp_ge hc
    omega
  · rw [if_neg hk, ← gal h.asc]
    unfold mp; omega
theorem lst_add {s t : Int} {L M N : List Int} (h : Ok s L) (k : Ok t M) (p : N.Perm (L ++ found s L M)) (u : Up N) (c : Int) : lst (mp t M s) N c = lst s L (lst t M c) := by
  have key : ∀ d, 0 ≤ d → (lst (mp t M s) N c ≤ d ↔ lst s L (lst t M c) ≤ d) := fun d hd => by
    rw [lst_gal (ok_add h k p u) hd, mp_add h p hd, lst_gal h hd, lst_gal k (h.mp_nn hd)]
  have h1 := (key _ (lst_nn (s := mp t M s) (L := N) c)).mp (Int.le_refl _)
  have h2 := (key _ (lst_nn (s := s) (L := L) (lst t M c))).mpr (Int.le_refl _)
  omega
theorem nil_add {t : Int} {M N : List Int} (k : Ok t M) (p : N.Perm (found 0 [] M)) (u : Up N) : mp t M 0 = t ∧ N = M := by
  have h : Ok 0 [] := ⟨Int.le_refl _, List.Pairwise.nil, fun _ h => by cases h⟩
  have k2 := ok_add h k (N := N) (by simpa using p) u
  exact ok_ext k2 k fun c hc => by
    rw [mp_add h (by simpa using p) hc]
    have e : mp 0 [] c = c := by unfold mp; rw [cnt_nil]; omega
    rw [e]
theorem add_nil {s : Int} {L N : List Int} (h : Ok s L) (p : N.Perm (L ++ found s L [])) (u : Up N) : mp 0 [] s = s ∧ N = L := by
  have k : Ok 0 [] := ⟨Int.le_refl _, List.Pairwise.nil, fun _ h => by cases h⟩
  have k2 := ok_add h k p u
  exact ok_ext k2 h fun c hc => by rw [mp_add h p hc]; unfold mp; rw [cnt_nil]; omega
theorem add_assoc {s t u : Int} {L M O N1 N2 R1 R2 : List Int} (h : Ok s L) (k : Ok t M) (l : Ok u O)
    (p1 : N1.Perm (L ++ found s L M)) (u1 : Up N1) (q1 : R1.Perm (N1 ++ found (mp t M s) N1 O)) (v1 : Up R1)
    (p2 : N2.Perm (M ++ found t M O)) (u2 : Up N2) (q2 : R2.Perm (L ++ found s L N2)) (v2 : Up R2) :
    mp u O (mp t M s) = mp (mp u O t) N2 s ∧ R1 = R2 := by
  have a := ok_add h k p1 u1
  have b := ok_add k l p2 u2
  refine ok_ext (ok_add a l q1 v1) (ok_add h b q2 v2) fun c hc => ?_
  rw [mp_add a q1 hc, mp_add h p1 hc, mp_add h q2 hc, mp_add k p2 (h.mp_nn hc)]
end Tbl
namespace Tbl
theorem asc_adj {L : List Int} : Asc L ↔ ∀ i, (h : i + 1 < L.length) → L[i] < L[i + 1] := by
  induction L with
  | nil => simp
  | cons x L ih =>
    rw [Asc, List.pairwise_cons]
    constructor
    · rintro ⟨h1, h2⟩ i h
      cases i with
      | zero => exact h1 _ (List.getElem_mem _)
      | succ i => exact (ih.mp h2) i (by simpa using h)
    · intro h
      have h2 : Asc L := ih.mpr fun i hi => h (i + 1) (by simpa using hi)
      refine ⟨fun y hy => ?_, h2⟩
      cases L with
      | nil => cases hy
      | cons z L =>
        have h0 := h 0 (by simp)
        have h0' : x < z := h0
        rcases List.mem_cons.mp hy with rfl | hy
        · exact h0'
        · have := (List.pairwise_cons.mp h2).1 y hy; omega
end Tbl
namespace Tbl
theorem cnt_split {B : List Int} {c : Int} {k : Nat} (hk : k ≤ B.length) (h1 : ∀ j, (h : j < B.length) → j < k → B[j] ≤ c) (h2 : ∀ j, (h : j < B.length) → k ≤ j → c < B[j]) : cnt B c = k := by
  have e : B = B.take k ++ B.drop k := (List.take_append_drop k B).symm
  rw [e, cnt_append, cnt_all (L := B.take k), cnt_zero (L := B.drop k), List.length_take]
  · omega
  · intro x hx
    obtain ⟨i, hi, rfl⟩ := List.getElem_of_mem hx
    rw [List.getElem_drop]
    exact h2 _ _ (by omega)
  · intro x hx
    obtain ⟨i, hi, rfl⟩ := List.getElem_of_mem hx
    rw [List.getElem_take]
    have hi' : i < k ∧ i < B.length := by rw [List.length_take] at hi; omega
    exact h1 i hi'.2 hi'.1
theorem up_get {B : List Int} (h : Up B) {i j : Nat} (hi : i < B.length) (hj : j < B.length) (hij : i ≤ j) : B[i] ≤ B[j] := by
  rcases Nat.lt_or_ge i j with h1 | h1
  · exact (List.pairwise_iff_getElem.mp h) i j hi hj h1
  · have : i = j := by omega
    subst this
    exact Int.le_refl _
theorem asc_up {L : List Int} (h : Asc L) : Up L := h.imp fun h => by omega
end Tbl

namespace XT
open PySem PySem.Spec PyProof.Rows L2
/-! ### running a sequence on a list -/
def srt (L : List Int) : List Int := L.mergeSort fun a b => decide (a ≤ b)
theorem srt_perm (L : List Int) : (srt L).Perm L := List.mergeSort_perm L _
theorem srt_up (L : List Int) : (srt L).Pairwise (· ≤ ·) := by
  have := List.pairwise_mergeSort (le := fun a b : Int => decide (a ≤ b)) (by simp; omega) (by simp; omega) L
  exact this.imp fun h => by simpa using h
theorem srt_of {N L : List Int} (p : N.Perm L) (u : N.Pairwise (· ≤ ·)) : N = srt L :=
  List.Perm.eq_of_pairwise (le := (· ≤ ·)) (fun a b _ _ h1 h2 => Int.le_antisymm h1 h2) u (srt_up L) (p.trans (srt_perm L).symm)
theorem srt_len (L : List Int) : (srt L).length = L.length := (srt_perm L).length_eq
def stepR (L : List Int) : Stp → Option (List Int)
  | (true, x) => some (srt (L ++ [x]))
  | (false, k) => if (L.length : Int) < k then none else some (L.take (k - 1).toNat ++ L.drop k.toNat)
def runR (L : List Int) (i : Nat) : List Stp → List Int ⊕ Nat
  | [] => .inl L
  | s :: r => match stepR L s with
    | none => .inr i
    | some M => runR M (i + 1) r
theorem runR_step {L M : List Int} {i : Nat} {S : List Stp} {s : Stp} (h : S[i]? = some s) (e : stepR L s = some M) : runR L i (S.drop i) = runR M (i + 1) (S.drop (i + 1)) := by
  obtain ⟨hi, hs⟩ := List.getElem?_eq_some_iff.mp h
  rw [List.drop_eq_getElem_cons hi, hs]
  simp only [runR, e]
theorem runR_fail {L : List Int} {i : Nat} {S : List Stp} {s : Stp} (h : S[i]? = some s) (e : stepR L s = none) : runR L i (S.drop i) = .inr i := by
  obtain ⟨hi, hs⟩ := List.getElem?_eq_some_iff.mp h
  rw [List.drop_eq_getElem_cons hi, hs]
  simp only [runR, e]
theorem stepR_len {L M : List Int} {s : Stp} (e : stepR L s = some M) : M.length ≤ L.length + 1 := by
  obtain ⟨b, k⟩ := s
  cases b with
  | true =>
    have e' : some (srt (L ++ [k])) = some M := e
    cases e'
    rw [srt_len, List.length_append]
    simp
  | false =>
    simp only [stepR] at e
    split at e
    · cases e
    · cases e
      rw [List.length_append, List.length_take, List.length_drop]
      omega
theorem cut_to (n : Nat) (xs : List V) : cutV xs none (some (n : Int)) = xs.take n := by
  unfold cutV
  have e : HT.sIx xs.length xs.length (some (n : Int)) = min n xs.length := HT.sIx_nat xs.length xs.length n
  rw [HT.sIx_none, e]
  simp
  try omega
theorem cut_from (n : Nat) (xs : List V) : cutV xs (some (n : Int)) none = xs.drop n := by
  unfold cutV
  have e : HT.sIx xs.length 0 (some (n : Int)) = min n xs.length := HT.sIx_nat xs.length 0 n
  rw [e, HT.sIx_none]
  by_cases h : n ≤ xs.length
  · rw [Nat.min_eq_left h]
    exact List.take_of_length_le (by simp)
  · have h' : xs.length ≤ n := by omega
    rw [Nat.min_eq_right h', List.drop_eq_nil_of_le h']
    simp
theorem cut_rm {L : List Int} {k : Int} (h : 0 < k) : cutV (L.map V.int) none (some (k - 1)) ++ cutV (L.map V.int) (some k) none = (L.take (k - 1).toNat ++ L.drop k.toNat).map V.int := by
  have e1 : k - 1 = ((k - 1).toNat : Int) := by omega
  have e2 : k = (k.toNat : Int) := by omega
  have h1 := cut_to (k - 1).toNat (L.map V.int)
  have h2 := cut_from k.toNat (L.map V.int)
  rw [← e1] at h1
  rw [← e2] at h2
  rw [h1, h2, List.map_append, List.map_take, List.map_drop]
/-- what comes of it, as data -/
def resD : List Int ⊕ Nat → PyData
  | .inl M => .list [.str "list", .list (M.map PyData.int)]
  | .inr i => .list [.str "failed", .int (i : Int), .bool false]
theorem sh_res (r : List Int ⊕ Nat) : SeqAt.shaped (resD r) = true := by
  cases r with
  | inl M => simp [resD, SeqAt.shaped, PyData.canLay0, PyData.canLayAll0, PyData.depth, PyData.depthAll, canLay_ints, depth_ints, ok_of]
  | inr i => simp [resD, SeqAt.shaped, PyData.canLay0, PyData.canLayAll0, PyData.depth, PyData.depthAll, ok_of]
/-- the list that tells it -/
def ResAt (K : PySem.W.Frag) (H : Hp) (r : Addr) : List Int ⊕ Nat → Prop
  | .inl M => ∃ m, H r = some (.lst [.str "list", .ref m]) ∧ H m = some (.lst (M.map V.int))
  | .inr i => H r = some (.lst [.str "failed", .int (i : Int), .bl false])
theorem ResAt.same {K : PySem.W.Frag} {H H' : Hp} {r : Addr} {v : List Int ⊕ Nat} (h : ResAt K H r v) (e : Same H H') : ResAt K H' r v := by
  cases v with
  | inl M =>
    obtain ⟨m, a, b⟩ := h
    exact ⟨m, e _ _ a, e _ _ b⟩
  | inr i => exact e _ _ h
theorem ResAt.dp {K : PySem.W.Frag} {H : Hp} {r : Addr} {v : List Int ⊕ Nat} (h : ResAt K H r v) : Dp K H (.ref r) (resD v) := by
  cases v with
  | inl M =>
    obtain ⟨m, a, b⟩ := h
    exact .lst (SqL.of a) (.cons (.str _) (.cons (dp_lst (SqL.of b)) .nil))
  | inr i => exact .lst (SqL.of h) (.cons (.str _) (.cons (.int _) (.cons (.bl _) .nil)))
/-! ### a comprehension over a range whose element changes something -/
theorem lcE {lo : Int} {n : Nat} {g : TG} {te : TE} {vs : List Nat} {σ : L2.St} {H1 : Hp} {D : Addr} {Qd : Hp → Prop} (I : Nat → Hp → List V → Prop) (h0 : I 0 (upd H1 D (.lst [])) []) (hn : n ≤ sizeLine)
    (hl : ∀ i H acc, I i H acc → acc.length = i)
    (hs : ∀ i H acc (R : V → Hp → Prop), i < n → I i H acc → (∀ y H', H' D = some (.lst acc) → I (i + 1) (upd H' D (.lst (acc ++ [y]))) (acc ++ [y]) → R y H') → g (.int (lo + (i : Nat))) (wipe σ vs) H fun σ2 H2 => wipe σ2 vs = wipe σ vs ∧ te σ2 H2 R)
    (hd : ∀ H acc, I n H acc → Qd H) :
    ∃ W : Nat → Nat → Hp → Prop, (∃ m, W 0 m (upd H1 D (.lst []))) ∧ ∀ i m H, W i m H →
      ((Itr lo n).stop i H ∧ Qd H) ∨ ((Itr lo n).go i H ∧ ∃ Nx : Hp → Prop, (∀ H', Nx H' → ∃ m', m' < m ∧ W (i + 1) m' H') ∧ ∀ x H', (Itr lo n).yld i H x H' → g x (wipe σ vs) H' fun σ2 H2 => wipe σ2 vs = wipe σ vs ∧ tYes σ2 H2 fun b H3 =>
        if b = true then te σ2 H3 fun y H4 => ∃ acc, H4 D = some (.lst acc) ∧ acc.length < sizeLine ∧ Nx (upd H4 D (.lst (acc ++ [y]))) else Nx H3) := by
  refine ⟨fun i m H => m = n - i ∧ i ≤ n ∧ ∃ acc, I i H acc, ⟨n, by simp, Nat.zero_le _, _, h0⟩, ?_⟩
  rintro i m H ⟨rfl, hi, acc, hI⟩
  by_cases hlt : i < n
  · refine .inr ⟨hlt, fun H' => ∃ acc, I (i + 1) H' acc, fun H' p => ⟨n - (i + 1), by omega, rfl, hlt, p⟩, fun x H' y => ?_⟩
    obtain ⟨e, y⟩ := y
    subst e y
    show g _ _ _ fun σ2 H2 => _ ∧ (if true = true then te σ2 H2 fun y H4 => ∃ acc, H4 D = some (.lst acc) ∧ acc.length < sizeLine ∧ (∃ acc', I (i + 1) (upd H4 D (.lst (acc ++ [y]))) acc') else (∃ acc, I (i + 1) H2 acc))
    simp only [if_true]
    exact hs i _ acc _ hlt hI fun y H' e k => ⟨acc, e, by rw [hl i _ acc hI]; exact Nat.lt_of_lt_of_le hlt hn, _, k⟩
  · have e : i = n := by omega
    subst e
    exact .inl ⟨Nat.le_refl _, hd H acc hI⟩
/-- for i, x in enumerate(t) -/
theorem for_enT {K : PySem.W.Frag} {a : Addr} {xs : List V} {g : TG} {tb : TS} {D : Ends} {σ : L2.St} {H : Hp} (h1 : SqT K H a xs) (Pv : Nat → L2.St → Hp → Prop) (hl : ∀ i σ H, i ≤ xs.length → Pv i σ H → SqT K H a xs) (h0 : Pv 0 σ H)
    (hs : ∀ i x T σ H, i < xs.length → xs[i]? = some x → H T = none → Pv i σ H → g (.ref T) σ (upd H T (.tup [.int (i : Nat), x])) fun σ2 H2 => tb { D with nx := Pv (i + 1), ct := Pv (i + 1), bk := D.nx } σ2 H2) (hd : ∀ σ H, Pv xs.length σ H → D.nx σ H) :
    ∃ W : Nat → Nat → L2.St → Hp → Prop, (∃ m, W 0 m σ H) ∧ ∀ i m σ H, W i m σ H →
      ((IteT K a).stop i H ∧ D.nx σ H) ∨ ((IteT K a).go i H ∧ ∃ N : L2.St → Hp → Prop, (∀ σ' H', N σ' H' → ∃ m', m' < m ∧ W (i + 1) m' σ' H') ∧ ∀ x H', (IteT K a).yld i H x H' → g x σ H' fun σ2 H2 => tb { D with nx := N, ct := N, bk := D.nx } σ2 H2) := by
  refine ⟨fun i m σ H => m = xs.length - i ∧ i ≤ xs.length ∧ Pv i σ H, ⟨xs.length, by simp, Nat.zero_le _, h0⟩, ?_⟩
  rintro i m σ H ⟨rfl, hi, p⟩
  have q := hl i σ H hi p
  by_cases hlt : i < xs.length
  · have e : xs[i]? = some xs[i] := by simp [hlt]
    refine .inr ⟨⟨xs, xs[i], q, e⟩, Pv (i + 1), fun σ' H' p' => ⟨xs.length - (i + 1), by omega, rfl, hlt, p'⟩, fun x H' y => ?_⟩
    obtain ⟨T, x', e1, n, e2, y⟩ := y
    subst e1 e2
    exact hs i x' T σ H hlt (y xs q) n p
  · have e : i = xs.length := by omega
    subst e
    exact .inl ⟨⟨xs, q, Nat.le_refl _⟩, hd σ H p⟩
/-- for i, x in enumerate(l) -/
theorem for_enL {K : PySem.W.Frag} {a : Addr} {xs : List V} {g : TG} {tb : TS} {D : Ends} {σ : L2.St} {H : Hp} (Pv : Nat → L2.St → Hp → Prop) (hl : ∀ i σ H, i ≤ xs.length → Pv i σ H → SqL K H a xs) (h0 : Pv 0 σ H)
    (hs : ∀ i x T σ H, i < xs.length → xs[i]? = some x → H T = none → Pv i σ H → g (.ref T) σ (upd H T (.tup [.int (i : Nat), x])) fun σ2 H2 => tb { D with nx := Pv (i + 1), ct := Pv (i + 1), bk := D.nx } σ2 H2) (hd : ∀ σ H, Pv xs.length σ H → D.nx σ H) :
    ∃ W : Nat → Nat → L2.St → Hp → Prop, (∃ m, W 0 m σ H) ∧ ∀ i m σ H, W i m σ H →
      ((Ite K a).stop i H ∧ D.nx σ H) ∨ ((Ite K a).go i H ∧ ∃ N : L2.St → Hp → Prop, (∀ σ' H', N σ' H' → ∃ m', m' < m ∧ W (i + 1) m' σ' H') ∧ ∀ x H', (Ite K a).yld i H x H' → g x σ H' fun σ2 H2 => tb { D with nx := N, ct := N, bk := D.nx } σ2 H2) := by
  refine ⟨fun i m σ H => m = xs.length - i ∧ i ≤ xs.length ∧ Pv i σ H, ⟨xs.length, by simp, Nat.zero_le _, h0⟩, ?_⟩
  rintro i m σ H ⟨rfl, hi, p⟩
  have q := hl i σ H hi p
  by_cases hlt : i < xs.length
  · have e : xs[i]? = some xs[i] := by simp [hlt]
    refine .inr ⟨⟨xs, xs[i], q, e⟩, Pv (i + 1), fun σ' H' p' => ⟨xs.length - (i + 1), by omega, rfl, hlt, p'⟩, fun x H' y => ?_⟩
    obtain ⟨T, x', e1, n, e2, y⟩ := y
    subst e1 e2
    exact hs i x' T σ H hlt (y xs q) n p
  · have e : i = xs.length := by omega
    subst e
    exact .inl ⟨⟨xs, q, Nat.le_refl _⟩, hd σ H p⟩
end XT

namespace Eff
open Tbl XT
/-! ### the table of a threshold, step by step -/
def insAt (L : List Int) (i : Int) (x : Int) : List Int := L.take i.toNat ++ [x] ++ L.drop i.toNat
def tstep (t : Int) (p : Int × List Int) (s : Stp) : Int × List Int :=
  if s.1 = true then (if s.2 ≤ t then (p.1 + 1, p.2) else p)
  else if s.2 ≤ p.1 then (p.1 - 1, p.2)
  else (p.1, insAt p.2 (kr p.2 (s.2 - p.1) - (s.2 - p.1)) (kr p.2 (s.2 - p.1)))
def tb (t : Int) (S : List Stp) : Int × List Int := S.foldl (tstep t) (0, [])
def smp1 (t : Int) (c : Int) (s : Stp) : Int := if s.1 = true then (if s.2 ≤ t then c + 1 else c) else if s.2 ≤ c then c - 1 else c
def smp (t : Int) (S : List Stp) (c : Int) : Int := S.foldl (smp1 t) c
theorem cnt_notin {L : List Int} {x : Int} (h : x ∉ L) : cnt L x = cnt L (x - 1) := by
  induction L with
  | nil => rfl
  | cons y L ih =>
    have h1 : x ≠ y := fun e => h (e ▸ List.mem_cons_self)
    rw [cnt_cons, cnt_cons, ih fun z => h (List.mem_cons_of_mem _ z)]
    by_cases c : y ≤ x
    · rw [if_pos c, if_pos (by omega)]
    · rw [if_neg c, if_neg (by omega)]
theorem kr_place {L : List Int} (ha : Asc L) (p : Int) : kr L p - p = cnt L (kr L p) := by
  have h1 := (gal (p := p) (c := kr L p) ha).mpr (Int.le_refl _)
  have h2 := cnt_notin (kr_notin ha p)
  have h3 : ¬ p ≤ kr L p - 1 - cnt L (kr L p - 1) := fun h => by
    have := (gal (p := p) (c := kr L p - 1) ha).mp h
    omega
  omega
theorem insAt_perm (L : List Int) (i x : Int) : (insAt L i x).Perm (x :: L) := by
  unfold insAt
  have h : (L.take i.toNat ++ [x] ++ L.drop i.toNat).Perm ([x] ++ (L.take i.toNat ++ L.drop i.toNat)) := by
    rw [List.append_assoc]
    exact List.perm_append_comm_assoc _ _ _
  rw [List.take_append_drop] at h
  exact h
theorem insAt_asc {x : Int} : ∀ {L : List Int}, Asc L → x ∉ L → Asc (insAt L (cnt L x) x)
  | [], _, _ => by simp [insAt]
  | y :: L, ha, hx => by
    have hy := (List.pairwise_cons.mp ha).1
    have hL := (List.pairwise_cons.mp ha).2
    have hxL : x ∉ L := fun z => hx (List.mem_cons_of_mem _ z)
    have hne : x ≠ y := fun e => hx (e ▸ List.mem_cons_self)
    by_cases c : y ≤ x
    · rw [cnt_cons, if_pos c]
      have n0 := cnt_nn L x
      have e : (1 + cnt L x).toNat = (cnt L x).toNat + 1 := by omega
      have e2 : insAt (y :: L) (1 + cnt L x) x = y :: insAt L (cnt L x) x := by
        unfold insAt
        rw [e]
        rfl
      rw [e2]
      refine List.pairwise_cons.mpr ⟨fun z hz => ?_, insAt_asc hL hxL⟩
      rcases List.mem_cons.mp ((insAt_perm L _ x).mem_iff.mp hz) with rfl | hz
      · omega
      · exact hy z hz
    · have e : cnt (y :: L) x = 0 := cnt_zero fun z hz => by
        rcases List.mem_cons.mp hz with rfl | hz
        · omega
        · have := hy z hz; omega
      rw [e]
      show Asc (x :: y :: L)
      refine List.pairwise_cons.mpr ⟨fun z hz => ?_, ha⟩
      rcases List.mem_cons.mp hz with rfl | hz
      · omega
      · have := hy z hz; omega
theorem tstep_ok {t : Int} {p : Int × List Int} {st : Stp} (h : Ok p.1 p.2) (g : goodS st = true) : Ok (tstep t p st).1 (tstep t p st).2 ∧ ∀ c, 0 ≤ c → mp (tstep t p st).1 (tstep t p st).2 c = smp1 t (mp p.1 p.2 c) st := by
  obtain ⟨b, k⟩ := st
  obtain ⟨s, L⟩ := p
  have h : Ok s L := h
  unfold tstep smp1
  cases b with
  | true =>
    simp only [if_true]
    by_cases c : k ≤ t
    · simp only [if_pos c]
      refine ⟨⟨by have := h.s0; omega, h.asc, h.pos⟩, fun c _ => ?_⟩
      unfold mp; omega
    · simp only [if_neg c]
      exact ⟨h, fun _ _ => trivial⟩
  | false =>
    have hk : 0 < k := by simpa [goodS] using g
    simp only [Bool.false_eq_true, if_false]
    by_cases c : k ≤ s
    · simp only [if_pos c]
      refine ⟨⟨by have := h.s0; omega, h.asc, h.pos⟩, fun d hd => ?_⟩
      have := h.mp_ge hd
      rw [if_pos (by omega)]
      unfold mp; omega
    · simp only [if_neg c]
      have hp : 1 ≤ k - s := by omega
      have hr := kr_ge L (k - s)
      have hn := kr_notin h.asc (k - s)
      have hpl := kr_place h.asc (k - s)
      have hg := fun d => gal (p := k - s) (c := d) h.asc
      generalize hr' : kr L (k - s) = r at hr hn hpl hg ⊢
      rw [hpl]
      have pm := insAt_perm L (cnt L r) r
      refine ⟨⟨h.s0, insAt_asc h.asc hn, fun x hx => ?_⟩, fun d hd => ?_⟩
      · rcases List.mem_cons.mp (pm.mem_iff.mp hx) with rfl | hx
        · omega
        · exact h.pos x hx
      · have e := cnt_perm pm d
        rw [cnt_cons] at e
        unfold mp
        rw [e]
        by_cases cc : r ≤ d
        · rw [if_pos cc, if_pos (by have := (hg d).mpr cc; omega)]; omega
        · rw [if_neg cc, if_neg (fun z => cc ((hg d).mp (by omega)))]; omega
theorem fold_ok {t : Int} : ∀ {S : List Stp} {p : Int × List Int}, Ok p.1 p.2 → (∀ s ∈ S, goodS s = true) → Ok (S.foldl (tstep t) p).1 (S.foldl (tstep t) p).2 ∧ ∀ c, 0 ≤ c → mp (S.foldl (tstep t) p).1 (S.foldl (tstep t) p).2 c = S.foldl (smp1 t) (mp p.1 p.2 c)
  | [], p, h, _ => ⟨h, fun _ _ => rfl⟩
  | s :: S, p, h, g => by
    obtain ⟨h1, h2⟩ := tstep_ok (t := t) (st := s) h (g s List.mem_cons_self)
    obtain ⟨h3, h4⟩ := fold_ok (t := t) (S := S) h1 fun x hx => g x (List.mem_cons_of_mem _ hx)
    refine ⟨h3, fun c hc => ?_⟩
    rw [List.foldl_cons, List.foldl_cons, h4 c hc, h2 c hc]
theorem ok0 : Ok 0 [] := ⟨Int.le_refl _, List.Pairwise.nil, fun _ h => by cases h⟩
theorem tb_ok {t : Int} {S : List Stp} (g : ∀ s ∈ S, goodS s = true) : Ok (tb t S).1 (tb t S).2 := (fold_ok (t := t) (p := (0, [])) ok0 g).1
theorem tb_mp {t : Int} {S : List Stp} (g : ∀ s ∈ S, goodS s = true) {c : Int} (hc : 0 ≤ c) : mp (tb t S).1 (tb t S).2 c = smp t S c := by
  have := (fold_ok (t := t) (p := (0, [])) ok0 g).2 c hc
  have e : mp (0, ([] : List Int)).1 (0, ([] : List Int)).2 c = c := by unfold mp; rw [cnt_nil]; omega
  rw [e] at this
  exact this
theorem tb_snoc (t : Int) (S : List Stp) (s : Stp) : tb t (S ++ [s]) = tstep t (tb t S) s := by
  unfold tb
  rw [List.foldl_append]
  rfl
theorem smp_append (t : Int) (S M : List Stp) (c : Int) : smp t (S ++ M) c = smp t M (smp t S c) := by
  unfold smp
  rw [List.foldl_append]
theorem smp_nn {t : Int} : ∀ {S : List Stp} {c : Int}, (∀ s ∈ S, goodS s = true) → 0 ≤ c → 0 ≤ smp t S c
  | [], c, _, h => h
  | (b, k) :: S, c, g, h => by
    show 0 ≤ smp t S (smp1 t c (b, k))
    refine smp_nn (fun s hs => g s (List.mem_cons_of_mem _ hs)) ?_
    have := g _ List.mem_cons_self
    unfold smp1
    cases b with
    | true => simp only [if_true]; split <;> omega
    | false =>
      have hk : 0 < k := by simpa [goodS] using this
      simp only [Bool.false_eq_true, if_false]
      split <;> omega
/-! ### growth -/
def gr1 (t : Int) (s : Stp) : Int := if s.1 = true then (if s.2 ≤ t then 1 else 0) else -1
def gr (t : Int) : List Stp → Int
  | [] => 0
  | s :: S => gr1 t s + gr t S
theorem insAt_len (L : List Int) (i x : Int) : (insAt L i x).length = L.length + 1 := by rw [(insAt_perm L i x).length_eq, List.length_cons]
theorem tstep_gr (t : Int) (p : Int × List Int) (s : Stp) : (tstep t p s).1 - ((tstep t p s).2.length : Int) = p.1 - (p.2.length : Int) + gr1 t s := by
  unfold tstep gr1
  split
  · split
    · simp only; omega
    · omega
  · split
    · simp only; omega
    · simp only [insAt_len]; omega
theorem fold_gr (t : Int) : ∀ (S : List Stp) (p : Int × List Int), (S.foldl (tstep t) p).1 - ((S.foldl (tstep t) p).2.length : Int) = p.1 - (p.2.length : Int) + gr t S
  | [], p => by show _ = _ + 0; rw [Int.add_zero]; rfl
  | s :: S, p => by
    rw [List.foldl_cons, fold_gr t S, tstep_gr]
    show _ = _ + (gr1 t s + gr t S)
    omega
theorem tb_gr (t : Int) (S : List Stp) : (tb t S).1 - ((tb t S).2.length : Int) = gr t S := by
  have := fold_gr t S (0, [])
  simpa [tb] using this
theorem fold_len (t : Int) : ∀ (S : List Stp) (p : Int × List Int), (S.foldl (tstep t) p).2.length ≤ p.2.length + S.length ∧ (S.foldl (tstep t) p).1 ≤ p.1 + S.length
  | [], p => ⟨Nat.le_refl _, by simp⟩
  | s :: S, p => by
    have h := fold_len t S (tstep t p s)
    have h2 : (tstep t p s).2.length ≤ p.2.length + 1 ∧ (tstep t p s).1 ≤ p.1 + 1 := by
      unfold tstep
      split
      · split
        · exact ⟨Nat.le_succ _, Int.le_refl _⟩
        · exact ⟨Nat.le_succ _, by omega⟩
      · split
        · exact ⟨Nat.le_succ _, by simp only; omega⟩
        · exact ⟨by simp only [insAt_len]; omega, by simp only; omega⟩
    rw [List.foldl_cons, List.length_cons]
    omega
theorem tb_len (t : Int) (S : List Stp) : (tb t S).2.length ≤ S.length := by have := (fold_len t S (0, [])).1; simpa [tb] using this
theorem tb_start (t : Int) (S : List Stp) : (tb t S).1 ≤ S.length := by have := (fold_len t S (0, [])).2; simpa [tb] using this
theorem gr_mono {t u : Int} (h : t ≤ u) : ∀ S : List Stp, gr t S ≤ gr u S
  | [] => Int.le_refl _
  | s :: S => by
    have := gr_mono h S
    have : gr1 t s ≤ gr1 u s := by
      unfold gr1
      split
      · split
        · rw [if_pos (by omega)]; exact Int.le_refl _
        · split <;> omega
      · exact Int.le_refl _
    show gr1 t s + gr t S ≤ gr1 u s + gr u S
    omega
theorem gr_lt {t u x : Int} (h : t < x) (h2 : x ≤ u) : ∀ {S : List Stp}, (true, x) ∈ S → gr t S < gr u S
  | s :: S, hm => by
    show gr1 t s + gr t S < gr1 u s + gr u S
    rcases List.mem_cons.mp hm with e | hm
    · subst e
      have := gr_mono (t := t) (u := u) (by omega) S
      have e1 : gr1 t (true, x) = 0 := by unfold gr1; rw [if_pos rfl, if_neg (by show ¬ x ≤ t; omega)]
      have e2 : gr1 u (true, x) = 1 := by unfold gr1; rw [if_pos rfl, if_pos (show x ≤ u by omega)]
      omega
    · have := gr_lt h h2 hm
      have := gr_mono (t := t) (u := u) (by omega) [s]
      have : gr1 t s ≤ gr1 u s := by simpa [gr] using this
      omega
theorem gr_append (t : Int) : ∀ S M : List Stp, gr t (S ++ M) = gr t S + gr t M
  | [], M => by show gr t M = 0 + gr t M; omega
  | s :: S, M => by
    show gr1 t s + gr t (S ++ M) = gr1 t s + gr t S + gr t M
    rw [gr_append t S M]
    omega
/-! ### thresholds between the breaks -/
theorem tb_local {t u : Int} {S : List Stp} (h : ∀ x, (true, x) ∈ S → (x ≤ t ↔ x ≤ u)) : tb t S = tb u S := by
  have : ∀ (S : List Stp) (p : Int × List Int), (∀ x, (true, x) ∈ S → (x ≤ t ↔ x ≤ u)) → S.foldl (tstep t) p = S.foldl (tstep u) p := by
    intro S
    induction S with
    | nil => intro p _; rfl
    | cons s S ih =>
      intro p h
      obtain ⟨b, k⟩ := s
      have e : tstep t p (b, k) = tstep u p (b, k) := by
        unfold tstep
        cases b with
        | true =>
          have := h k List.mem_cons_self
          simp only [if_true]
          by_cases c : k ≤ t
          · rw [if_pos c, if_pos (this.mp c)]
          · rw [if_neg c, if_neg fun z => c (this.mpr z)]
        | false => simp
      rw [List.foldl_cons, List.foldl_cons, e]
      exact ih _ fun x hx => h x (List.mem_cons_of_mem _ hx)
  exact this S _ h
/-- the breaks of a sequence -/
structure Brk (S : List Stp) (B : List Int) : Prop where
  asc : Asc B
  mem : ∀ x, x ∈ B ↔ (true, x) ∈ S
theorem Brk.ext {S : List Stp} {B C : List Int} (h : Brk S B) (k : Brk S C) : B = C := asc_ext h.asc k.asc fun x => by rw [h.mem, k.mem]
def low (B : List Int) : Int := match B with
  | [] => 0
  | b :: _ => b - 1
def thr (B : List Int) : List Int := low B :: B
theorem low_lt {B : List Int} (h : Asc B) : ∀ x ∈ B, low B < x := by
  intro x hx
  cases B with
  | nil => cases hx
  | cons b B =>
    show b - 1 < x
    rcases List.mem_cons.mp hx with rfl | hx
    · omega
    · have := (List.pairwise_cons.mp h).1 x hx; omega
theorem cnt_at {B : List Int} (h : Asc B) : ∀ (t : Int) (j : Nat), cnt B t = (j : Int) + 1 → ∃ b, B[j]? = some b ∧ b ≤ t ∧ ∀ x ∈ B, x ≤ t ↔ x ≤ b := by
  induction B with
  | nil => intro t j e; rw [cnt_nil] at e; omega
  | cons y B ih =>
    intro t j e
    have hy := (List.pairwise_cons.mp h).1
    have hB := (List.pairwise_cons.mp h).2
    rw [cnt_cons] at e
    by_cases c : y ≤ t
    · rw [if_pos c] at e
      cases j with
      | zero =>
        refine ⟨y, rfl, c, fun x hx => ?_⟩
        rcases List.mem_cons.mp hx with rfl | hx
        · constructor <;> intro <;> omega
        · have h1 := hy x hx
          constructor
          · intro h2
            exfalso
            have : (1 : Int) ≤ cnt B t := by
              have h3 := (cnt_mem hB).mp hx
              have h4 := cnt_nn B (x - 1)
              have h5 := cnt_mono B h2
              omega
            omega
          · intro; omega
      | succ j =>
        obtain ⟨b, h1, h2, h3⟩ := ih hB t j (by omega)
        refine ⟨b, by simpa using h1, h2, fun x hx => ?_⟩
        rcases List.mem_cons.mp hx with rfl | hx
        · have := hy b (List.mem_of_getElem? h1)
          constructor <;> intro <;> omega
        · exact h3 x hx
    · rw [if_neg c] at e
      have := cnt_zero (L := B) (c := t) fun z hz => by have := hy z hz; omega
      omega
theorem thr_at {S : List Stp} {B : List Int} (h : Brk S B) (t : Int) : ∃ u, (thr B)[(cnt B t).toNat]? = some u ∧ tb u S = tb t S ∧ gr u S = gr t S := by
  have n0 := cnt_nn B t
  have key : ∀ u, (∀ x ∈ B, x ≤ t ↔ x ≤ u) → tb u S = tb t S ∧ gr u S = gr t S := fun u hu => by
    have e : tb u S = tb t S := tb_local fun x hx => (hu x ((h.mem x).mpr hx)).symm
    exact ⟨e, by rw [← tb_gr u S, ← tb_gr t S, e]⟩
  by_cases e : cnt B t = 0
  · refine ⟨low B, by rw [e]; rfl, key _ fun x hx => ?_⟩
    have h1 := low_lt h.asc x hx
    have h2 : ¬ x ≤ t := fun z => by
      have h3 := (cnt_mem h.asc).mp hx
      have h4 := cnt_nn B (x - 1)
      have h5 := cnt_mono B z
      omega
    constructor <;> intro <;> omega
  · obtain ⟨b, h1, h2, h3⟩ := cnt_at h.asc t ((cnt B t).toNat - 1) (by omega)
    refine ⟨b, ?_, key b h3⟩
    have : (cnt B t).toNat = (cnt B t).toNat - 1 + 1 := by omega
    rw [this]
    simpa [thr] using h1
/-- its tables -/
def tbs (S : List Stp) (B : List Int) : List (Int × List Int) := (thr B).map fun t => tb t S
theorem tbs_at {S : List Stp} {B : List Int} (h : Brk S B) (t : Int) : (tbs S B)[(cnt B t).toNat]? = some (tb t S) := by
  obtain ⟨u, h1, h2, _⟩ := thr_at h t
  unfold tbs
  rw [List.getElem?_map, h1, ← h2]
  rfl
theorem tbs_len (S : List Stp) (B : List Int) : (tbs S B).length = B.length + 1 := by simp [tbs, thr]
theorem brk_iff {S : List Stp} {B : List Int} (h : Brk S B) (b : Int) : b ∈ B ↔ tb b S ≠ tb (b - 1) S := by
  rw [h.mem]
  constructor
  · intro hb e
    have := gr_lt (t := b - 1) (u := b) (by omega) (Int.le_refl _) hb
    rw [← tb_gr b S, ← tb_gr (b - 1) S, e] at this
    omega
  · intro e
    refine Classical.byContradiction fun hb => e (tb_local fun x hx => ?_)
    have : x ≠ b := fun z => hb (z ▸ hx)
    constructor <;> intro <;> omega
/-- effects that have the same tables are one -/
theorem eff_ext {S M : List Stp} {B C : List Int} (h : Brk S B) (k : Brk M C) : (B = C ∧ tbs S B = tbs M C) ↔ ∀ t, tb t S = tb t M := by
  constructor
  · rintro ⟨rfl, e⟩ t
    have h1 := tbs_at h t
    have h2 := tbs_at k t
    rw [e, h2] at h1
    exact (Option.some.inj h1).symm
  · intro e
    have : B = C := asc_ext h.asc k.asc fun x => by rw [brk_iff h, brk_iff k, e, e]
    subst this
    refine ⟨rfl, ?_⟩
    unfold tbs
    exact List.map_congr_left fun t _ => e t
theorem tb_eq_iff {t u : Int} {S M : List Stp} (g : ∀ s ∈ S, goodS s = true) (g2 : ∀ s ∈ M, goodS s = true) : tb t S = tb u M ↔ ∀ c, 0 ≤ c → smp t S c = smp u M c := by
  constructor
  · intro e c hc
    rw [← tb_mp g hc, ← tb_mp g2 hc, e]
  · intro e
    obtain ⟨h1, h2⟩ := ok_ext (tb_ok (t := t) g) (tb_ok (t := u) g2) fun c hc => by rw [tb_mp g hc, tb_mp g2 hc, e c hc]
    exact Prod.ext h1 h2
/-- the sum of two tables -/
theorem tb_add {t : Int} {S M : List Stp} {N : List Int} (g : ∀ s ∈ S, goodS s = true) (g2 : ∀ s ∈ M, goodS s = true) (p : N.Perm ((tb t S).2 ++ found (tb t S).1 (tb t S).2 (tb t M).2)) (u : Up N) :
    (mp (tb t M).1 (tb t M).2 (tb t S).1, N) = tb t (S ++ M) := by
  have g3 : ∀ s ∈ S ++ M, goodS s = true := fun s hs => (List.mem_append.mp hs).elim (g s) (g2 s)
  have o1 := tb_ok (t := t) g
  have o2 := tb_ok (t := t) g2
  obtain ⟨h1, h2⟩ := ok_ext (ok_add o1 o2 p u) (tb_ok (t := t) g3) fun c hc => by
    rw [mp_add o1 p hc, tb_mp g hc, tb_mp g2 (smp_nn g hc), tb_mp g3 hc, smp_append]
  exact Prod.ext h1 h2
/-- neighboring tables differ -/
theorem tbs_adj {S : List Stp} {B : List Int} (h : Brk S B) : ∀ (i : Nat) (p q : Int × List Int), (tbs S B)[i]? = some p → (tbs S B)[i + 1]? = some q → p ≠ q := by
  intro i p q hp hq e
  unfold tbs at hp hq
  rw [List.getElem?_map] at hp hq
  obtain ⟨t, ht, rfl⟩ := Option.map_eq_some_iff.mp hp
  obtain ⟨u, hu, rfl⟩ := Option.map_eq_some_iff.mp hq
  have hu' : B[i]? = some u := by simpa [thr] using hu
  have hum := List.mem_of_getElem? hu'
  have hlt : t < u := by
    cases i with
    | zero =>
      have : low B = t := by simpa [thr] using ht
      rw [← this]
      exact low_lt h.asc u hum
    | succ i =>
      have ht' : B[i]? = some t := by simpa [thr] using ht
      obtain ⟨h1, e1⟩ := List.getElem?_eq_some_iff.mp ht'
      obtain ⟨h2, e2⟩ := List.getElem?_eq_some_iff.mp hu'
      have := (List.pairwise_iff_getElem.mp h.asc) i (i + 1) h1 h2 (by omega)
      omega
  have := gr_lt hlt (Int.le_refl u) ((h.mem u).mp hum)
  rw [← tb_gr t S, ← tb_gr u S, e] at this
  omega
/-! ### runs -/
theorem up_srt (L : List Int) : Up (srt L) := srt_up L
theorem cnt_srt (L : List Int) (t : Int) : cnt (srt L) t = cnt L t := cnt_perm (srt_perm L) t
theorem cnt_rm {N : List Int} (u : Up N) (t : Int) : ∀ j : Nat, j < N.length → cnt (N.take j ++ N.drop (j + 1)) t = cnt N t - (if (j : Int) < cnt N t then 1 else 0) := by
  induction N with
  | nil => intro j h; cases h
  | cons y N ih =>
    intro j h
    have hy := (List.pairwise_cons.mp u).1
    have hN := (List.pairwise_cons.mp u).2
    have n0 := cnt_nn N t
    have hz : ¬ y ≤ t → cnt N t = 0 := fun c => cnt_zero fun z hz => by have := hy z hz; omega
    cases j with
    | zero =>
      show cnt N t = _
      rw [cnt_cons]
      by_cases c : y ≤ t
      · rw [if_pos c, if_pos (by simp only [Int.natCast_zero, Int.ofNat_zero] at *; omega)]; omega
      · rw [if_neg c, hz c]; rfl
    | succ j =>
      have := ih hN j (by simpa using h)
      show cnt (y :: (N.take j ++ N.drop (j + 1))) t = _
      rw [cnt_cons, cnt_cons, this]
      by_cases c : y ≤ t
      · rw [if_pos c]
        by_cases d : (j : Int) < cnt N t
        · rw [if_pos d, if_pos (by omega)]; omega
        · rw [if_neg d, if_neg (by omega)]; omega
      · rw [if_neg c, hz c]
        rw [if_neg (by omega), if_neg (by omega)]
        omega
theorem step_cnt {N M : List Int} {s : Stp} (u : Up N) (g : goodS s = true) (e : stepR N s = some M) : Up M ∧ (∀ t, cnt M t = smp1 t (cnt N t) s) ∧ (M.length : Int) = N.length + (if s.1 = true then 1 else -1) ∧ ∀ x ∈ M, x ∈ N ∨ s = (true, x) := by
  obtain ⟨b, k⟩ := s
  cases b with
  | true =>
    have e' : some (srt (N ++ [k])) = some M := e
    cases e'
    refine ⟨up_srt _, fun t => ?_, ?_, fun x hx => ?_⟩
    · rw [cnt_srt, cnt_append, cnt_cons, cnt_nil]
      unfold smp1
      simp only [if_true]
      split <;> omega
    · rw [srt_len, List.length_append]
      simp
    · rcases List.mem_append.mp ((srt_perm _).mem_iff.mp hx) with h | h
      · exact .inl h
      · rw [List.mem_singleton.mp h]; exact .inr rfl
  | false =>
    have hk : 0 < k := by simpa [goodS] using g
    simp only [stepR] at e
    split at e
    · cases e
    · rename_i hl
      cases e
      have hj : (k - 1).toNat < N.length := by omega
      have ej : k.toNat = (k - 1).toNat + 1 := by omega
      rw [ej]
      refine ⟨?_, fun t => ?_, ?_, fun x hx => .inl ?_⟩
      · refine List.pairwise_append.mpr ⟨u.sublist (List.take_sublist _ _), u.sublist (List.drop_sublist _ _), fun a ha b hb => ?_⟩
        have h1 : a ∈ N.take ((k - 1).toNat + 1) := (List.take_sublist_take_left (by omega)).subset ha
        have h2 := u
        rw [← List.take_append_drop ((k - 1).toNat + 1) N] at h2
        exact (List.pairwise_append.mp h2).2.2 a h1 b hb
      · rw [cnt_rm u t _ hj]
        unfold smp1
        simp only [Bool.false_eq_true, if_false]
        by_cases c : k ≤ cnt N t
        · rw [if_pos c, if_pos (by omega)]
        · rw [if_neg c, if_neg (by omega)]; omega
      · rw [List.length_append, List.length_take, List.length_drop]
        simp
        omega
      · rcases List.mem_append.mp hx with h | h
        · exact List.mem_of_mem_take h
        · exact List.mem_of_mem_drop h
theorem run_cnt : ∀ {S : List Stp} {N M : List Int} {i : Nat}, Up N → (∀ s ∈ S, goodS s = true) → runR N i S = .inl M → Up M ∧ (∀ t, cnt M t = smp t S (cnt N t)) ∧ ∀ x ∈ M, x ∈ N ∨ (true, x) ∈ S
  | [], N, M, i, u, _, e => by
    have e' : (Sum.inl N : List Int ⊕ Nat) = .inl M := e
    cases e'
    exact ⟨u, fun _ => rfl, fun x hx => .inl hx⟩
  | s :: S, N, M, i, u, g, e => by
    simp only [runR] at e
    cases h : stepR N s with
    | none => rw [h] at e; cases e
    | some N1 =>
      rw [h] at e
      obtain ⟨u1, c1, _, m1⟩ := step_cnt u (g s List.mem_cons_self) h
      obtain ⟨u2, c2, m2⟩ := run_cnt u1 (fun x hx => g x (List.mem_cons_of_mem _ hx)) e
      refine ⟨u2, fun t => ?_, fun x hx => ?_⟩
      · rw [c2 t, c1 t]
        rfl
      · rcases m2 x hx with h1 | h1
        · rcases m1 x h1 with h2 | h2
          · exact .inl h2
          · rw [h2]; exact .inr List.mem_cons_self
        · exact .inr (List.mem_cons_of_mem _ h1)
/-- a threshold above all inserted numbers -/
def Top (T : Int) (S : List Stp) : Prop := ∀ x, (true, x) ∈ S → x ≤ T
theorem smp_ge {t : Int} : ∀ (S : List Stp) (c : Int), c + gr t S ≤ smp t S c
  | [], c => by show c + 0 ≤ c; omega
  | (b, k) :: S, c => by
    have := smp_ge (t := t) S (smp1 t c (b, k))
    have h : c + gr1 t (b, k) ≤ smp1 t c (b, k) := by
      unfold gr1 smp1
      cases b with
      | true => simp only [if_true]; split <;> omega
      | false => simp only [Bool.false_eq_true, if_false]; split <;> omega
    show c + (gr1 t (b, k) + gr t S) ≤ smp t S (smp1 t c (b, k))
    omega
theorem run_ok {T : Int} : ∀ {S : List Stp} {N : List Int} {i : Nat}, Up N → (∀ s ∈ S, goodS s = true) → Top T S → ((∃ M, runR N i S = .inl M) ↔ smp T S N.length = N.length + gr T S)
  | [], N, i, _, _, _ => by
    constructor
    · intro _; show (N.length : Int) = N.length + 0; omega
    · intro _; exact ⟨N, rfl⟩
  | (b, k) :: S, N, i, u, g, tp => by
    have gS : ∀ s ∈ S, goodS s = true := fun x hx => g x (List.mem_cons_of_mem _ hx)
    have tS : Top T S := fun x hx => tp x (List.mem_cons_of_mem _ hx)
    show (∃ M, runR N i ((b, k) :: S) = .inl M) ↔ smp T S (smp1 T N.length (b, k)) = N.length + (gr1 T (b, k) + gr T S)
    simp only [runR]
    cases h : stepR N (b, k) with
    | some N1 =>
      obtain ⟨u1, _, l1, _⟩ := step_cnt u (g _ List.mem_cons_self) h
      have ih := run_ok (T := T) (i := i + 1) u1 gS tS
      have e1 : smp1 T N.length (b, k) = N1.length ∧ gr1 T (b, k) = (if b = true then 1 else -1) := by
        unfold smp1 gr1
        cases b with
        | true =>
          have := tp k List.mem_cons_self
          simp only [if_true] at l1 ⊢
          rw [if_pos this, if_pos this]
          omega
        | false =>
          simp only [stepR] at h
          split at h
          · cases h
          · simp only [Bool.false_eq_true, if_false] at l1 ⊢
            rw [if_pos (by omega)]
            constructor <;> first | omega | trivial
      rw [e1.1, e1.2]
      refine ih.trans ?_
      simp only at l1
      rw [l1]
      constructor <;> intro <;> omega
    | none =>
      cases b with
      | true => cases h
      | false =>
        simp only [stepR] at h
        split at h
        · rename_i hl
          have e1 : smp1 T N.length (false, k) = N.length := by
            unfold smp1
            simp only [Bool.false_eq_true, if_false]
            rw [if_neg (by omega)]
          have e2 : gr1 T (false, k) = -1 := by unfold gr1; simp
          rw [e1, e2]
          have := smp_ge (t := T) S N.length
          constructor
          · rintro ⟨M, z⟩; cases z
          · intro; omega
        · cases h
/-- the least length that is enough -/
def needL (L : List Int) : Int := L.getLastD 0
theorem needL_iff {L : List Int} (h : Asc L) (p : Pos L) {n : Int} (n0 : 0 ≤ n) : needL L ≤ n ↔ ∀ x ∈ L, x ≤ n := by
  unfold needL
  cases hL : L.getLast? with
  | none =>
    rw [List.getLast?_eq_none_iff] at hL
    subst hL
    simp
    exact n0
  | some x =>
    have e : L.getLastD 0 = x := by rw [List.getLastD_eq_getLast?, hL]; rfl
    rw [e]
    obtain ⟨M, rfl⟩ := List.getLast?_eq_some_iff.mp hL
    constructor
    · intro hx y hy
      rcases List.mem_append.mp hy with hy | hy
      · have := (List.pairwise_append.mp h).2.2 y hy x (List.mem_singleton.mpr rfl); omega
      · rw [List.mem_singleton.mp hy]; exact hx
    · intro hall; exact hall x (List.mem_append.mpr (.inr (List.mem_singleton.mpr rfl)))
theorem needL_nn {L : List Int} (p : Pos L) : 0 ≤ needL L := by
  unfold needL
  cases hL : L.getLast? with
  | none => rw [List.getLast?_eq_none_iff] at hL; subst hL; simp
  | some x =>
    have e : L.getLastD 0 = x := by rw [List.getLastD_eq_getLast?, hL]; rfl
    rw [e]
    have := p x (List.mem_of_getLast? hL)
    omega
theorem cnt_full {L : List Int} {n : Int} : cnt L n = L.length ↔ ∀ x ∈ L, x ≤ n := by
  constructor
  · intro e
    induction L with
    | nil => intro x hx; cases hx
    | cons y L ih =>
      rw [cnt_cons, List.length_cons] at e
      have := cnt_le_len L n
      intro x hx
      by_cases c : y ≤ n
      · rw [if_pos c] at e
        rcases List.mem_cons.mp hx with rfl | hx
        · exact c
        · exact ih (by omega) x hx
      · rw [if_neg c] at e
        omega
  · exact cnt_all
theorem run_need {T : Int} {S : List Stp} {N : List Int} {i : Nat} (u : Up N) (g : ∀ s ∈ S, goodS s = true) (tp : Top T S) : (∃ M, runR N i S = .inl M) ↔ needL (tb T S).2 ≤ N.length := by
  have o := tb_ok (t := T) g
  rw [run_ok u g tp, needL_iff o.asc o.pos (Int.natCast_nonneg _), ← cnt_full, ← tb_mp g (Int.natCast_nonneg _), ← tb_gr]
  unfold mp
  constructor <;> intro <;> omega
/-! ### lists by their counts -/
theorem up_ext {L : List Int} : ∀ {M : List Int}, Up L → Up M → (∀ t, cnt L t = cnt M t) → L = M := by
  intro M hL hM e
  have c : ∀ (x : Int) (L : List Int), (L.count x : Int) = cnt L x - cnt L (x - 1) := by
    intro x L
    induction L with
    | nil => rfl
    | cons y L ih =>
      rw [cnt_cons, cnt_cons, List.count_cons]
      by_cases h : y = x
      · subst h
        rw [if_pos (show y ≤ y from Int.le_refl _), if_neg (show ¬ y ≤ y - 1 by omega), if_pos (show (y == y) = true by simp)]
        omega
      · rw [if_neg (show ¬ (y == x) = true by simpa using h)]
        by_cases h2 : y ≤ x
        · rw [if_pos h2, if_pos (show y ≤ x - 1 by omega)]
          omega
        · rw [if_neg h2, if_neg (show ¬ y ≤ x - 1 by omega)]
          omega
  have p : L.Perm M := List.perm_iff_count.mpr fun x => by
    have h1 := c x L
    have h2 := c x M
    rw [e x, e (x - 1)] at h1
    omega
  exact p.eq_of_pairwise (le := (· ≤ ·)) (fun a b _ _ h1 h2 => Int.le_antisymm h1 h2) hL hM
theorem up_split {v : Int} : ∀ {M : List Int}, Up M → (∀ x ∈ M, v ≤ x) → ∃ M', M = List.replicate (cnt M v).toNat v ++ M' ∧ Up M' ∧ ∀ x ∈ M', v < x
  | [], _, _ => ⟨[], rfl, List.Pairwise.nil, fun _ h => by cases h⟩
  | y :: M, u, h => by
    have hy := (List.pairwise_cons.mp u).1
    have hM := (List.pairwise_cons.mp u).2
    have h1 := h y List.mem_cons_self
    by_cases c : y ≤ v
    · have e : y = v := by omega
      subst e
      obtain ⟨M', e1, u1, g1⟩ := up_split hM fun x hx => hy x hx
      refine ⟨M', ?_, u1, g1⟩
      rw [cnt_cons, if_pos (Int.le_refl _)]
      have n0 := cnt_nn M y
      have e2 : (1 + cnt M y).toNat = (cnt M y).toNat + 1 := by omega
      rw [e2, List.replicate_succ, List.cons_append, ← e1]
    · refine ⟨y :: M, ?_, u, fun x hx => ?_⟩
      · have : cnt (y :: M) v = 0 := cnt_zero fun x hx => by
          rcases List.mem_cons.mp hx with rfl | hx
          · omega
          · have := hy x hx; omega
        rw [this]
        rfl
      · rcases List.mem_cons.mp hx with rfl | hx
        · omega
        · have := hy x hx; omega
/-- what spread makes -/
def spr (b : Int) : List (Int × Int) → List Int
  | [] => []
  | (v, f) :: V => List.replicate (f - b).toNat v ++ spr f V
theorem spr_run {V : List Int} : ∀ {M : List Int} {b : Int} {f : Int → Int}, Asc V → Up M → (∀ x ∈ M, x ∈ V) → (∀ v ∈ V, f v = b + cnt M v) → spr b (V.map fun v => (v, f v)) = M := by
  induction V with
  | nil =>
    intro M b f _ _ h _
    cases M with
    | nil => rfl
    | cons x M => exact absurd (h x List.mem_cons_self) (by simp)
  | cons v V ih =>
    intro M b f ha u h hf
    have hv := (List.pairwise_cons.mp ha).1
    have hV := (List.pairwise_cons.mp ha).2
    obtain ⟨M', e, u', g'⟩ := up_split (v := v) u fun x hx => by
      rcases List.mem_cons.mp (h x hx) with rfl | hx
      · exact Int.le_refl _
      · have := hv x hx; omega
    have n0 := cnt_nn M v
    have h1 := hf v List.mem_cons_self
    show List.replicate (f v - b).toNat v ++ spr (f v) (V.map fun v => (v, f v)) = M
    have e1 : (f v - b).toNat = (cnt M v).toNat := by omega
    rw [e1, ih (M := M') hV u' (fun x hx => ?_) (fun w hw => ?_), ← e]
    · have hx2 : x ∈ M := by rw [e]; exact List.mem_append.mpr (.inr hx)
      rcases List.mem_cons.mp (h x hx2) with rfl | h3
      · have := g' x hx; omega
      · exact h3
    · rw [hf w (List.mem_cons_of_mem _ hw), h1]
      have hw2 := hv w hw
      have e2 : cnt M w = cnt M v + cnt M' w := by
        have h3 := congrArg (fun L => cnt L w) e
        simp only [cnt_append] at h3
        rw [h3, cnt_all (L := List.replicate (cnt M v).toNat v) fun x hx => by rw [List.eq_of_mem_replicate hx]; omega, List.length_replicate]
        omega
      omega
theorem spr_len : ∀ (V : List (Int × Int)) (b : Int) (m : Int), b ≤ m → (V.map (·.2)).Pairwise (· ≤ ·) → (∀ p ∈ V, b ≤ p.2 ∧ p.2 ≤ m) → ((spr b V).length : Int) ≤ m - b
  | [], b, m, h, _, _ => by show ((0 : Nat) : Int) ≤ m - b; omega
  | (v, f) :: V, b, m, h, u, k => by
    have hf := k (v, f) List.mem_cons_self
    rw [List.map_cons] at u
    have hu := List.pairwise_cons.mp u
    have := spr_len V f m hf.2 hu.2 fun p hp => ⟨hu.1 p.2 (List.mem_map.mpr ⟨p, hp, rfl⟩), (k p (List.mem_cons_of_mem _ hp)).2⟩
    show ((List.replicate (f - b).toNat v ++ spr f V).length : Int) ≤ m - b
    rw [List.length_append, List.length_replicate]
    simp only at hf
    omega
/-! ### shifted -/
def shf (o : Int) (S : List Stp) : List Stp := S.map fun s => if s.1 = true then (true, s.2 + o) else s
theorem tb_shf (o t : Int) (S : List Stp) : tb (t + o) (shf o S) = tb t S := by
  have : ∀ (S : List Stp) (p : Int × List Int), (shf o S).foldl (tstep (t + o)) p = S.foldl (tstep t) p := by
    intro S
    induction S with
    | nil => intro p; rfl
    | cons s S ih =>
      intro p
      show (shf o S).foldl (tstep (t + o)) (tstep (t + o) p (if s.1 = true then (true, s.2 + o) else s)) = _
      rw [ih, List.foldl_cons]
      congr 1
      obtain ⟨b, k⟩ := s
      unfold tstep
      cases b with
      | true =>
        simp only [if_true]
        by_cases c : k ≤ t
        · rw [if_pos c, if_pos (by omega)]
        · rw [if_neg c, if_neg (by omega)]
      | false => simp
  exact this S _
theorem good_shf {o : Int} {S : List Stp} (g : ∀ s ∈ S, goodS s = true) : ∀ s ∈ shf o S, goodS s = true := by
  intro s hs
  obtain ⟨x, hx, rfl⟩ := List.mem_map.mp hs
  have := g x hx
  split
  · rfl
  · exact this
end Eff
namespace Eff
open Tbl XT
/-- a threshold above all numbers of the steps -/
def topOf (S : List Stp) : Int := S.foldr (fun s m => max s.2 m) 0
theorem top_ge : ∀ {S : List Stp} {s : Stp}, s ∈ S → s.2 ≤ topOf S
  | x :: S, s, h => by
    show s.2 ≤ max x.2 (topOf S)
    rcases List.mem_cons.mp h with rfl | h
    · exact Int.le_max_left _ _
    · exact Int.le_trans (top_ge h) (Int.le_max_right _ _)
theorem top_top (S : List Stp) : Top (topOf S) S := fun x hx => top_ge hx
def need (S : List Stp) : Int := needL (tb (topOf S) S).2
def grow (S : List Stp) : Int := gr (topOf S) S
theorem tb_top {T : Int} {S : List Stp} (h : Top T S) : tb T S = tb (topOf S) S := tb_local fun x hx => by
  have h1 := h x hx
  have h2 := top_top S x hx
  constructor <;> intro <;> omega
theorem gr_top {T : Int} {S : List Stp} (h : Top T S) : gr T S = grow S := by
  unfold grow
  rw [← tb_gr T S, ← tb_gr (topOf S) S, tb_top h]
theorem tbs_last {S : List Stp} {B : List Int} (h : Brk S B) : (tbs S B)[B.length]? = some (tb (topOf S) S) := by
  have h1 := tbs_at h (topOf S)
  have h2 : cnt B (topOf S) = B.length := cnt_all fun x hx => top_top S x ((h.mem x).mp hx)
  rw [h2, Int.toNat_natCast] at h1
  exact h1
theorem need_nn {S : List Stp} (g : ∀ s ∈ S, goodS s = true) : 0 ≤ need S := needL_nn (tb_ok g).pos
theorem run_iff {S : List Stp} {N : List Int} {i : Nat} (u : Up N) (g : ∀ s ∈ S, goodS s = true) : (∃ M, runR N i S = .inl M) ↔ need S ≤ N.length := run_need u g (top_top S)
theorem brk_nil : Brk [] [] := ⟨List.Pairwise.nil, fun x => by simp⟩
/-- the inserted numbers -/
def ins (S : List Stp) : List Int := S.filterMap fun s => if s.1 = true then some s.2 else none
theorem mem_ins {S : List Stp} {x : Int} : x ∈ ins S ↔ (true, x) ∈ S := by
  unfold ins
  rw [List.mem_filterMap]
  constructor
  · rintro ⟨⟨b, k⟩, h, e⟩
    cases b with
    | true => simp at e; subst e; exact h
    | false => simp at e
  · intro h
    exact ⟨(true, x), h, by simp⟩
theorem ins_len (S : List Stp) : (ins S).length ≤ S.length := List.length_filterMap_le _ _
theorem all_eq_iff {S M : List Stp} {B : List Int} : ((List.range (tbs S B).length).all fun i => decide ((tbs S B)[i]? = (tbs M B)[i]?)) = true ↔ tbs S B = tbs M B := by
  rw [List.all_eq_true]
  constructor
  · intro h
    apply List.ext_getElem?
    intro i
    by_cases hi : i < (tbs S B).length
    · exact of_decide_eq_true (h i (List.mem_range.mpr hi))
    · rw [List.getElem?_eq_none (by omega), List.getElem?_eq_none (by rw [tbs_len] at hi ⊢; omega)]
  · intro e i _
    rw [e]
    exact decide_eq_true rfl
end Eff

namespace XT
open PySem PySem.SeqAt
open AutoSeq1 (wpAny_loadPart')
open MeetsSeq MeetsSeq2 MeetsSeq3 SeqRoads2
section
variable {prog : Program} {w : World} {A : Around} {R : Result → Shared → Prop}
/-- == of two tuples of one length, pair by pair, whatever a pair answers -/
theorem tup_eqB (l b : Addr) (xs ys : Array Value) (n m : Nat) (d1 d2 : Option Addr) (s1 s2 : Array (Option Value)) (hsz : xs.size = ys.size) (I : Shared → Prop) (e : Nat → Bool)
    (turn : ∀ i (h1 : i < xs.size) (h2 : i < ys.size) s, I s → wpAny (model prog w) A.in1 (eqBool xs[i] ys[i]) (fun r s' => r = e i ∧ I s') (fun x s' => R (.error x) s') s)
    (fin : ∀ s, I s → R (.ok (.ret (.bool ((List.range xs.size).all e)))) s) {s : Shared} (hl : s.heap.get? l = some { cls := .type "tuple", dict := d1, data := .seq xs n, slots := s1 })
    (hb : s.heap.get? b = some { cls := .type "tuple", dict := d2, data := .seq ys m, slots := s2 }) (h : I s) :
    wpAny (model prog w) A.in1 (Builtin.«tuple.__eq__» ⟨[.ref l, .ref b], []⟩) (GQ.FinOf prog w A R) (fun x s' => R (.error x) s') s := by
  have f2 := AutoSeq1.sub_tuple_tuple
  have hZ : (xs.toList.zip ys.toList).length = xs.size := by simp [hsz]
  have hI0 := h
  obtain ⟨hp, g, d, tk, os⟩ := s
  wp_walk using wpAny_loadPart' hl, wpAny_loadPart' hb, wpAny_forIn_list _ (fun rest b s' => b.1 = none ∧ ∃ i, rest = (xs.toList.zip ys.toList).drop i ∧ i ≤ xs.size ∧ (∀ j, j < i → e j = true) ∧ I s') _
  case turn =>
    rintro ⟨y, x⟩ rest b s' ⟨hb', i, hz, hi, hj, hI⟩
    have hlt : i < (xs.toList.zip ys.toList).length := by
      refine Nat.lt_of_not_le fun h' => ?_
      rw [List.drop_of_length_le h'] at hz
      cases hz
    have h1 : i < xs.size := by omega
    have h2 : i < ys.size := by omega
    rw [List.drop_eq_getElem_cons hlt] at hz
    injection hz with hyx hrest
    have hy : y = xs[i] := by have := congrArg Prod.fst hyx; simpa using this
    have hx : x = ys[i] := by have := congrArg Prod.snd hyx; simpa using this
    subst hy hx
    refine wpAny_bind (wpAny_mono (turn i h1 h2 s' hI) (fun r s2 q => ?_) fun _ _ z => z)
    obtain ⟨hr, q2⟩ := q
    subst hr
    cases he : e i with
    | true =>
      wp_walk
      refine ⟨rfl, i + 1, hrest, h1, fun j hj' => ?_, q2⟩
      by_cases c : j = i
      · rw [c]; exact he
      · exact hj j (by omega)
    | false =>
      have hf : ((List.range xs.size).all e) = false := by
        rw [List.all_eq_false]
        exact ⟨i, List.mem_range.mpr h1, by rw [he]; decide⟩
      have hR := fin s2 q2
      rw [hf] at hR
      wp_walk
      exact hR
  case fin =>
    rintro ⟨b1, b2⟩ s' ⟨hb', i, hz, hi, hj, hI⟩
    simp only at hb'
    subst hb'
    have hge : xs.size ≤ i := by
      refine Nat.le_of_not_lt fun h' => ?_
      rw [List.drop_eq_getElem_cons (by omega)] at hz
      cases hz
    have ha : ((List.range xs.size).all e) = true := by
      rw [List.all_eq_true]
      intro j hj'
      exact hj j (by have := List.mem_range.mp hj'; omega)
    have hR := fin s' hI
    rw [ha] at hR
    wp_walk
    simpa [Builtin.Tuple.tupleCompareSizes, hsz] using hR
  case h =>
    exact ⟨rfl, 0, rfl, Nat.zero_le _, (fun j hj => by omega), hI0⟩
end
section
variable {prog : Program} {w : World} {A : Around} {E : Value → Shared → Prop} {s : Shared}
theorem rc_tupB {l b : Addr} {xs ys : Array Value} {Q : Value → Shared → Prop} (hsz : xs.size = ys.size) (hu : A.units < cLine) (I : Shared → Prop) (e : Nat → Bool) (hl : s.heap.IsTuple l xs) (hb : s.heap.IsTuple b ys)
    (turn : ∀ i (h1 : i < xs.size) (h2 : i < ys.size) s, I s → wpAny (model prog w) A.in1 (eqBool xs[i] ys[i]) (fun r s' => r = e i ∧ I s') E s)
    (fin : ∀ s, I s → Q (.bool ((List.range xs.size).all e)) s) (h : I s) : wpAny (model prog w) A (richCompare .Eq (.ref l) (.ref b)) Q E s := by
  obtain ⟨⟨c1, d1, w1, k1⟩, ho, hc, n, hd⟩ := id hl
  obtain ⟨⟨c2, d2, w2, k2⟩, ho2, hc2, m, hd2⟩ := id hb
  simp only at hc hd hc2 hd2
  subst hc hd hc2 hd2
  refine wpAny_richCompare_same_room (op := .Eq) ⟨_, ho, rfl⟩ ⟨_, ho2, rfl⟩ F.slot_tuple_eq (GQ.call_here F.slot_tuple_eq ⟨_, ho, rfl⟩ F.entry_tuple_eq (F.args_tuple_eq_2 _ _) ?_) hu
  exact tup_eqB (R := wants (fun v s' => v ≠ .notImplemented ∧ Q v s') E) l b xs ys n m d1 d2 k1 k2 hsz I e turn (fun s' q => ⟨(fun x => nomatch x), fin s' q⟩) ho ho2 h
end
end XT
namespace XT
open PySem PySem.Spec PyProof.Rows L2
/-- how == answers, by the abstract heap -/
abbrev EqvB := V → V → Hp → Bool → Prop
def MonB (D : EqvB) : Prop := ∀ x y H H' b, L2.Ext H H' → D x y H b → D x y H' b
def EqB (X : Cx) (n : Nat) (D : EqvB) : Prop :=
  ∀ (A : Around) (pins : List (Addr × Obj)) (s : Shared) (σ : L2.St) (H : Hp) (x y : V) (u v : Value) (b : Bool), L2.Sub X n A → Inv X pins σ H s → RelV x u → RelV y v → D x y H b →
    wpAny (model X.prog X.w) A (eqBool u v) (fun r s' => r = b ∧ ∃ H', Inv X pins σ H' s' ∧ L2.Ext H H') X.xe s
def RcB (X : Cx) (n : Nat) (D : EqvB) : Prop :=
  ∀ (A : Around) (pins : List (Addr × Obj)) (s : Shared) (σ : L2.St) (H : Hp) (x y : V) (u v : Value) (b : Bool), L2.Sub X n A → Inv X pins σ H s → RelV x u → RelV y v → D x y H b →
    wpAny (model X.prog X.w) A (richCompare .Eq u v) (fun r s' => r = .bool b ∧ ∃ H', Inv X pins σ H' s' ∧ L2.Ext H H') X.xe s
section
variable {X : Cx} {n : Nat} {D : EqvB}
def DTupB (K : PySem.W.Frag) (D : EqvB) : EqvB := fun x y H b => ∃ a c xs ys, ∃ e : Nat → Bool, x = .ref a ∧ y = .ref c ∧ SqT K H a xs ∧ SqT K H c ys ∧ xs.length = ys.length ∧ (∀ (i : Nat) x y, xs[i]? = some x → ys[i]? = some y → D x y H (e i)) ∧ b = (List.range xs.length).all e
theorem rcB_tup (hD : MonB D) (h : EqB X n D) : RcB X (n + 1) (DTupB X.K D) := by
  intro A pins s σ H x y u v b sb I rx ry d
  obtain ⟨a, c, xs, ys, e, rfl, rfl, ha, hb, hlen, hp, rfl⟩ := d
  cases rx
  cases ry
  obtain ⟨its, r, e1, z⟩ := I.tuple ha
  obtain ⟨its2, r2, e2, z2⟩ := I.tuple hb
  have hsz : its.toArray.size = its2.toArray.size := by rw [List.size_toArray, List.size_toArray, ← r.length, ← r2.length]; exact hlen
  refine rc_tupB hsz sb.room.units0 (fun s' => LoopI X pins σ H s') e e1 e2 (fun i h1 h2 s' q => ?_) (fun s' q => ⟨by rw [List.size_toArray, ← r.length], q⟩) ⟨H, I, L2.Ext.rfl'⟩
  obtain ⟨H1, I1, x1⟩ := q
  have h1' : i < its.length := by simpa using h1
  have h2' : i < its2.length := by simpa using h2
  have k1 : i < xs.length := by rw [r.length]; exact h1'
  have k2 : i < ys.length := by rw [← hlen]; exact k1
  obtain ⟨u, hu, ru⟩ := r.get (List.getElem?_eq_getElem k1)
  obtain ⟨v, hv, rv⟩ := r2.get (List.getElem?_eq_getElem k2)
  have g1 : u = its.toArray[i] := by
    rw [List.getElem?_eq_getElem h1'] at hu
    simpa using (Option.some.inj hu).symm
  have g2 : v = its2.toArray[i] := by
    rw [List.getElem?_eq_getElem h2'] at hv
    simpa using (Option.some.inj hv).symm
  subst g1 g2
  refine wpAny_mono (h A.in1 pins s' σ H1 _ _ _ _ (e i) sb.in1 I1 ru rv (hD _ _ _ _ _ x1 (hp i _ _ (List.getElem?_eq_getElem k1) (List.getElem?_eq_getElem k2)))) (fun r s2 q => ?_) fun _ _ z => z
  obtain ⟨hr, H2, I2, x2⟩ := q
  exact ⟨hr, H2, I2, x1.trans x2⟩
theorem RcB.eqB (h : RcB X n D) (hr : ∀ x y H b, D x y H b → ∃ a c, x = .ref a ∧ y = .ref c) (hid : ∀ pins s σ H a b, Inv X pins σ H s → D (.ref a) (.ref a) H b → b = true) : EqB X n D := by
  intro A pins s σ H x y u v b sb I rx ry d
  obtain ⟨a, c, rfl, rfl⟩ := hr _ _ _ _ d
  cases rx
  cases ry
  by_cases hab : a = c
  · subst hab
    rw [hid _ _ _ _ _ _ I d]
    exact SeqAt.EqAt.same (A := A) (s := s) (.ref a) X.prog X.w X.xe _ ⟨rfl, H, I, L2.Ext.rfl'⟩
  · refine GQ.eqBool_refG hab (wpAny_mono (h A pins s σ H (.ref a) (.ref c) _ _ b sb I rfl rfl d) (fun r s' q => ?_) fun _ _ z => z)
    obtain ⟨hr', q⟩ := q
    exact ⟨b, hr', rfl, q⟩
theorem seqT_inj {pins : List (Addr × Obj)} {s : Shared} {σ : L2.St} {H : Hp} {a : Addr} {L M : List Int} (I : Inv X pins σ H s) (h : SqT X.K H a (L.map V.int)) (k : SqT X.K H a (M.map V.int)) : L = M := by
  obtain ⟨its, r, e, _⟩ := I.tuple h
  obtain ⟨its2, r2, e2, _⟩ := I.tuple k
  obtain ⟨o, ho, _, n, hd⟩ := e
  obtain ⟨o2, ho2, _, n2, hd2⟩ := e2
  have eo : o = o2 := Option.some.inj (ho.symm.trans ho2)
  subst eo
  rw [hd] at hd2
  have ei : its = its2 := by
    injection hd2 with q _
    simpa using q
  subst ei
  rw [← SrtO.iv_ints r.ints, ← SrtO.iv_ints r2.ints]
/-- by an own __eq__ -/
theorem rcB_own {CX : CXT} {C f : Addr} {sp : Sp} {E : XK} (F : FnR X.prog X.w X.K X.mg X.base CX n f sp) (hs : PySem.W.findIn X.K (.ref C) "__eq__" = some (some (.ref f))) (hf : PySem.W.isFn X.K (.ref f) = true) (hx : Passes CX X E)
    (hD : ∀ x y H b, D x y H b → ∃ a c, x = .ref a ∧ y = .ref c ∧ InsA H a C ∧ InsA H c C ∧ sp [x, y] H (fun z H' => z = .bl b ∧ L2.Ext H H') E) : RcB X n D := by
  intro A pins s σ H x y u v b sb I rx ry d
  obtain ⟨a, c, rfl, rfl, ha, hc, hsp⟩ := hD _ _ _ _ d
  cases rx
  cases ry
  obtain ⟨ox, od, J⟩ := insA_at I ha
  obtain ⟨oy, oe, J'⟩ := insA_at I hc
  obtain ⟨m, hF⟩ := I.fr
  refine PySem.W.cmp_K (op := .Eq) (tb := .ref C) sb.room.units0 hF I.ok.mod.kin J J'.type (by simp [PySem.W.notFirst]) hs hf ?_
  have e0 : Env0 X.prog X.w X.K X.mg X.base A X.stack s H := by
    have e := I.env0
    exact ⟨by rw [sb.fr]; exact e.frames, e.mod, e.bs, e.bsz, e.funs, e.frf, e.hok, e.bare⟩
  refine wpAny_mono (wpAny_call (SlX.run_at (us := [.ref a, .ref c]) (ws := [.ref a, .ref c]) F sb.room e0 hx I (.cons rfl (.cons rfl .nil)) hsp)) (fun w s' z => ?_) fun _ _ x => x
  obtain ⟨z', H', I', rz, ez, ex⟩ := z
  subst ez
  cases (show w = Value.bool b from rz)
  exact ⟨rfl, H', I', ex⟩
/-- x == y as an expression -/
def rEqB (D : EqvB) : R2 := fun x y H Q => ∃ b, D x y H b ∧ ∀ H', L2.Ext H H' → Q (.bl b) H'
theorem op_eqB (h : RcB X n D) (hr : Room n X.A) : OpR X (compareOp .Eq) (rEqB D) := by
  intro pins s σ H x y v u Q I rx ry hq
  obtain ⟨b, d, q⟩ := hq
  show wpAny (model X.prog X.w) X.A (richCompare .Eq v u) (EP X pins σ Q) X.xe s
  refine wpAny_mono (h X.A pins s σ H x y v u b ⟨hr, rfl⟩ I rx ry d) (fun r s' z => ?_) fun _ _ x => x
  obtain ⟨hr', H', I', e⟩ := z
  subst hr'
  exact ⟨.bl b, H', I', rfl, q H' e⟩
end
end XT

namespace XT
open PySem PySem.SeqAt
open AutoSeq1 (wpAny_loadPart')
open MeetsSeq MeetsSeq2 MeetsSeq3 SeqRoads2
section
variable {prog : Program} {w : World} {A : Around} {R : Result → Shared → Prop}
/-- at each turn the two lists are read anew -/
def LstB (prog : Program) (w : World) (A : Around) (E : Value → Shared → Prop) (l b : Addr) (N : Nat) (I : Shared → Prop) (e : Nat → Bool) : Prop :=
  ∀ s, I s → ∃ (xs ys : Array Value) (n m : Nat), s.heap.get? l = some { cls := .type "list", data := .seq xs n } ∧ s.heap.get? b = some { cls := .type "list", data := .seq ys m } ∧ xs.size = N ∧ ys.size = N ∧
    ∀ i (h1 : i < xs.size) (h2 : i < ys.size), wpAny (model prog w) A.in1 (eqBool xs[i] ys[i]) (fun r s' => r = e i ∧ I s') E s
theorem loopEqB (l b : Addr) (N : Nat) (I : Shared → Prop) (e : Nat → Bool) (hl : LstB prog w A (fun x s' => R (.error x) s') l b N I e) (fin : ∀ s, I s → R (.ok (.ret (.bool (((List.range N).all e))))) s) (k : Nat) :
    ∀ i : Nat, N - i = k → i ≤ N → (∀ j, j < i → e j = true) → ∀ s, I s →
      wpAny (model prog w) A.in1 (Builtin.«list.__eq__.loop» ⟨[.ref l, .ref b, rawInt i, rawInt 2], []⟩) (GQ.FinOf prog w A R) (fun x s' => R (.error x) s') s := by
  induction k with
  | zero =>
    intro i hk hi hj s h
    obtain ⟨xs, ys, n, m, g1, g2, z1, z2, _⟩ := hl _ h
    have ha : ((List.range N).all e) = true := by
      rw [List.all_eq_true]
      intro j hj'
      exact hj j (by have := List.mem_range.mp hj'; omega)
    have hR := fin s h
    rw [ha] at hR
    obtain ⟨hp, g, d, tk, os⟩ := s
    wp_walk using wpAny_loadPart' g1, wpAny_loadPart' g2
    have q1 : xs[((i : Nat) : Int).toNat]? = none := by simp; omega
    have q2 : ys[((i : Nat) : Int).toNat]? = none := by simp; omega
    rw [q1, q2]
    wp_walk using wpAny_loadPart' g1, wpAny_loadPart' g2
    show R (.ok (.ret (.bool (xs.size == ys.size)))) _
    rw [z1, z2]
    simpa using hR
  | succ k ih =>
    intro i hk hi hj s h
    obtain ⟨xs, ys, n, m, g1, g2, z1, z2, turn⟩ := hl _ h
    have l1 : i < xs.size := by omega
    have l2 : i < ys.size := by omega
    have ht := turn i l1 l2
    obtain ⟨hp, g, d, tk, os⟩ := s
    wp_walk using wpAny_loadPart' g1, wpAny_loadPart' g2
    have q1 : xs[((i : Nat) : Int).toNat]? = some xs[i] := by simp [l1]
    have q2 : ys[((i : Nat) : Int).toNat]? = some ys[i] := by simp [l2]
    have qc : ((i : Int) + 1) = ((i + 1 : Nat) : Int) := by omega
    rw [q1, q2]
    refine wpAny_bind (wpAny_mono ht (fun r s2 h2 => ?_) fun _ _ z => z)
    obtain ⟨hr, h2⟩ := h2
    subst hr
    cases he : e i with
    | true =>
      have hrec := ih (i + 1) (by omega) (by omega) (fun j hj' => by
        by_cases c : j = i
        · rw [c]; exact he
        · exact hj j (by omega)) s2 h2
      obtain ⟨hp2, g2', d2, tk2, os2⟩ := s2
      wp_walk
      rw [qc]
      exact ⟨plainId_quiet plain_eq_loop _, codeAny_builtin entry_eq_loop (by rw [Around.under_plainId plain_eq_loop _]; exact hrec)⟩
    | false =>
      have hf : ((List.range N).all e) = false := by
        rw [List.all_eq_false]
        exact ⟨i, List.mem_range.mpr (by omega), by rw [he]; decide⟩
      obtain ⟨xs', ys', n', m', g1', g2', z1', z2', _⟩ := hl _ h2
      have hR := fin s2 h2
      rw [hf] at hR
      have l1' : i < xs'.size := by omega
      have l2' : i < ys'.size := by omega
      obtain ⟨hp2, gg2, d2, tk2, os2⟩ := s2
      wp_walk using wpAny_loadPart' g1', wpAny_loadPart' g2'
      have q1' : xs'[((i : Nat) : Int).toNat]? = some xs'[i] := by simp [l1']
      have q2' : ys'[((i : Nat) : Int).toNat]? = some ys'[i] := by simp [l2']
      rw [q1', q2']
      wp_walk
      simpa using hR
theorem lstEqB (l b : Addr) (N : Nat) (I : Shared → Prop) (e : Nat → Bool) (hl : LstB prog w A (fun x s' => R (.error x) s') l b N I e) (fin : ∀ s, I s → R (.ok (.ret (.bool (((List.range N).all e))))) s) {s : Shared} (h : I s) :
    wpAny (model prog w) A.in1 (Builtin.«list.__eq__» ⟨[.ref l, .ref b], []⟩) (GQ.FinOf prog w A R) (fun x s' => R (.error x) s') s := by
  obtain ⟨xs, ys, n, m, g1, g2, z1, z2, _⟩ := hl _ h
  have hrec := loopEqB (A := A) (R := R) l b N I e hl fin _ 0 rfl (Nat.zero_le _) (fun j hj => by omega) s h
  obtain ⟨hp, g, d, tk, os⟩ := s
  have f3 := AutoSeq1.sub_list_list
  have hne : ¬ (xs.size != ys.size) = true := by simp [z1, z2]
  wp_walk using wpAny_loadPart' g1, wpAny_loadPart' g2
  exact ⟨plainId_quiet plain_eq_loop _, codeAny_builtin entry_eq_loop (by rw [Around.under_plainId plain_eq_loop _]; exact hrec)⟩
theorem loopNeB (l b : Addr) (N : Nat) (I : Shared → Prop) (e : Nat → Bool) (hl : LstB prog w A (fun x s' => R (.error x) s') l b N I e) (fin : ∀ s, I s → R (.ok (.ret (.bool (!((List.range N).all e))))) s) (k : Nat) :
    ∀ i : Nat, N - i = k → i ≤ N → (∀ j, j < i → e j = true) → ∀ s, I s →
      wpAny (model prog w) A.in1 (Builtin.«list.__eq__.loop» ⟨[.ref l, .ref b, rawInt i, rawInt 3], []⟩) (GQ.FinOf prog w A R) (fun x s' => R (.error x) s') s := by
  induction k with
  | zero =>
    intro i hk hi hj s h
    obtain ⟨xs, ys, n, m, g1, g2, z1, z2, _⟩ := hl _ h
    have ha : ((List.range N).all e) = true := by
      rw [List.all_eq_true]
      intro j hj'
      exact hj j (by have := List.mem_range.mp hj'; omega)
    have hR := fin s h
    rw [ha] at hR
    obtain ⟨hp, g, d, tk, os⟩ := s
    wp_walk using wpAny_loadPart' g1, wpAny_loadPart' g2
    have q1 : xs[((i : Nat) : Int).toNat]? = none := by simp; omega
    have q2 : ys[((i : Nat) : Int).toNat]? = none := by simp; omega
    rw [q1, q2]
    wp_walk using wpAny_loadPart' g1, wpAny_loadPart' g2
    show R (.ok (.ret (.bool (xs.size != ys.size)))) _
    rw [z1, z2]
    simpa using hR
  | succ k ih =>
    intro i hk hi hj s h
    obtain ⟨xs, ys, n, m, g1, g2, z1, z2, turn⟩ := hl _ h
    have l1 : i < xs.size := by omega
    have l2 : i < ys.size := by omega
    have ht := turn i l1 l2
    obtain ⟨hp, g, d, tk, os⟩ := s
    wp_walk using wpAny_loadPart' g1, wpAny_loadPart' g2
    have q1 : xs[((i : Nat) : Int).toNat]? = some xs[i] := by simp [l1]
    have q2 : ys[((i : Nat) : Int).toNat]? = some ys[i] := by simp [l2]
    have qc : ((i : Int) + 1) = ((i + 1 : Nat) : Int) := by omega
    rw [q1, q2]
    refine wpAny_bind (wpAny_mono ht (fun r s2 h2 => ?_) fun _ _ z => z)
    obtain ⟨hr, h2⟩ := h2
    subst hr
    cases he : e i with
    | true =>
      have hrec := ih (i + 1) (by omega) (by omega) (fun j hj' => by
        by_cases c : j = i
        · rw [c]; exact he
        · exact hj j (by omega)) s2 h2
      obtain ⟨hp2, g2', d2, tk2, os2⟩ := s2
      wp_walk
      rw [qc]
      exact ⟨plainId_quiet plain_eq_loop _, codeAny_builtin entry_eq_loop (by rw [Around.under_plainId plain_eq_loop _]; exact hrec)⟩
    | false =>
      have hf : ((List.range N).all e) = false := by
        rw [List.all_eq_false]
        exact ⟨i, List.mem_range.mpr (by omega), by rw [he]; decide⟩
      obtain ⟨xs', ys', n', m', g1', g2', z1', z2', _⟩ := hl _ h2
      have hR := fin s2 h2
      rw [hf] at hR
      have l1' : i < xs'.size := by omega
      have l2' : i < ys'.size := by omega
      obtain ⟨hp2, gg2, d2, tk2, os2⟩ := s2
      wp_walk using wpAny_loadPart' g1', wpAny_loadPart' g2'
      have q1' : xs'[((i : Nat) : Int).toNat]? = some xs'[i] := by simp [l1']
      have q2' : ys'[((i : Nat) : Int).toNat]? = some ys'[i] := by simp [l2']
      rw [q1', q2']
      wp_walk
      simpa using hR
theorem lstNeB (l b : Addr) (N : Nat) (I : Shared → Prop) (e : Nat → Bool) (hl : LstB prog w A (fun x s' => R (.error x) s') l b N I e) (fin : ∀ s, I s → R (.ok (.ret (.bool (!((List.range N).all e))))) s) {s : Shared} (h : I s) :
    wpAny (model prog w) A.in1 (Builtin.«list.__ne__» ⟨[.ref l, .ref b], []⟩) (GQ.FinOf prog w A R) (fun x s' => R (.error x) s') s := by
  obtain ⟨xs, ys, n, m, g1, g2, z1, z2, _⟩ := hl _ h
  have hrec := loopNeB (A := A) (R := R) l b N I e hl fin _ 0 rfl (Nat.zero_le _) (fun j hj => by omega) s h
  obtain ⟨hp, g, d, tk, os⟩ := s
  have f3 := AutoSeq1.sub_list_list
  have hne : ¬ (xs.size != ys.size) = true := by simp [z1, z2]
  wp_walk using wpAny_loadPart' g1, wpAny_loadPart' g2
  exact ⟨plainId_quiet plain_eq_loop _, codeAny_builtin entry_eq_loop (by rw [Around.under_plainId plain_eq_loop _]; exact hrec)⟩
theorem tup_neB (l b : Addr) (xs ys : Array Value) (n m : Nat) (d1 d2 : Option Addr) (s1 s2 : Array (Option Value)) (hsz : xs.size = ys.size) (I : Shared → Prop) (e : Nat → Bool)
    (turn : ∀ i (h1 : i < xs.size) (h2 : i < ys.size) s, I s → wpAny (model prog w) A.in1 (eqBool xs[i] ys[i]) (fun r s' => r = e i ∧ I s') (fun x s' => R (.error x) s') s)
    (fin : ∀ s, I s → R (.ok (.ret (.bool (!((List.range xs.size).all e))))) s) {s : Shared} (hl : s.heap.get? l = some { cls := .type "tuple", dict := d1, data := .seq xs n, slots := s1 })
    (hb : s.heap.get? b = some { cls := .type "tuple", dict := d2, data := .seq ys m, slots := s2 }) (h : I s) :
    wpAny (model prog w) A.in1 (Builtin.«tuple.__ne__» ⟨[.ref l, .ref b], []⟩) (GQ.FinOf prog w A R) (fun x s' => R (.error x) s') s := by
  have f2 := AutoSeq1.sub_tuple_tuple
  have hZ : (xs.toList.zip ys.toList).length = xs.size := by simp [hsz]
  have hI0 := h
  obtain ⟨hp, g, d, tk, os⟩ := s
  wp_walk using wpAny_loadPart' hl, wpAny_loadPart' hb, wpAny_forIn_list _ (fun rest b s' => b.1 = none ∧ ∃ i, rest = (xs.toList.zip ys.toList).drop i ∧ i ≤ xs.size ∧ (∀ j, j < i → e j = true) ∧ I s') _
  case turn =>
    rintro ⟨y, x⟩ rest b s' ⟨hb', i, hz, hi, hj, hI⟩
    have hlt : i < (xs.toList.zip ys.toList).length := by
      refine Nat.lt_of_not_le fun h' => ?_
      rw [List.drop_of_length_le h'] at hz
      cases hz
    have h1 : i < xs.size := by omega
    have h2 : i < ys.size := by omega
    rw [List.drop_eq_getElem_cons hlt] at hz
    injection hz with hyx hrest
    have hy : y = xs[i] := by have := congrArg Prod.fst hyx; simpa using this
    have hx : x = ys[i] := by have := congrArg Prod.snd hyx; simpa using this
    subst hy hx
    refine wpAny_bind (wpAny_mono (turn i h1 h2 s' hI) (fun r s2 q => ?_) fun _ _ z => z)
    obtain ⟨hr, q2⟩ := q
    subst hr
    cases he : e i with
    | true =>
      wp_walk
      refine ⟨rfl, i + 1, hrest, h1, fun j hj' => ?_, q2⟩
      by_cases c : j = i
      · rw [c]; exact he
      · exact hj j (by omega)
    | false =>
      have hf : ((List.range xs.size).all e) = false := by
        rw [List.all_eq_false]
        exact ⟨i, List.mem_range.mpr h1, by rw [he]; decide⟩
      have hR := fin s2 q2
      rw [hf] at hR
      wp_walk
      exact hR
  case fin =>
    rintro ⟨b1, b2⟩ s' ⟨hb', i, hz, hi, hj, hI⟩
    simp only at hb'
    subst hb'
    have hge : xs.size ≤ i := by
      refine Nat.le_of_not_lt fun h' => ?_
      rw [List.drop_eq_getElem_cons (by omega)] at hz
      cases hz
    have ha : ((List.range xs.size).all e) = true := by
      rw [List.all_eq_true]
      intro j hj'
      exact hj j (by have := List.mem_range.mp hj'; omega)
    have hR := fin s' hI
    rw [ha] at hR
    wp_walk
    simpa [Builtin.Tuple.tupleCompareSizes, hsz, bne] using hR
  case h =>
    exact ⟨rfl, 0, rfl, Nat.zero_le _, (fun j hj => by omega), hI0⟩
end
section
variable {prog : Program} {w : World} {A : Around} {E : Value → Shared → Prop} {s : Shared}
theorem rc_lstEqB {l b : Addr} {N : Nat} {Q : Value → Shared → Prop} (hu : A.units < cLine) (I : Shared → Prop) (e : Nat → Bool) (hl : LstB prog w A E l b N I e) (fin : ∀ s, I s → Q (.bool (((List.range N).all e))) s) (h : I s) : wpAny (model prog w) A (richCompare .Eq (.ref l) (.ref b)) Q E s := by
  obtain ⟨xs, ys, n, m, g1, g2, _, _, _⟩ := hl _ h
  refine wpAny_richCompare_same_room (op := .Eq) ⟨_, g1, rfl⟩ ⟨_, g2, rfl⟩ F.slot_list_eq (GQ.call_here F.slot_list_eq ⟨_, g1, rfl⟩ F.entry_list_eq (F.args_list_eq_2 _ _) ?_) hu
  exact lstEqB (R := wants (fun v s' => v ≠ .notImplemented ∧ Q v s') E) l b N I e hl (fun s' q => ⟨(fun x => nomatch x), fin s' q⟩) h
theorem rc_lstNeB {l b : Addr} {N : Nat} {Q : Value → Shared → Prop} (hu : A.units < cLine) (I : Shared → Prop) (e : Nat → Bool) (hl : LstB prog w A E l b N I e) (fin : ∀ s, I s → Q (.bool (!((List.range N).all e))) s) (h : I s) : wpAny (model prog w) A (richCompare .NotEq (.ref l) (.ref b)) Q E s := by
  obtain ⟨xs, ys, n, m, g1, g2, _, _, _⟩ := hl _ h
  refine wpAny_richCompare_same_room (op := .NotEq) ⟨_, g1, rfl⟩ ⟨_, g2, rfl⟩ F.slot_list_ne (GQ.call_here F.slot_list_ne ⟨_, g1, rfl⟩ F.entry_list_ne (F.args_list_ne_2 _ _) ?_) hu
  exact lstNeB (R := wants (fun v s' => v ≠ .notImplemented ∧ Q v s') E) l b N I e hl (fun s' q => ⟨(fun x => nomatch x), fin s' q⟩) h
theorem rc_tupNeB {l b : Addr} {xs ys : Array Value} {Q : Value → Shared → Prop} (hsz : xs.size = ys.size) (hu : A.units < cLine) (I : Shared → Prop) (e : Nat → Bool) (hl : s.heap.IsTuple l xs) (hb : s.heap.IsTuple b ys)
    (turn : ∀ i (h1 : i < xs.size) (h2 : i < ys.size) s, I s → wpAny (model prog w) A.in1 (eqBool xs[i] ys[i]) (fun r s' => r = e i ∧ I s') E s)
    (fin : ∀ s, I s → Q (.bool (!((List.range xs.size).all e))) s) (h : I s) : wpAny (model prog w) A (richCompare .NotEq (.ref l) (.ref b)) Q E s := by
  obtain ⟨⟨c1, d1, w1, k1⟩, ho, hc, n, hd⟩ := id hl
  obtain ⟨⟨c2, d2, w2, k2⟩, ho2, hc2, m, hd2⟩ := id hb
  simp only at hc hd hc2 hd2
  subst hc hd hc2 hd2
  refine wpAny_richCompare_same_room (op := .NotEq) ⟨_, ho, rfl⟩ ⟨_, ho2, rfl⟩ F.slot_tuple_ne (GQ.call_here F.slot_tuple_ne ⟨_, ho, rfl⟩ F.entry_tuple_ne (F.args_tuple_ne_2 _ _) ?_) hu
  exact tup_neB (R := wants (fun v s' => v ≠ .notImplemented ∧ Q v s') E) l b xs ys n m d1 d2 k1 k2 hsz I e turn (fun s' q => ⟨(fun x => nomatch x), fin s' q⟩) ho ho2 h
end
end XT
namespace XT
open PySem PySem.Spec PyProof.Rows L2
/-! ### the layer -/
section
variable {X : Cx} {n m : Nat} {D D' : EqvB}
theorem EqB.mono (h : EqB X n D) (hn : n ≤ m) : EqB X m D := fun A pins s σ H x y u v b sb => h A pins s σ H x y u v b (sb.mono hn)
theorem EqB.or (h : EqB X n D) (h' : EqB X n D') : EqB X n (fun x y H b => D x y H b ∨ D' x y H b) := fun A pins s σ H x y u v b sb I rx ry d => by
  rcases d with d | d
  · exact h A pins s σ H x y u v b sb I rx ry d
  · exact h' A pins s σ H x y u v b sb I rx ry d
theorem MonB.or (h : MonB D) (h' : MonB D') : MonB (fun x y H b => D x y H b ∨ D' x y H b) := fun x y H H' b e d => d.elim (fun d => .inl (h x y H H' b e d)) fun d => .inr (h' x y H H' b e d)
def DFlatB : EqvB := fun x y _ b => flatV x = true ∧ flatV y = true ∧ b = eqV x y
theorem monB_flat : MonB DFlatB := fun _ _ _ _ _ _ d => d
theorem eqB_flat : EqB X 0 DFlatB := by
  intro A pins s σ H x y u v b sb I rx ry d
  obtain ⟨fx, fy, rfl⟩ := d
  exact eqAt_V (A := A) (s := s) rx ry fx fy X.prog X.w X.xe _ ⟨rfl, H, I, L2.Ext.rfl'⟩
/-- data at any depth -/
def DDat (K : PySem.W.Frag) : EqvB := fun x y H b => ∃ d e, Dp K H x d ∧ Dp K H y e ∧ SeqAt.shaped d = true ∧ SeqAt.shaped e = true ∧ b = PyData.eqv d e
def DLstB (D : EqvB) : EqvB := fun x y H b => ∃ a c xs ys, ∃ e : Nat → Bool, x = .ref a ∧ y = .ref c ∧ H a = some (.lst xs) ∧ H c = some (.lst ys) ∧ xs.length = ys.length ∧ (∀ (i : Nat) x y, xs[i]? = some x → ys[i]? = some y → D x y H (e i)) ∧ b = (List.range xs.length).all e
theorem turnB (hD : MonB D) (h : EqB X n D) {A : Around} (sb : L2.Sub X (n + 1) A) {pins : List (Addr × Obj)} {σ : L2.St} {H : Hp} {xs ys : List V} {its its2 : List Value} {e : Nat → Bool} (hlen : xs.length = ys.length) (hp : ∀ (i : Nat) x y, xs[i]? = some x → ys[i]? = some y → D x y H (e i)) (r : Vals xs its) (r2 : Vals ys its2)
    (i : Nat) (h1 : i < its.toArray.size) (h2 : i < its2.toArray.size) (s' : Shared) (q : LoopI X pins σ H s') : wpAny (model X.prog X.w) A.in1 (eqBool its.toArray[i] its2.toArray[i]) (fun r s2 => r = e i ∧ LoopI X pins σ H s2) X.xe s' := by
  obtain ⟨H1, I1, x1⟩ := q
  have h1' : i < its.length := by simpa using h1
  have h2' : i < its2.length := by simpa using h2
  have k1 : i < xs.length := by rw [r.length]; exact h1'
  have k2 : i < ys.length := by rw [← hlen]; exact k1
  obtain ⟨u, hu, ru⟩ := r.get (List.getElem?_eq_getElem k1)
  obtain ⟨v, hv, rv⟩ := r2.get (List.getElem?_eq_getElem k2)
  have g1 : u = its.toArray[i] := by
    rw [List.getElem?_eq_getElem h1'] at hu
    simpa using (Option.some.inj hu).symm
  have g2 : v = its2.toArray[i] := by
    rw [List.getElem?_eq_getElem h2'] at hv
    simpa using (Option.some.inj hv).symm
  subst g1 g2
  refine wpAny_mono (h A.in1 pins s' σ H1 _ _ _ _ (e i) sb.in1 I1 ru rv (hD _ _ _ _ _ x1 (hp i _ _ (List.getElem?_eq_getElem k1) (List.getElem?_eq_getElem k2)))) (fun r s2 q => ?_) fun _ _ z => z
  obtain ⟨hr, H2, I2, x2⟩ := q
  exact ⟨hr, H2, I2, x1.trans x2⟩
theorem lstB_of (hD : MonB D) (h : EqB X n D) {A : Around} (sb : L2.Sub X (n + 1) A) {pins : List (Addr × Obj)} {σ : L2.St} {H : Hp} {a c : Addr} {xs ys : List V} {e : Nat → Bool} (ha : H a = some (.lst xs)) (hc : H c = some (.lst ys)) (hlen : xs.length = ys.length)
    (hp : ∀ (i : Nat) x y, xs[i]? = some x → ys[i]? = some y → D x y H (e i)) : LstB X.prog X.w A X.xe a c xs.length (LoopI X pins σ H) e := by
  intro s q
  obtain ⟨H1, I1, x1⟩ := id q
  obtain ⟨z, its, k, r, g1⟩ := I1.hok a _ (x1 _ _ ha)
  obtain ⟨z2, its2, k2, r2, g2⟩ := I1.hok c _ (x1 _ _ hc)
  exact ⟨its.toArray, its2.toArray, k, k2, g1, g2, by rw [List.size_toArray, ← r.length], by rw [List.size_toArray, ← r2.length, ← hlen], fun i h1 h2 => turnB hD h sb hlen hp r r2 i h1 h2 s q⟩
theorem rcB_lst (hD : MonB D) (h : EqB X n D) : RcB X (n + 1) (DLstB D) := by
  intro A pins s σ H x y u v b sb I rx ry d
  obtain ⟨a, c, xs, ys, e, rfl, rfl, ha, hc, hlen, hp, rfl⟩ := d
  cases rx
  cases ry
  exact rc_lstEqB sb.room.units0 (LoopI X pins σ H) e (lstB_of hD h sb ha hc hlen hp) (fun s' q => ⟨rfl, q⟩) ⟨H, I, L2.Ext.rfl'⟩
/-- != -/
def RnB (X : Cx) (n : Nat) (D : EqvB) : Prop :=
  ∀ (A : Around) (pins : List (Addr × Obj)) (s : Shared) (σ : L2.St) (H : Hp) (x y : V) (u v : Value) (b : Bool), L2.Sub X n A → Inv X pins σ H s → RelV x u → RelV y v → D x y H b →
    wpAny (model X.prog X.w) A (richCompare .NotEq u v) (fun r s' => r = .bool (!b) ∧ ∃ H', Inv X pins σ H' s' ∧ L2.Ext H H') X.xe s
theorem rnB_lst (hD : MonB D) (h : EqB X n D) : RnB X (n + 1) (DLstB D) := by
  intro A pins s σ H x y u v b sb I rx ry d
  obtain ⟨a, c, xs, ys, e, rfl, rfl, ha, hc, hlen, hp, rfl⟩ := d
  cases rx
  cases ry
  exact rc_lstNeB sb.room.units0 (LoopI X pins σ H) e (lstB_of hD h sb ha hc hlen hp) (fun s' q => ⟨rfl, q⟩) ⟨H, I, L2.Ext.rfl'⟩
theorem rnB_tup (hD : MonB D) (h : EqB X n D) : RnB X (n + 1) (DTupB X.K D) := by
  intro A pins s σ H x y u v b sb I rx ry d
  obtain ⟨a, c, xs, ys, e, rfl, rfl, ha, hb, hlen, hp, rfl⟩ := d
  cases rx
  cases ry
  obtain ⟨its, r, e1, z⟩ := I.tuple ha
  obtain ⟨its2, r2, e2, z2⟩ := I.tuple hb
  have hsz : its.toArray.size = its2.toArray.size := by rw [List.size_toArray, List.size_toArray, ← r.length, ← r2.length]; exact hlen
  exact rc_tupNeB hsz sb.room.units0 (LoopI X pins σ H) e e1 e2 (fun i h1 h2 s' q => turnB hD h sb hlen hp r r2 i h1 h2 s' q) (fun s' q => ⟨by rw [List.size_toArray, ← r.length], q⟩) ⟨H, I, L2.Ext.rfl'⟩
def rNeB (D : EqvB) : R2 := fun x y H Q => ∃ b, D x y H b ∧ ∀ H', L2.Ext H H' → Q (.bl (!b)) H'
theorem op_neB (h : RnB X n D) (hr : Room n X.A) : OpR X (compareOp .NotEq) (rNeB D) := by
  intro pins s σ H x y v u Q I rx ry hq
  obtain ⟨b, d, q⟩ := hq
  show wpAny (model X.prog X.w) X.A (richCompare .NotEq v u) (EP X pins σ Q) X.xe s
  refine wpAny_mono (h X.A pins s σ H x y v u b ⟨hr, rfl⟩ I rx ry d) (fun r s' z => ?_) fun _ _ x => x
  obtain ⟨hr', H', I', e⟩ := z
  subst hr'
  exact ⟨.bl (!b), H', I', rfl, q H' e⟩
end
end XT

/-! sets of ints out of lists; sorted of them, any number -/
namespace XT
open PySem PySem.Spec PyProof.Rows L2
section
variable {P : Program} {w : World} {A : Around} {E : Value → Shared → Prop} {s : Shared}
/-- a new set's object -/
abbrev nS (w : World) : Obj := { cls := .type "set", dict := none, data := .set #[] 0 (.fresh 0 0 (!w.params.followText "set-order")) }
/-- what set.__init__ leaves -/
def InitS (w : World) (s : Shared) (ns : List Int) (s2 : Shared) : Prop := ∃ (h' : Heap) (tk c : Nat), s2 = { s with heap := h', toks := tk } ∧ SetR w h' s.heap.objs.size (fun j => decide (j ∈ ns)) c ∧ c ≤ ns.length ∧ ∀ b o, s.heap.get? b = some o → h'.get? b = some o
theorem init_list {l : Addr} {its : Array Value} {ns : List Int} (hA : A.handled = none) (hl : s.heap.IsList l its) (hi : IntsAre its.toList ns) (hb : ns.length + 1 < scanBound) :
    codeAny (model P w) A (.call (.builtin "set.__init__") ⟨[.ref s.heap.objs.size, .ref l], []⟩) (wants (fun r s2 => r = .none ∧ InitS w s ns s2) E) { s with heap := s.heap.push (nS w) } := by
  have nit : its.size = ns.length := by have q := IntsAre.length hi; rwa [Array.length_toList] at q
  have gS : (s.heap.push (nS w)).get? s.heap.objs.size = some (nS w) := Heap.get?_push_size _ rfl
  have tS : Shared.TypeIs { s with heap := s.heap.push (nS w) } (.ref s.heap.objs.size) "set" := ⟨_, gS, rfl⟩
  refine codeAny_call_builtin F.called_set.init.plain F.entry_set_init (check_set_init_1 tS ?_)
  obtain ⟨⟨c1, d1, w1, k1⟩, ho, hc, n1, hd⟩ := hl
  simp only at hc hd
  subst hc
  subst hd
  have lS : l < s.heap.objs.size := Heap.lt_size ho
  have gL : (s.heap.push (nS w)).get? l = some { cls := .type "list", dict := d1, data := .seq its n1, slots := k1 } := Heap.get?_push_of_some _ ho
  have f1 := F.sub_list_set
  have f2 := F.sub_list_frozenset
  have f3 : (Value.type "list" == Value.type "dict") = false := by decide
  have iL : (s.heap.push (nS w)).IsList l its := ⟨_, gL, rfl, n1, rfl⟩
  unfold Builtin.«set.__init__» noKeywords Builtin.Frozenset.updateFrom
  generalize hPI : pyIter = PI
  wp_walk
  subst hPI
  refine wpAny_pyIter_list iL (wpAny_bind (wpAny_runValue ?_))
  have zS : (s.heap.push (nS w)).objs.size = s.heap.objs.size + 1 := Heap.size_push ..
  have nIt : l ≠ (s.heap.push (nS w)).objs.size := Nat.ne_of_lt (by rw [zS]; exact Nat.lt_succ_of_lt lS)
  have nfp : s.heap.objs.size ∉ [(s.heap.push (nS w)).objs.size, l] := by
    simp only [List.mem_cons, List.not_mem_nil, or_false, not_or]
    exact ⟨Nat.ne_of_lt (by rw [zS]; exact Nat.lt_succ_self _), Nat.ne_of_gt lS⟩
  have val : ∀ (i : Nat) (v : Value), its[i]? = some v → ∃ k t, ns[i]? = some k ∧ v = .int k t := fun i v hv => by
    have lt : i < ns.length := by rw [← nit]; exact (Array.getElem?_eq_some_iff.mp hv).1
    obtain ⟨t, e⟩ := PyProof.Rows.IntsAre.int_at hi i v (by rw [Array.getElem?_toList]; exact hv)
    exact ⟨ns[i], t, List.getElem?_eq_getElem lt, by rw [e, List.getD_eq_getElem?_getD, List.getElem?_eq_getElem lt] <;> rfl⟩
  refine set_update_ints ((Walks.list (by simp [hA]) _ l nIt its).toS) s.heap.objs.size nfp ns nit hb val (its.size - 0) 0 _ (by omega) (Nat.zero_le _) ⟨⟨_, Heap.get?_push_size _ rfl, rfl, rfl⟩, (iL.push _)⟩
    ⟨0, Nat.le_refl 0, setR_new_at (Heap.get?_push_of_some _ gS)⟩ fun s' c mv hc' R => ?_
  obtain ⟨h', gn, dr, tk, os⟩ := s'
  cases (show gn = s.gens from mv.gens)
  cases (show dr = s.drawn from mv.drawn)
  cases (show os = s.os from mv.os)
  show wpAny _ _ _ _ _ _
  refine wpAny_pure ?_
  show wpAny _ _ (ret Value.none) _ _ _
  rw [nit] at hc'
  refine wpAny_pure ⟨rfl, h', tk, c, rfl, R, hc', fun b o e => ?_⟩
  have lb : b < s.heap.objs.size := Heap.lt_size e
  refine mv.heap b o ?_ (Heap.get?_push_of_some _ (Heap.get?_push_of_some _ e))
  simp only [List.mem_cons, List.not_mem_nil, or_false, not_or]
  exact ⟨Nat.ne_of_lt lb, Nat.ne_of_lt (by rw [zS]; exact Nat.lt_succ_of_lt lb)⟩
theorem call_setL {l : Addr} {its : Array Value} {ns : List Int} {Q : Value → Shared → Prop} (hA : A.handled = none) (hl : s.heap.IsList l its) (hi : IntsAre its.toList ns) (hb : ns.length + 1 < scanBound)
    (h : ∀ (h' : Heap) (tk c : Nat), SetR w h' s.heap.objs.size (fun j => decide (j ∈ ns)) c → c ≤ ns.length → (∀ b o, s.heap.get? b = some o → h'.get? b = some o) → Q (.ref s.heap.objs.size) { s with heap := h', toks := tk }) :
    wpAny (model P w) A (call (.type "set") [.ref l]) Q E s := by
  obtain ⟨c, tl, m1⟩ := F.called_set.mro
  have m2 := F.called_set.made
  have m3 := F.called_set.sub
  have m4 := F.called_set.notType
  have m5 := F.called_set.canCreate
  have m6 := F.typeCall_set_1 (.ref l)
  refine wpAny_call (codeAny_of_tree ?_)
  show wpAny _ _ (callAny (.type "set") _) _ _ _
  refine wpAny_pure ⟨Code.quiet_builtin _ (by decide +kernel), codeAny_builtin F.entry_type_call ?_⟩
  rw [Around.under_plain (weight_type_call_type "set" [.ref l] []) rfl]
  repeat (any_goals (first | assumption | wp_step))
  refine codeAny_mono (code_set_led1 (.ref l) (E := E) (Q₁ := fun obj s1 => obj = .ref s.heap.objs.size ∧ s1 = { s with heap := s.heap.push (nS w) }) ⟨rfl, rfl⟩) fun r s1 hr => ?_
  match r, hr with
  | .error e, hr => exact hr
  | .ok (.ret obj), hr =>
    obtain ⟨rfl, rfl⟩ := hr
    have gS : (s.heap.push (nS w)).get? s.heap.objs.size = some (nS w) := Heap.get?_push_size _ rfl
    have tS : Shared.TypeIs { s with heap := s.heap.push (nS w) } (.ref s.heap.objs.size) "set" := ⟨_, gS, rfl⟩
    have i1 := F.called_set.init.lookup
    have i2 := F.called_set.init.bind (.ref s.heap.objs.size)
    repeat (any_goals (first | assumption | wp_step))
    refine codeAny_mono (init_list (E := E) (by simpa using hA) hl hi hb) fun r2 s2 hr2 => ?_
    match r2, hr2 with
    | .error e, hr2 => exact hr2
    | .ok (.ret r), hr2 =>
      obtain ⟨rfl, h', tk, c', rfl, R, hc, hk⟩ := hr2
      repeat (any_goals (first | assumption | wp_step))
      exact h _ _ _ R hc hk
    | .ok .next, hr2 => exact False.elim hr2
    | .ok .brk, hr2 => exact False.elim hr2
    | .ok .cont, hr2 => exact False.elim hr2
  | .ok .next, hr => exact False.elim hr
  | .ok .brk, hr => exact False.elim hr
  | .ok .cont, hr => exact False.elim hr
/-- sorted of a set of ints -/
theorem sorted_setA {a : Addr} {S : Int → Bool} {n : Nat} {Q : Value → Shared → Prop} (R : SetR w s.heap a S n) (hA : A.handled = none)
    (hQ : ∀ s' p (out : List Value) (c : Nat) (ns : List Int), (∀ b o, s.heap.get? b = some o → s'.heap.get? b = some o) → s'.gens = s.gens → s'.os = s.os → s.heap.objs.size ≤ p →
      s'.heap.get? p = some (seqObj "list" out.toArray c) → IntsAre out ns → ns.Pairwise (· < ·) → (∀ k, k ∈ ns ↔ S k = true) → ns.length = n → Q (.ref p) s') :
    wpAny (model P w) A (call (.builtin "sorted") [.ref a]) Q E s := by
  obtain ⟨o, es, ep, t, ho, ex, hd, g, nd, hm, hb, hf, hn, hr, hl⟩ := R
  refine Calls.call_function_entry kind_sorted plain_sorted entry_sorted (args_sorted1 _) ?_
  unfold Builtin.«sorted»
  refine wpAny_bind (m := checkCount "sorted" 1 1 _) (wpAny_pure (wpAny_bind ?_))
  refine collect_set (A := A.in1) hA ⟨o, ho, ex.1, hd⟩ hf hb hr hl fun s1 vs k1 hz g1 o1 pm => ?_
  have nv : vs.length = n := by rw [pm.length_eq, List.length_map, Array.length_toList]; exact hn
  have iI : IntsAre vs (vs.map SrtO.iv) := SrtO.ints_iv fun v hv => by
    obtain ⟨e, he, q⟩ := List.mem_map.mp (pm.mem_iff.mp hv)
    obtain ⟨k, tk, h1, _⟩ := g e he
    exact ⟨k, tk, by rw [← q]; exact h1⟩
  have pk : (vs.map SrtO.iv).Perm (es.toList.map keyOf) := by
    have q := pm.map SrtO.iv
    rw [List.map_map] at q
    have e : es.toList.map (SrtO.iv ∘ (·.2)) = es.toList.map keyOf := List.map_congr_left fun x hx => by
      obtain ⟨k, tk, h1, _⟩ := g x hx
      show SrtO.iv x.2 = keyOf x
      unfold keyOf
      rw [h1]
      rfl
    rw [← e]
    exact q
  have sz : vs.length ≤ sizeLine := by rw [nv, ← hn, sizeLine_eq]; unfold scanBound at hb; omega
  refine wpAny_bind (wpAny_newList ?_ sz)
  have oL : (s1.heap.push (seqObj "list" vs.toArray 0)).get? s1.heap.objs.size = some (seqObj "list" vs.toArray 0) := Heap.get?_push_size _ rfl
  refine wpAny_bind (wpAny_holding (wpAny_call_entry slot_list_sort ⟨_, oL, rfl⟩ entry_list_sort
    (SrtO.list_sort_ord SrtO.swo_int oL sz (fun h2 => SrtO.ints_sortable iI h2) fun out h1 h2 => ⟨_, rfl, ?_⟩) (args_list_sort _)))
  obtain ⟨q1, q2, q3⟩ := SrtO.ints_out iI h1 h2
  obtain ⟨c, hc⟩ := sortedHeap_at (vs := vs) (out := out.toArray) oL
  have pn : (out.map SrtO.iv).Perm (es.toList.map keyOf) := q2.trans pk
  refine wpAny_pure ⟨_, rfl, hQ _ s1.heap.objs.size out c (out.map SrtO.iv) (fun b u e => ?_) g1 o1 hz hc q1 (lt_of_le_nodup _ q3 (pn.nodup_iff.mpr nd)) (fun k => by rw [pn.mem_iff, ← hm k]) ?_⟩
  · have q := k1 b u e
    have lt := Heap.lt_size q
    show (sortedHeap (s1.heap.push (seqObj "list" vs.toArray 0)) s1.heap.objs.size vs out.toArray).get? b = some u
    rw [sortedHeap_old (Nat.ne_of_lt lt) (by rw [size_push']; exact Nat.lt_succ_of_lt lt)]
    exact Heap.get?_push_of_some _ q
  · rw [pn.length_eq, List.length_map, Array.length_toList]; exact hn
end
end XT

namespace XT
open PySem PySem.Spec PyProof.Rows L2
/-! ### set(xs), sorted(set(xs)) -/
section
variable {X : Cx}
def rSetL (K : PySem.W.Frag) (w : World) : List V → Hp → VK → Prop := fun xs H Q => ∃ (l : Addr) (ns : List Int), xs = [V.ref l] ∧ SqL K H l (ns.map V.int) ∧ ns.length ≤ 4000 ∧
  ∀ (p : Addr) (n : Nat), H p = Option.none → n ≤ ns.length → Q (.ref p) (upd H p (SetO w p (fun j => decide (j ∈ ns)) n))
theorem setLK (K : PySem.W.Frag) (w : World) (hc : X.calm = true) (hK : X.K = K := by rfl) (hw : X.w = w := by rfl) : CallR X (.type "set") (rSetL K w) := by
  subst hK
  subst hw
  intro pins s σ H xs us Q I r h
  obtain ⟨l, ns, rfl, hs, hz, q⟩ := h
  rw [Vals.ref1 r]
  obtain ⟨its, rv, hl, _⟩ := I.list hs
  refine call_setL (I.ok.hd hc) hl.isList rv.ints (by unfold scanBound; omega) fun h' tk c R hcn hk => ?_
  exact ⟨.ref _, upd H s.heap.objs.size (SetO X.w s.heap.objs.size (fun j => decide (j ∈ ns)) c), I.laid (t' := tk) hk (Nat.le_refl _) (setO_new R), rfl, q _ _ (I.hok.fresh (Nat.le_refl _)) hcn⟩
def rSortS (w : World) : List V → Hp → VK → Prop := fun vs H Q => ∃ (a : Addr) (S : Int → Bool) (n : Nat), vs = [V.ref a] ∧ H a = some (SetO w a S n) ∧ n ≤ 4000 ∧
  ∀ (ns : List Int) (p : Addr), ns.Pairwise (· < ·) → (∀ k : Int, k ∈ ns ↔ S k = true) → ns.length = n → H p = Option.none → Q (.ref p) (upd H p (.lst (ns.map V.int)))
theorem sortSK (w : World) (hc : X.calm = true) (hw : X.w = w := by rfl) : CallR X (.builtin "sorted") (rSortS w) := by
  subst hw
  intro pins s σ H vs us Q I r h
  obtain ⟨a, S, n, rfl, ha, hz, q⟩ := h
  have R := setO_get I ha
  rw [Vals.ref1 r]
  refine sorted_setA R (I.ok.hd hc) fun s' p out c ns k g o hp hg hi hs hm hl => ?_
  have hlen : (ns.map V.int).length ≤ sizeLine := by rw [List.length_map, hl, sizeLine_eq]; omega
  have hn : H p = Option.none := I.hok.fresh hp
  have J : Inv X pins σ (upd H p (.lst (ns.map V.int))) { s with heap := s'.heap, gens := s'.gens, drawn := s'.drawn, toks := s'.toks } :=
    I.call (ch := []) (Un.laid k hp hn) (I.hok.laid k hp ⟨hlen, out, c, vals_of_ints hi, hg⟩) (by rw [g]; exact I.bare) (fun _ z => nomatch z)
  have e : s' = { s with heap := s'.heap, gens := s'.gens, drawn := s'.drawn, toks := s'.toks } := by
    cases s'
    cases s
    cases o
    rfl
  rw [e]
  exact ⟨.ref p, _, J, rfl, q ns p hs hm hl hn⟩
/-! ### type(x) == C -/
theorem op_eqCls {C : Addr} (ht : PySem.W.typeIn X.K (.ref C) = some (.type "type")) (hu : X.A.units < cLine) : OpR X (compareOp .Eq) (fun x y H Q => x = V.ref C ∧ y = V.ref C ∧ Q (.bl true) H) := by
  intro pins s σ H x y v u Q I rx ry h
  obtain ⟨rfl, rfl, q⟩ := h
  cases rx
  cases ry
  obtain ⟨o, ho, hc⟩ := Option.map_eq_some_iff.mp ht
  have ta : s.TypeIs (.ref C) "type" := ⟨o, I.kIn _ _ ho, hc⟩
  show wpAny _ _ (richCompare .Eq _ _) _ _ _
  refine wpAny_richCompare_same_room (op := .Eq) ta ta TypeEq.slot_type_eq (GQ.call_here TypeEq.slot_type_eq ta PySem.F.cmpEntry_eq (PySem.F.cmpArgs_eq _ _) ?_) hu
  exact objEq_entry_same (M := model X.prog X.w) ⟨(fun z => nomatch z), .bl true, H, I, rfl, q⟩
/-! ### class methods without arguments; C(..) where C is in a slot -/
variable {CX : CXT} {k : Nat} {C p g f : Addr} {mc : Value} {sp : Sp} {E : XK} {o e : Expr} {es : List Expr} {m x : Str} {pos apos : Pos} {ta : TE} {t : TA} {pl : Sem Bool}
theorem pe_cmeth0 (he : PE X o ta) (r : ClX.CRead X.K C mc) (c : ClX.CMet X.K C mc m p g) (F : FnR X.prog X.w X.K X.mg X.base CX k g sp) (hr : Room k X.A) (hx : Passes CX X E)
    (ht : eval (.Call (.Attribute o m apos) [] [] pos) X.env = (do
      let ov ← eval o X.env
      standAt apos.atName
      let (f, first) ← holding [ov] (getMethod ov m pl)
      callWith pos f first (backTo pos (starEach [] X.env)) (backToKw pos (keywordEach [] X.env))) := by rfl) :
    PE X (.Call (.Attribute o m apos) [] [] pos) (ClX.tCMeth C sp E ta tNil) := by
  refine ⟨fun pins s σ H Q I h => ?_⟩
  refine PySem.W.methodCall_KW (pl := pl) (thn (he.run pins s σ H _ I h) fun u s1 ⟨x, H1, I1, rx, ex, q⟩ => ?_) ht
  subst ex
  obtain rfl : u = Value.ref C := rx
  refine ClX.getmethcm_ok I1 r c fun s2 I2 => PySem.W.callWith_M0 (first := []) ⟨ClX.pin_at I2, I2.kIn⟩ c.fi ?_
  exact ClX.run_cm F hr hx I2 .nil q
theorem pe_imeth0 (he : PE X o ta) (c : ClX.CInst X.K C m p g) (F : FnR X.prog X.w X.K X.mg X.base CX k g sp) (hr : Room k X.A) (hx : Passes CX X E)
    (ht : eval (.Call (.Attribute o m apos) [] [] pos) X.env = (do
      let ov ← eval o X.env
      standAt apos.atName
      let (f, first) ← holding [ov] (getMethod ov m pl)
      callWith pos f first (backTo pos (starEach [] X.env)) (backToKw pos (keywordEach [] X.env))) := by rfl) :
    PE X (.Call (.Attribute o m apos) [] [] pos) (ClX.tIMethD C m sp E ta tNil) := by
  refine ⟨fun pins s σ H Q I h => ?_⟩
  refine PySem.W.methodCall_KW (pl := pl) (thn (he.run pins s σ H _ I h) fun u s1 ⟨x, H1, I1, rx, a, dx, fs, ex, ea, l, q⟩ => ?_) ht
  subst ex
  obtain rfl : u = Value.ref a := rx
  obtain ⟨mA, O, rr, _, _, _⟩ := ins_get I1.hok ea
  have hn : mA m = none := RelO.none_of (by rw [← l]; exact rr m)
  obtain ⟨od, J, hl⟩ := O.look
  refine ClX.getmethim_ok I1 J (by rw [hl m, hn]) c fun s2 I2 => PySem.W.callWith_M0 (first := []) ⟨ClX.pin_at I2, I2.kIn⟩ c.fi ?_
  exact ClX.run_cm F hr hx I2 .nil q
def tMakeL (i : Nat) (C : Addr) (sp : Sp) (E : XK) (t : TA) : TE := fun σ H Q => σ[i]? = some (some (.ref C)) ∧ StX.tMakeR C sp E t σ H Q
theorem pe_makeL {i : Nat} {p : Pos} (M : Mk X.K C f) (F : FnR X.prog X.w X.K X.mg X.base CX k f sp) (hr : Room (k + 1) X.A) (hN : X.N[i]? = some x) (hv : Vis X.env.scope x) (hx : Passes CX X E) (ha : PA X (e :: es) t)
    (hdb : (x == ("__debug__" : Str)) = false := by decide) (hcd : (x == ("__classdict__" : Str)) = false := by decide)
    (he : starEach (e :: es) X.env = (false, eval e X.env) :: starEach es X.env := by rfl) (hpl : (backTo pos (starEach es X.env)).any (·.1) = false := by rfl) : PE X (.Call (.Name x p) (e :: es) [] pos) (tMakeL i C sp E t) := by
  refine ⟨fun pins s σ H Q I h => ?_⟩
  obtain ⟨hs, ht⟩ := h
  refine wpAny_Call_Name_kw (thn ((pe_var (pos := p) hN hv hdb hcd).run pins s σ H (fun v H1 => v = .ref C ∧ H1 = H) I ⟨.ref C, hs, rfl, rfl⟩) fun u s1 ⟨v, H1, I1, r1, q1⟩ => ?_)
  obtain ⟨rfl, rfl⟩ := q1
  cases r1
  refine PySem.W.callWith_K (h₀ := X.base) I.ok.mod.kin M.kp (thn (ha.run pos pins s1 σ _ _ I1 ht) fun us s2 ⟨vs, H2, I2, r, q⟩ => ⟨I2.kIn, ?_⟩) he hpl
  exact StX.run_makeR M F hr hx I2 r q
/-! ### type(x) not in (list, tuple) -/
theorem op_notInTy : OpR X (compareOp .NotIn) (fun x y H Q => ∃ (m : String) (p : Addr) (ns : List String), x = .ty m ∧ y = .ref p ∧ SqT X.K H p (ns.map V.ty) ∧ tyN m = true ∧ (∀ n ∈ ns, tyN n = true) ∧ Q (.bl (!(ns.any fun n => decide (n = m)))) H) := by
  intro pins s σ H x y v u Q I rx ry h
  obtain ⟨m, p, ns, rfl, rfl, hq, hm, hn, q⟩ := h
  cases (show v = Value.type m from rx)
  cases (show u = Value.ref p from ry)
  obtain ⟨its, r, pl, hz⟩ := I.tuple hq
  have key : ∀ (ns : List String) (its : List Value), Vals (ns.map V.ty) its → its = ns.map Value.type := by
    intro ns
    induction ns with
    | nil => intro its r; cases r; rfl
    | cons n ns ih =>
      intro its r
      cases r with
      | cons a t =>
        rw [ih _ t, List.map_cons]
        congr 1
  have e := key ns its r
  subst e
  refine SeqAt.notIn_tupleAt (tyU m) pl (fun w hw => ?_) ⟨.bl _, H, I, rfl, ?_⟩
  · have hw' : w ∈ ns.map Value.type := by simpa using hw
    obtain ⟨n, hmem, rfl⟩ := List.mem_map.mp hw'
    exact eqAt_ty (hn n hmem) hm
  · have e2 : ((ns.map Value.type).toArray.any (tyU m)) = ns.any fun n => decide (n = m) := by
      rw [List.any_toArray, List.any_map]
      rfl
    rw [e2]
    exact q
end
section
variable {X : Cx} (K : PySem.W.Frag)
theorem notInTyK (hK : X.K = K := by rfl) : OpR X (compareOp .NotIn) (fun x y H Q => ∃ (m : String) (p : Addr) (ns : List String), x = .ty m ∧ y = .ref p ∧ SqT K H p (ns.map V.ty) ∧ tyN m = true ∧ (∀ n ∈ ns, tyN n = true) ∧ Q (.bl (!(ns.any fun n => decide (n = m)))) H) := by subst hK; exact op_notInTy
end
/-! ### a comprehension whose items are made anew -/
theorem lcR {J : It} {n : Nat} {P : Nat → V → Hp → Prop} {g : TG} {te : TE} {vs : List Nat} {σ : L2.St} {H1 : Hp} {D : Addr} {Qd : Hp → Prop} (S : StatJ J H1 n P) (hD : H1 D = Option.none) (R : Nat → V → Hp → Prop) (hR : ∀ i y H H', Same H H' → R i y H → R i y H') (hU : ∀ i y H a b, H D = some (.lst a) → R i y H → R i y (upd H D (.lst b))) (hn : n ≤ sizeLine)
    (hs : ∀ i x H (T : V → Hp → Prop), i < n → Same H1 H → P i x H → (∀ y H', Same H H' → R i y H' → T y H') → g x (wipe σ vs) H fun σ2 H2 => wipe σ2 vs = wipe σ vs ∧ te σ2 H2 T)
    (hd : ∀ H acc, Same H1 H → acc.length = n → (∀ i y, acc[i]? = some y → R i y H) → H D = some (.lst acc) → Qd H) :
    ∃ W : Nat → Nat → Hp → Prop, (∃ m, W 0 m (upd H1 D (.lst []))) ∧ ∀ i m H, W i m H →
      (J.stop i H ∧ Qd H) ∨ (J.go i H ∧ ∃ Nx : Hp → Prop, (∀ H', Nx H' → ∃ m', m' < m ∧ W (i + 1) m' H') ∧ ∀ x H', J.yld i H x H' → g x (wipe σ vs) H' fun σ2 H2 => wipe σ2 vs = wipe σ vs ∧ tYes σ2 H2 fun b H3 =>
        if b = true then te σ2 H3 fun y H4 => ∃ acc, H4 D = some (.lst acc) ∧ acc.length < sizeLine ∧ Nx (upd H4 D (.lst (acc ++ [y]))) else Nx H3) := by
  refine ⟨fun i m H => m = n - i ∧ i ≤ n ∧ Same H1 H ∧ ∃ acc, H D = some (.lst acc) ∧ acc.length = i ∧ ∀ j y, acc[j]? = some y → R j y H, ⟨n, by simp, Nat.zero_le _, same_new hD, [], upd_same, rfl, fun j y e => by simp at e⟩, ?_⟩
  rintro i m H ⟨rfl, hi, s, acc, hH, hlen, hacc⟩
  by_cases hlt : i < n
  · refine .inr ⟨S.go i H hlt s, fun H' => Same H1 H' ∧ ∃ acc, H' D = some (.lst acc) ∧ acc.length = i + 1 ∧ ∀ j y, acc[j]? = some y → R j y H', fun H' p => ⟨n - (i + 1), by omega, rfl, hlt, p.1, p.2⟩, fun x H' y => ?_⟩
    obtain ⟨s2, px⟩ := S.yld i H x H' hlt s y
    show g x (wipe σ vs) H' fun σ2 H2 => wipe σ2 vs = wipe σ vs ∧ (if true = true then te σ2 H2 fun y H4 => ∃ acc, H4 D = some (.lst acc) ∧ acc.length < sizeLine ∧ (Same H1 (upd H4 D (.lst (acc ++ [y]))) ∧ ∃ acc', (upd H4 D (.lst (acc ++ [y]))) D = some (.lst acc') ∧ acc'.length = i + 1 ∧ ∀ j y', acc'[j]? = some y' → R j y' (upd H4 D (.lst (acc ++ [y])))) else (Same H1 H2 ∧ ∃ acc', H2 D = some (.lst acc') ∧ acc'.length = i + 1 ∧ ∀ j y', acc'[j]? = some y' → R j y' H2))
    simp only [if_true]
    refine hs i x H' _ hlt (s.trans s2) px fun y H4 s4 ry => ?_
    have h4 : H4 D = some (.lst acc) := s4 _ _ (s2 _ _ hH)
    have s14 : Same H1 H4 := (s.trans s2).trans s4
    have sl : acc.length < sizeLine := by rw [hlen]; exact Nat.lt_of_lt_of_le hlt hn
    refine ⟨acc, h4, sl, same_upd s14 hD, acc ++ [y], upd_same, by rw [List.length_append, hlen]; rfl, fun j y' e => ?_⟩
    refine hU _ _ _ _ _ h4 ?_
    by_cases c : j < acc.length
    · rw [List.getElem?_append_left c] at e
      exact hR _ _ _ _ (s2.trans s4) (hacc j y' e)
    · rw [List.getElem?_append_right (by omega)] at e
      have hj : j - acc.length = 0 := by
        rcases Nat.eq_zero_or_pos (j - acc.length) with z | z
        · exact z
        · rw [List.getElem?_eq_none (by rw [List.length_singleton]; omega)] at e
          cases e
      rw [hj] at e
      have e' : y = y' := by simpa using e
      subst e'
      have : j = i := by omega
      rw [this]
      exact ry
  · have e : i = n := by omega
    subst e
    exact .inl ⟨S.stop H s, hd H acc s hlen hacc hH⟩
end XT

namespace XT
open PySem PySem.Spec PyProof.Rows L2
/-! ### calls in a try whose wishes are told at the caller's slots -/
section
variable {X : Cx} {CX : CXT} {k : Nat} {C f g : Addr} {m x : Str} {sp : Sp} {E : L2.St → XK} {o e fe : Expr} {es : List Expr} {ta tf : TE} {t : TA} {p apos pos : Pos} {pl : Sem Bool}
theorem run_fnRS {pins : List (Addr × Obj)} {σ : L2.St} {H : Hp} {s : Shared} {Q : VK} {E : XK} {us : List Value} {vs : List V} (F : FnR X.prog X.w X.K X.mg X.base CX k f sp) (hr : Room k X.A) (hx : PassesAt CX X σ E) (I : Inv X pins σ H s) (r : Vals vs us) (h : sp vs H Q E) :
    codeAny (model X.prog X.w) X.A (.call (.ref f) ⟨us, []⟩) (fun r s' => match r with | .ok (.ret v) => EP X pins σ Q v s' | .ok _ => False | .error e => X.xe e s') s := by
  refine codeAny_mono (F X.A X.stack s H us vs Q E hr I.env0 r h) fun r s' hq => ?_
  match r, hq with
  | .error e, hq => exact hx pins H s e s' I hq
  | .ok (.ret u), hq => exact I.after hq
def tMthS (C : Addr) (m : Str) (sp : Sp) (E : L2.St → XK) (ta : TE) (t : TA) : TE := fun σ H Q => ta σ H fun x H1 => ∃ a dx fs, x = .ref a ∧ H1 a = some (.ins C dx fs) ∧ fs.lookup m = none ∧ t σ H1 fun vs H2 => sp (.ref a :: vs) H2 Q (E σ)
theorem pe_mthS (he : PE X o ta) (c : Cls X.K C) (hm : Meth X.K C m f) (F : FnR X.prog X.w X.K X.mg X.base CX k f sp) (hr : Room k X.A) (hx : ∀ σ, PassesAt CX X σ (E σ)) (ha : PA X (e :: es) t)
    (hst : starEach (e :: es) X.env = (false, eval e X.env) :: starEach es X.env := by rfl) (hpl : (backTo pos (starEach es X.env)).any (·.1) = false := by rfl)
    (ht : eval (.Call (.Attribute o m apos) (e :: es) [] pos) X.env = (do
      let ov ← eval o X.env
      standAt apos.atName
      let (f, first) ← holding [ov] (getMethod ov m pl)
      callWith pos f first (backTo pos (starEach (e :: es) X.env)) (backToKw pos (keywordEach [] X.env))) := by rfl) :
    PE X (.Call (.Attribute o m apos) (e :: es) [] pos) (tMthS C m sp E ta t) := by
  refine ⟨fun pins s σ H Q I h => ?_⟩
  refine PySem.W.methodCall_KW (pl := pl) (thn (he.run pins s σ H _ I h) fun u s1 ⟨x, H1, I1, rx, a, dx, fs, ex, ea, l, q⟩ => ?_) ht
  subst ex
  obtain rfl : u = Value.ref a := rx
  refine getmeth_ok I1 ea c hm l (PySem.W.callWith_K (first := [.ref a]) (h₀ := X.base) I.ok.mod.kin hm.kp (thn (ha.run pos pins s1 σ H1 _ I1 q) fun us s2 ⟨vs, H2, I2, r, q2⟩ => ⟨I2.kIn, ?_⟩) hst hpl)
  exact wpAny_call (run_fnRS (us := .ref a :: us) (vs := .ref a :: vs) F hr (hx σ) I2 (.cons rfl r) q2)
def tCliS (C : Addr) (sp : Sp) (E : L2.St → XK) (tf : TE) (t : TA) : TE := fun σ H Q => tf σ H fun y H1 => ∃ a, y = V.ref a ∧ t σ H1 fun vs H2 => InsA H2 a C ∧ sp (V.ref a :: vs) H2 Q (E σ)
theorem pe_cliS (hf : PE X fe tf) (c : StX.CallO X.K C g) (F : FnR X.prog X.w X.K X.mg X.base CX k g sp) (hr : Room k X.A) (hx : ∀ σ, PassesAt CX X σ (E σ)) (ha : PA X (e :: es) t)
    (ht : eval (.Call fe (e :: es) [] pos) X.env = (do callWith pos (← eval fe X.env) [] (backTo pos (starEach (e :: es) X.env)) (backToKw pos (keywordEach [] X.env))) := by rfl)
    (he : starEach (e :: es) X.env = (false, eval e X.env) :: starEach es X.env := by rfl) (hpl : (backTo pos (starEach es X.env)).any (·.1) = false := by rfl) : PE X (.Call fe (e :: es) [] pos) (tCliS C sp E tf t) := by
  refine ⟨fun pins s σ H Q I h => ?_⟩
  refine Call_ (thn (hf.run pins s σ H _ I h) fun u s1 ⟨y, H1, I1, ry, a, ey, q⟩ => ?_) ht
  subst ey
  obtain rfl : u = Value.ref a := ry
  refine StX.callO_with (thn (ha.run pos pins s1 σ H1 _ I1 q) fun us s2 ⟨vs, H2, I2, r, hi, q2⟩ => ?_) he hpl
  have hi' : StX.InsC X H2 a C := let ⟨dx, fs, h⟩ := hi; .inr ⟨dx, fs, h⟩
  obtain ⟨ox, od, J, hd⟩ := StX.insC_at I2 hi'
  exact ⟨⟨C, ox, od, J, hd⟩, wpAny_call (PySem.W.kco_code I2.kIn J hd c.at_ c.fn c.fi (run_fnRS (us := .ref a :: us) (vs := .ref a :: vs) F hr (hx σ) I2 (.cons rfl r) q2))⟩
/-- f(e, ..), f a global def -/
def tClrS (sp : Sp) (E : L2.St → XK) (t : TA) : TE := fun σ H Q => t σ H fun vs H1 => sp vs H1 Q (E σ)
theorem pe_clrS (F : FnR X.prog X.w X.K X.mg X.base CX k f sp) (hr : Room k X.A) (hg : Gl X x) (hm : X.mg x = some (.ref f)) (hk : PySem.W.keepIn X.K (.ref f) = true) (hx : ∀ σ, PassesAt CX X σ (E σ)) (ha : PA X (e :: es) t) (hd : (x == ("__debug__" : Str)) = false := by decide)
    (he : starEach (e :: es) X.env = (false, eval e X.env) :: starEach es X.env := by rfl) (hst : (backTo pos (starEach es X.env)).any (·.1) = false := by rfl) :
    PE X (.Call (.Name x p) (e :: es) [] pos) (tClrS sp E t) := by
  refine ⟨fun pins s σ H Q I h => ?_⟩
  refine wpAny_Call_Name_kw (ld_glob I hg hm ?_ hd)
  refine PySem.W.callWith_K (h₀ := X.base) I.ok.mod.kin hk (thn (ha.run pos pins s σ H _ I h) fun us s1 ⟨vs, H1, I1, r, q⟩ => ⟨I1.kIn, ?_⟩) he hst
  exact wpAny_call (run_fnRS F hr (hx σ) I1 r q)
end
end XT

namespace XT
open PySem PySem.Spec PyProof.Rows L2
section
variable {X : Cx} {o : Expr} {lo hi : Option Expr} {to : TE} {tl th : TO} {pos p2 : Pos}
/-- o[lo:hi] = a list -/
def gSl (to : TE) (tl th : TO) : TG := fun v σ H Q => to σ H fun o H1 => tl σ H1 fun a H2 => th σ H2 fun c H3 =>
  ∃ (l b : Addr) (xs ys : List V) (i j : Int), o = .ref l ∧ v = .ref b ∧ a = some i ∧ c = some j ∧ H3 l = some (.lst xs) ∧ H3 b = some (.lst ys) ∧ l ≠ b ∧ 0 ≤ i ∧ i ≤ j ∧ j ≤ xs.length ∧ xs.length + ys.length ≤ sizeLine ∧
    Q σ (upd H3 l (.lst (xs.take i.toNat ++ ys ++ xs.drop j.toNat)))
theorem isPart_rel {u : Value} {i : Int} (h : IsPart u (some i)) : RelV (.int i) u := by
  cases h with
  | int i t => exact ⟨t, rfl⟩
theorem pg_slice (ho : PE X o to) (hl : PO X lo tl) (hu : PO X hi th)
    (ha : ∀ v, assign (.Subscript o (.Slice lo hi none p2) pos) X.env v = (do
      let ov ← holding [v] (eval o X.env)
      let iv ← holding [v, ov] (eval (.Slice lo hi none p2) X.env)
      standAt pos
      holding [v, ov, iv] (setItem ov iv v)
      release [iv, v, ov] []) := by intro _; rfl) : PG X (.Subscript o (.Slice lo hi none p2) pos) (gSl to tl th) := by
  refine ⟨fun pins s σ H v u Q I r h => ?_⟩
  rw [ha]
  refine wpAny_bind (wpAny_holding (thn (ho.run pins s σ H _ I h) fun ov s1 ⟨x, H1, I1, r1, q1⟩ => ?_))
  refine wpAny_bind (wpAny_holding ?_)
  refine wpAny_Slice (thn (hl.run pins s1 σ H1 _ I1 q1) fun vl s2 ⟨l, H2, I2, pl, q2⟩ => thn (hu.run pins s2 σ H2 _ I2 q2) fun vu s3 ⟨c, H3, I3, pu, q3⟩ => ?_)
  rw [evalPart_none]
  refine wpAny_pure ?_
  have I4 : Inv X pins σ H3 { s3 with heap := s3.heap.push { cls := .type "slice", data := .fields #[vl, vu, .none] } } := I3.kept (t' := s3.toks) fun b ob q => Heap.get?_push_of_some _ q
  obtain ⟨lA, bA, xs, ys, i, j, rfl, rfl, rfl, rfl, hx, hy, hne, h0, hij, hj, hz, q⟩ := q3
  cases r1
  cases r
  refine wpAny_bind (wpAny_standAt (wpAny_bind (wpAny_holding ?_)))
  refine set_slice I4 hx hy hne (Heap.IsSliceOf.new ..) (isPart_rel pl) (isPart_rel pu) h0 hij hj hz fun s' I' => ?_
  exact wpAny_release ⟨σ, _, I', q⟩
end
end XT

namespace Eff
open Tbl XT
theorem smp_big {t m : Int} : ∀ {S : List Stp} {c : Int}, (∀ s ∈ S, s.1 = false → s.2 ≤ m) → m + S.length ≤ c → smp t S c = c + gr t S
  | [], c, _, _ => by show c = c + 0; omega
  | (b, k) :: S, c, h, hc => by
    rw [List.length_cons] at hc
    have ih := fun (d : Int) (hd : m + S.length ≤ d) => smp_big (t := t) (S := S) (c := d) (fun s hs => h s (List.mem_cons_of_mem _ hs)) hd
    show smp t S (smp1 t c (b, k)) = c + (gr1 t (b, k) + gr t S)
    unfold smp1 gr1
    cases b with
    | true =>
      simp only [if_true]
      by_cases d : k ≤ t
      · rw [if_pos d, if_pos d, ih _ (by omega)]; omega
      · rw [if_neg d, if_neg d, ih _ (by omega)]; omega
    | false =>
      have := h _ List.mem_cons_self rfl
      simp only [Bool.false_eq_true, if_false]
      rw [if_pos (show k ≤ c by simp only at this; omega), ih _ (by omega)]
      omega
theorem range_filt {L : List Int} {lo : Int} {n : Nat} {p : Nat → Bool} (ha : Asc L) (hb : ∀ x ∈ L, lo ≤ x ∧ x < lo + n) (hp : ∀ i : Nat, i < n → (p i = true ↔ lo + (i : Int) ∈ L)) : ((List.range n).filter p).map (fun i : Nat => lo + (i : Int)) = L := by
  refine asc_ext ?_ ha fun x => ?_
  · refine List.pairwise_map.mpr ((List.pairwise_lt_range (n := n)).filter p |>.imp fun h => ?_)
    omega
  · rw [List.mem_map]
    constructor
    · rintro ⟨i, hi, rfl⟩
      obtain ⟨h1, h2⟩ := List.mem_filter.mp hi
      exact (hp i (List.mem_range.mp h1)).mp h2
    · intro hx
      obtain ⟨h1, h2⟩ := hb x hx
      refine ⟨(x - lo).toNat, List.mem_filter.mpr ⟨List.mem_range.mpr (by omega), (hp _ (by omega)).mpr ?_⟩, by omega⟩
      have : lo + (((x - lo).toNat : Nat) : Int) = x := by omega
      rw [this]
      exact hx
theorem mem_lost {t : Int} {S : List Stp} (g : ∀ s ∈ S, goodS s = true) {x : Int} (hx : 1 ≤ x) : x ∈ (tb t S).2 ↔ smp t S x = smp t S (x - 1) := by
  have o := tb_ok (t := t) g
  rw [cnt_mem o.asc, ← tb_mp g (show 0 ≤ x by omega), ← tb_mp g (show 0 ≤ x - 1 by omega)]
  unfold mp
  constructor <;> intro <;> omega
theorem lost_le {t m : Int} {S : List Stp} (g : ∀ s ∈ S, goodS s = true) (h : ∀ s ∈ S, s.1 = false → s.2 ≤ m) (hm : 0 ≤ m) : ∀ x ∈ (tb t S).2, x ≤ m + S.length := by
  intro x hx
  have o := tb_ok (t := t) g
  have h1 := o.pos x hx
  have h2 := (mem_lost g h1).mp hx
  refine Classical.byContradiction fun c => ?_
  rw [smp_big h (by omega), smp_big h (by omega)] at h2
  omega
def row (t : Int) (S : List Stp) : List Int := (List.range 31).map fun c : Nat => smp t S (c : Int)
theorem row_iff {S : List Stp} {B : List Int} (h : Brk S B) (g : ∀ s ∈ S, goodS s = true) (hr : ∀ s ∈ S, s.1 = false → s.2 ≤ 14) (hl : S.length ≤ 12) (t : Int) : ¬ row t S = row (t - 1) S ↔ t ∈ B := by
  rw [brk_iff h]
  constructor
  · intro c e
    exact c (List.map_congr_left fun x _ => (tb_eq_iff g g).mp e x (Int.natCast_nonneg _))
  · intro c e
    have hb := (h.mem t).mp ((brk_iff h t).mpr c)
    have h1 := gr_lt (t := t - 1) (u := t) (by omega) (Int.le_refl _) hb
    have h2 := congrArg (fun l => l[30]?) e
    simp only [row] at h2
    rw [List.getElem?_map, List.getElem?_map] at h2
    have h3 : (List.range 31)[30]? = some 30 := rfl
    rw [h3] at h2
    have h4 : smp t S ((30 : Nat) : Int) = smp (t - 1) S ((30 : Nat) : Int) := Option.some.inj h2
    rw [smp_big hr (by omega), smp_big hr (by omega)] at h4
    omega
theorem row_len (t : Int) (S : List Stp) : (row t S).length = 31 := by simp [row]
theorem cuts_eq {S : List Stp} {B : List Int} (h : Brk S B) (g : ∀ s ∈ S, goodS s = true) (hr : ∀ s ∈ S, -2 ≤ s.2 ∧ s.2 ≤ 14) (hl : S.length ≤ 12) :
    ((List.range 20).filter fun i : Nat => !decide (row (-5 + (i : Int)) S = row (-6 + (i : Int)) S)).map (fun i : Nat => -5 + (i : Int)) = B := by
  refine range_filt h.asc (fun x hx => ?_) fun i hi => ?_
  · have := hr _ ((h.mem x).mp hx)
    simp only at this
    omega
  · rw [← row_iff h g (fun s hs _ => (hr s hs).2) hl]
    have e : -5 + (i : Int) - 1 = -6 + (i : Int) := by omega
    rw [e]
    simp
theorem top14 {S : List Stp} (hr : ∀ s ∈ S, -2 ≤ s.2 ∧ s.2 ≤ 14) : Top 14 S := fun x hx => (hr _ hx).2
theorem need_eq {S : List Stp} (g : ∀ s ∈ S, goodS s = true) (hr : ∀ s ∈ S, -2 ≤ s.2 ∧ s.2 ≤ 14) (hl : S.length ≤ 12) :
    ((List.range 30).filter fun i : Nat => decide (smp 14 S (1 + (i : Int)) = smp 14 S (1 + (i : Int) - 1))).map (fun i : Nat => 1 + (i : Int)) = (tb (topOf S) S).2 := by
  rw [← tb_top (top14 hr)]
  have o := tb_ok (t := 14) g
  refine range_filt o.asc (fun x hx => ?_) fun i hi => ?_
  · have h1 := o.pos x hx
    have h2 := lost_le (m := 14) g (fun s hs _ => (hr s hs).2) (by decide) x hx
    omega
  · rw [mem_lost g (by omega)]
    simp
theorem grow_eq {S : List Stp} (hr : ∀ s ∈ S, -2 ≤ s.2 ∧ s.2 ≤ 14) (hl : S.length ≤ 12) : smp 14 S 30 - 30 = grow S := by
  rw [smp_big (m := 14) (fun s hs _ => (hr s hs).2) (by omega), gr_top (top14 hr)]
  omega
end Eff
namespace Eff
open Tbl XT
theorem top14c {S : List Stp} {k : Int} (hr : ∀ s ∈ S, -2 ≤ s.2 ∧ s.2 ≤ 14) : Top 14 (S ++ [(false, k)]) := fun x hx => by
  rcases List.mem_append.mp hx with h | h
  · exact (hr _ h).2
  · have := List.mem_singleton.mp h
    cases this
theorem great_need {S : List Stp} {k : Int} (g : ∀ s ∈ S, goodS s = true) (hr : ∀ s ∈ S, -2 ≤ s.2 ∧ s.2 ≤ 14) (hl : S.length ≤ 12) (hk : 1000 ≤ k) : need (S ++ [(false, k)]) = k - grow S := by
  have e0 : need (S ++ [(false, k)]) = needL (tb 14 (S ++ [(false, k)])).2 := by unfold need; rw [tb_top (top14c hr)]
  rw [e0, tb_snoc]
  have o := tb_ok (t := 14) g
  have ll := lost_le (t := 14) (m := 14) g (fun s hs _ => (hr s hs).2) (by decide)
  have lg := tb_gr 14 S
  have ls := tb_start 14 S
  rw [gr_top (top14 hr)] at lg
  generalize hp : tb 14 S = p at o ll lg ls ⊢
  obtain ⟨s, L⟩ := p
  simp only at o ll lg ls
  unfold tstep
  rw [if_neg (by simp), if_neg (show ¬ k ≤ s by omega)]
  have kp := kr_place o.asc (k - s)
  have kg := kr_ge L (k - s)
  have kc : cnt L (kr L (k - s)) = L.length := cnt_all fun x hx => by have := ll x hx; omega
  have e1 : insAt L (kr L (k - s) - (k - s)) (kr L (k - s)) = L ++ [kr L (k - s)] := by
    unfold insAt
    rw [kp, kc, Int.toNat_natCast, List.take_length, List.drop_length, List.append_nil]
  show needL (insAt L (kr L (k - s) - (k - s)) (kr L (k - s))) = _
  rw [e1]
  have e2 : needL (L ++ [kr L (k - s)]) = kr L (k - s) := by unfold needL; simp
  rw [e2]
  omega
theorem great_grow {S : List Stp} {k : Int} (hr : ∀ s ∈ S, -2 ≤ s.2 ∧ s.2 ≤ 14) : grow (S ++ [(false, k)]) = grow S - 1 := by
  rw [← gr_top (top14c hr), ← gr_top (top14 hr), gr_append]
  show gr 14 S + (gr1 14 (false, k) + 0) = _
  unfold gr1
  simp
  omega
theorem tb_low {S : List Stp} {B : List Int} (h : Brk S B) {t : Int} (ht : ∀ x, (true, x) ∈ S → t < x) : tb t S = tb (low B) S := tb_local fun x hx => by
  have h1 := ht x hx
  have h2 := low_lt h.asc x ((h.mem x).mpr hx)
  constructor <;> intro <;> omega
theorem tb_high {S : List Stp} {t : Int} (ht : ∀ x, (true, x) ∈ S → x ≤ t) : tb t S = tb (topOf S) S := tb_top ht
theorem brk_of_nil {B : List Int} (h : Brk [] B) : B = [] := h.ext brk_nil
end Eff

namespace Eff
open Tbl XT
/-! ### calling an effect: lengths -/
theorem runR_len : ∀ {S : List Stp} {N M : List Int} {i : Nat}, runR N i S = .inl M → M.length ≤ N.length + S.length
  | [], N, M, i, e => by
    have e' : (Sum.inl N : List Int ⊕ Nat) = .inl M := e
    cases e'
    exact Nat.le_refl _
  | s :: S, N, M, i, e => by
    simp only [runR] at e
    cases h : stepR N s with
    | none => rw [h] at e; cases e
    | some N1 =>
      rw [h] at e
      have h1 := runR_len e
      have h2 := stepR_len h
      rw [List.length_cons]
      omega
theorem asc_sub : ∀ {B L : List Int}, Asc B → (∀ x ∈ B, x ∈ L) → B.length ≤ L.length
  | [], L, _, _ => Nat.zero_le _
  | b :: B, L, a, h => by
    have hb := h b List.mem_cons_self
    have hp := List.pairwise_cons.mp a
    have := asc_sub (B := B) (L := L.erase b) hp.2 fun x hx => by
      have h1 := hp.1 x hx
      exact (List.mem_erase_of_ne (by omega)).mpr (h x (List.mem_cons_of_mem _ hx))
    rw [List.length_erase_of_mem hb] at this
    have : 0 < L.length := List.length_pos_of_mem hb
    rw [List.length_cons]
    omega
theorem brk_len {S : List Stp} {B : List Int} (h : Brk S B) : B.length ≤ S.length :=
  Nat.le_trans (asc_sub h.asc fun x hx => mem_ins.mpr ((h.mem x).mp hx)) (ins_len S)
theorem zip_self (A : List Int) (g : Int → Int) : A.zip (A.map g) = A.map fun v => (v, g v) := by
  induction A with
  | nil => rfl
  | cons x A ih => rw [List.map_cons, List.zip_cons_cons, ih, List.map_cons]
theorem rng_map (A : List Int) (g : Int → V) : ((List.range A.length).map fun i => g (A.getD i 0)) = A.map g := by
  apply List.ext_getElem
  · simp
  · intro i h1 h2
    simp at h1
    simp [h1]
theorem run_grow {T : Int} : ∀ {S : List Stp} {N M : List Int} {i : Nat}, Up N → (∀ s ∈ S, goodS s = true) → Top T S → runR N i S = .inl M → (M.length : Int) = N.length + gr T S
  | [], N, M, i, _, _, _, e => by
    have e' : (Sum.inl N : List Int ⊕ Nat) = .inl M := e
    cases e'
    show (N.length : Int) = N.length + 0
    omega
  | s :: S, N, M, i, u, g, tp, e => by
    simp only [runR] at e
    cases h : stepR N s with
    | none => rw [h] at e; cases e
    | some N1 =>
      rw [h] at e
      obtain ⟨u1, c1, l1, m1⟩ := step_cnt u (g s List.mem_cons_self) h
      have h1 := run_grow u1 (fun x hx => g x (List.mem_cons_of_mem _ hx)) (fun x hx => tp x (List.mem_cons_of_mem _ hx)) e
      show (M.length : Int) = N.length + (gr1 T s + gr T S)
      have : gr1 T s = if s.1 = true then 1 else -1 := by
        unfold gr1
        obtain ⟨b, k⟩ := s
        cases b with
        | true =>
          have := tp k List.mem_cons_self
          simp only [if_true]
          rw [if_pos this]
        | false => rfl
      omega
theorem run_len {S : List Stp} {N M : List Int} {i : Nat} (u : Up N) (g : ∀ s ∈ S, goodS s = true) (e : runR N i S = .inl M) : (M.length : Int) = N.length + grow S := run_grow u g (top_top S) e
/-! ### numbers renamed in order -/
def ren (f : Int → Int) (s : Stp) : Stp := if s.1 = true then (true, f s.2) else s
def Mono (f : Int → Int) : Prop := ∀ a b, a ≤ b → f a ≤ f b
theorem srt_map {f : Int → Int} (m : Mono f) (L : List Int) : (srt L).map f = srt (L.map f) :=
  srt_of ((srt_perm L).map f) (List.pairwise_map.mpr ((srt_up L).imp fun h => m _ _ h))
theorem srt_eq {L M : List Int} (p : L.Perm M) : srt L = srt M := srt_of ((srt_perm L).trans p) (srt_up L)
theorem srt_self {L : List Int} (u : Up L) : srt L = L := (srt_of (List.Perm.refl L) u).symm
theorem srt_srt (L : List Int) : srt (srt L) = srt L := srt_self (srt_up L)
theorem step_map {f : Int → Int} (m : Mono f) (L : List Int) (s : Stp) : stepR (L.map f) (ren f s) = (stepR L s).map (List.map f) := by
  obtain ⟨b, k⟩ := s
  cases b with
  | true =>
    show some (srt (L.map f ++ [f k])) = some ((srt (L ++ [k])).map f)
    rw [srt_map m, List.map_append]
    rfl
  | false =>
    show stepR (L.map f) (false, k) = _
    simp only [stepR, List.length_map]
    by_cases c : (L.length : Int) < k
    · rw [if_pos c, if_pos c]; rfl
    · rw [if_neg c, if_neg c]
      simp
theorem run_map {f : Int → Int} (m : Mono f) : ∀ (S : List Stp) (L : List Int) (i : Nat), runR (L.map f) i (S.map (ren f)) = Sum.map (List.map f) id (runR L i S)
  | [], L, i => rfl
  | s :: S, L, i => by
    simp only [runR, List.map_cons, step_map m]
    cases h : stepR L s with
    | none => rfl
    | some M => exact run_map m S M (i + 1)
/-! ### a smaller list has smaller results -/
theorem smp1_mono (t : Int) (s : Stp) {c d : Int} (h : c ≤ d) : smp1 t c s ≤ smp1 t d s := by
  unfold smp1
  split
  · split <;> omega
  · split <;> split <;> omega
theorem smp_mono (t : Int) : ∀ (S : List Stp) {c d : Int}, c ≤ d → smp t S c ≤ smp t S d
  | [], c, d, h => h
  | s :: S, c, d, h => smp_mono t S (smp1_mono t s h)
theorem cnt_ge_get {B : List Int} (u : Up B) {i : Nat} (h : i < B.length) : (i : Int) + 1 ≤ cnt B B[i] := by
  have e : cnt B B[i] = cnt (B.take (i + 1)) B[i] + cnt (B.drop (i + 1)) B[i] := by rw [← cnt_append, List.take_append_drop]
  have e2 : cnt (B.take (i + 1)) B[i] = (B.take (i + 1)).length := cnt_all fun x hx => by
    obtain ⟨j, hj, rfl⟩ := List.mem_iff_getElem.mp hx
    rw [List.length_take] at hj
    rw [List.getElem_take]
    rcases Nat.lt_or_ge j i with c | c
    · exact List.pairwise_iff_getElem.mp u j i (by omega) h c
    · have : j = i := by omega
      subst this
      exact Int.le_refl _
  have := cnt_nn (B.drop (i + 1)) B[i]
  rw [List.length_take] at e2
  omega
theorem cnt_lt_get {A : List Int} (u : Up A) {i : Nat} (h : i < A.length) {t : Int} (ht : t < A[i]) : cnt A t ≤ i := by
  have e : cnt A t = cnt (A.take i) t + cnt (A.drop i) t := by rw [← cnt_append, List.take_append_drop]
  have e2 : cnt (A.drop i) t = 0 := cnt_zero fun x hx => by
    obtain ⟨j, hj, rfl⟩ := List.mem_iff_getElem.mp hx
    rw [List.length_drop] at hj
    rw [List.getElem_drop]
    rcases Nat.eq_zero_or_pos j with c | c
    · subst c; exact ht
    · have := List.pairwise_iff_getElem.mp u i (i + j) h (by omega) (by omega)
      omega
  have := cnt_le_len (A.take i) t
  rw [List.length_take] at this
  omega
theorem dom_get {A B : List Int} (u : Up A) (v : Up B) (h : ∀ t, cnt B t ≤ cnt A t) {i : Nat} (hi : i < A.length) (hj : i < B.length) : A[i] ≤ B[i] := by
  by_cases c : B[i] < A[i]
  · have h1 := cnt_ge_get v hj
    have h2 := cnt_lt_get u hi c
    have h3 := h B[i]
    omega
  · omega
theorem cnt_pair {A B : List Int} (hl : A.length = B.length) (h : ∀ (i : Nat) (p : i < A.length) (q : i < B.length), A[i] ≤ B[i]) (t : Int) : cnt B t ≤ cnt A t := by
  induction A generalizing B with
  | nil =>
    cases B with
    | nil => exact Int.le_refl _
    | cons b B => cases hl
  | cons x A ih =>
    cases B with
    | nil => cases hl
    | cons b B =>
      rw [cnt_cons, cnt_cons]
      have h0 := h 0 (by simp) (by simp)
      have h1 := ih (B := B) (by simpa using hl) fun i p q => by
        have := h (i + 1) (Nat.succ_lt_succ p) (Nat.succ_lt_succ q)
        rw [List.getElem_cons_succ, List.getElem_cons_succ] at this
        exact this
      have h0' : x ≤ b := h0
      by_cases c : b ≤ t
      · rw [if_pos c, if_pos (by omega)]; omega
      · rw [if_neg c]; split <;> omega
theorem run_dom {S : List Stp} {A B C D : List Int} {i j : Nat} (g : ∀ s ∈ S, goodS s = true) (h : ∀ t, cnt B t ≤ cnt A t) (e1 : runR (srt A) i S = .inl C) (e2 : runR (srt B) j S = .inl D) : ∀ (k : Nat) (p : k < C.length) (q : k < D.length), C[k] ≤ D[k] := by
  obtain ⟨u1, c1, _⟩ := run_cnt (srt_up A) g e1
  obtain ⟨u2, c2, _⟩ := run_cnt (srt_up B) g e2
  exact fun k p q => dom_get u1 u2 (fun t => by rw [c1, c2]; exact smp_mono t S (by rw [cnt_srt, cnt_srt]; exact h t)) p q
/-! ### one more element beyond all others -/
theorem srt_big {K : Int} (L : List Int) (h : ∀ x ∈ L, x ≤ K) : srt (L ++ [K]) = srt L ++ [K] := by
  refine (srt_of ((List.Perm.append_right [K] (srt_perm L))) ?_).symm
  refine List.pairwise_append.mpr ⟨srt_up L, List.pairwise_singleton _ _, fun a ha b hb => ?_⟩
  rw [List.mem_singleton.mp hb]
  exact h a ((srt_perm L).mem_iff.mp ha)
theorem run_big {K : Int} : ∀ {S : List Stp} {L M : List Int} {i : Nat}, (∀ x ∈ L, x ≤ K) → (∀ s ∈ S, goodS s = true) → (∀ s ∈ S, s.1 = true → s.2 ≤ K) → runR L i S = .inl M → runR (L ++ [K]) i S = .inl (M ++ [K])
  | [], L, M, i, _, _, _, e => by
    have e' : (Sum.inl L : List Int ⊕ Nat) = .inl M := e
    cases e'
    rfl
  | (b, k) :: S, L, M, i, h, g, hk, e => by
    simp only [runR] at e ⊢
    cases b with
    | true =>
      have hkk : k ≤ K := hk (true, k) List.mem_cons_self rfl
      have e1 : stepR (L ++ [K]) (true, k) = some (srt (L ++ [k]) ++ [K]) := by
        show some (srt (L ++ [K] ++ [k])) = _
        rw [← srt_big (L ++ [k]) fun x hx => (List.mem_append.mp hx).elim (h x) fun z => by rw [List.mem_singleton.mp z]; exact hkk]
        congr 1
        refine srt_eq ?_
        rw [List.append_assoc, List.append_assoc]
        exact List.Perm.append_left L (List.perm_append_comm (l₁ := [K]) (l₂ := [k]))
      rw [e1]
      have e2 : stepR L (true, k) = some (srt (L ++ [k])) := rfl
      rw [e2] at e
      exact run_big (fun x hx => (List.mem_append.mp ((srt_perm _).mem_iff.mp hx)).elim (h x) fun z => by rw [List.mem_singleton.mp z]; exact hkk) (fun s hs => g s (List.mem_cons_of_mem _ hs)) (fun s hs => hk s (List.mem_cons_of_mem _ hs)) e
    | false =>
      have gk : 0 < k := by simpa [goodS] using g (false, k) List.mem_cons_self
      by_cases c : (L.length : Int) < k
      · have e2 : stepR L (false, k) = none := by simp only [stepR]; rw [if_pos c]
        rw [e2] at e
        cases e
      · have e2 : stepR L (false, k) = some (L.take (k - 1).toNat ++ L.drop k.toNat) := by simp only [stepR]; rw [if_neg c]
        have e3 : stepR (L ++ [K]) (false, k) = some (L.take (k - 1).toNat ++ L.drop k.toNat ++ [K]) := by
          simp only [stepR]
          rw [if_neg (by rw [List.length_append, List.length_singleton]; omega), List.take_append_of_le_length (by omega), List.drop_append_of_le_length (by omega), List.append_assoc]
        rw [e2] at e
        rw [e3]
        exact run_big (fun x hx => (List.mem_append.mp hx).elim (fun z => h x (List.mem_of_mem_take z)) fun z => h x (List.mem_of_mem_drop z)) (fun s hs => g s (List.mem_cons_of_mem _ hs)) (fun s hs => hk s (List.mem_cons_of_mem _ hs)) e
end Eff

namespace XT
open PySem PySem.Spec PyProof.Rows L2
theorem stat_enumL {K : PySem.W.Frag} {H0 : Hp} {a : Addr} {xs : List V} (h : SqL K H0 a xs) : StatJ (Ite K a) H0 xs.length (fun i v H => ∃ T x, v = .ref T ∧ H T = some (.tup [.int (i : Nat), x]) ∧ xs[i]? = some x) where
  go := fun i H hi s => ⟨xs, xs[i], s.seq h, by simp [hi]⟩
  stop := fun H s => ⟨xs, s.seq h, Nat.le_refl _⟩
  yld := fun i H x H' hi s y => by
    obtain ⟨T, x', e, n, e', y⟩ := y
    subst e e'
    exact ⟨same_new n, T, x', rfl, upd_same, y xs (s.seq h)⟩
/-- a comprehension over a list whose element changes something -/
theorem lcEL {K : PySem.W.Frag} {a : Addr} {xs : List V} {g : TG} {te : TE} {vs : List Nat} {σ : L2.St} {H1 : Hp} {D : Addr} {Qd : Hp → Prop} (I : Nat → Hp → List V → Prop) (h0 : I 0 (upd H1 D (.lst [])) []) (hn : xs.length ≤ sizeLine)
    (hl : ∀ i H acc, I i H acc → SqL K H a xs ∧ acc.length = i)
    (hs : ∀ i x H acc (R : V → Hp → Prop), xs[i]? = some x → I i H acc → (∀ y H', H' D = some (.lst acc) → I (i + 1) (upd H' D (.lst (acc ++ [y]))) (acc ++ [y]) → R y H') → g x (wipe σ vs) H fun σ2 H2 => wipe σ2 vs = wipe σ vs ∧ te σ2 H2 R)
    (hd : ∀ H acc, I xs.length H acc → Qd H) :
    ∃ W : Nat → Nat → Hp → Prop, (∃ m, W 0 m (upd H1 D (.lst []))) ∧ ∀ i m H, W i m H →
      ((Itl K a).stop i H ∧ Qd H) ∨ ((Itl K a).go i H ∧ ∃ Nx : Hp → Prop, (∀ H', Nx H' → ∃ m', m' < m ∧ W (i + 1) m' H') ∧ ∀ x H', (Itl K a).yld i H x H' → g x (wipe σ vs) H' fun σ2 H2 => wipe σ2 vs = wipe σ vs ∧ tYes σ2 H2 fun b H3 =>
        if b = true then te σ2 H3 fun y H4 => ∃ acc, H4 D = some (.lst acc) ∧ acc.length < sizeLine ∧ Nx (upd H4 D (.lst (acc ++ [y]))) else Nx H3) := by
  refine ⟨fun i m H => m = xs.length - i ∧ i ≤ xs.length ∧ ∃ acc, I i H acc, ⟨xs.length, by simp, Nat.zero_le _, _, h0⟩, ?_⟩
  rintro i m H ⟨rfl, hi, acc, hI⟩
  have q := (hl i H acc hI).1
  by_cases hlt : i < xs.length
  · have e : xs[i]? = some xs[i] := by simp [hlt]
    refine .inr ⟨⟨xs, xs[i], q, e⟩, fun H' => ∃ acc, I (i + 1) H' acc, fun H' p => ⟨xs.length - (i + 1), by omega, rfl, hlt, p⟩, fun x H' y => ?_⟩
    obtain ⟨e1, y⟩ := y
    subst e1
    have ex := y xs q
    show g _ _ _ fun σ2 H2 => _ ∧ (if true = true then te σ2 H2 fun y H4 => ∃ acc, H4 D = some (.lst acc) ∧ acc.length < sizeLine ∧ (∃ acc', I (i + 1) (upd H4 D (.lst (acc ++ [y]))) acc') else (∃ acc, I (i + 1) H2 acc))
    simp only [if_true]
    exact hs i x _ acc _ ex hI fun y H' e k => ⟨acc, e, by rw [(hl i _ acc hI).2]; exact Nat.lt_of_lt_of_le hlt hn, _, k⟩
  · have e : i = xs.length := by omega
    subst e
    exact .inl ⟨⟨xs, q, Nat.le_refl _⟩, hd H acc hI⟩
theorem outs_none (n : Nat) : outs (fun _ => Option.none) n = [] := by
  induction n with
  | zero => rfl
  | succ n ih => rw [outs_succ, ih]; rfl
end XT

namespace XT
open PySem PySem.Spec PyProof.Rows L2
/-- a comprehension over a list with a test, its items made anew -/
theorem lcELT {K : PySem.W.Frag} {a : Addr} {xs : List V} {g : TG} {tt : L2.St → Hp → (Bool → Hp → Prop) → Prop} {te : TE} {vs : List Nat} {σ : L2.St} {H1 : Hp} {D : Addr} {Qd : Hp → Prop} (I : Nat → Hp → List V → Prop) (h0 : I 0 (upd H1 D (.lst [])) []) (hn : xs.length ≤ sizeLine)
    (hl : ∀ i H acc, I i H acc → SqL K H a xs ∧ acc.length ≤ i)
    (hs : ∀ i x H acc (R : V → Hp → Prop) (Nx : Hp → Prop), xs[i]? = some x → I i H acc → (∀ y H', H' D = some (.lst acc) → I (i + 1) (upd H' D (.lst (acc ++ [y]))) (acc ++ [y]) → R y H') → (∀ H', I (i + 1) H' acc → Nx H') → g x (wipe σ vs) H fun σ2 H2 => wipe σ2 vs = wipe σ vs ∧ tt σ2 H2 fun b H3 => if b = true then te σ2 H3 R else Nx H3)
    (hd : ∀ H acc, I xs.length H acc → Qd H) :
    ∃ W : Nat → Nat → Hp → Prop, (∃ m, W 0 m (upd H1 D (.lst []))) ∧ ∀ i m H, W i m H →
      ((Itl K a).stop i H ∧ Qd H) ∨ ((Itl K a).go i H ∧ ∃ Nx : Hp → Prop, (∀ H', Nx H' → ∃ m', m' < m ∧ W (i + 1) m' H') ∧ ∀ x H', (Itl K a).yld i H x H' → g x (wipe σ vs) H' fun σ2 H2 => wipe σ2 vs = wipe σ vs ∧ tt σ2 H2 fun b H3 =>
        if b = true then te σ2 H3 fun y H4 => ∃ acc, H4 D = some (.lst acc) ∧ acc.length < sizeLine ∧ Nx (upd H4 D (.lst (acc ++ [y]))) else Nx H3) := by
  refine ⟨fun i m H => m = xs.length - i ∧ i ≤ xs.length ∧ ∃ acc, I i H acc, ⟨xs.length, by simp, Nat.zero_le _, _, h0⟩, ?_⟩
  rintro i m H ⟨rfl, hi, acc, hI⟩
  have q := (hl i H acc hI).1
  by_cases hlt : i < xs.length
  · have e : xs[i]? = some xs[i] := by simp [hlt]
    refine .inr ⟨⟨xs, xs[i], q, e⟩, fun H' => ∃ acc, I (i + 1) H' acc, fun H' p => ⟨xs.length - (i + 1), by omega, rfl, hlt, p⟩, fun x H' y => ?_⟩
    obtain ⟨e1, y⟩ := y
    subst e1
    have ex := y xs q
    exact hs i x _ acc _ _ ex hI (fun y H' e k => ⟨acc, e, by have := (hl i _ acc hI).2; exact Nat.lt_of_le_of_lt this (Nat.lt_of_lt_of_le hlt hn), _, k⟩) fun H' k => ⟨acc, k⟩
  · have e : i = xs.length := by omega
    subst e
    exact .inl ⟨⟨xs, q, Nat.le_refl _⟩, hd H acc hI⟩
end XT

/-! zip of any two walks: what the library has for two lists or two tuples, for walks of different kinds -/
namespace ZG
open PySem
open PySem.Sem (wp)
/-- a walk `it` over what stands at l: where it stands at turn k, and what it gives -/
structure Wk (it l : Addr) (St : Nat → Heap → Prop) (X : Nat → Option Value) : Prop where
  keep : ∀ {k : Nat} {h h' : Heap} {c : Addr}, St k h → Heap.ExtBut c h h' → it ≠ c → l ≠ c → St k h'
  more : ∀ {k : Nat} {h h' : Heap}, St k h → (∀ b o, h.get? b = some o → h'.get? b = some o) → St k h'
  lt : ∀ {k : Nat} {h : Heap}, St k h → it < h.objs.size
  item : ∀ {prog : Program} {w : World} {A : Around} {E : Value → Shared → Prop} {s : Shared} {k : Nat} {x : Value} {Q : Value → Shared → Prop}, St k s.heap → X k = some x →
    (∀ h', St (k + 1) h' → Heap.SameBut it s.heap h' → Q x { s with heap := h' }) → wpAny (model prog w) A (Builtin.SmallTypes.nextOf (.ref it)) Q E s
  fin : ∀ {prog : Program} {w : World} {A : Around} {E : Value → Shared → Prop} {s : Shared} {k : Nat} {Q : Value → Shared → Prop}, A.handled = none → St k s.heap → X k = none →
    (∀ h' e, Heap.ExtBut it s.heap h' → (∃ o, h'.get? e = some o ∧ o.cls = .type "StopIteration") → E (.ref e) { s with heap := h' }) → wpAny (model prog w) A (Builtin.SmallTypes.nextOf (.ref it)) Q E s
theorem wk_tup {it l : Addr} {xs : Array Value} (ne : l ≠ it) : Wk it l (fun k h => h.IsTupleIter it l k ∧ h.IsTuple l xs) (fun k => xs[k]?) where
  keep := fun a e n1 n2 => ⟨a.1.extBut e n1, a.2.extBut e n2⟩
  more := fun ⟨⟨o, h1, h2⟩, ⟨o', h3, h4⟩⟩ m => ⟨⟨o, m _ _ h1, h2⟩, ⟨o', m _ _ h3, h4⟩⟩
  lt := fun ⟨⟨_, h1, _⟩, _⟩ => Heap.lt_size h1
  item := fun a hx q => RZ.nextOf_tuple_item a.1 a.2 hx fun h' b sb => q h' ⟨b, a.2.extBut sb.extBut ne⟩ sb
  fin := fun hh a hx q => RZ.nextOf_tuple_end hh a.1 a.2 hx q
theorem wk_lst {it l : Addr} {xs : Array Value} (ne : l ≠ it) : Wk it l (fun k h => h.IsListIter it l k ∧ h.IsList l xs) (fun k => xs[k]?) where
  keep := fun a e n1 n2 => ⟨a.1.extBut e n1, a.2.extBut e n2⟩
  more := fun ⟨⟨o, h1, h2⟩, ⟨o', h3, h4⟩⟩ m => ⟨⟨o, m _ _ h1, h2⟩, ⟨o', m _ _ h3, h4⟩⟩
  lt := fun ⟨⟨_, h1, _⟩, _⟩ => Heap.lt_size h1
  item := fun a hx q => wpAny_nextOf_list_item a.1 a.2 hx fun h' b sb => q h' ⟨b, a.2.extBut sb.extBut ne⟩ sb
  fin := fun hh a hx q => wpAny_nextOf_list_end hh a.1 a.2 hx q
section
variable {prog : Program} {w : World} {A : Around} {E : Value → Shared → Prop} {s : Shared} {z TI TO i1 i2 l1 l2 : Addr} {k : Nat} {a b : Value} {S1 S2 : Nat → Heap → Prop} {X1 X2 : Nat → Option Value}
theorem next_item (W1 : Wk i1 l1 S1 X1) (W2 : Wk i2 l2 S2 X2) {x y : Value} {Q : Value → Shared → Prop} (D : ZipApart z TI TO i1 i2 l1 l2) (l1i2 : l1 ≠ i2) (hz : IsZip s.heap z TI TO .none) (hTI : IsPair s.heap TI (.ref i1) (.ref i2)) (hTO : IsPair s.heap TO a b)
    (h1 : S1 k s.heap) (h2 : S2 k s.heap) (hx : X1 k = some x) (hy : X2 k = some y)
    (hQ : ∀ g, IsZip g z TI TO (rawInt s.heap.objs.size) → IsPair g TO x y → S1 (k + 1) g → S2 (k + 1) g → IsPair g s.heap.objs.size x y → g.objs.size = s.heap.objs.size + 1 → (∀ c o, c ≠ z → c ≠ TO → c ≠ i1 → c ≠ i2 → s.heap.get? c = some o → g.get? c = some o) → Q (.ref s.heap.objs.size) { s with heap := g }) :
    wpAny (model prog w) A (Builtin.«zip.__next__» ⟨[.ref z], []⟩) (fun r t => ∃ v, r = .done (.ret v) ∧ Q v t) E s := by
  show wpAny _ _ (field (.ref z) 2 >>= fun _ => _) _ _ _
  refine wpAny_bind (wpAny_field hz rfl (x := .bool false) rfl ?_); show wpAny _ _ (field (.ref z) 3 >>= fun _ => _) _ _ _
  refine wpAny_bind (wpAny_field hz rfl (x := .ref TI) rfl ?_); refine wpAny_bind (wpAny_seqItems hTI rfl ?_)
  show wpAny _ _ (Builtin.SmallTypes.ownedTupleIsFree (.ref z) >>= fun _ => _) _ _ _
  refine wpAny_bind ?_; unfold Builtin.SmallTypes.ownedTupleIsFree
  refine wpAny_bind (wpAny_field hz rfl (x := .none) rfl (wpAny_pure ?_)); simp only [if_true]
  refine wpAny_bind (wpAny_rule ?_); refine wpAny_bind (wpAny_field hz rfl (x := .ref TO) rfl ?_)
  refine wpAny_bind (wpAny_setField_rec hz (by simp) fun g1 zg1 d1 => ?_)
  have zg1 : IsZip g1 z TI TO .ellipsis := zg1
  refine wpAny_bind ?_; simp only [List.zipIdx_cons, List.zipIdx_nil, List.forIn_cons, List.forIn_nil]
  have tg1 := d1.extBut _ _ D.TOz hTO
  have u1 := W1.keep h1 d1.extBut D.i1z D.l1z
  have u2 := W2.keep h2 d1.extBut D.i2z D.l2z
  refine wpAny_bind (wpAny_bind (wpAny_onRaise ?_)); show wpAny _ _ (Builtin.SmallTypes.nextOf (.ref i1) >>= fun _ => _) _ _ _
  refine wpAny_bind (W1.item u1 hx fun g2 v1 d2 => wpAny_pure ?_)
  have tg2 : IsPair g2 TO a b := d2.extBut _ _ D.TOi1 tg1
  have v2 := W2.keep u2 d2.extBut D.i12.symm D.l2i1
  refine wpAny_bind (wpAny_seqItems tg2 rfl ?_); refine wpAny_bind (wpAny_updateSeq_pair tg2 fun g3 tg3 d3 => ?_)
  have w2 := W2.keep v2 d3.extBut D.TOi2.symm D.l2TO
  have w1 := W1.keep v1 d3.extBut D.TOi1.symm D.l1TO
  refine wpAny_bind (wpAny_letGo (wpAny_pure ?_)); refine wpAny_bind (wpAny_bind (wpAny_onRaise ?_))
  show wpAny _ _ (Builtin.SmallTypes.nextOf (.ref i2) >>= fun _ => _) _ _ _
  have tg3 : IsPair g3 TO x b := tg3
  refine wpAny_bind (W2.item w2 hy fun g4 x2 d4 => wpAny_pure ?_)
  have tg4 : IsPair g4 TO x b := d4.extBut _ _ D.TOi2 tg3
  have x1 := W1.keep w1 d4.extBut D.i12 l1i2
  refine wpAny_bind (wpAny_seqItems tg4 rfl ?_); refine wpAny_bind (wpAny_updateSeq_pair tg4 fun g5 tg5 d5 => ?_)
  have tg5 : IsPair g5 TO x y := tg5
  have y1 := W1.keep x1 d5.extBut D.TOi1.symm D.l1TO
  have y2 := W2.keep x2 d5.extBut D.TOi2.symm D.l2TO
  refine wpAny_bind (wpAny_letGo (wpAny_pure (wpAny_pure ?_))); refine wpAny_bind (wpAny_seqItems tg5 rfl ?_); refine wpAny_bind (wpAny_newTuple ?_)
  have sz : g5.objs.size = s.heap.objs.size := d5.1.trans (d4.1.trans (d3.1.trans (d2.1.trans d1.1)))
  have zg5 : IsZip g5 z TI TO .ellipsis := d5.extBut _ _ D.TOz.symm (d4.extBut _ _ D.i2z.symm (d3.extBut _ _ D.TOz.symm (d2.extBut _ _ D.i1z.symm zg1)))
  have all5 : ∀ c o, c ≠ z → c ≠ TO → c ≠ i1 → c ≠ i2 → s.heap.get? c = some o → g5.get? c = some o := fun c o n1 n2 n3 n4 q => d5.extBut c o n2 (d4.extBut c o n4 (d3.extBut c o n2 (d2.extBut c o n3 (d1.extBut c o n1 q))))
  have zl : z < g5.objs.size := Heap.lt_size zg5
  show wpAny _ _ (Builtin.SmallTypes.ownedTupleHandOut (.ref z) (.ref g5.objs.size) >>= fun _ => _) _ _ _
  refine wpAny_bind ?_; unfold Builtin.SmallTypes.ownedTupleHandOut
  have zg6 : IsZip (g5.push { cls := .type "tuple", data := .seq #[x, y] }) z TI TO .ellipsis := Heap.get?_push_of_some _ zg5
  refine wpAny_bind (wpAny_setField_rec zg6 (by simp) fun g7 zg7 d7 => ?_)
  have zg7 : IsZip g7 z TI TO (rawInt g5.objs.size) := zg7
  refine wpAny_setField_rec zg7 (by simp) fun g8 zg8 d8 => ?_
  have zg8 : IsZip g8 z TI TO (rawInt g5.objs.size) := zg8
  have up : ∀ c o, c ≠ z → g5.get? c = some o → g8.get? c = some o := fun c o n q => d8.extBut c o n (d7.extBut c o n (Heap.get?_push_of_some _ q))
  have pt : IsPair g8 g5.objs.size x y := d8.extBut _ _ (Nat.ne_of_gt zl) (d7.extBut _ _ (Nat.ne_of_gt zl) (Heap.get?_push_size _ rfl))
  have s8 : g8.objs.size = g5.objs.size + 1 := d8.1.trans (d7.1.trans (Heap.size_push ..))
  have up2 : Heap.ExtBut z g5 g8 := fun c o n q => up c o n q
  rw [sz] at zg8 pt s8
  refine wpAny_pure ⟨_, rfl, ?_⟩; show Q (.ref g5.objs.size) _; rw [sz]
  exact hQ g8 zg8 (up _ _ D.TOz tg5) (W1.keep y1 up2 D.i1z D.l1z) (W2.keep y2 up2 D.i2z D.l2z) pt s8 fun c o n1 n2 n3 n4 q => up c o n1 (all5 c o n1 n2 n3 n4 q)
theorem next_fin (W1 : Wk i1 l1 S1 X1) (W2 : Wk i2 l2 S2 X2) {Q : Fin → Shared → Prop} (hh : A.handled = none) (D : ZipApart z TI TO i1 i2 l1 l2) (hz : IsZip s.heap z TI TO .none) (hTI : IsPair s.heap TI (.ref i1) (.ref i2)) (hTO : IsPair s.heap TO a b)
    (h1 : S1 k s.heap) (h2 : S2 k s.heap) (he : X1 k = none ∨ X2 k = none)
    (hE : ∀ g e, (∀ c o, c ≠ z → c ≠ TO → c ≠ i1 → c ≠ i2 → s.heap.get? c = some o → g.get? c = some o) → (∃ o, g.get? e = some o ∧ o.cls = .type "StopIteration") → E (.ref e) { s with heap := g }) :
    wpAny (model prog w) A (Builtin.«zip.__next__» ⟨[.ref z], []⟩) Q E s := by
  show wpAny _ _ (field (.ref z) 2 >>= fun _ => _) _ _ _
  refine wpAny_bind (wpAny_field hz rfl (x := .bool false) rfl ?_); show wpAny _ _ (field (.ref z) 3 >>= fun _ => _) _ _ _
  refine wpAny_bind (wpAny_field hz rfl (x := .ref TI) rfl ?_); refine wpAny_bind (wpAny_seqItems hTI rfl ?_)
  show wpAny _ _ (Builtin.SmallTypes.ownedTupleIsFree (.ref z) >>= fun _ => _) _ _ _
  refine wpAny_bind ?_; unfold Builtin.SmallTypes.ownedTupleIsFree
  refine wpAny_bind (wpAny_field hz rfl (x := .none) rfl (wpAny_pure ?_)); simp only [if_true]
  refine wpAny_bind (wpAny_rule ?_); refine wpAny_bind (wpAny_field hz rfl (x := .ref TO) rfl ?_)
  refine wpAny_bind (wpAny_setField_rec hz (by simp) fun g1 zg1 d1 => ?_)
  have zg1 : IsZip g1 z TI TO .ellipsis := zg1
  refine wpAny_bind ?_; simp only [List.zipIdx_cons, List.zipIdx_nil, List.forIn_cons, List.forIn_nil]
  have tg1 := d1.extBut _ _ D.TOz hTO
  have u1 := W1.keep h1 d1.extBut D.i1z D.l1z
  have u2 := W2.keep h2 d1.extBut D.i2z D.l2z
  refine wpAny_bind (wpAny_bind (wpAny_onRaise ?_)); show wpAny _ _ (Builtin.SmallTypes.nextOf (.ref i1) >>= fun _ => _) _ _ _
  cases hx : X1 k with
  | none =>
    refine wpAny_bind (W1.fin hh u1 hx fun g2 e d2 ho => ?_); obtain ⟨o, oe, oc⟩ := ho
    have zg2 : IsZip g2 z TI TO .ellipsis := d2 _ _ D.i1z.symm zg1
    have ez : e ≠ z := fun q => by rw [q, zg2] at oe; cases oe; simp at oc
    refine wpAny_setField_rec zg2 (by simp) fun g3 _ d3 => hE g3 e (fun c o n1 _ n3 _ q => d3.extBut c o n1 (d2 c o n3 (d1.extBut c o n1 q))) ⟨o, d3.extBut _ _ ez oe, oc⟩
  | some x =>
    have hy : X2 k = none := he.elim (fun q => by rw [hx] at q; cases q) id
    refine wpAny_bind (W1.item u1 hx fun g2 v1 d2 => wpAny_pure ?_)
    have tg2 : IsPair g2 TO a b := d2.extBut _ _ D.TOi1 tg1
    have v2 := W2.keep u2 d2.extBut D.i12.symm D.l2i1
    refine wpAny_bind (wpAny_seqItems tg2 rfl ?_); refine wpAny_bind (wpAny_updateSeq_pair tg2 fun g3 tg3 d3 => ?_)
    have w2 := W2.keep v2 d3.extBut D.TOi2.symm D.l2TO
    have w1 := W1.keep v1 d3.extBut D.TOi1.symm D.l1TO
    refine wpAny_bind (wpAny_letGo (wpAny_pure ?_)); refine wpAny_bind (wpAny_bind (wpAny_onRaise ?_))
    show wpAny _ _ (Builtin.SmallTypes.nextOf (.ref i2) >>= fun _ => _) _ _ _
    refine wpAny_bind (W2.fin hh w2 hy fun g4 e d4 ho => ?_); obtain ⟨o, oe, oc⟩ := ho
    have zg4 : IsZip g4 z TI TO .ellipsis := d4 _ _ D.i2z.symm (d3.extBut _ _ D.TOz.symm (d2.extBut _ _ D.i1z.symm zg1))
    have ez : e ≠ z := fun q => by rw [q, zg4] at oe; cases oe; simp at oc
    refine wpAny_setField_rec zg4 (by simp) fun g5 _ d5 => hE g5 e (fun c o n1 n2 n3 n4 q => d5.extBut c o n1 (d4 c o n4 (d3.extBut c o n2 (d2.extBut c o n3 (d1.extBut c o n1 q))))) ⟨o, d5.extBut _ _ ez oe, oc⟩
theorem py_item (W1 : Wk i1 l1 S1 X1) (W2 : Wk i2 l2 S2 X2) {x y : Value} {Q : Option Value → Shared → Prop} (D : ZipApart z TI TO i1 i2 l1 l2) (l1i2 : l1 ≠ i2) (hz : IsZip s.heap z TI TO .none) (hTI : IsPair s.heap TI (.ref i1) (.ref i2)) (hTO : IsPair s.heap TO a b)
    (h1 : S1 k s.heap) (h2 : S2 k s.heap) (hx : X1 k = some x) (hy : X2 k = some y)
    (hQ : ∀ g, IsZip g z TI TO (rawInt s.heap.objs.size) → IsPair g TO x y → S1 (k + 1) g → S2 (k + 1) g → IsPair g s.heap.objs.size x y → g.objs.size = s.heap.objs.size + 1 → (∀ c o, c ≠ z → c ≠ TO → c ≠ i1 → c ≠ i2 → s.heap.get? c = some o → g.get? c = some o) → Q (some (.ref s.heap.objs.size)) { s with heap := g }) :
    wpAny (model prog w) A (pyNext (.ref z)) Q E s := by
  have ty : s.TypeIs (.ref z) "zip" := ⟨_, hz, rfl⟩
  unfold pyNext
  exact wpAny_bind (wpAny_attempt (wpAny_callSpecial?_slot (name := Str.ofString "__next__") ty F.slot_zip_next (wpAny_call_entry F.slot_zip_next ty F.entry_zip_next (next_item W1 W2 D l1i2 hz hTI hTO h1 h2 hx hy fun g p1 p2 p3 p4 p5 p6 p7 => wpAny_pure (hQ g p1 p2 p3 p4 p5 p6 p7)) (F.args_zip_next_1 _))))
theorem py_fin (W1 : Wk i1 l1 S1 X1) (W2 : Wk i2 l2 S2 X2) {Q : Option Value → Shared → Prop} (hh : A.handled = none) (D : ZipApart z TI TO i1 i2 l1 l2) (hz : IsZip s.heap z TI TO .none) (hTI : IsPair s.heap TI (.ref i1) (.ref i2)) (hTO : IsPair s.heap TO a b)
    (h1 : S1 k s.heap) (h2 : S2 k s.heap) (he : X1 k = none ∨ X2 k = none)
    (hQ : ∀ g, (∀ c o, c ≠ z → c ≠ TO → c ≠ i1 → c ≠ i2 → s.heap.get? c = some o → g.get? c = some o) → Q none { s with heap := g }) : wpAny (model prog w) A (pyNext (.ref z)) Q E s := by
  have ty : s.TypeIs (.ref z) "zip" := ⟨_, hz, rfl⟩
  unfold pyNext
  refine wpAny_bind (wpAny_attempt (wpAny_callSpecial?_slot (name := Str.ofString "__next__") ty F.slot_zip_next (wpAny_call_entry F.slot_zip_next ty F.entry_zip_next (next_fin W1 W2 hh D hz hTI hTO h1 h2 he fun g e kp ho => ?_) (F.args_zip_next_1 _))))
  obtain ⟨o, oe, oc⟩ := ho
  exact wpAny_bind (wpAny_isInstance (T := "StopIteration") (b := true) ⟨o, oe, oc⟩ isSubtype_stop (wpAny_pure (hQ g kp)))
end
/-! ### zip of a tuple and a list -/
abbrev zA (h : Heap) (p : Addr) : Heap := h.push { cls := .type "tuple_iterator", data := .fields #[.ref p, .int 0 0] }
abbrev zB (h : Heap) (p q : Addr) : Heap := (zA h p).push { cls := .type "list_iterator", data := .fields #[.ref q, .int 0 0] }
abbrev zC (h : Heap) (p q : Addr) : Heap := (zB h p q).push { cls := .type "tuple", data := .seq #[.ref h.objs.size, .ref (zA h p).objs.size] }
abbrev zD (h : Heap) (p q : Addr) : Heap := (zC h p q).push { cls := .type "tuple", data := .seq #[.none, .none] }
abbrev zE (h : Heap) (p q : Addr) : Heap := (zD h p q).push { cls := .type "zip", data := .fields #[.none, .bool false, .bool false, .ref (zB h p q).objs.size, .ref (zC h p q).objs.size] }
theorem meets_new (p q : Addr) (xs ys : Array Value) :
    Meets (Builtin.«zip.__new__» ⟨[.type "zip", .ref p, .ref q], []⟩) (fun _ R s => s.heap.IsTuple p xs ∧ s.heap.IsList q ys ∧ R (.ok (.ret (.ref (zD s.heap p q).objs.size))) { s with heap := zE s.heap p q }) :=
  .of_wp fun prog w A R s h => by
    obtain ⟨hp, g, d, tk, os⟩ := s; obtain ⟨t1, t2, h⟩ := h; have hsub := sub_zip
    have j1 : Heap.IsTuple (Shared.heap ⟨hp, g, d, tk, os⟩) p xs := t1
    have j2 : Heap.IsList (Shared.heap ⟨hp.push { cls := .type "tuple_iterator", data := .fields #[.ref p, .int 0 0] }, g, d, tk, os⟩) q ys := Heap.IsList.push t2 _
    wp_walk using wpAny_pyIter_tuple j1, wpAny_pyIter_list j2
    exact ⟨_, rfl, h⟩
section
variable {prog : Program} {w : World} {A : Around} {E : Value → Shared → Prop} {s : Shared}
theorem call_new {p q : Addr} {xs ys : Array Value} {Q : Value → Shared → Prop} (t1 : s.heap.IsTuple p xs) (t2 : s.heap.IsList q ys)
    (h : ∀ g, IsZip g (s.heap.objs.size + 4) (s.heap.objs.size + 2) (s.heap.objs.size + 3) .none → IsPair g (s.heap.objs.size + 2) (.ref s.heap.objs.size) (.ref (s.heap.objs.size + 1)) → IsPair g (s.heap.objs.size + 3) .none .none →
      g.IsTupleIter s.heap.objs.size p 0 → g.IsListIter (s.heap.objs.size + 1) q 0 → g.objs.size = s.heap.objs.size + 5 → (∀ c o, s.heap.get? c = some o → g.get? c = some o) → Q (.ref (s.heap.objs.size + 4)) { s with heap := g }) :
    wpAny (model prog w) A (call (.type "zip") [.ref p, .ref q]) Q E s := by
  refine callType_new F.called_zip (by decide) (F.typeCall_zip_2 _ _) (F.newCall_zip_2 _ _) (fun o => F.args_object_init_3 o _ _) F.entry_zip_new (meets_new p q xs ys) ⟨t1, t2, ?_⟩
  have nA : (zA s.heap p).objs.size = s.heap.objs.size + 1 := Heap.size_push ..
  have nB : (zB s.heap p q).objs.size = s.heap.objs.size + 2 := (Heap.size_push ..).trans (by rw [nA])
  have nC : (zC s.heap p q).objs.size = s.heap.objs.size + 3 := (Heap.size_push ..).trans (by rw [nB])
  have nD : (zD s.heap p q).objs.size = s.heap.objs.size + 4 := (Heap.size_push ..).trans (by rw [nC])
  have nE : (zE s.heap p q).objs.size = s.heap.objs.size + 5 := (Heap.size_push ..).trans (by rw [nD])
  have kA : ∀ c o, s.heap.get? c = some o → (zA s.heap p).get? c = some o := fun c o e => Heap.get?_push_of_some _ e
  have kB : ∀ c o, (zA s.heap p).get? c = some o → (zE s.heap p q).get? c = some o := fun c o e => Heap.get?_push_of_some _ (Heap.get?_push_of_some _ (Heap.get?_push_of_some _ (Heap.get?_push_of_some _ e)))
  have kC : ∀ c o, (zB s.heap p q).get? c = some o → (zE s.heap p q).get? c = some o := fun c o e => Heap.get?_push_of_some _ (Heap.get?_push_of_some _ (Heap.get?_push_of_some _ e))
  have kD : ∀ c o, (zC s.heap p q).get? c = some o → (zE s.heap p q).get? c = some o := fun c o e => Heap.get?_push_of_some _ (Heap.get?_push_of_some _ e)
  have q5 : (zE s.heap p q).get? (zD s.heap p q).objs.size = some _ := Heap.get?_push_size _ rfl
  have q4 : (zE s.heap p q).get? (zC s.heap p q).objs.size = some _ := Heap.get?_push_of_some _ (Heap.get?_push_size _ rfl)
  have q3 : (zE s.heap p q).get? (zB s.heap p q).objs.size = some _ := kD _ _ (Heap.get?_push_size _ rfl)
  have q2 : (zE s.heap p q).get? (zA s.heap p).objs.size = some _ := kC _ _ (Heap.get?_push_size _ rfl)
  have q1 : (zE s.heap p q).get? s.heap.objs.size = some _ := kB _ _ (Heap.get?_push_size _ rfl)
  show _ ∧ _
  rw [nB, nC, nD] at q5
  rw [nA, nB] at q3
  rw [nC] at q4
  rw [nA] at q2
  rw [nD]
  exact ⟨⟨_, q5, rfl⟩, h _ q5 q3 q4 ⟨_, q1, rfl, rfl⟩ ⟨_, q2, rfl, rfl⟩ nE fun c o e => kB c o (kA c o e)⟩
end
open PySem.Spec PyProof.Rows L2
/-- a tuple and a list as they stand at each turn, the items in new pairs -/
def ItzM (K : PySem.W.Frag) (a b : Addr) : It :=
  ⟨fun i H => ∃ (xs ys : List V) (x y : V), SqT K H a xs ∧ SqL K H b ys ∧ xs[i]? = some x ∧ ys[i]? = some y, fun i H v H' => ∃ T x y, v = .ref T ∧ H T = none ∧ H' = upd H T (.tup [x, y]) ∧ (∀ xs, SqT K H a xs → xs[i]? = some x) ∧ ∀ ys, SqL K H b ys → ys[i]? = some y,
    fun i H => ∃ xs ys : List V, SqT K H a xs ∧ SqL K H b ys ∧ (xs.length ≤ i ∨ ys.length ≤ i)⟩
theorem turn_zipM {P : Program} {w : World} {K : PySem.W.Frag} {elts : List Expr} {kk : Nat} {tpos : Pos} {a b z TI TO i1 i2 : Addr} (D : ZipApart z TI TO i1 i2 a b) (ai1 : a ≠ i1) (ai2 : a ≠ i2) (bi2 : b ≠ i2) :
    Turn P w K (.Tuple elts kk tpos) (ItzM K a b) [z, TI, TO, i1, i2] z (fun i h => IsZip h z TI TO .none ∧ IsPair h TI (.ref i1) (.ref i2) ∧ (∃ x y, IsPair h TO x y) ∧ h.IsTupleIter i1 a i ∧ h.IsListIter i2 b i) where
  mem := by simp
  obj := fun i h st c hc => by
    obtain ⟨hz, hTI, ⟨x, y, hTO⟩, ⟨o1, e1, _, d1⟩, ⟨o2, e2, _, d2⟩⟩ := st
    simp only [List.mem_cons, List.not_mem_nil, or_false] at hc
    rcases hc with rfl | rfl | rfl | rfl | rfl
    · exact ⟨_, hz, fun v q => nomatch q⟩
    · exact ⟨_, hTI, fun v q => nomatch q⟩
    · exact ⟨_, hTO, fun v q => nomatch q⟩
    · exact ⟨o1, e1, fun v q => by rw [d1] at q; cases q⟩
    · exact ⟨o2, e2, fun v q => by rw [d2] at q; cases q⟩
  keep := fun i h h' ⟨hz, hTI, ⟨x, y, hTO⟩, h1, h2⟩ m => ⟨m z (by simp) _ hz, m TI (by simp) _ hTI, ⟨x, y, m TO (by simp) _ hTO⟩, h1.at fun o q => m i1 (by simp) o q, h2.at fun o q => m i2 (by simp) o q⟩
  item := by
    intro X hP hw hK hc i pins s σ H E I hf st hg
    subst hP hw hK
    obtain ⟨hz, hTI, ⟨x0, y0, hTO⟩, h1, h2⟩ := st
    obtain ⟨xs, ys, x, y, qx, qy, hx, hy⟩ := hg
    obtain ⟨its, rv, p, _⟩ := I.tuple qx; obtain ⟨its2, rv2, p2, _⟩ := I.list qy
    obtain ⟨u, hu, ru⟩ := rv.get hx; obtain ⟨u2, hu2, ru2⟩ := rv2.get hy
    have zl : z < s.heap.objs.size := Heap.lt_size hz
    refine py_item (wk_tup (xs := its.toArray) ai1) (wk_lst (xs := its2.toArray) bi2) D ai2 hz hTI hTO ⟨h1, p⟩ ⟨h2, p2.isList⟩ (x := u) (y := u2) (by simpa using hu) (by simpa using hu2) fun g zg tg v1 v2 pt sz all => ?_
    refine ⟨_, rfl, wpAny_letOwnedTupleGo_zip (s := { s with heap := g }) zg fun g2 zg2 sb => ?_⟩
    have pt2 : g2.get? s.heap.objs.size = some { cls := .type "tuple", data := .seq #[u, u2] } := (sb.2 _ (Nat.ne_of_gt zl)).trans pt
    have new : ObjOk X.prog X.w (upd H s.heap.objs.size (.tup [x, y])) g2 s.heap.objs.size (.tup [x, y]) := ⟨by show 2 ≤ sizeLine; decide, [u, u2], .cons ru (.cons ru2 .nil), ⟨_, pt2, rfl, _, rfl⟩⟩
    have stay : ∀ c o, c ∉ [z, TI, TO, i1, i2] → s.heap.get? c = some o → g2.get? c = some o := fun c o n e => by
      simp only [List.mem_cons, List.not_mem_nil, or_false, not_or] at n
      exact (sb.2 c n.1).trans (all c o n.1 n.2.2.1 n.2.2.2.1 n.2.2.2.2 e)
    have J : Inv X pins σ (upd H s.heap.objs.size (.tup [x, y])) { s with heap := g2 } := I.turnedNew (t' := s.toks) (ch := [z, TI, TO, i1, i2]) (fun c o n e => stay c o n e) hf (Nat.le_refl _) new
    refine ⟨.ref s.heap.objs.size, _, J, rfl, ⟨_, x, y, rfl, I.hok.fresh (Nat.le_refl _), rfl, fun l hl => by rw [I.tuple_inj hl qx]; exact hx, fun l hl => by rw [I.list_inj hl qy]; exact hy⟩, ⟨zg2, (sb.2 _ D.TIz).trans (all _ _ D.TIz D.TITO D.TIi1 D.TIi2 hTI), ⟨u, u2, (sb.2 _ D.TOz).trans tg⟩, v1.1.at fun o q => (sb.2 _ D.i1z).trans q, v2.1.at fun o q => (sb.2 _ D.i2z).trans q⟩, fun c hcm => ?_⟩
    have cl : c < s.heap.objs.size := by
      have hcm' := hcm
      simp only [List.mem_cons, List.not_mem_nil, or_false] at hcm'
      rcases hcm' with rfl | rfl | rfl | rfl | rfl
      · exact zl
      · exact Heap.lt_size hTI
      · exact Heap.lt_size hTO
      · exact (wk_tup (xs := its.toArray) ai1).lt ⟨h1, p⟩
      · exact (wk_lst (xs := its2.toArray) bi2).lt ⟨h2, p2.isList⟩
    rw [upd_ne (Nat.ne_of_lt cl)]
    exact (hf c hcm).1
  done := by
    intro X hP hw hK hc i pins s σ H E I hf st hg
    subst hP hw hK
    obtain ⟨hz, hTI, ⟨x0, y0, hTO⟩, h1, h2⟩ := st
    obtain ⟨xs, ys, qx, qy, hend⟩ := hg
    obtain ⟨its, rv, p, _⟩ := I.tuple qx; obtain ⟨its2, rv2, p2, _⟩ := I.list qy
    have n1 := rv.length
    have n2 := rv2.length
    refine py_fin (wk_tup (xs := its.toArray) ai1) (wk_lst (xs := its2.toArray) bi2) (I.ok.hd hc) D hz hTI hTO ⟨h1, p⟩ ⟨h2, p2.isList⟩ (k := i) (hend.elim (fun q => .inl (by simp; omega)) fun q => .inr (by simp; omega)) fun g all => ⟨rfl, ?_⟩
    refine I.turnedL (t' := s.toks) (ch := [z, TI, TO, i1, i2]) (fun c o n e => ?_) hf
    simp only [List.mem_cons, List.not_mem_nil, or_false, not_or] at n
    exact all c o n.1 n.2.2.1 n.2.2.2.1 n.2.2.2.2 e
  self := fun A i s Q E st h => wpAny_pyIter_zip st.1 h
def iZipM (K : PySem.W.Frag) (ta : TA) : TI := fun σ H R => ta σ H fun vs H1 => ∃ a b xs ys, vs = [.ref a, .ref b] ∧ SqT K H1 a xs ∧ SqL K H1 b ys ∧ R (ItzM K a b) H1
theorem zipM_here {X : Cx} {pins : List (Addr × Obj)} {σ : L2.St} {H1 : Hp} {s1 : Shared} {a b : Addr} {xs ys : List V} {elts : List Expr} {kk : Nat} {tpos : Pos} {R : It → Hp → Prop} (I1 : Inv X pins σ H1 s1) (qx : SqT X.K H1 a xs) (qy : SqL X.K H1 b ys) (q : R (ItzM X.K a b) H1) :
    wpAny (model X.prog X.w) X.A (call (.type "zip") [.ref a, .ref b]) (fun v s1 => wpAny (model X.prog X.w) X.A (pyIter v) (PIE X pins σ (.Tuple elts kk tpos) R) X.xe s1) X.xe s1 := by
  obtain ⟨its, rv, p1, _⟩ := I1.tuple qx; obtain ⟨its2, rv2, p2, _⟩ := I1.list qy
  obtain ⟨o1, ho1, _⟩ := id p1
  have la := Heap.lt_size ho1
  have lb := p2.lt
  refine call_new (show s1.heap.IsTuple a its.toArray from p1) p2.isList fun g hz hTI hTO h1 h2 sz all => wpAny_pyIter_zip hz ?_
  have J : Inv X pins σ H1 { s1 with heap := g } := I1.kept (t' := s1.toks) all
  refine ⟨s1.heap.objs.size + 4, [s1.heap.objs.size + 4, s1.heap.objs.size + 2, s1.heap.objs.size + 3, s1.heap.objs.size, s1.heap.objs.size + 1], _, _, H1, rfl, J, turn_zipM (PySem.W.ktu_apart s1.heap.objs.size a b la lb) (Nat.ne_of_lt la) (Nat.ne_of_lt (Nat.lt_succ_of_lt la)) (Nat.ne_of_lt (Nat.lt_succ_of_lt lb)), ⟨hz, hTI, ⟨_, _, hTO⟩, h1, h2⟩, fun c hcm => ?_, q⟩
  have le : s1.heap.objs.size ≤ c := by
    simp only [List.mem_cons, List.not_mem_nil, or_false] at hcm
    rcases hcm with rfl | rfl | rfl | rfl | rfl <;> omega
  exact I1.fpOk le (I1.hok.fresh le)
theorem pi_zipM {X : Cx} {e e2 : Expr} {ta : TA} {p pos tpos : Pos} {elts : List Expr} {kk : Nat} (hg : Gl X "zip") (hm : X.mg "zip" = none) (ha : PA X [e, e2] ta)
    (hs : starEach [e, e2] X.env = (false, eval e X.env) :: starEach [e2] X.env := by rfl) (hpl : (backTo pos (starEach [e2] X.env)).any (·.1) = false := by rfl) : PI X (.Tuple elts kk tpos) (.Call (.Name "zip" p) [e, e2] [] pos) (iZipM X.K ta) := by
  refine ⟨fun pins s σ H R I h => ?_⟩
  refine Call_ (ld_blt I hg hm PyProof.Rows.boot_zip (PyProof.Rows.callWith_type1 (thn (ha.run pos pins s σ H _ I h) fun us s1 ⟨vs, H1, I1, r1, q1⟩ => ?_) hs hpl))
  obtain ⟨a, b, xs, ys, rfl, qx, qy, q⟩ := q1
  cases r1 with
  | cons r rr => cases rr with | cons r' rr => cases rr; cases r; cases r'; exact zipM_here I1 qx qy q
/-- a loop over zip of a tuple and a list of one length -/
theorem for_zipM {K : PySem.W.Frag} {a b : Addr} {xs ys : List V} {g : TG} {tb : TS} {D : Ends} {σ : L2.St} {H : Hp} (hl : xs.length = ys.length) (Pv : Nat → L2.St → Hp → Prop) (h0 : Pv 0 σ H) (hq : ∀ i σ H, Pv i σ H → SqT K H a xs ∧ SqL K H b ys)
    (hs : ∀ (i : Nat) (x y : V) (T : Addr) (σ : L2.St) (H : Hp), xs[i]? = some x → ys[i]? = some y → Pv i σ H → H T = none → g (.ref T) σ (upd H T (.tup [x, y])) fun σ2 H2 => tb { D with nx := Pv (i + 1), ct := Pv (i + 1), bk := D.nx } σ2 H2) (hd : ∀ σ H, Pv xs.length σ H → D.nx σ H) :
    ∃ W : Nat → Nat → L2.St → Hp → Prop, (∃ m, W 0 m σ H) ∧ ∀ i m σ H, W i m σ H →
      ((ItzM K a b).stop i H ∧ D.nx σ H) ∨ ((ItzM K a b).go i H ∧ ∃ N : L2.St → Hp → Prop, (∀ σ' H', N σ' H' → ∃ m', m' < m ∧ W (i + 1) m' σ' H') ∧ ∀ v H', (ItzM K a b).yld i H v H' → g v σ H' fun σ2 H2 => tb { D with nx := N, ct := N, bk := D.nx } σ2 H2) := by
  refine ⟨fun i m σ H => m = xs.length - i ∧ i ≤ xs.length ∧ Pv i σ H, ⟨xs.length, by simp, Nat.zero_le _, h0⟩, ?_⟩
  rintro i m σ H ⟨rfl, hi, p⟩
  obtain ⟨qx, qy⟩ := hq i σ H p
  by_cases lt : i < xs.length
  · have lt2 : i < ys.length := hl ▸ lt
    refine .inr ⟨⟨xs, ys, _, _, qx, qy, List.getElem?_eq_getElem lt, List.getElem?_eq_getElem lt2⟩, Pv (i + 1), fun σ' H' p' => ⟨xs.length - (i + 1), by omega, rfl, lt, p'⟩, fun v H' ⟨T, x', y', ev, hT, eH, f1, f2⟩ => ?_⟩
    subst ev eH
    exact hs i x' y' T σ H (f1 xs qx) (f2 ys qy) p hT
  · obtain rfl : i = xs.length := by omega
    exact .inl ⟨⟨xs, ys, qx, qy, .inl (Nat.le_refl _)⟩, hd σ H p⟩
end ZG

namespace Eff
open Tbl XT
/-! ### numbers renamed: tables stay, breaks are renamed -/
def SMono (f : Int → Int) : Prop := ∀ a b, a < b → f a < f b
theorem SMono.mono {f : Int → Int} (h : SMono f) : Mono f := fun a b c => by
  by_cases e : a = b
  · rw [e]; exact Int.le_refl _
  · exact Int.le_of_lt (h a b (by omega))
theorem SMono.iff {f : Int → Int} (h : SMono f) (a b : Int) : f a ≤ f b ↔ a ≤ b := by
  constructor
  · intro c
    by_cases e : a ≤ b
    · exact e
    · have := h b a (by omega)
      omega
  · exact h.mono a b
theorem SMono.inj {f : Int → Int} (h : SMono f) {a b : Int} (e : f a = f b) : a = b := by
  have h1 := (h.iff a b).mp (by omega)
  have h2 := (h.iff b a).mp (by omega)
  omega
theorem tb_ren {f : Int → Int} {t u : Int} {S : List Stp} (h : ∀ x, (true, x) ∈ S → (f x ≤ t ↔ x ≤ u)) : tb t (S.map (ren f)) = tb u S := by
  have : ∀ (S : List Stp) (p : Int × List Int), (∀ x, (true, x) ∈ S → (f x ≤ t ↔ x ≤ u)) → (S.map (ren f)).foldl (tstep t) p = S.foldl (tstep u) p := by
    intro S
    induction S with
    | nil => intro p _; rfl
    | cons s S ih =>
      intro p h
      rw [List.map_cons, List.foldl_cons, List.foldl_cons]
      have e : tstep t p (ren f s) = tstep u p s := by
        obtain ⟨b, k⟩ := s
        unfold tstep ren
        cases b with
        | true =>
          have := h k List.mem_cons_self
          simp only [if_true]
          by_cases c : k ≤ u
          · rw [if_pos c, if_pos (this.mpr c)]
          · rw [if_neg c, if_neg fun z => c (this.mp z)]
        | false => simp
      rw [e]
      exact ih _ fun x hx => h x (List.mem_cons_of_mem _ hx)
  exact this S _ h
theorem good_ren {f : Int → Int} {S : List Stp} (g : ∀ s ∈ S, goodS s = true) : ∀ s ∈ S.map (ren f), goodS s = true := by
  intro s hs
  obtain ⟨x, hx, rfl⟩ := List.mem_map.mp hs
  have := g x hx
  unfold ren
  split
  · rfl
  · exact this
theorem mem_ren {f : Int → Int} {S : List Stp} {y : Int} : (true, y) ∈ S.map (ren f) ↔ ∃ x, (true, x) ∈ S ∧ f x = y := by
  constructor
  · intro h
    obtain ⟨⟨b, k⟩, hs, e⟩ := List.mem_map.mp h
    unfold ren at e
    cases b with
    | true =>
      simp only [if_true] at e
      exact ⟨k, hs, by injection e⟩
    | false =>
      simp at e
  · rintro ⟨x, hx, rfl⟩
    exact List.mem_map.mpr ⟨_, hx, rfl⟩
theorem brk_ren {f : Int → Int} (m : SMono f) {S : List Stp} {B : List Int} (h : Brk S B) : Brk (S.map (ren f)) (B.map f) where
  asc := List.pairwise_map.mpr (h.asc.imp fun z => m _ _ z)
  mem := fun x => by
    rw [mem_ren, List.mem_map]
    constructor
    · rintro ⟨y, hy, e⟩
      exact ⟨y, (h.mem y).mp hy, e⟩
    · rintro ⟨y, hy, e⟩
      exact ⟨y, (h.mem y).mpr hy, e⟩
theorem tbs_ren {f : Int → Int} (m : SMono f) {S : List Stp} {B : List Int} (h : Brk S B) : tbs (S.map (ren f)) (B.map f) = tbs S B := by
  have h2 := brk_ren m h
  unfold tbs thr
  rw [List.map_cons, List.map_cons, List.map_map]
  congr 1
  · refine tb_ren fun x hx => ?_
    have l1 := low_lt h.asc x ((h.mem x).mpr hx)
    have l2 := low_lt h2.asc (f x) ((h2.mem _).mpr (mem_ren.mpr ⟨x, hx, rfl⟩))
    constructor <;> intro <;> omega
  · refine List.map_congr_left fun t ht => ?_
    exact tb_ren fun x _ => m.iff x t
theorem runs_ren {f : Int → Int} (m : Mono f) {S : List Stp} {N M : List Int} {i : Nat} (h : runR (srt N) i S = .inl M) : runR (srt (N.map f)) i (S.map (ren f)) = .inl (M.map f) := by
  rw [← srt_map m, run_map m, h]
  rfl
theorem need_ren {f : Int → Int} (m : Mono f) {S : List Stp} {N : List Int} (g : ∀ s ∈ S, goodS s = true) (h : need S ≤ N.length) : need (S.map (ren f)) ≤ (N.map f).length := by
  obtain ⟨M, hM⟩ := (run_iff (i := 0) (up_srt N) g).mpr (by rw [srt_len]; exact h)
  have := (run_iff (i := 0) (up_srt (N.map f)) (good_ren g)).mp ⟨_, runs_ren m hM⟩
  rw [srt_len] at this
  exact this
theorem ren_ren (f g : Int → Int) (S : List Stp) : (S.map (ren f)).map (ren g) = S.map (ren fun x => g (f x)) := by
  rw [List.map_map]
  refine List.map_congr_left fun s _ => ?_
  obtain ⟨b, k⟩ := s
  cases b <;> simp [ren]
theorem ren_id {f : Int → Int} (h : ∀ x, f x = x) (S : List Stp) : S.map (ren f) = S := by
  have : S.map (ren f) = S.map id := List.map_congr_left fun s _ => by
    obtain ⟨b, k⟩ := s
    cases b <;> simp [ren, h]
  rw [this, List.map_id]
theorem add_smono (o : Int) : SMono fun x => x + o := fun a b h => by show a + o < b + o; omega
/-- the law's renaming -/
def nm (n : Int) : Int := n * 7 + (if n % 5 = 0 then 0 else if n % 5 = 1 then 3 else if n % 5 = 2 then 1 else if n % 5 = 3 then 5 else 2)
theorem nm_smono : SMono nm := fun a b h => by
  unfold nm
  have h1 : (if a % 5 = 0 then 0 else if a % 5 = 1 then 3 else if a % 5 = 2 then 1 else if a % 5 = 3 then 5 else 2 : Int) ≤ 5 := by (repeat' split) <;> omega
  have h2 : (0 : Int) ≤ (if b % 5 = 0 then 0 else if b % 5 = 1 then 3 else if b % 5 = 2 then 1 else if b % 5 = 3 then 5 else 2 : Int) := by (repeat' split) <;> omega
  omega
end Eff

namespace Eff
open Tbl XT
/-! ### sums of effects -/
theorem brk_add {S M : List Stp} {B C A : List Int} (h : Brk S B) (k : Brk M C) (a : Asc A) (m : ∀ x, x ∈ A ↔ x ∈ B ∨ x ∈ C) : Brk (S ++ M) A := ⟨a, fun x => by rw [m, h.mem, k.mem, List.mem_append]⟩
theorem good_add {S M : List Stp} (g : ∀ s ∈ S, goodS s = true) (g2 : ∀ s ∈ M, goodS s = true) : ∀ s ∈ S ++ M, goodS s = true := fun s hs => (List.mem_append.mp hs).elim (g s) (g2 s)
theorem runR_app : ∀ {S M : List Stp} {N R : List Int} {i : Nat}, runR N i (S ++ M) = .inl R → ∃ Q, runR N i S = .inl Q
  | [], M, N, R, i, _ => ⟨N, rfl⟩
  | s :: S, M, N, R, i, h => by
    rw [List.cons_append] at h
    simp only [runR] at h ⊢
    cases e : stepR N s with
    | none => rw [e] at h; cases h
    | some N1 =>
      rw [e] at h
      exact runR_app h
theorem need_mono {S M : List Stp} (g : ∀ s ∈ S, goodS s = true) (g2 : ∀ s ∈ M, goodS s = true) : need S ≤ need (S ++ M) := by
  have g3 := good_add g g2
  have n0 := need_nn g3
  have u : Up (List.replicate (need (S ++ M)).toNat (0 : Int)) := List.pairwise_replicate.mpr (.inr (Int.le_refl _))
  obtain ⟨R, hR⟩ := (run_iff (i := 0) u g3).mpr (by rw [List.length_replicate]; omega)
  have := (run_iff (i := 0) u g).mp (runR_app hR)
  rw [List.length_replicate] at this
  omega
theorem grow_add (S M : List Stp) : grow (S ++ M) = grow S + grow M := by
  have t := top_top (S ++ M)
  have h1 : gr (topOf (S ++ M)) S = grow S := gr_top fun x hx => t x (List.mem_append.mpr (.inl hx))
  have h2 : gr (topOf (S ++ M)) M = grow M := gr_top fun x hx => t x (List.mem_append.mpr (.inr hx))
  show gr (topOf (S ++ M)) (S ++ M) = _
  rw [gr_append, h1, h2]
def rep (k : Nat) (S : List Stp) : List Stp := (List.replicate k S).flatten
theorem rep_succ (k : Nat) (S : List Stp) : rep (k + 1) S = rep k S ++ S := by unfold rep; rw [List.replicate_succ']; simp
theorem rep_len (k : Nat) (S : List Stp) : (rep k S).length = k * S.length := by
  induction k with
  | zero => simp [rep]
  | succ k ih => rw [rep_succ, List.length_append, ih, Nat.succ_mul]
theorem rep_good {k : Nat} {S : List Stp} (g : ∀ s ∈ S, goodS s = true) : ∀ s ∈ rep k S, goodS s = true := fun s hs => by
  unfold rep at hs
  rw [List.mem_flatten] at hs
  obtain ⟨l, h1, h2⟩ := hs
  rw [List.eq_of_mem_replicate h1] at h2
  exact g s h2
theorem rep_nil (k : Nat) : rep k [] = [] := by simp [rep]
theorem nil_iff {S : List Stp} {B : List Int} (h : Brk S B) : (∀ t, tb t S = tb t []) ↔ B = [] ∧ tb (low B) S = (0, []) := by
  rw [← eff_ext h brk_nil]
  constructor
  · rintro ⟨rfl, e⟩
    refine ⟨rfl, ?_⟩
    have e' : [tb (low []) S] = [tb (low []) ([] : List Stp)] := e
    have := List.head_eq_of_cons_eq e'
    rw [this]
    rfl
  · rintro ⟨rfl, e⟩
    refine ⟨rfl, ?_⟩
    show [tb (low []) S] = [tb (low []) ([] : List Stp)]
    rw [e]
    rfl
theorem tb_nil (t : Int) : tb t [] = (0, []) := rfl
end Eff

namespace Eff
open Tbl XT
/-! ### what stays in each gap (results.kept) -/
/-- from the thresholds and the counts of the gaps: what each break gets, and what stays in each gap -/
def kp (S : List Stp) : List Int → List Int → Int → Int → List (Int × Int)
  | u :: us, c :: cs, old, total => (smp u S old - total, smp u S (old + c) - smp u S old) :: kp S us cs (old + c) (smp u S (old + c))
  | _, _, _, _ => []
theorem smp_local {t u : Int} : ∀ {S : List Stp} (c : Int), (∀ x, (true, x) ∈ S → (x ≤ t ↔ x ≤ u)) → smp t S c = smp u S c
  | [], c, _ => rfl
  | (b, k) :: S, c, h => by
    have e : smp1 t c (b, k) = smp1 u c (b, k) := by
      unfold smp1
      cases b with
      | true =>
        have := h k List.mem_cons_self
        simp only [if_true]
        by_cases q : k ≤ u
        · rw [if_pos q, if_pos (this.mpr q)]
        · rw [if_neg q, if_neg fun z => q (this.mp z)]
      | false => rfl
    show smp t S (smp1 t c (b, k)) = smp u S (smp1 u c (b, k))
    rw [e]
    exact smp_local _ fun x hx => h x (List.mem_cons_of_mem _ hx)
/-- how many of M lie strictly between e and f -/
def btw (M : List Int) (e f : Int) : Int := cnt M (f - 1) - cnt M e
/-- what the law counts: what stays in each gap, and the copies of each break -/
def gaps (M : List Int) : Int → List Int → List Int
  | e, f :: es => btw M e f :: gaps M f es
  | _, [] => []
/-- the counts of the gaps of N -/
def cgaps (N : List Int) : Int → List Int → List Int
  | e, f :: es => (cnt N (f - 1) - cnt N (e - 1)) :: cgaps N f es
  | _, [] => []
theorem kp_rec {S : List Stp} {N M : List Int} (hM : ∀ t, cnt M t = smp t S (cnt N t)) (top : Int) :
    ∀ (B : List Int) (e u total : Int), Asc B → (∀ b ∈ B, e < b) → (∀ b ∈ B, b < top) → (∀ b ∈ B, cnt N b = cnt N (b - 1)) → cnt N e = cnt N (e - 1) → (∀ x, (true, x) ∈ S → x ≤ e ∨ x ∈ B) → (∀ x, (true, x) ∈ S → (x ≤ u ↔ x ≤ e)) → e < top →
      (kp S (u :: B) (cgaps N e (B ++ [top])) (cnt N e) total).map (·.2) = gaps M e (B ++ [top]) ∧
      ((kp S (u :: B) (cgaps N e (B ++ [top])) (cnt N e) total).map (·.1)) = (smp u S (cnt N e) - total) :: B.map fun b => cnt M b - cnt M (b - 1)
  | [], e, u, total, _, _, _, _, he, hS, hu, ht => by
    have h1 : smp u S (cnt N e) = cnt M e := by rw [hM]; exact smp_local _ hu
    have h2 : smp u S (cnt N (top - 1)) = cnt M (top - 1) := by
      rw [hM]
      refine smp_local _ fun x hx => ?_
      have := hu x hx
      rcases hS x hx with h | h
      · constructor
        · intro; omega
        · intro; exact this.mpr h
      · cases h
    have e0 : cnt N e + (cnt N (top - 1) - cnt N (e - 1)) = cnt N (top - 1) := by omega
    refine ⟨?_, rfl⟩
    show [smp u S (cnt N e + (cnt N (top - 1) - cnt N (e - 1))) - smp u S (cnt N e)] = [cnt M (top - 1) - cnt M e]
    rw [e0, h2, h1]
  | b :: B, e, u, total, ha, hlt, htop, hb, he, hS, hu, ht => by
    have hp := List.pairwise_cons.mp ha
    have heb := hlt b List.mem_cons_self
    have h1 : smp u S (cnt N e) = cnt M e := by rw [hM]; exact smp_local _ hu
    have h2 : smp u S (cnt N (b - 1)) = cnt M (b - 1) := by
      rw [hM]
      refine smp_local _ fun x hx => ?_
      have := hu x hx
      rcases hS x hx with h | h
      · constructor
        · intro; omega
        · intro; exact this.mpr h
      · have hx2 : b ≤ x := by
          rcases List.mem_cons.mp h with h | h
          · omega
          · have := hp.1 x h; omega
        constructor
        · intro z; have := this.mp z; omega
        · intro z; omega
    have e0 : cnt N e + (cnt N (b - 1) - cnt N (e - 1)) = cnt N (b - 1) := by omega
    have hbb := hb b List.mem_cons_self
    obtain ⟨r1, r2⟩ := kp_rec hM top B b b (smp u S (cnt N (b - 1))) hp.2 hp.1 (fun x hx => htop x (List.mem_cons_of_mem _ hx)) (fun x hx => hb x (List.mem_cons_of_mem _ hx)) hbb (fun x hx => by
      rcases hS x hx with h | h
      · exact .inl (by omega)
      · rcases List.mem_cons.mp h with h | h
        · exact .inl (by omega)
        · exact .inr h) (fun x _ => Iff.rfl) (htop b List.mem_cons_self)
    rw [hbb] at r1 r2
    constructor
    · show (smp u S (cnt N e + (cnt N (b - 1) - cnt N (e - 1))) - smp u S (cnt N e)) :: (kp S (b :: B) (cgaps N b (B ++ [top])) (cnt N e + (cnt N (b - 1) - cnt N (e - 1))) (smp u S (cnt N e + (cnt N (b - 1) - cnt N (e - 1))))).map (·.2) = btw M e b :: gaps M b (B ++ [top])
      rw [e0, r1, h2, h1]
      rfl
    · show (smp u S (cnt N e) - total) :: (kp S (b :: B) (cgaps N b (B ++ [top])) (cnt N e + (cnt N (b - 1) - cnt N (e - 1))) (smp u S (cnt N e + (cnt N (b - 1) - cnt N (e - 1))))).map (·.1) = (smp u S (cnt N e) - total) :: (cnt M b - cnt M (b - 1)) :: B.map fun b => cnt M b - cnt M (b - 1)
      rw [e0, r2, h2, ← hbb, ← hM b]
end Eff

namespace Gap
open Tbl Eff XT
theorem count_cnt (x : Int) (L : List Int) : (L.count x : Int) = cnt L x - cnt L (x - 1) := by
  induction L with
  | nil => rfl
  | cons y L ih =>
    rw [cnt_cons, cnt_cons, List.count_cons]
    by_cases h : y = x
    · subst h
      rw [if_pos (show y ≤ y from Int.le_refl _), if_neg (show ¬ y ≤ y - 1 by omega), if_pos (show (y == y) = true by simp)]
      omega
    · rw [if_neg (show ¬ (y == x) = true by simpa using h)]
      by_cases h2 : y ≤ x
      · rw [if_pos h2, if_pos (show y ≤ x - 1 by omega)]
        omega
      · rw [if_neg h2, if_neg (show ¬ y ≤ x - 1 by omega)]
        omega
theorem cnt_hi {t : Int} : ∀ {L : List Int}, (∀ x ∈ L, x ≤ t) → cnt L t = L.length
  | [], _ => rfl
  | x :: L, h => by
    rw [cnt_cons, if_pos (h x List.mem_cons_self), cnt_hi fun y hy => h y (List.mem_cons_of_mem _ hy), List.length_cons]
    omega
theorem cnt_lo {t : Int} : ∀ {L : List Int}, (∀ x ∈ L, t < x) → cnt L t = 0
  | [], _ => rfl
  | x :: L, h => by
    have := h x List.mem_cons_self
    rw [cnt_cons, if_neg (by omega), cnt_lo fun y hy => h y (List.mem_cons_of_mem _ hy)]
    rfl
/-- the old elements: in each gap its mark, so often -/
def mk : List Int → List Int → List Int
  | m :: ms, c :: cs => List.replicate c.toNat m ++ mk ms cs
  | _, _ => []
def mark0 : List Int → Int
  | [] => 1
  | b :: _ => b - 1
def marks (B : List Int) : List Int := mark0 B :: B.map (· + 1)
theorem mem_mk {x : Int} : ∀ {ms cs : List Int}, x ∈ mk ms cs → x ∈ ms
  | [], _, h => by cases h
  | _ :: _, [], h => by cases h
  | m :: ms, c :: cs, h => by
    rcases List.mem_append.mp h with h | h
    · rw [(List.mem_replicate.mp h).2]; exact List.mem_cons_self
    · exact List.mem_cons_of_mem _ (mem_mk h)
theorem up_mk : ∀ {ms cs : List Int}, Asc ms → Up (mk ms cs)
  | [], _, _ => List.Pairwise.nil
  | _ :: _, [], _ => List.Pairwise.nil
  | m :: ms, c :: cs, h => by
    have h2 := List.pairwise_cons.mp h
    refine List.pairwise_append.mpr ⟨?_, up_mk h2.2, fun a ha b hb => ?_⟩
    · rw [List.pairwise_replicate]
      exact .inr (Int.le_refl _)
    · rw [(List.mem_replicate.mp ha).2]
      exact Int.le_of_lt (h2.1 b (mem_mk hb))
theorem len_mk : ∀ {ms cs : List Int}, ms.length = cs.length → (∀ c ∈ cs, 0 ≤ c) → ((mk ms cs).length : Int) = cs.sum
  | [], [], _, _ => rfl
  | [], _ :: _, h, _ => by cases h
  | _ :: _, [], h, _ => by cases h
  | m :: ms, c :: cs, h, h0 => by
    have := len_mk (ms := ms) (cs := cs) (by simpa using h) fun x hx => h0 x (List.mem_cons_of_mem _ hx)
    have := h0 c List.mem_cons_self
    show ((List.replicate c.toNat m ++ mk ms cs).length : Int) = c + cs.sum
    rw [List.length_append, List.length_replicate]
    omega
/-- from the threshold u on, the breaks lie apart -/
def Gd (S : List Stp) : Int → List Int → Prop
  | _, [] => True
  | u, b :: B => (∀ c, smp (b - 1) S c = smp u S c) ∧ (∀ c, smp (b + 1) S c = smp b S c) ∧ (∀ x ∈ B, b + 1 < x) ∧ Gd S b B
theorem kp_mk {S : List Stp} {M : List Int} : ∀ (B : List Int) (u m : Int) (cs : List Int) (old total : Int) (N P : List Int), cs.length = B.length + 1 → (∀ c ∈ cs, 0 ≤ c) → N = P ++ mk (m :: B.map (· + 1)) cs → (P.length : Int) = old → (∀ x ∈ P, x < m) →
    (∀ t, cnt M t = smp t S (cnt N t)) → (∀ c, smp m S c = smp u S c) → (∀ c, smp (m - 1) S c = smp u S c) → (∀ x ∈ B, m < x) → Gd S u B →
    (kp S (u :: B) cs old total).map (·.2) = (m :: B.map (· + 1)).map (fun x => (M.count x : Int)) ∧ (kp S (u :: B) cs old total).map (·.1) = (smp u S old - total) :: B.map fun x => (M.count x : Int)
  | B, u, m, [], old, total, N, P, hl, _, _, _, _, _, _, _, _, _ => by simp at hl
  | B, u, m, c :: cs, old, total, N, P, hl, h0, hN, hP, hPm, hM, hu, hu', hB, hG => by
    have c0 := h0 c List.mem_cons_self
    have rest : ∀ x ∈ mk (B.map (· + 1)) cs, m < x := fun x hx => by
      obtain ⟨b, hb, rfl⟩ := List.mem_map.mp (mem_mk hx)
      have := hB b hb
      omega
    have eN : N = (P ++ List.replicate c.toNat m) ++ mk (B.map (· + 1)) cs := by rw [hN, List.append_assoc]; rfl
    have n1 : cnt N m = old + c := by
      rw [eN, cnt_append, cnt_append, cnt_lo rest, cnt_hi (L := P) (t := m) (fun x hx => Int.le_of_lt (hPm x hx)), cnt_hi (L := List.replicate c.toNat m) (t := m) (fun x hx => by rw [(List.mem_replicate.mp hx).2]; exact Int.le_refl _), List.length_replicate]
      omega
    have n2 : cnt N (m - 1) = old := by
      rw [eN, cnt_append, cnt_append, cnt_lo (L := mk (B.map (· + 1)) cs) (t := m - 1) (fun x hx => by have := rest x hx; omega), cnt_hi (L := P) (t := m - 1) (fun x hx => by have := hPm x hx; omega), cnt_lo (L := List.replicate c.toNat m) (t := m - 1) (fun x hx => by rw [(List.mem_replicate.mp hx).2]; omega)]
      omega
    have e2 : smp u S (old + c) - smp u S old = (M.count m : Int) := by
      rw [count_cnt, hM m, hM (m - 1), n1, n2, hu, hu']
    cases B with
    | nil =>
      cases cs with
      | nil => exact ⟨by show [smp u S (old + c) - smp u S old] = [(M.count m : Int)]; rw [e2], rfl⟩
      | cons d cs => simp at hl
    | cons b B =>
      obtain ⟨g1, g2, g3, g4⟩ := hG
      have hmb := hB b List.mem_cons_self
      have lo : ∀ x ∈ mk ((b :: B).map (· + 1)) cs, b < x := fun x hx => by
        rcases List.mem_cons.mp (mem_mk hx) with rfl | h
        · show b < b + 1
          omega
        · obtain ⟨y, hy, rfl⟩ := List.mem_map.mp h
          have := g3 y hy
          show b < y + 1
          omega
      have hPr : ∀ x ∈ P ++ List.replicate c.toNat m, x ≤ m := fun x hx => by
        rcases List.mem_append.mp hx with hx | hx
        · exact Int.le_of_lt (hPm x hx)
        · rw [(List.mem_replicate.mp hx).2]; exact Int.le_refl _
      have lP : ((P ++ List.replicate c.toNat m).length : Int) = old + c := by
        rw [List.length_append, List.length_replicate]
        omega
      have n3 : cnt N b = old + c := by
        rw [eN, cnt_append, cnt_lo lo, cnt_hi (L := P ++ List.replicate c.toNat m) (t := b) (fun x hx => by have := hPr x hx; omega), lP]
        omega
      have n4 : cnt N (b - 1) = old + c := by
        rw [eN, cnt_append, cnt_lo (L := mk ((b :: B).map (· + 1)) cs) (t := b - 1) (fun x hx => by have := lo x hx; omega), cnt_hi (L := P ++ List.replicate c.toNat m) (t := b - 1) (fun x hx => by have := hPr x hx; omega), lP]
        omega
      obtain ⟨r1, r2⟩ := kp_mk B b (b + 1) cs (old + c) (smp u S (old + c)) N (P ++ List.replicate c.toNat m) (by simpa using hl) (fun x hx => h0 x (List.mem_cons_of_mem _ hx)) eN lP (fun x hx => by have := hPr x hx; omega) hM g2 (fun d => by rw [show b + 1 - 1 = b by omega]) g3 g4
      refine ⟨?_, ?_⟩
      · show (smp u S (old + c) - smp u S old) :: (kp S (b :: B) cs (old + c) (smp u S (old + c))).map (·.2) = (M.count m : Int) :: ((b + 1) :: B.map (· + 1)).map fun x => (M.count x : Int)
        rw [e2, r1]
      · show (smp u S old - total) :: (kp S (b :: B) cs (old + c) (smp u S (old + c))).map (·.1) = (smp u S old - total) :: (M.count b : Int) :: B.map fun x => (M.count x : Int)
        rw [r2, count_cnt b M, hM b, hM (b - 1), n3, n4, g1]
theorem gd_of {S : List Stp} (ev : ∀ x, (true, x) ∈ S → x % 2 = 0) : ∀ (B : List Int) (u : Int), Asc B → (∀ b ∈ B, b % 2 = 0 ∧ u < b) → (∀ x, (true, x) ∈ S → x ≤ u ∨ x ∈ B) → Gd S u B
  | [], _, _, _, _ => trivial
  | b :: B, u, ha, hb, hS => by
    have h2 := List.pairwise_cons.mp ha
    obtain ⟨eb, ub⟩ := hb b List.mem_cons_self
    have ge : ∀ x, x ∈ b :: B → b ≤ x := fun x hx => by
      rcases List.mem_cons.mp hx with rfl | h
      · exact Int.le_refl _
      · exact Int.le_of_lt (h2.1 x h)
    refine ⟨fun c => smp_local c fun x hx => ?_, fun c => smp_local c fun x hx => ?_, fun x hx => ?_, gd_of ev B b h2.2 (fun x hx => ⟨(hb x (List.mem_cons_of_mem _ hx)).1, h2.1 x hx⟩) fun x hx => ?_⟩
    · rcases hS x hx with h | h
      · constructor <;> intro <;> omega
      · have := ge x h
        constructor <;> intro <;> omega
    · have := ev x hx
      constructor
      · intro z
        by_cases q : x = b + 1
        · omega
        · omega
      · intro z; omega
    · have := h2.1 x hx
      have := (hb x (List.mem_cons_of_mem _ hx)).1
      omega
    · rcases hS x hx with h | h
      · exact .inl (by omega)
      · rcases List.mem_cons.mp h with h | h
        · exact .inl (by omega)
        · exact .inr h
/-- kept over the marks -/
theorem kept_marks {S : List Stp} {B C M : List Int} (hB : Brk S B) (ev : ∀ x, (true, x) ∈ S → x % 2 = 0) (hC : C.length = B.length + 1) (h0 : ∀ c ∈ C, 0 ≤ c) (hM : ∀ t, cnt M t = smp t S (cnt (mk (marks B) C) t)) :
    (kp S (thr B) C 0 0).map (·.2) = (marks B).map (fun x => (M.count x : Int)) ∧ ((kp S (thr B) C 0 0).map (·.1)).drop 1 = B.map fun x => (M.count x : Int) := by
  have evB : ∀ b ∈ B, b % 2 = 0 := fun b hb => ev b ((hB.mem b).mp hb)
  have lo := low_lt hB.asc
  have key := kp_mk (S := S) (M := M) B (low B) (mark0 B) C 0 0 (mk (marks B) C) [] hC h0 rfl rfl (fun x hx => by cases hx) hM
  cases B with
  | nil =>
    have no : ∀ x, ¬ (true, x) ∈ S := fun x hx => by cases (hB.mem x).mpr hx
    obtain ⟨r1, r2⟩ := key (fun c => smp_local c fun x hx => absurd hx (no x)) (fun c => smp_local c fun x hx => absurd hx (no x)) (fun x hx => by cases hx) trivial
    exact ⟨r1, by unfold thr; rw [r2]; rfl⟩
  | cons b B =>
    have ge : ∀ x, (true, x) ∈ S → b ≤ x := fun x hx => by
      have := lo x ((hB.mem x).mpr hx)
      simp only [low] at this
      omega
    obtain ⟨r1, r2⟩ := key (fun c => rfl) (fun c => smp_local c fun x hx => by have := ge x hx; simp only [mark0, low]; constructor <;> intro <;> omega) (fun x hx => by have := lo x hx; simp only [low] at this; simp only [mark0]; omega) (gd_of ev _ _ hB.asc (fun x hx => ⟨evB x hx, lo x hx⟩) fun x hx => .inr ((hB.mem x).mpr hx))
    exact ⟨r1, by unfold thr; rw [r2]; rfl⟩
theorem asc_marks {S : List Stp} {B : List Int} (hB : Brk S B) (ev : ∀ x, (true, x) ∈ S → x % 2 = 0) : Asc (marks B) := by
  have evB : ∀ b ∈ B, b % 2 = 0 := fun b hb => ev b ((hB.mem b).mp hb)
  have lo := low_lt hB.asc
  refine List.pairwise_cons.mpr ⟨fun x hx => ?_, ?_⟩
  · obtain ⟨b, hb, rfl⟩ := List.mem_map.mp hx
    cases B with
    | nil => cases hb
    | cons b0 B =>
      have := lo b hb
      simp only [low] at this
      simp only [mark0]
      omega
  · rw [List.pairwise_map]
    exact hB.asc.imp fun h => by omega
theorem zip_map (f : Int → Int) : ∀ B : List Int, B.zip (B.map f) = B.map fun v => (v, f v)
  | [] => rfl
  | b :: B => by rw [List.map_cons, List.zip_cons_cons, zip_map f B]; rfl
/-- the inserted numbers that stay -/
theorem kn_marks {S : List Stp} {B M N : List Int} (hB : Brk S B) (up : Up M) (hb : ∀ x, (true, x) ∈ S → x < 99) (hN : ∀ x ∈ N, x = 99) (hM : ∀ t, cnt M t = smp t S (cnt N t)) (hmem : ∀ x ∈ M, x ∈ N ∨ (true, x) ∈ S) :
    spr 0 (B.zip (B.map fun b => smp b S 0)) = M.filter fun x => decide (x ≠ 99) := by
  rw [zip_map]
  refine spr_run hB.asc (up.sublist List.filter_sublist) (fun x hx => ?_) (fun v hv => ?_)
  · obtain ⟨h1, h2⟩ := List.mem_filter.mp hx
    rcases hmem x h1 with h | h
    · exact absurd (hN x h) (by simpa using h2)
    · exact (hB.mem x).mpr h
  · have v99 := hb v ((hB.mem v).mp hv)
    have e1 : cnt N v = 0 := cnt_lo fun x hx => by rw [hN x hx]; exact v99
    have e2 : cnt (M.filter fun x => decide (x ≠ 99)) v = cnt M v := by
      clear hM hmem up
      induction M with
      | nil => rfl
      | cons y M ih =>
        by_cases hy : y = 99
        · rw [List.filter_cons_of_neg (by simp [hy]), cnt_cons, if_neg (by omega), ih]
          omega
        · rw [List.filter_cons_of_pos (by simp [hy]), cnt_cons, cnt_cons, ih]
    rw [e2, hM v, e1]
    omega
theorem run_long {K : Int} : ∀ {S : List Stp} {N : List Int} {i : Nat}, (∀ s ∈ S, goodS s = true) → (∀ s ∈ S, s.1 = false → s.2 ≤ K) → K + (S.length : Int) ≤ N.length → ∃ M, runR N i S = .inl M
  | [], N, i, _, _, _ => ⟨N, rfl⟩
  | s :: S, N, i, g, h, hl => by
    rw [List.length_cons] at hl
    have gs := g s List.mem_cons_self
    have step : ∃ M, stepR N s = some M ∧ (N.length : Int) - 1 ≤ M.length := by
      obtain ⟨b, n⟩ := s
      cases b with
      | true => exact ⟨srt (N ++ [n]), rfl, by rw [srt_len, List.length_append]; simp; omega⟩
      | false =>
        have hn := h (false, n) List.mem_cons_self rfl
        have n1 : 0 < n := by simpa [goodS] using gs
        refine ⟨N.take (n - 1).toNat ++ N.drop n.toNat, ?_, ?_⟩
        · simp only [stepR]
          rw [if_neg (show ¬ (N.length : Int) < n by have : n ≤ K := hn; omega)]
        · rw [List.length_append, List.length_take, List.length_drop]
          have : n ≤ K := hn
          omega
    obtain ⟨M, e, hM⟩ := step
    obtain ⟨M', e'⟩ := run_long (S := S) (N := M) (i := i + 1) (fun x hx => g x (List.mem_cons_of_mem _ hx)) (fun x hx => h x (List.mem_cons_of_mem _ hx)) (by omega)
    exact ⟨M', by rw [← e']; simp only [runR, e]⟩
theorem need_bound {K : Int} {S : List Stp} (g : ∀ s ∈ S, goodS s = true) (k0 : 0 ≤ K) (h : ∀ s ∈ S, s.1 = false → s.2 ≤ K) : need S ≤ K + S.length := by
  have h1 := run_long (K := K) (S := S) (N := List.replicate (K + S.length).toNat 0) (i := 0) g h (by rw [List.length_replicate]; omega)
  have h2 := (run_iff (N := List.replicate (K + S.length).toNat 0) (i := 0) (by show List.Pairwise _ _; rw [List.pairwise_replicate]; exact .inr (Int.le_refl _)) g).mp h1
  rw [List.length_replicate] at h2
  omega
end Gap

namespace XT
open PySem PySem.Spec PyProof.Rows L2
/-! ### sum(t), t a tuple of ints -/
section
variable {prog : Program} {w : World} {A : Around} {E : Value → Shared → Prop} {s : Shared} {l : Addr} {xs : Array (Int × Tok)}
theorem iter_intTup {Q : Value → Shared → Prop} (hl : s.heap.IsTuple l (intItems xs))
    (h : ∀ s₂ : Shared, s₂ = { s with heap := s.heap.push { cls := .type "tuple_iterator", data := .fields #[.ref l, .int 0 0] } } →
      (s₂.heap.IsTupleIter s.heap.objs.size l 0 ∧ s₂.heap.IsTuple l (intItems xs)) → (∀ b ∈ [s.heap.objs.size, l], b < s₂.heap.objs.size) → l ≠ s.heap.objs.size → Q (.ref s.heap.objs.size) s₂) :
    wpAny (model prog w) A (pyIter (.ref l)) Q E s := by
  have hlt : l < s.heap.objs.size := by obtain ⟨_, e, _⟩ := hl; exact Heap.lt_size e
  refine wpAny_pyIter_tuple hl (h _ rfl ⟨⟨_, Heap.get?_push_size _ rfl, rfl, rfl⟩, hl.push _⟩ (fun b hb => ?_) (Nat.ne_of_lt hlt))
  show b < (s.heap.push _).objs.size
  rw [Heap.size_push]
  rcases List.mem_cons.mp hb with rfl | hb
  · exact Nat.lt_succ_self _
  · rcases List.mem_cons.mp hb with rfl | hb
    · exact Nat.lt_succ_of_lt hlt
    · cases hb
theorem sum_intTup {Q : Value → Shared → Prop} (hh : A.handled = none) (hl : s.heap.IsTuple l (intItems xs))
    (h : ∀ h' tk t', (∀ b o, s.heap.get? b = some o → h'.get? b = some o) → Q (.int (preSum (numAt xs) xs.size) t') { s with heap := h', toks := tk }) :
    wpAny (model prog w) A (call (.builtin "sum") [.ref l]) Q E s := by
  refine call_sum_walkG (iter_intTup hl fun s₂ e st hfp hlI => ?_)
  subst e
  refine ⟨_, _, _, _, _, _, numAt xs, rfl, Walks.tuple (A := A.in1) hh _ l hlI (intItems xs), st, hfp, (fun _ _ => intItems_at), fun h' tk t' hk => ?_⟩
  have := h h' tk t' (fun b o e => hk b o (fun hm => by
    have := Heap.lt_size e
    rcases List.mem_cons.mp hm with rfl | hm
    · exact Nat.lt_irrefl _ this
    · cases hm) (Heap.get?_push_of_some _ e))
  simpa [intItems] using this
end
section
variable {X : Cx}
def rSumT (K : PySem.W.Frag) : List V → Hp → VK → Prop := fun vs H Q => ∃ (a : Addr) (ns : List Int), vs = [V.ref a] ∧ (SqL K H a (ns.map V.int) ∨ SqT K H a (ns.map V.int)) ∧ Q (.int ns.sum) H
theorem cr_sumT (K : PySem.W.Frag) (hc : X.calm = true) (hK : X.K = K := by rfl) : CallR X (.builtin "sum") (rSumT K) := by
  subst hK
  intro pins s σ H vs us Q I r h
  obtain ⟨a, ns, rfl, hs, q⟩ := h
  rcases hs with hs | hs
  · exact cr_sum hc pins s σ H _ us Q I r ⟨a, ns, rfl, hs, q⟩
  · obtain ⟨its, rv, hl, _⟩ := I.tuple hs
    rw [Vals.ref1 r]
    have hi := rv.ints
    obtain ⟨xs, e⟩ := hi.allInts.items
    have hn : numsOf (intItems xs).toList = ns := by rw [← e]; exact hi.numsOf
    rw [nums_intItems] at hn
    rw [e] at hl
    refine sum_intTup (I.ok.hd hc) hl fun h' tk t' hk => ?_
    have eq : preSum (numAt xs) xs.size = ns.sum := by rw [preSum_eq, List.take_of_length_le (by simp), hn]
    rw [eq]
    exact ⟨.int _, H, I.kept hk, ⟨_, rfl⟩, q⟩
end
end XT

namespace K15
open PySem L2 XT
def top (i : Nat) : Stmt := PySem.Challenge.pw_rankeffect_k15_results_by_gaps.main.body.getD i (.Pass ⟨0, 0, 0, 0⟩)

abbrev s_is_integer : Stmt := top 2
abbrev N_is_integer : List Str := ["value"]
theorem sc_is_integer : FnScope N_is_integer ["value"] (defScope s_is_integer) := ⟨rfl, rfl, rfl, by decide +kernel, rfl, by decide +kernel, by decide +kernel⟩
theorem bn_is_integer : XT.Bnd "is_integer" "is_integer" s_is_integer ["value"] := fun _ _ _ _ _ _ us hl => match us, hl with | [_], _ => rfl

abbrev s_is_count : Stmt := top 3
abbrev N_is_count : List Str := ["value"]
theorem sc_is_count : FnScope N_is_count ["value"] (defScope s_is_count) := ⟨rfl, rfl, rfl, by decide +kernel, rfl, by decide +kernel, by decide +kernel⟩
theorem bn_is_count : XT.Bnd "is_count" "is_count" s_is_count ["value"] := fun _ _ _ _ _ _ us hl => match us, hl with | [_], _ => rfl

abbrev s_is_rank : Stmt := top 4
abbrev N_is_rank : List Str := ["value"]
theorem sc_is_rank : FnScope N_is_rank ["value"] (defScope s_is_rank) := ⟨rfl, rfl, rfl, by decide +kernel, rfl, by decide +kernel, by decide +kernel⟩
theorem bn_is_rank : XT.Bnd "is_rank" "is_rank" s_is_rank ["value"] := fun _ _ _ _ _ _ us hl => match us, hl with | [_], _ => rfl

abbrev s_is_number_list : Stmt := top 5
abbrev N_is_number_list : List Str := ["value", "number"]
theorem sc_is_number_list : FnScope N_is_number_list ["value"] (defScope s_is_number_list) := ⟨rfl, rfl, rfl, by decide +kernel, rfl, by decide +kernel, by decide +kernel⟩
theorem bn_is_number_list : XT.Bnd "is_number_list" "is_number_list" s_is_number_list ["value"] := fun _ _ _ _ _ _ us hl => match us, hl with | [_], _ => rfl

abbrev s_is_count_list : Stmt := top 6
abbrev N_is_count_list : List Str := ["value", "number"]
theorem sc_is_count_list : FnScope N_is_count_list ["value"] (defScope s_is_count_list) := ⟨rfl, rfl, rfl, by decide +kernel, rfl, by decide +kernel, by decide +kernel⟩
theorem bn_is_count_list : XT.Bnd "is_count_list" "is_count_list" s_is_count_list ["value"] := fun _ _ _ _ _ _ us hl => match us, hl with | [_], _ => rfl

abbrev s_is_ascending : Stmt := top 7
abbrev N_is_ascending : List Str := ["value", "low", "high"]
theorem sc_is_ascending : FnScope N_is_ascending ["value"] (defScope s_is_ascending) := ⟨rfl, rfl, rfl, by decide +kernel, rfl, by decide +kernel, by decide +kernel⟩
theorem bn_is_ascending : XT.Bnd "is_ascending" "is_ascending" s_is_ascending ["value"] := fun _ _ _ _ _ _ us hl => match us, hl with | [_], _ => rfl

abbrev s_is_rank_list : Stmt := top 8
abbrev N_is_rank_list : List Str := ["value", "number"]
theorem sc_is_rank_list : FnScope N_is_rank_list ["value"] (defScope s_is_rank_list) := ⟨rfl, rfl, rfl, by decide +kernel, rfl, by decide +kernel, by decide +kernel⟩
theorem bn_is_rank_list : XT.Bnd "is_rank_list" "is_rank_list" s_is_rank_list ["value"] := fun _ _ _ _ _ _ us hl => match us, hl with | [_], _ => rfl

abbrev s_InvalidNumber___init__ : Stmt := inClass (top 15) 0
abbrev N_InvalidNumber___init__ : List Str := ["self", "value"]
theorem sc_InvalidNumber___init__ : FnScope N_InvalidNumber___init__ ["self", "value"] (defScope s_InvalidNumber___init__) := ⟨rfl, rfl, rfl, by decide +kernel, rfl, by decide +kernel, by decide +kernel⟩
theorem bn_InvalidNumber___init__ : XT.Bnd "__init__" "InvalidNumber.__init__" s_InvalidNumber___init__ ["self", "value"] := fun _ _ _ _ _ _ us hl => match us, hl with | [_, _], _ => rfl

abbrev s_StepFailed___init__ : Stmt := inClass (top 16) 0
abbrev N_StepFailed___init__ : List Str := ["self", "index"]
theorem sc_StepFailed___init__ : FnScope N_StepFailed___init__ ["self", "index"] (defScope s_StepFailed___init__) := ⟨rfl, rfl, rfl, by decide +kernel, rfl, by decide +kernel, by decide +kernel⟩
theorem bn_StepFailed___init__ : XT.Bnd "__init__" "StepFailed.__init__" s_StepFailed___init__ ["self", "index"] := fun _ _ _ _ _ _ us hl => match us, hl with | [_, _], _ => rfl

abbrev s_Sequence___init__ : Stmt := inClass (top 20) 0
abbrev N_Sequence___init__ : List Str := ["self", "steps", "step"]
theorem sc_Sequence___init__ : FnScope N_Sequence___init__ ["self", "steps"] (defScope s_Sequence___init__) := ⟨rfl, rfl, rfl, by decide +kernel, rfl, by decide +kernel, by decide +kernel⟩
theorem bn_Sequence___init__ : XT.BndS "__init__" "Sequence.__init__" s_Sequence___init__ ["self"] "steps" := fun _ _ _ _ _ _ us rest hl => StX.bind_star1 (B := fun us => bindArgs _ ⟨us, []⟩) (fun _ => rfl) (fun _ _ _ => rfl) us rest hl

abbrev s_Sequence_is_step : Stmt := inClass (top 20) 1
abbrev N_Sequence_is_step : List Str := ["value", "word", "number"]
theorem sc_Sequence_is_step : FnScope N_Sequence_is_step ["value"] (defScope s_Sequence_is_step) := ⟨rfl, rfl, rfl, by decide +kernel, rfl, by decide +kernel, by decide +kernel⟩
theorem bn_Sequence_is_step : XT.Bnd "is_step" "Sequence.is_step" s_Sequence_is_step ["value"] := fun _ _ _ _ _ _ us hl => match us, hl with | [_], _ => rfl

abbrev s_Sequence_steps : Stmt := inClass (top 20) 2
abbrev N_Sequence_steps : List Str := ["self"]
theorem sc_Sequence_steps : FnScope N_Sequence_steps ["self"] (defScope s_Sequence_steps) := ⟨rfl, rfl, rfl, by decide +kernel, rfl, by decide +kernel, by decide +kernel⟩
theorem bn_Sequence_steps : XT.Bnd "steps" "Sequence.steps" s_Sequence_steps ["self"] := fun _ _ _ _ _ _ us hl => match us, hl with | [_], _ => rfl

abbrev s_Sequence___add__ : Stmt := inClass (top 20) 5
abbrev N_Sequence___add__ : List Str := ["self", "other", "steps"]
theorem sc_Sequence___add__ : FnScope N_Sequence___add__ ["self", "other"] (defScope s_Sequence___add__) := ⟨rfl, rfl, rfl, by decide +kernel, rfl, by decide +kernel, by decide +kernel⟩
theorem bn_Sequence___add__ : XT.Bnd "__add__" "Sequence.__add__" s_Sequence___add__ ["self", "other"] := fun _ _ _ _ _ _ us hl => match us, hl with | [_, _], _ => rfl

abbrev s_how_many_up_to : Stmt := top 22
abbrev N_how_many_up_to : List Str := ["numbers", "limit", "low", "high", "middle"]
theorem sc_how_many_up_to : FnScope N_how_many_up_to ["numbers", "limit"] (defScope s_how_many_up_to) := ⟨rfl, rfl, rfl, by decide +kernel, rfl, by decide +kernel, by decide +kernel⟩
theorem bn_how_many_up_to : XT.Bnd "how_many_up_to" "how_many_up_to" s_how_many_up_to ["numbers", "limit"] := fun _ _ _ _ _ _ us hl => match us, hl with | [_, _], _ => rfl

abbrev s_mapped : Stmt := top 23
abbrev N_mapped : List Str := ["start", "lost", "count"]
theorem sc_mapped : FnScope N_mapped ["start", "lost", "count"] (defScope s_mapped) := ⟨rfl, rfl, rfl, by decide +kernel, rfl, by decide +kernel, by decide +kernel⟩
theorem bn_mapped : XT.Bnd "mapped" "mapped" s_mapped ["start", "lost", "count"] := fun _ _ _ _ _ _ us hl => match us, hl with | [_, _, _], _ => rfl

abbrev s_kept_rank : Stmt := top 24
abbrev N_kept_rank : List Str := ["lost", "place", "low", "high", "middle"]
theorem sc_kept_rank : FnScope N_kept_rank ["lost", "place"] (defScope s_kept_rank) := ⟨rfl, rfl, rfl, by decide +kernel, rfl, by decide +kernel, by decide +kernel⟩
theorem bn_kept_rank : XT.Bnd "kept_rank" "kept_rank" s_kept_rank ["lost", "place"] := fun _ _ _ _ _ _ us hl => match us, hl with | [_, _], _ => rfl

abbrev s_Table___init__ : Stmt := inClass (top 25) 0
abbrev N_Table___init__ : List Str := ["self", "start", "lost"]
theorem sc_Table___init__ : FnScope N_Table___init__ ["self", "start", "lost"] (defScope s_Table___init__) := ⟨rfl, rfl, rfl, by decide +kernel, rfl, by decide +kernel, by decide +kernel⟩
theorem bn_Table___init__ : XT.Bnd "__init__" "Table.__init__" s_Table___init__ ["self", "start", "lost"] := fun _ _ _ _ _ _ us hl => match us, hl with | [_, _, _], _ => rfl

abbrev s_Table_start : Stmt := inClass (top 25) 1
abbrev N_Table_start : List Str := ["self"]
theorem sc_Table_start : FnScope N_Table_start ["self"] (defScope s_Table_start) := ⟨rfl, rfl, rfl, by decide +kernel, rfl, by decide +kernel, by decide +kernel⟩
theorem bn_Table_start : XT.Bnd "start" "Table.start" s_Table_start ["self"] := fun _ _ _ _ _ _ us hl => match us, hl with | [_], _ => rfl

abbrev s_Table_lost : Stmt := inClass (top 25) 2
abbrev N_Table_lost : List Str := ["self"]
theorem sc_Table_lost : FnScope N_Table_lost ["self"] (defScope s_Table_lost) := ⟨rfl, rfl, rfl, by decide +kernel, rfl, by decide +kernel, by decide +kernel⟩
theorem bn_Table_lost : XT.Bnd "lost" "Table.lost" s_Table_lost ["self"] := fun _ _ _ _ _ _ us hl => match us, hl with | [_], _ => rfl

abbrev s_Table___call__ : Stmt := inClass (top 25) 5
abbrev N_Table___call__ : List Str := ["self", "count"]
theorem sc_Table___call__ : FnScope N_Table___call__ ["self", "count"] (defScope s_Table___call__) := ⟨rfl, rfl, rfl, by decide +kernel, rfl, by decide +kernel, by decide +kernel⟩
theorem bn_Table___call__ : XT.Bnd "__call__" "Table.__call__" s_Table___call__ ["self", "count"] := fun _ _ _ _ _ _ us hl => match us, hl with | [_, _], _ => rfl

abbrev s_Table___eq__ : Stmt := inClass (top 25) 6
abbrev N_Table___eq__ : List Str := ["self", "other"]
theorem sc_Table___eq__ : FnScope N_Table___eq__ ["self", "other"] (defScope s_Table___eq__) := ⟨rfl, rfl, rfl, by decide +kernel, rfl, by decide +kernel, by decide +kernel⟩
theorem bn_Table___eq__ : XT.Bnd "__eq__" "Table.__eq__" s_Table___eq__ ["self", "other"] := fun _ _ _ _ _ _ us hl => match us, hl with | [_, _], _ => rfl

abbrev s_below_all : Stmt := top 28
abbrev N_below_all : List Str := ["breaks"]
theorem sc_below_all : FnScope N_below_all ["breaks"] (defScope s_below_all) := ⟨rfl, rfl, rfl, by decide +kernel, rfl, by decide +kernel, by decide +kernel⟩
theorem bn_below_all : XT.Bnd "below_all" "below_all" s_below_all ["breaks"] := fun _ _ _ _ _ _ us hl => match us, hl with | [_], _ => rfl

abbrev s_table_at : Stmt := top 29
abbrev N_table_at : List Str := ["breaks", "tables", "threshold"]
theorem sc_table_at : FnScope N_table_at ["breaks", "tables", "threshold"] (defScope s_table_at) := ⟨rfl, rfl, rfl, by decide +kernel, rfl, by decide +kernel, by decide +kernel⟩
theorem bn_table_at : XT.Bnd "table_at" "table_at" s_table_at ["breaks", "tables", "threshold"] := fun _ _ _ _ _ _ us hl => match us, hl with | [_, _, _], _ => rfl

abbrev s_table_of : Stmt := top 30
abbrev N_table_of : List Str := ["steps", "threshold", "start", "lost", "word", "number", "place", "rank", "below"]
theorem sc_table_of : FnScope N_table_of ["steps", "threshold"] (defScope s_table_of) := ⟨rfl, rfl, rfl, by decide +kernel, rfl, by decide +kernel, by decide +kernel⟩
theorem bn_table_of : XT.Bnd "table_of" "table_of" s_table_of ["steps", "threshold"] := fun _ _ _ _ _ _ us hl => match us, hl with | [_, _], _ => rfl

abbrev s_is_table_list : Stmt := top 31
abbrev N_is_table_list : List Str := ["value", "table", "low", "high"]
theorem sc_is_table_list : FnScope N_is_table_list ["value"] (defScope s_is_table_list) := ⟨rfl, rfl, rfl, by decide +kernel, rfl, by decide +kernel, by decide +kernel⟩
theorem bn_is_table_list : XT.Bnd "is_table_list" "is_table_list" s_is_table_list ["value"] := fun _ _ _ _ _ _ us hl => match us, hl with | [_], _ => rfl

abbrev s_spread : Stmt := top 33
abbrev N_spread : List Str := ["values", "totals", "result", "before", "value", "total"]
theorem sc_spread : FnScope N_spread ["values", "totals"] (defScope s_spread) := ⟨rfl, rfl, rfl, by decide +kernel, rfl, by decide +kernel, by decide +kernel⟩
theorem bn_spread : XT.Bnd "spread" "spread" s_spread ["values", "totals"] := fun _ _ _ _ _ _ us hl => match us, hl with | [_, _], _ => rfl

abbrev s_Effect___init__ : Stmt := inClass (top 34) 0
abbrev N_Effect___init__ : List Str := ["self", "breaks", "tables"]
theorem sc_Effect___init__ : FnScope N_Effect___init__ ["self", "breaks", "tables"] (defScope s_Effect___init__) := ⟨rfl, rfl, rfl, by decide +kernel, rfl, by decide +kernel, by decide +kernel⟩
theorem bn_Effect___init__ : XT.Bnd "__init__" "Effect.__init__" s_Effect___init__ ["self", "breaks", "tables"] := fun _ _ _ _ _ _ us hl => match us, hl with | [_, _, _], _ => rfl

abbrev s_Effect_of : Stmt := inClass (top 34) 1
abbrev N_Effect_of : List Str := ["cls", "sequence", "steps", "breaks", "word", "number", "thresholds", "threshold"]
theorem sc_Effect_of : FnScope N_Effect_of ["cls", "sequence"] (defScope s_Effect_of) := ⟨rfl, rfl, rfl, by decide +kernel, rfl, by decide +kernel, by decide +kernel⟩
theorem bn_Effect_of : XT.Bnd "of" "Effect.of" s_Effect_of ["cls", "sequence"] := fun _ _ _ _ _ _ us hl => match us, hl with | [_, _], _ => rfl

abbrev s_Effect_breaks : Stmt := inClass (top 34) 3
abbrev N_Effect_breaks : List Str := ["self"]
theorem sc_Effect_breaks : FnScope N_Effect_breaks ["self"] (defScope s_Effect_breaks) := ⟨rfl, rfl, rfl, by decide +kernel, rfl, by decide +kernel, by decide +kernel⟩
theorem bn_Effect_breaks : XT.Bnd "breaks" "Effect.breaks" s_Effect_breaks ["self"] := fun _ _ _ _ _ _ us hl => match us, hl with | [_], _ => rfl

abbrev s_Effect_tables : Stmt := inClass (top 34) 4
abbrev N_Effect_tables : List Str := ["self"]
theorem sc_Effect_tables : FnScope N_Effect_tables ["self"] (defScope s_Effect_tables) := ⟨rfl, rfl, rfl, by decide +kernel, rfl, by decide +kernel, by decide +kernel⟩
theorem bn_Effect_tables : XT.Bnd "tables" "Effect.tables" s_Effect_tables ["self"] := fun _ _ _ _ _ _ us hl => match us, hl with | [_], _ => rfl

abbrev s_Effect_need : Stmt := inClass (top 34) 5
abbrev N_Effect_need : List Str := ["self", "lost"]
theorem sc_Effect_need : FnScope N_Effect_need ["self"] (defScope s_Effect_need) := ⟨rfl, rfl, rfl, by decide +kernel, rfl, by decide +kernel, by decide +kernel⟩
theorem bn_Effect_need : XT.Bnd "need" "Effect.need" s_Effect_need ["self"] := fun _ _ _ _ _ _ us hl => match us, hl with | [_], _ => rfl

abbrev s_Effect_table : Stmt := inClass (top 34) 7
abbrev N_Effect_table : List Str := ["self", "threshold"]
theorem sc_Effect_table : FnScope N_Effect_table ["self", "threshold"] (defScope s_Effect_table) := ⟨rfl, rfl, rfl, by decide +kernel, rfl, by decide +kernel, by decide +kernel⟩
theorem bn_Effect_table : XT.Bnd "table" "Effect.table" s_Effect_table ["self", "threshold"] := fun _ _ _ _ _ _ us hl => match us, hl with | [_, _], _ => rfl

abbrev s_kept : Stmt := top 36
abbrev N_kept : List Str := ["effect", "counts", "stay", "copies", "old", "total", "table", "count", "with_break"]
theorem sc_kept : FnScope N_kept ["effect", "counts"] (defScope s_kept) := ⟨rfl, rfl, rfl, by decide +kernel, rfl, by decide +kernel, by decide +kernel⟩
theorem bn_kept : XT.Bnd "kept" "kept" s_kept ["effect", "counts"] := fun _ _ _ _ _ _ us hl => match us, hl with | [_, _], _ => rfl

abbrev s_kept_numbers : Stmt := top 37
abbrev N_kept_numbers : List Str := ["effect", "length", "table"]
theorem sc_kept_numbers : FnScope N_kept_numbers ["effect", "length"] (defScope s_kept_numbers) := ⟨rfl, rfl, rfl, by decide +kernel, rfl, by decide +kernel, by decide +kernel⟩
theorem bn_kept_numbers : XT.Bnd "kept_numbers" "kept_numbers" s_kept_numbers ["effect", "length"] := fun _ _ _ _ _ _ us hl => match us, hl with | [_, _], _ => rfl

abbrev s_law_pool : Stmt := top 39
abbrev N_law_pool : List Str := ["_law_script", "_law_k", "_law_cell", "_law_mixed"]
theorem sc_law_pool : FnScope N_law_pool ["_law_script", "_law_k"] (defScope s_law_pool) := ⟨rfl, rfl, rfl, by decide +kernel, rfl, by decide +kernel, by decide +kernel⟩
theorem bn_law_pool : XT.Bnd "_law_pool" "_law_pool" s_law_pool ["_law_script", "_law_k"] := fun _ _ _ _ _ _ us hl => match us, hl with | [_, _], _ => rfl

abbrev s_law_take : Stmt := top 40
abbrev N_law_take : List Str := ["_law_pool_here", "_law_many", "_law_found"]
theorem sc_law_take : FnScope N_law_take ["_law_pool_here", "_law_many"] (defScope s_law_take) := ⟨rfl, rfl, rfl, by decide +kernel, rfl, by decide +kernel, by decide +kernel⟩
theorem bn_law_take : XT.Bnd "_law_take" "_law_take" s_law_take ["_law_pool_here", "_law_many"] := fun _ _ _ _ _ _ us hl => match us, hl with | [_, _], _ => rfl

abbrev s_law_steps : Stmt := top 41
abbrev N_law_steps : List Str := ["_law_pool_here", "_law_most", "_law_steps_here", "_law_way", "_law_turn"]
theorem sc_law_steps : FnScope N_law_steps ["_law_pool_here", "_law_most"] (defScope s_law_steps) := ⟨rfl, rfl, rfl, by decide +kernel, rfl, by decide +kernel, by decide +kernel⟩
theorem bn_law_steps : XT.Bnd "_law_steps" "_law_steps" s_law_steps ["_law_pool_here", "_law_most"] := fun _ _ _ _ _ _ us hl => match us, hl with | [_, _], _ => rfl

abbrev s_law_made : Stmt := top 42
abbrev N_law_made : List Str := ["_law_steps_here", "_law_made_here", "_law_step"]
theorem sc_law_made : FnScope N_law_made ["_law_steps_here"] (defScope s_law_made) := ⟨rfl, rfl, rfl, by decide +kernel, rfl, by decide +kernel, by decide +kernel⟩
theorem bn_law_made : XT.Bnd "_law_made" "_law_made" s_law_made ["_law_steps_here"] := fun _ _ _ _ _ _ us hl => match us, hl with | [_], _ => rfl

abbrev s_law_run : Stmt := top 43
abbrev N_law_run : List Str := ["_law_steps_here", "_law_numbers", "_law_rest", "_law_word", "_law_number"]
theorem sc_law_run : FnScope N_law_run ["_law_steps_here", "_law_numbers"] (defScope s_law_run) := ⟨rfl, rfl, rfl, by decide +kernel, rfl, by decide +kernel, by decide +kernel⟩
theorem bn_law_run : XT.Bnd "_law_run" "_law_run" s_law_run ["_law_steps_here", "_law_numbers"] := fun _ _ _ _ _ _ us hl => match us, hl with | [_, _], _ => rfl

abbrev s_law_caught : Stmt := top 44
abbrev N_law_caught : List Str := ["_law_way", "_law_effect", "_law_some", "e"]
theorem sc_law_caught : FnScope N_law_caught ["_law_way", "_law_effect", "_law_some"] (defScope s_law_caught) := ⟨rfl, rfl, rfl, by decide +kernel, rfl, by decide +kernel, by decide +kernel⟩
theorem bn_law_caught : XT.Bnd "_law_caught" "_law_caught" s_law_caught ["_law_way", "_law_effect", "_law_some"] := fun _ _ _ _ _ _ us hl => match us, hl with | [_, _, _], _ => rfl

abbrev s_law_due : Stmt := top 45
abbrev N_law_due : List Str := ["_law_steps_here", "_law_breaks", "_law_counts", "_law_old", "_law_at", "_law_number", "_law_rest", "_law_places", "_law_place"]
theorem sc_law_due : FnScope N_law_due ["_law_steps_here", "_law_breaks", "_law_counts"] (defScope s_law_due) := ⟨rfl, rfl, rfl, by decide +kernel, rfl, by decide +kernel, by decide +kernel⟩
theorem bn_law_due : XT.Bnd "_law_due" "_law_due" s_law_due ["_law_steps_here", "_law_breaks", "_law_counts"] := fun _ _ _ _ _ _ us hl => match us, hl with | [_, _, _], _ => rfl

abbrev s_law_map : Stmt := top 46
abbrev N_law_map : List Str := ["_law_steps_here", "_law_threshold", "_law_count", "_law_word", "_law_number"]
theorem sc_law_map : FnScope N_law_map ["_law_steps_here", "_law_threshold", "_law_count"] (defScope s_law_map) := ⟨rfl, rfl, rfl, by decide +kernel, rfl, by decide +kernel, by decide +kernel⟩
theorem bn_law_map : XT.Bnd "_law_map" "_law_map" s_law_map ["_law_steps_here", "_law_threshold", "_law_count"] := fun _ _ _ _ _ _ us hl => match us, hl with | [_, _, _], _ => rfl

abbrev s_law_great_right : Stmt := top 47
abbrev N_law_great_right : List Str := ["_law_steps_here", "_law_effect", "_law_counts", "_law_total", "_law_old", "_law_copies", "_law_edges", "_law_at", "_law_threshold", "_law_before"]
theorem sc_law_great_right : FnScope N_law_great_right ["_law_steps_here", "_law_effect", "_law_counts"] (defScope s_law_great_right) := ⟨rfl, rfl, rfl, by decide +kernel, rfl, by decide +kernel, by decide +kernel⟩
theorem bn_law_great_right : XT.Bnd "_law_great_right" "_law_great_right" s_law_great_right ["_law_steps_here", "_law_effect", "_law_counts"] := fun _ _ _ _ _ _ us hl => match us, hl with | [_, _, _], _ => rfl

abbrev s_law_wide_right : Stmt := top 48
abbrev N_law_wide_right : List Str := ["_law_pool_here", "_law_steps_here", "_law_last", "_law_wide", "_law_great", "_law_table", "_law_copies", "_law_due_here", "_law_number", "_law_many"]
theorem sc_law_wide_right : FnScope N_law_wide_right ["_law_pool_here", "_law_steps_here"] (defScope s_law_wide_right) := ⟨rfl, rfl, rfl, by decide +kernel, rfl, by decide +kernel, by decide +kernel⟩
theorem bn_law_wide_right : XT.Bnd "_law_wide_right" "_law_wide_right" s_law_wide_right ["_law_pool_here", "_law_steps_here"] := fun _ _ _ _ _ _ us hl => match us, hl with | [_, _], _ => rfl

abbrev s_law : Stmt := top 49
abbrev N_law : List Str := ["_law_script", "_law_k", "_law_pool_here", "_law_steps_here", "_law_effect", "_law_turn", "_law_counts", "_law_table", "_law_due_here", "_law_length", "_law_rest", "_law_number", "_law_great", "_law_size", "_law_odd"]
theorem sc_law : FnScope N_law ["_law_script"] (defScope s_law) := ⟨rfl, rfl, rfl, by decide +kernel, rfl, by decide +kernel, by decide +kernel⟩
theorem bn_law : XT.Bnd "law" "law" s_law ["_law_script"] := fun _ _ _ _ _ _ us hl => match us, hl with | [_], _ => rfl

structure Ads where
  is_integer : Addr
  is_count : Addr
  is_rank : Addr
  is_number_list : Addr
  is_count_list : Addr
  is_ascending : Addr
  is_rank_list : Addr
  InvalidNumber___init__ : Addr
  StepFailed___init__ : Addr
  Sequence___init__ : Addr
  Sequence_is_step : Addr
  Sequence_steps : Addr
  Sequence___add__ : Addr
  how_many_up_to : Addr
  mapped : Addr
  kept_rank : Addr
  Table___init__ : Addr
  Table_start : Addr
  Table_lost : Addr
  Table___call__ : Addr
  Table___eq__ : Addr
  below_all : Addr
  table_at : Addr
  table_of : Addr
  is_table_list : Addr
  spread : Addr
  Effect___init__ : Addr
  Effect_of : Addr
  Effect_breaks : Addr
  Effect_tables : Addr
  Effect_need : Addr
  Effect_table : Addr
  kept : Addr
  kept_numbers : Addr
  law_pool : Addr
  law_take : Addr
  law_steps : Addr
  law_made : Addr
  law_run : Addr
  law_caught : Addr
  law_due : Addr
  law_map : Addr
  law_great_right : Addr
  law_wide_right : Addr
  law : Addr
  RankError : Addr
  InvalidNumber : Addr
  StepFailed : Addr
  Sequence : Addr
  Table : Addr
  Effect : Addr
  P_steps : Addr
  P_start : Addr
  P_lost : Addr
  P_breaks : Addr
  P_tables : Addr
  P_need : Addr
  S_is_step : Addr
  C_of : Addr

structure Txt (K : PySem.W.Frag) (mg : Str → Option Value) (a : Ads) : Prop where
  F_is_integer : ∃ fd, Fun K "is_integer" "is_integer" s_is_integer a.is_integer fd
  g_is_integer : mg "is_integer" = some (.ref a.is_integer)
  k_is_integer : PySem.W.keepIn K (.ref a.is_integer) = true
  F_is_count : ∃ fd, Fun K "is_count" "is_count" s_is_count a.is_count fd
  g_is_count : mg "is_count" = some (.ref a.is_count)
  k_is_count : PySem.W.keepIn K (.ref a.is_count) = true
  F_is_rank : ∃ fd, Fun K "is_rank" "is_rank" s_is_rank a.is_rank fd
  g_is_rank : mg "is_rank" = some (.ref a.is_rank)
  k_is_rank : PySem.W.keepIn K (.ref a.is_rank) = true
  F_is_number_list : ∃ fd, Fun K "is_number_list" "is_number_list" s_is_number_list a.is_number_list fd
  g_is_number_list : mg "is_number_list" = some (.ref a.is_number_list)
  k_is_number_list : PySem.W.keepIn K (.ref a.is_number_list) = true
  F_is_count_list : ∃ fd, Fun K "is_count_list" "is_count_list" s_is_count_list a.is_count_list fd
  g_is_count_list : mg "is_count_list" = some (.ref a.is_count_list)
  k_is_count_list : PySem.W.keepIn K (.ref a.is_count_list) = true
  F_is_ascending : ∃ fd, Fun K "is_ascending" "is_ascending" s_is_ascending a.is_ascending fd
  g_is_ascending : mg "is_ascending" = some (.ref a.is_ascending)
  k_is_ascending : PySem.W.keepIn K (.ref a.is_ascending) = true
  F_is_rank_list : ∃ fd, Fun K "is_rank_list" "is_rank_list" s_is_rank_list a.is_rank_list fd
  g_is_rank_list : mg "is_rank_list" = some (.ref a.is_rank_list)
  k_is_rank_list : PySem.W.keepIn K (.ref a.is_rank_list) = true
  F_InvalidNumber___init__ : ∃ fd, Fun K "__init__" "InvalidNumber.__init__" s_InvalidNumber___init__ a.InvalidNumber___init__ fd
  F_StepFailed___init__ : ∃ fd, Fun K "__init__" "StepFailed.__init__" s_StepFailed___init__ a.StepFailed___init__ fd
  F_Sequence___init__ : ∃ fd, Fun K "__init__" "Sequence.__init__" s_Sequence___init__ a.Sequence___init__ fd
  F_Sequence_is_step : ∃ fd, Fun K "is_step" "Sequence.is_step" s_Sequence_is_step a.Sequence_is_step fd
  F_Sequence_steps : ∃ fd, Fun K "steps" "Sequence.steps" s_Sequence_steps a.Sequence_steps fd
  F_Sequence___add__ : ∃ fd, Fun K "__add__" "Sequence.__add__" s_Sequence___add__ a.Sequence___add__ fd
  F_how_many_up_to : ∃ fd, Fun K "how_many_up_to" "how_many_up_to" s_how_many_up_to a.how_many_up_to fd
  g_how_many_up_to : mg "how_many_up_to" = some (.ref a.how_many_up_to)
  k_how_many_up_to : PySem.W.keepIn K (.ref a.how_many_up_to) = true
  F_mapped : ∃ fd, Fun K "mapped" "mapped" s_mapped a.mapped fd
  g_mapped : mg "mapped" = some (.ref a.mapped)
  k_mapped : PySem.W.keepIn K (.ref a.mapped) = true
  F_kept_rank : ∃ fd, Fun K "kept_rank" "kept_rank" s_kept_rank a.kept_rank fd
  g_kept_rank : mg "kept_rank" = some (.ref a.kept_rank)
  k_kept_rank : PySem.W.keepIn K (.ref a.kept_rank) = true
  F_Table___init__ : ∃ fd, Fun K "__init__" "Table.__init__" s_Table___init__ a.Table___init__ fd
  F_Table_start : ∃ fd, Fun K "start" "Table.start" s_Table_start a.Table_start fd
  F_Table_lost : ∃ fd, Fun K "lost" "Table.lost" s_Table_lost a.Table_lost fd
  F_Table___call__ : ∃ fd, Fun K "__call__" "Table.__call__" s_Table___call__ a.Table___call__ fd
  F_Table___eq__ : ∃ fd, Fun K "__eq__" "Table.__eq__" s_Table___eq__ a.Table___eq__ fd
  F_below_all : ∃ fd, Fun K "below_all" "below_all" s_below_all a.below_all fd
  g_below_all : mg "below_all" = some (.ref a.below_all)
  k_below_all : PySem.W.keepIn K (.ref a.below_all) = true
  F_table_at : ∃ fd, Fun K "table_at" "table_at" s_table_at a.table_at fd
  g_table_at : mg "table_at" = some (.ref a.table_at)
  k_table_at : PySem.W.keepIn K (.ref a.table_at) = true
  F_table_of : ∃ fd, Fun K "table_of" "table_of" s_table_of a.table_of fd
  g_table_of : mg "table_of" = some (.ref a.table_of)
  k_table_of : PySem.W.keepIn K (.ref a.table_of) = true
  F_is_table_list : ∃ fd, Fun K "is_table_list" "is_table_list" s_is_table_list a.is_table_list fd
  g_is_table_list : mg "is_table_list" = some (.ref a.is_table_list)
  k_is_table_list : PySem.W.keepIn K (.ref a.is_table_list) = true
  F_spread : ∃ fd, Fun K "spread" "spread" s_spread a.spread fd
  g_spread : mg "spread" = some (.ref a.spread)
  k_spread : PySem.W.keepIn K (.ref a.spread) = true
  F_Effect___init__ : ∃ fd, Fun K "__init__" "Effect.__init__" s_Effect___init__ a.Effect___init__ fd
  F_Effect_of : ∃ fd, Fun K "of" "Effect.of" s_Effect_of a.Effect_of fd
  F_Effect_breaks : ∃ fd, Fun K "breaks" "Effect.breaks" s_Effect_breaks a.Effect_breaks fd
  F_Effect_tables : ∃ fd, Fun K "tables" "Effect.tables" s_Effect_tables a.Effect_tables fd
  F_Effect_need : ∃ fd, Fun K "need" "Effect.need" s_Effect_need a.Effect_need fd
  F_Effect_table : ∃ fd, Fun K "table" "Effect.table" s_Effect_table a.Effect_table fd
  F_kept : ∃ fd, Fun K "kept" "kept" s_kept a.kept fd
  g_kept : mg "kept" = some (.ref a.kept)
  k_kept : PySem.W.keepIn K (.ref a.kept) = true
  F_kept_numbers : ∃ fd, Fun K "kept_numbers" "kept_numbers" s_kept_numbers a.kept_numbers fd
  g_kept_numbers : mg "kept_numbers" = some (.ref a.kept_numbers)
  k_kept_numbers : PySem.W.keepIn K (.ref a.kept_numbers) = true
  F_law_pool : ∃ fd, Fun K "_law_pool" "_law_pool" s_law_pool a.law_pool fd
  g_law_pool : mg "_law_pool" = some (.ref a.law_pool)
  k_law_pool : PySem.W.keepIn K (.ref a.law_pool) = true
  F_law_take : ∃ fd, Fun K "_law_take" "_law_take" s_law_take a.law_take fd
  g_law_take : mg "_law_take" = some (.ref a.law_take)
  k_law_take : PySem.W.keepIn K (.ref a.law_take) = true
  F_law_steps : ∃ fd, Fun K "_law_steps" "_law_steps" s_law_steps a.law_steps fd
  g_law_steps : mg "_law_steps" = some (.ref a.law_steps)
  k_law_steps : PySem.W.keepIn K (.ref a.law_steps) = true
  F_law_made : ∃ fd, Fun K "_law_made" "_law_made" s_law_made a.law_made fd
  g_law_made : mg "_law_made" = some (.ref a.law_made)
  k_law_made : PySem.W.keepIn K (.ref a.law_made) = true
  F_law_run : ∃ fd, Fun K "_law_run" "_law_run" s_law_run a.law_run fd
  g_law_run : mg "_law_run" = some (.ref a.law_run)
  k_law_run : PySem.W.keepIn K (.ref a.law_run) = true
  F_law_caught : ∃ fd, Fun K "_law_caught" "_law_caught" s_law_caught a.law_caught fd
  g_law_caught : mg "_law_caught" = some (.ref a.law_caught)
  k_law_caught : PySem.W.keepIn K (.ref a.law_caught) = true
  F_law_due : ∃ fd, Fun K "_law_due" "_law_due" s_law_due a.law_due fd
  g_law_due : mg "_law_due" = some (.ref a.law_due)
  k_law_due : PySem.W.keepIn K (.ref a.law_due) = true
  F_law_map : ∃ fd, Fun K "_law_map" "_law_map" s_law_map a.law_map fd
  g_law_map : mg "_law_map" = some (.ref a.law_map)
  k_law_map : PySem.W.keepIn K (.ref a.law_map) = true
  F_law_great_right : ∃ fd, Fun K "_law_great_right" "_law_great_right" s_law_great_right a.law_great_right fd
  g_law_great_right : mg "_law_great_right" = some (.ref a.law_great_right)
  k_law_great_right : PySem.W.keepIn K (.ref a.law_great_right) = true
  F_law_wide_right : ∃ fd, Fun K "_law_wide_right" "_law_wide_right" s_law_wide_right a.law_wide_right fd
  g_law_wide_right : mg "_law_wide_right" = some (.ref a.law_wide_right)
  k_law_wide_right : PySem.W.keepIn K (.ref a.law_wide_right) = true
  F_law : ∃ fd, Fun K "law" "law" s_law a.law fd
  g_law : mg "law" = some (.ref a.law)
  k_law : PySem.W.keepIn K (.ref a.law) = true
  b_type : mg "type" = none
  b_int : mg "int" = none
  b_list : mg "list" = none
  b_tuple : mg "tuple" = none
  b_str : mg "str" = none
  b_len : mg "len" = none
  b_isinstance : mg "isinstance" = none
  b_abs : mg "abs" = none
  b_max : mg "max" = none
  b_min : mg "min" = none
  b_range : mg "range" = none
  b_repr : mg "repr" = none
  b_all : mg "all" = none
  b_zip : mg "zip" = none
  b_sorted : mg "sorted" = none
  b_set : mg "set" = none
  b_sum : mg "sum" = none
  b_enumerate : mg "enumerate" = none
  g_RankError : mg "RankError" = some (.ref a.RankError)
  g_InvalidNumber : mg "InvalidNumber" = some (.ref a.InvalidNumber)
  g_StepFailed : mg "StepFailed" = some (.ref a.StepFailed)
  e_InvalidNumber : ErrC K a.InvalidNumber a.InvalidNumber___init__ "value"
  e_StepFailed : ErrG K a.StepFailed a.StepFailed___init__ "index" "RuntimeError" "RuntimeError.__new__" "RuntimeError.__init__" [.type "RuntimeError", .type "Exception", .type "BaseException", .type "object"]
  cl_S : Cls K a.Sequence
  g_Sequence : mg "Sequence" = some (.ref a.Sequence)
  M_Sequence : L2.Mk K a.Sequence a.Sequence___init__
  isi_S : C8.InsC K a.Sequence
  ty_Sequence : PySem.W.typeIn K (.ref a.Sequence) = some (.type "type")
  n_steps : NoAttr K a.Sequence "_steps"
  p_steps : PropOf K a.Sequence "steps" a.P_steps a.Sequence_steps
  rd_Sequence : ClX.CRead K a.Sequence (.type "type")
  sta_is_step : CSta K a.Sequence (.type "type") "is_step" a.S_is_step a.Sequence_is_step
  sti_is_step : CStI K a.Sequence "is_step" a.S_is_step a.Sequence_is_step
  sf_S : PySem.W.selfFirst K a.Sequence = true
  addA_S : PySem.W.findIn K (.ref a.Sequence) "__add__" = some (some (.ref a.Sequence___add__))
  addF_S : PySem.W.isFn K (.ref a.Sequence___add__) = true
  cl_T : Cls K a.Table
  g_Table : mg "Table" = some (.ref a.Table)
  M_Table : L2.Mk K a.Table a.Table___init__
  isi_T : C8.InsC K a.Table
  ty_Table : PySem.W.typeIn K (.ref a.Table) = some (.type "type")
  n_start : NoAttr K a.Table "_start"
  n_lost : NoAttr K a.Table "_lost"
  p_start : PropOf K a.Table "start" a.P_start a.Table_start
  p_lost : PropOf K a.Table "lost" a.P_lost a.Table_lost
  eqA_T : PySem.W.findIn K (.ref a.Table) "__eq__" = some (some (.ref a.Table___eq__))
  eqF_T : PySem.W.isFn K (.ref a.Table___eq__) = true
  neA_T : PySem.W.findIn K (.ref a.Table) "__ne__" = some (some (.builtin "object.__ne__"))
  sub_T : PySem.W.subIn K (.ref a.Table) (.type "object") = some true
  callO_T : StX.CallO K a.Table a.Table___call__
  cl_E : Cls K a.Effect
  g_Effect : mg "Effect" = some (.ref a.Effect)
  M_Effect : L2.Mk K a.Effect a.Effect___init__
  isi_E : C8.InsC K a.Effect
  ty_Effect : PySem.W.typeIn K (.ref a.Effect) = some (.type "type")
  n_breaks : NoAttr K a.Effect "_breaks"
  n_tables : NoAttr K a.Effect "_tables"
  p_breaks : PropOf K a.Effect "breaks" a.P_breaks a.Effect_breaks
  p_tables : PropOf K a.Effect "tables" a.P_tables a.Effect_tables
  p_need : PropOf K a.Effect "need" a.P_need a.Effect_need
  m_table : Meth K a.Effect "table" a.Effect_table
  rd_Effect : ClX.CRead K a.Effect (.type "type")
  cm_of : ClX.CMet K a.Effect (.type "type") "of" a.C_of a.Effect_of
  ci_of : ClX.CInst K a.Effect "of" a.C_of a.Effect_of
  x_NN : PySem.W.exmOne K (.ref a.InvalidNumber) (.ref a.InvalidNumber) = some true
  x_SN : PySem.W.exmOne K (.ref a.StepFailed) (.ref a.InvalidNumber) = some false
  x_SS : PySem.W.exmOne K (.ref a.StepFailed) (.ref a.StepFailed) = some true


def cntV : V → Bool
  | .int i => decide (0 ≤ i)
  | _ => false
def rnkV : V → Bool
  | .int i => decide (0 < i)
  | _ => false
def spInt (K : PySem.W.Frag) : Sp := fun vs H Q _ => ∃ x, vs = [x] ∧ KV K H x ∧ Q (.bl (isI x)) H
def spCount (K : PySem.W.Frag) : Sp := fun vs H Q _ => ∃ x, vs = [x] ∧ KV K H x ∧ Q (.bl (cntV x)) H
def spRank (K : PySem.W.Frag) : Sp := fun vs H Q _ => ∃ x, vs = [x] ∧ KV K H x ∧ Q (.bl (rnkV x)) H
/-- a list or a tuple of values of known kinds -/
def Sq (K : PySem.W.Frag) (H : Hp) (x : V) (xs : List V) : Prop := ∃ p, x = .ref p ∧ (SqL K H p xs ∨ SqT K H p xs) ∧ (∀ y ∈ xs, KV K H y) ∧ xs.length ≤ 100000
/-- a value of another kind -/
def Od (K : PySem.W.Frag) (H : Hp) (x : V) : Prop := ∃ n, TyB K H x n ∧ tyN n = true ∧ n ≠ "list" ∧ n ≠ "tuple"
/-- a check of lists: what it says of a list's items -/
def spChk (K : PySem.W.Frag) (f : List V → Bool) : Sp := fun vs H Q _ => ∃ x, vs = [x] ∧ ((∃ xs, Sq K H x xs ∧ ∀ H', Same H H' → Q (.bl (f xs)) H') ∨ (Od K H x ∧ ∀ H', Same H H' → Q (.bl false) H'))
def numsV (xs : List V) : Bool := xs.all isI
section
variable {P : Program} {w : World} {K : PySem.W.Frag} {mg : Str → Option Value} {base : Heap} {a : Ads}

theorem ok_is_integer (T : Txt K mg a) : FnR P w K mg base CX0 1 a.is_integer (spInt K) := by
  obtain ⟨fd, F⟩ := T.F_is_integer
  refine XT.okR F sc_is_integer bn_is_integer (fun vs H Q E h => ?_) (fun cdv A outer s H vs Q E hr h => ?_)
  · obtain ⟨x, rfl, _⟩ := h
    rfl
  · obtain ⟨x, rfl, ⟨n, ht, hn⟩, q⟩ := h
    refine ⟨_, (pss_one (ps_ret (pe_cmpR op_eqTy (pe_callTy (typeK K) (by rfl) T.b_type (by decide +kernel) (pa_cons (pv 0) pa_nil)) (pe_bltn (v := .ty "int") (u := .type "int") (by rfl) T.b_int (by decide +kernel) rfl) (nomark _)))), ?_⟩
    refine ⟨x, rfl, x, n, rfl, ht, n, "int", rfl, rfl, hn, by decide +kernel, ?_⟩
    rw [tyB_isI ht]
    exact q

theorem ok_is_count (T : Txt K mg a) : FnR P w K mg base CX0 2 a.is_count (spCount K) := by
  obtain ⟨fd, F⟩ := T.F_is_count
  refine XT.okR F sc_is_count bn_is_count (fun vs H Q E h => ?_) (fun cdv A outer s H vs Q E hr h => ?_)
  · obtain ⟨x, rfl, _⟩ := h
    rfl
  · obtain ⟨x, rfl, hk, q⟩ := h
    have G_is_integer := ok_is_integer (P := P) (w := w) (base := base) T
    refine ⟨_, (pss_one (ps_ret (pe_and (pe_callR G_is_integer (hr.mono (by decide)) rfl T.g_is_integer T.k_is_integer pass0 (pa_cons (pv 0) pa_nil)) (pe_one (pe_cmpR op_ge (pv 0) pe_int (nomark _)))))), ?_⟩
    refine ⟨x, rfl, x, rfl, hk, _, rfl, ?_⟩
    cases x with
    | int i => exact iteT ⟨_, rfl, _, _, rfl, rfl, q⟩
    | _ => exact iteF q

theorem ok_is_rank (T : Txt K mg a) : FnR P w K mg base CX0 2 a.is_rank (spRank K) := by
  obtain ⟨fd, F⟩ := T.F_is_rank
  refine XT.okR F sc_is_rank bn_is_rank (fun vs H Q E h => ?_) (fun cdv A outer s H vs Q E hr h => ?_)
  · obtain ⟨x, rfl, _⟩ := h
    rfl
  · obtain ⟨x, rfl, hk, q⟩ := h
    have G_is_integer := ok_is_integer (P := P) (w := w) (base := base) T
    refine ⟨_, (pss_one (ps_ret (pe_and (pe_callR G_is_integer (hr.mono (by decide)) rfl T.g_is_integer T.k_is_integer pass0 (pa_cons (pv 0) pa_nil)) (pe_one (pe_cmpR op_gt (pv 0) pe_int (nomark _)))))), ?_⟩
    refine ⟨x, rfl, x, rfl, hk, _, rfl, ?_⟩
    cases x with
    | int i => exact iteT ⟨_, rfl, _, _, rfl, rfl, q⟩
    | _ => exact iteF q

theorem iteH {c : Bool} {A B : Prop} (h : c = true) (x : A) : if c = true then A else B := by
  rw [if_pos h]
  exact x
theorem iteN {c : Bool} {A B : Prop} (h : c = false) (x : B) : if c = true then A else B := by
  rw [h]
  exact iteF x
theorem all_map_bl (f : V → Bool) (xs : List V) : ((xs.map f).all id) = xs.all f := by
  rw [List.all_map]
  rfl
theorem in_lt {n : String} (h1 : n ≠ "list") (h2 : n ≠ "tuple") : (["list", "tuple"].any fun m => decide (m = n)) = false := by
  simp [Ne.symm h1, Ne.symm h2]
theorem line_ge : (100000 : Nat) ≤ sizeLine := by rw [sizeLine_eq]; decide
theorem ok_is_number_list (T : Txt K mg a) : FnR P w K mg base CX0 2 a.is_number_list (spChk K numsV) := by
  obtain ⟨fd, F⟩ := T.F_is_number_list
  refine XT.okR F sc_is_number_list bn_is_number_list (fun vs H Q E h => ?_) (fun cdv A outer s H vs Q E hr h => ?_)
  · obtain ⟨x, rfl, _⟩ := h
    rfl
  · obtain ⟨x, rfl, hq⟩ := h
    have G_is_integer := ok_is_integer (P := P) (w := w) (base := base) T
    rcases hq with ⟨xs, ⟨p, rfl, hS, kv, hl⟩, q0⟩ | ⟨⟨n, ht, hn, n1, n2⟩, q0⟩
    · rcases hS with hS | hS
      · refine ⟨_, (pss_one (ps_ret (pe_and (pe_cmpR (inTyK K) (pe_callTy (typeK K) (by rfl) T.b_type (by decide +kernel) (pa_cons (pv 0) pa_nil)) (pe_tup (pa_cons (pe_bltn (v := .ty "list") (u := .type "list") (by rfl) T.b_list (by decide +kernel) rfl) (pa_cons (pe_bltn (v := .ty "tuple") (u := .type "tuple") (by rfl) T.b_tuple (by decide +kernel) rfl) pa_nil))) (by rfl)) (pe_one (pe_callB (allK K rfl) (by rfl) T.b_all (by decide +kernel) (pa_cons (pe_lc (own := [("number", 1)])  rfl sc_is_number_list.nd (pi_list (pv 0)) (blkOk_by (N := N_is_number_list) (sc := defScope s_is_number_list) (by decide +kernel)) (fun _ _ _ _ _ => by exact (pg_name (i := 1) sc_is_number_list.nd rfl (Or.inl rfl))) (fun _ _ _ _ _ => by exact pts_nil) (fun _ _ _ _ _ => by exact (pe_callR G_is_integer (hr.mono (by decide)) rfl T.g_is_integer T.k_is_integer pass0 (pa_cons (pv 1) pa_nil)))) pa_nil)))))), ?_⟩
        have hS1 : ∀ q o, H q = Option.none → SqL K (upd H q o) p xs := fun q o hq => Same.seq (same_new hq) hS
        refine ⟨_, rfl, _, "list", rfl, TyB.lst hS, by decide, fun q hq => ⟨_, q, ["list", "tuple"], rfl, rfl, SqT.of upd_same, by decide +kernel, by decide +kernel, _, rfl, iteH (by decide +kernel) ?_⟩⟩
        refine ⟨_, rfl, p, rfl, ⟨xs, hS1 _ _ hq⟩, fun D hD => lcM (stat_list (hS1 _ _ hq)) hD (fun i => .bl (isI (xs.getD i .non))) (Nat.le_trans hl line_ge) ?_ ?_⟩
        · intro i y H2 R hi s px k
          refine ⟨rfl, y, rfl, y, rfl, (kv y (List.mem_of_getElem? px)).same ((same_new hq).trans s), ?_⟩
          have := k _ (Same.refl _)
          rw [getD_of px] at this
          exact this
        · intro H2 s hL
          rw [range_map (fun y => V.bl (isI y)) .non xs] at hL
          refine ⟨D, xs.map isI, rfl, SqL.of (by rw [hL, List.map_map]; rfl), ?_⟩
          rw [all_map_bl]
          exact q0 _ ((same_new hq).trans s)
      · refine ⟨_, (pss_one (ps_ret (pe_and (pe_cmpR (inTyK K) (pe_callTy (typeK K) (by rfl) T.b_type (by decide +kernel) (pa_cons (pv 0) pa_nil)) (pe_tup (pa_cons (pe_bltn (v := .ty "list") (u := .type "list") (by rfl) T.b_list (by decide +kernel) rfl) (pa_cons (pe_bltn (v := .ty "tuple") (u := .type "tuple") (by rfl) T.b_tuple (by decide +kernel) rfl) pa_nil))) (by rfl)) (pe_one (pe_callB (allK K rfl) (by rfl) T.b_all (by decide +kernel) (pa_cons (pe_lc (own := [("number", 1)])  rfl sc_is_number_list.nd (pi_tup (pv 0)) (blkOk_by (N := N_is_number_list) (sc := defScope s_is_number_list) (by decide +kernel)) (fun _ _ _ _ _ => by exact (pg_name (i := 1) sc_is_number_list.nd rfl (Or.inl rfl))) (fun _ _ _ _ _ => by exact pts_nil) (fun _ _ _ _ _ => by exact (pe_callR G_is_integer (hr.mono (by decide)) rfl T.g_is_integer T.k_is_integer pass0 (pa_cons (pv 1) pa_nil)))) pa_nil)))))), ?_⟩
        have hS1 : ∀ q o, H q = Option.none → SqT K (upd H q o) p xs := fun q o hq => same_seqT (same_new hq) hS
        refine ⟨_, rfl, _, "tuple", rfl, TyB.tup hS, by decide, fun q hq => ⟨_, q, ["list", "tuple"], rfl, rfl, SqT.of upd_same, by decide +kernel, by decide +kernel, _, rfl, iteH (by decide +kernel) ?_⟩⟩
        refine ⟨_, rfl, p, rfl, ⟨xs, hS1 _ _ hq⟩, fun D hD => lcM (stat_tup (hS1 _ _ hq)) hD (fun i => .bl (isI (xs.getD i .non))) (Nat.le_trans hl line_ge) ?_ ?_⟩
        · intro i y H2 R hi s px k
          refine ⟨rfl, y, rfl, y, rfl, (kv y (List.mem_of_getElem? px)).same ((same_new hq).trans s), ?_⟩
          have := k _ (Same.refl _)
          rw [getD_of px] at this
          exact this
        · intro H2 s hL
          rw [range_map (fun y => V.bl (isI y)) .non xs] at hL
          refine ⟨D, xs.map isI, rfl, SqL.of (by rw [hL, List.map_map]; rfl), ?_⟩
          rw [all_map_bl]
          exact q0 _ ((same_new hq).trans s)
    · refine ⟨_, (pss_one (ps_ret (pe_and (pe_cmpR (inTyK K) (pe_callTy (typeK K) (by rfl) T.b_type (by decide +kernel) (pa_cons (pv 0) pa_nil)) (pe_tup (pa_cons (pe_bltn (v := .ty "list") (u := .type "list") (by rfl) T.b_list (by decide +kernel) rfl) (pa_cons (pe_bltn (v := .ty "tuple") (u := .type "tuple") (by rfl) T.b_tuple (by decide +kernel) rfl) pa_nil))) (by rfl)) (pe_one (pe_callB (allK K rfl) (by rfl) T.b_all (by decide +kernel) (pa_cons (pe_lc (own := [("number", 1)])  rfl sc_is_number_list.nd (pi_list (pv 0)) (blkOk_by (N := N_is_number_list) (sc := defScope s_is_number_list) (by decide +kernel)) (fun _ _ _ _ _ => by exact (pg_name (i := 1) sc_is_number_list.nd rfl (Or.inl rfl))) (fun _ _ _ _ _ => by exact pts_nil) (fun _ _ _ _ _ => by exact (pe_callR G_is_integer (hr.mono (by decide)) rfl T.g_is_integer T.k_is_integer pass0 (pa_cons (pv 1) pa_nil)))) pa_nil)))))), ?_⟩
      exact ⟨_, rfl, _, n, rfl, ht, by decide, fun q hq => ⟨_, q, ["list", "tuple"], rfl, rfl, SqT.of upd_same, hn, by decide +kernel, _, rfl, iteN (in_lt n1 n2) (q0 _ (same_new hq))⟩⟩

def vi : V → Int
  | .int i => i
  | _ => 0
theorem nums_map {xs : List V} (h : numsV xs = true) : xs = (xs.map vi).map V.int := by
  unfold numsV at h
  rw [List.all_eq_true] at h
  rw [List.map_map]
  conv => lhs; rw [← List.map_id xs]
  apply List.map_congr_left
  intro x hx
  have := h x hx
  cases x with
  | int i => rfl
  | _ => exact absurd this Bool.false_ne_true
theorem nums_of (L : List Int) : numsV (L.map V.int) = true := by
  unfold numsV
  rw [List.all_map]
  exact List.all_eq_true.mpr fun x _ => rfl
theorem vi_map (L : List Int) : (L.map V.int).map vi = L := by
  rw [List.map_map]
  exact List.map_id L
def ascV (xs : List V) : Bool := numsV xs && decide (Tbl.Asc (xs.map vi))
theorem cut1 (xs : List V) : cutV xs (some 1) Option.none = xs.drop 1 := by
  unfold cutV
  have e : HT.sIx xs.length 0 (some 1) = min 1 xs.length := HT.sIx_nat xs.length 0 1
  rw [e, HT.sIx_none]
  cases xs with
  | nil => rfl
  | cons x xs => simp
theorem asc_all (L : List Int) : ((List.range (min L.length (L.drop 1).length)).map fun i => decide (L.getD i 0 < L.getD (i + 1) 0)).all id = decide (Tbl.Asc L) := by
  rw [Bool.eq_iff_iff, decide_eq_true_eq, Tbl.asc_adj, List.all_eq_true]
  constructor
  · intro h i hi
    have := h (decide (L.getD i 0 < L.getD (i + 1) 0)) (List.mem_map.mpr ⟨i, List.mem_range.mpr (by simp; omega), rfl⟩)
    simpa [List.getD, hi, Nat.lt_of_succ_lt hi] using this
  · intro h b hb
    obtain ⟨i, hi, rfl⟩ := List.mem_map.mp hb
    have hi' : i + 1 < L.length := by have := List.mem_range.mp hi; simp at this; omega
    simpa [List.getD, hi', Nat.lt_of_succ_lt hi'] using h i hi' 
theorem ok_is_ascending (T : Txt K mg a) : FnR P w K mg base CX0 3 a.is_ascending (spChk K ascV) := by
  obtain ⟨fd, F⟩ := T.F_is_ascending
  refine XT.okR F sc_is_ascending bn_is_ascending (fun vs H Q E h => ?_) (fun cdv A outer s H vs Q E hr h => ?_)
  · obtain ⟨x, rfl, _⟩ := h
    rfl
  · obtain ⟨x, rfl, hq⟩ := h
    have G_is_number_list := ok_is_number_list (P := P) (w := w) (base := base) T
    rcases hq with ⟨xs, ⟨p, rfl, hS, kv, hl⟩, q0⟩ | ⟨od, q0⟩
    · have hA : True := trivial
      rcases hS with hS | hS
      · refine ⟨_, (pss_one (ps_ret (pe_and (pe_callR G_is_number_list (hr.mono (by decide)) rfl T.g_is_number_list T.k_is_number_list pass0 (pa_cons (pv 0) pa_nil)) (pe_one (pe_callB (allK K rfl) (by rfl) T.b_all (by decide +kernel) (pa_cons (pe_lc (own := [("low", 1), ("high", 2)])  rfl sc_is_ascending.nd (RZ.pi_zipA (by rfl) T.b_zip (pa_cons (pv 0) (pa_cons (pe_slice (slLK K) (pv 0) (po_some pe_int) po_none) pa_nil))) (blkOk_by (N := N_is_ascending) (sc := defScope s_is_ascending) (by decide +kernel)) (fun _ _ _ _ _ => by exact (tupK K (n := 2) (by rfl) (pgs_cons (pg_name (i := 1) sc_is_ascending.nd rfl (Or.inl rfl)) (pgs_cons (pg_name (i := 2) sc_is_ascending.nd rfl (Or.inl rfl)) pgs_nil)))) (fun _ _ _ _ _ => by exact pts_nil) (fun _ _ _ _ _ => by exact (pe_cmpR op_lt (pv 1) (pv 2) (nomark _)))) pa_nil)))))), ?_⟩
        refine ⟨_, rfl, .ref p, rfl, .inl ⟨xs, ⟨p, rfl, .inl hS, kv, hl⟩, fun H1 s1 => ⟨_, rfl, ?_⟩⟩⟩
        cases hn : numsV xs with
        | false => exact iteN rfl (by have := q0 _ s1; unfold ascV at this; rwa [hn] at this)
        | true =>
          refine iteH rfl ?_
          obtain ⟨L, rfl⟩ : ∃ L : List Int, xs = L.map V.int := ⟨_, nums_map hn⟩
          have hS1 := s1.seq hS
          refine ⟨_, rfl, _, rfl, _, rfl, p, _, rfl, hS1, fun z hz => ?_⟩
          rw [cut1, ← List.map_drop]
          have hS2 : SqL K (upd H1 z (.lst ((L.drop 1).map V.int))) p (L.map V.int) := Same.seq (same_new hz) hS1
          have hS3 : SqL K (upd H1 z (.lst ((L.drop 1).map V.int))) z ((L.drop 1).map V.int) := SqL.of upd_same
          refine ⟨p, z, _, _, rfl, .inl ⟨hS2, hS3, fun D hD => lcM (stat_zip hS2 hS3) hD (fun i => .bl (decide (L.getD i 0 < L.getD (i + 1) 0))) (Nat.le_trans (Nat.min_le_left _ _) (Nat.le_trans hl line_ge)) ?_ ?_⟩⟩
          · rintro i v H3 R hi s3 ⟨U, x, y, rfl, hU, px, py⟩ k
            refine ⟨U, [x, y], rfl, SqT.of hU, rfl, x, [y], rfl, y, [], rfl, rfl, rfl, ?_⟩
            rw [List.getElem?_map] at px
            rw [List.getElem?_map] at py
            obtain ⟨i1, h1, rfl⟩ := Option.map_eq_some_iff.mp px
            obtain ⟨i2, h2, rfl⟩ := Option.map_eq_some_iff.mp py
            refine ⟨_, rfl, _, rfl, i1, i2, rfl, rfl, ?_⟩
            have hk := k _ (Same.refl _)
            have e1 : L.getD i 0 = i1 := by simp [List.getD, h1]
            have e2 : L.getD (i + 1) 0 = i2 := by
              rw [List.getElem?_drop] at h2
              simp [List.getD, Nat.add_comm i 1, h2]
            rw [e1, e2] at hk
            exact hk
          · intro H3 s3 hL
            have e0 : min (L.map V.int).length ((L.drop 1).map V.int).length = min L.length (L.drop 1).length := by rw [List.length_map, List.length_map]
            rw [e0] at hL
            refine ⟨D, (List.range (min L.length (L.drop 1).length)).map fun i => decide (L.getD i 0 < L.getD (i + 1) 0), rfl, SqL.of (by rw [hL, List.map_map]; rfl), ?_⟩
            rw [asc_all]
            have := q0 _ ((s1.trans (same_new hz)).trans s3)
            unfold ascV at this
            rw [hn, Bool.true_and, vi_map] at this
            exact this
      · refine ⟨_, (pss_one (ps_ret (pe_and (pe_callR G_is_number_list (hr.mono (by decide)) rfl T.g_is_number_list T.k_is_number_list pass0 (pa_cons (pv 0) pa_nil)) (pe_one (pe_callB (allK K rfl) (by rfl) T.b_all (by decide +kernel) (pa_cons (pe_lc (own := [("low", 1), ("high", 2)])  rfl sc_is_ascending.nd (RZ.pi_zipA (by rfl) T.b_zip (pa_cons (pv 0) (pa_cons (pe_slice (slTK K) (pv 0) (po_some pe_int) po_none) pa_nil))) (blkOk_by (N := N_is_ascending) (sc := defScope s_is_ascending) (by decide +kernel)) (fun _ _ _ _ _ => by exact (tupK K (n := 2) (by rfl) (pgs_cons (pg_name (i := 1) sc_is_ascending.nd rfl (Or.inl rfl)) (pgs_cons (pg_name (i := 2) sc_is_ascending.nd rfl (Or.inl rfl)) pgs_nil)))) (fun _ _ _ _ _ => by exact pts_nil) (fun _ _ _ _ _ => by exact (pe_cmpR op_lt (pv 1) (pv 2) (nomark _)))) pa_nil)))))), ?_⟩
        refine ⟨_, rfl, .ref p, rfl, .inl ⟨xs, ⟨p, rfl, .inr hS, kv, hl⟩, fun H1 s1 => ⟨_, rfl, ?_⟩⟩⟩
        cases hn : numsV xs with
        | false => exact iteN rfl (by have := q0 _ s1; unfold ascV at this; rwa [hn] at this)
        | true =>
          refine iteH rfl ?_
          obtain ⟨L, rfl⟩ : ∃ L : List Int, xs = L.map V.int := ⟨_, nums_map hn⟩
          have hS1 := same_seqT s1 hS
          refine ⟨_, rfl, _, rfl, _, rfl, p, _, rfl, hS1, fun hw => ?_, fun hw z hz => ?_⟩
          · have e : L = [] := by
              have h1 := hw.1
              have e1 : HT.sIx (L.map V.int).length 0 (some 1) = min 1 (L.map V.int).length := HT.sIx_nat _ 0 1
              rw [e1, List.length_map] at h1
              exact List.length_eq_zero_iff.mp (by omega)
            have hS3 : SqT K H1 p ((L.drop 1).map V.int) := by rw [e]; rw [e] at hS1; exact hS1
            refine ⟨p, p, _, _, rfl, .inr ⟨hS1, hS3, fun D hD => lcM (stat_zipT hS1 hS3) hD (fun i => .bl (decide (L.getD i 0 < L.getD (i + 1) 0))) (Nat.le_trans (Nat.min_le_left _ _) (Nat.le_trans hl line_ge)) ?_ ?_⟩⟩
            · rintro i v H3 R hi s3 ⟨U, x, y, rfl, hU, px, py⟩ k
              refine ⟨U, [x, y], rfl, SqT.of hU, rfl, x, [y], rfl, y, [], rfl, rfl, rfl, ?_⟩
              rw [List.getElem?_map] at px
              rw [List.getElem?_map] at py
              obtain ⟨i1, h1, rfl⟩ := Option.map_eq_some_iff.mp px
              obtain ⟨i2, h2, rfl⟩ := Option.map_eq_some_iff.mp py
              refine ⟨_, rfl, _, rfl, i1, i2, rfl, rfl, ?_⟩
              have hk := k _ (Same.refl _)
              have e1 : L.getD i 0 = i1 := by simp [List.getD, h1]
              have e2 : L.getD (i + 1) 0 = i2 := by
                rw [List.getElem?_drop] at h2
                simp [List.getD, Nat.add_comm i 1, h2]
              rw [e1, e2] at hk
              exact hk
            · intro H3 s3 hL
              have e0 : min (L.map V.int).length ((L.drop 1).map V.int).length = min L.length (L.drop 1).length := by rw [List.length_map, List.length_map]
              rw [e0] at hL
              refine ⟨D, (List.range (min L.length (L.drop 1).length)).map fun i => decide (L.getD i 0 < L.getD (i + 1) 0), rfl, SqL.of (by rw [hL, List.map_map]; rfl), ?_⟩
              rw [asc_all]
              have := q0 _ ((s1).trans s3)
              unfold ascV at this
              rw [hn, Bool.true_and, vi_map] at this
              exact this
          · rw [cut1, ← List.map_drop]
            have hS2 : SqT K (upd H1 z (.tup ((L.drop 1).map V.int))) p (L.map V.int) := same_seqT (same_new hz) hS1
            have hS3 : SqT K (upd H1 z (.tup ((L.drop 1).map V.int))) z ((L.drop 1).map V.int) := SqT.of upd_same
            refine ⟨p, z, _, _, rfl, .inr ⟨hS2, hS3, fun D hD => lcM (stat_zipT hS2 hS3) hD (fun i => .bl (decide (L.getD i 0 < L.getD (i + 1) 0))) (Nat.le_trans (Nat.min_le_left _ _) (Nat.le_trans hl line_ge)) ?_ ?_⟩⟩
            · rintro i v H3 R hi s3 ⟨U, x, y, rfl, hU, px, py⟩ k
              refine ⟨U, [x, y], rfl, SqT.of hU, rfl, x, [y], rfl, y, [], rfl, rfl, rfl, ?_⟩
              rw [List.getElem?_map] at px
              rw [List.getElem?_map] at py
              obtain ⟨i1, h1, rfl⟩ := Option.map_eq_some_iff.mp px
              obtain ⟨i2, h2, rfl⟩ := Option.map_eq_some_iff.mp py
              refine ⟨_, rfl, _, rfl, i1, i2, rfl, rfl, ?_⟩
              have hk := k _ (Same.refl _)
              have e1 : L.getD i 0 = i1 := by simp [List.getD, h1]
              have e2 : L.getD (i + 1) 0 = i2 := by
                rw [List.getElem?_drop] at h2
                simp [List.getD, Nat.add_comm i 1, h2]
              rw [e1, e2] at hk
              exact hk
            · intro H3 s3 hL
              have e0 : min (L.map V.int).length ((L.drop 1).map V.int).length = min L.length (L.drop 1).length := by rw [List.length_map, List.length_map]
              rw [e0] at hL
              refine ⟨D, (List.range (min L.length (L.drop 1).length)).map fun i => decide (L.getD i 0 < L.getD (i + 1) 0), rfl, SqL.of (by rw [hL, List.map_map]; rfl), ?_⟩
              rw [asc_all]
              have := q0 _ ((s1.trans (same_new hz)).trans s3)
              unfold ascV at this
              rw [hn, Bool.true_and, vi_map] at this
              exact this
    · refine ⟨_, (pss_one (ps_ret (pe_and (pe_callR G_is_number_list (hr.mono (by decide)) rfl T.g_is_number_list T.k_is_number_list pass0 (pa_cons (pv 0) pa_nil)) (pe_one (pe_callB (allK K rfl) (by rfl) T.b_all (by decide +kernel) (pa_cons (pe_lc (own := [("low", 1), ("high", 2)])  rfl sc_is_ascending.nd (RZ.pi_zipA (by rfl) T.b_zip (pa_cons (pv 0) (pa_cons (pe_slice (slLK K) (pv 0) (po_some pe_int) po_none) pa_nil))) (blkOk_by (N := N_is_ascending) (sc := defScope s_is_ascending) (by decide +kernel)) (fun _ _ _ _ _ => by exact (tupK K (n := 2) (by rfl) (pgs_cons (pg_name (i := 1) sc_is_ascending.nd rfl (Or.inl rfl)) (pgs_cons (pg_name (i := 2) sc_is_ascending.nd rfl (Or.inl rfl)) pgs_nil)))) (fun _ _ _ _ _ => by exact pts_nil) (fun _ _ _ _ _ => by exact (pe_cmpR op_lt (pv 1) (pv 2) (nomark _)))) pa_nil)))))), ?_⟩
      exact ⟨_, rfl, x, rfl, .inr ⟨od, fun H1 s1 => ⟨_, rfl, iteN rfl (q0 _ s1)⟩⟩⟩

def rnkL (xs : List V) : Bool := ascV xs && xs.all rnkV
theorem ok_is_rank_list (T : Txt K mg a) : FnR P w K mg base CX0 4 a.is_rank_list (spChk K rnkL) := by
  obtain ⟨fd, F⟩ := T.F_is_rank_list
  refine XT.okR F sc_is_rank_list bn_is_rank_list (fun vs H Q E h => ?_) (fun cdv A outer s H vs Q E hr h => ?_)
  · obtain ⟨x, rfl, _⟩ := h
    rfl
  · obtain ⟨x, rfl, hq⟩ := h
    have G_is_ascending := ok_is_ascending (P := P) (w := w) (base := base) T
    have G_is_rank := ok_is_rank (P := P) (w := w) (base := base) T
    rcases hq with ⟨xs, ⟨p, rfl, hS, kv, hl⟩, q0⟩ | ⟨od, q0⟩
    · rcases hS with hS | hS
      · refine ⟨_, (pss_one (ps_ret (pe_and (pe_callR G_is_ascending (hr.mono (by decide)) rfl T.g_is_ascending T.k_is_ascending pass0 (pa_cons (pv 0) pa_nil)) (pe_one (pe_callB (allK K rfl) (by rfl) T.b_all (by decide +kernel) (pa_cons (pe_lc (own := [("number", 1)])  rfl sc_is_rank_list.nd (pi_list (pv 0)) (blkOk_by (N := N_is_rank_list) (sc := defScope s_is_rank_list) (by decide +kernel)) (fun _ _ _ _ _ => by exact (pg_name (i := 1) sc_is_rank_list.nd rfl (Or.inl rfl))) (fun _ _ _ _ _ => by exact pts_nil) (fun _ _ _ _ _ => by exact (pe_callR G_is_rank (hr.mono (by decide)) rfl T.g_is_rank T.k_is_rank pass0 (pa_cons (pv 1) pa_nil)))) pa_nil)))))), ?_⟩
        refine ⟨_, rfl, .ref p, rfl, .inl ⟨xs, ⟨p, rfl, .inl hS, kv, hl⟩, fun H1 s1 => ⟨_, rfl, ?_⟩⟩⟩
        cases hn : ascV xs with
        | false => exact iteN rfl (by have := q0 _ s1; unfold rnkL at this; rwa [hn] at this)
        | true =>
          refine iteH rfl ?_
          have hS1 := s1.seq hS
          refine ⟨_, rfl, p, rfl, ⟨xs, hS1⟩, fun D hD => lcM (stat_list hS1) hD (fun i => .bl (rnkV (xs.getD i .non))) (Nat.le_trans hl line_ge) ?_ ?_⟩
          · intro i y H2 R hi s px k
            refine ⟨rfl, y, rfl, y, rfl, (kv y (List.mem_of_getElem? px)).same (s1.trans s), ?_⟩
            have := k _ (Same.refl _)
            rw [getD_of px] at this
            exact this
          · intro H2 s hL
            rw [range_map (fun y => V.bl (rnkV y)) .non xs] at hL
            refine ⟨D, xs.map rnkV, rfl, SqL.of (by rw [hL, List.map_map]; rfl), ?_⟩
            rw [all_map_bl]
            have := q0 _ (s1.trans s)
            unfold rnkL at this
            rw [hn, Bool.true_and] at this
            exact this
      · refine ⟨_, (pss_one (ps_ret (pe_and (pe_callR G_is_ascending (hr.mono (by decide)) rfl T.g_is_ascending T.k_is_ascending pass0 (pa_cons (pv 0) pa_nil)) (pe_one (pe_callB (allK K rfl) (by rfl) T.b_all (by decide +kernel) (pa_cons (pe_lc (own := [("number", 1)])  rfl sc_is_rank_list.nd (pi_tup (pv 0)) (blkOk_by (N := N_is_rank_list) (sc := defScope s_is_rank_list) (by decide +kernel)) (fun _ _ _ _ _ => by exact (pg_name (i := 1) sc_is_rank_list.nd rfl (Or.inl rfl))) (fun _ _ _ _ _ => by exact pts_nil) (fun _ _ _ _ _ => by exact (pe_callR G_is_rank (hr.mono (by decide)) rfl T.g_is_rank T.k_is_rank pass0 (pa_cons (pv 1) pa_nil)))) pa_nil)))))), ?_⟩
        refine ⟨_, rfl, .ref p, rfl, .inl ⟨xs, ⟨p, rfl, .inr hS, kv, hl⟩, fun H1 s1 => ⟨_, rfl, ?_⟩⟩⟩
        cases hn : ascV xs with
        | false => exact iteN rfl (by have := q0 _ s1; unfold rnkL at this; rwa [hn] at this)
        | true =>
          refine iteH rfl ?_
          have hS1 := same_seqT s1 hS
          refine ⟨_, rfl, p, rfl, ⟨xs, hS1⟩, fun D hD => lcM (stat_tup hS1) hD (fun i => .bl (rnkV (xs.getD i .non))) (Nat.le_trans hl line_ge) ?_ ?_⟩
          · intro i y H2 R hi s px k
            refine ⟨rfl, y, rfl, y, rfl, (kv y (List.mem_of_getElem? px)).same (s1.trans s), ?_⟩
            have := k _ (Same.refl _)
            rw [getD_of px] at this
            exact this
          · intro H2 s hL
            rw [range_map (fun y => V.bl (rnkV y)) .non xs] at hL
            refine ⟨D, xs.map rnkV, rfl, SqL.of (by rw [hL, List.map_map]; rfl), ?_⟩
            rw [all_map_bl]
            have := q0 _ (s1.trans s)
            unfold rnkL at this
            rw [hn, Bool.true_and] at this
            exact this
    · refine ⟨_, (pss_one (ps_ret (pe_and (pe_callR G_is_ascending (hr.mono (by decide)) rfl T.g_is_ascending T.k_is_ascending pass0 (pa_cons (pv 0) pa_nil)) (pe_one (pe_callB (allK K rfl) (by rfl) T.b_all (by decide +kernel) (pa_cons (pe_lc (own := [("number", 1)])  rfl sc_is_rank_list.nd (pi_list (pv 0)) (blkOk_by (N := N_is_rank_list) (sc := defScope s_is_rank_list) (by decide +kernel)) (fun _ _ _ _ _ => by exact (pg_name (i := 1) sc_is_rank_list.nd rfl (Or.inl rfl))) (fun _ _ _ _ _ => by exact pts_nil) (fun _ _ _ _ _ => by exact (pe_callR G_is_rank (hr.mono (by decide)) rfl T.g_is_rank T.k_is_rank pass0 (pa_cons (pv 1) pa_nil)))) pa_nil)))))), ?_⟩
      exact ⟨_, rfl, x, rfl, .inr ⟨od, fun H1 s1 => ⟨_, rfl, iteN rfl (q0 _ s1)⟩⟩⟩

theorem rnkL_of {L : List Int} (h1 : Tbl.Asc L) (h2 : Tbl.Pos L) : rnkL (L.map V.int) = true := by
  unfold rnkL ascV
  rw [nums_of, vi_map, decide_eq_true h1, List.all_map, Bool.true_and, Bool.true_and]
  exact List.all_eq_true.mpr fun x hx => decide_eq_true (by have := h2 x hx; omega)

theorem tyB_isS {H : Hp} {x : V} {n : String} (h : TyB K H x n) : decide (n = "str") = (match x with | .str _ => true | _ => false) := by
  cases h <;> first | rfl | decide +kernel
/-- whether a pair is a step -/
def stpV : V → V → Bool
  | .str z, y => if decide (V.str z = V.str "insert") = true then isI y else (decide (V.str z = V.str "remove") && rnkV y)
  | _, _ => false
theorem stpV_st (s : Stp) : stpV (.str (wrd s.1)) (.int s.2) = goodS s := by
  obtain ⟨b, i⟩ := s
  cases b
  · have h1 : decide (V.str (wrd false) = V.str "insert") = false := by decide +kernel
    have h2 : decide (V.str (wrd false) = V.str "remove") = true := by decide +kernel
    simp only [stpV, h1, h2, Bool.false_eq_true, if_false, Bool.true_and, rnkV, goodS, Bool.false_or]
  · have h1 : decide (V.str (wrd true) = V.str "insert") = true := by decide +kernel
    simp only [stpV, h1, if_true, isI, goodS, Bool.true_or]
/-- is_step -/
def spStp (K : PySem.W.Frag) : Sp := fun vs H Q _ => ∃ x, vs = [x] ∧ ((∃ n, TyB K H x n ∧ tyN n = true ∧ n ≠ "tuple" ∧ Q (.bl false) H) ∨ (∃ r xs, x = .ref r ∧ SqT K H r xs ∧ xs.length ≠ 2 ∧ Q (.bl false) H) ∨
  ∃ r u y, x = .ref r ∧ SqT K H r [u, y] ∧ KV K H u ∧ KV K H y ∧ Q (.bl (stpV u y)) H)
theorem kv_str {H : Hp} (z : Str) : KV K H (.str z) := ⟨"str", .str z, by decide +kernel⟩
theorem stp_of {H : Hp} {Q : VK} {E : XK} {x : V} {s : Stp} (h : StAt K H x s) (q : Q (.bl (goodS s)) H) : spStp K [x] H Q E := by
  obtain ⟨r, rfl, hr⟩ := h
  exact ⟨_, rfl, .inr (.inr ⟨r, _, _, rfl, hr, kv_str _, kv_int _, by rw [stpV_st]; exact q⟩)⟩
theorem stp_good {H : Hp} {Q : VK} {E : XK} {x : V} {s : Stp} (h : StAt K H x s) (g : goodS s = true) (q : Q (.bl true) H) : spStp K [x] H Q E := stp_of h (by rw [g]; exact q)
theorem ok_Sequence_is_step (T : Txt K mg a) : FnR P w K mg base CX0 3 a.Sequence_is_step (spStp K) := by
  obtain ⟨fd, F⟩ := T.F_Sequence_is_step
  refine XT.okR F sc_Sequence_is_step bn_Sequence_is_step (fun vs H Q E h => ?_) (fun cdv A outer s H vs Q E hr h => ?_)
  · obtain ⟨x, rfl, _⟩ := h
    rfl
  · obtain ⟨x, rfl, h⟩ := h
    have G_is_integer := ok_is_integer (P := P) (w := w) (base := base) T
    have G_is_rank := ok_is_rank (P := P) (w := w) (base := base) T
    refine ⟨_, (pss_cons (ps_if (PW.pt (pw_or (pt_cmpR op_neTy (pe_callTy (typeK K) (by rfl) T.b_type (by decide +kernel) (pa_cons (pv 0) pa_nil)) (pe_bltn (v := .ty "tuple") (u := .type "tuple") (by rfl) T.b_tuple (by decide +kernel) rfl) (nomark _)) (pw_or1 (pt_cmpR op_ne (pe_callB (lenK K) (by rfl) T.b_len (by decide +kernel) (pa_cons (pv 0) pa_nil)) pe_int (nomark _))))) (pss_one (ps_ret pe_bl)) pss_nil)
      (pss_cons (ps_asg (pv 0) (tupK K (n := 2) (by rfl) (pgs_cons (pg_name (i := 1) sc_Sequence_is_step.nd rfl (Or.inl rfl)) (pgs_cons (pg_name (i := 2) sc_Sequence_is_step.nd rfl (Or.inl rfl)) pgs_nil))))
      (pss_cons (ps_if (pt_cmpR op_neTy (pe_callTy (typeK K) (by rfl) T.b_type (by decide +kernel) (pa_cons (pv 1) pa_nil)) (pe_bltn (v := .ty "str") (u := .type "str") (by rfl) T.b_str (by decide +kernel) rfl) (nomark _)) (pss_one (ps_ret pe_bl)) pss_nil)
      (pss_cons (ps_if (pt_cmpR op_eq (pv 1) pe_str (nomark _)) (pss_one (ps_ret (pe_callR G_is_integer (hr.mono (by decide)) rfl T.g_is_integer T.k_is_integer pass0 (pa_cons (pv 2) pa_nil)))) pss_nil)
      (pss_one (ps_ret (pe_and (pe_cmpR op_eq (pv 1) pe_str (nomark _)) (pe_one (pe_callR G_is_rank (hr.mono (by decide)) rfl T.g_is_rank T.k_is_rank pass0 (pa_cons (pv 2) pa_nil)))))))))), ?_⟩
    rcases h with ⟨n, ht, hn, hne, q⟩ | ⟨r, xs, rfl, hS, hl, q⟩ | ⟨r, u, y, rfl, hS, ku, ky, q⟩
    · refine ⟨_, rfl, _, n, rfl, ht, n, "tuple", rfl, rfl, hn, by decide +kernel, _, rfl, iteH (by simp [hne]) ?_⟩
      exact q
    · refine ⟨_, rfl, _, "tuple", rfl, .tup hS, "tuple", "tuple", rfl, rfl, by decide +kernel, by decide +kernel, _, rfl, iteN (by decide) ?_⟩
      refine ⟨_, rfl, r, xs, rfl, .inr hS, rfl, _, rfl, iteH (by simp; omega) ?_⟩
      exact q
    · refine ⟨_, rfl, _, "tuple", rfl, .tup hS, "tuple", "tuple", rfl, rfl, by decide +kernel, by decide +kernel, _, rfl, iteN (by decide) ?_⟩
      refine ⟨_, rfl, r, [u, y], rfl, .inr hS, rfl, _, rfl, iteN (by simp) ?_⟩
      refine ⟨_, rfl, r, [u, y], rfl, hS, rfl, u, [y], rfl, y, [], rfl, rfl, ?_⟩
      obtain ⟨nu, hu, hnu⟩ := ku
      have e := tyB_isS hu
      cases u with
      | str z =>
        refine ⟨_, rfl, _, nu, rfl, hu, nu, "str", rfl, rfl, hnu, by decide +kernel, _, rfl, iteN (by rw [e]; rfl) ?_⟩
        have q : Q (.bl (if decide (V.str z = V.str "insert") = true then isI y else (decide (V.str z = V.str "remove") && rnkV y))) H := q
        refine ⟨_, rfl, rfl, _, rfl, ite2 (fun h1 => ?_) (fun h1 => ?_)⟩
        · refine ⟨y, rfl, y, rfl, ky, ?_⟩
          rw [if_pos h1] at q
          exact q
        · rw [if_neg h1] at q
          refine ⟨_, rfl, rfl, _, rfl, ite2 (fun h2 => ?_) (fun h2 => ?_)⟩
          · refine ⟨y, rfl, y, rfl, ky, ?_⟩
            rw [h2] at q
            exact q
          · rw [Bool.not_eq_true _ |>.mp h2] at q
            exact q
      | _ =>
        refine ⟨_, rfl, _, nu, rfl, hu, nu, "str", rfl, rfl, hnu, by decide +kernel, _, rfl, iteH (by rw [e]; rfl) ?_⟩
        exact q

end
end K15
namespace K15
open PySem L2 XT
section
variable {P : Program} {w : World} {K : PySem.W.Frag} {mg : Str → Option Value} {base : Heap} {a : Ads}
local macro_rules | `(tactic| walk_at "rside") => `(tactic| first | (show (0 : Int) < _; first | decide | omega) | (exact ⟨by first | decide | omega, by first | decide | omega⟩) | (exact Or.inl ⟨by omega, by omega⟩) | (exact Or.inr ⟨by omega, by omega⟩) | (exact ⟨by decide, by decide, by decide⟩))
local macro_rules | `(tactic| walk_at "rd1") => `(tactic| first | (refine ⟨_, rfl, ?_⟩) | (refine ⟨_, _, rfl, rfl, (by walk_at "rside"), ?_⟩) | (refine ⟨_, _, rfl, rfl, ?_⟩))
local macro_rules | `(tactic| walk_at "rd") => `(tactic| repeat (walk_at "rd1"))

/-- a sequence's fields -/
abbrev sfl (p : Addr) : List (Str × V) := putF "_steps" (.ref p) []
/-- a sequence of the steps L stands at t -/
def SqcAt (K : PySem.W.Frag) (C : Addr) (H : Hp) (t : Addr) (L : List Stp) : Prop := ∃ dx p xs, H t = some (.ins C dx (sfl p)) ∧ SqT K H p xs ∧ StsAt K H xs L ∧ ∀ s ∈ L, goodS s = true
theorem SqcAt.same {C : Addr} {H H' : Hp} {t : Addr} {L : List Stp} (h : SqcAt K C H t L) (e : Same H H') : SqcAt K C H' t L :=
  let ⟨dx, p, xs, a, b, c, d⟩ := h
  ⟨dx, p, xs, e _ _ a, same_seqT e b, sts_same c e, d⟩
theorem SqcAt.insA {C : Addr} {H : Hp} {t : Addr} {L : List Stp} (h : SqcAt K C H t L) : InsA H t C := let ⟨dx, p, xs, a, _⟩ := h; ⟨dx, _, a⟩
theorem SqcAt.good {C : Addr} {H : Hp} {t : Addr} {L : List Stp} (h : SqcAt K C H t L) : ∀ s ∈ L, goodS s = true := let ⟨dx, p, xs, a, b, c, d⟩ := h; d
theorem SqcAt.ins {C : Addr} {H : Hp} {t : Addr} {L : List Stp} (h : SqcAt K C H t L) : ∃ dx p, H t = some (.ins C dx (sfl p)) := let ⟨dx, p, xs, a, _⟩ := h; ⟨dx, p, a⟩
theorem sfl_steps (p : Addr) : (sfl p).lookup ("_steps" : Str) = some (V.ref p) := by
  simp [sfl, putF, List.lookup]
theorem sfl_no (p : Addr) (m : Str) (h : (m == ("_steps" : Str)) = false) : (sfl p).lookup m = Option.none := by
  simp [sfl, putF, List.lookup, h]
/-- Sequence.__init__: at its best -/
def spInit (K : PySem.W.Frag) (C : Addr) : Sp := fun vs H Q _ => ∃ (t p dx : Addr) (xs : List V) (L : List Stp), vs = [.ref t, .ref p] ∧ H t = some (.ins C dx []) ∧ SqT K H p xs ∧ StsAt K H xs L ∧ (∀ s ∈ L, goodS s = true) ∧ Q .non (upd H t (.ins C dx (sfl p)))
theorem ok_Sequence___init__ (T : Txt K mg a) : FnR P w K mg base CX0 4 a.Sequence___init__ (spStar 1 (spInit K a.Sequence)) := by
  obtain ⟨fd, F⟩ := T.F_Sequence___init__
  have G_is_step := ok_Sequence_is_step (P := P) (w := w) (base := base) T
  refine XT.okStar0 (ps := ["self"]) F sc_Sequence___init__ bn_Sequence___init__ (fun cdv A outer s H vs Q E hr h => ?_)
  obtain ⟨t, p, dx, xs, L, rfl, ht, hS, hL, hg, q⟩ := h
  refine ⟨_, PSs.nox ((pss_cons (ps_for PassesOwn.never rfl (pi_tup (pv 1)) (pg_name (i := 2) sc_Sequence___init__.nd rfl (Or.inl rfl))
        (pss_one (ps_if (pt_not (pt_val (pe_staI (pv 0) T.sti_is_step G_is_step (hr.mono (by decide)) pass0 (pa_cons (pv 2) pa_nil)))) (pss_one ps_never) pss_nil)))
      (pss_one (ps_fld (pv 0) (pv 1) rfl)))), ?_⟩
  refine ⟨_, rfl, p, rfl, ⟨_, hS⟩, for_tup (K := K) (a := p) (xs := xs) (fun i σ H' => H' = H ∧ ∃ o, σ = [some (.ref t), some (.ref p), o]) ⟨rfl, _, rfl⟩ (fun i σ H' _ ⟨e, _⟩ => by rw [e]; exact hS) ?_ ?_⟩
  · rintro i x σ H' hx ⟨rfl, o, rfl⟩
    obtain ⟨s, hs, hst⟩ := pd_get hL hx
    refine ⟨_, rfl, t, dx, [], rfl, ht, rfl, _, rfl, ?_⟩
    dsimp only [tNil]
    refine stp_good hst (hg s (List.mem_of_getElem? hs)) ⟨_, rfl, iteN rfl ?_⟩
    exact ⟨rfl, _, rfl⟩
  · rintro σ H' ⟨rfl, o, rfl⟩
    exact ⟨_, rfl, _, rfl, t, a.Sequence, dx, _, rfl, ht, T.cl_S, T.n_steps, (by show 0 < 1000; decide), q⟩
/-- a sequence made out of steps -/
theorem sq_mk {C : Addr} {H1 : Hp} {xs : List V} {L : List Stp} {Q : VK} {E : XK} {x dx : Addr} (nx : H1 x = Option.none) (ndx : H1 dx = Option.none) (ne : dx ≠ x) (hL : StsAt K H1 xs L) (hg : ∀ s ∈ L, goodS s = true) (hz : xs.length ≤ 100000) (k : ∀ H', Same H1 H' → SqcAt K C H' x L → Q .non H') :
    spStar 1 (spInit K C) (V.ref x :: xs) (upd (upd H1 dx (.own x)) x (.ins C dx [])) Q E := by
  refine ⟨[V.ref x], xs, rfl, rfl, Nat.le_trans hz line_ge, fun p hp => ?_⟩
  have npx : p ≠ x := fun z => by rw [z, upd_same] at hp; cases hp
  have npd : p ≠ dx := fun z => by rw [z, upd_ne ne, upd_same] at hp; cases hp
  have hp1 : H1 p = Option.none := by rw [upd_ne npx, upd_ne npd] at hp; exact hp
  have s1 : Same H1 (upd (upd (upd H1 dx (.own x)) x (.ins C dx [])) p (.tup xs)) := (same_upd (same_new ndx) nx).trans (same_new hp)
  have s2 : Same H1 (upd (upd (upd (upd H1 dx (.own x)) x (.ins C dx [])) p (.tup xs)) x (.ins C dx (sfl p))) := same_upd s1 nx
  exact ⟨x, p, dx, xs, L, rfl, by rw [upd_ne (Ne.symm npx), upd_same], SqT.of upd_same, sts_same hL s1, hg, k _ s2 ⟨dx, p, xs, upd_same, SqT.of (by rw [upd_ne npx, upd_same]), sts_same hL s2, hg⟩⟩
theorem sq_made {C : Addr} {H1 : Hp} {xs : List V} {L : List Stp} {Q : VK} {E : XK} (hL : StsAt K H1 xs L) (hg : ∀ s ∈ L, goodS s = true) (hz : xs.length ≤ 100000) (k : ∀ t H', Same H1 H' → H1 t = Option.none → SqcAt K C H' t L → Q (.ref t) H') :
    ∀ x dx, H1 x = Option.none → H1 dx = Option.none → dx ≠ x → spStar 1 (spInit K C) (V.ref x :: xs) (upd (upd H1 dx (.own x)) x (.ins C dx [])) (fun v H2 => v = .non ∧ Q (.ref x) H2) E :=
  fun x dx nx ndx ne => sq_mk nx ndx ne hL hg hz fun H' s h => ⟨rfl, k x H' s nx h⟩
/-- .. asked with something that is no step -/
def spInitBad (K : PySem.W.Frag) (C CE : Addr) : Sp := fun vs H _ E => ∃ (t p dx : Addr) (xs ys : List V) (y : V) (L : List Stp), vs = [.ref t, .ref p] ∧ H t = some (.ins C dx []) ∧ SqT K H p (xs ++ y :: ys) ∧ StsAt K H xs L ∧ (∀ s ∈ L, goodS s = true) ∧
  ((∃ n, TyB K H y n ∧ tyN n = true ∧ n ≠ "tuple") ∨ (∃ r zs, y = .ref r ∧ SqT K H r zs ∧ zs.length ≠ 2) ∨ ∃ r u z, y = .ref r ∧ SqT K H r [u, z] ∧ KV K H u ∧ KV K H z ∧ stpV u z = false) ∧
  ∀ d, H d = Option.none → E (.ref CE) (some d) (upd H d (.xd [("value", y)]))
theorem okE_InvalidNumber (T : Txt K mg a) (e : ErrC K a.InvalidNumber a.InvalidNumber___init__ "value") {fd : FuncData} (F : Fun K "__init__" "InvalidNumber.__init__" s_InvalidNumber___init__ a.InvalidNumber___init__ fd) : FnOk P w K mg base CX0 1 a.InvalidNumber___init__ fd ["self", "value"] (spErr "value" a.InvalidNumber) := by
  refine F.ok sc_InvalidNumber___init__ (fun vs H Q E h => ?_) (fun cdv A outer s H vs Q E hr h => ?_)
  · obtain ⟨x, v, rfl, _⟩ := h
    rfl
  · obtain ⟨x, v, rfl, hx, q⟩ := h
    exact ⟨_, (pss_one (ps_ost (pv 0) (pv 1))), _, rfl, _, rfl, x, a.InvalidNumber, rfl, e.oex, e.no, .inl ⟨hx, fun dx hn hne => q dx hn hne⟩⟩
theorem okE_StepFailed (T : Txt K mg a) (e : ErrG K a.StepFailed a.StepFailed___init__ "index" "RuntimeError" "RuntimeError.__new__" "RuntimeError.__init__" [.type "RuntimeError", .type "Exception", .type "BaseException", .type "object"]) {fd : FuncData} (F : Fun K "__init__" "StepFailed.__init__" s_StepFailed___init__ a.StepFailed___init__ fd) : FnOk P w K mg base CX0 1 a.StepFailed___init__ fd ["self", "index"] (spErr "index" a.StepFailed) := by
  refine F.ok sc_StepFailed___init__ (fun vs H Q E h => ?_) (fun cdv A outer s H vs Q E hr h => ?_)
  · obtain ⟨x, v, rfl, _⟩ := h
    rfl
  · obtain ⟨x, v, rfl, hx, q⟩ := h
    exact ⟨_, (pss_one (ps_gst (pv 0) (pv 1))), _, rfl, _, rfl, x, a.StepFailed, _, _, _, _, rfl, e.bx, e.oex, e.no, hx, fun dx hn hne => q dx hn hne⟩
def spSteps (K : PySem.W.Frag) (C : Addr) : Sp := fun vs H Q _ => ∃ t L, vs = [.ref t] ∧ SqcAt K C H t L ∧ ∀ p xs, SqT K H p xs → StsAt K H xs L → Q (.ref p) H
def spLen (K : PySem.W.Frag) (C : Addr) : Sp := fun vs H Q _ => ∃ t L, vs = [.ref t] ∧ SqcAt K C H t L ∧ Q (.int (L.length : Int)) H
def spEqS (K : PySem.W.Frag) (C : Addr) : Sp := fun vs H Q _ => ∃ t u L M, vs = [.ref t, .ref u] ∧ SqcAt K C H t L ∧ SqcAt K C H u M ∧ Q (.bl (decide (L = M))) H
def spEqSo (K : PySem.W.Frag) (C : Addr) : Sp := fun vs H Q _ => ∃ (t : Addr) (y : V) (ty : Value), vs = [.ref t, y] ∧ TyX K H y ty ∧ PySem.W.kitOne K ty (.ref C) = some false ∧ Q (.bl false) H
def spAddS (K : PySem.W.Frag) (C : Addr) : Sp := fun vs H Q _ => ∃ t u L M, vs = [.ref t, .ref u] ∧ SqcAt K C H t L ∧ SqcAt K C H u M ∧ L.length + M.length ≤ 100000 ∧ ∀ r H', Same H H' → H r = Option.none → SqcAt K C H' r (L ++ M) → Q (.ref r) H'
def spMulS (K : PySem.W.Frag) (C : Addr) : Sp := fun vs H Q _ => ∃ t L n, vs = [.ref t, .int n] ∧ SqcAt K C H t L ∧ 0 ≤ n ∧ (L = [] ∨ n ≤ 100) ∧ L.length ≤ 1000 ∧ ∀ r H', Same H H' → H r = Option.none → SqcAt K C H' r (List.replicate n.toNat L).flatten → Q (.ref r) H'
theorem rep_nil (n : Nat) : (List.replicate n ([] : List Stp)).flatten = [] := by simp
theorem ok_Sequence_steps (T : Txt K mg a) : FnR P w K mg base CX0 1 a.Sequence_steps (spSteps K a.Sequence) := by
  obtain ⟨fd, F⟩ := T.F_Sequence_steps
  refine XT.okR F sc_Sequence_steps bn_Sequence_steps (fun vs H Q E h => ?_) (fun cdv A outer s H vs Q E hr h => ?_)
  · obtain ⟨t, L, rfl, _⟩ := h
    rfl
  · obtain ⟨t, L, rfl, ⟨dx, p, xs, ht, hS, hL, hg⟩, q⟩ := h
    refine ⟨_, (pss_one (ps_ret (fldK K (pv 0) rfl))), ?_⟩
    exact ⟨_, rfl, t, a.Sequence, dx, _, _, rfl, ht, T.cl_S, T.n_steps, sfl_steps _, q p xs hS hL⟩

theorem ok_Sequence___add__ (T : Txt K mg a) : FnR P w K mg base CX0 6 a.Sequence___add__ (spAddS K a.Sequence) := by
  obtain ⟨fd, F⟩ := T.F_Sequence___add__
  refine XT.okR F sc_Sequence___add__ bn_Sequence___add__ (fun vs H Q E h => ?_) (fun cdv A outer s H vs Q E hr h => ?_)
  · obtain ⟨t, u, L, L2, rfl, _⟩ := h
    rfl
  · obtain ⟨t, u, L, L2, rfl, ⟨dx, p, xs, ht, hS, hL, hg⟩, ⟨dy, p2, ys, hu, hS2, hL2, hg2⟩, hz, k⟩ := h
    have G_Sequence_init := ok_Sequence___init__ (P := P) (w := w) (base := base) T
    refine ⟨_, (pss_cons (ps_set (i := 2) sc_Sequence___add__.nd rfl (Or.inl rfl) (pe_op op_catA (fldK K (pv 0) rfl) (fldK K (pv 1) rfl)))
      (pss_one (ps_ret (pe_makeS1 T.M_Sequence G_Sequence_init (hr.mono (by decide)) rfl T.g_Sequence pass0 (pv 2))))), ?_⟩
    have hgg : ∀ s ∈ L ++ L2, goodS s = true := fun s hs => (List.mem_append.mp hs).elim (hg s) (hg2 s)
    have l1 := hL.length
    have l2 := hL2.length
    have fin : ∀ (q : Addr) (zs : List V) (H1 : Hp), Same H H1 → SqT K H1 q zs → StsAt K H1 zs (L ++ L2) → (∀ x dx, H1 x = Option.none → H1 dx = Option.none → dx ≠ x → spStar 1 (spInit K a.Sequence) (V.ref x :: zs) (upd (upd H1 dx (.own x)) x (.ins a.Sequence dx [])) (fun v H2 => v = .non ∧ Q (.ref x) H2) E0) := fun q zs H1 s1 hq hz1 =>
      sq_made hz1 hgg (by rw [hz1.length, List.length_append]; omega) fun r H' s2 nr hr => k r H' (s1.trans s2) (s1.free nr) hr
    refine ⟨_, rfl, t, a.Sequence, dx, _, _, rfl, ht, T.cl_S, T.n_steps, sfl_steps _, _, rfl, u, a.Sequence, dy, _, _, rfl, hu, T.cl_S, T.n_steps, sfl_steps _, p, p2, xs, ys, rfl, rfl, hS, hS2, Nat.le_trans (by omega) line_ge, fun e => ?_, fun e1 e2 => ?_, fun e1 e2 q hq => ?_⟩
    · subst e
      cases hL
      exact ⟨_, rfl, _, _, rfl, .inl hS2, fin p2 ys H (Same.refl H) hS2 hL2⟩
    · subst e2
      cases hL2
      exact ⟨_, rfl, _, _, rfl, .inl hS, fin p xs H (Same.refl H) hS (by rw [List.append_nil]; exact hL)⟩
    · exact ⟨_, rfl, _, _, rfl, .inl (SqT.of upd_same), fin q (xs ++ ys) _ (same_new hq) (SqT.of upd_same) (sts_same (pd_append hL hL2) (same_new hq))⟩

end
end K15
namespace K15
open PySem L2 XT
section
variable {P : Program} {w : World} {K : PySem.W.Frag} {mg : Str → Option Value} {base : Heap} {a : Ads}
local macro_rules | `(tactic| walk_at "rside") => `(tactic| first | (show (0 : Int) < _; first | decide | omega) | (exact ⟨by first | decide | omega, by first | decide | omega⟩) | (exact Or.inl ⟨by omega, by omega⟩) | (exact Or.inr ⟨by omega, by omega⟩) | (exact ⟨by decide, by decide, by decide⟩))
local macro_rules | `(tactic| walk_at "rd1") => `(tactic| first | (refine ⟨_, rfl, ?_⟩) | (refine ⟨_, _, rfl, rfl, (by walk_at "rside"), ?_⟩) | (refine ⟨_, _, rfl, rfl, ?_⟩))
local macro_rules | `(tactic| walk_at "rd") => `(tactic| repeat (walk_at "rd1"))

/-- numbers in ascending order, as a list or a tuple -/
def spHow (K : PySem.W.Frag) : Sp := fun vs H Q _ => ∃ (p : Addr) (lim : Int) (B : List Int), vs = [.ref p, .int lim] ∧ (SqL K H p (B.map V.int) ∨ SqT K H p (B.map V.int)) ∧ Tbl.Up B ∧ Q (.int (Tbl.cnt B lim)) H
def muHow : L2.St → Nat := fun σ => match σ with
  | [_, _, some (.int lo), some (.int hi), _] => (hi - lo).toNat
  | _ => 0
def InvHow (p : Addr) (lim : Int) (B : List Int) (H0 : Hp) (σ : L2.St) (H : Hp) : Prop := ∃ (lo hi : Nat) (m : Option V), H = H0 ∧ σ = [some (.ref p), some (.int lim), some (.int lo), some (.int hi), m] ∧ lo ≤ hi ∧ hi ≤ B.length ∧
  (∀ j, (h : j < B.length) → j < lo → B[j] ≤ lim) ∧ ∀ j, (h : j < B.length) → hi ≤ j → lim < B[j]
theorem ok_how_many_up_to (T : Txt K mg a) : FnR P w K mg base CX0 1 a.how_many_up_to (spHow K) := by
  obtain ⟨fd, F⟩ := T.F_how_many_up_to
  refine XT.okR F sc_how_many_up_to bn_how_many_up_to (fun vs H Q E h => ?_) (fun cdv A outer s H vs Q E hr h => ?_)
  · obtain ⟨p, lim, B, rfl, _⟩ := h
    rfl
  · obtain ⟨p, lim, B, rfl, hS, hu, q⟩ := h
    rcases hS with hS | hS
    · refine ⟨_, (pss_cons (ps_par (i := 2) (j := 3) (by rfl) sc_how_many_up_to.nd rfl rfl (by decide) rfl rfl (pa_cons pe_int (pa_cons (pe_callB (lenK K) (by rfl) T.b_len (by decide +kernel) (pa_cons (pv 0) pa_nil)) pa_nil)) (by rfl))
            (pss_cons (ps_while PassesOwn.never (pt_cmpR op_lt (pv 2) (pv 3) (nomark _))
              (pss_cons (ps_set (i := 4) sc_how_many_up_to.nd rfl (Or.inl rfl) (pe_op op_fdiv (pe_op op_add (pv 2) (pv 3)) pe_int))
            (pss_one (ps_if (pt_cmpR op_le (pe_ix (ixLK K) (pv 0) (pv 4) (fun _ _ => rfl)) (pv 1) (nomark _)) (pss_one (ps_set (i := 2) sc_how_many_up_to.nd rfl (Or.inl rfl) (pe_op op_add (pv 4) pe_int))) (pss_one (ps_set (i := 3) sc_how_many_up_to.nd rfl (Or.inl rfl) (pv 4)))))))
            (pss_one (ps_ret (pv 2))))), ?_⟩
      refine ⟨_, rfl, p, _, rfl, .inl hS, _, _, rfl, ?_⟩
      refine while_by (InvHow p lim B H) (fun σ _ => muHow σ) ⟨0, B.length, Option.none, rfl, ?_, Nat.zero_le _, Nat.le_refl _, fun j h h2 => absurd h2 (Nat.not_lt_zero _), fun j h h2 => absurd h (by omega)⟩ ?_ ?_
      · show _ = [some (V.ref p), some (V.int lim), some (V.int ((0 : Nat) : Int)), some (V.int (B.length : Int)), Option.none]
        rw [List.length_map]
        rfl
      · rintro σ H1 ⟨lo, hi, m, rfl, rfl, h1, h2, h3, h4⟩
        refine ⟨_, rfl, _, rfl, _, _, rfl, rfl, _, rfl, ite2 (fun hlt => ?_) (fun hge => ?_)⟩
        · have hlt' : lo < hi := by have := of_decide_eq_true hlt; omega
          have em : ((lo : Int) + (hi : Int)) / 2 = (((lo + hi) / 2 : Nat) : Int) := by omega
          have hm : (lo + hi) / 2 < B.length := by omega
          have hg : (B.map V.int)[(lo + hi) / 2]? = some (V.int B[(lo + hi) / 2]) := by simp [hm]
          refine ⟨_, rfl, _, rfl, _, _, rfl, rfl, _, _, rfl, rfl, ⟨by decide, by decide⟩, ?_⟩
          refine ⟨_, rfl, _, rfl, p, _, _, _, rfl, rfl, hS, at_of em hg, _, rfl, _, _, rfl, rfl, _, rfl, ite2 (fun hle => ?_) (fun hgt => ?_)⟩
          · have hle' := of_decide_eq_true hle
            refine ⟨_, rfl, _, _, rfl, rfl, ⟨⟨(lo + hi) / 2 + 1, hi, some (V.int (((lo : Int) + (hi : Int)) / 2)), rfl, ?_, by omega, h2, fun j hj hlt2 => ?_, h4⟩, ?_⟩⟩
            · show [some (V.ref p), some (V.int lim), some (V.int (((lo : Int) + (hi : Int)) / 2 + 1)), some (V.int (hi : Int)), some (V.int (((lo : Int) + (hi : Int)) / 2))] = _
              rw [em]
              try rfl
            · exact Int.le_trans (Tbl.up_get hu hj hm (by omega)) hle'
            · show ((hi : Int) - (((lo : Int) + (hi : Int)) / 2 + 1)).toNat < ((hi : Int) - (lo : Int)).toNat
              omega
          · have hgt' : ¬ B[(lo + hi) / 2] ≤ lim := fun z => hgt (decide_eq_true z)
            refine ⟨_, rfl, ⟨⟨lo, (lo + hi) / 2, some (V.int (((lo : Int) + (hi : Int)) / 2)), rfl, ?_, by omega, by omega, h3, fun j hj hle2 => ?_⟩, ?_⟩⟩
            · show [some (V.ref p), some (V.int lim), some (V.int (lo : Int)), some (V.int (((lo : Int) + (hi : Int)) / 2)), some (V.int (((lo : Int) + (hi : Int)) / 2))] = _
              rw [em]
              try rfl
            · have := Tbl.up_get hu hm hj hle2
              omega
            · show ((((lo : Int) + (hi : Int)) / 2) - (lo : Int)).toNat < ((hi : Int) - (lo : Int)).toNat
              omega
        · have hge' : ¬ ((lo : Int) < (hi : Int)) := fun z => hge (decide_eq_true z)
          have e : lo = hi := by omega
          subst e
          refine ⟨_, rfl, ?_⟩
          have := Tbl.cnt_split h2 h3 h4
          rw [this] at q
          exact q
      · rintro σ H1 Q1 Q2 hq ⟨x, hx, y, hy, i, j, e1, e2, k, e3, z⟩
        exact ⟨x, hx, y, hy, i, j, e1, e2, k, e3, hq _ _ z⟩
    · refine ⟨_, (pss_cons (ps_par (i := 2) (j := 3) (by rfl) sc_how_many_up_to.nd rfl rfl (by decide) rfl rfl (pa_cons pe_int (pa_cons (pe_callB (lenK K) (by rfl) T.b_len (by decide +kernel) (pa_cons (pv 0) pa_nil)) pa_nil)) (by rfl))
            (pss_cons (ps_while PassesOwn.never (pt_cmpR op_lt (pv 2) (pv 3) (nomark _))
              (pss_cons (ps_set (i := 4) sc_how_many_up_to.nd rfl (Or.inl rfl) (pe_op op_fdiv (pe_op op_add (pv 2) (pv 3)) pe_int))
            (pss_one (ps_if (pt_cmpR op_le (pe_ix (ixTK K) (pv 0) (pv 4) (fun _ _ => rfl)) (pv 1) (nomark _)) (pss_one (ps_set (i := 2) sc_how_many_up_to.nd rfl (Or.inl rfl) (pe_op op_add (pv 4) pe_int))) (pss_one (ps_set (i := 3) sc_how_many_up_to.nd rfl (Or.inl rfl) (pv 4)))))))
            (pss_one (ps_ret (pv 2))))), ?_⟩
      refine ⟨_, rfl, p, _, rfl, .inr hS, _, _, rfl, ?_⟩
      refine while_by (InvHow p lim B H) (fun σ _ => muHow σ) ⟨0, B.length, Option.none, rfl, ?_, Nat.zero_le _, Nat.le_refl _, fun j h h2 => absurd h2 (Nat.not_lt_zero _), fun j h h2 => absurd h (by omega)⟩ ?_ ?_
      · show _ = [some (V.ref p), some (V.int lim), some (V.int ((0 : Nat) : Int)), some (V.int (B.length : Int)), Option.none]
        rw [List.length_map]
        rfl
      · rintro σ H1 ⟨lo, hi, m, rfl, rfl, h1, h2, h3, h4⟩
        refine ⟨_, rfl, _, rfl, _, _, rfl, rfl, _, rfl, ite2 (fun hlt => ?_) (fun hge => ?_)⟩
        · have hlt' : lo < hi := by have := of_decide_eq_true hlt; omega
          have em : ((lo : Int) + (hi : Int)) / 2 = (((lo + hi) / 2 : Nat) : Int) := by omega
          have hm : (lo + hi) / 2 < B.length := by omega
          have hg : (B.map V.int)[(lo + hi) / 2]? = some (V.int B[(lo + hi) / 2]) := by simp [hm]
          refine ⟨_, rfl, _, rfl, _, _, rfl, rfl, _, _, rfl, rfl, ⟨by decide, by decide⟩, ?_⟩
          refine ⟨_, rfl, _, rfl, p, _, _, _, rfl, rfl, hS, at_of em hg, _, rfl, _, _, rfl, rfl, _, rfl, ite2 (fun hle => ?_) (fun hgt => ?_)⟩
          · have hle' := of_decide_eq_true hle
            refine ⟨_, rfl, _, _, rfl, rfl, ⟨⟨(lo + hi) / 2 + 1, hi, some (V.int (((lo : Int) + (hi : Int)) / 2)), rfl, ?_, by omega, h2, fun j hj hlt2 => ?_, h4⟩, ?_⟩⟩
            · show [some (V.ref p), some (V.int lim), some (V.int (((lo : Int) + (hi : Int)) / 2 + 1)), some (V.int (hi : Int)), some (V.int (((lo : Int) + (hi : Int)) / 2))] = _
              rw [em]
              try rfl
            · exact Int.le_trans (Tbl.up_get hu hj hm (by omega)) hle'
            · show ((hi : Int) - (((lo : Int) + (hi : Int)) / 2 + 1)).toNat < ((hi : Int) - (lo : Int)).toNat
              omega
          · have hgt' : ¬ B[(lo + hi) / 2] ≤ lim := fun z => hgt (decide_eq_true z)
            refine ⟨_, rfl, ⟨⟨lo, (lo + hi) / 2, some (V.int (((lo : Int) + (hi : Int)) / 2)), rfl, ?_, by omega, by omega, h3, fun j hj hle2 => ?_⟩, ?_⟩⟩
            · show [some (V.ref p), some (V.int lim), some (V.int (lo : Int)), some (V.int (((lo : Int) + (hi : Int)) / 2)), some (V.int (((lo : Int) + (hi : Int)) / 2))] = _
              rw [em]
              try rfl
            · have := Tbl.up_get hu hm hj hle2
              omega
            · show ((((lo : Int) + (hi : Int)) / 2) - (lo : Int)).toNat < ((hi : Int) - (lo : Int)).toNat
              omega
        · have hge' : ¬ ((lo : Int) < (hi : Int)) := fun z => hge (decide_eq_true z)
          have e : lo = hi := by omega
          subst e
          refine ⟨_, rfl, ?_⟩
          have := Tbl.cnt_split h2 h3 h4
          rw [this] at q
          exact q
      · rintro σ H1 Q1 Q2 hq ⟨x, hx, y, hy, i, j, e1, e2, k, e3, z⟩
        exact ⟨x, hx, y, hy, i, j, e1, e2, k, e3, hq _ _ z⟩

def spMapped (K : PySem.W.Frag) : Sp := fun vs H Q _ => ∃ (s c : Int) (p : Addr) (L : List Int), vs = [.int s, .ref p, .int c] ∧ SqT K H p (L.map V.int) ∧ Tbl.Up L ∧ Q (.int (Tbl.mp s L c)) H
theorem ok_mapped (T : Txt K mg a) : FnR P w K mg base CX0 2 a.mapped (spMapped K) := by
  obtain ⟨fd, F⟩ := T.F_mapped
  refine XT.okR F sc_mapped bn_mapped (fun vs H Q E h => ?_) (fun cdv A outer s H vs Q E hr h => ?_)
  · obtain ⟨z, c, p, L, rfl, _⟩ := h
    rfl
  · obtain ⟨z, c, p, L, rfl, hS, hu, q⟩ := h
    have G_how_many_up_to := ok_how_many_up_to (P := P) (w := w) (base := base) T
    refine ⟨_, (pss_one (ps_ret (pe_op op_sub (pe_op op_add (pv 0) (pv 2)) (pe_callR G_how_many_up_to (hr.mono (by decide)) rfl T.g_how_many_up_to T.k_how_many_up_to pass0 (pa_cons (pv 1) (pa_cons (pv 2) pa_nil)))))), ?_⟩
    exact ⟨_, rfl, _, rfl, _, _, rfl, rfl, _, rfl, _, rfl, p, c, L, rfl, .inr hS, hu, _, _, rfl, rfl, q⟩

theorem bnds_get (L : List Int) : ∀ (i j : Nat) (h : j < L.length) (h2 : j < (Tbl.bnds i L).length), (Tbl.bnds i L)[j] = L[j] - ((i + j : Nat) : Int) := by
  induction L with
  | nil => intro i j h; cases h
  | cons x L ih =>
    intro i j h h2
    cases j with
    | zero => rfl
    | succ j =>
      show (Tbl.bnds (i + 1) L)[j]'(by rw [Tbl.bnds_length]; simpa using h) = L[j]'(by simpa using h) - ((i + (j + 1) : Nat) : Int)
      rw [ih (i + 1) j (by simpa using h)]
      omega
def spKr (K : PySem.W.Frag) : Sp := fun vs H Q _ => ∃ (p : Addr) (lim : Int) (B : List Int), vs = [.ref p, .int lim] ∧ (SqL K H p (B.map V.int) ∨ SqT K H p (B.map V.int)) ∧ Tbl.Asc B ∧ Q (.int (Tbl.kr B lim)) H
theorem ok_kept_rank (T : Txt K mg a) : FnR P w K mg base CX0 1 a.kept_rank (spKr K) := by
  obtain ⟨fd, F⟩ := T.F_kept_rank
  refine XT.okR F sc_kept_rank bn_kept_rank (fun vs H Q E h => ?_) (fun cdv A outer s H vs Q E hr h => ?_)
  · obtain ⟨p, lim, B, rfl, _⟩ := h
    rfl
  · obtain ⟨p, lim, B, rfl, hS, ha, q⟩ := h
    rcases hS with hS | hS
    · refine ⟨_, (pss_cons (ps_par (i := 2) (j := 3) (by rfl) sc_kept_rank.nd rfl rfl (by decide) rfl rfl (pa_cons pe_int (pa_cons (pe_callB (lenK K) (by rfl) T.b_len (by decide +kernel) (pa_cons (pv 0) pa_nil)) pa_nil)) (by rfl))
            (pss_cons (ps_while PassesOwn.never (pt_cmpR op_lt (pv 2) (pv 3) (nomark _))
              (pss_cons (ps_set (i := 4) sc_kept_rank.nd rfl (Or.inl rfl) (pe_op op_fdiv (pe_op op_add (pv 2) (pv 3)) pe_int))
            (pss_one (ps_if (pt_cmpR op_le (pe_op op_sub (pe_ix (ixLK K) (pv 0) (pv 4) (fun _ _ => rfl)) (pv 4)) (pv 1) (nomark _)) (pss_one (ps_set (i := 2) sc_kept_rank.nd rfl (Or.inl rfl) (pe_op op_add (pv 4) pe_int))) (pss_one (ps_set (i := 3) sc_kept_rank.nd rfl (Or.inl rfl) (pv 4)))))))
            (pss_one (ps_ret (pe_op op_add (pv 1) (pv 2)))))), ?_⟩
      have hbl : (Tbl.bnds 0 B).length = B.length := Tbl.bnds_length B 0
      have hu := Tbl.bnds_up (i := 0) ha
      refine ⟨_, rfl, p, _, rfl, .inl hS, _, _, rfl, ?_⟩
      refine while_by (InvHow p lim (Tbl.bnds 0 B) H) (fun σ _ => muHow σ) ⟨0, (Tbl.bnds 0 B).length, Option.none, rfl, ?_, Nat.zero_le _, Nat.le_refl _, fun j h h2 => absurd h2 (Nat.not_lt_zero _), fun j h h2 => absurd h (by omega)⟩ ?_ ?_
      · show _ = [some (V.ref p), some (V.int lim), some (V.int ((0 : Nat) : Int)), some (V.int ((Tbl.bnds 0 B).length : Int)), Option.none]
        rw [List.length_map, hbl]
        rfl
      · rintro σ H1 ⟨lo, hi, m, rfl, rfl, h1, h2, h3, h4⟩
        refine ⟨_, rfl, _, rfl, _, _, rfl, rfl, _, rfl, ite2 (fun hlt => ?_) (fun hge => ?_)⟩
        · have hlt' : lo < hi := by have := of_decide_eq_true hlt; omega
          have em : ((lo : Int) + (hi : Int)) / 2 = (((lo + hi) / 2 : Nat) : Int) := by omega
          have hm : (lo + hi) / 2 < (Tbl.bnds 0 B).length := by omega
          have hm0 : (lo + hi) / 2 < B.length := by omega
          have hg : (B.map V.int)[(lo + hi) / 2]? = some (V.int B[(lo + hi) / 2]) := by simp [hm0]
          have hgb := bnds_get B 0 ((lo + hi) / 2) hm0 hm
          rw [Nat.zero_add] at hgb
          refine ⟨_, rfl, _, rfl, _, _, rfl, rfl, _, _, rfl, rfl, ⟨by decide, by decide⟩, ?_⟩
          refine ⟨_, rfl, _, rfl, p, _, _, _, rfl, rfl, hS, at_of em hg, _, rfl, _, _, rfl, rfl, _, rfl, _, _, rfl, rfl, _, rfl, ite2 (fun hle => ?_) (fun hgt => ?_)⟩
          · have hle' : (Tbl.bnds 0 B)[(lo + hi) / 2] ≤ lim := by have := of_decide_eq_true hle; rw [hgb]; omega
            refine ⟨_, rfl, _, _, rfl, rfl, ⟨⟨(lo + hi) / 2 + 1, hi, some (V.int (((lo : Int) + (hi : Int)) / 2)), rfl, ?_, by omega, h2, fun j hj hlt2 => ?_, h4⟩, ?_⟩⟩
            · show [some (V.ref p), some (V.int lim), some (V.int (((lo : Int) + (hi : Int)) / 2 + 1)), some (V.int (hi : Int)), some (V.int (((lo : Int) + (hi : Int)) / 2))] = _
              rw [em]
              try rfl
            · exact Int.le_trans (Tbl.up_get hu hj hm (by omega)) hle'
            · show ((hi : Int) - (((lo : Int) + (hi : Int)) / 2 + 1)).toNat < ((hi : Int) - (lo : Int)).toNat
              omega
          · have hgt' : lim < (Tbl.bnds 0 B)[(lo + hi) / 2] := by
              have := of_decide_eq_false ((Bool.not_eq_true _).mp hgt)
              rw [hgb]
              omega
            refine ⟨_, rfl, ⟨⟨lo, (lo + hi) / 2, some (V.int (((lo : Int) + (hi : Int)) / 2)), rfl, ?_, by omega, by omega, h3, fun j hj hle2 => ?_⟩, ?_⟩⟩
            · show [some (V.ref p), some (V.int lim), some (V.int (lo : Int)), some (V.int (((lo : Int) + (hi : Int)) / 2)), some (V.int (((lo : Int) + (hi : Int)) / 2))] = _
              rw [em]
              try rfl
            · have := Tbl.up_get hu hm hj hle2
              omega
            · show ((((lo : Int) + (hi : Int)) / 2) - (lo : Int)).toNat < ((hi : Int) - (lo : Int)).toNat
              omega
        · have hge' : ¬ ((lo : Int) < (hi : Int)) := fun z => hge (decide_eq_true z)
          have e : lo = hi := by omega
          subst e
          refine ⟨_, rfl, _, rfl, _, _, rfl, rfl, ?_⟩
          have := Tbl.cnt_split h2 h3 h4
          unfold Tbl.kr at q
          rw [this] at q
          exact q
      · rintro σ H1 Q1 Q2 hq ⟨x, hx, y, hy, i, j, e1, e2, k, e3, z⟩
        exact ⟨x, hx, y, hy, i, j, e1, e2, k, e3, hq _ _ z⟩
    · refine ⟨_, (pss_cons (ps_par (i := 2) (j := 3) (by rfl) sc_kept_rank.nd rfl rfl (by decide) rfl rfl (pa_cons pe_int (pa_cons (pe_callB (lenK K) (by rfl) T.b_len (by decide +kernel) (pa_cons (pv 0) pa_nil)) pa_nil)) (by rfl))
            (pss_cons (ps_while PassesOwn.never (pt_cmpR op_lt (pv 2) (pv 3) (nomark _))
              (pss_cons (ps_set (i := 4) sc_kept_rank.nd rfl (Or.inl rfl) (pe_op op_fdiv (pe_op op_add (pv 2) (pv 3)) pe_int))
            (pss_one (ps_if (pt_cmpR op_le (pe_op op_sub (pe_ix (ixTK K) (pv 0) (pv 4) (fun _ _ => rfl)) (pv 4)) (pv 1) (nomark _)) (pss_one (ps_set (i := 2) sc_kept_rank.nd rfl (Or.inl rfl) (pe_op op_add (pv 4) pe_int))) (pss_one (ps_set (i := 3) sc_kept_rank.nd rfl (Or.inl rfl) (pv 4)))))))
            (pss_one (ps_ret (pe_op op_add (pv 1) (pv 2)))))), ?_⟩
      have hbl : (Tbl.bnds 0 B).length = B.length := Tbl.bnds_length B 0
      have hu := Tbl.bnds_up (i := 0) ha
      refine ⟨_, rfl, p, _, rfl, .inr hS, _, _, rfl, ?_⟩
      refine while_by (InvHow p lim (Tbl.bnds 0 B) H) (fun σ _ => muHow σ) ⟨0, (Tbl.bnds 0 B).length, Option.none, rfl, ?_, Nat.zero_le _, Nat.le_refl _, fun j h h2 => absurd h2 (Nat.not_lt_zero _), fun j h h2 => absurd h (by omega)⟩ ?_ ?_
      · show _ = [some (V.ref p), some (V.int lim), some (V.int ((0 : Nat) : Int)), some (V.int ((Tbl.bnds 0 B).length : Int)), Option.none]
        rw [List.length_map, hbl]
        rfl
      · rintro σ H1 ⟨lo, hi, m, rfl, rfl, h1, h2, h3, h4⟩
        refine ⟨_, rfl, _, rfl, _, _, rfl, rfl, _, rfl, ite2 (fun hlt => ?_) (fun hge => ?_)⟩
        · have hlt' : lo < hi := by have := of_decide_eq_true hlt; omega
          have em : ((lo : Int) + (hi : Int)) / 2 = (((lo + hi) / 2 : Nat) : Int) := by omega
          have hm : (lo + hi) / 2 < (Tbl.bnds 0 B).length := by omega
          have hm0 : (lo + hi) / 2 < B.length := by omega
          have hg : (B.map V.int)[(lo + hi) / 2]? = some (V.int B[(lo + hi) / 2]) := by simp [hm0]
          have hgb := bnds_get B 0 ((lo + hi) / 2) hm0 hm
          rw [Nat.zero_add] at hgb
          refine ⟨_, rfl, _, rfl, _, _, rfl, rfl, _, _, rfl, rfl, ⟨by decide, by decide⟩, ?_⟩
          refine ⟨_, rfl, _, rfl, p, _, _, _, rfl, rfl, hS, at_of em hg, _, rfl, _, _, rfl, rfl, _, rfl, _, _, rfl, rfl, _, rfl, ite2 (fun hle => ?_) (fun hgt => ?_)⟩
          · have hle' : (Tbl.bnds 0 B)[(lo + hi) / 2] ≤ lim := by have := of_decide_eq_true hle; rw [hgb]; omega
            refine ⟨_, rfl, _, _, rfl, rfl, ⟨⟨(lo + hi) / 2 + 1, hi, some (V.int (((lo : Int) + (hi : Int)) / 2)), rfl, ?_, by omega, h2, fun j hj hlt2 => ?_, h4⟩, ?_⟩⟩
            · show [some (V.ref p), some (V.int lim), some (V.int (((lo : Int) + (hi : Int)) / 2 + 1)), some (V.int (hi : Int)), some (V.int (((lo : Int) + (hi : Int)) / 2))] = _
              rw [em]
              try rfl
            · exact Int.le_trans (Tbl.up_get hu hj hm (by omega)) hle'
            · show ((hi : Int) - (((lo : Int) + (hi : Int)) / 2 + 1)).toNat < ((hi : Int) - (lo : Int)).toNat
              omega
          · have hgt' : lim < (Tbl.bnds 0 B)[(lo + hi) / 2] := by
              have := of_decide_eq_false ((Bool.not_eq_true _).mp hgt)
              rw [hgb]
              omega
            refine ⟨_, rfl, ⟨⟨lo, (lo + hi) / 2, some (V.int (((lo : Int) + (hi : Int)) / 2)), rfl, ?_, by omega, by omega, h3, fun j hj hle2 => ?_⟩, ?_⟩⟩
            · show [some (V.ref p), some (V.int lim), some (V.int (lo : Int)), some (V.int (((lo : Int) + (hi : Int)) / 2)), some (V.int (((lo : Int) + (hi : Int)) / 2))] = _
              rw [em]
              try rfl
            · have := Tbl.up_get hu hm hj hle2
              omega
            · show ((((lo : Int) + (hi : Int)) / 2) - (lo : Int)).toNat < ((hi : Int) - (lo : Int)).toNat
              omega
        · have hge' : ¬ ((lo : Int) < (hi : Int)) := fun z => hge (decide_eq_true z)
          have e : lo = hi := by omega
          subst e
          refine ⟨_, rfl, _, rfl, _, _, rfl, rfl, ?_⟩
          have := Tbl.cnt_split h2 h3 h4
          unfold Tbl.kr at q
          rw [this] at q
          exact q
      · rintro σ H1 Q1 Q2 hq ⟨x, hx, y, hy, i, j, e1, e2, k, e3, z⟩
        exact ⟨x, hx, y, hy, i, j, e1, e2, k, e3, hq _ _ z⟩

theorem ne_ls : ¬ (("_lost" : Str) = "_start") := by decide +kernel
theorem ne_sl : ¬ (("_start" : Str) = "_lost") := by decide +kernel
def flds (s : Int) (la : Addr) : List (Str × V) := putF "_lost" (.ref la) (putF "_start" (.int s) [])
theorem flds_start (s : Int) (la : Addr) : (flds s la).lookup ("_start" : Str) = some (.int s) := by
  unfold flds
  rw [lookup_putF, if_neg ne_sl, lookup_putF, if_pos rfl]
theorem flds_lost (s : Int) (la : Addr) : (flds s la).lookup ("_lost" : Str) = some (.ref la) := by
  unfold flds
  rw [lookup_putF, if_pos rfl]
theorem flds_no (s : Int) (la : Addr) {m : Str} (h1 : ¬ m = "_lost") (h2 : ¬ m = "_start") : (flds s la).lookup m = none := by
  unfold flds
  rw [lookup_putF, if_neg h1, lookup_putF, if_neg h2]
  all_goals rfl
/-- a table stands at t -/
def TabAt (K : PySem.W.Frag) (C : Addr) (H : Hp) (t : Addr) (s : Int) (L : List Int) : Prop := ∃ dx la, H t = some (.ins C dx (flds s la)) ∧ SqT K H la (L.map V.int) ∧ Tbl.Ok s L ∧ L.length ≤ 100000
theorem TabAt.same {K : PySem.W.Frag} {C : Addr} {H H' : Hp} {t : Addr} {s : Int} {L : List Int} (h : TabAt K C H t s L) (e : Same H H') : TabAt K C H' t s L :=
  let ⟨dx, la, a, b, c⟩ := h
  ⟨dx, la, e _ _ a, same_seqT e b, c⟩
theorem TabAt.insA {K : PySem.W.Frag} {C : Addr} {H : Hp} {t : Addr} {s : Int} {L : List Int} (h : TabAt K C H t s L) : InsA H t C := let ⟨dx, la, a, _⟩ := h; ⟨dx, _, a⟩
theorem TabAt.insC {X : Cx} {K : PySem.W.Frag} {C : Addr} {H : Hp} {t : Addr} {s : Int} {L : List Int} (h : TabAt K C H t s L) : StX.InsC X H t C := let ⟨dx, la, a, _⟩ := h; .inr ⟨dx, _, a⟩
def spTab0 (K : PySem.W.Frag) (C : Addr) : Sp := fun vs H Q _ => ∃ (t dx l : Addr) (s : Int) (L : List Int), vs = [.ref t, .int s, .ref l] ∧ H t = some (.ins C dx []) ∧ (SqL K H l (L.map V.int) ∨ SqT K H l (L.map V.int)) ∧ Tbl.Ok s L ∧ L.length ≤ 100000 ∧
  ∀ H', TabAt K C H' t s L → (∀ b o, H b = some o → b ≠ t → H' b = some o) → Q .non H'
/-- a table made -/
theorem tab_made {K : PySem.W.Frag} {C : Addr} {H1 : Hp} {l : Addr} {s : Int} {L : List Int} {Q : VK} {E : XK} (hS : SqL K H1 l (L.map V.int) ∨ SqT K H1 l (L.map V.int)) (ok : Tbl.Ok s L) (hl : L.length ≤ 100000)
    (k : ∀ t H', Same H1 H' → H1 t = Option.none → TabAt K C H' t s L → Q (.ref t) H') :
    ∀ x dx, H1 x = Option.none → H1 dx = Option.none → dx ≠ x → spTab0 K C [.ref x, .int s, .ref l] (upd (upd H1 dx (.own x)) x (.ins C dx [])) (fun v H2 => v = .non ∧ Q (.ref x) H2) E := by
  intro x dx nx ndx ne
  have s1 : Same H1 (upd (upd H1 dx (.own x)) x (.ins C dx [])) := same_upd (same_new ndx) nx
  refine ⟨x, dx, l, s, L, rfl, upd_same, hS.imp (fun h => s1.seq h) (fun h => same_seqT s1 h), ok, hl, fun H' T kp => ⟨rfl, k x H' (fun b o e => ?_) nx T⟩⟩
  exact kp b o (s1 b o e) (fun q => by rw [q, nx] at e; cases e)
def spGet (K : PySem.W.Frag) (C : Addr) (f : Int → List Int → Int) : Sp := fun vs H Q _ => ∃ t s L, vs = [.ref t] ∧ TabAt K C H t s L ∧ Q (.int (f s L)) H
def spLost (K : PySem.W.Frag) (C : Addr) : Sp := fun vs H Q _ => ∃ t s L, vs = [.ref t] ∧ TabAt K C H t s L ∧ ∀ p, SqT K H p (L.map V.int) → Q (.ref p) H
def spLeast (K : PySem.W.Frag) (C : Addr) : Sp := fun vs H Q _ => ∃ t s L c, vs = [.ref t, .int c] ∧ TabAt K C H t s L ∧ 0 ≤ c ∧ ∀ H', Same H H' → Q (.int (Tbl.lst s L c)) H'
def spCallT (K : PySem.W.Frag) (C : Addr) : Sp := fun vs H Q _ => ∃ t s L c, vs = [.ref t, .int c] ∧ TabAt K C H t s L ∧ 0 ≤ c ∧ Q (.int (Tbl.mp s L c)) H
def spEqT (K : PySem.W.Frag) (C : Addr) : Sp := fun vs H Q _ => ∃ t u s L s' L', vs = [.ref t, .ref u] ∧ TabAt K C H t s L ∧ TabAt K C H u s' L' ∧ Q (.bl (decide (s = s' ∧ L = L'))) H
def spBoolT (K : PySem.W.Frag) (C : Addr) : Sp := fun vs H Q _ => ∃ t s L, vs = [.ref t] ∧ TabAt K C H t s L ∧ Q (.bl (decide (¬ (s = 0 ∧ L = [])))) H
def spAddT (K : PySem.W.Frag) (C : Addr) : Sp := fun vs H Q _ => ∃ t u s L s' L', vs = [.ref t, .ref u] ∧ TabAt K C H t s L ∧ TabAt K C H u s' L' ∧ L.length + L'.length ≤ 100000 ∧
  ∀ r N H', Same H H' → N.Perm (L ++ Tbl.found s L L') → Tbl.Up N → TabAt K C H' r (Tbl.mp s' L' s) N → Q (.ref r) H'
theorem ok_Table___init__ (T : Txt K mg a) : FnR P w K mg base CX0 5 a.Table___init__ (spTab0 K a.Table) := by
  obtain ⟨fd, F⟩ := T.F_Table___init__
  refine XT.okR F sc_Table___init__ bn_Table___init__ (fun vs H Q E h => ?_) (fun cdv A outer s H vs Q E hr h => ?_)
  · obtain ⟨t, dx, l, z, L, rfl, _⟩ := h
    rfl
  · obtain ⟨t, dx, l, z, L, rfl, ht, hS, ok, hl, k⟩ := h
    have G_is_count := ok_is_count (P := P) (w := w) (base := base) T
    have G_is_rank_list := ok_is_rank_list (P := P) (w := w) (base := base) T
    refine ⟨_, (pss_cons (ps_if (PW.pt (pw_or (pt_not (pt_val (pe_callR G_is_count (hr.mono (by decide)) rfl T.g_is_count T.k_is_count pass0 (pa_cons (pv 1) pa_nil)))) (pw_or1 (pt_not (pt_val (pe_callR G_is_rank_list (hr.mono (by decide)) rfl T.g_is_rank_list T.k_is_rank_list pass0 (pa_cons (pv 2) pa_nil))))))) (pss_one ps_never) pss_nil)
      (pss_cons (ps_fld (pv 0) (pv 1) rfl)
      (pss_one (ps_fld (pv 0) (pe_callTy (tupleK K) (by rfl) T.b_tuple (by decide +kernel) (pa_cons (pv 2) pa_nil)) rfl)))), ?_⟩
    have kv : ∀ y ∈ L.map V.int, XT.KV K H y := fun y hy => by
      obtain ⟨i, _, rfl⟩ := List.mem_map.mp hy
      exact kv_int i
    refine ⟨_, rfl, _, rfl, kv_int z, _, rfl, iteN (by simp [cntV, ok.s0]) ?_⟩
    refine ⟨_, rfl, _, rfl, .inl ⟨L.map V.int, ⟨l, rfl, hS, kv, by rw [List.length_map]; exact hl⟩, fun H1 s1 => ⟨_, rfl, iteN (by rw [rnkL_of ok.asc ok.pos]; rfl) ?_⟩⟩⟩
    refine ⟨_, rfl, _, rfl, t, a.Table, dx, _, rfl, s1 _ _ ht, T.cl_T, T.n_start, (by show 0 < 1000; decide), ?_⟩
    have hto : ∀ b o, H b = some o → b ≠ t → (upd H1 t (.ins a.Table dx (putF "_start" (.int z) []))) b = some o := fun b o e hb => by
      rw [upd_ne hb]
      exact s1 b o e
    rcases hS with hS | hS
    · have hS2 : SqL K (upd H1 t (.ins a.Table dx (putF "_start" (.int z) []))) l (L.map V.int) := by
        rcases hS with (e | ⟨o, e⟩) | e
        · exact .inl (.inl (hto _ _ e (fun q => by rw [q, ht] at e; cases e)))
        · exact .inl (.inr ⟨o, hto _ _ e (fun q => by rw [q, ht] at e; cases e)⟩)
        · exact .inr e
      refine ⟨_, rfl, l, _, rfl, .inl ⟨hS2, fun q hq => ?_⟩⟩
      have nt : t ≠ q := fun z => by rw [← z, upd_same] at hq; cases hq
      refine ⟨_, rfl, t, a.Table, dx, _, rfl, by rw [upd_ne nt, upd_same], T.cl_T, T.n_lost, (by show 1 < 1000; decide), ?_⟩
      refine k _ ⟨dx, q, upd_same, SqT.of (by rw [upd_ne (Ne.symm nt), upd_same]), ok, hl⟩ fun b o e hb => ?_
      have nq : b ≠ q := fun z => by
        have := hto b o e hb
        rw [z, hq] at this
        cases this
      rw [upd_ne hb, upd_ne nq]
      exact hto b o e hb
    · have hS2 : SqT K (upd H1 t (.ins a.Table dx (putF "_start" (.int z) []))) l (L.map V.int) := by
        rcases hS with (e | ⟨o, e⟩) | e
        · exact .inl (.inl (hto _ _ e (fun q => by rw [q, ht] at e; cases e)))
        · exact .inl (.inr ⟨o, hto _ _ e (fun q => by rw [q, ht] at e; cases e)⟩)
        · exact .inr e
      refine ⟨_, rfl, l, _, rfl, .inr ⟨hS2, ?_⟩⟩
      refine ⟨_, rfl, t, a.Table, dx, _, rfl, upd_same, T.cl_T, T.n_lost, (by show 1 < 1000; decide), ?_⟩
      have hu : upd (upd H1 t (.ins a.Table dx (putF "_start" (.int z) []))) t (.ins a.Table dx (putF "_lost" (.ref l) (putF "_start" (.int z) []))) = upd H1 t (.ins a.Table dx (flds z l)) := upd_upd
      refine k _ ⟨dx, l, upd_same, ?_, ok, hl⟩ fun b o e hb => ?_
      · rcases hS with (e | ⟨o, e⟩) | e
        · exact .inl (.inl (by rw [upd_ne (fun q => by rw [q, ht] at e; cases e)]; exact hto _ _ e (fun q => by rw [q, ht] at e; cases e)))
        · exact .inl (.inr ⟨o, by rw [upd_ne (fun q => by rw [q, ht] at e; cases e)]; exact hto _ _ e (fun q => by rw [q, ht] at e; cases e)⟩)
        · exact .inr e
      · rw [upd_ne hb]
        exact hto b o e hb

theorem ok_Table_start (T : Txt K mg a) : FnR P w K mg base CX0 1 a.Table_start (spGet K a.Table (fun s _ => s)) := by
  obtain ⟨fd, F⟩ := T.F_Table_start
  refine XT.okR F sc_Table_start bn_Table_start (fun vs H Q E h => ?_) (fun cdv A outer s H vs Q E hr h => ?_)
  · obtain ⟨t, z, L, rfl, _⟩ := h
    rfl
  · obtain ⟨t, z, L, rfl, ⟨dx, la, ht, hS, ok, hl⟩, q⟩ := h
    exact ⟨_, (pss_one (ps_ret (fldK K (pv 0) rfl))), _, rfl, t, a.Table, dx, _, _, rfl, ht, T.cl_T, T.n_start, flds_start _ _, q⟩

theorem ok_Table_lost (T : Txt K mg a) : FnR P w K mg base CX0 1 a.Table_lost (spLost K a.Table) := by
  obtain ⟨fd, F⟩ := T.F_Table_lost
  refine XT.okR F sc_Table_lost bn_Table_lost (fun vs H Q E h => ?_) (fun cdv A outer s H vs Q E hr h => ?_)
  · obtain ⟨t, z, L, rfl, _⟩ := h
    rfl
  · obtain ⟨t, z, L, rfl, ⟨dx, la, ht, hS, ok, hl⟩, q⟩ := h
    exact ⟨_, (pss_one (ps_ret (fldK K (pv 0) rfl))), _, rfl, t, a.Table, dx, _, _, rfl, ht, T.cl_T, T.n_lost, flds_lost _ _, q la hS⟩

theorem ok_Table___call__ (T : Txt K mg a) : FnR P w K mg base CX0 3 a.Table___call__ (spCallT K a.Table) := by
  obtain ⟨fd, F⟩ := T.F_Table___call__
  refine XT.okR F sc_Table___call__ bn_Table___call__ (fun vs H Q E h => ?_) (fun cdv A outer s H vs Q E hr h => ?_)
  · obtain ⟨t, z, L, c, rfl, _⟩ := h
    rfl
  · obtain ⟨t, z, L, c, rfl, ⟨dx, la, ht, hS, ok, hl⟩, hc, q⟩ := h
    have G_is_count := ok_is_count (P := P) (w := w) (base := base) T
    have G_mapped := ok_mapped (P := P) (w := w) (base := base) T
    refine ⟨_, (pss_cons (ps_if (pt_not (pt_val (pe_callR G_is_count (hr.mono (by decide)) rfl T.g_is_count T.k_is_count pass0 (pa_cons (pv 1) pa_nil)))) (pss_one ps_never) pss_nil)
      (pss_one (ps_ret (pe_callR G_mapped (hr.mono (by decide)) rfl T.g_mapped T.k_mapped pass0 (pa_cons (fldK K (pv 0) rfl) (pa_cons (fldK K (pv 0) rfl) (pa_cons (pv 1) pa_nil))))))), ?_⟩
    refine ⟨_, rfl, _, rfl, kv_int c, _, rfl, iteN (by simp [cntV, hc]) ?_⟩
    exact ⟨_, rfl, t, a.Table, dx, _, _, rfl, ht, T.cl_T, T.n_start, flds_start _ _, _, rfl, t, a.Table, dx, _, _, rfl, ht, T.cl_T, T.n_lost, flds_lost _ _, _, rfl, z, c, la, L, rfl, hS, Tbl.asc_up ok.asc, q⟩

theorem ok_Table___eq__ (T : Txt K mg a) : FnR P w K mg base CX0 1 a.Table___eq__ (spEqT K a.Table) := by
  obtain ⟨fd, F⟩ := T.F_Table___eq__
  refine XT.okR F sc_Table___eq__ bn_Table___eq__ (fun vs H Q E h => ?_) (fun cdv A outer s H vs Q E hr h => ?_)
  · obtain ⟨t, u, z, L, z2, L2, rfl, _⟩ := h
    rfl
  · obtain ⟨t, u, z, L, z2, L2, rfl, ⟨dx, la, ht, hS, ok, hl⟩, ⟨dy, lb, hu, hS2, ok2, hl2⟩, q⟩ := h
    refine ⟨_, (pss_one (ps_ret (pe_and (pe_callB (C8.call_isC T.isi_T) (by rfl) T.b_isinstance (by decide +kernel) (pa_cons (pv 1) (pa_cons (pe_glob (v := .ref a.Table) (by rfl) T.g_Table rfl) pa_nil))) (pe_and (pe_cmpR op_eq (fldK K (pv 0) rfl) (fldK K (pv 1) rfl) (nomark _)) (pe_one (pe_cmpR (eqDK K hr.units) (fldK K (pv 0) rfl) (fldK K (pv 1) rfl) (nomark _))))))), ?_⟩
    refine ⟨_, rfl, u, dy, _, rfl, hu, _, rfl, iteT ?_⟩
    refine ⟨_, rfl, t, a.Table, dx, _, _, rfl, ht, T.cl_T, T.n_start, flds_start _ _, _, rfl, u, a.Table, dy, _, _, rfl, hu, T.cl_T, T.n_start, flds_start _ _, rfl, _, rfl, ite2 (fun h1 => ?_) (fun h1 => ?_)⟩
    · have e : z = z2 := by have := of_decide_eq_true h1; injection this
      refine ⟨_, rfl, t, a.Table, dx, _, _, rfl, ht, T.cl_T, T.n_lost, flds_lost _ _, _, rfl, u, a.Table, dy, _, _, rfl, hu, T.cl_T, T.n_lost, flds_lost _ _, _, _, dp_tup hS, dp_tup hS2, shaped_tup _, shaped_tup _, ?_⟩
      rw [eqv_tups]
      have e2 : decide (L = L2) = decide (z = z2 ∧ L = L2) := by simp [e]
      rw [e2]
      exact q
    · have e : ¬ z = z2 := fun x => h1 (by rw [x]; exact decide_eq_true rfl)
      have e2 : decide (z = z2 ∧ L = L2) = false := by simp [e]
      rw [e2] at q
      exact q

end
end K15
namespace K15
open PySem L2 XT
section
variable {P : Program} {w : World} {K : PySem.W.Frag} {mg : Str → Option Value} {base : Heap} {a : Ads}
local macro_rules | `(tactic| walk_at "rside") => `(tactic| first | (show (0 : Int) < _; first | decide | omega) | (exact ⟨by first | decide | omega, by first | decide | omega⟩) | (exact Or.inl ⟨by omega, by omega⟩) | (exact Or.inr ⟨by omega, by omega⟩) | (exact ⟨by decide, by decide, by decide⟩))
local macro_rules | `(tactic| walk_at "rd1") => `(tactic| first | (refine ⟨_, rfl, ?_⟩) | (refine ⟨_, _, rfl, rfl, (by walk_at "rside"), ?_⟩) | (refine ⟨_, _, rfl, rfl, ?_⟩))
local macro_rules | `(tactic| walk_at "rd") => `(tactic| repeat (walk_at "rd1"))

local macro_rules | `(tactic| walk_at "rside") => `(tactic| first | (show (0 : Int) < _; first | decide | omega) | (exact ⟨by first | decide | omega, by first | decide | omega⟩) | (exact Or.inl ⟨by omega, by omega⟩) | (exact Or.inr ⟨by omega, by omega⟩) | (exact ⟨by decide, by decide, by decide⟩))
local macro_rules | `(tactic| walk_at "rd1") => `(tactic| first | (refine ⟨_, rfl, ?_⟩) | (refine ⟨_, _, rfl, rfl, (by walk_at "rside"), ?_⟩) | (refine ⟨_, _, rfl, rfl, ?_⟩))
local macro_rules | `(tactic| walk_at "rd") => `(tactic| repeat (walk_at "rd1"))

/-- the law's pool: two numbers -/
def PoolAt (H : Hp) (p : Addr) : Prop := ∃ x y : Int, H p = some (.lst [.int x, .int y]) ∧ 0 ≤ x ∧ 0 ≤ y ∧ y < 2147483648
/-- all stays but what stands at p -/
def But (p : Addr) (H H' : Hp) : Prop := ∀ b o, b ≠ p → H b = some o → H' b = some o
theorem But.refl (p : Addr) (H : Hp) : But p H H := fun _ _ _ h => h
theorem But.trans {p : Addr} {H H1 H2 : Hp} (a : But p H H1) (b : But p H1 H2) : But p H H2 := fun c o n h => b c o n (a c o n h)
theorem but_same {p : Addr} {H H' : Hp} (h : Same H H') : But p H H' := fun b o _ e => h b o e
theorem but_upd {p : Addr} {H : Hp} {o : HO} : But p H (upd H p o) := fun b u n e => by
  rw [upd_ne n]
  exact e
/-- what is apart from p stays -/
theorem but_to {p : Addr} {H0 H H' : Hp} (s : Same H0 H) (n : H0 p = Option.none) (b : But p H H') : Same H0 H' := fun c o e => b c o (fun z => by rw [z, n] at e; cases e) (s c o e)
def spPool (K : PySem.W.Frag) : Sp := fun vs H Q _ => ∃ (sc : Addr) (ns : List Int) (k : Int), vs = [.ref sc, .int k] ∧ SqL K H sc (ns.map V.int) ∧ 0 ≤ k ∧ k ≤ 1000 ∧ ∀ p H', Same H H' → H p = Option.none → PoolAt H' p → Q (.ref p) H'
def spTake : Sp := fun vs H Q _ => ∃ (p : Addr) (m : Int), vs = [.ref p, .int m] ∧ PoolAt H p ∧ 0 < m ∧ m < 1000 ∧ ∀ r H', 0 ≤ r → r < m → But p H H' → PoolAt H' p → Q (.int r) H'
theorem ok_law_pool (T : Txt K mg a) : FnR P w K mg base CX0 1 a.law_pool (spPool K) := by
  obtain ⟨fd, F⟩ := T.F_law_pool
  refine XT.okR F sc_law_pool bn_law_pool (fun vs H Q E h => ?_) (fun cdv A outer s H vs Q E hr h => ?_)
  · obtain ⟨sc, ns, k, rfl, _⟩ := h
    rfl
  · obtain ⟨sc, ns, k, rfl, hS, k0, k1, q⟩ := h
    refine ⟨_, (pss_cons (ps_set (i := 2) sc_law_pool.nd rfl (Or.inl rfl) pe_int)
      (pss_cons (ps_if (pt_cmpR op_lt (pv 1) (pe_callB (lenK K) (by rfl) T.b_len (by decide +kernel) (pa_cons (pv 0) pa_nil)) (nomark _)) (pss_one (ps_set (i := 2) sc_law_pool.nd rfl (Or.inl rfl) (pe_callB call_abs (by rfl) T.b_abs (by decide +kernel) (pa_cons (pe_ix (ixLK K) (pv 0) (pv 1) (fun _ _ => rfl)) pa_nil)))) pss_nil)
      (pss_cons (ps_set (i := 3) sc_law_pool.nd rfl (Or.inl rfl) (pe_op op_mod (pe_op op_mul (pe_op op_add (pe_op op_add (pe_op op_add (pe_op op_mod (pv 2) pe_int) (pe_op op_mul (pe_op op_mul pe_int (pv 1)) (pv 1))) (pe_op op_mul pe_int (pv 1))) pe_int) pe_int) pe_int))
      (pss_one (ps_ret (pe_lst (pa_cons (pe_op op_mul (pv 2) (pe_callTy call_int1 (by rfl) T.b_int (by decide +kernel) (pa_cons (pe_cmpR op_ge (pv 2) (pe_op op_pow pe_int pe_int) (nomark _)) pa_nil))) (pa_cons (pe_op op_mod (pe_op op_mul (pv 3) (pv 3)) pe_int) pa_nil)))))))), ?_⟩
    refine ⟨_, rfl, _, rfl, sc, _, rfl, .inl hS, _, _, rfl, rfl, _, rfl, ite2 (fun h1 => ?_) (fun h1 => ?_)⟩
    · have h1' : k < ((ns.map V.int).length : Int) := of_decide_eq_true h1
      rw [List.length_map] at h1'
      obtain ⟨j, rfl⟩ : ∃ j : Nat, k = (j : Int) := ⟨k.toNat, by omega⟩
      have hj : j < ns.length := by omega
      have hg : (ns.map V.int)[j]? = some (V.int ns[j]) := by simp [hj]
      refine ⟨_, rfl, _, rfl, sc, _, _, _, rfl, rfl, hS, atI_nat hg, _, rfl, ?_⟩
      have hc : 0 ≤ (if ns[j] < 0 then -ns[j] else ns[j]) := by split <;> omega
      generalize (if ns[j] < 0 then -ns[j] else ns[j]) = c at hc ⊢
      walk_at "rd"
      refine .inr ⟨_, rfl, ?_⟩
      refine ⟨_, _, rfl, rfl, .inr (by split <;> omega), ?_⟩
      have hm : ∀ z : Int, 0 ≤ z % 2147483647 ∧ z % 2147483647 < 2147483647 := fun z => ⟨Int.emod_nonneg _ (by decide), Int.emod_lt_of_pos _ (by decide)⟩
      refine ⟨_, rfl, _, rfl, _, _, rfl, rfl, .inl ⟨by have := hm ((c % 2147483629 + 7919 * (j : Int) * (j : Int) + 31 * (j : Int) + 17) * 48271); omega, by have := hm ((c % 2147483629 + 7919 * (j : Int) * (j : Int) + 31 * (j : Int) + 17) * 48271); omega⟩, ?_⟩
      refine ⟨_, _, rfl, rfl, (by show (0 : Int) < _; decide), ?_⟩
      refine ⟨by show 2 ≤ sizeLine; decide, fun p hp => q p _ (same_new hp) hp ⟨_, _, upd_same, ?_, Int.emod_nonneg _ (by decide), Int.lt_trans (Int.emod_lt_of_pos _ (by decide)) (by decide)⟩⟩
      split <;> omega
    · walk_at "rd"
      refine .inr ⟨_, rfl, ?_⟩
      refine ⟨_, _, rfl, rfl, .inr (by split <;> omega), ?_⟩
      have hm : ∀ z : Int, 0 ≤ z % 2147483647 ∧ z % 2147483647 < 2147483647 := fun z => ⟨Int.emod_nonneg _ (by decide), Int.emod_lt_of_pos _ (by decide)⟩
      refine ⟨_, rfl, _, rfl, _, _, rfl, rfl, .inl ⟨by have := hm (((0 : Int) % 2147483629 + 7919 * k * k + 31 * k + 17) * 48271); omega, by have := hm (((0 : Int) % 2147483629 + 7919 * k * k + 31 * k + 17) * 48271); omega⟩, ?_⟩
      refine ⟨_, _, rfl, rfl, (by show (0 : Int) < _; decide), ?_⟩
      refine ⟨by show 2 ≤ sizeLine; decide, fun p hp => q p _ (same_new hp) hp ⟨_, _, upd_same, ?_, Int.emod_nonneg _ (by decide), Int.lt_trans (Int.emod_lt_of_pos _ (by decide)) (by decide)⟩⟩
      exact Int.le_of_eq (Int.zero_mul _).symm

theorem ok_law_take (T : Txt K mg a) : FnR P w K mg base CX0 1 a.law_take (spTake) := by
  obtain ⟨fd, F⟩ := T.F_law_take
  refine XT.okR F sc_law_take bn_law_take (fun vs H Q E h => ?_) (fun cdv A outer s H vs Q E hr h => ?_)
  · obtain ⟨p, m, rfl, _⟩ := h
    rfl
  · obtain ⟨p, m, rfl, ⟨x, y, hp, hx, hy, hy2⟩, hm0, hm1, k⟩ := h
    refine ⟨_, (pss_cons (ps_if (pt_cmpR op_gt (pe_ix (ixLK K) (pv 0) pe_int (fun _ _ => rfl)) pe_int (nomark _)) (pss_cons (ps_set (i := 2) sc_law_take.nd rfl (Or.inl rfl) (pe_op op_mod (pe_ix (ixLK K) (pv 0) pe_int (fun _ _ => rfl)) (pv 1)))
      (pss_cons (ps_asg (pe_op op_fdiv (pe_ix (ixLK K) (pv 0) pe_int (fun _ _ => rfl)) (pv 1)) (pg_sub (pv 0) pe_int set_list))
      (pss_one (ps_ret (pv 2))))) pss_nil)
      (pss_cons (ps_asg (pe_op op_mod (pe_op op_add (pe_op op_mul (pe_ix (ixLK K) (pv 0) pe_int (fun _ _ => rfl)) pe_int) pe_int) pe_int) (pg_sub (pv 0) pe_int set_list))
      (pss_one (ps_ret (pe_op op_mod (pe_op op_fdiv (pe_op op_mod (pe_op op_mul (pe_ix (ixLK K) (pv 0) pe_int (fun _ _ => rfl)) (pe_ix (ixLK K) (pv 0) pe_int (fun _ _ => rfl))) pe_int) pe_int) (pv 1)))))), ?_⟩
    have g0 : ([V.int x, V.int y] : List V)[0]? = some (V.int x) := rfl
    have g1 : ([V.int x, V.int y] : List V)[1]? = some (V.int y) := rfl
    refine ⟨_, rfl, p, _, 0, _, rfl, rfl, SqL.of hp, atI_nat (j := 0) g0, _, _, rfl, rfl, _, rfl, ite2 (fun h1 => ?_) (fun h1 => ?_)⟩
    · have h1' := of_decide_eq_true h1
      refine ⟨_, rfl, p, _, 0, _, rfl, rfl, SqL.of hp, atI_nat (j := 0) g0, _, rfl, _, _, rfl, rfl, hm0, ?_⟩
      refine ⟨_, rfl, p, _, 0, _, rfl, rfl, SqL.of hp, atI_nat (j := 0) g0, _, rfl, _, _, rfl, rfl, ⟨hm0, by omega⟩, ?_⟩
      refine ⟨_, rfl, p, _, 0, 0, rfl, rfl, hp, rfl, ?_⟩
      refine ⟨_, rfl, k _ _ (Int.emod_nonneg _ (by omega)) (Int.emod_lt_of_pos _ hm0) but_upd ⟨x / m, y, upd_same, Int.ediv_nonneg hx (by omega), hy, hy2⟩⟩
    · refine ⟨_, rfl, p, _, 1, _, rfl, rfl, SqL.of hp, atI_nat (j := 1) g1, _, _, rfl, rfl, .inr ⟨by decide, by decide⟩, _, _, rfl, rfl, _, _, rfl, rfl, (by show (0 : Int) < _; decide), ?_⟩
      refine ⟨_, rfl, p, _, 1, 1, rfl, rfl, hp, rfl, ?_⟩
      have hz0 : 0 ≤ (y * 48271 + 12345) % 2147483647 := Int.emod_nonneg _ (by decide)
      have hz1 : (y * 48271 + 12345) % 2147483647 < 2147483647 := Int.emod_lt_of_pos _ (by decide)
      have g2 : ([V.int x, V.int ((y * 48271 + 12345) % 2147483647)] : List V)[1]? = some (V.int ((y * 48271 + 12345) % 2147483647)) := rfl
      have hs : (upd H p (.lst ([V.int x, V.int y].set 1 (V.int ((y * 48271 + 12345) % 2147483647))))) p = some (.lst [V.int x, V.int ((y * 48271 + 12345) % 2147483647)]) := upd_same
      refine ⟨_, rfl, p, _, 1, _, rfl, rfl, SqL.of hs, atI_nat (j := 1) g2, _, rfl, p, _, 1, _, rfl, rfl, SqL.of hs, atI_nat (j := 1) g2, _, _, rfl, rfl, .inl ⟨by omega, by omega⟩, _, _, rfl, rfl, (by show (0 : Int) < _; decide), _, _, rfl, rfl, ⟨by decide, by decide⟩, _, rfl, _, _, rfl, rfl, hm0, ?_⟩
      exact k _ _ (Int.emod_nonneg _ (by omega)) (Int.emod_lt_of_pos _ hm0) but_upd ⟨x, _, hs, hx, hz0, by omega⟩

end
end K15
namespace K15
open PySem L2 XT
section
variable {P : Program} {w : World} {K : PySem.W.Frag} {mg : Str → Option Value} {base : Heap} {a : Ads}
local macro_rules | `(tactic| walk_at "rside") => `(tactic| first | (show (0 : Int) < _; first | decide | omega) | (exact ⟨by first | decide | omega, by first | decide | omega⟩) | (exact Or.inl ⟨by omega, by omega⟩) | (exact Or.inr ⟨by omega, by omega⟩) | (exact ⟨by decide, by decide, by decide⟩))
local macro_rules | `(tactic| walk_at "rd1") => `(tactic| first | (refine ⟨_, rfl, ?_⟩) | (refine ⟨_, _, rfl, rfl, (by walk_at "rside"), ?_⟩) | (refine ⟨_, _, rfl, rfl, ?_⟩))
local macro_rules | `(tactic| walk_at "rd") => `(tactic| repeat (walk_at "rd1"))

theorem tab_mk {C : Addr} {H1 : Hp} {l x dx : Addr} {s : Int} {L : List Int} {Q : VK} {E : XK} (nx : H1 x = Option.none) (ndx : H1 dx = Option.none) (ne : dx ≠ x) (hS : SqL K H1 l (L.map V.int) ∨ SqT K H1 l (L.map V.int)) (ok : Tbl.Ok s L) (hl : L.length ≤ 100000)
    (k : ∀ H', Same H1 H' → TabAt K C H' x s L → Q .non H') : spTab0 K C [.ref x, .int s, .ref l] (upd (upd H1 dx (.own x)) x (.ins C dx [])) Q E := by
  have s1 : Same H1 (upd (upd H1 dx (.own x)) x (.ins C dx [])) := same_upd (same_new ndx) nx
  exact ⟨x, dx, l, s, L, rfl, upd_same, hS.imp (fun h => s1.seq h) (fun h => same_seqT s1 h), ok, hl, fun H' T kp => k H' (fun b o e => kp b o (s1 b o e) (fun q => by rw [q, nx] at e; cases e)) T⟩
/-- tables in a row -/
def TbR (K : PySem.W.Frag) (C : Addr) (H : Hp) (x : V) (p : Int × List Int) : Prop := ∃ t, x = .ref t ∧ TabAt K C H t p.1 p.2
abbrev TbsAt (K : PySem.W.Frag) (C : Addr) (H : Hp) : List V → List (Int × List Int) → Prop := Paired (TbR K C H)
theorem tbs_same {C : Addr} {H H' : Hp} {ts : List V} {Ts : List (Int × List Int)} (h : TbsAt K C H ts Ts) (s : Same H H') : TbsAt K C H' ts Ts := L2.Paired.mapP h fun _ _ ⟨t, e, z⟩ => ⟨t, e, z.same s⟩
theorem flds_ne (s : Int) (la : Addr) : flds s la ≠ [] := fun e => by
  have := flds_start s la
  rw [e] at this
  cases this
theorem but_seqT {H H' : Hp} {e p C dx : Addr} {fs : List (Str × V)} {xs : List V} (he : H e = some (.ins C dx fs)) (b : But e H H') (h : SqT K H p xs) : SqT K H' p xs := by
  rcases h with (h | ⟨o, h⟩) | h
  · exact .inl (.inl (b _ _ (fun q => by rw [q, he] at h; cases h) h))
  · exact .inl (.inr ⟨o, b _ _ (fun q => by rw [q, he] at h; cases h) h⟩)
  · exact .inr h
theorem but_seqL {H H' : Hp} {e p C dx : Addr} {fs : List (Str × V)} {xs : List V} (he : H e = some (.ins C dx fs)) (b : But e H H') (h : SqL K H p xs) : SqL K H' p xs := by
  rcases h with (h | ⟨o, h⟩) | h
  · exact .inl (.inl (b _ _ (fun q => by rw [q, he] at h; cases h) h))
  · exact .inl (.inr ⟨o, b _ _ (fun q => by rw [q, he] at h; cases h) h⟩)
  · exact .inr h
theorem tab_but {H H' : Hp} {e C2 dx C t : Addr} {z : Int} {L : List Int} (he : H e = some (.ins C2 dx [])) (b : But e H H') (h : TabAt K C H t z L) : TabAt K C H' t z L := by
  obtain ⟨dy, la, ht, hS, ok, hl⟩ := h
  refine ⟨dy, la, b _ _ (fun q => ?_) ht, but_seqT he b hS, ok, hl⟩
  rw [q, he] at ht
  injection ht with ht
  injection ht with _ _ ht
  exact flds_ne _ _ ht.symm
theorem tbs_but {H H' : Hp} {e C2 dx C : Addr} {ts : List V} {Ts : List (Int × List Int)} (he : H e = some (.ins C2 dx [])) (b : But e H H') (h : TbsAt K C H ts Ts) : TbsAt K C H' ts Ts := L2.Paired.mapP h fun _ _ ⟨t, x, z⟩ => ⟨t, x, tab_but he b z⟩
/-- a list changed leaves tables as they are -/
theorem tab_lst {H : Hp} {D C t : Addr} {xs ys : List V} {z : Int} {L : List Int} (hD : H D = some (.lst xs)) (h : TabAt K C H t z L) : TabAt K C (upd H D (.lst ys)) t z L := by
  obtain ⟨dy, la, ht, hS, ok, hl⟩ := h
  refine ⟨dy, la, by rw [upd_ne (fun q => by rw [q, hD] at ht; cases ht)]; exact ht, ?_, ok, hl⟩
  rcases hS with (h | ⟨o, h⟩) | h
  · exact .inl (.inl (by rw [upd_ne (fun q => by rw [q, hD] at h; cases h)]; exact h))
  · exact .inl (.inr ⟨o, by rw [upd_ne (fun q => by rw [q, hD] at h; cases h)]; exact h⟩)
  · exact .inr h
def DTab (K : PySem.W.Frag) (C : Addr) : EqvB := fun x y H b => ∃ t u s L s2 M2, x = .ref t ∧ y = .ref u ∧ TabAt K C H t s L ∧ TabAt K C H u s2 M2 ∧ b = decide (s = s2 ∧ L = M2)
theorem monB_tab {C : Addr} : MonB (DTab K C) := fun x y H H' b e d => by
  obtain ⟨t, u, z, L, z2, M2, h1, h2, h3, h4, h5⟩ := d
  exact ⟨t, u, z, L, z2, M2, h1, h2, h3.same e, h4.same e, h5⟩
theorem eqB_tabX {X : Cx} {CX : CXT} {n : Nat} {C f : Addr} {E : XK} (F : FnR X.prog X.w X.K X.mg X.base CX n f (spEqT X.K C)) (hs : PySem.W.findIn X.K (.ref C) "__eq__" = some (some (.ref f))) (hf : PySem.W.isFn X.K (.ref f) = true) (hx : Passes CX X E) : EqB X n (DTab X.K C) := by
  refine RcB.eqB (rcB_own F hs hf hx fun x y H b d => ?_) (fun x y H b d => ?_) fun pins s σ H a b I d => ?_
  · obtain ⟨t, u, z, L, z2, M2, rfl, rfl, h3, h4, h5⟩ := d
    exact ⟨t, u, rfl, rfl, h3.insA, h4.insA, t, u, z, L, z2, M2, rfl, h3, h4, by rw [h5], L2.Ext.rfl'⟩
  · obtain ⟨t, u, z, L, z2, M2, rfl, rfl, _⟩ := d
    exact ⟨t, u, rfl, rfl⟩
  · obtain ⟨t, u, z, L, z2, M2, e1, e2, h3, h4, h5⟩ := d
    cases e1
    cases e2
    obtain ⟨dy, la, ht, hS, _⟩ := h3
    obtain ⟨dz, lb, hu, hS2, _⟩ := h4
    rw [ht] at hu
    injection hu with hu
    injection hu with _ _ hu
    have q1 := congrArg (fun l => l.lookup ("_start" : Str)) hu
    have q2 := congrArg (fun l => l.lookup ("_lost" : Str)) hu
    simp only [flds_start, flds_lost] at q1 q2
    injection q1 with q1
    injection q1 with q1
    injection q2 with q2
    injection q2 with q2
    subst q1
    subst q2
    have := seqT_inj I hS hS2
    rw [h5, this]
    simp
theorem rcB_tabX {X : Cx} {CX : CXT} {n : Nat} {C f : Addr} {E : XK} (F : FnR X.prog X.w X.K X.mg X.base CX n f (spEqT X.K C)) (hs : PySem.W.findIn X.K (.ref C) "__eq__" = some (some (.ref f))) (hf : PySem.W.isFn X.K (.ref f) = true) (hx : Passes CX X E) : RcB X (n + 1) (DTupB X.K (DTab X.K C)) :=
  rcB_tup monB_tab (eqB_tabX F hs hf hx)
def efl (p q : Addr) : List (Str × V) := putF "_tables" (.ref q) (putF "_breaks" (.ref p) [])
theorem ne_bt : ¬ (("_breaks" : Str) = "_tables") := by decide +kernel
theorem ne_tb : ¬ (("_tables" : Str) = "_breaks") := by decide +kernel
theorem efl_breaks (p q : Addr) : (efl p q).lookup ("_breaks" : Str) = some (.ref p) := by
  unfold efl
  rw [lookup_putF, if_neg ne_bt, lookup_putF, if_pos rfl]
theorem efl_tables (p q : Addr) : (efl p q).lookup ("_tables" : Str) = some (.ref q) := by
  unfold efl
  rw [lookup_putF, if_pos rfl]
theorem efl_no (p q : Addr) {m : Str} (h1 : ¬ m = "_tables") (h2 : ¬ m = "_breaks") : (efl p q).lookup m = none := by
  unfold efl
  rw [lookup_putF, if_neg h1, lookup_putF, if_neg h2]
  all_goals rfl
/-- the effect of the steps S stands at e -/
def EffAt (K : PySem.W.Frag) (CE CT : Addr) (H : Hp) (e : Addr) (S : List Stp) : Prop := ∃ dx p q B ts, H e = some (.ins CE dx (efl p q)) ∧ SqT K H p (B.map V.int) ∧ SqT K H q ts ∧ TbsAt K CT H ts (Eff.tbs S B) ∧ Eff.Brk S B ∧ (∀ s ∈ S, goodS s = true) ∧ S.length ≤ 20000 ∧ B.length ≤ 20000
theorem EffAt.same {CE CT : Addr} {H H' : Hp} {e : Addr} {S : List Stp} (h : EffAt K CE CT H e S) (s : Same H H') : EffAt K CE CT H' e S :=
  let ⟨dx, p, q, B, ts, a, b, c, d, r⟩ := h
  ⟨dx, p, q, B, ts, s _ _ a, same_seqT s b, same_seqT s c, tbs_same d s, r⟩
theorem EffAt.insA {CE CT : Addr} {H : Hp} {e : Addr} {S : List Stp} (h : EffAt K CE CT H e S) : InsA H e CE := let ⟨dx, p, q, B, ts, a, _⟩ := h; ⟨dx, _, a⟩
theorem EffAt.ins {CE CT : Addr} {H : Hp} {e : Addr} {S : List Stp} (h : EffAt K CE CT H e S) : ∃ dx p q, H e = some (.ins CE dx (efl p q)) := let ⟨dx, p, q, B, ts, a, _⟩ := h; ⟨dx, p, q, a⟩
theorem EffAt.insC {X : Cx} {CE CT : Addr} {H : Hp} {e : Addr} {S : List Stp} (h : EffAt K CE CT H e S) : StX.InsC X H e CE := let ⟨dx, p, q, B, ts, a, _⟩ := h; .inr ⟨dx, _, a⟩
theorem EffAt.good {CE CT : Addr} {H : Hp} {e : Addr} {S : List Stp} (h : EffAt K CE CT H e S) : ∀ s ∈ S, goodS s = true := let ⟨_, _, _, _, _, _, _, _, _, _, g, _⟩ := h; g
/-- below_all -/
def spBelow (K : PySem.W.Frag) : Sp := fun vs H Q _ => ∃ p B, vs = [.ref p] ∧ SqL K H p (B.map V.int) ∧ Q (.int (Eff.low B)) H
theorem ok_below_all (T : Txt K mg a) : FnR P w K mg base CX0 1 a.below_all (spBelow K) := by
  obtain ⟨fd, F⟩ := T.F_below_all
  refine XT.okR F sc_below_all bn_below_all (fun vs H Q E h => ?_) (fun cdv A outer s H vs Q E hr h => ?_)
  · obtain ⟨p, B, rfl, _⟩ := h
    rfl
  · obtain ⟨p, B, rfl, hS, q⟩ := h
    refine ⟨_, (pss_one (ps_ret (pe_ifExp (pt_truth (pv 0) (fun _ => rfl)) (pe_op op_sub (pe_ix (ixLK K) (pv 0) pe_int (fun _ _ => rfl)) pe_int) pe_int))), ?_⟩
    refine ⟨_, rfl, _, .inl ⟨_, hS, rfl⟩, ?_⟩
    cases B with
    | nil => exact iteN rfl q
    | cons b B =>
      refine iteH rfl ?_
      exact ⟨_, rfl, p, _, 0, .int b, rfl, rfl, hS, atI_nat (j := 0) rfl, _, _, rfl, rfl, q⟩

/-- table_at -/
def spTabAt (K : PySem.W.Frag) : Sp := fun vs H Q _ => ∃ p q t B ts x, vs = [.ref p, .ref q, .int t] ∧ SqT K H p (B.map V.int) ∧ Tbl.Asc B ∧ SqT K H q ts ∧ ts[(Tbl.cnt B t).toNat]? = some x ∧ Q x H
theorem ok_table_at (T : Txt K mg a) : FnR P w K mg base CX0 2 a.table_at (spTabAt K) := by
  obtain ⟨fd, F⟩ := T.F_table_at
  refine XT.okR F sc_table_at bn_table_at (fun vs H Q E h => ?_) (fun cdv A outer s H vs Q E hr h => ?_)
  · obtain ⟨p, q, t, B, ts, x, rfl, _⟩ := h
    rfl
  · obtain ⟨p, q, t, B, ts, x, rfl, hp, ha, hq, hx, k⟩ := h
    have G_how_many_up_to := ok_how_many_up_to (P := P) (w := w) (base := base) T
    refine ⟨_, (pss_one (ps_ret (pe_ix (ixTK K) (pv 1) (pe_callR G_how_many_up_to (hr.mono (by decide)) rfl T.g_how_many_up_to T.k_how_many_up_to pass0 (pa_cons (pv 0) (pa_cons (pv 2) pa_nil))) (fun _ _ => rfl)))), ?_⟩
    have e : Tbl.cnt B t = (((Tbl.cnt B t).toNat : Nat) : Int) := by have := Tbl.cnt_nn B t; omega
    exact ⟨_, rfl, _, rfl, _, rfl, p, t, B, rfl, .inr hp, Tbl.asc_up ha, q, _, _, x, rfl, rfl, hq, at_of e hx, k⟩

/-- table_of -/
def spTabOf (K : PySem.W.Frag) (CT : Addr) : Sp := fun vs H Q _ => ∃ p t xs S, vs = [.ref p, .int t] ∧ SqT K H p xs ∧ StsAt K H xs S ∧ (∀ s ∈ S, goodS s = true) ∧ S.length ≤ 20000 ∧ ∀ r H', Same H H' → H r = Option.none → TabAt K CT H' r (Eff.tb t S).1 (Eff.tb t S).2 → Q (.ref r) H'
theorem wrd_ins (b : Bool) : decide (V.str (wrd b) = V.str "insert") = b := by cases b <;> decide +kernel
theorem ok_table_of (T : Txt K mg a) : FnR P w K mg base CX0 8 a.table_of (spTabOf K a.Table) := by
  obtain ⟨fd, F⟩ := T.F_table_of
  refine XT.okR F sc_table_of bn_table_of (fun vs H Q E h => ?_) (fun cdv A outer s H vs Q E hr h => ?_)
  · obtain ⟨p, t, xs, S, rfl, _⟩ := h
    rfl
  · obtain ⟨p, t, xs, S, rfl, hS, hL, hg, hz, k⟩ := h
    have G_kept_rank := ok_kept_rank (P := P) (w := w) (base := base) T
    have G_Table_init := ok_Table___init__ (P := P) (w := w) (base := base) T
    refine ⟨_, (pss_cons (ps_set (i := 2) sc_table_of.nd rfl (Or.inl rfl) pe_int)
      (pss_cons (ps_set (i := 3) sc_table_of.nd rfl (Or.inl rfl) (pe_lst pa_nil))
      (pss_cons (ps_for PassesOwn.never rfl (pi_tup (pv 0)) (tupK K (n := 2) (by rfl) (pgs_cons (pg_name (i := 4) sc_table_of.nd rfl (Or.inl rfl)) (pgs_cons (pg_name (i := 5) sc_table_of.nd rfl (Or.inl rfl)) pgs_nil)))
        (pss_one (ps_if (pt_cmpR op_eq (pv 4) pe_str (nomark _)) (pss_one (ps_if (pt_cmpR op_le (pv 5) (pv 1) (nomark _)) (pss_one (ps_set (i := 2) sc_table_of.nd rfl (Or.inl rfl) (pe_op op_add (pv 2) pe_int))) pss_nil)) (pss_one (ps_if (pt_cmpR op_le (pv 5) (pv 2) (nomark _)) (pss_one (ps_set (i := 2) sc_table_of.nd rfl (Or.inl rfl) (pe_op op_sub (pv 2) pe_int))) (pss_cons (ps_set (i := 6) sc_table_of.nd rfl (Or.inl rfl) (pe_op op_sub (pv 5) (pv 2)))
      (pss_cons (ps_set (i := 7) sc_table_of.nd rfl (Or.inl rfl) (pe_callR G_kept_rank (hr.mono (by decide)) rfl T.g_kept_rank T.k_kept_rank pass0 (pa_cons (pv 3) (pa_cons (pv 6) pa_nil))))
      (pss_cons (ps_set (i := 8) sc_table_of.nd rfl (Or.inl rfl) (pe_op op_sub (pv 7) (pv 6)))
      (pss_one (ps_asg (pe_lst (pa_cons (pv 7) pa_nil)) (pg_slice (pv 3) (po_some (pv 8)) (po_some (pv 8)))))))))))))
      (pss_one (ps_ret (StX.pe_makeR T.M_Table G_Table_init (hr.mono (by decide)) rfl T.g_Table pass0 (pa_cons (pv 2) (pa_cons (pv 3) pa_nil)))))))), ?_⟩
    refine ⟨Nat.zero_le _, fun l hl => ?_⟩
    have s0 : Same H (upd H l (.lst [])) := same_new hl
    refine ⟨_, rfl, p, rfl, ⟨_, same_seqT s0 hS⟩, for_tup (K := K) (a := p) (xs := xs) (fun i σ H' => ∃ wv nv pv rv bv, σ = [some (.ref p), some (.int t), some (.int (Eff.tb t (S.take i)).1), some (.ref l), wv, nv, pv, rv, bv] ∧ Same H H' ∧ H' l = some (.lst ((Eff.tb t (S.take i)).2.map V.int)))
      ⟨_, _, _, _, _, rfl, s0, upd_same⟩ (fun i σ H' _ ⟨_, _, _, _, _, _, s, _⟩ => same_seqT s hS) ?_ ?_⟩
    · rintro i x σ H' hx ⟨wv, nv, pv, rv, bv, rfl, s, hl'⟩
      obtain ⟨st, hst, r, rfl, hr⟩ := pd_get hL hx
      have gst := hg st (List.mem_of_getElem? hst)
      have et : S.take (i + 1) = S.take i ++ [st] := by rw [List.take_add_one, hst]; rfl
      have gi : ∀ s ∈ S.take i, goodS s = true := fun s hs => hg s (List.mem_of_mem_take hs)
      have ok := Eff.tb_ok (t := t) gi
      have len := Eff.tb_len t (S.take i)
      rw [List.length_take] at len
      have eb := Eff.tb_snoc t (S.take i) st
      obtain ⟨b, n⟩ := st
      have fin : ∀ (z' : Int) (L' : List Int) (H2 : Hp) (wv nv pv rv bv : Option V), Eff.tb t (S.take (i + 1)) = (z', L') → Same H H2 → H2 l = some (.lst (L'.map V.int)) →
          ∃ wv' nv' pv' rv' bv', [some (V.ref p), some (V.int t), some (V.int z'), some (V.ref l), wv, nv, pv, rv, bv] = [some (V.ref p), some (V.int t), some (V.int (Eff.tb t (S.take (i + 1))).1), some (V.ref l), wv', nv', pv', rv', bv'] ∧ Same H H2 ∧ H2 l = some (.lst ((Eff.tb t (S.take (i + 1))).2.map V.int)) :=
        fun z' L' H2 wv nv pv rv bv e s h => ⟨wv, nv, pv, rv, bv, by rw [e], s, by rw [e]; exact h⟩
      refine ⟨r, _, rfl, same_seqT s hr, rfl, _, _, rfl, _, _, rfl, rfl, ?_⟩
      refine ⟨_, rfl, rfl, _, rfl, ?_⟩
      rw [wrd_ins]
      generalize hp : Eff.tb t (S.take i) = z at eb ok len hl'
      obtain ⟨z, L⟩ := z
      cases b with
      | true =>
        refine iteH rfl ?_
        refine ⟨_, rfl, _, rfl, _, _, rfl, rfl, _, rfl, ite2 (fun h1 => ?_) (fun h1 => ?_)⟩
        · have h1' : n ≤ t := of_decide_eq_true h1
          have e : Eff.tb t (S.take (i + 1)) = (z + 1, L) := by rw [et, eb]; unfold Eff.tstep; rw [if_pos rfl, if_pos h1']
          refine ⟨_, rfl, _, _, rfl, rfl, ?_⟩
          exact fin (z + 1) L H' _ _ _ _ _ e s hl'
        · have h1' : ¬ n ≤ t := of_decide_eq_false ((Bool.not_eq_true _).mp h1)
          have e : Eff.tb t (S.take (i + 1)) = (z, L) := by rw [et, eb]; unfold Eff.tstep; rw [if_pos rfl, if_neg h1']
          exact fin z L H' _ _ _ _ _ e s hl'
      | false =>
        refine iteN rfl ?_
        refine ⟨_, rfl, _, rfl, _, _, rfl, rfl, _, rfl, ite2 (fun h1 => ?_) (fun h1 => ?_)⟩
        · have h1' : n ≤ z := of_decide_eq_true h1
          have e : Eff.tb t (S.take (i + 1)) = (z - 1, L) := by rw [et, eb]; unfold Eff.tstep; rw [if_neg (by simp), if_pos h1']
          refine ⟨_, rfl, _, _, rfl, rfl, ?_⟩
          exact fin (z - 1) L H' _ _ _ _ _ e s hl'
        · have h1' : ¬ n ≤ z := of_decide_eq_false ((Bool.not_eq_true _).mp h1)
          have e : Eff.tb t (S.take (i + 1)) = (z, Eff.insAt L (Tbl.kr L (n - z) - (n - z)) (Tbl.kr L (n - z))) := by rw [et, eb]; unfold Eff.tstep; rw [if_neg (by simp), if_neg h1']
          have kp : Tbl.kr L (n - z) - (n - z) = Tbl.cnt L (Tbl.kr L (n - z)) := Eff.kr_place ok.asc (n - z)
          have c0 := Tbl.cnt_nn L (Tbl.kr L (n - z))
          have c1 := Tbl.cnt_le_len L (Tbl.kr L (n - z))
          have len' : L.length ≤ 20000 := by simp only at len; omega
          refine ⟨_, rfl, _, rfl, _, _, rfl, rfl, ?_⟩
          refine ⟨_, rfl, _, rfl, l, n - z, L, rfl, .inl (SqL.of hl'), ok.asc, ?_⟩
          refine ⟨_, rfl, _, rfl, _, _, rfl, rfl, ?_⟩
          refine ⟨_, rfl, Nat.le_trans (by show 1 ≤ 100000; decide) line_ge, fun q hq => ?_⟩
          have nlq : l ≠ q := fun x => by rw [x, hq] at hl'; cases hl'
          refine ⟨_, rfl, _, rfl, _, rfl, _, rfl, _, rfl, l, q, _, _, _, _, rfl, rfl, rfl, rfl, (upd_ne nlq).trans hl', upd_same, nlq, by omega, Int.le_refl _, by rw [List.length_map]; show _ ≤ ((L.length : Nat) : Int); omega, Nat.le_trans (by rw [List.length_map]; show L.length + 1 ≤ 100000; omega) line_ge, ?_⟩
          refine fin z _ _ _ _ _ _ _ e (same_upd (s.trans (same_new hq)) hl) ?_
          rw [upd_same]
          unfold Eff.insAt
          rw [List.map_append, List.map_append, List.map_take, List.map_drop]
          rfl
    · rintro σ H' ⟨wv, nv, pv, rv, bv, rfl, s, hl'⟩
      rw [hL.length, List.take_length] at hl' ⊢
      have len := Eff.tb_len t S
      refine ⟨_, rfl, _, rfl, ?_⟩
      exact tab_made (.inl (SqL.of hl')) (Eff.tb_ok hg) (by omega) fun r H2 s2 nr tb => k r H2 (s.trans s2) (s.free nr) tb

end
end K15
namespace K15
open PySem L2 XT
section
variable {P : Program} {w : World} {K : PySem.W.Frag} {mg : Str → Option Value} {base : Heap} {a : Ads}
local macro_rules | `(tactic| walk_at "rside") => `(tactic| first | (show (0 : Int) < _; first | decide | omega) | (exact ⟨by first | decide | omega, by first | decide | omega⟩) | (exact Or.inl ⟨by omega, by omega⟩) | (exact Or.inr ⟨by omega, by omega⟩) | (exact ⟨by decide, by decide, by decide⟩))
local macro_rules | `(tactic| walk_at "rd1") => `(tactic| first | (refine ⟨_, rfl, ?_⟩) | (refine ⟨_, _, rfl, rfl, (by walk_at "rside"), ?_⟩) | (refine ⟨_, _, rfl, rfl, ?_⟩))
local macro_rules | `(tactic| walk_at "rd") => `(tactic| repeat (walk_at "rd1"))

/-- is_table_list of tables, neighbors different -/
def AdjNe (Ts : List (Int × List Int)) : Prop := ∀ (i : Nat) p r, Ts[i]? = some p → Ts[i + 1]? = some r → p ≠ r
def spTL (K : PySem.W.Frag) (CT : Addr) : Sp := fun vs H Q _ => ∃ q ts Ts, vs = [.ref q] ∧ (SqL K H q ts ∨ SqT K H q ts) ∧ TbsAt K CT H ts Ts ∧ AdjNe Ts ∧ ts ≠ [] ∧ ts.length ≤ 100000 ∧ ∀ H', Same H H' → Q (.bl true) H'
theorem all_true {n : Nat} {f : Nat → Bool} (h : ∀ i, i < n → f i = true) : (((List.range n).map f).all id) = true := by
  rw [List.all_eq_true]
  intro b hb
  obtain ⟨i, hi, rfl⟩ := List.mem_map.mp hb
  exact h i (List.mem_range.mp hi)
theorem bls (n : Nat) : ((List.range n).map fun _ => V.bl true) = ((List.range n).map fun _ => true).map V.bl := by rw [List.map_map]; rfl
theorem ok_is_table_list (T : Txt K mg a) : FnR P w K mg base CX0 4 a.is_table_list (spTL K a.Table) := by
  obtain ⟨fd, F⟩ := T.F_is_table_list
  refine XT.okR F sc_is_table_list bn_is_table_list (fun vs H Q E h => ?_) (fun cdv A outer s H vs Q E hr h => ?_)
  · obtain ⟨q, ts, Ts, rfl, _⟩ := h
    rfl
  · obtain ⟨q, ts, Ts, rfl, hS, hT, hA, hne, hl, k0⟩ := h
    have G_eq_T := ok_Table___eq__ (P := P) (w := w) (base := base) T
    rcases hS with hS | hS
    · refine ⟨_, (pss_cons (ps_if (PW.pt (pw_or (pt_cmpR (notInTyK K) (pe_callTy (typeK K) (by rfl) T.b_type (by decide +kernel) (pa_cons (pv 0) pa_nil)) (pe_tup (pa_cons (pe_bltn (v := .ty "list") (u := .type "list") (by rfl) T.b_list (by decide +kernel) rfl) (pa_cons (pe_bltn (v := .ty "tuple") (u := .type "tuple") (by rfl) T.b_tuple (by decide +kernel) rfl) pa_nil))) (by rfl)) (pw_or1 (pt_not (pt_val (pe_callB (allK K rfl) (by rfl) T.b_all (by decide +kernel) (pa_cons (pe_lc (own := [("table", 1)])  rfl sc_is_table_list.nd (pi_list (pv 0)) (blkOk_by (N := N_is_table_list) (sc := defScope s_is_table_list) (by decide +kernel)) (fun _ _ _ _ _ => by exact (pg_name (i := 1) sc_is_table_list.nd rfl (Or.inl rfl))) (fun _ _ _ _ _ => by exact pts_nil) (fun _ _ _ _ _ => by exact (pe_cmpR (op_eqCls T.ty_Table hr.units0) (pe_callTy cr_type (by rfl) T.b_type (by decide +kernel) (pa_cons (pv 1) pa_nil)) (pe_glob (v := .ref a.Table) (by rfl) T.g_Table rfl) (nomark _)))) pa_nil))))))) (pss_one (ps_ret pe_bl)) pss_nil)
            (pss_one (ps_ret (pe_callB (allK K rfl) (by rfl) T.b_all (by decide +kernel) (pa_cons (pe_lc (own := [("low", 2), ("high", 3)])  rfl sc_is_table_list.nd (RZ.pi_zipA (by rfl) T.b_zip (pa_cons (pv 0) (pa_cons (pe_slice (slLK K) (pv 0) (po_some pe_int) po_none) pa_nil))) (blkOk_by (N := N_is_table_list) (sc := defScope s_is_table_list) (by decide +kernel)) (fun _ _ _ _ _ => by exact (tupK K (n := 2) (by rfl) (pgs_cons (pg_name (i := 2) sc_is_table_list.nd rfl (Or.inl rfl)) (pgs_cons (pg_name (i := 3) sc_is_table_list.nd rfl (Or.inl rfl)) pgs_nil)))) (fun _ _ _ _ _ => by exact pts_nil) (fun _ _ _ _ _ => by exact (pe_cmpR (op_ownN T.neA_T T.sub_T T.eqA_T T.eqF_T G_eq_T (hr.mono (by decide)) pass0) (pv 2) (pv 3) (nomark _)))) pa_nil))))), ?_⟩
      have hS1 : ∀ q0 o, H q0 = Option.none → SqL K (upd H q0 o) q ts := fun q0 o hq => Same.seq (same_new hq) hS
      refine ⟨_, rfl, _, "list", rfl, TyB.lst hS, by decide, fun q0 hq => ⟨_, q0, ["list", "tuple"], rfl, rfl, SqT.of upd_same, by decide +kernel, by decide +kernel, _, rfl, iteN (by decide +kernel) ?_⟩⟩
      have s0 := same_new (o := .tup [V.ty "list", V.ty "tuple"]) hq
      refine ⟨_, rfl, q, rfl, ⟨ts, hS1 _ _ hq⟩, fun D hD => lcM (stat_list (hS1 _ _ hq)) hD (fun i => .bl true) (Nat.le_trans hl line_ge) ?_ ?_⟩
      · intro i y H2 R hi s px k
        obtain ⟨p1, e1, t1, rfl, tb1⟩ := pd_get hT px
        have b1 := tb1.same (s0.trans s)
        obtain ⟨dx, fs, h1⟩ := b1.insA
        exact ⟨rfl, _, rfl, t1, a.Table, dx, fs, rfl, h1, rfl, rfl, k _ (Same.refl _)⟩
      · intro H2 s hL
        rw [bls] at hL
        refine ⟨D, (List.range _).map (fun _ => true), rfl, SqL.of hL, ?_⟩
        rw [all_true (f := fun _ => true) fun _ _ => rfl]
        refine ⟨_, rfl, iteN rfl ?_⟩
        have s2 := s0.trans s
        have hS2 := Same.seq s2 hS
        clear hL
        refine ⟨_, rfl, _, rfl, _, rfl, q, _, rfl, hS2, fun z hz => ?_⟩
        rw [cut1]
        have s4 := s2.trans (same_new (o := .lst (ts.drop 1)) hz)
        have hS3 : SqL K (upd H2 z (.lst (ts.drop 1))) q ts := s4.seq hS
        have hS4 : SqL K (upd H2 z (.lst (ts.drop 1))) z (ts.drop 1) := SqL.of upd_same
        refine ⟨q, z, _, _, rfl, .inl ⟨hS3, hS4, fun D2 hD2 => lcM (stat_zip hS3 hS4) hD2 (fun i => .bl true) (Nat.le_trans (Nat.min_le_left _ _) (Nat.le_trans hl line_ge)) ?_ ?_⟩⟩
        · rintro i v H3 R hi s3 ⟨U, x, y, rfl, hU, px, py⟩ k
          obtain ⟨p1, e1, t1, rfl, tb1⟩ := pd_get hT px
          rw [List.getElem?_drop] at py
          obtain ⟨p2, e2, t2, rfl, tb2⟩ := pd_get hT (by rw [Nat.add_comm] at py; exact py)
          refine ⟨U, [.ref t1, .ref t2], rfl, SqT.of hU, rfl, .ref t1, [.ref t2], rfl, .ref t2, [], rfl, rfl, rfl, ?_⟩
          have b1 := tb1.same (s4.trans s3)
          have b2 := tb2.same (s4.trans s3)
          refine ⟨_, rfl, _, rfl, t1, t2, rfl, rfl, b1.insA, b2.insA, t1, t2, _, _, _, _, rfl, b1, b2, _, rfl, ?_⟩
          have hne : ¬ (p1.1 = p2.1 ∧ p1.2 = p2.2) := fun z => hA i p1 p2 e1 e2 (Prod.ext z.1 z.2)
          rw [decide_eq_false hne]
          exact k _ (Same.refl _)
        · intro H3 s3 hL
          rw [bls] at hL
          refine ⟨D2, (List.range _).map (fun _ => true), rfl, SqL.of hL, ?_⟩
          rw [all_true (f := fun _ => true) fun _ _ => rfl]
          exact k0 _ (s4.trans s3)
    · refine ⟨_, (pss_cons (ps_if (PW.pt (pw_or (pt_cmpR (notInTyK K) (pe_callTy (typeK K) (by rfl) T.b_type (by decide +kernel) (pa_cons (pv 0) pa_nil)) (pe_tup (pa_cons (pe_bltn (v := .ty "list") (u := .type "list") (by rfl) T.b_list (by decide +kernel) rfl) (pa_cons (pe_bltn (v := .ty "tuple") (u := .type "tuple") (by rfl) T.b_tuple (by decide +kernel) rfl) pa_nil))) (by rfl)) (pw_or1 (pt_not (pt_val (pe_callB (allK K rfl) (by rfl) T.b_all (by decide +kernel) (pa_cons (pe_lc (own := [("table", 1)])  rfl sc_is_table_list.nd (pi_tup (pv 0)) (blkOk_by (N := N_is_table_list) (sc := defScope s_is_table_list) (by decide +kernel)) (fun _ _ _ _ _ => by exact (pg_name (i := 1) sc_is_table_list.nd rfl (Or.inl rfl))) (fun _ _ _ _ _ => by exact pts_nil) (fun _ _ _ _ _ => by exact (pe_cmpR (op_eqCls T.ty_Table hr.units0) (pe_callTy cr_type (by rfl) T.b_type (by decide +kernel) (pa_cons (pv 1) pa_nil)) (pe_glob (v := .ref a.Table) (by rfl) T.g_Table rfl) (nomark _)))) pa_nil))))))) (pss_one (ps_ret pe_bl)) pss_nil)
            (pss_one (ps_ret (pe_callB (allK K rfl) (by rfl) T.b_all (by decide +kernel) (pa_cons (pe_lc (own := [("low", 2), ("high", 3)])  rfl sc_is_table_list.nd (RZ.pi_zipA (by rfl) T.b_zip (pa_cons (pv 0) (pa_cons (pe_slice (slTK K) (pv 0) (po_some pe_int) po_none) pa_nil))) (blkOk_by (N := N_is_table_list) (sc := defScope s_is_table_list) (by decide +kernel)) (fun _ _ _ _ _ => by exact (tupK K (n := 2) (by rfl) (pgs_cons (pg_name (i := 2) sc_is_table_list.nd rfl (Or.inl rfl)) (pgs_cons (pg_name (i := 3) sc_is_table_list.nd rfl (Or.inl rfl)) pgs_nil)))) (fun _ _ _ _ _ => by exact pts_nil) (fun _ _ _ _ _ => by exact (pe_cmpR (op_ownN T.neA_T T.sub_T T.eqA_T T.eqF_T G_eq_T (hr.mono (by decide)) pass0) (pv 2) (pv 3) (nomark _)))) pa_nil))))), ?_⟩
      have hS1 : ∀ q0 o, H q0 = Option.none → SqT K (upd H q0 o) q ts := fun q0 o hq => same_seqT (same_new hq) hS
      refine ⟨_, rfl, _, "tuple", rfl, TyB.tup hS, by decide, fun q0 hq => ⟨_, q0, ["list", "tuple"], rfl, rfl, SqT.of upd_same, by decide +kernel, by decide +kernel, _, rfl, iteN (by decide +kernel) ?_⟩⟩
      have s0 := same_new (o := .tup [V.ty "list", V.ty "tuple"]) hq
      refine ⟨_, rfl, q, rfl, ⟨ts, hS1 _ _ hq⟩, fun D hD => lcM (stat_tup (hS1 _ _ hq)) hD (fun i => .bl true) (Nat.le_trans hl line_ge) ?_ ?_⟩
      · intro i y H2 R hi s px k
        obtain ⟨p1, e1, t1, rfl, tb1⟩ := pd_get hT px
        have b1 := tb1.same (s0.trans s)
        obtain ⟨dx, fs, h1⟩ := b1.insA
        exact ⟨rfl, _, rfl, t1, a.Table, dx, fs, rfl, h1, rfl, rfl, k _ (Same.refl _)⟩
      · intro H2 s hL
        rw [bls] at hL
        refine ⟨D, (List.range _).map (fun _ => true), rfl, SqL.of hL, ?_⟩
        rw [all_true (f := fun _ => true) fun _ _ => rfl]
        refine ⟨_, rfl, iteN rfl ?_⟩
        have s2 := s0.trans s
        have hS2 := same_seqT s2 hS
        clear hL
        refine ⟨_, rfl, _, rfl, _, rfl, q, _, rfl, hS2, fun hw => ?_, fun hw z hz => ?_⟩
        · exfalso
          have h1 := hw.1
          have e1 : HT.sIx ts.length 0 (some 1) = min 1 ts.length := HT.sIx_nat _ 0 1
          rw [e1] at h1
          exact hne (List.length_eq_zero_iff.mp (by omega))
        · rw [cut1]
          have s4 := s2.trans (same_new (o := .tup (ts.drop 1)) hz)
          have hS3 : SqT K (upd H2 z (.tup (ts.drop 1))) q ts := same_seqT s4 hS
          have hS4 : SqT K (upd H2 z (.tup (ts.drop 1))) z (ts.drop 1) := SqT.of upd_same
          refine ⟨q, z, _, _, rfl, .inr ⟨hS3, hS4, fun D2 hD2 => lcM (stat_zipT hS3 hS4) hD2 (fun i => .bl true) (Nat.le_trans (Nat.min_le_left _ _) (Nat.le_trans hl line_ge)) ?_ ?_⟩⟩
          · rintro i v H3 R hi s3 ⟨U, x, y, rfl, hU, px, py⟩ k
            obtain ⟨p1, e1, t1, rfl, tb1⟩ := pd_get hT px
            rw [List.getElem?_drop] at py
            obtain ⟨p2, e2, t2, rfl, tb2⟩ := pd_get hT (by rw [Nat.add_comm] at py; exact py)
            refine ⟨U, [.ref t1, .ref t2], rfl, SqT.of hU, rfl, .ref t1, [.ref t2], rfl, .ref t2, [], rfl, rfl, rfl, ?_⟩
            have b1 := tb1.same (s4.trans s3)
            have b2 := tb2.same (s4.trans s3)
            refine ⟨_, rfl, _, rfl, t1, t2, rfl, rfl, b1.insA, b2.insA, t1, t2, _, _, _, _, rfl, b1, b2, _, rfl, ?_⟩
            have hne : ¬ (p1.1 = p2.1 ∧ p1.2 = p2.2) := fun z => hA i p1 p2 e1 e2 (Prod.ext z.1 z.2)
            rw [decide_eq_false hne]
            exact k _ (Same.refl _)
          · intro H3 s3 hL
            rw [bls] at hL
            refine ⟨D2, (List.range _).map (fun _ => true), rfl, SqL.of hL, ?_⟩
            rw [all_true (f := fun _ => true) fun _ _ => rfl]
            exact k0 _ (s4.trans s3)

/-- Effect.__init__ -/
def spEff0 (K : PySem.W.Frag) (CE CT : Addr) : Sp := fun vs H Q _ => ∃ (e dx b q : Addr) (B : List Int) (ts : List V) (S : List Stp), vs = [.ref e, .ref b, .ref q] ∧ H e = some (.ins CE dx []) ∧ (SqL K H b (B.map V.int) ∨ SqT K H b (B.map V.int)) ∧ (SqL K H q ts ∨ SqT K H q ts) ∧
  TbsAt K CT H ts (Eff.tbs S B) ∧ Eff.Brk S B ∧ (∀ s ∈ S, goodS s = true) ∧ S.length ≤ 20000 ∧ B.length ≤ 20000 ∧ ∀ H', EffAt K CE CT H' e S → But e H H' → Q .non H'
theorem eff_mk {CE CT : Addr} {H1 : Hp} {b q x dx : Addr} {B : List Int} {ts : List V} {S : List Stp} {Q : VK} {E : XK} (nx : H1 x = Option.none) (ndx : H1 dx = Option.none) (ne : dx ≠ x) (hb : SqL K H1 b (B.map V.int) ∨ SqT K H1 b (B.map V.int)) (hq : SqL K H1 q ts ∨ SqT K H1 q ts)
    (ht : TbsAt K CT H1 ts (Eff.tbs S B)) (hB : Eff.Brk S B) (hg : ∀ s ∈ S, goodS s = true) (hz : S.length ≤ 20000) (hz2 : B.length ≤ 20000) (k : ∀ H', Same H1 H' → EffAt K CE CT H' x S → Q .non H') :
    spEff0 K CE CT [.ref x, .ref b, .ref q] (upd (upd H1 dx (.own x)) x (.ins CE dx [])) Q E := by
  have s1 : Same H1 (upd (upd H1 dx (.own x)) x (.ins CE dx [])) := same_upd (same_new ndx) nx
  exact ⟨x, dx, b, q, B, ts, S, rfl, upd_same, hb.imp (fun h => s1.seq h) (fun h => same_seqT s1 h), hq.imp (fun h => s1.seq h) (fun h => same_seqT s1 h), tbs_same ht s1, hB, hg, hz, hz2, fun H' T bt => k H' (fun c o e => bt c o (fun z => by rw [z, nx] at e; cases e) (s1 c o e)) T⟩
theorem eff_made {CE CT : Addr} {H1 : Hp} {b q : Addr} {B : List Int} {ts : List V} {S : List Stp} {Q : VK} {E : XK} (hb : SqL K H1 b (B.map V.int) ∨ SqT K H1 b (B.map V.int)) (hq : SqL K H1 q ts ∨ SqT K H1 q ts) (ht : TbsAt K CT H1 ts (Eff.tbs S B)) (hB : Eff.Brk S B) (hg : ∀ s ∈ S, goodS s = true)
    (hz : S.length ≤ 20000) (hz2 : B.length ≤ 20000) (k : ∀ r H', Same H1 H' → H1 r = Option.none → EffAt K CE CT H' r S → Q (.ref r) H') :
    ∀ x dx, H1 x = Option.none → H1 dx = Option.none → dx ≠ x → spEff0 K CE CT [.ref x, .ref b, .ref q] (upd (upd H1 dx (.own x)) x (.ins CE dx [])) (fun v H2 => v = .non ∧ Q (.ref x) H2) E := by
  intro x dx nx ndx ne
  have s1 : Same H1 (upd (upd H1 dx (.own x)) x (.ins CE dx [])) := same_upd (same_new ndx) nx
  refine ⟨x, dx, b, q, B, ts, S, rfl, upd_same, hb.imp (fun h => s1.seq h) (fun h => same_seqT s1 h), hq.imp (fun h => s1.seq h) (fun h => same_seqT s1 h), tbs_same ht s1, hB, hg, hz, hz2, fun H' T bt => ⟨rfl, k x H' (fun c o e => ?_) nx T⟩⟩
  exact bt c o (fun z => by rw [z, nx] at e; cases e) (s1 c o e)
theorem tup_any {H : Hp} {p : Addr} {ys : List V} {Q : VK} (h : SqL K H p ys ∨ SqT K H p ys) (k : ∀ l H', Same H H' → SqT K H' l ys → Q (.ref l) H') : (SqL K H p ys ∧ ∀ l, H l = Option.none → Q (.ref l) (upd H l (.tup ys))) ∨ (SqT K H p ys ∧ Q (.ref p) H) :=
  h.elim (fun h => .inl ⟨h, fun l hl => k l _ (same_new hl) (SqT.of upd_same)⟩) fun h => .inr ⟨h, k p H (Same.refl H) h⟩
theorem ok_Effect___init__ (T : Txt K mg a) : FnR P w K mg base CX0 6 a.Effect___init__ (spEff0 K a.Effect a.Table) := by
  obtain ⟨fd, F⟩ := T.F_Effect___init__
  refine XT.okR F sc_Effect___init__ bn_Effect___init__ (fun vs H Q E h => ?_) (fun cdv A outer s H vs Q E hr h => ?_)
  · obtain ⟨e, dx, b, q, B, ts, S, rfl, _⟩ := h
    rfl
  · obtain ⟨e, dx, b, q, B, ts, S, rfl, he, hb, hq, hT, hB, hg, hz, hz2, k⟩ := h
    have G_is_ascending := ok_is_ascending (P := P) (w := w) (base := base) T
    have G_is_table_list := ok_is_table_list (P := P) (w := w) (base := base) T
    refine ⟨_, (pss_cons (ps_if (PW.pt (pw_or (pt_not (pt_val (pe_callR G_is_ascending (hr.mono (by decide)) rfl T.g_is_ascending T.k_is_ascending pass0 (pa_cons (pv 1) pa_nil)))) (pw_or (pt_not (pt_val (pe_callR G_is_table_list (hr.mono (by decide)) rfl T.g_is_table_list T.k_is_table_list pass0 (pa_cons (pv 2) pa_nil)))) (pw_or1 (pt_cmpR op_ne (pe_callB (lenK K) (by rfl) T.b_len (by decide +kernel) (pa_cons (pv 2) pa_nil)) (pe_op op_add (pe_callB (lenK K) (by rfl) T.b_len (by decide +kernel) (pa_cons (pv 1) pa_nil)) pe_int) (nomark _)))))) (pss_one ps_never) pss_nil)
      (pss_cons (ps_fld (pv 0) (pe_callTy (tupleK K) (by rfl) T.b_tuple (by decide +kernel) (pa_cons (pv 1) pa_nil)) rfl)
      (pss_one (ps_fld (pv 0) (pe_callTy (tupleK K) (by rfl) T.b_tuple (by decide +kernel) (pa_cons (pv 2) pa_nil)) rfl)))), ?_⟩
    have kv : ∀ y ∈ B.map V.int, XT.KV K H y := fun y hy => by
      obtain ⟨i, _, rfl⟩ := List.mem_map.mp hy
      exact kv_int i
    have hlen : ts.length = B.length + 1 := by rw [hT.length, Eff.tbs_len]
    refine ⟨_, rfl, _, rfl, .inl ⟨B.map V.int, ⟨b, rfl, hb, kv, by rw [List.length_map]; omega⟩, fun H1 s1 => ⟨_, rfl, iteN (by unfold ascV; rw [nums_of, vi_map, decide_eq_true hB.asc]; rfl) ?_⟩⟩⟩
    refine ⟨_, rfl, q, ts, _, rfl, hq.imp (fun h => s1.seq h) (fun h => same_seqT s1 h), tbs_same hT s1, Eff.tbs_adj hB, (fun z => by rw [z] at hlen; simp at hlen), by omega, fun H2 s2 => ⟨_, rfl, iteN rfl ?_⟩⟩
    have s3 := s1.trans s2
    refine ⟨_, rfl, q, ts, rfl, hq.imp (fun h => s3.seq h) (fun h => same_seqT s3 h), _, rfl, b, _, rfl, hb.imp (fun h => s3.seq h) (fun h => same_seqT s3 h), _, _, rfl, rfl, ?_⟩
    refine ⟨rfl, _, rfl, iteN (by simp [hlen]) ?_⟩
    have he2 := s3 _ _ he
    rcases hb with hb | hb
    · refine ⟨_, rfl, b, B.map V.int, rfl, .inl ⟨s3.seq hb, fun l1 hl1 => ?_⟩⟩
      have s4 := same_new (o := .tup (B.map V.int)) hl1
      have h1 : SqT K (upd H2 l1 (.tup (B.map V.int))) l1 (B.map V.int) := SqT.of upd_same
      obtain ⟨H3, e3⟩ : ∃ H3, H3 = upd H2 l1 (.tup (B.map V.int)) := ⟨_, rfl⟩
      rw [← e3] at s4 h1 ⊢
      have s5 := s3.trans s4
      refine ⟨_, rfl, e, a.Effect, dx, _, rfl, s5 _ _ he, T.cl_E, T.n_breaks, (by show 0 < 1000; decide), ?_⟩
      have bt : But e H (upd H3 e (.ins a.Effect dx (putF "_breaks" (.ref l1) []))) := fun c o n x => by rw [upd_ne n]; exact s5 _ _ x
      have h1' : SqT K (upd H3 e (.ins a.Effect dx (putF "_breaks" (.ref l1) []))) l1 (B.map V.int) := but_seqT (s5 _ _ he) (fun c o n x => by rw [upd_ne n]; exact x) h1
      rcases hq with hq | hq
      · refine ⟨_, rfl, q, ts, rfl, .inl ⟨but_seqL he bt hq, fun l2 hl2 => ?_⟩⟩
        have s6 := same_new (o := .tup ts) hl2
        have h2 : SqT K (upd (upd H3 e (.ins a.Effect dx (putF "_breaks" (.ref l1) []))) l2 (.tup ts)) l2 ts := SqT.of upd_same
        obtain ⟨H4, e4⟩ : ∃ H4, H4 = upd (upd H3 e (.ins a.Effect dx (putF "_breaks" (.ref l1) []))) l2 (.tup ts) := ⟨_, rfl⟩
        rw [← e4] at s6 h2 ⊢
        refine ⟨_, rfl, e, a.Effect, dx, _, rfl, s6 _ _ upd_same, T.cl_E, T.n_tables, (by show 1 < 1000; decide), ?_⟩
        have he3 : (upd H3 e (.ins a.Effect dx (putF "_breaks" (.ref l1) []))) e = some (.ins a.Effect dx (putF "_breaks" (.ref l1) [])) := upd_same
        have he4 := s6 _ _ he3
        have bt2 : But e H (upd H4 e (.ins a.Effect dx (efl l1 l2))) := fun c o n x => by rw [upd_ne n]; exact s6 _ _ (bt c o n x)
        have bt3 : But e H4 (upd H4 e (.ins a.Effect dx (efl l1 l2))) := fun c o n x => by rw [upd_ne n]; exact x
        exact k _ ⟨dx, l1, l2, B, ts, upd_same, but_seqT he4 bt3 (same_seqT s6 h1'), but_seqT he4 bt3 h2, tbs_but he bt2 hT, hB, hg, hz, hz2⟩ bt2
      · refine ⟨_, rfl, q, ts, rfl, .inr ⟨but_seqT he bt hq, ?_⟩⟩
        obtain ⟨H4, e4⟩ : ∃ H4, H4 = upd H3 e (.ins a.Effect dx (putF "_breaks" (.ref l1) [])) := ⟨_, rfl⟩
        have s6 : Same (upd H3 e (.ins a.Effect dx (putF "_breaks" (.ref l1) []))) H4 := by rw [e4]; exact Same.refl _
        have h2 : SqT K H4 q ts := by rw [e4]; exact but_seqT he bt hq
        rw [← e4]
        obtain ⟨l2, e5⟩ : ∃ l2, l2 = q := ⟨_, rfl⟩
        rw [← e5] at h2 ⊢
        refine ⟨_, rfl, e, a.Effect, dx, _, rfl, s6 _ _ upd_same, T.cl_E, T.n_tables, (by show 1 < 1000; decide), ?_⟩
        have he3 : (upd H3 e (.ins a.Effect dx (putF "_breaks" (.ref l1) []))) e = some (.ins a.Effect dx (putF "_breaks" (.ref l1) [])) := upd_same
        have he4 := s6 _ _ he3
        have bt2 : But e H (upd H4 e (.ins a.Effect dx (efl l1 l2))) := fun c o n x => by rw [upd_ne n]; exact s6 _ _ (bt c o n x)
        have bt3 : But e H4 (upd H4 e (.ins a.Effect dx (efl l1 l2))) := fun c o n x => by rw [upd_ne n]; exact x
        exact k _ ⟨dx, l1, l2, B, ts, upd_same, but_seqT he4 bt3 (same_seqT s6 h1'), but_seqT he4 bt3 h2, tbs_but he bt2 hT, hB, hg, hz, hz2⟩ bt2
    · refine ⟨_, rfl, b, B.map V.int, rfl, .inr ⟨same_seqT s3 hb, ?_⟩⟩
      obtain ⟨l1, e3⟩ : ∃ l1, l1 = b := ⟨_, rfl⟩
      obtain ⟨H3, e4⟩ : ∃ H3, H3 = H2 := ⟨_, rfl⟩
      have s4 : Same H2 H3 := by rw [e4]; exact Same.refl _
      have h1 : SqT K H3 l1 (B.map V.int) := by rw [e3, e4]; exact same_seqT s3 hb
      rw [← e3, ← e4]
      have s5 := s3.trans s4
      refine ⟨_, rfl, e, a.Effect, dx, _, rfl, s5 _ _ he, T.cl_E, T.n_breaks, (by show 0 < 1000; decide), ?_⟩
      have bt : But e H (upd H3 e (.ins a.Effect dx (putF "_breaks" (.ref l1) []))) := fun c o n x => by rw [upd_ne n]; exact s5 _ _ x
      have h1' : SqT K (upd H3 e (.ins a.Effect dx (putF "_breaks" (.ref l1) []))) l1 (B.map V.int) := but_seqT (s5 _ _ he) (fun c o n x => by rw [upd_ne n]; exact x) h1
      rcases hq with hq | hq
      · refine ⟨_, rfl, q, ts, rfl, .inl ⟨but_seqL he bt hq, fun l2 hl2 => ?_⟩⟩
        have s6 := same_new (o := .tup ts) hl2
        have h2 : SqT K (upd (upd H3 e (.ins a.Effect dx (putF "_breaks" (.ref l1) []))) l2 (.tup ts)) l2 ts := SqT.of upd_same
        obtain ⟨H4, e6⟩ : ∃ H4, H4 = upd (upd H3 e (.ins a.Effect dx (putF "_breaks" (.ref l1) []))) l2 (.tup ts) := ⟨_, rfl⟩
        rw [← e6] at s6 h2 ⊢
        refine ⟨_, rfl, e, a.Effect, dx, _, rfl, s6 _ _ upd_same, T.cl_E, T.n_tables, (by show 1 < 1000; decide), ?_⟩
        have he3 : (upd H3 e (.ins a.Effect dx (putF "_breaks" (.ref l1) []))) e = some (.ins a.Effect dx (putF "_breaks" (.ref l1) [])) := upd_same
        have he6 := s6 _ _ he3
        have bt2 : But e H (upd H4 e (.ins a.Effect dx (efl l1 l2))) := fun c o n x => by rw [upd_ne n]; exact s6 _ _ (bt c o n x)
        have bt3 : But e H4 (upd H4 e (.ins a.Effect dx (efl l1 l2))) := fun c o n x => by rw [upd_ne n]; exact x
        exact k _ ⟨dx, l1, l2, B, ts, upd_same, but_seqT he6 bt3 (same_seqT s6 h1'), but_seqT he6 bt3 h2, tbs_but he bt2 hT, hB, hg, hz, hz2⟩ bt2
      · refine ⟨_, rfl, q, ts, rfl, .inr ⟨but_seqT he bt hq, ?_⟩⟩
        obtain ⟨H4, e6⟩ : ∃ H4, H4 = upd H3 e (.ins a.Effect dx (putF "_breaks" (.ref l1) [])) := ⟨_, rfl⟩
        have s6 : Same (upd H3 e (.ins a.Effect dx (putF "_breaks" (.ref l1) []))) H4 := by rw [e6]; exact Same.refl _
        have h2 : SqT K H4 q ts := by rw [e6]; exact but_seqT he bt hq
        rw [← e6]
        obtain ⟨l2, e5⟩ : ∃ l2, l2 = q := ⟨_, rfl⟩
        rw [← e5] at h2 ⊢
        refine ⟨_, rfl, e, a.Effect, dx, _, rfl, s6 _ _ upd_same, T.cl_E, T.n_tables, (by show 1 < 1000; decide), ?_⟩
        have he3 : (upd H3 e (.ins a.Effect dx (putF "_breaks" (.ref l1) []))) e = some (.ins a.Effect dx (putF "_breaks" (.ref l1) [])) := upd_same
        have he6 := s6 _ _ he3
        have bt2 : But e H (upd H4 e (.ins a.Effect dx (efl l1 l2))) := fun c o n x => by rw [upd_ne n]; exact s6 _ _ (bt c o n x)
        have bt3 : But e H4 (upd H4 e (.ins a.Effect dx (efl l1 l2))) := fun c o n x => by rw [upd_ne n]; exact x
        exact k _ ⟨dx, l1, l2, B, ts, upd_same, but_seqT he6 bt3 (same_seqT s6 h1'), but_seqT he6 bt3 h2, tbs_but he bt2 hT, hB, hg, hz, hz2⟩ bt2

end
end K15
namespace K15
open PySem L2 XT
section
variable {P : Program} {w : World} {K : PySem.W.Frag} {mg : Str → Option Value} {base : Heap} {a : Ads}
local macro_rules | `(tactic| walk_at "rside") => `(tactic| first | (show (0 : Int) < _; first | decide | omega) | (exact ⟨by first | decide | omega, by first | decide | omega⟩) | (exact Or.inl ⟨by omega, by omega⟩) | (exact Or.inr ⟨by omega, by omega⟩) | (exact ⟨by decide, by decide, by decide⟩))
local macro_rules | `(tactic| walk_at "rd1") => `(tactic| first | (refine ⟨_, rfl, ?_⟩) | (refine ⟨_, _, rfl, rfl, (by walk_at "rside"), ?_⟩) | (refine ⟨_, _, rfl, rfl, ?_⟩))
local macro_rules | `(tactic| walk_at "rd") => `(tactic| repeat (walk_at "rd1"))

def spBreaks (K : PySem.W.Frag) (CE CT : Addr) : Sp := fun vs H Q _ => ∃ e S, vs = [.ref e] ∧ EffAt K CE CT H e S ∧ ∀ p B, SqT K H p (B.map V.int) → Eff.Brk S B → B.length ≤ 20000 → Q (.ref p) H
def spTables (K : PySem.W.Frag) (CE CT : Addr) : Sp := fun vs H Q _ => ∃ e S, vs = [.ref e] ∧ EffAt K CE CT H e S ∧ ∀ q B ts, SqT K H q ts → TbsAt K CT H ts (Eff.tbs S B) → Eff.Brk S B → B.length ≤ 20000 → Q (.ref q) H
def spNeed (K : PySem.W.Frag) (CE CT : Addr) (f : List Stp → Int) : Sp := fun vs H Q _ => ∃ e S, vs = [.ref e] ∧ EffAt K CE CT H e S ∧ Q (.int (f S)) H
def spTable (K : PySem.W.Frag) (CE CT : Addr) : Sp := fun vs H Q _ => ∃ e S t, vs = [.ref e, .int t] ∧ EffAt K CE CT H e S ∧ ∀ r, TabAt K CT H r (Eff.tb t S).1 (Eff.tb t S).2 → Q (.ref r) H
def spEqEf (K : PySem.W.Frag) (CE CT : Addr) : Sp := fun vs H Q _ => ∃ e f S R, vs = [.ref e, .ref f] ∧ EffAt K CE CT H e S ∧ EffAt K CE CT H f R ∧ ∀ b, (b = true ↔ ∀ t, Eff.tb t S = Eff.tb t R) → ∀ H', Same H H' → Q (.bl b) H'
theorem ts_last {C : Addr} {H : Hp} {ts : List V} {S : List Stp} {B : List Int} (hT : TbsAt K C H ts (Eff.tbs S B)) (hB : Eff.Brk S B) : ∃ r us, ts = us ++ [.ref r] ∧ TabAt K C H r (Eff.tb (Eff.topOf S) S).1 (Eff.tb (Eff.topOf S) S).2 := by
  have hl : ts.length = B.length + 1 := by rw [hT.length, Eff.tbs_len]
  have hi : B.length < ts.length := by omega
  obtain ⟨p, hp, r, e, tb⟩ := pd_get hT (List.getElem?_eq_getElem hi)
  rw [Eff.tbs_last hB] at hp
  cases hp
  refine ⟨r, ts.dropLast, ?_, tb⟩
  have ne : ts ≠ [] := fun z => by rw [z] at hl; simp at hl
  have h2 := List.dropLast_concat_getLast ne
  have hh : ts.length - 1 = B.length := by omega
  have h3 : ts.getLast ne = .ref r := by
    rw [List.getLast_eq_getElem]
    simp only [hh]
    exact e
  rw [h3] at h2
  exact h2.symm
theorem ok_Effect_breaks (T : Txt K mg a) : FnR P w K mg base CX0 1 a.Effect_breaks (spBreaks K a.Effect a.Table) := by
  obtain ⟨fd, F⟩ := T.F_Effect_breaks
  refine XT.okR F sc_Effect_breaks bn_Effect_breaks (fun vs H Q E h => ?_) (fun cdv A outer s H vs Q E hr h => ?_)
  · obtain ⟨e, S, rfl, _⟩ := h
    rfl
  · obtain ⟨e, S, rfl, ⟨dx, p, q, B, ts, he, hp, hq, hT, hB, hg, hz, hz2⟩, k⟩ := h
    exact ⟨_, (pss_one (ps_ret (fldK K (pv 0) rfl))), _, rfl, e, a.Effect, dx, _, _, rfl, he, T.cl_E, T.n_breaks, efl_breaks _ _, k p B hp hB hz2⟩

theorem ok_Effect_tables (T : Txt K mg a) : FnR P w K mg base CX0 1 a.Effect_tables (spTables K a.Effect a.Table) := by
  obtain ⟨fd, F⟩ := T.F_Effect_tables
  refine XT.okR F sc_Effect_tables bn_Effect_tables (fun vs H Q E h => ?_) (fun cdv A outer s H vs Q E hr h => ?_)
  · obtain ⟨e, S, rfl, _⟩ := h
    rfl
  · obtain ⟨e, S, rfl, ⟨dx, p, q, B, ts, he, hp, hq, hT, hB, hg, hz, hz2⟩, k⟩ := h
    exact ⟨_, (pss_one (ps_ret (fldK K (pv 0) rfl))), _, rfl, e, a.Effect, dx, _, _, rfl, he, T.cl_E, T.n_tables, efl_tables _ _, k q B ts hq hT hB hz2⟩

theorem ok_Effect_need (T : Txt K mg a) : FnR P w K mg base CX0 3 a.Effect_need (spNeed K a.Effect a.Table Eff.need) := by
  obtain ⟨fd, F⟩ := T.F_Effect_need
  refine XT.okR F sc_Effect_need bn_Effect_need (fun vs H Q E h => ?_) (fun cdv A outer s H vs Q E hr h => ?_)
  · obtain ⟨e, S, rfl, _⟩ := h
    rfl
  · obtain ⟨e, S, rfl, ⟨dx, p, q, B, ts, he, hp, hq, hT, hB, hg, hz, hz2⟩, k⟩ := h
    have G_lost := ok_Table_lost (P := P) (w := w) (base := base) T
    refine ⟨_, (pss_cons (ps_set (i := 1) sc_Effect_need.nd rfl (Or.inl rfl) (pe_propR (pe_ix (ixTK K) (fldK K (pv 0) rfl) (pe_un un_neg pe_int) (fun _ _ => rfl)) T.cl_T T.p_lost G_lost (hr.mono (by decide)) pass0 rfl))
      (pss_one (ps_ret (pe_ifExp (pt_truth (pv 1) (fun _ => rfl)) (pe_ix (ixTK K) (pv 1) (pe_un un_neg pe_int) (fun _ _ => rfl)) pe_int)))), ?_⟩
    obtain ⟨r, us, e0, tb⟩ := ts_last hT hB
    obtain ⟨dy, fs, hr⟩ := tb.insA
    refine ⟨_, rfl, e, a.Effect, dx, _, _, rfl, he, T.cl_E, T.n_tables, efl_tables _ _, 1, rfl, q, ts, -1, .ref r, rfl, rfl, hq, by rw [e0]; exact atI_last us _, r, dy, fs, rfl, hr, r, _, _, rfl, tb, fun l hl => ?_⟩
    refine ⟨_, rfl, _, .inr (.inl ⟨_, hl, rfl⟩), ?_⟩
    unfold Eff.need at k
    generalize (Eff.tb (Eff.topOf S) S).2 = L at hl k ⊢
    cases hL : L.getLast? with
    | none =>
      rw [List.getLast?_eq_none_iff] at hL
      subst hL
      exact iteN rfl k
    | some x =>
      obtain ⟨M', rfl⟩ := List.getLast?_eq_some_iff.mp hL
      refine iteH (by cases M' <;> rfl) ?_
      refine ⟨_, rfl, 1, rfl, l, _, -1, .int x, rfl, rfl, hl, ?_, ?_⟩
      · rw [List.map_append]
        exact atI_last _ _
      · have : Eff.needL (M' ++ [x]) = x := by unfold Eff.needL; simp
        rw [this] at k
        exact k

theorem ok_Effect_table (T : Txt K mg a) : FnR P w K mg base CX0 3 a.Effect_table (spTable K a.Effect a.Table) := by
  obtain ⟨fd, F⟩ := T.F_Effect_table
  refine XT.okR F sc_Effect_table bn_Effect_table (fun vs H Q E h => ?_) (fun cdv A outer s H vs Q E hr h => ?_)
  · obtain ⟨e, S, t, rfl, _⟩ := h
    rfl
  · obtain ⟨e, S, t, rfl, ⟨dx, p, q, B, ts, he, hp, hq, hT, hB, hg, hz, hz2⟩, k⟩ := h
    have G_is_integer := ok_is_integer (P := P) (w := w) (base := base) T
    have G_table_at := ok_table_at (P := P) (w := w) (base := base) T
    refine ⟨_, (pss_cons (ps_if (pt_not (pt_val (pe_callR G_is_integer (hr.mono (by decide)) rfl T.g_is_integer T.k_is_integer pass0 (pa_cons (pv 1) pa_nil)))) (pss_one ps_never) pss_nil)
      (pss_one (ps_ret (pe_callR G_table_at (hr.mono (by decide)) rfl T.g_table_at T.k_table_at pass0 (pa_cons (fldK K (pv 0) rfl) (pa_cons (fldK K (pv 0) rfl) (pa_cons (pv 1) pa_nil))))))), ?_⟩
    refine ⟨_, rfl, _, rfl, kv_int t, _, rfl, iteN rfl ?_⟩
    obtain ⟨x, hx, r, e1, tb⟩ := pd_get' hT (Eff.tbs_at hB t)
    subst e1
    exact ⟨_, rfl, e, a.Effect, dx, _, _, rfl, he, T.cl_E, T.n_breaks, efl_breaks _ _, _, rfl, e, a.Effect, dx, _, _, rfl, he, T.cl_E, T.n_tables, efl_tables _ _, _, rfl, p, q, t, B, ts, .ref r, rfl, hp, hB.asc, hq, hx, k r tb⟩

/-- Effect.of -/
def spOf (K : PySem.W.Frag) (CE CT CS : Addr) : Sp := fun vs H Q _ => ∃ s S, vs = [.ref CE, .ref s] ∧ SqcAt K CS H s S ∧ S.length ≤ 3000 ∧ ∀ r H', Same H H' → H r = Option.none → EffAt K CE CT H' r S → Q (.ref r) H'
theorem out_ins (S : List Stp) : outs (fun i => (S[i]?).bind fun s => if s.1 = true then some (V.int s.2) else Option.none) S.length = (Eff.ins S).map V.int := by
  have : ∀ n, n ≤ S.length → outs (fun i => (S[i]?).bind fun s => if s.1 = true then some (V.int s.2) else Option.none) n = (Eff.ins (S.take n)).map V.int := by
    intro n
    induction n with
    | zero => intro _; rfl
    | succ n ih =>
      intro h
      have e : S[n]? = some S[n] := by simp
      rw [outs_succ, ih (by omega), List.take_add_one, e]
      unfold Eff.ins
      rw [List.filterMap_append, List.map_append]
      congr 1
      by_cases c : (S[n]).1 = true
      · simp [c]
      · simp [c]
  rw [this _ (Nat.le_refl _), List.take_length]
theorem tbR_lst {C D : Addr} {H : Hp} {x : V} {p : Int × List Int} {xs ys : List V} (hD : H D = some (.lst xs)) (h : TbR K C H x p) : TbR K C (upd H D (.lst ys)) x p := let ⟨t, e, z⟩ := h; ⟨t, e, tab_lst hD z⟩
theorem pd_of {α β : Type} {R : α → β → Prop} : ∀ {xs : List α} {ys : List β}, xs.length = ys.length → (∀ (i : Nat) (x : α) (y : β), xs[i]? = some x → ys[i]? = some y → R x y) → Paired R xs ys
  | [], [], _, _ => .nil
  | x :: xs, y :: ys, h, k => .cons (k 0 x y rfl rfl) (pd_of (by simpa using h) fun i a b h1 h2 => k (i + 1) a b (by simpa using h1) (by simpa using h2))
  | [], y :: ys, h, _ => by simp at h
  | x :: xs, [], h, _ => by simp at h
theorem ok_Effect_of (T : Txt K mg a) : FnR P w K mg base CX0 10 a.Effect_of (spOf K a.Effect a.Table a.Sequence) := by
  obtain ⟨fd, F⟩ := T.F_Effect_of
  refine XT.okR F sc_Effect_of bn_Effect_of (fun vs H Q E h => ?_) (fun cdv A outer s H vs Q E hr h => ?_)
  · obtain ⟨s0, S, rfl, _⟩ := h
    rfl
  · obtain ⟨s0, S, rfl, hS0, hz, k⟩ := h
    have G_steps := ok_Sequence_steps (P := P) (w := w) (base := base) T
    have G_below_all := ok_below_all (P := P) (w := w) (base := base) T
    have G_table_of := ok_table_of (P := P) (w := w) (base := base) T
    have G_Effect_init := ok_Effect___init__ (P := P) (w := w) (base := base) T
    refine ⟨_, (pss_cons (ps_set (i := 2) sc_Effect_of.nd rfl (Or.inr rfl) (pe_propR (pv 1) T.cl_S T.p_steps G_steps (hr.mono (by decide)) pass0 rfl))
      (pss_cons (ps_set (i := 3) sc_Effect_of.nd rfl (Or.inl rfl) (pe_callB (sortSK w rfl) (by rfl) T.b_sorted (by decide +kernel) (pa_cons (pe_callTy (setLK K w rfl) (by rfl) T.b_set (by decide +kernel) (pa_cons (pe_lc (own := [("word", 4), ("number", 5)])  rfl sc_Effect_of.nd (pi_tup (pv 2)) (blkOk_by (N := N_Effect_of) (sc := defScope s_Effect_of) (by decide +kernel)) (fun _ _ _ _ _ => by exact (tupK K (n := 2) (by rfl) (pgs_cons (pg_name (i := 4) sc_Effect_of.nd rfl (Or.inl rfl)) (pgs_cons (pg_name (i := 5) sc_Effect_of.nd rfl (Or.inl rfl)) pgs_nil)))) (fun _ _ _ _ _ => by exact pts_one (pt_cmpR op_eq (pv 4) pe_str (nomark _))) (fun _ _ _ _ _ => by exact (pv 5))) pa_nil)) pa_nil)))
      (pss_cons (ps_set (i := 6) sc_Effect_of.nd rfl (Or.inl rfl) (pe_lst (pa_cons (pe_callR G_below_all (hr.mono (by decide)) rfl T.g_below_all T.k_below_all pass0 (pa_cons (pv 3) pa_nil)) (starK K (StX.pa_star (pv 3) pa_nil)))))
      (pss_one (ps_ret (pe_makeL (i := 0) T.M_Effect G_Effect_init (hr.mono (by decide)) rfl (Or.inl rfl) pass0 (pa_cons (pv 3) (pa_cons (pe_lc (own := [("threshold", 7)])  rfl sc_Effect_of.nd (pi_list (pv 6)) (blkOk_by (N := N_Effect_of) (sc := defScope s_Effect_of) (by decide +kernel)) (fun _ _ _ _ _ => by exact (pg_name (i := 7) sc_Effect_of.nd rfl (Or.inl rfl))) (fun _ _ _ _ _ => by exact pts_nil) (fun _ _ _ _ _ => by exact (pe_callR G_table_of (hr.mono (by decide)) rfl T.g_table_of T.k_table_of pass0 (pa_cons (pv 2) (pa_cons (pv 7) pa_nil))))) pa_nil)))))))), ?_⟩
    have hg := hS0.good
    obtain ⟨dy, fs, hs⟩ := hS0.insA
    refine ⟨_, rfl, s0, dy, fs, rfl, hs, s0, S, rfl, hS0, fun p xs hS hL => ?_⟩
    have hxl := hL.length
    refine ⟨_, rfl, p, rfl, ⟨_, hS⟩, fun D hD => lcG (stat_tup hS) hD (fun i => (S[i]?).bind fun s => if s.1 = true then some (V.int s.2) else Option.none) (Nat.le_trans (show xs.length ≤ 100000 by omega) line_ge) ?_ ?_⟩
    · intro i x H2 R hi s px kk
      obtain ⟨⟨b, n⟩, hst, r, rfl, hr⟩ := pd_get hL px
      have hk := kk H2 (Same.refl H2)
      rw [hst] at hk
      have hk' : R (if b = true then some (V.int n) else Option.none) H2 := hk
      refine ⟨r, _, rfl, same_seqT s hr, rfl, _, _, rfl, _, _, rfl, rfl, rfl, ?_⟩
      refine ⟨_, rfl, rfl, _, rfl, ?_⟩
      rw [wrd_ins]
      cases b with
      | true => exact iteH rfl ⟨_, rfl, hk'⟩
      | false => exact iteN rfl hk'
    intro H2 s2 hD2
    rw [hxl, out_ins] at hD2
    have il := Eff.ins_len S
    refine ⟨D, _, rfl, SqL.of hD2, by omega, fun c n hc hn => ?_⟩
    refine ⟨c, _, n, rfl, upd_same, by omega, fun B r asc mem len hr => ?_⟩
    have hB : Eff.Brk S B := ⟨asc, fun x => by rw [mem x, decide_eq_true_eq, Eff.mem_ins]⟩
    have s3 := (s2.trans (same_new (o := SetO w c (fun j => decide (j ∈ Eff.ins S)) n) hc)).trans (same_new (o := .lst (B.map V.int)) hr)
    have hBl : B.length ≤ 3000 := by omega
    have hr1 : (upd (upd H2 c (SetO w c (fun j => decide (j ∈ Eff.ins S)) n)) r (.lst (B.map V.int))) r = some (.lst (B.map V.int)) := upd_same
    generalize hH3 : upd (upd H2 c (SetO w c (fun j => decide (j ∈ Eff.ins S)) n)) r (.lst (B.map V.int)) = H3 at s3 hr1 ⊢
    refine ⟨_, rfl, r, B, rfl, SqL.of hr1, ?_⟩
    refine ⟨_, rfl, r, _, rfl, .inr (SqL.of hr1), ?_⟩
    refine ⟨by show ([V.int (Eff.low B)] ++ (B.map V.int ++ [])).length ≤ sizeLine; exact Nat.le_trans (by simp; omega) line_ge, fun t ht => ?_⟩
    have e0 : [V.int (Eff.low B)] ++ (B.map V.int ++ []) = (Eff.thr B).map V.int := by simp [Eff.thr]
    have s4 := s3.trans (same_new (o := .lst ((Eff.thr B).map V.int)) ht)
    have ht1 : (upd H3 t (.lst ((Eff.thr B).map V.int))) t = some (.lst ((Eff.thr B).map V.int)) := upd_same
    have hr2 : (upd H3 t (.lst ((Eff.thr B).map V.int))) r = some (.lst (B.map V.int)) := same_new ht _ _ hr1
    show gName _ _ _ (upd H3 t (.lst ([V.int (Eff.low B)] ++ (B.map V.int ++ [])))) _
    rw [e0]
    generalize hH4 : upd H3 t (.lst ((Eff.thr B).map V.int)) = H4 at s4 ht1 hr2 ⊢
    refine ⟨rfl, _, rfl, _, rfl, t, rfl, ⟨_, SqL.of ht1⟩, fun D2 hD2 => lcR (stat_list (SqL.of ht1)) hD2 (fun i y H => ∀ u, (Eff.thr B)[i]? = some u → TbR K a.Table H y (Eff.tb u S)) (fun i y H H' s r u hu => let ⟨t, e, z⟩ := r u hu; ⟨t, e, z.same s⟩) (fun i y H x1 x2 hD r u hu => tbR_lst hD (r u hu)) ?_ ?_ ?_⟩
    · rw [List.length_map]
      exact Nat.le_trans (show (Eff.thr B).length ≤ 100000 by simp [Eff.thr]; omega) line_ge
    · intro i x H5 R hi s px kk
      rw [List.getElem?_map] at px
      obtain ⟨u, hu, rfl⟩ := Option.map_eq_some_iff.mp px
      have s5 := s4.trans s
      refine ⟨rfl, _, rfl, _, rfl, p, u, xs, S, rfl, same_seqT s5 hS, sts_same hL s5, hg, by omega, fun r' H6 s6 nr tb => ?_⟩
      refine kk _ H6 s6 fun u' hu' => ?_
      rw [hu] at hu'
      cases hu'
      exact ⟨r', rfl, tb⟩
    · intro H5 acc s5 hlen hacc hD5
      rw [List.length_map] at hlen
      have hT : TbsAt K a.Table H5 acc (Eff.tbs S B) := pd_of (by rw [hlen]; simp [Eff.tbs]) fun i x y h1 h2 => by
        unfold Eff.tbs at h2
        rw [List.getElem?_map] at h2
        obtain ⟨u, hu, rfl⟩ := Option.map_eq_some_iff.mp h2
        exact hacc i x h1 u hu
      have s6 := s4.trans s5
      exact eff_made (.inl (SqL.of (s5 _ _ hr2))) (.inl (SqL.of hD5)) hT hB hg (by omega) (by omega) fun r' H7 s7 n7 ef => k r' H7 (s6.trans s7) (s6.free n7) ef

def spNothing (K : PySem.W.Frag) (CE CT : Addr) : Sp := fun vs H Q _ => vs = [.ref CE] ∧ ∀ r H', Same H H' → H r = Option.none → EffAt K CE CT H' r [] → Q (.ref r) H'
end
end K15
namespace K15
open PySem L2 XT
section
variable {P : Program} {w : World} {K : PySem.W.Frag} {mg : Str → Option Value} {base : Heap} {a : Ads}
local macro_rules | `(tactic| walk_at "rside") => `(tactic| first | (show (0 : Int) < _; first | decide | omega) | (exact ⟨by first | decide | omega, by first | decide | omega⟩) | (exact Or.inl ⟨by omega, by omega⟩) | (exact Or.inr ⟨by omega, by omega⟩) | (exact ⟨by decide, by decide, by decide⟩))
local macro_rules | `(tactic| walk_at "rd1") => `(tactic| first | (refine ⟨_, rfl, ?_⟩) | (refine ⟨_, _, rfl, rfl, (by walk_at "rside"), ?_⟩) | (refine ⟨_, _, rfl, rfl, ?_⟩))
local macro_rules | `(tactic| walk_at "rd") => `(tactic| repeat (walk_at "rd1"))

theorem pick_four {c0 c1 c2 c3 r : Int} (h0 : 0 ≤ r) (h1 : r < 4) : ∃ z, atI ([V.int c0, V.int c1, V.int c2, V.int c3] : List V) r = some (.int z) ∧ (z = c0 ∨ z = c1 ∨ z = c2 ∨ z = c3) := by
  have : r = 0 ∨ r = 1 ∨ r = 2 ∨ r = 3 := by omega
  rcases this with rfl | rfl | rfl | rfl
  · exact ⟨_, rfl, .inl rfl⟩
  · exact ⟨_, rfl, .inr (.inl rfl)⟩
  · exact ⟨_, rfl, .inr (.inr (.inl rfl))⟩
  · exact ⟨_, rfl, .inr (.inr (.inr rfl))⟩
theorem pool_but {H H' : Hp} {p q : Addr} {o : HO} (h : PoolAt H p) (n : H q = Option.none) (e : H' = upd H q o) : PoolAt H' p := by
  obtain ⟨x, y, a, b⟩ := h
  have : p ≠ q := fun z => by rw [z, n] at a; cases a
  exact ⟨x, y, by rw [e, upd_ne this]; exact a, b⟩
theorem pool_same {H H' : Hp} {p : Addr} (h : PoolAt H p) (e : Same H H') : PoolAt H' p := let ⟨x, y, a, b⟩ := h; ⟨x, y, e _ _ a, b⟩
theorem pool_ne {H : Hp} {p q : Addr} (h : PoolAt H p) (n : H q = Option.none) : q ≠ p := fun z => by
  obtain ⟨x, y, a, _⟩ := h
  rw [z, a] at n
  cases n
/-- tuples stay -/
def Kt (K : PySem.W.Frag) (H H' : Hp) : Prop := ∀ r ys, SqT K H r ys → SqT K H' r ys
theorem Kt.trans {H H1 H2 : Hp} (h : Kt K H H1) (k : Kt K H1 H2) : Kt K H H2 := fun r ys z => k r ys (h r ys z)
theorem kt_same {H H' : Hp} (h : Same H H') : Kt K H H' := fun r ys z => same_seqT h z
theorem kt_upd {H : Hp} {l : Addr} {zs : List V} {o : HO} (hl : H l = some (.lst zs)) : Kt K H (upd H l o) := fun r ys z => by
  rcases z with (z | ⟨ob, z⟩) | z
  · exact .inl (.inl (by rw [upd_ne (fun q => by rw [q, hl] at z; cases z)]; exact z))
  · exact .inl (.inr ⟨ob, by rw [upd_ne (fun q => by rw [q, hl] at z; cases z)]; exact z⟩)
  · exact .inr z
theorem kt_but {H H' : Hp} {p : Addr} (hp : PoolAt H p) (b : But p H H') : Kt K H H' := fun r ys z => by
  obtain ⟨x, y, a, _⟩ := hp
  rcases z with (z | ⟨ob, z⟩) | z
  · exact .inl (.inl (b _ _ (fun q => by rw [q, a] at z; cases z) z))
  · exact .inl (.inr ⟨ob, b _ _ (fun q => by rw [q, a] at z; cases z) z⟩)
  · exact .inr z
theorem sts_kt {H H' : Hp} {xs : List V} {L : List Stp} (h : StsAt K H xs L) (k : Kt K H H') : StsAt K H' xs L := L2.Paired.mapP h fun _ _ ⟨r, e, z⟩ => ⟨r, e, k _ _ z⟩
theorem sqc_but {C : Addr} {H H' : Hp} {t p : Addr} {L : List Stp} (h : SqcAt K C H t L) (hp : PoolAt H p) (b : But p H H') : SqcAt K C H' t L := by
  obtain ⟨dx, q, xs, h1, h2, h3, h4⟩ := h
  have n : t ≠ p := fun z => by
    obtain ⟨x, y, e, _⟩ := hp
    rw [z, e] at h1
    cases h1
  exact ⟨dx, q, xs, b _ _ n h1, kt_but hp b _ _ h2, sts_kt h3 (kt_but hp b), h4⟩
/-- the steps of a law -/
structure LSt (L : List Stp) : Prop where
  good : ∀ s ∈ L, goodS s = true
  sm : ∀ s ∈ L, -2 ≤ s.2 ∧ s.2 ≤ 14
  ev : ∀ s ∈ L, s.1 = true → s.2 % 2 = 0
def spLSteps (K : PySem.W.Frag) : Sp := fun vs H Q _ => ∃ (p : Addr) (m : Int), vs = [.ref p, .int m] ∧ PoolAt H p ∧ 0 ≤ m ∧ m ≤ 100 ∧
  ∀ l xs L H', But p H H' → PoolAt H' p → H l = Option.none → H' l = some (.lst xs) → StsAt K H' xs L → LSt L → (L.length : Int) ≤ m → Q (.ref l) H'
def InvSt (K : PySem.W.Frag) (p l : Addr) (m u : Int) (H0 : Hp) (i : Nat) (σ : L2.St) (H : Hp) : Prop := ∃ (xs : List V) (L : List Stp) (tv : Option V), σ = [some (.ref p), some (.int m), some (.ref l), some (.int u), tv] ∧ H l = some (.lst xs) ∧ PoolAt H p ∧ But p H0 H ∧
  StsAt K H xs L ∧ LSt L ∧ L.length = i
theorem lst_snoc {L : List Stp} {s : Stp} (h : LSt L) (g : goodS s = true) (a : -2 ≤ s.2) (b : s.2 ≤ 14) (c : s.1 = true → s.2 % 2 = 0) : LSt (L ++ [s]) :=
  ⟨fun t ht => (List.mem_append.mp ht).elim (h.good t) fun z => by rw [List.mem_singleton.mp z]; exact g, fun t ht => (List.mem_append.mp ht).elim (h.sm t) fun z => by rw [List.mem_singleton.mp z]; exact ⟨a, b⟩, fun t ht => (List.mem_append.mp ht).elim (h.ev t) fun z => by rw [List.mem_singleton.mp z]; exact c⟩
theorem ok_law_steps (T : Txt K mg a) : FnR P w K mg base CX0 2 a.law_steps (spLSteps K) := by
  obtain ⟨fd, F⟩ := T.F_law_steps
  refine XT.okR F sc_law_steps bn_law_steps (fun vs H Q E h => ?_) (fun cdv A outer s H vs Q E hr h => ?_)
  · obtain ⟨p, m, rfl, _⟩ := h
    rfl
  · obtain ⟨p, m, rfl, hp, m0, m1, k⟩ := h
    have G_law_take := ok_law_take (P := P) (w := w) (base := base) T
    refine ⟨_, (pss_cons (ps_par (i := 2) (j := 3) (by rfl) sc_law_steps.nd rfl rfl (by decide) rfl rfl (pa_cons (pe_lst pa_nil) (pa_cons (pe_callR G_law_take (hr.mono (by decide)) rfl T.g_law_take T.k_law_take pass0 (pa_cons (pv 0) (pa_cons pe_int pa_nil))) pa_nil)) (by rfl))
      (pss_cons (ps_for PassesOwn.never rfl (pi_rng1 (by rfl) T.b_range (pa_cons (pe_callR G_law_take (hr.mono (by decide)) rfl T.g_law_take T.k_law_take pass0 (pa_cons (pv 0) (pa_cons (pe_op op_add (pv 1) pe_int) pa_nil))) pa_nil)) (pg_name (i := 4) sc_law_steps.nd rfl (Or.inl rfl))
        (pss_one (ps_if (pt_cmpR op_eq (pe_callR G_law_take (hr.mono (by decide)) rfl T.g_law_take T.k_law_take pass0 (pa_cons (pv 0) (pa_cons (pe_ix (ixLK K) (pe_lst (pa_cons pe_int (pa_cons pe_int (pa_cons pe_int (pa_cons pe_int pa_nil))))) (pv 3) (fun _ _ => rfl)) pa_nil))) pe_int (nomark _)) (pss_one (ps_expr (bmK K (pe_bm PySem.F.plainAttrs_list PySem.F.slot_list_append PySem.F.type_list_append mt_append (pv 2) (pa_cons (pe_tup (pa_cons pe_str (pa_cons (pe_op op_add pe_int (pe_callR G_law_take (hr.mono (by decide)) rfl T.g_law_take T.k_law_take pass0 (pa_cons (pv 0) (pa_cons (pe_ix (ixLK K) (pe_lst (pa_cons pe_int (pa_cons pe_int (pa_cons pe_int (pa_cons pe_int pa_nil))))) (pv 3) (fun _ _ => rfl)) pa_nil)))) pa_nil))) pa_nil))))) (pss_one (ps_expr (bmK K (pe_bm PySem.F.plainAttrs_list PySem.F.slot_list_append PySem.F.type_list_append mt_append (pv 2) (pa_cons (pe_tup (pa_cons pe_str (pa_cons (pe_op op_sub (pe_op op_mul pe_int (pe_callR G_law_take (hr.mono (by decide)) rfl T.g_law_take T.k_law_take pass0 (pa_cons (pv 0) (pa_cons (pe_ix (ixLK K) (pe_lst (pa_cons pe_int (pa_cons pe_int (pa_cons pe_int (pa_cons pe_int pa_nil))))) (pv 3) (fun _ _ => rfl)) pa_nil)))) pe_int) pa_nil))) pa_nil))))))))
      (pss_one (ps_ret (pv 2))))), ?_⟩
    refine ⟨Nat.zero_le _, fun l hl => ?_⟩
    have nlp := pool_ne hp hl
    have b1 : But p H (upd H l (.lst [])) := but_same (same_new hl)
    have hp1 : PoolAt (upd H l (.lst [])) p := pool_but hp hl rfl
    refine ⟨_, rfl, p, 4, rfl, hp1, by decide, by decide, fun u H1 u0 u1 b2 hp2 => ?_⟩
    have hl1 : H1 l = some (.lst []) := b2 _ _ nlp upd_same
    refine ⟨_, _, rfl, ?_⟩
    refine ⟨_, rfl, _, rfl, _, _, rfl, rfl, p, m + 1, rfl, hp2, by omega, by omega, fun r3 H3 r30 r31 b5 hp5 => ⟨_, rfl, ?_⟩⟩
    refine for_range (lo := 0) (n := r3.toNat) (InvSt K p l m u H) ⟨[], [], _, rfl, b5 _ _ nlp hl1, hp5, (b1.trans b2).trans b5, .nil, ⟨(fun _ h => by cases h), (fun _ h => by cases h), (fun _ h => by cases h)⟩, rfl⟩ ?_ ?_
    · rintro i σ H4 hi ⟨xs, L, tv, rfl, hL, hpp, bb, hSt, lst, hlen⟩
      have hi100 : i ≤ 100 := by omega
      refine ⟨_, rfl, by show 4 ≤ sizeLine; decide, fun d hd => ?_⟩
      have s4 := same_new (o := .lst [V.int 2, V.int 3, V.int 2, V.int 4]) hd
      obtain ⟨z, ez, hz⟩ := pick_four (c0 := 2) (c1 := 3) (c2 := 2) (c3 := 4) u0 u1
      refine ⟨_, rfl, d, _, u, .int z, rfl, rfl, SqL.of upd_same, ez, p, z, rfl, pool_same hpp s4, by omega, by omega, fun r4 H5 r40 r41 b6 hp6 => ?_⟩
      have b46 : But p H4 H5 := (but_same s4).trans b6
      have hL5 : H5 l = some (.lst xs) := b46 _ _ nlp hL
      have kt45 : Kt K H4 H5 := kt_but hpp b46
      refine ⟨rfl, _, rfl, ite2 (fun hz0 => ?_) (fun hz0 => ?_)⟩
      · refine ⟨_, rfl, .inl ⟨rfl, _, SqL.of hL5⟩, _, rfl, by show 4 ≤ sizeLine; decide, fun d2 hd2 => ?_⟩
        have s5 := same_new (o := .lst [V.int 3, V.int 5, V.int 2, V.int 9]) hd2
        obtain ⟨z2, ez2, hz2⟩ := pick_four (c0 := 3) (c1 := 5) (c2 := 2) (c3 := 9) u0 u1
        refine ⟨_, rfl, d2, _, u, .int z2, rfl, rfl, SqL.of upd_same, ez2, p, z2, rfl, pool_same hp6 s5, by omega, by omega, fun r5 H6 r50 r51 b7 hp7 => ?_⟩
        have b57 : But p H5 H6 := (but_same s5).trans b7
        have hL6 : H6 l = some (.lst xs) := b57 _ _ nlp hL5
        have kt56 : Kt K H4 H6 := kt45.trans (kt_but hp6 b57)
        refine ⟨_, _, rfl, rfl, by show 2 ≤ sizeLine; decide, fun q hq => ?_⟩
        have nlq : q ≠ l := fun z => by rw [z, hL6] at hq; cases hq
        have hlq : (upd H6 q (.tup [V.str "remove", V.int (1 + r5)])) l = some (.lst xs) := by rw [upd_ne (Ne.symm nlq)]; exact hL6
        have lx := hSt.length
        refine ⟨l, _, _, rfl, rfl, hlq, Nat.lt_of_lt_of_le (show xs.length < 100000 by omega) line_ge, ?_⟩
        have kt0 : Kt K H6 (upd (upd H6 q (.tup [V.str "remove", V.int (1 + r5)])) l (.lst (xs ++ [V.ref q]))) := (kt_same (same_new hq)).trans (kt_upd hlq)
        have bb2 : But p H6 (upd (upd H6 q (.tup [V.str "remove", V.int (1 + r5)])) l (.lst (xs ++ [V.ref q]))) → But p H (upd (upd H6 q (.tup [V.str "remove", V.int (1 + r5)])) l (.lst (xs ++ [V.ref q]))) := fun z => ((bb.trans b46).trans b57).trans z
        refine ⟨xs ++ [V.ref q], L ++ [(false, (1 + r5))], _, rfl, upd_same, ?_, ?_, pd_append (sts_kt hSt (kt56.trans kt0)) (.cons (st_of (b := false) (by rw [upd_ne nlq, upd_same]; rfl)) .nil), lst_snoc lst (by show goodS (false, 1 + r5) = true; simp [goodS]; omega) (by show (-2 : Int) ≤ 1 + r5; omega) (by show 1 + r5 ≤ (14 : Int); omega) (by intro h; cases h), by rw [List.length_append, hlen]; rfl⟩
        · obtain ⟨x, y, e, rest⟩ := hp7
          exact ⟨x, y, by rw [upd_ne (Ne.symm nlp), upd_ne (Ne.symm (pool_ne ⟨x, y, e, rest⟩ hq))]; exact e, rest⟩
        · intro b o nb e
          have nbl : b ≠ l := fun z => by rw [z, hl] at e; cases e
          have e2 := ((bb.trans b46).trans b57) _ _ nb e
          rw [upd_ne nbl, upd_ne (fun z => by rw [z, hq] at e2; cases e2)]
          exact e2
      · refine ⟨_, rfl, .inl ⟨rfl, _, SqL.of hL5⟩, _, rfl, by show 4 ≤ sizeLine; decide, fun d2 hd2 => ?_⟩
        have s6 := same_new (o := .lst [V.int 3, V.int 6, V.int 1, V.int 4]) hd2
        obtain ⟨z2, ez2, hz2⟩ := pick_four (c0 := 3) (c1 := 6) (c2 := 1) (c3 := 4) u0 u1
        refine ⟨_, rfl, d2, _, u, .int z2, rfl, rfl, SqL.of upd_same, ez2, p, z2, rfl, pool_same hp6 s6, by omega, by omega, fun r5 H6 r50 r51 b7 hp7 => ?_⟩
        have b57 : But p H5 H6 := (but_same s6).trans b7
        have hL6 : H6 l = some (.lst xs) := b57 _ _ nlp hL5
        have kt56 : Kt K H4 H6 := kt45.trans (kt_but hp6 b57)
        refine ⟨_, _, rfl, rfl, .inl ⟨by omega, by omega⟩, _, _, rfl, rfl, by show 2 ≤ sizeLine; decide, fun q hq => ?_⟩
        have nlq : q ≠ l := fun z => by rw [z, hL6] at hq; cases hq
        have hlq : (upd H6 q (.tup [V.str "insert", V.int (2 * r5 - 2)])) l = some (.lst xs) := by rw [upd_ne (Ne.symm nlq)]; exact hL6
        have lx := hSt.length
        refine ⟨l, _, _, rfl, rfl, hlq, Nat.lt_of_lt_of_le (show xs.length < 100000 by omega) line_ge, ?_⟩
        have kt0 : Kt K H6 (upd (upd H6 q (.tup [V.str "insert", V.int (2 * r5 - 2)])) l (.lst (xs ++ [V.ref q]))) := (kt_same (same_new hq)).trans (kt_upd hlq)
        have bb2 : But p H6 (upd (upd H6 q (.tup [V.str "insert", V.int (2 * r5 - 2)])) l (.lst (xs ++ [V.ref q]))) → But p H (upd (upd H6 q (.tup [V.str "insert", V.int (2 * r5 - 2)])) l (.lst (xs ++ [V.ref q]))) := fun z => ((bb.trans b46).trans b57).trans z
        refine ⟨xs ++ [V.ref q], L ++ [(true, (2 * r5 - 2))], _, rfl, upd_same, ?_, ?_, pd_append (sts_kt hSt (kt56.trans kt0)) (.cons (st_of (b := true) (by rw [upd_ne nlq, upd_same]; rfl)) .nil), lst_snoc lst (by rfl) (by show (-2 : Int) ≤ 2 * r5 - 2; omega) (by show 2 * r5 - 2 ≤ (14 : Int); omega) (by intro _; show (2 * r5 - 2) % 2 = 0; omega), by rw [List.length_append, hlen]; rfl⟩
        · obtain ⟨x, y, e, rest⟩ := hp7
          exact ⟨x, y, by rw [upd_ne (Ne.symm nlp), upd_ne (Ne.symm (pool_ne ⟨x, y, e, rest⟩ hq))]; exact e, rest⟩
        · intro b o nb e
          have nbl : b ≠ l := fun z => by rw [z, hl] at e; cases e
          have e2 := ((bb.trans b46).trans b57) _ _ nb e
          rw [upd_ne nbl, upd_ne (fun z => by rw [z, hq] at e2; cases e2)]
          exact e2
    · rintro σ H4 ⟨xs, L, tv, rfl, hL, hpp, bb, hSt, lst, hlen⟩
      exact ⟨_, rfl, k l xs L H4 bb hpp hl hL hSt lst (by omega)⟩

def spLMade (K : PySem.W.Frag) (C : Addr) : Sp := fun vs H Q _ => ∃ (l : Addr) (xs : List V) (L : List Stp), vs = [.ref l] ∧ SqL K H l xs ∧ StsAt K H xs L ∧ (∀ s ∈ L, goodS s = true) ∧ L.length ≤ 1000 ∧ ∀ r H', Same H H' → H r = Option.none → SqcAt K C H' r L → Q (.ref r) H'
theorem ok_law_made (T : Txt K mg a) : FnR P w K mg base CX0 7 a.law_made (spLMade K a.Sequence) := by
  obtain ⟨fd, F⟩ := T.F_law_made
  refine XT.okR F sc_law_made bn_law_made (fun vs H Q E h => ?_) (fun cdv A outer s H vs Q E hr h => ?_)
  · obtain ⟨l, xs, L, rfl, _⟩ := h
    rfl
  · obtain ⟨l, xs, L, rfl, hS, hL, hg, hz, k⟩ := h
    have G_Sequence_init := ok_Sequence___init__ (P := P) (w := w) (base := base) T
    have G_add_S := ok_Sequence___add__ (P := P) (w := w) (base := base) T
    refine ⟨_, (pss_cons (ps_set (i := 1) sc_law_made.nd rfl (Or.inl rfl) (pe_makeR0 T.M_Sequence G_Sequence_init (hr.mono (by decide)) rfl T.g_Sequence pass0))
      (pss_cons (ps_for PassesOwn.never rfl (pi_list (pv 0)) (pg_name (i := 2) sc_law_made.nd rfl (Or.inl rfl))
        (pss_one (ps_set (i := 1) sc_law_made.nd rfl (Or.inl rfl) (pe_op (op_ownB T.sf_S T.addA_S T.addF_S G_add_S (hr.mono (by decide)) pass0) (pv 1) (StX.pe_makeR T.M_Sequence G_Sequence_init (hr.mono (by decide)) rfl T.g_Sequence pass0 (pa_cons (pv 2) pa_nil))))))
      (pss_one (ps_ret (pv 1))))), ?_⟩
    refine fun t0 d0 n0 nd0 ne0 => ?_
    refine sq_mk (xs := []) (L := []) n0 nd0 ne0 .nil (fun s hs => by cases hs) (by decide) fun H0 s0 h0 => ⟨rfl, ?_⟩
    refine ⟨_, rfl, l, rfl, ⟨_, s0.seq hS⟩, for_list (K := K) (a := l) (xs := xs) (fun i σ H' => ∃ t o, σ = [some (.ref l), some (.ref t), o] ∧ Same H H' ∧ H t = Option.none ∧ SqcAt K a.Sequence H' t (L.take i)) ⟨_, _, rfl, s0, n0, h0⟩ (fun i σ H' _ ⟨_, _, _, s, _⟩ => s.seq hS) ?_ ?_⟩
    · rintro i x σ H' hx ⟨t, o, rfl, s, nt, ht⟩
      obtain ⟨st, hst, hxs⟩ := pd_get hL hx
      have gst := hg st (List.mem_of_getElem? hst)
      refine ⟨_, rfl, _, rfl, ?_⟩
      refine fun r d2 nr nd2 ne2 => ?_
      refine sq_mk (xs := [x]) (L := [st]) nr nd2 ne2 (.cons (hxs.same s) .nil) (fun u hu => by rw [List.mem_singleton.mp hu]; exact gst) (show 1 ≤ 100000 by decide) fun H2 s2 hr => ⟨rfl, ?_⟩
      refine ⟨t, r, rfl, rfl, (ht.same s2).insA, hr.insA, t, r, L.take i, [st], rfl, ht.same s2, hr, ?_, fun q H3 s3 nq hq => ?_⟩
      · rw [List.length_take, List.length_singleton]
        omega
      · refine ⟨q, _, rfl, (s.trans s2).trans s3, (s.trans s2).free nq, ?_⟩
        rw [List.take_add_one, hst]
        exact hq
    · rintro σ H' ⟨t, o, rfl, s, nt, ht⟩
      refine ⟨_, rfl, k t H' s nt ?_⟩
      rw [hL.length, List.take_length] at ht
      exact ht

def spMap (K : PySem.W.Frag) : Sp := fun vs H Q _ => ∃ (l : Addr) (t c : Int) (xs : List V) (S : List Stp), vs = [.ref l, .int t, .int c] ∧ SqL K H l xs ∧ StsAt K H xs S ∧ Q (.int (Eff.smp t S c)) H
theorem smp_snoc (t : Int) (S : List Stp) (s : Stp) (c : Int) : Eff.smp t (S ++ [s]) c = Eff.smp1 t (Eff.smp t S c) s := by rw [Eff.smp_append]; rfl
theorem ok_law_map (T : Txt K mg a) : FnR P w K mg base CX0 1 a.law_map (spMap K) := by
  obtain ⟨fd, F⟩ := T.F_law_map
  refine XT.okR F sc_law_map bn_law_map (fun vs H Q E h => ?_) (fun cdv A outer s H vs Q E hr h => ?_)
  · obtain ⟨l, t, c, xs, S, rfl, _⟩ := h
    rfl
  · obtain ⟨l, t, c, xs, S, rfl, hS, hL, k⟩ := h
    refine ⟨_, (pss_cons (ps_for PassesOwn.never rfl (pi_list (pv 0)) (tupK K (n := 2) (by rfl) (pgs_cons (pg_name (i := 3) sc_law_map.nd rfl (Or.inl rfl)) (pgs_cons (pg_name (i := 4) sc_law_map.nd rfl (Or.inl rfl)) pgs_nil)))
        (pss_one (ps_if (pt_cmpR op_eq (pv 3) pe_str (nomark _)) (pss_one (ps_set (i := 2) sc_law_map.nd rfl (Or.inl rfl) (pe_op op_add (pv 2) (pe_callTy call_int1 (by rfl) T.b_int (by decide +kernel) (pa_cons (pe_cmpR op_le (pv 4) (pv 1) (nomark _)) pa_nil))))) (pss_one (ps_if (pt_cmpR op_ge (pv 2) (pv 4) (nomark _)) (pss_one (ps_set (i := 2) sc_law_map.nd rfl (Or.inl rfl) (pe_op op_sub (pv 2) pe_int))) pss_nil)))))
      (pss_one (ps_ret (pv 2)))), ?_⟩
    refine ⟨_, rfl, l, rfl, ⟨_, hS⟩, for_list (K := K) (a := l) (xs := xs) (fun i σ H' => H' = H ∧ ∃ o1 o2, σ = [some (.ref l), some (.int t), some (.int (Eff.smp t (S.take i) c)), o1, o2]) ⟨rfl, _, _, rfl⟩ (fun i σ H' _ ⟨e, _⟩ => by rw [e]; exact hS) ?_ ?_⟩
    · rintro i x σ H' hx ⟨rfl, o1, o2, rfl⟩
      obtain ⟨⟨b, n⟩, hst, r, rfl, hr⟩ := pd_get hL hx
      have et : S.take (i + 1) = S.take i ++ [(b, n)] := by rw [List.take_add_one, hst]; rfl
      have es := smp_snoc t (S.take i) (b, n) c
      rw [← et] at es
      have fin : ∀ (z : Int) (o1 o2 : Option V), z = Eff.smp t (S.take (i + 1)) c → H' = H' ∧ ∃ o1' o2', [some (V.ref l), some (V.int t), some (V.int z), o1, o2] = [some (V.ref l), some (V.int t), some (V.int (Eff.smp t (S.take (i + 1)) c)), o1', o2'] := fun z o1 o2 e => ⟨rfl, o1, o2, by rw [e]⟩
      refine ⟨r, _, rfl, hr, rfl, _, _, rfl, _, _, rfl, rfl, ?_⟩
      refine ⟨_, rfl, rfl, _, rfl, ?_⟩
      rw [wrd_ins]
      cases b with
      | true =>
        refine iteH rfl ?_
        refine ⟨_, rfl, _, rfl, _, rfl, _, _, rfl, rfl, .inr ⟨_, rfl, ?_⟩⟩
        refine ⟨_, _, rfl, rfl, ?_⟩
        refine fin _ _ _ ?_
        rw [es]
        unfold Eff.smp1
        by_cases h : n ≤ t
        · simp [h]
        · simp [h]
      | false =>
        refine iteN rfl ?_
        refine ⟨_, rfl, _, rfl, _, _, rfl, rfl, _, rfl, ite2 (fun h1 => ?_) (fun h1 => ?_)⟩
        · have h1' := of_decide_eq_true h1
          refine ⟨_, rfl, _, _, rfl, rfl, ?_⟩
          refine fin _ _ _ ?_
          rw [es]
          unfold Eff.smp1
          rw [if_neg (by simp), if_pos h1']
        · have h1' := of_decide_eq_false ((Bool.not_eq_true _).mp h1)
          refine fin _ _ _ ?_
          rw [es]
          unfold Eff.smp1
          rw [if_neg (by simp), if_neg h1']
    · rintro σ H' ⟨rfl, o1, o2, rfl⟩
      rw [hL.length, List.take_length]
      exact ⟨_, rfl, k⟩

theorem kv_ints {H : Hp} (L : List Int) : ∀ y ∈ L.map V.int, XT.KV K H y := fun y hy => by
  obtain ⟨i, _, rfl⟩ := List.mem_map.mp hy
  exact kv_int i
/-- a list or a tuple of the numbers L -/
def NumsAt (K : PySem.W.Frag) (H : Hp) (x : V) (L : List Int) : Prop := ∃ p, x = .ref p ∧ (SqL K H p (L.map V.int) ∨ SqT K H p (L.map V.int)) ∧ L.length ≤ 1000
theorem NumsAt.same {H H' : Hp} {x : V} {L : List Int} (h : NumsAt K H x L) (s : Same H H') : NumsAt K H' x L := let ⟨p, e, h1, h2⟩ := h; ⟨p, e, h1.imp (fun h => s.seq h) (fun h => same_seqT s h), h2⟩
theorem nums_lst {H : Hp} {q : Addr} {L : List Int} (h : H q = some (.lst (L.map V.int))) (hl : L.length ≤ 1000) : NumsAt K H (.ref q) L := ⟨q, rfl, .inl (SqL.of h), hl⟩

/-- the law's own run -/
def spRunL (K : PySem.W.Frag) : Sp := fun vs H Q _ => ∃ (l : Addr) (x : V) (xs : List V) (S : List Stp) (L : List Int), vs = [.ref l, x] ∧ SqL K H l xs ∧ StsAt K H xs S ∧ (∀ s ∈ S, goodS s = true) ∧ NumsAt K H x L ∧ S.length ≤ 1000 ∧
  (∀ M, XT.runR (XT.srt L) 0 S = .inl M → ∀ m H', Same H H' → H m = Option.none → H' m = some (.lst (M.map V.int)) → Q (.ref m) H') ∧ (∀ i, XT.runR (XT.srt L) 0 S = .inr i → ∀ H', Same H H' → Q .non H')
theorem ok_law_run (T : Txt K mg a) : FnR P w K mg base CX0 1 a.law_run (spRunL K) := by
  obtain ⟨fd, F⟩ := T.F_law_run
  refine XT.okR F sc_law_run bn_law_run (fun vs H Q E h => ?_) (fun cdv A outer s H vs Q E hr h => ?_)
  · obtain ⟨l, x, xs, S, L, rfl, _⟩ := h
    rfl
  · obtain ⟨l, x, xs, S, L, rfl, hS, hX, hg, ⟨p, rfl, hN, hl⟩, hs, k1, k2⟩ := h
    refine ⟨_, (pss_cons (ps_set (i := 2) sc_law_run.nd rfl (Or.inl rfl) (pe_callB (sortedAK K) (by rfl) T.b_sorted (by decide +kernel) (pa_cons (pv 1) pa_nil)))
      (pss_cons (ps_for PassesOwn.never rfl (pi_list (pv 0)) (tupK K (n := 2) (by rfl) (pgs_cons (pg_name (i := 3) sc_law_run.nd rfl (Or.inl rfl)) (pgs_cons (pg_name (i := 4) sc_law_run.nd rfl (Or.inl rfl)) pgs_nil)))
        (pss_one (ps_if (pt_cmpR op_eq (pv 3) pe_str (nomark _)) (pss_one (ps_set (i := 2) sc_law_run.nd rfl (Or.inl rfl) (pe_callB (sortedAK K) (by rfl) T.b_sorted (by decide +kernel) (pa_cons (pe_op op_cat (pv 2) (pe_lst (pa_cons (pv 4) pa_nil))) pa_nil)))) (pss_one (ps_if (pt_cmpR op_gt (pv 4) (pe_callB (lenK K) (by rfl) T.b_len (by decide +kernel) (pa_cons (pv 2) pa_nil)) (nomark _)) (pss_one (ps_ret pe_non)) (pss_one (ps_set (i := 2) sc_law_run.nd rfl (Or.inl rfl) (pe_op op_cat (pe_slice (slLK K) (pv 2) po_none (po_some (pe_op op_sub (pv 4) pe_int))) (pe_slice (slLK K) (pv 2) (po_some (pv 4)) po_none)))))))))
      (pss_one (ps_ret (pv 2))))), ?_⟩
    refine ⟨_, rfl, p, L, rfl, hN, fun N m0 pm up n0 => ?_⟩
    rw [XT.srt_of pm up]
    have s1 := same_new (o := .lst ((XT.srt L).map V.int)) n0
    refine ⟨_, rfl, l, rfl, ⟨_, s1.seq hS⟩, for_list (K := K) (a := l) (xs := xs) (fun i σ H' => ∃ (m : Addr) (M : List Int) (o3 o4 : Option V), σ = [some (.ref l), some (.ref p), some (.ref m), o3, o4] ∧ Same H H' ∧ H m = Option.none ∧ H' m = some (.lst (M.map V.int)) ∧ M.length ≤ 1000 + i ∧ XT.runR (XT.srt L) 0 S = XT.runR M i (S.drop i))
      ⟨m0, XT.srt L, _, _, rfl, s1, n0, upd_same, by rw [XT.srt_len]; omega, rfl⟩ (fun i σ H' _ ⟨_, _, _, _, _, s, _⟩ => s.seq hS) ?_ ?_⟩
    · rintro i x σ H' hx ⟨m, M, o3, o4, rfl, s, nm, hm, hml, hrun⟩
      obtain ⟨⟨b, n⟩, hst, r, rfl, hr⟩ := pd_get hX hx
      have gst := hg _ (List.mem_of_getElem? hst)
      have hi2 : i < S.length := (List.getElem?_eq_some_iff.mp hst).1
      refine ⟨r, _, rfl, same_seqT s hr, rfl, _, _, rfl, _, _, rfl, rfl, ?_⟩
      refine ⟨_, rfl, rfl, _, rfl, ?_⟩
      rw [wrd_ins]
      cases b with
      | true =>
        refine iteH rfl ?_
        refine ⟨_, rfl, _, rfl, by show 1 ≤ sizeLine; decide, fun c1 hc1 => ?_⟩
        have sc1 := same_new (o := .lst [V.int n]) hc1
        refine ⟨m, c1, _, _, rfl, rfl, sc1 _ _ hm, upd_same, ?_, fun c2 hc2 => ?_⟩
        · rw [List.length_map, List.length_singleton]
          exact Nat.le_trans (show M.length + 1 ≤ 100000 by omega) line_ge
        have sc2 := same_new (o := .lst (M.map V.int ++ [V.int n])) hc2
        have e : (M.map V.int ++ [V.int n] : List V) = (M ++ [n]).map V.int := by rw [List.map_append]; rfl
        refine ⟨c2, M ++ [n], rfl, .inl (SqL.of (by rw [← e]; exact upd_same)), fun N2 q2 pm2 up2 nq2 => ?_⟩
        rw [XT.srt_of pm2 up2]
        have s3 := ((s.trans sc1).trans sc2)
        exact ⟨q2, XT.srt (M ++ [n]), _, _, rfl, s3.trans (same_new nq2), s3.free nq2, upd_same, by rw [XT.srt_len, List.length_append]; simp; omega, by rw [hrun, XT.runR_step hst (M := XT.srt (M ++ [n])) rfl]⟩
      | false =>
        refine iteN rfl ?_
        have gd' : 0 < n := by simpa [goodS] using gst
        refine ⟨_, rfl, _, rfl, m, _, rfl, .inl (SqL.of hm), _, _, rfl, rfl, _, rfl, ite2 (fun h1 => ?_) (fun h1 => ?_)⟩
        · have h1' : n > ((M.map V.int).length : Int) := of_decide_eq_true h1
          rw [List.length_map] at h1'
          have e : XT.stepR M (false, n) = Option.none := by
            simp only [XT.stepR]
            rw [if_pos (show (M.length : Int) < n by omega)]
          exact k2 i (by rw [hrun, XT.runR_fail hst e]) _ s
        · have h1' : ¬ n > ((M.map V.int).length : Int) := fun z => h1 (decide_eq_true z)
          rw [List.length_map] at h1'
          have e : XT.stepR M (false, n) = some (M.take (n - 1).toNat ++ M.drop n.toNat) := by
            simp only [XT.stepR]
            rw [if_neg (show ¬ (M.length : Int) < n by omega)]
          refine ⟨_, rfl, _, rfl, _, _, rfl, rfl, _, rfl, m, _, rfl, SqL.of hm, fun p1 hp1 => ?_⟩
          have sp1 := same_new (o := .lst (cutV (M.map V.int) Option.none (some (n - 1)))) hp1
          refine ⟨_, rfl, _, rfl, _, rfl, m, _, rfl, SqL.of (sp1 _ _ hm), fun p2 hp2 => ?_⟩
          have sp2 := same_new (o := .lst (cutV (M.map V.int) (some n) Option.none)) hp2
          refine ⟨p1, p2, _, _, rfl, rfl, sp2 _ _ upd_same, upd_same, ?_, fun p3 hp3 => ?_⟩
          · have h1 := cutV_length (M.map V.int) Option.none (some (n - 1))
            have h2 := cutV_length (M.map V.int) (some n) Option.none
            rw [List.length_map] at h1 h2
            exact Nat.le_trans (Nat.add_le_add h1 h2) (Nat.le_trans (show M.length + M.length ≤ 100000 by omega) line_ge)
          · have s3 := (s.trans sp1).trans sp2
            exact ⟨p3, _, _, _, rfl, s3.trans (same_new hp3), s3.free hp3, by rw [upd_same, XT.cut_rm gd'], by have := XT.stepR_len e; omega, by rw [hrun, XT.runR_step hst e]⟩
    · rintro σ H' ⟨m, M, o3, o4, rfl, s, nm, hm, hml, hrun⟩
      refine ⟨_, rfl, k1 M ?_ m H' s nm hm⟩
      rw [hrun, hX.length, List.drop_length]
      rfl

end
end K15
namespace K15
open PySem L2 XT
section
variable {P : Program} {w : World} {K : PySem.W.Frag} {mg : Str → Option Value} {base : Heap} {a : Ads}
local macro_rules | `(tactic| walk_at "rside") => `(tactic| first | (show (0 : Int) < _; first | decide | omega) | (exact ⟨by first | decide | omega, by first | decide | omega⟩) | (exact Or.inl ⟨by omega, by omega⟩) | (exact Or.inr ⟨by omega, by omega⟩) | (exact ⟨by decide, by decide, by decide⟩))
local macro_rules | `(tactic| walk_at "rd1") => `(tactic| first | (refine ⟨_, rfl, ?_⟩) | (refine ⟨_, _, rfl, rfl, (by walk_at "rside"), ?_⟩) | (refine ⟨_, _, rfl, rfl, ?_⟩))
local macro_rules | `(tactic| walk_at "rd") => `(tactic| repeat (walk_at "rd1"))

theorem kp_drop {S : List Stp} {us cs : List Int} {i : Nat} {u c old total : Int} (h1 : us[i]? = some u) (h2 : cs[i]? = some c) : Eff.kp S (us.drop i) (cs.drop i) old total = (Eff.smp u S old - total, Eff.smp u S (old + c) - Eff.smp u S old) :: Eff.kp S (us.drop (i + 1)) (cs.drop (i + 1)) (old + c) (Eff.smp u S (old + c)) := by
  obtain ⟨a1, e1⟩ := List.getElem?_eq_some_iff.mp h1
  obtain ⟨a2, e2⟩ := List.getElem?_eq_some_iff.mp h2
  rw [List.drop_eq_getElem_cons a1, List.drop_eq_getElem_cons a2, e1, e2]
  rfl
def BadN (K : PySem.W.Frag) (H : Hp) (x : V) : Prop := (∃ xs, Sq K H x xs ∧ numsV xs = false) ∨ Od K H x
theorem BadN.same {H H' : Hp} {x : V} (h : BadN K H x) (s : Same H H') : BadN K H' x := by
  rcases h with ⟨xs, ⟨q, e1, e2, e3, e4⟩, e5⟩ | ⟨n, e1, e2, e3⟩
  · exact .inl ⟨xs, ⟨q, e1, e2.imp (fun h => s.seq h) (fun h => same_seqT s h), fun y hy => (e3 y hy).same s, e4⟩, e5⟩
  · exact .inr ⟨n, same_tyB s e1, e2, e3⟩
def nnL (L : List Int) : Bool := L.all fun c => decide (0 ≤ c)
def spCLX (K : PySem.W.Frag) : Sp := fun vs H Q _ => ∃ x, vs = [x] ∧ ((∃ L, NumsAt K H x L ∧ ∀ H', Same H H' → Q (.bl (nnL L)) H') ∨ (BadN K H x ∧ ∀ H', Same H H' → Q (.bl false) H'))
theorem all_get (L : List Int) : (((List.range L.length).map fun i => cntV (.int (L.getD i 0))).all id) = nnL L := by
  unfold nnL
  rw [Bool.eq_iff_iff, List.all_eq_true, List.all_eq_true]
  constructor
  · intro h c hc
    obtain ⟨i, hi, e⟩ := List.mem_iff_getElem.mp hc
    have := h _ (List.mem_map.mpr ⟨i, List.mem_range.mpr hi, rfl⟩)
    rw [List.getD_eq_getElem?_getD, List.getElem?_eq_getElem hi, Option.getD_some, e] at this
    exact this
  · intro h b hb
    obtain ⟨i, hi, rfl⟩ := List.mem_map.mp hb
    have hi := List.mem_range.mp hi
    rw [List.getD_eq_getElem?_getD, List.getElem?_eq_getElem hi, Option.getD_some]
    exact h _ (List.getElem_mem hi)
theorem ok_is_count_list (T : Txt K mg a) : FnR P w K mg base CX0 4 a.is_count_list (spCLX K) := by
  obtain ⟨fd, F⟩ := T.F_is_count_list
  refine XT.okR F sc_is_count_list bn_is_count_list (fun vs H Q E h => ?_) (fun cdv A outer s H vs Q E hr h => ?_)
  · obtain ⟨x, rfl, _⟩ := h
    rfl
  · obtain ⟨x, rfl, h⟩ := h
    have G_is_number_list := ok_is_number_list (P := P) (w := w) (base := base) T
    have G_is_count := ok_is_count (P := P) (w := w) (base := base) T
    rcases h with ⟨L, ⟨p, rfl, hS | hS, hl⟩, k⟩ | ⟨⟨xs, hS, hn⟩ | od, k⟩
    · refine ⟨_, (pss_one (ps_ret (pe_and (pe_callR G_is_number_list (hr.mono (by decide)) rfl T.g_is_number_list T.k_is_number_list pass0 (pa_cons (pv 0) pa_nil)) (pe_one (pe_callB (allK K rfl) (by rfl) T.b_all (by decide +kernel) (pa_cons (pe_lc (own := [("number", 1)])  rfl sc_is_count_list.nd (pi_list (pv 0)) (blkOk_by (N := N_is_count_list) (sc := defScope s_is_count_list) (by decide +kernel)) (fun _ _ _ _ _ => by exact (pg_name (i := 1) sc_is_count_list.nd rfl (Or.inl rfl))) (fun _ _ _ _ _ => by exact pts_nil) (fun _ _ _ _ _ => by exact (pe_callR G_is_count (hr.mono (by decide)) rfl T.g_is_count T.k_is_count pass0 (pa_cons (pv 1) pa_nil)))) pa_nil)))))), ?_⟩
      refine ⟨_, rfl, _, rfl, .inl ⟨L.map V.int, ⟨p, rfl, .inl hS, kv_ints L, by rw [List.length_map]; omega⟩, fun H1 s1 => ⟨_, rfl, iteH (by rw [nums_of]) ?_⟩⟩⟩
      refine ⟨_, rfl, p, rfl, ⟨_, Same.seq s1 hS⟩, fun D hD => lcM (stat_list (Same.seq s1 hS)) hD (fun i => .bl (cntV (.int (L.getD i 0)))) (Nat.le_trans (by rw [List.length_map]; omega) line_ge) ?_ ?_⟩
      · intro i y H3 R hi s3 px kk
        rw [List.getElem?_map] at px
        obtain ⟨v, hv, rfl⟩ := Option.map_eq_some_iff.mp px
        refine ⟨rfl, _, rfl, _, rfl, kv_int v, ?_⟩
        have e : L.getD i 0 = v := by rw [List.getD_eq_getElem?_getD, hv]; rfl
        rw [e] at kk
        exact kk H3 (Same.refl H3)
      · intro H3 s3 hL
        rw [List.length_map] at hL
        refine ⟨D, (List.range L.length).map (fun i => cntV (.int (L.getD i 0))), rfl, SqL.of (by rw [hL, List.map_map]; rfl), ?_⟩
        rw [all_get]
        exact k _ (s1.trans s3)
    · refine ⟨_, (pss_one (ps_ret (pe_and (pe_callR G_is_number_list (hr.mono (by decide)) rfl T.g_is_number_list T.k_is_number_list pass0 (pa_cons (pv 0) pa_nil)) (pe_one (pe_callB (allK K rfl) (by rfl) T.b_all (by decide +kernel) (pa_cons (pe_lc (own := [("number", 1)])  rfl sc_is_count_list.nd (pi_tup (pv 0)) (blkOk_by (N := N_is_count_list) (sc := defScope s_is_count_list) (by decide +kernel)) (fun _ _ _ _ _ => by exact (pg_name (i := 1) sc_is_count_list.nd rfl (Or.inl rfl))) (fun _ _ _ _ _ => by exact pts_nil) (fun _ _ _ _ _ => by exact (pe_callR G_is_count (hr.mono (by decide)) rfl T.g_is_count T.k_is_count pass0 (pa_cons (pv 1) pa_nil)))) pa_nil)))))), ?_⟩
      refine ⟨_, rfl, _, rfl, .inl ⟨L.map V.int, ⟨p, rfl, .inr hS, kv_ints L, by rw [List.length_map]; omega⟩, fun H1 s1 => ⟨_, rfl, iteH (by rw [nums_of]) ?_⟩⟩⟩
      refine ⟨_, rfl, p, rfl, ⟨_, same_seqT s1 hS⟩, fun D hD => lcM (stat_tup (same_seqT s1 hS)) hD (fun i => .bl (cntV (.int (L.getD i 0)))) (Nat.le_trans (by rw [List.length_map]; omega) line_ge) ?_ ?_⟩
      · intro i y H3 R hi s3 px kk
        rw [List.getElem?_map] at px
        obtain ⟨v, hv, rfl⟩ := Option.map_eq_some_iff.mp px
        refine ⟨rfl, _, rfl, _, rfl, kv_int v, ?_⟩
        have e : L.getD i 0 = v := by rw [List.getD_eq_getElem?_getD, hv]; rfl
        rw [e] at kk
        exact kk H3 (Same.refl H3)
      · intro H3 s3 hL
        rw [List.length_map] at hL
        refine ⟨D, (List.range L.length).map (fun i => cntV (.int (L.getD i 0))), rfl, SqL.of (by rw [hL, List.map_map]; rfl), ?_⟩
        rw [all_get]
        exact k _ (s1.trans s3)
    · refine ⟨_, (pss_one (ps_ret (pe_and (pe_callR G_is_number_list (hr.mono (by decide)) rfl T.g_is_number_list T.k_is_number_list pass0 (pa_cons (pv 0) pa_nil)) (pe_one (pe_callB (allK K rfl) (by rfl) T.b_all (by decide +kernel) (pa_cons (pe_lc (own := [("number", 1)])  rfl sc_is_count_list.nd (pi_list (pv 0)) (blkOk_by (N := N_is_count_list) (sc := defScope s_is_count_list) (by decide +kernel)) (fun _ _ _ _ _ => by exact (pg_name (i := 1) sc_is_count_list.nd rfl (Or.inl rfl))) (fun _ _ _ _ _ => by exact pts_nil) (fun _ _ _ _ _ => by exact (pe_callR G_is_count (hr.mono (by decide)) rfl T.g_is_count T.k_is_count pass0 (pa_cons (pv 1) pa_nil)))) pa_nil)))))), ?_⟩
      exact ⟨_, rfl, _, rfl, .inl ⟨xs, hS, fun H1 s1 => ⟨_, rfl, iteN (by rw [hn]) (k _ s1)⟩⟩⟩
    · refine ⟨_, (pss_one (ps_ret (pe_and (pe_callR G_is_number_list (hr.mono (by decide)) rfl T.g_is_number_list T.k_is_number_list pass0 (pa_cons (pv 0) pa_nil)) (pe_one (pe_callB (allK K rfl) (by rfl) T.b_all (by decide +kernel) (pa_cons (pe_lc (own := [("number", 1)])  rfl sc_is_count_list.nd (pi_list (pv 0)) (blkOk_by (N := N_is_count_list) (sc := defScope s_is_count_list) (by decide +kernel)) (fun _ _ _ _ _ => by exact (pg_name (i := 1) sc_is_count_list.nd rfl (Or.inl rfl))) (fun _ _ _ _ _ => by exact pts_nil) (fun _ _ _ _ _ => by exact (pe_callR G_is_count (hr.mono (by decide)) rfl T.g_is_count T.k_is_count pass0 (pa_cons (pv 1) pa_nil)))) pa_nil)))))), ?_⟩
      exact ⟨_, rfl, _, rfl, .inr ⟨od, fun H1 s1 => ⟨_, rfl, iteN rfl (k _ s1)⟩⟩⟩

/-- kept of a list that is none of counts, or of another length -/
def BadC (K : PySem.W.Frag) (H : Hp) (x : V) (n : Nat) : Prop := BadN K H x ∨ ∃ L, NumsAt K H x L ∧ ¬ (nnL L = true ∧ L.length = n)
theorem BadC.same {H H' : Hp} {x : V} {n : Nat} (h : BadC K H x n) (s : Same H H') : BadC K H' x n := h.imp (fun h => h.same s) fun ⟨L, h1, h2⟩ => ⟨L, h1.same s, h2⟩
def KeptQ (S : List Stp) (B C : List Int) (H : Hp) (CS : Addr) (Q : VK) (E : XK) : Prop :=
  (C.sum < Eff.need S → ∀ d H', Same H H' → H d = Option.none → H' d = some (.xd [("index", .non)]) → E (.ref CS) (some d) H') ∧
  (Eff.need S ≤ C.sum → ∀ r p q H', Same H H' → H' r = some (.tup [.ref p, .ref q]) → H' p = some (.lst (((Eff.kp S (Eff.thr B) C 0 0).map (·.2)).map V.int)) → H' q = some (.lst ((((Eff.kp S (Eff.thr B) C 0 0).map (·.1)).drop 1).map V.int)) → Q (.ref r) H')
def spKeptB (K : PySem.W.Frag) (CE CT CN : Addr) : Sp := fun vs H _ E => ∃ (e : Addr) (x : V) (S : List Stp) (B : List Int), vs = [.ref e, x] ∧ EffAt K CE CT H e S ∧ Eff.Brk S B ∧ B.length ≤ 500 ∧ BadC K H x (B.length + 1) ∧ ∀ d H', Same H H' → H d = Option.none → H' d = some (.xd [("value", x)]) → E (.ref CN) (some d) H'
def spKeptL (K : PySem.W.Frag) (CE CT CS : Addr) : Sp := fun vs H Q E => ∃ (e c : Addr) (S : List Stp) (B C : List Int), vs = [.ref e, .ref c] ∧ EffAt K CE CT H e S ∧ Eff.Brk S B ∧ SqL K H c (C.map V.int) ∧ nnL C = true ∧ C.length = B.length + 1 ∧ B.length ≤ 500 ∧ KeptQ S B C H CS Q E
def spKeptT (K : PySem.W.Frag) (CE CT CS : Addr) : Sp := fun vs H Q E => ∃ (e c : Addr) (S : List Stp) (B C : List Int), vs = [.ref e, .ref c] ∧ EffAt K CE CT H e S ∧ Eff.Brk S B ∧ SqT K H c (C.map V.int) ∧ nnL C = true ∧ C.length = B.length + 1 ∧ B.length ≤ 500 ∧ KeptQ S B C H CS Q E
theorem okX_keptB (T : Txt K mg a) : FnR P w K mg base (L2.CX P w) 5 a.kept (spKeptB K a.Effect a.Table a.InvalidNumber) := by
  obtain ⟨fd, F⟩ := T.F_kept
  obtain ⟨fd_InvalidNumber, FE_InvalidNumber⟩ := T.F_InvalidNumber___init__
  have GE_InvalidNumber := okE_InvalidNumber (P := P) (w := w) (base := base) T T.e_InvalidNumber FE_InvalidNumber
  have BE_InvalidNumber := FE_InvalidNumber.binds bn_InvalidNumber___init__
  obtain ⟨fd_StepFailed, FE_StepFailed⟩ := T.F_StepFailed___init__
  have GE_StepFailed := okE_StepFailed (P := P) (w := w) (base := base) T T.e_StepFailed FE_StepFailed
  have BE_StepFailed := FE_StepFailed.binds bn_StepFailed___init__
  refine XT.okX F sc_kept bn_kept (fun vs H Q E h => ?_) (fun cdv A outer s H vs Q E hr h => ?_)
  · obtain ⟨e, x, S, B, rfl, _⟩ := h
    rfl
  · obtain ⟨e, x, S, B, rfl, he, hB, hb, bad, k⟩ := h
    have G_is_count_list := ok_is_count_list (P := P) (w := w) (base := base) T
    have G_tables := ok_Effect_tables (P := P) (w := w) (base := base) T
    have G_need := ok_Effect_need (P := P) (w := w) (base := base) T
    have G_call_T := ok_Table___call__ (P := P) (w := w) (base := base) T
    refine ⟨_, (pss_cons (ps_if (PW.pt (pw_or (pt_not (pt_val (pe_callR G_is_count_list (hr.mono (by decide)) rfl T.g_is_count_list T.k_is_count_list pass0 (pa_cons (pv 1) pa_nil)))) (pw_or1 (pt_cmpR op_ne (pe_callB (lenK K) (by rfl) T.b_len (by decide +kernel) (pa_cons (pv 1) pa_nil)) (pe_callB (lenK K) (by rfl) T.b_len (by decide +kernel) (pa_cons (pe_propR (pv 0) T.cl_E T.p_tables G_tables (hr.mono (by decide)) pass0 rfl) pa_nil)) (nomark _))))) (pss_one (ps_raiseE T.e_InvalidNumber GE_InvalidNumber BE_InvalidNumber (hr.mono (by decide)) T.g_InvalidNumber rfl (takes_of rfl rfl rfl rfl) (pv 1))) pss_nil)
      (pss_cons (ps_if (pt_cmpR op_lt (pe_callB (cr_sumT K rfl) (by rfl) T.b_sum (by decide +kernel) (pa_cons (pv 1) pa_nil)) (pe_propR (pv 0) T.cl_E T.p_need G_need (hr.mono (by decide)) pass0 rfl) (nomark _)) (pss_one (ps_raiseG T.e_StepFailed GE_StepFailed BE_StepFailed (hr.mono (by decide)) T.g_StepFailed rfl (takes_of rfl rfl rfl rfl) pe_non)) pss_nil)
      (pss_cons (ps_set (i := 2) sc_kept.nd rfl (Or.inl rfl) (pe_lst pa_nil))
      (pss_cons (ps_set (i := 3) sc_kept.nd rfl (Or.inl rfl) (pe_lst pa_nil))
      (pss_cons (ps_set (i := 4) sc_kept.nd rfl (Or.inl rfl) pe_int)
      (pss_cons (ps_set (i := 5) sc_kept.nd rfl (Or.inl rfl) pe_int)
      (pss_cons (ps_for (passes_of rfl) rfl (ZG.pi_zipM (by rfl) T.b_zip (pa_cons (pe_propR (pv 0) T.cl_E T.p_tables G_tables (hr.mono (by decide)) pass0 rfl) (pa_cons (pv 1) pa_nil))) (tupK K (n := 2) (by rfl) (pgs_cons (pg_name (i := 6) sc_kept.nd rfl (Or.inl rfl)) (pgs_cons (pg_name (i := 7) sc_kept.nd rfl (Or.inl rfl)) pgs_nil)))
        (pss_cons (ps_set (i := 8) sc_kept.nd rfl (Or.inl rfl) (pe_callI (pv 6) T.callO_T G_call_T (hr.mono (by decide)) pass0 (pa_cons (pv 4) pa_nil)))
      (pss_cons (ps_expr (bmK K (pe_bm PySem.F.plainAttrs_list PySem.F.slot_list_append PySem.F.type_list_append mt_append (pv 3) (pa_cons (pe_op op_sub (pv 8) (pv 5)) pa_nil))))
      (pss_cons (ps_set (i := 4) sc_kept.nd rfl (Or.inl rfl) (pe_op op_add (pv 4) (pv 7)))
      (pss_cons (ps_set (i := 5) sc_kept.nd rfl (Or.inl rfl) (pe_callI (pv 6) T.callO_T G_call_T (hr.mono (by decide)) pass0 (pa_cons (pv 4) pa_nil)))
      (pss_one (ps_expr (bmK K (pe_bm PySem.F.plainAttrs_list PySem.F.slot_list_append PySem.F.type_list_append mt_append (pv 2) (pa_cons (pe_op op_sub (pv 5) (pv 8)) pa_nil))))))))))
      (pss_one (ps_ret (pe_tup (pa_cons (pv 2) (pa_cons (pe_slice (slLK K) (pv 3) (po_some pe_int) po_none) pa_nil)))))))))))), ?_⟩
    rcases bad with bn | ⟨L, hN, hbad⟩
    · exact ⟨_, rfl, x, rfl, .inr ⟨bn, fun H1 s1 => ⟨_, rfl, iteH rfl ⟨_, rfl, err_rd fun d hd => k d _ (s1.trans (same_new hd)) (s1.free hd) upd_same⟩⟩⟩⟩
    · refine ⟨_, rfl, x, rfl, .inl ⟨L, hN, fun H1 s1 => ⟨_, rfl, ?_⟩⟩⟩
      cases hnn : nnL L with
      | false => exact iteH rfl ⟨_, rfl, err_rd fun d hd => k d _ (s1.trans (same_new hd)) (s1.free hd) upd_same⟩
      | true =>
        refine iteN rfl ?_
        have hne : L.length ≠ B.length + 1 := fun z => hbad ⟨hnn, z⟩
        obtain ⟨c, rfl, hS, hl⟩ := hN.same s1
        have he1 := he.same s1
        obtain ⟨dx, pb, qt, hi⟩ := he1.ins
        refine ⟨_, rfl, c, _, rfl, hS, _, rfl, e, dx, _, rfl, hi, e, S, rfl, he1, fun q0 B0 ts0 hq0 hT0 hB0 _ => ?_⟩
        have l0 : ts0.length = B0.length + 1 := by rw [hT0.length, Eff.tbs_len]
        have eB := hB0.ext hB
        refine ⟨q0, ts0, rfl, .inr hq0, rfl, _, rfl, iteH (by rw [List.length_map, l0, eB]; simpa using fun z => hne (by omega)) ?_⟩
        exact ⟨_, rfl, err_rd fun d hd => k d _ (s1.trans (same_new hd)) (s1.free hd) upd_same⟩

theorem okX_keptL (T : Txt K mg a) : FnR P w K mg base (L2.CX P w) 5 a.kept (spKeptL K a.Effect a.Table a.StepFailed) := by
  obtain ⟨fd, F⟩ := T.F_kept
  obtain ⟨fd_InvalidNumber, FE_InvalidNumber⟩ := T.F_InvalidNumber___init__
  have GE_InvalidNumber := okE_InvalidNumber (P := P) (w := w) (base := base) T T.e_InvalidNumber FE_InvalidNumber
  have BE_InvalidNumber := FE_InvalidNumber.binds bn_InvalidNumber___init__
  obtain ⟨fd_StepFailed, FE_StepFailed⟩ := T.F_StepFailed___init__
  have GE_StepFailed := okE_StepFailed (P := P) (w := w) (base := base) T T.e_StepFailed FE_StepFailed
  have BE_StepFailed := FE_StepFailed.binds bn_StepFailed___init__
  refine XT.okX F sc_kept bn_kept (fun vs H Q E h => ?_) (fun cdv A outer s H vs Q E hr h => ?_)
  · obtain ⟨e, c, S, B, C, rfl, _⟩ := h
    rfl
  · obtain ⟨e, c, S, B, C, rfl, he, hB, hC, h0, hl, hb, k1, k2⟩ := h
    have G_is_count_list := ok_is_count_list (P := P) (w := w) (base := base) T
    have G_tables := ok_Effect_tables (P := P) (w := w) (base := base) T
    have G_need := ok_Effect_need (P := P) (w := w) (base := base) T
    have G_call_T := ok_Table___call__ (P := P) (w := w) (base := base) T
    refine ⟨_, (pss_cons (ps_if (PW.pt (pw_or (pt_not (pt_val (pe_callR G_is_count_list (hr.mono (by decide)) rfl T.g_is_count_list T.k_is_count_list pass0 (pa_cons (pv 1) pa_nil)))) (pw_or1 (pt_cmpR op_ne (pe_callB (lenK K) (by rfl) T.b_len (by decide +kernel) (pa_cons (pv 1) pa_nil)) (pe_callB (lenK K) (by rfl) T.b_len (by decide +kernel) (pa_cons (pe_propR (pv 0) T.cl_E T.p_tables G_tables (hr.mono (by decide)) pass0 rfl) pa_nil)) (nomark _))))) (pss_one (ps_raiseE T.e_InvalidNumber GE_InvalidNumber BE_InvalidNumber (hr.mono (by decide)) T.g_InvalidNumber rfl (takes_of rfl rfl rfl rfl) (pv 1))) pss_nil)
      (pss_cons (ps_if (pt_cmpR op_lt (pe_callB (cr_sumT K rfl) (by rfl) T.b_sum (by decide +kernel) (pa_cons (pv 1) pa_nil)) (pe_propR (pv 0) T.cl_E T.p_need G_need (hr.mono (by decide)) pass0 rfl) (nomark _)) (pss_one (ps_raiseG T.e_StepFailed GE_StepFailed BE_StepFailed (hr.mono (by decide)) T.g_StepFailed rfl (takes_of rfl rfl rfl rfl) pe_non)) pss_nil)
      (pss_cons (ps_set (i := 2) sc_kept.nd rfl (Or.inl rfl) (pe_lst pa_nil))
      (pss_cons (ps_set (i := 3) sc_kept.nd rfl (Or.inl rfl) (pe_lst pa_nil))
      (pss_cons (ps_set (i := 4) sc_kept.nd rfl (Or.inl rfl) pe_int)
      (pss_cons (ps_set (i := 5) sc_kept.nd rfl (Or.inl rfl) pe_int)
      (pss_cons (ps_for (passes_of rfl) rfl (ZG.pi_zipM (by rfl) T.b_zip (pa_cons (pe_propR (pv 0) T.cl_E T.p_tables G_tables (hr.mono (by decide)) pass0 rfl) (pa_cons (pv 1) pa_nil))) (tupK K (n := 2) (by rfl) (pgs_cons (pg_name (i := 6) sc_kept.nd rfl (Or.inl rfl)) (pgs_cons (pg_name (i := 7) sc_kept.nd rfl (Or.inl rfl)) pgs_nil)))
        (pss_cons (ps_set (i := 8) sc_kept.nd rfl (Or.inl rfl) (pe_callI (pv 6) T.callO_T G_call_T (hr.mono (by decide)) pass0 (pa_cons (pv 4) pa_nil)))
      (pss_cons (ps_expr (bmK K (pe_bm PySem.F.plainAttrs_list PySem.F.slot_list_append PySem.F.type_list_append mt_append (pv 3) (pa_cons (pe_op op_sub (pv 8) (pv 5)) pa_nil))))
      (pss_cons (ps_set (i := 4) sc_kept.nd rfl (Or.inl rfl) (pe_op op_add (pv 4) (pv 7)))
      (pss_cons (ps_set (i := 5) sc_kept.nd rfl (Or.inl rfl) (pe_callI (pv 6) T.callO_T G_call_T (hr.mono (by decide)) pass0 (pa_cons (pv 4) pa_nil)))
      (pss_one (ps_expr (bmK K (pe_bm PySem.F.plainAttrs_list PySem.F.slot_list_append PySem.F.type_list_append mt_append (pv 2) (pa_cons (pe_op op_sub (pv 5) (pv 8)) pa_nil))))))))))
      (pss_one (ps_ret (pe_tup (pa_cons (pv 2) (pa_cons (pe_slice (slLK K) (pv 3) (po_some pe_int) po_none) pa_nil)))))))))))), ?_⟩
    refine ⟨_, rfl, _, rfl, .inl ⟨C, ⟨c, rfl, .inl hC, by omega⟩, fun H1 s1 => ⟨_, rfl, iteN (by rw [h0]; rfl) ?_⟩⟩⟩
    have he1 := he.same s1
    have hC1 := Same.seq s1 hC
    have g := he.good
    obtain ⟨dx, pb, qt, hi⟩ := he1.ins
    refine ⟨_, rfl, c, _, rfl, .inl hC1, _, rfl, e, dx, _, rfl, hi, e, S, rfl, he1, fun q0 B0 ts0 hq0 hT0 hB0 _ => ?_⟩
    have l0 : ts0.length = B0.length + 1 := by rw [hT0.length, Eff.tbs_len]
    have eB := hB0.ext hB
    refine ⟨q0, ts0, rfl, .inr hq0, rfl, _, rfl, iteN (by rw [List.length_map, l0, eB, hl]; simp) ?_⟩
    refine ⟨_, rfl, c, C, rfl, .inl hC1, _, rfl, e, dx, _, rfl, hi, e, S, rfl, he1, _, _, rfl, rfl, _, rfl, ite2 (fun hlt => ?_) (fun hge => ?_)⟩
    · exact err_rd (σ := []) fun d hd => k1 (of_decide_eq_true hlt) d _ (s1.trans (same_new hd)) (s1.free hd) upd_same
    have hn := of_decide_eq_false ((Bool.not_eq_true _).mp hge)
    refine ⟨Nat.zero_le _, fun p hp => ?_⟩
    have sp := same_new (o := .lst []) hp
    refine ⟨Nat.zero_le _, fun q hq => ?_⟩
    have sq := same_new (o := .lst []) hq
    have hp2 := sq _ _ (upd_same (H := H1) (a := p) (o := .lst []))
    have hq2 := upd_same (H := upd H1 p (.lst [])) (a := q) (o := .lst [])
    have s12 := sp.trans sq
    have npq : p ≠ q := fun z => by rw [← z, upd_same] at hq; cases hq
    have np1 : H1 p = Option.none := hp
    have nq1 : H1 q = Option.none := sp.free hq
    generalize upd (upd H1 p (.lst [])) q (.lst []) = H2 at s12 hp2 hq2 ⊢
    have he2 := he1.same s12
    obtain ⟨dy, pb2, qt2, hi2⟩ := he2.ins
    refine ⟨_, rfl, e, dy, _, rfl, hi2, e, S, rfl, he2, fun q9 B9 ts hq9 hT9 hB9 _ => ?_⟩
    have eB9 := hB9.ext hB
    subst eB9
    have lt9 : ts.length = B9.length + 1 := by rw [hT9.length, Eff.tbs_len]
    refine ⟨_, rfl, q9, c, ts, C.map V.int, rfl, hq9, s12.seq hC1, ?_⟩
    refine ZG.for_zipM (K := K) (a := q9) (b := c) (xs := ts) (ys := C.map V.int) (by rw [List.length_map, lt9, hl]) (fun i σ H' => ∃ (old total : Int) (dn : List (Int × Int)) (o6 o7 o8 : Option V), σ = [some (.ref e), some (.ref c), some (.ref p), some (.ref q), some (.int old), some (.int total), o6, o7, o8] ∧ Same H1 H' ∧ SqT K H' q9 ts ∧ H' p = some (.lst ((dn.map (·.2)).map V.int)) ∧ H' q = some (.lst ((dn.map (·.1)).map V.int)) ∧ TbsAt K a.Table H' ts (Eff.tbs S B9) ∧ dn.length = i ∧ 0 ≤ old ∧ Eff.kp S (Eff.thr B9) C 0 0 = dn ++ Eff.kp S ((Eff.thr B9).drop i) (C.drop i) old total)
      ⟨0, 0, [], _, _, _, rfl, s12, hq9, hp2, hq2, hT9, rfl, Int.le_refl _, rfl⟩ (fun i σ H' ⟨_, _, _, _, _, _, _, s, h, _⟩ => ⟨h, s.seq hC1⟩) ?_ ?_
    · rintro i x y U σ H3 hx hy ⟨old, total, dn, o6, o7, o8, rfl, s3, hts, hp3, hq3, hT3, hdl, ho, hkp⟩ hU
      rw [List.getElem?_map] at hy
      obtain ⟨v, hv, rfl⟩ := Option.map_eq_some_iff.mp hy
      have v0 : 0 ≤ v := of_decide_eq_true (List.all_eq_true.mp h0 v (List.mem_of_getElem? hv))
      obtain ⟨pz, hz, r, rfl, tb⟩ := pd_get hT3 hx
      unfold Eff.tbs at hz
      rw [List.getElem?_map] at hz
      obtain ⟨u, hu, rfl⟩ := Option.map_eq_some_iff.mp hz
      have sU := same_new (o := .tup [V.ref r, V.int v]) hU
      have hi3 : i < ts.length := (List.getElem?_eq_some_iff.mp hx).1
      have tb3 := tb.same sU
      have hp4 := sU _ _ hp3
      have hq4 := sU _ _ hq3
      refine ⟨U, [.ref r, .int v], rfl, SqT.of upd_same, rfl, .ref r, [.int v], rfl, .int v, [], rfl, rfl, ?_⟩
      refine ⟨_, rfl, r, rfl, _, rfl, tb3.insA, r, _, _, old, rfl, tb3, ho, ?_⟩
      rw [Eff.tb_mp g ho]
      refine ⟨_, rfl, .inl ⟨rfl, _, SqL.of hq4⟩, _, rfl, _, rfl, _, _, rfl, rfl, q, _, _, rfl, rfl, hq4, Nat.lt_of_lt_of_le (show ((dn.map (·.1)).map V.int).length < 100000 by rw [List.length_map, List.length_map]; omega) line_ge, ?_⟩
      have sA : Same H1 (upd (upd H3 U (.tup [V.ref r, V.int v])) q (.lst ((dn.map (·.1)).map V.int ++ [V.int (Eff.smp u S old - total)]))) := same_upd (s3.trans sU) nq1
      have tb4 : TabAt K a.Table (upd (upd H3 U (.tup [V.ref r, V.int v])) q (.lst ((dn.map (·.1)).map V.int ++ [V.int (Eff.smp u S old - total)]))) r (Eff.tb u S).1 (Eff.tb u S).2 := tab_lst hq4 tb3
      have hT4 : TbsAt K a.Table (upd (upd H3 U (.tup [V.ref r, V.int v])) q (.lst ((dn.map (·.1)).map V.int ++ [V.int (Eff.smp u S old - total)]))) ts (Eff.tbs S B9) := L2.Paired.mapP (tbs_same hT3 sU) fun _ _ z => tbR_lst hq4 z
      have hts4 : SqT K (upd (upd H3 U (.tup [V.ref r, V.int v])) q (.lst ((dn.map (·.1)).map V.int ++ [V.int (Eff.smp u S old - total)]))) q9 ts := kt_upd hq4 _ _ (same_seqT sU hts)
      have hp5 : (upd (upd H3 U (.tup [V.ref r, V.int v])) q (.lst ((dn.map (·.1)).map V.int ++ [V.int (Eff.smp u S old - total)]))) p = some (.lst ((dn.map (·.2)).map V.int)) := by rw [upd_ne npq]; exact hp4
      have hq5 := upd_same (H := upd H3 U (.tup [V.ref r, V.int v])) (a := q) (o := .lst ((dn.map (·.1)).map V.int ++ [V.int (Eff.smp u S old - total)]))
      generalize upd (upd H3 U (.tup [V.ref r, V.int v])) q (.lst ((dn.map (·.1)).map V.int ++ [V.int (Eff.smp u S old - total)])) = H5 at sA tb4 hT4 hts4 hp5 hq5 ⊢
      refine ⟨_, rfl, _, rfl, _, _, rfl, rfl, ?_⟩
      have ho2 : 0 ≤ old + v := by omega
      refine ⟨_, rfl, r, rfl, _, rfl, tb4.insA, r, _, _, old + v, rfl, tb4, ho2, ?_⟩
      rw [Eff.tb_mp g ho2]
      refine ⟨_, rfl, .inl ⟨rfl, _, SqL.of hp5⟩, _, rfl, _, rfl, _, _, rfl, rfl, p, _, _, rfl, rfl, hp5, Nat.lt_of_lt_of_le (show ((dn.map (·.2)).map V.int).length < 100000 by rw [List.length_map, List.length_map]; omega) line_ge, ?_⟩
      refine ⟨old + v, Eff.smp u S (old + v), dn ++ [(Eff.smp u S old - total, Eff.smp u S (old + v) - Eff.smp u S old)], _, _, _, rfl, same_upd sA np1, kt_upd hp5 _ _ hts4, ?_, ?_, L2.Paired.mapP hT4 fun _ _ z => tbR_lst hp5 z, by rw [List.length_append, hdl]; rfl, ho2, ?_⟩
      · rw [upd_same, List.map_append, List.map_append]
        rfl
      · rw [upd_ne (Ne.symm npq), hq5, List.map_append, List.map_append]
        rfl
      · rw [hkp, kp_drop hu hv, List.append_assoc]
        rfl
    · rintro σ H3 ⟨old, total, dn, o6, o7, o8, rfl, s3, hts, hp3, hq3, hT3, hdl, ho, hkp⟩
      have ek : Eff.kp S (Eff.thr B9) C 0 0 = dn := by
        rw [hkp, List.drop_of_length_le (show (Eff.thr B9).length ≤ ts.length by rw [lt9]; simp [Eff.thr])]
        simp [Eff.kp]
      refine ⟨_, rfl, _, rfl, _, rfl, q, _, rfl, SqL.of hq3, fun z hz => ?_⟩
      have sz := same_new (o := .lst (cutV ((dn.map (·.1)).map V.int) (some (1 : Int)) Option.none)) hz
      have ec : cutV ((dn.map (·.1)).map V.int) (some (1 : Int)) Option.none = ((dn.map (·.1)).drop 1).map V.int := by
        have := XT.cut_from 1 ((dn.map (·.1)).map V.int)
        rw [List.map_drop]
        exact this
      refine ⟨by show 2 ≤ sizeLine; decide, fun r hr => ?_⟩
      have sr := same_new (o := .tup [V.ref p, V.ref z]) hr
      refine k2 (by omega) r p z _ (((s1.trans s3).trans sz).trans sr) upd_same ?_ ?_
      · rw [ek]
        exact sr _ _ (sz _ _ hp3)
      · rw [ek, ← ec]
        exact sr _ _ upd_same

theorem okX_keptT (T : Txt K mg a) : FnR P w K mg base (L2.CX P w) 5 a.kept (spKeptT K a.Effect a.Table a.StepFailed) := by
  obtain ⟨fd, F⟩ := T.F_kept
  obtain ⟨fd_InvalidNumber, FE_InvalidNumber⟩ := T.F_InvalidNumber___init__
  have GE_InvalidNumber := okE_InvalidNumber (P := P) (w := w) (base := base) T T.e_InvalidNumber FE_InvalidNumber
  have BE_InvalidNumber := FE_InvalidNumber.binds bn_InvalidNumber___init__
  obtain ⟨fd_StepFailed, FE_StepFailed⟩ := T.F_StepFailed___init__
  have GE_StepFailed := okE_StepFailed (P := P) (w := w) (base := base) T T.e_StepFailed FE_StepFailed
  have BE_StepFailed := FE_StepFailed.binds bn_StepFailed___init__
  refine XT.okX F sc_kept bn_kept (fun vs H Q E h => ?_) (fun cdv A outer s H vs Q E hr h => ?_)
  · obtain ⟨e, c, S, B, C, rfl, _⟩ := h
    rfl
  · obtain ⟨e, c, S, B, C, rfl, he, hB, hC, h0, hl, hb, k1, k2⟩ := h
    have G_is_count_list := ok_is_count_list (P := P) (w := w) (base := base) T
    have G_tables := ok_Effect_tables (P := P) (w := w) (base := base) T
    have G_need := ok_Effect_need (P := P) (w := w) (base := base) T
    have G_call_T := ok_Table___call__ (P := P) (w := w) (base := base) T
    refine ⟨_, (pss_cons (ps_if (PW.pt (pw_or (pt_not (pt_val (pe_callR G_is_count_list (hr.mono (by decide)) rfl T.g_is_count_list T.k_is_count_list pass0 (pa_cons (pv 1) pa_nil)))) (pw_or1 (pt_cmpR op_ne (pe_callB (lenK K) (by rfl) T.b_len (by decide +kernel) (pa_cons (pv 1) pa_nil)) (pe_callB (lenK K) (by rfl) T.b_len (by decide +kernel) (pa_cons (pe_propR (pv 0) T.cl_E T.p_tables G_tables (hr.mono (by decide)) pass0 rfl) pa_nil)) (nomark _))))) (pss_one (ps_raiseE T.e_InvalidNumber GE_InvalidNumber BE_InvalidNumber (hr.mono (by decide)) T.g_InvalidNumber rfl (takes_of rfl rfl rfl rfl) (pv 1))) pss_nil)
      (pss_cons (ps_if (pt_cmpR op_lt (pe_callB (cr_sumT K rfl) (by rfl) T.b_sum (by decide +kernel) (pa_cons (pv 1) pa_nil)) (pe_propR (pv 0) T.cl_E T.p_need G_need (hr.mono (by decide)) pass0 rfl) (nomark _)) (pss_one (ps_raiseG T.e_StepFailed GE_StepFailed BE_StepFailed (hr.mono (by decide)) T.g_StepFailed rfl (takes_of rfl rfl rfl rfl) pe_non)) pss_nil)
      (pss_cons (ps_set (i := 2) sc_kept.nd rfl (Or.inl rfl) (pe_lst pa_nil))
      (pss_cons (ps_set (i := 3) sc_kept.nd rfl (Or.inl rfl) (pe_lst pa_nil))
      (pss_cons (ps_set (i := 4) sc_kept.nd rfl (Or.inl rfl) pe_int)
      (pss_cons (ps_set (i := 5) sc_kept.nd rfl (Or.inl rfl) pe_int)
      (pss_cons (ps_for (passes_of rfl) rfl (RZ.pi_zipA (by rfl) T.b_zip (pa_cons (pe_propR (pv 0) T.cl_E T.p_tables G_tables (hr.mono (by decide)) pass0 rfl) (pa_cons (pv 1) pa_nil))) (tupK K (n := 2) (by rfl) (pgs_cons (pg_name (i := 6) sc_kept.nd rfl (Or.inl rfl)) (pgs_cons (pg_name (i := 7) sc_kept.nd rfl (Or.inl rfl)) pgs_nil)))
        (pss_cons (ps_set (i := 8) sc_kept.nd rfl (Or.inl rfl) (pe_callI (pv 6) T.callO_T G_call_T (hr.mono (by decide)) pass0 (pa_cons (pv 4) pa_nil)))
      (pss_cons (ps_expr (bmK K (pe_bm PySem.F.plainAttrs_list PySem.F.slot_list_append PySem.F.type_list_append mt_append (pv 3) (pa_cons (pe_op op_sub (pv 8) (pv 5)) pa_nil))))
      (pss_cons (ps_set (i := 4) sc_kept.nd rfl (Or.inl rfl) (pe_op op_add (pv 4) (pv 7)))
      (pss_cons (ps_set (i := 5) sc_kept.nd rfl (Or.inl rfl) (pe_callI (pv 6) T.callO_T G_call_T (hr.mono (by decide)) pass0 (pa_cons (pv 4) pa_nil)))
      (pss_one (ps_expr (bmK K (pe_bm PySem.F.plainAttrs_list PySem.F.slot_list_append PySem.F.type_list_append mt_append (pv 2) (pa_cons (pe_op op_sub (pv 5) (pv 8)) pa_nil))))))))))
      (pss_one (ps_ret (pe_tup (pa_cons (pv 2) (pa_cons (pe_slice (slLK K) (pv 3) (po_some pe_int) po_none) pa_nil)))))))))))), ?_⟩
    refine ⟨_, rfl, _, rfl, .inl ⟨C, ⟨c, rfl, .inr hC, by omega⟩, fun H1 s1 => ⟨_, rfl, iteN (by rw [h0]; rfl) ?_⟩⟩⟩
    have he1 := he.same s1
    have hC1 := same_seqT s1 hC
    have g := he.good
    obtain ⟨dx, pb, qt, hi⟩ := he1.ins
    refine ⟨_, rfl, c, _, rfl, .inr hC1, _, rfl, e, dx, _, rfl, hi, e, S, rfl, he1, fun q0 B0 ts0 hq0 hT0 hB0 _ => ?_⟩
    have l0 : ts0.length = B0.length + 1 := by rw [hT0.length, Eff.tbs_len]
    have eB := hB0.ext hB
    refine ⟨q0, ts0, rfl, .inr hq0, rfl, _, rfl, iteN (by rw [List.length_map, l0, eB, hl]; simp) ?_⟩
    refine ⟨_, rfl, c, C, rfl, .inr hC1, _, rfl, e, dx, _, rfl, hi, e, S, rfl, he1, _, _, rfl, rfl, _, rfl, ite2 (fun hlt => ?_) (fun hge => ?_)⟩
    · exact err_rd (σ := []) fun d hd => k1 (of_decide_eq_true hlt) d _ (s1.trans (same_new hd)) (s1.free hd) upd_same
    have hn := of_decide_eq_false ((Bool.not_eq_true _).mp hge)
    refine ⟨Nat.zero_le _, fun p hp => ?_⟩
    have sp := same_new (o := .lst []) hp
    refine ⟨Nat.zero_le _, fun q hq => ?_⟩
    have sq := same_new (o := .lst []) hq
    have hp2 := sq _ _ (upd_same (H := H1) (a := p) (o := .lst []))
    have hq2 := upd_same (H := upd H1 p (.lst [])) (a := q) (o := .lst [])
    have s12 := sp.trans sq
    have npq : p ≠ q := fun z => by rw [← z, upd_same] at hq; cases hq
    have np1 : H1 p = Option.none := hp
    have nq1 : H1 q = Option.none := sp.free hq
    generalize upd (upd H1 p (.lst [])) q (.lst []) = H2 at s12 hp2 hq2 ⊢
    have he2 := he1.same s12
    obtain ⟨dy, pb2, qt2, hi2⟩ := he2.ins
    refine ⟨_, rfl, e, dy, _, rfl, hi2, e, S, rfl, he2, fun q9 B9 ts hq9 hT9 hB9 _ => ?_⟩
    have eB9 := hB9.ext hB
    subst eB9
    have lt9 : ts.length = B9.length + 1 := by rw [hT9.length, Eff.tbs_len]
    refine ⟨_, rfl, q9, c, ts, C.map V.int, rfl, .inr ⟨hq9, same_seqT s12 hC1, ?_⟩⟩
    refine RZ.for_zipT (K := K) (a := q9) (b := c) (xs := ts) (ys := C.map V.int) (by rw [List.length_map, lt9, hl]) (fun i σ H' => ∃ (old total : Int) (dn : List (Int × Int)) (o6 o7 o8 : Option V), σ = [some (.ref e), some (.ref c), some (.ref p), some (.ref q), some (.int old), some (.int total), o6, o7, o8] ∧ Same H1 H' ∧ SqT K H' q9 ts ∧ H' p = some (.lst ((dn.map (·.2)).map V.int)) ∧ H' q = some (.lst ((dn.map (·.1)).map V.int)) ∧ TbsAt K a.Table H' ts (Eff.tbs S B9) ∧ dn.length = i ∧ 0 ≤ old ∧ Eff.kp S (Eff.thr B9) C 0 0 = dn ++ Eff.kp S ((Eff.thr B9).drop i) (C.drop i) old total)
      ⟨0, 0, [], _, _, _, rfl, s12, hq9, hp2, hq2, hT9, rfl, Int.le_refl _, rfl⟩ (fun i σ H' ⟨_, _, _, _, _, _, _, s, h, _⟩ => ⟨h, same_seqT s hC1⟩) ?_ ?_
    · rintro i x y U σ H3 hx hy ⟨old, total, dn, o6, o7, o8, rfl, s3, hts, hp3, hq3, hT3, hdl, ho, hkp⟩ hU
      rw [List.getElem?_map] at hy
      obtain ⟨v, hv, rfl⟩ := Option.map_eq_some_iff.mp hy
      have v0 : 0 ≤ v := of_decide_eq_true (List.all_eq_true.mp h0 v (List.mem_of_getElem? hv))
      obtain ⟨pz, hz, r, rfl, tb⟩ := pd_get hT3 hx
      unfold Eff.tbs at hz
      rw [List.getElem?_map] at hz
      obtain ⟨u, hu, rfl⟩ := Option.map_eq_some_iff.mp hz
      have sU := same_new (o := .tup [V.ref r, V.int v]) hU
      have hi3 : i < ts.length := (List.getElem?_eq_some_iff.mp hx).1
      have tb3 := tb.same sU
      have hp4 := sU _ _ hp3
      have hq4 := sU _ _ hq3
      refine ⟨U, [.ref r, .int v], rfl, SqT.of upd_same, rfl, .ref r, [.int v], rfl, .int v, [], rfl, rfl, ?_⟩
      refine ⟨_, rfl, r, rfl, _, rfl, tb3.insA, r, _, _, old, rfl, tb3, ho, ?_⟩
      rw [Eff.tb_mp g ho]
      refine ⟨_, rfl, .inl ⟨rfl, _, SqL.of hq4⟩, _, rfl, _, rfl, _, _, rfl, rfl, q, _, _, rfl, rfl, hq4, Nat.lt_of_lt_of_le (show ((dn.map (·.1)).map V.int).length < 100000 by rw [List.length_map, List.length_map]; omega) line_ge, ?_⟩
      have sA : Same H1 (upd (upd H3 U (.tup [V.ref r, V.int v])) q (.lst ((dn.map (·.1)).map V.int ++ [V.int (Eff.smp u S old - total)]))) := same_upd (s3.trans sU) nq1
      have tb4 : TabAt K a.Table (upd (upd H3 U (.tup [V.ref r, V.int v])) q (.lst ((dn.map (·.1)).map V.int ++ [V.int (Eff.smp u S old - total)]))) r (Eff.tb u S).1 (Eff.tb u S).2 := tab_lst hq4 tb3
      have hT4 : TbsAt K a.Table (upd (upd H3 U (.tup [V.ref r, V.int v])) q (.lst ((dn.map (·.1)).map V.int ++ [V.int (Eff.smp u S old - total)]))) ts (Eff.tbs S B9) := L2.Paired.mapP (tbs_same hT3 sU) fun _ _ z => tbR_lst hq4 z
      have hts4 : SqT K (upd (upd H3 U (.tup [V.ref r, V.int v])) q (.lst ((dn.map (·.1)).map V.int ++ [V.int (Eff.smp u S old - total)]))) q9 ts := kt_upd hq4 _ _ (same_seqT sU hts)
      have hp5 : (upd (upd H3 U (.tup [V.ref r, V.int v])) q (.lst ((dn.map (·.1)).map V.int ++ [V.int (Eff.smp u S old - total)]))) p = some (.lst ((dn.map (·.2)).map V.int)) := by rw [upd_ne npq]; exact hp4
      have hq5 := upd_same (H := upd H3 U (.tup [V.ref r, V.int v])) (a := q) (o := .lst ((dn.map (·.1)).map V.int ++ [V.int (Eff.smp u S old - total)]))
      generalize upd (upd H3 U (.tup [V.ref r, V.int v])) q (.lst ((dn.map (·.1)).map V.int ++ [V.int (Eff.smp u S old - total)])) = H5 at sA tb4 hT4 hts4 hp5 hq5 ⊢
      refine ⟨_, rfl, _, rfl, _, _, rfl, rfl, ?_⟩
      have ho2 : 0 ≤ old + v := by omega
      refine ⟨_, rfl, r, rfl, _, rfl, tb4.insA, r, _, _, old + v, rfl, tb4, ho2, ?_⟩
      rw [Eff.tb_mp g ho2]
      refine ⟨_, rfl, .inl ⟨rfl, _, SqL.of hp5⟩, _, rfl, _, rfl, _, _, rfl, rfl, p, _, _, rfl, rfl, hp5, Nat.lt_of_lt_of_le (show ((dn.map (·.2)).map V.int).length < 100000 by rw [List.length_map, List.length_map]; omega) line_ge, ?_⟩
      refine ⟨old + v, Eff.smp u S (old + v), dn ++ [(Eff.smp u S old - total, Eff.smp u S (old + v) - Eff.smp u S old)], _, _, _, rfl, same_upd sA np1, kt_upd hp5 _ _ hts4, ?_, ?_, L2.Paired.mapP hT4 fun _ _ z => tbR_lst hp5 z, by rw [List.length_append, hdl]; rfl, ho2, ?_⟩
      · rw [upd_same, List.map_append, List.map_append]
        rfl
      · rw [upd_ne (Ne.symm npq), hq5, List.map_append, List.map_append]
        rfl
      · rw [hkp, kp_drop hu hv, List.append_assoc]
        rfl
    · rintro σ H3 ⟨old, total, dn, o6, o7, o8, rfl, s3, hts, hp3, hq3, hT3, hdl, ho, hkp⟩
      have ek : Eff.kp S (Eff.thr B9) C 0 0 = dn := by
        rw [hkp, List.drop_of_length_le (show (Eff.thr B9).length ≤ ts.length by rw [lt9]; simp [Eff.thr])]
        simp [Eff.kp]
      refine ⟨_, rfl, _, rfl, _, rfl, q, _, rfl, SqL.of hq3, fun z hz => ?_⟩
      have sz := same_new (o := .lst (cutV ((dn.map (·.1)).map V.int) (some (1 : Int)) Option.none)) hz
      have ec : cutV ((dn.map (·.1)).map V.int) (some (1 : Int)) Option.none = ((dn.map (·.1)).drop 1).map V.int := by
        have := XT.cut_from 1 ((dn.map (·.1)).map V.int)
        rw [List.map_drop]
        exact this
      refine ⟨by show 2 ≤ sizeLine; decide, fun r hr => ?_⟩
      have sr := same_new (o := .tup [V.ref p, V.ref z]) hr
      refine k2 (by omega) r p z _ (((s1.trans s3).trans sz).trans sr) upd_same ?_ ?_
      · rw [ek]
        exact sr _ _ (sz _ _ hp3)
      · rw [ek, ← ec]
        exact sr _ _ upd_same

/-- spread -/
def spSpread (K : PySem.W.Frag) : Sp := fun vs H Q _ => ∃ (p q : Addr) (A F : List Int), vs = [.ref p, .ref q] ∧ SqT K H p (A.map V.int) ∧ SqL K H q (F.map V.int) ∧ A.length = F.length ∧ F.Pairwise (· ≤ ·) ∧ (∀ x ∈ F, 0 ≤ x ∧ x ≤ 90000) ∧
  ∀ r H', Same H H' → H r = Option.none → H' r = some (.lst ((Eff.spr 0 (A.zip F)).map V.int)) → Q (.ref r) H'
theorem spr_drop {A F : List Int} {i : Nat} {v f b : Int} (h1 : A[i]? = some v) (h2 : F[i]? = some f) : Eff.spr b ((A.zip F).drop i) = List.replicate (f - b).toNat v ++ Eff.spr f ((A.zip F).drop (i + 1)) := by
  have h3 : (A.zip F)[i]? = some (v, f) := by
    rw [List.getElem?_zip_eq_some]
    exact ⟨h1, h2⟩
  obtain ⟨hi, e⟩ := List.getElem?_eq_some_iff.mp h3
  rw [List.drop_eq_getElem_cons hi, e]
  rfl
theorem ok_spread (T : Txt K mg a) : FnR P w K mg base CX0 1 a.spread (spSpread K) := by
  obtain ⟨fd, F⟩ := T.F_spread
  refine XT.okR F sc_spread bn_spread (fun vs H Q E h => ?_) (fun cdv A outer s H vs Q E hr h => ?_)
  · obtain ⟨p, q, A, F, rfl, _⟩ := h
    rfl
  · obtain ⟨p, q, A, F, rfl, hp, hq, hl, pw, bd, k⟩ := h
    refine ⟨_, (pss_cons (ps_set (i := 2) sc_spread.nd rfl (Or.inl rfl) (pe_lst pa_nil))
      (pss_cons (ps_set (i := 3) sc_spread.nd rfl (Or.inl rfl) pe_int)
      (pss_cons (ps_for PassesOwn.never rfl (ZG.pi_zipM (by rfl) T.b_zip (pa_cons (pv 0) (pa_cons (pv 1) pa_nil))) (tupK K (n := 2) (by rfl) (pgs_cons (pg_name (i := 4) sc_spread.nd rfl (Or.inl rfl)) (pgs_cons (pg_name (i := 5) sc_spread.nd rfl (Or.inl rfl)) pgs_nil)))
        (pss_cons (ps_expr (bmK K (pe_bm PySem.F.plainAttrs_list PySem.F.slot_list_extend PySem.F.type_list_extend mt_extend (pv 2) (pa_cons (pe_op op_rep (pe_lst (pa_cons (pv 4) pa_nil)) (pe_op op_sub (pv 5) (pv 3))) pa_nil))))
      (pss_one (ps_set (i := 3) sc_spread.nd rfl (Or.inl rfl) (pv 5)))))
      (pss_one (ps_ret (pv 2)))))), ?_⟩
    refine ⟨Nat.zero_le _, fun r hr => ?_⟩
    have s0 := same_new (o := .lst []) hr
    refine ⟨_, rfl, _, rfl, p, q, _, _, rfl, same_seqT s0 hp, s0.seq hq, ZG.for_zipM (K := K) (a := p) (b := q) (xs := A.map V.int) (ys := F.map V.int) (by rw [List.length_map, List.length_map, hl]) (fun i σ H' => ∃ (b : Int) (acc : List Int) (o4 o5 : Option V), σ = [some (.ref p), some (.ref q), some (.ref r), some (.int b), o4, o5] ∧ Same H H' ∧ H' r = some (.lst (acc.map V.int)) ∧ 0 ≤ b ∧ (acc.length : Int) ≤ b ∧ b ≤ 90000 ∧ (∀ x ∈ F.drop i, b ≤ x) ∧ Eff.spr 0 (A.zip F) = acc ++ Eff.spr b ((A.zip F).drop i))
      ⟨0, [], _, _, rfl, s0, upd_same, by decide, by simp, by decide, fun x hx => (bd x hx).1, rfl⟩ (fun i σ H' ⟨_, _, _, _, _, s, _⟩ => ⟨same_seqT s hp, s.seq hq⟩) ?_ ?_⟩
    · rintro i x y U σ H' hx hy ⟨b, acc, o4, o5, rfl, s, hr', b0, hab, hb9, hF, hE⟩ hU
      rw [List.getElem?_map] at hx hy
      obtain ⟨v, hv, rfl⟩ := Option.map_eq_some_iff.mp hx
      obtain ⟨f, hf, rfl⟩ := Option.map_eq_some_iff.mp hy
      have sU := same_new (o := .tup [V.int v, V.int f]) hU
      obtain ⟨hi, ef⟩ := List.getElem?_eq_some_iff.mp hf
      have hbf : b ≤ f := hF f (by rw [List.drop_eq_getElem_cons hi, ef]; exact List.mem_cons_self)
      have hf9 := (bd f (List.mem_of_getElem? hf)).2
      refine ⟨U, [.int v, .int f], rfl, SqT.of upd_same, rfl, .int v, [.int f], rfl, .int f, [], rfl, rfl, ?_⟩
      have hr1 := sU _ _ hr'
      refine ⟨_, rfl, .inl ⟨rfl, _, SqL.of hr1⟩, _, rfl, by show 1 ≤ sizeLine; decide, fun d hd => ?_⟩
      have s2 := same_new (o := .lst [V.int v]) hd
      refine ⟨_, rfl, _, rfl, _, _, rfl, rfl, d, f - b, [V.int v], rfl, rfl, upd_same, by omega, by omega, ?_, fun c hc => ?_⟩
      · show 1 * (f - b).toNat ≤ sizeLine
        exact Nat.le_trans (show 1 * (f - b).toNat ≤ 100000 by omega) line_ge
      have efl2 : (List.replicate (f - b).toNat [V.int v]).flatten = (List.replicate (f - b).toNat v).map V.int := by
        generalize (f - b).toNat = n
        induction n with
        | zero => rfl
        | succ n ih => rw [List.replicate_succ, List.replicate_succ, List.flatten_cons, ih]; rfl
      rw [efl2]
      have s3 := same_new (o := .lst ((List.replicate (f - b).toNat v).map V.int)) hc
      refine ⟨r, c, _, _, rfl, rfl, s3 _ _ (s2 _ _ hr1), upd_same, ?_, ?_⟩
      · rw [List.length_map, List.length_map, List.length_replicate]
        exact Nat.le_trans (show acc.length + (f - b).toNat ≤ 100000 by omega) line_ge
      refine ⟨_, rfl, f, acc ++ List.replicate (f - b).toNat v, _, _, rfl, same_upd (((s.trans sU).trans s2).trans s3) hr, ?_, by omega, ?_, hf9, ?_, ?_⟩
      · rw [upd_same, List.map_append]
      · rw [List.length_append, List.length_replicate]
        omega
      · intro x hx
        rw [List.drop_eq_getElem_cons hi, List.forall_mem_cons] at hF
        have h4 := pw
        rw [← List.take_append_drop i F] at h4
        have h5 := (List.pairwise_append.mp h4).2.1
        rw [List.drop_eq_getElem_cons hi, ef] at h5
        exact (List.pairwise_cons.mp h5).1 x hx
      · rw [hE, spr_drop hv hf, List.append_assoc]
    · rintro σ H' ⟨b, acc, o4, o5, rfl, s, hr', b0, hab, hb9, hF, hE⟩
      refine ⟨_, rfl, k r H' s hr ?_⟩
      rw [hE, List.drop_of_length_le (by rw [List.length_zip, List.length_map]; omega), hr']
      simp [Eff.spr]

theorem smp_tmono {t u : Int} (h : t ≤ u) : ∀ (S : List Stp) {c d : Int}, c ≤ d → Eff.smp t S c ≤ Eff.smp u S d
  | [], c, d, hcd => hcd
  | (b, k) :: S, c, d, hcd => by
    refine smp_tmono h S ?_
    cases b with
    | true =>
      simp only [Eff.smp1, if_true]
      by_cases h1 : k ≤ t
      · rw [if_pos h1, if_pos (by omega)]; omega
      · rw [if_neg h1]
        split <;> omega
    | false =>
      have e : ∀ (v c' : Int), Eff.smp1 v c' (false, k) = if k ≤ c' then c' - 1 else c' := fun v c' => by simp [Eff.smp1]
      rw [e, e]
      split <;> split <;> omega
theorem smp_ub (t : Int) : ∀ (S : List Stp) (c : Int), Eff.smp t S c ≤ c + S.length
  | [], c => by simp [Eff.smp]
  | s :: S, c => by
    have h1 := smp_ub t S (Eff.smp1 t c s)
    have h2 : Eff.smp1 t c s ≤ c + 1 := by
      unfold Eff.smp1
      split <;> split <;> omega
    rw [List.length_cons]
    show Eff.smp t S (Eff.smp1 t c s) ≤ _
    omega
theorem tb_fst {t : Int} {S : List Stp} (g : ∀ s ∈ S, goodS s = true) : (Eff.tb t S).1 = Eff.smp t S 0 := by
  rw [← Eff.tb_mp g (Int.le_refl 0)]
  have h := (Eff.tb_ok (t := t) g).pos
  have e : Tbl.cnt (Eff.tb t S).2 0 = 0 := Gap.cnt_lo fun x hx => by have := h x hx; omega
  unfold Tbl.mp
  omega
def spKnX (K : PySem.W.Frag) (CE CT CN CS : Addr) : Sp := fun vs H Q E => ∃ (e : Addr) (y : V) (S : List Stp), vs = [.ref e, y] ∧ EffAt K CE CT H e S ∧ S.length ≤ 2000 ∧
  ((KV K H y ∧ cntV y = false ∧ ∀ d H', Same H H' → H d = Option.none → H' d = some (.xd [("value", y)]) → E (.ref CN) (some d) H') ∨
   (∃ n : Int, y = .int n ∧ 0 ≤ n ∧ (n < Eff.need S → ∀ d H', Same H H' → H d = Option.none → H' d = some (.xd [("index", .non)]) → E (.ref CS) (some d) H') ∧
     (Eff.need S ≤ n → ∀ B, Eff.Brk S B → ∀ r H', Same H H' → H' r = some (.lst ((Eff.spr 0 (B.zip (B.map fun b => Eff.smp b S 0))).map V.int)) → Q (.ref r) H')))
theorem okX_kept_numbers (T : Txt K mg a) : FnR P w K mg base (L2.CX P w) 5 a.kept_numbers (spKnX K a.Effect a.Table a.InvalidNumber a.StepFailed) := by
  obtain ⟨fd, F⟩ := T.F_kept_numbers
  obtain ⟨fd_InvalidNumber, FE_InvalidNumber⟩ := T.F_InvalidNumber___init__
  have GE_InvalidNumber := okE_InvalidNumber (P := P) (w := w) (base := base) T T.e_InvalidNumber FE_InvalidNumber
  have BE_InvalidNumber := FE_InvalidNumber.binds bn_InvalidNumber___init__
  obtain ⟨fd_StepFailed, FE_StepFailed⟩ := T.F_StepFailed___init__
  have GE_StepFailed := okE_StepFailed (P := P) (w := w) (base := base) T T.e_StepFailed FE_StepFailed
  have BE_StepFailed := FE_StepFailed.binds bn_StepFailed___init__
  refine XT.okX F sc_kept_numbers bn_kept_numbers (fun vs H Q E h => ?_) (fun cdv A outer s H vs Q E hr h => ?_)
  · obtain ⟨e, y, S, rfl, _⟩ := h
    rfl
  · obtain ⟨e, y, S, rfl, he, hz, h⟩ := h
    have G_is_count := ok_is_count (P := P) (w := w) (base := base) T
    have G_need := ok_Effect_need (P := P) (w := w) (base := base) T
    have G_breaks := ok_Effect_breaks (P := P) (w := w) (base := base) T
    have G_tables := ok_Effect_tables (P := P) (w := w) (base := base) T
    have G_start := ok_Table_start (P := P) (w := w) (base := base) T
    have G_spread := ok_spread (P := P) (w := w) (base := base) T
    refine ⟨_, (pss_cons (ps_if (pt_not (pt_val (pe_callR G_is_count (hr.mono (by decide)) rfl T.g_is_count T.k_is_count pass0 (pa_cons (pv 1) pa_nil)))) (pss_one (ps_raiseE T.e_InvalidNumber GE_InvalidNumber BE_InvalidNumber (hr.mono (by decide)) T.g_InvalidNumber rfl (takes_of rfl rfl rfl rfl) (pv 1))) pss_nil)
      (pss_cons (ps_if (pt_cmpR op_lt (pv 1) (pe_propR (pv 0) T.cl_E T.p_need G_need (hr.mono (by decide)) pass0 rfl) (nomark _)) (pss_one (ps_raiseG T.e_StepFailed GE_StepFailed BE_StepFailed (hr.mono (by decide)) T.g_StepFailed rfl (takes_of rfl rfl rfl rfl) pe_non)) pss_nil)
      (pss_one (ps_ret (pe_callR G_spread (hr.mono (by decide)) rfl T.g_spread T.k_spread pass0 (pa_cons (pe_propR (pv 0) T.cl_E T.p_breaks G_breaks (hr.mono (by decide)) pass0 rfl) (pa_cons (pe_lc (own := [("table", 2)])  rfl sc_kept_numbers.nd (pi_tup (pe_slice (slTK K) (pe_propR (pv 0) T.cl_E T.p_tables G_tables (hr.mono (by decide)) pass0 rfl) (po_some pe_int) po_none)) (blkOk_by (N := N_kept_numbers) (sc := defScope s_kept_numbers) (by decide +kernel)) (fun _ _ _ _ _ => by exact (pg_name (i := 2) sc_kept_numbers.nd rfl (Or.inl rfl))) (fun _ _ _ _ _ => by exact pts_nil) (fun _ _ _ _ _ => by exact (pe_propR (pv 2) T.cl_T T.p_start G_start (hr.mono (by decide)) pass0 rfl))) pa_nil))))))), ?_⟩
    rcases h with ⟨ky, cy, k⟩ | ⟨n, rfl, n0, k1, k2⟩
    · exact ⟨_, rfl, _, rfl, ky, _, rfl, iteH (by rw [cy]; rfl) ⟨_, rfl, err_rd fun d hd => k d _ (same_new hd) hd upd_same⟩⟩
    · have g := he.good
      obtain ⟨dx, pb, qt, hi⟩ := he.ins
      refine ⟨_, rfl, _, rfl, kv_int n, _, rfl, iteN (by simp [cntV, n0]) ?_⟩
      refine ⟨_, rfl, _, rfl, e, dx, _, rfl, hi, e, S, rfl, he, _, _, rfl, rfl, _, rfl, ite2 (fun hlt => ?_) (fun hge => ?_)⟩
      · exact err_rd (σ := []) fun d hd => k1 (of_decide_eq_true hlt) d _ (same_new hd) hd upd_same
      have hn : Eff.need S ≤ n := by
        have := of_decide_eq_false ((Bool.not_eq_true _).mp hge)
        omega
      refine ⟨_, rfl, e, dx, _, rfl, hi, e, S, rfl, he, fun p B hp hB hBl => ?_⟩
      refine ⟨_, rfl, e, dx, _, rfl, hi, e, S, rfl, he, fun q B2 ts hq hT hB2 _ => ?_⟩
      have eB := hB2.ext hB
      subst eB
      have lt9 : ts.length = B2.length + 1 := by rw [hT.length, Eff.tbs_len]
      have hg := he.good
      refine ⟨_, rfl, q, ts, rfl, hq, fun hw => ?_, fun hw z hz => ?_⟩
      · exfalso
        have h1 := hw.1
        have e1 : HT.sIx ts.length 0 (some 1) = min 1 ts.length := HT.sIx_nat _ 0 1
        rw [e1] at h1
        omega
      rw [cut1]
      have sz := same_new (o := .tup (ts.drop 1)) hz
      have hz1 := upd_same (H := H) (a := z) (o := .tup (ts.drop 1))
      generalize upd H z (.tup (ts.drop 1)) = H1 at sz hz1 ⊢
      have lz : (ts.drop 1).length = B2.length := by rw [List.length_drop, lt9]; rfl
      refine ⟨z, rfl, ⟨_, SqT.of hz1⟩, fun D hD => lcM (stat_tup (SqT.of hz1)) hD (fun i => .int (Eff.smp (B2.getD i 0) S 0)) (Nat.le_trans (show (ts.drop 1).length ≤ 100000 by omega) line_ge) ?_ ?_⟩
      · intro i x H3 R hi s3 px kk
        rw [List.getElem?_drop] at px
        obtain ⟨pz, hpz, t, rfl, tb⟩ := pd_get hT px
        have hb : ∃ b, B2[i]? = some b ∧ pz = Eff.tb b S := by
          unfold Eff.tbs Eff.thr at hpz
          rw [List.getElem?_map, Nat.add_comm, List.getElem?_cons_succ] at hpz
          obtain ⟨b, h1, h2⟩ := Option.map_eq_some_iff.mp hpz
          exact ⟨b, h1, h2.symm⟩
        obtain ⟨b, hb, rfl⟩ := hb
        have tb3 := tb.same (sz.trans s3)
        obtain ⟨dy, fs, hfs⟩ := tb3.insA
        refine ⟨rfl, _, rfl, t, dy, fs, rfl, hfs, t, _, _, rfl, tb3, ?_⟩
        have e : B2.getD i 0 = b := by rw [List.getD_eq_getElem?_getD, hb]; rfl
        rw [e] at kk
        show R (.int (Eff.tb b S).1) H3
        rw [tb_fst hg]
        exact kk H3 (Same.refl H3)
      · intro H3 s3 hL
        have eL : ((List.range (ts.drop 1).length).map fun i => V.int (Eff.smp (B2.getD i 0) S 0)) = (B2.map fun b => Eff.smp b S 0).map V.int := by
          rw [lz]
          refine List.ext_getElem (by simp) fun i h1 h2 => ?_
          have hi : i < B2.length := by simpa using h1
          simp [List.getD_eq_getElem?_getD, List.getElem?_eq_getElem hi]
        rw [eL] at hL
        have s13 := sz.trans s3
        refine ⟨p, D, B2, _, rfl, same_seqT s13 hp, SqL.of hL, by rw [List.length_map], ?_, fun x hx => ?_, fun r H5 s5 n5 hr => k2 hn B2 hB r H5 (s13.trans s5) hr⟩
        · rw [List.pairwise_map]
          exact hB.asc.imp fun h => smp_tmono (Int.le_of_lt h) S (Int.le_refl 0)
        · obtain ⟨b, _, rfl⟩ := List.mem_map.mp hx
          have := smp_ub b S 0
          exact ⟨Eff.smp_nn hg (Int.le_refl 0), by omega⟩

end
end K15
namespace K15
open PySem L2 XT
section
variable {P : Program} {w : World} {K : PySem.W.Frag} {mg : Str → Option Value} {base : Heap} {a : Ads}
local macro_rules | `(tactic| walk_at "rside") => `(tactic| first | (show (0 : Int) < _; first | decide | omega) | (exact ⟨by first | decide | omega, by first | decide | omega⟩) | (exact Or.inl ⟨by omega, by omega⟩) | (exact Or.inr ⟨by omega, by omega⟩) | (exact ⟨by decide, by decide, by decide⟩))
local macro_rules | `(tactic| walk_at "rd1") => `(tactic| first | (refine ⟨_, rfl, ?_⟩) | (refine ⟨_, _, rfl, rfl, (by walk_at "rside"), ?_⟩) | (refine ⟨_, _, rfl, rfl, ?_⟩))
local macro_rules | `(tactic| walk_at "rd") => `(tactic| repeat (walk_at "rd1"))

/-- a value that a law asks with, and its data -/
structure Odv (K : PySem.W.Frag) (H : Hp) (x : V) (d : PyData) : Prop where
  kv : KV K H x
  od : Okd d
  rd : Rd K H x d
  tx : txD d = true
theorem Odv.same {H H' : Hp} {x : V} {d : PyData} (h : Odv K H x d) (s : Same H H') : Odv K H' x d := ⟨h.kv.same s, h.od, rd_same s h.rd, h.tx⟩
theorem sh_err {w : Str} (hw : PyData.strOk w = true) (b : Bool) : SeqAt.shaped (.tuple [.str w, .bool b]) = true := by
  simp [SeqAt.shaped, PyData.canLay0, PyData.canLayAll0, PyData.depth, PyData.depthAll, hw]
theorem dp_err {H : Hp} {r : Addr} {w : Str} {b : Bool} (h : H r = some (.tup [.str w, .bl b])) : Dp K H (.ref r) (.tuple [.str w, .bool b]) := .tup (SqT.of h) (.cons (.str w) (.cons (.bl b) .nil))
theorem log_small {i : Int} (h : i.natAbs < 2 ^ 250) : i.natAbs.log2 < 1920 := by
  by_cases z : i.natAbs = 0
  · rw [z]; decide
  · exact (Nat.log2_lt z).mpr (Nat.lt_of_lt_of_le h (Nat.pow_le_pow_right (by decide) (by decide)))
theorem odv_int {H : Hp} {i : Int} (h : i.natAbs < 2 ^ 250) : Odv K H (.int i) (.int i) := ⟨kv_int i, ⟨by simp [plainD, log_small h], by simp [PyData.depth], by simp [sc]⟩, .inl ⟨.int _, rfl⟩, rfl⟩
theorem odv_non {H : Hp} : Odv K H .non .none := ⟨⟨"NoneType", .non, by decide +kernel⟩, ⟨by decide +kernel, by decide +kernel, by decide +kernel⟩, .inl ⟨.non, rfl⟩, by decide +kernel⟩
theorem odv_bl {H : Hp} (b : Bool) : Odv K H (.bl b) (.bool b) := ⟨⟨"bool", .bl _, by decide +kernel⟩, ⟨by cases b <;> decide +kernel, by cases b <;> decide +kernel, by cases b <;> decide +kernel⟩, .inl ⟨.bl _, rfl⟩, by cases b <;> decide +kernel⟩
theorem odv_str {H : Hp} (x : Str) (h1 : plainD (.str x) = true) (h2 : sc (.str x) ≤ 16000000) (h3 : txD (.str x) = true) : Odv K H (.str x) (.str x) := ⟨⟨"str", .str _, by decide +kernel⟩, ⟨h1, by simp [PyData.depth], h2⟩, .inl ⟨.str _, rfl⟩, h3⟩
theorem odv_tup1 {H : Hp} {z : Addr} {i : Int} (f : H z = some (.tup [.int i])) (h : i.natAbs < 2 ^ 250) : Odv K H (.ref z) (.tuple [.int i]) := ⟨⟨"tuple", .tup (SqT.of f), by decide +kernel⟩, ⟨by simp [plainD, plainAll, log_small h], by simp [PyData.depth, PyData.depthAll], by simp [sc, scAll]⟩, .inl ⟨dp_tup (L := [i]) (SqT.of f), rfl⟩, rfl⟩
theorem odv_lst1 {H : Hp} {z : Addr} {i : Int} (f : H z = some (.lst [.int i])) (h : i.natAbs < 2 ^ 250) : Odv K H (.ref z) (.list [.int i]) := ⟨⟨"list", .lst (SqL.of f), by decide +kernel⟩, ⟨by simp [plainD, plainAll, log_small h], by simp [PyData.depth, PyData.depthAll], by simp [sc, scAll]⟩, .inl ⟨dp_lst (L := [i]) (SqL.of f), rfl⟩, rfl⟩
theorem odv_lst0 {H : Hp} {z : Addr} (f : H z = some (.lst [])) : Odv K H (.ref z) (.list []) := ⟨⟨"list", .lst (SqL.of f), by decide +kernel⟩, ⟨by decide +kernel, by decide +kernel, by decide +kernel⟩, .inl ⟨dp_lst (L := []) (SqL.of f), rfl⟩, rfl⟩
theorem odv_dict {H : Hp} {z : Addr} (f : H z = some (.dK [])) : Odv K H (.ref z) (.dict []) := ⟨⟨"dict", .dK f, by decide +kernel⟩, ⟨by decide +kernel, by decide +kernel, by decide +kernel⟩, .inr (.inl ⟨z, rfl, f, rfl⟩), by decide +kernel⟩
def ToldK (H : Hp) (l : Addr) (S : List Stp) (B C : List Int) : Prop := ∃ r p q, H l = some (.lst [.str "told", .ref r]) ∧ H r = some (.tup [.ref p, .ref q]) ∧ H p = some (.lst (((Eff.kp S (Eff.thr B) C 0 0).map (·.2)).map V.int)) ∧ H q = some (.lst ((((Eff.kp S (Eff.thr B) C 0 0).map (·.1)).drop 1).map V.int))
def ToldN (H : Hp) (l : Addr) (M : List Int) : Prop := ∃ r, H l = some (.lst [.str "told", .ref r]) ∧ H r = some (.lst (M.map V.int))
def spCau (K : PySem.W.Frag) (CE CT : Addr) : Sp := fun vs H Q _ => ∃ (way : Int) (e : Addr) (x : V) (S : List Stp) (B : List Int), vs = [.int way, .ref e, x] ∧ EffAt K CE CT H e S ∧ Eff.Brk S B ∧ S.length ≤ 2000 ∧ B.length ≤ 500 ∧
  ((way = 0 ∧ BadC K H x (B.length + 1) ∧ ∃ d, Odv K H x d ∧ ∀ t H', Same H H' → H' t = some (.lst [.str "number", .str d.shown]) → Q (.ref t) H') ∨
   (way = 0 ∧ ∃ C, NumsAt K H x C ∧ nnL C = true ∧ C.length = B.length + 1 ∧ (C.sum < Eff.need S → ∀ t H', Same H H' → H' t = some (.lst [.str "failed", .non]) → Q (.ref t) H') ∧ (Eff.need S ≤ C.sum → ∀ l H', Same H H' → ToldK H' l S B C → Q (.ref l) H')) ∨
   (way = 1 ∧ cntV x = false ∧ ∃ d, Odv K H x d ∧ ∀ t H', Same H H' → H' t = some (.lst [.str "number", .str d.shown]) → Q (.ref t) H') ∨
   (way = 1 ∧ ∃ n : Int, x = .int n ∧ 0 ≤ n ∧ (n < Eff.need S → ∀ t H', Same H H' → H' t = some (.lst [.str "failed", .non]) → Q (.ref t) H') ∧ (Eff.need S ≤ n → ∀ l H', Same H H' → ToldN H' l (Eff.spr 0 (B.zip (B.map fun b => Eff.smp b S 0))) → Q (.ref l) H')))
theorem okU_kept (T : Txt K mg a) : FnR P w K mg base (L2.CX P w) 5 a.kept (fun vs H Q E => spKeptB K a.Effect a.Table a.InvalidNumber vs H Q E ∨ spKeptL K a.Effect a.Table a.StepFailed vs H Q E ∨ spKeptT K a.Effect a.Table a.StepFailed vs H Q E) := fnR_or (okX_keptB T) (fnR_or (okX_keptL T) (okX_keptT T))
theorem ok_law_caught (T : Txt K mg a) : FnG P w K mg base CX0 12 a.law_caught (spCau K a.Effect a.Table) := by
  obtain ⟨fd, F⟩ := T.F_law_caught
  have G_kept := okU_kept (P := P) (w := w) (base := base) T
  have G_kept_numbers := okX_kept_numbers (P := P) (w := w) (base := base) T
  refine XT.okGX F sc_law_caught bn_law_caught (fun vs H Q E h => ?_) (fun cdv A outer s H vs Q E hg hr h => ?_)
  · obtain ⟨way, e, x, S, B, rfl, _⟩ := h
    rfl
  · obtain ⟨way, e, x, S, B, rfl, he, hB, hz, hb, h⟩ := h
    refine ⟨_, (pss_one (ps_try_asL rfl rfl sc_law_caught.nd takes0 (fun W pn xe tk po => (pss_one (ps_ret (pe_lst (pa_cons pe_str (pa_cons (pe_ifExp (pt_cmpR op_eq (pv 0) pe_int (nomark _)) (pe_callR G_kept (hr.mono (by decide)) rfl T.g_kept T.k_kept (passAll tk 4 rfl) (pa_cons (pv 1) (pa_cons (pv 2) pa_nil))) (pe_callR G_kept_numbers (hr.mono (by decide)) rfl T.g_kept_numbers T.k_kept_numbers (passAll tk 4 rfl) (pa_cons (pv 1) (pa_cons (pv 2) pa_nil)))) pa_nil))))))
      (AsOk.cons (i := 3) ⟨by rfl, by decide, .inl T.g_InvalidNumber⟩ rfl rfl (fun ea oe cls d pn hz hf => (pss_one (ps_ret (pe_lst (pa_cons pe_str (pa_cons (pe_callB (reprKx K hg hr.units) (by rfl) T.b_repr (by decide +kernel) (pa_cons (pe_xf T.e_InvalidNumber.xf T.e_InvalidNumber.no hz hf (pv 3)) pa_nil)) pa_nil))))))
      (AsOk.cons (i := 3) ⟨by rfl, by decide, .inl T.g_StepFailed⟩ rfl rfl (fun ea oe cls d pn hz hf => (pss_one (ps_ret (pe_lst (pa_cons pe_str (pa_cons (pe_xf T.e_StepFailed.xf T.e_StepFailed.no hz hf (pv 3)) pa_nil))))))
      AsOk.nil)))), ?_⟩
    rcases h with ⟨rfl, bad, D, od, k⟩ | ⟨rfl, C, ⟨c, rfl, hS | hS, hcl⟩, h0, hl, k1, k2⟩ | ⟨rfl, cx, D, od, k⟩ | ⟨rfl, n, rfl, n0, k1, k2⟩
    · refine ⟨_, rfl, rfl, _, rfl, iteH (by rfl) ?_⟩
      refine ⟨_, rfl, _, rfl, .inl ⟨e, x, S, B, rfl, he, hB, hb, bad, fun dd HX sX nX hdd σ hσ => ?_⟩⟩
      refine ⟨true, T.x_NN, fun _ ea hea => ?_, fun q => Bool.noConfusion q⟩
      have he4 : (σ.set 3 (some (V.ref ea)))[3]? = some (some (V.ref ea)) := by simp [hσ]
      refine ⟨_, he4, rfl, rfl, dd, _, _, rfl, hdd, rfl, _, D, rfl, rd_same sX od.rd, od.od.pl, od.od.dp, od.od.sz, ?_⟩
      exact ⟨by show 2 ≤ sizeLine; decide, fun t ht => k t _ (sX.trans (same_new ht)) upd_same⟩
    · refine ⟨_, rfl, rfl, _, rfl, iteH (by rfl) ?_⟩
      refine ⟨_, rfl, _, rfl, .inr (.inl ⟨e, c, S, B, C, rfl, he, hB, hS, h0, hl, hb, fun hlt dd HX sX nX hdd σ hσ => ?_, fun hge r p q HX sX hr hp hq => ?_⟩)⟩
      · refine ⟨false, T.x_SN, (fun q => Bool.noConfusion q), fun _ => ⟨true, T.x_SS, fun _ ea hea => ?_, fun q => Bool.noConfusion q⟩⟩
        have he4 : (σ.set 3 (some (V.ref ea)))[3]? = some (some (V.ref ea)) := by simp [hσ]
        refine ⟨_, he4, rfl, rfl, dd, _, _, rfl, hdd, rfl, ?_⟩
        exact ⟨by show 2 ≤ sizeLine; decide, fun t ht => k1 hlt t _ (sX.trans (same_new ht)) upd_same⟩
      · refine ⟨by show 2 ≤ sizeLine; decide, fun l hl9 => ?_⟩
        have s9 := same_new (o := .lst [V.str "told", V.ref r]) hl9
        exact k2 hge l _ (sX.trans s9) ⟨r, p, q, upd_same, s9 _ _ hr, s9 _ _ hp, s9 _ _ hq⟩
    · refine ⟨_, rfl, rfl, _, rfl, iteH (by rfl) ?_⟩
      refine ⟨_, rfl, _, rfl, .inr (.inr ⟨e, c, S, B, C, rfl, he, hB, hS, h0, hl, hb, fun hlt dd HX sX nX hdd σ hσ => ?_, fun hge r p q HX sX hr hp hq => ?_⟩)⟩
      · refine ⟨false, T.x_SN, (fun q => Bool.noConfusion q), fun _ => ⟨true, T.x_SS, fun _ ea hea => ?_, fun q => Bool.noConfusion q⟩⟩
        have he4 : (σ.set 3 (some (V.ref ea)))[3]? = some (some (V.ref ea)) := by simp [hσ]
        refine ⟨_, he4, rfl, rfl, dd, _, _, rfl, hdd, rfl, ?_⟩
        exact ⟨by show 2 ≤ sizeLine; decide, fun t ht => k1 hlt t _ (sX.trans (same_new ht)) upd_same⟩
      · refine ⟨by show 2 ≤ sizeLine; decide, fun l hl9 => ?_⟩
        have s9 := same_new (o := .lst [V.str "told", V.ref r]) hl9
        exact k2 hge l _ (sX.trans s9) ⟨r, p, q, upd_same, s9 _ _ hr, s9 _ _ hp, s9 _ _ hq⟩
    · refine ⟨_, rfl, rfl, _, rfl, iteN (by rfl) ?_⟩
      refine ⟨_, rfl, _, rfl, e, x, S, rfl, he, hz, .inl ⟨od.kv, cx, fun dd HX sX nX hdd σ hσ => ?_⟩⟩
      refine ⟨true, T.x_NN, fun _ ea hea => ?_, fun q => Bool.noConfusion q⟩
      have he4 : (σ.set 3 (some (V.ref ea)))[3]? = some (some (V.ref ea)) := by simp [hσ]
      refine ⟨_, he4, rfl, rfl, dd, _, _, rfl, hdd, rfl, _, D, rfl, rd_same sX od.rd, od.od.pl, od.od.dp, od.od.sz, ?_⟩
      exact ⟨by show 2 ≤ sizeLine; decide, fun t ht => k t _ (sX.trans (same_new ht)) upd_same⟩
    · refine ⟨_, rfl, rfl, _, rfl, iteN (by rfl) ?_⟩
      refine ⟨_, rfl, _, rfl, e, _, S, rfl, he, hz, .inr ⟨n, rfl, n0, fun hlt dd HX sX nX hdd σ hσ => ?_, fun hge B2 hB2 r HX sX hr => ?_⟩⟩
      · refine ⟨false, T.x_SN, (fun q => Bool.noConfusion q), fun _ => ⟨true, T.x_SS, fun _ ea hea => ?_, fun q => Bool.noConfusion q⟩⟩
        have he4 : (σ.set 3 (some (V.ref ea)))[3]? = some (some (V.ref ea)) := by simp [hσ]
        refine ⟨_, he4, rfl, rfl, dd, _, _, rfl, hdd, rfl, ?_⟩
        exact ⟨by show 2 ≤ sizeLine; decide, fun t ht => k1 hlt t _ (sX.trans (same_new ht)) upd_same⟩
      · have eB := hB2.ext hB
        subst eB
        refine ⟨by show 2 ≤ sizeLine; decide, fun l hl9 => ?_⟩
        have s9 := same_new (o := .lst [V.str "told", V.ref r]) hl9
        exact k2 hge l _ (sX.trans s9) ⟨r, upd_same, s9 _ _ hr⟩
end
end K15
namespace K15
open PySem L2 XT
section
variable {P : Program} {w : World} {K : PySem.W.Frag} {mg : Str → Option Value} {base : Heap} {a : Ads}
local macro_rules | `(tactic| walk_at "rside") => `(tactic| first | (show (0 : Int) < _; first | decide | omega) | (exact ⟨by first | decide | omega, by first | decide | omega⟩) | (exact Or.inl ⟨by omega, by omega⟩) | (exact Or.inr ⟨by omega, by omega⟩) | (exact ⟨by decide, by decide, by decide⟩))
local macro_rules | `(tactic| walk_at "rd1") => `(tactic| first | (refine ⟨_, rfl, ?_⟩) | (refine ⟨_, _, rfl, rfl, (by walk_at "rside"), ?_⟩) | (refine ⟨_, _, rfl, rfl, ?_⟩))
local macro_rules | `(tactic| walk_at "rd") => `(tactic| repeat (walk_at "rd1"))

theorem mt_countVK {X : Cx} (K : PySem.W.Frag) (hK : X.K = K := by rfl) : MtR X "list.count" (rCntV K) := by subst hK; exact mt_countV
theorem flat_ints (L : List Int) : (L.map V.int).all flatV = true := by
  rw [List.all_map]
  exact List.all_eq_true.mpr fun _ _ => rfl
theorem count_eq (M : List Int) (y : Int) : (((M.map V.int).countP (fun z => eqV z (.int y)) : Nat) : Int) = Tbl.cnt M y - Tbl.cnt M (y - 1) := by
  induction M with
  | nil => rfl
  | cons x M ih =>
    rw [List.map_cons, List.countP_cons, Tbl.cnt_cons, Tbl.cnt_cons]
    have e : eqV (.int x) (.int y) = decide (x = y) := by rw [Bool.eq_iff_iff]; simp [eqV]
    rw [e]
    by_cases h : x = y
    · rw [decide_eq_true h, if_pos rfl, if_pos (by omega), if_neg (by omega)]; omega
    · rw [decide_eq_false h, if_neg (by simp)]
      by_cases h2 : x ≤ y
      · rw [if_pos h2, if_pos (by omega)]; omega
      · rw [if_neg h2, if_neg (by omega)]; omega
def twoD (A C : List Int) : PyData := .list [.list (A.map PyData.int), .list (C.map PyData.int)]

theorem flat_rep (n : Nat) (v : Int) : (List.replicate n [V.int v]).flatten = (List.replicate n v).map V.int := by
  induction n with
  | zero => rfl
  | succ n ih => rw [List.replicate_succ, List.replicate_succ, List.flatten_cons, ih]; rfl
theorem mk_snoc : ∀ {ms cs : List Int} {m c : Int}, ms.length = cs.length → Gap.mk (ms ++ [m]) (cs ++ [c]) = Gap.mk ms cs ++ List.replicate c.toNat m
  | [], [], m, c, _ => by simp [Gap.mk]
  | [], _ :: _, _, _, h => by cases h
  | _ :: _, [], _, _, h => by cases h
  | x :: ms, y :: cs, m, c, h => by
    have := mk_snoc (ms := ms) (cs := cs) (m := m) (c := c) (by simpa using h)
    show List.replicate y.toNat x ++ Gap.mk (ms ++ [m]) (cs ++ [c]) = List.replicate y.toNat x ++ Gap.mk ms cs ++ List.replicate c.toNat m
    rw [this, List.append_assoc]
theorem sum_take : ∀ {C : List Int} (n : Nat), nnL C = true → (C.take n).sum ≤ C.sum ∧ 0 ≤ C.sum
  | [], n, _ => by simp
  | c :: C, 0, h => by
    have h2 : 0 ≤ c ∧ nnL C = true := by simpa [nnL] using h
    have := (sum_take (C := C) 0 h2.2).2
    simp only [List.take_zero, List.sum_nil, List.sum_cons]
    omega
  | c :: C, n + 1, h => by
    have h2 : 0 ≤ c ∧ nnL C = true := by simpa [nnL] using h
    have := sum_take (C := C) n h2.2
    simp only [List.take_succ_cons, List.sum_cons]
    omega
theorem nn_mem {C : List Int} (h : nnL C = true) : ∀ c ∈ C, 0 ≤ c := fun c hc => of_decide_eq_true (List.all_eq_true.mp h c hc)
theorem mem_le_sum : ∀ {C : List Int} {c : Int}, nnL C = true → c ∈ C → c ≤ C.sum
  | c0 :: C, c, h, hc => by
    have h2 : 0 ≤ c0 ∧ nnL C = true := by simpa [nnL] using h
    have h3 := (sum_take (C := C) 0 h2.2).2
    rw [List.sum_cons]
    rcases List.mem_cons.mp hc with rfl | hc
    · omega
    · have := mem_le_sum h2.2 hc
      omega
theorem len_mk_le {B C : List Int} (hl : C.length = B.length + 1) (h0 : nnL C = true) (n : Nat) : ((Gap.mk ((Gap.marks B).take n) (C.take n)).length : Int) ≤ C.sum := by
  rw [Gap.len_mk (by simp [Gap.marks, hl]) fun c hc => nn_mem h0 c (List.mem_of_mem_take hc)]
  exact (sum_take n h0).1
theorem map_getD (f : Int → Int) (B : List Int) : ((List.range B.length).map fun i => V.int (f (B.getD i 0))) = (B.map f).map V.int := by
  refine List.ext_getElem (by simp) fun i h1 h2 => ?_
  have hi : i < B.length := by simpa using h1
  simp [List.getD_eq_getElem?_getD, List.getElem?_eq_getElem hi]
def spDue (K : PySem.W.Frag) : Sp := fun vs H Q _ => ∃ (l b c : Addr) (xs : List V) (S : List Stp) (B C : List Int), vs = [.ref l, .ref b, .ref c] ∧ SqL K H l xs ∧ StsAt K H xs S ∧ (∀ s ∈ S, goodS s = true) ∧ S.length ≤ 1000 ∧ SqT K H b (B.map V.int) ∧ SqL K H c (C.map V.int) ∧ C.length = B.length + 1 ∧ nnL C = true ∧ C.sum ≤ 900 ∧ B.length ≤ 500 ∧ Eff.Brk S B ∧ (∀ x, (true, x) ∈ S → x % 2 = 0) ∧
  (C.sum < Eff.need S → ∀ t H', Same H H' → H' t = some (.lst [.str "failed", .non]) → Q (.ref t) H') ∧ (Eff.need S ≤ C.sum → ∀ t H', Same H H' → ToldK H' t S B C → Q (.ref t) H')
theorem ok_law_due (T : Txt K mg a) : FnR P w K mg base CX0 2 a.law_due (spDue K) := by
  obtain ⟨fd, F⟩ := T.F_law_due
  refine XT.okR F sc_law_due bn_law_due (fun vs H Q E h => ?_) (fun cdv A outer s H vs Q E hr h => ?_)
  · obtain ⟨l, b, c, xs, S, B, C, rfl, _⟩ := h
    rfl
  · obtain ⟨l, b, c, xs, S, B, C, rfl, hS, hX, hg, hz, hb, hc, hl, h0, hsum, hbz, hB, ev, k1, k2⟩ := h
    have G_law_run := ok_law_run (P := P) (w := w) (base := base) T
    refine ⟨_, (pss_cons (ps_set (i := 3) sc_law_due.nd rfl (Or.inl rfl) (pe_ifExp (pt_cmpR (neDK K hr.units) (pv 1) (pe_tup pa_nil) (nomark _)) (pe_op op_rep (pe_lst (pa_cons (pe_op op_sub (pe_ix (ixTK K) (pv 1) pe_int (fun _ _ => rfl)) pe_int) pa_nil)) (pe_ix (ixLK K) (pv 2) pe_int (fun _ _ => rfl))) (pe_op op_rep (pe_lst (pa_cons pe_int pa_nil)) (pe_ix (ixLK K) (pv 2) pe_int (fun _ _ => rfl)))))
      (pss_cons (ps_for PassesOwn.never rfl (pi_enumT (by rfl) T.b_enumerate (pa_cons (pv 1) pa_nil)) (tupK K (n := 2) (by rfl) (pgs_cons (pg_name (i := 4) sc_law_due.nd rfl (Or.inl rfl)) (pgs_cons (pg_name (i := 5) sc_law_due.nd rfl (Or.inl rfl)) pgs_nil)))
        (pss_one (ps_set (i := 3) sc_law_due.nd rfl (Or.inl rfl) (pe_op op_cat (pv 3) (pe_op op_rep (pe_lst (pa_cons (pe_op op_add (pv 5) pe_int) pa_nil)) (pe_ix (ixLK K) (pv 2) (pe_op op_add (pv 4) pe_int) (fun _ _ => rfl)))))))
      (pss_cons (ps_set (i := 6) sc_law_due.nd rfl (Or.inr rfl) (pe_callR G_law_run (hr.mono (by decide)) rfl T.g_law_run T.k_law_run pass0 (pa_cons (pv 0) (pa_cons (pv 3) pa_nil))))
      (pss_cons (ps_if (pt_cmpR op_isN (pv 6) pe_non (nomark _)) (pss_one (ps_ret (pe_lst (pa_cons pe_str (pa_cons pe_non pa_nil))))) pss_nil)
      (pss_cons (ps_set (i := 7) sc_law_due.nd rfl (Or.inl rfl) (pe_op op_cat (pe_lst (pa_cons (pe_ifExp (pt_cmpR (neDK K hr.units) (pv 1) (pe_tup pa_nil) (nomark _)) (pe_op op_sub (pe_ix (ixTK K) (pv 1) pe_int (fun _ _ => rfl)) pe_int) pe_int) pa_nil)) (pe_lc (own := [("_law_number", 5)])  rfl sc_law_due.nd (pi_tup (pv 1)) (blkOk_by (N := N_law_due) (sc := defScope s_law_due) (by decide +kernel)) (fun _ _ _ _ _ => by exact (pg_name (i := 5) sc_law_due.nd rfl (Or.inl rfl))) (fun _ _ _ _ _ => by exact pts_nil) (fun _ _ _ _ _ => by exact (pe_op op_add (pv 5) pe_int)))))
      (pss_one (ps_ret (pe_lst (pa_cons pe_str (pa_cons (pe_tup (pa_cons (pe_lc (own := [("_law_place", 8)])  rfl sc_law_due.nd (pi_list (pv 7)) (blkOk_by (N := N_law_due) (sc := defScope s_law_due) (by decide +kernel)) (fun _ _ _ _ _ => by exact (pg_name (i := 8) sc_law_due.nd rfl (Or.inl rfl))) (fun _ _ _ _ _ => by exact pts_nil) (fun _ _ _ _ _ => by exact (bmK K (pe_bm PySem.F.plainAttrs_list PySem.F.slot_list_count PySem.F.type_list_count (mt_countVK K) (pv 6) (pa_cons (pv 8) pa_nil))))) (pa_cons (pe_lc (own := [("_law_number", 5)])  rfl sc_law_due.nd (pi_tup (pv 1)) (blkOk_by (N := N_law_due) (sc := defScope s_law_due) (by decide +kernel)) (fun _ _ _ _ _ => by exact (pg_name (i := 5) sc_law_due.nd rfl (Or.inl rfl))) (fun _ _ _ _ _ => by exact pts_nil) (fun _ _ _ _ _ => by exact (bmK K (pe_bm PySem.F.plainAttrs_list PySem.F.slot_list_count PySem.F.type_list_count (mt_countVK K) (pv 6) (pa_cons (pv 5) pa_nil))))) pa_nil))) pa_nil)))))))))), ?_⟩
    obtain ⟨c0, Cr, rfl⟩ : ∃ c0 Cr, C = c0 :: Cr := by
      cases C with
      | nil => simp at hl
      | cons c0 Cr => exact ⟨_, _, rfl⟩
    have c00 := nn_mem h0 c0 List.mem_cons_self
    have c01 := mem_le_sum h0 (List.mem_cons_self (a := c0) (l := Cr))
    cases B with
    | nil =>
      show tSeq _ _ _ _ _
      refine seq_cut2 (fun σ' H' => ∃ o, σ' = [some (.ref l), some (.ref b), some (.ref c), some (.ref o), none, none, none, none, none] ∧ Same H H' ∧ H' o = some (.lst ((Gap.mk ((Gap.marks []).take 1) ((c0 :: Cr).take 1)).map V.int))) (fun N cont => ?_) (fun σ H1 h1 => ?_)
      · refine ⟨_, rfl, Nat.zero_le _, fun z hz => ?_⟩
        have sz := same_new (o := .tup []) hz
        refine ⟨_, _, dp_tup (L := []) (same_seqT sz hb), dp_tup (L := []) (SqT.of upd_same), shaped_tup _, shaped_tup _, _, rfl, ?_⟩
        rw [eqv_tups]
        refine iteN (by simp) ?_
        generalize upd H z (.tup []) = Hz at sz ⊢
        refine ⟨by show 1 ≤ sizeLine; decide, fun q hq => ?_⟩
        have sq := same_new (o := .lst [V.int (1)]) hq
        have hq1 := upd_same (H := Hz) (a := q) (o := .lst [V.int (1)])
        generalize upd Hz q (.lst [V.int (1)]) = Hq at sq hq1 ⊢
        refine ⟨_, rfl, c, _, 0, .int c0, rfl, rfl, (sz.trans sq).seq hc, atI_nat (j := 0) rfl, q, c0, [V.int (1)], rfl, rfl, hq1, by omega, by omega, Nat.le_trans (show 1 * c0.toNat ≤ 100000 by omega) line_ge, fun w hw => ?_⟩
        have sw := same_new (o := .lst (List.replicate c0.toNat [V.int (1)]).flatten) hw
        refine cont _ _ ⟨w, rfl, (sz.trans sq).trans sw, ?_⟩
        rw [upd_same, flat_rep]
        simp [Gap.mk, Gap.marks, Gap.mark0]
      obtain ⟨o, rfl, s1, ho⟩ := h1
      refine ⟨_, rfl, b, _, rfl, same_seqT s1 hb, ?_⟩
      refine for_enT (xs := ([] : List Int).map V.int) (same_seqT s1 hb) (fun i σ H' => ∃ o' o4 o5, σ = [some (.ref l), some (.ref b), some (.ref c), some (.ref o'), o4, o5, none, none, none] ∧ Same H H' ∧ H' o' = some (.lst ((Gap.mk ((Gap.marks []).take (i + 1)) ((c0 :: Cr).take (i + 1))).map V.int))) (fun i σ H' hi ⟨_, _, _, _, s, _⟩ => same_seqT s hb) ⟨o, _, _, rfl, s1, ho⟩ ?_ ?_
      · rintro i y U σ H2 hi hy hU ⟨o', o4, o5, rfl, s2, ho2⟩
        rw [List.getElem?_map] at hy
        obtain ⟨v, hv, rfl⟩ := Option.map_eq_some_iff.mp hy
        have sU := same_new (o := .tup [V.int (i : Int), V.int v]) hU
        have hiB : i < ([] : List Int).length := (List.getElem?_eq_some_iff.mp hv).1
        have hiC : i + 1 < (c0 :: Cr).length := by omega
        have hc9 : (c0 :: Cr)[i + 1]? = some (c0 :: Cr)[i + 1] := List.getElem?_eq_getElem hiC
        generalize (c0 :: Cr)[i + 1] = ci at hc9
        have ci0 := nn_mem h0 ci (List.mem_of_getElem? hc9)
        have ci1 := mem_le_sum h0 (List.mem_of_getElem? hc9)
        refine ⟨U, [.int (i : Int), .int v], rfl, SqT.of upd_same, rfl, _, [.int v], rfl, _, [], rfl, rfl, ?_⟩
        have ho3 := sU _ _ ho2
        generalize upd H2 U (.tup [V.int (i : Int), V.int v]) = H3 at sU ho3 ⊢
        refine ⟨_, rfl, _, rfl, _, _, rfl, rfl, by show 1 ≤ sizeLine; decide, fun q hq => ?_⟩
        have sq := same_new (o := .lst [V.int (v + 1)]) hq
        have hq1 := upd_same (H := H3) (a := q) (o := .lst [V.int (v + 1)])
        generalize upd H3 q (.lst [V.int (v + 1)]) = H4 at sq hq1 ⊢
        have s24 := s2.trans (sU.trans sq)
        refine ⟨_, rfl, _, rfl, _, _, rfl, rfl, c, _, (i : Int) + 1, .int ci, rfl, rfl, s24.seq hc, at_of (show (i : Int) + 1 = ((i + 1 : Nat) : Int) by omega) (by rw [List.getElem?_map, hc9]; rfl), ?_⟩
        refine ⟨q, ci, [V.int (v + 1)], rfl, rfl, hq1, by omega, by omega, Nat.le_trans (show 1 * ci.toNat ≤ 100000 by omega) line_ge, fun w hw => ?_⟩
        have sw := same_new (o := .lst (List.replicate ci.toNat [V.int (v + 1)]).flatten) hw
        have ho4 := sw _ _ (sq _ _ ho3)
        have hlen := len_mk_le hl h0 (i + 1)
        refine ⟨o', w, _, _, rfl, rfl, ho4, upd_same, ?_, fun r hr => ?_⟩
        · rw [flat_rep, List.length_map, List.length_map, List.length_replicate]
          exact Nat.le_trans (show _ + ci.toNat ≤ 100000 by omega) line_ge
        refine ⟨r, _, _, rfl, (s24.trans sw).trans (same_new hr), ?_⟩
        have e1 : (Gap.marks []).take (i + 1 + 1) = (Gap.marks []).take (i + 1) ++ [v + 1] := by
          rw [List.take_add_one (i := i + 1)]
          congr 1
          unfold Gap.marks
          rw [List.getElem?_cons_succ, List.getElem?_map, hv]
          rfl
        have e2 : (c0 :: Cr).take (i + 1 + 1) = (c0 :: Cr).take (i + 1) ++ [ci] := by rw [List.take_add_one (i := i + 1), hc9]; rfl
        rw [upd_same, flat_rep, e1, e2, mk_snoc (by rw [List.length_take, List.length_take, hl]; simp [Gap.marks]), List.map_append]
      rintro σ H2 ⟨o', o4, o5, rfl, s2, ho2⟩
      have e3 : (Gap.marks []).take ((([] : List Int).map V.int).length + 1) = Gap.marks [] := List.take_of_length_le (by simp [Gap.marks])
      have e4 : (c0 :: Cr).take ((([] : List Int).map V.int).length + 1) = c0 :: Cr := List.take_of_length_le (by rw [hl]; simp)
      rw [e3, e4] at ho2
      have upN : Tbl.Up (Gap.mk (Gap.marks []) (c0 :: Cr)) := Gap.up_mk (Gap.asc_marks hB ev)
      have lN : ((Gap.mk (Gap.marks []) (c0 :: Cr)).length : Int) = (c0 :: Cr).sum := Gap.len_mk (by rw [hl]; simp [Gap.marks]) (nn_mem h0)
      refine ⟨_, rfl, _, rfl, l, .ref o', xs, S, _, rfl, s2.seq hS, sts_same hX s2, hg, ⟨o', rfl, .inl (SqL.of ho2), by omega⟩, hz, fun M hM m H3 s3 nm hm => ?_, fun i hi H3 s3 => ?_⟩
      rotate_left
      · refine ⟨_, rfl, rfl, _, rfl, iteH (by simp) ?_⟩
        refine ⟨by show 2 ≤ sizeLine; decide, fun t ht => k1 ?_ t _ ((s2.trans s3).trans (same_new ht)) upd_same⟩
        rw [← XT.srt_of (List.Perm.refl _) upN] at hi
        by_cases q : Eff.need S ≤ (c0 :: Cr).sum
        · obtain ⟨M, e⟩ := (Eff.run_iff (i := 0) upN hg).mpr (by rw [lN]; exact q)
          rw [e] at hi
          cases hi
        · omega
      rw [← XT.srt_of (List.Perm.refl _) upN] at hM
      have hge : Eff.need S ≤ (c0 :: Cr).sum := by
        have := (Eff.run_iff (i := 0) upN hg).mp ⟨M, hM⟩
        omega
      obtain ⟨upM, hcM, hmM⟩ := Eff.run_cnt upN hg hM
      obtain ⟨f1, f2⟩ := Gap.kept_marks hB ev hl (nn_mem h0) hcM
      have s23 := s2.trans s3
      refine ⟨_, rfl, rfl, _, rfl, iteN (by simp) ?_⟩
      refine ⟨_, rfl, Nat.zero_le _, fun z hz9 => ?_⟩
      have sz := same_new (o := .tup []) hz9
      refine ⟨_, _, dp_tup (L := []) (same_seqT (s23.trans sz) hb), dp_tup (L := []) (SqT.of upd_same), shaped_tup _, shaped_tup _, _, rfl, ?_⟩
      rw [eqv_tups]
      refine iteN (by simp) ?_
      have szB := s23.trans sz
      have hmz := sz _ _ hm
      generalize upd H3 z (.tup []) = H4 at sz szB hmz ⊢
      refine ⟨by show 1 ≤ sizeLine; decide, fun q hq => ?_⟩
      have sq := same_new (o := .lst [V.int (1)]) hq
      have hq1 := upd_same (H := H4) (a := q) (o := .lst [V.int (1)])
      have s5 := szB.trans sq
      have hm5 := sq _ _ hmz
      generalize upd H4 q (.lst [V.int (1)]) = H5 at sq hq1 s5 hm5 ⊢
      refine ⟨_, rfl, b, rfl, ⟨_, same_seqT s5 hb⟩, fun D hD => lcM (stat_tup (same_seqT s5 hb)) hD (fun i => .int (([] : List Int).getD i 0 + 1)) (Nat.le_trans (show _ ≤ 100000 by rw [List.length_map]; omega) line_ge) ?_ ?_⟩
      · intro i x H6 R hi s6 px kk
        rw [List.getElem?_map] at px
        obtain ⟨v, hv, rfl⟩ := Option.map_eq_some_iff.mp px
        have e : ([] : List Int).getD i 0 = v := by rw [List.getD_eq_getElem?_getD, hv]; rfl
        rw [e] at kk
        exact ⟨rfl, _, rfl, _, _, rfl, rfl, kk H6 (Same.refl H6)⟩
      intro H6 s6 hD6
      rw [List.length_map, map_getD (fun x => x + 1)] at hD6
      refine ⟨q, D, _, _, rfl, rfl, s6 _ _ hq1, hD6, Nat.le_trans (show _ ≤ 100000 by rw [List.length_map, List.length_map]; simp only [List.length_cons, List.length_nil] at hbz ⊢; omega) line_ge, fun pl hpl => ?_⟩
      have eM : [V.int (1)] ++ (([] : List Int).map fun x => x + 1).map V.int = (Gap.marks []).map V.int := rfl
      rw [eM]
      have s7 := same_new (o := .lst ((Gap.marks []).map V.int)) hpl
      have hpl7 := upd_same (H := H6) (a := pl) (o := .lst ((Gap.marks []).map V.int))
      have s57 := (s5.trans s6).trans s7
      have hm7 := (s6.trans s7) _ _ hm5
      generalize upd H6 pl (.lst ((Gap.marks []).map V.int)) = H7 at s7 hpl7 s57 hm7 ⊢
      have lm : (Gap.marks []).length ≤ 600 := by
        simp only [Gap.marks, List.length_cons, List.length_map, List.length_nil] at hbz ⊢
        omega
      refine ⟨_, rfl, pl, rfl, ⟨_, SqL.of hpl7⟩, fun D1 hD1 => lcM (stat_list (SqL.of hpl7)) hD1 (fun i => .int ((M.count ((Gap.marks []).getD i 0) : Nat) : Int)) (Nat.le_trans (show _ ≤ 100000 by rw [List.length_map]; omega) line_ge) ?_ ?_⟩
      · intro i x H8 R hi s8 px kk
        rw [List.getElem?_map] at px
        obtain ⟨v, hv, rfl⟩ := Option.map_eq_some_iff.mp px
        have e : (Gap.marks []).getD i 0 = v := by rw [List.getD_eq_getElem?_getD, hv]; rfl
        rw [e, Gap.count_cnt, ← count_eq] at kk
        exact ⟨rfl, _, rfl, .inl ⟨rfl, _, SqL.of (s8 _ _ hm7)⟩, _, rfl, m, _, .int v, rfl, rfl, SqL.of (s8 _ _ hm7), rfl, flat_ints M, kk H8 (Same.refl H8)⟩
      intro H8 s8 hD8
      rw [List.length_map, map_getD (fun x => ((M.count x : Nat) : Int))] at hD8
      have hm8 := s8 _ _ hm7
      have s58 := s57.trans s8
      refine ⟨_, rfl, b, rfl, ⟨_, same_seqT s58 hb⟩, fun D2 hD2 => lcM (stat_tup (same_seqT s58 hb)) hD2 (fun i => .int ((M.count (([] : List Int).getD i 0) : Nat) : Int)) (Nat.le_trans (show _ ≤ 100000 by rw [List.length_map]; omega) line_ge) ?_ ?_⟩
      · intro i x H9 R hi s9 px kk
        rw [List.getElem?_map] at px
        obtain ⟨v, hv, rfl⟩ := Option.map_eq_some_iff.mp px
        have e : ([] : List Int).getD i 0 = v := by rw [List.getD_eq_getElem?_getD, hv]; rfl
        rw [e, Gap.count_cnt, ← count_eq] at kk
        exact ⟨rfl, _, rfl, .inl ⟨rfl, _, SqL.of (s9 _ _ hm8)⟩, _, rfl, m, _, .int v, rfl, rfl, SqL.of (s9 _ _ hm8), rfl, flat_ints M, kk H9 (Same.refl H9)⟩
      intro H9 s9 hD9
      rw [List.length_map, map_getD (fun x => ((M.count x : Nat) : Int))] at hD9
      refine ⟨by show 2 ≤ sizeLine; decide, fun tp htp => ⟨by show 2 ≤ sizeLine; decide, fun tl htl => ?_⟩⟩
      have sA := same_new (o := .tup [V.ref D1, V.ref D2]) htp
      have sB := same_new (o := .lst [V.str "told", V.ref tp]) htl
      have sAB := sA.trans sB
      refine k2 hge tl _ ((s58.trans s9).trans sAB) ⟨tp, D1, D2, upd_same, sB _ _ upd_same, ?_, ?_⟩
      · rw [f1]
        exact sAB _ _ (s9 _ _ hD8)
      · rw [f2]
        exact sAB _ _ hD9
    | cons b0 Bt =>
      show tSeq _ _ _ _ _
      refine seq_cut2 (fun σ' H' => ∃ o, σ' = [some (.ref l), some (.ref b), some (.ref c), some (.ref o), none, none, none, none, none] ∧ Same H H' ∧ H' o = some (.lst ((Gap.mk ((Gap.marks (b0 :: Bt)).take 1) ((c0 :: Cr).take 1)).map V.int))) (fun N cont => ?_) (fun σ H1 h1 => ?_)
      · refine ⟨_, rfl, Nat.zero_le _, fun z hz => ?_⟩
        have sz := same_new (o := .tup []) hz
        refine ⟨_, _, dp_tup (L := (b0 :: Bt)) (same_seqT sz hb), dp_tup (L := []) (SqT.of upd_same), shaped_tup _, shaped_tup _, _, rfl, ?_⟩
        rw [eqv_tups]
        refine iteH (by simp) ?_
        generalize upd H z (.tup []) = Hz at sz ⊢
        refine ⟨_, rfl, b, _, 0, .int b0, rfl, rfl, same_seqT sz hb, atI_nat (j := 0) rfl, _, _, rfl, rfl, by show 1 ≤ sizeLine; decide, fun q hq => ?_⟩
        have sq := same_new (o := .lst [V.int (b0 - 1)]) hq
        have hq1 := upd_same (H := Hz) (a := q) (o := .lst [V.int (b0 - 1)])
        generalize upd Hz q (.lst [V.int (b0 - 1)]) = Hq at sq hq1 ⊢
        refine ⟨_, rfl, c, _, 0, .int c0, rfl, rfl, (sz.trans sq).seq hc, atI_nat (j := 0) rfl, q, c0, [V.int (b0 - 1)], rfl, rfl, hq1, by omega, by omega, Nat.le_trans (show 1 * c0.toNat ≤ 100000 by omega) line_ge, fun w hw => ?_⟩
        have sw := same_new (o := .lst (List.replicate c0.toNat [V.int (b0 - 1)]).flatten) hw
        refine cont _ _ ⟨w, rfl, (sz.trans sq).trans sw, ?_⟩
        rw [upd_same, flat_rep]
        simp [Gap.mk, Gap.marks, Gap.mark0]
      obtain ⟨o, rfl, s1, ho⟩ := h1
      refine ⟨_, rfl, b, _, rfl, same_seqT s1 hb, ?_⟩
      refine for_enT (xs := ((b0 :: Bt) : List Int).map V.int) (same_seqT s1 hb) (fun i σ H' => ∃ o' o4 o5, σ = [some (.ref l), some (.ref b), some (.ref c), some (.ref o'), o4, o5, none, none, none] ∧ Same H H' ∧ H' o' = some (.lst ((Gap.mk ((Gap.marks (b0 :: Bt)).take (i + 1)) ((c0 :: Cr).take (i + 1))).map V.int))) (fun i σ H' hi ⟨_, _, _, _, s, _⟩ => same_seqT s hb) ⟨o, _, _, rfl, s1, ho⟩ ?_ ?_
      · rintro i y U σ H2 hi hy hU ⟨o', o4, o5, rfl, s2, ho2⟩
        rw [List.getElem?_map] at hy
        obtain ⟨v, hv, rfl⟩ := Option.map_eq_some_iff.mp hy
        have sU := same_new (o := .tup [V.int (i : Int), V.int v]) hU
        have hiB : i < ((b0 :: Bt) : List Int).length := (List.getElem?_eq_some_iff.mp hv).1
        have hiC : i + 1 < (c0 :: Cr).length := by omega
        have hc9 : (c0 :: Cr)[i + 1]? = some (c0 :: Cr)[i + 1] := List.getElem?_eq_getElem hiC
        generalize (c0 :: Cr)[i + 1] = ci at hc9
        have ci0 := nn_mem h0 ci (List.mem_of_getElem? hc9)
        have ci1 := mem_le_sum h0 (List.mem_of_getElem? hc9)
        refine ⟨U, [.int (i : Int), .int v], rfl, SqT.of upd_same, rfl, _, [.int v], rfl, _, [], rfl, rfl, ?_⟩
        have ho3 := sU _ _ ho2
        generalize upd H2 U (.tup [V.int (i : Int), V.int v]) = H3 at sU ho3 ⊢
        refine ⟨_, rfl, _, rfl, _, _, rfl, rfl, by show 1 ≤ sizeLine; decide, fun q hq => ?_⟩
        have sq := same_new (o := .lst [V.int (v + 1)]) hq
        have hq1 := upd_same (H := H3) (a := q) (o := .lst [V.int (v + 1)])
        generalize upd H3 q (.lst [V.int (v + 1)]) = H4 at sq hq1 ⊢
        have s24 := s2.trans (sU.trans sq)
        refine ⟨_, rfl, _, rfl, _, _, rfl, rfl, c, _, (i : Int) + 1, .int ci, rfl, rfl, s24.seq hc, at_of (show (i : Int) + 1 = ((i + 1 : Nat) : Int) by omega) (by rw [List.getElem?_map, hc9]; rfl), ?_⟩
        refine ⟨q, ci, [V.int (v + 1)], rfl, rfl, hq1, by omega, by omega, Nat.le_trans (show 1 * ci.toNat ≤ 100000 by omega) line_ge, fun w hw => ?_⟩
        have sw := same_new (o := .lst (List.replicate ci.toNat [V.int (v + 1)]).flatten) hw
        have ho4 := sw _ _ (sq _ _ ho3)
        have hlen := len_mk_le hl h0 (i + 1)
        refine ⟨o', w, _, _, rfl, rfl, ho4, upd_same, ?_, fun r hr => ?_⟩
        · rw [flat_rep, List.length_map, List.length_map, List.length_replicate]
          exact Nat.le_trans (show _ + ci.toNat ≤ 100000 by omega) line_ge
        refine ⟨r, _, _, rfl, (s24.trans sw).trans (same_new hr), ?_⟩
        have e1 : (Gap.marks (b0 :: Bt)).take (i + 1 + 1) = (Gap.marks (b0 :: Bt)).take (i + 1) ++ [v + 1] := by
          rw [List.take_add_one (i := i + 1)]
          congr 1
          unfold Gap.marks
          rw [List.getElem?_cons_succ, List.getElem?_map, hv]
          rfl
        have e2 : (c0 :: Cr).take (i + 1 + 1) = (c0 :: Cr).take (i + 1) ++ [ci] := by rw [List.take_add_one (i := i + 1), hc9]; rfl
        rw [upd_same, flat_rep, e1, e2, mk_snoc (by rw [List.length_take, List.length_take, hl]; simp [Gap.marks]), List.map_append]
      rintro σ H2 ⟨o', o4, o5, rfl, s2, ho2⟩
      have e3 : (Gap.marks (b0 :: Bt)).take ((((b0 :: Bt) : List Int).map V.int).length + 1) = Gap.marks (b0 :: Bt) := List.take_of_length_le (by simp [Gap.marks])
      have e4 : (c0 :: Cr).take ((((b0 :: Bt) : List Int).map V.int).length + 1) = c0 :: Cr := List.take_of_length_le (by rw [hl]; simp)
      rw [e3, e4] at ho2
      have upN : Tbl.Up (Gap.mk (Gap.marks (b0 :: Bt)) (c0 :: Cr)) := Gap.up_mk (Gap.asc_marks hB ev)
      have lN : ((Gap.mk (Gap.marks (b0 :: Bt)) (c0 :: Cr)).length : Int) = (c0 :: Cr).sum := Gap.len_mk (by rw [hl]; simp [Gap.marks]) (nn_mem h0)
      refine ⟨_, rfl, _, rfl, l, .ref o', xs, S, _, rfl, s2.seq hS, sts_same hX s2, hg, ⟨o', rfl, .inl (SqL.of ho2), by omega⟩, hz, fun M hM m H3 s3 nm hm => ?_, fun i hi H3 s3 => ?_⟩
      rotate_left
      · refine ⟨_, rfl, rfl, _, rfl, iteH (by simp) ?_⟩
        refine ⟨by show 2 ≤ sizeLine; decide, fun t ht => k1 ?_ t _ ((s2.trans s3).trans (same_new ht)) upd_same⟩
        rw [← XT.srt_of (List.Perm.refl _) upN] at hi
        by_cases q : Eff.need S ≤ (c0 :: Cr).sum
        · obtain ⟨M, e⟩ := (Eff.run_iff (i := 0) upN hg).mpr (by rw [lN]; exact q)
          rw [e] at hi
          cases hi
        · omega
      rw [← XT.srt_of (List.Perm.refl _) upN] at hM
      have hge : Eff.need S ≤ (c0 :: Cr).sum := by
        have := (Eff.run_iff (i := 0) upN hg).mp ⟨M, hM⟩
        omega
      obtain ⟨upM, hcM, hmM⟩ := Eff.run_cnt upN hg hM
      obtain ⟨f1, f2⟩ := Gap.kept_marks hB ev hl (nn_mem h0) hcM
      have s23 := s2.trans s3
      refine ⟨_, rfl, rfl, _, rfl, iteN (by simp) ?_⟩
      refine ⟨_, rfl, Nat.zero_le _, fun z hz9 => ?_⟩
      have sz := same_new (o := .tup []) hz9
      refine ⟨_, _, dp_tup (L := (b0 :: Bt)) (same_seqT (s23.trans sz) hb), dp_tup (L := []) (SqT.of upd_same), shaped_tup _, shaped_tup _, _, rfl, ?_⟩
      rw [eqv_tups]
      refine iteH (by simp) ?_
      have szB := s23.trans sz
      have hmz := sz _ _ hm
      generalize upd H3 z (.tup []) = H4 at sz szB hmz ⊢
      refine ⟨_, rfl, b, _, 0, .int b0, rfl, rfl, same_seqT szB hb, atI_nat (j := 0) rfl, _, _, rfl, rfl, by show 1 ≤ sizeLine; decide, fun q hq => ?_⟩
      have sq := same_new (o := .lst [V.int (b0 - 1)]) hq
      have hq1 := upd_same (H := H4) (a := q) (o := .lst [V.int (b0 - 1)])
      have s5 := szB.trans sq
      have hm5 := sq _ _ hmz
      generalize upd H4 q (.lst [V.int (b0 - 1)]) = H5 at sq hq1 s5 hm5 ⊢
      refine ⟨_, rfl, b, rfl, ⟨_, same_seqT s5 hb⟩, fun D hD => lcM (stat_tup (same_seqT s5 hb)) hD (fun i => .int (((b0 :: Bt) : List Int).getD i 0 + 1)) (Nat.le_trans (show _ ≤ 100000 by rw [List.length_map]; omega) line_ge) ?_ ?_⟩
      · intro i x H6 R hi s6 px kk
        rw [List.getElem?_map] at px
        obtain ⟨v, hv, rfl⟩ := Option.map_eq_some_iff.mp px
        have e : ((b0 :: Bt) : List Int).getD i 0 = v := by rw [List.getD_eq_getElem?_getD, hv]; rfl
        rw [e] at kk
        exact ⟨rfl, _, rfl, _, _, rfl, rfl, kk H6 (Same.refl H6)⟩
      intro H6 s6 hD6
      rw [List.length_map, map_getD (fun x => x + 1)] at hD6
      refine ⟨q, D, _, _, rfl, rfl, s6 _ _ hq1, hD6, Nat.le_trans (show _ ≤ 100000 by rw [List.length_map, List.length_map]; simp only [List.length_cons, List.length_nil] at hbz ⊢; omega) line_ge, fun pl hpl => ?_⟩
      have eM : [V.int (b0 - 1)] ++ (((b0 :: Bt) : List Int).map fun x => x + 1).map V.int = (Gap.marks (b0 :: Bt)).map V.int := rfl
      rw [eM]
      have s7 := same_new (o := .lst ((Gap.marks (b0 :: Bt)).map V.int)) hpl
      have hpl7 := upd_same (H := H6) (a := pl) (o := .lst ((Gap.marks (b0 :: Bt)).map V.int))
      have s57 := (s5.trans s6).trans s7
      have hm7 := (s6.trans s7) _ _ hm5
      generalize upd H6 pl (.lst ((Gap.marks (b0 :: Bt)).map V.int)) = H7 at s7 hpl7 s57 hm7 ⊢
      have lm : (Gap.marks (b0 :: Bt)).length ≤ 600 := by
        simp only [Gap.marks, List.length_cons, List.length_map, List.length_nil] at hbz ⊢
        omega
      refine ⟨_, rfl, pl, rfl, ⟨_, SqL.of hpl7⟩, fun D1 hD1 => lcM (stat_list (SqL.of hpl7)) hD1 (fun i => .int ((M.count ((Gap.marks (b0 :: Bt)).getD i 0) : Nat) : Int)) (Nat.le_trans (show _ ≤ 100000 by rw [List.length_map]; omega) line_ge) ?_ ?_⟩
      · intro i x H8 R hi s8 px kk
        rw [List.getElem?_map] at px
        obtain ⟨v, hv, rfl⟩ := Option.map_eq_some_iff.mp px
        have e : (Gap.marks (b0 :: Bt)).getD i 0 = v := by rw [List.getD_eq_getElem?_getD, hv]; rfl
        rw [e, Gap.count_cnt, ← count_eq] at kk
        exact ⟨rfl, _, rfl, .inl ⟨rfl, _, SqL.of (s8 _ _ hm7)⟩, _, rfl, m, _, .int v, rfl, rfl, SqL.of (s8 _ _ hm7), rfl, flat_ints M, kk H8 (Same.refl H8)⟩
      intro H8 s8 hD8
      rw [List.length_map, map_getD (fun x => ((M.count x : Nat) : Int))] at hD8
      have hm8 := s8 _ _ hm7
      have s58 := s57.trans s8
      refine ⟨_, rfl, b, rfl, ⟨_, same_seqT s58 hb⟩, fun D2 hD2 => lcM (stat_tup (same_seqT s58 hb)) hD2 (fun i => .int ((M.count (((b0 :: Bt) : List Int).getD i 0) : Nat) : Int)) (Nat.le_trans (show _ ≤ 100000 by rw [List.length_map]; omega) line_ge) ?_ ?_⟩
      · intro i x H9 R hi s9 px kk
        rw [List.getElem?_map] at px
        obtain ⟨v, hv, rfl⟩ := Option.map_eq_some_iff.mp px
        have e : ((b0 :: Bt) : List Int).getD i 0 = v := by rw [List.getD_eq_getElem?_getD, hv]; rfl
        rw [e, Gap.count_cnt, ← count_eq] at kk
        exact ⟨rfl, _, rfl, .inl ⟨rfl, _, SqL.of (s9 _ _ hm8)⟩, _, rfl, m, _, .int v, rfl, rfl, SqL.of (s9 _ _ hm8), rfl, flat_ints M, kk H9 (Same.refl H9)⟩
      intro H9 s9 hD9
      rw [List.length_map, map_getD (fun x => ((M.count x : Nat) : Int))] at hD9
      refine ⟨by show 2 ≤ sizeLine; decide, fun tp htp => ⟨by show 2 ≤ sizeLine; decide, fun tl htl => ?_⟩⟩
      have sA := same_new (o := .tup [V.ref D1, V.ref D2]) htp
      have sB := same_new (o := .lst [V.str "told", V.ref tp]) htl
      have sAB := sA.trans sB
      refine k2 hge tl _ ((s58.trans s9).trans sAB) ⟨tp, D1, D2, upd_same, sB _ _ upd_same, ?_, ?_⟩
      · rw [f1]
        exact sAB _ _ (s9 _ _ hD8)
      · rw [f2]
        exact sAB _ _ hD9

end
end K15
namespace K15
open PySem L2 XT
section
variable {P : Program} {w : World} {K : PySem.W.Frag} {mg : Str → Option Value} {base : Heap} {a : Ads}
local macro_rules | `(tactic| walk_at "rside") => `(tactic| first | (show (0 : Int) < _; first | decide | omega) | (exact ⟨by first | decide | omega, by first | decide | omega⟩) | (exact Or.inl ⟨by omega, by omega⟩) | (exact Or.inr ⟨by omega, by omega⟩) | (exact ⟨by decide, by decide, by decide⟩))
local macro_rules | `(tactic| walk_at "rd1") => `(tactic| first | (refine ⟨_, rfl, ?_⟩) | (refine ⟨_, _, rfl, rfl, (by walk_at "rside"), ?_⟩) | (refine ⟨_, _, rfl, rfl, ?_⟩))
local macro_rules | `(tactic| walk_at "rd") => `(tactic| repeat (walk_at "rd1"))

def spKeptG (K : PySem.W.Frag) (CE CT : Addr) : Sp := fun vs H Q _ => ∃ (e c : Addr) (S : List Stp) (B C : List Int), vs = [.ref e, .ref c] ∧ EffAt K CE CT H e S ∧ Eff.Brk S B ∧ SqL K H c (C.map V.int) ∧ nnL C = true ∧ C.length = B.length + 1 ∧ B.length ≤ 500 ∧ Eff.need S ≤ C.sum ∧
  ∀ r p q H', Same H H' → H' r = some (.tup [.ref p, .ref q]) → H' p = some (.lst (((Eff.kp S (Eff.thr B) C 0 0).map (·.2)).map V.int)) → H' q = some (.lst ((((Eff.kp S (Eff.thr B) C 0 0).map (·.1)).drop 1).map V.int)) → Q (.ref r) H'
theorem ok_kept (T : Txt K mg a) : FnR P w K mg base CX0 5 a.kept (spKeptG K a.Effect a.Table) := by
  obtain ⟨fd, F⟩ := T.F_kept
  refine XT.okR F sc_kept bn_kept (fun vs H Q E h => ?_) (fun cdv A outer s H vs Q E hr h => ?_)
  · obtain ⟨e, c, S, B, C, rfl, _⟩ := h
    rfl
  · obtain ⟨e, c, S, B, C, rfl, he, hB, hC, h0, hl, hb, hn, k2⟩ := h
    have G_is_count_list := ok_is_count_list (P := P) (w := w) (base := base) T
    have G_tables := ok_Effect_tables (P := P) (w := w) (base := base) T
    have G_need := ok_Effect_need (P := P) (w := w) (base := base) T
    have G_call_T := ok_Table___call__ (P := P) (w := w) (base := base) T
    refine ⟨_, (pss_cons (ps_if (PW.pt (pw_or (pt_not (pt_val (pe_callR G_is_count_list (hr.mono (by decide)) rfl T.g_is_count_list T.k_is_count_list pass0 (pa_cons (pv 1) pa_nil)))) (pw_or1 (pt_cmpR op_ne (pe_callB (lenK K) (by rfl) T.b_len (by decide +kernel) (pa_cons (pv 1) pa_nil)) (pe_callB (lenK K) (by rfl) T.b_len (by decide +kernel) (pa_cons (pe_propR (pv 0) T.cl_E T.p_tables G_tables (hr.mono (by decide)) pass0 rfl) pa_nil)) (nomark _))))) (pss_one ps_never) pss_nil)
      (pss_cons (ps_if (pt_cmpR op_lt (pe_callB (cr_sumT K rfl) (by rfl) T.b_sum (by decide +kernel) (pa_cons (pv 1) pa_nil)) (pe_propR (pv 0) T.cl_E T.p_need G_need (hr.mono (by decide)) pass0 rfl) (nomark _)) (pss_one ps_never) pss_nil)
      (pss_cons (ps_set (i := 2) sc_kept.nd rfl (Or.inl rfl) (pe_lst pa_nil))
      (pss_cons (ps_set (i := 3) sc_kept.nd rfl (Or.inl rfl) (pe_lst pa_nil))
      (pss_cons (ps_set (i := 4) sc_kept.nd rfl (Or.inl rfl) pe_int)
      (pss_cons (ps_set (i := 5) sc_kept.nd rfl (Or.inl rfl) pe_int)
      (pss_cons (ps_for PassesOwn.never rfl (ZG.pi_zipM (by rfl) T.b_zip (pa_cons (pe_propR (pv 0) T.cl_E T.p_tables G_tables (hr.mono (by decide)) pass0 rfl) (pa_cons (pv 1) pa_nil))) (tupK K (n := 2) (by rfl) (pgs_cons (pg_name (i := 6) sc_kept.nd rfl (Or.inl rfl)) (pgs_cons (pg_name (i := 7) sc_kept.nd rfl (Or.inl rfl)) pgs_nil)))
        (pss_cons (ps_set (i := 8) sc_kept.nd rfl (Or.inl rfl) (pe_callI (pv 6) T.callO_T G_call_T (hr.mono (by decide)) pass0 (pa_cons (pv 4) pa_nil)))
      (pss_cons (ps_expr (bmK K (pe_bm PySem.F.plainAttrs_list PySem.F.slot_list_append PySem.F.type_list_append mt_append (pv 3) (pa_cons (pe_op op_sub (pv 8) (pv 5)) pa_nil))))
      (pss_cons (ps_set (i := 4) sc_kept.nd rfl (Or.inl rfl) (pe_op op_add (pv 4) (pv 7)))
      (pss_cons (ps_set (i := 5) sc_kept.nd rfl (Or.inl rfl) (pe_callI (pv 6) T.callO_T G_call_T (hr.mono (by decide)) pass0 (pa_cons (pv 4) pa_nil)))
      (pss_one (ps_expr (bmK K (pe_bm PySem.F.plainAttrs_list PySem.F.slot_list_append PySem.F.type_list_append mt_append (pv 2) (pa_cons (pe_op op_sub (pv 5) (pv 8)) pa_nil))))))))))
      (pss_one (ps_ret (pe_tup (pa_cons (pv 2) (pa_cons (pe_slice (slLK K) (pv 3) (po_some pe_int) po_none) pa_nil)))))))))))), ?_⟩
    refine ⟨_, rfl, _, rfl, .inl ⟨C, ⟨c, rfl, .inl hC, by omega⟩, fun H1 s1 => ⟨_, rfl, iteN (by rw [h0]; rfl) ?_⟩⟩⟩
    have he1 := he.same s1
    have hC1 := s1.seq hC
    have g := he.good
    obtain ⟨dx, pb, qt, hi⟩ := he1.ins
    refine ⟨_, rfl, c, _, rfl, .inl hC1, _, rfl, e, dx, _, rfl, hi, e, S, rfl, he1, fun q0 B0 ts0 hq0 hT0 hB0 _ => ?_⟩
    have l0 : ts0.length = B0.length + 1 := by rw [hT0.length, Eff.tbs_len]
    have eB := hB0.ext hB
    refine ⟨q0, ts0, rfl, .inr hq0, rfl, _, rfl, iteN (by rw [List.length_map, l0, eB, hl]; simp) ?_⟩
    refine ⟨_, rfl, c, C, rfl, .inl hC1, _, rfl, e, dx, _, rfl, hi, e, S, rfl, he1, _, _, rfl, rfl, _, rfl, iteN (decide_eq_false (by omega)) ?_⟩
    refine ⟨Nat.zero_le _, fun p hp => ?_⟩
    have sp := same_new (o := .lst []) hp
    refine ⟨Nat.zero_le _, fun q hq => ?_⟩
    have sq := same_new (o := .lst []) hq
    have hp2 := sq _ _ (upd_same (H := H1) (a := p) (o := .lst []))
    have hq2 := upd_same (H := upd H1 p (.lst [])) (a := q) (o := .lst [])
    have s12 := sp.trans sq
    have npq : p ≠ q := fun z => by rw [← z, upd_same] at hq; cases hq
    have np1 : H1 p = Option.none := hp
    have nq1 : H1 q = Option.none := sp.free hq
    generalize upd (upd H1 p (.lst [])) q (.lst []) = H2 at s12 hp2 hq2 ⊢
    have he2 := he1.same s12
    obtain ⟨dy, pb2, qt2, hi2⟩ := he2.ins
    refine ⟨_, rfl, e, dy, _, rfl, hi2, e, S, rfl, he2, fun q9 B9 ts hq9 hT9 hB9 _ => ?_⟩
    have eB9 := hB9.ext hB
    subst eB9
    have lt9 : ts.length = B9.length + 1 := by rw [hT9.length, Eff.tbs_len]
    refine ⟨_, rfl, q9, c, ts, C.map V.int, rfl, hq9, s12.seq hC1, ?_⟩
    refine ZG.for_zipM (K := K) (a := q9) (b := c) (xs := ts) (ys := C.map V.int) (by rw [List.length_map, lt9, hl]) (fun i σ H' => ∃ (old total : Int) (dn : List (Int × Int)) (o6 o7 o8 : Option V), σ = [some (.ref e), some (.ref c), some (.ref p), some (.ref q), some (.int old), some (.int total), o6, o7, o8] ∧ Same H1 H' ∧ SqT K H' q9 ts ∧ H' p = some (.lst ((dn.map (·.2)).map V.int)) ∧ H' q = some (.lst ((dn.map (·.1)).map V.int)) ∧ TbsAt K a.Table H' ts (Eff.tbs S B9) ∧ dn.length = i ∧ 0 ≤ old ∧ Eff.kp S (Eff.thr B9) C 0 0 = dn ++ Eff.kp S ((Eff.thr B9).drop i) (C.drop i) old total)
      ⟨0, 0, [], _, _, _, rfl, s12, hq9, hp2, hq2, hT9, rfl, Int.le_refl _, rfl⟩ (fun i σ H' ⟨_, _, _, _, _, _, _, s, h, _⟩ => ⟨h, s.seq hC1⟩) ?_ ?_
    · rintro i x y U σ H3 hx hy ⟨old, total, dn, o6, o7, o8, rfl, s3, hts, hp3, hq3, hT3, hdl, ho, hkp⟩ hU
      rw [List.getElem?_map] at hy
      obtain ⟨v, hv, rfl⟩ := Option.map_eq_some_iff.mp hy
      have v0 : 0 ≤ v := of_decide_eq_true (List.all_eq_true.mp h0 v (List.mem_of_getElem? hv))
      obtain ⟨pz, hz, r, rfl, tb⟩ := pd_get hT3 hx
      unfold Eff.tbs at hz
      rw [List.getElem?_map] at hz
      obtain ⟨u, hu, rfl⟩ := Option.map_eq_some_iff.mp hz
      have sU := same_new (o := .tup [V.ref r, V.int v]) hU
      have hi3 : i < ts.length := (List.getElem?_eq_some_iff.mp hx).1
      have tb3 := tb.same sU
      have hp4 := sU _ _ hp3
      have hq4 := sU _ _ hq3
      refine ⟨U, [.ref r, .int v], rfl, SqT.of upd_same, rfl, .ref r, [.int v], rfl, .int v, [], rfl, rfl, ?_⟩
      refine ⟨_, rfl, r, rfl, _, rfl, tb3.insA, r, _, _, old, rfl, tb3, ho, ?_⟩
      rw [Eff.tb_mp g ho]
      refine ⟨_, rfl, .inl ⟨rfl, _, SqL.of hq4⟩, _, rfl, _, rfl, _, _, rfl, rfl, q, _, _, rfl, rfl, hq4, Nat.lt_of_lt_of_le (show ((dn.map (·.1)).map V.int).length < 100000 by rw [List.length_map, List.length_map]; omega) line_ge, ?_⟩
      have sA : Same H1 (upd (upd H3 U (.tup [V.ref r, V.int v])) q (.lst ((dn.map (·.1)).map V.int ++ [V.int (Eff.smp u S old - total)]))) := same_upd (s3.trans sU) nq1
      have tb4 : TabAt K a.Table (upd (upd H3 U (.tup [V.ref r, V.int v])) q (.lst ((dn.map (·.1)).map V.int ++ [V.int (Eff.smp u S old - total)]))) r (Eff.tb u S).1 (Eff.tb u S).2 := tab_lst hq4 tb3
      have hT4 : TbsAt K a.Table (upd (upd H3 U (.tup [V.ref r, V.int v])) q (.lst ((dn.map (·.1)).map V.int ++ [V.int (Eff.smp u S old - total)]))) ts (Eff.tbs S B9) := L2.Paired.mapP (tbs_same hT3 sU) fun _ _ z => tbR_lst hq4 z
      have hts4 : SqT K (upd (upd H3 U (.tup [V.ref r, V.int v])) q (.lst ((dn.map (·.1)).map V.int ++ [V.int (Eff.smp u S old - total)]))) q9 ts := kt_upd hq4 _ _ (same_seqT sU hts)
      have hp5 : (upd (upd H3 U (.tup [V.ref r, V.int v])) q (.lst ((dn.map (·.1)).map V.int ++ [V.int (Eff.smp u S old - total)]))) p = some (.lst ((dn.map (·.2)).map V.int)) := by rw [upd_ne npq]; exact hp4
      have hq5 := upd_same (H := upd H3 U (.tup [V.ref r, V.int v])) (a := q) (o := .lst ((dn.map (·.1)).map V.int ++ [V.int (Eff.smp u S old - total)]))
      generalize upd (upd H3 U (.tup [V.ref r, V.int v])) q (.lst ((dn.map (·.1)).map V.int ++ [V.int (Eff.smp u S old - total)])) = H5 at sA tb4 hT4 hts4 hp5 hq5 ⊢
      refine ⟨_, rfl, _, rfl, _, _, rfl, rfl, ?_⟩
      have ho2 : 0 ≤ old + v := by omega
      refine ⟨_, rfl, r, rfl, _, rfl, tb4.insA, r, _, _, old + v, rfl, tb4, ho2, ?_⟩
      rw [Eff.tb_mp g ho2]
      refine ⟨_, rfl, .inl ⟨rfl, _, SqL.of hp5⟩, _, rfl, _, rfl, _, _, rfl, rfl, p, _, _, rfl, rfl, hp5, Nat.lt_of_lt_of_le (show ((dn.map (·.2)).map V.int).length < 100000 by rw [List.length_map, List.length_map]; omega) line_ge, ?_⟩
      refine ⟨old + v, Eff.smp u S (old + v), dn ++ [(Eff.smp u S old - total, Eff.smp u S (old + v) - Eff.smp u S old)], _, _, _, rfl, same_upd sA np1, kt_upd hp5 _ _ hts4, ?_, ?_, L2.Paired.mapP hT4 fun _ _ z => tbR_lst hp5 z, by rw [List.length_append, hdl]; rfl, ho2, ?_⟩
      · rw [upd_same, List.map_append, List.map_append]
        rfl
      · rw [upd_ne (Ne.symm npq), hq5, List.map_append, List.map_append]
        rfl
      · rw [hkp, kp_drop hu hv, List.append_assoc]
        rfl
    · rintro σ H3 ⟨old, total, dn, o6, o7, o8, rfl, s3, hts, hp3, hq3, hT3, hdl, ho, hkp⟩
      have ek : Eff.kp S (Eff.thr B9) C 0 0 = dn := by
        rw [hkp, List.drop_of_length_le (show (Eff.thr B9).length ≤ ts.length by rw [lt9]; simp [Eff.thr])]
        simp [Eff.kp]
      refine ⟨_, rfl, _, rfl, _, rfl, q, _, rfl, SqL.of hq3, fun z hz => ?_⟩
      have sz := same_new (o := .lst (cutV ((dn.map (·.1)).map V.int) (some (1 : Int)) Option.none)) hz
      have ec : cutV ((dn.map (·.1)).map V.int) (some (1 : Int)) Option.none = ((dn.map (·.1)).drop 1).map V.int := by
        have := XT.cut_from 1 ((dn.map (·.1)).map V.int)
        rw [List.map_drop]
        exact this
      refine ⟨by show 2 ≤ sizeLine; decide, fun r hr => ?_⟩
      have sr := same_new (o := .tup [V.ref p, V.ref z]) hr
      refine k2 r p z _ (((s1.trans s3).trans sz).trans sr) upd_same ?_ ?_
      · rw [ek]
        exact sr _ _ (sz _ _ hp3)
      · rw [ek, ← ec]
        exact sr _ _ upd_same

theorem asc_thr {S : List Stp} {B : List Int} (hB : Eff.Brk S B) : Tbl.Asc (Eff.thr B) := List.pairwise_cons.mpr ⟨Eff.low_lt hB.asc, hB.asc⟩
theorem thr_next {S : List Stp} {B : List Int} (hB : Eff.Brk S B) {i : Nat} {u v : Int} (h1 : (Eff.thr B)[i]? = some u) (h2 : (Eff.thr B)[i + 1]? = some v) (c : Int) : Eff.smp (v - 1) S c = Eff.smp u S c := by
  refine Eff.smp_local c fun x hx => ?_
  have ha := asc_thr hB
  obtain ⟨i1, e1⟩ := List.getElem?_eq_some_iff.mp h1
  obtain ⟨i2, e2⟩ := List.getElem?_eq_some_iff.mp h2
  have huv : u < v := by
    rw [← e1, ← e2]
    exact List.pairwise_iff_getElem.mp ha i (i + 1) i1 i2 (by omega)
  constructor
  · intro hxv
    have hm : x ∈ Eff.thr B := List.mem_cons_of_mem _ ((hB.mem x).mpr hx)
    obtain ⟨j, hj, e⟩ := List.mem_iff_getElem.mp hm
    by_cases hji : j ≤ i
    · rcases Nat.lt_or_eq_of_le hji with h | h
      · have := List.pairwise_iff_getElem.mp ha j i hj i1 h
        omega
      · subst h; omega
    · rcases Nat.lt_or_eq_of_le (show i + 1 ≤ j by omega) with h | h
      · have := List.pairwise_iff_getElem.mp ha (i + 1) j i2 hj h
        omega
      · subst h; omega
  · intro h; omega
theorem sh_two2 (A C : List Int) : SeqAt.shaped (.tuple [.list (A.map PyData.int), .list (C.map PyData.int)]) = true := by
  simp [SeqAt.shaped, PyData.canLay0, PyData.canLayAll0, PyData.depth, PyData.depthAll, canLay_ints, depth_ints]
theorem dp_two2 {H : Hp} {t p q : Addr} {A C : List Int} (h : H t = some (.tup [.ref p, .ref q])) (hp : H p = some (.lst (A.map V.int))) (hq : H q = some (.lst (C.map V.int))) : Dp K H (.ref t) (.tuple [.list (A.map PyData.int), .list (C.map PyData.int)]) := .tup (SqT.of h) (.cons (dp_lst (SqL.of hp)) (.cons (dp_lst (SqL.of hq)) .nil))
def spGr (K : PySem.W.Frag) (CE CT : Addr) : Sp := fun vs H Q _ => ∃ (l e c : Addr) (xs : List V) (S : List Stp) (B C : List Int), vs = [.ref l, .ref e, .ref c] ∧ SqL K H l xs ∧ StsAt K H xs S ∧ EffAt K CE CT H e S ∧ Eff.Brk S B ∧ B.length ≤ 500 ∧ SqL K H c (C.map V.int) ∧ nnL C = true ∧ C.length = B.length + 1 ∧ Eff.need S ≤ C.sum ∧ ∀ H', Same H H' → Q (.bl true) H'
theorem ok_law_great_right (T : Txt K mg a) : FnR P w K mg base CX0 6 a.law_great_right (spGr K a.Effect a.Table) := by
  obtain ⟨fd, F⟩ := T.F_law_great_right
  refine XT.okR F sc_law_great_right bn_law_great_right (fun vs H Q E h => ?_) (fun cdv A outer s H vs Q E hr h => ?_)
  · obtain ⟨l, e, c, xs, S, B, C, rfl, _⟩ := h
    rfl
  · obtain ⟨l, e, c, xs, S, B, C, rfl, hS, hX, he, hB, hbz, hC, h0, hl, hge, k⟩ := h
    have G_law_map := ok_law_map (P := P) (w := w) (base := base) T
    have G_breaks := ok_Effect_breaks (P := P) (w := w) (base := base) T
    have G_kept := ok_kept (P := P) (w := w) (base := base) T
    refine ⟨_, (pss_cons (ps_par3 (i := 3) (j := 4) (l := 5) (by rfl) sc_law_great_right.nd rfl rfl rfl (by decide) (by decide) (by decide) rfl rfl rfl (pa_cons pe_int (pa_cons (pe_lst pa_nil) (pa_cons (pe_lst pa_nil) pa_nil))) (by rfl))
      (pss_cons (ps_set (i := 6) sc_law_great_right.nd rfl (Or.inl rfl) (pe_op op_cat (pe_lst (pa_cons (pe_ifExp (pt_cmpR (neDK K hr.units) (pe_propR (pv 1) T.cl_E T.p_breaks G_breaks (hr.mono (by decide)) pass0 rfl) (pe_tup pa_nil) (nomark _)) (pe_op op_sub (pe_ix (ixTK K) (pe_propR (pv 1) T.cl_E T.p_breaks G_breaks (hr.mono (by decide)) pass0 rfl) pe_int (fun _ _ => rfl)) pe_int) pe_int) pa_nil)) (pe_callTy (listK K) (by rfl) T.b_list (by decide +kernel) (pa_cons (pe_propR (pv 1) T.cl_E T.p_breaks G_breaks (hr.mono (by decide)) pass0 rfl) pa_nil))))
      (pss_cons (ps_for PassesOwn.never rfl (pi_enum (by rfl) T.b_enumerate (pa_cons (pv 6) pa_nil)) (tupK K (n := 2) (by rfl) (pgs_cons (pg_name (i := 7) sc_law_great_right.nd rfl (Or.inl rfl)) (pgs_cons (pg_name (i := 8) sc_law_great_right.nd rfl (Or.inl rfl)) pgs_nil)))
        (pss_cons (ps_set (i := 9) sc_law_great_right.nd rfl (Or.inl rfl) (pe_callR G_law_map (hr.mono (by decide)) rfl T.g_law_map T.k_law_map pass0 (pa_cons (pv 0) (pa_cons (pv 8) (pa_cons (pv 3) pa_nil)))))
      (pss_cons (ps_if (pt_cmpR op_gt (pv 7) pe_int (nomark _)) (pss_one (ps_expr (bmK K (pe_bm PySem.F.plainAttrs_list PySem.F.slot_list_append PySem.F.type_list_append mt_append (pv 5) (pa_cons (pe_op op_sub (pv 9) (pe_callR G_law_map (hr.mono (by decide)) rfl T.g_law_map T.k_law_map pass0 (pa_cons (pv 0) (pa_cons (pe_op op_sub (pv 8) pe_int) (pa_cons (pv 3) pa_nil))))) pa_nil))))) pss_nil)
      (pss_cons (ps_set (i := 3) sc_law_great_right.nd rfl (Or.inl rfl) (pe_op op_add (pv 3) (pe_ix (ixLK K) (pv 2) (pv 7) (fun _ _ => rfl))))
      (pss_one (ps_expr (bmK K (pe_bm PySem.F.plainAttrs_list PySem.F.slot_list_append PySem.F.type_list_append mt_append (pv 4) (pa_cons (pe_op op_sub (pe_callR G_law_map (hr.mono (by decide)) rfl T.g_law_map T.k_law_map pass0 (pa_cons (pv 0) (pa_cons (pv 8) (pa_cons (pv 3) pa_nil)))) (pv 9)) pa_nil)))))))))
      (pss_one (ps_ret (pe_cmpR (eqDK K hr.units) (pe_callR G_kept (hr.mono (by decide)) rfl T.g_kept T.k_kept pass0 (pa_cons (pv 1) (pa_cons (pv 2) pa_nil))) (pe_tup (pa_cons (pv 4) (pa_cons (pv 5) pa_nil))) (nomark _))))))), ?_⟩
    cases B with
    | nil =>
      refine ⟨Nat.zero_le _, fun o ho => ⟨Nat.zero_le _, fun cp hcp => ⟨_, _, _, rfl, ?_⟩⟩⟩
      have so := same_new (o := .lst []) ho
      have sc := same_new (o := .lst []) hcp
      have ho2 := sc _ _ (upd_same (H := H) (a := o) (o := .lst []))
      have hcp2 := upd_same (H := upd H o (.lst [])) (a := cp) (o := .lst [])
      have s2 := so.trans sc
      have nocp : o ≠ cp := fun z => by rw [← z, upd_same] at hcp; cases hcp
      have no1 : H o = Option.none := ho
      have ncp1 : H cp = Option.none := so.free hcp
      generalize upd (upd H o (.lst [])) cp (.lst []) = H2 at s2 ho2 hcp2 ⊢
      obtain ⟨dx, pb, qt, hi⟩ := he.ins
      refine ⟨_, rfl, e, dx, _, rfl, s2 _ _ hi, e, S, rfl, he.same s2, fun p2 B2 hp2 hB2 _ => ?_⟩
      have eB2 := hB2.ext hB
      subst eB2
      refine ⟨Nat.zero_le _, fun z hz => ?_⟩
      have sz := same_new (o := .tup []) hz
      refine ⟨_, _, dp_tup (same_seqT sz hp2), dp_tup (L := []) (SqT.of upd_same), shaped_tup _, shaped_tup _, _, rfl, ?_⟩
      rw [eqv_tups]
      refine iteN (by simp) ?_
      have sz3 := s2.trans sz
      have ho3 := sz _ _ ho2
      have hcp3 := sz _ _ hcp2
      have hp23 := same_seqT sz hp2
      generalize upd H2 z (.tup []) = H3 at sz sz3 ho3 hcp3 hp23 ⊢
      refine ⟨by show 1 ≤ sizeLine; decide, fun q hq => ?_⟩
      have sq := same_new (o := .lst [V.int (0)]) hq
      have hq1 := upd_same (H := H3) (a := q) (o := .lst [V.int (0)])
      have s4 := sz3.trans sq
      have ho4 := sq _ _ ho3
      have hcp4 := sq _ _ hcp3
      generalize upd H3 q (.lst [V.int (0)]) = H4 at sq hq1 s4 ho4 hcp4 ⊢
      refine ⟨_, rfl, e, dx, _, rfl, s4 _ _ hi, e, S, rfl, he.same s4, fun p4 B4 hp4 hB4 _ => ?_⟩
      have eB4 := hB4.ext hB
      subst eB4
      refine ⟨p4, _, rfl, .inr hp4, fun l2 hl2 => ?_⟩
      have s5' := same_new (o := .lst (([] : List Int).map V.int)) hl2
      refine ⟨q, l2, _, _, rfl, rfl, s5' _ _ hq1, upd_same, Nat.le_trans (show _ ≤ 100000 by rw [List.length_map]; simp only [List.length_cons, List.length_nil] at hbz ⊢; omega) line_ge, fun ed hed => ?_⟩
      have eE : [V.int (0)] ++ ([] : List Int).map V.int = (Eff.thr []).map V.int := rfl
      rw [eE]
      have s6' := same_new (o := .lst ((Eff.thr []).map V.int)) hed
      have hed6 := upd_same (H := upd H4 l2 (.lst (([] : List Int).map V.int))) (a := ed) (o := .lst ((Eff.thr []).map V.int))
      have s6 := (s4.trans s5').trans s6'
      have ho6 := (s5'.trans s6') _ _ ho4
      have hcp6 := (s5'.trans s6') _ _ hcp4
      have nedo : ed ≠ o := fun z => by rw [z] at hed; rw [s5' _ _ ho4] at hed; cases hed
      have nedc : ed ≠ cp := fun z => by rw [z] at hed; rw [s5' _ _ hcp4] at hed; cases hed
      generalize upd (upd H4 l2 (.lst (([] : List Int).map V.int))) ed (.lst ((Eff.thr []).map V.int)) = H6 at s6' hed6 s6 ho6 hcp6 ⊢
      clear s5' sq hq1 hl2 hed hq
      have lthr : (Eff.thr []).length = ([] : List Int).length + 1 := rfl
      generalize hTB : Eff.thr [] = us at hed6 lthr
      refine ⟨_, rfl, ed, _, rfl, SqL.of hed6, ?_⟩
      refine for_enL (xs := us.map V.int) (fun i σ H' => ∃ tot total dn o7 o8 o9, σ = [some (.ref l), some (.ref e), some (.ref c), some (.int tot), some (.ref o), some (.ref cp), some (.ref ed), o7, o8, o9] ∧ Same H H' ∧ H' ed = some (.lst (us.map V.int)) ∧ H' o = some (.lst ((dn.map fun (x : Int × Int) => x.2).map V.int)) ∧ H' cp = some (.lst (((dn.map fun (x : Int × Int) => x.1).drop 1).map V.int)) ∧ dn.length = i ∧ Eff.kp S us C 0 0 = dn ++ Eff.kp S (us.drop i) (C.drop i) tot total ∧ (0 < i → ∀ u, us[i]? = some u → total = Eff.smp (u - 1) S tot)) (fun i σ H' hi ⟨_, _, _, _, _, _, _, _, h, _⟩ => SqL.of h) ⟨0, 0, [], _, _, _, rfl, s6, hed6, ho6, hcp6, rfl, rfl, fun h => absurd h (Nat.lt_irrefl 0)⟩ ?_ ?_
      · rintro i y U σ H7 hi hy hU ⟨tot, total, dn, o7, o8, o9, rfl, s7, hed7, ho7, hcp7, hdl, hkp, htt⟩
        rw [List.getElem?_map] at hy
        obtain ⟨u, hu, rfl⟩ := Option.map_eq_some_iff.mp hy
        have hius : i < us.length := (List.getElem?_eq_some_iff.mp hu).1
        have hiC : i < C.length := by rw [hl]; omega
        have hci : C[i]? = some C[i] := List.getElem?_eq_getElem hiC
        generalize C[i] = ci at hci
        have sU := same_new (o := .tup [V.int (i : Int), V.int u]) hU
        refine ⟨U, [.int (i : Int), .int u], rfl, SqT.of upd_same, rfl, _, [.int u], rfl, _, [], rfl, rfl, ?_⟩
        have s8 := s7.trans sU
        have hed8 := sU _ _ hed7
        have ho8 := sU _ _ ho7
        have hcp8 := sU _ _ hcp7
        generalize upd H7 U (.tup [V.int (i : Int), V.int u]) = H8 at sU s8 hed8 ho8 hcp8 ⊢
        have hX8 := sts_same hX s8
        refine ⟨_, rfl, _, rfl, _, rfl, l, u, tot, xs, S, rfl, s8.seq hS, hX8, ?_⟩
        try dsimp only [tNext]
        show tSeq _ _ _ _ _
        refine seq_cut2 (fun σ' H' => σ' = [some (.ref l), some (.ref e), some (.ref c), some (.int tot), some (.ref o), some (.ref cp), some (.ref ed), some (.int (i : Int)), some (.int u), some (.int (Eff.smp u S tot))] ∧ Same H H' ∧ H' ed = some (.lst (us.map V.int)) ∧ H' o = some (.lst ((dn.map fun (x : Int × Int) => x.2).map V.int)) ∧ H' cp = some (.lst ((((dn ++ [(Eff.smp u S tot - total, Eff.smp u S (tot + ci) - Eff.smp u S tot)]).map fun (x : Int × Int) => x.1).drop 1).map V.int))) (fun N cont => ?_) (fun σ H9 h9 => ?_)
        · refine ⟨_, rfl, _, _, rfl, rfl, _, rfl, ite2 (fun h1 => ?_) (fun h1 => ?_)⟩
          · have hpos : 0 < i := by have := of_decide_eq_true h1; omega
            refine ⟨_, rfl, .inl ⟨rfl, _, SqL.of hcp8⟩, _, rfl, _, rfl, _, rfl, _, _, rfl, rfl, _, rfl, l, u - 1, tot, xs, S, rfl, s8.seq hS, hX8, _, _, rfl, rfl, cp, _, _, rfl, rfl, hcp8, Nat.lt_of_lt_of_le (show _ < 100000 by rw [List.length_map, List.length_drop, List.length_map]; omega) line_ge, ?_⟩
            refine cont _ _ ⟨rfl, same_upd s8 ncp1, by rw [upd_ne nedc]; exact hed8, by rw [upd_ne nocp]; exact ho8, ?_⟩
            rw [upd_same, ← htt hpos u hu, List.map_append, List.drop_append_of_le_length (by rw [List.length_map]; omega), List.map_append]
            rfl
          · have h0i : i = 0 := by have := of_decide_eq_false ((Bool.not_eq_true _).mp h1); omega
            have hdn : dn = [] := List.length_eq_zero_iff.mp (by omega)
            refine cont _ _ ⟨rfl, s8, hed8, ho8, ?_⟩
            rw [hcp8, hdn]
            rfl
        obtain ⟨rfl, s9, hed9, ho9, hcp9⟩ := h9
        have hX9 := sts_same hX s9
        refine ⟨_, rfl, _, rfl, _, rfl, c, _, (i : Int), .int ci, rfl, rfl, s9.seq hC, at_of rfl (by rw [List.getElem?_map, hci]; rfl), _, _, rfl, rfl, ?_⟩
        refine ⟨_, rfl, .inl ⟨rfl, _, SqL.of ho9⟩, _, rfl, _, rfl, _, rfl, l, u, tot + ci, xs, S, rfl, s9.seq hS, hX9, _, rfl, _, _, rfl, rfl, o, _, _, rfl, rfl, ho9, Nat.lt_of_lt_of_le (show _ < 100000 by rw [List.length_map, List.length_map]; omega) line_ge, ?_⟩
        refine ⟨tot + ci, Eff.smp u S (tot + ci), dn ++ [(Eff.smp u S tot - total, Eff.smp u S (tot + ci) - Eff.smp u S tot)], _, _, _, rfl, same_upd s9 no1, by rw [upd_ne nedo]; exact hed9, ?_, by rw [upd_ne (Ne.symm nocp)]; exact hcp9, by rw [List.length_append, hdl]; rfl, ?_, fun _ v hv => ?_⟩
        · rw [upd_same, List.map_append, List.map_append]
          rfl
        · rw [hkp, kp_drop hu hci, List.append_assoc]
          rfl
        · rw [← hTB] at hu hv
          exact (thr_next hB hu hv _).symm
      rintro σ H7 ⟨tot, total, dn, o7, o8, o9, rfl, s7, hed7, ho7, hcp7, hdl, hkp, htt⟩
      have ek : Eff.kp S us C 0 0 = dn := by
        rw [hkp, List.drop_of_length_le (show us.length ≤ (us.map V.int).length by rw [List.length_map]; exact Nat.le_refl _)]
        simp [Eff.kp]
      refine ⟨_, rfl, _, rfl, e, c, S, _, C, rfl, he.same s7, hB, s7.seq hC, h0, hl, hbz, hge, fun r p q H8 s8 hr hp hq => ?_⟩
      rw [hTB, ek] at hp hq
      refine ⟨_, rfl, _, rfl, by show 2 ≤ sizeLine; decide, fun t ht => ?_⟩
      have s9 := same_new (o := .tup [V.ref o, V.ref cp]) ht
      refine ⟨_, _, dp_two2 (s9 _ _ hr) (s9 _ _ hp) (s9 _ _ hq), dp_two2 upd_same (s9 _ _ (s8 _ _ ho7)) (s9 _ _ (s8 _ _ hcp7)), sh_two2 _ _, sh_two2 _ _, ?_⟩
      rw [SeqAt.eqv_refl _ (SeqAt.canLay_of_shaped (sh_two2 _ _))]
      exact k _ ((s7.trans s8).trans s9)
    | cons b0 Bt =>
      refine ⟨Nat.zero_le _, fun o ho => ⟨Nat.zero_le _, fun cp hcp => ⟨_, _, _, rfl, ?_⟩⟩⟩
      have so := same_new (o := .lst []) ho
      have sc := same_new (o := .lst []) hcp
      have ho2 := sc _ _ (upd_same (H := H) (a := o) (o := .lst []))
      have hcp2 := upd_same (H := upd H o (.lst [])) (a := cp) (o := .lst [])
      have s2 := so.trans sc
      have nocp : o ≠ cp := fun z => by rw [← z, upd_same] at hcp; cases hcp
      have no1 : H o = Option.none := ho
      have ncp1 : H cp = Option.none := so.free hcp
      generalize upd (upd H o (.lst [])) cp (.lst []) = H2 at s2 ho2 hcp2 ⊢
      obtain ⟨dx, pb, qt, hi⟩ := he.ins
      refine ⟨_, rfl, e, dx, _, rfl, s2 _ _ hi, e, S, rfl, he.same s2, fun p2 B2 hp2 hB2 _ => ?_⟩
      have eB2 := hB2.ext hB
      subst eB2
      refine ⟨Nat.zero_le _, fun z hz => ?_⟩
      have sz := same_new (o := .tup []) hz
      refine ⟨_, _, dp_tup (same_seqT sz hp2), dp_tup (L := []) (SqT.of upd_same), shaped_tup _, shaped_tup _, _, rfl, ?_⟩
      rw [eqv_tups]
      refine iteH (by simp) ?_
      have sz3 := s2.trans sz
      have ho3 := sz _ _ ho2
      have hcp3 := sz _ _ hcp2
      have hp23 := same_seqT sz hp2
      generalize upd H2 z (.tup []) = H3 at sz sz3 ho3 hcp3 hp23 ⊢
      refine ⟨_, rfl, e, dx, _, rfl, sz3 _ _ hi, e, S, rfl, he.same sz3, fun p3 B3 hp3 hB3 _ => ?_⟩
      have eB3 := hB3.ext hB
      subst eB3
      refine ⟨p3, _, 0, .int b0, rfl, rfl, hp3, atI_nat (j := 0) rfl, _, _, rfl, rfl, ?_⟩
      refine ⟨by show 1 ≤ sizeLine; decide, fun q hq => ?_⟩
      have sq := same_new (o := .lst [V.int (b0 - 1)]) hq
      have hq1 := upd_same (H := H3) (a := q) (o := .lst [V.int (b0 - 1)])
      have s4 := sz3.trans sq
      have ho4 := sq _ _ ho3
      have hcp4 := sq _ _ hcp3
      generalize upd H3 q (.lst [V.int (b0 - 1)]) = H4 at sq hq1 s4 ho4 hcp4 ⊢
      refine ⟨_, rfl, e, dx, _, rfl, s4 _ _ hi, e, S, rfl, he.same s4, fun p4 B4 hp4 hB4 _ => ?_⟩
      have eB4 := hB4.ext hB
      subst eB4
      refine ⟨p4, _, rfl, .inr hp4, fun l2 hl2 => ?_⟩
      have s5' := same_new (o := .lst (((b0 :: Bt) : List Int).map V.int)) hl2
      refine ⟨q, l2, _, _, rfl, rfl, s5' _ _ hq1, upd_same, Nat.le_trans (show _ ≤ 100000 by rw [List.length_map]; simp only [List.length_cons, List.length_nil] at hbz ⊢; omega) line_ge, fun ed hed => ?_⟩
      have eE : [V.int (b0 - 1)] ++ ((b0 :: Bt) : List Int).map V.int = (Eff.thr (b0 :: Bt)).map V.int := rfl
      rw [eE]
      have s6' := same_new (o := .lst ((Eff.thr (b0 :: Bt)).map V.int)) hed
      have hed6 := upd_same (H := upd H4 l2 (.lst (((b0 :: Bt) : List Int).map V.int))) (a := ed) (o := .lst ((Eff.thr (b0 :: Bt)).map V.int))
      have s6 := (s4.trans s5').trans s6'
      have ho6 := (s5'.trans s6') _ _ ho4
      have hcp6 := (s5'.trans s6') _ _ hcp4
      have nedo : ed ≠ o := fun z => by rw [z] at hed; rw [s5' _ _ ho4] at hed; cases hed
      have nedc : ed ≠ cp := fun z => by rw [z] at hed; rw [s5' _ _ hcp4] at hed; cases hed
      generalize upd (upd H4 l2 (.lst (((b0 :: Bt) : List Int).map V.int))) ed (.lst ((Eff.thr (b0 :: Bt)).map V.int)) = H6 at s6' hed6 s6 ho6 hcp6 ⊢
      clear s5' sq hq1 hl2 hed hq
      have lthr : (Eff.thr (b0 :: Bt)).length = ((b0 :: Bt) : List Int).length + 1 := rfl
      generalize hTB : Eff.thr (b0 :: Bt) = us at hed6 lthr
      refine ⟨_, rfl, ed, _, rfl, SqL.of hed6, ?_⟩
      refine for_enL (xs := us.map V.int) (fun i σ H' => ∃ tot total dn o7 o8 o9, σ = [some (.ref l), some (.ref e), some (.ref c), some (.int tot), some (.ref o), some (.ref cp), some (.ref ed), o7, o8, o9] ∧ Same H H' ∧ H' ed = some (.lst (us.map V.int)) ∧ H' o = some (.lst ((dn.map fun (x : Int × Int) => x.2).map V.int)) ∧ H' cp = some (.lst (((dn.map fun (x : Int × Int) => x.1).drop 1).map V.int)) ∧ dn.length = i ∧ Eff.kp S us C 0 0 = dn ++ Eff.kp S (us.drop i) (C.drop i) tot total ∧ (0 < i → ∀ u, us[i]? = some u → total = Eff.smp (u - 1) S tot)) (fun i σ H' hi ⟨_, _, _, _, _, _, _, _, h, _⟩ => SqL.of h) ⟨0, 0, [], _, _, _, rfl, s6, hed6, ho6, hcp6, rfl, rfl, fun h => absurd h (Nat.lt_irrefl 0)⟩ ?_ ?_
      · rintro i y U σ H7 hi hy hU ⟨tot, total, dn, o7, o8, o9, rfl, s7, hed7, ho7, hcp7, hdl, hkp, htt⟩
        rw [List.getElem?_map] at hy
        obtain ⟨u, hu, rfl⟩ := Option.map_eq_some_iff.mp hy
        have hius : i < us.length := (List.getElem?_eq_some_iff.mp hu).1
        have hiC : i < C.length := by rw [hl]; omega
        have hci : C[i]? = some C[i] := List.getElem?_eq_getElem hiC
        generalize C[i] = ci at hci
        have sU := same_new (o := .tup [V.int (i : Int), V.int u]) hU
        refine ⟨U, [.int (i : Int), .int u], rfl, SqT.of upd_same, rfl, _, [.int u], rfl, _, [], rfl, rfl, ?_⟩
        have s8 := s7.trans sU
        have hed8 := sU _ _ hed7
        have ho8 := sU _ _ ho7
        have hcp8 := sU _ _ hcp7
        generalize upd H7 U (.tup [V.int (i : Int), V.int u]) = H8 at sU s8 hed8 ho8 hcp8 ⊢
        have hX8 := sts_same hX s8
        refine ⟨_, rfl, _, rfl, _, rfl, l, u, tot, xs, S, rfl, s8.seq hS, hX8, ?_⟩
        try dsimp only [tNext]
        show tSeq _ _ _ _ _
        refine seq_cut2 (fun σ' H' => σ' = [some (.ref l), some (.ref e), some (.ref c), some (.int tot), some (.ref o), some (.ref cp), some (.ref ed), some (.int (i : Int)), some (.int u), some (.int (Eff.smp u S tot))] ∧ Same H H' ∧ H' ed = some (.lst (us.map V.int)) ∧ H' o = some (.lst ((dn.map fun (x : Int × Int) => x.2).map V.int)) ∧ H' cp = some (.lst ((((dn ++ [(Eff.smp u S tot - total, Eff.smp u S (tot + ci) - Eff.smp u S tot)]).map fun (x : Int × Int) => x.1).drop 1).map V.int))) (fun N cont => ?_) (fun σ H9 h9 => ?_)
        · refine ⟨_, rfl, _, _, rfl, rfl, _, rfl, ite2 (fun h1 => ?_) (fun h1 => ?_)⟩
          · have hpos : 0 < i := by have := of_decide_eq_true h1; omega
            refine ⟨_, rfl, .inl ⟨rfl, _, SqL.of hcp8⟩, _, rfl, _, rfl, _, rfl, _, _, rfl, rfl, _, rfl, l, u - 1, tot, xs, S, rfl, s8.seq hS, hX8, _, _, rfl, rfl, cp, _, _, rfl, rfl, hcp8, Nat.lt_of_lt_of_le (show _ < 100000 by rw [List.length_map, List.length_drop, List.length_map]; omega) line_ge, ?_⟩
            refine cont _ _ ⟨rfl, same_upd s8 ncp1, by rw [upd_ne nedc]; exact hed8, by rw [upd_ne nocp]; exact ho8, ?_⟩
            rw [upd_same, ← htt hpos u hu, List.map_append, List.drop_append_of_le_length (by rw [List.length_map]; omega), List.map_append]
            rfl
          · have h0i : i = 0 := by have := of_decide_eq_false ((Bool.not_eq_true _).mp h1); omega
            have hdn : dn = [] := List.length_eq_zero_iff.mp (by omega)
            refine cont _ _ ⟨rfl, s8, hed8, ho8, ?_⟩
            rw [hcp8, hdn]
            rfl
        obtain ⟨rfl, s9, hed9, ho9, hcp9⟩ := h9
        have hX9 := sts_same hX s9
        refine ⟨_, rfl, _, rfl, _, rfl, c, _, (i : Int), .int ci, rfl, rfl, s9.seq hC, at_of rfl (by rw [List.getElem?_map, hci]; rfl), _, _, rfl, rfl, ?_⟩
        refine ⟨_, rfl, .inl ⟨rfl, _, SqL.of ho9⟩, _, rfl, _, rfl, _, rfl, l, u, tot + ci, xs, S, rfl, s9.seq hS, hX9, _, rfl, _, _, rfl, rfl, o, _, _, rfl, rfl, ho9, Nat.lt_of_lt_of_le (show _ < 100000 by rw [List.length_map, List.length_map]; omega) line_ge, ?_⟩
        refine ⟨tot + ci, Eff.smp u S (tot + ci), dn ++ [(Eff.smp u S tot - total, Eff.smp u S (tot + ci) - Eff.smp u S tot)], _, _, _, rfl, same_upd s9 no1, by rw [upd_ne nedo]; exact hed9, ?_, by rw [upd_ne (Ne.symm nocp)]; exact hcp9, by rw [List.length_append, hdl]; rfl, ?_, fun _ v hv => ?_⟩
        · rw [upd_same, List.map_append, List.map_append]
          rfl
        · rw [hkp, kp_drop hu hci, List.append_assoc]
          rfl
        · rw [← hTB] at hu hv
          exact (thr_next hB hu hv _).symm
      rintro σ H7 ⟨tot, total, dn, o7, o8, o9, rfl, s7, hed7, ho7, hcp7, hdl, hkp, htt⟩
      have ek : Eff.kp S us C 0 0 = dn := by
        rw [hkp, List.drop_of_length_le (show us.length ≤ (us.map V.int).length by rw [List.length_map]; exact Nat.le_refl _)]
        simp [Eff.kp]
      refine ⟨_, rfl, _, rfl, e, c, S, _, C, rfl, he.same s7, hB, s7.seq hC, h0, hl, hbz, hge, fun r p q H8 s8 hr hp hq => ?_⟩
      rw [hTB, ek] at hp hq
      refine ⟨_, rfl, _, rfl, by show 2 ≤ sizeLine; decide, fun t ht => ?_⟩
      have s9 := same_new (o := .tup [V.ref o, V.ref cp]) ht
      refine ⟨_, _, dp_two2 (s9 _ _ hr) (s9 _ _ hp) (s9 _ _ hq), dp_two2 upd_same (s9 _ _ (s8 _ _ ho7)) (s9 _ _ (s8 _ _ hcp7)), sh_two2 _ _, sh_two2 _ _, ?_⟩
      rw [SeqAt.eqv_refl _ (SeqAt.canLay_of_shaped (sh_two2 _ _))]
      exact k _ ((s7.trans s8).trans s9)

end
end K15
namespace K15
open PySem L2 XT
section
variable {P : Program} {w : World} {K : PySem.W.Frag} {mg : Str → Option Value} {base : Heap} {a : Ads}
local macro_rules | `(tactic| walk_at "rside") => `(tactic| first | (show (0 : Int) < _; first | decide | omega) | (exact ⟨by first | decide | omega, by first | decide | omega⟩) | (exact Or.inl ⟨by omega, by omega⟩) | (exact Or.inr ⟨by omega, by omega⟩) | (exact ⟨by decide, by decide, by decide⟩))
local macro_rules | `(tactic| walk_at "rd1") => `(tactic| first | (refine ⟨_, rfl, ?_⟩) | (refine ⟨_, _, rfl, rfl, (by walk_at "rside"), ?_⟩) | (refine ⟨_, _, rfl, rfl, ?_⟩))
local macro_rules | `(tactic| walk_at "rd") => `(tactic| repeat (walk_at "rd1"))

/-- a comprehension over a tuple whose element changes something -/
theorem lcET {K : PySem.W.Frag} {a : Addr} {xs : List V} {g : TG} {te : TE} {vs : List Nat} {σ : L2.St} {H1 : Hp} {D : Addr} {Qd : Hp → Prop} (I : Nat → Hp → List V → Prop) (h0 : I 0 (upd H1 D (.lst [])) []) (hn : xs.length ≤ sizeLine)
    (hl : ∀ i H acc, I i H acc → SqT K H a xs ∧ acc.length = i)
    (hs : ∀ i x H acc (R : V → Hp → Prop), xs[i]? = some x → I i H acc → (∀ y H', H' D = some (.lst acc) → I (i + 1) (upd H' D (.lst (acc ++ [y]))) (acc ++ [y]) → R y H') → g x (wipe σ vs) H fun σ2 H2 => wipe σ2 vs = wipe σ vs ∧ te σ2 H2 R)
    (hd : ∀ H acc, I xs.length H acc → Qd H) :
    ∃ W : Nat → Nat → Hp → Prop, (∃ m, W 0 m (upd H1 D (.lst []))) ∧ ∀ i m H, W i m H →
      ((Itt K a).stop i H ∧ Qd H) ∨ ((Itt K a).go i H ∧ ∃ Nx : Hp → Prop, (∀ H', Nx H' → ∃ m', m' < m ∧ W (i + 1) m' H') ∧ ∀ x H', (Itt K a).yld i H x H' → g x (wipe σ vs) H' fun σ2 H2 => wipe σ2 vs = wipe σ vs ∧ tYes σ2 H2 fun b H3 =>
        if b = true then te σ2 H3 fun y H4 => ∃ acc, H4 D = some (.lst acc) ∧ acc.length < sizeLine ∧ Nx (upd H4 D (.lst (acc ++ [y]))) else Nx H3) := by
  refine ⟨fun i m H => m = xs.length - i ∧ i ≤ xs.length ∧ ∃ acc, I i H acc, ⟨xs.length, by simp, Nat.zero_le _, _, h0⟩, ?_⟩
  rintro i m H ⟨rfl, hi, acc, hI⟩
  have q := (hl i H acc hI).1
  by_cases hlt : i < xs.length
  · have e : xs[i]? = some xs[i] := by simp [hlt]
    refine .inr ⟨⟨xs, xs[i], q, e⟩, fun H' => ∃ acc, I (i + 1) H' acc, fun H' p => ⟨xs.length - (i + 1), by omega, rfl, hlt, p⟩, fun x H' y => ?_⟩
    obtain ⟨e1, y⟩ := y
    subst e1
    have ex := y xs q
    show g _ _ _ fun σ2 H2 => _ ∧ (if true = true then te σ2 H2 fun y H4 => ∃ acc, H4 D = some (.lst acc) ∧ acc.length < sizeLine ∧ (∃ acc', I (i + 1) (upd H4 D (.lst (acc ++ [y]))) acc') else (∃ acc, I (i + 1) H2 acc))
    simp only [if_true]
    exact hs i x _ acc _ ex hI fun y H' e k => ⟨acc, e, by rw [(hl i _ acc hI).2]; exact Nat.lt_of_lt_of_le hlt hn, _, k⟩
  · have e : i = xs.length := by omega
    subst e
    exact .inl ⟨⟨xs, q, Nat.le_refl _⟩, hd H acc hI⟩

theorem eff_but {CE CT : Addr} {H H' : Hp} {e p : Addr} {S : List Stp} (h : EffAt K CE CT H e S) (hp : PoolAt H p) (b : But p H H') : EffAt K CE CT H' e S := by
  obtain ⟨dx, pp, q, B, ts, he, h1, h2, hT, rest⟩ := h
  have kt : Kt K H H' := kt_but hp b
  have ni : ∀ {x C d : Addr} {fs : List (Str × V)}, H x = some (.ins C d fs) → H' x = some (.ins C d fs) := fun {x C d fs} hx => b _ _ (fun z => by
    obtain ⟨u, v, ev, _⟩ := hp
    rw [z, ev] at hx
    cases hx) hx
  refine ⟨dx, pp, q, B, ts, ni he, kt _ _ h1, kt _ _ h2, L2.Paired.mapP hT fun _ _ ⟨t, ex, z⟩ => ⟨t, ex, ?_⟩, rest⟩
  obtain ⟨dy, la, ht, hS, ok, hl⟩ := z
  exact ⟨dy, la, ni ht, kt _ _ hS, ok, hl⟩
theorem pick_three {c0 c1 c2 r : Int} (h0 : 0 ≤ r) (h1 : r < 3) : ∃ z, atI ([V.int c0, V.int c1, V.int c2] : List V) r = some (.int z) ∧ (z = c0 ∨ z = c1 ∨ z = c2) := by
  have : r = 0 ∨ r = 1 ∨ r = 2 := by omega
  rcases this with rfl | rfl | rfl
  · exact ⟨c0, rfl, .inl rfl⟩
  · exact ⟨c1, rfl, .inr (.inl rfl)⟩
  · exact ⟨c2, rfl, .inr (.inr rfl)⟩
theorem sh_tl (M : List Int) : SeqAt.shaped (.list [.str "told", .list (M.map PyData.int)]) = true := by
  have h1 : PyData.strOk ("told" : Str) = true := by decide +kernel
  simp [SeqAt.shaped, PyData.canLay0, PyData.canLayAll0, PyData.depth, PyData.depthAll, canLay_ints, depth_ints, h1]
theorem dp_tl {H : Hp} {t r : Addr} {M : List Int} (h : H t = some (.lst [.str "told", .ref r])) (hr : H r = some (.lst (M.map V.int))) : Dp K H (.ref t) (.list [.str "told", .list (M.map PyData.int)]) := .lst (SqL.of h) (.cons (.str _) (.cons (dp_lst (SqL.of hr)) .nil))
theorem dp_fl {H : Hp} {t : Addr} (h : H t = some (.lst [.str "failed", .non])) : Dp K H (.ref t) (.list [.str "failed", .none]) := .lst (SqL.of h) (.cons (.str _) (.cons .non .nil))
theorem sh_fl : SeqAt.shaped (.list [.str "failed", .none]) = true := by decide +kernel
theorem p49 : (1 : Int) ≤ 10 ^ (49 : Int).toNat := by decide +kernel
theorem p4950 : (10 : Int) ^ (49 : Int).toNat + 2000 ≤ 10 ^ (50 : Int).toNat := by decide +kernel
theorem p2100 : (3000 : Int) ≤ 10 ^ (49 : Int).toNat := by decide +kernel
def invG (K : PySem.W.Frag) (p D : Addr) (H0 : Hp) (i : Nat) (H : Hp) (acc : List V) : Prop := ∃ G : List Int, acc = G.map V.int ∧ acc.length = i ∧ H D = some (.lst acc) ∧ PoolAt H p ∧ But p H0 H ∧ nnL G = true
theorem nn_snoc {G : List Int} {g : Int} (h : nnL G = true) (h2 : 0 ≤ g) : nnL (G ++ [g]) = true := by
  unfold nnL at h ⊢
  rw [List.all_append, h]
  simpa using h2
theorem invG_step {p D : Addr} {H0 H H2 : Hp} {i : Nat} {acc : List V} {g : Int} (hD0 : H0 D = Option.none) (nD : D ≠ p) (h : invG K p D H0 i H acc) (b2 : But p H H2) (hp2 : PoolAt H2 p) (g0 : 0 ≤ g) : invG K p D H0 (i + 1) (upd H2 D (.lst (acc ++ [.int g]))) (acc ++ [.int g]) := by
  obtain ⟨G, e, l, hD, hp, bb, nn⟩ := h
  refine ⟨G ++ [g], by rw [e, List.map_append]; rfl, by rw [List.length_append, l]; rfl, upd_same, ?_, fun b o nb eb => ?_, nn_snoc nn g0⟩
  · obtain ⟨x, y, e, rest⟩ := hp2
    exact ⟨x, y, by rw [upd_ne (Ne.symm nD)]; exact e, rest⟩
  · have hbD : b ≠ D := fun z => by rw [z, hD0] at eb; cases eb
    rw [upd_ne hbD]
    exact b2 _ _ nb (bb _ _ nb eb)
theorem nn_zeros (n : Nat) {x : Int} (h : 0 ≤ x) : nnL (List.replicate n 0 ++ [x]) = true := by
  unfold nnL
  rw [List.all_append]
  simp [h]
theorem sum_zeros (n : Nat) (x : Int) : (List.replicate n (0 : Int) ++ [x]).sum = x := by
  induction n with
  | zero => simp
  | succ n ih => rw [List.replicate_succ, List.cons_append, List.sum_cons, ih]; omega
theorem sum_snoc (G : List Int) (x : Int) : (G ++ [x]).sum = G.sum + x := by rw [List.sum_append]; simp
/-- with nothing below the last gap, the copies are the differences of the starts -/
theorem kp_zeros {S : List Stp} {x : Int} : ∀ (us : List Int) (n : Nat) (total : Int), us.length = n + 1 → (Eff.kp S us (List.replicate n 0 ++ [x]) 0 total).map (·.1) = (match us with | [] => [] | u :: vs => (Eff.smp u S 0 - total) :: (((u :: vs).zip vs).map fun p => Eff.smp p.2 S 0 - Eff.smp p.1 S 0))
  | [], n, _, h => by simp at h
  | [u], 0, total, _ => rfl
  | [u], n + 1, _, h => by simp at h
  | u :: v :: vs, 0, _, h => by simp at h
  | u :: v :: vs, n + 1, total, h => by
    have ih := kp_zeros (S := S) (x := x) (v :: vs) n (Eff.smp u S 0) (by simpa using h)
    have e : List.replicate (n + 1) (0 : Int) ++ [x] = 0 :: (List.replicate n 0 ++ [x]) := by rw [List.replicate_succ]; rfl
    rw [e]
    show (Eff.smp u S 0 - total) :: (Eff.kp S (v :: vs) (List.replicate n 0 ++ [x]) (0 + 0) (Eff.smp u S (0 + 0))).map (·.1) = _
    rw [show (0 : Int) + 0 = 0 from rfl, ih]
    rfl
theorem smp_low0 {S : List Stp} {B : List Int} (hB : Eff.Brk S B) (g : ∀ s ∈ S, goodS s = true) : Eff.smp (Eff.low B) S 0 = 0 := by
  have lo := Eff.low_lt hB.asc
  have no : ∀ x, (true, x) ∈ S → ¬ x ≤ Eff.low B := fun x hx h => by have := lo x ((hB.mem x).mpr hx); omega
  clear hB lo
  generalize Eff.low B = t at no
  induction S with
  | nil => rfl
  | cons s S ih =>
    have e : Eff.smp1 t 0 s = 0 := by
      obtain ⟨b, k⟩ := s
      have gs := g (b, k) List.mem_cons_self
      cases b with
      | true => simp [Eff.smp1, no k List.mem_cons_self]
      | false =>
        have : 0 < k := by simpa [goodS] using gs
        have q : ¬ k ≤ 0 := by omega
        simp [Eff.smp1, q]
    show Eff.smp t S (Eff.smp1 t 0 s) = 0
    rw [e]
    exact ih (fun x hx => g x (List.mem_cons_of_mem _ hx)) (fun x hx => no x (List.mem_cons_of_mem _ hx))
/-- what the law adds up is what spread makes -/
def cps (S : List Stp) : Int → List Int → List Int
  | _, [] => []
  | f, b :: B => (Eff.smp b S 0 - f) :: cps S (Eff.smp b S 0) B
theorem zip_cps {S : List Stp} : ∀ (u : Int) (B : List Int), (((u :: B).zip B).map fun p => Eff.smp p.2 S 0 - Eff.smp p.1 S 0) = cps S (Eff.smp u S 0) B
  | u, [] => rfl
  | u, b :: B => by
    show (Eff.smp b S 0 - Eff.smp u S 0) :: (((b :: B).zip B).map fun p => Eff.smp p.2 S 0 - Eff.smp p.1 S 0) = _
    rw [zip_cps b B]
    rfl
theorem kp_cps {S : List Stp} {B : List Int} (hB : Eff.Brk S B) (g : ∀ s ∈ S, goodS s = true) (x : Int) : ((Eff.kp S (Eff.thr B) (List.replicate B.length 0 ++ [x]) 0 0).map (·.1)).drop 1 = cps S 0 B := by
  rw [kp_zeros (Eff.thr B) B.length 0 rfl]
  show ((Eff.low B :: B).zip B).map _ = _
  rw [zip_cps, smp_low0 hB g]
theorem cps_bd {S : List Stp} (g : ∀ s ∈ S, goodS s = true) : ∀ (f : Int) (B : List Int), 0 ≤ f → f ≤ S.length → ∀ c ∈ cps S f B, -(S.length : Int) ≤ c ∧ c ≤ S.length
  | _, [], _, _, c, h => by cases h
  | f, b :: B, f0, f1, c, h => by
    have h1 := Eff.smp_nn (t := b) g (Int.le_refl 0)
    have h2 := smp_ub b S 0
    rcases List.mem_cons.mp h with rfl | h
    · omega
    · exact cps_bd g (Eff.smp b S 0) B h1 (by omega) c h
theorem cps_len (S : List Stp) : ∀ (f : Int) (B : List Int), (cps S f B).length = B.length
  | _, [] => rfl
  | f, b :: B => by show (cps S _ B).length + 1 = B.length + 1; rw [cps_len]
def catR : List Int → List Int → List Int
  | b :: B, c :: C => List.replicate c.toNat b ++ catR B C
  | _, _ => []
theorem cat_spr (S : List Stp) : ∀ (f : Int) (B : List Int), catR B (cps S f B) = Eff.spr f (B.zip (B.map fun b => Eff.smp b S 0))
  | _, [] => rfl
  | f, b :: B => by
    show List.replicate (Eff.smp b S 0 - f).toNat b ++ catR B (cps S (Eff.smp b S 0) B) = List.replicate (Eff.smp b S 0 - f).toNat b ++ Eff.spr (Eff.smp b S 0) (B.zip (B.map fun b => Eff.smp b S 0))
    rw [cat_spr]
theorem cat_drop {B C : List Int} {i : Nat} {b c : Int} (h1 : B[i]? = some b) (h2 : C[i]? = some c) : catR (B.drop i) (C.drop i) = List.replicate c.toNat b ++ catR (B.drop (i + 1)) (C.drop (i + 1)) := by
  obtain ⟨a1, e1⟩ := List.getElem?_eq_some_iff.mp h1
  obtain ⟨a2, e2⟩ := List.getElem?_eq_some_iff.mp h2
  rw [List.drop_eq_getElem_cons a1, List.drop_eq_getElem_cons a2, e1, e2]
  rfl
def spWd (K : PySem.W.Frag) : Sp := fun vs H Q _ => ∃ (p l : Addr) (xs : List V) (S : List Stp), vs = [.ref p, .ref l] ∧ PoolAt H p ∧ l ≠ p ∧ H l = some (.lst xs) ∧ StsAt K H xs S ∧ LSt S ∧ S.length ≤ 100 ∧ ∀ H', But p H H' → PoolAt H' p → Q (.bl true) H'
theorem ok_law_wide_right (T : Txt K mg a) : FnG P w K mg base CX0 13 a.law_wide_right (spWd K) := by
  obtain ⟨fd, F⟩ := T.F_law_wide_right
  have G_law_take := ok_law_take (P := P) (w := w) (base := base) T
  have G_law_made := ok_law_made (P := P) (w := w) (base := base) T
  have G_law_great_right := ok_law_great_right (P := P) (w := w) (base := base) T
  have G_law_caught := ok_law_caught (P := P) (w := w) (base := base) T
  have G_of := ok_Effect_of (P := P) (w := w) (base := base) T
  have G_tables := ok_Effect_tables (P := P) (w := w) (base := base) T
  have G_breaks := ok_Effect_breaks (P := P) (w := w) (base := base) T
  have G_need := ok_Effect_need (P := P) (w := w) (base := base) T
  have G_kept := ok_kept (P := P) (w := w) (base := base) T
  refine XT.okGX F sc_law_wide_right bn_law_wide_right (fun vs H Q E h => ?_) (fun cdv A outer s H vs Q E hg hr h => ?_)
  · obtain ⟨p, l, xs, S, rfl, _⟩ := h
    rfl
  · obtain ⟨p, l, xs, S, rfl, hp, nl, hL, hst, lq, hz, k⟩ := h
    refine ⟨_, PSs.nox ((pss_cons (ps_set (i := 2) sc_law_wide_right.nd rfl (Or.inl rfl) (pe_ix (ixLK K) (pe_lst (pa_cons (pe_tup (pa_cons pe_str (pa_cons (pe_op op_add pe_int (pe_callR G_law_take (hr.mono (by decide)) rfl T.g_law_take T.k_law_take pass0 (pa_cons (pv 0) (pa_cons pe_int pa_nil)))) pa_nil))) (pa_cons (pe_tup (pa_cons pe_str (pa_cons (pe_op op_pow pe_int pe_int) pa_nil))) pa_nil))) (pe_callR G_law_take (hr.mono (by decide)) rfl T.g_law_take T.k_law_take pass0 (pa_cons (pv 0) (pa_cons pe_int pa_nil))) (fun _ _ => rfl)))
      (pss_cons (ps_set (i := 3) sc_law_wide_right.nd rfl (Or.inl rfl) (ClX.pe_cmeth (pe_glob (v := .ref a.Effect) (by rfl) T.g_Effect rfl) T.rd_Effect T.cm_of G_of (hr.mono (by decide)) pass0 (pa_cons (pe_callR G_law_made (hr.mono (by decide)) rfl T.g_law_made T.k_law_made pass0 (pa_cons (pe_op op_cat (pv 1) (pe_lst (pa_cons (pv 2) pa_nil))) pa_nil)) pa_nil)))
      (pss_cons (ps_set (i := 4) sc_law_wide_right.nd rfl (Or.inl rfl) (pe_op op_cat (pe_lc (own := [("_law_table", 5)])  rfl sc_law_wide_right.nd (pi_tup (pe_slice (slTK K) (pe_propR (pv 3) T.cl_E T.p_tables G_tables (hr.mono (by decide)) pass0 rfl) (po_some pe_int) po_none)) (blkOk_by (N := N_law_wide_right) (sc := defScope s_law_wide_right) (by decide +kernel)) (fun _ _ _ _ _ => by exact (pg_name (i := 5) sc_law_wide_right.nd rfl (Or.inl rfl))) (fun _ _ _ _ _ => by exact pts_nil) (fun _ _ _ _ _ => by exact (pe_ix (ixLK K) (pe_lst (pa_cons pe_int (pa_cons pe_int (pa_cons (pe_op op_pow pe_int pe_int) pa_nil)))) (pe_callR G_law_take (hr.mono (by decide)) rfl T.g_law_take T.k_law_take pass0 (pa_cons (pv 0) (pa_cons pe_int pa_nil))) (fun _ _ => rfl)))) (pe_lst (pa_cons (pe_op op_pow pe_int pe_int) pa_nil))))
      (pss_cons (ps_if (pt_not (pt_val (pe_callR G_law_great_right (hr.mono (by decide)) rfl T.g_law_great_right T.k_law_great_right pass0 (pa_cons (pe_op op_cat (pv 1) (pe_lst (pa_cons (pv 2) pa_nil))) (pa_cons (pv 3) (pa_cons (pv 4) pa_nil)))))) (pss_one (ps_ret pe_bl)) pss_nil)
      (pss_cons (ps_set (i := 6) sc_law_wide_right.nd rfl (Or.inl rfl) (pe_ix (ixTK K) (pe_callR G_kept (hr.mono (by decide)) rfl T.g_kept T.k_kept pass0 (pa_cons (pv 3) (pa_cons (pe_op op_cat (pe_op op_rep (pe_lst (pa_cons pe_int pa_nil)) (pe_callB (lenK K) (by rfl) T.b_len (by decide +kernel) (pa_cons (pe_propR (pv 3) T.cl_E T.p_breaks G_breaks (hr.mono (by decide)) pass0 rfl) pa_nil))) (pe_lst (pa_cons (pe_op op_pow pe_int pe_int) pa_nil))) pa_nil))) pe_int (fun _ _ => rfl)))
      (pss_cons (ps_set (i := 7) sc_law_wide_right.nd rfl (Or.inl rfl) (pe_lst pa_nil))
      (pss_cons (ps_for PassesOwn.never rfl (ZG.pi_zipM (by rfl) T.b_zip (pa_cons (pe_propR (pv 3) T.cl_E T.p_breaks G_breaks (hr.mono (by decide)) pass0 rfl) (pa_cons (pv 6) pa_nil))) (tupK K (n := 2) (by rfl) (pgs_cons (pg_name (i := 8) sc_law_wide_right.nd rfl (Or.inl rfl)) (pgs_cons (pg_name (i := 9) sc_law_wide_right.nd rfl (Or.inl rfl)) pgs_nil)))
        (pss_one (ps_set (i := 7) sc_law_wide_right.nd rfl (Or.inl rfl) (pe_op op_cat (pv 7) (pe_op op_rep (pe_lst (pa_cons (pv 8) pa_nil)) (pv 9))))))
      (pss_cons (ps_if (pt_cmpR (neDK K hr.units) (pe_callG G_law_caught hg (hr.mono (by decide)) rfl T.g_law_caught T.k_law_caught pass0 (pa_cons pe_int (pa_cons (pv 3) (pa_cons (pe_op op_pow pe_int pe_int) pa_nil)))) (pe_lst (pa_cons pe_str (pa_cons (pv 7) pa_nil))) (nomark _)) (pss_one (ps_ret pe_bl)) pss_nil)
      (pss_cons (ps_if (PW.pt (pw_and (pt_cmpR op_gt (pe_propR (pv 3) T.cl_E T.p_need G_need (hr.mono (by decide)) pass0 rfl) pe_int (nomark _)) (pw_and1 (pt_cmpR (neDK K hr.units) (pe_callG G_law_caught hg (hr.mono (by decide)) rfl T.g_law_caught T.k_law_caught pass0 (pa_cons pe_int (pa_cons (pv 3) (pa_cons (pe_op op_sub (pe_propR (pv 3) T.cl_E T.p_need G_need (hr.mono (by decide)) pass0 rfl) pe_int) pa_nil)))) (pe_lst (pa_cons pe_str (pa_cons pe_non pa_nil))) (nomark _))))) (pss_one (ps_ret pe_bl)) pss_nil)
      (pss_one (ps_ret pe_bl)))))))))))), ?_⟩
    refine ⟨_, rfl, p, 200, rfl, hp, by decide, by decide, fun r1 H1 r10 r11 b1 hp1 => ⟨_, _, rfl, rfl, by show 2 ≤ sizeLine; decide, fun t1 ht1 => ?_⟩⟩
    refine ⟨_, _, rfl, rfl, ⟨by decide, by decide, by decide⟩, by show 2 ≤ sizeLine; decide, fun t2 ht2 => ⟨by show 2 ≤ sizeLine; decide, fun ls hls => ?_⟩⟩
    have nt1 := pool_ne hp1 ht1
    have nt2 := pool_ne (pool_same hp1 (same_new ht1)) ht2
    have nls := pool_ne (pool_same (pool_same hp1 (same_new ht1)) (same_new ht2)) hls
    have ae0 := same_new (o := .tup [V.str "remove", V.int (1900 + r1)]) ht1
    have ae1 := same_new (o := .tup [V.str "remove", V.int (10 ^ (49 : Int).toNat)]) ht2
    have ae2 := same_new (o := .lst [V.ref t1, V.ref t2]) hls
    have af0 := (ae2 _ _ (ae1 _ _ (upd_same (H := H1) (a := t1) (o := .tup [V.str "remove", V.int (1900 + r1)]))))
    have af1 := (ae2 _ _ (upd_same (H := (upd H1 t1 (.tup [V.str "remove", V.int (1900 + r1)]))) (a := t2) (o := .tup [V.str "remove", V.int (10 ^ (49 : Int).toNat)])))
    have af2 := (upd_same (H := (upd (upd H1 t1 (.tup [V.str "remove", V.int (1900 + r1)])) t2 (.tup [V.str "remove", V.int (10 ^ (49 : Int).toNat)]))) (a := ls) (o := .lst [V.ref t1, V.ref t2]))
    have as := ((ae0.trans ae1).trans ae2)
    generalize upd (upd (upd H1 t1 (.tup [V.str "remove", V.int (1900 + r1)])) t2 (.tup [V.str "remove", V.int (10 ^ (49 : Int).toNat)])) ls (.lst [V.ref t1, V.ref t2]) = H4 at as af0 af1 af2 ⊢
    clear ae0 ae1 ae2
    have hp4 := pool_same hp1 as
    refine ⟨_, rfl, p, 2, rfl, hp4, by decide, by decide, fun ix H5 x0 x1 b5 hp5 => ?_⟩
    have lastx : ∃ tl k9, atI ([V.ref t1, V.ref t2] : List V) ix = some (.ref tl) ∧ H5 tl = some (.tup [.str "remove", .int k9]) ∧ 1 ≤ k9 ∧ k9 ≤ 10 ^ (49 : Int).toNat := by
      have p3 := p2100
      have : ix = 0 ∨ ix = 1 := by omega
      rcases this with rfl | rfl
      · exact ⟨t1, 1900 + r1, rfl, b5 _ _ nt1 af0, by omega, by omega⟩
      · exact ⟨t2, 10 ^ (49 : Int).toNat, rfl, b5 _ _ nt2 af1, p49, Int.le_refl _⟩
    obtain ⟨tl, k9, hat, htl, kl, kh⟩ := lastx
    refine ⟨ls, _, ix, .ref tl, rfl, rfl, SqL.of (b5 _ _ nls af2), hat, ?_⟩
    have b15 : But p H H5 := (b1.trans (but_same as)).trans b5
    have hL5 := b15 _ _ nl hL
    have hst5 := sts_kt hst (kt_but hp b15)
    have lxs := hst.length
    refine ⟨rfl, _, rfl, _, rfl, by show 1 ≤ sizeLine; decide, fun q hq => ?_⟩
    have s6 := same_new (o := .lst [V.ref tl]) hq
    refine ⟨l, q, xs, [V.ref tl], rfl, rfl, s6 _ _ hL5, upd_same, Nat.le_trans (show xs.length + 1 ≤ 100000 by omega) line_ge, fun l2 hl2 => ?_⟩
    have s7 := same_new (o := .lst (xs ++ [V.ref tl])) hl2
    have s57 := s6.trans s7
    have hl27 := upd_same (H := upd H5 q (.lst [V.ref tl])) (a := l2) (o := .lst (xs ++ [V.ref tl]))
    generalize upd (upd H5 q (.lst [V.ref tl])) l2 (.lst (xs ++ [V.ref tl])) = H7 at s57 hl27 ⊢
    clear s6 s7 hq hl2
    have stL : ∀ {H' : Hp}, Same H5 H' → StsAt K H' (xs ++ [V.ref tl]) (S ++ [(false, k9)]) := fun s => pd_append (sts_same hst5 s) (.cons (st_of (b := false) (s _ _ htl)) .nil)
    have g2 : ∀ s ∈ S ++ [((false, k9) : Stp)], goodS s = true := fun s hs => (List.mem_append.mp hs).elim (lq.good s) fun z => by
      rw [List.mem_singleton.mp z]
      simp [goodS]
      omega
    have l2z : (S ++ [((false, k9) : Stp)]).length ≤ 101 := by rw [List.length_append]; exact Nat.succ_le_succ hz
    have nd : Eff.need (S ++ [((false, k9) : Stp)]) ≤ 10 ^ (50 : Int).toNat := by
      have h1 := Gap.need_bound (K := 10 ^ (49 : Int).toNat) g2 (Int.le_trans (by decide) p49) fun s hs hb => by
        have p3 := p2100
        rcases List.mem_append.mp hs with h | h
        · have := (lq.sm s h).2
          omega
        · rw [List.mem_singleton.mp h]
          exact kh
      have p5 := p4950
      omega
    have st7 := stL s57
    refine ⟨l2, xs ++ [V.ref tl], S ++ [(false, k9)], rfl, SqL.of hl27, st7, g2, by omega, fun sq H8 s8 n8 hsq => ⟨sq, _, rfl, hsq, by omega, fun we H9 s9 n9 hwe => ?_⟩⟩
    generalize S ++ [((false, k9) : Stp)] = S2 at stL g2 l2z nd hwe st7
    have s59 := s57.trans (s8.trans s9)
    have hp9 := pool_same hp5 s59
    have hL9 := s59 _ _ hL5
    obtain ⟨dx, pb0, qt0, hi⟩ := hwe.ins
    refine ⟨_, rfl, we, dx, _, rfl, hi, we, S2, rfl, hwe, fun qt B ts hqt hT hB _ => ?_⟩
    have lts : ts.length = B.length + 1 := by rw [hT.length, Eff.tbs_len]
    have hbz : B.length ≤ 101 := Nat.le_trans (Eff.brk_len hB) l2z
    refine ⟨_, rfl, qt, ts, rfl, hqt, fun hw => ?_, fun hw z hz9 => ?_⟩
    · exfalso
      have h1 := hw.1
      have e1 : HT.sIx ts.length 0 (some 1) = min 1 ts.length := HT.sIx_nat _ 0 1
      rw [e1] at h1
      omega
    rw [cut1]
    have s10 := same_new (o := .tup (ts.drop 1)) hz9
    have hz10 := upd_same (H := H9) (a := z) (o := .tup (ts.drop 1))
    generalize upd H9 z (.tup (ts.drop 1)) = H10 at s10 hz10 ⊢
    have lz : (ts.drop 1).length = B.length := by rw [List.length_drop, lts]; rfl
    have hp10 := pool_same hp9 s10
    refine ⟨z, rfl, ⟨_, SqT.of hz10⟩, fun D hD => ?_⟩
    have nD := pool_ne hp10 hD
    refine lcET (K := K) (a := z) (xs := ts.drop 1) (invG K p D H10) ⟨[], rfl, rfl, upd_same, pool_but hp10 hD rfl, but_same (same_new hD), rfl⟩ (Nat.le_trans (show (ts.drop 1).length ≤ 100000 by omega) line_ge) (fun j H' acc ⟨G, e, l, _, _, bb, _⟩ => ⟨kt_but hp10 bb _ _ (SqT.of hz10), l⟩) ?_ ?_
    · rintro j y H' acc R hy hI kk
      obtain ⟨G9, e9, l9, hD9, hpp, bb, nn⟩ := id hI
      refine ⟨rfl, _, _, rfl, rfl, ⟨by decide, by decide, by decide⟩, by show 3 ≤ sizeLine; decide, fun d hd => ?_⟩
      have sd := same_new (o := .lst [V.int 0, V.int 1999, V.int (10 ^ (50 : Int).toNat)]) hd
      have nd9 := pool_ne hpp hd
      refine ⟨_, rfl, p, 3, rfl, pool_same hpp sd, by decide, by decide, fun r H8 r0 r3 b8 hp8 => ?_⟩
      obtain ⟨v, ev, hv⟩ := pick_three (c0 := 0) (c1 := 1999) (c2 := 10 ^ (50 : Int).toNat) r0 r3
      have v0 : 0 ≤ v := by rcases hv with rfl | rfl | rfl <;> decide +kernel
      refine ⟨d, _, r, .int v, rfl, rfl, SqL.of (b8 _ _ nd9 upd_same), ev, ?_⟩
      have bd := (but_same (p := p) sd).trans b8
      exact kk _ H8 (bd _ _ nD hD9) (invG_step hD nD hI bd hp8 v0)
    rintro H11 acc ⟨G, rfl, lG, hDG, hp11, b11, nnG⟩
    rw [List.length_map] at lG
    refine ⟨_, _, rfl, rfl, ⟨by decide, by decide, by decide⟩, by show 1 ≤ sizeLine; decide, fun q2 hq2 => ?_⟩
    have s12 := same_new (o := .lst [V.int (10 ^ (50 : Int).toNat)]) hq2
    refine ⟨D, q2, _, _, rfl, rfl, s12 _ _ hDG, upd_same, Nat.le_trans (show _ ≤ 100000 by rw [List.length_map]; simp only [List.length_cons, List.length_nil]; omega) line_ge, fun gr hgr => ?_⟩
    have eG : G.map V.int ++ [V.int (10 ^ (50 : Int).toNat)] = (G ++ [10 ^ (50 : Int).toNat]).map V.int := by rw [List.map_append]; rfl
    rw [eG]
    have s13 := same_new (o := .lst ((G ++ [10 ^ (50 : Int).toNat]).map V.int)) hgr
    have hgr13 := upd_same (H := upd H11 q2 (.lst [V.int (10 ^ (50 : Int).toNat)])) (a := gr) (o := .lst ((G ++ [10 ^ (50 : Int).toNat]).map V.int))
    have s1113 := s12.trans s13
    generalize upd (upd H11 q2 (.lst [V.int (10 ^ (50 : Int).toNat)])) gr (.lst ((G ++ [10 ^ (50 : Int).toNat]).map V.int)) = H13 at s1113 hgr13 ⊢
    clear s12 s13 hq2 hgr
    have b513 : But p H5 H13 := ((but_same (s59.trans s10)).trans b11).trans (but_same s1113)
    have hp13 := pool_same hp11 s1113
    have hL13 := b513 _ _ nl hL5
    have b913 : But p H9 H13 := ((but_same s10).trans b11).trans (but_same s1113)
    have hwe13 := eff_but hwe hp9 b913
    have ntl : tl ≠ p := fun z => by
      obtain ⟨_, _, e, _⟩ := hp5
      rw [z, e] at htl
      cases htl
    have htl13 := b513 _ _ ntl htl
    have hst13 := sts_kt hst5 (kt_but hp5 b513)
    refine ⟨_, rfl, _, rfl, by show 1 ≤ sizeLine; decide, fun q3 hq3 => ?_⟩
    have s14 := same_new (o := .lst [V.ref tl]) hq3
    refine ⟨l, q3, xs, [V.ref tl], rfl, rfl, s14 _ _ hL13, upd_same, Nat.le_trans (show xs.length + 1 ≤ 100000 by omega) line_ge, fun l3 hl3 => ?_⟩
    have s15 := same_new (o := .lst (xs ++ [V.ref tl])) hl3
    have s1315 := s14.trans s15
    have hl315 := upd_same (H := upd H13 q3 (.lst [V.ref tl])) (a := l3) (o := .lst (xs ++ [V.ref tl]))
    generalize upd (upd H13 q3 (.lst [V.ref tl])) l3 (.lst (xs ++ [V.ref tl])) = H15 at s1315 hl315 ⊢
    clear s14 s15 hq3 hl3
    have hwe15 := hwe13.same s1315
    have st15 : StsAt K H15 (xs ++ [V.ref tl]) S2 := sts_same (sts_kt (sts_same st7 (s8.trans s9)) (kt_but hp9 b913)) s1315
    have sG : (G ++ [(10 : Int) ^ (50 : Int).toNat]).sum = G.sum + 10 ^ (50 : Int).toNat := sum_snoc _ _
    have sG0 := (sum_take (C := G) 0 nnG).2
    refine ⟨_, rfl, _, rfl, l3, we, gr, xs ++ [V.ref tl], S2, B, G ++ [10 ^ (50 : Int).toNat], rfl, SqL.of hl315, st15, hwe15, hB, by omega, SqL.of (s1315 _ _ hgr13), nn_snoc nnG (by decide +kernel), by rw [List.length_append, lG, lz]; rfl, by omega, fun H16 s16 => ⟨_, rfl, iteN rfl ?_⟩⟩
    have hwe16 := hwe15.same s16
    have p50 : (0 : Int) ≤ 10 ^ (50 : Int).toNat := by decide +kernel
    obtain ⟨dx2, pb2, qt2, hi2⟩ := hwe16.ins
    refine ⟨_, rfl, by show 1 ≤ sizeLine; decide, fun z0 hz0 => ?_⟩
    have c0 := same_new (o := .lst [V.int 0]) hz0
    have hz01 := upd_same (H := H16) (a := z0) (o := .lst [V.int 0])
    generalize upd H16 z0 (.lst [V.int 0]) = H17 at c0 hz01 ⊢
    refine ⟨_, rfl, we, dx2, _, rfl, c0 _ _ hi2, we, S2, rfl, hwe16.same c0, fun pb B2 hpb hB2 _ => ?_⟩
    rw [hB2.ext hB] at hpb
    refine ⟨pb, _, rfl, .inr hpb, ?_⟩
    rw [List.length_map]
    refine ⟨z0, (B.length : Int), [V.int 0], rfl, rfl, hz01, by omega, by omega, Nat.le_trans (show 1 * ((B.length : Int)).toNat ≤ 100000 by omega) line_ge, fun z1 hz1 => ?_⟩
    rw [Int.toNat_natCast, flat_rep]
    have c1 := same_new (o := .lst ((List.replicate B.length (0 : Int)).map V.int)) hz1
    have hz11 := upd_same (H := H17) (a := z1) (o := .lst ((List.replicate B.length (0 : Int)).map V.int))
    generalize upd H17 z1 (.lst ((List.replicate B.length (0 : Int)).map V.int)) = H18 at c1 hz11 ⊢
    refine ⟨_, _, rfl, rfl, ⟨by decide, by decide, by decide⟩, by show 1 ≤ sizeLine; decide, fun z2 hz2 => ?_⟩
    have c2 := same_new (o := .lst [V.int (10 ^ (50 : Int).toNat)]) hz2
    refine ⟨z1, z2, _, _, rfl, rfl, c2 _ _ hz11, upd_same, Nat.le_trans (show _ ≤ 100000 by rw [List.length_map, List.length_replicate]; simp only [List.length_cons, List.length_nil]; omega) line_ge, fun cl hcl => ?_⟩
    have eC : (List.replicate B.length (0 : Int)).map V.int ++ [V.int (10 ^ (50 : Int).toNat)] = (List.replicate B.length 0 ++ [(10 : Int) ^ (50 : Int).toNat]).map V.int := by rw [List.map_append]; rfl
    rw [eC]
    have c3 := same_new (o := .lst ((List.replicate B.length 0 ++ [(10 : Int) ^ (50 : Int).toNat]).map V.int)) hcl
    have hcl20 := upd_same (H := upd H18 z2 (.lst [V.int (10 ^ (50 : Int).toNat)])) (a := cl) (o := .lst ((List.replicate B.length 0 ++ [(10 : Int) ^ (50 : Int).toNat]).map V.int))
    have c1620 := ((c0.trans c1).trans c2).trans c3
    generalize upd (upd H18 z2 (.lst [V.int (10 ^ (50 : Int).toNat)])) cl (.lst ((List.replicate B.length 0 ++ [(10 : Int) ^ (50 : Int).toNat]).map V.int)) = H20 at c1620 hcl20 ⊢
    clear c0 c1 c2 c3 hz0 hz1 hz2 hcl hz01 hz11
    refine ⟨we, cl, S2, B, List.replicate B.length 0 ++ [(10 : Int) ^ (50 : Int).toNat], rfl, hwe16.same c1620, hB, SqL.of hcl20, nn_zeros _ p50, by simp, by omega, by rw [sum_zeros]; exact nd, fun r pp qq H21 s21 hr9 hpp hqq => ?_⟩
    rw [kp_cps hB g2] at hqq
    refine ⟨r, _, 1, .ref qq, rfl, rfl, SqT.of hr9, atI_nat (j := 1) rfl, ?_⟩
    refine ⟨Nat.zero_le _, fun du hdu => ?_⟩
    have c4 := same_new (o := .lst []) hdu
    have hdu2 := upd_same (H := H21) (a := du) (o := .lst [])
    have hqq2 := c4 _ _ hqq
    have c1622 := (c1620.trans s21).trans c4
    generalize upd H21 du (.lst []) = H22 at c4 hdu2 hqq2 c1622 ⊢
    refine ⟨_, rfl, we, dx2, _, rfl, c1622 _ _ hi2, we, S2, rfl, hwe16.same c1622, fun pb3 B3 hpb3 hB3 _ => ?_⟩
    rw [hB3.ext hB] at hpb3
    refine ⟨_, rfl, pb3, qq, _, _, rfl, hpb3, SqL.of hqq2, ?_⟩
    refine ZG.for_zipM (K := K) (a := pb3) (b := qq) (xs := B.map V.int) (ys := (cps S2 0 B).map V.int) (by rw [List.length_map, List.length_map, cps_len]) (fun i σ H' => ∃ du' acc o8 o9, σ = [some (.ref p), some (.ref l), some (.ref tl), some (.ref we), some (.ref gr), none, some (.ref qq), some (.ref du'), o8, o9] ∧ Same H22 H' ∧ H' du' = some (.lst (acc.map V.int)) ∧ catR B (cps S2 0 B) = acc ++ catR (B.drop i) ((cps S2 0 B).drop i) ∧ acc.length ≤ i * 101) ⟨du, [], _, _, rfl, Same.refl _, hdu2, rfl, Nat.zero_le _⟩ (fun i σ H' ⟨_, _, _, _, _, s, _⟩ => ⟨same_seqT s hpb3, s.seq (SqL.of hqq2)⟩) ?_ ?_
    · rintro i x y U σ H23 hx hy ⟨du', acc, o8, o9, rfl, s23, hdu', hcat, hal⟩ hU
      rw [List.getElem?_map] at hx hy
      obtain ⟨b, hb, rfl⟩ := Option.map_eq_some_iff.mp hx
      obtain ⟨cv, hcv, rfl⟩ := Option.map_eq_some_iff.mp hy
      have cb := cps_bd g2 0 B (Int.le_refl 0) (by omega) cv (List.mem_of_getElem? hcv)
      have hiB : i < B.length := (List.getElem?_eq_some_iff.mp hb).1
      have sU := same_new (o := .tup [V.int b, V.int cv]) hU
      refine ⟨U, [.int b, .int cv], rfl, SqT.of upd_same, rfl, .int b, [.int cv], rfl, .int cv, [], rfl, rfl, ?_⟩
      have hdu3 := sU _ _ hdu'
      generalize upd H23 U (.tup [V.int b, V.int cv]) = H24 at sU hdu3 ⊢
      refine ⟨_, rfl, _, rfl, by show 1 ≤ sizeLine; decide, fun e1 he1 => ?_⟩
      have d1 := same_new (o := .lst [V.int b]) he1
      refine ⟨_, rfl, e1, cv, [V.int b], rfl, rfl, upd_same, by omega, by omega, Nat.le_trans (show 1 * cv.toNat ≤ 100000 by omega) line_ge, fun e2 he2 => ?_⟩
      have d2 := same_new (o := .lst (List.replicate cv.toNat [V.int b]).flatten) he2
      refine ⟨du', e2, _, _, rfl, rfl, d2 _ _ (d1 _ _ hdu3), upd_same, ?_, fun e3 he3 => ?_⟩
      · rw [flat_rep, List.length_map, List.length_map, List.length_replicate]
        exact Nat.le_trans (show acc.length + cv.toNat ≤ 100000 by omega) line_ge
      refine ⟨e3, acc ++ List.replicate cv.toNat b, _, _, rfl, (((s23.trans sU).trans d1).trans d2).trans (same_new he3), by rw [upd_same, flat_rep, List.map_append], by rw [hcat, cat_drop hb hcv, List.append_assoc], by rw [List.length_append, List.length_replicate]; omega⟩
    rintro σ H23 ⟨du', acc, o8, o9, rfl, s23, hdu', hcat, hal⟩
    have eacc : acc = Eff.spr 0 (B.zip (B.map fun b => Eff.smp b S2 0)) := by
      rw [← cat_spr, hcat, List.drop_of_length_le (show B.length ≤ (B.map V.int).length by rw [List.length_map]; exact Nat.le_refl _)]
      simp [catR]
    have c1623 := c1622.trans s23
    refine ⟨_, rfl, _, _, rfl, rfl, ⟨by decide, by decide, by decide⟩, 1, we, _, S2, B, rfl, hwe16.same c1623, hB, by omega, by omega, .inr (.inr (.inr ⟨rfl, _, rfl, p50, fun hlt => absurd hlt (by omega), fun hge l9 H24 s24 ht => ?_⟩))⟩
    obtain ⟨r9, ha9, hb9⟩ := ht
    refine ⟨_, rfl, by show 2 ≤ sizeLine; decide, fun t9 ht9 => ?_⟩
    have c9 := same_new (o := .lst [V.str "told", V.ref du']) ht9
    rw [← eacc] at hb9
    refine ⟨_, _, dp_tl (c9 _ _ ha9) (c9 _ _ hb9), dp_tl upd_same (c9 _ _ (s24 _ _ hdu')), sh_tl acc, sh_tl acc, _, rfl, iteN (ne_self (sh_tl acc)) ?_⟩
    have c1625 := (c1623.trans s24).trans c9
    generalize upd H24 t9 (.lst [V.str "told", V.ref du']) = H25 at c1625 ⊢
    have bAll : But p H H25 := b15.trans (b513.trans (but_same (s1315.trans (s16.trans c1625))))
    have hpAll := pool_same hp13 (s1315.trans (s16.trans c1625))
    have hwe25 := hwe16.same c1625
    refine ⟨_, rfl, we, dx2, _, rfl, c1625 _ _ hi2, we, S2, rfl, hwe25, _, _, rfl, rfl, _, rfl, ite2 (fun hpos => ?_) (fun _ => ?_)⟩
    · have hn0 : 0 < Eff.need S2 := by have := of_decide_eq_true hpos; omega
      refine ⟨_, rfl, _, rfl, we, dx2, _, rfl, c1625 _ _ hi2, we, S2, rfl, hwe25, _, _, rfl, rfl, 1, we, _, S2, B, rfl, hwe25, hB, by omega, by omega, .inr (.inr (.inr ⟨rfl, _, rfl, by omega, fun _ t H26 s26 ht => ?_, fun hge => absurd hge (by omega)⟩))⟩
      refine ⟨by show 2 ≤ sizeLine; decide, fun tz htz => ?_⟩
      have cz := same_new (o := .lst [V.str "failed", V.non]) htz
      refine ⟨_, _, dp_fl (cz _ _ ht), dp_fl upd_same, sh_fl, sh_fl, _, rfl, iteN (ne_self sh_fl) ?_⟩
      exact k _ (bAll.trans (but_same (s26.trans cz))) (pool_same hpAll (s26.trans cz))
    · exact k _ bAll hpAll

end
end K15
namespace K15
open PySem L2 XT
section
variable {P : Program} {w : World} {K : PySem.W.Frag} {mg : Str → Option Value} {base : Heap} {a : Ads}
local macro_rules | `(tactic| walk_at "rside") => `(tactic| first | (show (0 : Int) < _; first | decide | omega) | (exact ⟨by first | decide | omega, by first | decide | omega⟩) | (exact Or.inl ⟨by omega, by omega⟩) | (exact Or.inr ⟨by omega, by omega⟩) | (exact ⟨by decide, by decide, by decide⟩))
local macro_rules | `(tactic| walk_at "rd1") => `(tactic| first | (refine ⟨_, rfl, ?_⟩) | (refine ⟨_, _, rfl, rfl, (by walk_at "rside"), ?_⟩) | (refine ⟨_, _, rfl, rfl, ?_⟩))
local macro_rules | `(tactic| walk_at "rd") => `(tactic| repeat (walk_at "rd1"))

def dueD (S : List Stp) (B C : List Int) : PyData := if C.sum < Eff.need S then .list [.str "failed", .none] else .list [.str "told", .tuple [.list (((Eff.kp S (Eff.thr B) C 0 0).map (·.2)).map PyData.int), .list ((((Eff.kp S (Eff.thr B) C 0 0).map (·.1)).drop 1).map PyData.int)]]
def knD (S : List Stp) (B : List Int) (n : Int) : PyData := if n < Eff.need S then .list [.str "failed", .none] else .list [.str "told", .list ((Eff.spr 0 (B.zip (B.map fun b => Eff.smp b S 0))).map PyData.int)]
theorem sh_told2 (A C : List Int) : SeqAt.shaped (.list [.str "told", .tuple [.list (A.map PyData.int), .list (C.map PyData.int)]]) = true := by
  have h1 : PyData.strOk ("told" : Str) = true := by decide +kernel
  simp [SeqAt.shaped, PyData.canLay0, PyData.canLayAll0, PyData.depth, PyData.depthAll, canLay_ints, depth_ints, h1]
theorem sh_due (S : List Stp) (B C : List Int) : SeqAt.shaped (dueD S B C) = true := by
  unfold dueD
  split
  · exact sh_fl
  · exact sh_told2 _ _
theorem sh_kn (S : List Stp) (B : List Int) (n : Int) : SeqAt.shaped (knD S B n) = true := by
  unfold knD
  split
  · exact sh_fl
  · exact sh_tl _
theorem due_f {S : List Stp} {B C : List Int} {H : Hp} {t : Addr} (h : C.sum < Eff.need S) (ht : H t = some (.lst [.str "failed", .non])) : Dp K H (.ref t) (dueD S B C) := by
  unfold dueD
  rw [if_pos h]
  exact dp_fl ht
theorem due_t {S : List Stp} {B C : List Int} {H : Hp} {t : Addr} (h : Eff.need S ≤ C.sum) (ht : ToldK H t S B C) : Dp K H (.ref t) (dueD S B C) := by
  unfold dueD
  rw [if_neg (by omega)]
  obtain ⟨r, p, q, h1, h2, h3, h4⟩ := ht
  exact .lst (SqL.of h1) (.cons (.str _) (.cons (dp_two2 h2 h3 h4) .nil))
theorem kn_f {S : List Stp} {B : List Int} {n : Int} {H : Hp} {t : Addr} (h : n < Eff.need S) (ht : H t = some (.lst [.str "failed", .non])) : Dp K H (.ref t) (knD S B n) := by
  unfold knD
  rw [if_pos h]
  exact dp_fl ht
theorem kn_t {S : List Stp} {B : List Int} {n : Int} {H : Hp} {t : Addr} (h : Eff.need S ≤ n) (ht : ToldN H t (Eff.spr 0 (B.zip (B.map fun b => Eff.smp b S 0)))) : Dp K H (.ref t) (knD S B n) := by
  unfold knD
  rw [if_neg (by omega)]
  obtain ⟨r, h1, h2⟩ := ht
  exact dp_tl h1 h2
theorem cau0 {CE CT : Addr} {H : Hp} {Q : VK} {E : XK} {e : Addr} {x : V} {S : List Stp} {B C : List Int} (he : EffAt K CE CT H e S) (hB : Eff.Brk S B) (hz : S.length ≤ 2000) (hb : B.length ≤ 500) (hN : NumsAt K H x C) (nn : nnL C = true) (hl : C.length = B.length + 1)
    (k : ∀ t H', Same H H' → Dp K H' (.ref t) (dueD S B C) → Q (.ref t) H') : spCau K CE CT [.int 0, .ref e, x] H Q E :=
  ⟨0, e, x, S, B, rfl, he, hB, hz, hb, .inr (.inl ⟨rfl, C, hN, nn, hl, fun hlt t H' s' h => k t H' s' (due_f hlt h), fun hge l H' s' h => k l H' s' (due_t hge h)⟩)⟩
theorem cau1 {CE CT : Addr} {H : Hp} {Q : VK} {E : XK} {e : Addr} {n : Int} {S : List Stp} {B : List Int} (he : EffAt K CE CT H e S) (hB : Eff.Brk S B) (hz : S.length ≤ 2000) (hb : B.length ≤ 500) (n0 : 0 ≤ n)
    (k : ∀ t H', Same H H' → Dp K H' (.ref t) (knD S B n) → Q (.ref t) H') : spCau K CE CT [.int 1, .ref e, .int n] H Q E :=
  ⟨1, e, .int n, S, B, rfl, he, hB, hz, hb, .inr (.inr (.inr ⟨rfl, n, rfl, n0, fun hlt t H' s' h => k t H' s' (kn_f hlt h), fun hge l H' s' h => k l H' s' (kn_t hge h)⟩))⟩
/-- drawn counts, each between lo and hi -/
def invC (K : PySem.W.Frag) (p D : Addr) (lo hi : Int) (H0 : Hp) (i : Nat) (H : Hp) (acc : List V) : Prop := ∃ G : List Int, acc = G.map V.int ∧ acc.length = i ∧ H D = some (.lst acc) ∧ PoolAt H p ∧ But p H0 H ∧ nnL G = true ∧ lo * i ≤ G.sum ∧ G.sum ≤ hi * i
theorem invC_step {p D : Addr} {lo hi : Int} {H0 H H2 : Hp} {i : Nat} {acc : List V} {g : Int} (hD0 : H0 D = Option.none) (nD : D ≠ p) (h : invC K p D lo hi H0 i H acc) (b2 : But p H H2) (hp2 : PoolAt H2 p) (g0 : 0 ≤ g) (g1 : lo ≤ g) (g2 : g ≤ hi) : invC K p D lo hi H0 (i + 1) (upd H2 D (.lst (acc ++ [.int g]))) (acc ++ [.int g]) := by
  obtain ⟨G, e, l, hD, hp, bb, nn, s1, s2⟩ := h
  refine ⟨G ++ [g], by rw [e, List.map_append]; rfl, by rw [List.length_append, l]; rfl, upd_same, ?_, fun b o nb eb => ?_, nn_snoc nn g0, ?_, ?_⟩
  · obtain ⟨x, y, e, rest⟩ := hp2
    exact ⟨x, y, by rw [upd_ne (Ne.symm nD)]; exact e, rest⟩
  · have hbD : b ≠ D := fun z => by rw [z, hD0] at eb; cases eb
    rw [upd_ne hbD]
    exact b2 _ _ nb (bb _ _ nb eb)
  · rw [sum_snoc, show ((i + 1 : Nat) : Int) = (i : Int) + 1 by omega, Int.mul_add, Int.mul_one]
    omega
  · rw [sum_snoc, show ((i + 1 : Nat) : Int) = (i : Int) + 1 by omega, Int.mul_add, Int.mul_one]
    omega
def spLaw (K : PySem.W.Frag) : Sp := fun vs H Q _ => ∃ (sc : Addr) (ns : List Int), vs = [.ref sc] ∧ SqL K H sc (ns.map V.int) ∧ ns.length ≤ 63 ∧ ∀ H', Q (.bl true) H'
theorem run_short : ∀ {S : List Stp} {N M : List Int} {i : Nat}, XT.runR N i S = .inl M → M.length ≤ N.length + S.length
  | [], N, M, i, h => by
    cases h
    exact Nat.le_refl _
  | s :: S, N, M, i, h => by
    simp only [XT.runR] at h
    cases e : XT.stepR N s with
    | none => rw [e] at h; cases h
    | some X =>
      rw [e] at h
      have h1 := run_short h
      have h2 : X.length ≤ N.length + 1 := by
        obtain ⟨b, n⟩ := s
        cases b with
        | true =>
          simp only [XT.stepR] at e
          cases e
          rw [XT.srt_len, List.length_append]
          simp
        | false =>
          simp only [XT.stepR] at e
          split at e
          · cases e
          · cases e
            rw [List.length_append, List.length_take, List.length_drop]
            omega
      rw [List.length_cons]
      omega
theorem rep_fl (n : Nat) (v : V) : (List.replicate n [v]).flatten = List.replicate n v := by
  induction n with
  | zero => rfl
  | succ n ih => rw [List.replicate_succ, List.flatten_cons, ih]; rfl
theorem rep_pl (d : PyData) (h : plainD d = true) : ∀ n, plainAll (List.replicate n d) = true
  | 0 => rfl
  | n + 1 => by rw [List.replicate_succ, plainAll, h, rep_pl d h n]; rfl
theorem rep_tx (d : PyData) (h : txD d = true) : ∀ n, txAll (List.replicate n d) = true
  | 0 => rfl
  | n + 1 => by rw [List.replicate_succ, txAll, h, rep_tx d h n]; rfl
theorem rep_hd (d : PyData) (h : d.hasDict = false) : ∀ n, PyData.hasDictAll (List.replicate n d) = false
  | 0 => rfl
  | n + 1 => by rw [List.replicate_succ, PyData.hasDictAll, h, rep_hd d h n]; rfl
theorem rep_dp (d : PyData) : ∀ n, PyData.depthAll (List.replicate n d) ≤ d.depth
  | 0 => Nat.zero_le _
  | n + 1 => by
    have := rep_dp d n
    rw [List.replicate_succ, PyData.depthAll]
    omega
theorem rep_sc (d : PyData) : ∀ n, scAll (List.replicate n d) = n * (sc d + 2)
  | 0 => by simp [scAll]
  | n + 1 => by
    rw [List.replicate_succ, scAll, rep_sc d n, Nat.add_mul]
    omega
theorem rep_all {H : Hp} {v : V} {d : PyData} (h : Dp K H v d) : ∀ n, DpAll K H (List.replicate n v) (List.replicate n d)
  | 0 => .nil
  | n + 1 => .cons h (rep_all h n)
theorem odv_rep {H : Hp} {z : Addr} {n : Nat} {v : V} {d : PyData} (hn : n ≤ 100) (f : H z = some (.lst (List.replicate n v))) (dv : Dp K H v d) (h1 : plainD d = true) (h2 : d.depth ≤ 1) (h3 : sc d ≤ 5000) (h4 : txD d = true) (h5 : d.hasDict = false) : Odv K H (.ref z) (.list (List.replicate n d)) := by
  have a1 := rep_dp d n
  have a2 := rep_sc d n
  have a3 : n * (sc d + 2) ≤ 100 * 5002 := Nat.mul_le_mul hn (by omega)
  refine ⟨⟨"list", .lst (SqL.of f), by decide +kernel⟩, ⟨by rw [plainD]; exact rep_pl d h1 n, by rw [PyData.depth]; omega, by rw [sc]; omega⟩, .inl ⟨.lst (SqL.of f) (rep_all dv n), by rw [PyData.hasDict]; exact rep_hd d h5 n⟩, by rw [txD]; exact rep_tx d h4 n⟩
theorem sh_num {x : Str} (h : PyData.strOk x = true) : SeqAt.shaped (.list [.str "number", .str x]) = true := by
  have h1 : PyData.strOk ("number" : Str) = true := by decide +kernel
  simp [SeqAt.shaped, PyData.canLay0, PyData.canLayAll0, PyData.depth, PyData.depthAll, h1, h]
theorem dp_num {H : Hp} {t : Addr} {x : Str} (h : H t = some (.lst [.str "number", .str x])) : Dp K H (.ref t) (.list [.str "number", .str x]) := .lst (SqL.of h) (.cons (.str _) (.cons (.str _) .nil))
theorem bad_ints {H : Hp} {z : Addr} {n m : Nat} {x : Int} (hn : n ≤ 100) (f : H z = some (.lst (List.replicate n (V.int x)))) (h : ¬ (nnL (List.replicate n x) = true ∧ n = m)) : BadC K H (.ref z) m :=
  .inr ⟨List.replicate n x, ⟨z, rfl, .inl (SqL.of (by rw [List.map_replicate]; exact f)), by rw [List.length_replicate]; omega⟩, by rw [List.length_replicate]; exact h⟩
theorem bad_rep {H : Hp} {z : Addr} {n m : Nat} {v : V} (hn : n + 1 ≤ 100) (f : H z = some (.lst (List.replicate (n + 1) v))) (kv : KV K H v) (hi : isI v = false) : BadC K H (.ref z) m := by
  refine .inl (.inl ⟨List.replicate (n + 1) v, ⟨z, rfl, .inl (SqL.of f), fun y hy => by rw [(List.mem_replicate.mp hy).2]; exact kv, by rw [List.length_replicate]; omega⟩, ?_⟩)
  rw [List.replicate_succ]
  simp [numsV, hi]
theorem p5060 : (10 : Int) ^ (50 : Int).toNat + 60 ≤ 10 ^ 60 := by decide +kernel
theorem ok_law (T : Txt K mg a) {fd : FuncData} (F : Fun K "law" "law" s_law a.law fd) : FnG P w K mg base CX0 14 a.law (spLaw K) := by
  refine XT.okGX F sc_law bn_law (fun vs H Q E h => ?_) (fun cdv A outer s H vs Q E hg hr h => ?_)
  · obtain ⟨sc, ns, rfl, _⟩ := h
    rfl
  · obtain ⟨sc, ns, rfl, hS, hn, k⟩ := h
    have G_law_pool := ok_law_pool (P := P) (w := w) (base := base) T
    have G_law_take := ok_law_take (P := P) (w := w) (base := base) T
    have G_law_steps := ok_law_steps (P := P) (w := w) (base := base) T
    have G_law_made := ok_law_made (P := P) (w := w) (base := base) T
    have G_law_run := ok_law_run (P := P) (w := w) (base := base) T
    have G_law_due := ok_law_due (P := P) (w := w) (base := base) T
    have G_law_caught := ok_law_caught (P := P) (w := w) (base := base) T
    have G_law_great_right := ok_law_great_right (P := P) (w := w) (base := base) T
    have G_law_wide_right := ok_law_wide_right (P := P) (w := w) (base := base) T
    have G_of := ok_Effect_of (P := P) (w := w) (base := base) T
    have G_tables := ok_Effect_tables (P := P) (w := w) (base := base) T
    have G_breaks := ok_Effect_breaks (P := P) (w := w) (base := base) T
    refine ⟨_, PSs.nox ((pss_cons (ps_for PassesOwn.never rfl (pi_rng1 (by rfl) T.b_range (pa_cons (pe_callB (call_max2 rfl) (by rfl) T.b_max (by decide +kernel) (pa_cons pe_int (pa_cons (pe_callB (call_min2 rfl) (by rfl) T.b_min (by decide +kernel) (pa_cons pe_int (pa_cons (pe_callB (lenK K) (by rfl) T.b_len (by decide +kernel) (pa_cons (pv 0) pa_nil)) pa_nil))) pa_nil))) pa_nil)) (pg_name (i := 1) sc_law.nd rfl (Or.inl rfl))
        (pss_cons (ps_set (i := 2) sc_law.nd rfl (Or.inr rfl) (pe_callR G_law_pool (hr.mono (by decide)) rfl T.g_law_pool T.k_law_pool pass0 (pa_cons (pv 0) (pa_cons (pv 1) pa_nil))))
      (pss_cons (ps_set (i := 3) sc_law.nd rfl (Or.inl rfl) (pe_callR G_law_steps (hr.mono (by decide)) rfl T.g_law_steps T.k_law_steps pass0 (pa_cons (pv 2) (pa_cons pe_int pa_nil))))
      (pss_cons (ps_set (i := 4) sc_law.nd rfl (Or.inl rfl) (ClX.pe_cmeth (pe_glob (v := .ref a.Effect) (by rfl) T.g_Effect rfl) T.rd_Effect T.cm_of G_of (hr.mono (by decide)) pass0 (pa_cons (pe_callR G_law_made (hr.mono (by decide)) rfl T.g_law_made T.k_law_made pass0 (pa_cons (pv 3) pa_nil)) pa_nil)))
      (pss_cons (ps_for PassesOwn.never rfl (pi_rng1 (by rfl) T.b_range (pa_cons pe_int pa_nil)) (pg_name (i := 5) sc_law.nd rfl (Or.inl rfl))
        (pss_cons (ps_setLc (own := [("_law_table", 7)]) (i := 6) rfl sc_law.nd rfl rfl (sw_true rfl rfl rfl (by decide +kernel)) (pi_tup (pe_propR (pv 4) T.cl_E T.p_tables G_tables (hr.mono (by decide)) pass0 rfl)) (blkOk_by (N := N_law) (sc := defScope s_law) (by decide +kernel)) (fun _ _ _ _ _ => by exact (pg_name (i := 7) sc_law.nd rfl (Or.inl rfl))) (fun _ _ _ _ _ => by exact pts_nil) (fun _ _ _ _ _ => by exact (pe_callR G_law_take (hr.mono (by decide)) rfl T.g_law_take T.k_law_take pass0 (pa_cons (pv 2) (pa_cons pe_int pa_nil)))))
      (pss_cons (ps_set (i := 8) sc_law.nd rfl (Or.inl rfl) (pe_callR G_law_due (hr.mono (by decide)) rfl T.g_law_due T.k_law_due pass0 (pa_cons (pv 3) (pa_cons (pe_propR (pv 4) T.cl_E T.p_breaks G_breaks (hr.mono (by decide)) pass0 rfl) (pa_cons (pv 6) pa_nil)))))
      (pss_cons (ps_if (PW.pt (pw_or (pt_cmpR (neDK K hr.units) (pe_callG G_law_caught hg (hr.mono (by decide)) rfl T.g_law_caught T.k_law_caught pass0 (pa_cons pe_int (pa_cons (pv 4) (pa_cons (pv 6) pa_nil)))) (pv 8) (nomark _)) (pw_or1 (pt_cmpR (neDK K hr.units) (pe_callG G_law_caught hg (hr.mono (by decide)) rfl T.g_law_caught T.k_law_caught pass0 (pa_cons pe_int (pa_cons (pv 4) (pa_cons (pe_callTy (tupleK K) (by rfl) T.b_tuple (by decide +kernel) (pa_cons (pv 6) pa_nil)) pa_nil)))) (pv 8) (nomark _))))) (pss_one (ps_ret pe_bl)) pss_nil)
      (pss_cons (ps_set (i := 9) sc_law.nd rfl (Or.inl rfl) (pe_callR G_law_take (hr.mono (by decide)) rfl T.g_law_take T.k_law_take pass0 (pa_cons (pv 2) (pa_cons pe_int pa_nil))))
      (pss_cons (ps_set (i := 10) sc_law.nd rfl (Or.inl rfl) (pe_callR G_law_run (hr.mono (by decide)) rfl T.g_law_run T.k_law_run pass0 (pa_cons (pv 3) (pa_cons (pe_op op_rep (pe_lst (pa_cons pe_int pa_nil)) (pv 9)) pa_nil))))
      (pss_cons (ps_set (i := 8) sc_law.nd rfl (Or.inl rfl) (pe_ifExp (pt_cmpR op_isN (pv 10) pe_non (nomark _)) (pe_lst (pa_cons pe_str (pa_cons pe_non pa_nil))) (pe_lst (pa_cons pe_str (pa_cons (pe_lc (own := [("_law_number", 11)])  rfl sc_law.nd (pi_list (pv 10)) (blkOk_by (N := N_law) (sc := defScope s_law) (by decide +kernel)) (fun _ _ _ _ _ => by exact (pg_name (i := 11) sc_law.nd rfl (Or.inl rfl))) (fun _ _ _ _ _ => by exact pts_one (pt_cmpR op_ne (pv 11) pe_int (nomark _))) (fun _ _ _ _ _ => by exact (pv 11))) pa_nil)))))
      (pss_one (ps_if (pt_cmpR (neDK K hr.units) (pe_callG G_law_caught hg (hr.mono (by decide)) rfl T.g_law_caught T.k_law_caught pass0 (pa_cons pe_int (pa_cons (pv 4) (pa_cons (pv 9) pa_nil)))) (pv 8) (nomark _)) (pss_one (ps_ret pe_bl)) pss_nil)))))))))
      (pss_cons (ps_setLc (own := [("_law_table", 7)]) (i := 12) rfl sc_law.nd rfl rfl (sw_true rfl rfl rfl (by decide +kernel)) (pi_tup (pe_propR (pv 4) T.cl_E T.p_tables G_tables (hr.mono (by decide)) pass0 rfl)) (blkOk_by (N := N_law) (sc := defScope s_law) (by decide +kernel)) (fun _ _ _ _ _ => by exact (pg_name (i := 7) sc_law.nd rfl (Or.inl rfl))) (fun _ _ _ _ _ => by exact pts_nil) (fun _ _ _ _ _ => by exact (pe_op op_add (pe_ix (ixLK K) (pe_lst (pa_cons pe_int (pa_cons pe_int (pa_cons (pe_op op_pow pe_int pe_int) pa_nil)))) (pe_callR G_law_take (hr.mono (by decide)) rfl T.g_law_take T.k_law_take pass0 (pa_cons (pv 2) (pa_cons pe_int pa_nil))) (fun _ _ => rfl)) pe_int)))
      (pss_cons (ps_if (pt_not (pt_val (pe_callR G_law_great_right (hr.mono (by decide)) rfl T.g_law_great_right T.k_law_great_right pass0 (pa_cons (pv 3) (pa_cons (pv 4) (pa_cons (pv 12) pa_nil)))))) (pss_one (ps_ret pe_bl)) pss_nil)
      (pss_cons (ps_if (pt_not (pt_val (pe_callG G_law_wide_right hg (hr.mono (by decide)) rfl T.g_law_wide_right T.k_law_wide_right pass0 (pa_cons (pv 2) (pa_cons (pv 3) pa_nil))))) (pss_one (ps_ret pe_bl)) pss_nil)
      (pss_cons (ps_set (i := 13) sc_law.nd rfl (Or.inl rfl) (pe_callB (lenK K) (by rfl) T.b_len (by decide +kernel) (pa_cons (pe_propR (pv 4) T.cl_E T.p_tables G_tables (hr.mono (by decide)) pass0 rfl) pa_nil)))
      (pss_cons (ps_for PassesOwn.never rfl (pi_list (pe_lst (pa_cons pe_non (pa_cons pe_int (pa_cons pe_str (pa_cons (pe_op op_rep (pe_lst (pa_cons pe_int pa_nil)) (pe_op op_add (pv 13) pe_int)) (pa_cons (pe_op op_rep (pe_lst (pa_cons pe_int pa_nil)) (pe_op op_sub (pv 13) pe_int)) (pa_cons (pe_op op_rep (pe_lst (pa_cons pe_bl pa_nil)) (pv 13)) (pa_cons (pe_op op_rep (pe_lst (pa_cons (pe_un un_neg pe_int) pa_nil)) (pv 13)) (pa_cons pe_dnewK (pa_cons (pe_op op_rep (pe_lst (pa_cons pe_non pa_nil)) (pv 13)) pa_nil))))))))))) (pg_name (i := 14) sc_law.nd rfl (Or.inl rfl))
        (pss_one (ps_if (pt_cmpR (neDK K hr.units) (pe_callG G_law_caught hg (hr.mono (by decide)) rfl T.g_law_caught T.k_law_caught pass0 (pa_cons pe_int (pa_cons (pv 4) (pa_cons (pv 14) pa_nil)))) (pe_lst (pa_cons pe_str (pa_cons (pe_callB (reprKx K hg hr.units) (by rfl) T.b_repr (by decide +kernel) (pa_cons (pv 14) pa_nil)) pa_nil))) (nomark _)) (pss_one (ps_ret pe_bl)) pss_nil)))
      (pss_one (ps_for PassesOwn.never rfl (pi_list (pe_lst (pa_cons (pe_un un_neg pe_int) (pa_cons pe_bl (pa_cons pe_non (pa_cons pe_str (pa_cons (pe_lst (pa_cons pe_int pa_nil)) pa_nil))))))) (pg_name (i := 14) sc_law.nd rfl (Or.inl rfl))
        (pss_one (ps_if (pt_cmpR (neDK K hr.units) (pe_callG G_law_caught hg (hr.mono (by decide)) rfl T.g_law_caught T.k_law_caught pass0 (pa_cons pe_int (pa_cons (pv 4) (pa_cons (pv 14) pa_nil)))) (pe_lst (pa_cons pe_str (pa_cons (pe_callB (reprKx K hg hr.units) (by rfl) T.b_repr (by decide +kernel) (pa_cons (pv 14) pa_nil)) pa_nil))) (nomark _)) (pss_one (ps_ret pe_bl)) pss_nil))))))))))))))
      (pss_one (ps_ret pe_bl)))), ?_⟩
    refine ⟨_, rfl, sc, _, rfl, .inl hS, 8, _, rfl, 1, _, rfl, _, rfl, ?_⟩
    refine for_range (lo := 0) (fun i σ H' => ∃ o1 o2 o3 o4 o5 o6 o8 o9 o10 o12 o13 o14, σ = [some (.ref sc), o1, o2, o3, o4, o5, o6, none, o8, o9, o10, none, o12, o13, o14] ∧ Same H H') ⟨_, _, _, _, _, _, _, _, _, _, _, _, rfl, Same.refl _⟩ ?_ ?_
    · rintro i σ H2 hi ⟨o1, o2, o3, o4, o5, o6, o8, o9, o10, o12, o13, o14, rfl, s2⟩
      have hi2 : i ≤ 1000 := by
        rw [List.length_map] at hi
        have : (if (if (ns.length : Int) < 8 then (ns.length : Int) else 8) > 1 then (if (ns.length : Int) < 8 then (ns.length : Int) else 8) else 1) ≤ 63 := by split <;> (try split) <;> omega
        omega
      refine ⟨_, rfl, _, rfl, sc, ns, (0 : Int) + i, rfl, s2.seq hS, by omega, by omega, fun p H3 s3 n3 hp => ?_⟩
      have npH : H p = Option.none := s2.free n3
      refine ⟨_, rfl, p, 10, rfl, hp, by decide, by decide, fun l xs S H4 b4 hp4 nl hL hst lq hz => ?_⟩
      have hxl := hst.length
      have nlp := pool_ne hp nl
      refine ⟨rfl, _, rfl, l, xs, S, rfl, SqL.of hL, hst, lq.good, by omega, fun sq H5 s5 n5 hsq => ?_⟩
      refine ⟨sq, S, rfl, hsq, by omega, fun e H6 s6 n6 he => ?_⟩
      have hp6 := pool_same hp4 (s5.trans s6)
      have hL6 := (s5.trans s6) _ _ hL
      have hst6 := sts_same hst (s5.trans s6)
      have b36 := b4.trans (but_same (p := p) (s5.trans s6))
      have ev : ∀ x, (true, x) ∈ S → x % 2 = 0 := fun x hx => lq.ev _ hx rfl
      have hx14 : ∀ x, (true, x) ∈ S → x < 99 := fun x hx => by have := (lq.sm _ hx).2; simp only at this; omega
      have hnd : Eff.need S ≤ 24 := by
        have := Gap.need_bound (K := 14) lq.good (by decide) fun s hs _ => (lq.sm s hs).2
        omega
      obtain ⟨dx, pb0, qt0, hi6⟩ := he.ins
      obtain ⟨B, hB⟩ : ∃ B, Eff.Brk S B := by
        obtain ⟨_, _, _, B, _, _, _, _, _, h, _⟩ := he
        exact ⟨B, h⟩
      have hbz : B.length ≤ 10 := by
        have := Eff.brk_len hB
        omega
      have nep : e ≠ p := fun z => by
        obtain ⟨_, _, ee, _⟩ := hp6
        rw [z, ee] at hi6
        cases hi6
      try dsimp only [tNext]
      show tSeq _ _ _ _ _
      refine seq_cut2 (fun σ' H' => ∃ o5 o6 o8 o9 o10, σ' = [some (.ref sc), some (.int (0 + (i : Int))), some (.ref p), some (.ref l), some (.ref e), o5, o6, none, o8, o9, o10, none, o12, o13, o14] ∧ But p H6 H' ∧ PoolAt H' p) (fun N cont => ?_) (fun σ H7 h7 => ?_)
      · refine ⟨_, rfl, ?_⟩
        refine for_range (lo := 0) (fun j σ H' => ∃ o5 o6 o8 o9 o10, σ = [some (.ref sc), some (.int (0 + (i : Int))), some (.ref p), some (.ref l), some (.ref e), o5, o6, none, o8, o9, o10, none, o12, o13, o14] ∧ But p H6 H' ∧ PoolAt H' p) ⟨_, _, _, _, _, rfl, But.refl _ _, hp6⟩ ?_ ?_
        · rintro j σ H8 hj ⟨o5, o6, o8, o9, o10, rfl, b68, hp8⟩
          have he8 := eff_but he hp6 b68
          have hi8 := b68 _ _ nep hi6
          refine ⟨_, rfl, e, dx, _, rfl, hi8, e, S, rfl, he8, fun qt B0 ts hqt hT hB0 _ => ?_⟩
          have eB0 := hB0.ext hB
          have lts : ts.length = B.length + 1 := by rw [hT.length, Eff.tbs_len, eB0]
          clear eB0 hT
          refine ⟨qt, rfl, ⟨_, hqt⟩, fun D hD => ?_⟩
          have nD := pool_ne hp8 hD
          refine lcET (K := K) (a := qt) (xs := ts) (invC K p D 0 4 H8) ⟨[], rfl, rfl, upd_same, pool_but hp8 hD rfl, but_same (same_new hD), rfl, by simp, by simp⟩ (Nat.le_trans (show ts.length ≤ 100000 by omega) line_ge) (fun j H' acc ⟨G, e, l, _, _, bb, _⟩ => ⟨kt_but hp8 bb _ _ hqt, l⟩) ?_ ?_
          · rintro j' y H' acc R hy hI kk
            obtain ⟨G9, e9, l9, hD9, hpp, bb, nn, _, _⟩ := id hI
            refine ⟨rfl, _, rfl, p, 5, rfl, hpp, by decide, by decide, fun r H9 r0 r5 b9 hp9 => ?_⟩
            exact kk _ H9 (b9 _ _ nD hD9) (invC_step hD nD hI b9 hp9 r0 r0 (by omega))
          rintro H9 acc ⟨C, rfl, lC, hDC, hp9, b89, nnC, _, sC⟩
          rw [List.length_map] at lC
          have b69 := b68.trans b89
          have he9 := eff_but he hp6 b69
          have hL9 := b69 _ _ nlp hL6
          have hst9 := sts_kt hst6 (kt_but hp6 b69)
          have hi9 := b69 _ _ nep hi6
          try dsimp only [tNext]
          show tSeq _ _ _ _ _
          refine seq_cut2 (fun σ' H' => ∃ t, σ' = [some (.ref sc), some (.int (0 + (i : Int))), some (.ref p), some (.ref l), some (.ref e), some (.int (0 + (j : Int))), some (.ref D), none, some (.ref t), o9, o10, none, o12, o13, o14] ∧ Same H9 H' ∧ Dp K H' (.ref t) (dueD S B C)) (fun N cont => ?_) (fun σ H10 h10 => ?_)
          · refine ⟨_, rfl, _, rfl, e, dx, _, rfl, hi9, e, S, rfl, he9, fun pb B2 hpb hB2 _ => ?_⟩
            rw [hB2.ext hB] at hpb
            exact ⟨_, rfl, l, pb, D, xs, S, B, C, rfl, SqL.of hL9, hst9, lq.good, by omega, hpb, SqL.of hDC, by omega, nnC, by omega, by omega, hB, ev, fun hlt t H' s' ht => cont _ _ ⟨t, rfl, s', due_f hlt ht⟩, fun hge t H' s' ht => cont _ _ ⟨t, rfl, s', due_t hge ht⟩⟩
          obtain ⟨t, rfl, s910, hdue⟩ := h10
          have he10 := he9.same s910
          have hDC10 := s910 _ _ hDC
          try dsimp only [tNext]
          show tSeq _ _ _ _ _
          refine seq_cut2 (fun σ' H' => σ' = [some (.ref sc), some (.int (0 + (i : Int))), some (.ref p), some (.ref l), some (.ref e), some (.int (0 + (j : Int))), some (.ref D), none, some (.ref t), o9, o10, none, o12, o13, o14] ∧ Same H10 H') (fun N cont => ?_) (fun σ H13 h13 => ?_)
          · refine ⟨_, rfl, _, rfl, 0, e, .ref D, S, B, rfl, he10, hB, by omega, by omega, .inr (.inl ⟨rfl, C, ⟨D, rfl, .inl (SqL.of hDC10), by omega⟩, nnC, by omega, fun hlt t2 H11 s11 hd0 => ?_, fun hge t2 H11 s11 hd0 => ?_⟩)⟩
            · have hd2 := due_f (K := K) (B := B) hlt hd0
              refine ⟨_, rfl, _, _, hd2, dp_same s11 _ _ hdue, sh_due S B C, sh_due S B C, _, rfl, iteN (ne_self (sh_due S B C)) ?_⟩
              refine ⟨_, rfl, _, rfl, D, _, rfl, .inl ⟨SqL.of (s11 _ _ hDC10), fun tu htu => ?_⟩⟩
              have s12 := same_new (o := .tup (C.map V.int)) htu
              refine ⟨0, e, .ref tu, S, B, rfl, he10.same (s11.trans s12), hB, by omega, by omega, .inr (.inl ⟨rfl, C, ⟨tu, rfl, .inr (SqT.of upd_same), by omega⟩, nnC, by omega, fun hlt t3 H13 s13 hd0 => ?_, fun hge t3 H13 s13 hd0 => ?_⟩)⟩
              · have hd3 := due_f (K := K) (B := B) hlt hd0
                refine ⟨_, rfl, _, _, hd3, dp_same ((s11.trans s12).trans s13) _ _ hdue, sh_due S B C, sh_due S B C, _, rfl, iteN (ne_self (sh_due S B C)) ?_⟩
                exact cont _ _ ⟨rfl, (s11.trans s12).trans s13⟩
              · have hd3 := due_t (K := K) hge hd0
                refine ⟨_, rfl, _, _, hd3, dp_same ((s11.trans s12).trans s13) _ _ hdue, sh_due S B C, sh_due S B C, _, rfl, iteN (ne_self (sh_due S B C)) ?_⟩
                exact cont _ _ ⟨rfl, (s11.trans s12).trans s13⟩
            · have hd2 := due_t (K := K) hge hd0
              refine ⟨_, rfl, _, _, hd2, dp_same s11 _ _ hdue, sh_due S B C, sh_due S B C, _, rfl, iteN (ne_self (sh_due S B C)) ?_⟩
              refine ⟨_, rfl, _, rfl, D, _, rfl, .inl ⟨SqL.of (s11 _ _ hDC10), fun tu htu => ?_⟩⟩
              have s12 := same_new (o := .tup (C.map V.int)) htu
              refine ⟨0, e, .ref tu, S, B, rfl, he10.same (s11.trans s12), hB, by omega, by omega, .inr (.inl ⟨rfl, C, ⟨tu, rfl, .inr (SqT.of upd_same), by omega⟩, nnC, by omega, fun hlt t3 H13 s13 hd0 => ?_, fun hge t3 H13 s13 hd0 => ?_⟩)⟩
              · have hd3 := due_f (K := K) (B := B) hlt hd0
                refine ⟨_, rfl, _, _, hd3, dp_same ((s11.trans s12).trans s13) _ _ hdue, sh_due S B C, sh_due S B C, _, rfl, iteN (ne_self (sh_due S B C)) ?_⟩
                exact cont _ _ ⟨rfl, (s11.trans s12).trans s13⟩
              · have hd3 := due_t (K := K) hge hd0
                refine ⟨_, rfl, _, _, hd3, dp_same ((s11.trans s12).trans s13) _ _ hdue, sh_due S B C, sh_due S B C, _, rfl, iteN (ne_self (sh_due S B C)) ?_⟩
                exact cont _ _ ⟨rfl, (s11.trans s12).trans s13⟩
          obtain ⟨rfl, s1013⟩ := h13
          have b613 : But p H6 H13 := b69.trans (but_same (s910.trans s1013))
          have hp13 := pool_same hp9 (s910.trans s1013)
          refine ⟨_, rfl, p, 8, rfl, hp13, by decide, by decide, fun n H14 n0 n8 b14 hp14 => ?_⟩
          have b614 := b613.trans b14
          have he14 := eff_but he hp6 b614
          have hL14 := b614 _ _ nlp hL6
          have hst14 := sts_kt hst6 (kt_but hp6 b614)
          try dsimp only [tNext]
          show tSeq _ _ _ _ _
          refine seq_cut2 (fun σ' H' => ∃ v, σ' = [some (.ref sc), some (.int (0 + (i : Int))), some (.ref p), some (.ref l), some (.ref e), some (.int (0 + (j : Int))), some (.ref D), none, some (.ref t), some (.int n), some v, none, o12, o13, o14] ∧ Same H14 H' ∧ ((v = .non ∧ n < Eff.need S) ∨ ∃ (m : Addr) (M : List Int), v = V.ref m ∧ H' m = some (.lst (M.map V.int)) ∧ M.length ≤ 1000 ∧ Eff.need S ≤ n ∧ (M.filter fun x => decide (x ≠ 99)) = Eff.spr 0 (B.zip (B.map fun b => Eff.smp b S 0)))) (fun N cont => ?_) (fun σ H15 h15 => ?_)
          · refine ⟨_, rfl, by show 1 ≤ sizeLine; decide, fun q hq => ?_⟩
            have sq := same_new (o := .lst [V.int 99]) hq
            refine ⟨_, rfl, q, n, [V.int 99], rfl, rfl, upd_same, by omega, by omega, Nat.le_trans (show 1 * n.toNat ≤ 100000 by omega) line_ge, fun w hw => ?_⟩
            rw [flat_rep]
            have sw := same_new (o := .lst ((List.replicate n.toNat (99 : Int)).map V.int)) hw
            have sqw := sq.trans sw
            have hw1 := upd_same (H := upd H14 q (.lst [V.int 99])) (a := w) (o := .lst ((List.replicate n.toNat (99 : Int)).map V.int))
            generalize upd (upd H14 q (.lst [V.int 99])) w (.lst ((List.replicate n.toNat (99 : Int)).map V.int)) = Hw at sqw hw1 ⊢
            have hup : Tbl.Up (List.replicate n.toNat (99 : Int)) := by
              show List.Pairwise _ _
              rw [List.pairwise_replicate]
              exact .inr (Int.le_refl _)
            have hln : ((List.replicate n.toNat (99 : Int)).length : Int) = n := by rw [List.length_replicate]; omega
            refine ⟨l, .ref w, xs, S, List.replicate n.toNat 99, rfl, sqw.seq (SqL.of hL14), sts_same hst14 sqw, lq.good, ⟨w, rfl, .inl (SqL.of hw1), by omega⟩, by omega, fun M hM m H' s' nm hm => ?_, fun i' hi' H' s' => ?_⟩
            · rw [← XT.srt_of (List.Perm.refl _) hup] at hM
              obtain ⟨upM, hcM, hmM⟩ := Eff.run_cnt hup lq.good hM
              have hlen := run_short hM
              refine cont _ _ ⟨.ref m, rfl, sqw.trans s', .inr ⟨m, M, rfl, hm, by omega, ?_, ?_⟩⟩
              · have := (Eff.run_iff (i := 0) hup lq.good).mp ⟨M, hM⟩
                omega
              · exact (Gap.kn_marks hB upM hx14 (fun x hx => (List.mem_replicate.mp hx).2) hcM hmM).symm
            · rw [← XT.srt_of (List.Perm.refl _) hup] at hi'
              refine cont _ _ ⟨.non, rfl, sqw.trans s', .inl ⟨rfl, ?_⟩⟩
              by_cases q' : Eff.need S ≤ n
              · obtain ⟨M, e⟩ := (Eff.run_iff (i := 0) hup lq.good).mpr (by rw [hln]; exact q')
                rw [e] at hi'
                cases hi'
              · omega
          obtain ⟨v, rfl, s15, hv⟩ := h15
          try dsimp only [tNext]
          show tSeq _ _ _ _ _
          refine seq_cut2 (fun σ' H' => ∃ t, σ' = [some (.ref sc), some (.int (0 + (i : Int))), some (.ref p), some (.ref l), some (.ref e), some (.int (0 + (j : Int))), some (.ref D), none, some (.ref t), some (.int n), some v, none, o12, o13, o14] ∧ Same H15 H' ∧ Dp K H' (.ref t) (knD S B n)) (fun N cont => ?_) (fun σ H16 h16 => ?_)
          · rcases hv with ⟨rfl, hlt⟩ | ⟨m, M, rfl, hm, hml, hge, hM⟩
            · refine ⟨_, rfl, rfl, _, rfl, iteH (by simp) ?_⟩
              exact ⟨by show 2 ≤ sizeLine; decide, fun t ht => cont _ _ ⟨t, rfl, same_new ht, kn_f hlt upd_same⟩⟩
            · refine ⟨_, rfl, rfl, _, rfl, iteN (by simp) ?_⟩
              refine ⟨_, rfl, m, rfl, ⟨_, SqL.of hm⟩, fun D2 hD2 => ?_⟩
              refine lcELT (K := K) (a := m) (xs := M.map V.int) (fun j H' acc => acc = ((M.take j).filter fun x => decide (x ≠ 99)).map V.int ∧ acc.length ≤ j ∧ H' D2 = some (.lst acc) ∧ Same H15 H') ⟨rfl, Nat.le_refl _, upd_same, same_new hD2⟩ (Nat.le_trans (show (M.map V.int).length ≤ 100000 by rw [List.length_map]; omega) line_ge) (fun j H' acc ⟨_, e, _, s⟩ => ⟨s.seq (SqL.of hm), e⟩) ?_ ?_
              · rintro j' y H' acc R Nx hy ⟨ea, el, hDa, sa⟩ kk kn
                rw [List.getElem?_map] at hy
                obtain ⟨x, hx, rfl⟩ := Option.map_eq_some_iff.mp hy
                have et : (M.take (j' + 1)).filter (fun x => decide (x ≠ 99)) = (M.take j').filter (fun x => decide (x ≠ 99)) ++ if x ≠ 99 then [x] else [] := by
                  rw [List.take_add_one, hx, List.filter_append]
                  by_cases q : x = 99 <;> simp [q]
                refine ⟨rfl, _, rfl, rfl, _, rfl, ite2 (fun h1 => ?_) (fun h1 => ?_)⟩
                · have hx9 : x ≠ 99 := by simpa using h1
                  refine ⟨_, rfl, kk _ _ hDa ⟨?_, by rw [List.length_append]; exact Nat.succ_le_succ el, upd_same, same_upd sa hD2⟩⟩
                  rw [et, if_pos hx9, List.map_append, ← ea]
                  rfl
                · have hx9 : x = 99 := by simpa using h1
                  refine kn _ ⟨?_, Nat.le_succ_of_le el, hDa, sa⟩
                  rw [et, if_neg (by simp [hx9]), List.append_nil]
                  exact ea
              · rintro H' acc ⟨ea, el, hDa, sa⟩
                rw [List.length_map, List.take_length, hM] at ea
                refine ⟨by show 2 ≤ sizeLine; decide, fun t ht => cont _ _ ⟨t, rfl, sa.trans (same_new ht), kn_t hge ⟨D2, upd_same, ?_⟩⟩⟩
                rw [← ea]
                exact (same_new ht) _ _ hDa
          obtain ⟨t4, rfl, s16, hkn⟩ := h16
          refine ⟨_, rfl, _, rfl, 1, e, .int n, S, B, rfl, he14.same (s15.trans s16), hB, by omega, by omega, .inr (.inr (.inr ⟨rfl, n, rfl, n0, fun hlt t5 H17 s17 hd0 => ?_, fun hge t5 H17 s17 hd0 => ?_⟩))⟩
          · have hd5 := kn_f (K := K) (B := B) hlt hd0
            refine ⟨_, rfl, _, _, hd5, dp_same s17 _ _ hkn, sh_kn S B n, sh_kn S B n, _, rfl, iteN (ne_self (sh_kn S B n)) ?_⟩
            exact ⟨_, _, _, _, _, rfl, b614.trans (but_same ((s15.trans s16).trans s17)), pool_same hp14 ((s15.trans s16).trans s17)⟩
          · have hd5 := kn_t (K := K) hge hd0
            refine ⟨_, rfl, _, _, hd5, dp_same s17 _ _ hkn, sh_kn S B n, sh_kn S B n, _, rfl, iteN (ne_self (sh_kn S B n)) ?_⟩
            exact ⟨_, _, _, _, _, rfl, b614.trans (but_same ((s15.trans s16).trans s17)), pool_same hp14 ((s15.trans s16).trans s17)⟩
        · rintro σ H8 ⟨o5, o6, o8, o9, o10, rfl, b68, hp8⟩
          exact cont _ _ ⟨_, _, _, _, _, rfl, b68, hp8⟩
      · obtain ⟨o5, o6, o8, o9, o10, rfl, b67, hp7⟩ := h7
        have he7 := eff_but he hp6 b67
        have hL7 := b67 _ _ nlp hL6
        have hst7 := sts_kt hst6 (kt_but hp6 b67)
        have hi7 := b67 _ _ nep hi6
        refine ⟨_, rfl, e, dx, _, rfl, hi7, e, S, rfl, he7, fun qt B0 ts hqt hT hB0 _ => ?_⟩
        have eB0 := hB0.ext hB
        have lts : ts.length = B.length + 1 := by rw [hT.length, Eff.tbs_len, eB0]
        clear eB0 hT
        refine ⟨qt, rfl, ⟨_, hqt⟩, fun D hD => ?_⟩
        have nD := pool_ne hp7 hD
        refine lcET (K := K) (a := qt) (xs := ts) (invC K p D 60 (10 ^ 60) H7) ⟨[], rfl, rfl, upd_same, pool_but hp7 hD rfl, but_same (same_new hD), rfl, by simp, by simp⟩ (Nat.le_trans (show ts.length ≤ 100000 by omega) line_ge) (fun j H' acc ⟨G, e, l, _, _, bb, _⟩ => ⟨kt_but hp7 bb _ _ hqt, l⟩) ?_ ?_
        · rintro j' y H' acc R hy hI kk
          obtain ⟨G9, e9, l9, hD9, hpp, bb, nn, _, _⟩ := id hI
          refine ⟨rfl, _, _, rfl, rfl, ⟨by decide, by decide, by decide⟩, by show 3 ≤ sizeLine; decide, fun d hd => ?_⟩
          have sd := same_new (o := .lst [V.int 0, V.int 3, V.int (10 ^ (50 : Int).toNat)]) hd
          have nd9 := pool_ne hpp hd
          refine ⟨_, rfl, p, 3, rfl, pool_same hpp sd, by decide, by decide, fun r H8 r0 r3 b8 hp8 => ?_⟩
          obtain ⟨v, ev9, hv⟩ := pick_three (c0 := 0) (c1 := 3) (c2 := 10 ^ (50 : Int).toNat) r0 r3
          have v0 : 0 ≤ v := by rcases hv with rfl | rfl | rfl <;> decide +kernel
          have v1 : v + 60 ≤ 10 ^ 60 := by rcases hv with rfl | rfl | rfl <;> decide +kernel
          refine ⟨d, _, r, .int v, rfl, rfl, SqL.of (b8 _ _ nd9 upd_same), ev9, _, _, rfl, rfl, ?_⟩
          have bd := (but_same (p := p) sd).trans b8
          exact kk _ H8 (bd _ _ nD hD9) (invC_step hD nD hI bd hp8 (by omega) (by omega) v1)
        rintro H8 acc ⟨G, rfl, lG, hDG, hp8, b78, nnG, sG, _⟩
        rw [List.length_map] at lG
        have b68 := b67.trans b78
        have he8 := eff_but he hp6 b68
        have hL8 := b68 _ _ nlp hL6
        have hst8 := sts_kt hst6 (kt_but hp6 b68)
        refine ⟨_, rfl, _, rfl, _, rfl, l, e, D, xs, S, B, G, rfl, SqL.of hL8, hst8, he8, hB, by omega, SqL.of hDG, nnG, by omega, by omega, fun H9 s9 => ⟨_, rfl, iteN rfl ?_⟩⟩
        have b69 := b68.trans (but_same s9)
        refine ⟨_, rfl, _, rfl, p, l, xs, S, rfl, pool_same hp8 s9, nlp, s9 _ _ hL8, sts_same hst8 s9, lq, by omega, fun H10 b10 hp10 => ⟨_, rfl, iteN rfl ?_⟩⟩
        have b610 := b69.trans b10
        have he10 := eff_but he hp6 b610
        have hi10 := b610 _ _ nep hi6
        refine ⟨_, rfl, e, dx, _, rfl, hi10, e, S, rfl, he10, fun qt2 B2 ts2 hqt2 hT2 hB2 _ => ?_⟩
        have lts2 : ts2.length = B.length + 1 := by rw [hT2.length, Eff.tbs_len, hB2.ext hB]
        refine ⟨qt2, ts2, rfl, .inr hqt2, ?_⟩
        rw [lts2]
        clear hT2 hqt2 hB2 lts2
        try dsimp only [tNext]
        show tSeq _ _ _ _ _
        refine seq_cut2 (fun σ' H' => ∃ o14, σ' = [some (.ref sc), some (.int (0 + (i : Int))), some (.ref p), some (.ref l), some (.ref e), o5, o6, none, o8, o9, o10, none, some (.ref D), some (.int ((B.length + 1 : Nat) : Int)), o14] ∧ Same H10 H') (fun N cont => ?_) (fun σ H11 hO => ?_)
        · refine ⟨by show 1 ≤ sizeLine; decide, fun a1 g1 => ?_⟩
          have u1 := same_new (o := .lst [V.int 0]) g1
          have w1 := upd_same (H := H10) (a := a1) (o := .lst [V.int 0])
          generalize upd H10 a1 (.lst [V.int 0]) = H10a at u1 w1 ⊢
          refine ⟨_, rfl, _, _, rfl, rfl, a1, ((B.length + 1 : Nat) : Int) + 1, [V.int 0], rfl, rfl, w1, by omega, by omega, Nat.le_trans (show 1 * (((B.length + 1 : Nat) : Int) + 1).toNat ≤ 100000 by omega) line_ge, fun z1 h1 => ?_⟩
          have er1 : (((B.length + 1 : Nat) : Int) + 1).toNat = B.length + 2 := by omega
          rw [er1, rep_fl]
          have v1 := same_new (o := .lst (List.replicate (B.length + 2) (V.int 0))) h1
          have f1 := upd_same (H := H10a) (a := z1) (o := .lst (List.replicate (B.length + 2) (V.int 0)))
          have uv1 := u1.trans v1
          generalize upd H10a z1 (.lst (List.replicate (B.length + 2) (V.int 0))) = H10b at f1 uv1 ⊢
          clear u1 v1 w1 g1 h1
          refine ⟨by show 1 ≤ sizeLine; decide, fun a2 g2 => ?_⟩
          have u2 := same_new (o := .lst [V.int 1]) g2
          have w2 := upd_same (H := H10b) (a := a2) (o := .lst [V.int 1])
          generalize upd H10b a2 (.lst [V.int 1]) = H10ba at u2 w2 ⊢
          refine ⟨_, rfl, _, _, rfl, rfl, a2, ((B.length + 1 : Nat) : Int) - 1, [V.int 1], rfl, rfl, w2, by omega, by omega, Nat.le_trans (show 1 * (((B.length + 1 : Nat) : Int) - 1).toNat ≤ 100000 by omega) line_ge, fun z2 h2 => ?_⟩
          have er2 : (((B.length + 1 : Nat) : Int) - 1).toNat = B.length := by omega
          rw [er2, rep_fl]
          have v2 := same_new (o := .lst (List.replicate (B.length) (V.int 1))) h2
          have f2 := upd_same (H := H10ba) (a := z2) (o := .lst (List.replicate (B.length) (V.int 1)))
          have uv2 := u2.trans v2
          generalize upd H10ba z2 (.lst (List.replicate (B.length) (V.int 1))) = H10bb at f2 uv2 ⊢
          replace f1 := uv2 _ _ f1
          clear u2 v2 w2 g2 h2
          refine ⟨by show 1 ≤ sizeLine; decide, fun a3 g3 => ?_⟩
          have u3 := same_new (o := .lst [V.bl true]) g3
          have w3 := upd_same (H := H10bb) (a := a3) (o := .lst [V.bl true])
          generalize upd H10bb a3 (.lst [V.bl true]) = H10bba at u3 w3 ⊢
          refine ⟨_, rfl, a3, ((B.length + 1 : Nat) : Int), [V.bl true], rfl, rfl, w3, by omega, by omega, Nat.le_trans (show 1 * (((B.length + 1 : Nat) : Int)).toNat ≤ 100000 by omega) line_ge, fun z3 h3 => ?_⟩
          have er3 : (((B.length + 1 : Nat) : Int)).toNat = B.length + 1 := by omega
          rw [er3, rep_fl]
          have v3 := same_new (o := .lst (List.replicate (B.length + 1) (V.bl true))) h3
          have f3 := upd_same (H := H10bba) (a := z3) (o := .lst (List.replicate (B.length + 1) (V.bl true)))
          have uv3 := u3.trans v3
          generalize upd H10bba z3 (.lst (List.replicate (B.length + 1) (V.bl true))) = H10bbb at f3 uv3 ⊢
          replace f1 := uv3 _ _ f1
          replace f2 := uv3 _ _ f2
          clear u3 v3 w3 g3 h3
          refine ⟨_, rfl, ?_⟩
          refine ⟨by show 1 ≤ sizeLine; decide, fun a4 g4 => ?_⟩
          have u4 := same_new (o := .lst [V.int (-1)]) g4
          have w4 := upd_same (H := H10bbb) (a := a4) (o := .lst [V.int (-1)])
          generalize upd H10bbb a4 (.lst [V.int (-1)]) = H10bbba at u4 w4 ⊢
          refine ⟨_, rfl, a4, ((B.length + 1 : Nat) : Int), [V.int (-1)], rfl, rfl, w4, by omega, by omega, Nat.le_trans (show 1 * (((B.length + 1 : Nat) : Int)).toNat ≤ 100000 by omega) line_ge, fun z4 h4 => ?_⟩
          have er4 : (((B.length + 1 : Nat) : Int)).toNat = B.length + 1 := by omega
          rw [er4, rep_fl]
          have v4 := same_new (o := .lst (List.replicate (B.length + 1) (V.int (-1)))) h4
          have f4 := upd_same (H := H10bbba) (a := z4) (o := .lst (List.replicate (B.length + 1) (V.int (-1))))
          have uv4 := u4.trans v4
          generalize upd H10bbba z4 (.lst (List.replicate (B.length + 1) (V.int (-1)))) = H10bbbb at f4 uv4 ⊢
          replace f1 := uv4 _ _ f1
          replace f2 := uv4 _ _ f2
          replace f3 := uv4 _ _ f3
          clear u4 v4 w4 g4 h4
          refine fun z5 h5 => ?_
          have u5 := same_new (o := .dK []) h5
          have f5 := upd_same (H := H10bbbb) (a := z5) (o := .dK [])
          generalize upd H10bbbb z5 (.dK []) = HD at u5 f5 ⊢
          replace f1 := u5 _ _ f1
          replace f2 := u5 _ _ f2
          replace f3 := u5 _ _ f3
          replace f4 := u5 _ _ f4
          refine ⟨by show 1 ≤ sizeLine; decide, fun a6 g6 => ?_⟩
          have u6 := same_new (o := .lst [V.non]) g6
          have w6 := upd_same (H := HD) (a := a6) (o := .lst [V.non])
          generalize upd HD a6 (.lst [V.non]) = HDa at u6 w6 ⊢
          refine ⟨_, rfl, a6, ((B.length + 1 : Nat) : Int), [V.non], rfl, rfl, w6, by omega, by omega, Nat.le_trans (show 1 * (((B.length + 1 : Nat) : Int)).toNat ≤ 100000 by omega) line_ge, fun z6 h6 => ?_⟩
          have er6 : (((B.length + 1 : Nat) : Int)).toNat = B.length + 1 := by omega
          rw [er6, rep_fl]
          have v6 := same_new (o := .lst (List.replicate (B.length + 1) (V.non))) h6
          have f6 := upd_same (H := HDa) (a := z6) (o := .lst (List.replicate (B.length + 1) (V.non)))
          have uv6 := u6.trans v6
          generalize upd HDa z6 (.lst (List.replicate (B.length + 1) (V.non))) = HDb at f6 uv6 ⊢
          replace f1 := uv6 _ _ f1
          replace f2 := uv6 _ _ f2
          replace f3 := uv6 _ _ f3
          replace f4 := uv6 _ _ f4
          replace f5 := uv6 _ _ f5
          clear u6 v6 w6 g6 h6
          refine ⟨by show 9 ≤ sizeLine; decide, fun pl hpl => ?_⟩
          have up := same_new (o := .lst [V.non, V.int 5, V.str "1", V.ref z1, V.ref z2, V.ref z3, V.ref z4, V.ref z5, V.ref z6]) hpl
          have fp := upd_same (H := HDb) (a := pl) (o := .lst [V.non, V.int 5, V.str "1", V.ref z1, V.ref z2, V.ref z3, V.ref z4, V.ref z5, V.ref z6])
          have sO : Same H10 (upd HDb pl (.lst [V.non, V.int 5, V.str "1", V.ref z1, V.ref z2, V.ref z3, V.ref z4, V.ref z5, V.ref z6])) := ((((uv1.trans uv2).trans uv3).trans uv4).trans (u5.trans uv6)).trans up
          generalize upd HDb pl (.lst [V.non, V.int 5, V.str "1", V.ref z1, V.ref z2, V.ref z3, V.ref z4, V.ref z5, V.ref z6]) = HA at up fp sO ⊢
          replace f1 := up _ _ f1
          replace f2 := up _ _ f2
          replace f3 := up _ _ f3
          replace f4 := up _ _ f4
          replace f5 := up _ _ f5
          replace f6 := up _ _ f6
          have odds : ∀ x ∈ ([V.non, V.int 5, V.str "1", V.ref z1, V.ref z2, V.ref z3, V.ref z4, V.ref z5, V.ref z6] : List V), ∃ d, Odv K HA x d ∧ BadC K HA x (B.length + 1) := by
            intro x hx
            simp only [List.mem_cons, List.not_mem_nil, or_false] at hx
            rcases hx with rfl | rfl | rfl | rfl | rfl | rfl | rfl | rfl | rfl
            · exact ⟨_, odv_non, .inl (.inr ⟨_, .non, by decide +kernel, by decide, by decide⟩)⟩
            · exact ⟨_, odv_int (by decide), .inl (.inr ⟨_, .int _, by decide +kernel, by decide, by decide⟩)⟩
            · exact ⟨_, odv_str "1" (by decide +kernel) (by decide +kernel) (by decide +kernel), .inl (.inr ⟨_, .str _, by decide +kernel, by decide, by decide⟩)⟩
            · exact ⟨_, odv_rep (by omega) f1 (.int _) (by decide +kernel) (by decide +kernel) (by decide +kernel) (by decide +kernel) rfl, bad_ints (by omega) f1 fun z => by omega⟩
            · exact ⟨_, odv_rep (by omega) f2 (.int _) (by decide +kernel) (by decide +kernel) (by decide +kernel) (by decide +kernel) rfl, bad_ints (by omega) f2 fun z => by omega⟩
            · exact ⟨_, odv_rep (by omega) f3 (.bl _) (by decide +kernel) (by decide +kernel) (by decide +kernel) (by decide +kernel) rfl, bad_rep (by omega) f3 ⟨"bool", .bl _, by decide +kernel⟩ rfl⟩
            · exact ⟨_, odv_rep (by omega) f4 (.int _) (by decide +kernel) (by decide +kernel) (by decide +kernel) (by decide +kernel) rfl, bad_ints (by omega) f4 fun z => by
                have := z.1
                rw [List.replicate_succ] at this
                simp [nnL] at this⟩
            · exact ⟨_, odv_dict f5, .inl (.inr ⟨_, .dK f5, by decide +kernel, by decide, by decide⟩)⟩
            · exact ⟨_, odv_rep (by omega) f6 .non (by decide +kernel) (by decide +kernel) (by decide +kernel) (by decide +kernel) rfl, bad_rep (by omega) f6 ⟨"NoneType", .non, by decide +kernel⟩ rfl⟩
          generalize ([V.non, V.int 5, V.str "1", V.ref z1, V.ref z2, V.ref z3, V.ref z4, V.ref z5, V.ref z6] : List V) = os at fp odds
          refine ⟨pl, rfl, ⟨_, SqL.of fp⟩, for_list (K := K) (a := pl) (xs := os) (fun _ σ H' => ∃ o14, σ = [some (.ref sc), some (.int (0 + (i : Int))), some (.ref p), some (.ref l), some (.ref e), o5, o6, none, o8, o9, o10, none, some (.ref D), some (.int ((B.length + 1 : Nat) : Int)), o14] ∧ Same HA H') ⟨_, rfl, Same.refl _⟩ (fun _ σ H' _ ⟨_, _, s⟩ => s.seq (SqL.of fp)) ?_ ?_⟩
          · rintro j x σ Hx hx ⟨o14', rfl, sx⟩
            obtain ⟨d, od0, bd0⟩ := odds x (List.mem_of_getElem? hx)
            have od := od0.same sx
            refine ⟨_, rfl, _, rfl, 0, e, x, S, B, rfl, he10.same (sO.trans sx), hB, by omega, by omega, .inl ⟨rfl, bd0.same sx, d, od, fun t HB sB htB => ?_⟩⟩
            refine ⟨_, rfl, x, d, rfl, rd_same sB od.rd, od.od.pl, od.od.dp, od.od.sz, by show 2 ≤ sizeLine; decide, fun t2 ht2 => ?_⟩
            have shc := sh_num (ok_shown d od.tx)
            refine ⟨_, _, dp_num ((same_new ht2) _ _ htB), dp_num upd_same, shc, shc, _, rfl, iteN (ne_self shc) ?_⟩
            exact ⟨_, rfl, (sx.trans sB).trans (same_new ht2)⟩
          · rintro σ Hx ⟨o14', rfl, sx⟩
            exact cont _ _ ⟨_, rfl, sO.trans sx⟩
        obtain ⟨o14b, rfl, s11⟩ := hO
        have he11 := he10.same s11
        refine ⟨_, rfl, by show 1 ≤ sizeLine; decide, fun z1 h1 => ⟨by show 5 ≤ sizeLine; decide, fun pl hpl => ?_⟩⟩
        have qe0 := same_new (o := .lst [V.int 1]) h1
        have qe1 := same_new (o := .lst [V.int (-1), V.bl true, V.non, V.str "1", V.ref z1]) hpl
        have qf0 := (qe1 _ _ (upd_same (H := H11) (a := z1) (o := .lst [V.int 1])))
        have qf1 := (upd_same (H := (upd H11 z1 (.lst [V.int 1]))) (a := pl) (o := .lst [V.int (-1), V.bl true, V.non, V.str "1", V.ref z1]))
        have qs := (qe0.trans qe1)
        generalize upd (upd H11 z1 (.lst [V.int 1])) pl (.lst [V.int (-1), V.bl true, V.non, V.str "1", V.ref z1]) = HA at qs qf0 qf1 ⊢
        clear qe0 qe1
        have fp := qf1
        have odds : ∀ x ∈ ([V.int (-1), V.bl true, V.non, V.str "1", V.ref z1] : List V), ∃ d, Odv K HA x d ∧ cntV x = false := by
          intro x hx
          simp only [List.mem_cons, List.not_mem_nil, or_false] at hx
          rcases hx with rfl | rfl | rfl | rfl | rfl
          · exact ⟨_, odv_int (by decide), rfl⟩
          · exact ⟨_, odv_bl true, rfl⟩
          · exact ⟨_, odv_non, rfl⟩
          · exact ⟨_, odv_str "1" (by decide +kernel) (by decide +kernel) (by decide +kernel), rfl⟩
          · exact ⟨_, odv_lst1 qf0 (by decide), rfl⟩
        clear qf1
        generalize ([V.int (-1), V.bl true, V.non, V.str "1", V.ref z1] : List V) = os at fp odds
        refine ⟨pl, rfl, ⟨_, SqL.of fp⟩, for_list (K := K) (a := pl) (xs := os) (fun _ σ H' => ∃ o14, σ = [some (.ref sc), some (.int (0 + (i : Int))), some (.ref p), some (.ref l), some (.ref e), o5, o6, none, o8, o9, o10, none, some (.ref D), some (.int ((B.length + 1 : Nat) : Int)), o14] ∧ Same HA H') ⟨_, rfl, Same.refl _⟩ (fun _ σ H' _ ⟨_, _, s⟩ => s.seq (SqL.of fp)) ?_ ?_⟩
        · rintro j x σ Hx hx ⟨o14', rfl, sx⟩
          obtain ⟨d, od0, bd0⟩ := odds x (List.mem_of_getElem? hx)
          have od := od0.same sx
          refine ⟨_, rfl, _, rfl, 1, e, x, S, B, rfl, he11.same (qs.trans sx), hB, by omega, by omega, .inr (.inr (.inl ⟨rfl, bd0, d, od, fun t HB sB htB => ?_⟩))⟩
          refine ⟨_, rfl, x, d, rfl, rd_same sB od.rd, od.od.pl, od.od.dp, od.od.sz, by show 2 ≤ sizeLine; decide, fun t2 ht2 => ?_⟩
          have shc := sh_num (ok_shown d od.tx)
          refine ⟨_, _, dp_num ((same_new ht2) _ _ htB), dp_num upd_same, shc, shc, _, rfl, iteN (ne_self shc) ?_⟩
          exact ⟨_, rfl, (sx.trans sB).trans (same_new ht2)⟩
        · rintro σ Hx ⟨o14', rfl, sx⟩
          exact ⟨_, _, _, _, _, _, _, _, _, _, _, _, rfl, s2.trans (but_to s3 n3 ((b36.trans b610).trans (but_same (s11.trans (qs.trans sx)))))⟩
    · rintro σ H2 ⟨o1, o2, o3, o4, o5, o6, o8, o9, o10, o12, o13, o14, rfl, s2⟩
      exact k _

end
end K15
namespace K15
open PySem L2 XT
section
variable {P : Program} {w : World} {K : PySem.W.Frag} {mg : Str → Option Value} {base : Heap} {a : Ads}
local macro_rules | `(tactic| walk_at "rside") => `(tactic| first | (show (0 : Int) < _; first | decide | omega) | (exact ⟨by first | decide | omega, by first | decide | omega⟩) | (exact Or.inl ⟨by omega, by omega⟩) | (exact Or.inr ⟨by omega, by omega⟩) | (exact ⟨by decide, by decide, by decide⟩))
local macro_rules | `(tactic| walk_at "rd1") => `(tactic| first | (refine ⟨_, rfl, ?_⟩) | (refine ⟨_, _, rfl, rfl, (by walk_at "rside"), ?_⟩) | (refine ⟨_, _, rfl, rfl, ?_⟩))
local macro_rules | `(tactic| walk_at "rd") => `(tactic| repeat (walk_at "rd1"))

theorem kit_subB {B C : Addr} (hc : (PySem.W.clsIn K C).isSome = true) (ht : PySem.W.typeIn K (.ref C) = some (.type "type")) (hs : PySem.W.subIn K (.ref B) (.ref C) = some false) (hr : PySem.W.subIn K (.ref B) (.ref B) = some true) : PySem.W.kitOne K (.ref B) (.ref C) = some false := by
  have hne : B ≠ C := fun e => by
    rw [e] at hr hs
    rw [hr] at hs
    cases hs
  simp [PySem.W.kitOne, PySem.W.kitCls, hc, ht, hs, hne]
theorem kit_self {a : Addr} : PySem.W.kitOne K (.ref a) (.ref a) = some true := by simp [PySem.W.kitOne]
theorem exm_of {D C : Addr} {b : Bool} (h1 : PySem.W.subIn K (.ref C) (.type "BaseException") = some true) (h2 : PySem.W.isClsIn K C = true) (h3 : PySem.W.typeIn K (.ref C) = some (.type "type")) (h4 : PySem.W.subIn K (.ref D) (.ref C) = some b) : PySem.W.exmOne K (.ref D) (.ref C) = some b := by
  have h2' : (PySem.W.clsIn K C).isSome = true := h2
  simp [PySem.W.exmOne, PySem.W.kitCls, h1, h2', h3, h4]
theorem all_mk {l : PySem.W.OpenLaw} {h : Heap} {fa : Addr} (X : K.In h) (G : h.Ns mainGlobals mg) (hfa : mg "law" = some (.ref fa)) {is_integer is_count is_rank is_number_list is_count_list is_ascending is_rank_list InvalidNumber___init__ StepFailed___init__ Sequence___init__ Sequence_is_step Sequence_steps Sequence___add__ how_many_up_to mapped kept_rank Table___init__ Table_start Table_lost Table___call__ Table___eq__ below_all table_at table_of is_table_list spread Effect___init__ Effect_of Effect_breaks Effect_tables Effect_need Effect_table kept kept_numbers law_pool law_take law_steps law_made law_run law_caught law_due law_map law_great_right law_wide_right law RankError InvalidNumber StepFailed Sequence Table Effect P_steps P_start P_lost P_breaks P_tables P_need S_is_step C_of : Addr} {rest_steps rest_is_step rest_start rest_lost rest_breaks rest_tables rest_need rest_of : List Value}
    {nm_InvalidNumber q_InvalidNumber : Str} {N_InvalidNumber : Addr} {bs_InvalidNumber : List Value} {sn_InvalidNumber : List Str} {sub_InvalidNumber : List Value} {ab_InvalidNumber : Bool} {col_InvalidNumber : Option Bool} {dd_InvalidNumber : Option Addr} {e0_InvalidNumber e1_InvalidNumber e2_InvalidNumber e3_InvalidNumber e5_InvalidNumber : Option Value}
    {nm_StepFailed q_StepFailed : Str} {N_StepFailed : Addr} {bs_StepFailed : List Value} {sn_StepFailed : List Str} {sub_StepFailed : List Value} {ab_StepFailed : Bool} {col_StepFailed : Option Bool} {dd_StepFailed : Option Addr} {e0_StepFailed e1_StepFailed e2_StepFailed e3_StepFailed e5_StepFailed : Option Value}
    {oc_is_integer kV_is_integer dc_is_integer pm_is_integer cd_is_integer ct_is_integer : Value} {od_is_integer an_is_integer : Option Addr} {sl_is_integer : Array (Option Value)}
    {oc_is_count kV_is_count dc_is_count pm_is_count cd_is_count ct_is_count : Value} {od_is_count an_is_count : Option Addr} {sl_is_count : Array (Option Value)}
    {oc_is_rank kV_is_rank dc_is_rank pm_is_rank cd_is_rank ct_is_rank : Value} {od_is_rank an_is_rank : Option Addr} {sl_is_rank : Array (Option Value)}
    {oc_is_number_list kV_is_number_list dc_is_number_list pm_is_number_list cd_is_number_list ct_is_number_list : Value} {od_is_number_list an_is_number_list : Option Addr} {sl_is_number_list : Array (Option Value)}
    {oc_is_count_list kV_is_count_list dc_is_count_list pm_is_count_list cd_is_count_list ct_is_count_list : Value} {od_is_count_list an_is_count_list : Option Addr} {sl_is_count_list : Array (Option Value)}
    {oc_is_ascending kV_is_ascending dc_is_ascending pm_is_ascending cd_is_ascending ct_is_ascending : Value} {od_is_ascending an_is_ascending : Option Addr} {sl_is_ascending : Array (Option Value)}
    {oc_is_rank_list kV_is_rank_list dc_is_rank_list pm_is_rank_list cd_is_rank_list ct_is_rank_list : Value} {od_is_rank_list an_is_rank_list : Option Addr} {sl_is_rank_list : Array (Option Value)}
    {oc_InvalidNumber___init__ kV_InvalidNumber___init__ dc_InvalidNumber___init__ pm_InvalidNumber___init__ cd_InvalidNumber___init__ ct_InvalidNumber___init__ : Value} {od_InvalidNumber___init__ an_InvalidNumber___init__ : Option Addr} {sl_InvalidNumber___init__ : Array (Option Value)}
    {oc_StepFailed___init__ kV_StepFailed___init__ dc_StepFailed___init__ pm_StepFailed___init__ cd_StepFailed___init__ ct_StepFailed___init__ : Value} {od_StepFailed___init__ an_StepFailed___init__ : Option Addr} {sl_StepFailed___init__ : Array (Option Value)}
    {oc_Sequence___init__ kV_Sequence___init__ dc_Sequence___init__ pm_Sequence___init__ cd_Sequence___init__ ct_Sequence___init__ : Value} {od_Sequence___init__ an_Sequence___init__ : Option Addr} {sl_Sequence___init__ : Array (Option Value)}
    {oc_Sequence_is_step kV_Sequence_is_step dc_Sequence_is_step pm_Sequence_is_step cd_Sequence_is_step ct_Sequence_is_step : Value} {od_Sequence_is_step an_Sequence_is_step : Option Addr} {sl_Sequence_is_step : Array (Option Value)}
    {oc_Sequence_steps kV_Sequence_steps dc_Sequence_steps pm_Sequence_steps cd_Sequence_steps ct_Sequence_steps : Value} {od_Sequence_steps an_Sequence_steps : Option Addr} {sl_Sequence_steps : Array (Option Value)}
    {oc_Sequence___add__ kV_Sequence___add__ dc_Sequence___add__ pm_Sequence___add__ cd_Sequence___add__ ct_Sequence___add__ : Value} {od_Sequence___add__ an_Sequence___add__ : Option Addr} {sl_Sequence___add__ : Array (Option Value)}
    {oc_how_many_up_to kV_how_many_up_to dc_how_many_up_to pm_how_many_up_to cd_how_many_up_to ct_how_many_up_to : Value} {od_how_many_up_to an_how_many_up_to : Option Addr} {sl_how_many_up_to : Array (Option Value)}
    {oc_mapped kV_mapped dc_mapped pm_mapped cd_mapped ct_mapped : Value} {od_mapped an_mapped : Option Addr} {sl_mapped : Array (Option Value)}
    {oc_kept_rank kV_kept_rank dc_kept_rank pm_kept_rank cd_kept_rank ct_kept_rank : Value} {od_kept_rank an_kept_rank : Option Addr} {sl_kept_rank : Array (Option Value)}
    {oc_Table___init__ kV_Table___init__ dc_Table___init__ pm_Table___init__ cd_Table___init__ ct_Table___init__ : Value} {od_Table___init__ an_Table___init__ : Option Addr} {sl_Table___init__ : Array (Option Value)}
    {oc_Table_start kV_Table_start dc_Table_start pm_Table_start cd_Table_start ct_Table_start : Value} {od_Table_start an_Table_start : Option Addr} {sl_Table_start : Array (Option Value)}
    {oc_Table_lost kV_Table_lost dc_Table_lost pm_Table_lost cd_Table_lost ct_Table_lost : Value} {od_Table_lost an_Table_lost : Option Addr} {sl_Table_lost : Array (Option Value)}
    {oc_Table___call__ kV_Table___call__ dc_Table___call__ pm_Table___call__ cd_Table___call__ ct_Table___call__ : Value} {od_Table___call__ an_Table___call__ : Option Addr} {sl_Table___call__ : Array (Option Value)}
    {oc_Table___eq__ kV_Table___eq__ dc_Table___eq__ pm_Table___eq__ cd_Table___eq__ ct_Table___eq__ : Value} {od_Table___eq__ an_Table___eq__ : Option Addr} {sl_Table___eq__ : Array (Option Value)}
    {oc_below_all kV_below_all dc_below_all pm_below_all cd_below_all ct_below_all : Value} {od_below_all an_below_all : Option Addr} {sl_below_all : Array (Option Value)}
    {oc_table_at kV_table_at dc_table_at pm_table_at cd_table_at ct_table_at : Value} {od_table_at an_table_at : Option Addr} {sl_table_at : Array (Option Value)}
    {oc_table_of kV_table_of dc_table_of pm_table_of cd_table_of ct_table_of : Value} {od_table_of an_table_of : Option Addr} {sl_table_of : Array (Option Value)}
    {oc_is_table_list kV_is_table_list dc_is_table_list pm_is_table_list cd_is_table_list ct_is_table_list : Value} {od_is_table_list an_is_table_list : Option Addr} {sl_is_table_list : Array (Option Value)}
    {oc_spread kV_spread dc_spread pm_spread cd_spread ct_spread : Value} {od_spread an_spread : Option Addr} {sl_spread : Array (Option Value)}
    {oc_Effect___init__ kV_Effect___init__ dc_Effect___init__ pm_Effect___init__ cd_Effect___init__ ct_Effect___init__ : Value} {od_Effect___init__ an_Effect___init__ : Option Addr} {sl_Effect___init__ : Array (Option Value)}
    {oc_Effect_of kV_Effect_of dc_Effect_of pm_Effect_of cd_Effect_of ct_Effect_of : Value} {od_Effect_of an_Effect_of : Option Addr} {sl_Effect_of : Array (Option Value)}
    {oc_Effect_breaks kV_Effect_breaks dc_Effect_breaks pm_Effect_breaks cd_Effect_breaks ct_Effect_breaks : Value} {od_Effect_breaks an_Effect_breaks : Option Addr} {sl_Effect_breaks : Array (Option Value)}
    {oc_Effect_tables kV_Effect_tables dc_Effect_tables pm_Effect_tables cd_Effect_tables ct_Effect_tables : Value} {od_Effect_tables an_Effect_tables : Option Addr} {sl_Effect_tables : Array (Option Value)}
    {oc_Effect_need kV_Effect_need dc_Effect_need pm_Effect_need cd_Effect_need ct_Effect_need : Value} {od_Effect_need an_Effect_need : Option Addr} {sl_Effect_need : Array (Option Value)}
    {oc_Effect_table kV_Effect_table dc_Effect_table pm_Effect_table cd_Effect_table ct_Effect_table : Value} {od_Effect_table an_Effect_table : Option Addr} {sl_Effect_table : Array (Option Value)}
    {oc_kept kV_kept dc_kept pm_kept cd_kept ct_kept : Value} {od_kept an_kept : Option Addr} {sl_kept : Array (Option Value)}
    {oc_kept_numbers kV_kept_numbers dc_kept_numbers pm_kept_numbers cd_kept_numbers ct_kept_numbers : Value} {od_kept_numbers an_kept_numbers : Option Addr} {sl_kept_numbers : Array (Option Value)}
    {oc_law_pool kV_law_pool dc_law_pool pm_law_pool cd_law_pool ct_law_pool : Value} {od_law_pool an_law_pool : Option Addr} {sl_law_pool : Array (Option Value)}
    {oc_law_take kV_law_take dc_law_take pm_law_take cd_law_take ct_law_take : Value} {od_law_take an_law_take : Option Addr} {sl_law_take : Array (Option Value)}
    {oc_law_steps kV_law_steps dc_law_steps pm_law_steps cd_law_steps ct_law_steps : Value} {od_law_steps an_law_steps : Option Addr} {sl_law_steps : Array (Option Value)}
    {oc_law_made kV_law_made dc_law_made pm_law_made cd_law_made ct_law_made : Value} {od_law_made an_law_made : Option Addr} {sl_law_made : Array (Option Value)}
    {oc_law_run kV_law_run dc_law_run pm_law_run cd_law_run ct_law_run : Value} {od_law_run an_law_run : Option Addr} {sl_law_run : Array (Option Value)}
    {oc_law_caught kV_law_caught dc_law_caught pm_law_caught cd_law_caught ct_law_caught : Value} {od_law_caught an_law_caught : Option Addr} {sl_law_caught : Array (Option Value)}
    {oc_law_due kV_law_due dc_law_due pm_law_due cd_law_due ct_law_due : Value} {od_law_due an_law_due : Option Addr} {sl_law_due : Array (Option Value)}
    {oc_law_map kV_law_map dc_law_map pm_law_map cd_law_map ct_law_map : Value} {od_law_map an_law_map : Option Addr} {sl_law_map : Array (Option Value)}
    {oc_law_great_right kV_law_great_right dc_law_great_right pm_law_great_right cd_law_great_right ct_law_great_right : Value} {od_law_great_right an_law_great_right : Option Addr} {sl_law_great_right : Array (Option Value)}
    {oc_law_wide_right kV_law_wide_right dc_law_wide_right pm_law_wide_right cd_law_wide_right ct_law_wide_right : Value} {od_law_wide_right an_law_wide_right : Option Addr} {sl_law_wide_right : Array (Option Value)}
    {oc_law kV_law dc_law pm_law cd_law ct_law : Value} {od_law an_law : Option Addr} {sl_law : Array (Option Value)}
    (a_is_integer : PySem.W.nsIn K mainGlobals "is_integer" = some (some (.ref is_integer)))
    (a_is_count : PySem.W.nsIn K mainGlobals "is_count" = some (some (.ref is_count)))
    (a_is_rank : PySem.W.nsIn K mainGlobals "is_rank" = some (some (.ref is_rank)))
    (a_is_number_list : PySem.W.nsIn K mainGlobals "is_number_list" = some (some (.ref is_number_list)))
    (a_is_count_list : PySem.W.nsIn K mainGlobals "is_count_list" = some (some (.ref is_count_list)))
    (a_is_ascending : PySem.W.nsIn K mainGlobals "is_ascending" = some (some (.ref is_ascending)))
    (a_is_rank_list : PySem.W.nsIn K mainGlobals "is_rank_list" = some (some (.ref is_rank_list)))
    (a_how_many_up_to : PySem.W.nsIn K mainGlobals "how_many_up_to" = some (some (.ref how_many_up_to)))
    (a_mapped : PySem.W.nsIn K mainGlobals "mapped" = some (some (.ref mapped)))
    (a_kept_rank : PySem.W.nsIn K mainGlobals "kept_rank" = some (some (.ref kept_rank)))
    (a_below_all : PySem.W.nsIn K mainGlobals "below_all" = some (some (.ref below_all)))
    (a_table_at : PySem.W.nsIn K mainGlobals "table_at" = some (some (.ref table_at)))
    (a_table_of : PySem.W.nsIn K mainGlobals "table_of" = some (some (.ref table_of)))
    (a_is_table_list : PySem.W.nsIn K mainGlobals "is_table_list" = some (some (.ref is_table_list)))
    (a_spread : PySem.W.nsIn K mainGlobals "spread" = some (some (.ref spread)))
    (a_kept : PySem.W.nsIn K mainGlobals "kept" = some (some (.ref kept)))
    (a_kept_numbers : PySem.W.nsIn K mainGlobals "kept_numbers" = some (some (.ref kept_numbers)))
    (a_law_pool : PySem.W.nsIn K mainGlobals "_law_pool" = some (some (.ref law_pool)))
    (a_law_take : PySem.W.nsIn K mainGlobals "_law_take" = some (some (.ref law_take)))
    (a_law_steps : PySem.W.nsIn K mainGlobals "_law_steps" = some (some (.ref law_steps)))
    (a_law_made : PySem.W.nsIn K mainGlobals "_law_made" = some (some (.ref law_made)))
    (a_law_run : PySem.W.nsIn K mainGlobals "_law_run" = some (some (.ref law_run)))
    (a_law_caught : PySem.W.nsIn K mainGlobals "_law_caught" = some (some (.ref law_caught)))
    (a_law_due : PySem.W.nsIn K mainGlobals "_law_due" = some (some (.ref law_due)))
    (a_law_map : PySem.W.nsIn K mainGlobals "_law_map" = some (some (.ref law_map)))
    (a_law_great_right : PySem.W.nsIn K mainGlobals "_law_great_right" = some (some (.ref law_great_right)))
    (a_law_wide_right : PySem.W.nsIn K mainGlobals "_law_wide_right" = some (some (.ref law_wide_right)))
    (a_law : PySem.W.nsIn K mainGlobals "law" = some (some (.ref law)))
    (a_RankError : PySem.W.nsIn K mainGlobals "RankError" = some (some (.ref RankError)))
    (a_InvalidNumber : PySem.W.nsIn K mainGlobals "InvalidNumber" = some (some (.ref InvalidNumber)))
    (a_StepFailed : PySem.W.nsIn K mainGlobals "StepFailed" = some (some (.ref StepFailed)))
    (a_Sequence : PySem.W.nsIn K mainGlobals "Sequence" = some (some (.ref Sequence)))
    (at_Sequence___init__ : PySem.W.findIn K (.ref Sequence) "__init__" = some (some (.ref Sequence___init__)))
    (f_Sequence___init__ : PySem.W.isFn K (.ref Sequence___init__) = true)
    (at_Sequence___add__ : PySem.W.findIn K (.ref Sequence) "__add__" = some (some (.ref Sequence___add__)))
    (f_Sequence___add__ : PySem.W.isFn K (.ref Sequence___add__) = true)
    (pat_steps : PySem.W.findIn K (.ref Sequence) "steps" = some (some (.ref P_steps)))
    (rec_steps : PySem.W.recIn K P_steps "property" = some (.ref Sequence_steps :: rest_steps))
    (get_steps : PySem.W.specialIn K (.ref P_steps) "__get__" = some (some (.builtin "property.__get__")))
    (tak_steps : PySem.W.takesIn K (.ref P_steps) = some true)
    (at_is_step : PySem.W.findIn K (.ref Sequence) "is_step" = some (some (.ref S_is_step)))
    (rec_is_step : PySem.W.recIn K S_is_step "staticmethod" = some (.ref Sequence_is_step :: rest_is_step))
    (sty_is_step : PySem.W.typeIn K (.ref S_is_step) = some (.type "staticmethod"))
    (get_is_step : PySem.W.specialIn K (.ref S_is_step) "__get__" = some (some (.builtin "staticmethod.__get__")))
    (tak_is_step : PySem.W.takesIn K (.ref S_is_step) = some false)
    (cls_is_step : PySem.W.findCls K (.ref Sequence) (.type "type") "is_step" = some (.get (.builtin "staticmethod.__get__") (.ref S_is_step) .none (.ref Sequence)))
    (rds_Sequence : PySem.W.readsIn K Sequence (.type "type") = true)
    (rga_Sequence : PySem.W.specialIn K (.ref Sequence) "__getattribute__" = some (some (.builtin "type.__getattribute__")))
    (a_Table : PySem.W.nsIn K mainGlobals "Table" = some (some (.ref Table)))
    (at_Table___init__ : PySem.W.findIn K (.ref Table) "__init__" = some (some (.ref Table___init__)))
    (f_Table___init__ : PySem.W.isFn K (.ref Table___init__) = true)
    (at_Table___call__ : PySem.W.findIn K (.ref Table) "__call__" = some (some (.ref Table___call__)))
    (f_Table___call__ : PySem.W.isFn K (.ref Table___call__) = true)
    (at_Table___eq__ : PySem.W.findIn K (.ref Table) "__eq__" = some (some (.ref Table___eq__)))
    (f_Table___eq__ : PySem.W.isFn K (.ref Table___eq__) = true)
    (pat_start : PySem.W.findIn K (.ref Table) "start" = some (some (.ref P_start)))
    (rec_start : PySem.W.recIn K P_start "property" = some (.ref Table_start :: rest_start))
    (get_start : PySem.W.specialIn K (.ref P_start) "__get__" = some (some (.builtin "property.__get__")))
    (tak_start : PySem.W.takesIn K (.ref P_start) = some true)
    (pat_lost : PySem.W.findIn K (.ref Table) "lost" = some (some (.ref P_lost)))
    (rec_lost : PySem.W.recIn K P_lost "property" = some (.ref Table_lost :: rest_lost))
    (get_lost : PySem.W.specialIn K (.ref P_lost) "__get__" = some (some (.builtin "property.__get__")))
    (tak_lost : PySem.W.takesIn K (.ref P_lost) = some true)
    (a_Effect : PySem.W.nsIn K mainGlobals "Effect" = some (some (.ref Effect)))
    (at_Effect___init__ : PySem.W.findIn K (.ref Effect) "__init__" = some (some (.ref Effect___init__)))
    (f_Effect___init__ : PySem.W.isFn K (.ref Effect___init__) = true)
    (at_Effect_table : PySem.W.findIn K (.ref Effect) "table" = some (some (.ref Effect_table)))
    (f_Effect_table : PySem.W.isFn K (.ref Effect_table) = true)
    (pat_breaks : PySem.W.findIn K (.ref Effect) "breaks" = some (some (.ref P_breaks)))
    (rec_breaks : PySem.W.recIn K P_breaks "property" = some (.ref Effect_breaks :: rest_breaks))
    (get_breaks : PySem.W.specialIn K (.ref P_breaks) "__get__" = some (some (.builtin "property.__get__")))
    (tak_breaks : PySem.W.takesIn K (.ref P_breaks) = some true)
    (pat_tables : PySem.W.findIn K (.ref Effect) "tables" = some (some (.ref P_tables)))
    (rec_tables : PySem.W.recIn K P_tables "property" = some (.ref Effect_tables :: rest_tables))
    (get_tables : PySem.W.specialIn K (.ref P_tables) "__get__" = some (some (.builtin "property.__get__")))
    (tak_tables : PySem.W.takesIn K (.ref P_tables) = some true)
    (pat_need : PySem.W.findIn K (.ref Effect) "need" = some (some (.ref P_need)))
    (rec_need : PySem.W.recIn K P_need "property" = some (.ref Effect_need :: rest_need))
    (get_need : PySem.W.specialIn K (.ref P_need) "__get__" = some (some (.builtin "property.__get__")))
    (tak_need : PySem.W.takesIn K (.ref P_need) = some true)
    (at_of : PySem.W.findIn K (.ref Effect) "of" = some (some (.ref C_of)))
    (rec_of : PySem.W.recIn K C_of "classmethod" = some (.ref Effect_of :: rest_of))
    (sty_of : PySem.W.typeIn K (.ref C_of) = some (.type "classmethod"))
    (get_of : PySem.W.specialIn K (.ref C_of) "__get__" = some (some (.builtin "classmethod.__get__")))
    (tak_of : PySem.W.takesIn K (.ref C_of) = some false)
    (cls_of : PySem.W.findCls K (.ref Effect) (.type "type") "of" = some (.get (.builtin "classmethod.__get__") (.ref C_of) .none (.ref Effect)))
    (fi_of : PySem.W.fnIn K Effect_of = true)
    (rds_Effect : PySem.W.readsIn K Effect (.type "type") = true)
    (rga_Effect : PySem.W.specialIn K (.ref Effect) "__getattribute__" = some (some (.builtin "type.__getattribute__")))
    (z_type : PySem.W.nsIn K mainGlobals "type" = some none)
    (z_int : PySem.W.nsIn K mainGlobals "int" = some none)
    (z_list : PySem.W.nsIn K mainGlobals "list" = some none)
    (z_tuple : PySem.W.nsIn K mainGlobals "tuple" = some none)
    (z_str : PySem.W.nsIn K mainGlobals "str" = some none)
    (z_len : PySem.W.nsIn K mainGlobals "len" = some none)
    (z_isinstance : PySem.W.nsIn K mainGlobals "isinstance" = some none)
    (z_abs : PySem.W.nsIn K mainGlobals "abs" = some none)
    (z_max : PySem.W.nsIn K mainGlobals "max" = some none)
    (z_min : PySem.W.nsIn K mainGlobals "min" = some none)
    (z_range : PySem.W.nsIn K mainGlobals "range" = some none)
    (z_repr : PySem.W.nsIn K mainGlobals "repr" = some none)
    (z_all : PySem.W.nsIn K mainGlobals "all" = some none)
    (z_zip : PySem.W.nsIn K mainGlobals "zip" = some none)
    (z_sorted : PySem.W.nsIn K mainGlobals "sorted" = some none)
    (z_set : PySem.W.nsIn K mainGlobals "set" = some none)
    (z_sum : PySem.W.nsIn K mainGlobals "sum" = some none)
    (z_enumerate : PySem.W.nsIn K mainGlobals "enumerate" = some none)
    (xl_InvalidNumber : K.lookup InvalidNumber = some (excClassObj nm_InvalidNumber q_InvalidNumber InvalidNumber N_InvalidNumber bs_InvalidNumber [.ref RankError, .type "ValueError", .type "Exception", .type "BaseException", .type "object"] true sn_InvalidNumber sub_InvalidNumber ab_InvalidNumber col_InvalidNumber dd_InvalidNumber e0_InvalidNumber e1_InvalidNumber e2_InvalidNumber e3_InvalidNumber e5_InvalidNumber "ValueError.__new__"))
    (sa_InvalidNumber : PySem.W.findIn K (.ref InvalidNumber) "__setattr__" = some (some (.builtin "object.__setattr__")))
    (ex_InvalidNumber : PySem.W.subIn K (.ref InvalidNumber) (.type "BaseException") = some true)
    (ty_InvalidNumber : PySem.W.typeIn K (.ref InvalidNumber) = some (.type "type"))
    (kc_InvalidNumber : PySem.W.keepIn K (.ref InvalidNumber) = true)
    (in_InvalidNumber : PySem.W.findIn K (.ref InvalidNumber) "__init__" = some (some (.ref InvalidNumber___init__)))
    (ti_InvalidNumber : PySem.W.typeIn K (.ref InvalidNumber___init__) = some (.type "function"))
    (no_InvalidNumber : PySem.W.findIn K (.ref InvalidNumber) "value" = some none)
    (ga_InvalidNumber : PySem.W.findIn K (.ref InvalidNumber) "__getattribute__" = some (some (.builtin "BaseException.__getattribute__")))
    (gg_InvalidNumber : PySem.W.findIn K (.ref InvalidNumber) "__getattr__" = some none)
    (hd_InvalidNumber : PySem.W.hasDictIn K InvalidNumber = true)
    (ha_InvalidNumber : PySem.W.findIn K (.ref InvalidNumber) "__class__" = some (some (.builtin "object.__class__")))
    (hm_InvalidNumber : PySem.W.mroIn K InvalidNumber (.type "object") = some true)
    (ic_InvalidNumber : PySem.W.isClsIn K InvalidNumber = true)
    (xl_StepFailed : K.lookup StepFailed = some (excClassObj nm_StepFailed q_StepFailed StepFailed N_StepFailed bs_StepFailed [.type "RuntimeError", .type "Exception", .type "BaseException", .type "object"] true sn_StepFailed sub_StepFailed ab_StepFailed col_StepFailed dd_StepFailed e0_StepFailed e1_StepFailed e2_StepFailed e3_StepFailed e5_StepFailed "RuntimeError.__new__"))
    (sa_StepFailed : PySem.W.findIn K (.ref StepFailed) "__setattr__" = some (some (.builtin "object.__setattr__")))
    (ex_StepFailed : PySem.W.subIn K (.ref StepFailed) (.type "BaseException") = some true)
    (ty_StepFailed : PySem.W.typeIn K (.ref StepFailed) = some (.type "type"))
    (kc_StepFailed : PySem.W.keepIn K (.ref StepFailed) = true)
    (in_StepFailed : PySem.W.findIn K (.ref StepFailed) "__init__" = some (some (.ref StepFailed___init__)))
    (ti_StepFailed : PySem.W.typeIn K (.ref StepFailed___init__) = some (.type "function"))
    (no_StepFailed : PySem.W.findIn K (.ref StepFailed) "index" = some none)
    (ga_StepFailed : PySem.W.findIn K (.ref StepFailed) "__getattribute__" = some (some (.builtin "BaseException.__getattribute__")))
    (gg_StepFailed : PySem.W.findIn K (.ref StepFailed) "__getattr__" = some none)
    (hd_StepFailed : PySem.W.hasDictIn K StepFailed = true)
    (ha_StepFailed : PySem.W.findIn K (.ref StepFailed) "__class__" = some (some (.builtin "object.__class__")))
    (hm_StepFailed : PySem.W.mroIn K StepFailed (.type "object") = some true)
    (ic_StepFailed : PySem.W.isClsIn K StepFailed = true)
    (l_is_integer : K.lookup is_integer = some ⟨oc_is_integer, od_is_integer, .func (PySem.W.fnOf "is_integer" "is_integer" (defArgs s_is_integer) (defBody s_is_integer) (defScope s_is_integer) .none kV_is_integer dc_is_integer pm_is_integer an_is_integer cd_is_integer ct_is_integer), sl_is_integer⟩)
    (c_is_integer : PySem.W.codeIn K cd_is_integer "is_integer" = true)
    (k_is_integer : PySem.W.keepIn K (.ref is_integer) = true)
    (l_is_count : K.lookup is_count = some ⟨oc_is_count, od_is_count, .func (PySem.W.fnOf "is_count" "is_count" (defArgs s_is_count) (defBody s_is_count) (defScope s_is_count) .none kV_is_count dc_is_count pm_is_count an_is_count cd_is_count ct_is_count), sl_is_count⟩)
    (c_is_count : PySem.W.codeIn K cd_is_count "is_count" = true)
    (k_is_count : PySem.W.keepIn K (.ref is_count) = true)
    (l_is_rank : K.lookup is_rank = some ⟨oc_is_rank, od_is_rank, .func (PySem.W.fnOf "is_rank" "is_rank" (defArgs s_is_rank) (defBody s_is_rank) (defScope s_is_rank) .none kV_is_rank dc_is_rank pm_is_rank an_is_rank cd_is_rank ct_is_rank), sl_is_rank⟩)
    (c_is_rank : PySem.W.codeIn K cd_is_rank "is_rank" = true)
    (k_is_rank : PySem.W.keepIn K (.ref is_rank) = true)
    (l_is_number_list : K.lookup is_number_list = some ⟨oc_is_number_list, od_is_number_list, .func (PySem.W.fnOf "is_number_list" "is_number_list" (defArgs s_is_number_list) (defBody s_is_number_list) (defScope s_is_number_list) .none kV_is_number_list dc_is_number_list pm_is_number_list an_is_number_list cd_is_number_list ct_is_number_list), sl_is_number_list⟩)
    (c_is_number_list : PySem.W.codeIn K cd_is_number_list "is_number_list" = true)
    (k_is_number_list : PySem.W.keepIn K (.ref is_number_list) = true)
    (l_is_count_list : K.lookup is_count_list = some ⟨oc_is_count_list, od_is_count_list, .func (PySem.W.fnOf "is_count_list" "is_count_list" (defArgs s_is_count_list) (defBody s_is_count_list) (defScope s_is_count_list) .none kV_is_count_list dc_is_count_list pm_is_count_list an_is_count_list cd_is_count_list ct_is_count_list), sl_is_count_list⟩)
    (c_is_count_list : PySem.W.codeIn K cd_is_count_list "is_count_list" = true)
    (k_is_count_list : PySem.W.keepIn K (.ref is_count_list) = true)
    (l_is_ascending : K.lookup is_ascending = some ⟨oc_is_ascending, od_is_ascending, .func (PySem.W.fnOf "is_ascending" "is_ascending" (defArgs s_is_ascending) (defBody s_is_ascending) (defScope s_is_ascending) .none kV_is_ascending dc_is_ascending pm_is_ascending an_is_ascending cd_is_ascending ct_is_ascending), sl_is_ascending⟩)
    (c_is_ascending : PySem.W.codeIn K cd_is_ascending "is_ascending" = true)
    (k_is_ascending : PySem.W.keepIn K (.ref is_ascending) = true)
    (l_is_rank_list : K.lookup is_rank_list = some ⟨oc_is_rank_list, od_is_rank_list, .func (PySem.W.fnOf "is_rank_list" "is_rank_list" (defArgs s_is_rank_list) (defBody s_is_rank_list) (defScope s_is_rank_list) .none kV_is_rank_list dc_is_rank_list pm_is_rank_list an_is_rank_list cd_is_rank_list ct_is_rank_list), sl_is_rank_list⟩)
    (c_is_rank_list : PySem.W.codeIn K cd_is_rank_list "is_rank_list" = true)
    (k_is_rank_list : PySem.W.keepIn K (.ref is_rank_list) = true)
    (l_InvalidNumber___init__ : K.lookup InvalidNumber___init__ = some ⟨oc_InvalidNumber___init__, od_InvalidNumber___init__, .func (PySem.W.fnOf "__init__" "InvalidNumber.__init__" (defArgs s_InvalidNumber___init__) (defBody s_InvalidNumber___init__) (defScope s_InvalidNumber___init__) .none kV_InvalidNumber___init__ dc_InvalidNumber___init__ pm_InvalidNumber___init__ an_InvalidNumber___init__ cd_InvalidNumber___init__ ct_InvalidNumber___init__), sl_InvalidNumber___init__⟩)
    (c_InvalidNumber___init__ : PySem.W.codeIn K cd_InvalidNumber___init__ "InvalidNumber.__init__" = true)
    (k_InvalidNumber___init__ : PySem.W.keepIn K (.ref InvalidNumber___init__) = true)
    (l_StepFailed___init__ : K.lookup StepFailed___init__ = some ⟨oc_StepFailed___init__, od_StepFailed___init__, .func (PySem.W.fnOf "__init__" "StepFailed.__init__" (defArgs s_StepFailed___init__) (defBody s_StepFailed___init__) (defScope s_StepFailed___init__) .none kV_StepFailed___init__ dc_StepFailed___init__ pm_StepFailed___init__ an_StepFailed___init__ cd_StepFailed___init__ ct_StepFailed___init__), sl_StepFailed___init__⟩)
    (c_StepFailed___init__ : PySem.W.codeIn K cd_StepFailed___init__ "StepFailed.__init__" = true)
    (k_StepFailed___init__ : PySem.W.keepIn K (.ref StepFailed___init__) = true)
    (l_Sequence___init__ : K.lookup Sequence___init__ = some ⟨oc_Sequence___init__, od_Sequence___init__, .func (PySem.W.fnOf "__init__" "Sequence.__init__" (defArgs s_Sequence___init__) (defBody s_Sequence___init__) (defScope s_Sequence___init__) .none kV_Sequence___init__ dc_Sequence___init__ pm_Sequence___init__ an_Sequence___init__ cd_Sequence___init__ ct_Sequence___init__), sl_Sequence___init__⟩)
    (c_Sequence___init__ : PySem.W.codeIn K cd_Sequence___init__ "Sequence.__init__" = true)
    (k_Sequence___init__ : PySem.W.keepIn K (.ref Sequence___init__) = true)
    (l_Sequence_is_step : K.lookup Sequence_is_step = some ⟨oc_Sequence_is_step, od_Sequence_is_step, .func (PySem.W.fnOf "is_step" "Sequence.is_step" (defArgs s_Sequence_is_step) (defBody s_Sequence_is_step) (defScope s_Sequence_is_step) .none kV_Sequence_is_step dc_Sequence_is_step pm_Sequence_is_step an_Sequence_is_step cd_Sequence_is_step ct_Sequence_is_step), sl_Sequence_is_step⟩)
    (c_Sequence_is_step : PySem.W.codeIn K cd_Sequence_is_step "Sequence.is_step" = true)
    (k_Sequence_is_step : PySem.W.keepIn K (.ref Sequence_is_step) = true)
    (l_Sequence_steps : K.lookup Sequence_steps = some ⟨oc_Sequence_steps, od_Sequence_steps, .func (PySem.W.fnOf "steps" "Sequence.steps" (defArgs s_Sequence_steps) (defBody s_Sequence_steps) (defScope s_Sequence_steps) .none kV_Sequence_steps dc_Sequence_steps pm_Sequence_steps an_Sequence_steps cd_Sequence_steps ct_Sequence_steps), sl_Sequence_steps⟩)
    (c_Sequence_steps : PySem.W.codeIn K cd_Sequence_steps "Sequence.steps" = true)
    (k_Sequence_steps : PySem.W.keepIn K (.ref Sequence_steps) = true)
    (l_Sequence___add__ : K.lookup Sequence___add__ = some ⟨oc_Sequence___add__, od_Sequence___add__, .func (PySem.W.fnOf "__add__" "Sequence.__add__" (defArgs s_Sequence___add__) (defBody s_Sequence___add__) (defScope s_Sequence___add__) .none kV_Sequence___add__ dc_Sequence___add__ pm_Sequence___add__ an_Sequence___add__ cd_Sequence___add__ ct_Sequence___add__), sl_Sequence___add__⟩)
    (c_Sequence___add__ : PySem.W.codeIn K cd_Sequence___add__ "Sequence.__add__" = true)
    (k_Sequence___add__ : PySem.W.keepIn K (.ref Sequence___add__) = true)
    (l_how_many_up_to : K.lookup how_many_up_to = some ⟨oc_how_many_up_to, od_how_many_up_to, .func (PySem.W.fnOf "how_many_up_to" "how_many_up_to" (defArgs s_how_many_up_to) (defBody s_how_many_up_to) (defScope s_how_many_up_to) .none kV_how_many_up_to dc_how_many_up_to pm_how_many_up_to an_how_many_up_to cd_how_many_up_to ct_how_many_up_to), sl_how_many_up_to⟩)
    (c_how_many_up_to : PySem.W.codeIn K cd_how_many_up_to "how_many_up_to" = true)
    (k_how_many_up_to : PySem.W.keepIn K (.ref how_many_up_to) = true)
    (l_mapped : K.lookup mapped = some ⟨oc_mapped, od_mapped, .func (PySem.W.fnOf "mapped" "mapped" (defArgs s_mapped) (defBody s_mapped) (defScope s_mapped) .none kV_mapped dc_mapped pm_mapped an_mapped cd_mapped ct_mapped), sl_mapped⟩)
    (c_mapped : PySem.W.codeIn K cd_mapped "mapped" = true)
    (k_mapped : PySem.W.keepIn K (.ref mapped) = true)
    (l_kept_rank : K.lookup kept_rank = some ⟨oc_kept_rank, od_kept_rank, .func (PySem.W.fnOf "kept_rank" "kept_rank" (defArgs s_kept_rank) (defBody s_kept_rank) (defScope s_kept_rank) .none kV_kept_rank dc_kept_rank pm_kept_rank an_kept_rank cd_kept_rank ct_kept_rank), sl_kept_rank⟩)
    (c_kept_rank : PySem.W.codeIn K cd_kept_rank "kept_rank" = true)
    (k_kept_rank : PySem.W.keepIn K (.ref kept_rank) = true)
    (l_Table___init__ : K.lookup Table___init__ = some ⟨oc_Table___init__, od_Table___init__, .func (PySem.W.fnOf "__init__" "Table.__init__" (defArgs s_Table___init__) (defBody s_Table___init__) (defScope s_Table___init__) .none kV_Table___init__ dc_Table___init__ pm_Table___init__ an_Table___init__ cd_Table___init__ ct_Table___init__), sl_Table___init__⟩)
    (c_Table___init__ : PySem.W.codeIn K cd_Table___init__ "Table.__init__" = true)
    (k_Table___init__ : PySem.W.keepIn K (.ref Table___init__) = true)
    (l_Table_start : K.lookup Table_start = some ⟨oc_Table_start, od_Table_start, .func (PySem.W.fnOf "start" "Table.start" (defArgs s_Table_start) (defBody s_Table_start) (defScope s_Table_start) .none kV_Table_start dc_Table_start pm_Table_start an_Table_start cd_Table_start ct_Table_start), sl_Table_start⟩)
    (c_Table_start : PySem.W.codeIn K cd_Table_start "Table.start" = true)
    (k_Table_start : PySem.W.keepIn K (.ref Table_start) = true)
    (l_Table_lost : K.lookup Table_lost = some ⟨oc_Table_lost, od_Table_lost, .func (PySem.W.fnOf "lost" "Table.lost" (defArgs s_Table_lost) (defBody s_Table_lost) (defScope s_Table_lost) .none kV_Table_lost dc_Table_lost pm_Table_lost an_Table_lost cd_Table_lost ct_Table_lost), sl_Table_lost⟩)
    (c_Table_lost : PySem.W.codeIn K cd_Table_lost "Table.lost" = true)
    (k_Table_lost : PySem.W.keepIn K (.ref Table_lost) = true)
    (l_Table___call__ : K.lookup Table___call__ = some ⟨oc_Table___call__, od_Table___call__, .func (PySem.W.fnOf "__call__" "Table.__call__" (defArgs s_Table___call__) (defBody s_Table___call__) (defScope s_Table___call__) .none kV_Table___call__ dc_Table___call__ pm_Table___call__ an_Table___call__ cd_Table___call__ ct_Table___call__), sl_Table___call__⟩)
    (c_Table___call__ : PySem.W.codeIn K cd_Table___call__ "Table.__call__" = true)
    (k_Table___call__ : PySem.W.keepIn K (.ref Table___call__) = true)
    (l_Table___eq__ : K.lookup Table___eq__ = some ⟨oc_Table___eq__, od_Table___eq__, .func (PySem.W.fnOf "__eq__" "Table.__eq__" (defArgs s_Table___eq__) (defBody s_Table___eq__) (defScope s_Table___eq__) .none kV_Table___eq__ dc_Table___eq__ pm_Table___eq__ an_Table___eq__ cd_Table___eq__ ct_Table___eq__), sl_Table___eq__⟩)
    (c_Table___eq__ : PySem.W.codeIn K cd_Table___eq__ "Table.__eq__" = true)
    (k_Table___eq__ : PySem.W.keepIn K (.ref Table___eq__) = true)
    (l_below_all : K.lookup below_all = some ⟨oc_below_all, od_below_all, .func (PySem.W.fnOf "below_all" "below_all" (defArgs s_below_all) (defBody s_below_all) (defScope s_below_all) .none kV_below_all dc_below_all pm_below_all an_below_all cd_below_all ct_below_all), sl_below_all⟩)
    (c_below_all : PySem.W.codeIn K cd_below_all "below_all" = true)
    (k_below_all : PySem.W.keepIn K (.ref below_all) = true)
    (l_table_at : K.lookup table_at = some ⟨oc_table_at, od_table_at, .func (PySem.W.fnOf "table_at" "table_at" (defArgs s_table_at) (defBody s_table_at) (defScope s_table_at) .none kV_table_at dc_table_at pm_table_at an_table_at cd_table_at ct_table_at), sl_table_at⟩)
    (c_table_at : PySem.W.codeIn K cd_table_at "table_at" = true)
    (k_table_at : PySem.W.keepIn K (.ref table_at) = true)
    (l_table_of : K.lookup table_of = some ⟨oc_table_of, od_table_of, .func (PySem.W.fnOf "table_of" "table_of" (defArgs s_table_of) (defBody s_table_of) (defScope s_table_of) .none kV_table_of dc_table_of pm_table_of an_table_of cd_table_of ct_table_of), sl_table_of⟩)
    (c_table_of : PySem.W.codeIn K cd_table_of "table_of" = true)
    (k_table_of : PySem.W.keepIn K (.ref table_of) = true)
    (l_is_table_list : K.lookup is_table_list = some ⟨oc_is_table_list, od_is_table_list, .func (PySem.W.fnOf "is_table_list" "is_table_list" (defArgs s_is_table_list) (defBody s_is_table_list) (defScope s_is_table_list) .none kV_is_table_list dc_is_table_list pm_is_table_list an_is_table_list cd_is_table_list ct_is_table_list), sl_is_table_list⟩)
    (c_is_table_list : PySem.W.codeIn K cd_is_table_list "is_table_list" = true)
    (k_is_table_list : PySem.W.keepIn K (.ref is_table_list) = true)
    (l_spread : K.lookup spread = some ⟨oc_spread, od_spread, .func (PySem.W.fnOf "spread" "spread" (defArgs s_spread) (defBody s_spread) (defScope s_spread) .none kV_spread dc_spread pm_spread an_spread cd_spread ct_spread), sl_spread⟩)
    (c_spread : PySem.W.codeIn K cd_spread "spread" = true)
    (k_spread : PySem.W.keepIn K (.ref spread) = true)
    (l_Effect___init__ : K.lookup Effect___init__ = some ⟨oc_Effect___init__, od_Effect___init__, .func (PySem.W.fnOf "__init__" "Effect.__init__" (defArgs s_Effect___init__) (defBody s_Effect___init__) (defScope s_Effect___init__) .none kV_Effect___init__ dc_Effect___init__ pm_Effect___init__ an_Effect___init__ cd_Effect___init__ ct_Effect___init__), sl_Effect___init__⟩)
    (c_Effect___init__ : PySem.W.codeIn K cd_Effect___init__ "Effect.__init__" = true)
    (k_Effect___init__ : PySem.W.keepIn K (.ref Effect___init__) = true)
    (l_Effect_of : K.lookup Effect_of = some ⟨oc_Effect_of, od_Effect_of, .func (PySem.W.fnOf "of" "Effect.of" (defArgs s_Effect_of) (defBody s_Effect_of) (defScope s_Effect_of) .none kV_Effect_of dc_Effect_of pm_Effect_of an_Effect_of cd_Effect_of ct_Effect_of), sl_Effect_of⟩)
    (c_Effect_of : PySem.W.codeIn K cd_Effect_of "Effect.of" = true)
    (k_Effect_of : PySem.W.keepIn K (.ref Effect_of) = true)
    (l_Effect_breaks : K.lookup Effect_breaks = some ⟨oc_Effect_breaks, od_Effect_breaks, .func (PySem.W.fnOf "breaks" "Effect.breaks" (defArgs s_Effect_breaks) (defBody s_Effect_breaks) (defScope s_Effect_breaks) .none kV_Effect_breaks dc_Effect_breaks pm_Effect_breaks an_Effect_breaks cd_Effect_breaks ct_Effect_breaks), sl_Effect_breaks⟩)
    (c_Effect_breaks : PySem.W.codeIn K cd_Effect_breaks "Effect.breaks" = true)
    (k_Effect_breaks : PySem.W.keepIn K (.ref Effect_breaks) = true)
    (l_Effect_tables : K.lookup Effect_tables = some ⟨oc_Effect_tables, od_Effect_tables, .func (PySem.W.fnOf "tables" "Effect.tables" (defArgs s_Effect_tables) (defBody s_Effect_tables) (defScope s_Effect_tables) .none kV_Effect_tables dc_Effect_tables pm_Effect_tables an_Effect_tables cd_Effect_tables ct_Effect_tables), sl_Effect_tables⟩)
    (c_Effect_tables : PySem.W.codeIn K cd_Effect_tables "Effect.tables" = true)
    (k_Effect_tables : PySem.W.keepIn K (.ref Effect_tables) = true)
    (l_Effect_need : K.lookup Effect_need = some ⟨oc_Effect_need, od_Effect_need, .func (PySem.W.fnOf "need" "Effect.need" (defArgs s_Effect_need) (defBody s_Effect_need) (defScope s_Effect_need) .none kV_Effect_need dc_Effect_need pm_Effect_need an_Effect_need cd_Effect_need ct_Effect_need), sl_Effect_need⟩)
    (c_Effect_need : PySem.W.codeIn K cd_Effect_need "Effect.need" = true)
    (k_Effect_need : PySem.W.keepIn K (.ref Effect_need) = true)
    (l_Effect_table : K.lookup Effect_table = some ⟨oc_Effect_table, od_Effect_table, .func (PySem.W.fnOf "table" "Effect.table" (defArgs s_Effect_table) (defBody s_Effect_table) (defScope s_Effect_table) .none kV_Effect_table dc_Effect_table pm_Effect_table an_Effect_table cd_Effect_table ct_Effect_table), sl_Effect_table⟩)
    (c_Effect_table : PySem.W.codeIn K cd_Effect_table "Effect.table" = true)
    (k_Effect_table : PySem.W.keepIn K (.ref Effect_table) = true)
    (l_kept : K.lookup kept = some ⟨oc_kept, od_kept, .func (PySem.W.fnOf "kept" "kept" (defArgs s_kept) (defBody s_kept) (defScope s_kept) .none kV_kept dc_kept pm_kept an_kept cd_kept ct_kept), sl_kept⟩)
    (c_kept : PySem.W.codeIn K cd_kept "kept" = true)
    (k_kept : PySem.W.keepIn K (.ref kept) = true)
    (l_kept_numbers : K.lookup kept_numbers = some ⟨oc_kept_numbers, od_kept_numbers, .func (PySem.W.fnOf "kept_numbers" "kept_numbers" (defArgs s_kept_numbers) (defBody s_kept_numbers) (defScope s_kept_numbers) .none kV_kept_numbers dc_kept_numbers pm_kept_numbers an_kept_numbers cd_kept_numbers ct_kept_numbers), sl_kept_numbers⟩)
    (c_kept_numbers : PySem.W.codeIn K cd_kept_numbers "kept_numbers" = true)
    (k_kept_numbers : PySem.W.keepIn K (.ref kept_numbers) = true)
    (l_law_pool : K.lookup law_pool = some ⟨oc_law_pool, od_law_pool, .func (PySem.W.fnOf "_law_pool" "_law_pool" (defArgs s_law_pool) (defBody s_law_pool) (defScope s_law_pool) .none kV_law_pool dc_law_pool pm_law_pool an_law_pool cd_law_pool ct_law_pool), sl_law_pool⟩)
    (c_law_pool : PySem.W.codeIn K cd_law_pool "_law_pool" = true)
    (k_law_pool : PySem.W.keepIn K (.ref law_pool) = true)
    (l_law_take : K.lookup law_take = some ⟨oc_law_take, od_law_take, .func (PySem.W.fnOf "_law_take" "_law_take" (defArgs s_law_take) (defBody s_law_take) (defScope s_law_take) .none kV_law_take dc_law_take pm_law_take an_law_take cd_law_take ct_law_take), sl_law_take⟩)
    (c_law_take : PySem.W.codeIn K cd_law_take "_law_take" = true)
    (k_law_take : PySem.W.keepIn K (.ref law_take) = true)
    (l_law_steps : K.lookup law_steps = some ⟨oc_law_steps, od_law_steps, .func (PySem.W.fnOf "_law_steps" "_law_steps" (defArgs s_law_steps) (defBody s_law_steps) (defScope s_law_steps) .none kV_law_steps dc_law_steps pm_law_steps an_law_steps cd_law_steps ct_law_steps), sl_law_steps⟩)
    (c_law_steps : PySem.W.codeIn K cd_law_steps "_law_steps" = true)
    (k_law_steps : PySem.W.keepIn K (.ref law_steps) = true)
    (l_law_made : K.lookup law_made = some ⟨oc_law_made, od_law_made, .func (PySem.W.fnOf "_law_made" "_law_made" (defArgs s_law_made) (defBody s_law_made) (defScope s_law_made) .none kV_law_made dc_law_made pm_law_made an_law_made cd_law_made ct_law_made), sl_law_made⟩)
    (c_law_made : PySem.W.codeIn K cd_law_made "_law_made" = true)
    (k_law_made : PySem.W.keepIn K (.ref law_made) = true)
    (l_law_run : K.lookup law_run = some ⟨oc_law_run, od_law_run, .func (PySem.W.fnOf "_law_run" "_law_run" (defArgs s_law_run) (defBody s_law_run) (defScope s_law_run) .none kV_law_run dc_law_run pm_law_run an_law_run cd_law_run ct_law_run), sl_law_run⟩)
    (c_law_run : PySem.W.codeIn K cd_law_run "_law_run" = true)
    (k_law_run : PySem.W.keepIn K (.ref law_run) = true)
    (l_law_caught : K.lookup law_caught = some ⟨oc_law_caught, od_law_caught, .func (PySem.W.fnOf "_law_caught" "_law_caught" (defArgs s_law_caught) (defBody s_law_caught) (defScope s_law_caught) .none kV_law_caught dc_law_caught pm_law_caught an_law_caught cd_law_caught ct_law_caught), sl_law_caught⟩)
    (c_law_caught : PySem.W.codeIn K cd_law_caught "_law_caught" = true)
    (k_law_caught : PySem.W.keepIn K (.ref law_caught) = true)
    (l_law_due : K.lookup law_due = some ⟨oc_law_due, od_law_due, .func (PySem.W.fnOf "_law_due" "_law_due" (defArgs s_law_due) (defBody s_law_due) (defScope s_law_due) .none kV_law_due dc_law_due pm_law_due an_law_due cd_law_due ct_law_due), sl_law_due⟩)
    (c_law_due : PySem.W.codeIn K cd_law_due "_law_due" = true)
    (k_law_due : PySem.W.keepIn K (.ref law_due) = true)
    (l_law_map : K.lookup law_map = some ⟨oc_law_map, od_law_map, .func (PySem.W.fnOf "_law_map" "_law_map" (defArgs s_law_map) (defBody s_law_map) (defScope s_law_map) .none kV_law_map dc_law_map pm_law_map an_law_map cd_law_map ct_law_map), sl_law_map⟩)
    (c_law_map : PySem.W.codeIn K cd_law_map "_law_map" = true)
    (k_law_map : PySem.W.keepIn K (.ref law_map) = true)
    (l_law_great_right : K.lookup law_great_right = some ⟨oc_law_great_right, od_law_great_right, .func (PySem.W.fnOf "_law_great_right" "_law_great_right" (defArgs s_law_great_right) (defBody s_law_great_right) (defScope s_law_great_right) .none kV_law_great_right dc_law_great_right pm_law_great_right an_law_great_right cd_law_great_right ct_law_great_right), sl_law_great_right⟩)
    (c_law_great_right : PySem.W.codeIn K cd_law_great_right "_law_great_right" = true)
    (k_law_great_right : PySem.W.keepIn K (.ref law_great_right) = true)
    (l_law_wide_right : K.lookup law_wide_right = some ⟨oc_law_wide_right, od_law_wide_right, .func (PySem.W.fnOf "_law_wide_right" "_law_wide_right" (defArgs s_law_wide_right) (defBody s_law_wide_right) (defScope s_law_wide_right) .none kV_law_wide_right dc_law_wide_right pm_law_wide_right an_law_wide_right cd_law_wide_right ct_law_wide_right), sl_law_wide_right⟩)
    (c_law_wide_right : PySem.W.codeIn K cd_law_wide_right "_law_wide_right" = true)
    (k_law_wide_right : PySem.W.keepIn K (.ref law_wide_right) = true)
    (l_law : K.lookup law = some ⟨oc_law, od_law, .func (PySem.W.fnOf "law" "law" (defArgs s_law) (defBody s_law) (defScope s_law) .none kV_law dc_law pm_law an_law cd_law ct_law), sl_law⟩)
    (c_law : PySem.W.codeIn K cd_law "law" = true)
    (k_law : PySem.W.keepIn K (.ref law) = true)
    (hn : PySem.W.specialIn K (.builtin "object.__class__") "__get__" = some (some (.builtin "getset_descriptor.__get__")))
    (htk : PySem.W.takesIn K (.builtin "object.__class__") = some true)
    (pg_Sequence : PySem.W.plainGet K Sequence Str.empty = true)
    (hd_Sequence : PySem.W.hasDictIn K Sequence = true)
    (po_Sequence : PySem.W.plainOver K Sequence = true)
    (sa_Sequence : PySem.W.findIn K (.ref Sequence) "__setattr__" = some (some (.builtin "object.__setattr__")))
    (mkI_Sequence : PySem.W.makesIn K Sequence = true)
    (kc_Sequence : PySem.W.keepIn K (.ref Sequence) = true)
    (ha_Sequence : PySem.W.findIn K (.ref Sequence) "__class__" = some (some (.builtin "object.__class__")))
    (hm_Sequence : PySem.W.mroIn K Sequence (.type "object") = some true)
    (ic_Sequence : PySem.W.isClsIn K Sequence = true)
    (ty_Sequence : PySem.W.typeIn K (.ref Sequence) = some (.type "type"))
    (n_steps : PySem.W.findIn K (.ref Sequence) "_steps" = some none)
    (sf_S : PySem.W.selfFirst K Sequence = true)
    (pg_Table : PySem.W.plainGet K Table Str.empty = true)
    (hd_Table : PySem.W.hasDictIn K Table = true)
    (po_Table : PySem.W.plainOver K Table = true)
    (sa_Table : PySem.W.findIn K (.ref Table) "__setattr__" = some (some (.builtin "object.__setattr__")))
    (mkI_Table : PySem.W.makesIn K Table = true)
    (kc_Table : PySem.W.keepIn K (.ref Table) = true)
    (ha_Table : PySem.W.findIn K (.ref Table) "__class__" = some (some (.builtin "object.__class__")))
    (hm_Table : PySem.W.mroIn K Table (.type "object") = some true)
    (ic_Table : PySem.W.isClsIn K Table = true)
    (ty_Table : PySem.W.typeIn K (.ref Table) = some (.type "type"))
    (n_start : PySem.W.findIn K (.ref Table) "_start" = some none)
    (n_lost : PySem.W.findIn K (.ref Table) "_lost" = some none)
    (neA_T : PySem.W.findIn K (.ref Table) "__ne__" = some (some (.builtin "object.__ne__")))
    (sub_T : PySem.W.subIn K (.ref Table) (.type "object") = some true)
    (fic_T : PySem.W.fnIn K Table___call__ = true)
    (pg_Effect : PySem.W.plainGet K Effect Str.empty = true)
    (hd_Effect : PySem.W.hasDictIn K Effect = true)
    (po_Effect : PySem.W.plainOver K Effect = true)
    (sa_Effect : PySem.W.findIn K (.ref Effect) "__setattr__" = some (some (.builtin "object.__setattr__")))
    (mkI_Effect : PySem.W.makesIn K Effect = true)
    (kc_Effect : PySem.W.keepIn K (.ref Effect) = true)
    (ha_Effect : PySem.W.findIn K (.ref Effect) "__class__" = some (some (.builtin "object.__class__")))
    (hm_Effect : PySem.W.mroIn K Effect (.type "object") = some true)
    (ic_Effect : PySem.W.isClsIn K Effect = true)
    (ty_Effect : PySem.W.typeIn K (.ref Effect) = some (.type "type"))
    (n_breaks : PySem.W.findIn K (.ref Effect) "_breaks" = some none)
    (n_tables : PySem.W.findIn K (.ref Effect) "_tables" = some none)
    (s_NN : PySem.W.subIn K (.ref InvalidNumber) (.ref InvalidNumber) = some true)
    (s_SN : PySem.W.subIn K (.ref StepFailed) (.ref InvalidNumber) = some false)
    (s_SS : PySem.W.subIn K (.ref StepFailed) (.ref StepFailed) = some true) :
    ∀ base : Heap, K.In base → base.Ns mainGlobals mg → FnG l.prog w K mg base CX0 14 fa (spLaw K) := by
  have e := hfa.symm.trans (PySem.W.mg_of X G a_law)
  cases e
  have T : Txt K mg { is_integer := is_integer, is_count := is_count, is_rank := is_rank, is_number_list := is_number_list, is_count_list := is_count_list, is_ascending := is_ascending, is_rank_list := is_rank_list, InvalidNumber___init__ := InvalidNumber___init__, StepFailed___init__ := StepFailed___init__, Sequence___init__ := Sequence___init__, Sequence_is_step := Sequence_is_step, Sequence_steps := Sequence_steps, Sequence___add__ := Sequence___add__, how_many_up_to := how_many_up_to, mapped := mapped, kept_rank := kept_rank, Table___init__ := Table___init__, Table_start := Table_start, Table_lost := Table_lost, Table___call__ := Table___call__, Table___eq__ := Table___eq__, below_all := below_all, table_at := table_at, table_of := table_of, is_table_list := is_table_list, spread := spread, Effect___init__ := Effect___init__, Effect_of := Effect_of, Effect_breaks := Effect_breaks, Effect_tables := Effect_tables, Effect_need := Effect_need, Effect_table := Effect_table, kept := kept, kept_numbers := kept_numbers, law_pool := law_pool, law_take := law_take, law_steps := law_steps, law_made := law_made, law_run := law_run, law_caught := law_caught, law_due := law_due, law_map := law_map, law_great_right := law_great_right, law_wide_right := law_wide_right, law := fa, RankError := RankError, InvalidNumber := InvalidNumber, StepFailed := StepFailed, Sequence := Sequence, Table := Table, Effect := Effect, P_steps := P_steps, P_start := P_start, P_lost := P_lost, P_breaks := P_breaks, P_tables := P_tables, P_need := P_need, S_is_step := S_is_step, C_of := C_of } :=
    { g_is_integer := PySem.W.mg_of X G a_is_integer,
      k_is_integer := k_is_integer,
      F_is_integer := ⟨_, fun_mk (st := s_is_integer) l_is_integer c_is_integer k_is_integer⟩,
      g_is_count := PySem.W.mg_of X G a_is_count,
      k_is_count := k_is_count,
      F_is_count := ⟨_, fun_mk (st := s_is_count) l_is_count c_is_count k_is_count⟩,
      g_is_rank := PySem.W.mg_of X G a_is_rank,
      k_is_rank := k_is_rank,
      F_is_rank := ⟨_, fun_mk (st := s_is_rank) l_is_rank c_is_rank k_is_rank⟩,
      g_is_number_list := PySem.W.mg_of X G a_is_number_list,
      k_is_number_list := k_is_number_list,
      F_is_number_list := ⟨_, fun_mk (st := s_is_number_list) l_is_number_list c_is_number_list k_is_number_list⟩,
      g_is_count_list := PySem.W.mg_of X G a_is_count_list,
      k_is_count_list := k_is_count_list,
      F_is_count_list := ⟨_, fun_mk (st := s_is_count_list) l_is_count_list c_is_count_list k_is_count_list⟩,
      g_is_ascending := PySem.W.mg_of X G a_is_ascending,
      k_is_ascending := k_is_ascending,
      F_is_ascending := ⟨_, fun_mk (st := s_is_ascending) l_is_ascending c_is_ascending k_is_ascending⟩,
      g_is_rank_list := PySem.W.mg_of X G a_is_rank_list,
      k_is_rank_list := k_is_rank_list,
      F_is_rank_list := ⟨_, fun_mk (st := s_is_rank_list) l_is_rank_list c_is_rank_list k_is_rank_list⟩,
      F_InvalidNumber___init__ := ⟨_, fun_mk (st := s_InvalidNumber___init__) l_InvalidNumber___init__ c_InvalidNumber___init__ k_InvalidNumber___init__⟩,
      F_StepFailed___init__ := ⟨_, fun_mk (st := s_StepFailed___init__) l_StepFailed___init__ c_StepFailed___init__ k_StepFailed___init__⟩,
      F_Sequence___init__ := ⟨_, fun_mk (st := s_Sequence___init__) l_Sequence___init__ c_Sequence___init__ k_Sequence___init__⟩,
      F_Sequence_is_step := ⟨_, fun_mk (st := s_Sequence_is_step) l_Sequence_is_step c_Sequence_is_step k_Sequence_is_step⟩,
      F_Sequence_steps := ⟨_, fun_mk (st := s_Sequence_steps) l_Sequence_steps c_Sequence_steps k_Sequence_steps⟩,
      F_Sequence___add__ := ⟨_, fun_mk (st := s_Sequence___add__) l_Sequence___add__ c_Sequence___add__ k_Sequence___add__⟩,
      g_how_many_up_to := PySem.W.mg_of X G a_how_many_up_to,
      k_how_many_up_to := k_how_many_up_to,
      F_how_many_up_to := ⟨_, fun_mk (st := s_how_many_up_to) l_how_many_up_to c_how_many_up_to k_how_many_up_to⟩,
      g_mapped := PySem.W.mg_of X G a_mapped,
      k_mapped := k_mapped,
      F_mapped := ⟨_, fun_mk (st := s_mapped) l_mapped c_mapped k_mapped⟩,
      g_kept_rank := PySem.W.mg_of X G a_kept_rank,
      k_kept_rank := k_kept_rank,
      F_kept_rank := ⟨_, fun_mk (st := s_kept_rank) l_kept_rank c_kept_rank k_kept_rank⟩,
      F_Table___init__ := ⟨_, fun_mk (st := s_Table___init__) l_Table___init__ c_Table___init__ k_Table___init__⟩,
      F_Table_start := ⟨_, fun_mk (st := s_Table_start) l_Table_start c_Table_start k_Table_start⟩,
      F_Table_lost := ⟨_, fun_mk (st := s_Table_lost) l_Table_lost c_Table_lost k_Table_lost⟩,
      F_Table___call__ := ⟨_, fun_mk (st := s_Table___call__) l_Table___call__ c_Table___call__ k_Table___call__⟩,
      F_Table___eq__ := ⟨_, fun_mk (st := s_Table___eq__) l_Table___eq__ c_Table___eq__ k_Table___eq__⟩,
      g_below_all := PySem.W.mg_of X G a_below_all,
      k_below_all := k_below_all,
      F_below_all := ⟨_, fun_mk (st := s_below_all) l_below_all c_below_all k_below_all⟩,
      g_table_at := PySem.W.mg_of X G a_table_at,
      k_table_at := k_table_at,
      F_table_at := ⟨_, fun_mk (st := s_table_at) l_table_at c_table_at k_table_at⟩,
      g_table_of := PySem.W.mg_of X G a_table_of,
      k_table_of := k_table_of,
      F_table_of := ⟨_, fun_mk (st := s_table_of) l_table_of c_table_of k_table_of⟩,
      g_is_table_list := PySem.W.mg_of X G a_is_table_list,
      k_is_table_list := k_is_table_list,
      F_is_table_list := ⟨_, fun_mk (st := s_is_table_list) l_is_table_list c_is_table_list k_is_table_list⟩,
      g_spread := PySem.W.mg_of X G a_spread,
      k_spread := k_spread,
      F_spread := ⟨_, fun_mk (st := s_spread) l_spread c_spread k_spread⟩,
      F_Effect___init__ := ⟨_, fun_mk (st := s_Effect___init__) l_Effect___init__ c_Effect___init__ k_Effect___init__⟩,
      F_Effect_of := ⟨_, fun_mk (st := s_Effect_of) l_Effect_of c_Effect_of k_Effect_of⟩,
      F_Effect_breaks := ⟨_, fun_mk (st := s_Effect_breaks) l_Effect_breaks c_Effect_breaks k_Effect_breaks⟩,
      F_Effect_tables := ⟨_, fun_mk (st := s_Effect_tables) l_Effect_tables c_Effect_tables k_Effect_tables⟩,
      F_Effect_need := ⟨_, fun_mk (st := s_Effect_need) l_Effect_need c_Effect_need k_Effect_need⟩,
      F_Effect_table := ⟨_, fun_mk (st := s_Effect_table) l_Effect_table c_Effect_table k_Effect_table⟩,
      g_kept := PySem.W.mg_of X G a_kept,
      k_kept := k_kept,
      F_kept := ⟨_, fun_mk (st := s_kept) l_kept c_kept k_kept⟩,
      g_kept_numbers := PySem.W.mg_of X G a_kept_numbers,
      k_kept_numbers := k_kept_numbers,
      F_kept_numbers := ⟨_, fun_mk (st := s_kept_numbers) l_kept_numbers c_kept_numbers k_kept_numbers⟩,
      g_law_pool := PySem.W.mg_of X G a_law_pool,
      k_law_pool := k_law_pool,
      F_law_pool := ⟨_, fun_mk (st := s_law_pool) l_law_pool c_law_pool k_law_pool⟩,
      g_law_take := PySem.W.mg_of X G a_law_take,
      k_law_take := k_law_take,
      F_law_take := ⟨_, fun_mk (st := s_law_take) l_law_take c_law_take k_law_take⟩,
      g_law_steps := PySem.W.mg_of X G a_law_steps,
      k_law_steps := k_law_steps,
      F_law_steps := ⟨_, fun_mk (st := s_law_steps) l_law_steps c_law_steps k_law_steps⟩,
      g_law_made := PySem.W.mg_of X G a_law_made,
      k_law_made := k_law_made,
      F_law_made := ⟨_, fun_mk (st := s_law_made) l_law_made c_law_made k_law_made⟩,
      g_law_run := PySem.W.mg_of X G a_law_run,
      k_law_run := k_law_run,
      F_law_run := ⟨_, fun_mk (st := s_law_run) l_law_run c_law_run k_law_run⟩,
      g_law_caught := PySem.W.mg_of X G a_law_caught,
      k_law_caught := k_law_caught,
      F_law_caught := ⟨_, fun_mk (st := s_law_caught) l_law_caught c_law_caught k_law_caught⟩,
      g_law_due := PySem.W.mg_of X G a_law_due,
      k_law_due := k_law_due,
      F_law_due := ⟨_, fun_mk (st := s_law_due) l_law_due c_law_due k_law_due⟩,
      g_law_map := PySem.W.mg_of X G a_law_map,
      k_law_map := k_law_map,
      F_law_map := ⟨_, fun_mk (st := s_law_map) l_law_map c_law_map k_law_map⟩,
      g_law_great_right := PySem.W.mg_of X G a_law_great_right,
      k_law_great_right := k_law_great_right,
      F_law_great_right := ⟨_, fun_mk (st := s_law_great_right) l_law_great_right c_law_great_right k_law_great_right⟩,
      g_law_wide_right := PySem.W.mg_of X G a_law_wide_right,
      k_law_wide_right := k_law_wide_right,
      F_law_wide_right := ⟨_, fun_mk (st := s_law_wide_right) l_law_wide_right c_law_wide_right k_law_wide_right⟩,
      g_law := PySem.W.mg_of X G a_law,
      k_law := k_law,
      F_law := ⟨_, fun_mk (st := s_law) l_law c_law k_law⟩,
      g_RankError := PySem.W.mg_of X G a_RankError,
      g_InvalidNumber := PySem.W.mg_of X G a_InvalidNumber,
      g_StepFailed := PySem.W.mg_of X G a_StepFailed,
      g_Sequence := PySem.W.mg_of X G a_Sequence,
      p_steps := ⟨pat_steps, get_steps, tak_steps, ⟨_, rec_steps⟩⟩,
      sta_is_step := ⟨cls_is_step, ⟨_, rec_is_step⟩, k_Sequence_is_step⟩,
      sti_is_step := ⟨pg_Sequence, ic_Sequence, at_is_step, sty_is_step, get_is_step, tak_is_step, by decide +kernel, ⟨_, rec_is_step⟩, k_Sequence_is_step⟩,
      rd_Sequence := ⟨rds_Sequence, rga_Sequence⟩,
      g_Table := PySem.W.mg_of X G a_Table,
      p_start := ⟨pat_start, get_start, tak_start, ⟨_, rec_start⟩⟩,
      p_lost := ⟨pat_lost, get_lost, tak_lost, ⟨_, rec_lost⟩⟩,
      g_Effect := PySem.W.mg_of X G a_Effect,
      p_breaks := ⟨pat_breaks, get_breaks, tak_breaks, ⟨_, rec_breaks⟩⟩,
      p_tables := ⟨pat_tables, get_tables, tak_tables, ⟨_, rec_tables⟩⟩,
      p_need := ⟨pat_need, get_need, tak_need, ⟨_, rec_need⟩⟩,
      m_table := ⟨at_Effect_table, f_Effect_table, k_Effect_table⟩,
      cm_of := ⟨cls_of, ⟨_, rec_of⟩, fi_of⟩,
      ci_of := ⟨pg_Effect, ic_Effect, at_of, sty_of, get_of, tak_of, by decide +kernel, ⟨_, rec_of⟩, fi_of⟩,
      rd_Effect := ⟨rds_Effect, rga_Effect⟩,
      b_type := PySem.W.mg_none_of X G z_type,
      b_int := PySem.W.mg_none_of X G z_int,
      b_list := PySem.W.mg_none_of X G z_list,
      b_tuple := PySem.W.mg_none_of X G z_tuple,
      b_str := PySem.W.mg_none_of X G z_str,
      b_len := PySem.W.mg_none_of X G z_len,
      b_isinstance := PySem.W.mg_none_of X G z_isinstance,
      b_abs := PySem.W.mg_none_of X G z_abs,
      b_max := PySem.W.mg_none_of X G z_max,
      b_min := PySem.W.mg_none_of X G z_min,
      b_range := PySem.W.mg_none_of X G z_range,
      b_repr := PySem.W.mg_none_of X G z_repr,
      b_all := PySem.W.mg_none_of X G z_all,
      b_zip := PySem.W.mg_none_of X G z_zip,
      b_sorted := PySem.W.mg_none_of X G z_sorted,
      b_set := PySem.W.mg_none_of X G z_set,
      b_sum := PySem.W.mg_none_of X G z_sum,
      b_enumerate := PySem.W.mg_none_of X G z_enumerate,
      e_InvalidNumber := ⟨⟨⟨_, _, _, _, _, _, _, _, _, _, _, _, _, _, _, xl_InvalidNumber, show PySem.HandSPX.refsVE [.type "ValueError", .type "Exception", .type "BaseException", .type "object"] = true by decide +kernel⟩, sa_InvalidNumber, ex_InvalidNumber, ty_InvalidNumber, kc_InvalidNumber⟩, in_InvalidNumber, ti_InvalidNumber, no_InvalidNumber, ga_InvalidNumber, gg_InvalidNumber, hd_InvalidNumber, ha_InvalidNumber, hn, htk, hm_InvalidNumber⟩,
      e_StepFailed := ⟨bx_Runtime, ⟨⟨_, _, _, _, [], _, _, _, _, _, _, _, _, _, _, xl_StepFailed⟩, sa_StepFailed, ex_StepFailed, ty_StepFailed, kc_StepFailed⟩, in_StepFailed, ti_StepFailed, no_StepFailed, ga_StepFailed, gg_StepFailed, hd_StepFailed, ha_StepFailed, hn, htk, hm_StepFailed⟩,
      n_steps := n_steps,
      cl_S := ⟨pg_Sequence, hd_Sequence, po_Sequence, sa_Sequence⟩,
      M_Sequence := ⟨mkI_Sequence, at_Sequence___init__, f_Sequence___init__, kc_Sequence⟩,
      isi_S := ⟨⟨pg_Sequence, hd_Sequence, po_Sequence, sa_Sequence⟩, ha_Sequence, hn, htk, hm_Sequence, kit_self⟩,
      ty_Sequence := ty_Sequence,
      sf_S := sf_S,
      addA_S := at_Sequence___add__,
      addF_S := f_Sequence___add__,
      n_start := n_start,
      n_lost := n_lost,
      cl_T := ⟨pg_Table, hd_Table, po_Table, sa_Table⟩,
      M_Table := ⟨mkI_Table, at_Table___init__, f_Table___init__, kc_Table⟩,
      isi_T := ⟨⟨pg_Table, hd_Table, po_Table, sa_Table⟩, ha_Table, hn, htk, hm_Table, kit_self⟩,
      ty_Table := ty_Table,
      eqA_T := at_Table___eq__,
      eqF_T := f_Table___eq__,
      neA_T := neA_T,
      sub_T := sub_T,
      callO_T := ⟨at_Table___call__, f_Table___call__, fic_T⟩,
      n_breaks := n_breaks,
      n_tables := n_tables,
      cl_E := ⟨pg_Effect, hd_Effect, po_Effect, sa_Effect⟩,
      M_Effect := ⟨mkI_Effect, at_Effect___init__, f_Effect___init__, kc_Effect⟩,
      isi_E := ⟨⟨pg_Effect, hd_Effect, po_Effect, sa_Effect⟩, ha_Effect, hn, htk, hm_Effect, kit_self⟩,
      ty_Effect := ty_Effect,
      x_NN := exm_of ex_InvalidNumber ic_InvalidNumber ty_InvalidNumber s_NN,
      x_SN := exm_of ex_InvalidNumber ic_InvalidNumber ty_InvalidNumber s_SN,
      x_SS := exm_of ex_StepFailed ic_StepFailed ty_StepFailed s_SS }
  exact fun base _ _ => ok_law T (fun_mk (st := s_law) l_law c_law k_law)
theorem walk {l : PySem.W.OpenLaw} {q : Program} {loose : List Str} {XP : (Str → Option Value) → Heap → Prop} {YP : World → Heap → Prop} {d : DefRec} {K : Params → PySem.W.Frag} (hn : l.most = some 63) (hdf : d.params.defaults = [])
    (hY : ∀ (w : World) (h : Heap), YP w h → (K w.params).In h)
    (F : ∀ (w : World) (mg : Str → Option Value) (fa : Addr) (h : Heap), (K w.params).In h → h.Ns mainGlobals mg → mg d.name = some (.ref fa) →
      ∀ base : Heap, (K w.params).In base → base.Ns mainGlobals mg → FnG l.prog w (K w.params) mg base CX0 14 fa (spLaw (K w.params))) :
    PySem.W.WalkO q loose XP YP l.row.toRowW d [] (fun f vs => PySem.call f vs) :=
  walkG (n := 63) (k := 14) (CX := fun _ => CX0) (sp := fun w => spLaw (K w.params)) hn (by decide) hdf ⟨rfl, by decide, by decide⟩ hY F (fun _ _ a ns hl _ hS => ⟨a, ns, rfl, hS, hl, fun _ => rfl⟩) fun _ _ _ _ _ z => z
end
end K15
open PySem PySem.W PyProof.Rows
set_option maxRecDepth 100000 in
set_option maxHeartbeats 0 in
theorem PySem.Challenge.cw_rankeffect_k15_results_by_gaps_holds : PySem.Challenge.rw_rankeffect_k15_results_by_gaps.Holds := by
  w_on; o_law; k_head; (case hw => w_witness2)
  k_fill
  refine K15.walk (l := PySem.Challenge.rw_rankeffect_k15_results_by_gaps) rfl rfl (fun w h Y => PySem.W.kIn_of Y) ?F
  case F =>
    intro w mg fa h KX G hmg
    refine' K15.all_mk KX G hmg ?a_is_integer ?a_is_count ?a_is_rank ?a_is_number_list ?a_is_count_list ?a_is_ascending ?a_is_rank_list ?a_how_many_up_to ?a_mapped ?a_kept_rank ?a_below_all ?a_table_at ?a_table_of ?a_is_table_list ?a_spread ?a_kept ?a_kept_numbers ?a_law_pool ?a_law_take ?a_law_steps ?a_law_made ?a_law_run ?a_law_caught ?a_law_due ?a_law_map ?a_law_great_right ?a_law_wide_right ?a_law ?a_RankError ?a_InvalidNumber ?a_StepFailed ?a_Sequence ?at_Sequence___init__ ?f_Sequence___init__ ?at_Sequence___add__ ?f_Sequence___add__ ?pat_steps ?rec_steps ?get_steps ?tak_steps ?at_is_step ?rec_is_step ?sty_is_step ?get_is_step ?tak_is_step ?cls_is_step ?rds_Sequence ?rga_Sequence ?a_Table ?at_Table___init__ ?f_Table___init__ ?at_Table___call__ ?f_Table___call__ ?at_Table___eq__ ?f_Table___eq__ ?pat_start ?rec_start ?get_start ?tak_start ?pat_lost ?rec_lost ?get_lost ?tak_lost ?a_Effect ?at_Effect___init__ ?f_Effect___init__ ?at_Effect_table ?f_Effect_table ?pat_breaks ?rec_breaks ?get_breaks ?tak_breaks ?pat_tables ?rec_tables ?get_tables ?tak_tables ?pat_need ?rec_need ?get_need ?tak_need ?at_of ?rec_of ?sty_of ?get_of ?tak_of ?cls_of ?fi_of ?rds_Effect ?rga_Effect ?z_type ?z_int ?z_list ?z_tuple ?z_str ?z_len ?z_isinstance ?z_abs ?z_max ?z_min ?z_range ?z_repr ?z_all ?z_zip ?z_sorted ?z_set ?z_sum ?z_enumerate ?xl_InvalidNumber ?sa_InvalidNumber ?ex_InvalidNumber ?ty_InvalidNumber ?kc_InvalidNumber ?in_InvalidNumber ?ti_InvalidNumber ?no_InvalidNumber ?ga_InvalidNumber ?gg_InvalidNumber ?hd_InvalidNumber ?ha_InvalidNumber ?hm_InvalidNumber ?ic_InvalidNumber ?xl_StepFailed ?sa_StepFailed ?ex_StepFailed ?ty_StepFailed ?kc_StepFailed ?in_StepFailed ?ti_StepFailed ?no_StepFailed ?ga_StepFailed ?gg_StepFailed ?hd_StepFailed ?ha_StepFailed ?hm_StepFailed ?ic_StepFailed ?l_is_integer ?c_is_integer ?k_is_integer ?l_is_count ?c_is_count ?k_is_count ?l_is_rank ?c_is_rank ?k_is_rank ?l_is_number_list ?c_is_number_list ?k_is_number_list ?l_is_count_list ?c_is_count_list ?k_is_count_list ?l_is_ascending ?c_is_ascending ?k_is_ascending ?l_is_rank_list ?c_is_rank_list ?k_is_rank_list ?l_InvalidNumber___init__ ?c_InvalidNumber___init__ ?k_InvalidNumber___init__ ?l_StepFailed___init__ ?c_StepFailed___init__ ?k_StepFailed___init__ ?l_Sequence___init__ ?c_Sequence___init__ ?k_Sequence___init__ ?l_Sequence_is_step ?c_Sequence_is_step ?k_Sequence_is_step ?l_Sequence_steps ?c_Sequence_steps ?k_Sequence_steps ?l_Sequence___add__ ?c_Sequence___add__ ?k_Sequence___add__ ?l_how_many_up_to ?c_how_many_up_to ?k_how_many_up_to ?l_mapped ?c_mapped ?k_mapped ?l_kept_rank ?c_kept_rank ?k_kept_rank ?l_Table___init__ ?c_Table___init__ ?k_Table___init__ ?l_Table_start ?c_Table_start ?k_Table_start ?l_Table_lost ?c_Table_lost ?k_Table_lost ?l_Table___call__ ?c_Table___call__ ?k_Table___call__ ?l_Table___eq__ ?c_Table___eq__ ?k_Table___eq__ ?l_below_all ?c_below_all ?k_below_all ?l_table_at ?c_table_at ?k_table_at ?l_table_of ?c_table_of ?k_table_of ?l_is_table_list ?c_is_table_list ?k_is_table_list ?l_spread ?c_spread ?k_spread ?l_Effect___init__ ?c_Effect___init__ ?k_Effect___init__ ?l_Effect_of ?c_Effect_of ?k_Effect_of ?l_Effect_breaks ?c_Effect_breaks ?k_Effect_breaks ?l_Effect_tables ?c_Effect_tables ?k_Effect_tables ?l_Effect_need ?c_Effect_need ?k_Effect_need ?l_Effect_table ?c_Effect_table ?k_Effect_table ?l_kept ?c_kept ?k_kept ?l_kept_numbers ?c_kept_numbers ?k_kept_numbers ?l_law_pool ?c_law_pool ?k_law_pool ?l_law_take ?c_law_take ?k_law_take ?l_law_steps ?c_law_steps ?k_law_steps ?l_law_made ?c_law_made ?k_law_made ?l_law_run ?c_law_run ?k_law_run ?l_law_caught ?c_law_caught ?k_law_caught ?l_law_due ?c_law_due ?k_law_due ?l_law_map ?c_law_map ?k_law_map ?l_law_great_right ?c_law_great_right ?k_law_great_right ?l_law_wide_right ?c_law_wide_right ?k_law_wide_right ?l_law ?c_law ?k_law ?hn ?htk ?pg_Sequence ?hd_Sequence ?po_Sequence ?sa_Sequence ?mkI_Sequence ?kc_Sequence ?ha_Sequence ?hm_Sequence ?ic_Sequence ?ty_Sequence ?n_steps ?sf_S ?pg_Table ?hd_Table ?po_Table ?sa_Table ?mkI_Table ?kc_Table ?ha_Table ?hm_Table ?ic_Table ?ty_Table ?n_start ?n_lost ?neA_T ?sub_T ?fic_T ?pg_Effect ?hd_Effect ?po_Effect ?sa_Effect ?mkI_Effect ?kc_Effect ?ha_Effect ?hm_Effect ?ic_Effect ?ty_Effect ?n_breaks ?n_tables ?s_NN ?s_SN ?s_SS
    (case a_is_integer => first | k_is | rfl)
    (case a_is_count => first | k_is | rfl)
    (case a_is_rank => first | k_is | rfl)
    (case a_is_number_list => first | k_is | rfl)
    (case a_is_count_list => first | k_is | rfl)
    (case a_is_ascending => first | k_is | rfl)
    (case a_is_rank_list => first | k_is | rfl)
    (case a_how_many_up_to => first | k_is | rfl)
    (case a_mapped => first | k_is | rfl)
    (case a_kept_rank => first | k_is | rfl)
    (case a_below_all => first | k_is | rfl)
    (case a_table_at => first | k_is | rfl)
    (case a_table_of => first | k_is | rfl)
    (case a_is_table_list => first | k_is | rfl)
    (case a_spread => first | k_is | rfl)
    (case a_kept => first | k_is | rfl)
    (case a_kept_numbers => first | k_is | rfl)
    (case a_law_pool => first | k_is | rfl)
    (case a_law_take => first | k_is | rfl)
    (case a_law_steps => first | k_is | rfl)
    (case a_law_made => first | k_is | rfl)
    (case a_law_run => first | k_is | rfl)
    (case a_law_caught => first | k_is | rfl)
    (case a_law_due => first | k_is | rfl)
    (case a_law_map => first | k_is | rfl)
    (case a_law_great_right => first | k_is | rfl)
    (case a_law_wide_right => first | k_is | rfl)
    (case a_law => first | k_is | rfl)
    (case a_RankError => first | k_is | rfl)
    (case a_InvalidNumber => first | k_is | rfl)
    (case a_StepFailed => first | k_is | rfl)
    (case a_Sequence => first | k_is | rfl)
    (case at_Sequence___init__ => first | k_is | rfl)
    (case f_Sequence___init__ => first | k_is | rfl)
    (case at_Sequence___add__ => first | k_is | rfl)
    (case f_Sequence___add__ => first | k_is | rfl)
    (case pat_steps => first | k_is | rfl)
    (case rec_steps => first | k_is | rfl)
    (case get_steps => first | k_is | rfl)
    (case tak_steps => first | k_is | rfl)
    (case at_is_step => first | k_is | rfl)
    (case rec_is_step => first | k_is | rfl)
    (case sty_is_step => first | k_is | rfl)
    (case get_is_step => first | k_is | rfl)
    (case tak_is_step => first | k_is | rfl)
    (case cls_is_step => first | k_is | rfl)
    (case rds_Sequence => first | k_is | rfl)
    (case rga_Sequence => first | k_is | rfl)
    (case a_Table => first | k_is | rfl)
    (case at_Table___init__ => first | k_is | rfl)
    (case f_Table___init__ => first | k_is | rfl)
    (case at_Table___call__ => first | k_is | rfl)
    (case f_Table___call__ => first | k_is | rfl)
    (case at_Table___eq__ => first | k_is | rfl)
    (case f_Table___eq__ => first | k_is | rfl)
    (case pat_start => first | k_is | rfl)
    (case rec_start => first | k_is | rfl)
    (case get_start => first | k_is | rfl)
    (case tak_start => first | k_is | rfl)
    (case pat_lost => first | k_is | rfl)
    (case rec_lost => first | k_is | rfl)
    (case get_lost => first | k_is | rfl)
    (case tak_lost => first | k_is | rfl)
    (case a_Effect => first | k_is | rfl)
    (case at_Effect___init__ => first | k_is | rfl)
    (case f_Effect___init__ => first | k_is | rfl)
    (case at_Effect_table => first | k_is | rfl)
    (case f_Effect_table => first | k_is | rfl)
    (case pat_breaks => first | k_is | rfl)
    (case rec_breaks => first | k_is | rfl)
    (case get_breaks => first | k_is | rfl)
    (case tak_breaks => first | k_is | rfl)
    (case pat_tables => first | k_is | rfl)
    (case rec_tables => first | k_is | rfl)
    (case get_tables => first | k_is | rfl)
    (case tak_tables => first | k_is | rfl)
    (case pat_need => first | k_is | rfl)
    (case rec_need => first | k_is | rfl)
    (case get_need => first | k_is | rfl)
    (case tak_need => first | k_is | rfl)
    (case at_of => first | k_is | rfl)
    (case rec_of => first | k_is | rfl)
    (case sty_of => first | k_is | rfl)
    (case get_of => first | k_is | rfl)
    (case tak_of => first | k_is | rfl)
    (case cls_of => first | k_is | rfl)
    (case fi_of => first | k_is | rfl)
    (case rds_Effect => first | k_is | rfl)
    (case rga_Effect => first | k_is | rfl)
    (case z_type => first | k_is | rfl)
    (case z_int => first | k_is | rfl)
    (case z_list => first | k_is | rfl)
    (case z_tuple => first | k_is | rfl)
    (case z_str => first | k_is | rfl)
    (case z_len => first | k_is | rfl)
    (case z_isinstance => first | k_is | rfl)
    (case z_abs => first | k_is | rfl)
    (case z_max => first | k_is | rfl)
    (case z_min => first | k_is | rfl)
    (case z_range => first | k_is | rfl)
    (case z_repr => first | k_is | rfl)
    (case z_all => first | k_is | rfl)
    (case z_zip => first | k_is | rfl)
    (case z_sorted => first | k_is | rfl)
    (case z_set => first | k_is | rfl)
    (case z_sum => first | k_is | rfl)
    (case z_enumerate => first | k_is | rfl)
    (case xl_InvalidNumber => first | k_is | rfl)
    (case sa_InvalidNumber => first | k_is | rfl)
    (case ex_InvalidNumber => first | k_is | rfl)
    (case ty_InvalidNumber => first | k_is | rfl)
    (case kc_InvalidNumber => first | k_is | rfl)
    (case in_InvalidNumber => first | k_is | rfl)
    (case ti_InvalidNumber => first | k_is | rfl)
    (case no_InvalidNumber => first | k_is | rfl)
    (case ga_InvalidNumber => first | k_is | rfl)
    (case gg_InvalidNumber => first | k_is | rfl)
    (case hd_InvalidNumber => first | k_is | rfl)
    (case ha_InvalidNumber => first | k_is | rfl)
    (case hm_InvalidNumber => first | k_is | rfl)
    (case ic_InvalidNumber => first | k_is | rfl)
    (case xl_StepFailed => first | k_is | rfl)
    (case sa_StepFailed => first | k_is | rfl)
    (case ex_StepFailed => first | k_is | rfl)
    (case ty_StepFailed => first | k_is | rfl)
    (case kc_StepFailed => first | k_is | rfl)
    (case in_StepFailed => first | k_is | rfl)
    (case ti_StepFailed => first | k_is | rfl)
    (case no_StepFailed => first | k_is | rfl)
    (case ga_StepFailed => first | k_is | rfl)
    (case gg_StepFailed => first | k_is | rfl)
    (case hd_StepFailed => first | k_is | rfl)
    (case ha_StepFailed => first | k_is | rfl)
    (case hm_StepFailed => first | k_is | rfl)
    (case ic_StepFailed => first | k_is | rfl)
    (case l_is_integer => first | k_is | rfl)
    (case c_is_integer => first | k_is | rfl)
    (case k_is_integer => first | k_is | rfl)
    (case l_is_count => first | k_is | rfl)
    (case c_is_count => first | k_is | rfl)
    (case k_is_count => first | k_is | rfl)
    (case l_is_rank => first | k_is | rfl)
    (case c_is_rank => first | k_is | rfl)
    (case k_is_rank => first | k_is | rfl)
    (case l_is_number_list => first | k_is | rfl)
    (case c_is_number_list => first | k_is | rfl)
    (case k_is_number_list => first | k_is | rfl)
    (case l_is_count_list => first | k_is | rfl)
    (case c_is_count_list => first | k_is | rfl)
    (case k_is_count_list => first | k_is | rfl)
    (case l_is_ascending => first | k_is | rfl)
    (case c_is_ascending => first | k_is | rfl)
    (case k_is_ascending => first | k_is | rfl)
    (case l_is_rank_list => first | k_is | rfl)
    (case c_is_rank_list => first | k_is | rfl)
    (case k_is_rank_list => first | k_is | rfl)
    (case l_InvalidNumber___init__ => first | k_is | rfl)
    (case c_InvalidNumber___init__ => first | k_is | rfl)
    (case k_InvalidNumber___init__ => first | k_is | rfl)
    (case l_StepFailed___init__ => first | k_is | rfl)
    (case c_StepFailed___init__ => first | k_is | rfl)
    (case k_StepFailed___init__ => first | k_is | rfl)
    (case l_Sequence___init__ => first | k_is | rfl)
    (case c_Sequence___init__ => first | k_is | rfl)
    (case k_Sequence___init__ => first | k_is | rfl)
    (case l_Sequence_is_step => first | k_is | rfl)
    (case c_Sequence_is_step => first | k_is | rfl)
    (case k_Sequence_is_step => first | k_is | rfl)
    (case l_Sequence_steps => first | k_is | rfl)
    (case c_Sequence_steps => first | k_is | rfl)
    (case k_Sequence_steps => first | k_is | rfl)
    (case l_Sequence___add__ => first | k_is | rfl)
    (case c_Sequence___add__ => first | k_is | rfl)
    (case k_Sequence___add__ => first | k_is | rfl)
    (case l_how_many_up_to => first | k_is | rfl)
    (case c_how_many_up_to => first | k_is | rfl)
    (case k_how_many_up_to => first | k_is | rfl)
    (case l_mapped => first | k_is | rfl)
    (case c_mapped => first | k_is | rfl)
    (case k_mapped => first | k_is | rfl)
    (case l_kept_rank => first | k_is | rfl)
    (case c_kept_rank => first | k_is | rfl)
    (case k_kept_rank => first | k_is | rfl)
    (case l_Table___init__ => first | k_is | rfl)
    (case c_Table___init__ => first | k_is | rfl)
    (case k_Table___init__ => first | k_is | rfl)
    (case l_Table_start => first | k_is | rfl)
    (case c_Table_start => first | k_is | rfl)
    (case k_Table_start => first | k_is | rfl)
    (case l_Table_lost => first | k_is | rfl)
    (case c_Table_lost => first | k_is | rfl)
    (case k_Table_lost => first | k_is | rfl)
    (case l_Table___call__ => first | k_is | rfl)
    (case c_Table___call__ => first | k_is | rfl)
    (case k_Table___call__ => first | k_is | rfl)
    (case l_Table___eq__ => first | k_is | rfl)
    (case c_Table___eq__ => first | k_is | rfl)
    (case k_Table___eq__ => first | k_is | rfl)
    (case l_below_all => first | k_is | rfl)
    (case c_below_all => first | k_is | rfl)
    (case k_below_all => first | k_is | rfl)
    (case l_table_at => first | k_is | rfl)
    (case c_table_at => first | k_is | rfl)
    (case k_table_at => first | k_is | rfl)
    (case l_table_of => first | k_is | rfl)
    (case c_table_of => first | k_is | rfl)
    (case k_table_of => first | k_is | rfl)
    (case l_is_table_list => first | k_is | rfl)
    (case c_is_table_list => first | k_is | rfl)
    (case k_is_table_list => first | k_is | rfl)
    (case l_spread => first | k_is | rfl)
    (case c_spread => first | k_is | rfl)
    (case k_spread => first | k_is | rfl)
    (case l_Effect___init__ => first | k_is | rfl)
    (case c_Effect___init__ => first | k_is | rfl)
    (case k_Effect___init__ => first | k_is | rfl)
    (case l_Effect_of => first | k_is | rfl)
    (case c_Effect_of => first | k_is | rfl)
    (case k_Effect_of => first | k_is | rfl)
    (case l_Effect_breaks => first | k_is | rfl)
    (case c_Effect_breaks => first | k_is | rfl)
    (case k_Effect_breaks => first | k_is | rfl)
    (case l_Effect_tables => first | k_is | rfl)
    (case c_Effect_tables => first | k_is | rfl)
    (case k_Effect_tables => first | k_is | rfl)
    (case l_Effect_need => first | k_is | rfl)
    (case c_Effect_need => first | k_is | rfl)
    (case k_Effect_need => first | k_is | rfl)
    (case l_Effect_table => first | k_is | rfl)
    (case c_Effect_table => first | k_is | rfl)
    (case k_Effect_table => first | k_is | rfl)
    (case l_kept => first | k_is | rfl)
    (case c_kept => first | k_is | rfl)
    (case k_kept => first | k_is | rfl)
    (case l_kept_numbers => first | k_is | rfl)
    (case c_kept_numbers => first | k_is | rfl)
    (case k_kept_numbers => first | k_is | rfl)
    (case l_law_pool => first | k_is | rfl)
    (case c_law_pool => first | k_is | rfl)
    (case k_law_pool => first | k_is | rfl)
    (case l_law_take => first | k_is | rfl)
    (case c_law_take => first | k_is | rfl)
    (case k_law_take => first | k_is | rfl)
    (case l_law_steps => first | k_is | rfl)
    (case c_law_steps => first | k_is | rfl)
    (case k_law_steps => first | k_is | rfl)
    (case l_law_made => first | k_is | rfl)
    (case c_law_made => first | k_is | rfl)
    (case k_law_made => first | k_is | rfl)
    (case l_law_run => first | k_is | rfl)
    (case c_law_run => first | k_is | rfl)
    (case k_law_run => first | k_is | rfl)
    (case l_law_caught => first | k_is | rfl)
    (case c_law_caught => first | k_is | rfl)
    (case k_law_caught => first | k_is | rfl)
    (case l_law_due => first | k_is | rfl)
    (case c_law_due => first | k_is | rfl)
    (case k_law_due => first | k_is | rfl)
    (case l_law_map => first | k_is | rfl)
    (case c_law_map => first | k_is | rfl)
    (case k_law_map => first | k_is | rfl)
    (case l_law_great_right => first | k_is | rfl)
    (case c_law_great_right => first | k_is | rfl)
    (case k_law_great_right => first | k_is | rfl)
    (case l_law_wide_right => first | k_is | rfl)
    (case c_law_wide_right => first | k_is | rfl)
    (case k_law_wide_right => first | k_is | rfl)
    (case l_law => first | k_is | rfl)
    (case c_law => first | k_is | rfl)
    (case k_law => first | k_is | rfl)
    (case hn => first | k_is | rfl)
    (case htk => first | k_is | rfl)
    (case pg_Sequence => first | k_is | rfl)
    (case hd_Sequence => first | k_is | rfl)
    (case po_Sequence => first | k_is | rfl)
    (case sa_Sequence => first | k_is | rfl)
    (case mkI_Sequence => first | k_is | rfl)
    (case kc_Sequence => first | k_is | rfl)
    (case ha_Sequence => first | k_is | rfl)
    (case hm_Sequence => first | k_is | rfl)
    (case ic_Sequence => first | k_is | rfl)
    (case ty_Sequence => first | k_is | rfl)
    (case n_steps => first | k_is | rfl)
    (case sf_S => first | k_is | rfl)
    (case pg_Table => first | k_is | rfl)
    (case hd_Table => first | k_is | rfl)
    (case po_Table => first | k_is | rfl)
    (case sa_Table => first | k_is | rfl)
    (case mkI_Table => first | k_is | rfl)
    (case kc_Table => first | k_is | rfl)
    (case ha_Table => first | k_is | rfl)
    (case hm_Table => first | k_is | rfl)
    (case ic_Table => first | k_is | rfl)
    (case ty_Table => first | k_is | rfl)
    (case n_start => first | k_is | rfl)
    (case n_lost => first | k_is | rfl)
    (case neA_T => first | k_is | rfl)
    (case sub_T => first | k_is | rfl)
    (case fic_T => first | k_is | rfl)
    (case pg_Effect => first | k_is | rfl)
    (case hd_Effect => first | k_is | rfl)
    (case po_Effect => first | k_is | rfl)
    (case sa_Effect => first | k_is | rfl)
    (case mkI_Effect => first | k_is | rfl)
    (case kc_Effect => first | k_is | rfl)
    (case ha_Effect => first | k_is | rfl)
    (case hm_Effect => first | k_is | rfl)
    (case ic_Effect => first | k_is | rfl)
    (case ty_Effect => first | k_is | rfl)
    (case n_breaks => first | k_is | rfl)
    (case n_tables => first | k_is | rfl)
    (case s_NN => first | k_is | rfl)
    (case s_SN => first | k_is | rfl)
    (case s_SS => first | k_is | rfl)
