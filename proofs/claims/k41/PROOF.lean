import PyProof.Rows.All
import Wide.All
import OpenK.AllK
import Wide.FinOn
import HandS.ForMost
import HandS.ForExc
import HandS.Star
import HandS.SlotsOwn
import HandS.Zip
import HandS.SortInts
import HandS.Property
import HandS.TupAny
import HandS.IsInst
import PyProof.LongRange
import PyProof.FactsAll.object_2
import KE.GoesMore
import KE.GoesEnum
import HandS.Iter
import PyProof.TypeEq
import HandS.Codes
import HandS.NoneIn
import KE.KEqSeq
import HandS.ExcInit
import HandS.ExcField
import HandS.ExcIs
import HandS.WordsExc
import HandS.TryMany
import PyProof.ReprRoads
import HandS.Ends
import KE.KExcIs
import HandS.Style
import HandS.Dict
import PyProof.P3Eq
import HandS.ClsMeth
import PyProof.FString
import HandS.TupMul
import HandS.NamedTupGet
import HandS.Wide
import KE.KExcInit
import PyProof.TupleOfSeq
import HandS.SetFor
import HandS.MakeKwOnly
import HandS.Strs
import HandS.CallLocal
import HandS.OwnEq
import HandS.ExcOwn
import KE.KUnpackStar
import HandS.Conv
import HandS.Flow
import PySem.Challenge.RW_rankeffect_k41_steps_from_the_top
set_option Elab.async false
set_option linter.all false
set_option maxRecDepth 100000
set_option maxHeartbeats 4000000
namespace XT
open PySem PySem.Spec PyProof.Rows L2

section
variable {prog : Program} {w : World} {A : Around} {E : Value → Shared → Prop} {s : Shared} {K : PySem.W.Frag} {x C f : Addr} {ox : Obj} {od : Option Obj}
/-- the answer of an own __ne__ that is the object's: an own __eq__ is asked -/
theorem ne_body {y : Value} {R : Fin → Shared → Prop} (hu : A.units < cLine) (X : K.In s.heap) (I : PySem.W.InstAt s.heap x ox C od)
    (hs : PySem.W.findIn K (.ref C) "__eq__" = some (some (.ref f))) (hf : PySem.W.isFn K (.ref f) = true)
    (h : wpAny (model prog w) A (call (.ref f) [.ref x, y]) (fun r s1 => ∃ b, r = Value.bool b ∧ R (.done (.ret (.bool (!b)))) s1) E s) :
    wpAny (model prog w) A (Builtin.«object.__ne__» ⟨[.ref x, y], []⟩) R E s := by
  unfold Builtin.«object.__ne__»
  refine wpAny_bind (m := slotArgs "__ne__" 1 ⟨[.ref x, y], []⟩) (wpAny_pure ?_)
  dsimp only
  refine wpAny_bind (wpAny_cRoomFor hu ?_)
  refine wpAny_bind (m := callSpecialIfBound? (.ref x) (Str.ofString "__eq__") [y]) (PySem.W.ifBound_K X I hs hf (wpAny_mono h (fun r s' hr => ?_) fun _ _ e => e))
  obtain ⟨b, rfl, q⟩ := hr
  dsimp only
  refine wpAny_bind (m := truthy (.bool b)) (wpAny_pure ?_)
  exact wpAny_pure q
theorem ne_check {y : Value} {Q : Unit → Shared → Prop} (X : K.In s.heap) (I : PySem.W.InstAt s.heap x ox C od) (hs : PySem.W.subIn K (.ref C) (.type "object") = some true) (h : Q () s) :
    wpAny (model prog w) A (checkBuiltinCall "object.__ne__" ⟨[.ref x, y], []⟩) Q E s := by
  have hk : builtinKind "object.__ne__" = some .slot := by decide +kernel
  have hsp : splitId "object.__ne__" = some ("object", "__ne__") := by decide +kernel
  unfold checkBuiltinCall
  simp only [hk, hsp]
  refine wpAny_bind ?_
  unfold isInstance
  refine wpAny_bind (I.type.here ((PySem.W.looks_subIn X hs).here ?_))
  simp only [Bool.not_true, Bool.false_eq_true, if_false]
  have ha := PySem.F.args_object_ne_2 (.ref x) y
  cases hsig : Manifest.signature? "object.__ne__" with
  | none => exact wpAny_pure h
  | some sig =>
    simp only [argsOk, hsig] at ha
    have h2 : Bind.checkArgs "object.__ne__" sig ⟨[.ref x, y], []⟩ = pure () := ha
    show wpAny _ A (Bind.checkArgs "object.__ne__" sig ⟨[.ref x, y], []⟩) Q E s
    rw [h2]
    exact wpAny_pure h
/-- x != y, the class with an own __eq__ and no own __ne__ -/
theorem ne_own {y tb : Value} {Q : Value → Shared → Prop} (hu : A.units + 1 < cLine) (X : K.In s.heap) (I : PySem.W.InstAt s.heap x ox C od) (hb : PySem.W.Looks (model prog w) s.heap (typeOf y) tb) (hn : PySem.W.notFirst K C tb = true)
    (hne : PySem.W.findIn K (.ref C) "__ne__" = some (some (.builtin "object.__ne__"))) (ho : PySem.W.subIn K (.ref C) (.type "object") = some true)
    (hs : PySem.W.findIn K (.ref C) "__eq__" = some (some (.ref f))) (hf : PySem.W.isFn K (.ref f) = true)
    (h : wpAny (model prog w) A.in1 (call (.ref f) [.ref x, y]) (fun r s1 => ∃ b, r = Value.bool b ∧ Q (.bool (!b)) s1) E s) :
    wpAny (model prog w) A (richCompare .NotEq (.ref x) y) Q E s := by
  have hu0 : A.units < cLine := Nat.lt_of_le_of_lt (Nat.le_succ _) hu
  have run : wpAny (model prog w) A (call (.builtin "object.__ne__") [.ref x, y]) (fun r s1 => ∃ b, r = Value.bool b ∧ Q r s1) E s := by
    refine wpAny_call (codeAny_call_builtin PySem.F.slot_object_ne.plain PySem.F.entry_object_ne (ne_check X I ho ?_))
    refine ne_body (by simpa using hu) X I hs hf (wpAny_mono h (fun r s1 z => ?_) fun _ _ e => e)
    obtain ⟨b, rfl, q⟩ := z
    exact ⟨b, rfl, ⟨_, rfl, q⟩⟩
  have one : wpAny (model prog w) A (tryCompare (.ref x) "__ne__" y) (fun r s' => ∃ v, r = some v ∧ Q v s') E s := by
    unfold tryCompare
    refine wpAny_bind ?_
    simp only [callSpecialIfBound?, bindSpecialIfBound?]
    refine wpAny_holding (wpAny_bind (wpAny_bind (wpAny_bind (I.type.here ((PySem.W.looks_findIn X hne).here ?_)))))
    have fin : wpAny (model prog w) A (call (.builtin "object.__ne__") ([.ref x] ++ [y]) >>= fun v => pure (some v)) (fun r s' => wpAny (model prog w) A (match r with | some .notImplemented | none => pure none | some v => pure (some v)) (fun r s' => ∃ v, r = some v ∧ Q v s') E s') E s := by
      refine wpAny_bind (wpAny_mono run (fun v s' z => ?_) fun _ _ e => e)
      obtain ⟨b, rfl, q⟩ := z
      exact wpAny_pure (wpAny_pure ⟨_, rfl, q⟩)
    refine wpAny_bind (wpAny_askSetting (wpAny_ite ?_))
    split
    · exact wpAny_bind (wpAny_of_eq (PySem.F.slot_object_ne.bind (.ref x)) (wpAny_pure (by exact fin)))
    · exact wpAny_tryCatch (wpAny_bind (wpAny_of_eq (PySem.F.slot_object_ne.bind (.ref x)) (wpAny_pure (by exact fin))))
  unfold richCompare
  simp only [oneThing_ref]
  refine wpAny_holding (wpAny_bind (wpAny_cRoomFor hu0 ?_))
  refine wpAny_bind (I.type.here (wpAny_bind (hb.here ?_)))
  split
  · rename_i q
    have e : PySem.W.subIn K tb (.ref C) = some false := by
      rcases Bool.or_eq_true_iff.mp hn with e | e
      · rw [beq_iff_eq.mp e] at q; simp at q
      · exact beq_iff_eq.mp e
    refine wpAny_bind ((PySem.W.looks_subIn X e).here ?_)
    simp only [Bool.false_eq_true, if_false]
    refine wpAny_bind (wpAny_mono one (fun r s' z => ?_) fun _ _ e => e)
    obtain ⟨v, rfl, hq⟩ := z
    exact wpAny_pure hq
  · refine wpAny_bind (wpAny_pure ?_)
    simp only [Bool.false_eq_true, if_false]
    refine wpAny_bind (wpAny_mono one (fun r s' z => ?_) fun _ _ e => e)
    obtain ⟨v, rfl, hq⟩ := z
    exact wpAny_pure hq
theorem type_bool : isType (.type "bool") = pure true := by first | rfl | kernel_rfl | (unfold isType; rw [isSubtype_type]; kernel_rfl)
/-- bool(x) by an own __bool__ -/
theorem bool_own {Q : Value → Shared → Prop} (X : K.In s.heap) (I : PySem.W.InstAt s.heap x ox C od) (hs : PySem.W.findIn K (.ref C) "__bool__" = some (some (.ref f))) (hf : PySem.W.isFn K (.ref f) = true)
    (h : wpAny (model prog w) A.in1.in1 (call (.ref f) [.ref x]) (fun r s1 => ∃ b, r = Value.bool b ∧ Q r s1) E s) : wpAny (model prog w) A (call (.type "bool") [.ref x]) Q E s := by
  refine callType_codes (T := "bool") (Bi := Builtin.«object.__init__») (Q₁ := fun r s1 => ∃ b, r = Value.bool b ∧ Q r s1) PySem.F.called_bool (PySem.F.typeCall_bool_1 _) PySem.F.entry_object_init ?_ ?_
  · refine codeAny_of_tree ?_
    show wpAny _ A.in1.in1 (do checkBuiltinCall "bool.__new__" ⟨[.type "bool", .ref x], []⟩; again (.builtin "bool.__new__" ⟨[.type "bool", .ref x], []⟩)) _ _ s
    refine wpAny_bind (wpAny_of_eq (PySem.F.newCall_bool_1 _) (wpAny_pure ⟨plainId_quiet (by decide +kernel) _, codeAny_builtin PySem.F.entry_bool_new ?_⟩))
    rw [Around.under_plainId (by decide +kernel) _]
    unfold Builtin.«bool.__new__»
    refine wpAny_bind (wpAny_of_eq (a := true) type_bool ?_)
    refine PySem.W.KFB.if_not rfl ?_
    refine wpAny_bind (wpAny_of_eq (a := true) PySem.F.conv_sub_bool ?_)
    refine PySem.W.KFB.if_not rfl ?_
    refine wpAny_bind (m := someArgs "bool" 0 1 _) (wpAny_of_eq (a := [Value.ref x]) (by first | rfl | kernel_rfl | simp [someArgs]) ?_)
    dsimp only
    refine wpAny_bind (m := truthy (.ref x)) ?_
    unfold truthy
    refine wpAny_bind (m := callSpecial? (.ref x) (Str.ofString "__bool__")) (PySem.W.special_fn X I hs (beq_iff_eq.mp hf) (wpAny_mono h (fun r s' hr => ?_) fun _ _ y => y))
    obtain ⟨b, rfl, hq⟩ := hr
    exact wpAny_pure (wpAny_pure ⟨b, rfl, hq⟩)
  · rintro obj s₁ ⟨b, rfl, hq⟩
    exact ⟨PySem.typeIs_bool _ _, PySem.F.args_object_init_2 _ _, object_init_meets PySem.F.called_bool.init.lookup PySem.F.called_bool.made (by decide) prog w A.in1 _ s₁ ⟨PySem.typeIs_bool _ _, rfl, hq⟩⟩
end
/-! ### operators of instances of own classes -/
/-- an instance of the class at C -/
def InsA (H : Hp) (a C : Addr) : Prop := ∃ dx fs, H a = some (.ins C dx fs)
section
variable {X : Cx} {CX : CXT} {n : Nat} {C g : Addr} {sp : Sp} {E : XK}
theorem insA_at {pins : List (Addr × Obj)} {σ : L2.St} {H : Hp} {s : Shared} {a : Addr} (I : Inv X pins σ H s) (h : InsA H a C) : ∃ ox od, PySem.W.InstAt s.heap a ox C od := by
  obtain ⟨dx, fs, h⟩ := h
  obtain ⟨mA, O, _⟩ := ins_get I.hok h
  obtain ⟨od, J, _⟩ := O.look
  exact ⟨_, _, J⟩
/-- x op y, both instances of the class at C, which has a def for it at g -/
def rOwnB (C : Addr) (sp : Sp) (E : XK) : R2 := fun x y H Q => ∃ a b, x = .ref a ∧ y = .ref b ∧ InsA H a C ∧ InsA H b C ∧ sp [x, y] H Q E
theorem op_ownB {op : Operator} (hc : PySem.W.selfFirst X.K C = true) (hs : PySem.W.findIn X.K (.ref C) (PySem.dunder op.info.2) = some (some (.ref g))) (hf : PySem.W.isFn X.K (.ref g) = true) (F : FnR X.prog X.w X.K X.mg X.base CX n g sp)
    (hr : Room n X.A) (hx : Passes CX X E) : OpR X (binaryOp op) (rOwnB C sp E) := by
  intro pins s σ H x y v u Q I rx ry h
  obtain ⟨a, b, rfl, rfl, ha, hb, q⟩ := h
  cases (show v = Value.ref a from rx)
  cases (show u = Value.ref b from ry)
  obtain ⟨ox, od, J⟩ := insA_at I ha
  obtain ⟨oy, oe, J'⟩ := insA_at I hb
  obtain ⟨m, hF⟩ := I.fr
  refine PySem.W.binop_K (op := op) hF I.ok.mod.kin J J'.type hc hs hf ?_
  refine wpAny_mono (wpAny_call (run_fnR (us := [.ref a, .ref b]) (vs := [.ref a, .ref b]) F hr hx I (.cons rfl (.cons rfl .nil)) q)) (fun w s' z => ?_) fun _ _ x => x
  obtain ⟨z', H', I', rz, qz⟩ := z
  exact SlX.cmpback rz ⟨z', H', I', rz, qz⟩
/-- x == y -/
theorem op_ownE (hs : PySem.W.findIn X.K (.ref C) "__eq__" = some (some (.ref g))) (hf : PySem.W.isFn X.K (.ref g) = true) (F : FnR X.prog X.w X.K X.mg X.base CX n g sp)
    (hr : Room n X.A) (hx : Passes CX X E) : OpR X (compareOp .Eq) (rOwnB C sp E) := by
  intro pins s σ H x y v u Q I rx ry h
  obtain ⟨a, b, rfl, rfl, ha, hb, q⟩ := h
  cases (show v = Value.ref a from rx)
  cases (show u = Value.ref b from ry)
  obtain ⟨ox, od, J⟩ := insA_at I ha
  obtain ⟨oy, oe, J'⟩ := insA_at I hb
  obtain ⟨m, hF⟩ := I.fr
  show wpAny _ _ (richCompare .Eq _ _) _ _ _
  refine PySem.W.cmp_K (op := .Eq) (tb := .ref C) hr.units0 hF I.ok.mod.kin J J'.type (by unfold PySem.W.notFirst; simp) hs hf ?_
  refine wpAny_mono (wpAny_call (run_fnR (us := [.ref a, .ref b]) (vs := [.ref a, .ref b]) F hr hx I (.cons rfl (.cons rfl .nil)) q)) (fun w s' z => ?_) fun _ _ x => x
  obtain ⟨z', H', I', rz, qz⟩ := z
  exact SlX.cmpback rz ⟨z', H', I', rz, qz⟩
/-- x != y, by == -/
def rOwnN (C : Addr) (sp : Sp) (E : XK) : R2 := fun x y H Q => ∃ a b, x = .ref a ∧ y = .ref b ∧ InsA H a C ∧ InsA H b C ∧ sp [x, y] H (fun z H' => ∃ k, z = .bl k ∧ Q (.bl (!k)) H') E
theorem op_ownN (hne : PySem.W.findIn X.K (.ref C) "__ne__" = some (some (.builtin "object.__ne__"))) (ho : PySem.W.subIn X.K (.ref C) (.type "object") = some true)
    (hs : PySem.W.findIn X.K (.ref C) "__eq__" = some (some (.ref g))) (hf : PySem.W.isFn X.K (.ref g) = true) (F : FnR X.prog X.w X.K X.mg X.base CX n g sp)
    (hr : Room (n + 1) X.A) (hx : Passes CX X E) : OpR X (compareOp .NotEq) (rOwnN C sp E) := by
  intro pins s σ H x y v u Q I rx ry h
  obtain ⟨a, b, rfl, rfl, ha, hb, q⟩ := h
  cases (show v = Value.ref a from rx)
  cases (show u = Value.ref b from ry)
  obtain ⟨ox, od, J⟩ := insA_at I ha
  obtain ⟨oy, oe, J'⟩ := insA_at I hb
  show wpAny _ _ (richCompare .NotEq _ _) _ _ _
  refine ne_own (tb := .ref C) (by have := hr.units; omega) I.kIn J J'.type (by unfold PySem.W.notFirst; simp) hne ho hs hf ?_
  refine wpAny_mono (wpAny_call (SlX.run_at (us := [.ref a, .ref b]) (ws := [.ref a, .ref b]) F hr.in1 I.env0.in1 hx I (.cons rfl (.cons rfl .nil)) q)) (fun w s' z => ?_) fun _ _ x => x
  obtain ⟨z', H', I', rz, k, rfl, qz⟩ := z
  cases (show w = Value.bool k from rz)
  exact ⟨k, rfl, .bl (!k), H', I', rfl, qz⟩
/-- bool(x) -/
def rBoolO (C : Addr) (sp : Sp) (E : XK) : List V → Hp → VK → Prop := fun xs H Q => ∃ a, xs = [V.ref a] ∧ InsA H a C ∧ sp xs H (fun z H' => ∃ k, z = .bl k ∧ Q z H') E
theorem call_boolO (hs : PySem.W.findIn X.K (.ref C) "__bool__" = some (some (.ref g))) (hf : PySem.W.isFn X.K (.ref g) = true) (F : FnR X.prog X.w X.K X.mg X.base CX n g sp) (hr : Room (n + 2) X.A) (hx : Passes CX X E) : CallR X (.type "bool") (rBoolO C sp E) := by
  intro pins s σ H xs us Q I r h
  obtain ⟨a, rfl, ha, q⟩ := h
  obtain ⟨u, rfl, ru⟩ := r.one
  cases (show u = Value.ref a from ru)
  obtain ⟨ox, od, J⟩ := insA_at I ha
  have hr2 : Room n X.A.in1.in1 := (show Room (n + 1) X.A.in1 from Room.in1 hr).in1
  refine bool_own I.kIn J hs hf (wpAny_mono (wpAny_call (SlX.run_at (us := [.ref a]) (ws := [.ref a]) F hr2 I.env0.in1.in1 hx I (.cons rfl .nil) q)) (fun w s' z => ?_) fun _ _ x => x)
  obtain ⟨z', H', I', rz, k, rfl, qz⟩ := z
  cases (show w = Value.bool k from rz)
  exact ⟨k, rfl, .bl k, H', I', rfl, qz⟩
end
end XT

namespace XT
open PySem PySem.Spec PyProof.Rows L2
/-! ### range(a, b) of ints of any size -/
theorem turn_lrange {P : Program} {w : World} {K : PySem.W.Frag} {tg : Expr} (it : Addr) (lo : Int) (n : Nat) : Turn P w K tg (Itr lo n) [it] it (fun i h => IsLongIter h it (lo + (i : Nat) * 1) ((n : Int) - (i : Nat)) 1) where
  mem := by simp
  obj := fun i h st b hb => by
    have e : b = it := by simpa using hb
    subst e
    exact ⟨_, st, fun v z => by
      have z' : Data.fields _ = Data.cell v := z
      cases z'⟩
  keep := fun i h h' st k => k it (by simp) _ st
  item := by
    intro X hP hw hK hc i pins s σ H E I hf st hg
    subst hP hw hK
    obtain ⟨f0, f1, f2, f3, f4, f5⟩ := hf it (by simp)
    have W := Walks.longrange (prog := X.prog) (w := X.w) (I.ok.hd hc) it lo 1 n
    refine W.item i s _ _ hg st fun v h' tk hv st' kk => ?_
    obtain ⟨t, rfl⟩ := hv
    have I1 : Inv X pins σ H { s with heap := h', toks := tk } := I.turned (fun b o hb e => kk b o (by simpa using hb) e) f0 f1 f3 f4 f5
    refine ⟨_, rfl, go_of (s := { s with heap := h', toks := tk }) (n := "longrange_iterator") st' rfl rfl (by decide) ⟨.int (lo + i), H, I1, ⟨t, ?_⟩, ⟨rfl, rfl⟩, st', fun b hb => (hf b hb).1⟩⟩
    rw [Int.mul_one]
  done := by
    intro X hP hw hK hc i pins s σ H E I hf st hg
    subst hP hw hK
    obtain ⟨f0, f1, f2, f3, f4, f5⟩ := hf it (by simp)
    exact wpAny_pyNext_long_end (I.ok.hd hc) st (by have : n ≤ i := hg; omega) fun h' eb => ⟨rfl, I.turned (t' := s.toks) (fun b o hb e => eb b o hb e) f0 f1 f3 f4 f5⟩
  self := fun _ _ _ _ _ st h => wpAny_pyIter_longiter st h
section
variable {X : Cx} {tg : Expr}
theorem lrange_it {pins : List (Addr × Obj)} {σ : L2.St} {H : Hp} {s : Shared} {R : It → Hp → Prop} {E : Value → Shared → Prop} {lo hi : Int} {t u v : Tok} {tk : Nat} (I : Inv X pins σ H s)
    (q : R (Itr lo (hi - lo).toNat) H) : wpAny (model X.prog X.w) X.A (pyIter (.ref s.heap.objs.size)) (PIE X pins σ tg R) E { s with heap := s.heap.push { cls := .type "range", data := .fields #[.int lo t, .int hi u, .int 1 v] }, toks := tk } := by
  have I1 : Inv X pins σ H { s with heap := s.heap.push { cls := .type "range", data := .fields #[.int lo t, .int hi u, .int 1 v] }, toks := tk } := I.kept fun b o e => Heap.get?_push_of_some _ e
  have e1 : lo + ((0 : Nat) : Int) * 1 = lo := by simp
  have e2 : (((hi - lo).toNat : Nat) : Int) - ((0 : Nat) : Int) = Builtin.Range.rangeSize lo hi 1 := by rw [rangeSize_one]; split <;> omega
  have fp : ∀ b ∈ [(s.heap.push { cls := .type "range", data := .fields #[.int lo t, .int hi u, .int 1 v] }).objs.size], FpOk X pins H b := fun b hb => by
    have e : b = (s.heap.push { cls := .type "range", data := .fields #[.int lo t, .int hi u, .int 1 v] }).objs.size := by simpa using hb
    subst e
    exact I1.fpOk (Nat.le_refl _) (I1.hok.fresh (Nat.le_refl _))
  cases hsm : Builtin.Range.small lo hi 1 with
  | true =>
    refine wpAny_pyIter_range (IsRange.new ..) hsm ?_
    refine ⟨(s.heap.push { cls := .type "range", data := .fields #[.int lo t, .int hi u, .int 1 v] }).objs.size, [(s.heap.push { cls := .type "range", data := .fields #[.int lo t, .int hi u, .int 1 v] }).objs.size], _, _, H, rfl,
      I1.kept (t' := tk) fun b o e => Heap.get?_push_of_some _ e, turn_range _ lo (hi - lo).toNat, ?_, fp, q⟩
    show IsRangeIter _ _ (lo + ((0 : Nat) : Int) * 1) ((((hi - lo).toNat : Nat) : Int) - ((0 : Nat) : Int)) 1
    rw [e1, e2]
    exact Heap.get?_push_size _ rfl
  | false =>
    refine wpAny_pyIter_longrange (IsRange.new ..) hsm ?_
    refine ⟨(s.heap.push { cls := .type "range", data := .fields #[.int lo t, .int hi u, .int 1 v] }).objs.size, [(s.heap.push { cls := .type "range", data := .fields #[.int lo t, .int hi u, .int 1 v] }).objs.size], _, _, H, rfl,
      I1.kept (t' := tk) fun b o e => Heap.get?_push_of_some _ e, turn_lrange _ lo (hi - lo).toNat, ?_, fp, q⟩
    show IsLongIter _ _ (lo + ((0 : Nat) : Int) * 1) ((((hi - lo).toNat : Nat) : Int) - ((0 : Nat) : Int)) 1
    rw [e1, e2]
    exact Heap.get?_push_size _ rfl
def iRngW1 (ta : TA) : TI := fun σ H R => ta σ H fun vs H1 => ∃ j : Int, vs = [.int j] ∧ R (Itr 0 j.toNat) H1
def iRngW2 (ta : TA) : TI := fun σ H R => ta σ H fun vs H1 => ∃ i j : Int, vs = [.int i, .int j] ∧ R (Itr i (j - i).toNat) H1
theorem pi_rng1 {a : Expr} {ta : TA} {p pos : Pos} (hg : Gl X "range") (hm : X.mg "range" = none) (ha : PA X [a] ta) (hs : starEach [a] X.env = [(false, eval a X.env)] := by rfl) : PI X tg (.Call (.Name "range" p) [a] [] pos) (iRngW1 ta) := by
  refine ⟨fun pins s σ H R I h => ?_⟩
  refine Call_ (ld_blt I hg hm boot_range (PyProof.Rows.callWith_type1 (thn (ha.run pos pins s σ H _ I h) fun us s1 ⟨vs, H1, I1, r1, q1⟩ => ?_) hs rfl))
  obtain ⟨j, e, q⟩ := q1
  subst e
  cases r1 with
  | cons r rr =>
    cases rr
    obtain ⟨t, rfl⟩ := r
    exact call_range_1 (lrange_it I1 (by simpa using q))
theorem pi_rng2 {a b : Expr} {ta : TA} {p pos : Pos} (hg : Gl X "range") (hm : X.mg "range" = none) (ha : PA X [a, b] ta) (hs : starEach [a, b] X.env = [(false, eval a X.env), (false, eval b X.env)] := by rfl) (hs2 : starEach [b] X.env = [(false, eval b X.env)] := by rfl) :
    PI X tg (.Call (.Name "range" p) [a, b] [] pos) (iRngW2 ta) := by
  refine ⟨fun pins s σ H R I h => ?_⟩
  refine Call_ (ld_blt I hg hm boot_range (PyProof.Rows.callWith_type1 (thn (ha.run pos pins s σ H _ I h) fun us s1 ⟨vs, H1, I1, r1, q1⟩ => ?_) (by rw [hs, hs2]) (by rw [hs2]; rfl)))
  obtain ⟨i, j, e, q⟩ := q1
  subst e
  cases r1 with
  | cons r rr =>
    cases rr with
    | cons r' rr =>
      cases rr
      obtain ⟨t, rfl⟩ := r
      obtain ⟨t', rfl⟩ := r'
      exact call_range_2 (lrange_it I1 q)
end
/-! ### enumerate(tuple) -/
theorem meets_enumerate_newT (l : Addr) (items : Array Value) (n : Nat) (dct : Option Addr) (sl : Array (Option Value)) :
    Meets (Builtin.«enumerate.__new__» ⟨[.type "enumerate", .ref l], []⟩) (fun _ R s => s.heap.get? l = some { cls := .type "tuple", dict := dct, data := .seq items n, slots := sl } ∧
      R (.ok (.ret (.ref (s.heap.push { cls := .type "tuple_iterator", data := .fields #[.ref l, .int 0 0] }).objs.size)))
        { s with heap := (s.heap.push { cls := .type "tuple_iterator", data := .fields #[.ref l, .int 0 0] }).push { cls := .type "enumerate", data := .fields #[.none, .bool false, .ref s.heap.objs.size, rawInt 0, .none, .none] } }) :=
  .of_wp fun prog w A R s h => by
    obtain ⟨hp, g, d, tk, os⟩ := s; obtain ⟨hl, h⟩ := h
    have hsub := sub_enumerate
    have hL : Heap.IsTuple (Shared.heap ⟨hp, g, d, tk, os⟩) l items := ⟨_, hl, rfl, n, rfl⟩
    wp_walk using AutoSeq1.wpAny_loadPart' hl
    refine wpAny_stack_any fun st => wpAny_pure ?_
    split
    · rename_i c _ _ _ _ _
      cases (c == Value.type "enumerate")
      · wp_walk using AutoSeq1.wpAny_loadPart' hl, wpAny_pyIter_tuple hL
        exact ⟨_, rfl, h⟩
      · wp_walk using AutoSeq1.wpAny_loadPart' hl, wpAny_pyIter_tuple hL
        exact ⟨_, rfl, h⟩
    · wp_walk using AutoSeq1.wpAny_loadPart' hl, wpAny_pyIter_tuple hL
      exact ⟨_, rfl, h⟩
theorem call_enumerate_tuple {prog : Program} {w : World} {A : Around} {E : Value → Shared → Prop} {s : Shared} {l : Addr} {items : Array Value} {Q : Value → Shared → Prop} (hL : s.heap.IsTuple l items)
    (h : ∀ h', IsEnum h' (s.heap.objs.size + 1) s.heap.objs.size 0 .none → h'.IsTupleIter s.heap.objs.size l 0 → h'.objs.size = s.heap.objs.size + 2 →
      (∀ b o, s.heap.get? b = some o → h'.get? b = some o) → Q (.ref (s.heap.objs.size + 1)) { s with heap := h' }) :
    wpAny (model prog w) A (call (.type "enumerate") [.ref l]) Q E s := by
  obtain ⟨⟨c, dct, dt, sl⟩, hl, hc, n, hd⟩ := hL
  replace hc : c = .type "tuple" := hc
  replace hd : dt = .seq items n := hd
  subst hc hd
  refine callType_new PySem.F.called_enumerate (by decide) (PySem.F.typeCall_enumerate_1 _) (PySem.F.newCall_enumerate_1 _) (fun obj => PySem.F.args_object_init_2 obj _) PySem.F.entry_enumerate_new
    (meets_enumerate_newT l items n dct sl) ⟨hl, ?_⟩
  have hz : (s.heap.push { cls := .type "tuple_iterator", data := .fields #[.ref l, .int 0 0] }).objs.size = s.heap.objs.size + 1 := Heap.size_push ..
  show _ ∧ _
  rw [hz]
  have he : IsEnum ((s.heap.push { cls := .type "tuple_iterator", data := .fields #[.ref l, .int 0 0] }).push
      { cls := .type "enumerate", data := .fields #[.none, .bool false, .ref s.heap.objs.size, rawInt 0, .none, .none] }) (s.heap.objs.size + 1) s.heap.objs.size 0 .none := by
    have := Heap.get?_push_size (s.heap.push { cls := .type "tuple_iterator", data := .fields #[.ref l, .int 0 0] })
      (o := { cls := .type "enumerate", data := .fields #[.none, .bool false, .ref s.heap.objs.size, rawInt 0, .none, .none] }) rfl
    rw [hz] at this; exact this
  refine ⟨⟨_, he, rfl⟩, h _ he ⟨_, Heap.get?_push_of_some _ (Heap.get?_push_size _ rfl), rfl, rfl⟩ (by rw [Heap.size_push, hz]) fun b o x => Heap.get?_push_of_some _ (Heap.get?_push_of_some _ x)⟩
def IteT (K : PySem.W.Frag) (a : Addr) : It :=
  ⟨fun i H => ∃ (xs : List V) (x : V), SqT K H a xs ∧ xs[i]? = some x, fun i H v H' => ∃ T x, v = .ref T ∧ H T = none ∧ H' = upd H T (.tup [.int (i : Nat), x]) ∧ ∀ xs, SqT K H a xs → xs[i]? = some x, fun i H => ∃ xs : List V, SqT K H a xs ∧ xs.length ≤ i⟩
theorem turn_enumT {P : Program} {w : World} {K : PySem.W.Frag} {elts : List Expr} {kk : Nat} {tpos : Pos} (a e it : Addr) :
    Turn P w K (.Tuple elts kk tpos) (IteT K a) [e, it] e (fun i h => (∃ old, IsEnum h e it ((i : Nat) : Int) old) ∧ h.IsTupleIter it a i ∧ e ≠ it ∧ a ≠ it ∧ a ≠ e) where
  mem := by simp
  obj := fun i h st b hb => by
    obtain ⟨⟨old, he⟩, ⟨o, ho, hc, hd⟩, _⟩ := st
    have e' : b = e ∨ b = it := by simpa using hb
    rcases e' with z | z
    · rw [z]; exact ⟨_, he, fun v q => nomatch q⟩
    · rw [z]; exact ⟨o, ho, fun v q => by rw [hd] at q; cases q⟩
  keep := fun i h h' st k => let ⟨⟨old, he⟩, hi, hne⟩ := st; ⟨⟨old, k e (by simp) _ he⟩, hi.at fun o q => k it (by simp) o q, hne⟩
  item := by
    intro X hP hw hK hc i pins s σ H E I hf st hg
    subst hP hw hK
    obtain ⟨⟨old, he⟩, hit, hne, hai, hae⟩ := st
    obtain ⟨xs, x, hq, hx⟩ := hg
    obtain ⟨its, rv, p, hz⟩ := I.tuple hq
    obtain ⟨u, hu, ru⟩ := rv.get hx
    have hel : e < s.heap.objs.size := Heap.lt_size he
    have hil : it < s.heap.objs.size := by obtain ⟨_, q, _⟩ := hit; exact Heap.lt_size q
    have D := Draws.tuple (prog := X.prog) (w := X.w) (A := X.A.in1) (by have := I.ok.hd hc; simpa using this) it a hai its.toArray
    have hp : s.heap.IsTuple a its.toArray := p
    have hl : i < its.toArray.size := by
      have := (List.getElem?_eq_some_iff.mp hu).1
      simpa using this
    refine wpAny_pyNext_enum_itemD D he ⟨hit, hp⟩ hl hne (by simp [hne, Ne.symm hae]) fun x' h' tk hP ho hSt hT hsz hk => ?_
    have hxu : x' = u := by
      have e1 : its.toArray[i]? = some u := by simpa using hu
      rw [e1] at hP
      exact (Option.some.inj hP).symm
    subst hxu
    refine ⟨_, rfl, wpAny_letOwnedTupleGo_enum (s := { s with heap := h', toks := tk + 1 }) ho fun h'' he' sb => ?_⟩
    have hT2 : h''.get? s.heap.objs.size = some { cls := .type "tuple", data := .seq #[.int i tk, x'] } := (sb.2 _ (Nat.ne_of_gt hel)).trans hT
    have new : ObjOk X.prog X.w (upd H s.heap.objs.size (.tup [.int (i : Nat), x])) h'' s.heap.objs.size (.tup [.int (i : Nat), x]) :=
      ⟨by show 2 ≤ sizeLine; decide, [.int i tk, x'], .cons ⟨_, rfl⟩ (.cons ru .nil), ⟨_, hT2, rfl, _, rfl⟩⟩
    have I1 : Inv X pins σ (upd H s.heap.objs.size (.tup [.int (i : Nat), x])) { s with heap := h'', toks := tk + 1 } :=
      I.turnedNew (ch := [e, it]) (fun b ob hb q => (sb.2 b (fun z => hb (by simp [z]))).trans (hk b ob (fun z => hb (by simp [z])) (fun z => hb (by simp [z])) q)) hf (Nat.le_refl _) new
    refine ⟨.ref s.heap.objs.size, _, I1, rfl, ⟨_, x, rfl, I.hok.fresh (Nat.le_refl _), rfl, fun ys hy => by rw [I.tuple_inj hy hq]; exact hx⟩, ⟨⟨x', ?_⟩, hSt.1.at fun o q => (sb.2 it (Ne.symm hne)).trans q, hne, hai, hae⟩, fun b hb => ?_⟩
    · have e1 : ((i + 1 : Nat) : Int) = (i : Int) + 1 := by omega
      rw [e1]; exact he'
    · have hb' : b < s.heap.objs.size := by
        have e' : b = e ∨ b = it := by simpa using hb
        rcases e' with z | z
        · rw [z]; exact hel
        · rw [z]; exact hil
      rw [upd_ne (Nat.ne_of_lt hb')]
      exact (hf b hb).1
  done := by
    intro X hP hw hK hc i pins s σ H E I hf st hg
    subst hP hw hK
    obtain ⟨⟨old, he⟩, hit, hne, hai, hae⟩ := st
    obtain ⟨xs, hq, hx⟩ := hg
    obtain ⟨its, rv, p, hz⟩ := I.tuple hq
    obtain ⟨f0, f1, f2, f3, f4, f5⟩ := hf it (by simp)
    have hl := rv.length
    have hp : s.heap.IsTuple a its.toArray := p
    have hT : s.TypeIs (.ref e) "enumerate" := ⟨_, he, rfl⟩
    have hh : X.A.handled = none := I.ok.hd hc
    unfold pyNext
    refine wpAny_bind (wpAny_attempt (wpAny_callSpecial?_slot (name := Str.ofString "__next__") hT PySem.F.slot_enumerate_next
      (wpAny_call_entry PySem.F.slot_enumerate_next hT PySem.F.entry_enumerate_next ?_ (PySem.F.args_enumerate_next_1 _))))
    show wpAny _ _ (field (.ref e) 2 >>= _) _ _ _
    refine wpAny_bind (wpAny_field he rfl (x := .ref it) rfl ?_)
    refine wpAny_bind (wpAny_nextOf_tuple_end (by simpa using hh) hit hp (by simp; omega) fun h' x he' hx' => ?_)
    obtain ⟨o, ho, hc⟩ := hx'
    refine wpAny_bind (wpAny_isInstance (T := "StopIteration") (b := true) ⟨o, ho, hc⟩ isSubtype_stop ?_)
    exact wpAny_pure ⟨rfl, I.turned (t' := s.toks) (fun b o hb q => he' b o hb q) f0 f1 f3 f4 f5⟩
  self := fun A i s Q E st h => let ⟨⟨_, he⟩, _⟩ := st; wpAny_pyIter_enum he h
def iEnumT (K : PySem.W.Frag) (ta : TA) : TI := fun σ H R => ta σ H fun vs H1 => ∃ a xs, vs = [.ref a] ∧ SqT K H1 a xs ∧ R (IteT K a) H1
theorem pi_enumT {X : Cx} {e : Expr} {ta : TA} {p pos tpos : Pos} {elts : List Expr} {kk : Nat} (hg : Gl X "enumerate") (hm : X.mg "enumerate" = none) (ha : PA X [e] ta) (hs : starEach [e] X.env = [(false, eval e X.env)] := by rfl) :
    PI X (.Tuple elts kk tpos) (.Call (.Name "enumerate" p) [e] [] pos) (iEnumT X.K ta) := by
  refine ⟨fun pins s σ H R I h => ?_⟩
  refine Call_ (ld_blt I hg hm boot_enumerate (PyProof.Rows.callWith_type1 (thn (ha.run pos pins s σ H _ I h) fun us s1 ⟨vs, H1, I1, r1, q1⟩ => ?_) hs rfl))
  obtain ⟨a, xs, ex, hq, q⟩ := q1
  subst ex
  cases r1 with
  | cons r rr =>
    cases rr
    cases r
    obtain ⟨its, rv, p', hz⟩ := I1.tuple hq
    have hp : s1.heap.IsTuple a its.toArray := p'
    have hal : a < s1.heap.objs.size := by obtain ⟨o, ho, _⟩ := hp; exact Heap.lt_size ho
    refine call_enumerate_tuple hp fun h' he hit hsz hk => wpAny_pyIter_enum he ?_
    have I2 : Inv X pins σ H1 { s1 with heap := h' } := I1.kept (t' := s1.toks) hk
    refine ⟨s1.heap.objs.size + 1, [s1.heap.objs.size + 1, s1.heap.objs.size], _, _, H1, rfl, I2, turn_enumT a (s1.heap.objs.size + 1) s1.heap.objs.size, ⟨⟨.none, he⟩, hit, Nat.succ_ne_self _, Nat.ne_of_lt hal, Nat.ne_of_lt (Nat.lt_succ_of_lt hal)⟩, fun b hb => ?_, q⟩
    have e' : b = s1.heap.objs.size + 1 ∨ b = s1.heap.objs.size := by simpa using hb
    have hle : s1.heap.objs.size ≤ b := by
      rcases e' with z | z
      · rw [z]; exact Nat.le_add_right _ _
      · rw [z]; exact Nat.le_refl _
    exact I1.fpOk hle (I1.hok.fresh hle)
end XT

namespace XT
open PySem PySem.Spec PyProof.Rows L2
/-! ### types compared -/
def tyN (m : String) : Bool := ["int", "str", "bool", "NoneType", "list", "tuple", "dict"].contains m
theorem tyN_meta {m : String} (h : tyN m = true) (s' : Shared) : s'.TypeIs (.type m) "type" := by
  unfold tyN at h
  simp only [List.contains_cons, List.contains_nil, Bool.or_eq_true, beq_iff_eq, Bool.false_eq_true, or_false] at h
  rcases h with rfl | rfl | rfl | rfl | rfl | rfl | rfl
  · exact TypeEq.meta_int s'
  · exact TypeEq.meta_str s'
  · exact TypeEq.meta_bool s'
  · exact TypeEq.meta_NoneType s'
  · exact TypeEq.meta_list s'
  · exact TypeEq.meta_tuple s'
  · exact TypeEq.meta_dict s'
section
variable {X : Cx}
theorem op_eqTy : OpR X (compareOp .Eq) (fun x y H Q => ∃ m n, x = .ty m ∧ y = .ty n ∧ tyN m = true ∧ tyN n = true ∧ Q (.bl (decide (m = n))) H) := by
  intro pins s σ H x y v u Q I rx ry h
  obtain ⟨m, n, rfl, rfl, hm, hn, q⟩ := h
  cases (show v = Value.type m from rx)
  cases (show u = Value.type n from ry)
  by_cases e : m = n
  · subst e
    exact TypeEq.eq_type_same (fun s' => tyN_meta hm s') ⟨.bl true, H, I, rfl, by simpa using q⟩
  · refine TypeEq.eq_type_other (fun s' => tyN_meta hm s') (fun s' => tyN_meta hn s') ?_ ⟨.bl false, H, I, rfl, by simpa [e] using q⟩
    rw [Bool.eq_false_iff]
    intro z
    rw [beq_iff_eq] at z
    injection z with z
    exact e z
theorem eqAt_ty {A : Around} {s : Shared} {m n : String} (hm : tyN m = true) (hn : tyN n = true) : SeqAt.EqAt A s (.type m) (.type n) (decide (m = n)) := fun prog w E Q h => by
  unfold eqBool
  refine wpAny_holding ?_
  refine wpAny_ite_split (fun hab => ?_) (fun hab => ?_)
  · have e : m = n := by have := eq_of_beq hab; injection this
    subst e
    exact wpAny_bind (wpAny_rule (wpAny_pure (by simpa using h)))
  · have e : m ≠ n := fun z => hab (by rw [z]; exact beq_self_eq_true _)
    refine wpAny_bind (m := richCompare .Eq (.type m) (.type n)) (show wpAny _ _ (compareOp .Eq _ _) _ _ _ from TypeEq.eq_type_other (fun s' => tyN_meta hm s') (fun s' => tyN_meta hn s') ?_ ?_)
    · rw [Bool.eq_false_iff]
      intro z
      rw [beq_iff_eq] at z
      injection z with z
      exact e z
    · exact wpAny_pure (by simpa [e] using h)
def tyU (m : String) : Value → Bool
  | .type n => decide (n = m)
  | _ => false
theorem op_inTy : OpR X (compareOp .In) (fun x y H Q => ∃ (m : String) (p : Addr) (ns : List String), x = .ty m ∧ y = .ref p ∧ SqT X.K H p (ns.map V.ty) ∧ tyN m = true ∧ (∀ n ∈ ns, tyN n = true) ∧ Q (.bl (ns.any fun n => decide (n = m))) H) := by
  intro pins s σ H x y v u Q I rx ry h
  obtain ⟨m, p, ns, rfl, rfl, hq, hm, hn, q⟩ := h
  cases (show v = Value.type m from rx)
  cases (show u = Value.ref p from ry)
  obtain ⟨its, r, pl, hz⟩ := I.tuple hq
  have key : ∀ (ns : List String) (its : List Value), Vals (ns.map V.ty) its → its = ns.map Value.type := by
    intro ns
    induction ns with
    | nil => intro its r; cases r; rfl
    | cons n ns ih =>
      intro its r
      cases r with
      | cons a t =>
        rw [ih _ t, List.map_cons]
        congr 1
  have e := key ns its r
  subst e
  refine SeqAt.in_tupleAt (tyU m) pl (fun w hw => ?_) ⟨.bl _, H, I, rfl, ?_⟩
  · have hw' : w ∈ ns.map Value.type := by simpa using hw
    obtain ⟨n, hmem, rfl⟩ := List.mem_map.mp hw'
    exact eqAt_ty (hn n hmem) hm
  · have e2 : ((ns.map Value.type).toArray.any (tyU m)) = ns.any fun n => decide (n = m) := by
      rw [List.any_toArray, List.any_map]
      rfl
    rw [e2]
    exact q
/-! ### calls by promises of positional values -/
def tCallR (sp : Sp) (E : XK) (t : TA) : TE := fun σ H Q => t σ H fun vs H1 => sp vs H1 Q E
theorem pe_callR {CX : CXT} {k : Nat} {f : Addr} {sp : Sp} {E : XK} {x : Str} {e : Expr} {es : List Expr} {t : TA} {p pos : Pos} (F : FnR X.prog X.w X.K X.mg X.base CX k f sp) (hr : Room k X.A) (hg : Gl X x) (hm : X.mg x = some (.ref f)) (hk : PySem.W.keepIn X.K (.ref f) = true) (hx : Passes CX X E) (ha : PA X (e :: es) t) (hd : (x == ("__debug__" : Str)) = false := by decide)
    (he : starEach (e :: es) X.env = (false, eval e X.env) :: starEach es X.env := by rfl) (hst : (backTo pos (starEach es X.env)).any (·.1) = false := by rfl) :
    PE X (.Call (.Name x p) (e :: es) [] pos) (tCallR sp E t) := by
  refine ⟨fun pins s σ H Q I h => ?_⟩
  refine wpAny_Call_Name_kw (ld_glob I hg hm ?_ hd)
  refine PySem.W.callWith_K (h₀ := X.base) I.ok.mod.kin hk (thn (ha.run pos pins s σ H _ I h) fun us s1 ⟨vs, H1, I1, r, q⟩ => ⟨I1.kIn, ?_⟩) he hst
  exact wpAny_call (run_fnR F hr hx I1 r q)
def tPropR (C : Addr) (sp : Sp) (E : XK) (ta : TE) : TE := fun σ H Q => ta σ H fun x H1 => ∃ a dx fs, x = .ref a ∧ H1 a = some (.ins C dx fs) ∧ sp [.ref a] H1 Q E
theorem pe_propR {CX : CXT} {k : Nat} {C p g : Addr} {f : Str} {sp : Sp} {E : XK} {e : Expr} {pos : Pos} {ta : TE} (he : PE X e ta) (c : Cls X.K C) (hp : PropOf X.K C f p g) (F : FnR X.prog X.w X.K X.mg X.base CX k g sp) (hr : Room (k + 1) X.A) (hx : Passes CX X.nox E)
    (hab : attributeBase e f X.env (eval e X.env) = eval e X.env) : PE X (.Attribute e f pos) (tPropR C sp E ta) := by
  refine ⟨fun pins s σ H Q I h => ?_⟩
  refine attr_of hab (thn (he.run pins s σ H _ I h) fun u s1 ⟨x, H1, I1, rx, a, dx, fs, ex, ea, q⟩ => ?_)
  subst ex
  obtain rfl : u = Value.ref a := rx
  obtain ⟨mA, O, _, _, _, _⟩ := ins_get I1.hok ea
  obtain ⟨od, J, _⟩ := O.look
  obtain ⟨rest, hrec⟩ := hp.rec_
  have I2 := I1.tok (s1.toks + 1)
  have hc : (PySem.W.clsIn X.K C).isSome = true := by
    obtain ⟨cd, hc, _⟩ := PySem.W.any_some c.hd
    rw [hc]
    rfl
  refine PySem.W.get_bind I1.kIn J (PySem.W.plainGet_of (c.get f)).1 (PySem.W.findObj_data hc hp.at_ hp.get hp.tak) (PySem.W.plainGet_of (c.get f)).2 (wpAny_call (PySem.W.prop_get (s := { s1 with toks := s1.toks + 1 }) I1.kIn hrec ?_))
  refine codeAny_mono (F X.A.in1 X.stack { s1 with toks := s1.toks + 1 } H1 [.ref a] [.ref a] Q E hr.in1 I2.env0.in1 (.cons rfl .nil) q) fun r s' hq => ?_
  cases r with
  | error er => exact False.elim (hx pins σ H1 { s1 with toks := s1.toks + 1 } er s' (I2.wish _) hq)
  | ok fl =>
    cases fl with
    | ret u =>
      obtain ⟨v, H', I3, rv, q3⟩ := I2.after hq
      show wpAny _ _ (handedOut u) _ _ _
      rw [PySem.W.handedOut_of (handed_of rv)]
      exact wpAny_pure ⟨v, H', I3, rv, q3⟩
    | next => exact False.elim hq
    | brk => exact False.elim hq
    | cont => exact False.elim hq
end
section
variable {P : Program} {w : World} {K : PySem.W.Frag} {mg : Str → Option Value} {base : Heap}
/-- how arguments bind, for every such def -/
def Bnd (x qual : Str) (st : Stmt) (ps : List Str) : Prop := ∀ (kV doc pm : Value) (an : Option Addr) (cdv ct : Value) (us : List Value), us.length = ps.length → bindArgs (PySem.W.fnOf x qual (defArgs st) (defBody st) (defScope st) .none kV doc pm an cdv ct) ⟨us, []⟩ = pure (ps.zip us)
/-- a def's promise by positional values; no exception leaves it -/
theorem okR {x qual : Str} {st : Stmt} {f : Addr} {fd : FuncData} {N ps : List Str} {k : Nat} {sp : Sp} (F : Fun K x qual st f fd) (S : FnScope N ps (defScope st)) (B : Bnd x qual st ps) (len : ∀ vs H Q E, sp vs H Q E → vs.length = ps.length)
    (hbody : ∀ (cdv : Value) (A : Around) (outer : List Env) (s : Shared) (H : Hp) (vs : List V) (Q : VK) (E : XK), Room k (A.deeper (envOfC qual (defScope st) s.heap.objs.size f cdv)) → sp vs H Q E →
      ∃ t, PSs (cxOf CX0 P w K mg base N qual (defScope st) f cdv A outer s H E).nox (defBody st) t ∧ t { nx := fun _ H' => Q .non H', rt := Q } (start N vs) H) : FnR P w K mg base CX0 (k + 1) f sp := by
  have G := F.ok S len hbody
  have hb := F.binds B
  exact (G.raw hb .nil).imp fun vs H Q E h => by simpa using h
end
end XT

namespace XT
open PySem PySem.Spec PyProof.Rows L2
/-! ### heaps that grow -/
theorem same_upd {H H1 : Hp} {p : Addr} {o : HO} (h : Same H H1) (n : H p = Option.none) : Same H (upd H1 p o) := fun b u e => by
  have hb : b ≠ p := fun q => by rw [q, n] at e; cases e
  rw [upd_ne hb]
  exact h b u e
theorem same_new {H : Hp} {p : Addr} {o : HO} (n : H p = Option.none) : Same H (upd H p o) := same_upd (Same.refl H) n
theorem same_seqT {K : PySem.W.Frag} {H H' : Hp} {a : Addr} {xs : List V} (e : Same H H') (h : SqT K H a xs) : SqT K H' a xs := by
  rcases h with (h | ⟨o, h⟩) | h
  · exact .inl (.inl (e _ _ h))
  · exact .inl (.inr ⟨o, e _ _ h⟩)
  · exact .inr h
theorem same_tyB {K : PySem.W.Frag} {H H' : Hp} {x : V} {n : String} (e : Same H H') (h : TyB K H x n) : TyB K H' x n := by
  cases h with
  | non => exact .non
  | bl b => exact .bl b
  | int i => exact .int i
  | str z => exact .str z
  | byt b => exact .byt b
  | lst h => exact .lst (e.seq h)
  | tup h => exact .tup (same_seqT e h)
  | dK h => exact .dK (e _ _ h)
/-- a value of a known kind -/
def KV (K : PySem.W.Frag) (H : Hp) (x : V) : Prop := ∃ n, TyB K H x n ∧ tyN n = true
theorem KV.same {K : PySem.W.Frag} {H H' : Hp} {x : V} (h : KV K H x) (e : Same H H') : KV K H' x := let ⟨n, a, b⟩ := h; ⟨n, same_tyB e a, b⟩
theorem kv_int {K : PySem.W.Frag} {H : Hp} (i : Int) : KV K H (.int i) := ⟨"int", .int i, by decide +kernel⟩
def isI : V → Bool
  | .int _ => true
  | _ => false
theorem tyB_isI {K : PySem.W.Frag} {H : Hp} {x : V} {n : String} (h : TyB K H x n) : decide (n = "int") = isI x := by
  cases h <;> first | rfl | decide +kernel
/-! ### what is walked, while only new things are made -/
structure StatJ (J : It) (H0 : Hp) (n : Nat) (P : Nat → V → Hp → Prop) : Prop where
  go : ∀ i H, i < n → Same H0 H → J.go i H
  stop : ∀ H, Same H0 H → J.stop n H
  yld : ∀ i H x H', i < n → Same H0 H → J.yld i H x H' → Same H H' ∧ P i x H'
theorem stat_list {K : PySem.W.Frag} {H0 : Hp} {a : Addr} {xs : List V} (h : SqL K H0 a xs) : StatJ (Itl K a) H0 xs.length (fun i x _ => xs[i]? = some x) where
  go := fun i H hi s => ⟨xs, xs[i], s.seq h, by simp [hi]⟩
  stop := fun H s => ⟨xs, s.seq h, Nat.le_refl _⟩
  yld := fun i H x H' hi s y => by
    obtain ⟨e, y⟩ := y
    subst e
    exact ⟨Same.refl _, y xs (s.seq h)⟩
theorem stat_tup {K : PySem.W.Frag} {H0 : Hp} {a : Addr} {xs : List V} (h : SqT K H0 a xs) : StatJ (Itt K a) H0 xs.length (fun i x _ => xs[i]? = some x) where
  go := fun i H hi s => ⟨xs, xs[i], same_seqT s h, by simp [hi]⟩
  stop := fun H s => ⟨xs, same_seqT s h, Nat.le_refl _⟩
  yld := fun i H x H' hi s y => by
    obtain ⟨e, y⟩ := y
    subst e
    exact ⟨Same.refl _, y xs (same_seqT s h)⟩
theorem stat_rng {H0 : Hp} (lo : Int) (n : Nat) : StatJ (Itr lo n) H0 n (fun i x _ => x = .int (lo + i)) where
  go := fun i H hi s => hi
  stop := fun H s => Nat.le_refl _
  yld := fun i H x H' hi s y => by
    obtain ⟨e, y⟩ := y
    subst e
    exact ⟨Same.refl _, y⟩
theorem stat_enumT {K : PySem.W.Frag} {H0 : Hp} {a : Addr} {xs : List V} (h : SqT K H0 a xs) : StatJ (IteT K a) H0 xs.length (fun i v H => ∃ T x, v = .ref T ∧ H T = some (.tup [.int (i : Nat), x]) ∧ xs[i]? = some x) where
  go := fun i H hi s => ⟨xs, xs[i], same_seqT s h, by simp [hi]⟩
  stop := fun H s => ⟨xs, same_seqT s h, Nat.le_refl _⟩
  yld := fun i H x H' hi s y => by
    obtain ⟨T, x', e, n, e', y⟩ := y
    subst e e'
    exact ⟨same_new n, T, x', rfl, upd_same, y xs (same_seqT s h)⟩
theorem stat_zip {K : PySem.W.Frag} {H0 : Hp} {a b : Addr} {xs ys : List V} (h : SqL K H0 a xs) (k : SqL K H0 b ys) : StatJ (Itz K a b) H0 (min xs.length ys.length) (fun i v H => ∃ T x y, v = .ref T ∧ H T = some (.tup [x, y]) ∧ xs[i]? = some x ∧ ys[i]? = some y) where
  go := fun i H hi s => ⟨xs, ys, xs[i], ys[i], s.seq h, s.seq k, by simp, by simp⟩
  stop := fun H s => ⟨xs, ys, s.seq h, s.seq k, by omega⟩
  yld := fun i H x H' hi s y => by
    obtain ⟨T, x', y', e, n, e', p, q⟩ := y
    subst e e'
    exact ⟨same_new n, T, x', y', rfl, upd_same, p xs (s.seq h), q ys (s.seq k)⟩
theorem stat_zipT {K : PySem.W.Frag} {H0 : Hp} {a b : Addr} {xs ys : List V} (h : SqT K H0 a xs) (k : SqT K H0 b ys) : StatJ (RZ.ItzT K a b) H0 (min xs.length ys.length) (fun i v H => ∃ T x y, v = .ref T ∧ H T = some (.tup [x, y]) ∧ xs[i]? = some x ∧ ys[i]? = some y) where
  go := fun i H hi s => ⟨xs, ys, xs[i], ys[i], same_seqT s h, same_seqT s k, by simp, by simp⟩
  stop := fun H s => ⟨xs, ys, same_seqT s h, same_seqT s k, by omega⟩
  yld := fun i H x H' hi s y => by
    obtain ⟨T, x', y', e, n, e', p, q⟩ := y
    subst e e'
    exact ⟨same_new n, T, x', y', rfl, upd_same, p xs (same_seqT s h), q ys (same_seqT s k)⟩
/-- what a comprehension collects -/
def outs (out : Nat → Option V) (n : Nat) : List V := (List.range n).filterMap out
theorem outs_succ (out : Nat → Option V) (n : Nat) : outs out (n + 1) = outs out n ++ (out n).toList := by
  unfold outs
  rw [List.range_succ, List.filterMap_append]
  cases h : out n <;> simp [List.filterMap, h]
theorem outs_len (out : Nat → Option V) (n : Nat) : (outs out n).length ≤ n := by
  unfold outs
  exact Nat.le_trans (List.length_filterMap_le _ _) (by simp)
theorem outs_list (f : V → Option V) (xs : List V) : outs (fun i => (xs[i]?).bind f) xs.length = xs.filterMap f := by
  have : ∀ n, n ≤ xs.length → outs (fun i => (xs[i]?).bind f) n = (xs.take n).filterMap f := by
    intro n
    induction n with
    | zero => intro _; rfl
    | succ n ih =>
      intro h
      rw [outs_succ, ih (by omega), List.take_succ, List.filterMap_append]
      congr 1
      have e : xs[n]? = some xs[n] := by simp
      rw [e]
      cases h2 : f xs[n] <;> simp [h2]
  rw [this _ (Nat.le_refl _), List.take_length]
theorem outs_map (f : V → V) (xs : List V) : outs (fun i => (xs[i]?).map f) xs.length = xs.map f := by
  have e : (fun (i : Nat) => (xs[i]?).map f) = fun (i : Nat) => (xs[i]?).bind fun x => some (f x) := by funext i; cases xs[i]? <;> rfl
  rw [e, outs_list]
  simp
theorem outs_fun (f : Nat → V) (n : Nat) : outs (fun i => some (f i)) n = (List.range n).map f := by
  unfold outs
  simp
theorem outs_congr {o o' : Nat → Option V} {n : Nat} (h : ∀ i, i < n → o i = o' i) : outs o n = outs o' n := by
  induction n with
  | zero => rfl
  | succ n ih => rw [outs_succ, outs_succ, ih fun i hi => h i (by omega), h n (by omega)]
/-- a comprehension over what stands still -/
theorem lcG {J : It} {n : Nat} {P : Nat → V → Hp → Prop} {g : TG} {tt : TT} {te : TE} {vs : List Nat} {σ : L2.St} {H1 : Hp} {D : Addr} {Qd : Hp → Prop} (S : StatJ J H1 n P) (hD : H1 D = Option.none) (out : Nat → Option V) (hn : n ≤ sizeLine)
    (hs : ∀ i x H (R : Option V → Hp → Prop), i < n → Same H1 H → P i x H → (∀ H', Same H H' → R (out i) H') → g x (wipe σ vs) H fun σ2 H2 => wipe σ2 vs = wipe σ vs ∧ tt σ2 H2 fun b H3 => if b = true then te σ2 H3 fun y H4 => R (some y) H4 else R Option.none H3)
    (hd : ∀ H, Same H1 H → H D = some (.lst (outs out n)) → Qd H) :
    ∃ W : Nat → Nat → Hp → Prop, (∃ m, W 0 m (upd H1 D (.lst []))) ∧ ∀ i m H, W i m H →
      (J.stop i H ∧ Qd H) ∨ (J.go i H ∧ ∃ Nx : Hp → Prop, (∀ H', Nx H' → ∃ m', m' < m ∧ W (i + 1) m' H') ∧ ∀ x H', J.yld i H x H' → g x (wipe σ vs) H' fun σ2 H2 => wipe σ2 vs = wipe σ vs ∧ tt σ2 H2 fun b H3 =>
        if b = true then te σ2 H3 fun y H4 => ∃ acc, H4 D = some (.lst acc) ∧ acc.length < sizeLine ∧ Nx (upd H4 D (.lst (acc ++ [y]))) else Nx H3) := by
  refine ⟨fun i m H => m = n - i ∧ i ≤ n ∧ Same H1 H ∧ H D = some (.lst (outs out i)), ⟨n, by simp, Nat.zero_le _, same_new hD, by rw [upd_same]; rfl⟩, ?_⟩
  rintro i m H ⟨rfl, hi, s, hH⟩
  by_cases hlt : i < n
  · refine .inr ⟨S.go i H hlt s, fun H' => Same H1 H' ∧ H' D = some (.lst (outs out (i + 1))), fun H' p => ⟨n - (i + 1), by omega, rfl, hlt, p.1, p.2⟩, fun x H' y => ?_⟩
    obtain ⟨s2, px⟩ := S.yld i H x H' hlt s y
    refine hs i x H' (fun r H4 => match r with | some y => ∃ acc, H4 D = some (.lst acc) ∧ acc.length < sizeLine ∧ (Same H1 (upd H4 D (.lst (acc ++ [y]))) ∧ (upd H4 D (.lst (acc ++ [y]))) D = some (.lst (outs out (i + 1)))) | none => Same H1 H4 ∧ H4 D = some (.lst (outs out (i + 1)))) hlt (s.trans s2) px fun H4 s4 => ?_
    have h4 : H4 D = some (.lst (outs out i)) := s4 _ _ (s2 _ _ hH)
    have s14 : Same H1 H4 := (s.trans s2).trans s4
    cases ho : out i with
    | none =>
      refine ⟨s14, ?_⟩
      rw [outs_succ, ho, h4]
      simp
    | some y =>
      refine ⟨_, h4, Nat.lt_of_le_of_lt (outs_len out i) (Nat.lt_of_lt_of_le hlt hn), same_upd s14 hD, ?_⟩
      rw [upd_same, outs_succ, ho]
      rfl
  · have e : i = n := by omega
    subst e
    exact .inl ⟨S.stop H s, hd H s hH⟩
/-- without a test -/
theorem lcM {J : It} {n : Nat} {P : Nat → V → Hp → Prop} {g : TG} {te : TE} {vs : List Nat} {σ : L2.St} {H1 : Hp} {D : Addr} {Qd : Hp → Prop} (S : StatJ J H1 n P) (hD : H1 D = Option.none) (out : Nat → V) (hn : n ≤ sizeLine)
    (hs : ∀ i x H (R : V → Hp → Prop), i < n → Same H1 H → P i x H → (∀ H', Same H H' → R (out i) H') → g x (wipe σ vs) H fun σ2 H2 => wipe σ2 vs = wipe σ vs ∧ te σ2 H2 R)
    (hd : ∀ H, Same H1 H → H D = some (.lst ((List.range n).map out)) → Qd H) :
    ∃ W : Nat → Nat → Hp → Prop, (∃ m, W 0 m (upd H1 D (.lst []))) ∧ ∀ i m H, W i m H →
      (J.stop i H ∧ Qd H) ∨ (J.go i H ∧ ∃ Nx : Hp → Prop, (∀ H', Nx H' → ∃ m', m' < m ∧ W (i + 1) m' H') ∧ ∀ x H', J.yld i H x H' → g x (wipe σ vs) H' fun σ2 H2 => wipe σ2 vs = wipe σ vs ∧ tYes σ2 H2 fun b H3 =>
        if b = true then te σ2 H3 fun y H4 => ∃ acc, H4 D = some (.lst acc) ∧ acc.length < sizeLine ∧ Nx (upd H4 D (.lst (acc ++ [y]))) else Nx H3) := by
  refine ⟨fun i m H => m = n - i ∧ i ≤ n ∧ Same H1 H ∧ H D = some (.lst ((List.range i).map out)), ⟨n, by simp, Nat.zero_le _, same_new hD, by rw [upd_same]; rfl⟩, ?_⟩
  rintro i m H ⟨rfl, hi, s, hH⟩
  by_cases hlt : i < n
  · refine .inr ⟨S.go i H hlt s, fun H' => Same H1 H' ∧ H' D = some (.lst ((List.range (i + 1)).map out)), fun H' p => ⟨n - (i + 1), by omega, rfl, hlt, p.1, p.2⟩, fun x H' y => ?_⟩
    obtain ⟨s2, px⟩ := S.yld i H x H' hlt s y
    show g x (wipe σ vs) H' fun σ2 H2 => wipe σ2 vs = wipe σ vs ∧ (if true = true then te σ2 H2 fun y H4 => ∃ acc, H4 D = some (.lst acc) ∧ acc.length < sizeLine ∧ (Same H1 (upd H4 D (.lst (acc ++ [y]))) ∧ (upd H4 D (.lst (acc ++ [y]))) D = some (.lst ((List.range (i + 1)).map out))) else (Same H1 H2 ∧ H2 D = some (.lst ((List.range (i + 1)).map out))))
    simp only [if_true]
    refine hs i x H' (fun y H4 => ∃ acc, H4 D = some (.lst acc) ∧ acc.length < sizeLine ∧ (Same H1 (upd H4 D (.lst (acc ++ [y]))) ∧ (upd H4 D (.lst (acc ++ [y]))) D = some (.lst ((List.range (i + 1)).map out)))) hlt (s.trans s2) px fun H4 s4 => ?_
    have h4 : H4 D = some (.lst ((List.range i).map out)) := s4 _ _ (s2 _ _ hH)
    refine ⟨_, h4, Nat.lt_of_le_of_lt (by simp) (Nat.lt_of_lt_of_le hlt hn), same_upd ((s.trans s2).trans s4) hD, ?_⟩
    rw [upd_same, List.range_succ, List.map_append]
    rfl
  · have e : i = n := by omega
    subst e
    exact .inl ⟨S.stop H s, hd H s hH⟩
theorem range_map (f : V → V) (d : V) (xs : List V) : (List.range xs.length).map (fun i => f (xs.getD i d)) = xs.map f := by
  apply List.ext_getElem
  · simp
  · intro i h1 h2
    have h3 : i < xs.length := by simpa using h2
    simp [List.getD, h3]
theorem getD_of {xs : List V} {i : Nat} {x d : V} (h : xs[i]? = some x) : xs.getD i d = x := by
  simp [List.getD, h]
end XT

namespace XT
open PySem PySem.Spec PyProof.Rows L2
/-! ### the rules whose reading names the written part, with that part given -/
section
variable {X : Cx} (K : PySem.W.Frag)
theorem fldK {e : Expr} {f : Str} {pos : Pos} {ta : TE} (he : PE X e ta) (hb : attributeBase e f X.env (eval e X.env) = eval e X.env) (hK : X.K = K := by rfl) : PE X (.Attribute e f pos) (tFld K ta f) := by subst hK; exact pe_fld he hb
theorem tupK {es : List Expr} {k : Nat} {pos : Pos} {t : TGs} {n : Nat} (hc : X.calm = true) (h : PGs X es t) (hK : X.K = K := by rfl) (hn : (assignEach es X.env).length = n := by rfl) (hst : (assignEach es X.env).findIdx? (·.1) = none := by rfl) : PG X (.Tuple es k pos) (gTup K n t) := by
  subst hK
  exact pg_tup hc h hn hst
theorem unlK {es : List Expr} {k : Nat} {pos : Pos} {t : TGs} {n : Nat} (hc : X.calm = true) (h : PGs X es t) (hK : X.K = K := by rfl) (hn : (assignEach es X.env).length = n := by rfl) (hst : (assignEach es X.env).findIdx? (·.1) = none := by rfl) : PG X (.Tuple es k pos) (gUnl K n t) := by
  subst hK
  exact pg_unl hc h hn hst
theorem ixLK (hK : X.K = K := by rfl) : IxR X (rIxL K) := by subst hK; exact ix_list
theorem ixTK (hK : X.K = K := by rfl) : IxR X (rIxT K) := by subst hK; exact ix_tup
theorem slLK (hK : X.K = K := by rfl) : SlR X (rSlL K) := by subst hK; exact sl_list
theorem slTK (hK : X.K = K := by rfl) : SlR X (rSlA K) := by subst hK; exact sl_tupA
theorem lenK (hK : X.K = K := by rfl) : CallR X (.builtin "len") (fun xs H Q => ∃ p ys, xs = [.ref p] ∧ (SqL K H p ys ∨ SqT K H p ys) ∧ Q (.int ys.length) H) := by subst hK; exact call_len_seq
theorem typeK (hK : X.K = K := by rfl) : CallR X (.type "type") (rTyp K) := by subst hK; exact call_type1
theorem allK (hc : X.calm = true) (hK : X.K = K := by rfl) : CallR X (.builtin "all") (rAll K) := by subst hK; exact cr_all hc
theorem sortedK (hK : X.K = K := by rfl) : CallR X (.builtin "sorted") (rSortedI K) := by subst hK; exact cr_sortedI
theorem listK (hK : X.K = K := by rfl) : CallR X (.type "list") (fun xs H Q => ∃ p ys, xs = [.ref p] ∧ (SqL K H p ys ∨ SqT K H p ys) ∧ ∀ l, H l = Option.none → Q (.ref l) (upd H l (.lst ys))) := by subst hK; exact call_list_of
theorem tupleK (hK : X.K = K := by rfl) : CallR X (.type "tuple") (fun xs H Q => ∃ p ys, xs = [.ref p] ∧ ((SqL K H p ys ∧ ∀ l, H l = Option.none → Q (.ref l) (upd H l (.tup ys))) ∨ (SqT K H p ys ∧ Q (.ref p) H))) := by subst hK; exact call_tuple_of
theorem inK (hK : X.K = K := by rfl) : OpR X (compareOp .In) (rIn K false) := by subst hK; exact op_in_seq
theorem notInK (hK : X.K = K := by rfl) : OpR X (compareOp .NotIn) (rIn K true) := by subst hK; exact op_notIn_seq
theorem eqDK (hu : X.A.units + 64 < cLine) (hK : X.K = K := by rfl) : OpR X (compareOp .Eq) (rEqD K) := by subst hK; exact op_eqD hu
theorem neDK (hu : X.A.units + 64 < cLine) (hK : X.K = K := by rfl) : OpR X (compareOp .NotEq) (rNeD K) := by subst hK; exact op_neD hu
theorem inTyK (hK : X.K = K := by rfl) : OpR X (compareOp .In) (fun x y H Q => ∃ (m : String) (p : Addr) (ns : List String), x = .ty m ∧ y = .ref p ∧ SqT K H p (ns.map V.ty) ∧ tyN m = true ∧ (∀ n ∈ ns, tyN n = true) ∧ Q (.bl (ns.any fun n => decide (n = m))) H) := by subst hK; exact op_inTy
theorem bmK {o e : Expr} {es : List Expr} {name : Str} {apos cpos : Pos} {to : TE} {t : TA} {r : V → List V → Hp → VK → Prop} {T : String} (h : PE X (.Call (.Attribute o name apos) (e :: es) [] cpos) (tBM X.K T r to t)) (hK : X.K = K := by rfl) : PE X (.Call (.Attribute o name apos) (e :: es) [] cpos) (tBM K T r to t) := by subst hK; exact h
theorem starK {e : Expr} {p : Pos} {es : List Expr} {te : TE} {t : TA} (h : PA X (.Starred e p :: es) (StX.tStar X.K te t)) (hK : X.K = K := by rfl) : PA X (.Starred e p :: es) (StX.tStar K te t) := by subst hK; exact h
end
end XT

namespace XT
open PySem PySem.Spec PyProof.Rows L2
/-! ### data of ints -/
theorem dpAll_ints {K : PySem.W.Frag} {H : Hp} (L : List Int) : DpAll K H (L.map V.int) (L.map PyData.int) := by
  induction L with
  | nil => exact .nil
  | cons x L ih => exact .cons (.int x) ih
theorem dp_lst {K : PySem.W.Frag} {H : Hp} {p : Addr} {L : List Int} (h : SqL K H p (L.map V.int)) : Dp K H (.ref p) (.list (L.map PyData.int)) := .lst h (dpAll_ints L)
theorem dp_tup {K : PySem.W.Frag} {H : Hp} {p : Addr} {L : List Int} (h : SqT K H p (L.map V.int)) : Dp K H (.ref p) (.tuple (L.map PyData.int)) := .tup h (dpAll_ints L)
theorem eqvAll_ints (L : List Int) : ∀ M : List Int, PyData.eqvAll (L.map PyData.int) (M.map PyData.int) = decide (L = M) := by
  induction L with
  | nil =>
    intro M
    cases M with
    | nil => simp [PyData.eqvAll]
    | cons y M => simp [PyData.eqvAll]
  | cons x L ih =>
    intro M
    cases M with
    | nil => simp [PyData.eqvAll]
    | cons y M =>
      rw [List.map_cons, List.map_cons, PyData.eqvAll, ih]
      by_cases h : x = y
      · subst h
        simp [PyData.eqv]
      · have : (PyData.int x).eqv (.int y) = false := by simp [PyData.eqv, h]
        rw [this]
        simp [h]
theorem eqv_tups (L M : List Int) : PyData.eqv (.tuple (L.map PyData.int)) (.tuple (M.map PyData.int)) = decide (L = M) := by
  rw [PyData.eqv]
  exact eqvAll_ints L M
theorem eqv_lsts (L M : List Int) : PyData.eqv (.list (L.map PyData.int)) (.list (M.map PyData.int)) = decide (L = M) := by
  rw [PyData.eqv]
  exact eqvAll_ints L M
theorem shaped_lst (L : List Int) : SeqAt.shaped (.list (L.map PyData.int)) = true := PySem.W.ke_shaped_ints L
theorem shaped_tup (L : List Int) : SeqAt.shaped (.tuple (L.map PyData.int)) = true := by
  have := PySem.W.ke_shaped_ints L
  unfold SeqAt.shaped at this ⊢
  simpa [PyData.canLay0, PyData.depth] using this
/-! ### bool(x) by its truth -/
section
variable {prog : Program} {w : World} {A : Around} {E : Value → Shared → Prop} {s : Shared}
theorem bool_gen {v : Value} {Q : Value → Shared → Prop} (h : wpAny (model prog w) A.in1.in1 (truthy v) (fun b s1 => Q (.bool b) s1) E s) : wpAny (model prog w) A (call (.type "bool") [v]) Q E s := by
  refine callType_codes (T := "bool") (Bi := Builtin.«object.__init__») (Q₁ := fun r s1 => ∃ b, r = Value.bool b ∧ Q r s1) PySem.F.called_bool (PySem.F.typeCall_bool_1 _) PySem.F.entry_object_init ?_ ?_
  · refine codeAny_of_tree ?_
    show wpAny _ A.in1.in1 (do checkBuiltinCall "bool.__new__" ⟨[.type "bool", v], []⟩; again (.builtin "bool.__new__" ⟨[.type "bool", v], []⟩)) _ _ s
    refine wpAny_bind (wpAny_of_eq (PySem.F.newCall_bool_1 _) (wpAny_pure ⟨plainId_quiet (by decide +kernel) _, codeAny_builtin PySem.F.entry_bool_new ?_⟩))
    rw [Around.under_plainId (by decide +kernel) _]
    unfold Builtin.«bool.__new__»
    refine wpAny_bind (wpAny_of_eq (a := true) type_bool ?_)
    refine PySem.W.KFB.if_not rfl ?_
    refine wpAny_bind (wpAny_of_eq (a := true) PySem.F.conv_sub_bool ?_)
    refine PySem.W.KFB.if_not rfl ?_
    refine wpAny_bind (m := someArgs "bool" 0 1 _) (wpAny_of_eq (a := [v]) (by first | rfl | kernel_rfl | simp [someArgs]) ?_)
    dsimp only
    exact wpAny_bind (wpAny_mono h (fun b s1 q => wpAny_pure ⟨b, rfl, q⟩) fun _ _ y => y)
  · rintro obj s₁ ⟨b, rfl, hq⟩
    exact ⟨PySem.typeIs_bool _ _, PySem.F.args_object_init_2 _ _, object_init_meets PySem.F.called_bool.init.lookup PySem.F.called_bool.made (by decide) prog w A.in1 _ s₁ ⟨PySem.typeIs_bool _ _, rfl, hq⟩⟩
end
section
variable {X : Cx} (K : PySem.W.Frag)
theorem boolT (hK : X.K = K := by rfl) : CallR X (.type "bool") (fun xs H Q => ∃ (a : Addr) (zs : List V), xs = [.ref a] ∧ SqT K H a zs ∧ Q (.bl (!zs.isEmpty)) H) := by
  subst hK
  intro pins s σ H xs us Q I r h
  obtain ⟨a, zs, rfl, hq, q⟩ := h
  obtain rfl := Vals.ref1 r
  obtain ⟨its, rv, pl, hz⟩ := I.tuple hq
  have hl := line63
  have hlen := rv.length
  refine bool_gen (truthy_tuple pl (by simp only [List.size_toArray]; omega) ?_)
  exact ⟨.bl (!zs.isEmpty), H, I.tok _, by rw [isEmpty_of rv]; rfl, q⟩
end
end XT

namespace XT
open PySem PySem.Spec PyProof.Rows L2
/-! ### defs that ask which list or tuple is being written (repr): nothing of that kind is under way -/
/-- as FnR, no repr being under way -/
def FnG (P : Program) (w : World) (K : PySem.W.Frag) (mg : Str → Option Value) (base : Heap) (CX : CXT) (k : Nat) (f : Addr) (sp : Sp) : Prop :=
  ∀ (A : Around) (outer : List Env) (s : Shared) (H : Hp) (us : List Value) (vs : List V) (Q : VK) (E : XK), A.guards = some [] → Room k A → Env0 P w K mg base A outer s H → Vals vs us → sp vs H Q E →
    codeAny (model P w) A (.call (.ref f) ⟨us, []⟩) (CR CX outer P w H s Q E) s
section
variable {P : Program} {w : World} {K : PySem.W.Frag} {mg : Str → Option Value} {base : Heap} {CX : CXT} {j k : Nat} {f : Addr} {sp sp' : Sp}
theorem FnG.imp (F : FnG P w K mg base CX k f sp) (h : ∀ vs H Q E, sp' vs H Q E → sp vs H Q E) : FnG P w K mg base CX k f sp' := fun A outer s H us vs Q E hg hr e0 r hs => F A outer s H us vs Q E hg hr e0 r (h _ _ _ _ hs)
theorem FnR.toG (F : FnR P w K mg base CX k f sp) : FnG P w K mg base CX k f sp := fun A outer s H us vs Q E _ hr e0 r hs => F A outer s H us vs Q E hr e0 r hs
/-- a def by its body, one entry at a time -/
theorem fnG_of {name qual : Str} {params : Arguments} {body : List Stmt} {scope : Scope} {dV kV doc pm cdv ct oc : Value} {an od : Option Addr}
    {osl : Array (Option Value)} {N ps : List Str} (lk : K.lookup f = some ⟨oc, od, .func (PySem.W.fnOf name qual params body scope dV kV doc pm an cdv ct), osl⟩) (hcd : PySem.W.codeIn K cdv qual = true) (S : FnScope N ps scope)
    (hb : Binds K (PySem.W.fnOf name qual params body scope dV kV doc pm an cdv ct) ps []) (len : ∀ vs H Q E, sp vs H Q E → vs.length = ps.length)
    (hbody : ∀ (A : Around) (outer : List Env) (s : Shared) (H : Hp) (vs : List V) (Q : VK) (E : XK), (A.deeper (envOfC qual scope s.heap.objs.size f cdv)).guards = some [] → Room k (A.deeper (envOfC qual scope s.heap.objs.size f cdv)) → sp vs H Q E →
      ∃ t, PSs (cxOf CX P w K mg base N qual scope f cdv A outer s H E) body t ∧ t { nx := fun _ H' => Q .non H', rt := Q } (start N vs) H) :
    FnG P w K mg base CX (k + 1) f sp := by
  intro A outer s H us vs Q E hg hr e0 r hsp
  have hl := len _ _ _ _ hsp
  have hlu : us.length = ps.length := r.length ▸ hl
  have keep : ∀ b o, base.get? b = some o → s.heap.get? b = some o := fun b o e => (e0.bs b o e).1
  have KX : K.In s.heap := e0.mod.kin.keeps keep
  have lim : s.heap.NoLimit := e0.mod.nolimit.keeps keep
  have hkind : ∀ y ∈ ps.zip us, scope.names.lookup y.1 = some .local ∨ (scope.names.lookup y.1 = some .cell ∧ ((cellsFrom (s.heap.objs.size + 1) scope.names []).lookup y.1).isSome = true) := fun ⟨n, v⟩ hy => by
    rcases S.par n (List.of_mem_zip hy).1 with q | q
    · exact .inl q
    · exact .inr ⟨q, PySem.W.cellsFrom_some _ _ _ (.inl q)⟩
  have hbt : BindsTo s (PySem.W.fnOf name qual params body scope dV kV doc pm an cdv ct) ⟨us, []⟩ (ps.zip us) := by
    have z := hb s us KX (by simpa using hlu)
    simpa using z
  refine codeAny_call_function hr.depth (KX _ _ lk) rfl S.co S.gen rfl (PySem.W.codeRec_of KX hcd) (hbt _ _ _ _ ?_)
  refine wpAny_newFunctionEnv_cells S.kind hkind fun env he s1 x => ?_
  subst he
  refine ⟨lim.keeps x.toInCall.keep, codeAny_func ?_⟩
  obtain ⟨t, ht, hq⟩ := hbody A outer s H vs Q E hg (hr.deeper _) hsp
  have I : Inv (cxOf CX P w K mg base N qual scope f cdv A outer s H E) [] (start N vs) H s1 := inv_start S hr.hd e0 hl r x
  have fin : ∀ {σ' : L2.St} {H' : Hp} {v : V} {u : Value} {s' : Shared}, Inv (cxOf CX P w K mg base N qual scope f cdv A outer s H E) [] σ' H' s' → RelV v u → Q v H' → CE outer P w H s Q u s' :=
    fun {σ' H' v u s'} J rv q => ⟨v, H', J.os, J.bare, J.base, J.hok, rv, q⟩
  refine wpAny_mono (ht.run [] s1 (start N vs) H _ I hq) (fun fl s' hs => ?_) fun e s' hs => hs
  match fl, hs with
  | .ret u, ⟨v, σ', H', J, rv, q⟩ => exact fin J rv q
  | .next, ⟨σ', H', J, q⟩ => exact fin (v := V.non) (u := Value.none) J rfl q
  | .brk, ⟨_, _, _, q⟩ => exact q.elim
  | .cont, ⟨_, _, _, q⟩ => exact q.elim
/-- a def that may raise, by positional values -/
theorem okGX {x qual : Str} {st : Stmt} {fd : FuncData} {N ps : List Str} (F : Fun K x qual st f fd) (S : FnScope N ps (defScope st)) (B : Bnd x qual st ps) (len : ∀ vs H Q E, sp vs H Q E → vs.length = ps.length)
    (hbody : ∀ (cdv : Value) (A : Around) (outer : List Env) (s : Shared) (H : Hp) (vs : List V) (Q : VK) (E : XK), (A.deeper (envOfC qual (defScope st) s.heap.objs.size f cdv)).guards = some [] → Room k (A.deeper (envOfC qual (defScope st) s.heap.objs.size f cdv)) → sp vs H Q E →
      ∃ t, PSs (cxOf CX P w K mg base N qual (defScope st) f cdv A outer s H E) (defBody st) t ∧ t { nx := fun _ H' => Q .non H', rt := Q } (start N vs) H) : FnG P w K mg base CX (k + 1) f sp := by
  have hb := F.binds B
  obtain ⟨oc, od, kV, doc, pm, an, cdv, ct, osl, rfl, lk, hcd⟩ := F.ex
  exact fnG_of lk hcd S hb len fun A outer s H vs Q E hg hr hsp => hbody cdv A outer s H vs Q E hg hr hsp
/-- a def that may raise, by positional values -/
theorem okX {x qual : Str} {st : Stmt} {fd : FuncData} {N ps : List Str} (F : Fun K x qual st f fd) (S : FnScope N ps (defScope st)) (B : Bnd x qual st ps) (len : ∀ vs H Q E, sp vs H Q E → vs.length = ps.length)
    (hbody : ∀ (cdv : Value) (A : Around) (outer : List Env) (s : Shared) (H : Hp) (vs : List V) (Q : VK) (E : XK), Room k (A.deeper (envOfC qual (defScope st) s.heap.objs.size f cdv)) → sp vs H Q E →
      ∃ t, PSs (cxOf (L2.CX P w) P w K mg base N qual (defScope st) f cdv A outer s H E) (defBody st) t ∧ t { nx := fun _ H' => Q .non H', rt := Q } (start N vs) H) : FnR P w K mg base (L2.CX P w) (k + 1) f sp := by
  have G := F.okX S len hbody
  have hb := F.binds B
  exact (G.raw hb .nil).imp fun vs H Q E h => by simpa using h
end
end XT

namespace XT
open PySem PySem.Spec PyProof.Rows L2
/-! ### several clauses «except X as n» behind one another -/
/-- the ways out of a suite that has bound slot i -/
def endsAs (i : Nat) (D : Ends) : Ends := { nx := fun σ' H' => D.nx (σ'.set i none) H', rt := D.rt, bk := fun σ' H' => D.bk (σ'.set i none) H', ct := fun σ' H' => D.ct (σ'.set i none) H' }
/-- what the clauses wish of an exception: class, slot, suite -/
def wAsL (K : PySem.W.Frag) (Wout : WX) (D : Ends) : List (Value × Nat × (Addr → Value → Option Addr → TS)) → WX
  | [] => Wout
  | (c, i, ts) :: r => fun cls d σ H => ∃ b, PySem.W.exmOne K cls c = some b ∧ (b = true → ∀ a, H a = none → ts a cls d (endsAs i D) (σ.set i (some (.ref a))) H) ∧ (b = false → wAsL K Wout D r cls d σ H)
/-- the written clauses, one by one -/
inductive AsOk (X : Cx) : List ExceptHandler → List (Value × Nat × (Addr → Value → Option Addr → TS)) → Prop
  | nil : AsOk X [] []
  | cons {x n : Str} {c : Value} {i : Nat} {ts : Addr → Value → Option Addr → TS} {b₀ : Stmt} {suite : List Stmt} {np pos' : Pos} {hds : List ExceptHandler} {l : List (Value × Nat × (Addr → Value → Option Addr → TS))} (hc : Names X x c)
      (hi : X.N[i]? = some n) (hln : X.env.kindOf n = some .local)
      (hsu : ∀ (a : Addr) (oe : Obj) (cls : Value) (d : Option Addr) (pn : List (Addr × Obj)), Zc cls d oe → (∃ vs, oe.data = .fields vs) → PSs (X.suite a ((a, oe) :: pn)) (b₀ :: suite) (ts a cls d)) (r : AsOk X hds l) :
      AsOk X (.ExceptHandler (some (.Name x np)) (some n) (b₀ :: suite) pos' :: hds) ((c, i, ts) :: l)
section
variable {X : Cx} {body : List Stmt} {h₀ : ExceptHandler} {hds : List ExceptHandler} {l : List (Value × Nat × (Addr → Value → Option Addr → TS))} {pos : Pos} {tb : WX → TS} {Wout : WX}
theorem ps_try_asL (hs : X.stack = X.env :: X.outer) (hf : X.env.frame = some X.env.locals) (hN : X.N.Nodup) (tk : Takes X Wout)
    (hb : ∀ (W : WX) (pn : List (Addr × Obj)) (xe : Value → Shared → Prop), Takes (X.tr pn xe) W → PassesOwn (model X.prog X.w) X.A X.env xe → PSs (X.tr pn xe) body (tb W))
    (hh : AsOk X (h₀ :: hds) l) : PS X (.Try body (h₀ :: hds) [] [] pos) (fun D σ H => tb (wAsL X.K Wout D l) D σ H) := by
  refine ⟨fun pins s σ H D I h => ?_⟩
  have ok := I.ok
  have hfr : X.A.frames = some (X.env :: X.outer) := ok.frames.trans (congrArg some hs)
  refine wpAny_Try_except ?_
  refine wpAny_mono ((hb (wAsL X.K Wout D l) (X.pn ++ pins) (fun e s₁ => wpAny (model X.prog X.w) X.A (noteFrame e X.env) (fun _ s₂ => wpAny (model X.prog X.w) X.A (setFlight e none) (fun _ s₃ =>
    wpAny (model X.prog X.w) X.A (handleBy e X.env (h₀ :: hds)) (SP X pins D) X.xe s₃) X.xe s₂) X.xe s₁) (fun u s' xx => ?_) PassesOwn.looking).run [] s σ H D (I.toTry _) h) (fun f s1 hsp => ?_) (fun e s1 he => he)
  · obtain ⟨a, B, sI, pins', σ', H', cls, d, rfl, J', nb, up, sky, na, os, ag, w⟩ := xx
    have J : Inv X pins σ' H' sI := J'.ofTry ok
    have sky' : Sky B (X.env :: X.outer) a (Zc cls d) X.env.locals s'.heap := hs ▸ sky
    show wpAny (model X.prog X.w) X.A (noteFrame (.ref a) X.env) _ _ _
    refine Sky.land Zc.steady hfr hf sky' fun h3 fl3 up3 => ?_
    have up13 := up.trans up3
    have J3 : Inv X pins σ' H' { s' with heap := h3 } := J.landed nb fl3.1 up13 os ag
    obtain ⟨oe3, vs3, he3, hz3, hd3⟩ := fl3.there
    have nfr : a ∉ frs (X.env :: X.outer) := fun hm => by
      obtain ⟨_, o', e', hnf⟩ := fl3.2.2.1.mem hm
      exact hnf _ (by rw [he3] at e'; cases e'; exact hd3)
    have nL : a ≠ X.env.locals := fun z => nfr (List.mem_filterMap.mpr ⟨X.env, List.mem_cons_self, hf.trans (congrArg some z.symm)⟩)
    have nF : a ∉ X.fs := fun hm => by
      obtain ⟨e, he, q⟩ := List.mem_filterMap.mp hm
      exact nfr (List.mem_filterMap.mpr ⟨e, List.mem_cons_of_mem _ he, q⟩)
    have S3 := J3.suite he3 hd3 na nL nF
    have LT : PySem.W.Looks (model X.prog X.w) h3 (typeOf (.ref a)) cls := fun A Q E s k q => wpAny_typeOf_ref (k _ _ he3) (hz3.1.symm ▸ q)
    have go : ∀ {hds' : List ExceptHandler} {l' : List (Value × Nat × (Addr → Value → Option Addr → TS))}, AsOk X hds' l' → wAsL X.K Wout D l' cls d σ' H' →
        wpAny (model X.prog X.w) X.A (handleBy (.ref a) X.env hds') (SP X pins D) X.xe { s' with heap := h3 } := by
      intro hds' l' hk
      induction hk with
      | nil =>
        intro w
        refine wpAny_handleBy_nil ?_
        obtain ⟨k1, k2, k3, oe, vs, T, oT, ts', he, hz, hd, h1, hr⟩ := id fl3
        unfold PySem.passOn
        refine wpAny_bind (wpAny_field he hd h1 ?_)
        rw [if_neg (show ¬ ((Value.ref T == Value.none) = true) from by simp)]
        have fin : wpAny (model X.prog X.w) X.A (setFlight (.ref a) X.env.frame) (fun _ s4 => wpAny (model X.prog X.w) X.A (throw (.ref a) : Sem Flow) (SP X pins D) X.xe s4) X.xe { s' with heap := h3 } := by
          rw [hf]
          exact HandSPX.setFlight_upZ fl3 fun h4 hh4 up4 => wpAny_throw (tk _ _ ⟨a, B, sI, pins, σ', H', cls, d, rfl, J, nb, up13.trans up4, .inr (.inr (by rw [hs]; exact hh4)), na, os, ag, w⟩)
        first
          | exact wpAny_bind (wpAny_pure (wpAny_bind fin))
          | exact wpAny_bind fin
      | @cons x n c i ts b₀ suite np pos' hds2 l2 hc hi hln hsu r ih =>
        intro w
        obtain ⟨b, hb1, hyes, hno⟩ := w
        refine wpAny_handleBy_cons (codeAny_handlers_test ?_) (by intro q; cases q)
        have LM := PySem.W.exm_one (M := model X.prog X.w) (J3.kIn) LT hb1
        have test : ∀ {Q : Value → Shared → Prop} {E : Value → Shared → Prop}, Q c { s' with heap := h3 } → wpAny (model X.prog X.w) (X.A.mark (some (.ref a))) (eval (.Name x np) X.env) Q E { s' with heap := h3 } := fun {Q E} q => by
          obtain ⟨hg, hdbg, hm | ⟨hm, hv, hnn⟩⟩ := hc
          · exact ld_glob (X := X.suite a ((a, oe3) :: (X.pn ++ pins))) S3 hg hm q hdbg
          · exact ld_blt (X := X.suite a ((a, oe3) :: (X.pn ++ pins))) S3 hg hm hv q hnn hdbg
        refine test (LM.here ?_)
        cases b with
        | true =>
          refine codeAny_handlers_suite_as ?_
          refine HandSPX.lands_againZ fl3 fun h4 fl4 up4 => ?_
          have J4 : Inv X pins σ' H' { s' with heap := h4 } := J.landed nb fl4.1 (up13.trans up4) os ag
          obtain ⟨oe4, vs4, he4, hz4, hd4⟩ := fl4.there
          have S4 := J4.suite he4 hd4 na nL nF
          refine store_ok (X := X.suite a ((a, oe4) :: (X.pn ++ pins))) (v := .ref a) S4 hN hi (.inl hln) rfl (fun s5 S5 => ?_) (.inr hln)
          refine wpAny_mono ((hsu a oe4 cls d (X.pn ++ pins) hz4 ⟨_, hd4⟩).run [] s5 _ H' _ S5 (hyes rfl a na)) (fun f s6 hsp => ?_) (fun _ _ z => False.elim z)
          have done_ : ∀ {σ6 : L2.St} {H6 : Hp} {Q : Shared → Prop}, Inv (X.suite a ((a, oe4) :: (X.pn ++ pins))) [] σ6 H6 s6 → (∀ s7, Inv X pins (σ6.set i none) H6 s7 → Q s7) →
              wpAny (model X.prog X.w) X.A (do bindName X.env n .none; unbindBehindTheSuite X.env n pos') (fun _ s7 => Q s7) X.xe s6 := fun {σ6 H6 Q} S6 hq => gone_ok (S6.unsuite ok) hN hi hln hq
          match f, hsp with
          | .next, ⟨σ6, H6, S6, q6⟩ => exact done_ S6 fun s7 J7 => ⟨_, _, J7, q6⟩
          | .brk, ⟨σ6, H6, S6, q6⟩ => exact done_ S6 fun s7 J7 => ⟨_, _, J7, q6⟩
          | .cont, ⟨σ6, H6, S6, q6⟩ => exact done_ S6 fun s7 J7 => ⟨_, _, J7, q6⟩
          | .ret u, ⟨v6, σ6, H6, S6, r6, q6⟩ => exact done_ S6 fun s7 J7 => ⟨_, _, _, J7, r6, q6⟩
        | false =>
          show wpAny _ X.A (handleBy (.ref a) X.env hds2) _ _ _
          exact ih (hno rfl)
    exact go hh w
  · match f, hsp with
    | .next, ⟨σ', H', J', q⟩ => exact wpAny_execs_nil ⟨σ', H', J'.ofTry ok, q⟩
    | .brk, ⟨σ', H', J', q⟩ => exact ⟨σ', H', J'.ofTry ok, q⟩
    | .cont, ⟨σ', H', J', q⟩ => exact ⟨σ', H', J'.ofTry ok, q⟩
    | .ret u, ⟨v, σ', H', J', r, q⟩ => exact ⟨v, σ', H', J'.ofTry ok, r, q⟩
end
end XT

namespace XT
open PySem PySem.Spec PyProof.Rows L2
/-! ### repr of data -/
mutual
/-- what the text of d may come to -/
def sc : PyData → Nat
  | .none | .bool _ => 5
  | .int _ => 1921
  | .str x => 10 * x.length + 2
  | .list xs | .tuple xs => scAll xs + 3
  | .dict _ => 2
def scAll : List PyData → Nat
  | [] => 0
  | x :: xs => sc x + 2 + scAll xs
end
mutual
/-- data whose text is known: ints not too big, dicts empty -/
def plainD : PyData → Bool
  | .none | .bool _ => true
  | .int i => decide (i.natAbs.log2 < 1920)
  | .str x => x.cps.toList.all fun c => decide (c < 16 ^ 8)
  | .list xs | .tuple xs => plainAll xs
  | .dict kvs => kvs.isEmpty
def plainAll : List PyData → Bool
  | [] => true
  | x :: xs => plainD x && plainAll xs
end
mutual
theorem plain_showable : ∀ d : PyData, plainD d = true → d.showable = true
  | .none, _ => by simp [PyData.showable]
  | .bool _, _ => by simp [PyData.showable]
  | .int i, h => by simpa [PyData.showable, plainD] using h
  | .str _, _ => by simp [PyData.showable]
  | .list xs, h => by
    simp only [PyData.showable]
    exact plainAll_showable xs (by simpa [plainD] using h)
  | .tuple xs, h => by
    simp only [PyData.showable]
    exact plainAll_showable xs (by simpa [plainD] using h)
  | .dict [], _ => by simp [PyData.showable, PyData.showableKv]
  | .dict (_ :: _), h => by simp [plainD] at h
theorem plainAll_showable : ∀ xs : List PyData, plainAll xs = true → PyData.showableAll xs = true
  | [], _ => by simp [PyData.showableAll]
  | x :: xs, h => by
    have h' : plainD x = true ∧ plainAll xs = true := by simpa [plainAll] using h
    simp only [PyData.showableAll, Bool.and_eq_true]
    exact ⟨plain_showable x h'.1, plainAll_showable xs h'.2⟩
end
mutual
theorem shown_sc : ∀ d : PyData, plainD d = true → d.shown.length ≤ sc d
  | .none, _ => by decide +kernel
  | .bool true, _ => by decide +kernel
  | .bool false, _ => by decide +kernel
  | .int i, h => by
    have e : i.natAbs.log2 < 1920 := by simpa [plainD] using h
    have := PySem.int_text_length_le (k := 1920) (by decide) e
    show (Str.ofString (toString i)).length ≤ 1921
    rw [PySem.ofString_length]
    exact this
  | .str x, h => by
    simp only [sc, PyData.shown]
    refine StrLaws.reprText_len x ?_
    unfold plainD at h
    rw [List.all_eq_true] at h
    exact fun c hc => of_decide_eq_true (h c hc)
  | .list xs, h => by
    simp only [sc, PyData.shown]
    have := shownAll_sc xs (by simpa [plainD] using h)
    have := listText_len_le (PyData.shownAll xs)
    omega
  | .tuple xs, h => by
    simp only [sc, PyData.shown]
    have := shownAll_sc xs (by simpa [plainD] using h)
    have := tupleText_len_le (PyData.shownAll xs)
    omega
  | .dict [], _ => by decide +kernel
  | .dict (_ :: _), h => by simp [plainD] at h
theorem shownAll_sc : ∀ xs : List PyData, plainAll xs = true → ((PyData.shownAll xs).map (·.length)).sum + 2 * (PyData.shownAll xs).length ≤ scAll xs
  | [], _ => by simp [PyData.shownAll, scAll]
  | x :: xs, h => by
    have h' : plainD x = true ∧ plainAll xs = true := by simpa [plainAll] using h
    have h1 := shown_sc x h'.1
    have h2 := shownAll_sc xs h'.2
    simp only [PyData.shownAll, scAll, List.map_cons, List.sum_cons, List.length_cons]
    omega
end
theorem scAll_ints (L : List Int) : scAll (L.map PyData.int) = 1923 * L.length := by
  induction L with
  | nil => rfl
  | cons x L ih => simp only [List.map_cons, scAll, ih, sc, List.length_cons]; omega
theorem log2_lt_of {m : Nat} (h : m < 2 ^ 1920) : m.log2 < 1920 := by
  by_cases e : m = 0
  · subst e
    decide
  · exact (Nat.log2_lt e).mpr h
theorem plainAll_ints {L : List Int} (h : ∀ x ∈ L, x.natAbs < 2 ^ 1920) : plainAll (L.map PyData.int) = true := by
  induction L with
  | nil => rfl
  | cons x L ih =>
    simp only [List.map_cons, plainAll, Bool.and_eq_true]
    refine ⟨?_, ih fun y hy => h y (List.mem_cons_of_mem _ hy)⟩
    simp only [plainD, decide_eq_true_eq]
    exact log2_lt_of (h x List.mem_cons_self)
/-- x stands for the data d: flat and nested lists and tuples; an empty dict alone, or second in a pair -/
def Rd (K : PySem.W.Frag) (H : Hp) (x : V) (d : PyData) : Prop :=
  (Dp K H x d ∧ d.hasDict = false) ∨ (∃ a, x = .ref a ∧ H a = some (.dK []) ∧ d = .dict []) ∨ ∃ (a b : Addr) (i : Int), x = .ref a ∧ SqT K H a [.int i, .ref b] ∧ H b = some (.dK []) ∧ d = .tuple [.int i, .dict []]
section
variable {X : Cx} {pins : List (Addr × Obj)} {σ : L2.St} {H : Hp} {s : Shared}
theorem emp_reads {a : Addr} (I : Inv X pins σ H s) (h : H a = some (.dK [])) : Reads s.heap (.ref a) (.dict []) [a] ∧ a ≠ sysModules := by
  obtain ⟨_, hs, vs, hkv, o, es, ep, ho, hx, hd, _, hp, _⟩ := I.hok a _ h
  have ev : vs = [] := by cases hkv; rfl
  subst ev
  have ee : es.toList = [] := by
    first
      | (cases hp; assumption)
      | (have := hp.length; simpa using this)
      | (generalize es.toList = l at hp; cases hp; rfl)
  refine ⟨?_, fun z => by subst z; simp at hs⟩
  have z := Reads.dict (kvs := []) (as := []) (bs := []) ho hx.1 hd (by rw [ee]; exact .nil) (by rw [ee]; exact .nil)
  simpa using z
theorem Rd.reads {x : V} {u : Value} {d : PyData} (I : Inv X pins σ H s) (h : Rd X.K H x d) (r : RelV x u) : ∃ as, Reads s.heap u d as ∧ (d.hasDict = true → sysModules ∉ as) := by
  rcases h with ⟨h, hn⟩ | ⟨a, rfl, h, rfl⟩ | ⟨a, b, i, rfl, ht, h, rfl⟩
  · obtain ⟨as, q⟩ := Dp.reads I d x u h r
    exact ⟨as, q, PyData.noDict_hsm hn⟩
  · cases r
    obtain ⟨q, ne⟩ := emp_reads I h
    exact ⟨_, q, fun _ z => ne (List.mem_singleton.mp z).symm⟩
  · cases r
    obtain ⟨q, ne⟩ := emp_reads I h
    obtain ⟨its, rv, ⟨o, ho, hc, n, hd⟩, _⟩ := I.tuple ht
    cases rv with
    | cons r1 rr =>
      cases rr with
      | cons r2 rr =>
        cases rr
        obtain ⟨t, rfl⟩ := r1
        cases r2
        refine ⟨_, Reads.tuple ho hc hd (.cons (.int i t) (.cons q .nil)), fun _ z => ?_⟩
        simp at z
        exact ne z.symm
/-- repr(x) of data -/
def rReprD (K : PySem.W.Frag) : List V → Hp → VK → Prop := fun xs H Q => ∃ x d, xs = [x] ∧ Rd K H x d ∧ plainD d = true ∧ d.depth ≤ 50 ∧ sc d ≤ 16000000 ∧ Q (.str d.shown) H
theorem call_reprD (hg : X.A.guards = some []) (hu : X.A.units + 64 < cLine) : CallR X (.builtin "repr") (rReprD X.K) := by
  intro pins s σ H xs us Q I r h
  obtain ⟨x, d, rfl, hr, hp, hd, hz, q⟩ := h
  obtain ⟨u, rfl, ru⟩ := r.one
  obtain ⟨as, hre, hsm⟩ := hr.reads I ru
  have hsz : d.shown.length ≤ sizeLine := by
    have := shown_sc d hp
    rw [sizeLine_eq]
    omega
  have fin : ∀ h' v tk, (∀ b o, s.heap.get? b = some o → h'.get? b = some o) → EP X pins σ Q (.str d.shown v) { s with heap := h', toks := tk } := fun h' v tk k => ⟨.str d.shown, H, I.kept (t' := tk) k, ⟨v, rfl⟩, q⟩
  cases hre with
  | none => exact PySem.P.repr_of_none (fin s.heap _ _ fun _ _ z => z)
  | bool b => exact PySem.P.repr_of_bool (by cases b <;> exact fin s.heap _ _ fun _ _ z => z)
  | int i t => exact PySem.P.repr_of_int (by simpa [plainD] using hp) (fin s.heap _ _ fun _ _ z => z)
  | str y t => exact PySem.P.repr_of_str (fin s.heap _ _ fun _ _ z => z) hsz
  | list h1 h2 h3 h4 => exact repr_of_reads' (.list h1 h2 h3 h4) (plain_showable _ hp) hsm hg (by omega) (fun _ _ z => z) fin hsz
  | tuple h1 h2 h3 h4 => exact repr_of_reads' (.tuple h1 h2 h3 h4) (plain_showable _ hp) hsm hg (by omega) (fun _ _ z => z) fin hsz
  | dict h1 h2 h3 h4 h5 => exact repr_of_reads' (.dict h1 h2 h3 h4 h5) (plain_showable _ hp) hsm hg (by omega) (fun _ _ z => z) fin hsz
end
end XT

namespace XT
open PySem PySem.Spec PyProof.Rows L2
/-! ### the law's call, no repr under way at its start -/
section
variable {P : Program} {w : World} {K : PySem.W.Frag} {mg mb : Str → Option Value} {CX : CXT} {k : Nat} {fa a : Addr} {sp : Sp} {s₁ : Shared} {vs : List Value} {ns : List Int}
/-- from one abstract heap: nothing but the script is tracked -/
theorem law_coreG (H : Hp) (KX : K.In s₁.heap) (hns : s₁.heap.Ns mainGlobals mg) (hb : s₁.heap.Ns builtinsNs mb) (hbb : ∀ x : Str, x ≠ "__name__" → mb x = bootBuiltins x) (hlim : s₁.heap.NoLimit) (hg : s₁.gens = #[])
    (ha : s₁.heap.get? a = some { cls := .type "list", data := .seq vs.toArray }) (hr : Room k callerA)
    (F : ∀ base : Heap, K.In base → base.Ns mainGlobals mg → FnG P w K mg base CX k fa sp)
    (hq : sp [.ref a] H (fun v _ => v = .bl true) fun _ _ _ => False) (hCX : ∀ H e s', CX [] H s₁ (fun _ _ _ => False) e s' → False)
    (hO : Only H) (hok : HOk P w H s₁.heap) (hA : ∀ b, H b ≠ none → b = a) (hK : H a ≠ none → K.lookup a = none) :
    codeAny (model P w) callerA (.call (.ref fa) ⟨[.ref a], []⟩) (fun r s' => r = .ok (.ret (.bool true)) ∧ OldK s₁.heap s'.heap ∧ s'.os = s₁.os ∧ AllBare s'.gens) s₁ := by
  have free : ∀ {b : Addr}, (b = a → False) → H b = none := fun {b} h => by
    by_cases q : H b = none
    · exact q
    · exact (h (hA b q)).elim
  have noA : ∀ {b : Addr} {o : Obj} {es : Array DictEntry} {ep : Nat}, s₁.heap.get? b = some o → o.data = .dict es ep → H b = none := fun {b o es ep} e d => free fun z => by
    subst z
    rw [ha] at e
    cases e
    have d' : Data.seq vs.toArray _ = Data.dict es ep := d
    cases d'
  have hKb : K.In (hidT s₁.heap H) := fun b o e => hidT_get (KX b o e) (by
    by_cases q : H b = none
    · exact q
    · have z := hA b q
      subst z
      rw [hK q] at e
      cases e)
  have nsK : ∀ {b : Addr} {m : Str → Option Value}, s₁.heap.Ns b m → (hidT s₁.heap H).Ns b m := fun {b m} ⟨o, es, ep, e, d, r⟩ => ⟨o, es, ep, hidT_get e (noA e d), d, r⟩
  have hM : Mod K mg (hidT s₁.heap H) := ⟨hKb, nsK hns, ⟨mb, nsK hb, hbb⟩, let ⟨mc, h1, h2⟩ := hlim; ⟨mc, nsK h1, h2⟩⟩
  have e0 : Env0 P w K mg (hidT s₁.heap H) callerA [] s₁ H := ⟨rfl, hM, fun b o e => of_hidT e, Nat.le_of_eq (hidT_size _ _), trivial, fun b hb => absurd (show b ∈ ([] : List Addr) from hb) (by simp), hok, .of_eq hg⟩
  refine codeAny_mono (F _ hKb (nsK hns) callerA [] s₁ H [.ref a] [.ref a] _ _ rfl hr e0 (.cons rfl .nil) hq) fun r s' h => ?_
  match r, h with
  | .error e, h => exact (hCX H e s' h).elim
  | .ok (.ret u), ⟨v, H', os, bare, un, hok', r', q⟩ =>
    have q' : v = .bl true := q
    subst q'
    obtain rfl : u = Value.bool true := r'
    refine ⟨rfl, OldK.of_keep fun b o e => ?_, os, bare⟩
    cases q : H b with
    | none => exact un.keep b o e q (by intro z; exact absurd (show b ∈ ([] : List Addr) from z) (by simp)) (by simp)
    | some u =>
      rcases hO b with z | ⟨ob, xs, z⟩
      · rw [q] at z
        cases z
      · obtain ⟨e1, _⟩ := hok b _ z
        obtain ⟨e2, _⟩ := hok' b _ (un.frzs b ob _ z)
        rw [e] at e1
        cases e1
        exact e2
theorem law_callG (KX : K.In s₁.heap) (hns : s₁.heap.Ns mainGlobals mg) (hb : s₁.heap.Ns builtinsNs mb) (hbb : ∀ x : Str, x ≠ "__name__" → mb x = bootBuiltins x) (hlim : s₁.heap.NoLimit) (hg : s₁.gens = #[])
    (ha : s₁.heap.get? a = some { cls := .type "list", data := .seq vs.toArray }) (hi : IntsAre vs ns) (hl : ns.length ≤ sizeLine) (hr : Room k callerA)
    (F : ∀ base : Heap, K.In base → base.Ns mainGlobals mg → FnG P w K mg base CX k fa sp)
    (hsp : ∀ H : Hp, Only H → SqL K H a (ns.map V.int) → sp [.ref a] H (fun v _ => v = .bl true) fun _ _ _ => False)
    (hCX : ∀ H e s', CX [] H s₁ (fun _ _ _ => False) e s' → False) :
    codeAny (model P w) callerA (.call (.ref fa) ⟨[.ref a], []⟩) (fun r s' => r = .ok (.ret (.bool true)) ∧ OldK s₁.heap s'.heap ∧ s'.os = s₁.os ∧ AllBare s'.gens) s₁ := by
  have rv := vals_ints hi
  have lenV := hi.length
  cases hk : K.lookup a with
  | some o =>
    have e := KX a o hk
    rw [ha] at e
    cases e
    have hO : Only fun _ => none := fun _ => .inl rfl
    exact law_coreG (fun _ => none) KX hns hb hbb hlim hg ha hr F (hsp _ hO (.inr ⟨_, vs.toArray, _, hk, rfl, rfl, rfl, by rw [List.size_toArray, lenV]; exact hl, by simpa using rv⟩)) hCX hO (fun b u z => nomatch (show (none : Option HO) = some u from z)) (fun b z => absurd rfl z) fun z => absurd rfl z
  | none =>
    let o : HO := .frz { cls := .type "list", data := .seq vs.toArray } (.lst (ns.map V.int))
    let H : Hp := fun b => if b = a then some o else none
    have at_ : H a = some o := if_pos rfl
    have off : ∀ {b}, b ≠ a → H b = none := fun h => if_neg h
    have hO : Only H := fun b => by
      by_cases e : b = a
      · subst e
        exact .inr ⟨_, _, at_⟩
      · exact .inl (off e)
    refine law_coreG H KX hns hb hbb hlim hg ha hr F (hsp H hO (.inl (.inr ⟨_, at_⟩))) hCX hO (fun b u z => ?_) (fun b z => ?_) fun _ => hk
    · by_cases e : b = a
      · subst e
        rw [at_] at z
        cases z
        exact ⟨ha, by rw [List.length_map]; exact hl, vs, _, rv, ha⟩
      · rw [off e] at z
        cases z
    · by_cases e : b = a
      · exact e
      · exact absurd (off e) z
end
/-- the goal of the head, from the law's promise -/
theorem walkG {l : PySem.W.OpenLaw} {n k : Nat} {q : Program} {loose : List Str} {XP : (Str → Option Value) → Heap → Prop} {YP : World → Heap → Prop} {d : DefRec} {K : Params → PySem.W.Frag} {CX : World → CXT} {sp : World → Sp}
    (hn : l.most = some n) (hn2 : n ≤ sizeLine) (hdf : d.params.defaults = []) (hr : Room k callerA)
    (hY : ∀ (w : World) (h : Heap), YP w h → (K w.params).In h)
    (F : ∀ (w : World) (mg : Str → Option Value) (fa : Addr) (h : Heap), (K w.params).In h → h.Ns mainGlobals mg → mg d.name = some (.ref fa) →
      ∀ base : Heap, (K w.params).In base → base.Ns mainGlobals mg → FnG l.prog w (K w.params) mg base (CX w) k fa (sp w))
    (hsp : ∀ (w : World) (H : Hp) (a : Addr) (ns : List Int), ns.length ≤ n → Only H → SqL (K w.params) H a (ns.map V.int) → sp w [.ref a] H (fun v _ => v = .bl true) fun _ _ _ => False)
    (hCX : ∀ (w : World) (H : Hp) (s : Shared) (e : Value) (s' : Shared), CX w [] H s (fun _ _ _ => False) e s' → False) :
    PySem.W.WalkO q loose XP YP l.row.toRowW d [] (fun f vs => PySem.call f vs) := by
  refine Att.attach_call hn hdf fun w s₀ s₁ mg mb fa o pm cd doc a vs ns G Y ho hd hcd hmg hobj hints hlen hg => ?_
  have KX := hY w _ Y
  exact law_callG KX G.T.g G.T.b G.T.builtins G.T.nolimit hg hobj hints (Nat.le_trans hlen hn2) hr (F w mg fa _ KX G.T.g hmg) (fun H hO hS => hsp w H a ns hlen hO hS) fun H e s' => hCX w H s₁ e s'
end XT

namespace XT
open PySem PySem.Spec PyProof.Rows L2
/-! ### own errors that keep one field -/
section
variable {X : Cx}
/-- isinstance(e, c), e the exception that the suite holds, with a dict of its own -/
def rIsED (K : PySem.W.Frag) (D a : Addr) (cls : Value) (d : Option Addr) : List V → Hp → VK → Prop := fun xs H Q => ∃ (c : V) (cv : Value) (b : Bool) (dd : Addr) (fs : List (Str × V)), xs = [.ref a, c] ∧ cls = .ref D ∧ (∀ u, RelV c u → u = cv) ∧ d = some dd ∧ H dd = some (.xd fs) ∧ PySem.W.kitOne K (.ref D) cv = some b ∧ Q (.bl b) H
theorem call_isED {a D : Addr} {oe : Obj} {cls : Value} {d : Option Addr} {pn : List (Addr × Obj)} (C : ExcC X.K D) (hz : Zc cls d oe) (hf : ∃ vs, oe.data = .fields vs) : CallR (X.suite a ((a, oe) :: pn)) (.builtin "isinstance") (rIsED X.K D a cls d) := by
  intro pins s σ H xs us Q I r h
  obtain ⟨c, cv, b, dd, fs, rfl, rfl, hcv, rfl, ed, e, q⟩ := h
  cases r with
  | cons rx rr =>
    cases rr with
    | cons rt rr =>
      cases rr
      cases rx
      have ec := hcv _ rt
      subst ec
      obtain ⟨hget, _⟩ := I.pin (a, oe) (List.mem_append.mpr (.inl List.mem_cons_self))
      obtain ⟨vs, hv⟩ := hf
      obtain ⟨mA, hns, hr⟩ := show ∃ mA, s.heap.Ns1 dd mA ∧ ∀ f, RelO (fs.lookup f) (mA f) from I.hok dd _ ed
      obtain ⟨od, ho, _⟩ := lookIn_ns hns
      have J : PySem.W.InstAt s.heap a oe D (some od) := ⟨hget, hz.1, by unfold PySem.W.notCls; rw [hv] <;> rfl, by rw [hz.2]; exact ho⟩
      have hc : (PySem.W.clsIn X.K D).isSome = true := by
        obtain ⟨cd, hc, _⟩ := PySem.W.any_some C.hd
        rw [hc]
        rfl
      exact PySem.W.kia_one (PySem.W.kitx_exc hc C.hg C.hk C.hs C.ha C.hn C.ht C.hm) I.kIn J e (fun z => nomatch z) fun tk => ⟨.bl b, H, I.kept (t' := tk) fun _ _ z => z, rfl, q⟩
end
/-- the __init__ of such an error: self.f = v -/
def spErr (f : Str) (C : Addr) : Sp := fun vs H Q _ => ∃ (a : Addr) (v : V), vs = [.ref a, v] ∧ H a = some (exo a C none) ∧ ∀ d, H d = none → d ≠ a → Q .non (upd (upd H d (exd d [(f, v)])) a (exo a C (some d)))
/-- what the written part says of such an error -/
structure ErrC (K : PySem.W.Frag) (C fI : Addr) (f : Str) : Prop where
  oex : OexC K C
  iC : PySem.W.findIn K (.ref C) "__init__" = some (some (.ref fI))
  tI : PySem.W.typeIn K (.ref fI) = some (.type "function")
  no : PySem.W.findIn K (.ref C) f = some none
  ga : PySem.W.findIn K (.ref C) "__getattribute__" = some (some (.builtin "BaseException.__getattribute__"))
  gg : PySem.W.findIn K (.ref C) "__getattr__" = some none
  hd : PySem.W.hasDictIn K C = true
  ha : PySem.W.findIn K (.ref C) "__class__" = some (some (.builtin "object.__class__"))
  hn : PySem.W.specialIn K (.builtin "object.__class__") "__get__" = some (some (.builtin "getset_descriptor.__get__"))
  ht : PySem.W.takesIn K (.builtin "object.__class__") = some true
  hm : PySem.W.mroIn K C (.type "object") = some true
theorem ErrC.xf {K : PySem.W.Frag} {C fI : Addr} {f : Str} (T : ErrC K C fI f) : XfC K C := ⟨T.ga, T.gg, T.oex.exC, T.hd⟩
theorem ErrC.exc {K : PySem.W.Frag} {C fI : Addr} {f : Str} (T : ErrC K C fI f) : ExcC K C := ⟨T.ga, T.gg, T.oex.exC, T.hd, T.ha, T.hn, T.ht, T.hm⟩
theorem made_same {H : Hp} {a d C : Addr} {f : Str} {v : V} (ha : H a = none) (hd : d ≠ a) :
    upd (del (upd (upd (upd H a (exo a C none)) d (exd d [(f, v)])) a (exo a C (some d))) a) d (.xd [(f, v)]) = upd H d (.xd [(f, v)]) := by
  funext b
  by_cases e1 : b = d
  · subst e1
    rw [upd_same, upd_same]
  · rw [upd_ne e1, upd_ne e1]
    by_cases e2 : b = a
    · subst e2
      rw [del_same, ha]
    · rw [del_ne e2, upd_ne e2, upd_ne e1, upd_ne e2]
section
variable {X : Cx}
/-- C(e), the error made -/
def tErr (C : Addr) (f : Str) (te : TE) : L2.St → Hp → XK → Prop := fun σ H Q => te σ H fun v H1 => tMkO C (spErr f C) [] (fun _ H Q => Q [v] H) σ H1 Q
theorem err_rd {C : Addr} {f : Str} {v : V} {σ : L2.St} {H : Hp} {Q : XK} (h : ∀ d, H d = none → Q (.ref C) (some d) (upd H d (.xd [(f, v)]))) : tMkO C (spErr f C) [] (fun _ H Q => Q [v] H) σ H Q := by
  refine ⟨by simp, fun a ha => ⟨a, v, rfl, upd_same, fun d hd hne => ⟨rfl, d, [(f, v)], upd_same, ?_, ?_, ?_⟩⟩⟩
  · rw [upd_ne hne, upd_same]
  · rw [upd_ne hne] at hd
    exact hd
  · have hd' : H d = none := by
      rw [upd_ne hne] at hd
      exact hd
    rw [made_same ha hne]
    exact h d hd'
theorem pmk_err {x : Str} {C fI : Addr} {f : Str} {k : Nat} {fd : FuncData} {ps : List Str} {e : Expr} {te : TE} {p pos : Pos} (T : ErrC X.K C fI f) (F1 : FnOk X.prog X.w X.K X.mg X.base CX0 k fI fd ps (spErr f C)) (hb : Binds X.K fd ps []) (hr : Room (k + 1) X.A)
    (hg : Gl X x) (hm : X.mg x = some (.ref C)) (he : PE X e te) (hdb : (x == ("__debug__" : Str)) = false := by decide)
    (hs : starEach [e] X.env = (false, eval e X.env) :: starEach [] X.env := by rfl) (hpl : (backTo pos (starEach [] X.env)).any (·.1) = false := by rfl) :
    PMk X (.Call (.Name x p) [e] [] pos) (tErr C f te) :=
  pmk_oex T.oex T.iC T.tI F1 hr hb .nil pass0 hg hm (pa_cons he pa_nil hs) hdb hs hpl
/-- raise C(e) in a def -/
theorem ps_raiseE {W : WX} {x : Str} {C fI : Addr} {f : Str} {k : Nat} {fd : FuncData} {ps : List Str} {e : Expr} {te : TE} {p pos rpos : Pos} (T : ErrC X.K C fI f) (F1 : FnOk X.prog X.w X.K X.mg X.base CX0 k fI fd ps (spErr f C)) (hb : Binds X.K fd ps []) (hr : Room (k + 1) X.A)
    (hm : X.mg x = some (.ref C)) (hc : X.calm = true) (tk : Takes X W) (he : PE X e te) (hg : Gl X x := by rfl) (hdb : (x == ("__debug__" : Str)) = false := by decide)
    (hs : starEach [e] X.env = (false, eval e X.env) :: starEach [] X.env := by rfl) (hpl : (backTo pos (starEach [] X.env)).any (·.1) = false := by rfl) :
    PS X (.Raise (some (.Call (.Name x p) [e] [] pos)) none rpos) (fun _ σ H => tErr C f te σ H fun cls d H' => W cls d σ H') :=
  ps_raise hc tk (pmk_err T F1 hb hr hg hm he hdb hs hpl)
end
end XT

namespace XT
open PySem PySem.Spec PyProof.Rows L2
section
variable {P : Program} {w : World} {K : PySem.W.Frag} {mg : Str → Option Value} {base : Heap} {CX : CXT} {j k : Nat} {f : Addr} {sp sp' : Sp}
/-- a def that lets nothing out, where something may be let out -/
theorem fnR_lift (F : FnR P w K mg base CX0 k f sp) : FnR P w K mg base CX k f sp := fun A outer s H us vs Q E hr e0 r hs =>
  codeAny_mono (F A outer s H us vs Q E hr e0 r hs) fun r s' h => by
    match r, h with
    | .ok (.ret u), h => exact h
    | .error e, h => exact False.elim h
theorem fnR_or (F : FnR P w K mg base CX k f sp) (G : FnR P w K mg base CX k f sp') : FnR P w K mg base CX k f (fun vs H Q E => sp vs H Q E ∨ sp' vs H Q E) := fun A outer s H us vs Q E hr e0 r hs =>
  hs.elim (fun h => F A outer s H us vs Q E hr e0 r h) (fun h => G A outer s H us vs Q E hr e0 r h)
end
/-- what a call in a try may let out: told for all slots -/
theorem passAll {X : Cx} {W : WX} (tk : Takes X W) (n : Nat) (hn : X.N.length = n) : Passes (L2.CX X.prog X.w) X (fun cls d H => ∀ σ : L2.St, σ.length = n → W cls d σ H) :=
  fun _ σ _ _ e s' I c => tk e s' (XE.of_call I (fun _ _ _ h => h σ (I.len.trans hn)) c)
mutual
theorem dp_same {K : PySem.W.Frag} {H H' : Hp} (s : Same H H') : ∀ (d : PyData) (v : V), Dp K H v d → Dp K H' v d
  | .none, _, h => by cases h; exact .non
  | .bool b, _, h => by cases h; exact .bl b
  | .int i, _, h => by cases h; exact .int i
  | .str x, _, h => by cases h; exact .str x
  | .list ds, _, h => by
    cases h with
    | lst hs ha => exact .lst (s.seq hs) (dpAll_same s ds _ ha)
  | .tuple ds, _, h => by
    cases h with
    | tup hs ha => exact .tup (same_seqT s hs) (dpAll_same s ds _ ha)
  | .dict _, _, h => by cases h
theorem dpAll_same {K : PySem.W.Frag} {H H' : Hp} (s : Same H H') : ∀ (ds : List PyData) (vs : List V), DpAll K H vs ds → DpAll K H' vs ds
  | [], _, h => by cases h; exact .nil
  | d :: ds, _, h => by
    cases h with
    | cons h1 h2 => exact .cons (dp_same s d _ h1) (dpAll_same s ds _ h2)
end
theorem rd_same {K : PySem.W.Frag} {H H' : Hp} (s : Same H H') {v : V} {d : PyData} (h : Rd K H v d) : Rd K H' v d := by
  rcases h with ⟨h, n⟩ | ⟨a, e, h, e2⟩ | ⟨a, b, i, e, h1, h2, e2⟩
  · exact .inl ⟨dp_same s d v h, n⟩
  · exact .inr (.inl ⟨a, e, s _ _ h, e2⟩)
  · exact .inr (.inr ⟨a, b, i, e, same_seqT s h1, s _ _ h2, e2⟩)
/-- data whose text may be asked for -/
structure Okd (d : PyData) : Prop where
  pl : plainD d = true
  dp : d.depth ≤ 50
  sz : sc d ≤ 16000000
theorem repr_rd {K : PySem.W.Frag} {x : V} {d : PyData} {H : Hp} {Q : VK} (h : Rd K H x d) (o : Okd d) (q : Q (.str d.shown) H) : rReprD K [x] H Q := ⟨x, d, rfl, h, o.pl, o.dp, o.sz, q⟩
section
variable {X : Cx} (K : PySem.W.Frag)
theorem reprKx (hg : X.A.guards = some []) (hu : X.A.units + 64 < cLine) (hK : X.K = K := by rfl) : CallR X (.builtin "repr") (rReprD K) := by
  subst hK
  exact call_reprD hg hu
theorem isEKx {a D : Addr} {oe : Obj} {cls : Value} {d : Option Addr} {pn : List (Addr × Obj)} (C : ExcC K D) (hz : Zc cls d oe) (hf : ∃ vs, oe.data = .fields vs) (hK : X.K = K := by rfl) : CallR (X.suite a ((a, oe) :: pn)) (.builtin "isinstance") (rIsED K D a cls d) := by
  subst hK
  exact call_isED C hz hf
end
section
variable {X : Cx}
/-- f(e, ..), f an expression that gives a tracked instance of C -/
def tCallI (C : Addr) (sp : Sp) (E : XK) (tf : TE) (t : TA) : TE := fun σ H Q => tf σ H fun y H1 => ∃ a, y = V.ref a ∧ t σ H1 fun vs H2 => InsA H2 a C ∧ sp (V.ref a :: vs) H2 Q E
theorem pe_callI {CX : CXT} {C : Addr} {k : Nat} {sp : Sp} {E : XK} {fe e : Expr} {es : List Expr} {tf : TE} {t : TA} {pos : Pos} {g : Addr} (hf : PE X fe tf) (c : StX.CallO X.K C g) (F : FnR X.prog X.w X.K X.mg X.base CX k g sp) (hr : Room k X.A) (hx : Passes CX X E) (ha : PA X (e :: es) t)
    (ht : eval (.Call fe (e :: es) [] pos) X.env = (do callWith pos (← eval fe X.env) [] (backTo pos (starEach (e :: es) X.env)) (backToKw pos (keywordEach [] X.env))) := by rfl)
    (he : starEach (e :: es) X.env = (false, eval e X.env) :: starEach es X.env := by rfl) (hpl : (backTo pos (starEach es X.env)).any (·.1) = false := by rfl) : PE X (.Call fe (e :: es) [] pos) (tCallI C sp E tf t) := by
  refine ⟨fun pins s σ H Q I h => ?_⟩
  refine Call_ (thn (hf.run pins s σ H _ I h) fun u s1 ⟨y, H1, I1, ry, a, ey, q⟩ => ?_) ht
  subst ey
  obtain rfl : u = Value.ref a := ry
  refine StX.callO_with (thn (ha.run pos pins s1 σ H1 _ I1 q) fun us s2 ⟨vs, H2, I2, r, hi, q2⟩ => ?_) he hpl
  have hi' : StX.InsC X H2 a C := let ⟨dx, fs, h⟩ := hi; .inr ⟨dx, fs, h⟩
  obtain ⟨ox, od, J, hd⟩ := StX.insC_at I2 hi'
  exact ⟨⟨C, ox, od, J, hd⟩, StX.run_callO c F hr hx I2 hi' r q2⟩
/-- f(e, ..), f a global def with a promise where no repr is under way -/
theorem pe_callG {CX : CXT} {k : Nat} {f : Addr} {sp : Sp} {E : XK} {x : Str} {e : Expr} {es : List Expr} {t : TA} {p pos : Pos} (F : FnG X.prog X.w X.K X.mg X.base CX k f sp) (hgu : X.A.guards = some []) (hr : Room k X.A) (hg : Gl X x) (hm : X.mg x = some (.ref f)) (hk : PySem.W.keepIn X.K (.ref f) = true) (hx : Passes CX X E) (ha : PA X (e :: es) t) (hd : (x == ("__debug__" : Str)) = false := by decide)
    (he : starEach (e :: es) X.env = (false, eval e X.env) :: starEach es X.env := by rfl) (hst : (backTo pos (starEach es X.env)).any (·.1) = false := by rfl) :
    PE X (.Call (.Name x p) (e :: es) [] pos) (tCallR sp E t) := by
  refine ⟨fun pins s σ H Q I h => ?_⟩
  refine wpAny_Call_Name_kw (ld_glob I hg hm ?_ hd)
  refine PySem.W.callWith_K (h₀ := X.base) I.ok.mod.kin hk (thn (ha.run pos pins s σ H _ I h) fun us s1 ⟨vs, H1, I1, r, q⟩ => ⟨I1.kIn, ?_⟩) he hst
  refine wpAny_call (codeAny_mono (F X.A X.stack s1 H1 us vs Q E hgu hr I1.env0 r q) fun r s' hq => ?_)
  match r, hq with
  | .error e, hq => exact hx pins σ H1 s1 e s' I1 hq
  | .ok (.ret u), hq => exact I1.after hq
end
end XT

namespace XT
open PySem PySem.Spec PyProof.Rows L2
section
variable {X : Cx} (K : PySem.W.Frag)
/-- x == y, x of an own class with __eq__, y of another type -/
def rOwnEo (K : PySem.W.Frag) (C : Addr) (sp : Sp) (E : XK) : R2 := fun x y H Q => ∃ a t, x = .ref a ∧ InsA H a C ∧ TyX K H y t ∧ PySem.W.notFirst K C t = true ∧ sp [x, y] H Q E
theorem op_ownEo {CX : CXT} {n : Nat} {C g : Addr} {sp : Sp} {E : XK} (hs : PySem.W.findIn X.K (.ref C) "__eq__" = some (some (.ref g))) (hf : PySem.W.isFn X.K (.ref g) = true) (F : FnR X.prog X.w X.K X.mg X.base CX n g sp)
    (hr : Room n X.A) (hx : Passes CX X E) : OpR X (compareOp .Eq) (rOwnEo X.K C sp E) := by
  intro pins s σ H x y v u Q I rx ry h
  obtain ⟨a, t, rfl, ha, ht, hn, q⟩ := h
  cases (show v = Value.ref a from rx)
  obtain ⟨ox, od, J⟩ := insA_at I ha
  obtain ⟨Z, kz, hz, _⟩ := kit_of I ry ht
  obtain ⟨m, hF⟩ := I.fr
  show wpAny _ _ (richCompare .Eq _ _) _ _ _
  refine PySem.W.cmp_K (op := .Eq) (tb := t) hr.units0 hF I.ok.mod.kin J (kz.ty _ _ I.kIn hz) hn hs hf ?_
  refine wpAny_mono (wpAny_call (run_fnR (us := [.ref a, u]) (vs := [.ref a, y]) F hr hx I (.cons rfl (.cons ry .nil)) q)) (fun w s' z => ?_) fun _ _ x => x
  obtain ⟨z', H', I', rz, qz⟩ := z
  exact SlX.cmpback rz ⟨z', H', I', rz, qz⟩
theorem op_ownEoK {CX : CXT} {n : Nat} {C g : Addr} {sp : Sp} {E : XK} (hs : PySem.W.findIn K (.ref C) "__eq__" = some (some (.ref g))) (hf : PySem.W.isFn K (.ref g) = true) (F : FnR X.prog X.w K X.mg X.base CX n g sp)
    (hr : Room n X.A) (hx : Passes CX X E) (hK : X.K = K := by rfl) : OpR X (compareOp .Eq) (rOwnEo K C sp E) := by
  subst hK
  exact op_ownEo hs hf F hr hx
/-- not x, x of an own class with __bool__ -/
def tNotO (C : Addr) (sp : Sp) (E : XK) (ta : TE) : TE := fun σ H Q => ta σ H fun x H1 => ∃ a, x = .ref a ∧ InsA H1 a C ∧ sp [x] H1 (fun z H2 => ∃ b, z = .bl b ∧ Q (.bl (!b)) H2) E
theorem pe_notO {CX : CXT} {n : Nat} {C g : Addr} {sp : Sp} {E : XK} {e : Expr} {pos : Pos} {ta : TE} (he : PE X e ta) (hs : PySem.W.findIn X.K (.ref C) "__bool__" = some (some (.ref g))) (hf : PySem.W.isFn X.K (.ref g) = true)
    (F : FnR X.prog X.w X.K X.mg X.base CX n g sp) (hr : Room n X.A) (hx : Passes CX X E) : PE X (.UnaryOp .Not e pos) (tNotO C sp E ta) := by
  refine ⟨fun pins s σ H Q I h => ?_⟩
  refine UnaryOp_ (thn (he.run pins s σ H _ I h) fun v s1 ⟨x, H1, I1, r1, q1⟩ => ?_)
  obtain ⟨a, rfl, ha, q⟩ := q1
  cases (show v = Value.ref a from r1)
  obtain ⟨ox, od, J⟩ := insA_at I1 ha
  refine not_of ?_
  unfold truthy
  refine wpAny_bind (m := callSpecial? (.ref a) (Str.ofString "__bool__")) (PySem.W.special_fn I1.kIn J hs (beq_iff_eq.mp hf) (wpAny_mono (wpAny_call (run_fnR (us := [.ref a]) (vs := [.ref a]) F hr hx I1 (.cons rfl .nil) q)) (fun r s' hr => ?_) fun _ _ y => y))
  obtain ⟨z, H', I', rz, b, rfl, hq⟩ := hr
  cases (show r = Value.bool b from rz)
  exact wpAny_pure ⟨.bl (!b), H', I', rfl, hq⟩
end
/-- isinstance of a value of another type -/
theorem kit_other {K : PySem.W.Frag} {C : Addr} {n : String} {b : Bool} (hc : (PySem.W.clsIn K C).isSome = true) (ht : PySem.W.typeIn K (.ref C) = some (.type "type")) (hs : PySem.W.subIn K (.type n) (.ref C) = some b) : PySem.W.kitOne K (.type n) (.ref C) = some b := by
  simp [PySem.W.kitOne, PySem.W.kitCls, hc, ht, hs]
theorem kit_sub {K : PySem.W.Frag} {B C : Addr} (hc : (PySem.W.clsIn K C).isSome = true) (ht : PySem.W.typeIn K (.ref C) = some (.type "type")) (hs : PySem.W.subIn K (.ref B) (.ref C) = some true) : PySem.W.kitOne K (.ref B) (.ref C) = some true := by
  simp [PySem.W.kitOne, PySem.W.kitCls, hc, ht, hs]
end XT

namespace XT
open PySem PySem.Spec PyProof.Rows L2
/-! ### the characters of a text of data are characters -/
theorem ok_of (s : String) : PyData.strOk (Str.ofString s) = true := by
  unfold PyData.strOk
  rw [Str.ofString_eq_toList]
  simp only [List.all_toArray, List.all_map, List.all_eq_true]
  intro c _
  have h : c.toNat < 0x110000 := by
    have := c.valid
    unfold UInt32.isValidChar Nat.isValidChar at this
    have e : c.toNat = c.val.toNat := rfl
    omega
  exact decide_eq_true h
theorem ok_app {x y : Str} (h : PyData.strOk x = true) (k : PyData.strOk y = true) : PyData.strOk (x ++ y) = true := by
  unfold PyData.strOk at *
  show (x.cps ++ y.cps).all _ = true
  rw [Array.all_append, h, k]
  rfl
theorem ok_textFrom : ∀ (ts : List Str) (k : Nat) (acc : Str), (∀ t ∈ ts, PyData.strOk t = true) → PyData.strOk acc = true → PyData.strOk (textFrom k acc ts) = true
  | [], _, _, _, h => h
  | t :: ts, k, acc, ht, h => by
    refine ok_textFrom ts (k + 1) _ (fun u hu => ht u (List.mem_cons_of_mem _ hu)) (ok_app (ok_app h ?_) (ht t List.mem_cons_self))
    exact ok_of _
theorem ok_listText {ts : List Str} (h : ∀ t ∈ ts, PyData.strOk t = true) : PyData.strOk (listText ts) = true := ok_app (ok_textFrom ts 0 _ h (ok_of "[")) (ok_of "]")
theorem ok_join {sep : Str} (hs : PyData.strOk sep = true) : ∀ (ts : List Str), (∀ t ∈ ts, PyData.strOk t = true) → PyData.strOk (Str.join sep ts) = true
  | [], _ => (by decide +kernel : PyData.strOk Str.empty = true)
  | [x], h => h x List.mem_cons_self
  | x :: y :: r, h => ok_app (ok_app (h x List.mem_cons_self) hs) (ok_join hs (y :: r) fun t ht => h t (List.mem_cons_of_mem _ ht))
theorem ok_tupleText {ts : List Str} (h : ∀ t ∈ ts, PyData.strOk t = true) : PyData.strOk (tupleText ts) = true := ok_app (ok_app (ok_of "(") (ok_join (ok_of ", ") ts h)) (ok_of _)
mutual
/-- the texts in d are of characters, also written out -/
def txD : PyData → Bool
  | .none | .bool _ | .int _ => true
  | .str x => PyData.strOk (reprText x)
  | .list xs | .tuple xs => txAll xs
  | .dict kvs => kvs.isEmpty
def txAll : List PyData → Bool
  | [] => true
  | x :: xs => txD x && txAll xs
end
mutual
theorem ok_shown : ∀ d : PyData, txD d = true → PyData.strOk d.shown = true
  | .none, _ => by decide +kernel
  | .bool true, _ => by decide +kernel
  | .bool false, _ => by decide +kernel
  | .int i, _ => ok_of _
  | .str x, h => by simpa [txD, PyData.shown] using h
  | .list xs, h => by
    simp only [PyData.shown]
    exact ok_listText (ok_shownAll xs (by simpa [txD] using h))
  | .tuple xs, h => by
    simp only [PyData.shown]
    exact ok_tupleText (ok_shownAll xs (by simpa [txD] using h))
  | .dict [], _ => by decide +kernel
  | .dict (_ :: _), h => by simp [txD] at h
theorem ok_shownAll : ∀ xs : List PyData, txAll xs = true → ∀ t ∈ PyData.shownAll xs, PyData.strOk t = true
  | [], _, t, ht => by simp [PyData.shownAll] at ht
  | x :: xs, h, t, ht => by
    have h' : txD x = true ∧ txAll xs = true := by simpa [txAll] using h
    simp only [PyData.shownAll, List.mem_cons] at ht
    rcases ht with rfl | ht
    · exact ok_shown x h'.1
    · exact ok_shownAll xs h'.2 t ht
end
theorem txAll_ints (L : List Int) : txAll (L.map PyData.int) = true := by
  induction L with
  | nil => rfl
  | cons x L ih => simp only [List.map_cons, txAll, txD, ih, Bool.and_self]
/-- comparing shaped data with itself -/
theorem ne_self {d : PyData} (h : SeqAt.shaped d = true) : (!PyData.eqv d d) = false := by rw [SeqAt.eqv_refl d (SeqAt.canLay_of_shaped h)]; rfl
theorem sh_told {w x : Str} (hw : PyData.strOk w = true) (hx : PyData.strOk x = true) (b : Bool) : SeqAt.shaped (.list [.str w, .str x, .bool b]) = true := by
  simp [SeqAt.shaped, PyData.canLay0, PyData.canLayAll0, PyData.depth, PyData.depthAll, hw, hx]
theorem dp_told {K : PySem.W.Frag} {H : Hp} {r : Addr} {w x : Str} {b : Bool} (h : H r = some (.lst [.str w, .str x, .bl b])) : Dp K H (.ref r) (.list [.str w, .str x, .bool b]) := .lst (SqL.of h) (.cons (.str w) (.cons (.str x) (.cons (.bl b) .nil)))
theorem canLay_ints : ∀ L : List Int, PyData.canLayAll0 (L.map PyData.int) = true
  | [] => rfl
  | x :: L => by simp [PyData.canLayAll0, PyData.canLay0, canLay_ints L]
theorem depth_ints : ∀ L : List Int, PyData.depthAll (L.map PyData.int) = 0
  | [] => rfl
  | x :: L => by simp [PyData.depthAll, PyData.depth, depth_ints L]
theorem sh_three (s g : Int) (L : List Int) : SeqAt.shaped (.list [.int s, .tuple (L.map PyData.int), .int g]) = true := by
  simp [SeqAt.shaped, PyData.canLay0, PyData.canLayAll0, PyData.depth, PyData.depthAll, canLay_ints, depth_ints]
theorem sh_tab (w : Str) (hw : PyData.strOk w = true) (s : Int) (L : List Int) : SeqAt.shaped (.list [.str w, .int s, .tuple (L.map PyData.int)]) = true := by
  simp [SeqAt.shaped, PyData.canLay0, PyData.canLayAll0, PyData.depth, PyData.depthAll, canLay_ints, depth_ints, hw]
theorem sh_pair {w x : Str} (hw : PyData.strOk w = true) (hx : PyData.strOk x = true) (b : Bool) : SeqAt.shaped (.list [.list [.str w, .str x, .bool b], .list [.str w, .str x, .bool b]]) = true := by
  simp [SeqAt.shaped, PyData.canLay0, PyData.canLayAll0, PyData.depth, PyData.depthAll, hw, hx]
/-- one statement, the rest cut off behind it -/
theorem seq_cut2 {t u : TS} {D : Ends} {σ : L2.St} {H : Hp} (G : L2.St → Hp → Prop) (h : ∀ N : L2.St → Hp → Prop, (∀ σ' H', G σ' H' → N σ' H') → t { D with nx := N } σ H) (k : ∀ σ' H', G σ' H' → u D σ' H') : tSeq t u D σ H := h (u D) k
theorem next_go {D : Ends} {σ : L2.St} {H : Hp} (h : D.nx σ H) : tNext D σ H := h
theorem seq_cut {t u : TS} {D : Ends} {σ : L2.St} {H : Hp} (G : Hp → Prop) (h : ∀ N : L2.St → Hp → Prop, (∀ H', G H' → N σ H') → t { D with nx := N } σ H) (k : ∀ H', G H' → u D σ H') : tSeq t u D σ H := h (u D) k
end XT

namespace XT
open PySem PySem.Spec PyProof.Rows L2
/-! ### static methods -/
/-- C.m is a static method: its record at p, its def at g -/
structure CSta (K : PySem.W.Frag) (C : Addr) (mc : Value) (m : Str) (p g : Addr) : Prop where
  at_ : PySem.W.findCls K (.ref C) mc m = some (.get (.builtin "staticmethod.__get__") (.ref p) .none (.ref C))
  rc : ∃ rest, PySem.W.recIn K p "staticmethod" = some (.ref g :: rest)
  kp : PySem.W.keepIn K (.ref g) = true
/-- the same, reached through an instance -/
structure CStI (K : PySem.W.Frag) (C : Addr) (m : Str) (p g : Addr) : Prop where
  pg : PySem.W.plainGet K C Str.empty = true
  ic : PySem.W.isClsIn K C = true
  at_ : PySem.W.findIn K (.ref C) m = some (some (.ref p))
  ty : PySem.W.typeIn K (.ref p) = some (.type "staticmethod")
  get : PySem.W.specialIn K (.ref p) "__get__" = some (some (.builtin "staticmethod.__get__"))
  tk : PySem.W.takesIn K (.ref p) = some false
  cp : PySem.W.copiedNames.contains m = false
  rc : ∃ rest, PySem.W.recIn K p "staticmethod" = some (.ref g :: rest)
  kp : PySem.W.keepIn K (.ref g) = true
def tSta (C : Addr) (sp : Sp) (E : XK) (ta : TE) (t : TA) : TE := fun σ H Q => ta σ H fun x H1 => x = .ref C ∧ t σ H1 fun vs H2 => sp vs H2 Q E
def tStaI (C : Addr) (m : Str) (sp : Sp) (E : XK) (ta : TE) (t : TA) : TE := fun σ H Q => ta σ H fun x H1 => ∃ a dx fs, x = .ref a ∧ H1 a = some (.ins C dx fs) ∧ fs.lookup m = none ∧ t σ H1 fun vs H2 => sp vs H2 Q E
section
variable {X : Cx} {CX : CXT} {k : Nat} {C p g : Addr} {mc : Value} {sp : Sp} {E : XK} {o e : Expr} {es : List Expr} {f m : Str} {pos apos : Pos} {ta : TE} {t : TA} {pl : Sem Bool}
theorem pe_sta (he : PE X o ta) (r : ClX.CRead X.K C mc) (c : CSta X.K C mc m p g) (F : FnR X.prog X.w X.K X.mg X.base CX k g sp) (hr : Room k X.A) (hx : Passes CX X E) (ha : PA X (e :: es) t)
    (hst : starEach (e :: es) X.env = (false, eval e X.env) :: starEach es X.env := by rfl) (hpl : (backTo pos (starEach es X.env)).any (·.1) = false := by rfl)
    (ht : eval (.Call (.Attribute o m apos) (e :: es) [] pos) X.env = (do
      let ov ← eval o X.env
      standAt apos.atName
      let (f, first) ← holding [ov] (getMethod ov m pl)
      callWith pos f first (backTo pos (starEach (e :: es) X.env)) (backToKw pos (keywordEach [] X.env))) := by rfl) :
    PE X (.Call (.Attribute o m apos) (e :: es) [] pos) (tSta C sp E ta t) := by
  refine ⟨fun pins s σ H Q I h => ?_⟩
  refine PySem.W.methodCall_KW (pl := pl) (thn (he.run pins s σ H _ I h) fun u s1 ⟨x, H1, I1, rx, ex, q⟩ => ?_) ht
  subst ex
  obtain rfl : u = Value.ref C := rx
  refine PySem.W.method_cls I1.kIn r.ga ?_
  obtain ⟨rest, hp⟩ := c.rc
  refine PySem.W.cls_bind I1.kIn r.rd c.at_ ?_
  refine wpAny_call (PySem.W.sm_get (s := { s1 with toks := s1.toks + 1 }) I1.kIn hp (PySem.W.handed_on rfl ?_))
  have I2 := I1.tok (s1.toks + 1)
  refine PySem.W.callWith_K (h₀ := X.base) I.ok.mod.kin c.kp (thn (ha.run pos pins _ σ H1 _ I2 q) fun us s2 ⟨vs, H2, I3, r2, q2⟩ => ⟨I3.kIn, ?_⟩) hst hpl
  exact wpAny_call (run_fnR F hr hx I3 r2 q2)
theorem pe_staI (he : PE X o ta) (c : CStI X.K C m p g) (F : FnR X.prog X.w X.K X.mg X.base CX k g sp) (hr : Room k X.A) (hx : Passes CX X E) (ha : PA X (e :: es) t)
    (hst : starEach (e :: es) X.env = (false, eval e X.env) :: starEach es X.env := by rfl) (hpl : (backTo pos (starEach es X.env)).any (·.1) = false := by rfl)
    (ht : eval (.Call (.Attribute o m apos) (e :: es) [] pos) X.env = (do
      let ov ← eval o X.env
      standAt apos.atName
      let (f, first) ← holding [ov] (getMethod ov m pl)
      callWith pos f first (backTo pos (starEach (e :: es) X.env)) (backToKw pos (keywordEach [] X.env))) := by rfl) :
    PE X (.Call (.Attribute o m apos) (e :: es) [] pos) (tStaI C m sp E ta t) := by
  refine ⟨fun pins s σ H Q I h => ?_⟩
  refine PySem.W.methodCall_KW (pl := pl) (thn (he.run pins s σ H _ I h) fun u s1 ⟨x, H1, I1, rx, a, dx, fs, ex, ea, l, q⟩ => ?_) ht
  subst ex
  obtain rfl : u = Value.ref a := rx
  obtain ⟨mA, O, rr, _, _, _⟩ := ins_get I1.hok ea
  have hn : mA m = none := RelO.none_of (by rw [← l]; exact rr m)
  obtain ⟨od, J, hl⟩ := O.look
  obtain ⟨rest, hp⟩ := c.rc
  have hg : PySem.W.plainGet X.K C m = true := c.pg
  refine PySem.W.method_usual (r := some (.ref p)) I1.kIn J (PySem.W.plainGet_of hg).1 (PySem.W.plainGet_of hg).2 c.at_ ?_ ?_
  · show ((PySem.W.typeIn X.K (.ref p)).any fun t => t != .type "function" && t != .type "method_descriptor" && t != .type "wrapper_descriptor") = true
    rw [c.ty]
    first
    | rfl
    | decide +kernel
  · refine PySem.W.get_bind I1.kIn J (PySem.W.plainGet_of hg).1 (ClX.find_cm c.ic c.at_ c.get c.tk c.cp (by rw [hl m, hn])) (PySem.W.plainGet_of hg).2 ?_
    refine wpAny_call (PySem.W.sm_get (s := { s1 with toks := s1.toks + 1 }) I1.kIn hp (PySem.W.handed_on rfl ?_))
    have I2 := I1.tok (s1.toks + 1)
    refine PySem.W.callWith_K (h₀ := X.base) I.ok.mod.kin c.kp (thn (ha.run pos pins _ σ H1 _ I2 q) fun us s2 ⟨vs, H2, I3, r2, q2⟩ => ⟨I3.kIn, ?_⟩) hst hpl
    exact wpAny_call (run_fnR F hr hx I3 r2 q2)
/-! ### C(), C(*e) by a positional promise of its __init__ -/
def tMakeR0 (C : Addr) (sp : Sp) (E : XK) : TE := fun _ H Q => ∀ x dx, H x = none → H dx = none → dx ≠ x → sp [V.ref x] (upd (upd H dx (.own x)) x (.ins C dx [])) (fun v H2 => v = .non ∧ Q (.ref x) H2) E
theorem pe_makeR0 {x : Str} {p : Pos} (M : Mk X.K C g) (F : FnR X.prog X.w X.K X.mg X.base CX k g sp) (hr : Room (k + 1) X.A) (hg : Gl X x) (hm : X.mg x = some (.ref C)) (hx : Passes CX X E) (hdb : (x == ("__debug__" : Str)) = false := by decide) :
    PE X (.Call (.Name x p) [] [] pos) (tMakeR0 C sp E) := by
  refine ⟨fun pins s σ H Q I h => ?_⟩
  refine wpAny_Call_Name_kw (ld_glob I hg hm ?_ hdb)
  refine PySem.W.callWith_K0 (first := []) I.kIn M.kp ?_
  exact StX.run_makeR (us := []) (vs := []) M F hr hx I .nil h
theorem pe_makeS1 {x : Str} {p sp_ : Pos} {te : TE} (M : Mk X.K C g) (F : FnR X.prog X.w X.K X.mg X.base CX k g sp) (hr : Room (k + 1) X.A) (hg : Gl X x) (hm : X.mg x = some (.ref C)) (hx : Passes CX X E) (he : PE X e te) (hdb : (x == ("__debug__" : Str)) = false := by decide)
    (hst : starEach [.Starred e sp_] X.env = [(true, eval e X.env)] := by rfl) :
    PE X (.Call (.Name x p) [.Starred e sp_] [] pos) (fun σ H Q => te σ H fun y H1 => ∃ a xs, y = V.ref a ∧ (SqT X.K H1 a xs ∨ SqL X.K H1 a xs) ∧ ∀ x dx, H1 x = none → H1 dx = none → dx ≠ x → sp (V.ref x :: xs) (upd (upd H1 dx (.own x)) x (.ins C dx [])) (fun v H2 => v = .non ∧ Q (.ref x) H2) E) := by
  refine ⟨fun pins s σ H Q I h => ?_⟩
  refine wpAny_Call_Name_kw (ld_glob I hg hm ?_ hdb)
  refine PySem.W.callWith_S (h₀ := X.base) I.ok.mod.kin M.kp (thn (he.run pins s σ H _ I h) fun v s1 ⟨y, H1, I1, ry, a, xs, ey, hxs, q⟩ => ?_) hst
  subst ey
  obtain rfl : v = Value.ref a := ry
  exact StX.star_any I1 hxs fun us s2 I2 rv => ⟨I2.kIn, StX.run_makeR M F hr hx I2 rv q⟩
end
/-! ### defs with a star -/
section
variable {P : Program} {w : World} {K : PySem.W.Frag} {mg : Str → Option Value} {base : Heap}
def BndS (x qual : Str) (st : Stmt) (ps : List Str) (pv : Str) : Prop := ∀ (kV doc pm : Value) (an : Option Addr) (cdv ct : Value) (us rest : List Value), us.length = ps.length →
  bindArgs (PySem.W.fnOf x qual (defArgs st) (defBody st) (defScope st) .none kV doc pm an cdv ct) ⟨us ++ rest, []⟩ = (newTuple rest >>= fun t => pure (ps.zip us ++ [(pv, t)]))
/-- the promise of a def whose last parameter takes what is left over -/
def spStar (n : Nat) (sp : Sp) : Sp := fun vs H Q E => ∃ ws rest, vs = ws ++ rest ∧ ws.length = n ∧ rest.length ≤ sizeLine ∧ ∀ p, H p = none → sp (ws ++ [V.ref p]) (upd H p (.tup rest)) Q E
theorem okStar {x qual : Str} {st : Stmt} {f : Addr} {fd : FuncData} {N ps : List Str} {pv : Str} {k : Nat} {sp : Sp} (F : Fun K x qual st f fd) (S : FnScope N (ps ++ [pv]) (defScope st)) (B : BndS x qual st ps pv)
    (hbody : ∀ (cdv : Value) (A : Around) (outer : List Env) (s : Shared) (H : Hp) (vs : List V) (Q : VK) (E : XK), Room k (A.deeper (envOfC qual (defScope st) s.heap.objs.size f cdv)) → sp vs H Q E →
      ∃ t, PSs (cxOf (L2.CX P w) P w K mg base N qual (defScope st) f cdv A outer s H E) (defBody st) t ∧ t { nx := fun _ H' => Q .non H', rt := Q } (start N vs) H) : FnR P w K mg base (L2.CX P w) (k + 1) f (spStar ps.length sp) := by
  obtain ⟨oc, od, kV, doc, pm, an, cdv, ct, osl, rfl, lk, hcd⟩ := F.ex
  exact StX.fn_star lk hcd S StX.cxUp (fun us rest h => B kV doc pm an cdv ct us rest h) fun A outer s H vs Q E hr hsp => hbody cdv A outer s H vs Q E hr hsp
theorem okStar0 {x qual : Str} {st : Stmt} {f : Addr} {fd : FuncData} {N ps : List Str} {pv : Str} {k : Nat} {sp : Sp} (F : Fun K x qual st f fd) (S : FnScope N (ps ++ [pv]) (defScope st)) (B : BndS x qual st ps pv)
    (hbody : ∀ (cdv : Value) (A : Around) (outer : List Env) (s : Shared) (H : Hp) (vs : List V) (Q : VK) (E : XK), Room k (A.deeper (envOfC qual (defScope st) s.heap.objs.size f cdv)) → sp vs H Q E →
      ∃ t, PSs (cxOf CX0 P w K mg base N qual (defScope st) f cdv A outer s H E) (defBody st) t ∧ t { nx := fun _ H' => Q .non H', rt := Q } (start N vs) H) : FnR P w K mg base CX0 (k + 1) f (spStar ps.length sp) := by
  obtain ⟨oc, od, kV, doc, pm, an, cdv, ct, osl, rfl, lk, hcd⟩ := F.ex
  exact StX.fn_star lk hcd S StX.cxUp_none (fun us rest h => B kV doc pm an cdv ct us rest h) fun A outer s H vs Q E hr hsp => hbody cdv A outer s H vs Q E hr hsp
end
end XT

namespace XT
open PySem PySem.Spec PyProof.Rows L2
/-! ### types told apart by != -/
theorem slot_type_ne : Slot "type" (cmpInfo .NotEq).2.1 "object.__ne__" :=
  .of (owner := "object") (n := "__ne__") (by rw [typeLookup_type, builtinLookup_eq_fast]; kernel_rfl) (by decide +kernel) (by decide +kernel) (by decide +kernel)
    (by first | exact .inl (by decide +kernel) | exact .inr (by decide +kernel)) (by rw [isSubtype_type]; kernel_rfl)
theorem slot_type_ne_refl : Slot "type" (cmpInfo .NotEq).2.2 "object.__ne__" :=
  .of (owner := "object") (n := "__ne__") (by rw [typeLookup_type, builtinLookup_eq_fast]; kernel_rfl) (by decide +kernel) (by decide +kernel) (by decide +kernel)
    (by first | exact .inl (by decide +kernel) | exact .inr (by decide +kernel)) (by rw [isSubtype_type]; kernel_rfl)
section
variable {prog : Program} {w : World} {A : Around} {E : Value → Shared → Prop} {s : Shared} {Q : Value → Shared → Prop}
theorem ne_ty_same {X : String} (hX : ∀ s' : Shared, s'.TypeIs (.type X) "type") (h : Q (.bool false) s) : wpAny (model prog w) A (call (.builtin "object.__ne__") [.type X, .type X]) (fun v s' => v = .bool false ∧ Q v s') E s := by
  refine wpAny_call_entry slot_type_ne (hX s) PySem.F.entry_object_ne ?_ (PySem.F.args_object_ne_2 _ _)
  unfold Builtin.«object.__ne__»
  refine wpAny_bind (m := slotArgs "__ne__" 1 ⟨[.type X, .type X], []⟩) (wpAny_pure ?_)
  dsimp only
  refine wpAny_bind (wpAny_cRoomFor_or (.inl rfl) ?_)
  refine wpAny_bind (m := callSpecialIfBound? (.type X) (Str.ofString "__eq__") [.type X]) (wpAny_callSpecialIfBound?_slot (name := Str.ofString "__eq__") (hX s) TypeEq.slot_type_eq
    (call_gives TypeEq.slot_type_eq (hX s) PySem.F.entry_object_eq (PySem.F.args_object_eq_2 _ _) (TypeEq.object_eq_same rfl (by simp)) ?_))
  show wpAny _ _ _ _ _ _
  refine wpAny_bind (m := truthy (.bool true)) (wpAny_pure ?_)
  exact wpAny_pure ⟨_, rfl, rfl, h⟩
theorem ne_ty_other {X Y : String} (hX : ∀ s' : Shared, s'.TypeIs (.type X) "type") (hne : (Value.type X == Value.type Y) = false) (h : Q .notImplemented s) : wpAny (model prog w) A (call (.builtin "object.__ne__") [.type X, .type Y]) (fun v s' => v = .notImplemented ∧ Q v s') E s := by
  refine wpAny_call_entry slot_type_ne (hX s) PySem.F.entry_object_ne ?_ (PySem.F.args_object_ne_2 _ _)
  unfold Builtin.«object.__ne__»
  refine wpAny_bind (m := slotArgs "__ne__" 1 ⟨[.type X, .type Y], []⟩) (wpAny_pure ?_)
  dsimp only
  refine wpAny_bind (wpAny_cRoomFor_or (.inl rfl) ?_)
  refine wpAny_bind (m := callSpecialIfBound? (.type X) (Str.ofString "__eq__") [.type Y]) (wpAny_callSpecialIfBound?_slot (name := Str.ofString "__eq__") (hX s) TypeEq.slot_type_eq
    (call_gives TypeEq.slot_type_eq (hX s) PySem.F.entry_object_eq (PySem.F.args_object_eq_2 _ _) (TypeEq.object_eq_other rfl hne) ?_))
  exact wpAny_pure ⟨_, rfl, rfl, h⟩
theorem ne_type_same {X : String} (hX : ∀ s' : Shared, s'.TypeIs (.type X) "type") (h : Q (.bool false) s) : wpAny (model prog w) A (compareOp .NotEq (.type X) (.type X)) Q E s := by
  show wpAny _ A (richCompare .NotEq _ _) Q E s
  exact wpAny_richCompare_same (T := "type") (hX s) (hX s) slot_type_ne (wpAny_mono (ne_ty_same (Q := Q) hX h) (fun v s' z => ⟨(by rw [z.1]; intro e; cases e), z.2⟩) fun _ _ z => z)
theorem ne_type_other {X Y : String} (hX : ∀ s' : Shared, s'.TypeIs (.type X) "type") (hY : ∀ s' : Shared, s'.TypeIs (.type Y) "type") (hne : (Value.type X == Value.type Y) = false) (h : Q (.bool true) s) : wpAny (model prog w) A (compareOp .NotEq (.type X) (.type Y)) Q E s := by
  have hne' : (Value.type Y == Value.type X) = false := by
    rw [Bool.eq_false_iff] at hne ⊢
    intro e
    exact hne (by rw [beq_iff_eq] at e ⊢; exact e.symm)
  show wpAny _ A (richCompare .NotEq _ _) Q E s
  have h1 := slot_type_ne
  have h2 := slot_type_ne_refl
  rcases hi : cmpInfo CmpOp.NotEq with ⟨sym, f, r⟩
  rw [hi] at h1 h2
  simp only [richCompare, hi, (hX s).oneThing_none]
  try with_reducible refine wpAny_holding ?_
  refine wpAny_bind (wpAny_cRoomFor_or (.inl rfl) ?_)
  refine wpAny_bind (wpAny_typeOf (hX s) (wpAny_bind (wpAny_typeOf (hY s) ?_)))
  simp only [bne_self_eq_false, Bool.false_eq_true, if_false, pure_bind, Bool.not_false, if_true]
  refine wpAny_bind (m := tryCompare (.type X) _ (.type Y)) (wpAny_tryCompare_declines (hX s) h1 (ne_ty_other (Q := fun _ s₁ => _) hX hne ?_))
  refine wpAny_bind (m := tryCompare (.type Y) _ (.type X)) (wpAny_tryCompare_declines (hY s) h2 (ne_ty_other (Q := fun _ s₁ => _) hY hne' ?_))
  refine wpAny_bind (wpAny_rule (wpAny_bind (wpAny_of_eq (a := false) (by rw [isSame_plain rfl, hne]) (wpAny_pure ?_))))
  simpa using h
end
section
variable {X : Cx}
theorem op_neTy : OpR X (compareOp .NotEq) (fun x y H Q => ∃ m n, x = .ty m ∧ y = .ty n ∧ tyN m = true ∧ tyN n = true ∧ Q (.bl (!decide (m = n))) H) := by
  intro pins s σ H x y v u Q I rx ry h
  obtain ⟨m, n, rfl, rfl, hm, hn, q⟩ := h
  cases (show v = Value.type m from rx)
  cases (show u = Value.type n from ry)
  by_cases e : m = n
  · subst e
    exact ne_type_same (fun s' => tyN_meta hm s') ⟨.bl false, H, I, rfl, by simpa using q⟩
  · refine ne_type_other (fun s' => tyN_meta hm s') (fun s' => tyN_meta hn s') ?_ ⟨.bl true, H, I, rfl, by simpa [e] using q⟩
    rw [Bool.eq_false_iff]
    intro z
    rw [beq_iff_eq] at z
    injection z with z
    exact e z
/-! ### tuple * int -/
theorem tuple_mul1 (l : Addr) (items : Array Value) (n : Nat) (dd : Option Addr) (sl : Array (Option Value)) (x : Int) (u : Tok) (c0 : (decide (x < -(2 ^ 63)) || decide (x ≥ 2 ^ 63)) = false) (c1 : (items.isEmpty || x == 1) = true) :
    Meets (Builtin.«tuple.__mul__» ⟨[.ref l, .int x u], []⟩) (fun _ R s => s.heap.get? l = some { cls := .type "tuple", dict := dd, data := .seq items n, slots := sl } ∧ R (.ok (.ret (Value.ref l))) s) :=
  .of_wp fun prog w A R s h => by
    obtain ⟨hp, g, d, tk, os⟩ := s
    obtain ⟨hl, h⟩ := h
    have f1 := AutoSeq1.idx_int
    wp_walk using wpAny_loadPart' hl
    repeat (first
      | (refine wpAny_ite_false (decide_eq_false (by rw [c0]; exact Bool.false_ne_true)) ?_; wp_walk using wpAny_loadPart' hl)
      | (refine wpAny_ite_true (decide_eq_true (by rw [c1])) ?_; wp_walk using wpAny_loadPart' hl))
    exact ⟨_, rfl, h⟩
theorem tuple_mul0 (l : Addr) (items : Array Value) (n : Nat) (dd : Option Addr) (sl : Array (Option Value)) (u : Tok) (c1 : items.isEmpty = false) :
    Meets (Builtin.«tuple.__mul__» ⟨[.ref l, .int 0 u], []⟩) (fun _ R s => s.heap.get? l = some { cls := .type "tuple", dict := dd, data := .seq items n, slots := sl } ∧ R (.ok (.ret (Value.ref s.heap.objs.size))) { s with heap := s.heap.push { cls := Value.type "tuple", data := Data.seq #[] }, toks := s.toks }) :=
  .of_wp fun prog w A R s h => by
    obtain ⟨hp, g, d, tk, os⟩ := s
    obtain ⟨hl, h⟩ := h
    have f1 := AutoSeq1.idx_int
    have c0 : (decide ((0 : Int) < -(2 ^ 63)) || decide ((0 : Int) ≥ 2 ^ 63)) = false := by decide
    have c2 : (items.isEmpty || (0 : Int) == 1) = false := by rw [c1]; decide
    have c3 : (decide ((0 : Int) ≤ 0) || items.isEmpty) = true := by simp
    wp_walk using wpAny_loadPart' hl
    repeat (first
      | (refine wpAny_ite_false (decide_eq_false (by rw [c0]; exact Bool.false_ne_true)) ?_; wp_walk using wpAny_loadPart' hl)
      | (refine wpAny_ite_false (decide_eq_false (by rw [c2]; exact Bool.false_ne_true)) ?_; wp_walk using wpAny_loadPart' hl)
      | (refine wpAny_ite_true (decide_eq_true (by rw [c3])) ?_; wp_walk using wpAny_loadPart' hl))
    exact ⟨_, rfl, h⟩
/-- t * k, k a small count -/
def rRepA (K : PySem.W.Frag) : R2 := fun x y H Q => ∃ l k xs, x = .ref l ∧ y = .int k ∧ SqT K H l xs ∧ 0 ≤ k ∧ k ≤ 1000 ∧ xs.length ≤ 1000 ∧ (∀ p H', Same H H' → SqT K H' p (List.replicate k.toNat xs).flatten → Q (.ref p) H')
theorem op_repA : OpR X (binaryOp .Mult) (rRepA X.K) := by
  intro pins s σ H x y v u Q I rx ry h
  obtain ⟨l, k, xs, rfl, rfl, hT, h0, h2, hz, q⟩ := h
  by_cases hb : 2 ≤ k ∧ xs ≠ []
  · exact op_repT pins s σ H _ _ v u Q I rx ry ⟨l, k, xs, rfl, rfl, hT, hb.2, hb.1, h2, hz, fun p hp => q p _ (same_new hp) (SqT.of upd_same)⟩
  have hT0 := hT
  cases rx
  obtain ⟨t, rfl⟩ := ry
  obtain ⟨its, r, ⟨⟨cls, dd, data, sl⟩, ho, hc, n, hd⟩, hs⟩ := I.tuple hT
  simp only at hc hd
  subst hc hd
  have c0 : (decide (k < -(2 ^ 63)) || decide (k ≥ 2 ^ 63)) = false := by
    rw [decide_eq_false (by omega), decide_eq_false (by omega)] <;> rfl
  by_cases h1 : k = 1 ∨ xs = []
  · have c1 : (its.toArray.isEmpty || k == 1) = true := by
      rcases h1 with rfl | rfl
      · simp
      · cases r
        rfl
    refine wpAny_binaryOp_repeat_ref (T := "tuple") (U := "int") (by decide) ⟨_, ho, rfl⟩ (fun s' => typeIs_int s' k t) noFill_tuple_mul F.fills_int_mul F.slot_int_rmul repeat_tuple F.slot_int_index.lookup
      (call_meets F.slot_int_rmul (typeIs_int s k t) F.entry_int_rmul (F.args_int_rmul_2 _ _) (int_rmul_tuple k t l its.toArray n dd sl)
        ⟨ho, rfl, ⟨_, ho, rfl⟩, call_meets F.slot_tuple_mul ⟨_, ho, rfl⟩ F.entry_tuple_mul (F.args_tuple_mul_2 _ _) (tuple_mul1 l its.toArray n dd sl k t c0 c1) ⟨ho, ?_⟩⟩)
    refine ⟨.ref l, H, I, rfl, q l H (Same.refl H) ?_⟩
    rcases h1 with rfl | rfl
    · have : (List.replicate (1 : Int).toNat xs).flatten = xs := by simp
      rw [this]
      exact hT0
    · have : (List.replicate k.toNat ([] : List V)).flatten = [] := by simp
      rw [this]
      exact hT0
  · have hk : k = 0 := by
      by_cases hx : xs = []
      · exact absurd (.inr hx) h1
      · have : ¬ 2 ≤ k := fun z => hb ⟨z, hx⟩
        have : k ≠ 1 := fun z => h1 (.inl z)
        omega
    subst hk
    have hx : its.toArray.isEmpty = false := by
      cases r with
      | nil => exact absurd (.inr rfl) h1
      | cons _ _ => rfl
    refine wpAny_binaryOp_repeat_ref (T := "tuple") (U := "int") (by decide) ⟨_, ho, rfl⟩ (fun s' => typeIs_int s' 0 t) noFill_tuple_mul F.fills_int_mul F.slot_int_rmul repeat_tuple F.slot_int_index.lookup
      (call_meets F.slot_int_rmul (typeIs_int s 0 t) F.entry_int_rmul (F.args_int_rmul_2 _ _) (int_rmul_tuple 0 t l its.toArray n dd sl)
        ⟨ho, rfl, ⟨_, ho, rfl⟩, call_meets F.slot_tuple_mul ⟨_, ho, rfl⟩ F.entry_tuple_mul (F.args_tuple_mul_2 _ _) (tuple_mul0 l its.toArray n dd sl t hx) ⟨ho, ?_⟩⟩)
    refine ⟨.ref s.heap.objs.size, _, I.laid (t' := s.toks) (o := .tup []) (fun b ob q => Heap.get?_push_of_some _ q) (Nat.le_refl _) ?_, rfl, q _ _ (same_new (I.hok.fresh (Nat.le_refl _))) ?_⟩
    · exact ⟨Nat.zero_le _, [], .nil, IsTup.new _ _⟩
    · have : (List.replicate (0 : Int).toNat xs).flatten = ([] : List V) := by simp
      rw [this]
      exact SqT.of upd_same
end
end XT

namespace XT
open PySem PySem.Spec PyProof.Rows L2
/-! ### what stands side by side -/
section
variable {α β : Type} {F : α → β → Prop}
theorem pd_append : ∀ {l m : List α} {l' m' : List β}, Paired F l l' → Paired F m m' → Paired F (l ++ m) (l' ++ m')
  | _, _, _, _, .nil, h => h
  | _, _, _, _, .cons r t, h => .cons r (pd_append t h)
theorem pd_get : ∀ {l : List α} {l' : List β}, Paired F l l' → ∀ {i : Nat} {x : α}, l[i]? = some x → ∃ y, l'[i]? = some y ∧ F x y
  | _, _, .nil, _, _, h => by simp at h
  | _, _, .cons r t, 0, _, h => ⟨_, rfl, by
      have : some _ = some _ := h
      cases this
      exact r⟩
  | _, _, .cons r t, i + 1, x, h => by
      obtain ⟨y, h1, h2⟩ := pd_get t (i := i) (x := x) (by simpa using h)
      exact ⟨y, by simpa using h1, h2⟩
theorem pd_get' : ∀ {l : List α} {l' : List β}, Paired F l l' → ∀ {i : Nat} {y : β}, l'[i]? = some y → ∃ x, l[i]? = some x ∧ F x y
  | _, _, .nil, _, _, h => by simp at h
  | _, _, .cons r t, 0, _, h => ⟨_, rfl, by
      have : some _ = some _ := h
      cases this
      exact r⟩
  | _, _, .cons r t, i + 1, x, h => by
      obtain ⟨y, h1, h2⟩ := pd_get' t (i := i) (y := x) (by simpa using h)
      exact ⟨y, by simpa using h1, h2⟩
theorem pd_take : ∀ {l : List α} {l' : List β} (n : Nat), Paired F l l' → Paired F (l.take n) (l'.take n)
  | _, _, 0, _ => by simpa using Paired.nil
  | _, _, n + 1, .nil => by simpa using Paired.nil
  | _, _, n + 1, .cons r t => by
      rw [List.take_succ_cons, List.take_succ_cons]
      exact .cons r (pd_take n t)
theorem pd_drop : ∀ {l : List α} {l' : List β} (n : Nat), Paired F l l' → Paired F (l.drop n) (l'.drop n)
  | _, _, 0, h => h
  | _, _, n + 1, .nil => by simpa using Paired.nil
  | _, _, n + 1, .cons r t => by
      rw [List.drop_succ_cons, List.drop_succ_cons]
      exact pd_drop n t
theorem pd_rev : ∀ {l : List α} {l' : List β}, Paired F l l' → Paired F l.reverse l'.reverse
  | _, _, .nil => .nil
  | _, _, .cons r t => by
      rw [List.reverse_cons, List.reverse_cons]
      exact pd_append (pd_rev t) (.cons r .nil)
theorem pd_rep (n : Nat) {l : List α} {l' : List β} (h : Paired F l l') : Paired F (List.replicate n l).flatten (List.replicate n l').flatten := by
  induction n with
  | zero => exact .nil
  | succ n ih =>
    rw [List.replicate_succ, List.replicate_succ, List.flatten_cons, List.flatten_cons]
    exact pd_append h ih
end
/-! ### steps -/
/-- a step: an insertion (true) or a removal, and its number -/
abbrev Stp := Bool × Int
def wrd : Bool → Str
  | true => "insert"
  | false => "remove"
def goodS (s : Stp) : Bool := s.1 || decide (0 < s.2)
def stD (s : Stp) : PyData := .tuple [.str (wrd s.1), .int s.2]
def StAt (K : PySem.W.Frag) (H : Hp) (x : V) (s : Stp) : Prop := ∃ r, x = .ref r ∧ SqT K H r [.str (wrd s.1), .int s.2]
abbrev StsAt (K : PySem.W.Frag) (H : Hp) : List V → List Stp → Prop := Paired (StAt K H)
theorem StAt.same {K : PySem.W.Frag} {H H' : Hp} {x : V} {s : Stp} (h : StAt K H x s) (e : Same H H') : StAt K H' x s := let ⟨r, a, b⟩ := h; ⟨r, a, same_seqT e b⟩
theorem sts_same {K : PySem.W.Frag} {H H' : Hp} {xs : List V} {L : List Stp} (h : StsAt K H xs L) (e : Same H H') : StsAt K H' xs L := L2.Paired.mapP h fun _ _ z => z.same e
theorem st_of {K : PySem.W.Frag} {H : Hp} {r : Addr} {b : Bool} {i : Int} (h : H r = some (.tup [.str (wrd b), .int i])) : StAt K H (.ref r) (b, i) := ⟨r, rfl, SqT.of h⟩
theorem st_dp {K : PySem.W.Frag} {H : Hp} {x : V} {s : Stp} (h : StAt K H x s) : Dp K H x (stD s) := by
  obtain ⟨r, rfl, hr⟩ := h
  exact .tup hr (.cons (.str _) (.cons (.int _) .nil))
theorem sts_dp {K : PySem.W.Frag} {H : Hp} : ∀ {xs : List V} {L : List Stp}, StsAt K H xs L → DpAll K H xs (L.map stD)
  | _, _, .nil => .nil
  | _, _, .cons r t => .cons (st_dp r) (sts_dp t)
theorem dp_stsT {K : PySem.W.Frag} {H : Hp} {p : Addr} {xs : List V} {L : List Stp} (h : SqT K H p xs) (k : StsAt K H xs L) : Dp K H (.ref p) (.tuple (L.map stD)) := .tup h (sts_dp k)
theorem dp_stsL {K : PySem.W.Frag} {H : Hp} {p : Addr} {xs : List V} {L : List Stp} (h : SqL K H p xs) (k : StsAt K H xs L) : Dp K H (.ref p) (.list (L.map stD)) := .lst h (sts_dp k)
theorem wrd_inj {b c : Bool} : (wrd b == wrd c) = decide (b = c) := by cases b <;> cases c <;> decide +kernel
theorem eqv_st (s t : Stp) : PyData.eqv (stD s) (stD t) = decide (s = t) := by
  obtain ⟨b, i⟩ := s
  obtain ⟨c, j⟩ := t
  have h1 : PyData.eqv (.str (wrd b)) (.str (wrd c)) = decide (b = c) := by
    have := wrd_inj (b := b) (c := c)
    simp only [PyData.eqv]
    first | exact this | simpa using this
  have h2 : PyData.eqv (.int i) (.int j) = decide (i = j) := by
    simp only [PyData.eqv]
    rw [Bool.eq_iff_iff]
    simp
  simp only [stD, PyData.eqv, PyData.eqvAll]
  simp only [PyData.eqv] at h1 h2
  first
    | (rw [h1, h2, Bool.and_true, Bool.eq_iff_iff]; simp)
    | (simp only [h1, h2]; rw [Bool.eq_iff_iff]; simp)
theorem eqvAll_sts (L : List Stp) : ∀ M : List Stp, PyData.eqvAll (L.map stD) (M.map stD) = decide (L = M) := by
  induction L with
  | nil =>
    intro M
    cases M <;> simp [PyData.eqvAll]
  | cons x L ih =>
    intro M
    cases M with
    | nil => simp [PyData.eqvAll]
    | cons y M =>
      rw [List.map_cons, List.map_cons, PyData.eqvAll, ih, eqv_st, Bool.eq_iff_iff]
      simp
theorem eqv_stsT (L M : List Stp) : PyData.eqv (.tuple (L.map stD)) (.tuple (M.map stD)) = decide (L = M) := by
  rw [PyData.eqv]
  exact eqvAll_sts L M
theorem eqv_stsL (L M : List Stp) : PyData.eqv (.list (L.map stD)) (.list (M.map stD)) = decide (L = M) := by
  rw [PyData.eqv]
  exact eqvAll_sts L M
theorem wrd_ok (b : Bool) : PyData.strOk (wrd b) = true := by cases b <;> exact ok_of _
theorem canLay_sts : ∀ L : List Stp, PyData.canLayAll0 (L.map stD) = true
  | [] => rfl
  | x :: L => by simp [PyData.canLayAll0, PyData.canLay0, stD, wrd_ok, canLay_sts L]
theorem depth_sts : ∀ L : List Stp, PyData.depthAll (L.map stD) ≤ 1
  | [] => by simp [PyData.depthAll]
  | x :: L => by
    have := depth_sts L
    simp [PyData.depthAll, PyData.depth, stD]
    omega
theorem sh_stsT (L : List Stp) : SeqAt.shaped (.tuple (L.map stD)) = true := by
  have := depth_sts L
  simp [SeqAt.shaped, PyData.canLay0, PyData.depth, canLay_sts]
  omega
theorem sh_stsL (L : List Stp) : SeqAt.shaped (.list (L.map stD)) = true := by
  have := depth_sts L
  simp [SeqAt.shaped, PyData.canLay0, PyData.depth, canLay_sts]
  omega
end XT

namespace XT
open PySem PySem.Spec PyProof.Rows L2
section
variable {prog : Program} {w : World} {A : Around} {E : Value → Shared → Prop} {s : Shared} {K : PySem.W.Frag} {x C f L : Addr} {ox : Obj} {od : Option Obj} {h₀ : Heap} {m : Str → Option Value}
/-- len(x), by an own __len__ -/
theorem len_own {Q : Value → Shared → Prop} (X : K.In s.heap) (I : PySem.W.InstAt s.heap x ox C od) (hs : PySem.W.findIn K (.ref C) "__len__" = some (some (.ref f))) (hf : PySem.W.isFn K (.ref f) = true)
    (h : wpAny (model prog w) A.in1 (call (.ref f) [.ref x]) (fun r s1 => ∃ (n : Int) (t : Tok), r = Value.int n t ∧ 0 ≤ n ∧ n < 2 ^ 63 ∧ Q (.int n s1.toks) { s1 with toks := s1.toks + 1 }) E s) : wpAny (model prog w) A (call (.builtin "len") [.ref x]) Q E s := by
  refine Calls.call_function_entry PySem.kind_len PySem.plain_len PySem.entry_len (PySem.args_len1 _) ?_
  unfold Builtin.«len»
  refine wpAny_bind (m := oneArg "len" _) (wpAny_pure ?_)
  refine wpAny_bind (m := callSpecial? (.ref x) (PySem.Str.ofString "__len__")) (PySem.W.special_fn X I hs (beq_iff_eq.mp hf) (wpAny_mono h (fun r s' hr => ?_) fun _ _ y => y))
  obtain ⟨n, t, rfl, h0, h1, q⟩ := hr
  dsimp only
  refine wpAny_bind (wpAny_holding (wpAny_pure ?_))
  refine wpAny_bind (wpAny_letGo ?_)
  show wpAny _ _ (if n < 0 then _ else _) _ _ _
  rw [if_neg (by omega)]
  show wpAny _ _ (if n ≥ 2 ^ 63 then _ else _) _ _ _
  rw [if_neg (by omega)]
  exact wpAny_bind (wpAny_mkInt (wpAny_pure ⟨_, rfl, q⟩))
/-- x * n, n an int, by an own __mul__ and no own __rmul__ -/
theorem mul_own {n : Int} {t : Tok} {Q : Value → Shared → Prop} (F : PyProof.Rows.Fr h₀ L s.heap m) (X₀ : K.In h₀) (I : PySem.W.InstAt s.heap x ox C od) (hc : PySem.W.selfFirst K C = true) (hi : PySem.W.subIn K (.type "int") (.ref C) = some false)
    (hs : PySem.W.findIn K (.ref C) "__mul__" = some (some (.ref f))) (hrm : PySem.W.findIn K (.ref C) "__rmul__" = some none) (hf : PySem.W.isFn K (.ref f) = true)
    (h : wpAny (model prog w) A (call (.ref f) [.ref x, .int n t]) (PySem.W.CmpBack Q) E s) : wpAny (model prog w) A (binaryOp .Mult (.ref x) (.int n t)) Q E s := by
  have X := X₀.keeps F.keep
  obtain ⟨cd, hcd, hm⟩ := PySem.W.any_some hc
  obtain ⟨rest, hm⟩ : ∃ rest, cd.mro = .ref C :: rest := by
    cases q : cd.mro with
    | nil => rw [q] at hm; cases hm
    | cons a r => rw [q] at hm; exact ⟨r, by rw [List.head?_cons] at hm; cases (beq_iff_eq.mp hm); rfl⟩
  have hs' : PySem.W.findIn K (.ref C) (PySem.dunder "mul") = some (some (.ref f)) := hs
  have hr' : PySem.W.findIn K (.ref C) (PySem.dunderR "mul") = some none := hrm
  unfold binaryOp
  refine wpAny_holding (wpAny_bind ?_)
  show wpAny _ _ (binaryOp1 "mul" _ _) _ _ _
  unfold binaryOp1
  refine wpAny_bind (I.type.here (wpAny_bind (wpAny_typeOf (typeIs_int s n t) (wpAny_bind ((PySem.W.fills_K X hcd hm hs').here ?_)))))
  have e1 : (Value.ref C == Value.type "int") = false := rfl
  rw [e1]
  refine wpAny_bind ?_
  refine wpAny_of_eq (a := true) PySem.F.fills_int_mul ?_
  simp only [Bool.and_self, if_true]
  refine wpAny_bind ((PySem.W.looks_subIn X hi).here ?_)
  simp only [Bool.false_eq_true, if_false, Bool.not_false, Bool.and_self, if_true, Bool.and_true]
  have nsp : wpAny (model prog w) A (numberSlotInPython (.ref C) "mul") (fun b s' => b = true ∧ s' = s) E s := by
    unfold numberSlotInPython
    refine wpAny_bind ((PySem.W.looks_findIn X hs').here ?_)
    refine wpAny_bind (m := calledByName (.ref C) _ (some (.ref f))) (wpAny_pure ?_)
    refine wpAny_bind ((PySem.W.looks_findIn X hr').here ?_)
    refine wpAny_bind (m := calledByName (.ref C) _ none) (wpAny_pure ?_)
    simp only [Bool.or_false, if_true]
    exact wpAny_pure ⟨rfl, rfl⟩
  have fin : wpAny (model prog w) A (tryMethod (.ref x) (PySem.dunder "mul") (.int n t)) (fun r s' => ∃ v, r = some v ∧ Q v s') E s := by
    unfold tryMethod
    refine wpAny_bind (PySem.W.special_fn X I hs' (beq_iff_eq.mp hf) (wpAny_mono h (fun v s' hv => ?_) fun _ _ e => e))
    cases v <;> first | exact hv.elim | exact wpAny_pure ⟨_, rfl, hv⟩
  refine wpAny_bind (wpAny_mono nsp (fun b s' z => ?_) fun _ _ e => e)
  obtain ⟨rfl, rfl⟩ := z
  simp only [if_true]
  refine wpAny_bind (m := numberSlotInPython (.type "int") "mul") (wpAny_pure ?_)
  simp only [Bool.not_false, if_true]
  refine wpAny_bind (wpAny_of_eq (a := some (.builtin "int.__rmul__")) PySem.F.slot_int_rmul.lookup ?_)
  refine wpAny_bind (wpAny_mono fin (fun v s2 z => ?_) fun _ _ e => e)
  obtain ⟨u, rfl, hq⟩ := z
  exact wpAny_pure (wpAny_pure hq)
end
section
variable {X : Cx} {CX : CXT} {n : Nat} {C g : Addr} {sp : Sp} {E : XK}
/-- len(x) -/
def rLenO (C : Addr) (sp : Sp) (E : XK) : List V → Hp → VK → Prop := fun xs H Q => ∃ a, xs = [V.ref a] ∧ InsA H a C ∧ sp xs H (fun z H' => ∃ k : Int, z = .int k ∧ 0 ≤ k ∧ k < 2 ^ 63 ∧ Q z H') E
theorem call_lenO (hs : PySem.W.findIn X.K (.ref C) "__len__" = some (some (.ref g))) (hf : PySem.W.isFn X.K (.ref g) = true) (F : FnR X.prog X.w X.K X.mg X.base CX n g sp) (hr : Room (n + 1) X.A) (hx : Passes CX X E) : CallR X (.builtin "len") (rLenO C sp E) := by
  intro pins s σ H xs us Q I r h
  obtain ⟨a, rfl, ha, q⟩ := h
  obtain ⟨u, rfl, ru⟩ := r.one
  cases (show u = Value.ref a from ru)
  obtain ⟨ox, od, J⟩ := insA_at I ha
  refine len_own I.kIn J hs hf (wpAny_mono (wpAny_call (SlX.run_at (us := [.ref a]) (ws := [.ref a]) F hr.in1 I.env0.in1 hx I (.cons rfl .nil) q)) (fun w s' z => ?_) fun _ _ x => x)
  obtain ⟨z', H', I', rz, k, rfl, k0, k1, qz⟩ := z
  obtain ⟨t, rfl⟩ : ∃ t, w = Value.int k t := rz
  exact ⟨k, t, rfl, k0, k1, .int k, H', I'.tok _, ⟨_, rfl⟩, qz⟩
/-- x * n -/
def rMulO (C : Addr) (sp : Sp) (E : XK) : R2 := fun x y H Q => ∃ a i, x = .ref a ∧ y = .int i ∧ InsA H a C ∧ sp [x, y] H Q E
theorem op_mulO (hc : PySem.W.selfFirst X.K C = true) (hi : PySem.W.subIn X.K (.type "int") (.ref C) = some false) (hs : PySem.W.findIn X.K (.ref C) "__mul__" = some (some (.ref g))) (hrm : PySem.W.findIn X.K (.ref C) "__rmul__" = some none)
    (hf : PySem.W.isFn X.K (.ref g) = true) (F : FnR X.prog X.w X.K X.mg X.base CX n g sp) (hr : Room n X.A) (hx : Passes CX X E) : OpR X (binaryOp .Mult) (rMulO C sp E) := by
  intro pins s σ H x y v u Q I rx ry h
  obtain ⟨a, i, rfl, rfl, ha, q⟩ := h
  cases (show v = Value.ref a from rx)
  obtain ⟨t, rfl⟩ : ∃ t, u = Value.int i t := ry
  obtain ⟨ox, od, J⟩ := insA_at I ha
  obtain ⟨m, hF⟩ := I.fr
  refine mul_own hF I.ok.mod.kin J hc hi hs hrm hf ?_
  refine wpAny_mono (wpAny_call (run_fnR (us := [.ref a, .int i t]) (vs := [.ref a, .int i]) F hr hx I (.cons rfl (.cons ⟨t, rfl⟩ .nil)) q)) (fun w s' z => ?_) fun _ _ x => x
  obtain ⟨z', H', I', rz, qz⟩ := z
  exact SlX.cmpback rz ⟨z', H', I', rz, qz⟩
end
end XT

namespace XT
open PySem PySem.Spec PyProof.Rows L2
section
variable {X : Cx} (K : PySem.W.Frag)
/-- x != y, by an own ==, y of another type -/
def rOwnNo (K : PySem.W.Frag) (C : Addr) (sp : Sp) (E : XK) : R2 := fun x y H Q => ∃ a t, x = .ref a ∧ InsA H a C ∧ TyX K H y t ∧ PySem.W.notFirst K C t = true ∧ sp [x, y] H (fun z H' => ∃ k, z = .bl k ∧ Q (.bl (!k)) H') E
theorem op_ownNoK {CX : CXT} {n : Nat} {C g : Addr} {sp : Sp} {E : XK} (hne : PySem.W.findIn K (.ref C) "__ne__" = some (some (.builtin "object.__ne__"))) (ho : PySem.W.subIn K (.ref C) (.type "object") = some true)
    (hs : PySem.W.findIn K (.ref C) "__eq__" = some (some (.ref g))) (hf : PySem.W.isFn K (.ref g) = true) (F : FnR X.prog X.w K X.mg X.base CX n g sp)
    (hr : Room (n + 1) X.A) (hx : Passes CX X E) (hK : X.K = K := by rfl) : OpR X (compareOp .NotEq) (rOwnNo K C sp E) := by
  subst hK
  intro pins s σ H x y v u Q I rx ry h
  obtain ⟨a, t, rfl, ha, ht, hn, q⟩ := h
  cases (show v = Value.ref a from rx)
  obtain ⟨ox, od, J⟩ := insA_at I ha
  obtain ⟨Z, kz, hz, _⟩ := kit_of I ry ht
  show wpAny _ _ (richCompare .NotEq _ _) _ _ _
  refine ne_own (tb := t) (by have := hr.units; omega) I.kIn J (kz.ty _ _ I.kIn hz) hn hne ho hs hf ?_
  refine wpAny_mono (wpAny_call (SlX.run_at (us := [.ref a, u]) (ws := [.ref a, y]) F hr.in1 I.env0.in1 hx I (.cons rfl (.cons ry .nil)) q)) (fun w s' z => ?_) fun _ _ x => x
  obtain ⟨z', H', I', rz, k, rfl, qz⟩ := z
  cases (show w = Value.bool k from rz)
  exact ⟨k, rfl, .bl (!k), H', I', rfl, qz⟩
theorem revLK {e : Expr} {te : TE} {k : Nat} {p1 p2 p3 pos : Pos} (he : PE X e te) (hK : X.K = K := by rfl) : PE X (.Subscript e (.Slice none none (some (.UnaryOp .USub (.Constant (.int 1) k p1) p2)) p3) pos) (tRevL K te) := by subst hK; exact pe_revL he
theorem catAK (hK : X.K = K := by rfl) : OpR X (binaryOp .Add) (rCatA K) := by subst hK; exact op_catA
end
theorem tyX_tup {K : PySem.W.Frag} {H : Hp} {p : Addr} {xs : List V} (h : SqT K H p xs) : TyX K H (.ref p) (.type "tuple") := by
  rcases h with (h | ⟨o, h⟩) | h
  · exact .base (.tup h)
  · exact .fTuple h
  · obtain ⟨o, its, n, e, c, _⟩ := h
    exact .kTuple e c
theorem kit_ty {K : PySem.W.Frag} {n : String} : PySem.W.kitOne K (.type n) (.type n) = some true := by simp [PySem.W.kitOne]
end XT

namespace XT
open PySem PySem.Spec PyProof.Rows L2
/-! ### own exception classes over any built-in one, their __init__ a def -/
/-- what is asked of the built-in class: tl its chain, nw its maker -/
structure BaseX (B nw ini : String) (tl : List Value) : Prop where
  eb : ExcBaseFacts B nw ini tl
  st : ∀ self : Value, PySem.refuseLoop self "__setattr__" tl = pure ()
  ob : tl.contains (.type "object") = true
theorem bx_Value : BaseX "ValueError" "ValueError.__new__" "ValueError.__init__" [.type "ValueError", .type "Exception", .type "BaseException", .type "object"] := ⟨F.excBase_ValueError, F.store_ValueError.passes, by decide +kernel⟩
theorem bx_Runtime : BaseX "RuntimeError" "RuntimeError.__new__" "RuntimeError.__init__" [.type "RuntimeError", .type "Exception", .type "BaseException", .type "object"] := ⟨F.excBase_RuntimeError, F.store_RuntimeError.passes, by decide +kernel⟩
theorem bx_Lookup : BaseX "LookupError" "LookupError.__new__" "LookupError.__init__" [.type "LookupError", .type "Exception", .type "BaseException", .type "object"] := ⟨F.excBase_LookupError, F.store_LookupError.passes, by decide +kernel⟩
theorem bx_Overflow : BaseX "OverflowError" "OverflowError.__new__" "OverflowError.__init__" [.type "OverflowError", .type "ArithmeticError", .type "Exception", .type "BaseException", .type "object"] := ⟨F.excBase_OverflowError, F.store_OverflowError.passes, by decide +kernel⟩
section
variable {tl : List Value}
theorem chain_has (cs : List Addr) (n : String) : (cs.map Value.ref ++ tl).contains (.type n) = tl.contains (.type n) := by
  induction cs with
  | nil => rfl
  | cons c cs ih =>
    rw [List.map_cons, List.cons_append, List.contains_cons, ih]
    rfl
theorem chain_pass (st : ∀ self : Value, PySem.refuseLoop self "__setattr__" tl = pure ()) (self : Value) (cs : List Addr) : PySem.refuseLoop self "__setattr__" (cs.map Value.ref ++ tl) = pure () := by
  induction cs with
  | nil => exact st self
  | cons c cs ih =>
    rw [List.map_cons, List.cons_append, PySem.refuseLoop_ref]
    exact ih
end
/-- the written part of such a class -/
structure OexG (K : PySem.W.Frag) (C : Addr) (tl : List Value) (nw : String) : Prop where
  cls : ∃ (nm q : Str) (N : Addr) (bs : List Value) (cs : List Addr) (sn : List Str) (sub : List Value) (ab : Bool) (col : Option Bool) (dd : Option Addr) (k0 k1 k2 k3 k5 : Option Value), K.lookup C = some (excClassObj nm q C N bs (cs.map Value.ref ++ tl) true sn sub ab col dd k0 k1 k2 k3 k5 nw)
  sa : PySem.W.findIn K (.ref C) "__setattr__" = some (some (.builtin "object.__setattr__"))
  exC : PySem.W.subIn K (.ref C) (.type "BaseException") = some true
  tyC : PySem.W.typeIn K (.ref C) = some (.type "type")
  kC : PySem.W.keepIn K (.ref C) = true
section
variable {prog : Program} {w : World} {A : Around} {R : Result → Shared → Prop} {hp : Heap} {g : Array GenState} {d : Drawn} {t : Nat} {os : OsState}
/-- the first field of such an exception -/
theorem gx_store {K : PySem.W.Frag} {name : Str} {tk : Tok} {v : Value} {x C : Addr} {fv : Array Value} {cd : ClassData} {tl : List Value} {cs : List Addr} (st : ∀ self : Value, PySem.refuseLoop self "__setattr__" tl = pure ()) (ob : tl.contains (.type "object") = true)
    (X : K.In hp) (hx : hp.get? x = some { cls := .ref C, data := .fields fv }) (hcd : PySem.W.clsIn K C = some cd) (hm : cd.mro = (C :: cs).map Value.ref ++ tl) (hh : cd.hasDict = true) (ha : PySem.W.findIn K (.ref C) name = some none)
    (hq : ∀ h' tk' dx, (∀ b o, b ≠ x → hp.get? b = some o → h'.get? b = some o) → hp.objs.size ≤ dx → dx ≠ x → h'.get? x = some { cls := .ref C, dict := some dx, data := .fields fv } →
      h'.Ns1 dx (fun y => if y = name then some v else none) → R (.ok (.ret .none)) ⟨h', g, d, tk', os⟩) :
    codeAny (model prog w) A (.call (.builtin "object.__setattr__") ⟨[.ref x, .str name tk, v], []⟩) R ⟨hp, g, d, t, os⟩ := by
  have J : PySem.W.InstAt hp x { cls := .ref C, data := .fields fv } C none := ⟨hx, rfl, rfl, trivial⟩
  have hob : cd.mro.contains (.type "object") = true := by rw [hm, chain_has, ob]
  have hne : cd.mro.isEmpty = false := by rw [hm]; rfl
  have hx0 : x ≠ hp.objs.size := Nat.ne_of_lt (Heap.lt_size hx)
  have isO : PySem.W.Looks (model prog w) hp (isInstance (.ref x) (.type "object")) true := J.type.andThen (PySem.W.looks_mroIn X (by unfold PySem.W.mroIn; rw [hcd, Option.bind_some, if_neg (by rw [hne]; decide), hob]))
  have SF := F.store_object
  refine codeAny_call_builtin SF.slot.plain SF.entry (@PySem.W.check_slot (model prog w) _ _ ⟨hp, g, d, t, os⟩ "object.__setattr__" "object" "__setattr__" (.ref x) [.str name tk, v] [] _ SF.kind SF.split isO (SF.args (.ref x) (.str name tk) v) ?_)
  have lm : PySem.W.Looks (model prog w) hp (mroOf (.ref C)) cd.mro := (PySem.W.looks_clsIn X hcd).andThen .now
  have lc : PySem.W.Looks (model prog w) hp (classData C) cd := PySem.W.looks_clsIn X hcd
  have lt : PySem.W.Looks (model prog w) hp (Builtin.ObjectAttr.storeTaker? none) none := .now
  rw [PySem.W.osa_eq, PySem.refuse_eq]
  refine wpAny_bind (wpAny_bind (J.type.at (wpAny_bind (lm.at ?_))))
  rw [hm, chain_pass st]
  refine wpAny_pure (wpAny_bind (J.type.at (wpAny_bind ((PySem.W.looks_findIn X ha).at (wpAny_bind (lt.at ?_))))))
  show wpAny _ _ (Builtin.ObjectAttr.storeInOwnDict (.ref x) (.ref C) (.str name tk) name v false) _ _ _
  obtain ⟨nm, bs, mro, ns, qn, hd, sn, sb, ab, col, del⟩ := cd
  dsimp only at hh
  subst hh
  unfold Builtin.ObjectAttr.storeInOwnDict Builtin.ObjectAttr.ownDictForStores
  repeat (first | with_reducible refine PySem.HandSPX.store_in_new ?_ ?_ | with_reducible refine wpAny_loadPart_at hx ?_ | with_reducible refine lc.at ?_ | wp_step)
  · exact ⟨_, #[], _, (Heap.get?_update_ne _ _ _ _ hx0.symm).trans (Heap.get?_push_at rfl rfl), rfl, fun e he => absurd he (by simp), fun _ => rfl⟩
  · intro h' tk' hn' hs
    have hx1 : (hp.push { cls := .type "dict", data := .dict #[] }).get? x = some { cls := .ref C, data := .fields fv } := Heap.get?_push_of_some _ hx
    exact hq h' tk' hp.objs.size (fun b o hb ho => (hs.2 b (Nat.ne_of_lt (Heap.lt_size ho))).trans ((Heap.get?_update_ne _ _ _ _ hb).trans (Heap.get?_push_of_some _ ho))) (Nat.le_refl _) hx0.symm ((hs.2 x hx0).trans (Heap.get?_update_self _ hx1 rfl)) hn'
end
section
variable {X : Cx} {pins : List (Addr × Obj)} {σ : L2.St} {H : Hp} {s : Shared} {a C : Addr} {f : Str} {y : V} {u : Value} {Q : Unit → Shared → Prop} {E : Value → Shared → Prop} {A : Around} {B nw ini : String} {tl : List Value}
theorem gst_new (bx : BaseX B nw ini tl) (T : OexG X.K C tl nw) (I : Inv X pins σ H s) (e : H a = some (exo a C none)) (hno : PySem.W.findIn X.K (.ref C) f = some none) (ry : RelV y u)
    (h : ∀ dx s', H dx = none → dx ≠ a → Inv X pins σ (upd (upd H dx (exd dx [(f, y)])) a (exo a C (some dx))) s' → Q () s') : wpAny (model X.prog X.w) A (setAttr (.ref a) f u) Q E s := by
  obtain ⟨nm, q, N, bs, cs, sn, sub, ab, col, dd, k0, k1, k2, k3, k5, hC⟩ := T.cls
  have hcl : PySem.W.clsIn X.K C = some { name := nm, bases := bs, mro := .ref C :: (cs.map Value.ref ++ tl), ns := N, qualname := q, hasDict := true, slotNames := sn, subclasses := sub, abstract := ab, collection := col, hasDel := false } := by unfold PySem.W.clsIn; rw [hC] <;> rfl
  obtain ⟨t1, ho⟩ := exo_at I.hok e
  obtain ⟨hp, g, d, t, os⟩ := s
  refine PySem.W.set_plain I.kIn (ox := { cls := .ref C, dict := none, data := .fields #[.ref t1, .none, .none, .none, .bool false, .none] }) (od := none) ⟨ho, rfl, rfl, trivial⟩ T.sa ?_
  refine gx_store (cs := cs) bx.st bx.ob I.kIn ho hcl rfl rfl hno (fun h' tk' dx k dn dne hx hn => ?_)
  have fresh : H dx = none := I.hok.fresh dn
  have low : ∀ {b : Addr} {o : Obj}, hp.get? b = some o → b ≠ dx := fun z => Nat.ne_of_lt (Nat.lt_of_lt_of_le (Heap.lt_size z) dn)
  have notA : ∀ {b : Addr}, H b = none → b ≠ a := fun {b} n z => by rw [z, e] at n; cases n
  have both : ∀ {b : Addr} {v : HO}, H b = some v → exo a C none ≠ v → upd (upd H dx (exd dx [(f, y)])) a (exo a C (some dx)) b = some v := fun {b v} z ne => by
    rw [upd_ne (fun q => by rw [q, e] at z; exact ne (Option.some.inj z)), upd_ne (fun q => by rw [q, fresh] at z; cases z)]
    exact z
  have U : Un X.fs [] H (upd (upd H dx (exd dx [(f, y)])) a (exo a C (some dx))) hp h' := {
    keep := fun b o z n _ _ => k b o (notA n) z
    slot := fun b o z n _ _ => ⟨o.slots, k b o (notA n) z⟩
    free := fun b o z n _ => by rw [upd_ne (notA n), upd_ne (low z)]; exact n
    there := fun b o z _ => by
      by_cases hb : b = a
      · subst hb
        exact ⟨_, hx⟩
      · exact ⟨o, k b o hb z⟩
    tups := fun b xs z => both z exo_tup
    frzs := fun b o v z => both z exo_frz
    tbls := fun b ps z => ⟨#[], by rw [both z exo_tbl]; simp⟩ }
  refine h dx _ fresh dne (I.un (t' := tk') U fun b o z => ?_)
  by_cases hb : b = a
  · subst hb
    rw [upd_same] at z
    cases z
    exact exo_ok hx
  · rw [upd_ne hb] at z
    by_cases hd : b = dx
    · subst hd
      rw [upd_same] at z
      cases z
      exact exd_ok hn (relO_put (fs := []) ry fun g => True.intro)
    · rw [upd_ne hd] at z
      refine (I.hok b o z).stay (fun c v hc zz => k c v ?_ zz) (fun c hc => both hc exo_own) (fun c xs hc => both hc exo_tup)
      rcases hc with rfl | hc
      · exact hb
      · exact at_ne e hc exo_own
end
/-- self.f = e in such an __init__ -/
def tGst (K : PySem.W.Frag) (f : Str) (to te : TE) : TS := fun D σ H => te σ H fun y H1 => to σ H1 fun x H2 => ∃ (a C : Addr) (B nw ini : String) (tl : List Value), x = .ref a ∧ BaseX B nw ini tl ∧ OexG K C tl nw ∧ PySem.W.findIn K (.ref C) f = some none ∧
  H2 a = some (exo a C none) ∧ ∀ dx, H2 dx = none → dx ≠ a → D.nx σ (upd (upd H2 dx (exd dx [(f, y)])) a (exo a C (some dx)))
section
variable {X : Cx} {o e : Expr} {es : List Expr} {to te : TE} {ta : TA} {f : Str} {p p' pos : Pos} {B nw ini : String} {tl : List Value}
theorem ps_gst (ho : PE X o to) (he : PE X e te) (hs : swapsWith e (some (.Attribute o f p')) pos.line X.env = pure false := by rfl) : PS X (.Assign [.Attribute o f p'] e pos) (tGst X.K f to te) := by
  refine ⟨fun pins s σ H D I h => ?_⟩
  refine plainObj_wpAny_Assign_Attribute (thn (he.run pins s σ H _ I h) fun v s1 ⟨y, H1, I1, r1, q1⟩ => thn (ho.run pins s1 σ H1 _ I1 q1) fun u s2 ⟨x, H2, I2, r2, a, C, B, nw, ini, tl, ex, bx, T, hno, ea, q⟩ => ?_) hs
  subst ex
  obtain rfl : u = Value.ref a := r2
  exact gst_new bx T I2 ea hno r1 fun dx s' n ne J => ⟨σ, _, J, q dx n ne⟩
/-- C(e, ..) to be raised -/
theorem pmk_gex {CX : CXT} {x : Str} {C fI : Addr} {k : Nat} {fd : FuncData} {ps : List Str} {sp : Sp} (bx : BaseX B nw ini tl) (T : OexG X.K C tl nw) (iC : PySem.W.findIn X.K (.ref C) "__init__" = some (some (.ref fI))) (tI : PySem.W.typeIn X.K (.ref fI) = some (.type "function"))
    (F1 : FnOk X.prog X.w X.K X.mg X.base CX k fI fd ps sp) (hr : Room (k + 1) X.A) (hb : Binds X.K fd ps []) (hx : Passes CX X (fun _ _ _ => False)) (hg : Gl X x) (hm : X.mg x = some (.ref C)) (ha : PA X (e :: es) ta)
    (hdb : (x == ("__debug__" : Str)) = false := by decide) (he : starEach (e :: es) X.env = (false, eval e X.env) :: starEach es X.env := by rfl) (hpl : (backTo pos (starEach es X.env)).any (·.1) = false := by rfl) :
    PMk X (.Call (.Name x p) (e :: es) [] pos) (tMkO C sp [] ta) := by
  intro pins s σ H Q I h
  obtain ⟨nm, q, N, bs, cs, sn, sub, ab, col, dd, k0, k1, k2, k3, k5, hC⟩ := T.cls
  refine wpAny_Call_Name_kw (ld_glob I hg hm ?_ hdb)
  refine PySem.W.callWith_K (h₀ := X.base) I.ok.mod.kin T.kC (thn (ha.run pos pins s σ H _ I h) fun us s1 ⟨vs, H1, I1, r1, hz, q1⟩ => ⟨I1.kIn, ?_⟩) he hpl
  show wpAny _ _ (call (.ref C) us) _ _ _
  obtain ⟨hp, g, dr, tk, os⟩ := s1
  have up : hp.objs.size ≤ hp.objs.size + 1 := Nat.le_succ _
  have hq := q1 (hp.objs.size + 1) (I1.hok.fresh up)
  have kk : ∀ b o, hp.get? b = some o → ((hp.push (PySem.W.kdv_tup us)).push (PySem.HandSPX.excO C hp.objs.size)).get? b = some o := fun b o z => Heap.get?_push_of_some _ (Heap.get?_push_of_some _ z)
  have I2 : Inv X pins σ (upd H1 (hp.objs.size + 1) (exo (hp.objs.size + 1) C none)) ⟨(hp.push (PySem.W.kdv_tup us)).push (PySem.HandSPX.excO C hp.objs.size), g, dr, tk, os⟩ :=
    I1.laid (t' := tk) (a := hp.objs.size + 1) (o := exo (hp.objs.size + 1) C none) kk up (exo_ok (t1 := hp.objs.size) (by heap_get))
  have r2 : Vals (V.ref (hp.objs.size + 1) :: (vs ++ [])) (Value.ref (hp.objs.size + 1) :: us) := .cons rfl (by rw [List.append_nil]; exact r1)
  have hl : (Value.ref (hp.objs.size + 1) :: us).length = ps.length := r2.length.symm.trans (F1.len _ _ _ _ hq)
  have hus : us.length ≤ sizeLine := by
    rw [← Paired.length r1, sizeLine_eq]
    omega
  have hbd := hb ⟨(hp.push (PySem.W.kdv_tup us)).push (PySem.HandSPX.excO C hp.objs.size), g, dr, tk, os⟩ (Value.ref (hp.objs.size + 1) :: us) I2.kIn (by simpa using hl)
  refine wpAny_call (PySem.HandSPX.call_own bx.eb (chain_has cs) (I1.kIn _ _ hC) (PySem.W.looks_findIn I1.kIn iC) (fun self => PySem.W.bind_fn I1.kIn self tI) hus
    (codeAny_mono (F1.run _ X.stack _ _ ⟨Value.ref (hp.objs.size + 1) :: us, []⟩ (Value.ref (hp.objs.size + 1) :: us) _ _ (fun _ _ _ => False) (hr.make C us []) (I2.env0.make C us []) (by simpa using hbd) r2 hq) fun r s' hq' => ?_))
  match r, hq' with
  | .error er, hq' => exact hx pins σ _ _ er s' I2 hq'
  | .ok (.ret u), hq' =>
    obtain ⟨v, H2, os2, bare2, un2, hok2, rv, ev, d, fs, ea, ed, hd1, q2⟩ := hq'
    subst ev
    obtain ⟨h2, g2, d2, t2, os'⟩ := s'
    exact ⟨rv, mk_end (raises_own T.exC T.tyC) I1 up kk un2 hok2 os2 bare2 ea ed hd1 q2⟩
end
/-- what the written part says of such an error -/
structure ErrG (K : PySem.W.Frag) (C fI : Addr) (f : Str) (B nw ini : String) (tl : List Value) : Prop where
  bx : BaseX B nw ini tl
  oex : OexG K C tl nw
  iC : PySem.W.findIn K (.ref C) "__init__" = some (some (.ref fI))
  tI : PySem.W.typeIn K (.ref fI) = some (.type "function")
  no : PySem.W.findIn K (.ref C) f = some none
  ga : PySem.W.findIn K (.ref C) "__getattribute__" = some (some (.builtin "BaseException.__getattribute__"))
  gg : PySem.W.findIn K (.ref C) "__getattr__" = some none
  hd : PySem.W.hasDictIn K C = true
  ha : PySem.W.findIn K (.ref C) "__class__" = some (some (.builtin "object.__class__"))
  hn : PySem.W.specialIn K (.builtin "object.__class__") "__get__" = some (some (.builtin "getset_descriptor.__get__"))
  ht : PySem.W.takesIn K (.builtin "object.__class__") = some true
  hm : PySem.W.mroIn K C (.type "object") = some true
section
variable {K : PySem.W.Frag} {C fI : Addr} {f : Str} {B nw ini : String} {tl : List Value}
theorem ErrG.xf (T : ErrG K C fI f B nw ini tl) : XfC K C := ⟨T.ga, T.gg, T.oex.exC, T.hd⟩
theorem ErrG.exc (T : ErrG K C fI f B nw ini tl) : ExcC K C := ⟨T.ga, T.gg, T.oex.exC, T.hd, T.ha, T.hn, T.ht, T.hm⟩
/-- raise C(e) in a def -/
theorem ps_raiseG {X : Cx} {W : WX} {x : Str} {k : Nat} {fd : FuncData} {ps : List Str} {e : Expr} {te : TE} {p pos rpos : Pos} (T : ErrG X.K C fI f B nw ini tl) (F1 : FnOk X.prog X.w X.K X.mg X.base CX0 k fI fd ps (spErr f C)) (hb : Binds X.K fd ps []) (hr : Room (k + 1) X.A)
    (hm : X.mg x = some (.ref C)) (hc : X.calm = true) (tk : Takes X W) (he : PE X e te) (hg : Gl X x := by rfl) (hdb : (x == ("__debug__" : Str)) = false := by decide)
    (hs : starEach [e] X.env = (false, eval e X.env) :: starEach [] X.env := by rfl) (hpl : (backTo pos (starEach [] X.env)).any (·.1) = false := by rfl) :
    PS X (.Raise (some (.Call (.Name x p) [e] [] pos)) none rpos) (fun _ σ H => tErr C f te σ H fun cls d H' => W cls d σ H') :=
  ps_raise hc tk (pmk_gex T.bx T.oex T.iC T.tI F1 hr hb pass0 hg hm (pa_cons he pa_nil hs) hdb hs hpl)
end
end XT

namespace XT
open PySem PySem.Spec PyProof.Rows L2
/-! ### sorted(t) of a tuple of ints -/
def rSortedA (K : PySem.W.Frag) : List V → Hp → VK → Prop := fun vs H Q => ∃ (a : Addr) (ns : List Int), vs = [V.ref a] ∧ (SqL K H a (ns.map V.int) ∨ SqT K H a (ns.map V.int)) ∧
  ∀ (ns' : List Int) (p : Addr), ns'.Perm ns → ns'.Pairwise (· ≤ ·) → H p = none → Q (.ref p) (upd H p (.lst (ns'.map V.int)))
section
variable {X : Cx}
theorem cr_sortedA : CallR X (.builtin "sorted") (rSortedA X.K) := by
  intro pins s σ H vs us Q I r h
  obtain ⟨a, ns, rfl, hs | hs, q⟩ := h
  · exact cr_sortedI pins s σ H _ us Q I r ⟨a, ns, rfl, hs, q⟩
  obtain ⟨its, rv, hl, hz⟩ := I.tuple hs
  rw [Vals.ref1 r]
  have hi := rv.ints
  have hle : its.length ≤ sizeLine := by rw [← rv.length]; exact hz
  obtain ⟨o, ho, hc, n, hd⟩ := hl
  refine Calls.call_function_entry kind_sorted plain_sorted entry_sorted (args_sorted1 _) ?_
  unfold Builtin.«sorted»
  refine wpAny_bind (m := checkCount "sorted" 1 1 _) (wpAny_pure ?_)
  refine wpAny_bind (wpAny_collect_seq a (.inr rfl) ho hc hd (fun h' hk => ?_) (by rw [List.size_toArray]; exact hle))
  have e0 : its.toArray.toList = its := by simp
  rw [e0]
  refine wpAny_bind (wpAny_newList ?_ hle)
  have hoL : (h'.push (seqObj "list" its.toArray 0)).get? h'.objs.size = some (seqObj "list" its.toArray 0) := Heap.get?_push_size _ rfl
  show wpAny _ _ _ _ _ { s with heap := h'.push (seqObj "list" its.toArray 0) }
  refine wpAny_bind (wpAny_holding (wpAny_call_entry slot_list_sort ⟨_, hoL, rfl⟩ entry_list_sort (SrtO.list_sort_ord SrtO.swo_int hoL hle (fun h2 => SrtO.ints_sortable hi h2) fun out q1 q2 => ⟨_, rfl, ?_⟩) (args_list_sort _)))
  refine wpAny_pure ⟨_, rfl, ?_⟩
  obtain ⟨k1, k2, k3⟩ := SrtO.ints_out hi q1 q2
  obtain ⟨ep, he'⟩ := PyProof.Rows.sortedHeap_at (vs := its) (out := out.toArray) hoL
  have hlen : ((out.map SrtO.iv).map V.int).length ≤ sizeLine := by
    rw [List.length_map, k2.length_eq]
    rw [List.length_map] at hz
    exact hz
  have I1 : Inv X pins σ H { s with heap := h' } := I.kept (t' := s.toks) hk
  have h2 : ∀ b u, h'.get? b = some u → b ≠ h'.objs.size ∧ (h'.push (seqObj "list" its.toArray 0)).get? b = some u := fun b u z => ⟨Nat.ne_of_lt (Heap.lt_size z), Heap.get?_push_of_some _ z⟩
  exact ⟨.ref _, upd H h'.objs.size (.lst ((out.map SrtO.iv).map V.int)), I1.laid (t' := s.toks) (fun b u z => by rw [PyProof.Rows.sortedHeap_old (h2 b u z).1 (Heap.lt_size (h2 b u z).2)]; exact (h2 b u z).2) (Nat.le_refl _) ⟨hlen, out, ep, vals_of_ints k1, he'⟩, rfl, q _ _ k2 k3 (I1.hok.fresh (Nat.le_refl _))⟩
theorem sortedAK (K : PySem.W.Frag) (hK : X.K = K := by rfl) : CallR X (.builtin "sorted") (rSortedA K) := by subst hK; exact cr_sortedA
end
end XT

namespace XT
open PySem PySem.Spec PyProof.Rows L2
/-! ### own exception classes called with one keyword -/
section
variable {prog : Program} {w : World} {A : Around} {E : Value → Shared → Prop} {R : Result → Shared → Prop} {h : Heap} {g : Array GenState} {d : Drawn} {t : Nat} {os : OsState} {nm q : Str} {C N fI : Addr} {bs bm bmB : List Value} {hdct : Bool} {sn : List Str} {sub : List Value} {ab : Bool} {col : Option Bool} {dd : Option Addr}
  {k0 k1 k2 k3 k5 : Option Value} {B newId initId : String} {kf : Str} {kv : Value}
theorem kx_new {M : Model} (F : ExcBaseFacts B newId initId bmB) (hT : ∀ X : String, bm.contains (.type X) = bmB.contains (.type X)) {Q : Unit → Shared → Prop}
    (hC : h.get? C = some (excClassObj nm q C N bs bm hdct sn sub ab col dd k0 k1 k2 k3 k5 newId)) (hq : Q () ⟨h, g, d, t, os⟩) : wpAny M A (checkBuiltinCall newId ⟨[.ref C], [(kf, kv)]⟩) Q E ⟨h, g, d, t, os⟩ := by
  have hcont : (Value.ref C :: bm).contains (.type B) = true := by rw [List.contains_cons, hT, F.hasB, Bool.or_true]
  have hstar := F.noStar
  simp only [checkBuiltinCall, F.newKind, F.newSplit, F.newRow]
  repeat (first | refine wpAny_loadPart_at hC ?_ | (refine wpAny_isSubtype_exc hC ?_; rw [hcont]) | refine wpAny_staticBase_exc hC ?_ | refine wpAny_madeBy_exc hC ?_ | simp only [bne_self_eq_false, Bool.false_eq_true, if_false] | wp_step)
  exact hq
theorem kx_tc {M : Model} {Q : Unit → Shared → Prop} (hC : h.get? C = some (excClassObj nm q C N bs bm hdct sn sub ab col dd k0 k1 k2 k3 k5 newId))
    (hq : Q () ⟨h, g, d, t, os⟩) : wpAny M A (checkBuiltinCall "type.__call__" ⟨[.ref C], [(kf, kv)]⟩) Q E ⟨h, g, d, t, os⟩ := by
  have f3 := tc_sub
  have hT : (⟨h, g, d, t, os⟩ : Shared).TypeIs (.ref C) "type" := ⟨_, hC, rfl⟩
  simp only [checkBuiltinCall, tc_kind, tc_split]
  repeat (any_goals (first | assumption | with_reducible refine wpAny_loadPart_at hC ?_ | with_reducible refine wpAny_onRaise ?_ | with_reducible refine wpAny_map ?_ | wp_step))
end
end XT

namespace XT
open PySem PySem.Spec PyProof.Rows L2
section
variable {prog : Program} {w : World} {A : Around} {E : Value → Shared → Prop} {R : Result → Shared → Prop} {h : Heap} {g : Array GenState} {d : Drawn} {t : Nat} {os : OsState} {nm q : Str} {C N fI : Addr} {bs bm bmB : List Value} {hdct : Bool} {sn : List Str} {sub : List Value} {ab : Bool} {col : Option Bool} {dd : Option Addr}
  {k0 k1 k2 k3 k5 : Option Value} {B newId initId : String} {kf : Str} {kv : Value}
theorem kx_newobj (F : ExcBaseFacts B newId initId bmB) (hT : ∀ X : String, bm.contains (.type X) = bmB.contains (.type X)) (hC : h.get? C = some (excClassObj nm q C N bs bm hdct sn sub ab col dd k0 k1 k2 k3 k5 newId))
    (hq : R (.ok (.ret (.ref (h.objs.size + 1)))) ⟨(h.push (PySem.W.kdv_tup [])).push (PySem.HandSPX.excO C h.objs.size), g, d, t, os⟩) :
    codeAny (model prog w) A (.builtin newId ⟨[.ref C], [(kf, kv)]⟩) R ⟨h, g, d, t, os⟩ := by
  have hends := F.ends
  have hcB : (Value.ref C :: bm).contains (.type B) = true := by rw [List.contains_cons, hT, F.hasB, Bool.or_true]
  have hcA : (Value.ref C :: bm).contains (.type "AttributeError") = false := by rw [List.contains_cons, hT, F.noAttr]; rfl
  have hcN : (Value.ref C :: bm).contains (.type "NameError") = false := by rw [List.contains_cons, hT, F.noName]; rfl
  refine codeAny_builtinAt F.entry ?_
  unfold Builtin.«BaseException.__new__»
  refine PySem.wpAt_bind ?_
  show PySem.wpAt _ _ _ (stack >>= _) _ _ _
  refine PySem.wpAt_bind (PySem.wpAt_stack fun p below => PySem.wpAt_of_wpAny ?_)
  wp_walk
  refine PySem.wpAt_of_wpAny ?_
  rw [F.owner]
  repeat (first | with_reducible refine wpAny_madeHere_exc F.canon hC ?_ | with_reducible refine wpAny_loadPart_at hC ?_ | (with_reducible refine wpAny_isSubtype_exc hC ?_; first | rw [hcB] | rw [hcA] | rw [hcN]) | wp_step)
  show R _ _
  rw [Heap.size_push]
  exact hq
theorem kx_type {Q : PySem.Fin → Shared → Prop} (F : ExcBaseFacts B newId initId bmB) (hT : ∀ X : String, bm.contains (.type X) = bmB.contains (.type X)) (hC : h.get? C = some (excClassObj nm q C N bs bm hdct sn sub ab col dd k0 k1 k2 k3 k5 newId))
    (hi : PySem.W.Looks (model prog w) h (typeLookup (.ref C) "__init__") (some (.ref fI))) (hb : ∀ self, PySem.W.Looks (model prog w) h (bindSpecial (.ref fI) self) (.ref fI, [self]))
    (hq : codeAny (model prog w) A (.call (.ref fI) ⟨[.ref (h.objs.size + 1)], [(kf, kv)]⟩)
      (fun r s' => match r with | .ok (.ret v) => v = .none ∧ Q (.done (.ret (.ref (h.objs.size + 1)))) s' | .ok _ => False | .error e => E e s')
      ⟨(h.push (PySem.W.kdv_tup [])).push (PySem.HandSPX.excO C h.objs.size), g, d, t, os⟩) :
    wpAny (model prog w) A (Builtin.«type.__call__» ⟨[.ref C], [(kf, kv)]⟩) Q E ⟨h, g, d, t, os⟩ := by
  repeat (first | with_reducible refine wpAny_loadPart_at hC ?_ | with_reducible refine wpAny_madeBy_exc hC ?_ | wp_step)
  refine codeAny_call_builtin_code (Code.quiet_builtin _ F.quiet) (kx_new F hT hC ?_)
  refine kx_newobj F hT hC ?_
  show wpAny _ _ _ _ _ _
  have kk : ∀ b o, h.get? b = some o → ((h.push (PySem.W.kdv_tup [])).push (PySem.HandSPX.excO C h.objs.size)).get? b = some o := fun b o e => Heap.get?_push_of_some _ (Heap.get?_push_of_some _ e)
  have hC1 := kk _ _ hC
  have hget : ((h.push (PySem.W.kdv_tup [])).push (PySem.HandSPX.excO C h.objs.size)).get? (h.objs.size + 1) = some (PySem.HandSPX.excO C h.objs.size) := by heap_get
  have hcC : (Value.ref C :: bm).contains (.ref C) = true := by simp
  have i1 := hi.keeps kk
  have b1 := (hb (.ref (h.objs.size + 1))).keeps kk
  unfold isInstance
  repeat (first | with_reducible refine wpAny_loadPart_at hget ?_ | (with_reducible refine wpAny_isSubtype_exc hC1 ?_; rw [hcC]) | wp_step)
  show wpAny _ _ (typeLookup (.ref C) _) _ _ _
  refine i1.at ?_
  refine wpAny_holding (wpAny_bind (b1.at ?_))
  refine wpAny_bind (wpAny_call (codeAny_mono hq fun r s' z => ?_))
  rcases r with e | (v | _ | _ | _) <;> first | exact z | exact z.elim | skip
  obtain ⟨rfl, z⟩ := z
  first
    | exact wpAny_pure (wpAny_pure z)
    | (wp_walk; exact z)
theorem kx_call (F : ExcBaseFacts B newId initId bmB) (hT : ∀ X : String, bm.contains (.type X) = bmB.contains (.type X)) (hC : h.get? C = some (excClassObj nm q C N bs bm hdct sn sub ab col dd k0 k1 k2 k3 k5 newId))
    (hi : PySem.W.Looks (model prog w) h (typeLookup (.ref C) "__init__") (some (.ref fI))) (hb : ∀ self, PySem.W.Looks (model prog w) h (bindSpecial (.ref fI) self) (.ref fI, [self]))
    (hq : codeAny (model prog w) (A.under (.builtin "type.__call__" ⟨[.ref C], [(kf, kv)]⟩)) (.call (.ref fI) ⟨[.ref (h.objs.size + 1)], [(kf, kv)]⟩) (PySem.W.InitBack (h.objs.size + 1) R)
      ⟨(h.push (PySem.W.kdv_tup [])).push (PySem.HandSPX.excO C h.objs.size), g, d, t, os⟩) :
    codeAny (model prog w) A (.call (.ref C) ⟨[], [(kf, kv)]⟩) R ⟨h, g, d, t, os⟩ := by
  have f1 := tc_lookup
  have f2 := tc_bind (.ref C)
  have hTy : (⟨h, g, d, t, os⟩ : Shared).TypeIs (.ref C) "type" := ⟨_, hC, rfl⟩
  refine codeAny_of_tree ?_
  show wpAny _ _ (callAny (.ref C) _) _ _ _
  repeat (any_goals (first | assumption | with_reducible refine wpAny_loadPart_at hC ?_ | wp_step))
  refine ⟨rfl, ?_⟩
  refine codeAny_call_builtin_at (Code.quiet_builtin _ (by decide +kernel)) entry_typeCall (kx_tc hC (kx_type F hT hC hi hb ?_))
  refine codeAny_mono hq fun r s' z => ?_
  rcases r with e | (v | _ | _ | _) <;> exact z
end
end XT

namespace XT
open PySem PySem.Spec PyProof.Rows L2
/-! ### errors as values -/
/-- an error of the class at C stands at a, its field f holds v -/
def ErrAt (H : Hp) (C : Addr) (f : Str) (v : V) (a : Addr) : Prop := ∃ d, H a = some (exo a C (some d)) ∧ H d = some (exd d [(f, v)])
theorem ErrAt.same {H H' : Hp} {C : Addr} {f : Str} {v : V} {a : Addr} (h : ErrAt H C f v a) (e : Same H H') : ErrAt H' C f v a := let ⟨d, p, q⟩ := h; ⟨d, e _ _ p, e _ _ q⟩
theorem err_made {H : Hp} {a d C : Addr} {f : Str} {v : V} (ha : H a = none) (hd : H d = none) (ne : d ≠ a) : Same H (upd (upd (upd H a (exo a C none)) d (exd d [(f, v)])) a (exo a C (some d))) ∧ ErrAt (upd (upd (upd H a (exo a C none)) d (exd d [(f, v)])) a (exo a C (some d))) C f v a := by
  refine ⟨fun b o e => ?_, d, upd_same, by rw [upd_ne ne, upd_same]⟩
  have h1 : b ≠ a := fun q => by rw [q, ha] at e; cases e
  have h2 : b ≠ d := fun q => by rw [q, hd] at e; cases e
  rw [upd_ne h1, upd_ne h2, upd_ne h1]
  exact e
/-- C(e), C(f=e), as a value -/
def tMkV (C : Addr) (f : Str) (te : TE) : TE := fun σ H Q => tCons te tNil σ H fun vs H1 => ∃ v, vs = [v] ∧ ∀ a H2, Same H1 H2 → H1 a = none → ErrAt H2 C f v a → Q (.ref a) H2
section
variable {X : Cx} {B nw ini : String} {tl : List Value} {C fI : Addr} {f x : Str} {k : Nat} {fd : FuncData} {e : Expr} {te : TE} {p pos kp : Pos}
theorem run_err {pins : List (Addr × Obj)} {σ : L2.St} {H : Hp} {s : Shared} {Q : VK} {v : V} {u : Value} {ps : List Str} {args : Args} (F1 : FnOk X.prog X.w X.K X.mg X.base CX0 k fI fd ps (spErr f C)) (hr : Room (k + 1) X.A)
    (I : Inv X pins σ H s) (rv : RelV v u) (kw : List (Str × Value)) (us : List Value)
    (hbd : BindsTo { s with heap := (s.heap.push (PySem.W.kdv_tup us)).push (PySem.HandSPX.excO C s.heap.objs.size) } fd args (ps.zip [Value.ref (s.heap.objs.size + 1), u]))
    (q : ∀ a H2, Same H H2 → H a = none → ErrAt H2 C f v a → Q (.ref a) H2) :
    codeAny (model X.prog X.w) (X.A.under (.builtin "type.__call__" ⟨.ref C :: us, kw⟩)) (.call (.ref fI) args) (PySem.W.InitBack (s.heap.objs.size + 1) (fun r s' => match r with | .ok (.ret v) => EP X pins σ Q v s' | .ok _ => False | .error e => X.xe e s'))
      { s with heap := (s.heap.push (PySem.W.kdv_tup us)).push (PySem.HandSPX.excO C s.heap.objs.size) } := by
  have up : s.heap.objs.size ≤ s.heap.objs.size + 1 := Nat.le_succ _
  have kk : ∀ b o, s.heap.get? b = some o → ((s.heap.push (PySem.W.kdv_tup us)).push (PySem.HandSPX.excO C s.heap.objs.size)).get? b = some o := fun b o z => Heap.get?_push_of_some _ (Heap.get?_push_of_some _ z)
  have I2 : Inv X pins σ (upd H (s.heap.objs.size + 1) (exo (s.heap.objs.size + 1) C none)) { s with heap := (s.heap.push (PySem.W.kdv_tup us)).push (PySem.HandSPX.excO C s.heap.objs.size) } :=
    I.laid (t' := s.toks) (a := s.heap.objs.size + 1) (o := exo (s.heap.objs.size + 1) C none) kk up (exo_ok (t1 := s.heap.objs.size) (by heap_get))
  have n0 : H (s.heap.objs.size + 1) = none := I.hok.fresh up
  have r2 : Vals [V.ref (s.heap.objs.size + 1), v] [Value.ref (s.heap.objs.size + 1), u] := .cons rfl (.cons rv .nil)
  have hq : spErr f C [V.ref (s.heap.objs.size + 1), v] (upd H (s.heap.objs.size + 1) (exo (s.heap.objs.size + 1) C none)) (fun v' H2 => v' = .non ∧ Q (.ref (s.heap.objs.size + 1)) H2) E0 :=
    ⟨_, v, rfl, upd_same, fun d hd hne => ⟨rfl, by
      have hd' : H d = none := by rw [upd_ne hne] at hd; exact hd
      obtain ⟨s1, e1⟩ := err_made (C := C) (f := f) (v := v) n0 hd' hne
      exact q _ _ s1 n0 e1⟩⟩
  refine codeAny_mono (F1.run _ X.stack _ _ args [Value.ref (s.heap.objs.size + 1), u] [V.ref (s.heap.objs.size + 1), v] _ E0 (hr.make C us kw) (I2.env0.make C us kw) hbd r2 hq) fun r s' hq' => ?_
  match r, hq' with
  | .error er, hq' => exact hq'.elim
  | .ok (.ret u'), hq' =>
    obtain ⟨v', H', I3, rv', ev, q3⟩ := I2.after hq'
    subst ev
    exact ⟨rv', ⟨V.ref (s.heap.objs.size + 1), H', I3, rfl, q3⟩⟩
theorem pe_mkErr {ps : List Str} (T : ErrG X.K C fI f B nw ini tl) (F1 : FnOk X.prog X.w X.K X.mg X.base CX0 k fI fd ps (spErr f C)) (hb : Binds X.K fd ps []) (hl : ps.length = 2) (hr : Room (k + 1) X.A) (hg : Gl X x) (hm : X.mg x = some (.ref C)) (he : PE X e te)
    (hdb : (x == ("__debug__" : Str)) = false := by decide) (hs : starEach [e] X.env = (false, eval e X.env) :: starEach [] X.env := by rfl) (hpl : (backTo pos (starEach [] X.env)).any (·.1) = false := by rfl) :
    PE X (.Call (.Name x p) [e] [] pos) (tMkV C f te) := by
  refine ⟨fun pins s σ H Q I h => ?_⟩
  obtain ⟨nm, q, N, bs, cs, sn, sub, ab, col, dd, k0, k1, k2, k3, k5, hC⟩ := T.oex.cls
  refine wpAny_Call_Name_kw (ld_glob I hg hm ?_ hdb)
  refine PySem.W.callWith_K (h₀ := X.base) I.ok.mod.kin T.oex.kC (thn ((pa_cons he pa_nil hs).run pos pins s σ H _ I h) fun us s1 ⟨vs, H1, I1, r1, v, ev, q1⟩ => ⟨I1.kIn, ?_⟩) hs hpl
  subst ev
  obtain ⟨u, rfl, ru⟩ := r1.one
  obtain ⟨hp, g, d, t, os⟩ := s1
  have hbd := hb ⟨(hp.push (PySem.W.kdv_tup [u])).push (PySem.HandSPX.excO C hp.objs.size), g, d, t, os⟩ [Value.ref (hp.objs.size + 1), u] (I1.kept (t' := t) fun b o z => Heap.get?_push_of_some _ (Heap.get?_push_of_some _ z)).kIn (by rw [hl]; rfl)
  refine wpAny_call (codeAny_mono (PySem.HandSPX.call_own T.bx.eb (chain_has cs) (I1.kIn _ _ hC) (PySem.W.looks_findIn I1.kIn T.iC) (fun self => PySem.W.bind_fn I1.kIn self T.tI) (show 1 ≤ sizeLine by decide)
    (run_err F1 hr I1 ru [] [u] (by simpa using hbd) q1)) fun r s' z => z)
theorem pe_mkErrK {ps : List Str} (T : ErrG X.K C fI f B nw ini tl) (F1 : FnOk X.prog X.w X.K X.mg X.base CX0 k fI fd ps (spErr f C)) (hb : ∀ (s : Shared) (a u : Value), BindsTo s fd ⟨[a], [(f, u)]⟩ (ps.zip [a, u])) (hr : Room (k + 1) X.A) (hg : Gl X x) (hm : X.mg x = some (.ref C)) (he : PE X e te)
    (hdb : (x == ("__debug__" : Str)) = false := by decide)
    (hall : (backToKw pos (keywordEach [⟨some f, e, kp⟩] X.env)).all (·.1.isSome) = true := by rfl) (hks : (backToKw pos (keywordEach [⟨some f, e, kp⟩] X.env)).filterMap (·.1) = [f] := by rfl)
    (hpl : ((backTo pos (starEach [] X.env)).any (·.1) || (backToKw pos (keywordEach [⟨some f, e, kp⟩] X.env)).any (·.1.isNone)) = false := by rfl) :
    PE X (.Call (.Name x p) [] [⟨some f, e, kp⟩] pos) (tMkV C f te) := by
  refine ⟨fun pins s σ H Q I h => ?_⟩
  obtain ⟨nm, q, N, bs, cs, sn, sub, ab, col, dd, k0, k1, k2, k3, k5, hC⟩ := T.oex.cls
  refine wpAny_Call_Name_kw (ld_glob I hg hm ?_ hdb)
  refine PySem.W.callWith_KW0 (h₀ := X.base) I.ok.mod.kin T.oex.kC hall ?_ hpl
  refine thn ((pk_cons (nm := some f) (kpos := kp) he pk_nil).run pos pins s σ H _ I h) fun us s1 ⟨vs, H1, I1, r1, v, ev, q1⟩ => ⟨I1.kIn, ?_⟩
  subst ev
  obtain ⟨u, rfl, ru⟩ := r1.one
  rw [hks]
  obtain ⟨hp, g, d, t, os⟩ := s1
  refine wpAny_call (codeAny_mono (kx_call (kf := f) (kv := u) T.bx.eb (chain_has cs) (I1.kIn _ _ hC) (PySem.W.looks_findIn I1.kIn T.iC) (fun self => PySem.W.bind_fn I1.kIn self T.tI)
    (run_err F1 hr I1 ru [(f, u)] [] (hb _ _ _) q1)) fun r s' z => z)
/-- isinstance(e, c), e such an error -/
def rIsErr (K : PySem.W.Frag) : List V → Hp → VK → Prop := fun xs H Q => ∃ (a C : Addr) (f : Str) (v c : V) (u : Value) (b : Bool), xs = [.ref a, c] ∧ ErrAt H C f v a ∧ ExcC K C ∧ ClsV c u ∧ PySem.W.kitOne K (.ref C) u = some b ∧ Q (.bl b) H
theorem call_isErr : CallR X (.builtin "isinstance") (rIsErr X.K) := by
  intro pins s σ H xs us Q I r h
  obtain ⟨a, C, f, v, c, u, b, rfl, ⟨d, ea, ed⟩, T, hc, e, q⟩ := h
  cases r with
  | cons rx rr =>
    cases rr with
    | cons rt rr =>
      cases rr
      cases rx
      have ec := hc.eq rt
      subst ec
      obtain ⟨t1, ho⟩ := exo_at I.hok ea
      obtain ⟨mA, hns, hr⟩ := exd_at I.hok ed
      obtain ⟨od, hd, _⟩ := lookIn_ns hns
      have J : PySem.W.InstAt s.heap a _ C (some od) := ⟨ho, rfl, rfl, hd⟩
      have hcl : (PySem.W.clsIn X.K C).isSome = true := by
        obtain ⟨cd, hc, _⟩ := PySem.W.any_some T.hd
        rw [hc]
        rfl
      exact PySem.W.kia_one (PySem.W.kitx_exc hcl T.hg T.hk T.hs T.ha T.hn T.ht T.hm) I.kIn J e (fun z => nomatch z) fun tk => ⟨.bl b, H, I.kept (t' := tk) fun _ _ z => z, rfl, q⟩
theorem isErrK (K : PySem.W.Frag) (hK : X.K = K := by rfl) : CallR X (.builtin "isinstance") (rIsErr K) := by subst hK; exact call_isErr
/-- e.f -/
def tFldE (K : PySem.W.Frag) (n : Str) (ta : TE) : TE := fun σ H Q => ta σ H fun x H1 => ∃ (a C : Addr) (v : V), x = .ref a ∧ XfC K C ∧ PySem.W.findIn K (.ref C) n = some none ∧ ErrAt H1 C n v a ∧ Q v H1
theorem pe_fldE (K : PySem.W.Frag) {ta : TE} {n : Str} (he : PE X e ta) (hb : attributeBase e n X.env (eval e X.env) = eval e X.env := by rfl) (hK : X.K = K := by rfl) : PE X (.Attribute e n pos) (tFldE K n ta) := by
  subst hK
  refine ⟨fun pins s σ H Q I h => ?_⟩
  refine attr_of hb (thn (he.run pins s σ H _ I h) fun u s1 ⟨x, H1, I1, rx, a, C, v, ex, T, hno, ⟨d, ea, ed⟩, q⟩ => ?_)
  subst ex
  obtain rfl : u = Value.ref a := rx
  obtain ⟨t1, ho⟩ := exo_at I1.hok ea
  obtain ⟨mA, hns, hr⟩ := exd_at I1.hok ed
  obtain ⟨od, hd, hl⟩ := lookIn_ns hns
  obtain ⟨u, hu, ru⟩ := RelO.some_of (v := v) (o := mA n) (by have := hr n; simpa [List.lookup] using this)
  have J : PySem.W.InstAt s1.heap a _ C (some od) := ⟨ho, rfl, rfl, hd⟩
  exact HandSPX.exc_get I1.kIn J T.ga T.gg T.exC (PySem.W.findObj_own T.hdC hno rfl (by rw [hl, hu])) (handed_of ru) ⟨v, H1, I1.tok _, ru, q⟩
/-- xs.count(y) of flat values -/
def rCntV (K : PySem.W.Frag) : V → List V → Hp → VK → Prop := fun x xs H Q => ∃ (p : Addr) (ys : List V) (y : V), x = .ref p ∧ xs = [y] ∧ SqL K H p ys ∧ flatV y = true ∧ ys.all flatV = true ∧ Q (.int (ys.countP (fun z => eqV z y) : Nat)) H
theorem cnt_of {y : V} {u : Value} (ru : RelV y u) : ∀ {ys : List V} {its : List Value}, Vals ys its → ys.all flatV = true → its.countP (eqU y) = ys.countP (fun z => eqV z y)
  | _, _, .nil, _ => rfl
  | _, _, .cons (a := z) (b := w) rz t, h => by
    rw [List.all_cons, Bool.and_eq_true] at h
    rw [List.countP_cons, List.countP_cons, cnt_of ru t h.2, eqU_of rz h.1]
theorem mt_countV : MtR X "list.count" (rCntV X.K) := by
  intro pins s σ H x xs v us Q I rx rxs h
  obtain ⟨p, ys, y, rfl, rfl, hs, fy, fys, q⟩ := h
  cases rx
  obtain ⟨u, rfl, ru⟩ := rxs.one
  obtain ⟨its, rv, ⟨⟨cls, dd, data, sl⟩, n, ho, hc, hdn, hd⟩, hlen⟩ := I.list hs
  simp only at hc hd
  subst hc hd
  refine call_meets PySem.F.slot_list_count ⟨_, ho, rfl⟩ PySem.F.entry_list_count (PySem.F.args_list_count_2 _ _)
    (SeqAt.list_countAt p its.toArray n dd sl u (eqU y)) ⟨ho, fun u' hu' => mem_eqAt ru fy rv fys u' (by simpa using hu'), ?_⟩
  have ec : its.toArray.toList.countP (eqU y) = ys.countP (fun z => eqV z y) := cnt_of ru rv fys
  exact ⟨.int (ys.countP (fun z => eqV z y) : Nat), H, I.tok _, ⟨s.toks, by rw [ec]⟩, q⟩
end
/-- how one keyword binds -/
def BndK (x qual : Str) (st : Stmt) (p f : Str) : Prop := ∀ (kV doc pm : Value) (an : Option Addr) (cdv ct : Value) (a u : Value), bindArgs (PySem.W.fnOf x qual (defArgs st) (defBody st) (defScope st) .none kV doc pm an cdv ct) ⟨[a], [(f, u)]⟩ = pure [(p, a), (f, u)]
theorem bindsK {K : PySem.W.Frag} {x qual : Str} {st : Stmt} {g : Addr} {fd : FuncData} {p f : Str} (F : Fun K x qual st g fd) (B : BndK x qual st p f) : ∀ (s : Shared) (a u : Value), BindsTo s fd ⟨[a], [(f, u)]⟩ (([p, f] : List Str).zip [a, u]) := by
  obtain ⟨oc, od, kV, doc, pm, an, cdv, ct, osl, rfl, lk, hcd⟩ := F.ex
  exact fun s a u => .of_eq (B kV doc pm an cdv ct a u)
end XT

namespace XT
open PySem PySem.Spec PyProof.Rows L2
/-! ### list + list, the left one perhaps not the program's own -/
theorem list_addG (l b : Addr) (xs ys : Array Value) (n m : Nat) (d1 d2 : Option Addr) (s1 s2 : Array (Option Value)) (hz : xs.size + ys.size ≤ sizeLine) :
    Meets (Builtin.«list.__add__» ⟨[.ref l, .ref b], []⟩) (fun _ R s => s.heap.get? l = some { cls := .type "list", dict := d1, data := .seq xs n, slots := s1 } ∧ s.heap.get? b = some { cls := .type "list", dict := d2, data := .seq ys m, slots := s2 } ∧
      R (.ok (.ret (.ref s.heap.objs.size))) { s with heap := s.heap.push { cls := .type "list", data := .seq (xs ++ ys) } }) :=
  .of_wp fun prog w A R s h => by
    obtain ⟨hp, g, d, tk, os⟩ := s
    obtain ⟨hl, hb, h⟩ := h
    have f3 := AutoSeq1.sub_list_list
    wp_walk using wpAny_loadPart' hl, wpAny_loadPart' hb
    exact ⟨_, rfl, h⟩
def rCatQ (K : PySem.W.Frag) : R2 := fun x y H Q => ∃ l b xs zs, x = .ref l ∧ y = .ref b ∧ SqL K H l xs ∧ SqL K H b zs ∧ xs.length + zs.length ≤ sizeLine ∧ ∀ p, H p = none → Q (.ref p) (upd H p (.lst (xs ++ zs)))
theorem op_catQ {X : Cx} : OpR X (binaryOp .Add) (rCatQ X.K) := by
  intro pins s σ H x y v u Q I rx ry h
  obtain ⟨l, b, xs, zs, rfl, rfl, hH, hB, hz, q⟩ := h
  cases rx
  cases ry
  obtain ⟨its, r, ⟨⟨cls, dd, data, sl⟩, n, ho, hc, hdn, hd⟩, _⟩ := I.list hH
  obtain ⟨its2, r2, ⟨⟨cls2, dd2, data2, sl2⟩, n2, ho2, hc2, hdn2, hd2⟩, _⟩ := I.list hB
  simp only at hc hd hdn hc2 hd2 hdn2
  subst hc hc2
  have l1 := r.length
  have l2 := r2.length
  subst hdn hdn2 hd hd2
  refine concat_meets ⟨_, ho, rfl⟩ ⟨_, ho2, rfl⟩ noFill_list_add seq_list_add F.slot_list_add F.entry_list_add (F.args_list_add_2 _ _) (list_addG l b its.toArray its2.toArray _ _ _ _ _ _ (by rw [List.size_toArray, List.size_toArray]; omega)) ⟨ho, ho2, ?_⟩
  have ea : its.toArray ++ its2.toArray = (its ++ its2).toArray := by simp
  rw [ea]
  exact ⟨.ref _, _, I.lnew (t' := s.toks) (r.append r2) (by rw [List.length_append]; omega), rfl, q _ I.fresh⟩
end XT

namespace XT
open PySem PySem.Spec PyProof.Rows L2
section
variable {X : Cx} {o : Expr} {lo hi : Option Expr} {to : TE} {tl th : TO} {pos p2 : Pos}
/-- o[lo:hi] = a list -/
def gSl (to : TE) (tl th : TO) : TG := fun v σ H Q => to σ H fun o H1 => tl σ H1 fun a H2 => th σ H2 fun c H3 =>
  ∃ (l b : Addr) (xs ys : List V) (i j : Int), o = .ref l ∧ v = .ref b ∧ a = some i ∧ c = some j ∧ H3 l = some (.lst xs) ∧ H3 b = some (.lst ys) ∧ l ≠ b ∧ 0 ≤ i ∧ i ≤ j ∧ j ≤ xs.length ∧ xs.length + ys.length ≤ sizeLine ∧
    Q σ (upd H3 l (.lst (xs.take i.toNat ++ ys ++ xs.drop j.toNat)))
theorem isPart_rel {u : Value} {i : Int} (h : IsPart u (some i)) : RelV (.int i) u := by
  cases h with
  | int i t => exact ⟨t, rfl⟩
theorem pg_slice (ho : PE X o to) (hl : PO X lo tl) (hu : PO X hi th)
    (ha : ∀ v, assign (.Subscript o (.Slice lo hi none p2) pos) X.env v = (do
      let ov ← holding [v] (eval o X.env)
      let iv ← holding [v, ov] (eval (.Slice lo hi none p2) X.env)
      standAt pos
      holding [v, ov, iv] (setItem ov iv v)
      release [iv, v, ov] []) := by intro _; rfl) : PG X (.Subscript o (.Slice lo hi none p2) pos) (gSl to tl th) := by
  refine ⟨fun pins s σ H v u Q I r h => ?_⟩
  rw [ha]
  refine wpAny_bind (wpAny_holding (thn (ho.run pins s σ H _ I h) fun ov s1 ⟨x, H1, I1, r1, q1⟩ => ?_))
  refine wpAny_bind (wpAny_holding ?_)
  refine wpAny_Slice (thn (hl.run pins s1 σ H1 _ I1 q1) fun vl s2 ⟨l, H2, I2, pl, q2⟩ => thn (hu.run pins s2 σ H2 _ I2 q2) fun vu s3 ⟨c, H3, I3, pu, q3⟩ => ?_)
  rw [evalPart_none]
  refine wpAny_pure ?_
  have I4 : Inv X pins σ H3 { s3 with heap := s3.heap.push { cls := .type "slice", data := .fields #[vl, vu, .none] } } := I3.kept (t' := s3.toks) fun b ob q => Heap.get?_push_of_some _ q
  obtain ⟨lA, bA, xs, ys, i, j, rfl, rfl, rfl, rfl, hx, hy, hne, h0, hij, hj, hz, q⟩ := q3
  cases r1
  cases r
  refine wpAny_bind (wpAny_standAt (wpAny_bind (wpAny_holding ?_)))
  refine set_slice I4 hx hy hne (Heap.IsSliceOf.new ..) (isPart_rel pl) (isPart_rel pu) h0 hij hj hz fun s' I' => ?_
  exact wpAny_release ⟨σ, _, I', q⟩
end
end XT

namespace Tbl
/-- how many are at most c -/
def cnt (L : List Int) (c : Int) : Int := ((L.countP fun x => decide (x ≤ c) : Nat) : Int)
abbrev Asc (L : List Int) : Prop := L.Pairwise (· < ·)
abbrev Up (L : List Int) : Prop := L.Pairwise (· ≤ ·)
def Pos (L : List Int) : Prop := ∀ x ∈ L, 1 ≤ x
def bnds : Nat → List Int → List Int
  | _, [] => []
  | i, x :: L => (x - (i : Int)) :: bnds (i + 1) L
def kr (L : List Int) (p : Int) : Int := p + cnt (bnds 0 L) p
def mp (s : Int) (L : List Int) (c : Int) : Int := s + c - cnt L c
theorem cnt_nil (c : Int) : cnt [] c = 0 := rfl
theorem cnt_cons (x : Int) (L : List Int) (c : Int) : cnt (x :: L) c = (if x ≤ c then 1 else 0) + cnt L c := by
  unfold cnt
  rw [List.countP_cons]
  by_cases h : x ≤ c
  · simp [h]; omega
  · simp [h]
theorem cnt_nn (L : List Int) (c : Int) : 0 ≤ cnt L c := Int.natCast_nonneg _
theorem cnt_le_len (L : List Int) (c : Int) : cnt L c ≤ L.length := by
  unfold cnt
  exact Int.ofNat_le.mpr List.countP_le_length
theorem cnt_mono (L : List Int) {c d : Int} (h : c ≤ d) : cnt L c ≤ cnt L d := by
  induction L with
  | nil => exact Int.le_refl _
  | cons x L ih =>
    rw [cnt_cons, cnt_cons]
    by_cases h1 : x ≤ c
    · rw [if_pos h1, if_pos (Int.le_trans h1 h)]; omega
    · rw [if_neg h1]; split <;> omega
theorem cnt_zero {L : List Int} {c : Int} (h : ∀ x ∈ L, c < x) : cnt L c = 0 := by
  induction L with
  | nil => rfl
  | cons x L ih =>
    rw [cnt_cons, if_neg (by have := h x (List.mem_cons_self ..); omega), ih fun y hy => h y (List.mem_cons_of_mem _ hy)]
    rfl
theorem cnt_all {L : List Int} {c : Int} (h : ∀ x ∈ L, x ≤ c) : cnt L c = L.length := by
  induction L with
  | nil => rfl
  | cons x L ih =>
    rw [cnt_cons, if_pos (h x (List.mem_cons_self ..)), ih fun y hy => h y (List.mem_cons_of_mem _ hy), List.length_cons]
    omega
theorem cnt_append (L M : List Int) (c : Int) : cnt (L ++ M) c = cnt L c + cnt M c := by
  unfold cnt
  rw [List.countP_append]
  omega
theorem cnt_perm {L M : List Int} (h : L.Perm M) (c : Int) : cnt L c = cnt M c := by
  unfold cnt
  rw [h.countP_eq]
theorem cnt_map_sub (L : List Int) (p : Int) : cnt (L.map (· - 1)) p = cnt L (p + 1) := by
  induction L with
  | nil => rfl
  | cons x L ih =>
    rw [List.map_cons, cnt_cons, cnt_cons, ih]
    by_cases h : x ≤ p + 1
    · rw [if_pos h, if_pos (by omega)]
    · rw [if_neg h, if_neg (by omega)]
theorem bnds_succ (L : List Int) : ∀ i : Nat, bnds (i + 1) L = (bnds i L).map (· - 1) := by
  induction L with
  | nil => intro i; rfl
  | cons x L ih =>
    intro i
    show (x - ((i + 1 : Nat) : Int)) :: bnds (i + 1 + 1) L = (x - (i : Int) - 1) :: (bnds (i + 1) L).map (· - 1)
    rw [ih (i + 1)]
    congr 1
    omega
theorem bnds_length (L : List Int) : ∀ i : Nat, (bnds i L).length = L.length := by
  induction L with
  | nil => intro i; rfl
  | cons x L ih => intro i; show (bnds (i + 1) L).length + 1 = L.length + 1; rw [ih]
theorem bnds_snoc (L : List Int) (x : Int) : ∀ i : Nat, bnds i (L ++ [x]) = bnds i L ++ [x - ((i + L.length : Nat) : Int)] := by
  induction L with
  | nil => intro i; rfl
  | cons y L ih =>
    intro i
    show (y - (i : Int)) :: bnds (i + 1) (L ++ [x]) = (y - (i : Int)) :: (bnds (i + 1) L ++ [x - ((i + (L.length + 1) : Nat) : Int)])
    rw [ih (i + 1)]
    congr 4
    omega
theorem bnds_ge {L : List Int} : ∀ {i : Nat} {x : Int}, Asc L → (∀ y ∈ L, x + (i : Int) ≤ y) → ∀ b ∈ bnds i L, x ≤ b := by
  induction L with
  | nil => intro i x _ _ b hb; cases hb
  | cons y L ih =>
    intro i x ha h b hb
    rcases List.mem_cons.mp hb with rfl | hb
    · have := h y (List.mem_cons_self ..); omega
    · refine ih (i := i + 1) (List.pairwise_cons.mp ha).2 (fun z hz => ?_) b hb
      have h1 := (List.pairwise_cons.mp ha).1 z hz
      have h2 := h y (List.mem_cons_self ..)
      omega
theorem bnds_up {L : List Int} : ∀ {i : Nat}, Asc L → Up (bnds i L) := by
  induction L with
  | nil => intro i _; exact List.Pairwise.nil
  | cons y L ih =>
    intro i ha
    refine List.pairwise_cons.mpr ⟨fun b hb => ?_, ih (List.pairwise_cons.mp ha).2⟩
    refine bnds_ge (i := i + 1) (List.pairwise_cons.mp ha).2 (fun z hz => ?_) b hb
    have h1 := (List.pairwise_cons.mp ha).1 z hz
    omega
theorem cnt_gap {L : List Int} : ∀ {p c : Int}, Asc L → (∀ y ∈ L, p < y) → p ≤ c → cnt L c ≤ c - p := by
  induction L with
  | nil => intro p c _ _ h; rw [cnt_nil]; omega
  | cons y L ih =>
    intro p c ha h hpc
    have hy := h y (List.mem_cons_self ..)
    rw [cnt_cons]
    by_cases hc : y ≤ c
    · rw [if_pos hc]
      have := ih (p := y) (c := c) (List.pairwise_cons.mp ha).2 (List.pairwise_cons.mp ha).1 hc
      omega
    · rw [if_neg hc, cnt_zero fun z hz => by have := (List.pairwise_cons.mp ha).1 z hz; omega]
      omega
theorem kr_cons_le {x : Int} {L : List Int} {p : Int} (h : x ≤ p) : kr (x :: L) p = kr L (p + 1) := by
  unfold kr
  show p + cnt ((x - ((0 : Nat) : Int)) :: bnds 1 L) p = _
  rw [cnt_cons, bnds_succ, cnt_map_sub, if_pos (by omega)]
  omega
theorem kr_cons_gt {x : Int} {L : List Int} {p : Int} (ha : Asc (x :: L)) (h : p < x) : kr (x :: L) p = p := by
  unfold kr
  rw [cnt_zero]
  · omega
  · intro b hb
    have := bnds_ge (i := 0) (x := x) ha (fun y hy => by
      rcases List.mem_cons.mp hy with rfl | hy
      · omega
      · have := (List.pairwise_cons.mp ha).1 y hy; omega) b hb
    omega
theorem kr_ge (L : List Int) (p : Int) : p ≤ kr L p := by unfold kr; have := cnt_nn (bnds 0 L) p; omega
theorem kr_lt {L : List Int} {p q : Int} (h : p < q) : kr L p < kr L q := by
  unfold kr
  have := cnt_mono (bnds 0 L) (Int.le_of_lt h)
  omega
/-- the place p is reached at c exactly if the p-th kept rank is at most c -/
theorem gal {L : List Int} : ∀ {p c : Int}, Asc L → (p ≤ c - cnt L c ↔ kr L p ≤ c) := by
  induction L with
  | nil => intro p c _; rw [cnt_nil]; unfold kr bnds; rw [cnt_nil]; omega
  | cons x L ih =>
    intro p c ha
    have hL := (List.pairwise_cons.mp ha).2
    by_cases hp : x ≤ p
    · rw [kr_cons_le hp, cnt_cons]
      by_cases hc : x ≤ c
      · rw [if_pos hc]
        have := ih (p := p + 1) (c := c) hL
        omega
      · rw [if_neg hc]
        have h1 := cnt_nn L c
        have h2 := kr_ge L (p + 1)
        omega
    · have hp' : p < x := by omega
      rw [kr_cons_gt ha hp']
      constructor
      · intro h; have := cnt_nn (x :: L) c; omega
      · intro h
        have := cnt_gap (p := p) (c := c) ha (fun y hy => by
          rcases List.mem_cons.mp hy with rfl | hy
          · exact hp'
          · have := (List.pairwise_cons.mp ha).1 y hy; omega) h
        omega
theorem cnt_mem {L : List Int} (ha : Asc L) {x : Int} : x ∈ L ↔ cnt L x = cnt L (x - 1) + 1 := by
  induction L with
  | nil => rw [cnt_nil, cnt_nil]; simp
  | cons y L ih =>
    have hL := (List.pairwise_cons.mp ha).2
    have hy := (List.pairwise_cons.mp ha).1
    rw [cnt_cons, cnt_cons]
    by_cases e : x = y
    · subst e
      rw [if_pos (Int.le_refl _), if_neg (by omega), cnt_zero hy, cnt_zero fun z hz => by have := hy z hz; omega]
      simp
    · rw [List.mem_cons]
      have := ih hL
      by_cases h : y ≤ x
      · rw [if_pos h, if_pos (by omega)]
        constructor
        · rintro (h1 | h1)
          · exact absurd h1 e
          · have := this.mp h1; omega
        · intro h1; exact .inr (this.mpr (by omega))
      · rw [if_neg h, if_neg (by omega)]
        constructor
        · rintro (h1 | h1)
          · exact absurd h1 e
          · have := this.mp h1; omega
        · intro h1; exact .inr (this.mpr (by omega))
theorem asc_ext {L : List Int} : ∀ {M : List Int}, Asc L → Asc M → (∀ x, x ∈ L ↔ x ∈ M) → L = M := by
  induction L with
  | nil =>
    intro M _ _ h
    cases M with
    | nil => rfl
    | cons y M => exact absurd ((h y).mpr (List.mem_cons_self ..)) (by simp)
  | cons x L ih =>
    intro M ha hb h
    cases M with
    | nil => exact absurd ((h x).mp (List.mem_cons_self ..)) (by simp)
    | cons y M =>
      have ha1 := (List.pairwise_cons.mp ha).1
      have hb1 := (List.pairwise_cons.mp hb).1
      have e : x = y := by
        rcases List.mem_cons.mp ((h x).mp (List.mem_cons_self ..)) with e | e
        · exact e
        · rcases List.mem_cons.mp ((h y).mpr (List.mem_cons_self ..)) with e' | e'
          · exact e'.symm
          · have := hb1 x e; have := ha1 y e'; omega
      subst e
      rw [ih (List.pairwise_cons.mp ha).2 (List.pairwise_cons.mp hb).2 fun z => ?_]
      constructor
      · intro hz
        rcases List.mem_cons.mp ((h z).mp (List.mem_cons_of_mem _ hz)) with e | e
        · subst e; have := ha1 z hz; omega
        · exact e
      · intro hz
        rcases List.mem_cons.mp ((h z).mpr (List.mem_cons_of_mem _ hz)) with e | e
        · subst e; have := hb1 z hz; omega
        · exact e
theorem asc_nodup {L : List Int} (h : Asc L) : L.Nodup := h.imp fun h e => by omega
theorem up_nodup {L : List Int} (h : Up L) (n : L.Nodup) : Asc L := (h.and n).imp fun ⟨a, b⟩ => by omega
theorem kr_notin {L : List Int} (ha : Asc L) (p : Int) : kr L p ∉ L := by
  intro h
  have h1 := (cnt_mem ha).mp h
  have h2 := (gal (p := p) (c := kr L p) ha).mpr (Int.le_refl _)
  have h3 := (gal (p := p) (c := kr L p - 1) ha)
  have : kr L p ≤ kr L p - 1 := h3.mp (by omega)
  omega
theorem cnt_le {L : List Int} (ha : Asc L) (hp : Pos L) {c : Int} (hc : 0 ≤ c) : cnt L c ≤ c := by
  have := cnt_gap (p := 0) (c := c) ha (fun y hy => by have := hp y hy; omega) hc
  omega
/-! ### tables -/
structure Ok (s : Int) (L : List Int) : Prop where
  s0 : 0 ≤ s
  asc : Asc L
  pos : Pos L
theorem Ok.mp_ge {s : Int} {L : List Int} (h : Ok s L) {c : Int} (hc : 0 ≤ c) : s ≤ mp s L c := by
  have := cnt_le h.asc h.pos hc
  unfold mp; omega
theorem Ok.mp_nn {s : Int} {L : List Int} (h : Ok s L) {c : Int} (hc : 0 ≤ c) : 0 ≤ mp s L c := Int.le_trans h.s0 (h.mp_ge hc)
theorem mp_zero {s : Int} {L : List Int} (h : Ok s L) : mp s L 0 = s := by
  unfold mp
  rw [cnt_zero fun x hx => by have := h.pos x hx; omega]
  omega
/-- two tables that map alike are one -/
theorem ok_ext {s t : Int} {L M : List Int} (h : Ok s L) (k : Ok t M) (e : ∀ c, 0 ≤ c → mp s L c = mp t M c) : s = t ∧ L = M := by
  have es : s = t := by
    have := e 0 (Int.le_refl _)
    rwa [mp_zero h, mp_zero k] at this
  refine ⟨es, asc_ext h.asc k.asc fun x => ?_⟩
  subst es
  have ec : ∀ c, 0 ≤ c → cnt L c = cnt M c := fun c hc => by have := e c hc; unfold mp at this; omega
  by_cases hx : 1 ≤ x
  · rw [cnt_mem h.asc, cnt_mem k.asc, ec x (by omega), ec (x - 1) (by omega)]
  · constructor
    · intro z; exact absurd (h.pos x z) hx
    · intro z; exact absurd (k.pos x z) hx
/-- the kept ranks that the second table loses -/
def found (s : Int) (L M : List Int) : List Int := ((M.filter fun r => decide (s < r)).map fun r => r - s).map (kr L)
theorem found_nodup {s : Int} {L M : List Int} (hM : Asc M) : (found s L M).Nodup := by
  unfold found
  have h1 : Asc (M.filter fun r => decide (s < r)) := hM.filter _
  have h2 : Asc ((M.filter fun r => decide (s < r)).map fun r => r - s) := List.pairwise_map.mpr (h1.imp fun h => by omega)
  have h3 : Asc (((M.filter fun r => decide (s < r)).map fun r => r - s).map (kr L)) := List.pairwise_map.mpr (h2.imp fun h => kr_lt h)
  exact asc_nodup h3
theorem found_pos {s : Int} {L M : List Int} : Pos (found s L M) := by
  intro x hx
  unfold found at hx
  obtain ⟨p, hp, rfl⟩ := List.mem_map.mp hx
  obtain ⟨r, hr, rfl⟩ := List.mem_map.mp hp
  have := (List.mem_filter.mp hr).2
  have h1 : s < r := by simpa using this
  have := kr_ge L (r - s)
  omega
theorem cnt_found {s : Int} {L M : List Int} (hL : Asc L) {c : Int} (hc : cnt L c ≤ c) : cnt M (mp s L c) = cnt M s + cnt (found s L M) c := by
  induction M with
  | nil => rfl
  | cons r M ih =>
    unfold found at ih ⊢
    rw [List.filter_cons]
    by_cases h : s < r
    · rw [if_pos (show decide (s < r) = true from decide_eq_true h), List.map_cons, List.map_cons, cnt_cons, cnt_cons, cnt_cons, if_neg (show ¬ r ≤ s by omega), ih]
      have g := gal (p := r - s) (c := c) hL
      by_cases h2 : r ≤ mp s L c
      · have h3 : kr L (r - s) ≤ c := g.mp (by unfold mp at h2; omega)
        rw [if_pos h2, if_pos h3]; omega
      · have h3 : ¬ kr L (r - s) ≤ c := fun z => h2 (by have := g.mpr z; unfold mp; omega)
        rw [if_neg h2, if_neg h3]; omega
    · rw [if_neg (show ¬ decide (s < r) = true by simpa using h), cnt_cons, cnt_cons, ih, if_pos (show r ≤ s by omega), if_pos (show r ≤ mp s L c by unfold mp; omega)]
      omega
/-- the sum of two tables: its start, and lost ranks in ascending order that are those of the first and the found ones -/
theorem ok_add {s t : Int} {L M N : List Int} (h : Ok s L) (k : Ok t M) (p : N.Perm (L ++ found s L M)) (u : Up N) : Ok (mp t M s) N := by
  refine ⟨k.mp_nn h.s0, up_nodup u (p.nodup_iff.mpr ?_), fun x hx => ?_⟩
  · refine List.nodup_append.mpr ⟨asc_nodup h.asc, found_nodup k.asc, fun a ha b hb e => ?_⟩
    subst e
    unfold found at hb
    obtain ⟨q, _, e⟩ := List.mem_map.mp hb
    exact kr_notin h.asc q (e ▸ ha)
  · rcases List.mem_append.mp (p.mem_iff.mp hx) with hx | hx
    · exact h.pos x hx
    · exact found_pos x hx
theorem mp_add {s t : Int} {L M N : List Int} (h : Ok s L) (p : N.Perm (L ++ found s L M)) {c : Int} (hc : 0 ≤ c) : mp (mp t M s) N c = mp t M (mp s L c) := by
  have h1 := cnt_found (s := s) (M := M) h.asc (cnt_le h.asc h.pos hc)
  have h2 := cnt_perm p c
  rw [cnt_append] at h2
  unfold mp at *
  omega
theorem len_add {s : Int} {L M N : List Int} (p : N.Perm (L ++ found s L M)) : (N.length : Int) = L.length + (M.length - cnt M s) := by
  rw [p.length_eq, List.length_append]
  unfold found
  rw [List.length_map, List.length_map]
  have : ∀ M : List Int, (((M.filter fun r => decide (s < r)).length : Nat) : Int) = M.length - cnt M s := by
    intro M
    induction M with
    | nil => rfl
    | cons r M ih =>
      rw [List.filter_cons, cnt_cons]
      by_cases h : s < r
      · rw [if_pos (by simpa using h), if_neg (by omega), List.length_cons, List.length_cons]; omega
      · rw [if_neg (by simpa using h), if_pos (by omega), List.length_cons]; omega
  have := this M
  omega
/-- the least count that becomes at least k -/
def lst (s : Int) (L : List Int) (k : Int) : Int := if k ≤ s then 0 else kr L (k - s)
theorem lst_nn {s : Int} {L : List Int} (k : Int) : 0 ≤ lst s L k := by
  unfold lst
  split
  · exact Int.le_refl _
  · have := kr_ge L (k - s); omega
theorem lst_gal {s : Int} {L : List Int} (h : Ok s L) {k c : Int} (hc : 0 ≤ c) : lst s L k ≤ c ↔ k ≤ mp s L c := by
  unfold lst
  by_cases hk : k ≤ s
  · rw [if_pos hk]
    have := h.mp_ge hc
    omega
  · rw [if_neg hk, ← gal h.asc]
    unfold mp; omega
theorem lst_add {s t : Int} {L M N : List Int} (h : Ok s L) (k : Ok t M) (p : N.Perm (L ++ found s L M)) (u : Up N) (c : Int) : lst (mp t M s) N c = lst s L (lst t M c) := by
  have key : ∀ d, 0 ≤ d → (lst (mp t M s) N c ≤ d ↔ lst s L (lst t M c) ≤ d) := fun d hd => by
    rw [lst_gal (ok_add h k p u) hd, mp_add h p hd, lst_gal h hd, lst_gal k (h.mp_nn hd)]
  have h1 := (key _ (lst_nn (s := mp t M s) (L := N) c)).mp (Int.le_refl _)
  have h2 := (key _ (lst_nn (s := s) (L := L) (lst t M c))).mpr (Int.le_refl _)
  omega
theorem nil_add {t : Int} {M N : List Int} (k : Ok t M) (p : N.Perm (found 0 [] M)) (u : Up N) : mp t M 0 = t ∧ N = M := by
  have h : Ok 0 [] := ⟨Int.le_refl _, List.Pairwise.nil, fun _ h => by cases h⟩
  have k2 := ok_add h k (N := N) (by simpa using p) u
  exact ok_ext k2 k fun c hc => by
    rw [mp_add h (by simpa using p) hc]
    have e : mp 0 [] c = c := by unfold mp; rw [cnt_nil]; omega
    rw [e]
theorem add_nil {s : Int} {L N : List Int} (h : Ok s L) (p : N.Perm (L ++ found s L [])) (u : Up N) : mp 0 [] s = s ∧ N = L := by
  have k : Ok 0 [] := ⟨Int.le_refl _, List.Pairwise.nil, fun _ h => by cases h⟩
  have k2 := ok_add h k p u
  exact ok_ext k2 h fun c hc => by rw [mp_add h p hc]; unfold mp; rw [cnt_nil]; omega
theorem add_assoc {s t u : Int} {L M O N1 N2 R1 R2 : List Int} (h : Ok s L) (k : Ok t M) (l : Ok u O)
    (p1 : N1.Perm (L ++ found s L M)) (u1 : Up N1) (q1 : R1.Perm (N1 ++ found (mp t M s) N1 O)) (v1 : Up R1)
    (p2 : N2.Perm (M ++ found t M O)) (u2 : Up N2) (q2 : R2.Perm (L ++ found s L N2)) (v2 : Up R2) :
    mp u O (mp t M s) = mp (mp u O t) N2 s ∧ R1 = R2 := by
  have a := ok_add h k p1 u1
  have b := ok_add k l p2 u2
  refine ok_ext (ok_add a l q1 v1) (ok_add h b q2 v2) fun c hc => ?_
  rw [mp_add a q1 hc, mp_add h p1 hc, mp_add h q2 hc, mp_add k p2 (h.mp_nn hc)]
end Tbl
namespace Tbl
theorem asc_adj {L : List Int} : Asc L ↔ ∀ i, (h : i + 1 < L.length) → L[i] < L[i + 1] := by
  induction L with
  | nil => simp
  | cons x L ih =>
    rw [Asc, List.pairwise_cons]
    constructor
    · rintro ⟨h1, h2⟩ i h
      cases i with
      | zero => exact h1 _ (List.getElem_mem _)
      | succ i => exact (ih.mp h2) i (by simpa using h)
    · intro h
      have h2 : Asc L := ih.mpr fun i hi => h (i + 1) (by simpa using hi)
      refine ⟨fun y hy => ?_, h2⟩
      cases L with
      | nil => cases hy
      | cons z L =>
        have h0 := h 0 (by simp)
        have h0' : x < z := h0
        rcases List.mem_cons.mp hy with rfl | hy
        · exact h0'
        · have := (List.pairwise_cons.mp h2).1 y hy; omega
end Tbl
namespace Tbl
theorem cnt_split {B : List Int} {c : Int} {k : Nat} (hk : k ≤ B.length) (h1 : ∀ j, (h : j < B.length) → j < k → B[j] ≤ c) (h2 : ∀ j, (h : j < B.length) → k ≤ j → c < B[j]) : cnt B c = k := by
  have e : B = B.take k ++ B.drop k := (List.take_append_drop k B).symm
  rw [e, cnt_append, cnt_all (L := B.take k), cnt_zero (L := B.drop k), List.length_take]
  · omega
  · intro x hx
    obtain ⟨i, hi, rfl⟩ := List.getElem_of_mem hx
    rw [List.getElem_drop]
    exact h2 _ _ (by omega)
  · intro x hx
    obtain ⟨i, hi, rfl⟩ := List.getElem_of_mem hx
    rw [List.getElem_take]
    have hi' : i < k ∧ i < B.length := by rw [List.length_take] at hi; omega
    exact h1 i hi'.2 hi'.1
theorem up_get {B : List Int} (h : Up B) {i j : Nat} (hi : i < B.length) (hj : j < B.length) (hij : i ≤ j) : B[i] ≤ B[j] := by
  rcases Nat.lt_or_ge i j with h1 | h1
  · exact (List.pairwise_iff_getElem.mp h) i j hi hj h1
  · have : i = j := by omega
    subst this
    exact Int.le_refl _
theorem asc_up {L : List Int} (h : Asc L) : Up L := h.imp fun h => by omega
end Tbl

namespace XT
open PySem PySem.Spec PyProof.Rows L2
/-! ### running a sequence on a list -/
def srt (L : List Int) : List Int := L.mergeSort fun a b => decide (a ≤ b)
theorem srt_perm (L : List Int) : (srt L).Perm L := List.mergeSort_perm L _
theorem srt_up (L : List Int) : (srt L).Pairwise (· ≤ ·) := by
  have := List.pairwise_mergeSort (le := fun a b : Int => decide (a ≤ b)) (by simp; omega) (by simp; omega) L
  exact this.imp fun h => by simpa using h
theorem srt_of {N L : List Int} (p : N.Perm L) (u : N.Pairwise (· ≤ ·)) : N = srt L :=
  List.Perm.eq_of_pairwise (le := (· ≤ ·)) (fun a b _ _ h1 h2 => Int.le_antisymm h1 h2) u (srt_up L) (p.trans (srt_perm L).symm)
theorem srt_len (L : List Int) : (srt L).length = L.length := (srt_perm L).length_eq
def stepR (L : List Int) : Stp → Option (List Int)
  | (true, x) => some (srt (L ++ [x]))
  | (false, k) => if (L.length : Int) < k then none else some (L.take (k - 1).toNat ++ L.drop k.toNat)
def runR (L : List Int) (i : Nat) : List Stp → List Int ⊕ Nat
  | [] => .inl L
  | s :: r => match stepR L s with
    | none => .inr i
    | some M => runR M (i + 1) r
theorem runR_step {L M : List Int} {i : Nat} {S : List Stp} {s : Stp} (h : S[i]? = some s) (e : stepR L s = some M) : runR L i (S.drop i) = runR M (i + 1) (S.drop (i + 1)) := by
  obtain ⟨hi, hs⟩ := List.getElem?_eq_some_iff.mp h
  rw [List.drop_eq_getElem_cons hi, hs]
  simp only [runR, e]
theorem runR_fail {L : List Int} {i : Nat} {S : List Stp} {s : Stp} (h : S[i]? = some s) (e : stepR L s = none) : runR L i (S.drop i) = .inr i := by
  obtain ⟨hi, hs⟩ := List.getElem?_eq_some_iff.mp h
  rw [List.drop_eq_getElem_cons hi, hs]
  simp only [runR, e]
theorem stepR_len {L M : List Int} {s : Stp} (e : stepR L s = some M) : M.length ≤ L.length + 1 := by
  obtain ⟨b, k⟩ := s
  cases b with
  | true =>
    have e' : some (srt (L ++ [k])) = some M := e
    cases e'
    rw [srt_len, List.length_append]
    simp
  | false =>
    simp only [stepR] at e
    split at e
    · cases e
    · cases e
      rw [List.length_append, List.length_take, List.length_drop]
      omega
theorem cut_to (n : Nat) (xs : List V) : cutV xs none (some (n : Int)) = xs.take n := by
  unfold cutV
  have e : HT.sIx xs.length xs.length (some (n : Int)) = min n xs.length := HT.sIx_nat xs.length xs.length n
  rw [HT.sIx_none, e]
  simp
  try omega
theorem cut_from (n : Nat) (xs : List V) : cutV xs (some (n : Int)) none = xs.drop n := by
  unfold cutV
  have e : HT.sIx xs.length 0 (some (n : Int)) = min n xs.length := HT.sIx_nat xs.length 0 n
  rw [e, HT.sIx_none]
  by_cases h : n ≤ xs.length
  · rw [Nat.min_eq_left h]
    exact List.take_of_length_le (by simp)
  · have h' : xs.length ≤ n := by omega
    rw [Nat.min_eq_right h', List.drop_eq_nil_of_le h']
    simp
theorem cut_rm {L : List Int} {k : Int} (h : 0 < k) : cutV (L.map V.int) none (some (k - 1)) ++ cutV (L.map V.int) (some k) none = (L.take (k - 1).toNat ++ L.drop k.toNat).map V.int := by
  have e1 : k - 1 = ((k - 1).toNat : Int) := by omega
  have e2 : k = (k.toNat : Int) := by omega
  have h1 := cut_to (k - 1).toNat (L.map V.int)
  have h2 := cut_from k.toNat (L.map V.int)
  rw [← e1] at h1
  rw [← e2] at h2
  rw [h1, h2, List.map_append, List.map_take, List.map_drop]
/-- what comes of it, as data -/
def resD : List Int ⊕ Nat → PyData
  | .inl M => .list [.str "list", .list (M.map PyData.int)]
  | .inr i => .list [.str "failed", .int (i : Int), .bool false]
theorem sh_res (r : List Int ⊕ Nat) : SeqAt.shaped (resD r) = true := by
  cases r with
  | inl M => simp [resD, SeqAt.shaped, PyData.canLay0, PyData.canLayAll0, PyData.depth, PyData.depthAll, canLay_ints, depth_ints, ok_of]
  | inr i => simp [resD, SeqAt.shaped, PyData.canLay0, PyData.canLayAll0, PyData.depth, PyData.depthAll, ok_of]
/-- the list that tells it -/
def ResAt (K : PySem.W.Frag) (H : Hp) (r : Addr) : List Int ⊕ Nat → Prop
  | .inl M => ∃ m, H r = some (.lst [.str "list", .ref m]) ∧ H m = some (.lst (M.map V.int))
  | .inr i => H r = some (.lst [.str "failed", .int (i : Int), .bl false])
theorem ResAt.same {K : PySem.W.Frag} {H H' : Hp} {r : Addr} {v : List Int ⊕ Nat} (h : ResAt K H r v) (e : Same H H') : ResAt K H' r v := by
  cases v with
  | inl M =>
    obtain ⟨m, a, b⟩ := h
    exact ⟨m, e _ _ a, e _ _ b⟩
  | inr i => exact e _ _ h
theorem ResAt.dp {K : PySem.W.Frag} {H : Hp} {r : Addr} {v : List Int ⊕ Nat} (h : ResAt K H r v) : Dp K H (.ref r) (resD v) := by
  cases v with
  | inl M =>
    obtain ⟨m, a, b⟩ := h
    exact .lst (SqL.of a) (.cons (.str _) (.cons (dp_lst (SqL.of b)) .nil))
  | inr i => exact .lst (SqL.of h) (.cons (.str _) (.cons (.int _) (.cons (.bl _) .nil)))
/-! ### a comprehension over a range whose element changes something -/
theorem lcE {lo : Int} {n : Nat} {g : TG} {te : TE} {vs : List Nat} {σ : L2.St} {H1 : Hp} {D : Addr} {Qd : Hp → Prop} (I : Nat → Hp → List V → Prop) (h0 : I 0 (upd H1 D (.lst [])) []) (hn : n ≤ sizeLine)
    (hl : ∀ i H acc, I i H acc → acc.length = i)
    (hs : ∀ i H acc (R : V → Hp → Prop), i < n → I i H acc → (∀ y H', H' D = some (.lst acc) → I (i + 1) (upd H' D (.lst (acc ++ [y]))) (acc ++ [y]) → R y H') → g (.int (lo + (i : Nat))) (wipe σ vs) H fun σ2 H2 => wipe σ2 vs = wipe σ vs ∧ te σ2 H2 R)
    (hd : ∀ H acc, I n H acc → Qd H) :
    ∃ W : Nat → Nat → Hp → Prop, (∃ m, W 0 m (upd H1 D (.lst []))) ∧ ∀ i m H, W i m H →
      ((Itr lo n).stop i H ∧ Qd H) ∨ ((Itr lo n).go i H ∧ ∃ Nx : Hp → Prop, (∀ H', Nx H' → ∃ m', m' < m ∧ W (i + 1) m' H') ∧ ∀ x H', (Itr lo n).yld i H x H' → g x (wipe σ vs) H' fun σ2 H2 => wipe σ2 vs = wipe σ vs ∧ tYes σ2 H2 fun b H3 =>
        if b = true then te σ2 H3 fun y H4 => ∃ acc, H4 D = some (.lst acc) ∧ acc.length < sizeLine ∧ Nx (upd H4 D (.lst (acc ++ [y]))) else Nx H3) := by
  refine ⟨fun i m H => m = n - i ∧ i ≤ n ∧ ∃ acc, I i H acc, ⟨n, by simp, Nat.zero_le _, _, h0⟩, ?_⟩
  rintro i m H ⟨rfl, hi, acc, hI⟩
  by_cases hlt : i < n
  · refine .inr ⟨hlt, fun H' => ∃ acc, I (i + 1) H' acc, fun H' p => ⟨n - (i + 1), by omega, rfl, hlt, p⟩, fun x H' y => ?_⟩
    obtain ⟨e, y⟩ := y
    subst e y
    show g _ _ _ fun σ2 H2 => _ ∧ (if true = true then te σ2 H2 fun y H4 => ∃ acc, H4 D = some (.lst acc) ∧ acc.length < sizeLine ∧ (∃ acc', I (i + 1) (upd H4 D (.lst (acc ++ [y]))) acc') else (∃ acc, I (i + 1) H2 acc))
    simp only [if_true]
    exact hs i _ acc _ hlt hI fun y H' e k => ⟨acc, e, by rw [hl i _ acc hI]; exact Nat.lt_of_lt_of_le hlt hn, _, k⟩
  · have e : i = n := by omega
    subst e
    exact .inl ⟨Nat.le_refl _, hd H acc hI⟩
/-- for i, x in enumerate(t) -/
theorem for_enT {K : PySem.W.Frag} {a : Addr} {xs : List V} {g : TG} {tb : TS} {D : Ends} {σ : L2.St} {H : Hp} (h1 : SqT K H a xs) (Pv : Nat → L2.St → Hp → Prop) (hl : ∀ i σ H, i ≤ xs.length → Pv i σ H → SqT K H a xs) (h0 : Pv 0 σ H)
    (hs : ∀ i x T σ H, i < xs.length → xs[i]? = some x → H T = none → Pv i σ H → g (.ref T) σ (upd H T (.tup [.int (i : Nat), x])) fun σ2 H2 => tb { D with nx := Pv (i + 1), ct := Pv (i + 1), bk := D.nx } σ2 H2) (hd : ∀ σ H, Pv xs.length σ H → D.nx σ H) :
    ∃ W : Nat → Nat → L2.St → Hp → Prop, (∃ m, W 0 m σ H) ∧ ∀ i m σ H, W i m σ H →
      ((IteT K a).stop i H ∧ D.nx σ H) ∨ ((IteT K a).go i H ∧ ∃ N : L2.St → Hp → Prop, (∀ σ' H', N σ' H' → ∃ m', m' < m ∧ W (i + 1) m' σ' H') ∧ ∀ x H', (IteT K a).yld i H x H' → g x σ H' fun σ2 H2 => tb { D with nx := N, ct := N, bk := D.nx } σ2 H2) := by
  refine ⟨fun i m σ H => m = xs.length - i ∧ i ≤ xs.length ∧ Pv i σ H, ⟨xs.length, by simp, Nat.zero_le _, h0⟩, ?_⟩
  rintro i m σ H ⟨rfl, hi, p⟩
  have q := hl i σ H hi p
  by_cases hlt : i < xs.length
  · have e : xs[i]? = some xs[i] := by simp [hlt]
    refine .inr ⟨⟨xs, xs[i], q, e⟩, Pv (i + 1), fun σ' H' p' => ⟨xs.length - (i + 1), by omega, rfl, hlt, p'⟩, fun x H' y => ?_⟩
    obtain ⟨T, x', e1, n, e2, y⟩ := y
    subst e1 e2
    exact hs i x' T σ H hlt (y xs q) n p
  · have e : i = xs.length := by omega
    subst e
    exact .inl ⟨⟨xs, q, Nat.le_refl _⟩, hd σ H p⟩
/-- for i, x in enumerate(l) -/
theorem for_enL {K : PySem.W.Frag} {a : Addr} {xs : List V} {g : TG} {tb : TS} {D : Ends} {σ : L2.St} {H : Hp} (Pv : Nat → L2.St → Hp → Prop) (hl : ∀ i σ H, i ≤ xs.length → Pv i σ H → SqL K H a xs) (h0 : Pv 0 σ H)
    (hs : ∀ i x T σ H, i < xs.length → xs[i]? = some x → H T = none → Pv i σ H → g (.ref T) σ (upd H T (.tup [.int (i : Nat), x])) fun σ2 H2 => tb { D with nx := Pv (i + 1), ct := Pv (i + 1), bk := D.nx } σ2 H2) (hd : ∀ σ H, Pv xs.length σ H → D.nx σ H) :
    ∃ W : Nat → Nat → L2.St → Hp → Prop, (∃ m, W 0 m σ H) ∧ ∀ i m σ H, W i m σ H →
      ((Ite K a).stop i H ∧ D.nx σ H) ∨ ((Ite K a).go i H ∧ ∃ N : L2.St → Hp → Prop, (∀ σ' H', N σ' H' → ∃ m', m' < m ∧ W (i + 1) m' σ' H') ∧ ∀ x H', (Ite K a).yld i H x H' → g x σ H' fun σ2 H2 => tb { D with nx := N, ct := N, bk := D.nx } σ2 H2) := by
  refine ⟨fun i m σ H => m = xs.length - i ∧ i ≤ xs.length ∧ Pv i σ H, ⟨xs.length, by simp, Nat.zero_le _, h0⟩, ?_⟩
  rintro i m σ H ⟨rfl, hi, p⟩
  have q := hl i σ H hi p
  by_cases hlt : i < xs.length
  · have e : xs[i]? = some xs[i] := by simp [hlt]
    refine .inr ⟨⟨xs, xs[i], q, e⟩, Pv (i + 1), fun σ' H' p' => ⟨xs.length - (i + 1), by omega, rfl, hlt, p'⟩, fun x H' y => ?_⟩
    obtain ⟨T, x', e1, n, e2, y⟩ := y
    subst e1 e2
    exact hs i x' T σ H hlt (y xs q) n p
  · have e : i = xs.length := by omega
    subst e
    exact .inl ⟨⟨xs, q, Nat.le_refl _⟩, hd σ H p⟩
end XT

namespace Eff
open Tbl XT
/-! ### the table of a threshold, step by step -/
def insAt (L : List Int) (i : Int) (x : Int) : List Int := L.take i.toNat ++ [x] ++ L.drop i.toNat
def tstep (t : Int) (p : Int × List Int) (s : Stp) : Int × List Int :=
  if s.1 = true then (if s.2 ≤ t then (p.1 + 1, p.2) else p)
  else if s.2 ≤ p.1 then (p.1 - 1, p.2)
  else (p.1, insAt p.2 (kr p.2 (s.2 - p.1) - (s.2 - p.1)) (kr p.2 (s.2 - p.1)))
def tb (t : Int) (S : List Stp) : Int × List Int := S.foldl (tstep t) (0, [])
def smp1 (t : Int) (c : Int) (s : Stp) : Int := if s.1 = true then (if s.2 ≤ t then c + 1 else c) else if s.2 ≤ c then c - 1 else c
def smp (t : Int) (S : List Stp) (c : Int) : Int := S.foldl (smp1 t) c
theorem cnt_notin {L : List Int} {x : Int} (h : x ∉ L) : cnt L x = cnt L (x - 1) := by
  induction L with
  | nil => rfl
  | cons y L ih =>
    have h1 : x ≠ y := fun e => h (e ▸ List.mem_cons_self)
    rw [cnt_cons, cnt_cons, ih fun z => h (List.mem_cons_of_mem _ z)]
    by_cases c : y ≤ x
    · rw [if_pos c, if_pos (by omega)]
    · rw [if_neg c, if_neg (by omega)]
theorem kr_place {L : List Int} (ha : Asc L) (p : Int) : kr L p - p = cnt L (kr L p) := by
  have h1 := (gal (p := p) (c := kr L p) ha).mpr (Int.le_refl _)
  have h2 := cnt_notin (kr_notin ha p)
  have h3 : ¬ p ≤ kr L p - 1 - cnt L (kr L p - 1) := fun h => by
    have := (gal (p := p) (c := kr L p - 1) ha).mp h
    omega
  omega
theorem insAt_perm (L : List Int) (i x : Int) : (insAt L i x).Perm (x :: L) := by
  unfold insAt
  have h : (L.take i.toNat ++ [x] ++ L.drop i.toNat).Perm ([x] ++ (L.take i.toNat ++ L.drop i.toNat)) := by
    rw [List.append_assoc]
    exact List.perm_append_comm_assoc _ _ _
  rw [List.take_append_drop] at h
  exact h
theorem insAt_asc {x : Int} : ∀ {L : List Int}, Asc L → x ∉ L → Asc (insAt L (cnt L x) x)
  | [], _, _ => by simp [insAt]
  | y :: L, ha, hx => by
    have hy := (List.pairwise_cons.mp ha).1
    have hL := (List.pairwise_cons.mp ha).2
    have hxL : x ∉ L := fun z => hx (List.mem_cons_of_mem _ z)
    have hne : x ≠ y := fun e => hx (e ▸ List.mem_cons_self)
    by_cases c : y ≤ x
    · rw [cnt_cons, if_pos c]
      have n0 := cnt_nn L x
      have e : (1 + cnt L x).toNat = (cnt L x).toNat + 1 := by omega
      have e2 : insAt (y :: L) (1 + cnt L x) x = y :: insAt L (cnt L x) x := by
        unfold insAt
        rw [e]
        rfl
      rw [e2]
      refine List.pairwise_cons.mpr ⟨fun z hz => ?_, insAt_asc hL hxL⟩
      rcases List.mem_cons.mp ((insAt_perm L _ x).mem_iff.mp hz) with rfl | hz
      · omega
      · exact hy z hz
    · have e : cnt (y :: L) x = 0 := cnt_zero fun z hz => by
        rcases List.mem_cons.mp hz with rfl | hz
        · omega
        · have := hy z hz; omega
      rw [e]
      show Asc (x :: y :: L)
      refine List.pairwise_cons.mpr ⟨fun z hz => ?_, ha⟩
      rcases List.mem_cons.mp hz with rfl | hz
      · omega
      · have := hy z hz; omega
theorem tstep_ok {t : Int} {p : Int × List Int} {st : Stp} (h : Ok p.1 p.2) (g : goodS st = true) : Ok (tstep t p st).1 (tstep t p st).2 ∧ ∀ c, 0 ≤ c → mp (tstep t p st).1 (tstep t p st).2 c = smp1 t (mp p.1 p.2 c) st := by
  obtain ⟨b, k⟩ := st
  obtain ⟨s, L⟩ := p
  have h : Ok s L := h
  unfold tstep smp1
  cases b with
  | true =>
    simp only [if_true]
    by_cases c : k ≤ t
    · simp only [if_pos c]
      refine ⟨⟨by have := h.s0; omega, h.asc, h.pos⟩, fun c _ => ?_⟩
      unfold mp; omega
    · simp only [if_neg c]
      exact ⟨h, fun _ _ => trivial⟩
  | false =>
    have hk : 0 < k := by simpa [goodS] using g
    simp only [Bool.false_eq_true, if_false]
    by_cases c : k ≤ s
    · simp only [if_pos c]
      refine ⟨⟨by have := h.s0; omega, h.asc, h.pos⟩, fun d hd => ?_⟩
      have := h.mp_ge hd
      rw [if_pos (by omega)]
      unfold mp; omega
    · simp only [if_neg c]
      have hp : 1 ≤ k - s := by omega
      have hr := kr_ge L (k - s)
      have hn := kr_notin h.asc (k - s)
      have hpl := kr_place h.asc (k - s)
      have hg := fun d => gal (p := k - s) (c := d) h.asc
      generalize hr' : kr L (k - s) = r at hr hn hpl hg ⊢
      rw [hpl]
      have pm := insAt_perm L (cnt L r) r
      refine ⟨⟨h.s0, insAt_asc h.asc hn, fun x hx => ?_⟩, fun d hd => ?_⟩
      · rcases List.mem_cons.mp (pm.mem_iff.mp hx) with rfl | hx
        · omega
        · exact h.pos x hx
      · have e := cnt_perm pm d
        rw [cnt_cons] at e
        unfold mp
        rw [e]
        by_cases cc : r ≤ d
        · rw [if_pos cc, if_pos (by have := (hg d).mpr cc; omega)]; omega
        · rw [if_neg cc, if_neg (fun z => cc ((hg d).mp (by omega)))]; omega
theorem fold_ok {t : Int} : ∀ {S : List Stp} {p : Int × List Int}, Ok p.1 p.2 → (∀ s ∈ S, goodS s = true) → Ok (S.foldl (tstep t) p).1 (S.foldl (tstep t) p).2 ∧ ∀ c, 0 ≤ c → mp (S.foldl (tstep t) p).1 (S.foldl (tstep t) p).2 c = S.foldl (smp1 t) (mp p.1 p.2 c)
  | [], p, h, _ => ⟨h, fun _ _ => rfl⟩
  | s :: S, p, h, g => by
    obtain ⟨h1, h2⟩ := tstep_ok (t := t) (st := s) h (g s List.mem_cons_self)
    obtain ⟨h3, h4⟩ := fold_ok (t := t) (S := S) h1 fun x hx => g x (List.mem_cons_of_mem _ hx)
    refine ⟨h3, fun c hc => ?_⟩
    rw [List.foldl_cons, List.foldl_cons, h4 c hc, h2 c hc]
theorem ok0 : Ok 0 [] := ⟨Int.le_refl _, List.Pairwise.nil, fun _ h => by cases h⟩
theorem tb_ok {t : Int} {S : List Stp} (g : ∀ s ∈ S, goodS s = true) : Ok (tb t S).1 (tb t S).2 := (fold_ok (t := t) (p := (0, [])) ok0 g).1
theorem tb_mp {t : Int} {S : List Stp} (g : ∀ s ∈ S, goodS s = true) {c : Int} (hc : 0 ≤ c) : mp (tb t S).1 (tb t S).2 c = smp t S c := by
  have := (fold_ok (t := t) (p := (0, [])) ok0 g).2 c hc
  have e : mp (0, ([] : List Int)).1 (0, ([] : List Int)).2 c = c := by unfold mp; rw [cnt_nil]; omega
  rw [e] at this
  exact this
theorem tb_snoc (t : Int) (S : List Stp) (s : Stp) : tb t (S ++ [s]) = tstep t (tb t S) s := by
  unfold tb
  rw [List.foldl_append]
  rfl
theorem smp_append (t : Int) (S M : List Stp) (c : Int) : smp t (S ++ M) c = smp t M (smp t S c) := by
  unfold smp
  rw [List.foldl_append]
theorem smp_nn {t : Int} : ∀ {S : List Stp} {c : Int}, (∀ s ∈ S, goodS s = true) → 0 ≤ c → 0 ≤ smp t S c
  | [], c, _, h => h
  | (b, k) :: S, c, g, h => by
    show 0 ≤ smp t S (smp1 t c (b, k))
    refine smp_nn (fun s hs => g s (List.mem_cons_of_mem _ hs)) ?_
    have := g _ List.mem_cons_self
    unfold smp1
    cases b with
    | true => simp only [if_true]; split <;> omega
    | false =>
      have hk : 0 < k := by simpa [goodS] using this
      simp only [Bool.false_eq_true, if_false]
      split <;> omega
/-! ### growth -/
def gr1 (t : Int) (s : Stp) : Int := if s.1 = true then (if s.2 ≤ t then 1 else 0) else -1
def gr (t : Int) : List Stp → Int
  | [] => 0
  | s :: S => gr1 t s + gr t S
theorem insAt_len (L : List Int) (i x : Int) : (insAt L i x).length = L.length + 1 := by rw [(insAt_perm L i x).length_eq, List.length_cons]
theorem tstep_gr (t : Int) (p : Int × List Int) (s : Stp) : (tstep t p s).1 - ((tstep t p s).2.length : Int) = p.1 - (p.2.length : Int) + gr1 t s := by
  unfold tstep gr1
  split
  · split
    · simp only; omega
    · omega
  · split
    · simp only; omega
    · simp only [insAt_len]; omega
theorem fold_gr (t : Int) : ∀ (S : List Stp) (p : Int × List Int), (S.foldl (tstep t) p).1 - ((S.foldl (tstep t) p).2.length : Int) = p.1 - (p.2.length : Int) + gr t S
  | [], p => by show _ = _ + 0; rw [Int.add_zero]; rfl
  | s :: S, p => by
    rw [List.foldl_cons, fold_gr t S, tstep_gr]
    show _ = _ + (gr1 t s + gr t S)
    omega
theorem tb_gr (t : Int) (S : List Stp) : (tb t S).1 - ((tb t S).2.length : Int) = gr t S := by
  have := fold_gr t S (0, [])
  simpa [tb] using this
theorem fold_len (t : Int) : ∀ (S : List Stp) (p : Int × List Int), (S.foldl (tstep t) p).2.length ≤ p.2.length + S.length ∧ (S.foldl (tstep t) p).1 ≤ p.1 + S.length
  | [], p => ⟨Nat.le_refl _, by simp⟩
  | s :: S, p => by
    have h := fold_len t S (tstep t p s)
    have h2 : (tstep t p s).2.length ≤ p.2.length + 1 ∧ (tstep t p s).1 ≤ p.1 + 1 := by
      unfold tstep
      split
      · split
        · exact ⟨Nat.le_succ _, Int.le_refl _⟩
        · exact ⟨Nat.le_succ _, by omega⟩
      · split
        · exact ⟨Nat.le_succ _, by simp only; omega⟩
        · exact ⟨by simp only [insAt_len]; omega, by simp only; omega⟩
    rw [List.foldl_cons, List.length_cons]
    omega
theorem tb_len (t : Int) (S : List Stp) : (tb t S).2.length ≤ S.length := by have := (fold_len t S (0, [])).1; simpa [tb] using this
theorem tb_start (t : Int) (S : List Stp) : (tb t S).1 ≤ S.length := by have := (fold_len t S (0, [])).2; simpa [tb] using this
theorem gr_mono {t u : Int} (h : t ≤ u) : ∀ S : List Stp, gr t S ≤ gr u S
  | [] => Int.le_refl _
  | s :: S => by
    have := gr_mono h S
    have : gr1 t s ≤ gr1 u s := by
      unfold gr1
      split
      · split
        · rw [if_pos (by omega)]; exact Int.le_refl _
        · split <;> omega
      · exact Int.le_refl _
    show gr1 t s + gr t S ≤ gr1 u s + gr u S
    omega
theorem gr_lt {t u x : Int} (h : t < x) (h2 : x ≤ u) : ∀ {S : List Stp}, (true, x) ∈ S → gr t S < gr u S
  | s :: S, hm => by
    show gr1 t s + gr t S < gr1 u s + gr u S
    rcases List.mem_cons.mp hm with e | hm
    · subst e
      have := gr_mono (t := t) (u := u) (by omega) S
      have e1 : gr1 t (true, x) = 0 := by unfold gr1; rw [if_pos rfl, if_neg (by show ¬ x ≤ t; omega)]
      have e2 : gr1 u (true, x) = 1 := by unfold gr1; rw [if_pos rfl, if_pos (show x ≤ u by omega)]
      omega
    · have := gr_lt h h2 hm
      have := gr_mono (t := t) (u := u) (by omega) [s]
      have : gr1 t s ≤ gr1 u s := by simpa [gr] using this
      omega
theorem gr_append (t : Int) : ∀ S M : List Stp, gr t (S ++ M) = gr t S + gr t M
  | [], M => by show gr t M = 0 + gr t M; omega
  | s :: S, M => by
    show gr1 t s + gr t (S ++ M) = gr1 t s + gr t S + gr t M
    rw [gr_append t S M]
    omega
/-! ### thresholds between the breaks -/
theorem tb_local {t u : Int} {S : List Stp} (h : ∀ x, (true, x) ∈ S → (x ≤ t ↔ x ≤ u)) : tb t S = tb u S := by
  have : ∀ (S : List Stp) (p : Int × List Int), (∀ x, (true, x) ∈ S → (x ≤ t ↔ x ≤ u)) → S.foldl (tstep t) p = S.foldl (tstep u) p := by
    intro S
    induction S with
    | nil => intro p _; rfl
    | cons s S ih =>
      intro p h
      obtain ⟨b, k⟩ := s
      have e : tstep t p (b, k) = tstep u p (b, k) := by
        unfold tstep
        cases b with
        | true =>
          have := h k List.mem_cons_self
          simp only [if_true]
          by_cases c : k ≤ t
          · rw [if_pos c, if_pos (this.mp c)]
          · rw [if_neg c, if_neg fun z => c (this.mpr z)]
        | false => simp
      rw [List.foldl_cons, List.foldl_cons, e]
      exact ih _ fun x hx => h x (List.mem_cons_of_mem _ hx)
  exact this S _ h
/-- the breaks of a sequence -/
structure Brk (S : List Stp) (B : List Int) : Prop where
  asc : Asc B
  mem : ∀ x, x ∈ B ↔ (true, x) ∈ S
theorem Brk.ext {S : List Stp} {B C : List Int} (h : Brk S B) (k : Brk S C) : B = C := asc_ext h.asc k.asc fun x => by rw [h.mem, k.mem]
def low (B : List Int) : Int := match B with
  | [] => 0
  | b :: _ => b - 1
def thr (B : List Int) : List Int := low B :: B
theorem low_lt {B : List Int} (h : Asc B) : ∀ x ∈ B, low B < x := by
  intro x hx
  cases B with
  | nil => cases hx
  | cons b B =>
    show b - 1 < x
    rcases List.mem_cons.mp hx with rfl | hx
    · omega
    · have := (List.pairwise_cons.mp h).1 x hx; omega
theorem cnt_at {B : List Int} (h : Asc B) : ∀ (t : Int) (j : Nat), cnt B t = (j : Int) + 1 → ∃ b, B[j]? = some b ∧ b ≤ t ∧ ∀ x ∈ B, x ≤ t ↔ x ≤ b := by
  induction B with
  | nil => intro t j e; rw [cnt_nil] at e; omega
  | cons y B ih =>
    intro t j e
    have hy := (List.pairwise_cons.mp h).1
    have hB := (List.pairwise_cons.mp h).2
    rw [cnt_cons] at e
    by_cases c : y ≤ t
    · rw [if_pos c] at e
      cases j with
      | zero =>
        refine ⟨y, rfl, c, fun x hx => ?_⟩
        rcases List.mem_cons.mp hx with rfl | hx
        · constructor <;> intro <;> omega
        · have h1 := hy x hx
          constructor
          · intro h2
            exfalso
            have : (1 : Int) ≤ cnt B t := by
              have h3 := (cnt_mem hB).mp hx
              have h4 := cnt_nn B (x - 1)
              have h5 := cnt_mono B h2
              omega
            omega
          · intro; omega
      | succ j =>
        obtain ⟨b, h1, h2, h3⟩ := ih hB t j (by omega)
        refine ⟨b, by simpa using h1, h2, fun x hx => ?_⟩
        rcases List.mem_cons.mp hx with rfl | hx
        · have := hy b (List.mem_of_getElem? h1)
          constructor <;> intro <;> omega
        · exact h3 x hx
    · rw [if_neg c] at e
      have := cnt_zero (L := B) (c := t) fun z hz => by have := hy z hz; omega
      omega
theorem thr_at {S : List Stp} {B : List Int} (h : Brk S B) (t : Int) : ∃ u, (thr B)[(cnt B t).toNat]? = some u ∧ tb u S = tb t S ∧ gr u S = gr t S := by
  have n0 := cnt_nn B t
  have key : ∀ u, (∀ x ∈ B, x ≤ t ↔ x ≤ u) → tb u S = tb t S ∧ gr u S = gr t S := fun u hu => by
    have e : tb u S = tb t S := tb_local fun x hx => (hu x ((h.mem x).mpr hx)).symm
    exact ⟨e, by rw [← tb_gr u S, ← tb_gr t S, e]⟩
  by_cases e : cnt B t = 0
  · refine ⟨low B, by rw [e]; rfl, key _ fun x hx => ?_⟩
    have h1 := low_lt h.asc x hx
    have h2 : ¬ x ≤ t := fun z => by
      have h3 := (cnt_mem h.asc).mp hx
      have h4 := cnt_nn B (x - 1)
      have h5 := cnt_mono B z
      omega
    constructor <;> intro <;> omega
  · obtain ⟨b, h1, h2, h3⟩ := cnt_at h.asc t ((cnt B t).toNat - 1) (by omega)
    refine ⟨b, ?_, key b h3⟩
    have : (cnt B t).toNat = (cnt B t).toNat - 1 + 1 := by omega
    rw [this]
    simpa [thr] using h1
/-- its tables -/
def tbs (S : List Stp) (B : List Int) : List (Int × List Int) := (thr B).map fun t => tb t S
theorem tbs_at {S : List Stp} {B : List Int} (h : Brk S B) (t : Int) : (tbs S B)[(cnt B t).toNat]? = some (tb t S) := by
  obtain ⟨u, h1, h2, _⟩ := thr_at h t
  unfold tbs
  rw [List.getElem?_map, h1, ← h2]
  rfl
theorem tbs_len (S : List Stp) (B : List Int) : (tbs S B).length = B.length + 1 := by simp [tbs, thr]
theorem brk_iff {S : List Stp} {B : List Int} (h : Brk S B) (b : Int) : b ∈ B ↔ tb b S ≠ tb (b - 1) S := by
  rw [h.mem]
  constructor
  · intro hb e
    have := gr_lt (t := b - 1) (u := b) (by omega) (Int.le_refl _) hb
    rw [← tb_gr b S, ← tb_gr (b - 1) S, e] at this
    omega
  · intro e
    refine Classical.byContradiction fun hb => e (tb_local fun x hx => ?_)
    have : x ≠ b := fun z => hb (z ▸ hx)
    constructor <;> intro <;> omega
/-- effects that have the same tables are one -/
theorem eff_ext {S M : List Stp} {B C : List Int} (h : Brk S B) (k : Brk M C) : (B = C ∧ tbs S B = tbs M C) ↔ ∀ t, tb t S = tb t M := by
  constructor
  · rintro ⟨rfl, e⟩ t
    have h1 := tbs_at h t
    have h2 := tbs_at k t
    rw [e, h2] at h1
    exact (Option.some.inj h1).symm
  · intro e
    have : B = C := asc_ext h.asc k.asc fun x => by rw [brk_iff h, brk_iff k, e, e]
    subst this
    refine ⟨rfl, ?_⟩
    unfold tbs
    exact List.map_congr_left fun t _ => e t
theorem tb_eq_iff {t u : Int} {S M : List Stp} (g : ∀ s ∈ S, goodS s = true) (g2 : ∀ s ∈ M, goodS s = true) : tb t S = tb u M ↔ ∀ c, 0 ≤ c → smp t S c = smp u M c := by
  constructor
  · intro e c hc
    rw [← tb_mp g hc, ← tb_mp g2 hc, e]
  · intro e
    obtain ⟨h1, h2⟩ := ok_ext (tb_ok (t := t) g) (tb_ok (t := u) g2) fun c hc => by rw [tb_mp g hc, tb_mp g2 hc, e c hc]
    exact Prod.ext h1 h2
/-- the sum of two tables -/
theorem tb_add {t : Int} {S M : List Stp} {N : List Int} (g : ∀ s ∈ S, goodS s = true) (g2 : ∀ s ∈ M, goodS s = true) (p : N.Perm ((tb t S).2 ++ found (tb t S).1 (tb t S).2 (tb t M).2)) (u : Up N) :
    (mp (tb t M).1 (tb t M).2 (tb t S).1, N) = tb t (S ++ M) := by
  have g3 : ∀ s ∈ S ++ M, goodS s = true := fun s hs => (List.mem_append.mp hs).elim (g s) (g2 s)
  have o1 := tb_ok (t := t) g
  have o2 := tb_ok (t := t) g2
  obtain ⟨h1, h2⟩ := ok_ext (ok_add o1 o2 p u) (tb_ok (t := t) g3) fun c hc => by
    rw [mp_add o1 p hc, tb_mp g hc, tb_mp g2 (smp_nn g hc), tb_mp g3 hc, smp_append]
  exact Prod.ext h1 h2
/-- neighboring tables differ -/
theorem tbs_adj {S : List Stp} {B : List Int} (h : Brk S B) : ∀ (i : Nat) (p q : Int × List Int), (tbs S B)[i]? = some p → (tbs S B)[i + 1]? = some q → p ≠ q := by
  intro i p q hp hq e
  unfold tbs at hp hq
  rw [List.getElem?_map] at hp hq
  obtain ⟨t, ht, rfl⟩ := Option.map_eq_some_iff.mp hp
  obtain ⟨u, hu, rfl⟩ := Option.map_eq_some_iff.mp hq
  have hu' : B[i]? = some u := by simpa [thr] using hu
  have hum := List.mem_of_getElem? hu'
  have hlt : t < u := by
    cases i with
    | zero =>
      have : low B = t := by simpa [thr] using ht
      rw [← this]
      exact low_lt h.asc u hum
    | succ i =>
      have ht' : B[i]? = some t := by simpa [thr] using ht
      obtain ⟨h1, e1⟩ := List.getElem?_eq_some_iff.mp ht'
      obtain ⟨h2, e2⟩ := List.getElem?_eq_some_iff.mp hu'
      have := (List.pairwise_iff_getElem.mp h.asc) i (i + 1) h1 h2 (by omega)
      omega
  have := gr_lt hlt (Int.le_refl u) ((h.mem u).mp hum)
  rw [← tb_gr t S, ← tb_gr u S, e] at this
  omega
/-! ### runs -/
theorem up_srt (L : List Int) : Up (srt L) := srt_up L
theorem cnt_srt (L : List Int) (t : Int) : cnt (srt L) t = cnt L t := cnt_perm (srt_perm L) t
theorem cnt_rm {N : List Int} (u : Up N) (t : Int) : ∀ j : Nat, j < N.length → cnt (N.take j ++ N.drop (j + 1)) t = cnt N t - (if (j : Int) < cnt N t then 1 else 0) := by
  induction N with
  | nil => intro j h; cases h
  | cons y N ih =>
    intro j h
    have hy := (List.pairwise_cons.mp u).1
    have hN := (List.pairwise_cons.mp u).2
    have n0 := cnt_nn N t
    have hz : ¬ y ≤ t → cnt N t = 0 := fun c => cnt_zero fun z hz => by have := hy z hz; omega
    cases j with
    | zero =>
      show cnt N t = _
      rw [cnt_cons]
      by_cases c : y ≤ t
      · rw [if_pos c, if_pos (by simp only [Int.natCast_zero, Int.ofNat_zero] at *; omega)]; omega
      · rw [if_neg c, hz c]; rfl
    | succ j =>
      have := ih hN j (by simpa using h)
      show cnt (y :: (N.take j ++ N.drop (j + 1))) t = _
      rw [cnt_cons, cnt_cons, this]
      by_cases c : y ≤ t
      · rw [if_pos c]
        by_cases d : (j : Int) < cnt N t
        · rw [if_pos d, if_pos (by omega)]; omega
        · rw [if_neg d, if_neg (by omega)]; omega
      · rw [if_neg c, hz c]
        rw [if_neg (by omega), if_neg (by omega)]
        omega
theorem step_cnt {N M : List Int} {s : Stp} (u : Up N) (g : goodS s = true) (e : stepR N s = some M) : Up M ∧ (∀ t, cnt M t = smp1 t (cnt N t) s) ∧ (M.length : Int) = N.length + (if s.1 = true then 1 else -1) ∧ ∀ x ∈ M, x ∈ N ∨ s = (true, x) := by
  obtain ⟨b, k⟩ := s
  cases b with
  | true =>
    have e' : some (srt (N ++ [k])) = some M := e
    cases e'
    refine ⟨up_srt _, fun t => ?_, ?_, fun x hx => ?_⟩
    · rw [cnt_srt, cnt_append, cnt_cons, cnt_nil]
      unfold smp1
      simp only [if_true]
      split <;> omega
    · rw [srt_len, List.length_append]
      simp
    · rcases List.mem_append.mp ((srt_perm _).mem_iff.mp hx) with h | h
      · exact .inl h
      · rw [List.mem_singleton.mp h]; exact .inr rfl
  | false =>
    have hk : 0 < k := by simpa [goodS] using g
    simp only [stepR] at e
    split at e
    · cases e
    · rename_i hl
      cases e
      have hj : (k - 1).toNat < N.length := by omega
      have ej : k.toNat = (k - 1).toNat + 1 := by omega
      rw [ej]
      refine ⟨?_, fun t => ?_, ?_, fun x hx => .inl ?_⟩
      · refine List.pairwise_append.mpr ⟨u.sublist (List.take_sublist _ _), u.sublist (List.drop_sublist _ _), fun a ha b hb => ?_⟩
        have h1 : a ∈ N.take ((k - 1).toNat + 1) := (List.take_sublist_take_left (by omega)).subset ha
        have h2 := u
        rw [← List.take_append_drop ((k - 1).toNat + 1) N] at h2
        exact (List.pairwise_append.mp h2).2.2 a h1 b hb
      · rw [cnt_rm u t _ hj]
        unfold smp1
        simp only [Bool.false_eq_true, if_false]
        by_cases c : k ≤ cnt N t
        · rw [if_pos c, if_pos (by omega)]
        · rw [if_neg c, if_neg (by omega)]; omega
      · rw [List.length_append, List.length_take, List.length_drop]
        simp
        omega
      · rcases List.mem_append.mp hx with h | h
        · exact List.mem_of_mem_take h
        · exact List.mem_of_mem_drop h
theorem run_cnt : ∀ {S : List Stp} {N M : List Int} {i : Nat}, Up N → (∀ s ∈ S, goodS s = true) → runR N i S = .inl M → Up M ∧ (∀ t, cnt M t = smp t S (cnt N t)) ∧ ∀ x ∈ M, x ∈ N ∨ (true, x) ∈ S
  | [], N, M, i, u, _, e => by
    have e' : (Sum.inl N : List Int ⊕ Nat) = .inl M := e
    cases e'
    exact ⟨u, fun _ => rfl, fun x hx => .inl hx⟩
  | s :: S, N, M, i, u, g, e => by
    simp only [runR] at e
    cases h : stepR N s with
    | none => rw [h] at e; cases e
    | some N1 =>
      rw [h] at e
      obtain ⟨u1, c1, _, m1⟩ := step_cnt u (g s List.mem_cons_self) h
      obtain ⟨u2, c2, m2⟩ := run_cnt u1 (fun x hx => g x (List.mem_cons_of_mem _ hx)) e
      refine ⟨u2, fun t => ?_, fun x hx => ?_⟩
      · rw [c2 t, c1 t]
        rfl
      · rcases m2 x hx with h1 | h1
        · rcases m1 x h1 with h2 | h2
          · exact .inl h2
          · rw [h2]; exact .inr List.mem_cons_self
        · exact .inr (List.mem_cons_of_mem _ h1)
/-- a threshold above all inserted numbers -/
def Top (T : Int) (S : List Stp) : Prop := ∀ x, (true, x) ∈ S → x ≤ T
theorem smp_ge {t : Int} : ∀ (S : List Stp) (c : Int), c + gr t S ≤ smp t S c
  | [], c => by show c + 0 ≤ c; omega
  | (b, k) :: S, c => by
    have := smp_ge (t := t) S (smp1 t c (b, k))
    have h : c + gr1 t (b, k) ≤ smp1 t c (b, k) := by
      unfold gr1 smp1
      cases b with
      | true => simp only [if_true]; split <;> omega
      | false => simp only [Bool.false_eq_true, if_false]; split <;> omega
    show c + (gr1 t (b, k) + gr t S) ≤ smp t S (smp1 t c (b, k))
    omega
theorem run_ok {T : Int} : ∀ {S : List Stp} {N : List Int} {i : Nat}, Up N → (∀ s ∈ S, goodS s = true) → Top T S → ((∃ M, runR N i S = .inl M) ↔ smp T S N.length = N.length + gr T S)
  | [], N, i, _, _, _ => by
    constructor
    · intro _; show (N.length : Int) = N.length + 0; omega
    · intro _; exact ⟨N, rfl⟩
  | (b, k) :: S, N, i, u, g, tp => by
    have gS : ∀ s ∈ S, goodS s = true := fun x hx => g x (List.mem_cons_of_mem _ hx)
    have tS : Top T S := fun x hx => tp x (List.mem_cons_of_mem _ hx)
    show (∃ M, runR N i ((b, k) :: S) = .inl M) ↔ smp T S (smp1 T N.length (b, k)) = N.length + (gr1 T (b, k) + gr T S)
    simp only [runR]
    cases h : stepR N (b, k) with
    | some N1 =>
      obtain ⟨u1, _, l1, _⟩ := step_cnt u (g _ List.mem_cons_self) h
      have ih := run_ok (T := T) (i := i + 1) u1 gS tS
      have e1 : smp1 T N.length (b, k) = N1.length ∧ gr1 T (b, k) = (if b = true then 1 else -1) := by
        unfold smp1 gr1
        cases b with
        | true =>
          have := tp k List.mem_cons_self
          simp only [if_true] at l1 ⊢
          rw [if_pos this, if_pos this]
          omega
        | false =>
          simp only [stepR] at h
          split at h
          · cases h
          · simp only [Bool.false_eq_true, if_false] at l1 ⊢
            rw [if_pos (by omega)]
            constructor <;> first | omega | trivial
      rw [e1.1, e1.2]
      refine ih.trans ?_
      simp only at l1
      rw [l1]
      constructor <;> intro <;> omega
    | none =>
      cases b with
      | true => cases h
      | false =>
        simp only [stepR] at h
        split at h
        · rename_i hl
          have e1 : smp1 T N.length (false, k) = N.length := by
            unfold smp1
            simp only [Bool.false_eq_true, if_false]
            rw [if_neg (by omega)]
          have e2 : gr1 T (false, k) = -1 := by unfold gr1; simp
          rw [e1, e2]
          have := smp_ge (t := T) S N.length
          constructor
          · rintro ⟨M, z⟩; cases z
          · intro; omega
        · cases h
/-- the least length that is enough -/
def needL (L : List Int) : Int := L.getLastD 0
theorem needL_iff {L : List Int} (h : Asc L) (p : Pos L) {n : Int} (n0 : 0 ≤ n) : needL L ≤ n ↔ ∀ x ∈ L, x ≤ n := by
  unfold needL
  cases hL : L.getLast? with
  | none =>
    rw [List.getLast?_eq_none_iff] at hL
    subst hL
    simp
    exact n0
  | some x =>
    have e : L.getLastD 0 = x := by rw [List.getLastD_eq_getLast?, hL]; rfl
    rw [e]
    obtain ⟨M, rfl⟩ := List.getLast?_eq_some_iff.mp hL
    constructor
    · intro hx y hy
      rcases List.mem_append.mp hy with hy | hy
      · have := (List.pairwise_append.mp h).2.2 y hy x (List.mem_singleton.mpr rfl); omega
      · rw [List.mem_singleton.mp hy]; exact hx
    · intro hall; exact hall x (List.mem_append.mpr (.inr (List.mem_singleton.mpr rfl)))
theorem needL_nn {L : List Int} (p : Pos L) : 0 ≤ needL L := by
  unfold needL
  cases hL : L.getLast? with
  | none => rw [List.getLast?_eq_none_iff] at hL; subst hL; simp
  | some x =>
    have e : L.getLastD 0 = x := by rw [List.getLastD_eq_getLast?, hL]; rfl
    rw [e]
    have := p x (List.mem_of_getLast? hL)
    omega
theorem cnt_full {L : List Int} {n : Int} : cnt L n = L.length ↔ ∀ x ∈ L, x ≤ n := by
  constructor
  · intro e
    induction L with
    | nil => intro x hx; cases hx
    | cons y L ih =>
      rw [cnt_cons, List.length_cons] at e
      have := cnt_le_len L n
      intro x hx
      by_cases c : y ≤ n
      · rw [if_pos c] at e
        rcases List.mem_cons.mp hx with rfl | hx
        · exact c
        · exact ih (by omega) x hx
      · rw [if_neg c] at e
        omega
  · exact cnt_all
theorem run_need {T : Int} {S : List Stp} {N : List Int} {i : Nat} (u : Up N) (g : ∀ s ∈ S, goodS s = true) (tp : Top T S) : (∃ M, runR N i S = .inl M) ↔ needL (tb T S).2 ≤ N.length := by
  have o := tb_ok (t := T) g
  rw [run_ok u g tp, needL_iff o.asc o.pos (Int.natCast_nonneg _), ← cnt_full, ← tb_mp g (Int.natCast_nonneg _), ← tb_gr]
  unfold mp
  constructor <;> intro <;> omega
/-! ### lists by their counts -/
theorem up_ext {L : List Int} : ∀ {M : List Int}, Up L → Up M → (∀ t, cnt L t = cnt M t) → L = M := by
  intro M hL hM e
  have c : ∀ (x : Int) (L : List Int), (L.count x : Int) = cnt L x - cnt L (x - 1) := by
    intro x L
    induction L with
    | nil => rfl
    | cons y L ih =>
      rw [cnt_cons, cnt_cons, List.count_cons]
      by_cases h : y = x
      · subst h
        rw [if_pos (show y ≤ y from Int.le_refl _), if_neg (show ¬ y ≤ y - 1 by omega), if_pos (show (y == y) = true by simp)]
        omega
      · rw [if_neg (show ¬ (y == x) = true by simpa using h)]
        by_cases h2 : y ≤ x
        · rw [if_pos h2, if_pos (show y ≤ x - 1 by omega)]
          omega
        · rw [if_neg h2, if_neg (show ¬ y ≤ x - 1 by omega)]
          omega
  have p : L.Perm M := List.perm_iff_count.mpr fun x => by
    have h1 := c x L
    have h2 := c x M
    rw [e x, e (x - 1)] at h1
    omega
  exact p.eq_of_pairwise (le := (· ≤ ·)) (fun a b _ _ h1 h2 => Int.le_antisymm h1 h2) hL hM
theorem up_split {v : Int} : ∀ {M : List Int}, Up M → (∀ x ∈ M, v ≤ x) → ∃ M', M = List.replicate (cnt M v).toNat v ++ M' ∧ Up M' ∧ ∀ x ∈ M', v < x
  | [], _, _ => ⟨[], rfl, List.Pairwise.nil, fun _ h => by cases h⟩
  | y :: M, u, h => by
    have hy := (List.pairwise_cons.mp u).1
    have hM := (List.pairwise_cons.mp u).2
    have h1 := h y List.mem_cons_self
    by_cases c : y ≤ v
    · have e : y = v := by omega
      subst e
      obtain ⟨M', e1, u1, g1⟩ := up_split hM fun x hx => hy x hx
      refine ⟨M', ?_, u1, g1⟩
      rw [cnt_cons, if_pos (Int.le_refl _)]
      have n0 := cnt_nn M y
      have e2 : (1 + cnt M y).toNat = (cnt M y).toNat + 1 := by omega
      rw [e2, List.replicate_succ, List.cons_append, ← e1]
    · refine ⟨y :: M, ?_, u, fun x hx => ?_⟩
      · have : cnt (y :: M) v = 0 := cnt_zero fun x hx => by
          rcases List.mem_cons.mp hx with rfl | hx
          · omega
          · have := hy x hx; omega
        rw [this]
        rfl
      · rcases List.mem_cons.mp hx with rfl | hx
        · omega
        · have := hy x hx; omega
/-- what spread makes -/
def spr (b : Int) : List (Int × Int) → List Int
  | [] => []
  | (v, f) :: V => List.replicate (f - b).toNat v ++ spr f V
theorem spr_run {V : List Int} : ∀ {M : List Int} {b : Int} {f : Int → Int}, Asc V → Up M → (∀ x ∈ M, x ∈ V) → (∀ v ∈ V, f v = b + cnt M v) → spr b (V.map fun v => (v, f v)) = M := by
  induction V with
  | nil =>
    intro M b f _ _ h _
    cases M with
    | nil => rfl
    | cons x M => exact absurd (h x List.mem_cons_self) (by simp)
  | cons v V ih =>
    intro M b f ha u h hf
    have hv := (List.pairwise_cons.mp ha).1
    have hV := (List.pairwise_cons.mp ha).2
    obtain ⟨M', e, u', g'⟩ := up_split (v := v) u fun x hx => by
      rcases List.mem_cons.mp (h x hx) with rfl | hx
      · exact Int.le_refl _
      · have := hv x hx; omega
    have n0 := cnt_nn M v
    have h1 := hf v List.mem_cons_self
    show List.replicate (f v - b).toNat v ++ spr (f v) (V.map fun v => (v, f v)) = M
    have e1 : (f v - b).toNat = (cnt M v).toNat := by omega
    rw [e1, ih (M := M') hV u' (fun x hx => ?_) (fun w hw => ?_), ← e]
    · have hx2 : x ∈ M := by rw [e]; exact List.mem_append.mpr (.inr hx)
      rcases List.mem_cons.mp (h x hx2) with rfl | h3
      · have := g' x hx; omega
      · exact h3
    · rw [hf w (List.mem_cons_of_mem _ hw), h1]
      have hw2 := hv w hw
      have e2 : cnt M w = cnt M v + cnt M' w := by
        have h3 := congrArg (fun L => cnt L w) e
        simp only [cnt_append] at h3
        rw [h3, cnt_all (L := List.replicate (cnt M v).toNat v) fun x hx => by rw [List.eq_of_mem_replicate hx]; omega, List.length_replicate]
        omega
      omega
theorem spr_len : ∀ (V : List (Int × Int)) (b : Int) (m : Int), b ≤ m → (V.map (·.2)).Pairwise (· ≤ ·) → (∀ p ∈ V, b ≤ p.2 ∧ p.2 ≤ m) → ((spr b V).length : Int) ≤ m - b
  | [], b, m, h, _, _ => by show ((0 : Nat) : Int) ≤ m - b; omega
  | (v, f) :: V, b, m, h, u, k => by
    have hf := k (v, f) List.mem_cons_self
    rw [List.map_cons] at u
    have hu := List.pairwise_cons.mp u
    have := spr_len V f m hf.2 hu.2 fun p hp => ⟨hu.1 p.2 (List.mem_map.mpr ⟨p, hp, rfl⟩), (k p (List.mem_cons_of_mem _ hp)).2⟩
    show ((List.replicate (f - b).toNat v ++ spr f V).length : Int) ≤ m - b
    rw [List.length_append, List.length_replicate]
    simp only at hf
    omega
/-! ### shifted -/
def shf (o : Int) (S : List Stp) : List Stp := S.map fun s => if s.1 = true then (true, s.2 + o) else s
theorem tb_shf (o t : Int) (S : List Stp) : tb (t + o) (shf o S) = tb t S := by
  have : ∀ (S : List Stp) (p : Int × List Int), (shf o S).foldl (tstep (t + o)) p = S.foldl (tstep t) p := by
    intro S
    induction S with
    | nil => intro p; rfl
    | cons s S ih =>
      intro p
      show (shf o S).foldl (tstep (t + o)) (tstep (t + o) p (if s.1 = true then (true, s.2 + o) else s)) = _
      rw [ih, List.foldl_cons]
      congr 1
      obtain ⟨b, k⟩ := s
      unfold tstep
      cases b with
      | true =>
        simp only [if_true]
        by_cases c : k ≤ t
        · rw [if_pos c, if_pos (by omega)]
        · rw [if_neg c, if_neg (by omega)]
      | false => simp
  exact this S _
theorem good_shf {o : Int} {S : List Stp} (g : ∀ s ∈ S, goodS s = true) : ∀ s ∈ shf o S, goodS s = true := by
  intro s hs
  obtain ⟨x, hx, rfl⟩ := List.mem_map.mp hs
  have := g x hx
  split
  · rfl
  · exact this
end Eff
namespace Eff
open Tbl XT
/-- a threshold above all numbers of the steps -/
def topOf (S : List Stp) : Int := S.foldr (fun s m => max s.2 m) 0
theorem top_ge : ∀ {S : List Stp} {s : Stp}, s ∈ S → s.2 ≤ topOf S
  | x :: S, s, h => by
    show s.2 ≤ max x.2 (topOf S)
    rcases List.mem_cons.mp h with rfl | h
    · exact Int.le_max_left _ _
    · exact Int.le_trans (top_ge h) (Int.le_max_right _ _)
theorem top_top (S : List Stp) : Top (topOf S) S := fun x hx => top_ge hx
def need (S : List Stp) : Int := needL (tb (topOf S) S).2
def grow (S : List Stp) : Int := gr (topOf S) S
theorem tb_top {T : Int} {S : List Stp} (h : Top T S) : tb T S = tb (topOf S) S := tb_local fun x hx => by
  have h1 := h x hx
  have h2 := top_top S x hx
  constructor <;> intro <;> omega
theorem gr_top {T : Int} {S : List Stp} (h : Top T S) : gr T S = grow S := by
  unfold grow
  rw [← tb_gr T S, ← tb_gr (topOf S) S, tb_top h]
theorem tbs_last {S : List Stp} {B : List Int} (h : Brk S B) : (tbs S B)[B.length]? = some (tb (topOf S) S) := by
  have h1 := tbs_at h (topOf S)
  have h2 : cnt B (topOf S) = B.length := cnt_all fun x hx => top_top S x ((h.mem x).mp hx)
  rw [h2, Int.toNat_natCast] at h1
  exact h1
theorem need_nn {S : List Stp} (g : ∀ s ∈ S, goodS s = true) : 0 ≤ need S := needL_nn (tb_ok g).pos
theorem run_iff {S : List Stp} {N : List Int} {i : Nat} (u : Up N) (g : ∀ s ∈ S, goodS s = true) : (∃ M, runR N i S = .inl M) ↔ need S ≤ N.length := run_need u g (top_top S)
theorem brk_nil : Brk [] [] := ⟨List.Pairwise.nil, fun x => by simp⟩
/-- the inserted numbers -/
def ins (S : List Stp) : List Int := S.filterMap fun s => if s.1 = true then some s.2 else none
theorem mem_ins {S : List Stp} {x : Int} : x ∈ ins S ↔ (true, x) ∈ S := by
  unfold ins
  rw [List.mem_filterMap]
  constructor
  · rintro ⟨⟨b, k⟩, h, e⟩
    cases b with
    | true => simp at e; subst e; exact h
    | false => simp at e
  · intro h
    exact ⟨(true, x), h, by simp⟩
theorem ins_len (S : List Stp) : (ins S).length ≤ S.length := List.length_filterMap_le _ _
theorem all_eq_iff {S M : List Stp} {B : List Int} : ((List.range (tbs S B).length).all fun i => decide ((tbs S B)[i]? = (tbs M B)[i]?)) = true ↔ tbs S B = tbs M B := by
  rw [List.all_eq_true]
  constructor
  · intro h
    apply List.ext_getElem?
    intro i
    by_cases hi : i < (tbs S B).length
    · exact of_decide_eq_true (h i (List.mem_range.mpr hi))
    · rw [List.getElem?_eq_none (by omega), List.getElem?_eq_none (by rw [tbs_len] at hi ⊢; omega)]
  · intro e i _
    rw [e]
    exact decide_eq_true rfl
end Eff

namespace Eff
open Tbl XT
theorem smp_big {t m : Int} : ∀ {S : List Stp} {c : Int}, (∀ s ∈ S, s.1 = false → s.2 ≤ m) → m + S.length ≤ c → smp t S c = c + gr t S
  | [], c, _, _ => by show c = c + 0; omega
  | (b, k) :: S, c, h, hc => by
    rw [List.length_cons] at hc
    have ih := fun (d : Int) (hd : m + S.length ≤ d) => smp_big (t := t) (S := S) (c := d) (fun s hs => h s (List.mem_cons_of_mem _ hs)) hd
    show smp t S (smp1 t c (b, k)) = c + (gr1 t (b, k) + gr t S)
    unfold smp1 gr1
    cases b with
    | true =>
      simp only [if_true]
      by_cases d : k ≤ t
      · rw [if_pos d, if_pos d, ih _ (by omega)]; omega
      · rw [if_neg d, if_neg d, ih _ (by omega)]; omega
    | false =>
      have := h _ List.mem_cons_self rfl
      simp only [Bool.false_eq_true, if_false]
      rw [if_pos (show k ≤ c by simp only at this; omega), ih _ (by omega)]
      omega
theorem range_filt {L : List Int} {lo : Int} {n : Nat} {p : Nat → Bool} (ha : Asc L) (hb : ∀ x ∈ L, lo ≤ x ∧ x < lo + n) (hp : ∀ i : Nat, i < n → (p i = true ↔ lo + (i : Int) ∈ L)) : ((List.range n).filter p).map (fun i : Nat => lo + (i : Int)) = L := by
  refine asc_ext ?_ ha fun x => ?_
  · refine List.pairwise_map.mpr ((List.pairwise_lt_range (n := n)).filter p |>.imp fun h => ?_)
    omega
  · rw [List.mem_map]
    constructor
    · rintro ⟨i, hi, rfl⟩
      obtain ⟨h1, h2⟩ := List.mem_filter.mp hi
      exact (hp i (List.mem_range.mp h1)).mp h2
    · intro hx
      obtain ⟨h1, h2⟩ := hb x hx
      refine ⟨(x - lo).toNat, List.mem_filter.mpr ⟨List.mem_range.mpr (by omega), (hp _ (by omega)).mpr ?_⟩, by omega⟩
      have : lo + (((x - lo).toNat : Nat) : Int) = x := by omega
      rw [this]
      exact hx
theorem mem_lost {t : Int} {S : List Stp} (g : ∀ s ∈ S, goodS s = true) {x : Int} (hx : 1 ≤ x) : x ∈ (tb t S).2 ↔ smp t S x = smp t S (x - 1) := by
  have o := tb_ok (t := t) g
  rw [cnt_mem o.asc, ← tb_mp g (show 0 ≤ x by omega), ← tb_mp g (show 0 ≤ x - 1 by omega)]
  unfold mp
  constructor <;> intro <;> omega
theorem lost_le {t m : Int} {S : List Stp} (g : ∀ s ∈ S, goodS s = true) (h : ∀ s ∈ S, s.1 = false → s.2 ≤ m) (hm : 0 ≤ m) : ∀ x ∈ (tb t S).2, x ≤ m + S.length := by
  intro x hx
  have o := tb_ok (t := t) g
  have h1 := o.pos x hx
  have h2 := (mem_lost g h1).mp hx
  refine Classical.byContradiction fun c => ?_
  rw [smp_big h (by omega), smp_big h (by omega)] at h2
  omega
def row (t : Int) (S : List Stp) : List Int := (List.range 31).map fun c : Nat => smp t S (c : Int)
theorem row_iff {S : List Stp} {B : List Int} (h : Brk S B) (g : ∀ s ∈ S, goodS s = true) (hr : ∀ s ∈ S, s.1 = false → s.2 ≤ 14) (hl : S.length ≤ 12) (t : Int) : ¬ row t S = row (t - 1) S ↔ t ∈ B := by
  rw [brk_iff h]
  constructor
  · intro c e
    exact c (List.map_congr_left fun x _ => (tb_eq_iff g g).mp e x (Int.natCast_nonneg _))
  · intro c e
    have hb := (h.mem t).mp ((brk_iff h t).mpr c)
    have h1 := gr_lt (t := t - 1) (u := t) (by omega) (Int.le_refl _) hb
    have h2 := congrArg (fun l => l[30]?) e
    simp only [row] at h2
    rw [List.getElem?_map, List.getElem?_map] at h2
    have h3 : (List.range 31)[30]? = some 30 := rfl
    rw [h3] at h2
    have h4 : smp t S ((30 : Nat) : Int) = smp (t - 1) S ((30 : Nat) : Int) := Option.some.inj h2
    rw [smp_big hr (by omega), smp_big hr (by omega)] at h4
    omega
theorem row_len (t : Int) (S : List Stp) : (row t S).length = 31 := by simp [row]
theorem cuts_eq {S : List Stp} {B : List Int} (h : Brk S B) (g : ∀ s ∈ S, goodS s = true) (hr : ∀ s ∈ S, -2 ≤ s.2 ∧ s.2 ≤ 14) (hl : S.length ≤ 12) :
    ((List.range 20).filter fun i : Nat => !decide (row (-5 + (i : Int)) S = row (-6 + (i : Int)) S)).map (fun i : Nat => -5 + (i : Int)) = B := by
  refine range_filt h.asc (fun x hx => ?_) fun i hi => ?_
  · have := hr _ ((h.mem x).mp hx)
    simp only at this
    omega
  · rw [← row_iff h g (fun s hs _ => (hr s hs).2) hl]
    have e : -5 + (i : Int) - 1 = -6 + (i : Int) := by omega
    rw [e]
    simp
theorem top14 {S : List Stp} (hr : ∀ s ∈ S, -2 ≤ s.2 ∧ s.2 ≤ 14) : Top 14 S := fun x hx => (hr _ hx).2
theorem need_eq {S : List Stp} (g : ∀ s ∈ S, goodS s = true) (hr : ∀ s ∈ S, -2 ≤ s.2 ∧ s.2 ≤ 14) (hl : S.length ≤ 12) :
    ((List.range 30).filter fun i : Nat => decide (smp 14 S (1 + (i : Int)) = smp 14 S (1 + (i : Int) - 1))).map (fun i : Nat => 1 + (i : Int)) = (tb (topOf S) S).2 := by
  rw [← tb_top (top14 hr)]
  have o := tb_ok (t := 14) g
  refine range_filt o.asc (fun x hx => ?_) fun i hi => ?_
  · have h1 := o.pos x hx
    have h2 := lost_le (m := 14) g (fun s hs _ => (hr s hs).2) (by decide) x hx
    omega
  · rw [mem_lost g (by omega)]
    simp
theorem grow_eq {S : List Stp} (hr : ∀ s ∈ S, -2 ≤ s.2 ∧ s.2 ≤ 14) (hl : S.length ≤ 12) : smp 14 S 30 - 30 = grow S := by
  rw [smp_big (m := 14) (fun s hs _ => (hr s hs).2) (by omega), gr_top (top14 hr)]
  omega
end Eff
namespace Eff
open Tbl XT
theorem top14c {S : List Stp} {k : Int} (hr : ∀ s ∈ S, -2 ≤ s.2 ∧ s.2 ≤ 14) : Top 14 (S ++ [(false, k)]) := fun x hx => by
  rcases List.mem_append.mp hx with h | h
  · exact (hr _ h).2
  · have := List.mem_singleton.mp h
    cases this
theorem great_need {S : List Stp} {k : Int} (g : ∀ s ∈ S, goodS s = true) (hr : ∀ s ∈ S, -2 ≤ s.2 ∧ s.2 ≤ 14) (hl : S.length ≤ 12) (hk : 1000 ≤ k) : need (S ++ [(false, k)]) = k - grow S := by
  have e0 : need (S ++ [(false, k)]) = needL (tb 14 (S ++ [(false, k)])).2 := by unfold need; rw [tb_top (top14c hr)]
  rw [e0, tb_snoc]
  have o := tb_ok (t := 14) g
  have ll := lost_le (t := 14) (m := 14) g (fun s hs _ => (hr s hs).2) (by decide)
  have lg := tb_gr 14 S
  have ls := tb_start 14 S
  rw [gr_top (top14 hr)] at lg
  generalize hp : tb 14 S = p at o ll lg ls ⊢
  obtain ⟨s, L⟩ := p
  simp only at o ll lg ls
  unfold tstep
  rw [if_neg (by simp), if_neg (show ¬ k ≤ s by omega)]
  have kp := kr_place o.asc (k - s)
  have kg := kr_ge L (k - s)
  have kc : cnt L (kr L (k - s)) = L.length := cnt_all fun x hx => by have := ll x hx; omega
  have e1 : insAt L (kr L (k - s) - (k - s)) (kr L (k - s)) = L ++ [kr L (k - s)] := by
    unfold insAt
    rw [kp, kc, Int.toNat_natCast, List.take_length, List.drop_length, List.append_nil]
  show needL (insAt L (kr L (k - s) - (k - s)) (kr L (k - s))) = _
  rw [e1]
  have e2 : needL (L ++ [kr L (k - s)]) = kr L (k - s) := by unfold needL; simp
  rw [e2]
  omega
theorem great_grow {S : List Stp} {k : Int} (hr : ∀ s ∈ S, -2 ≤ s.2 ∧ s.2 ≤ 14) : grow (S ++ [(false, k)]) = grow S - 1 := by
  rw [← gr_top (top14c hr), ← gr_top (top14 hr), gr_append]
  show gr 14 S + (gr1 14 (false, k) + 0) = _
  unfold gr1
  simp
  omega
theorem tb_low {S : List Stp} {B : List Int} (h : Brk S B) {t : Int} (ht : ∀ x, (true, x) ∈ S → t < x) : tb t S = tb (low B) S := tb_local fun x hx => by
  have h1 := ht x hx
  have h2 := low_lt h.asc x ((h.mem x).mpr hx)
  constructor <;> intro <;> omega
theorem tb_high {S : List Stp} {t : Int} (ht : ∀ x, (true, x) ∈ S → x ≤ t) : tb t S = tb (topOf S) S := tb_top ht
theorem brk_of_nil {B : List Int} (h : Brk [] B) : B = [] := h.ext brk_nil
end Eff

namespace Eff
open Tbl XT
/-! ### calling an effect: lengths -/
theorem runR_len : ∀ {S : List Stp} {N M : List Int} {i : Nat}, runR N i S = .inl M → M.length ≤ N.length + S.length
  | [], N, M, i, e => by
    have e' : (Sum.inl N : List Int ⊕ Nat) = .inl M := e
    cases e'
    exact Nat.le_refl _
  | s :: S, N, M, i, e => by
    simp only [runR] at e
    cases h : stepR N s with
    | none => rw [h] at e; cases e
    | some N1 =>
      rw [h] at e
      have h1 := runR_len e
      have h2 := stepR_len h
      rw [List.length_cons]
      omega
theorem asc_sub : ∀ {B L : List Int}, Asc B → (∀ x ∈ B, x ∈ L) → B.length ≤ L.length
  | [], L, _, _ => Nat.zero_le _
  | b :: B, L, a, h => by
    have hb := h b List.mem_cons_self
    have hp := List.pairwise_cons.mp a
    have := asc_sub (B := B) (L := L.erase b) hp.2 fun x hx => by
      have h1 := hp.1 x hx
      exact (List.mem_erase_of_ne (by omega)).mpr (h x (List.mem_cons_of_mem _ hx))
    rw [List.length_erase_of_mem hb] at this
    have : 0 < L.length := List.length_pos_of_mem hb
    rw [List.length_cons]
    omega
theorem brk_len {S : List Stp} {B : List Int} (h : Brk S B) : B.length ≤ S.length :=
  Nat.le_trans (asc_sub h.asc fun x hx => mem_ins.mpr ((h.mem x).mp hx)) (ins_len S)
theorem zip_self (A : List Int) (g : Int → Int) : A.zip (A.map g) = A.map fun v => (v, g v) := by
  induction A with
  | nil => rfl
  | cons x A ih => rw [List.map_cons, List.zip_cons_cons, ih, List.map_cons]
theorem rng_map (A : List Int) (g : Int → V) : ((List.range A.length).map fun i => g (A.getD i 0)) = A.map g := by
  apply List.ext_getElem
  · simp
  · intro i h1 h2
    simp at h1
    simp [h1]
theorem run_grow {T : Int} : ∀ {S : List Stp} {N M : List Int} {i : Nat}, Up N → (∀ s ∈ S, goodS s = true) → Top T S → runR N i S = .inl M → (M.length : Int) = N.length + gr T S
  | [], N, M, i, _, _, _, e => by
    have e' : (Sum.inl N : List Int ⊕ Nat) = .inl M := e
    cases e'
    show (N.length : Int) = N.length + 0
    omega
  | s :: S, N, M, i, u, g, tp, e => by
    simp only [runR] at e
    cases h : stepR N s with
    | none => rw [h] at e; cases e
    | some N1 =>
      rw [h] at e
      obtain ⟨u1, c1, l1, m1⟩ := step_cnt u (g s List.mem_cons_self) h
      have h1 := run_grow u1 (fun x hx => g x (List.mem_cons_of_mem _ hx)) (fun x hx => tp x (List.mem_cons_of_mem _ hx)) e
      show (M.length : Int) = N.length + (gr1 T s + gr T S)
      have : gr1 T s = if s.1 = true then 1 else -1 := by
        unfold gr1
        obtain ⟨b, k⟩ := s
        cases b with
        | true =>
          have := tp k List.mem_cons_self
          simp only [if_true]
          rw [if_pos this]
        | false => rfl
      omega
theorem run_len {S : List Stp} {N M : List Int} {i : Nat} (u : Up N) (g : ∀ s ∈ S, goodS s = true) (e : runR N i S = .inl M) : (M.length : Int) = N.length + grow S := run_grow u g (top_top S) e
/-! ### numbers renamed in order -/
def ren (f : Int → Int) (s : Stp) : Stp := if s.1 = true then (true, f s.2) else s
def Mono (f : Int → Int) : Prop := ∀ a b, a ≤ b → f a ≤ f b
theorem srt_map {f : Int → Int} (m : Mono f) (L : List Int) : (srt L).map f = srt (L.map f) :=
  srt_of ((srt_perm L).map f) (List.pairwise_map.mpr ((srt_up L).imp fun h => m _ _ h))
theorem srt_eq {L M : List Int} (p : L.Perm M) : srt L = srt M := srt_of ((srt_perm L).trans p) (srt_up L)
theorem srt_self {L : List Int} (u : Up L) : srt L = L := (srt_of (List.Perm.refl L) u).symm
theorem srt_srt (L : List Int) : srt (srt L) = srt L := srt_self (srt_up L)
theorem step_map {f : Int → Int} (m : Mono f) (L : List Int) (s : Stp) : stepR (L.map f) (ren f s) = (stepR L s).map (List.map f) := by
  obtain ⟨b, k⟩ := s
  cases b with
  | true =>
    show some (srt (L.map f ++ [f k])) = some ((srt (L ++ [k])).map f)
    rw [srt_map m, List.map_append]
    rfl
  | false =>
    show stepR (L.map f) (false, k) = _
    simp only [stepR, List.length_map]
    by_cases c : (L.length : Int) < k
    · rw [if_pos c, if_pos c]; rfl
    · rw [if_neg c, if_neg c]
      simp
theorem run_map {f : Int → Int} (m : Mono f) : ∀ (S : List Stp) (L : List Int) (i : Nat), runR (L.map f) i (S.map (ren f)) = Sum.map (List.map f) id (runR L i S)
  | [], L, i => rfl
  | s :: S, L, i => by
    simp only [runR, List.map_cons, step_map m]
    cases h : stepR L s with
    | none => rfl
    | some M => exact run_map m S M (i + 1)
/-! ### a smaller list has smaller results -/
theorem smp1_mono (t : Int) (s : Stp) {c d : Int} (h : c ≤ d) : smp1 t c s ≤ smp1 t d s := by
  unfold smp1
  split
  · split <;> omega
  · split <;> split <;> omega
theorem smp_mono (t : Int) : ∀ (S : List Stp) {c d : Int}, c ≤ d → smp t S c ≤ smp t S d
  | [], c, d, h => h
  | s :: S, c, d, h => smp_mono t S (smp1_mono t s h)
theorem cnt_ge_get {B : List Int} (u : Up B) {i : Nat} (h : i < B.length) : (i : Int) + 1 ≤ cnt B B[i] := by
  have e : cnt B B[i] = cnt (B.take (i + 1)) B[i] + cnt (B.drop (i + 1)) B[i] := by rw [← cnt_append, List.take_append_drop]
  have e2 : cnt (B.take (i + 1)) B[i] = (B.take (i + 1)).length := cnt_all fun x hx => by
    obtain ⟨j, hj, rfl⟩ := List.mem_iff_getElem.mp hx
    rw [List.length_take] at hj
    rw [List.getElem_take]
    rcases Nat.lt_or_ge j i with c | c
    · exact List.pairwise_iff_getElem.mp u j i (by omega) h c
    · have : j = i := by omega
      subst this
      exact Int.le_refl _
  have := cnt_nn (B.drop (i + 1)) B[i]
  rw [List.length_take] at e2
  omega
theorem cnt_lt_get {A : List Int} (u : Up A) {i : Nat} (h : i < A.length) {t : Int} (ht : t < A[i]) : cnt A t ≤ i := by
  have e : cnt A t = cnt (A.take i) t + cnt (A.drop i) t := by rw [← cnt_append, List.take_append_drop]
  have e2 : cnt (A.drop i) t = 0 := cnt_zero fun x hx => by
    obtain ⟨j, hj, rfl⟩ := List.mem_iff_getElem.mp hx
    rw [List.length_drop] at hj
    rw [List.getElem_drop]
    rcases Nat.eq_zero_or_pos j with c | c
    · subst c; exact ht
    · have := List.pairwise_iff_getElem.mp u i (i + j) h (by omega) (by omega)
      omega
  have := cnt_le_len (A.take i) t
  rw [List.length_take] at this
  omega
theorem dom_get {A B : List Int} (u : Up A) (v : Up B) (h : ∀ t, cnt B t ≤ cnt A t) {i : Nat} (hi : i < A.length) (hj : i < B.length) : A[i] ≤ B[i] := by
  by_cases c : B[i] < A[i]
  · have h1 := cnt_ge_get v hj
    have h2 := cnt_lt_get u hi c
    have h3 := h B[i]
    omega
  · omega
theorem cnt_pair {A B : List Int} (hl : A.length = B.length) (h : ∀ (i : Nat) (p : i < A.length) (q : i < B.length), A[i] ≤ B[i]) (t : Int) : cnt B t ≤ cnt A t := by
  induction A generalizing B with
  | nil =>
    cases B with
    | nil => exact Int.le_refl _
    | cons b B => cases hl
  | cons x A ih =>
    cases B with
    | nil => cases hl
    | cons b B =>
      rw [cnt_cons, cnt_cons]
      have h0 := h 0 (by simp) (by simp)
      have h1 := ih (B := B) (by simpa using hl) fun i p q => by
        have := h (i + 1) (Nat.succ_lt_succ p) (Nat.succ_lt_succ q)
        rw [List.getElem_cons_succ, List.getElem_cons_succ] at this
        exact this
      have h0' : x ≤ b := h0
      by_cases c : b ≤ t
      · rw [if_pos c, if_pos (by omega)]; omega
      · rw [if_neg c]; split <;> omega
theorem run_dom {S : List Stp} {A B C D : List Int} {i j : Nat} (g : ∀ s ∈ S, goodS s = true) (h : ∀ t, cnt B t ≤ cnt A t) (e1 : runR (srt A) i S = .inl C) (e2 : runR (srt B) j S = .inl D) : ∀ (k : Nat) (p : k < C.length) (q : k < D.length), C[k] ≤ D[k] := by
  obtain ⟨u1, c1, _⟩ := run_cnt (srt_up A) g e1
  obtain ⟨u2, c2, _⟩ := run_cnt (srt_up B) g e2
  exact fun k p q => dom_get u1 u2 (fun t => by rw [c1, c2]; exact smp_mono t S (by rw [cnt_srt, cnt_srt]; exact h t)) p q
/-! ### one more element beyond all others -/
theorem srt_big {K : Int} (L : List Int) (h : ∀ x ∈ L, x ≤ K) : srt (L ++ [K]) = srt L ++ [K] := by
  refine (srt_of ((List.Perm.append_right [K] (srt_perm L))) ?_).symm
  refine List.pairwise_append.mpr ⟨srt_up L, List.pairwise_singleton _ _, fun a ha b hb => ?_⟩
  rw [List.mem_singleton.mp hb]
  exact h a ((srt_perm L).mem_iff.mp ha)
theorem run_big {K : Int} : ∀ {S : List Stp} {L M : List Int} {i : Nat}, (∀ x ∈ L, x ≤ K) → (∀ s ∈ S, goodS s = true) → (∀ s ∈ S, s.1 = true → s.2 ≤ K) → runR L i S = .inl M → runR (L ++ [K]) i S = .inl (M ++ [K])
  | [], L, M, i, _, _, _, e => by
    have e' : (Sum.inl L : List Int ⊕ Nat) = .inl M := e
    cases e'
    rfl
  | (b, k) :: S, L, M, i, h, g, hk, e => by
    simp only [runR] at e ⊢
    cases b with
    | true =>
      have hkk : k ≤ K := hk (true, k) List.mem_cons_self rfl
      have e1 : stepR (L ++ [K]) (true, k) = some (srt (L ++ [k]) ++ [K]) := by
        show some (srt (L ++ [K] ++ [k])) = _
        rw [← srt_big (L ++ [k]) fun x hx => (List.mem_append.mp hx).elim (h x) fun z => by rw [List.mem_singleton.mp z]; exact hkk]
        congr 1
        refine srt_eq ?_
        rw [List.append_assoc, List.append_assoc]
        exact List.Perm.append_left L (List.perm_append_comm (l₁ := [K]) (l₂ := [k]))
      rw [e1]
      have e2 : stepR L (true, k) = some (srt (L ++ [k])) := rfl
      rw [e2] at e
      exact run_big (fun x hx => (List.mem_append.mp ((srt_perm _).mem_iff.mp hx)).elim (h x) fun z => by rw [List.mem_singleton.mp z]; exact hkk) (fun s hs => g s (List.mem_cons_of_mem _ hs)) (fun s hs => hk s (List.mem_cons_of_mem _ hs)) e
    | false =>
      have gk : 0 < k := by simpa [goodS] using g (false, k) List.mem_cons_self
      by_cases c : (L.length : Int) < k
      · have e2 : stepR L (false, k) = none := by simp only [stepR]; rw [if_pos c]
        rw [e2] at e
        cases e
      · have e2 : stepR L (false, k) = some (L.take (k - 1).toNat ++ L.drop k.toNat) := by simp only [stepR]; rw [if_neg c]
        have e3 : stepR (L ++ [K]) (false, k) = some (L.take (k - 1).toNat ++ L.drop k.toNat ++ [K]) := by
          simp only [stepR]
          rw [if_neg (by rw [List.length_append, List.length_singleton]; omega), List.take_append_of_le_length (by omega), List.drop_append_of_le_length (by omega), List.append_assoc]
        rw [e2] at e
        rw [e3]
        exact run_big (fun x hx => (List.mem_append.mp hx).elim (fun z => h x (List.mem_of_mem_take z)) fun z => h x (List.mem_of_mem_drop z)) (fun s hs => g s (List.mem_cons_of_mem _ hs)) (fun s hs => hk s (List.mem_cons_of_mem _ hs)) e
end Eff

/-! sets of ints out of lists; sorted of them, any number -/
namespace XT
open PySem PySem.Spec PyProof.Rows L2
section
variable {P : Program} {w : World} {A : Around} {E : Value → Shared → Prop} {s : Shared}
/-- a new set's object -/
abbrev nS (w : World) : Obj := { cls := .type "set", dict := none, data := .set #[] 0 (.fresh 0 0 (!w.params.followText "set-order")) }
/-- what set.__init__ leaves -/
def InitS (w : World) (s : Shared) (ns : List Int) (s2 : Shared) : Prop := ∃ (h' : Heap) (tk c : Nat), s2 = { s with heap := h', toks := tk } ∧ SetR w h' s.heap.objs.size (fun j => decide (j ∈ ns)) c ∧ c ≤ ns.length ∧ ∀ b o, s.heap.get? b = some o → h'.get? b = some o
theorem init_list {l : Addr} {its : Array Value} {ns : List Int} (hA : A.handled = none) (hl : s.heap.IsList l its) (hi : IntsAre its.toList ns) (hb : ns.length + 1 < scanBound) :
    codeAny (model P w) A (.call (.builtin "set.__init__") ⟨[.ref s.heap.objs.size, .ref l], []⟩) (wants (fun r s2 => r = .none ∧ InitS w s ns s2) E) { s with heap := s.heap.push (nS w) } := by
  have nit : its.size = ns.length := by have q := IntsAre.length hi; rwa [Array.length_toList] at q
  have gS : (s.heap.push (nS w)).get? s.heap.objs.size = some (nS w) := Heap.get?_push_size _ rfl
  have tS : Shared.TypeIs { s with heap := s.heap.push (nS w) } (.ref s.heap.objs.size) "set" := ⟨_, gS, rfl⟩
  refine codeAny_call_builtin F.called_set.init.plain F.entry_set_init (check_set_init_1 tS ?_)
  obtain ⟨⟨c1, d1, w1, k1⟩, ho, hc, n1, hd⟩ := hl
  simp only at hc hd
  subst hc
  subst hd
  have lS : l < s.heap.objs.size := Heap.lt_size ho
  have gL : (s.heap.push (nS w)).get? l = some { cls := .type "list", dict := d1, data := .seq its n1, slots := k1 } := Heap.get?_push_of_some _ ho
  have f1 := F.sub_list_set
  have f2 := F.sub_list_frozenset
  have f3 : (Value.type "list" == Value.type "dict") = false := by decide
  have iL : (s.heap.push (nS w)).IsList l its := ⟨_, gL, rfl, n1, rfl⟩
  unfold Builtin.«set.__init__» noKeywords Builtin.Frozenset.updateFrom
  generalize hPI : pyIter = PI
  wp_walk
  subst hPI
  refine wpAny_pyIter_list iL (wpAny_bind (wpAny_runValue ?_))
  have zS : (s.heap.push (nS w)).objs.size = s.heap.objs.size + 1 := Heap.size_push ..
  have nIt : l ≠ (s.heap.push (nS w)).objs.size := Nat.ne_of_lt (by rw [zS]; exact Nat.lt_succ_of_lt lS)
  have nfp : s.heap.objs.size ∉ [(s.heap.push (nS w)).objs.size, l] := by
    simp only [List.mem_cons, List.not_mem_nil, or_false, not_or]
    exact ⟨Nat.ne_of_lt (by rw [zS]; exact Nat.lt_succ_self _), Nat.ne_of_gt lS⟩
  have val : ∀ (i : Nat) (v : Value), its[i]? = some v → ∃ k t, ns[i]? = some k ∧ v = .int k t := fun i v hv => by
    have lt : i < ns.length := by rw [← nit]; exact (Array.getElem?_eq_some_iff.mp hv).1
    obtain ⟨t, e⟩ := PyProof.Rows.IntsAre.int_at hi i v (by rw [Array.getElem?_toList]; exact hv)
    exact ⟨ns[i], t, List.getElem?_eq_getElem lt, by rw [e, List.getD_eq_getElem?_getD, List.getElem?_eq_getElem lt] <;> rfl⟩
  refine set_update_ints ((Walks.list (by simp [hA]) _ l nIt its).toS) s.heap.objs.size nfp ns nit hb val (its.size - 0) 0 _ (by omega) (Nat.zero_le _) ⟨⟨_, Heap.get?_push_size _ rfl, rfl, rfl⟩, (iL.push _)⟩
    ⟨0, Nat.le_refl 0, setR_new_at (Heap.get?_push_of_some _ gS)⟩ fun s' c mv hc' R => ?_
  obtain ⟨h', gn, dr, tk, os⟩ := s'
  cases (show gn = s.gens from mv.gens)
  cases (show dr = s.drawn from mv.drawn)
  cases (show os = s.os from mv.os)
  show wpAny _ _ _ _ _ _
  refine wpAny_pure ?_
  show wpAny _ _ (ret Value.none) _ _ _
  rw [nit] at hc'
  refine wpAny_pure ⟨rfl, h', tk, c, rfl, R, hc', fun b o e => ?_⟩
  have lb : b < s.heap.objs.size := Heap.lt_size e
  refine mv.heap b o ?_ (Heap.get?_push_of_some _ (Heap.get?_push_of_some _ e))
  simp only [List.mem_cons, List.not_mem_nil, or_false, not_or]
  exact ⟨Nat.ne_of_lt lb, Nat.ne_of_lt (by rw [zS]; exact Nat.lt_succ_of_lt lb)⟩
theorem call_setL {l : Addr} {its : Array Value} {ns : List Int} {Q : Value → Shared → Prop} (hA : A.handled = none) (hl : s.heap.IsList l its) (hi : IntsAre its.toList ns) (hb : ns.length + 1 < scanBound)
    (h : ∀ (h' : Heap) (tk c : Nat), SetR w h' s.heap.objs.size (fun j => decide (j ∈ ns)) c → c ≤ ns.length → (∀ b o, s.heap.get? b = some o → h'.get? b = some o) → Q (.ref s.heap.objs.size) { s with heap := h', toks := tk }) :
    wpAny (model P w) A (call (.type "set") [.ref l]) Q E s := by
  obtain ⟨c, tl, m1⟩ := F.called_set.mro
  have m2 := F.called_set.made
  have m3 := F.called_set.sub
  have m4 := F.called_set.notType
  have m5 := F.called_set.canCreate
  have m6 := F.typeCall_set_1 (.ref l)
  refine wpAny_call (codeAny_of_tree ?_)
  show wpAny _ _ (callAny (.type "set") _) _ _ _
  refine wpAny_pure ⟨Code.quiet_builtin _ (by decide +kernel), codeAny_builtin F.entry_type_call ?_⟩
  rw [Around.under_plain (weight_type_call_type "set" [.ref l] []) rfl]
  repeat (any_goals (first | assumption | wp_step))
  refine codeAny_mono (code_set_led1 (.ref l) (E := E) (Q₁ := fun obj s1 => obj = .ref s.heap.objs.size ∧ s1 = { s with heap := s.heap.push (nS w) }) ⟨rfl, rfl⟩) fun r s1 hr => ?_
  match r, hr with
  | .error e, hr => exact hr
  | .ok (.ret obj), hr =>
    obtain ⟨rfl, rfl⟩ := hr
    have gS : (s.heap.push (nS w)).get? s.heap.objs.size = some (nS w) := Heap.get?_push_size _ rfl
    have tS : Shared.TypeIs { s with heap := s.heap.push (nS w) } (.ref s.heap.objs.size) "set" := ⟨_, gS, rfl⟩
    have i1 := F.called_set.init.lookup
    have i2 := F.called_set.init.bind (.ref s.heap.objs.size)
    repeat (any_goals (first | assumption | wp_step))
    refine codeAny_mono (init_list (E := E) (by simpa using hA) hl hi hb) fun r2 s2 hr2 => ?_
    match r2, hr2 with
    | .error e, hr2 => exact hr2
    | .ok (.ret r), hr2 =>
      obtain ⟨rfl, h', tk, c', rfl, R, hc, hk⟩ := hr2
      repeat (any_goals (first | assumption | wp_step))
      exact h _ _ _ R hc hk
    | .ok .next, hr2 => exact False.elim hr2
    | .ok .brk, hr2 => exact False.elim hr2
    | .ok .cont, hr2 => exact False.elim hr2
  | .ok .next, hr => exact False.elim hr
  | .ok .brk, hr => exact False.elim hr
  | .ok .cont, hr => exact False.elim hr
/-- sorted of a set of ints -/
theorem sorted_setA {a : Addr} {S : Int → Bool} {n : Nat} {Q : Value → Shared → Prop} (R : SetR w s.heap a S n) (hA : A.handled = none)
    (hQ : ∀ s' p (out : List Value) (c : Nat) (ns : List Int), (∀ b o, s.heap.get? b = some o → s'.heap.get? b = some o) → s'.gens = s.gens → s'.os = s.os → s.heap.objs.size ≤ p →
      s'.heap.get? p = some (seqObj "list" out.toArray c) → IntsAre out ns → ns.Pairwise (· < ·) → (∀ k, k ∈ ns ↔ S k = true) → ns.length = n → Q (.ref p) s') :
    wpAny (model P w) A (call (.builtin "sorted") [.ref a]) Q E s := by
  obtain ⟨o, es, ep, t, ho, ex, hd, g, nd, hm, hb, hf, hn, hr, hl⟩ := R
  refine Calls.call_function_entry kind_sorted plain_sorted entry_sorted (args_sorted1 _) ?_
  unfold Builtin.«sorted»
  refine wpAny_bind (m := checkCount "sorted" 1 1 _) (wpAny_pure (wpAny_bind ?_))
  refine collect_set (A := A.in1) hA ⟨o, ho, ex.1, hd⟩ hf hb hr hl fun s1 vs k1 hz g1 o1 pm => ?_
  have nv : vs.length = n := by rw [pm.length_eq, List.length_map, Array.length_toList]; exact hn
  have iI : IntsAre vs (vs.map SrtO.iv) := SrtO.ints_iv fun v hv => by
    obtain ⟨e, he, q⟩ := List.mem_map.mp (pm.mem_iff.mp hv)
    obtain ⟨k, tk, h1, _⟩ := g e he
    exact ⟨k, tk, by rw [← q]; exact h1⟩
  have pk : (vs.map SrtO.iv).Perm (es.toList.map keyOf) := by
    have q := pm.map SrtO.iv
    rw [List.map_map] at q
    have e : es.toList.map (SrtO.iv ∘ (·.2)) = es.toList.map keyOf := List.map_congr_left fun x hx => by
      obtain ⟨k, tk, h1, _⟩ := g x hx
      show SrtO.iv x.2 = keyOf x
      unfold keyOf
      rw [h1]
      rfl
    rw [← e]
    exact q
  have sz : vs.length ≤ sizeLine := by rw [nv, ← hn, sizeLine_eq]; unfold scanBound at hb; omega
  refine wpAny_bind (wpAny_newList ?_ sz)
  have oL : (s1.heap.push (seqObj "list" vs.toArray 0)).get? s1.heap.objs.size = some (seqObj "list" vs.toArray 0) := Heap.get?_push_size _ rfl
  refine wpAny_bind (wpAny_holding (wpAny_call_entry slot_list_sort ⟨_, oL, rfl⟩ entry_list_sort
    (SrtO.list_sort_ord SrtO.swo_int oL sz (fun h2 => SrtO.ints_sortable iI h2) fun out h1 h2 => ⟨_, rfl, ?_⟩) (args_list_sort _)))
  obtain ⟨q1, q2, q3⟩ := SrtO.ints_out iI h1 h2
  obtain ⟨c, hc⟩ := sortedHeap_at (vs := vs) (out := out.toArray) oL
  have pn : (out.map SrtO.iv).Perm (es.toList.map keyOf) := q2.trans pk
  refine wpAny_pure ⟨_, rfl, hQ _ s1.heap.objs.size out c (out.map SrtO.iv) (fun b u e => ?_) g1 o1 hz hc q1 (lt_of_le_nodup _ q3 (pn.nodup_iff.mpr nd)) (fun k => by rw [pn.mem_iff, ← hm k]) ?_⟩
  · have q := k1 b u e
    have lt := Heap.lt_size q
    show (sortedHeap (s1.heap.push (seqObj "list" vs.toArray 0)) s1.heap.objs.size vs out.toArray).get? b = some u
    rw [sortedHeap_old (Nat.ne_of_lt lt) (by rw [size_push']; exact Nat.lt_succ_of_lt lt)]
    exact Heap.get?_push_of_some _ q
  · rw [pn.length_eq, List.length_map, Array.length_toList]; exact hn
end
end XT

namespace XT
open PySem PySem.Spec PyProof.Rows L2
/-! ### set(xs), sorted(set(xs)) -/
section
variable {X : Cx}
def rSetL (K : PySem.W.Frag) (w : World) : List V → Hp → VK → Prop := fun xs H Q => ∃ (l : Addr) (ns : List Int), xs = [V.ref l] ∧ SqL K H l (ns.map V.int) ∧ ns.length ≤ 4000 ∧
  ∀ (p : Addr) (n : Nat), H p = Option.none → n ≤ ns.length → Q (.ref p) (upd H p (SetO w p (fun j => decide (j ∈ ns)) n))
theorem setLK (K : PySem.W.Frag) (w : World) (hc : X.calm = true) (hK : X.K = K := by rfl) (hw : X.w = w := by rfl) : CallR X (.type "set") (rSetL K w) := by
  subst hK
  subst hw
  intro pins s σ H xs us Q I r h
  obtain ⟨l, ns, rfl, hs, hz, q⟩ := h
  rw [Vals.ref1 r]
  obtain ⟨its, rv, hl, _⟩ := I.list hs
  refine call_setL (I.ok.hd hc) hl.isList rv.ints (by unfold scanBound; omega) fun h' tk c R hcn hk => ?_
  exact ⟨.ref _, upd H s.heap.objs.size (SetO X.w s.heap.objs.size (fun j => decide (j ∈ ns)) c), I.laid (t' := tk) hk (Nat.le_refl _) (setO_new R), rfl, q _ _ (I.hok.fresh (Nat.le_refl _)) hcn⟩
def rSortS (w : World) : List V → Hp → VK → Prop := fun vs H Q => ∃ (a : Addr) (S : Int → Bool) (n : Nat), vs = [V.ref a] ∧ H a = some (SetO w a S n) ∧ n ≤ 4000 ∧
  ∀ (ns : List Int) (p : Addr), ns.Pairwise (· < ·) → (∀ k : Int, k ∈ ns ↔ S k = true) → ns.length = n → H p = Option.none → Q (.ref p) (upd H p (.lst (ns.map V.int)))
theorem sortSK (w : World) (hc : X.calm = true) (hw : X.w = w := by rfl) : CallR X (.builtin "sorted") (rSortS w) := by
  subst hw
  intro pins s σ H vs us Q I r h
  obtain ⟨a, S, n, rfl, ha, hz, q⟩ := h
  have R := setO_get I ha
  rw [Vals.ref1 r]
  refine sorted_setA R (I.ok.hd hc) fun s' p out c ns k g o hp hg hi hs hm hl => ?_
  have hlen : (ns.map V.int).length ≤ sizeLine := by rw [List.length_map, hl, sizeLine_eq]; omega
  have hn : H p = Option.none := I.hok.fresh hp
  have J : Inv X pins σ (upd H p (.lst (ns.map V.int))) { s with heap := s'.heap, gens := s'.gens, drawn := s'.drawn, toks := s'.toks } :=
    I.call (ch := []) (Un.laid k hp hn) (I.hok.laid k hp ⟨hlen, out, c, vals_of_ints hi, hg⟩) (by rw [g]; exact I.bare) (fun _ z => nomatch z)
  have e : s' = { s with heap := s'.heap, gens := s'.gens, drawn := s'.drawn, toks := s'.toks } := by
    cases s'
    cases s
    cases o
    rfl
  rw [e]
  exact ⟨.ref p, _, J, rfl, q ns p hs hm hl hn⟩
/-! ### type(x) == C -/
theorem op_eqCls {C : Addr} (ht : PySem.W.typeIn X.K (.ref C) = some (.type "type")) (hu : X.A.units < cLine) : OpR X (compareOp .Eq) (fun x y H Q => x = V.ref C ∧ y = V.ref C ∧ Q (.bl true) H) := by
  intro pins s σ H x y v u Q I rx ry h
  obtain ⟨rfl, rfl, q⟩ := h
  cases rx
  cases ry
  obtain ⟨o, ho, hc⟩ := Option.map_eq_some_iff.mp ht
  have ta : s.TypeIs (.ref C) "type" := ⟨o, I.kIn _ _ ho, hc⟩
  show wpAny _ _ (richCompare .Eq _ _) _ _ _
  refine wpAny_richCompare_same_room (op := .Eq) ta ta TypeEq.slot_type_eq (GQ.call_here TypeEq.slot_type_eq ta PySem.F.cmpEntry_eq (PySem.F.cmpArgs_eq _ _) ?_) hu
  exact objEq_entry_same (M := model X.prog X.w) ⟨(fun z => nomatch z), .bl true, H, I, rfl, q⟩
/-! ### class methods without arguments; C(..) where C is in a slot -/
variable {CX : CXT} {k : Nat} {C p g f : Addr} {mc : Value} {sp : Sp} {E : XK} {o e : Expr} {es : List Expr} {m x : Str} {pos apos : Pos} {ta : TE} {t : TA} {pl : Sem Bool}
theorem pe_cmeth0 (he : PE X o ta) (r : ClX.CRead X.K C mc) (c : ClX.CMet X.K C mc m p g) (F : FnR X.prog X.w X.K X.mg X.base CX k g sp) (hr : Room k X.A) (hx : Passes CX X E)
    (ht : eval (.Call (.Attribute o m apos) [] [] pos) X.env = (do
      let ov ← eval o X.env
      standAt apos.atName
      let (f, first) ← holding [ov] (getMethod ov m pl)
      callWith pos f first (backTo pos (starEach [] X.env)) (backToKw pos (keywordEach [] X.env))) := by rfl) :
    PE X (.Call (.Attribute o m apos) [] [] pos) (ClX.tCMeth C sp E ta tNil) := by
  refine ⟨fun pins s σ H Q I h => ?_⟩
  refine PySem.W.methodCall_KW (pl := pl) (thn (he.run pins s σ H _ I h) fun u s1 ⟨x, H1, I1, rx, ex, q⟩ => ?_) ht
  subst ex
  obtain rfl : u = Value.ref C := rx
  refine ClX.getmethcm_ok I1 r c fun s2 I2 => PySem.W.callWith_M0 (first := []) ⟨ClX.pin_at I2, I2.kIn⟩ c.fi ?_
  exact ClX.run_cm F hr hx I2 .nil q
theorem pe_imeth0 (he : PE X o ta) (c : ClX.CInst X.K C m p g) (F : FnR X.prog X.w X.K X.mg X.base CX k g sp) (hr : Room k X.A) (hx : Passes CX X E)
    (ht : eval (.Call (.Attribute o m apos) [] [] pos) X.env = (do
      let ov ← eval o X.env
      standAt apos.atName
      let (f, first) ← holding [ov] (getMethod ov m pl)
      callWith pos f first (backTo pos (starEach [] X.env)) (backToKw pos (keywordEach [] X.env))) := by rfl) :
    PE X (.Call (.Attribute o m apos) [] [] pos) (ClX.tIMethD C m sp E ta tNil) := by
  refine ⟨fun pins s σ H Q I h => ?_⟩
  refine PySem.W.methodCall_KW (pl := pl) (thn (he.run pins s σ H _ I h) fun u s1 ⟨x, H1, I1, rx, a, dx, fs, ex, ea, l, q⟩ => ?_) ht
  subst ex
  obtain rfl : u = Value.ref a := rx
  obtain ⟨mA, O, rr, _, _, _⟩ := ins_get I1.hok ea
  have hn : mA m = none := RelO.none_of (by rw [← l]; exact rr m)
  obtain ⟨od, J, hl⟩ := O.look
  refine ClX.getmethim_ok I1 J (by rw [hl m, hn]) c fun s2 I2 => PySem.W.callWith_M0 (first := []) ⟨ClX.pin_at I2, I2.kIn⟩ c.fi ?_
  exact ClX.run_cm F hr hx I2 .nil q
def tMakeL (i : Nat) (C : Addr) (sp : Sp) (E : XK) (t : TA) : TE := fun σ H Q => σ[i]? = some (some (.ref C)) ∧ StX.tMakeR C sp E t σ H Q
theorem pe_makeL {i : Nat} {p : Pos} (M : Mk X.K C f) (F : FnR X.prog X.w X.K X.mg X.base CX k f sp) (hr : Room (k + 1) X.A) (hN : X.N[i]? = some x) (hv : Vis X.env.scope x) (hx : Passes CX X E) (ha : PA X (e :: es) t)
    (hdb : (x == ("__debug__" : Str)) = false := by decide) (hcd : (x == ("__classdict__" : Str)) = false := by decide)
    (he : starEach (e :: es) X.env = (false, eval e X.env) :: starEach es X.env := by rfl) (hpl : (backTo pos (starEach es X.env)).any (·.1) = false := by rfl) : PE X (.Call (.Name x p) (e :: es) [] pos) (tMakeL i C sp E t) := by
  refine ⟨fun pins s σ H Q I h => ?_⟩
  obtain ⟨hs, ht⟩ := h
  refine wpAny_Call_Name_kw (thn ((pe_var (pos := p) hN hv hdb hcd).run pins s σ H (fun v H1 => v = .ref C ∧ H1 = H) I ⟨.ref C, hs, rfl, rfl⟩) fun u s1 ⟨v, H1, I1, r1, q1⟩ => ?_)
  obtain ⟨rfl, rfl⟩ := q1
  cases r1
  refine PySem.W.callWith_K (h₀ := X.base) I.ok.mod.kin M.kp (thn (ha.run pos pins s1 σ _ _ I1 ht) fun us s2 ⟨vs, H2, I2, r, q⟩ => ⟨I2.kIn, ?_⟩) he hpl
  exact StX.run_makeR M F hr hx I2 r q
/-! ### type(x) not in (list, tuple) -/
theorem op_notInTy : OpR X (compareOp .NotIn) (fun x y H Q => ∃ (m : String) (p : Addr) (ns : List String), x = .ty m ∧ y = .ref p ∧ SqT X.K H p (ns.map V.ty) ∧ tyN m = true ∧ (∀ n ∈ ns, tyN n = true) ∧ Q (.bl (!(ns.any fun n => decide (n = m)))) H) := by
  intro pins s σ H x y v u Q I rx ry h
  obtain ⟨m, p, ns, rfl, rfl, hq, hm, hn, q⟩ := h
  cases (show v = Value.type m from rx)
  cases (show u = Value.ref p from ry)
  obtain ⟨its, r, pl, hz⟩ := I.tuple hq
  have key : ∀ (ns : List String) (its : List Value), Vals (ns.map V.ty) its → its = ns.map Value.type := by
    intro ns
    induction ns with
    | nil => intro its r; cases r; rfl
    | cons n ns ih =>
      intro its r
      cases r with
      | cons a t =>
        rw [ih _ t, List.map_cons]
        congr 1
  have e := key ns its r
  subst e
  refine SeqAt.notIn_tupleAt (tyU m) pl (fun w hw => ?_) ⟨.bl _, H, I, rfl, ?_⟩
  · have hw' : w ∈ ns.map Value.type := by simpa using hw
    obtain ⟨n, hmem, rfl⟩ := List.mem_map.mp hw'
    exact eqAt_ty (hn n hmem) hm
  · have e2 : ((ns.map Value.type).toArray.any (tyU m)) = ns.any fun n => decide (n = m) := by
      rw [List.any_toArray, List.any_map]
      rfl
    rw [e2]
    exact q
end
section
variable {X : Cx} (K : PySem.W.Frag)
theorem notInTyK (hK : X.K = K := by rfl) : OpR X (compareOp .NotIn) (fun x y H Q => ∃ (m : String) (p : Addr) (ns : List String), x = .ty m ∧ y = .ref p ∧ SqT K H p (ns.map V.ty) ∧ tyN m = true ∧ (∀ n ∈ ns, tyN n = true) ∧ Q (.bl (!(ns.any fun n => decide (n = m)))) H) := by subst hK; exact op_notInTy
end
/-! ### a comprehension whose items are made anew -/
theorem lcR {J : It} {n : Nat} {P : Nat → V → Hp → Prop} {g : TG} {te : TE} {vs : List Nat} {σ : L2.St} {H1 : Hp} {D : Addr} {Qd : Hp → Prop} (S : StatJ J H1 n P) (hD : H1 D = Option.none) (R : Nat → V → Hp → Prop) (hR : ∀ i y H H', Same H H' → R i y H → R i y H') (hU : ∀ i y H a b, H D = some (.lst a) → R i y H → R i y (upd H D (.lst b))) (hn : n ≤ sizeLine)
    (hs : ∀ i x H (T : V → Hp → Prop), i < n → Same H1 H → P i x H → (∀ y H', Same H H' → R i y H' → T y H') → g x (wipe σ vs) H fun σ2 H2 => wipe σ2 vs = wipe σ vs ∧ te σ2 H2 T)
    (hd : ∀ H acc, Same H1 H → acc.length = n → (∀ i y, acc[i]? = some y → R i y H) → H D = some (.lst acc) → Qd H) :
    ∃ W : Nat → Nat → Hp → Prop, (∃ m, W 0 m (upd H1 D (.lst []))) ∧ ∀ i m H, W i m H →
      (J.stop i H ∧ Qd H) ∨ (J.go i H ∧ ∃ Nx : Hp → Prop, (∀ H', Nx H' → ∃ m', m' < m ∧ W (i + 1) m' H') ∧ ∀ x H', J.yld i H x H' → g x (wipe σ vs) H' fun σ2 H2 => wipe σ2 vs = wipe σ vs ∧ tYes σ2 H2 fun b H3 =>
        if b = true then te σ2 H3 fun y H4 => ∃ acc, H4 D = some (.lst acc) ∧ acc.length < sizeLine ∧ Nx (upd H4 D (.lst (acc ++ [y]))) else Nx H3) := by
  refine ⟨fun i m H => m = n - i ∧ i ≤ n ∧ Same H1 H ∧ ∃ acc, H D = some (.lst acc) ∧ acc.length = i ∧ ∀ j y, acc[j]? = some y → R j y H, ⟨n, by simp, Nat.zero_le _, same_new hD, [], upd_same, rfl, fun j y e => by simp at e⟩, ?_⟩
  rintro i m H ⟨rfl, hi, s, acc, hH, hlen, hacc⟩
  by_cases hlt : i < n
  · refine .inr ⟨S.go i H hlt s, fun H' => Same H1 H' ∧ ∃ acc, H' D = some (.lst acc) ∧ acc.length = i + 1 ∧ ∀ j y, acc[j]? = some y → R j y H', fun H' p => ⟨n - (i + 1), by omega, rfl, hlt, p.1, p.2⟩, fun x H' y => ?_⟩
    obtain ⟨s2, px⟩ := S.yld i H x H' hlt s y
    show g x (wipe σ vs) H' fun σ2 H2 => wipe σ2 vs = wipe σ vs ∧ (if true = true then te σ2 H2 fun y H4 => ∃ acc, H4 D = some (.lst acc) ∧ acc.length < sizeLine ∧ (Same H1 (upd H4 D (.lst (acc ++ [y]))) ∧ ∃ acc', (upd H4 D (.lst (acc ++ [y]))) D = some (.lst acc') ∧ acc'.length = i + 1 ∧ ∀ j y', acc'[j]? = some y' → R j y' (upd H4 D (.lst (acc ++ [y])))) else (Same H1 H2 ∧ ∃ acc', H2 D = some (.lst acc') ∧ acc'.length = i + 1 ∧ ∀ j y', acc'[j]? = some y' → R j y' H2))
    simp only [if_true]
    refine hs i x H' _ hlt (s.trans s2) px fun y H4 s4 ry => ?_
    have h4 : H4 D = some (.lst acc) := s4 _ _ (s2 _ _ hH)
    have s14 : Same H1 H4 := (s.trans s2).trans s4
    have sl : acc.length < sizeLine := by rw [hlen]; exact Nat.lt_of_lt_of_le hlt hn
    refine ⟨acc, h4, sl, same_upd s14 hD, acc ++ [y], upd_same, by rw [List.length_append, hlen]; rfl, fun j y' e => ?_⟩
    refine hU _ _ _ _ _ h4 ?_
    by_cases c : j < acc.length
    · rw [List.getElem?_append_left c] at e
      exact hR _ _ _ _ (s2.trans s4) (hacc j y' e)
    · rw [List.getElem?_append_right (by omega)] at e
      have hj : j - acc.length = 0 := by
        rcases Nat.eq_zero_or_pos (j - acc.length) with z | z
        · exact z
        · rw [List.getElem?_eq_none (by rw [List.length_singleton]; omega)] at e
          cases e
      rw [hj] at e
      have e' : y = y' := by simpa using e
      subst e'
      have : j = i := by omega
      rw [this]
      exact ry
  · have e : i = n := by omega
    subst e
    exact .inl ⟨S.stop H s, hd H acc s hlen hacc hH⟩
end XT

namespace XT
open PySem PySem.Spec PyProof.Rows L2
/-! ### calls in a try whose wishes are told at the caller's slots -/
section
variable {X : Cx} {CX : CXT} {k : Nat} {C f g : Addr} {m x : Str} {sp : Sp} {E : L2.St → XK} {o e fe : Expr} {es : List Expr} {ta tf : TE} {t : TA} {p apos pos : Pos} {pl : Sem Bool}
theorem run_fnRS {pins : List (Addr × Obj)} {σ : L2.St} {H : Hp} {s : Shared} {Q : VK} {E : XK} {us : List Value} {vs : List V} (F : FnR X.prog X.w X.K X.mg X.base CX k f sp) (hr : Room k X.A) (hx : PassesAt CX X σ E) (I : Inv X pins σ H s) (r : Vals vs us) (h : sp vs H Q E) :
    codeAny (model X.prog X.w) X.A (.call (.ref f) ⟨us, []⟩) (fun r s' => match r with | .ok (.ret v) => EP X pins σ Q v s' | .ok _ => False | .error e => X.xe e s') s := by
  refine codeAny_mono (F X.A X.stack s H us vs Q E hr I.env0 r h) fun r s' hq => ?_
  match r, hq with
  | .error e, hq => exact hx pins H s e s' I hq
  | .ok (.ret u), hq => exact I.after hq
def tMthS (C : Addr) (m : Str) (sp : Sp) (E : L2.St → XK) (ta : TE) (t : TA) : TE := fun σ H Q => ta σ H fun x H1 => ∃ a dx fs, x = .ref a ∧ H1 a = some (.ins C dx fs) ∧ fs.lookup m = none ∧ t σ H1 fun vs H2 => sp (.ref a :: vs) H2 Q (E σ)
theorem pe_mthS (he : PE X o ta) (c : Cls X.K C) (hm : Meth X.K C m f) (F : FnR X.prog X.w X.K X.mg X.base CX k f sp) (hr : Room k X.A) (hx : ∀ σ, PassesAt CX X σ (E σ)) (ha : PA X (e :: es) t)
    (hst : starEach (e :: es) X.env = (false, eval e X.env) :: starEach es X.env := by rfl) (hpl : (backTo pos (starEach es X.env)).any (·.1) = false := by rfl)
    (ht : eval (.Call (.Attribute o m apos) (e :: es) [] pos) X.env = (do
      let ov ← eval o X.env
      standAt apos.atName
      let (f, first) ← holding [ov] (getMethod ov m pl)
      callWith pos f first (backTo pos (starEach (e :: es) X.env)) (backToKw pos (keywordEach [] X.env))) := by rfl) :
    PE X (.Call (.Attribute o m apos) (e :: es) [] pos) (tMthS C m sp E ta t) := by
  refine ⟨fun pins s σ H Q I h => ?_⟩
  refine PySem.W.methodCall_KW (pl := pl) (thn (he.run pins s σ H _ I h) fun u s1 ⟨x, H1, I1, rx, a, dx, fs, ex, ea, l, q⟩ => ?_) ht
  subst ex
  obtain rfl : u = Value.ref a := rx
  refine getmeth_ok I1 ea c hm l (PySem.W.callWith_K (first := [.ref a]) (h₀ := X.base) I.ok.mod.kin hm.kp (thn (ha.run pos pins s1 σ H1 _ I1 q) fun us s2 ⟨vs, H2, I2, r, q2⟩ => ⟨I2.kIn, ?_⟩) hst hpl)
  exact wpAny_call (run_fnRS (us := .ref a :: us) (vs := .ref a :: vs) F hr (hx σ) I2 (.cons rfl r) q2)
def tCliS (C : Addr) (sp : Sp) (E : L2.St → XK) (tf : TE) (t : TA) : TE := fun σ H Q => tf σ H fun y H1 => ∃ a, y = V.ref a ∧ t σ H1 fun vs H2 => InsA H2 a C ∧ sp (V.ref a :: vs) H2 Q (E σ)
theorem pe_cliS (hf : PE X fe tf) (c : StX.CallO X.K C g) (F : FnR X.prog X.w X.K X.mg X.base CX k g sp) (hr : Room k X.A) (hx : ∀ σ, PassesAt CX X σ (E σ)) (ha : PA X (e :: es) t)
    (ht : eval (.Call fe (e :: es) [] pos) X.env = (do callWith pos (← eval fe X.env) [] (backTo pos (starEach (e :: es) X.env)) (backToKw pos (keywordEach [] X.env))) := by rfl)
    (he : starEach (e :: es) X.env = (false, eval e X.env) :: starEach es X.env := by rfl) (hpl : (backTo pos (starEach es X.env)).any (·.1) = false := by rfl) : PE X (.Call fe (e :: es) [] pos) (tCliS C sp E tf t) := by
  refine ⟨fun pins s σ H Q I h => ?_⟩
  refine Call_ (thn (hf.run pins s σ H _ I h) fun u s1 ⟨y, H1, I1, ry, a, ey, q⟩ => ?_) ht
  subst ey
  obtain rfl : u = Value.ref a := ry
  refine StX.callO_with (thn (ha.run pos pins s1 σ H1 _ I1 q) fun us s2 ⟨vs, H2, I2, r, hi, q2⟩ => ?_) he hpl
  have hi' : StX.InsC X H2 a C := let ⟨dx, fs, h⟩ := hi; .inr ⟨dx, fs, h⟩
  obtain ⟨ox, od, J, hd⟩ := StX.insC_at I2 hi'
  exact ⟨⟨C, ox, od, J, hd⟩, wpAny_call (PySem.W.kco_code I2.kIn J hd c.at_ c.fn c.fi (run_fnRS (us := .ref a :: us) (vs := .ref a :: vs) F hr (hx σ) I2 (.cons rfl r) q2))⟩
/-- f(e, ..), f a global def -/
def tClrS (sp : Sp) (E : L2.St → XK) (t : TA) : TE := fun σ H Q => t σ H fun vs H1 => sp vs H1 Q (E σ)
theorem pe_clrS (F : FnR X.prog X.w X.K X.mg X.base CX k f sp) (hr : Room k X.A) (hg : Gl X x) (hm : X.mg x = some (.ref f)) (hk : PySem.W.keepIn X.K (.ref f) = true) (hx : ∀ σ, PassesAt CX X σ (E σ)) (ha : PA X (e :: es) t) (hd : (x == ("__debug__" : Str)) = false := by decide)
    (he : starEach (e :: es) X.env = (false, eval e X.env) :: starEach es X.env := by rfl) (hst : (backTo pos (starEach es X.env)).any (·.1) = false := by rfl) :
    PE X (.Call (.Name x p) (e :: es) [] pos) (tClrS sp E t) := by
  refine ⟨fun pins s σ H Q I h => ?_⟩
  refine wpAny_Call_Name_kw (ld_glob I hg hm ?_ hd)
  refine PySem.W.callWith_K (h₀ := X.base) I.ok.mod.kin hk (thn (ha.run pos pins s σ H _ I h) fun us s1 ⟨vs, H1, I1, r, q⟩ => ⟨I1.kIn, ?_⟩) he hst
  exact wpAny_call (run_fnRS F hr (hx σ) I1 r q)
end
end XT

namespace XT
open PySem PySem.Spec PyProof.Rows L2
theorem stat_enumL {K : PySem.W.Frag} {H0 : Hp} {a : Addr} {xs : List V} (h : SqL K H0 a xs) : StatJ (Ite K a) H0 xs.length (fun i v H => ∃ T x, v = .ref T ∧ H T = some (.tup [.int (i : Nat), x]) ∧ xs[i]? = some x) where
  go := fun i H hi s => ⟨xs, xs[i], s.seq h, by simp [hi]⟩
  stop := fun H s => ⟨xs, s.seq h, Nat.le_refl _⟩
  yld := fun i H x H' hi s y => by
    obtain ⟨T, x', e, n, e', y⟩ := y
    subst e e'
    exact ⟨same_new n, T, x', rfl, upd_same, y xs (s.seq h)⟩
/-- a comprehension over a list whose element changes something -/
theorem lcEL {K : PySem.W.Frag} {a : Addr} {xs : List V} {g : TG} {te : TE} {vs : List Nat} {σ : L2.St} {H1 : Hp} {D : Addr} {Qd : Hp → Prop} (I : Nat → Hp → List V → Prop) (h0 : I 0 (upd H1 D (.lst [])) []) (hn : xs.length ≤ sizeLine)
    (hl : ∀ i H acc, I i H acc → SqL K H a xs ∧ acc.length = i)
    (hs : ∀ i x H acc (R : V → Hp → Prop), xs[i]? = some x → I i H acc → (∀ y H', H' D = some (.lst acc) → I (i + 1) (upd H' D (.lst (acc ++ [y]))) (acc ++ [y]) → R y H') → g x (wipe σ vs) H fun σ2 H2 => wipe σ2 vs = wipe σ vs ∧ te σ2 H2 R)
    (hd : ∀ H acc, I xs.length H acc → Qd H) :
    ∃ W : Nat → Nat → Hp → Prop, (∃ m, W 0 m (upd H1 D (.lst []))) ∧ ∀ i m H, W i m H →
      ((Itl K a).stop i H ∧ Qd H) ∨ ((Itl K a).go i H ∧ ∃ Nx : Hp → Prop, (∀ H', Nx H' → ∃ m', m' < m ∧ W (i + 1) m' H') ∧ ∀ x H', (Itl K a).yld i H x H' → g x (wipe σ vs) H' fun σ2 H2 => wipe σ2 vs = wipe σ vs ∧ tYes σ2 H2 fun b H3 =>
        if b = true then te σ2 H3 fun y H4 => ∃ acc, H4 D = some (.lst acc) ∧ acc.length < sizeLine ∧ Nx (upd H4 D (.lst (acc ++ [y]))) else Nx H3) := by
  refine ⟨fun i m H => m = xs.length - i ∧ i ≤ xs.length ∧ ∃ acc, I i H acc, ⟨xs.length, by simp, Nat.zero_le _, _, h0⟩, ?_⟩
  rintro i m H ⟨rfl, hi, acc, hI⟩
  have q := (hl i H acc hI).1
  by_cases hlt : i < xs.length
  · have e : xs[i]? = some xs[i] := by simp [hlt]
    refine .inr ⟨⟨xs, xs[i], q, e⟩, fun H' => ∃ acc, I (i + 1) H' acc, fun H' p => ⟨xs.length - (i + 1), by omega, rfl, hlt, p⟩, fun x H' y => ?_⟩
    obtain ⟨e1, y⟩ := y
    subst e1
    have ex := y xs q
    show g _ _ _ fun σ2 H2 => _ ∧ (if true = true then te σ2 H2 fun y H4 => ∃ acc, H4 D = some (.lst acc) ∧ acc.length < sizeLine ∧ (∃ acc', I (i + 1) (upd H4 D (.lst (acc ++ [y]))) acc') else (∃ acc, I (i + 1) H2 acc))
    simp only [if_true]
    exact hs i x _ acc _ ex hI fun y H' e k => ⟨acc, e, by rw [(hl i _ acc hI).2]; exact Nat.lt_of_lt_of_le hlt hn, _, k⟩
  · have e : i = xs.length := by omega
    subst e
    exact .inl ⟨⟨xs, q, Nat.le_refl _⟩, hd H acc hI⟩
theorem outs_none (n : Nat) : outs (fun _ => Option.none) n = [] := by
  induction n with
  | zero => rfl
  | succ n ih => rw [outs_succ, ih]; rfl
end XT

namespace XT
open PySem PySem.SeqAt
open AutoSeq1 (wpAny_loadPart')
open MeetsSeq MeetsSeq2 MeetsSeq3 SeqRoads2
section
variable {prog : Program} {w : World} {A : Around} {R : Result → Shared → Prop}
/-- == of two tuples of one length, pair by pair, whatever a pair answers -/
theorem tup_eqB (l b : Addr) (xs ys : Array Value) (n m : Nat) (d1 d2 : Option Addr) (s1 s2 : Array (Option Value)) (hsz : xs.size = ys.size) (I : Shared → Prop) (e : Nat → Bool)
    (turn : ∀ i (h1 : i < xs.size) (h2 : i < ys.size) s, I s → wpAny (model prog w) A.in1 (eqBool xs[i] ys[i]) (fun r s' => r = e i ∧ I s') (fun x s' => R (.error x) s') s)
    (fin : ∀ s, I s → R (.ok (.ret (.bool ((List.range xs.size).all e)))) s) {s : Shared} (hl : s.heap.get? l = some { cls := .type "tuple", dict := d1, data := .seq xs n, slots := s1 })
    (hb : s.heap.get? b = some { cls := .type "tuple", dict := d2, data := .seq ys m, slots := s2 }) (h : I s) :
    wpAny (model prog w) A.in1 (Builtin.«tuple.__eq__» ⟨[.ref l, .ref b], []⟩) (GQ.FinOf prog w A R) (fun x s' => R (.error x) s') s := by
  have f2 := AutoSeq1.sub_tuple_tuple
  have hZ : (xs.toList.zip ys.toList).length = xs.size := by simp [hsz]
  have hI0 := h
  obtain ⟨hp, g, d, tk, os⟩ := s
  wp_walk using wpAny_loadPart' hl, wpAny_loadPart' hb, wpAny_forIn_list _ (fun rest b s' => b.1 = none ∧ ∃ i, rest = (xs.toList.zip ys.toList).drop i ∧ i ≤ xs.size ∧ (∀ j, j < i → e j = true) ∧ I s') _
  case turn =>
    rintro ⟨y, x⟩ rest b s' ⟨hb', i, hz, hi, hj, hI⟩
    have hlt : i < (xs.toList.zip ys.toList).length := by
      refine Nat.lt_of_not_le fun h' => ?_
      rw [List.drop_of_length_le h'] at hz
      cases hz
    have h1 : i < xs.size := by omega
    have h2 : i < ys.size := by omega
    rw [List.drop_eq_getElem_cons hlt] at hz
    injection hz with hyx hrest
    have hy : y = xs[i] := by have := congrArg Prod.fst hyx; simpa using this
    have hx : x = ys[i] := by have := congrArg Prod.snd hyx; simpa using this
    subst hy hx
    refine wpAny_bind (wpAny_mono (turn i h1 h2 s' hI) (fun r s2 q => ?_) fun _ _ z => z)
    obtain ⟨hr, q2⟩ := q
    subst hr
    cases he : e i with
    | true =>
      wp_walk
      refine ⟨rfl, i + 1, hrest, h1, fun j hj' => ?_, q2⟩
      by_cases c : j = i
      · rw [c]; exact he
      · exact hj j (by omega)
    | false =>
      have hf : ((List.range xs.size).all e) = false := by
        rw [List.all_eq_false]
        exact ⟨i, List.mem_range.mpr h1, by rw [he]; decide⟩
      have hR := fin s2 q2
      rw [hf] at hR
      wp_walk
      exact hR
  case fin =>
    rintro ⟨b1, b2⟩ s' ⟨hb', i, hz, hi, hj, hI⟩
    simp only at hb'
    subst hb'
    have hge : xs.size ≤ i := by
      refine Nat.le_of_not_lt fun h' => ?_
      rw [List.drop_eq_getElem_cons (by omega)] at hz
      cases hz
    have ha : ((List.range xs.size).all e) = true := by
      rw [List.all_eq_true]
      intro j hj'
      exact hj j (by have := List.mem_range.mp hj'; omega)
    have hR := fin s' hI
    rw [ha] at hR
    wp_walk
    simpa [Builtin.Tuple.tupleCompareSizes, hsz] using hR
  case h =>
    exact ⟨rfl, 0, rfl, Nat.zero_le _, (fun j hj => by omega), hI0⟩
end
section
variable {prog : Program} {w : World} {A : Around} {E : Value → Shared → Prop} {s : Shared}
theorem rc_tupB {l b : Addr} {xs ys : Array Value} {Q : Value → Shared → Prop} (hsz : xs.size = ys.size) (hu : A.units < cLine) (I : Shared → Prop) (e : Nat → Bool) (hl : s.heap.IsTuple l xs) (hb : s.heap.IsTuple b ys)
    (turn : ∀ i (h1 : i < xs.size) (h2 : i < ys.size) s, I s → wpAny (model prog w) A.in1 (eqBool xs[i] ys[i]) (fun r s' => r = e i ∧ I s') E s)
    (fin : ∀ s, I s → Q (.bool ((List.range xs.size).all e)) s) (h : I s) : wpAny (model prog w) A (richCompare .Eq (.ref l) (.ref b)) Q E s := by
  obtain ⟨⟨c1, d1, w1, k1⟩, ho, hc, n, hd⟩ := id hl
  obtain ⟨⟨c2, d2, w2, k2⟩, ho2, hc2, m, hd2⟩ := id hb
  simp only at hc hd hc2 hd2
  subst hc hd hc2 hd2
  refine wpAny_richCompare_same_room (op := .Eq) ⟨_, ho, rfl⟩ ⟨_, ho2, rfl⟩ F.slot_tuple_eq (GQ.call_here F.slot_tuple_eq ⟨_, ho, rfl⟩ F.entry_tuple_eq (F.args_tuple_eq_2 _ _) ?_) hu
  exact tup_eqB (R := wants (fun v s' => v ≠ .notImplemented ∧ Q v s') E) l b xs ys n m d1 d2 k1 k2 hsz I e turn (fun s' q => ⟨(fun x => nomatch x), fin s' q⟩) ho ho2 h
end
end XT
namespace XT
open PySem PySem.Spec PyProof.Rows L2
/-- how == answers, by the abstract heap -/
abbrev EqvB := V → V → Hp → Bool → Prop
def MonB (D : EqvB) : Prop := ∀ x y H H' b, L2.Ext H H' → D x y H b → D x y H' b
def EqB (X : Cx) (n : Nat) (D : EqvB) : Prop :=
  ∀ (A : Around) (pins : List (Addr × Obj)) (s : Shared) (σ : L2.St) (H : Hp) (x y : V) (u v : Value) (b : Bool), L2.Sub X n A → Inv X pins σ H s → RelV x u → RelV y v → D x y H b →
    wpAny (model X.prog X.w) A (eqBool u v) (fun r s' => r = b ∧ ∃ H', Inv X pins σ H' s' ∧ L2.Ext H H') X.xe s
def RcB (X : Cx) (n : Nat) (D : EqvB) : Prop :=
  ∀ (A : Around) (pins : List (Addr × Obj)) (s : Shared) (σ : L2.St) (H : Hp) (x y : V) (u v : Value) (b : Bool), L2.Sub X n A → Inv X pins σ H s → RelV x u → RelV y v → D x y H b →
    wpAny (model X.prog X.w) A (richCompare .Eq u v) (fun r s' => r = .bool b ∧ ∃ H', Inv X pins σ H' s' ∧ L2.Ext H H') X.xe s
section
variable {X : Cx} {n : Nat} {D : EqvB}
def DTupB (K : PySem.W.Frag) (D : EqvB) : EqvB := fun x y H b => ∃ a c xs ys, ∃ e : Nat → Bool, x = .ref a ∧ y = .ref c ∧ SqT K H a xs ∧ SqT K H c ys ∧ xs.length = ys.length ∧ (∀ (i : Nat) x y, xs[i]? = some x → ys[i]? = some y → D x y H (e i)) ∧ b = (List.range xs.length).all e
theorem rcB_tup (hD : MonB D) (h : EqB X n D) : RcB X (n + 1) (DTupB X.K D) := by
  intro A pins s σ H x y u v b sb I rx ry d
  obtain ⟨a, c, xs, ys, e, rfl, rfl, ha, hb, hlen, hp, rfl⟩ := d
  cases rx
  cases ry
  obtain ⟨its, r, e1, z⟩ := I.tuple ha
  obtain ⟨its2, r2, e2, z2⟩ := I.tuple hb
  have hsz : its.toArray.size = its2.toArray.size := by rw [List.size_toArray, List.size_toArray, ← r.length, ← r2.length]; exact hlen
  refine rc_tupB hsz sb.room.units0 (fun s' => LoopI X pins σ H s') e e1 e2 (fun i h1 h2 s' q => ?_) (fun s' q => ⟨by rw [List.size_toArray, ← r.length], q⟩) ⟨H, I, L2.Ext.rfl'⟩
  obtain ⟨H1, I1, x1⟩ := q
  have h1' : i < its.length := by simpa using h1
  have h2' : i < its2.length := by simpa using h2
  have k1 : i < xs.length := by rw [r.length]; exact h1'
  have k2 : i < ys.length := by rw [← hlen]; exact k1
  obtain ⟨u, hu, ru⟩ := r.get (List.getElem?_eq_getElem k1)
  obtain ⟨v, hv, rv⟩ := r2.get (List.getElem?_eq_getElem k2)
  have g1 : u = its.toArray[i] := by
    rw [List.getElem?_eq_getElem h1'] at hu
    simpa using (Option.some.inj hu).symm
  have g2 : v = its2.toArray[i] := by
    rw [List.getElem?_eq_getElem h2'] at hv
    simpa using (Option.some.inj hv).symm
  subst g1 g2
  refine wpAny_mono (h A.in1 pins s' σ H1 _ _ _ _ (e i) sb.in1 I1 ru rv (hD _ _ _ _ _ x1 (hp i _ _ (List.getElem?_eq_getElem k1) (List.getElem?_eq_getElem k2)))) (fun r s2 q => ?_) fun _ _ z => z
  obtain ⟨hr, H2, I2, x2⟩ := q
  exact ⟨hr, H2, I2, x1.trans x2⟩
theorem RcB.eqB (h : RcB X n D) (hr : ∀ x y H b, D x y H b → ∃ a c, x = .ref a ∧ y = .ref c) (hid : ∀ pins s σ H a b, Inv X pins σ H s → D (.ref a) (.ref a) H b → b = true) : EqB X n D := by
  intro A pins s σ H x y u v b sb I rx ry d
  obtain ⟨a, c, rfl, rfl⟩ := hr _ _ _ _ d
  cases rx
  cases ry
  by_cases hab : a = c
  · subst hab
    rw [hid _ _ _ _ _ _ I d]
    exact SeqAt.EqAt.same (A := A) (s := s) (.ref a) X.prog X.w X.xe _ ⟨rfl, H, I, L2.Ext.rfl'⟩
  · refine GQ.eqBool_refG hab (wpAny_mono (h A pins s σ H (.ref a) (.ref c) _ _ b sb I rfl rfl d) (fun r s' q => ?_) fun _ _ z => z)
    obtain ⟨hr', q⟩ := q
    exact ⟨b, hr', rfl, q⟩
theorem seqT_inj {pins : List (Addr × Obj)} {s : Shared} {σ : L2.St} {H : Hp} {a : Addr} {L M : List Int} (I : Inv X pins σ H s) (h : SqT X.K H a (L.map V.int)) (k : SqT X.K H a (M.map V.int)) : L = M := by
  obtain ⟨its, r, e, _⟩ := I.tuple h
  obtain ⟨its2, r2, e2, _⟩ := I.tuple k
  obtain ⟨o, ho, _, n, hd⟩ := e
  obtain ⟨o2, ho2, _, n2, hd2⟩ := e2
  have eo : o = o2 := Option.some.inj (ho.symm.trans ho2)
  subst eo
  rw [hd] at hd2
  have ei : its = its2 := by
    injection hd2 with q _
    simpa using q
  subst ei
  rw [← SrtO.iv_ints r.ints, ← SrtO.iv_ints r2.ints]
/-- by an own __eq__ -/
theorem rcB_own {CX : CXT} {C f : Addr} {sp : Sp} {E : XK} (F : FnR X.prog X.w X.K X.mg X.base CX n f sp) (hs : PySem.W.findIn X.K (.ref C) "__eq__" = some (some (.ref f))) (hf : PySem.W.isFn X.K (.ref f) = true) (hx : Passes CX X E)
    (hD : ∀ x y H b, D x y H b → ∃ a c, x = .ref a ∧ y = .ref c ∧ InsA H a C ∧ InsA H c C ∧ sp [x, y] H (fun z H' => z = .bl b ∧ L2.Ext H H') E) : RcB X n D := by
  intro A pins s σ H x y u v b sb I rx ry d
  obtain ⟨a, c, rfl, rfl, ha, hc, hsp⟩ := hD _ _ _ _ d
  cases rx
  cases ry
  obtain ⟨ox, od, J⟩ := insA_at I ha
  obtain ⟨oy, oe, J'⟩ := insA_at I hc
  obtain ⟨m, hF⟩ := I.fr
  refine PySem.W.cmp_K (op := .Eq) (tb := .ref C) sb.room.units0 hF I.ok.mod.kin J J'.type (by simp [PySem.W.notFirst]) hs hf ?_
  have e0 : Env0 X.prog X.w X.K X.mg X.base A X.stack s H := by
    have e := I.env0
    exact ⟨by rw [sb.fr]; exact e.frames, e.mod, e.bs, e.bsz, e.funs, e.frf, e.hok, e.bare⟩
  refine wpAny_mono (wpAny_call (SlX.run_at (us := [.ref a, .ref c]) (ws := [.ref a, .ref c]) F sb.room e0 hx I (.cons rfl (.cons rfl .nil)) hsp)) (fun w s' z => ?_) fun _ _ x => x
  obtain ⟨z', H', I', rz, ez, ex⟩ := z
  subst ez
  cases (show w = Value.bool b from rz)
  exact ⟨rfl, H', I', ex⟩
/-- x == y as an expression -/
def rEqB (D : EqvB) : R2 := fun x y H Q => ∃ b, D x y H b ∧ ∀ H', L2.Ext H H' → Q (.bl b) H'
theorem op_eqB (h : RcB X n D) (hr : Room n X.A) : OpR X (compareOp .Eq) (rEqB D) := by
  intro pins s σ H x y v u Q I rx ry hq
  obtain ⟨b, d, q⟩ := hq
  show wpAny (model X.prog X.w) X.A (richCompare .Eq v u) (EP X pins σ Q) X.xe s
  refine wpAny_mono (h X.A pins s σ H x y v u b ⟨hr, rfl⟩ I rx ry d) (fun r s' z => ?_) fun _ _ x => x
  obtain ⟨hr', H', I', e⟩ := z
  subst hr'
  exact ⟨.bl b, H', I', rfl, q H' e⟩
end
end XT

namespace XT
open PySem PySem.SeqAt
open AutoSeq1 (wpAny_loadPart')
open MeetsSeq MeetsSeq2 MeetsSeq3 SeqRoads2
section
variable {prog : Program} {w : World} {A : Around} {R : Result → Shared → Prop}
/-- at each turn the two lists are read anew -/
def LstB (prog : Program) (w : World) (A : Around) (E : Value → Shared → Prop) (l b : Addr) (N : Nat) (I : Shared → Prop) (e : Nat → Bool) : Prop :=
  ∀ s, I s → ∃ (xs ys : Array Value) (n m : Nat), s.heap.get? l = some { cls := .type "list", data := .seq xs n } ∧ s.heap.get? b = some { cls := .type "list", data := .seq ys m } ∧ xs.size = N ∧ ys.size = N ∧
    ∀ i (h1 : i < xs.size) (h2 : i < ys.size), wpAny (model prog w) A.in1 (eqBool xs[i] ys[i]) (fun r s' => r = e i ∧ I s') E s
theorem loopEqB (l b : Addr) (N : Nat) (I : Shared → Prop) (e : Nat → Bool) (hl : LstB prog w A (fun x s' => R (.error x) s') l b N I e) (fin : ∀ s, I s → R (.ok (.ret (.bool (((List.range N).all e))))) s) (k : Nat) :
    ∀ i : Nat, N - i = k → i ≤ N → (∀ j, j < i → e j = true) → ∀ s, I s →
      wpAny (model prog w) A.in1 (Builtin.«list.__eq__.loop» ⟨[.ref l, .ref b, rawInt i, rawInt 2], []⟩) (GQ.FinOf prog w A R) (fun x s' => R (.error x) s') s := by
  induction k with
  | zero =>
    intro i hk hi hj s h
    obtain ⟨xs, ys, n, m, g1, g2, z1, z2, _⟩ := hl _ h
    have ha : ((List.range N).all e) = true := by
      rw [List.all_eq_true]
      intro j hj'
      exact hj j (by have := List.mem_range.mp hj'; omega)
    have hR := fin s h
    rw [ha] at hR
    obtain ⟨hp, g, d, tk, os⟩ := s
    wp_walk using wpAny_loadPart' g1, wpAny_loadPart' g2
    have q1 : xs[((i : Nat) : Int).toNat]? = none := by simp; omega
    have q2 : ys[((i : Nat) : Int).toNat]? = none := by simp; omega
    rw [q1, q2]
    wp_walk using wpAny_loadPart' g1, wpAny_loadPart' g2
    show R (.ok (.ret (.bool (xs.size == ys.size)))) _
    rw [z1, z2]
    simpa using hR
  | succ k ih =>
    intro i hk hi hj s h
    obtain ⟨xs, ys, n, m, g1, g2, z1, z2, turn⟩ := hl _ h
    have l1 : i < xs.size := by omega
    have l2 : i < ys.size := by omega
    have ht := turn i l1 l2
    obtain ⟨hp, g, d, tk, os⟩ := s
    wp_walk using wpAny_loadPart' g1, wpAny_loadPart' g2
    have q1 : xs[((i : Nat) : Int).toNat]? = some xs[i] := by simp [l1]
    have q2 : ys[((i : Nat) : Int).toNat]? = some ys[i] := by simp [l2]
    have qc : ((i : Int) + 1) = ((i + 1 : Nat) : Int) := by omega
    rw [q1, q2]
    refine wpAny_bind (wpAny_mono ht (fun r s2 h2 => ?_) fun _ _ z => z)
    obtain ⟨hr, h2⟩ := h2
    subst hr
    cases he : e i with
    | true =>
      have hrec := ih (i + 1) (by omega) (by omega) (fun j hj' => by
        by_cases c : j = i
        · rw [c]; exact he
        · exact hj j (by omega)) s2 h2
      obtain ⟨hp2, g2', d2, tk2, os2⟩ := s2
      wp_walk
      rw [qc]
      exact ⟨plainId_quiet plain_eq_loop _, codeAny_builtin entry_eq_loop (by rw [Around.under_plainId plain_eq_loop _]; exact hrec)⟩
    | false =>
      have hf : ((List.range N).all e) = false := by
        rw [List.all_eq_false]
        exact ⟨i, List.mem_range.mpr (by omega), by rw [he]; decide⟩
      obtain ⟨xs', ys', n', m', g1', g2', z1', z2', _⟩ := hl _ h2
      have hR := fin s2 h2
      rw [hf] at hR
      have l1' : i < xs'.size := by omega
      have l2' : i < ys'.size := by omega
      obtain ⟨hp2, gg2, d2, tk2, os2⟩ := s2
      wp_walk using wpAny_loadPart' g1', wpAny_loadPart' g2'
      have q1' : xs'[((i : Nat) : Int).toNat]? = some xs'[i] := by simp [l1']
      have q2' : ys'[((i : Nat) : Int).toNat]? = some ys'[i] := by simp [l2']
      rw [q1', q2']
      wp_walk
      simpa using hR
theorem lstEqB (l b : Addr) (N : Nat) (I : Shared → Prop) (e : Nat → Bool) (hl : LstB prog w A (fun x s' => R (.error x) s') l b N I e) (fin : ∀ s, I s → R (.ok (.ret (.bool (((List.range N).all e))))) s) {s : Shared} (h : I s) :
    wpAny (model prog w) A.in1 (Builtin.«list.__eq__» ⟨[.ref l, .ref b], []⟩) (GQ.FinOf prog w A R) (fun x s' => R (.error x) s') s := by
  obtain ⟨xs, ys, n, m, g1, g2, z1, z2, _⟩ := hl _ h
  have hrec := loopEqB (A := A) (R := R) l b N I e hl fin _ 0 rfl (Nat.zero_le _) (fun j hj => by omega) s h
  obtain ⟨hp, g, d, tk, os⟩ := s
  have f3 := AutoSeq1.sub_list_list
  have hne : ¬ (xs.size != ys.size) = true := by simp [z1, z2]
  wp_walk using wpAny_loadPart' g1, wpAny_loadPart' g2
  exact ⟨plainId_quiet plain_eq_loop _, codeAny_builtin entry_eq_loop (by rw [Around.under_plainId plain_eq_loop _]; exact hrec)⟩
theorem loopNeB (l b : Addr) (N : Nat) (I : Shared → Prop) (e : Nat → Bool) (hl : LstB prog w A (fun x s' => R (.error x) s') l b N I e) (fin : ∀ s, I s → R (.ok (.ret (.bool (!((List.range N).all e))))) s) (k : Nat) :
    ∀ i : Nat, N - i = k → i ≤ N → (∀ j, j < i → e j = true) → ∀ s, I s →
      wpAny (model prog w) A.in1 (Builtin.«list.__eq__.loop» ⟨[.ref l, .ref b, rawInt i, rawInt 3], []⟩) (GQ.FinOf prog w A R) (fun x s' => R (.error x) s') s := by
  induction k with
  | zero =>
    intro i hk hi hj s h
    obtain ⟨xs, ys, n, m, g1, g2, z1, z2, _⟩ := hl _ h
    have ha : ((List.range N).all e) = true := by
      rw [List.all_eq_true]
      intro j hj'
      exact hj j (by have := List.mem_range.mp hj'; omega)
    have hR := fin s h
    rw [ha] at hR
    obtain ⟨hp, g, d, tk, os⟩ := s
    wp_walk using wpAny_loadPart' g1, wpAny_loadPart' g2
    have q1 : xs[((i : Nat) : Int).toNat]? = none := by simp; omega
    have q2 : ys[((i : Nat) : Int).toNat]? = none := by simp; omega
    rw [q1, q2]
    wp_walk using wpAny_loadPart' g1, wpAny_loadPart' g2
    show R (.ok (.ret (.bool (xs.size != ys.size)))) _
    rw [z1, z2]
    simpa using hR
  | succ k ih =>
    intro i hk hi hj s h
    obtain ⟨xs, ys, n, m, g1, g2, z1, z2, turn⟩ := hl _ h
    have l1 : i < xs.size := by omega
    have l2 : i < ys.size := by omega
    have ht := turn i l1 l2
    obtain ⟨hp, g, d, tk, os⟩ := s
    wp_walk using wpAny_loadPart' g1, wpAny_loadPart' g2
    have q1 : xs[((i : Nat) : Int).toNat]? = some xs[i] := by simp [l1]
    have q2 : ys[((i : Nat) : Int).toNat]? = some ys[i] := by simp [l2]
    have qc : ((i : Int) + 1) = ((i + 1 : Nat) : Int) := by omega
    rw [q1, q2]
    refine wpAny_bind (wpAny_mono ht (fun r s2 h2 => ?_) fun _ _ z => z)
    obtain ⟨hr, h2⟩ := h2
    subst hr
    cases he : e i with
    | true =>
      have hrec := ih (i + 1) (by omega) (by omega) (fun j hj' => by
        by_cases c : j = i
        · rw [c]; exact he
        · exact hj j (by omega)) s2 h2
      obtain ⟨hp2, g2', d2, tk2, os2⟩ := s2
      wp_walk
      rw [qc]
      exact ⟨plainId_quiet plain_eq_loop _, codeAny_builtin entry_eq_loop (by rw [Around.under_plainId plain_eq_loop _]; exact hrec)⟩
    | false =>
      have hf : ((List.range N).all e) = false := by
        rw [List.all_eq_false]
        exact ⟨i, List.mem_range.mpr (by omega), by rw [he]; decide⟩
      obtain ⟨xs', ys', n', m', g1', g2', z1', z2', _⟩ := hl _ h2
      have hR := fin s2 h2
      rw [hf] at hR
      have l1' : i < xs'.size := by omega
      have l2' : i < ys'.size := by omega
      obtain ⟨hp2, gg2, d2, tk2, os2⟩ := s2
      wp_walk using wpAny_loadPart' g1', wpAny_loadPart' g2'
      have q1' : xs'[((i : Nat) : Int).toNat]? = some xs'[i] := by simp [l1']
      have q2' : ys'[((i : Nat) : Int).toNat]? = some ys'[i] := by simp [l2']
      rw [q1', q2']
      wp_walk
      simpa using hR
theorem lstNeB (l b : Addr) (N : Nat) (I : Shared → Prop) (e : Nat → Bool) (hl : LstB prog w A (fun x s' => R (.error x) s') l b N I e) (fin : ∀ s, I s → R (.ok (.ret (.bool (!((List.range N).all e))))) s) {s : Shared} (h : I s) :
    wpAny (model prog w) A.in1 (Builtin.«list.__ne__» ⟨[.ref l, .ref b], []⟩) (GQ.FinOf prog w A R) (fun x s' => R (.error x) s') s := by
  obtain ⟨xs, ys, n, m, g1, g2, z1, z2, _⟩ := hl _ h
  have hrec := loopNeB (A := A) (R := R) l b N I e hl fin _ 0 rfl (Nat.zero_le _) (fun j hj => by omega) s h
  obtain ⟨hp, g, d, tk, os⟩ := s
  have f3 := AutoSeq1.sub_list_list
  have hne : ¬ (xs.size != ys.size) = true := by simp [z1, z2]
  wp_walk using wpAny_loadPart' g1, wpAny_loadPart' g2
  exact ⟨plainId_quiet plain_eq_loop _, codeAny_builtin entry_eq_loop (by rw [Around.under_plainId plain_eq_loop _]; exact hrec)⟩
theorem tup_neB (l b : Addr) (xs ys : Array Value) (n m : Nat) (d1 d2 : Option Addr) (s1 s2 : Array (Option Value)) (hsz : xs.size = ys.size) (I : Shared → Prop) (e : Nat → Bool)
    (turn : ∀ i (h1 : i < xs.size) (h2 : i < ys.size) s, I s → wpAny (model prog w) A.in1 (eqBool xs[i] ys[i]) (fun r s' => r = e i ∧ I s') (fun x s' => R (.error x) s') s)
    (fin : ∀ s, I s → R (.ok (.ret (.bool (!((List.range xs.size).all e))))) s) {s : Shared} (hl : s.heap.get? l = some { cls := .type "tuple", dict := d1, data := .seq xs n, slots := s1 })
    (hb : s.heap.get? b = some { cls := .type "tuple", dict := d2, data := .seq ys m, slots := s2 }) (h : I s) :
    wpAny (model prog w) A.in1 (Builtin.«tuple.__ne__» ⟨[.ref l, .ref b], []⟩) (GQ.FinOf prog w A R) (fun x s' => R (.error x) s') s := by
  have f2 := AutoSeq1.sub_tuple_tuple
  have hZ : (xs.toList.zip ys.toList).length = xs.size := by simp [hsz]
  have hI0 := h
  obtain ⟨hp, g, d, tk, os⟩ := s
  wp_walk using wpAny_loadPart' hl, wpAny_loadPart' hb, wpAny_forIn_list _ (fun rest b s' => b.1 = none ∧ ∃ i, rest = (xs.toList.zip ys.toList).drop i ∧ i ≤ xs.size ∧ (∀ j, j < i → e j = true) ∧ I s') _
  case turn =>
    rintro ⟨y, x⟩ rest b s' ⟨hb', i, hz, hi, hj, hI⟩
    have hlt : i < (xs.toList.zip ys.toList).length := by
      refine Nat.lt_of_not_le fun h' => ?_
      rw [List.drop_of_length_le h'] at hz
      cases hz
    have h1 : i < xs.size := by omega
    have h2 : i < ys.size := by omega
    rw [List.drop_eq_getElem_cons hlt] at hz
    injection hz with hyx hrest
    have hy : y = xs[i] := by have := congrArg Prod.fst hyx; simpa using this
    have hx : x = ys[i] := by have := congrArg Prod.snd hyx; simpa using this
    subst hy hx
    refine wpAny_bind (wpAny_mono (turn i h1 h2 s' hI) (fun r s2 q => ?_) fun _ _ z => z)
    obtain ⟨hr, q2⟩ := q
    subst hr
    cases he : e i with
    | true =>
      wp_walk
      refine ⟨rfl, i + 1, hrest, h1, fun j hj' => ?_, q2⟩
      by_cases c : j = i
      · rw [c]; exact he
      · exact hj j (by omega)
    | false =>
      have hf : ((List.range xs.size).all e) = false := by
        rw [List.all_eq_false]
        exact ⟨i, List.mem_range.mpr h1, by rw [he]; decide⟩
      have hR := fin s2 q2
      rw [hf] at hR
      wp_walk
      exact hR
  case fin =>
    rintro ⟨b1, b2⟩ s' ⟨hb', i, hz, hi, hj, hI⟩
    simp only at hb'
    subst hb'
    have hge : xs.size ≤ i := by
      refine Nat.le_of_not_lt fun h' => ?_
      rw [List.drop_eq_getElem_cons (by omega)] at hz
      cases hz
    have ha : ((List.range xs.size).all e) = true := by
      rw [List.all_eq_true]
      intro j hj'
      exact hj j (by have := List.mem_range.mp hj'; omega)
    have hR := fin s' hI
    rw [ha] at hR
    wp_walk
    simpa [Builtin.Tuple.tupleCompareSizes, hsz, bne] using hR
  case h =>
    exact ⟨rfl, 0, rfl, Nat.zero_le _, (fun j hj => by omega), hI0⟩
end
section
variable {prog : Program} {w : World} {A : Around} {E : Value → Shared → Prop} {s : Shared}
theorem rc_lstEqB {l b : Addr} {N : Nat} {Q : Value → Shared → Prop} (hu : A.units < cLine) (I : Shared → Prop) (e : Nat → Bool) (hl : LstB prog w A E l b N I e) (fin : ∀ s, I s → Q (.bool (((List.range N).all e))) s) (h : I s) : wpAny (model prog w) A (richCompare .Eq (.ref l) (.ref b)) Q E s := by
  obtain ⟨xs, ys, n, m, g1, g2, _, _, _⟩ := hl _ h
  refine wpAny_richCompare_same_room (op := .Eq) ⟨_, g1, rfl⟩ ⟨_, g2, rfl⟩ F.slot_list_eq (GQ.call_here F.slot_list_eq ⟨_, g1, rfl⟩ F.entry_list_eq (F.args_list_eq_2 _ _) ?_) hu
  exact lstEqB (R := wants (fun v s' => v ≠ .notImplemented ∧ Q v s') E) l b N I e hl (fun s' q => ⟨(fun x => nomatch x), fin s' q⟩) h
theorem rc_lstNeB {l b : Addr} {N : Nat} {Q : Value → Shared → Prop} (hu : A.units < cLine) (I : Shared → Prop) (e : Nat → Bool) (hl : LstB prog w A E l b N I e) (fin : ∀ s, I s → Q (.bool (!((List.range N).all e))) s) (h : I s) : wpAny (model prog w) A (richCompare .NotEq (.ref l) (.ref b)) Q E s := by
  obtain ⟨xs, ys, n, m, g1, g2, _, _, _⟩ := hl _ h
  refine wpAny_richCompare_same_room (op := .NotEq) ⟨_, g1, rfl⟩ ⟨_, g2, rfl⟩ F.slot_list_ne (GQ.call_here F.slot_list_ne ⟨_, g1, rfl⟩ F.entry_list_ne (F.args_list_ne_2 _ _) ?_) hu
  exact lstNeB (R := wants (fun v s' => v ≠ .notImplemented ∧ Q v s') E) l b N I e hl (fun s' q => ⟨(fun x => nomatch x), fin s' q⟩) h
theorem rc_tupNeB {l b : Addr} {xs ys : Array Value} {Q : Value → Shared → Prop} (hsz : xs.size = ys.size) (hu : A.units < cLine) (I : Shared → Prop) (e : Nat → Bool) (hl : s.heap.IsTuple l xs) (hb : s.heap.IsTuple b ys)
    (turn : ∀ i (h1 : i < xs.size) (h2 : i < ys.size) s, I s → wpAny (model prog w) A.in1 (eqBool xs[i] ys[i]) (fun r s' => r = e i ∧ I s') E s)
    (fin : ∀ s, I s → Q (.bool (!((List.range xs.size).all e))) s) (h : I s) : wpAny (model prog w) A (richCompare .NotEq (.ref l) (.ref b)) Q E s := by
  obtain ⟨⟨c1, d1, w1, k1⟩, ho, hc, n, hd⟩ := id hl
  obtain ⟨⟨c2, d2, w2, k2⟩, ho2, hc2, m, hd2⟩ := id hb
  simp only at hc hd hc2 hd2
  subst hc hd hc2 hd2
  refine wpAny_richCompare_same_room (op := .NotEq) ⟨_, ho, rfl⟩ ⟨_, ho2, rfl⟩ F.slot_tuple_ne (GQ.call_here F.slot_tuple_ne ⟨_, ho, rfl⟩ F.entry_tuple_ne (F.args_tuple_ne_2 _ _) ?_) hu
  exact tup_neB (R := wants (fun v s' => v ≠ .notImplemented ∧ Q v s') E) l b xs ys n m d1 d2 k1 k2 hsz I e turn (fun s' q => ⟨(fun x => nomatch x), fin s' q⟩) ho ho2 h
end
end XT
namespace XT
open PySem PySem.Spec PyProof.Rows L2
/-! ### the layer -/
section
variable {X : Cx} {n m : Nat} {D D' : EqvB}
theorem EqB.mono (h : EqB X n D) (hn : n ≤ m) : EqB X m D := fun A pins s σ H x y u v b sb => h A pins s σ H x y u v b (sb.mono hn)
theorem EqB.or (h : EqB X n D) (h' : EqB X n D') : EqB X n (fun x y H b => D x y H b ∨ D' x y H b) := fun A pins s σ H x y u v b sb I rx ry d => by
  rcases d with d | d
  · exact h A pins s σ H x y u v b sb I rx ry d
  · exact h' A pins s σ H x y u v b sb I rx ry d
theorem MonB.or (h : MonB D) (h' : MonB D') : MonB (fun x y H b => D x y H b ∨ D' x y H b) := fun x y H H' b e d => d.elim (fun d => .inl (h x y H H' b e d)) fun d => .inr (h' x y H H' b e d)
def DFlatB : EqvB := fun x y _ b => flatV x = true ∧ flatV y = true ∧ b = eqV x y
theorem monB_flat : MonB DFlatB := fun _ _ _ _ _ _ d => d
theorem eqB_flat : EqB X 0 DFlatB := by
  intro A pins s σ H x y u v b sb I rx ry d
  obtain ⟨fx, fy, rfl⟩ := d
  exact eqAt_V (A := A) (s := s) rx ry fx fy X.prog X.w X.xe _ ⟨rfl, H, I, L2.Ext.rfl'⟩
/-- data at any depth -/
def DDat (K : PySem.W.Frag) : EqvB := fun x y H b => ∃ d e, Dp K H x d ∧ Dp K H y e ∧ SeqAt.shaped d = true ∧ SeqAt.shaped e = true ∧ b = PyData.eqv d e
def DLstB (D : EqvB) : EqvB := fun x y H b => ∃ a c xs ys, ∃ e : Nat → Bool, x = .ref a ∧ y = .ref c ∧ H a = some (.lst xs) ∧ H c = some (.lst ys) ∧ xs.length = ys.length ∧ (∀ (i : Nat) x y, xs[i]? = some x → ys[i]? = some y → D x y H (e i)) ∧ b = (List.range xs.length).all e
theorem turnB (hD : MonB D) (h : EqB X n D) {A : Around} (sb : L2.Sub X (n + 1) A) {pins : List (Addr × Obj)} {σ : L2.St} {H : Hp} {xs ys : List V} {its its2 : List Value} {e : Nat → Bool} (hlen : xs.length = ys.length) (hp : ∀ (i : Nat) x y, xs[i]? = some x → ys[i]? = some y → D x y H (e i)) (r : Vals xs its) (r2 : Vals ys its2)
    (i : Nat) (h1 : i < its.toArray.size) (h2 : i < its2.toArray.size) (s' : Shared) (q : LoopI X pins σ H s') : wpAny (model X.prog X.w) A.in1 (eqBool its.toArray[i] its2.toArray[i]) (fun r s2 => r = e i ∧ LoopI X pins σ H s2) X.xe s' := by
  obtain ⟨H1, I1, x1⟩ := q
  have h1' : i < its.length := by simpa using h1
  have h2' : i < its2.length := by simpa using h2
  have k1 : i < xs.length := by rw [r.length]; exact h1'
  have k2 : i < ys.length := by rw [← hlen]; exact k1
  obtain ⟨u, hu, ru⟩ := r.get (List.getElem?_eq_getElem k1)
  obtain ⟨v, hv, rv⟩ := r2.get (List.getElem?_eq_getElem k2)
  have g1 : u = its.toArray[i] := by
    rw [List.getElem?_eq_getElem h1'] at hu
    simpa using (Option.some.inj hu).symm
  have g2 : v = its2.toArray[i] := by
    rw [List.getElem?_eq_getElem h2'] at hv
    simpa using (Option.some.inj hv).symm
  subst g1 g2
  refine wpAny_mono (h A.in1 pins s' σ H1 _ _ _ _ (e i) sb.in1 I1 ru rv (hD _ _ _ _ _ x1 (hp i _ _ (List.getElem?_eq_getElem k1) (List.getElem?_eq_getElem k2)))) (fun r s2 q => ?_) fun _ _ z => z
  obtain ⟨hr, H2, I2, x2⟩ := q
  exact ⟨hr, H2, I2, x1.trans x2⟩
theorem lstB_of (hD : MonB D) (h : EqB X n D) {A : Around} (sb : L2.Sub X (n + 1) A) {pins : List (Addr × Obj)} {σ : L2.St} {H : Hp} {a c : Addr} {xs ys : List V} {e : Nat → Bool} (ha : H a = some (.lst xs)) (hc : H c = some (.lst ys)) (hlen : xs.length = ys.length)
    (hp : ∀ (i : Nat) x y, xs[i]? = some x → ys[i]? = some y → D x y H (e i)) : LstB X.prog X.w A X.xe a c xs.length (LoopI X pins σ H) e := by
  intro s q
  obtain ⟨H1, I1, x1⟩ := id q
  obtain ⟨z, its, k, r, g1⟩ := I1.hok a _ (x1 _ _ ha)
  obtain ⟨z2, its2, k2, r2, g2⟩ := I1.hok c _ (x1 _ _ hc)
  exact ⟨its.toArray, its2.toArray, k, k2, g1, g2, by rw [List.size_toArray, ← r.length], by rw [List.size_toArray, ← r2.length, ← hlen], fun i h1 h2 => turnB hD h sb hlen hp r r2 i h1 h2 s q⟩
theorem rcB_lst (hD : MonB D) (h : EqB X n D) : RcB X (n + 1) (DLstB D) := by
  intro A pins s σ H x y u v b sb I rx ry d
  obtain ⟨a, c, xs, ys, e, rfl, rfl, ha, hc, hlen, hp, rfl⟩ := d
  cases rx
  cases ry
  exact rc_lstEqB sb.room.units0 (LoopI X pins σ H) e (lstB_of hD h sb ha hc hlen hp) (fun s' q => ⟨rfl, q⟩) ⟨H, I, L2.Ext.rfl'⟩
/-- != -/
def RnB (X : Cx) (n : Nat) (D : EqvB) : Prop :=
  ∀ (A : Around) (pins : List (Addr × Obj)) (s : Shared) (σ : L2.St) (H : Hp) (x y : V) (u v : Value) (b : Bool), L2.Sub X n A → Inv X pins σ H s → RelV x u → RelV y v → D x y H b →
    wpAny (model X.prog X.w) A (richCompare .NotEq u v) (fun r s' => r = .bool (!b) ∧ ∃ H', Inv X pins σ H' s' ∧ L2.Ext H H') X.xe s
theorem rnB_lst (hD : MonB D) (h : EqB X n D) : RnB X (n + 1) (DLstB D) := by
  intro A pins s σ H x y u v b sb I rx ry d
  obtain ⟨a, c, xs, ys, e, rfl, rfl, ha, hc, hlen, hp, rfl⟩ := d
  cases rx
  cases ry
  exact rc_lstNeB sb.room.units0 (LoopI X pins σ H) e (lstB_of hD h sb ha hc hlen hp) (fun s' q => ⟨rfl, q⟩) ⟨H, I, L2.Ext.rfl'⟩
theorem rnB_tup (hD : MonB D) (h : EqB X n D) : RnB X (n + 1) (DTupB X.K D) := by
  intro A pins s σ H x y u v b sb I rx ry d
  obtain ⟨a, c, xs, ys, e, rfl, rfl, ha, hb, hlen, hp, rfl⟩ := d
  cases rx
  cases ry
  obtain ⟨its, r, e1, z⟩ := I.tuple ha
  obtain ⟨its2, r2, e2, z2⟩ := I.tuple hb
  have hsz : its.toArray.size = its2.toArray.size := by rw [List.size_toArray, List.size_toArray, ← r.length, ← r2.length]; exact hlen
  exact rc_tupNeB hsz sb.room.units0 (LoopI X pins σ H) e e1 e2 (fun i h1 h2 s' q => turnB hD h sb hlen hp r r2 i h1 h2 s' q) (fun s' q => ⟨by rw [List.size_toArray, ← r.length], q⟩) ⟨H, I, L2.Ext.rfl'⟩
def rNeB (D : EqvB) : R2 := fun x y H Q => ∃ b, D x y H b ∧ ∀ H', L2.Ext H H' → Q (.bl (!b)) H'
theorem op_neB (h : RnB X n D) (hr : Room n X.A) : OpR X (compareOp .NotEq) (rNeB D) := by
  intro pins s σ H x y v u Q I rx ry hq
  obtain ⟨b, d, q⟩ := hq
  show wpAny (model X.prog X.w) X.A (richCompare .NotEq v u) (EP X pins σ Q) X.xe s
  refine wpAny_mono (h X.A pins s σ H x y v u b ⟨hr, rfl⟩ I rx ry d) (fun r s' z => ?_) fun _ _ x => x
  obtain ⟨hr', H', I', e⟩ := z
  subst hr'
  exact ⟨.bl (!b), H', I', rfl, q H' e⟩
end
end XT

namespace Eff
open Tbl XT
/-! ### numbers renamed: tables stay, breaks are renamed -/
def SMono (f : Int → Int) : Prop := ∀ a b, a < b → f a < f b
theorem SMono.mono {f : Int → Int} (h : SMono f) : Mono f := fun a b c => by
  by_cases e : a = b
  · rw [e]; exact Int.le_refl _
  · exact Int.le_of_lt (h a b (by omega))
theorem SMono.iff {f : Int → Int} (h : SMono f) (a b : Int) : f a ≤ f b ↔ a ≤ b := by
  constructor
  · intro c
    by_cases e : a ≤ b
    · exact e
    · have := h b a (by omega)
      omega
  · exact h.mono a b
theorem SMono.inj {f : Int → Int} (h : SMono f) {a b : Int} (e : f a = f b) : a = b := by
  have h1 := (h.iff a b).mp (by omega)
  have h2 := (h.iff b a).mp (by omega)
  omega
theorem tb_ren {f : Int → Int} {t u : Int} {S : List Stp} (h : ∀ x, (true, x) ∈ S → (f x ≤ t ↔ x ≤ u)) : tb t (S.map (ren f)) = tb u S := by
  have : ∀ (S : List Stp) (p : Int × List Int), (∀ x, (true, x) ∈ S → (f x ≤ t ↔ x ≤ u)) → (S.map (ren f)).foldl (tstep t) p = S.foldl (tstep u) p := by
    intro S
    induction S with
    | nil => intro p _; rfl
    | cons s S ih =>
      intro p h
      rw [List.map_cons, List.foldl_cons, List.foldl_cons]
      have e : tstep t p (ren f s) = tstep u p s := by
        obtain ⟨b, k⟩ := s
        unfold tstep ren
        cases b with
        | true =>
          have := h k List.mem_cons_self
          simp only [if_true]
          by_cases c : k ≤ u
          · rw [if_pos c, if_pos (this.mpr c)]
          · rw [if_neg c, if_neg fun z => c (this.mp z)]
        | false => simp
      rw [e]
      exact ih _ fun x hx => h x (List.mem_cons_of_mem _ hx)
  exact this S _ h
theorem good_ren {f : Int → Int} {S : List Stp} (g : ∀ s ∈ S, goodS s = true) : ∀ s ∈ S.map (ren f), goodS s = true := by
  intro s hs
  obtain ⟨x, hx, rfl⟩ := List.mem_map.mp hs
  have := g x hx
  unfold ren
  split
  · rfl
  · exact this
theorem mem_ren {f : Int → Int} {S : List Stp} {y : Int} : (true, y) ∈ S.map (ren f) ↔ ∃ x, (true, x) ∈ S ∧ f x = y := by
  constructor
  · intro h
    obtain ⟨⟨b, k⟩, hs, e⟩ := List.mem_map.mp h
    unfold ren at e
    cases b with
    | true =>
      simp only [if_true] at e
      exact ⟨k, hs, by injection e⟩
    | false =>
      simp at e
  · rintro ⟨x, hx, rfl⟩
    exact List.mem_map.mpr ⟨_, hx, rfl⟩
theorem brk_ren {f : Int → Int} (m : SMono f) {S : List Stp} {B : List Int} (h : Brk S B) : Brk (S.map (ren f)) (B.map f) where
  asc := List.pairwise_map.mpr (h.asc.imp fun z => m _ _ z)
  mem := fun x => by
    rw [mem_ren, List.mem_map]
    constructor
    · rintro ⟨y, hy, e⟩
      exact ⟨y, (h.mem y).mp hy, e⟩
    · rintro ⟨y, hy, e⟩
      exact ⟨y, (h.mem y).mpr hy, e⟩
theorem tbs_ren {f : Int → Int} (m : SMono f) {S : List Stp} {B : List Int} (h : Brk S B) : tbs (S.map (ren f)) (B.map f) = tbs S B := by
  have h2 := brk_ren m h
  unfold tbs thr
  rw [List.map_cons, List.map_cons, List.map_map]
  congr 1
  · refine tb_ren fun x hx => ?_
    have l1 := low_lt h.asc x ((h.mem x).mpr hx)
    have l2 := low_lt h2.asc (f x) ((h2.mem _).mpr (mem_ren.mpr ⟨x, hx, rfl⟩))
    constructor <;> intro <;> omega
  · refine List.map_congr_left fun t ht => ?_
    exact tb_ren fun x _ => m.iff x t
theorem runs_ren {f : Int → Int} (m : Mono f) {S : List Stp} {N M : List Int} {i : Nat} (h : runR (srt N) i S = .inl M) : runR (srt (N.map f)) i (S.map (ren f)) = .inl (M.map f) := by
  rw [← srt_map m, run_map m, h]
  rfl
theorem need_ren {f : Int → Int} (m : Mono f) {S : List Stp} {N : List Int} (g : ∀ s ∈ S, goodS s = true) (h : need S ≤ N.length) : need (S.map (ren f)) ≤ (N.map f).length := by
  obtain ⟨M, hM⟩ := (run_iff (i := 0) (up_srt N) g).mpr (by rw [srt_len]; exact h)
  have := (run_iff (i := 0) (up_srt (N.map f)) (good_ren g)).mp ⟨_, runs_ren m hM⟩
  rw [srt_len] at this
  exact this
theorem ren_ren (f g : Int → Int) (S : List Stp) : (S.map (ren f)).map (ren g) = S.map (ren fun x => g (f x)) := by
  rw [List.map_map]
  refine List.map_congr_left fun s _ => ?_
  obtain ⟨b, k⟩ := s
  cases b <;> simp [ren]
theorem ren_id {f : Int → Int} (h : ∀ x, f x = x) (S : List Stp) : S.map (ren f) = S := by
  have : S.map (ren f) = S.map id := List.map_congr_left fun s _ => by
    obtain ⟨b, k⟩ := s
    cases b <;> simp [ren, h]
  rw [this, List.map_id]
theorem add_smono (o : Int) : SMono fun x => x + o := fun a b h => by show a + o < b + o; omega
/-- the law's renaming -/
def nm (n : Int) : Int := n * 7 + (if n % 5 = 0 then 0 else if n % 5 = 1 then 3 else if n % 5 = 2 then 1 else if n % 5 = 3 then 5 else 2)
theorem nm_smono : SMono nm := fun a b h => by
  unfold nm
  have h1 : (if a % 5 = 0 then 0 else if a % 5 = 1 then 3 else if a % 5 = 2 then 1 else if a % 5 = 3 then 5 else 2 : Int) ≤ 5 := by (repeat' split) <;> omega
  have h2 : (0 : Int) ≤ (if b % 5 = 0 then 0 else if b % 5 = 1 then 3 else if b % 5 = 2 then 1 else if b % 5 = 3 then 5 else 2 : Int) := by (repeat' split) <;> omega
  omega
end Eff

namespace Eff
open Tbl XT
/-! ### sums of effects -/
theorem brk_add {S M : List Stp} {B C A : List Int} (h : Brk S B) (k : Brk M C) (a : Asc A) (m : ∀ x, x ∈ A ↔ x ∈ B ∨ x ∈ C) : Brk (S ++ M) A := ⟨a, fun x => by rw [m, h.mem, k.mem, List.mem_append]⟩
theorem good_add {S M : List Stp} (g : ∀ s ∈ S, goodS s = true) (g2 : ∀ s ∈ M, goodS s = true) : ∀ s ∈ S ++ M, goodS s = true := fun s hs => (List.mem_append.mp hs).elim (g s) (g2 s)
theorem runR_app : ∀ {S M : List Stp} {N R : List Int} {i : Nat}, runR N i (S ++ M) = .inl R → ∃ Q, runR N i S = .inl Q
  | [], M, N, R, i, _ => ⟨N, rfl⟩
  | s :: S, M, N, R, i, h => by
    rw [List.cons_append] at h
    simp only [runR] at h ⊢
    cases e : stepR N s with
    | none => rw [e] at h; cases h
    | some N1 =>
      rw [e] at h
      exact runR_app h
theorem need_mono {S M : List Stp} (g : ∀ s ∈ S, goodS s = true) (g2 : ∀ s ∈ M, goodS s = true) : need S ≤ need (S ++ M) := by
  have g3 := good_add g g2
  have n0 := need_nn g3
  have u : Up (List.replicate (need (S ++ M)).toNat (0 : Int)) := List.pairwise_replicate.mpr (.inr (Int.le_refl _))
  obtain ⟨R, hR⟩ := (run_iff (i := 0) u g3).mpr (by rw [List.length_replicate]; omega)
  have := (run_iff (i := 0) u g).mp (runR_app hR)
  rw [List.length_replicate] at this
  omega
theorem grow_add (S M : List Stp) : grow (S ++ M) = grow S + grow M := by
  have t := top_top (S ++ M)
  have h1 : gr (topOf (S ++ M)) S = grow S := gr_top fun x hx => t x (List.mem_append.mpr (.inl hx))
  have h2 : gr (topOf (S ++ M)) M = grow M := gr_top fun x hx => t x (List.mem_append.mpr (.inr hx))
  show gr (topOf (S ++ M)) (S ++ M) = _
  rw [gr_append, h1, h2]
def rep (k : Nat) (S : List Stp) : List Stp := (List.replicate k S).flatten
theorem rep_succ (k : Nat) (S : List Stp) : rep (k + 1) S = rep k S ++ S := by unfold rep; rw [List.replicate_succ']; simp
theorem rep_len (k : Nat) (S : List Stp) : (rep k S).length = k * S.length := by
  induction k with
  | zero => simp [rep]
  | succ k ih => rw [rep_succ, List.length_append, ih, Nat.succ_mul]
theorem rep_good {k : Nat} {S : List Stp} (g : ∀ s ∈ S, goodS s = true) : ∀ s ∈ rep k S, goodS s = true := fun s hs => by
  unfold rep at hs
  rw [List.mem_flatten] at hs
  obtain ⟨l, h1, h2⟩ := hs
  rw [List.eq_of_mem_replicate h1] at h2
  exact g s h2
theorem rep_nil (k : Nat) : rep k [] = [] := by simp [rep]
theorem nil_iff {S : List Stp} {B : List Int} (h : Brk S B) : (∀ t, tb t S = tb t []) ↔ B = [] ∧ tb (low B) S = (0, []) := by
  rw [← eff_ext h brk_nil]
  constructor
  · rintro ⟨rfl, e⟩
    refine ⟨rfl, ?_⟩
    have e' : [tb (low []) S] = [tb (low []) ([] : List Stp)] := e
    have := List.head_eq_of_cons_eq e'
    rw [this]
    rfl
  · rintro ⟨rfl, e⟩
    refine ⟨rfl, ?_⟩
    show [tb (low []) S] = [tb (low []) ([] : List Stp)]
    rw [e]
    rfl
theorem tb_nil (t : Int) : tb t [] = (0, []) := rfl
end Eff

namespace Top
open Tbl Eff XT
/-- steps with ranks from either end -/
inductive TS where
  | ins (x : Int)
  | rem (k : Int)
  | top (k : Int)
  | med
def good : TS → Bool
  | .ins _ => true
  | .rem k => decide (0 < k)
  | .top k => decide (0 < k)
  | .med => true
/-- the ordinary step on lists of n elements -/
def ord (n : Int) : TS → Stp
  | .ins x => (true, x)
  | .rem k => (false, k)
  | .top k => (false, n + 1 - k)
  | .med => (false, (n + 1) / 2)
def okO (n : Int) (s : Stp) : Bool := s.1 || (decide (1 ≤ s.2) && decide (s.2 ≤ n))
def nxt (n : Int) (s : Stp) : Int := if s.1 = true then n + 1 else n - 1
def resolve : Int → List TS → Option (List Stp)
  | _, [] => some []
  | n, s :: S => if okO n (ord n s) = true then (resolve (nxt n (ord n s)) S).map fun R => ord n s :: R else none
theorem okO_good {n : Int} {s : Stp} (h : okO n s = true) : goodS s = true := by
  obtain ⟨b, k⟩ := s
  cases b
  · simp [okO] at h
    simp [goodS]
    omega
  · rfl
theorem nxt_nn {n : Int} {s : Stp} (h : okO n s = true) (hn : 0 ≤ n) : 0 ≤ nxt n s := by
  obtain ⟨b, k⟩ := s
  cases b
  · simp [okO] at h
    simp [nxt]
    omega
  · simp [nxt]
    omega
theorem resolve_good : ∀ {S : List TS} {n : Int} {R : List Stp}, resolve n S = some R → ∀ s ∈ R, goodS s = true
  | [], n, R, h => by cases h; intro s hs; cases hs
  | t :: S, n, R, h => by
    unfold resolve at h
    by_cases c : okO n (ord n t) = true
    · rw [if_pos c] at h
      obtain ⟨R', e, rfl⟩ := Option.map_eq_some_iff.mp h
      intro s hs
      rcases List.mem_cons.mp hs with rfl | hs
      · exact okO_good c
      · exact resolve_good e s hs
    · rw [if_neg c] at h; cases h
theorem resolve_len : ∀ {S : List TS} {n : Int} {R : List Stp}, resolve n S = some R → R.length = S.length
  | [], n, R, h => by cases h; rfl
  | t :: S, n, R, h => by
    unfold resolve at h
    by_cases c : okO n (ord n t) = true
    · rw [if_pos c] at h
      obtain ⟨R', e, rfl⟩ := Option.map_eq_some_iff.mp h
      simp [resolve_len e]
    · rw [if_neg c] at h; cases h
theorem resolve_step {S : List TS} {n : Int} {R : List Stp} {i : Nat} {t : TS} (ht : S[i]? = some t) (h : resolve n (S.drop i) = some R) : okO n (ord n t) = true ∧ ∃ R', R = ord n t :: R' ∧ resolve (nxt n (ord n t)) (S.drop (i + 1)) = some R' := by
  obtain ⟨hi, e⟩ := List.getElem?_eq_some_iff.mp ht
  rw [List.drop_eq_getElem_cons hi, e] at h
  unfold resolve at h
  by_cases c : okO n (ord n t) = true
  · rw [if_pos c] at h
    obtain ⟨R', e', rfl⟩ := Option.map_eq_some_iff.mp h
    exact ⟨c, R', rfl, e'⟩
  · rw [if_neg c] at h; cases h
/-! the counts -/
theorem smp_cons (t : Int) (s : Stp) (S : List Stp) (c : Int) : smp t (s :: S) c = smp t S (smp1 t c s) := rfl
def one (b : Bool) : Int := if b = true then 1 else 0
/-- insertions, each followed by the removal of the smallest -/
def prs : List Int → List Stp
  | [] => []
  | v :: V => (true, v) :: (false, 1) :: prs V
theorem prs_app : ∀ A B : List Int, prs (A ++ B) = prs A ++ prs B
  | [], B => rfl
  | v :: A, B => by show _ :: _ :: prs (A ++ B) = _ :: _ :: (prs A ++ prs B); rw [prs_app A B]
theorem prs_len : ∀ V : List Int, (prs V).length = 2 * V.length
  | [] => rfl
  | v :: V => by show (prs V).length + 1 + 1 = 2 * (V.length + 1); rw [prs_len V]; omega
theorem prs_good : ∀ (V : List Int), ∀ s ∈ prs V, goodS s = true
  | [], s, h => by cases h
  | v :: V, s, h => by
    rcases List.mem_cons.mp h with rfl | h
    · rfl
    · rcases List.mem_cons.mp h with rfl | h
      · rfl
      · exact prs_good V s h
theorem smp_prs (t : Int) : ∀ (V : List Int) {c : Int}, 0 ≤ c → smp t (prs V) c = max (c + cnt V t - V.length) 0
  | [], c, hc => by show c = max (c + 0 - (0 : Nat)) 0; simp; omega
  | v :: V, c, hc => by
    show smp t (prs V) (smp1 t (smp1 t c (true, v)) (false, 1)) = _
    have e : smp1 t (smp1 t c (true, v)) (false, 1) = max (c + (if v ≤ t then 1 else 0) - 1) 0 := by
      unfold smp1
      simp only [if_true, Bool.false_eq_true, if_false]
      by_cases h : v ≤ t
      · simp only [h, if_true]; split <;> omega
      · simp only [h, if_false]; split <;> omega
    rw [e, smp_prs t V (by omega), cnt_cons]
    have h1 : cnt V t ≤ V.length := by unfold cnt; exact Int.ofNat_le.mpr (List.countP_le_length)
    simp only [List.length_cons]
    split <;> omega
theorem gr_prs (t : Int) : ∀ {V : List Int}, (∀ v ∈ V, v ≤ t) → gr t (prs V) = 0
  | [], _ => rfl
  | v :: V, h => by
    show gr1 t (true, v) + (gr1 t (false, 1) + gr t (prs V)) = 0
    rw [gr_prs t fun x hx => h x (List.mem_cons_of_mem _ hx)]
    unfold gr1
    have := h v (by simp)
    simp [this]
/-- insertions, each followed by the removal of the greatest: lists of n elements -/
def tps (n : Int) : List Int → List Stp
  | [] => []
  | v :: V => (true, v) :: (false, n + 1) :: tps n V
def tpsT : List Int → List TS
  | [] => []
  | v :: V => .ins v :: .top 1 :: tpsT V
theorem tpsT_app : ∀ A B : List Int, tpsT (A ++ B) = tpsT A ++ tpsT B
  | [], B => rfl
  | v :: A, B => by show _ :: _ :: tpsT (A ++ B) = _ :: _ :: (tpsT A ++ tpsT B); rw [tpsT_app A B]
theorem tpsT_len : ∀ V : List Int, (tpsT V).length = 2 * V.length
  | [] => rfl
  | v :: V => by show (tpsT V).length + 1 + 1 = 2 * (V.length + 1); rw [tpsT_len V]; omega
theorem resolve_tps {n : Int} (hn : 0 ≤ n) : ∀ V : List Int, resolve n (tpsT V) = some (tps n V)
  | [] => rfl
  | v :: V => by
    have e1 : ord n (.ins v) = (true, v) := rfl
    have e2 : okO n (true, v) = true := rfl
    have e3 : nxt n (true, v) = n + 1 := rfl
    have e4 : ord (n + 1) (.top 1) = (false, n + 1) := by simp only [ord]; congr 1; omega
    have e5 : okO (n + 1) (false, n + 1) = true := by simp [okO]; omega
    have e6 : nxt (n + 1) (false, n + 1) = n := by simp [nxt]
    show resolve n (.ins v :: .top 1 :: tpsT V) = _
    unfold resolve
    rw [e1, if_pos e2, e3]
    unfold resolve
    rw [e4, if_pos e5, e6, resolve_tps hn V]
    rfl
theorem tps_len (n : Int) : ∀ V : List Int, (tps n V).length = 2 * V.length
  | [] => rfl
  | v :: V => by show (tps n V).length + 1 + 1 = 2 * (V.length + 1); rw [tps_len n V]; omega
theorem smp_tps {n : Int} (t : Int) : ∀ (V : List Int) {c : Int}, 0 ≤ c → c ≤ n → smp t (tps n V) c = min (c + cnt V t) n
  | [], c, h0, h1 => by show c = min (c + 0) n; omega
  | v :: V, c, h0, h1 => by
    show smp t (tps n V) (smp1 t (smp1 t c (true, v)) (false, n + 1)) = _
    have e : smp1 t (smp1 t c (true, v)) (false, n + 1) = min (c + (if v ≤ t then 1 else 0)) n := by
      unfold smp1
      simp only [if_true, Bool.false_eq_true, if_false]
      by_cases h : v ≤ t
      · simp only [h, if_true]; split <;> omega
      · simp only [h, if_false]; split <;> omega
    have c0 := cnt_nn V t
    rw [e, smp_tps t V (by split <;> omega) (by omega), cnt_cons]
    split <;> omega
theorem gr_tps {n : Int} (t : Int) : ∀ {V : List Int}, (∀ v ∈ V, v ≤ t) → gr t (tps n V) = 0
  | [], _ => rfl
  | v :: V, h => by
    show gr1 t (true, v) + (gr1 t (false, n + 1) + gr t (tps n V)) = 0
    rw [gr_tps t fun x hx => h x (List.mem_cons_of_mem _ hx)]
    unfold gr1
    have := h v (by simp)
    simp [this]
/-- removals of the smallest -/
def ones (m : Nat) : List Stp := List.replicate m (false, 1)
theorem smp_ones (t : Int) : ∀ (m : Nat) {c : Int}, 0 ≤ c → smp t (ones m) c = max (c - m) 0
  | 0, c, hc => by show c = max (c - (0 : Nat)) 0; simp; omega
  | m + 1, c, hc => by
    show smp t (ones m) (smp1 t c (false, 1)) = _
    have e : smp1 t c (false, 1) = max (c - 1) 0 := by
      unfold smp1
      simp only [Bool.false_eq_true, if_false]
      split <;> omega
    rw [e, smp_ones t m (by omega)]
    push_cast
    omega
theorem ones_good (m : Nat) : ∀ s ∈ ones m, goodS s = true := fun s hs => by rw [(List.mem_replicate.mp hs).2]; rfl
theorem gr_ones (t : Int) : ∀ m : Nat, gr t (ones m) = -(m : Int)
  | 0 => rfl
  | m + 1 => by
    show gr1 t (false, 1) + gr t (ones m) = _
    rw [gr_ones t m]
    unfold gr1
    simp
    omega
/-- removals from both ends in turn: lists of n elements -/
def ends : Int → Nat → List Stp
  | _, 0 => []
  | n, m + 1 => (false, n) :: (false, 1) :: ends (n - 2) m
def endsT (m : Nat) : List TS := (List.replicate m [TS.top 1, TS.rem 1]).flatten
theorem resolve_ends : ∀ {n : Int} {m : Nat}, 2 * (m : Int) ≤ n → resolve n (endsT m) = some (ends n m)
  | n, 0, _ => rfl
  | n, m + 1, h => by
    have e1 : ord n (.top 1) = (false, n) := by simp only [ord]; congr 1; omega
    have e2 : okO n (false, n) = true := by simp [okO]; omega
    have e3 : nxt n (false, n) = n - 1 := by simp [nxt]
    have e4 : ord (n - 1) (.rem 1) = (false, 1) := rfl
    have e5 : okO (n - 1) (false, 1) = true := by simp [okO]; omega
    have e6 : nxt (n - 1) (false, 1) = n - 2 := by simp [nxt]; omega
    show resolve n (.top 1 :: .rem 1 :: endsT m) = _
    unfold resolve
    rw [e1, if_pos e2, e3]
    unfold resolve
    rw [e4, if_pos e5, e6, resolve_ends (by omega)]
    rfl
theorem smp_ends (t : Int) : ∀ {m : Nat} {n c : Int}, 2 * (m : Int) ≤ n → 0 ≤ c → c ≤ n → smp t (ends n m) c = min (max (c - m) 0) (n - 2 * m)
  | 0, n, c, h, h0, h1 => by show c = min (max (c - (0 : Nat)) 0) (n - 2 * (0 : Nat)); simp; omega
  | m + 1, n, c, h, h0, h1 => by
    show smp t (ends (n - 2) m) (smp1 t (smp1 t c (false, n)) (false, 1)) = _
    have e : smp1 t (smp1 t c (false, n)) (false, 1) = min (max (c - 1) 0) (n - 2) := by
      unfold smp1
      simp only [Bool.false_eq_true, if_false]
      split <;> split <;> omega
    rw [e, smp_ends t (by omega) (by omega) (by omega)]
    push_cast
    omega
theorem gr_ends (t : Int) : ∀ (m : Nat) (n : Int), gr t (ends n m) = -(2 * (m : Int))
  | 0, _ => rfl
  | m + 1, n => by
    show gr1 t (false, n) + (gr1 t (false, 1) + gr t (ends (n - 2) m)) = _
    rw [gr_ends t m]
    unfold gr1
    simp
    omega
theorem ends_len : ∀ (m : Nat) (n : Int), (ends n m).length = 2 * m
  | 0, _ => rfl
  | m + 1, n => by show (ends (n - 2) m).length + 1 + 1 = 2 * (m + 1); rw [ends_len m]; omega
/-! lists cut by counts -/
theorem cnt_split (L : List Int) (k : Nat) (t : Int) : cnt L t = cnt (L.take k) t + cnt (L.drop k) t := by
  unfold cnt
  conv => lhs; rw [← List.take_append_drop k L, List.countP_append]
  push_cast
  rfl
theorem cnt_take : ∀ {L : List Int}, Up L → ∀ (k : Nat) (t : Int), cnt (L.take k) t = min (cnt L t) k
  | [], _, k, t => by
    rw [List.take_nil]
    show (0 : Int) = min 0 (k : Int)
    omega
  | x :: L, h, 0, t => by
    have := cnt_nn (x :: L) t
    show (0 : Int) = min (cnt (x :: L) t) ((0 : Nat) : Int)
    simp
    omega
  | x :: L, h, k + 1, t => by
    have hp := List.pairwise_cons.mp h
    rw [List.take_succ_cons, cnt_cons, cnt_cons, cnt_take hp.2 k t]
    by_cases hx : x ≤ t
    · rw [if_pos hx]
      push_cast
      omega
    · have z : cnt L t = 0 := cnt_zero fun y hy => by have := hp.1 y hy; omega
      rw [if_neg hx, z]
      push_cast
      omega
theorem cnt_drop {L : List Int} (h : Up L) (k : Nat) (t : Int) : cnt (L.drop k) t = max (cnt L t - k) 0 := by
  have h1 := cnt_split L k t
  have h2 := cnt_take h k t
  omega
theorem up_take {L : List Int} (h : Up L) (k : Nat) : Up (L.take k) := List.Pairwise.sublist (List.take_sublist k L) h
theorem up_drop {L : List Int} (h : Up L) (k : Nat) : Up (L.drop k) := List.Pairwise.sublist (List.drop_sublist k L) h
theorem cnt_app (A B : List Int) (t : Int) : cnt (A ++ B) t = cnt A t + cnt B t := by unfold cnt; rw [List.countP_append]; push_cast; rfl
/-- a sequence that takes all lists of n elements -/
theorem run_all {S : List Stp} {T : Int} (g : ∀ s ∈ S, goodS s = true) (tp : Eff.Top T S) {N : List Int} (h : smp T S N.length = N.length + gr T S) : ∃ M, runR (srt N) 0 S = .inl M := by
  refine (run_ok (T := T) (up_srt N) g tp).mpr ?_
  rw [srt_len]
  exact h
end Top

namespace Top
open Tbl Eff XT
theorem run_eq {S : List Stp} (g : ∀ s ∈ S, goodS s = true) {N X : List Int} (hx : smp (topOf S) S N.length = N.length + gr (topOf S) S) (uX : Up X) (hX : ∀ t, cnt X t = smp t S (cnt N t)) : runR (srt N) 0 S = .inl X := by
  obtain ⟨M, hM⟩ := run_all (T := topOf S) g (top_top S) hx
  obtain ⟨uM, cM, _⟩ := run_cnt (up_srt N) g hM
  rw [hM]
  congr 1
  exact up_ext uM uX fun t => by rw [cM t, cnt_srt, hX t]
theorem needM {S : List Stp} (g : ∀ s ∈ S, goodS s = true) {m : Nat} (h : ∀ c, 0 ≤ c → smp (topOf S) S c = max (c - m) 0) : need S = m := by
  have ok := tb_ok (t := topOf S) g
  have nn := needL_nn ok.pos
  unfold need
  have h1 : needL (tb (topOf S) S).2 ≤ (m : Int) := (needL_iff ok.asc ok.pos (Int.natCast_nonneg m)).mpr fun x hx => by
    have x1 := ok.pos x hx
    have := (mem_lost g x1).mp hx
    rw [h x (by omega), h (x - 1) (by omega)] at this
    omega
  have h2 : (m : Int) ≤ needL (tb (topOf S) S).2 := by
    by_cases h0 : m = 0
    · subst h0; exact nn
    · refine (needL_iff ok.asc ok.pos nn).mp (Int.le_refl _) m ((mem_lost g (by omega)).mpr ?_)
      rw [h m (by omega), h (m - 1) (by omega)]
      omega
  omega
theorem cnt_top {V : List Int} {t : Int} (h : ∀ v ∈ V, v ≤ t) : cnt V t = V.length := cnt_all h
theorem prs_mem : ∀ {V : List Int} {v : Int}, v ∈ V → (true, v) ∈ prs V
  | x :: V, v, h => by
    rcases List.mem_cons.mp h with rfl | h
    · exact List.mem_cons_self
    · exact List.mem_cons_of_mem _ (List.mem_cons_of_mem _ (prs_mem h))
theorem tps_mem {n : Int} : ∀ {V : List Int} {v : Int}, v ∈ V → (true, v) ∈ tps n V
  | x :: V, v, h => by
    rcases List.mem_cons.mp h with rfl | h
    · exact List.mem_cons_self
    · exact List.mem_cons_of_mem _ (List.mem_cons_of_mem _ (tps_mem h))
theorem prs_top (V : List Int) : ∀ v ∈ V, v ≤ topOf (prs V) := fun v hv => top_ge (s := (true, v)) (prs_mem hv)
theorem prs_need (V : List Int) : need (prs V) = 0 := needM (m := 0) (prs_good V) fun c hc => by
  rw [smp_prs _ V hc, cnt_top (prs_top V)]
  have e : ((0 : Nat) : Int) = 0 := rfl
  omega
theorem prs_grow (V : List Int) : grow (prs V) = 0 := gr_prs (topOf (prs V)) (prs_top V)
theorem prs_run (V N : List Int) : runR (srt N) 0 (prs V) = .inl ((srt (V ++ N)).drop V.length) := by
  refine run_eq (prs_good V) ?_ (up_drop (up_srt _) _) fun t => ?_
  · rw [smp_prs _ V (by omega), cnt_top (prs_top V), gr_prs _ (prs_top V)]
    omega
  · rw [cnt_drop (up_srt _), cnt_srt, cnt_app, smp_prs t V (cnt_nn N t)]
    congr 1
    omega
theorem smp_prs2 (t : Int) (V W : List Int) (p : W.Perm V) {c : Int} (hc : 0 ≤ c) : smp t (prs V ++ prs W) c = max (c + 2 * cnt V t - 2 * V.length) 0 := by
  have h1 : cnt V t ≤ V.length := by unfold cnt; exact Int.ofNat_le.mpr (List.countP_le_length)
  rw [smp_append, smp_prs t V hc, smp_prs t W (by omega), cnt_perm p, p.length_eq]
  omega
theorem prs2_good (V W : List Int) : ∀ s ∈ prs V ++ prs W, goodS s = true := fun s hs => (List.mem_append.mp hs).elim (prs_good V s) (prs_good W s)
theorem prs2_run (V W N E : List Int) (p : W.Perm V) (hE : E = srt (V ++ N)) : runR (srt N) 0 (prs V ++ prs W) = .inl ((srt (E ++ V)).drop (2 * V.length)) := by
  have tp : ∀ v ∈ V, v ≤ topOf (prs V ++ prs W) := fun v hv => top_ge (s := (true, v)) (List.mem_append_left _ (prs_mem hv))
  have tw : ∀ v ∈ W, v ≤ topOf (prs V ++ prs W) := fun v hv => tp v (p.mem_iff.mp hv)
  refine run_eq (prs2_good V W) ?_ (up_drop (up_srt _) _) fun t => ?_
  · rw [smp_prs2 _ V W p (by omega), cnt_top tp, gr_append, gr_prs _ tp, gr_prs _ tw]
    omega
  · rw [cnt_drop (up_srt _), cnt_srt, cnt_app, hE, cnt_srt, cnt_app, smp_prs2 t V W p (cnt_nn N t)]
    push_cast
    congr 1
    omega
theorem prs_eq (V W : List Int) (p : W.Perm V) (t : Int) : tb t (prs V) = tb t (prs W) := (tb_eq_iff (prs_good V) (prs_good W)).mpr fun c hc => by
  rw [smp_prs t V hc, smp_prs t W hc, cnt_perm p, p.length_eq]
theorem prs_eq2 (V W : List Int) (p : W.Perm V) (t : Int) : tb t (prs V ++ prs V) = tb t (prs V ++ prs W) := (tb_eq_iff (prs2_good V V) (prs2_good V W)).mpr fun c hc => by
  rw [smp_prs2 t V V (List.Perm.refl V) hc, smp_prs2 t V W p hc]
theorem tps_good {n : Int} (hn : 0 ≤ n) : ∀ (V : List Int), ∀ s ∈ tps n V, goodS s = true
  | [], s, h => by cases h
  | v :: V, s, h => by
    rcases List.mem_cons.mp h with rfl | h
    · rfl
    · rcases List.mem_cons.mp h with rfl | h
      · simp [goodS]; omega
      · exact tps_good hn V s h
theorem tps_run (V N : List Int) : runR (srt N) 0 (tps N.length V) = .inl ((srt (V ++ N)).take N.length) := by
  have tp : ∀ v ∈ V, v ≤ topOf (tps N.length V) := fun v hv => top_ge (s := (true, v)) (tps_mem hv)
  refine run_eq (tps_good (by omega) V) ?_ (up_take (up_srt _) _) fun t => ?_
  · rw [smp_tps _ V (by omega) (by omega), cnt_top tp, gr_tps _ tp]
    omega
  · have cl : cnt N t ≤ N.length := by unfold cnt; exact Int.ofNat_le.mpr (List.countP_le_length)
    rw [cnt_take (up_srt _), cnt_srt, cnt_app, smp_tps t V (cnt_nn N t) cl]
    congr 1
    omega
theorem ones_run (N : List Int) {m : Nat} (h : m ≤ N.length) : runR (srt N) 0 (ones m) = .inl ((srt N).drop m) := by
  refine run_eq (ones_good m) ?_ (up_drop (up_srt _) _) fun t => ?_
  · rw [smp_ones _ m (by omega), gr_ones]
    omega
  · rw [cnt_drop (up_srt _), cnt_srt, smp_ones t m (cnt_nn N t)]
theorem ones_need (m : Nat) : need (ones m) = m := needM (ones_good m) fun c hc => smp_ones _ m hc
theorem ends_good : ∀ {m : Nat} {n : Int}, 2 * (m : Int) ≤ n → ∀ s ∈ ends n m, goodS s = true
  | 0, n, h, s, hs => by cases hs
  | m + 1, n, h, s, hs => by
    rcases List.mem_cons.mp hs with rfl | hs
    · simp [goodS]; omega
    · rcases List.mem_cons.mp hs with rfl | hs
      · rfl
      · exact ends_good (m := m) (n := n - 2) (by omega) s hs
theorem ends_run (N : List Int) {m : Nat} (h : 2 * m ≤ N.length) : runR (srt N) 0 (ends N.length m) = .inl (((srt N).drop m).take (N.length - 2 * m)) := by
  refine run_eq (ends_good (by omega)) ?_ (up_take (up_drop (up_srt _) _) _) fun t => ?_
  · rw [smp_ends _ (by omega) (by omega) (by omega), gr_ends]
    omega
  · have cl : cnt N t ≤ N.length := by unfold cnt; exact Int.ofNat_le.mpr (List.countP_le_length)
    rw [cnt_take (up_drop (up_srt _) _), cnt_drop (up_srt _), cnt_srt, smp_ends t (by omega) (cnt_nn N t) cl]
    congr 1
    omega
end Top

namespace Top
open Tbl Eff XT
/-- a step that lists of n elements allow -/
def vld (n : Int) : TS → Bool
  | .ins _ => true
  | .rem k => decide (1 ≤ k) && decide (k ≤ n)
  | .top k => decide (1 ≤ k) && decide (k ≤ n)
  | .med => decide (1 ≤ n)
theorem vld_ok {n : Int} {s : TS} (h : vld n s = true) : okO n (ord n s) = true ∧ good s = true := by
  cases s with
  | ins x => exact ⟨rfl, rfl⟩
  | rem k =>
    simp [vld] at h
    constructor
    · show okO n (false, k) = true
      simp [okO]; omega
    · simp [good]; omega
  | top k =>
    simp [vld] at h
    constructor
    · show okO n (false, n + 1 - k) = true
      simp [okO]; omega
    · simp [good]; omega
  | med =>
    simp [vld] at h
    constructor
    · show okO n (false, (n + 1) / 2) = true
      simp [okO]; omega
    · rfl
/-- how long lists of n elements become -/
def szs : Int → List TS → Int
  | n, [] => n
  | n, s :: S => szs (nxt n (ord n s)) S
theorem resolve_cons (n : Int) (s : TS) (S : List TS) : resolve n (s :: S) = if okO n (ord n s) = true then (resolve (nxt n (ord n s)) S).map fun R => ord n s :: R else none := rfl
theorem resolve_app : ∀ {A : List TS} {B : List TS} {n : Int} {R : List Stp}, resolve n A = some R → resolve n (A ++ B) = (resolve (szs n A) B).map fun R' => R ++ R'
  | [], B, n, R, h => by cases h; simp [szs]
  | s :: A, B, n, R, h => by
    rw [resolve_cons] at h
    show resolve n (s :: (A ++ B)) = (resolve (szs (nxt n (ord n s)) A) B).map _
    rw [resolve_cons]
    by_cases c : okO n (ord n s) = true
    · rw [if_pos c] at h ⊢
      obtain ⟨R', e, rfl⟩ := Option.map_eq_some_iff.mp h
      rw [resolve_app e, Option.map_map]
      rfl
    · rw [if_neg c] at h; cases h
theorem resolve_split : ∀ {A : List TS} {B : List TS} {n : Int} {R : List Stp}, resolve n (A ++ B) = some R → ∃ R1 R2, resolve n A = some R1 ∧ resolve (szs n A) B = some R2 ∧ R = R1 ++ R2
  | [], B, n, R, h => ⟨[], R, rfl, h, rfl⟩
  | s :: A, B, n, R, h => by
    have h' : resolve n (s :: (A ++ B)) = some R := h
    unfold resolve at h'
    by_cases c : okO n (ord n s) = true
    · rw [if_pos c] at h'
      obtain ⟨R', e, rfl⟩ := Option.map_eq_some_iff.mp h'
      obtain ⟨R1, R2, h1, h2, rfl⟩ := resolve_split e
      refine ⟨ord n s :: R1, R2, ?_, h2, rfl⟩
      unfold resolve
      rw [if_pos c, h1]
      rfl
    · rw [if_neg c] at h'; cases h'
theorem szs_app : ∀ (A B : List TS) (n : Int), szs n (A ++ B) = szs (szs n A) B
  | [], B, n => rfl
  | s :: A, B, n => szs_app A B _
/-- one step of the law's own run -/
def stepT (L : List Int) (s : TS) : List Int := match ord L.length s with
  | (true, x) => srt (L ++ [x])
  | (false, k) => L.eraseIdx (k - 1).toNat
theorem stepT_R {L : List Int} {s : TS} (h : okO L.length (ord L.length s) = true) : stepR L (ord L.length s) = some (stepT L s) ∧ ((stepT L s).length : Int) = nxt L.length (ord L.length s) := by
  unfold stepT
  generalize ord L.length s = st at h ⊢
  obtain ⟨b, k⟩ := st
  cases b
  · simp [okO] at h
    have hk : (k - 1).toNat < L.length := by omega
    constructor
    · simp only [stepR]
      rw [if_neg (by omega), List.eraseIdx_eq_take_drop_succ]
      congr 2
      congr 1
      omega
    · simp only [nxt]
      rw [List.length_eraseIdx_of_lt hk]
      simp
      omega
  · constructor
    · rfl
    · simp only [nxt]
      rw [srt_len]
      simp
theorem run_done : ∀ {S : List TS} {L : List Int} {R : List Stp} {i : Nat}, resolve L.length S = some R → runR L i R = .inl (S.foldl stepT L) ∧ ((S.foldl stepT L).length : Int) = szs L.length S
  | [], L, R, i, h => by cases h; exact ⟨rfl, rfl⟩
  | s :: S, L, R, i, h => by
    unfold resolve at h
    by_cases c : okO L.length (ord L.length s) = true
    · rw [if_pos c] at h
      obtain ⟨R', e, rfl⟩ := Option.map_eq_some_iff.mp h
      obtain ⟨h1, h2⟩ := stepT_R c
      rw [← h2] at e
      obtain ⟨h3, h4⟩ := run_done (i := i + 1) e
      refine ⟨?_, ?_⟩
      · simp only [runR, h1, List.foldl_cons]
        exact h3
      · show ((S.foldl stepT (stepT L s)).length : Int) = szs (nxt L.length (ord L.length s)) S
        rw [h4, h2]
    · rw [if_neg c] at h; cases h
/-- seen in a mirror -/
def mirS (n : Int) : TS → TS
  | .ins x => .ins (0 - x)
  | .rem k => .top k
  | .top k => .rem k
  | .med => .top ((n + 1) / 2)
def mir : Int → List TS → List TS
  | _, [] => []
  | n, s :: S => mirS n s :: mir (nxt n (ord n s)) S
def neg (L : List Int) : List Int := L.map fun x => 0 - x
theorem neg_len (L : List Int) : (neg L).length = L.length := by simp [neg]
theorem up_neg {L : List Int} (h : Up L) : Up (neg L).reverse := by
  unfold Up neg
  rw [List.pairwise_reverse, List.pairwise_map]
  exact h.imp fun h => by omega
theorem mirS_vld {n : Int} {s : TS} (h : vld n s = true) (hn : 0 ≤ n) : okO n (ord n (mirS n s)) = true ∧ good (mirS n s) = true ∧ nxt n (ord n (mirS n s)) = nxt n (ord n s) := by
  cases s with
  | ins x => exact ⟨rfl, rfl, rfl⟩
  | rem k =>
    simp [vld] at h
    refine ⟨?_, ?_, ?_⟩
    · show okO n (false, n + 1 - k) = true
      simp [okO]; omega
    · simp [mirS, good]; omega
    · simp [mirS, ord, nxt]
  | top k =>
    simp [vld] at h
    refine ⟨?_, ?_, ?_⟩
    · show okO n (false, k) = true
      simp [okO]; omega
    · simp [mirS, good]; omega
    · simp [mirS, ord, nxt]
  | med =>
    simp [vld] at h
    refine ⟨?_, ?_, ?_⟩
    · show okO n (false, n + 1 - (n + 1) / 2) = true
      simp [okO]; omega
    · simp [mirS, good]; omega
    · simp [mirS, ord, nxt]
theorem erase_rev {L : List Int} {j : Nat} (h : j < L.length) : (L.eraseIdx j).reverse = L.reverse.eraseIdx (L.length - 1 - j) := by
  rw [List.eraseIdx_eq_take_drop_succ, List.eraseIdx_eq_take_drop_succ, List.reverse_append, List.take_reverse, List.drop_reverse]
  congr 2
  · congr 1
    omega
  · congr 1
    omega
theorem neg_erase (L : List Int) : ∀ j, neg (L.eraseIdx j) = (neg L).eraseIdx j := by
  unfold neg
  induction L with
  | nil => intro j; rfl
  | cons x L ih =>
    intro j
    cases j with
    | zero => rfl
    | succ j => show (0 - x) :: List.map _ (L.eraseIdx j) = (0 - x) :: (List.map _ L).eraseIdx j; rw [ih j]
theorem step_mir {L : List Int} (u : Up L) {s : TS} (h : vld L.length s = true) : stepT (neg L).reverse (mirS L.length s) = (neg (stepT L s)).reverse := by
  have hl : ((neg L).reverse.length : Int) = L.length := by rw [List.length_reverse, neg_len]
  cases s with
  | ins x =>
    show srt ((neg L).reverse ++ [0 - x]) = (neg (srt (L ++ [x]))).reverse
    refine (srt_of ?_ (up_neg (srt_up _))).symm
    have p1 : (neg (srt (L ++ [x]))).reverse.Perm (neg (L ++ [x])) := (List.reverse_perm _).trans ((srt_perm (L ++ [x])).map _)
    refine p1.trans ?_
    show (List.map _ (L ++ [x])).Perm _
    rw [List.map_append]
    exact List.Perm.append_right _ (List.reverse_perm _).symm
  | rem k =>
    simp [vld] at h
    unfold stepT
    simp only [mirS, ord]
    rw [hl, neg_erase, erase_rev (by rw [neg_len]; omega), neg_len]
    congr 1
    omega
  | top k =>
    simp [vld] at h
    unfold stepT
    simp only [mirS, ord]
    rw [neg_erase, erase_rev (by rw [neg_len]; omega), neg_len]
    congr 1
    omega
  | med =>
    simp [vld] at h
    unfold stepT
    simp only [mirS, ord]
    rw [hl, neg_erase, erase_rev (by rw [neg_len]; omega), neg_len]
    congr 1
    omega
/-- all steps are allowed -/
def vlds : Int → List TS → Prop
  | _, [] => True
  | n, s :: S => vld n s = true ∧ vlds (nxt n (ord n s)) S
theorem vlds_snoc : ∀ {S : List TS} {n : Int} {s : TS}, vlds n S → vld (szs n S) s = true → vlds n (S ++ [s])
  | [], n, s, _, h => ⟨h, trivial⟩
  | t :: S, n, s, h, h2 => ⟨h.1, vlds_snoc h.2 h2⟩
theorem vlds_res : ∀ {S : List TS} {n : Int}, 0 ≤ n → vlds n S → ∃ R, resolve n S = some R
  | [], n, _, _ => ⟨[], rfl⟩
  | s :: S, n, hn, h => by
    have ok := (vld_ok h.1).1
    obtain ⟨R, hR⟩ := vlds_res (nxt_nn ok hn) h.2
    refine ⟨ord n s :: R, ?_⟩
    unfold resolve
    rw [if_pos ok, hR]
    rfl
theorem vlds_good : ∀ {S : List TS} {n : Int}, vlds n S → ∀ s ∈ S, good s = true
  | t :: S, n, h, s, hs => by
    rcases List.mem_cons.mp hs with rfl | hs
    · exact (vld_ok h.1).2
    · exact vlds_good h.2 s hs
theorem mir_res : ∀ {S : List TS} {n : Int}, 0 ≤ n → vlds n S → (∃ R, resolve n (mir n S) = some R) ∧ ∀ s ∈ mir n S, good s = true
  | [], n, _, _ => ⟨⟨[], rfl⟩, fun s hs => by cases hs⟩
  | s :: S, n, hn, h => by
    obtain ⟨h1, h2, h3⟩ := mirS_vld h.1 hn
    obtain ⟨⟨R, hR⟩, hg⟩ := mir_res (nxt_nn (vld_ok h.1).1 hn) h.2
    refine ⟨⟨ord n (mirS n s) :: R, ?_⟩, fun t ht => ?_⟩
    · show resolve n (mirS n s :: mir (nxt n (ord n s)) S) = _
      unfold resolve
      rw [if_pos h1, h3, hR]
      rfl
    · rcases List.mem_cons.mp ht with rfl | ht
      · exact h2
      · exact hg t ht
theorem up_stepT {L : List Int} (u : Up L) (s : TS) : Up (stepT L s) := by
  unfold stepT
  generalize ord L.length s = st
  obtain ⟨b, k⟩ := st
  cases b
  · exact List.Pairwise.sublist (List.eraseIdx_sublist _ _) u
  · exact srt_up _
theorem fold_mir : ∀ {S : List TS} {L : List Int}, Up L → vlds L.length S → (mir L.length S).foldl stepT (neg L).reverse = (neg (S.foldl stepT L)).reverse
  | [], L, _, _ => rfl
  | s :: S, L, u, h => by
    have e := (stepT_R (vld_ok h.1).1).2
    have h2 := h.2
    rw [← e] at h2
    show (mir (nxt L.length (ord L.length s)) S).foldl stepT (stepT (neg L).reverse (mirS L.length s)) = _
    rw [step_mir u h.1, ← e]
    exact fold_mir (up_stepT u s) h2
theorem mir_snoc : ∀ (S : List TS) (n : Int) (s : TS), mir n (S ++ [s]) = mir n S ++ [mirS (szs n S) s]
  | [], n, s => rfl
  | t :: S, n, s => by show mirS n t :: mir _ (S ++ [s]) = _; rw [mir_snoc S]; rfl
theorem mir_len : ∀ (S : List TS) (n : Int), (mir n S).length = S.length
  | [], n => rfl
  | t :: S, n => by show (mir _ S).length + 1 = _; rw [mir_len S]; rfl
theorem szs_snoc (S : List TS) (n : Int) (s : TS) : szs n (S ++ [s]) = nxt (szs n S) (ord (szs n S) s) := by rw [szs_app]; rfl
theorem szs_nn : ∀ {S : List TS} {n : Int}, 0 ≤ n → vlds n S → 0 ≤ szs n S
  | [], n, h, _ => h
  | s :: S, n, hn, h => szs_nn (S := S) (nxt_nn (vld_ok h.1).1 hn) h.2
end Top

namespace Top
open Tbl Eff XT
def pre1 (s : Stp) : List Stp ⊕ Nat → List Stp ⊕ Nat
  | .inl R => .inl (s :: R)
  | .inr j => .inr j
/-- the ordinary steps, or the index of the first step that fails -/
def outc : Int → List TS → Nat → List Stp ⊕ Nat
  | _, [], _ => .inl []
  | n, s :: S, i => if okO n (ord n s) = true then pre1 (ord n s) (outc (nxt n (ord n s)) S (i + 1)) else .inr i
def pre (F : List Stp) : List Stp ⊕ Nat → List Stp ⊕ Nat
  | .inl R => .inl (F ++ R)
  | .inr j => .inr j
theorem pre_nil (x : List Stp ⊕ Nat) : pre [] x = x := by cases x <;> rfl
theorem pre_pre1 (F : List Stp) (s : Stp) (x : List Stp ⊕ Nat) : pre F (pre1 s x) = pre (F ++ [s]) x := by
  cases x with
  | inl R => show Sum.inl (F ++ s :: R) = Sum.inl (F ++ [s] ++ R); rw [List.append_assoc]; rfl
  | inr j => rfl
theorem outc_ok {S : List TS} {m : Int} {F : List Stp} {i : Nat} {t : TS} (ht : S[i]? = some t) (h : okO m (ord m t) = true) : pre F (outc m (S.drop i) i) = pre (F ++ [ord m t]) (outc (nxt m (ord m t)) (S.drop (i + 1)) (i + 1)) := by
  obtain ⟨hi, e⟩ := List.getElem?_eq_some_iff.mp ht
  rw [List.drop_eq_getElem_cons hi, e]
  show pre F (if okO m (ord m t) = true then _ else _) = _
  rw [if_pos h, pre_pre1]
theorem outc_no {S : List TS} {m : Int} {F : List Stp} {i : Nat} {t : TS} (ht : S[i]? = some t) (h : ¬ okO m (ord m t) = true) : pre F (outc m (S.drop i) i) = .inr i := by
  obtain ⟨hi, e⟩ := List.getElem?_eq_some_iff.mp ht
  rw [List.drop_eq_getElem_cons hi, e]
  show pre F (if okO m (ord m t) = true then _ else _) = _
  rw [if_neg h]
  rfl
theorem outc_end (F : List Stp) (m : Int) (S : List TS) (k : Nat) (h : S.length ≤ k) : pre F (outc m (S.drop k) k) = .inl F := by
  rw [List.drop_eq_nil_of_le h]
  show Sum.inl (F ++ []) = _
  rw [List.append_nil]
end Top

namespace XT
open PySem PySem.Spec PySem.Calls PyProof.Rows L2
section
variable {prog : Program} {w : World} {A : Around} {E : Value → Shared → Prop} {s : Shared}
/-- first, *middle, last of a tuple: the items, the middle ones in a new list -/
theorem star_tuple {l : Addr} {items : Array Value} {n i : Nat} {Q : List Value → Shared → Prop} (hl : IsTup s.heap l items) (hh : A.handled = none) (hi : i < n) (hn : n ≤ items.size + 1) (hz : items.size ≤ sizeLine)
    (h : ∀ (h' : Heap) tk, (∀ b o, s.heap.get? b = some o → h'.get? b = some o) → Q (items.toList.take i ++ [.ref h'.objs.size] ++ (items.toList.drop i).drop (items.size + 1 - n)) { s with heap := h'.push { cls := .type "list", data := .seq ((items.toList.drop i).take (items.size + 1 - n)).toArray }, toks := tk }) :
    wpAny (model prog w) A (unpackItems (.ref l) n (some i)) Q E s := by
  have hlt : l ≠ s.heap.objs.size := by obtain ⟨o, ho, _⟩ := hl; exact Nat.ne_of_lt (Heap.lt_size ho)
  have hll : l < s.heap.objs.size := by obtain ⟨o, ho, _⟩ := hl; exact Heap.lt_size ho
  unfold unpackItems
  refine wpAny_bind ?_
  unfold notIterableAtAll
  refine wpAny_bind (wpAny_specialOf hl.typeIs slot_tuple_iter.lookup ?_)
  refine wpAny_pure ?_
  simp only [Bool.false_eq_true, if_false]
  refine wpAny_bind (wpAny_holding (iter_tuple hl ?_))
  refine wpAny_bind (wpAny_holding (draw_tuple hlt i 0 _ _ ⟨_, Heap.get?_push_size _ rfl, rfl, rfl⟩ (hl.push _) (by omega) fun h₁ hit₁ hs₁ => ?_))
  have hl₁ : IsTup h₁ l items := (hl.push _).extBut hs₁.extBut hlt
  rw [Nat.zero_add] at hit₁
  have hit₁' := hit₁
  obtain ⟨oi, hoi, _⟩ := hit₁'
  have hl₁' := hl₁
  obtain ⟨ol, hol, _⟩ := hl₁'
  rw [List.drop_zero]
  have hfl : (items.toList.take i).length = i := by rw [List.length_take, Array.length_toList]; omega
  rw [if_neg (show ¬ ((items.toList.take i).length < i) by rw [hfl]; omega)]
  refine wpAny_bind (wpAny_holding (PySem.W.kun_collect (s := { s with heap := h₁ }) (T := "tuple_iterator") (.inr (.inr (.inr rfl))) (Walks.tuple (A := A.in1) hh s.heap.objs.size l hlt items) (fun j u st => st.1.typeIs) (k := i) (by omega) ⟨hit₁, hl₁⟩ (Heap.lt_size hoi) (Heap.lt_size hol) (fun h₂ tk hk => ?_) hz))
  have hrl : (items.toList.drop i).length = items.size - i := by rw [List.length_drop, Array.length_toList]
  have hmid : (items.toList.drop i).length - (n - 1 - i) = items.size + 1 - n := by rw [hrl]; omega
  show wpAny _ _ (if (items.toList.drop i).length < n - 1 - i then _ else _) _ _ _
  rw [if_neg (by rw [hrl]; omega)]
  show wpAny _ _ (newList ((items.toList.drop i).take ((items.toList.drop i).length - (n - 1 - i))) >>= fun d => pure (items.toList.take i ++ [d] ++ (items.toList.drop i).drop ((items.toList.drop i).length - (n - 1 - i)))) _ _ _
  rw [hmid]
  refine wpAny_bind (wpAny_newList ?_ (by rw [List.length_take, hrl]; omega))
  refine wpAny_pure (h h₂ tk fun b o e => ?_)
  have hb : b ≠ s.heap.objs.size := Nat.ne_of_lt (Heap.lt_size e)
  exact hk b o hb (hs₁.extBut b o hb (Heap.get?_push_of_some _ e))
end
section
variable {X : Cx} {pos : Pos}
theorem pgs_star {e : Expr} {p : Pos} {es : List Expr} {t : TG} {u : TGs} (h1 : PG X e t) (h2 : PGs X es u)
    (hs : (assignEach (.Starred e p :: es) X.env).map (·.2) = assign e X.env :: (assignEach es X.env).map (·.2) := by rfl) : PGs X (.Starred e p :: es) (gCons t u) := by
  refine ⟨fun pins s σ H vs us Q I r h => ?_⟩
  obtain ⟨v, vr, e1, h⟩ := h
  subst e1
  cases r with
  | cons r rr =>
    rw [hs]
    refine assignInOrder_cons (thn (h1.run pins s σ H _ _ _ I r h) fun _ s1 ⟨σ1, H1, I1, q1⟩ => ?_)
    exact h2.run pins s1 σ1 H1 _ _ Q I1 rr q1
/-- a, *b = a tuple -/
def gStar (K : PySem.W.Frag) (n i : Nat) (t : TGs) : TG := fun v σ H Q => ∃ a xs, v = .ref a ∧ SqT K H a xs ∧ n ≤ xs.length + 1 ∧
  ∀ D, H D = Option.none → t (xs.take i ++ [.ref D] ++ (xs.drop i).drop (xs.length + 1 - n)) σ (upd H D (.lst ((xs.drop i).take (xs.length + 1 - n)))) Q
theorem vals_app {xs ys : List V} {us vs : List Value} (h : Vals xs us) (k : Vals ys vs) : Vals (xs ++ ys) (us ++ vs) := by
  induction h with
  | nil => exact k
  | cons a b ih => exact .cons a ih
theorem vals_take {xs : List V} {us : List Value} (h : Vals xs us) : ∀ n, Vals (xs.take n) (us.take n) := by
  induction h with
  | nil => intro n; simp; exact .nil
  | cons a b ih =>
    intro n
    cases n with
    | zero => exact .nil
    | succ n => exact .cons a (ih n)
theorem vals_drop {xs : List V} {us : List Value} (h : Vals xs us) : ∀ n, Vals (xs.drop n) (us.drop n) := by
  induction h with
  | nil => intro n; simp; exact .nil
  | cons a b ih =>
    intro n
    cases n with
    | zero => exact .cons a b
    | succ n => exact ih n
theorem pg_star {es : List Expr} {k : Nat} {t : TGs} {n i : Nat} (K : PySem.W.Frag) (hc : X.calm = true) (h : PGs X es t) (hi : i < n) (hK : X.K = K := by rfl)
    (hn : (assignEach es X.env).length = n := by rfl) (hst : (assignEach es X.env).findIdx? (·.1) = some i := by rfl) : PG X (.Tuple es k pos) (gStar K n i t) := by
  subst hK
  refine ⟨fun pins s σ H v u Q I r hw => ?_⟩
  obtain ⟨a, xs, e1, hq, hl, hw⟩ := hw
  subst e1
  cases r
  obtain ⟨its, rv, ht, hz⟩ := I.tuple hq
  have hlen : its.length = xs.length := rv.length.symm
  rw [assign_Tuple]
  refine wpAny_bind (wpAny_standAt ?_)
  unfold unpack
  rw [hn, hst]
  refine wpAny_bind (wpAny_holding (star_tuple ht (I.ok.hd hc) hi (by simp [hlen]; omega) (by simp [hlen]; exact hz) fun h' tk hk => ?_))
  have I1 : Inv X pins σ H { s with heap := h', toks := tk } := I.kept hk
  have hf : H h'.objs.size = Option.none := I1.hok.fresh (Nat.le_refl _)
  have hsz : its.toArray.size + 1 - n = xs.length + 1 - n := by simp [hlen]
  rw [hsz]
  simp only [List.toList_toArray]
  have vm : Vals ((xs.drop i).take (xs.length + 1 - n)) ((its.drop i).take (xs.length + 1 - n)) := vals_take (vals_drop rv i) _
  have I2 : Inv X pins σ (upd H h'.objs.size (.lst ((xs.drop i).take (xs.length + 1 - n)))) { s with heap := h'.push { cls := .type "list", data := .seq ((its.drop i).take (xs.length + 1 - n)).toArray }, toks := tk } :=
    I1.laid (fun b u e => Heap.get?_push_of_some _ e) (Nat.le_refl _) (show ObjOk X.prog X.w _ _ _ (.lst ((xs.drop i).take (xs.length + 1 - n))) from ⟨by rw [List.length_take, List.length_drop]; exact Nat.le_trans (Nat.min_le_right _ _) (Nat.le_trans (Nat.sub_le _ _) hz), _, _, vm, Heap.get?_push_size _ rfl⟩)
  exact h.run pins _ σ _ _ _ Q I2 (vals_app (vals_app (vals_take rv i) (show Vals [V.ref h'.objs.size] [Value.ref h'.objs.size] from .cons rfl .nil)) (vals_drop (vals_drop rv i) _)) (hw _ hf)
end
end XT

namespace K41
open PySem L2 XT
def top (i : Nat) : Stmt := PySem.Challenge.pw_rankeffect_k41_steps_from_the_top.main.body.getD i (.Pass ⟨0, 0, 0, 0⟩)

abbrev s_is_integer : Stmt := top 2
abbrev N_is_integer : List Str := ["value"]
theorem sc_is_integer : FnScope N_is_integer ["value"] (defScope s_is_integer) := ⟨rfl, rfl, rfl, by decide +kernel, rfl, by decide +kernel, by decide +kernel⟩
theorem bn_is_integer : XT.Bnd "is_integer" "is_integer" s_is_integer ["value"] := fun _ _ _ _ _ _ us hl => match us, hl with | [_], _ => rfl

abbrev s_is_count : Stmt := top 3
abbrev N_is_count : List Str := ["value"]
theorem sc_is_count : FnScope N_is_count ["value"] (defScope s_is_count) := ⟨rfl, rfl, rfl, by decide +kernel, rfl, by decide +kernel, by decide +kernel⟩
theorem bn_is_count : XT.Bnd "is_count" "is_count" s_is_count ["value"] := fun _ _ _ _ _ _ us hl => match us, hl with | [_], _ => rfl

abbrev s_is_rank : Stmt := top 4
abbrev N_is_rank : List Str := ["value"]
theorem sc_is_rank : FnScope N_is_rank ["value"] (defScope s_is_rank) := ⟨rfl, rfl, rfl, by decide +kernel, rfl, by decide +kernel, by decide +kernel⟩
theorem bn_is_rank : XT.Bnd "is_rank" "is_rank" s_is_rank ["value"] := fun _ _ _ _ _ _ us hl => match us, hl with | [_], _ => rfl

abbrev s_InvalidStep___init__ : Stmt := inClass (top 9) 0
abbrev N_InvalidStep___init__ : List Str := ["self", "value"]
theorem sc_InvalidStep___init__ : FnScope N_InvalidStep___init__ ["self", "value"] (defScope s_InvalidStep___init__) := ⟨rfl, rfl, rfl, by decide +kernel, rfl, by decide +kernel, by decide +kernel⟩
theorem bn_InvalidStep___init__ : XT.Bnd "__init__" "InvalidStep.__init__" s_InvalidStep___init__ ["self", "value"] := fun _ _ _ _ _ _ us hl => match us, hl with | [_, _], _ => rfl

abbrev s_InvalidNumber___init__ : Stmt := inClass (top 10) 0
abbrev N_InvalidNumber___init__ : List Str := ["self", "value"]
theorem sc_InvalidNumber___init__ : FnScope N_InvalidNumber___init__ ["self", "value"] (defScope s_InvalidNumber___init__) := ⟨rfl, rfl, rfl, by decide +kernel, rfl, by decide +kernel, by decide +kernel⟩
theorem bn_InvalidNumber___init__ : XT.Bnd "__init__" "InvalidNumber.__init__" s_InvalidNumber___init__ ["self", "value"] := fun _ _ _ _ _ _ us hl => match us, hl with | [_, _], _ => rfl

abbrev s_StepFailed___init__ : Stmt := inClass (top 11) 0
abbrev N_StepFailed___init__ : List Str := ["self", "index"]
theorem sc_StepFailed___init__ : FnScope N_StepFailed___init__ ["self", "index"] (defScope s_StepFailed___init__) := ⟨rfl, rfl, rfl, by decide +kernel, rfl, by decide +kernel, by decide +kernel⟩
theorem bn_StepFailed___init__ : XT.Bnd "__init__" "StepFailed.__init__" s_StepFailed___init__ ["self", "index"] := fun _ _ _ _ _ _ us hl => match us, hl with | [_, _], _ => rfl

abbrev s_Sequence___init__ : Stmt := inClass (top 15) 0
abbrev N_Sequence___init__ : List Str := ["self", "steps", "step"]
theorem sc_Sequence___init__ : FnScope N_Sequence___init__ ["self", "steps"] (defScope s_Sequence___init__) := ⟨rfl, rfl, rfl, by decide +kernel, rfl, by decide +kernel, by decide +kernel⟩
theorem bn_Sequence___init__ : XT.BndS "__init__" "Sequence.__init__" s_Sequence___init__ ["self"] "steps" := fun _ _ _ _ _ _ us rest hl => StX.bind_star1 (B := fun us => bindArgs _ ⟨us, []⟩) (fun _ => rfl) (fun _ _ _ => rfl) us rest hl

abbrev s_Sequence_is_step : Stmt := inClass (top 15) 1
abbrev N_Sequence_is_step : List Str := ["value", "word", "number"]
theorem sc_Sequence_is_step : FnScope N_Sequence_is_step ["value"] (defScope s_Sequence_is_step) := ⟨rfl, rfl, rfl, by decide +kernel, rfl, by decide +kernel, by decide +kernel⟩
theorem bn_Sequence_is_step : XT.Bnd "is_step" "Sequence.is_step" s_Sequence_is_step ["value"] := fun _ _ _ _ _ _ us hl => match us, hl with | [_], _ => rfl

abbrev s_Sequence_steps : Stmt := inClass (top 15) 2
abbrev N_Sequence_steps : List Str := ["self"]
theorem sc_Sequence_steps : FnScope N_Sequence_steps ["self"] (defScope s_Sequence_steps) := ⟨rfl, rfl, rfl, by decide +kernel, rfl, by decide +kernel, by decide +kernel⟩
theorem bn_Sequence_steps : XT.Bnd "steps" "Sequence.steps" s_Sequence_steps ["self"] := fun _ _ _ _ _ _ us hl => match us, hl with | [_], _ => rfl

abbrev s_is_any_step : Stmt := top 17
abbrev N_is_any_step : List Str := ["value", "word", "others"]
theorem sc_is_any_step : FnScope N_is_any_step ["value"] (defScope s_is_any_step) := ⟨rfl, rfl, rfl, by decide +kernel, rfl, by decide +kernel, by decide +kernel⟩
theorem bn_is_any_step : XT.Bnd "is_any_step" "is_any_step" s_is_any_step ["value"] := fun _ _ _ _ _ _ us hl => match us, hl with | [_], _ => rfl

abbrev s_ordinary_step : Stmt := top 18
abbrev N_ordinary_step : List Str := ["length", "step"]
theorem sc_ordinary_step : FnScope N_ordinary_step ["length", "step"] (defScope s_ordinary_step) := ⟨rfl, rfl, rfl, by decide +kernel, rfl, by decide +kernel, by decide +kernel⟩
theorem bn_ordinary_step : XT.Bnd "ordinary_step" "ordinary_step" s_ordinary_step ["length", "step"] := fun _ _ _ _ _ _ us hl => match us, hl with | [_, _], _ => rfl

abbrev s_resolved : Stmt := top 19
abbrev N_resolved : List Str := ["length", "steps", "step", "found", "index", "word", "number"]
theorem sc_resolved : FnScope N_resolved ["length", "steps"] (defScope s_resolved) := ⟨rfl, rfl, rfl, by decide +kernel, rfl, by decide +kernel, by decide +kernel⟩
theorem bn_resolved : XT.Bnd "resolved" "resolved" s_resolved ["length", "steps"] := fun _ _ _ _ _ _ us hl => match us, hl with | [_, _], _ => rfl

abbrev s_law_pool : Stmt := top 21
abbrev N_law_pool : List Str := ["_law_script", "_law_k", "_law_cell", "_law_mixed"]
theorem sc_law_pool : FnScope N_law_pool ["_law_script", "_law_k"] (defScope s_law_pool) := ⟨rfl, rfl, rfl, by decide +kernel, rfl, by decide +kernel, by decide +kernel⟩
theorem bn_law_pool : XT.Bnd "_law_pool" "_law_pool" s_law_pool ["_law_script", "_law_k"] := fun _ _ _ _ _ _ us hl => match us, hl with | [_, _], _ => rfl

abbrev s_law_take : Stmt := top 22
abbrev N_law_take : List Str := ["_law_pool_here", "_law_count", "_law_result"]
theorem sc_law_take : FnScope N_law_take ["_law_pool_here", "_law_count"] (defScope s_law_take) := ⟨rfl, rfl, rfl, by decide +kernel, rfl, by decide +kernel, by decide +kernel⟩
theorem bn_law_take : XT.Bnd "_law_take" "_law_take" s_law_take ["_law_pool_here", "_law_count"] := fun _ _ _ _ _ _ us hl => match us, hl with | [_, _], _ => rfl

abbrev s_law_wide : Stmt := top 23
abbrev N_law_wide : List Str := ["_law_pool_here", "_law_kind"]
theorem sc_law_wide : FnScope N_law_wide ["_law_pool_here"] (defScope s_law_wide) := ⟨rfl, rfl, rfl, by decide +kernel, rfl, by decide +kernel, by decide +kernel⟩
theorem bn_law_wide : XT.Bnd "_law_wide" "_law_wide" s_law_wide ["_law_pool_here"] := fun _ _ _ _ _ _ us hl => match us, hl with | [_], _ => rfl

abbrev s_law_ordinary : Stmt := top 24
abbrev N_law_ordinary : List Str := ["_law_step", "_law_size"]
theorem sc_law_ordinary : FnScope N_law_ordinary ["_law_step", "_law_size"] (defScope s_law_ordinary) := ⟨rfl, rfl, rfl, by decide +kernel, rfl, by decide +kernel, by decide +kernel⟩
theorem bn_law_ordinary : XT.Bnd "_law_ordinary" "_law_ordinary" s_law_ordinary ["_law_step", "_law_size"] := fun _ _ _ _ _ _ us hl => match us, hl with | [_, _], _ => rfl

abbrev s_law_due : Stmt := top 25
abbrev N_law_due : List Str := ["_law_size", "_law_steps", "_law_result", "_law_index", "_law_step", "_law_plain"]
theorem sc_law_due : FnScope N_law_due ["_law_size", "_law_steps"] (defScope s_law_due) := ⟨rfl, rfl, rfl, by decide +kernel, rfl, by decide +kernel, by decide +kernel⟩
theorem bn_law_due : XT.Bnd "_law_due" "_law_due" s_law_due ["_law_size", "_law_steps"] := fun _ _ _ _ _ _ us hl => match us, hl with | [_, _], _ => rfl

abbrev s_law_told : Stmt := top 26
abbrev N_law_told : List Str := ["_law_size", "_law_steps", "e"]
theorem sc_law_told : FnScope N_law_told ["_law_size", "_law_steps"] (defScope s_law_told) := ⟨rfl, rfl, rfl, by decide +kernel, rfl, by decide +kernel, by decide +kernel⟩
theorem bn_law_told : XT.Bnd "_law_told" "_law_told" s_law_told ["_law_size", "_law_steps"] := fun _ _ _ _ _ _ us hl => match us, hl with | [_, _], _ => rfl

abbrev s_law_check_errors : Stmt := top 27
abbrev N_law_check_errors : List Str := ["_law_pool_here", "_law_steps", "_law_bad", "_law_pos", "_law_some"]
theorem sc_law_check_errors : FnScope N_law_check_errors ["_law_pool_here", "_law_steps"] (defScope s_law_check_errors) := ⟨rfl, rfl, rfl, by decide +kernel, rfl, by decide +kernel, by decide +kernel⟩
theorem bn_law_check_errors : XT.Bnd "_law_check_errors" "_law_check_errors" s_law_check_errors ["_law_pool_here", "_law_steps"] := fun _ _ _ _ _ _ us hl => match us, hl with | [_, _], _ => rfl

abbrev s_law_check_great : Stmt := top 28
abbrev N_law_check_great : List Str := ["_law_pool_here", "_law_size", "_law_ranks", "_law_steps", "_law_turn", "_law_kind", "_law_rank", "_law_due_here"]
theorem sc_law_check_great : FnScope N_law_check_great ["_law_pool_here"] (defScope s_law_check_great) := ⟨rfl, rfl, rfl, by decide +kernel, rfl, by decide +kernel, by decide +kernel⟩
theorem bn_law_check_great : XT.Bnd "_law_check_great" "_law_check_great" s_law_check_great ["_law_pool_here"] := fun _ _ _ _ _ _ us hl => match us, hl with | [_], _ => rfl

abbrev s_law : Stmt := top 29
abbrev N_law : List Str := ["_law_script", "_law_k", "_law_pool_here", "_law_turn", "_law_size", "_law_steps", "_law_place", "_law_due_here", "_law_before"]
theorem sc_law : FnScope N_law ["_law_script"] (defScope s_law) := ⟨rfl, rfl, rfl, by decide +kernel, rfl, by decide +kernel, by decide +kernel⟩
theorem bn_law : XT.Bnd "law" "law" s_law ["_law_script"] := fun _ _ _ _ _ _ us hl => match us, hl with | [_], _ => rfl

structure Ads where
  is_integer : Addr
  is_count : Addr
  is_rank : Addr
  InvalidStep___init__ : Addr
  InvalidNumber___init__ : Addr
  StepFailed___init__ : Addr
  Sequence___init__ : Addr
  Sequence_is_step : Addr
  Sequence_steps : Addr
  is_any_step : Addr
  ordinary_step : Addr
  resolved : Addr
  law_pool : Addr
  law_take : Addr
  law_wide : Addr
  law_ordinary : Addr
  law_due : Addr
  law_told : Addr
  law_check_errors : Addr
  law_check_great : Addr
  law : Addr
  RankError : Addr
  InvalidStep : Addr
  InvalidNumber : Addr
  StepFailed : Addr
  Sequence : Addr
  P_steps : Addr
  S_is_step : Addr

structure Txt (K : PySem.W.Frag) (mg : Str → Option Value) (a : Ads) : Prop where
  F_is_integer : ∃ fd, Fun K "is_integer" "is_integer" s_is_integer a.is_integer fd
  g_is_integer : mg "is_integer" = some (.ref a.is_integer)
  k_is_integer : PySem.W.keepIn K (.ref a.is_integer) = true
  F_is_count : ∃ fd, Fun K "is_count" "is_count" s_is_count a.is_count fd
  g_is_count : mg "is_count" = some (.ref a.is_count)
  k_is_count : PySem.W.keepIn K (.ref a.is_count) = true
  F_is_rank : ∃ fd, Fun K "is_rank" "is_rank" s_is_rank a.is_rank fd
  g_is_rank : mg "is_rank" = some (.ref a.is_rank)
  k_is_rank : PySem.W.keepIn K (.ref a.is_rank) = true
  F_InvalidStep___init__ : ∃ fd, Fun K "__init__" "InvalidStep.__init__" s_InvalidStep___init__ a.InvalidStep___init__ fd
  F_InvalidNumber___init__ : ∃ fd, Fun K "__init__" "InvalidNumber.__init__" s_InvalidNumber___init__ a.InvalidNumber___init__ fd
  F_StepFailed___init__ : ∃ fd, Fun K "__init__" "StepFailed.__init__" s_StepFailed___init__ a.StepFailed___init__ fd
  F_Sequence___init__ : ∃ fd, Fun K "__init__" "Sequence.__init__" s_Sequence___init__ a.Sequence___init__ fd
  F_Sequence_is_step : ∃ fd, Fun K "is_step" "Sequence.is_step" s_Sequence_is_step a.Sequence_is_step fd
  F_Sequence_steps : ∃ fd, Fun K "steps" "Sequence.steps" s_Sequence_steps a.Sequence_steps fd
  F_is_any_step : ∃ fd, Fun K "is_any_step" "is_any_step" s_is_any_step a.is_any_step fd
  g_is_any_step : mg "is_any_step" = some (.ref a.is_any_step)
  k_is_any_step : PySem.W.keepIn K (.ref a.is_any_step) = true
  F_ordinary_step : ∃ fd, Fun K "ordinary_step" "ordinary_step" s_ordinary_step a.ordinary_step fd
  g_ordinary_step : mg "ordinary_step" = some (.ref a.ordinary_step)
  k_ordinary_step : PySem.W.keepIn K (.ref a.ordinary_step) = true
  F_resolved : ∃ fd, Fun K "resolved" "resolved" s_resolved a.resolved fd
  g_resolved : mg "resolved" = some (.ref a.resolved)
  k_resolved : PySem.W.keepIn K (.ref a.resolved) = true
  F_law_pool : ∃ fd, Fun K "_law_pool" "_law_pool" s_law_pool a.law_pool fd
  g_law_pool : mg "_law_pool" = some (.ref a.law_pool)
  k_law_pool : PySem.W.keepIn K (.ref a.law_pool) = true
  F_law_take : ∃ fd, Fun K "_law_take" "_law_take" s_law_take a.law_take fd
  g_law_take : mg "_law_take" = some (.ref a.law_take)
  k_law_take : PySem.W.keepIn K (.ref a.law_take) = true
  F_law_wide : ∃ fd, Fun K "_law_wide" "_law_wide" s_law_wide a.law_wide fd
  g_law_wide : mg "_law_wide" = some (.ref a.law_wide)
  k_law_wide : PySem.W.keepIn K (.ref a.law_wide) = true
  F_law_ordinary : ∃ fd, Fun K "_law_ordinary" "_law_ordinary" s_law_ordinary a.law_ordinary fd
  g_law_ordinary : mg "_law_ordinary" = some (.ref a.law_ordinary)
  k_law_ordinary : PySem.W.keepIn K (.ref a.law_ordinary) = true
  F_law_due : ∃ fd, Fun K "_law_due" "_law_due" s_law_due a.law_due fd
  g_law_due : mg "_law_due" = some (.ref a.law_due)
  k_law_due : PySem.W.keepIn K (.ref a.law_due) = true
  F_law_told : ∃ fd, Fun K "_law_told" "_law_told" s_law_told a.law_told fd
  g_law_told : mg "_law_told" = some (.ref a.law_told)
  k_law_told : PySem.W.keepIn K (.ref a.law_told) = true
  F_law_check_errors : ∃ fd, Fun K "_law_check_errors" "_law_check_errors" s_law_check_errors a.law_check_errors fd
  g_law_check_errors : mg "_law_check_errors" = some (.ref a.law_check_errors)
  k_law_check_errors : PySem.W.keepIn K (.ref a.law_check_errors) = true
  F_law_check_great : ∃ fd, Fun K "_law_check_great" "_law_check_great" s_law_check_great a.law_check_great fd
  g_law_check_great : mg "_law_check_great" = some (.ref a.law_check_great)
  k_law_check_great : PySem.W.keepIn K (.ref a.law_check_great) = true
  F_law : ∃ fd, Fun K "law" "law" s_law a.law fd
  g_law : mg "law" = some (.ref a.law)
  k_law : PySem.W.keepIn K (.ref a.law) = true
  b_type : mg "type" = none
  b_int : mg "int" = none
  b_list : mg "list" = none
  b_tuple : mg "tuple" = none
  b_str : mg "str" = none
  b_len : mg "len" = none
  b_isinstance : mg "isinstance" = none
  b_abs : mg "abs" = none
  b_max : mg "max" = none
  b_min : mg "min" = none
  b_range : mg "range" = none
  b_repr : mg "repr" = none
  b_enumerate : mg "enumerate" = none
  b_RuntimeError : mg "RuntimeError" = none
  g_RankError : mg "RankError" = some (.ref a.RankError)
  g_InvalidStep : mg "InvalidStep" = some (.ref a.InvalidStep)
  g_InvalidNumber : mg "InvalidNumber" = some (.ref a.InvalidNumber)
  g_StepFailed : mg "StepFailed" = some (.ref a.StepFailed)
  e_InvalidStep : ErrC K a.InvalidStep a.InvalidStep___init__ "value"
  e_InvalidNumber : ErrC K a.InvalidNumber a.InvalidNumber___init__ "value"
  e_StepFailed : ErrG K a.StepFailed a.StepFailed___init__ "index" "RuntimeError" "RuntimeError.__new__" "RuntimeError.__init__" [.type "RuntimeError", .type "Exception", .type "BaseException", .type "object"]
  cl_S : Cls K a.Sequence
  g_Sequence : mg "Sequence" = some (.ref a.Sequence)
  M_Sequence : L2.Mk K a.Sequence a.Sequence___init__
  isi_S : C8.InsC K a.Sequence
  ty_Sequence : PySem.W.typeIn K (.ref a.Sequence) = some (.type "type")
  n_steps : NoAttr K a.Sequence "_steps"
  p_steps : PropOf K a.Sequence "steps" a.P_steps a.Sequence_steps
  rd_Sequence : ClX.CRead K a.Sequence (.type "type")
  sta_is_step : CSta K a.Sequence (.type "type") "is_step" a.S_is_step a.Sequence_is_step
  sti_is_step : CStI K a.Sequence "is_step" a.S_is_step a.Sequence_is_step
  x_NN : PySem.W.exmOne K (.ref a.InvalidNumber) (.ref a.InvalidNumber) = some true
  x_SN : PySem.W.exmOne K (.ref a.InvalidStep) (.ref a.InvalidNumber) = some false
  x_SS : PySem.W.exmOne K (.ref a.InvalidStep) (.ref a.InvalidStep) = some true
  x_FN : PySem.W.exmOne K (.ref a.StepFailed) (.ref a.InvalidNumber) = some false
  x_FS : PySem.W.exmOne K (.ref a.StepFailed) (.ref a.InvalidStep) = some false
  x_FF : PySem.W.exmOne K (.ref a.StepFailed) (.ref a.StepFailed) = some true
  r_NR : PySem.W.kitOne K (.ref a.InvalidNumber) (.ref a.RankError) = some true
  r_SR : PySem.W.kitOne K (.ref a.InvalidStep) (.ref a.RankError) = some true
  r_FR : PySem.W.kitOne K (.ref a.StepFailed) (.ref a.RankError) = some false
  r_FT : PySem.W.kitOne K (.ref a.StepFailed) (.type "RuntimeError") = some true


def cntV : V → Bool
  | .int i => decide (0 ≤ i)
  | _ => false
def rnkV : V → Bool
  | .int i => decide (0 < i)
  | _ => false
def spInt (K : PySem.W.Frag) : Sp := fun vs H Q _ => ∃ x, vs = [x] ∧ KV K H x ∧ Q (.bl (isI x)) H
def spCount (K : PySem.W.Frag) : Sp := fun vs H Q _ => ∃ x, vs = [x] ∧ KV K H x ∧ Q (.bl (cntV x)) H
def spRank (K : PySem.W.Frag) : Sp := fun vs H Q _ => ∃ x, vs = [x] ∧ KV K H x ∧ Q (.bl (rnkV x)) H
/-- a list or a tuple of values of known kinds -/
def Sq (K : PySem.W.Frag) (H : Hp) (x : V) (xs : List V) : Prop := ∃ p, x = .ref p ∧ (SqL K H p xs ∨ SqT K H p xs) ∧ (∀ y ∈ xs, KV K H y) ∧ xs.length ≤ 100000
/-- a value of another kind -/
def Od (K : PySem.W.Frag) (H : Hp) (x : V) : Prop := ∃ n, TyB K H x n ∧ tyN n = true ∧ n ≠ "list" ∧ n ≠ "tuple"
/-- a check of lists: what it says of a list's items -/
def spChk (K : PySem.W.Frag) (f : List V → Bool) : Sp := fun vs H Q _ => ∃ x, vs = [x] ∧ ((∃ xs, Sq K H x xs ∧ ∀ H', Same H H' → Q (.bl (f xs)) H') ∨ (Od K H x ∧ ∀ H', Same H H' → Q (.bl false) H'))
def numsV (xs : List V) : Bool := xs.all isI
section
variable {P : Program} {w : World} {K : PySem.W.Frag} {mg : Str → Option Value} {base : Heap} {a : Ads}

theorem ok_is_integer (T : Txt K mg a) : FnR P w K mg base CX0 1 a.is_integer (spInt K) := by
  obtain ⟨fd, F⟩ := T.F_is_integer
  refine XT.okR F sc_is_integer bn_is_integer (fun vs H Q E h => ?_) (fun cdv A outer s H vs Q E hr h => ?_)
  · obtain ⟨x, rfl, _⟩ := h
    rfl
  · obtain ⟨x, rfl, ⟨n, ht, hn⟩, q⟩ := h
    refine ⟨_, (pss_one (ps_ret (pe_cmpR op_eqTy (pe_callTy (typeK K) (by rfl) T.b_type (by decide +kernel) (pa_cons (pv 0) pa_nil)) (pe_bltn (v := .ty "int") (u := .type "int") (by rfl) T.b_int (by decide +kernel) rfl) (nomark _)))), ?_⟩
    refine ⟨x, rfl, x, n, rfl, ht, n, "int", rfl, rfl, hn, by decide +kernel, ?_⟩
    rw [tyB_isI ht]
    exact q

theorem ok_is_count (T : Txt K mg a) : FnR P w K mg base CX0 2 a.is_count (spCount K) := by
  obtain ⟨fd, F⟩ := T.F_is_count
  refine XT.okR F sc_is_count bn_is_count (fun vs H Q E h => ?_) (fun cdv A outer s H vs Q E hr h => ?_)
  · obtain ⟨x, rfl, _⟩ := h
    rfl
  · obtain ⟨x, rfl, hk, q⟩ := h
    have G_is_integer := ok_is_integer (P := P) (w := w) (base := base) T
    refine ⟨_, (pss_one (ps_ret (pe_and (pe_callR G_is_integer (hr.mono (by decide)) rfl T.g_is_integer T.k_is_integer pass0 (pa_cons (pv 0) pa_nil)) (pe_one (pe_cmpR op_ge (pv 0) pe_int (nomark _)))))), ?_⟩
    refine ⟨x, rfl, x, rfl, hk, _, rfl, ?_⟩
    cases x with
    | int i => exact iteT ⟨_, rfl, _, _, rfl, rfl, q⟩
    | _ => exact iteF q

theorem ok_is_rank (T : Txt K mg a) : FnR P w K mg base CX0 2 a.is_rank (spRank K) := by
  obtain ⟨fd, F⟩ := T.F_is_rank
  refine XT.okR F sc_is_rank bn_is_rank (fun vs H Q E h => ?_) (fun cdv A outer s H vs Q E hr h => ?_)
  · obtain ⟨x, rfl, _⟩ := h
    rfl
  · obtain ⟨x, rfl, hk, q⟩ := h
    have G_is_integer := ok_is_integer (P := P) (w := w) (base := base) T
    refine ⟨_, (pss_one (ps_ret (pe_and (pe_callR G_is_integer (hr.mono (by decide)) rfl T.g_is_integer T.k_is_integer pass0 (pa_cons (pv 0) pa_nil)) (pe_one (pe_cmpR op_gt (pv 0) pe_int (nomark _)))))), ?_⟩
    refine ⟨x, rfl, x, rfl, hk, _, rfl, ?_⟩
    cases x with
    | int i => exact iteT ⟨_, rfl, _, _, rfl, rfl, q⟩
    | _ => exact iteF q

theorem iteH {c : Bool} {A B : Prop} (h : c = true) (x : A) : if c = true then A else B := by
  rw [if_pos h]
  exact x
theorem iteN {c : Bool} {A B : Prop} (h : c = false) (x : B) : if c = true then A else B := by
  rw [h]
  exact iteF x
theorem all_map_bl (f : V → Bool) (xs : List V) : ((xs.map f).all id) = xs.all f := by
  rw [List.all_map]
  rfl
theorem in_lt {n : String} (h1 : n ≠ "list") (h2 : n ≠ "tuple") : (["list", "tuple"].any fun m => decide (m = n)) = false := by
  simp [Ne.symm h1, Ne.symm h2]
theorem line_ge : (100000 : Nat) ≤ sizeLine := by rw [sizeLine_eq]; decide
theorem tyB_isS {H : Hp} {x : V} {n : String} (h : TyB K H x n) : decide (n = "str") = (match x with | .str _ => true | _ => false) := by
  cases h <;> first | rfl | decide +kernel
/-- whether a pair is a step -/
def stpV : V → V → Bool
  | .str z, y => if decide (V.str z = V.str "insert") = true then isI y else (decide (V.str z = V.str "remove") && rnkV y)
  | _, _ => false
theorem stpV_st (s : Stp) : stpV (.str (wrd s.1)) (.int s.2) = goodS s := by
  obtain ⟨b, i⟩ := s
  cases b
  · have h1 : decide (V.str (wrd false) = V.str "insert") = false := by decide +kernel
    have h2 : decide (V.str (wrd false) = V.str "remove") = true := by decide +kernel
    simp only [stpV, h1, h2, Bool.false_eq_true, if_false, Bool.true_and, rnkV, goodS, Bool.false_or]
  · have h1 : decide (V.str (wrd true) = V.str "insert") = true := by decide +kernel
    simp only [stpV, h1, if_true, isI, goodS, Bool.true_or]
/-- is_step -/
def spStp (K : PySem.W.Frag) : Sp := fun vs H Q _ => ∃ x, vs = [x] ∧ ((∃ n, TyB K H x n ∧ tyN n = true ∧ n ≠ "tuple" ∧ Q (.bl false) H) ∨ (∃ r xs, x = .ref r ∧ SqT K H r xs ∧ xs.length ≠ 2 ∧ Q (.bl false) H) ∨
  ∃ r u y, x = .ref r ∧ SqT K H r [u, y] ∧ KV K H u ∧ KV K H y ∧ Q (.bl (stpV u y)) H)
theorem kv_str {H : Hp} (z : Str) : KV K H (.str z) := ⟨"str", .str z, by decide +kernel⟩
theorem stp_of {H : Hp} {Q : VK} {E : XK} {x : V} {s : Stp} (h : StAt K H x s) (q : Q (.bl (goodS s)) H) : spStp K [x] H Q E := by
  obtain ⟨r, rfl, hr⟩ := h
  exact ⟨_, rfl, .inr (.inr ⟨r, _, _, rfl, hr, kv_str _, kv_int _, by rw [stpV_st]; exact q⟩)⟩
theorem stp_good {H : Hp} {Q : VK} {E : XK} {x : V} {s : Stp} (h : StAt K H x s) (g : goodS s = true) (q : Q (.bl true) H) : spStp K [x] H Q E := stp_of h (by rw [g]; exact q)
theorem ok_Sequence_is_step (T : Txt K mg a) : FnR P w K mg base CX0 3 a.Sequence_is_step (spStp K) := by
  obtain ⟨fd, F⟩ := T.F_Sequence_is_step
  refine XT.okR F sc_Sequence_is_step bn_Sequence_is_step (fun vs H Q E h => ?_) (fun cdv A outer s H vs Q E hr h => ?_)
  · obtain ⟨x, rfl, _⟩ := h
    rfl
  · obtain ⟨x, rfl, h⟩ := h
    have G_is_integer := ok_is_integer (P := P) (w := w) (base := base) T
    have G_is_rank := ok_is_rank (P := P) (w := w) (base := base) T
    refine ⟨_, (pss_cons (ps_if (PW.pt (pw_or (pt_cmpR op_neTy (pe_callTy (typeK K) (by rfl) T.b_type (by decide +kernel) (pa_cons (pv 0) pa_nil)) (pe_bltn (v := .ty "tuple") (u := .type "tuple") (by rfl) T.b_tuple (by decide +kernel) rfl) (nomark _)) (pw_or1 (pt_cmpR op_ne (pe_callB (lenK K) (by rfl) T.b_len (by decide +kernel) (pa_cons (pv 0) pa_nil)) pe_int (nomark _))))) (pss_one (ps_ret pe_bl)) pss_nil)
      (pss_cons (ps_asg (pv 0) (tupK K (n := 2) (by rfl) (pgs_cons (pg_name (i := 1) sc_Sequence_is_step.nd rfl (Or.inl rfl)) (pgs_cons (pg_name (i := 2) sc_Sequence_is_step.nd rfl (Or.inl rfl)) pgs_nil))))
      (pss_cons (ps_if (pt_cmpR op_neTy (pe_callTy (typeK K) (by rfl) T.b_type (by decide +kernel) (pa_cons (pv 1) pa_nil)) (pe_bltn (v := .ty "str") (u := .type "str") (by rfl) T.b_str (by decide +kernel) rfl) (nomark _)) (pss_one (ps_ret pe_bl)) pss_nil)
      (pss_cons (ps_if (pt_cmpR op_eq (pv 1) pe_str (nomark _)) (pss_one (ps_ret (pe_callR G_is_integer (hr.mono (by decide)) rfl T.g_is_integer T.k_is_integer pass0 (pa_cons (pv 2) pa_nil)))) pss_nil)
      (pss_one (ps_ret (pe_and (pe_cmpR op_eq (pv 1) pe_str (nomark _)) (pe_one (pe_callR G_is_rank (hr.mono (by decide)) rfl T.g_is_rank T.k_is_rank pass0 (pa_cons (pv 2) pa_nil)))))))))), ?_⟩
    rcases h with ⟨n, ht, hn, hne, q⟩ | ⟨r, xs, rfl, hS, hl, q⟩ | ⟨r, u, y, rfl, hS, ku, ky, q⟩
    · refine ⟨_, rfl, _, n, rfl, ht, n, "tuple", rfl, rfl, hn, by decide +kernel, _, rfl, iteH (by simp [hne]) ?_⟩
      exact q
    · refine ⟨_, rfl, _, "tuple", rfl, .tup hS, "tuple", "tuple", rfl, rfl, by decide +kernel, by decide +kernel, _, rfl, iteN (by decide) ?_⟩
      refine ⟨_, rfl, r, xs, rfl, .inr hS, rfl, _, rfl, iteH (by simp; omega) ?_⟩
      exact q
    · refine ⟨_, rfl, _, "tuple", rfl, .tup hS, "tuple", "tuple", rfl, rfl, by decide +kernel, by decide +kernel, _, rfl, iteN (by decide) ?_⟩
      refine ⟨_, rfl, r, [u, y], rfl, .inr hS, rfl, _, rfl, iteN (by simp) ?_⟩
      refine ⟨_, rfl, r, [u, y], rfl, hS, rfl, u, [y], rfl, y, [], rfl, rfl, ?_⟩
      obtain ⟨nu, hu, hnu⟩ := ku
      have e := tyB_isS hu
      cases u with
      | str z =>
        refine ⟨_, rfl, _, nu, rfl, hu, nu, "str", rfl, rfl, hnu, by decide +kernel, _, rfl, iteN (by rw [e]; rfl) ?_⟩
        have q : Q (.bl (if decide (V.str z = V.str "insert") = true then isI y else (decide (V.str z = V.str "remove") && rnkV y))) H := q
        refine ⟨_, rfl, rfl, _, rfl, ite2 (fun h1 => ?_) (fun h1 => ?_)⟩
        · refine ⟨y, rfl, y, rfl, ky, ?_⟩
          rw [if_pos h1] at q
          exact q
        · rw [if_neg h1] at q
          refine ⟨_, rfl, rfl, _, rfl, ite2 (fun h2 => ?_) (fun h2 => ?_)⟩
          · refine ⟨y, rfl, y, rfl, ky, ?_⟩
            rw [h2] at q
            exact q
          · rw [Bool.not_eq_true _ |>.mp h2] at q
            exact q
      | _ =>
        refine ⟨_, rfl, _, nu, rfl, hu, nu, "str", rfl, rfl, hnu, by decide +kernel, _, rfl, iteH (by rw [e]; rfl) ?_⟩
        exact q

end
end K41
namespace K41
open PySem L2 XT
section
variable {P : Program} {w : World} {K : PySem.W.Frag} {mg : Str → Option Value} {base : Heap} {a : Ads}
local macro_rules | `(tactic| walk_at "rside") => `(tactic| first | (show (0 : Int) < _; first | decide | omega) | (exact ⟨by first | decide | omega, by first | decide | omega⟩) | (exact Or.inl ⟨by omega, by omega⟩) | (exact Or.inr ⟨by omega, by omega⟩) | (exact ⟨by decide, by decide, by decide⟩))
local macro_rules | `(tactic| walk_at "rd1") => `(tactic| first | (refine ⟨_, rfl, ?_⟩) | (refine ⟨_, _, rfl, rfl, (by walk_at "rside"), ?_⟩) | (refine ⟨_, _, rfl, rfl, ?_⟩))
local macro_rules | `(tactic| walk_at "rd") => `(tactic| repeat (walk_at "rd1"))

/-- a sequence's fields -/
abbrev sfl (p : Addr) : List (Str × V) := putF "_steps" (.ref p) []
/-- a sequence of the steps L stands at t -/
def SqcAt (K : PySem.W.Frag) (C : Addr) (H : Hp) (t : Addr) (L : List Stp) : Prop := ∃ dx p xs, H t = some (.ins C dx (sfl p)) ∧ SqT K H p xs ∧ StsAt K H xs L ∧ ∀ s ∈ L, goodS s = true
theorem SqcAt.same {C : Addr} {H H' : Hp} {t : Addr} {L : List Stp} (h : SqcAt K C H t L) (e : Same H H') : SqcAt K C H' t L :=
  let ⟨dx, p, xs, a, b, c, d⟩ := h
  ⟨dx, p, xs, e _ _ a, same_seqT e b, sts_same c e, d⟩
theorem SqcAt.insA {C : Addr} {H : Hp} {t : Addr} {L : List Stp} (h : SqcAt K C H t L) : InsA H t C := let ⟨dx, p, xs, a, _⟩ := h; ⟨dx, _, a⟩
theorem SqcAt.good {C : Addr} {H : Hp} {t : Addr} {L : List Stp} (h : SqcAt K C H t L) : ∀ s ∈ L, goodS s = true := let ⟨dx, p, xs, a, b, c, d⟩ := h; d
theorem SqcAt.ins {C : Addr} {H : Hp} {t : Addr} {L : List Stp} (h : SqcAt K C H t L) : ∃ dx p, H t = some (.ins C dx (sfl p)) := let ⟨dx, p, xs, a, _⟩ := h; ⟨dx, p, a⟩
theorem sfl_steps (p : Addr) : (sfl p).lookup ("_steps" : Str) = some (V.ref p) := by
  simp [sfl, putF, List.lookup]
theorem sfl_no (p : Addr) (m : Str) (h : (m == ("_steps" : Str)) = false) : (sfl p).lookup m = Option.none := by
  simp [sfl, putF, List.lookup, h]
/-- Sequence.__init__: at its best -/
def spInit (K : PySem.W.Frag) (C : Addr) : Sp := fun vs H Q _ => ∃ (t p dx : Addr) (xs : List V) (L : List Stp), vs = [.ref t, .ref p] ∧ H t = some (.ins C dx []) ∧ SqT K H p xs ∧ StsAt K H xs L ∧ (∀ s ∈ L, goodS s = true) ∧ Q .non (upd H t (.ins C dx (sfl p)))
theorem ok_Sequence___init__ (T : Txt K mg a) : FnR P w K mg base CX0 4 a.Sequence___init__ (spStar 1 (spInit K a.Sequence)) := by
  obtain ⟨fd, F⟩ := T.F_Sequence___init__
  have G_is_step := ok_Sequence_is_step (P := P) (w := w) (base := base) T
  refine XT.okStar0 (ps := ["self"]) F sc_Sequence___init__ bn_Sequence___init__ (fun cdv A outer s H vs Q E hr h => ?_)
  obtain ⟨t, p, dx, xs, L, rfl, ht, hS, hL, hg, q⟩ := h
  refine ⟨_, PSs.nox ((pss_cons (ps_for PassesOwn.never rfl (pi_tup (pv 1)) (pg_name (i := 2) sc_Sequence___init__.nd rfl (Or.inl rfl))
        (pss_one (ps_if (pt_not (pt_val (pe_staI (pv 0) T.sti_is_step G_is_step (hr.mono (by decide)) pass0 (pa_cons (pv 2) pa_nil)))) (pss_one ps_never) pss_nil)))
      (pss_one (ps_fld (pv 0) (pv 1) rfl)))), ?_⟩
  refine ⟨_, rfl, p, rfl, ⟨_, hS⟩, for_tup (K := K) (a := p) (xs := xs) (fun i σ H' => H' = H ∧ ∃ o, σ = [some (.ref t), some (.ref p), o]) ⟨rfl, _, rfl⟩ (fun i σ H' _ ⟨e, _⟩ => by rw [e]; exact hS) ?_ ?_⟩
  · rintro i x σ H' hx ⟨rfl, o, rfl⟩
    obtain ⟨s, hs, hst⟩ := pd_get hL hx
    refine ⟨_, rfl, t, dx, [], rfl, ht, rfl, _, rfl, ?_⟩
    dsimp only [tNil]
    refine stp_good hst (hg s (List.mem_of_getElem? hs)) ⟨_, rfl, iteN rfl ?_⟩
    exact ⟨rfl, _, rfl⟩
  · rintro σ H' ⟨rfl, o, rfl⟩
    exact ⟨_, rfl, _, rfl, t, a.Sequence, dx, _, rfl, ht, T.cl_S, T.n_steps, (by show 0 < 1000; decide), q⟩
/-- a sequence made out of steps -/
theorem sq_mk {C : Addr} {H1 : Hp} {xs : List V} {L : List Stp} {Q : VK} {E : XK} {x dx : Addr} (nx : H1 x = Option.none) (ndx : H1 dx = Option.none) (ne : dx ≠ x) (hL : StsAt K H1 xs L) (hg : ∀ s ∈ L, goodS s = true) (hz : xs.length ≤ 100000) (k : ∀ H', Same H1 H' → SqcAt K C H' x L → Q .non H') :
    spStar 1 (spInit K C) (V.ref x :: xs) (upd (upd H1 dx (.own x)) x (.ins C dx [])) Q E := by
  refine ⟨[V.ref x], xs, rfl, rfl, Nat.le_trans hz line_ge, fun p hp => ?_⟩
  have npx : p ≠ x := fun z => by rw [z, upd_same] at hp; cases hp
  have npd : p ≠ dx := fun z => by rw [z, upd_ne ne, upd_same] at hp; cases hp
  have hp1 : H1 p = Option.none := by rw [upd_ne npx, upd_ne npd] at hp; exact hp
  have s1 : Same H1 (upd (upd (upd H1 dx (.own x)) x (.ins C dx [])) p (.tup xs)) := (same_upd (same_new ndx) nx).trans (same_new hp)
  have s2 : Same H1 (upd (upd (upd (upd H1 dx (.own x)) x (.ins C dx [])) p (.tup xs)) x (.ins C dx (sfl p))) := same_upd s1 nx
  exact ⟨x, p, dx, xs, L, rfl, by rw [upd_ne (Ne.symm npx), upd_same], SqT.of upd_same, sts_same hL s1, hg, k _ s2 ⟨dx, p, xs, upd_same, SqT.of (by rw [upd_ne npx, upd_same]), sts_same hL s2, hg⟩⟩
theorem sq_made {C : Addr} {H1 : Hp} {xs : List V} {L : List Stp} {Q : VK} {E : XK} (hL : StsAt K H1 xs L) (hg : ∀ s ∈ L, goodS s = true) (hz : xs.length ≤ 100000) (k : ∀ t H', Same H1 H' → H1 t = Option.none → SqcAt K C H' t L → Q (.ref t) H') :
    ∀ x dx, H1 x = Option.none → H1 dx = Option.none → dx ≠ x → spStar 1 (spInit K C) (V.ref x :: xs) (upd (upd H1 dx (.own x)) x (.ins C dx [])) (fun v H2 => v = .non ∧ Q (.ref x) H2) E :=
  fun x dx nx ndx ne => sq_mk nx ndx ne hL hg hz fun H' s h => ⟨rfl, k x H' s nx h⟩
/-- .. asked with something that is no step -/
def spInitBad (K : PySem.W.Frag) (C CE : Addr) : Sp := fun vs H _ E => ∃ (t p dx : Addr) (xs ys : List V) (y : V) (L : List Stp), vs = [.ref t, .ref p] ∧ H t = some (.ins C dx []) ∧ SqT K H p (xs ++ y :: ys) ∧ StsAt K H xs L ∧ (∀ s ∈ L, goodS s = true) ∧
  ((∃ n, TyB K H y n ∧ tyN n = true ∧ n ≠ "tuple") ∨ (∃ r zs, y = .ref r ∧ SqT K H r zs ∧ zs.length ≠ 2) ∨ ∃ r u z, y = .ref r ∧ SqT K H r [u, z] ∧ KV K H u ∧ KV K H z ∧ stpV u z = false) ∧
  ∀ d, H d = Option.none → E (.ref CE) (some d) (upd H d (.xd [("value", y)]))
theorem okE_InvalidStep (T : Txt K mg a) (e : ErrC K a.InvalidStep a.InvalidStep___init__ "value") {fd : FuncData} (F : Fun K "__init__" "InvalidStep.__init__" s_InvalidStep___init__ a.InvalidStep___init__ fd) : FnOk P w K mg base CX0 1 a.InvalidStep___init__ fd ["self", "value"] (spErr "value" a.InvalidStep) := by
  refine F.ok sc_InvalidStep___init__ (fun vs H Q E h => ?_) (fun cdv A outer s H vs Q E hr h => ?_)
  · obtain ⟨x, v, rfl, _⟩ := h
    rfl
  · obtain ⟨x, v, rfl, hx, q⟩ := h
    exact ⟨_, (pss_one (ps_ost (pv 0) (pv 1))), _, rfl, _, rfl, x, a.InvalidStep, rfl, e.oex, e.no, .inl ⟨hx, fun dx hn hne => q dx hn hne⟩⟩
theorem okE_InvalidNumber (T : Txt K mg a) (e : ErrC K a.InvalidNumber a.InvalidNumber___init__ "value") {fd : FuncData} (F : Fun K "__init__" "InvalidNumber.__init__" s_InvalidNumber___init__ a.InvalidNumber___init__ fd) : FnOk P w K mg base CX0 1 a.InvalidNumber___init__ fd ["self", "value"] (spErr "value" a.InvalidNumber) := by
  refine F.ok sc_InvalidNumber___init__ (fun vs H Q E h => ?_) (fun cdv A outer s H vs Q E hr h => ?_)
  · obtain ⟨x, v, rfl, _⟩ := h
    rfl
  · obtain ⟨x, v, rfl, hx, q⟩ := h
    exact ⟨_, (pss_one (ps_ost (pv 0) (pv 1))), _, rfl, _, rfl, x, a.InvalidNumber, rfl, e.oex, e.no, .inl ⟨hx, fun dx hn hne => q dx hn hne⟩⟩
theorem okE_StepFailed (T : Txt K mg a) (e : ErrG K a.StepFailed a.StepFailed___init__ "index" "RuntimeError" "RuntimeError.__new__" "RuntimeError.__init__" [.type "RuntimeError", .type "Exception", .type "BaseException", .type "object"]) {fd : FuncData} (F : Fun K "__init__" "StepFailed.__init__" s_StepFailed___init__ a.StepFailed___init__ fd) : FnOk P w K mg base CX0 1 a.StepFailed___init__ fd ["self", "index"] (spErr "index" a.StepFailed) := by
  refine F.ok sc_StepFailed___init__ (fun vs H Q E h => ?_) (fun cdv A outer s H vs Q E hr h => ?_)
  · obtain ⟨x, v, rfl, _⟩ := h
    rfl
  · obtain ⟨x, v, rfl, hx, q⟩ := h
    exact ⟨_, (pss_one (ps_gst (pv 0) (pv 1))), _, rfl, _, rfl, x, a.StepFailed, _, _, _, _, rfl, e.bx, e.oex, e.no, hx, fun dx hn hne => q dx hn hne⟩
def spSteps (K : PySem.W.Frag) (C : Addr) : Sp := fun vs H Q _ => ∃ t L, vs = [.ref t] ∧ SqcAt K C H t L ∧ ∀ p xs, SqT K H p xs → StsAt K H xs L → Q (.ref p) H
def spLen (K : PySem.W.Frag) (C : Addr) : Sp := fun vs H Q _ => ∃ t L, vs = [.ref t] ∧ SqcAt K C H t L ∧ Q (.int (L.length : Int)) H
def spEqS (K : PySem.W.Frag) (C : Addr) : Sp := fun vs H Q _ => ∃ t u L M, vs = [.ref t, .ref u] ∧ SqcAt K C H t L ∧ SqcAt K C H u M ∧ Q (.bl (decide (L = M))) H
def spEqSo (K : PySem.W.Frag) (C : Addr) : Sp := fun vs H Q _ => ∃ (t : Addr) (y : V) (ty : Value), vs = [.ref t, y] ∧ TyX K H y ty ∧ PySem.W.kitOne K ty (.ref C) = some false ∧ Q (.bl false) H
def spAddS (K : PySem.W.Frag) (C : Addr) : Sp := fun vs H Q _ => ∃ t u L M, vs = [.ref t, .ref u] ∧ SqcAt K C H t L ∧ SqcAt K C H u M ∧ L.length + M.length ≤ 100000 ∧ ∀ r H', Same H H' → H r = Option.none → SqcAt K C H' r (L ++ M) → Q (.ref r) H'
def spMulS (K : PySem.W.Frag) (C : Addr) : Sp := fun vs H Q _ => ∃ t L n, vs = [.ref t, .int n] ∧ SqcAt K C H t L ∧ 0 ≤ n ∧ (L = [] ∨ n ≤ 100) ∧ L.length ≤ 1000 ∧ ∀ r H', Same H H' → H r = Option.none → SqcAt K C H' r (List.replicate n.toNat L).flatten → Q (.ref r) H'
theorem rep_nil (n : Nat) : (List.replicate n ([] : List Stp)).flatten = [] := by simp
theorem ok_Sequence_steps (T : Txt K mg a) : FnR P w K mg base CX0 1 a.Sequence_steps (spSteps K a.Sequence) := by
  obtain ⟨fd, F⟩ := T.F_Sequence_steps
  refine XT.okR F sc_Sequence_steps bn_Sequence_steps (fun vs H Q E h => ?_) (fun cdv A outer s H vs Q E hr h => ?_)
  · obtain ⟨t, L, rfl, _⟩ := h
    rfl
  · obtain ⟨t, L, rfl, ⟨dx, p, xs, ht, hS, hL, hg⟩, q⟩ := h
    refine ⟨_, (pss_one (ps_ret (fldK K (pv 0) rfl))), ?_⟩
    exact ⟨_, rfl, t, a.Sequence, dx, _, _, rfl, ht, T.cl_S, T.n_steps, sfl_steps _, q p xs hS hL⟩

end
end K41
namespace K41
open PySem L2 XT
section
variable {P : Program} {w : World} {K : PySem.W.Frag} {mg : Str → Option Value} {base : Heap} {a : Ads}
local macro_rules | `(tactic| walk_at "rside") => `(tactic| first | (show (0 : Int) < _; first | decide | omega) | (exact ⟨by first | decide | omega, by first | decide | omega⟩) | (exact Or.inl ⟨by omega, by omega⟩) | (exact Or.inr ⟨by omega, by omega⟩) | (exact ⟨by decide, by decide, by decide⟩))
local macro_rules | `(tactic| walk_at "rd1") => `(tactic| first | (refine ⟨_, rfl, ?_⟩) | (refine ⟨_, _, rfl, rfl, (by walk_at "rside"), ?_⟩) | (refine ⟨_, _, rfl, rfl, ?_⟩))
local macro_rules | `(tactic| walk_at "rd") => `(tactic| repeat (walk_at "rd1"))

local macro_rules | `(tactic| walk_at "rside") => `(tactic| first | (show (0 : Int) < _; first | decide | omega) | (exact ⟨by first | decide | omega, by first | decide | omega⟩) | (exact Or.inl ⟨by omega, by omega⟩) | (exact Or.inr ⟨by omega, by omega⟩) | (exact ⟨by decide, by decide, by decide⟩))
local macro_rules | `(tactic| walk_at "rd1") => `(tactic| first | (refine ⟨_, rfl, ?_⟩) | (refine ⟨_, _, rfl, rfl, (by walk_at "rside"), ?_⟩) | (refine ⟨_, _, rfl, rfl, ?_⟩))
local macro_rules | `(tactic| walk_at "rd") => `(tactic| repeat (walk_at "rd1"))

/-- the law's pool: two numbers -/
def PoolAt (H : Hp) (p : Addr) : Prop := ∃ x y : Int, H p = some (.lst [.int x, .int y]) ∧ 0 ≤ x ∧ 0 ≤ y ∧ y < 2147483648
/-- all stays but what stands at p -/
def But (p : Addr) (H H' : Hp) : Prop := ∀ b o, b ≠ p → H b = some o → H' b = some o
theorem But.refl (p : Addr) (H : Hp) : But p H H := fun _ _ _ h => h
theorem But.trans {p : Addr} {H H1 H2 : Hp} (a : But p H H1) (b : But p H1 H2) : But p H H2 := fun c o n h => b c o n (a c o n h)
theorem but_same {p : Addr} {H H' : Hp} (h : Same H H') : But p H H' := fun b o _ e => h b o e
theorem but_upd {p : Addr} {H : Hp} {o : HO} : But p H (upd H p o) := fun b u n e => by
  rw [upd_ne n]
  exact e
/-- what is apart from p stays -/
theorem but_to {p : Addr} {H0 H H' : Hp} (s : Same H0 H) (n : H0 p = Option.none) (b : But p H H') : Same H0 H' := fun c o e => b c o (fun z => by rw [z, n] at e; cases e) (s c o e)
def spPool (K : PySem.W.Frag) : Sp := fun vs H Q _ => ∃ (sc : Addr) (ns : List Int) (k : Int), vs = [.ref sc, .int k] ∧ SqL K H sc (ns.map V.int) ∧ 0 ≤ k ∧ k ≤ 1000 ∧ ∀ p H', Same H H' → H p = Option.none → PoolAt H' p → Q (.ref p) H'
def spTake : Sp := fun vs H Q _ => ∃ (p : Addr) (m : Int), vs = [.ref p, .int m] ∧ PoolAt H p ∧ 0 < m ∧ m < 1000 ∧ ∀ r H', 0 ≤ r → r < m → But p H H' → PoolAt H' p → Q (.int r) H'
theorem ok_law_pool (T : Txt K mg a) : FnR P w K mg base CX0 1 a.law_pool (spPool K) := by
  obtain ⟨fd, F⟩ := T.F_law_pool
  refine XT.okR F sc_law_pool bn_law_pool (fun vs H Q E h => ?_) (fun cdv A outer s H vs Q E hr h => ?_)
  · obtain ⟨sc, ns, k, rfl, _⟩ := h
    rfl
  · obtain ⟨sc, ns, k, rfl, hS, k0, k1, q⟩ := h
    refine ⟨_, (pss_cons (ps_set (i := 2) sc_law_pool.nd rfl (Or.inl rfl) pe_int)
      (pss_cons (ps_if (pt_cmpR op_lt (pv 1) (pe_callB (lenK K) (by rfl) T.b_len (by decide +kernel) (pa_cons (pv 0) pa_nil)) (nomark _)) (pss_one (ps_set (i := 2) sc_law_pool.nd rfl (Or.inl rfl) (pe_callB call_abs (by rfl) T.b_abs (by decide +kernel) (pa_cons (pe_ix (ixLK K) (pv 0) (pv 1) (fun _ _ => rfl)) pa_nil)))) pss_nil)
      (pss_cons (ps_set (i := 3) sc_law_pool.nd rfl (Or.inl rfl) (pe_op op_mod (pe_op op_mul (pe_op op_add (pe_op op_add (pe_op op_add (pe_op op_mod (pv 2) pe_int) (pe_op op_mul (pe_op op_mul pe_int (pv 1)) (pv 1))) (pe_op op_mul pe_int (pv 1))) pe_int) pe_int) pe_int))
      (pss_one (ps_ret (pe_lst (pa_cons (pe_op op_mul (pv 2) (pe_callTy call_int1 (by rfl) T.b_int (by decide +kernel) (pa_cons (pe_cmpR op_ge (pv 2) (pe_op op_pow pe_int pe_int) (nomark _)) pa_nil))) (pa_cons (pe_op op_mod (pe_op op_mul (pv 3) (pv 3)) pe_int) pa_nil)))))))), ?_⟩
    refine ⟨_, rfl, _, rfl, sc, _, rfl, .inl hS, _, _, rfl, rfl, _, rfl, ite2 (fun h1 => ?_) (fun h1 => ?_)⟩
    · have h1' : k < ((ns.map V.int).length : Int) := of_decide_eq_true h1
      rw [List.length_map] at h1'
      obtain ⟨j, rfl⟩ : ∃ j : Nat, k = (j : Int) := ⟨k.toNat, by omega⟩
      have hj : j < ns.length := by omega
      have hg : (ns.map V.int)[j]? = some (V.int ns[j]) := by simp [hj]
      refine ⟨_, rfl, _, rfl, sc, _, _, _, rfl, rfl, hS, atI_nat hg, _, rfl, ?_⟩
      have hc : 0 ≤ (if ns[j] < 0 then -ns[j] else ns[j]) := by split <;> omega
      generalize (if ns[j] < 0 then -ns[j] else ns[j]) = c at hc ⊢
      walk_at "rd"
      refine .inr ⟨_, rfl, ?_⟩
      refine ⟨_, _, rfl, rfl, .inr (by split <;> omega), ?_⟩
      have hm : ∀ z : Int, 0 ≤ z % 2147483647 ∧ z % 2147483647 < 2147483647 := fun z => ⟨Int.emod_nonneg _ (by decide), Int.emod_lt_of_pos _ (by decide)⟩
      refine ⟨_, rfl, _, rfl, _, _, rfl, rfl, .inl ⟨by have := hm ((c % 2147483629 + 7919 * (j : Int) * (j : Int) + 31 * (j : Int) + 17) * 48271); omega, by have := hm ((c % 2147483629 + 7919 * (j : Int) * (j : Int) + 31 * (j : Int) + 17) * 48271); omega⟩, ?_⟩
      refine ⟨_, _, rfl, rfl, (by show (0 : Int) < _; decide), ?_⟩
      refine ⟨by show 2 ≤ sizeLine; decide, fun p hp => q p _ (same_new hp) hp ⟨_, _, upd_same, ?_, Int.emod_nonneg _ (by decide), Int.lt_trans (Int.emod_lt_of_pos _ (by decide)) (by decide)⟩⟩
      split <;> omega
    · walk_at "rd"
      refine .inr ⟨_, rfl, ?_⟩
      refine ⟨_, _, rfl, rfl, .inr (by split <;> omega), ?_⟩
      have hm : ∀ z : Int, 0 ≤ z % 2147483647 ∧ z % 2147483647 < 2147483647 := fun z => ⟨Int.emod_nonneg _ (by decide), Int.emod_lt_of_pos _ (by decide)⟩
      refine ⟨_, rfl, _, rfl, _, _, rfl, rfl, .inl ⟨by have := hm (((0 : Int) % 2147483629 + 7919 * k * k + 31 * k + 17) * 48271); omega, by have := hm (((0 : Int) % 2147483629 + 7919 * k * k + 31 * k + 17) * 48271); omega⟩, ?_⟩
      refine ⟨_, _, rfl, rfl, (by show (0 : Int) < _; decide), ?_⟩
      refine ⟨by show 2 ≤ sizeLine; decide, fun p hp => q p _ (same_new hp) hp ⟨_, _, upd_same, ?_, Int.emod_nonneg _ (by decide), Int.lt_trans (Int.emod_lt_of_pos _ (by decide)) (by decide)⟩⟩
      exact Int.le_of_eq (Int.zero_mul _).symm

theorem ok_law_take (T : Txt K mg a) : FnR P w K mg base CX0 1 a.law_take (spTake) := by
  obtain ⟨fd, F⟩ := T.F_law_take
  refine XT.okR F sc_law_take bn_law_take (fun vs H Q E h => ?_) (fun cdv A outer s H vs Q E hr h => ?_)
  · obtain ⟨p, m, rfl, _⟩ := h
    rfl
  · obtain ⟨p, m, rfl, ⟨x, y, hp, hx, hy, hy2⟩, hm0, hm1, k⟩ := h
    refine ⟨_, (pss_cons (ps_if (pt_cmpR op_gt (pe_ix (ixLK K) (pv 0) pe_int (fun _ _ => rfl)) pe_int (nomark _)) (pss_cons (ps_set (i := 2) sc_law_take.nd rfl (Or.inl rfl) (pe_op op_mod (pe_ix (ixLK K) (pv 0) pe_int (fun _ _ => rfl)) (pv 1)))
      (pss_cons (ps_asg (pe_op op_fdiv (pe_ix (ixLK K) (pv 0) pe_int (fun _ _ => rfl)) (pv 1)) (pg_sub (pv 0) pe_int set_list))
      (pss_one (ps_ret (pv 2))))) pss_nil)
      (pss_cons (ps_asg (pe_op op_mod (pe_op op_add (pe_op op_mul (pe_ix (ixLK K) (pv 0) pe_int (fun _ _ => rfl)) pe_int) pe_int) pe_int) (pg_sub (pv 0) pe_int set_list))
      (pss_one (ps_ret (pe_op op_mod (pe_op op_fdiv (pe_op op_mod (pe_op op_mul (pe_ix (ixLK K) (pv 0) pe_int (fun _ _ => rfl)) (pe_ix (ixLK K) (pv 0) pe_int (fun _ _ => rfl))) pe_int) pe_int) (pv 1)))))), ?_⟩
    have g0 : ([V.int x, V.int y] : List V)[0]? = some (V.int x) := rfl
    have g1 : ([V.int x, V.int y] : List V)[1]? = some (V.int y) := rfl
    refine ⟨_, rfl, p, _, 0, _, rfl, rfl, SqL.of hp, atI_nat (j := 0) g0, _, _, rfl, rfl, _, rfl, ite2 (fun h1 => ?_) (fun h1 => ?_)⟩
    · have h1' := of_decide_eq_true h1
      refine ⟨_, rfl, p, _, 0, _, rfl, rfl, SqL.of hp, atI_nat (j := 0) g0, _, rfl, _, _, rfl, rfl, hm0, ?_⟩
      refine ⟨_, rfl, p, _, 0, _, rfl, rfl, SqL.of hp, atI_nat (j := 0) g0, _, rfl, _, _, rfl, rfl, ⟨hm0, by omega⟩, ?_⟩
      refine ⟨_, rfl, p, _, 0, 0, rfl, rfl, hp, rfl, ?_⟩
      refine ⟨_, rfl, k _ _ (Int.emod_nonneg _ (by omega)) (Int.emod_lt_of_pos _ hm0) but_upd ⟨x / m, y, upd_same, Int.ediv_nonneg hx (by omega), hy, hy2⟩⟩
    · refine ⟨_, rfl, p, _, 1, _, rfl, rfl, SqL.of hp, atI_nat (j := 1) g1, _, _, rfl, rfl, .inr ⟨by decide, by decide⟩, _, _, rfl, rfl, _, _, rfl, rfl, (by show (0 : Int) < _; decide), ?_⟩
      refine ⟨_, rfl, p, _, 1, 1, rfl, rfl, hp, rfl, ?_⟩
      have hz0 : 0 ≤ (y * 48271 + 12345) % 2147483647 := Int.emod_nonneg _ (by decide)
      have hz1 : (y * 48271 + 12345) % 2147483647 < 2147483647 := Int.emod_lt_of_pos _ (by decide)
      have g2 : ([V.int x, V.int ((y * 48271 + 12345) % 2147483647)] : List V)[1]? = some (V.int ((y * 48271 + 12345) % 2147483647)) := rfl
      have hs : (upd H p (.lst ([V.int x, V.int y].set 1 (V.int ((y * 48271 + 12345) % 2147483647))))) p = some (.lst [V.int x, V.int ((y * 48271 + 12345) % 2147483647)]) := upd_same
      refine ⟨_, rfl, p, _, 1, _, rfl, rfl, SqL.of hs, atI_nat (j := 1) g2, _, rfl, p, _, 1, _, rfl, rfl, SqL.of hs, atI_nat (j := 1) g2, _, _, rfl, rfl, .inl ⟨by omega, by omega⟩, _, _, rfl, rfl, (by show (0 : Int) < _; decide), _, _, rfl, rfl, ⟨by decide, by decide⟩, _, rfl, _, _, rfl, rfl, hm0, ?_⟩
      exact k _ _ (Int.emod_nonneg _ (by omega)) (Int.emod_lt_of_pos _ hm0) but_upd ⟨x, _, hs, hx, hz0, by omega⟩

end
end K41
namespace K41
open PySem L2 XT
section
variable {P : Program} {w : World} {K : PySem.W.Frag} {mg : Str → Option Value} {base : Heap} {a : Ads}
local macro_rules | `(tactic| walk_at "rside") => `(tactic| first | (show (0 : Int) < _; first | decide | omega) | (exact ⟨by first | decide | omega, by first | decide | omega⟩) | (exact Or.inl ⟨by omega, by omega⟩) | (exact Or.inr ⟨by omega, by omega⟩) | (exact ⟨by decide, by decide, by decide⟩))
local macro_rules | `(tactic| walk_at "rd1") => `(tactic| first | (refine ⟨_, rfl, ?_⟩) | (refine ⟨_, _, rfl, rfl, (by walk_at "rside"), ?_⟩) | (refine ⟨_, _, rfl, rfl, ?_⟩))
local macro_rules | `(tactic| walk_at "rd") => `(tactic| repeat (walk_at "rd1"))

theorem pool_but {H H' : Hp} {p q : Addr} {o : HO} (h : PoolAt H p) (n : H q = Option.none) (e : H' = upd H q o) : PoolAt H' p := by
  obtain ⟨x, y, a, b⟩ := h
  have : p ≠ q := fun z => by rw [z, n] at a; cases a
  exact ⟨x, y, by rw [e, upd_ne this]; exact a, b⟩
theorem pool_same {H H' : Hp} {p : Addr} (h : PoolAt H p) (e : Same H H') : PoolAt H' p := let ⟨x, y, a, b⟩ := h; ⟨x, y, e _ _ a, b⟩
theorem pool_ne {H : Hp} {p q : Addr} (h : PoolAt H p) (n : H q = Option.none) : q ≠ p := fun z => by
  obtain ⟨x, y, a, _⟩ := h
  rw [z, a] at n
  cases n
/-- tuples stay -/
def Kt (K : PySem.W.Frag) (H H' : Hp) : Prop := ∀ r ys, SqT K H r ys → SqT K H' r ys
theorem Kt.trans {H H1 H2 : Hp} (h : Kt K H H1) (k : Kt K H1 H2) : Kt K H H2 := fun r ys z => k r ys (h r ys z)
theorem kt_same {H H' : Hp} (h : Same H H') : Kt K H H' := fun r ys z => same_seqT h z
theorem kt_upd {H : Hp} {l : Addr} {zs : List V} {o : HO} (hl : H l = some (.lst zs)) : Kt K H (upd H l o) := fun r ys z => by
  rcases z with (z | ⟨ob, z⟩) | z
  · exact .inl (.inl (by rw [upd_ne (fun q => by rw [q, hl] at z; cases z)]; exact z))
  · exact .inl (.inr ⟨ob, by rw [upd_ne (fun q => by rw [q, hl] at z; cases z)]; exact z⟩)
  · exact .inr z
theorem kt_but {H H' : Hp} {p : Addr} (hp : PoolAt H p) (b : But p H H') : Kt K H H' := fun r ys z => by
  obtain ⟨x, y, a, _⟩ := hp
  rcases z with (z | ⟨ob, z⟩) | z
  · exact .inl (.inl (b _ _ (fun q => by rw [q, a] at z; cases z) z))
  · exact .inl (.inr ⟨ob, b _ _ (fun q => by rw [q, a] at z; cases z) z⟩)
  · exact .inr z
theorem sts_kt {H H' : Hp} {xs : List V} {L : List Stp} (h : StsAt K H xs L) (k : Kt K H H') : StsAt K H' xs L := L2.Paired.mapP h fun _ _ ⟨r, e, z⟩ => ⟨r, e, k _ _ z⟩
theorem sqc_but {C : Addr} {H H' : Hp} {t p : Addr} {L : List Stp} (h : SqcAt K C H t L) (hp : PoolAt H p) (b : But p H H') : SqcAt K C H' t L := by
  obtain ⟨dx, q, xs, h1, h2, h3, h4⟩ := h
  have n : t ≠ p := fun z => by
    obtain ⟨x, y, e, _⟩ := hp
    rw [z, e] at h1
    cases h1
  exact ⟨dx, q, xs, b _ _ n h1, kt_but hp b _ _ h2, sts_kt h3 (kt_but hp b), h4⟩

theorem wrd_ins (b : Bool) : decide (V.str (wrd b) = V.str "insert") = b := by cases b <;> decide +kernel
def tsV : Top.TS → List V
  | .ins x => [.str "insert", .int x]
  | .rem k => [.str "remove", .int k]
  | .top k => [.str "top", .int k]
  | .med => [.str "median"]
def TsAt (K : PySem.W.Frag) (H : Hp) (v : V) (s : Top.TS) : Prop := ∃ r, v = .ref r ∧ SqT K H r (tsV s)
abbrev TssAt (K : PySem.W.Frag) (H : Hp) : List V → List Top.TS → Prop := Paired (TsAt K H)
theorem TsAt.kt {H H' : Hp} {v : V} {s : Top.TS} (h : TsAt K H v s) (k : Kt K H H') : TsAt K H' v s := let ⟨r, e, z⟩ := h; ⟨r, e, k _ _ z⟩
theorem TsAt.same {H H' : Hp} {v : V} {s : Top.TS} (h : TsAt K H v s) (k : Same H H') : TsAt K H' v s := h.kt (kt_same k)
theorem tss_kt {H H' : Hp} {xs : List V} {L : List Top.TS} (h : TssAt K H xs L) (k : Kt K H H') : TssAt K H' xs L := L2.Paired.mapP h fun _ _ z => z.kt k
theorem tss_same {H H' : Hp} {xs : List V} {L : List Top.TS} (h : TssAt K H xs L) (k : Same H H') : TssAt K H' xs L := tss_kt h (kt_same k)
def spAny (K : PySem.W.Frag) : Sp := fun vs H Q _ => ∃ x s, vs = [x] ∧ TsAt K H x s ∧ Top.good s = true ∧ ∀ H', Same H H' → Q (.bl true) H'
theorem ok_is_any_step (T : Txt K mg a) : FnR P w K mg base CX0 4 a.is_any_step (spAny K) := by
  obtain ⟨fd, F⟩ := T.F_is_any_step
  refine XT.okR F sc_is_any_step bn_is_any_step (fun vs H Q E h => ?_) (fun cdv A outer s H vs Q E hr h => ?_)
  · obtain ⟨x, s, rfl, _⟩ := h
    rfl
  · obtain ⟨x, s, rfl, ⟨r, rfl, hr0⟩, hg, k⟩ := h
    have G_is_step := ok_Sequence_is_step (P := P) (w := w) (base := base) T
    have G_is_rank := ok_is_rank (P := P) (w := w) (base := base) T
    refine ⟨_, (pss_cons (ps_if (pt_val (pe_sta (pe_glob (v := .ref a.Sequence) (by rfl) T.g_Sequence rfl) T.rd_Sequence T.sta_is_step G_is_step (hr.mono (by decide)) pass0 (pa_cons (pv 0) pa_nil))) (pss_one (ps_ret pe_bl)) pss_nil)
      (pss_cons (ps_if (PW.pt (pw_or (pt_cmpR op_neTy (pe_callTy (typeK K) (by rfl) T.b_type (by decide +kernel) (pa_cons (pv 0) pa_nil)) (pe_bltn (v := .ty "tuple") (u := .type "tuple") (by rfl) T.b_tuple (by decide +kernel) rfl) (nomark _)) (pw_or1 (pt_cmpR op_eq (pe_callB (lenK K) (by rfl) T.b_len (by decide +kernel) (pa_cons (pv 0) pa_nil)) pe_int (nomark _))))) (pss_one (ps_ret pe_bl)) pss_nil)
      (pss_cons (ps_asg (pv 0) (pg_star K (n := 2) (i := 1) (by rfl) (pgs_cons (pg_name (i := 1) sc_is_any_step.nd rfl (Or.inl rfl)) (pgs_star (pg_name (i := 2) sc_is_any_step.nd rfl (Or.inl rfl)) pgs_nil)) (by decide)))
      (pss_cons (ps_if (pt_cmpR op_neTy (pe_callTy (typeK K) (by rfl) T.b_type (by decide +kernel) (pa_cons (pv 1) pa_nil)) (pe_bltn (v := .ty "str") (u := .type "str") (by rfl) T.b_str (by decide +kernel) rfl) (nomark _)) (pss_one (ps_ret pe_bl)) pss_nil)
      (pss_cons (ps_if (pt_cmpR op_eq (pv 1) pe_str (nomark _)) (pss_one (ps_ret (pe_notT (pv 2)))) pss_nil)
      (pss_one (ps_ret (pe_and (pe_cmpR op_eq (pv 1) pe_str (nomark _)) (pe_and (pe_cmpR op_eq (pe_callB (lenK K) (by rfl) T.b_len (by decide +kernel) (pa_cons (pv 2) pa_nil)) pe_int (nomark _)) (pe_one (pe_callR G_is_rank (hr.mono (by decide)) rfl T.g_is_rank T.k_is_rank pass0 (pa_cons (pe_ix (ixLK K) (pv 2) pe_int (fun _ _ => rfl)) pa_nil)))))))))))), ?_⟩
    have kr : KV K H (.ref r) := ⟨"tuple", .tup hr0, by decide +kernel⟩
    cases s with
    | ins x =>
      refine ⟨rfl, _, rfl, ?_⟩
      dsimp only [tNil]
      refine stp_good (s := (true, x)) ⟨r, rfl, hr0⟩ rfl ?_
      refine ⟨_, rfl, iteH rfl ?_⟩
      exact k _ (Same.refl _)
    | rem j =>
      refine ⟨rfl, _, rfl, ?_⟩
      dsimp only [tNil]
      refine stp_good (s := (false, j)) ⟨r, rfl, hr0⟩ (by simpa [goodS, Top.good] using hg) ?_
      refine ⟨_, rfl, iteH rfl ?_⟩
      exact k _ (Same.refl _)
    | top j =>
      have hj : 0 < j := by simpa [Top.good] using hg
      have sf : stpV (.str "top") (.int j) = false := by
        have h1 : decide (V.str ("top" : Str) = V.str "insert") = false := by decide +kernel
        have h2 : decide (V.str ("top" : Str) = V.str "remove") = false := by decide +kernel
        simp only [stpV, h1, h2, Bool.false_eq_true, if_false, Bool.false_and]
      refine ⟨rfl, _, rfl, ?_⟩
      refine ⟨_, rfl, .inr (.inr ⟨r, _, _, rfl, hr0, kv_str _, kv_int _, ?_⟩)⟩
      rw [sf]
      refine ⟨_, rfl, iteN rfl ?_⟩
      refine ⟨_, rfl, _, "tuple", rfl, .tup hr0, "tuple", "tuple", rfl, rfl, by decide +kernel, by decide +kernel, _, rfl, iteN (by decide) ?_⟩
      refine ⟨_, rfl, r, _, rfl, .inr hr0, rfl, _, rfl, iteN (by rfl) ?_⟩
      refine ⟨_, rfl, r, _, rfl, hr0, by show 2 ≤ 2 + 1; decide, fun D hD => ⟨.str "top", [.ref D], rfl, .ref D, [], rfl, rfl, ?_⟩⟩
      have sD := same_new (o := .lst [V.int j]) hD
      refine ⟨_, rfl, _, "str", rfl, .str _, "str", "str", rfl, rfl, by decide +kernel, by decide +kernel, _, rfl, iteN (by decide) ?_⟩
      refine ⟨_, rfl, rfl, _, rfl, iteN (by decide +kernel) ?_⟩
      refine ⟨_, rfl, rfl, _, rfl, iteH (by decide +kernel) ?_⟩
      refine ⟨_, rfl, D, [V.int j], rfl, .inl (SqL.of upd_same), rfl, _, rfl, iteH (by rfl) ?_⟩
      refine ⟨_, rfl, D, [V.int j], 0, .int j, rfl, rfl, SqL.of upd_same, rfl, _, rfl, kv_int j, ?_⟩
      have : rnkV (.int j) = true := by simp [rnkV, hj]
      rw [this]
      exact k _ sD
    | med =>
      refine ⟨rfl, _, rfl, ?_⟩
      refine ⟨_, rfl, .inr (.inl ⟨r, _, rfl, hr0, by decide, ?_⟩)⟩
      refine ⟨_, rfl, iteN rfl ?_⟩
      refine ⟨_, rfl, _, "tuple", rfl, .tup hr0, "tuple", "tuple", rfl, rfl, by decide +kernel, by decide +kernel, _, rfl, iteN (by decide) ?_⟩
      refine ⟨_, rfl, r, _, rfl, .inr hr0, rfl, _, rfl, iteN (by decide) ?_⟩
      refine ⟨_, rfl, r, _, rfl, hr0, by show 2 ≤ 1 + 1; decide, fun D hD => ⟨.str "median", [.ref D], rfl, .ref D, [], rfl, rfl, ?_⟩⟩
      have sD := same_new (o := .lst ([] : List V)) hD
      refine ⟨_, rfl, _, "str", rfl, .str _, "str", "str", rfl, rfl, by decide +kernel, by decide +kernel, _, rfl, iteN (by decide) ?_⟩
      refine ⟨_, rfl, rfl, _, rfl, iteH (by decide +kernel) ?_⟩
      exact ⟨_, rfl, _, .inl ⟨_, SqL.of upd_same, rfl⟩, k _ sD⟩

def spOrd (K : PySem.W.Frag) : Sp := fun vs H Q _ => ∃ (n : Int) (x : V) (s : Top.TS), vs = [.int n, x] ∧ TsAt K H x s ∧ ∀ v H', Same H H' → StAt K H' v (Top.ord n s) → Q v H'
theorem ok_ordinary_step (T : Txt K mg a) : FnR P w K mg base CX0 2 a.ordinary_step (spOrd K) := by
  obtain ⟨fd, F⟩ := T.F_ordinary_step
  refine XT.okR F sc_ordinary_step bn_ordinary_step (fun vs H Q E h => ?_) (fun cdv A outer s H vs Q E hr h => ?_)
  · obtain ⟨n, x, s, rfl, _⟩ := h
    rfl
  · obtain ⟨n, x, s, rfl, ⟨r, rfl, hr0⟩, k⟩ := h
    refine ⟨_, (pss_cons (ps_if (pt_cmpR op_eq (pe_ix (ixTK K) (pv 1) pe_int (fun _ _ => rfl)) pe_str (nomark _)) (pss_one (ps_ret (pe_tup (pa_cons pe_str (pa_cons (pe_op op_sub (pe_op op_add (pv 0) pe_int) (pe_ix (ixTK K) (pv 1) pe_int (fun _ _ => rfl))) pa_nil))))) pss_nil)
      (pss_cons (ps_if (pt_cmpR op_eq (pe_ix (ixTK K) (pv 1) pe_int (fun _ _ => rfl)) pe_str (nomark _)) (pss_one (ps_ret (pe_tup (pa_cons pe_str (pa_cons (pe_op op_fdiv (pe_op op_add (pv 0) pe_int) pe_int) pa_nil))))) pss_nil)
      (pss_one (ps_ret (pv 1))))), ?_⟩
    cases s with
    | ins x =>
      refine ⟨_, rfl, r, _, 0, .str "insert", rfl, rfl, hr0, rfl, rfl, _, rfl, iteN (by decide +kernel) ?_⟩
      refine ⟨_, rfl, r, _, 0, .str "insert", rfl, rfl, hr0, rfl, rfl, _, rfl, iteN (by decide +kernel) ?_⟩
      exact ⟨_, rfl, k _ _ (Same.refl _) ⟨r, rfl, hr0⟩⟩
    | rem j =>
      refine ⟨_, rfl, r, _, 0, .str "remove", rfl, rfl, hr0, rfl, rfl, _, rfl, iteN (by decide +kernel) ?_⟩
      refine ⟨_, rfl, r, _, 0, .str "remove", rfl, rfl, hr0, rfl, rfl, _, rfl, iteN (by decide +kernel) ?_⟩
      exact ⟨_, rfl, k _ _ (Same.refl _) ⟨r, rfl, hr0⟩⟩
    | top j =>
      refine ⟨_, rfl, r, _, 0, .str "top", rfl, rfl, hr0, rfl, rfl, _, rfl, iteH (by decide +kernel) ?_⟩
      refine ⟨_, rfl, _, _, rfl, rfl, _, rfl, r, _, 1, .int j, rfl, rfl, hr0, rfl, _, _, rfl, rfl, by show 2 ≤ sizeLine; decide, fun t ht => ?_⟩
      exact k _ _ (same_new ht) (st_of (b := false) upd_same)
    | med =>
      refine ⟨_, rfl, r, _, 0, .str "median", rfl, rfl, hr0, rfl, rfl, _, rfl, iteN (by decide +kernel) ?_⟩
      refine ⟨_, rfl, r, _, 0, .str "median", rfl, rfl, hr0, rfl, rfl, _, rfl, iteH (by decide +kernel) ?_⟩
      refine ⟨_, rfl, _, _, rfl, rfl, _, _, rfl, rfl, ⟨by decide, by decide⟩, by show 2 ≤ sizeLine; decide, fun t ht => ?_⟩
      exact k _ _ (same_new ht) (st_of (b := false) upd_same)

def spRes (K : PySem.W.Frag) (CS : Addr) : Sp := fun vs H Q _ => ∃ (n : Int) (l : Addr) (xs : List V) (S : List Top.TS) (R : List Stp), vs = [.int n, .ref l] ∧ 0 ≤ n ∧ SqL K H l xs ∧ TssAt K H xs S ∧ (∀ s ∈ S, Top.good s = true) ∧ S.length ≤ 1000 ∧ Top.resolve n S = some R ∧ ∀ r H', Same H H' → H r = Option.none → SqcAt K CS H' r R → Q (.ref r) H'
theorem iteKS {σ : L2.St} {H : Hp} {kk : V → Hp → Prop} {c : Bool} {A B : TE} (x : V) (h1 : c = true → ∀ k' : V → Hp → Prop, k' x H → A σ H k') (h2 : ¬ c = true → ∀ k' : V → Hp → Prop, k' x H → B σ H k') (k : kk x H) : if c = true then A σ H kk else B σ H kk := by
  split
  · rename_i h; exact h1 h _ k
  · rename_i h; exact h2 h _ k
theorem wrd_rm (b : Bool) : decide (V.str (wrd b) = V.str "remove") = !b := by cases b <;> decide +kernel
theorem ok_resolved (T : Txt K mg a) : FnR P w K mg base CX0 8 a.resolved (spRes K a.Sequence) := by
  obtain ⟨fd, F⟩ := T.F_resolved
  refine XT.okR F sc_resolved bn_resolved (fun vs H Q E h => ?_) (fun cdv A outer s H vs Q E hr h => ?_)
  · obtain ⟨n, l, xs, S, R, rfl, _⟩ := h
    rfl
  · obtain ⟨n, l, xs, S, R, rfl, hn, hS, hL, hg, hz, hR, k⟩ := h
    have G_is_count := ok_is_count (P := P) (w := w) (base := base) T
    have G_is_any_step := ok_is_any_step (P := P) (w := w) (base := base) T
    have G_ordinary_step := ok_ordinary_step (P := P) (w := w) (base := base) T
    have G_Sequence_init := ok_Sequence___init__ (P := P) (w := w) (base := base) T
    refine ⟨_, (pss_cons (ps_if (pt_not (pt_val (pe_callR G_is_count (hr.mono (by decide)) rfl T.g_is_count T.k_is_count pass0 (pa_cons (pv 0) pa_nil)))) (pss_one ps_never) pss_nil)
      (pss_cons (ps_if (pt_cmpR (notInTyK K) (pe_callTy (typeK K) (by rfl) T.b_type (by decide +kernel) (pa_cons (pv 1) pa_nil)) (pe_tup (pa_cons (pe_bltn (v := .ty "list") (u := .type "list") (by rfl) T.b_list (by decide +kernel) rfl) (pa_cons (pe_bltn (v := .ty "tuple") (u := .type "tuple") (by rfl) T.b_tuple (by decide +kernel) rfl) pa_nil))) (by rfl)) (pss_one ps_never) pss_nil)
      (pss_cons (ps_for PassesOwn.never rfl (pi_list (pv 1)) (pg_name (i := 2) sc_resolved.nd rfl (Or.inl rfl))
        (pss_one (ps_if (pt_not (pt_val (pe_callR G_is_any_step (hr.mono (by decide)) rfl T.g_is_any_step T.k_is_any_step pass0 (pa_cons (pv 2) pa_nil)))) (pss_one ps_never) pss_nil)))
      (pss_cons (ps_set (i := 3) sc_resolved.nd rfl (Or.inl rfl) (pe_lst pa_nil))
      (pss_cons (ps_for PassesOwn.never rfl (pi_enum (by rfl) T.b_enumerate (pa_cons (pv 1) pa_nil)) (tupK K (n := 2) (by rfl) (pgs_cons (pg_name (i := 4) sc_resolved.nd rfl (Or.inl rfl)) (pgs_cons (pg_name (i := 2) sc_resolved.nd rfl (Or.inl rfl)) pgs_nil)))
        (pss_cons (ps_asg (pe_callR G_ordinary_step (hr.mono (by decide)) rfl T.g_ordinary_step T.k_ordinary_step pass0 (pa_cons (pv 0) (pa_cons (pv 2) pa_nil))) (tupK K (n := 2) (by rfl) (pgs_cons (pg_name (i := 5) sc_resolved.nd rfl (Or.inl rfl)) (pgs_cons (pg_name (i := 6) sc_resolved.nd rfl (Or.inl rfl)) pgs_nil))))
      (pss_cons (ps_if (PW.pt (pw_and (pt_cmpR op_eq (pv 5) pe_str (nomark _)) (pw_and1 (pt_not (pt_chain op_le op_le pe_int (pv 6) (pv 0)))))) (pss_one ps_never) pss_nil)
      (pss_cons (ps_set (i := 0) sc_resolved.nd rfl (Or.inl rfl) (pe_ifExp (pt_cmpR op_eq (pv 5) pe_str (nomark _)) (pe_op op_add (pv 0) pe_int) (pe_op op_sub (pv 0) pe_int)))
      (pss_one (ps_expr (bmK K (pe_bm PySem.F.plainAttrs_list PySem.F.slot_list_append PySem.F.type_list_append mt_append (pv 3) (pa_cons (pe_tup (pa_cons (pv 5) (pa_cons (pv 6) pa_nil))) pa_nil)))))))))
      (pss_one (ps_ret (pe_makeS1 T.M_Sequence G_Sequence_init (hr.mono (by decide)) rfl T.g_Sequence pass0 (pv 3))))))))), ?_⟩
    have hxl := hL.length
    have c0 : cntV (.int n) = true := by simp [cntV, hn]
    refine ⟨_, rfl, _, rfl, kv_int _, _, rfl, iteN (by rw [c0]; rfl) ?_⟩
    refine ⟨_, rfl, _, "list", rfl, TyB.lst hS, by decide, fun q0 hq => ⟨_, q0, ["list", "tuple"], rfl, rfl, SqT.of upd_same, by decide +kernel, by decide +kernel, _, rfl, iteN (by decide +kernel) ?_⟩⟩
    have s0 := same_new (o := .tup [V.ty "list", V.ty "tuple"]) hq
    generalize upd H q0 (.tup [V.ty "list", V.ty "tuple"]) = H0 at s0 ⊢
    have hS0 := s0.seq hS
    try dsimp only [tNext]
    show tSeq _ _ _ _ _
    refine seq_cut2 (fun σ' H' => ∃ o2, σ' = [some (.int n), some (.ref l), o2, none, none, none, none] ∧ Same H0 H') (fun N cont => ?_) (fun σ H1 h1 => ?_)
    · refine ⟨_, rfl, l, rfl, ⟨_, hS0⟩, for_list (K := K) (a := l) (xs := xs) (fun _ σ H' => ∃ o2, σ = [some (.int n), some (.ref l), o2, none, none, none, none] ∧ Same H0 H') ⟨_, rfl, Same.refl _⟩ (fun _ σ H' _ ⟨_, _, s⟩ => s.seq hS0) ?_ ?_⟩
      · rintro i x σ H1 hx ⟨o2, rfl, s1⟩
        obtain ⟨s, hs, hxs⟩ := pd_get hL hx
        exact ⟨_, rfl, x, s, rfl, hxs.same (s0.trans s1), hg s (List.mem_of_getElem? hs), fun H2 s2 => ⟨_, rfl, iteN rfl ⟨_, rfl, s1.trans s2⟩⟩⟩
      · rintro σ H1 ⟨o2, rfl, s1⟩
        exact cont _ _ ⟨_, rfl, s1⟩
    obtain ⟨o2, rfl, s1⟩ := h1
    have s01 := s0.trans s1
    refine ⟨Nat.zero_le _, fun D hD => ?_⟩
    have sD := same_new (o := .lst []) hD
    have nDH : H D = Option.none := s01.free hD
    have s02 := s01.trans sD
    refine ⟨_, rfl, l, xs, rfl, s02.seq hS, ?_⟩
    refine for_enL (xs := xs) (fun i σ H' => ∃ (m : Int) (acc : List V) (F R' : List Stp) (o2 o4 o5 o6 : Option V), σ = [some (.int m), some (.ref l), o2, some (.ref D), o4, o5, o6] ∧ Same H H' ∧ H' D = some (.lst acc) ∧ StsAt K H' acc F ∧ F.length = i ∧ 0 ≤ m ∧ Top.resolve m (S.drop i) = some R' ∧ R = F ++ R')
      (fun i σ H' hi ⟨_, _, _, _, _, _, _, _, _, s, _⟩ => s.seq hS) ⟨n, [], [], R, _, _, _, _, rfl, s02, upd_same, .nil, rfl, hn, hR, rfl⟩ ?_ ?_
    · rintro i x T' σ H2 hi hx hT' ⟨m, acc, F, R', p2, p4, p5, p6, rfl, s2, hD2, hF, hFl, hm, hres, hRe⟩
      obtain ⟨s, hs, hxs⟩ := pd_get hL hx
      obtain ⟨hok, R2, rfl, hres2⟩ := Top.resolve_step hs hres
      have sT := same_new (o := .tup [V.int (i : Int), x]) hT'
      refine ⟨T', [V.int (i : Int), x], rfl, SqT.of upd_same, rfl, _, [x], rfl, x, [], rfl, rfl, ?_⟩
      have s3 := s2.trans sT
      refine ⟨_, rfl, _, rfl, m, x, s, rfl, hxs.same s3, fun v H4 s4 hv => ?_⟩
      obtain ⟨q, rfl, hq⟩ := hv
      have hnx := Top.nxt_nn hok hm
      have gd := Top.okO_good hok
      generalize Top.ord m s = st at hok hres2 hRe hq hnx gd
      obtain ⟨b, j⟩ := st
      refine ⟨q, _, rfl, hq, rfl, _, [.int j], rfl, _, [], rfl, rfl, ?_⟩
      have s34 := s3.trans s4
      have hD4 := (sT.trans s4) _ _ hD2
      have hF4 := sts_same hF (sT.trans s4)
      have hal := hF.length
      -- a removal that is possible, or an insertion
      try dsimp only [tNext]
      show tSeq _ _ _ _ _
      refine seq_cut2 (fun σ' H' => σ' = [some (.int m), some (.ref l), some x, some (.ref D), some (.int (i : Int)), some (.str (wrd b)), some (.int j)] ∧ H' = H4) (fun N cont => ?_) (fun σ H5 h5 => ?_)
      · refine ⟨_, rfl, rfl, _, rfl, ?_⟩
        rw [wrd_rm]
        cases b with
        | true => exact iteN rfl (cont _ _ ⟨rfl, rfl⟩)
        | false =>
          simp [Top.okO] at hok
          refine iteH rfl ?_
          refine ⟨_, rfl, _, _, rfl, rfl, _, rfl, iteH (decide_eq_true hok.1) ?_⟩
          refine ⟨_, rfl, _, _, rfl, rfl, _, rfl, iteN (by simp [hok.2]) ?_⟩
          exact cont _ _ ⟨rfl, rfl⟩
      obtain ⟨rfl, rfl⟩ := h5
      refine ⟨_, rfl, rfl, _, rfl, ?_⟩
      refine iteKS (.int (Top.nxt m (b, j))) (fun hc k' hk => ?_) (fun hc k' hk => ?_) ?_
      · rw [wrd_ins] at hc
        subst hc
        exact ⟨_, rfl, _, _, rfl, rfl, hk⟩
      · rw [wrd_ins] at hc
        have hb : b = false := by simpa using hc
        subst hb
        exact ⟨_, rfl, _, _, rfl, rfl, hk⟩
      refine ⟨_, rfl, .inl ⟨rfl, _, SqL.of hD4⟩, _, rfl, _, rfl, by show 2 ≤ sizeLine; decide, fun t ht => ?_⟩
      have st := same_new (o := .tup [V.str (wrd b), V.int j]) ht
      refine ⟨D, _, _, rfl, rfl, st _ _ hD4, Nat.lt_of_lt_of_le (show acc.length < 100000 by omega) line_ge, ?_⟩
      have hDt := st _ _ hD4
      have ntD : t ≠ D := fun z => by rw [z, hD4] at ht; cases ht
      refine ⟨Top.nxt m (b, j), acc ++ [.ref t], F ++ [(b, j)], R2, _, _, _, _, rfl, same_upd (s34.trans st) nDH, upd_same, ?_, by rw [List.length_append, hFl]; rfl, hnx, hres2, by rw [hRe, List.append_assoc]; rfl⟩
      refine pd_append (sts_kt (sts_same hF4 st) (kt_upd hDt)) (.cons ?_ .nil)
      have z1 : SqT K (upd H5 t (.tup [V.str (wrd b), V.int j])) t [.str (wrd b), .int j] := SqT.of upd_same
      exact ⟨t, rfl, kt_upd hDt _ _ z1⟩
    · rintro σ H2 ⟨m, acc, F, R', p2, p4, p5, p6, rfl, s2, hD2, hF, hFl, hm, hres, hRe⟩
      rw [hxl, List.drop_length] at hres
      have e0 : R' = [] := by
        have h : some ([] : List Stp) = some R' := hres
        cases h
        rfl
      subst e0
      rw [List.append_nil] at hRe
      subst hRe
      have hal := hF.length
      have hRl := Top.resolve_len hR
      refine ⟨_, rfl, D, acc, rfl, .inr (SqL.of hD2), fun r dr nr ndr ner => ?_⟩
      exact sq_mk nr ndr ner hF (Top.resolve_good hR) (by omega) fun H3 s3 h3 => ⟨rfl, k r H3 (s2.trans s3) (s2.free nr) h3⟩

def anyV (w : V) : List V → Bool
  | [] => decide (w = .str "median")
  | [o] => stpV w o || (decide (w = .str "top") && rnkV o)
  | _ => false
/-- what is no step from either end -/
def BadSt (K : PySem.W.Frag) (H : Hp) (x : V) : Prop := (∃ n, TyB K H x n ∧ tyN n = true ∧ n ≠ "tuple") ∨ ∃ r w os, x = .ref r ∧ SqT K H r (w :: os) ∧ KV K H w ∧ (∀ o ∈ os, KV K H o) ∧ os.length ≤ 2 ∧ anyV w os = false
theorem BadSt.same {H H' : Hp} {x : V} (h : BadSt K H x) (s : Same H H') : BadSt K H' x := by
  rcases h with ⟨n, a, b, c⟩ | ⟨r, w, os, rfl, a, b, c, d, e⟩
  · exact .inl ⟨n, same_tyB s a, b, c⟩
  · exact .inr ⟨r, w, os, rfl, same_seqT s a, b.same s, fun o ho => (c o ho).same s, d, e⟩
def spAnyB (K : PySem.W.Frag) : Sp := fun vs H Q _ => ∃ x, vs = [x] ∧ BadSt K H x ∧ ∀ H', Same H H' → Q (.bl false) H'
theorem str_of {H : Hp} {x : V} (h : TyB K H x "str") : ∃ z, x = .str z := by
  have : ∀ n, TyB K H x n → n = "str" → ∃ z, x = .str z := by
    intro n h
    cases h <;> first | exact fun _ => ⟨_, rfl⟩ | exact fun e => absurd e (by decide +kernel)
  exact this _ h rfl
theorem okB_is_any_step (T : Txt K mg a) : FnR P w K mg base CX0 4 a.is_any_step (spAnyB K) := by
  obtain ⟨fd, F⟩ := T.F_is_any_step
  refine XT.okR F sc_is_any_step bn_is_any_step (fun vs H Q E h => ?_) (fun cdv A outer s H vs Q E hr h => ?_)
  · obtain ⟨x, rfl, _⟩ := h
    rfl
  · obtain ⟨x, rfl, hb, k⟩ := h
    have G_is_step := ok_Sequence_is_step (P := P) (w := w) (base := base) T
    have G_is_rank := ok_is_rank (P := P) (w := w) (base := base) T
    refine ⟨_, (pss_cons (ps_if (pt_val (pe_sta (pe_glob (v := .ref a.Sequence) (by rfl) T.g_Sequence rfl) T.rd_Sequence T.sta_is_step G_is_step (hr.mono (by decide)) pass0 (pa_cons (pv 0) pa_nil))) (pss_one (ps_ret pe_bl)) pss_nil)
      (pss_cons (ps_if (PW.pt (pw_or (pt_cmpR op_neTy (pe_callTy (typeK K) (by rfl) T.b_type (by decide +kernel) (pa_cons (pv 0) pa_nil)) (pe_bltn (v := .ty "tuple") (u := .type "tuple") (by rfl) T.b_tuple (by decide +kernel) rfl) (nomark _)) (pw_or1 (pt_cmpR op_eq (pe_callB (lenK K) (by rfl) T.b_len (by decide +kernel) (pa_cons (pv 0) pa_nil)) pe_int (nomark _))))) (pss_one (ps_ret pe_bl)) pss_nil)
      (pss_cons (ps_asg (pv 0) (pg_star K (n := 2) (i := 1) (by rfl) (pgs_cons (pg_name (i := 1) sc_is_any_step.nd rfl (Or.inl rfl)) (pgs_star (pg_name (i := 2) sc_is_any_step.nd rfl (Or.inl rfl)) pgs_nil)) (by decide)))
      (pss_cons (ps_if (pt_cmpR op_neTy (pe_callTy (typeK K) (by rfl) T.b_type (by decide +kernel) (pa_cons (pv 1) pa_nil)) (pe_bltn (v := .ty "str") (u := .type "str") (by rfl) T.b_str (by decide +kernel) rfl) (nomark _)) (pss_one (ps_ret pe_bl)) pss_nil)
      (pss_cons (ps_if (pt_cmpR op_eq (pv 1) pe_str (nomark _)) (pss_one (ps_ret (pe_notT (pv 2)))) pss_nil)
      (pss_one (ps_ret (pe_and (pe_cmpR op_eq (pv 1) pe_str (nomark _)) (pe_and (pe_cmpR op_eq (pe_callB (lenK K) (by rfl) T.b_len (by decide +kernel) (pa_cons (pv 2) pa_nil)) pe_int (nomark _)) (pe_one (pe_callR G_is_rank (hr.mono (by decide)) rfl T.g_is_rank T.k_is_rank pass0 (pa_cons (pe_ix (ixLK K) (pv 2) pe_int (fun _ _ => rfl)) pa_nil)))))))))))), ?_⟩
    rcases hb with ⟨n, ht, hn, ne⟩ | ⟨r, w, os, rfl, hr0, kw, ko, hl, ha⟩
    · refine ⟨rfl, _, rfl, ?_⟩
      refine ⟨_, rfl, .inl ⟨n, ht, hn, ne, ?_⟩⟩
      refine ⟨_, rfl, iteN rfl ?_⟩
      refine ⟨_, rfl, _, n, rfl, ht, n, "tuple", rfl, rfl, hn, by decide +kernel, _, rfl, iteH (by simp [ne]) ?_⟩
      exact k _ (Same.refl _)
    rcases os with _ | ⟨o, _ | ⟨o2, _ | ⟨o3, os⟩⟩⟩
    · clear hl
      refine ⟨rfl, _, rfl, ?_⟩
      refine ⟨_, rfl, .inr (.inl ⟨r, _, rfl, hr0, by simp, ?_⟩)⟩
      refine ⟨_, rfl, iteN rfl ?_⟩
      refine ⟨_, rfl, _, "tuple", rfl, .tup hr0, "tuple", "tuple", rfl, rfl, by decide +kernel, by decide +kernel, _, rfl, iteN (by decide) ?_⟩
      refine ⟨_, rfl, r, _, rfl, .inr hr0, rfl, _, rfl, iteN (by rfl) ?_⟩
      refine ⟨_, rfl, r, _, rfl, hr0, by show 2 ≤ 1 + 1; decide, fun D hD => ⟨w, [.ref D], rfl, .ref D, [], rfl, rfl, ?_⟩⟩
      have sD := same_new (o := .lst ([] : List V)) hD
      obtain ⟨nw, tw, hnw⟩ := kw.same sD
      by_cases es : nw = "str"
      · subst es
        obtain ⟨z, rfl⟩ := str_of tw
        refine ⟨_, rfl, _, "str", rfl, tw, "str", "str", rfl, rfl, by decide +kernel, by decide +kernel, _, rfl, iteN (by decide) ?_⟩
        refine ⟨_, rfl, rfl, _, rfl, ite2 (fun h1 => ?_) (fun h1 => ?_)⟩
        · exact absurd h1 (by simpa [anyV] using ha)
        · refine ⟨_, rfl, rfl, _, rfl, ite2 (fun h2 => ?_) (fun h2 => ?_)⟩
          · exact ⟨_, rfl, D, _, rfl, .inl (SqL.of upd_same), rfl, _, rfl, iteN (by rfl) (k _ sD)⟩
          · exact k _ sD
      · refine ⟨_, rfl, _, nw, rfl, tw, nw, "str", rfl, rfl, hnw, by decide +kernel, _, rfl, iteH (by simp [es]) ?_⟩
        exact k _ sD
    · clear hl
      have sf : stpV w o = false := ((Bool.or_eq_false_iff).mp ha).1
      refine ⟨rfl, _, rfl, ?_⟩
      refine ⟨_, rfl, .inr (.inr ⟨r, _, _, rfl, hr0, kw, ko o (by simp), ?_⟩)⟩
      rw [sf]
      refine ⟨_, rfl, iteN rfl ?_⟩
      refine ⟨_, rfl, _, "tuple", rfl, .tup hr0, "tuple", "tuple", rfl, rfl, by decide +kernel, by decide +kernel, _, rfl, iteN (by decide) ?_⟩
      refine ⟨_, rfl, r, _, rfl, .inr hr0, rfl, _, rfl, iteN (by rfl) ?_⟩
      refine ⟨_, rfl, r, _, rfl, hr0, by show 2 ≤ 2 + 1; decide, fun D hD => ⟨w, [.ref D], rfl, .ref D, [], rfl, rfl, ?_⟩⟩
      have sD := same_new (o := .lst ([o] : List V)) hD
      obtain ⟨nw, tw, hnw⟩ := kw.same sD
      by_cases es : nw = "str"
      · subst es
        obtain ⟨z, rfl⟩ := str_of tw
        refine ⟨_, rfl, _, "str", rfl, tw, "str", "str", rfl, rfl, by decide +kernel, by decide +kernel, _, rfl, iteN (by decide) ?_⟩
        refine ⟨_, rfl, rfl, _, rfl, ite2 (fun h1 => ?_) (fun h1 => ?_)⟩
        · exact ⟨_, rfl, _, .inl ⟨_, SqL.of upd_same, rfl⟩, k _ sD⟩
        · refine ⟨_, rfl, rfl, _, rfl, ite2 (fun h2 => ?_) (fun h2 => ?_)⟩
          · refine ⟨_, rfl, D, _, rfl, .inl (SqL.of upd_same), rfl, _, rfl, iteH (by rfl) ?_⟩
            refine ⟨_, rfl, D, _, 0, o, rfl, rfl, SqL.of upd_same, rfl, _, rfl, (ko o (by simp)).same sD, ?_⟩
            have e := ((Bool.or_eq_false_iff).mp ha).2
            rw [h2, Bool.true_and] at e
            rw [e]
            exact k _ sD
          · exact k _ sD
      · refine ⟨_, rfl, _, nw, rfl, tw, nw, "str", rfl, rfl, hnw, by decide +kernel, _, rfl, iteH (by simp [es]) ?_⟩
        exact k _ sD
    · clear hl
      refine ⟨rfl, _, rfl, ?_⟩
      refine ⟨_, rfl, .inr (.inl ⟨r, _, rfl, hr0, by simp, ?_⟩)⟩
      refine ⟨_, rfl, iteN rfl ?_⟩
      refine ⟨_, rfl, _, "tuple", rfl, .tup hr0, "tuple", "tuple", rfl, rfl, by decide +kernel, by decide +kernel, _, rfl, iteN (by decide) ?_⟩
      refine ⟨_, rfl, r, _, rfl, .inr hr0, rfl, _, rfl, iteN (by rfl) ?_⟩
      refine ⟨_, rfl, r, _, rfl, hr0, by show 2 ≤ 3 + 1; decide, fun D hD => ⟨w, [.ref D], rfl, .ref D, [], rfl, rfl, ?_⟩⟩
      have sD := same_new (o := .lst ([o, o2] : List V)) hD
      obtain ⟨nw, tw, hnw⟩ := kw.same sD
      by_cases es : nw = "str"
      · subst es
        obtain ⟨z, rfl⟩ := str_of tw
        refine ⟨_, rfl, _, "str", rfl, tw, "str", "str", rfl, rfl, by decide +kernel, by decide +kernel, _, rfl, iteN (by decide) ?_⟩
        refine ⟨_, rfl, rfl, _, rfl, ite2 (fun h1 => ?_) (fun h1 => ?_)⟩
        · exact ⟨_, rfl, _, .inl ⟨_, SqL.of upd_same, rfl⟩, k _ sD⟩
        · refine ⟨_, rfl, rfl, _, rfl, ite2 (fun h2 => ?_) (fun h2 => ?_)⟩
          · exact ⟨_, rfl, D, _, rfl, .inl (SqL.of upd_same), rfl, _, rfl, iteN (by rfl) (k _ sD)⟩
          · exact k _ sD
      · refine ⟨_, rfl, _, nw, rfl, tw, nw, "str", rfl, rfl, hnw, by decide +kernel, _, rfl, iteH (by simp [es]) ?_⟩
        exact k _ sD
    · exfalso
      simp only [List.length_cons] at hl
      omega
end
end K41
namespace K41
open PySem L2 XT
section
variable {P : Program} {w : World} {K : PySem.W.Frag} {mg : Str → Option Value} {base : Heap} {a : Ads}
local macro_rules | `(tactic| walk_at "rside") => `(tactic| first | (show (0 : Int) < _; first | decide | omega) | (exact ⟨by first | decide | omega, by first | decide | omega⟩) | (exact Or.inl ⟨by omega, by omega⟩) | (exact Or.inr ⟨by omega, by omega⟩) | (exact ⟨by decide, by decide, by decide⟩))
local macro_rules | `(tactic| walk_at "rd1") => `(tactic| first | (refine ⟨_, rfl, ?_⟩) | (refine ⟨_, _, rfl, rfl, (by walk_at "rside"), ?_⟩) | (refine ⟨_, _, rfl, rfl, ?_⟩))
local macro_rules | `(tactic| walk_at "rd") => `(tactic| repeat (walk_at "rd1"))

theorem okU_is_any_step (T : Txt K mg a) : FnR P w K mg base CX0 4 a.is_any_step (fun vs H Q E => spAny K vs H Q E ∨ spAnyB K vs H Q E) := fnR_or (ok_is_any_step T) (okB_is_any_step T)
def spResE (SQ : Hp → Addr → List V → Prop) (K : PySem.W.Frag) (CS CI CF : Addr) : Sp := fun vs H Q E => ∃ (n : Int) (l : Addr) (xs : List V), vs = [.int n, .ref l] ∧ 0 ≤ n ∧ SQ H l xs ∧ xs.length ≤ 1000 ∧
 ((∃ (i0 : Nat) (x : V), xs[i0]? = some x ∧ BadSt K H x ∧ (∀ j < i0, ∃ y s, xs[j]? = some y ∧ TsAt K H y s ∧ Top.good s = true) ∧ ∀ d H', Same H H' → H d = Option.none → H' d = some (.xd [("value", x)]) → E (.ref CI) (some d) H') ∨
  (∃ S, TssAt K H xs S ∧ (∀ s ∈ S, Top.good s = true) ∧ (∀ R, Top.outc n S 0 = .inl R → ∀ r H', Same H H' → H r = Option.none → SqcAt K CS H' r R → Q (.ref r) H') ∧ (∀ i : Nat, Top.outc n S 0 = .inr i → ∀ d H', Same H H' → H d = Option.none → H' d = some (.xd [("index", .int (i : Int))]) → E (.ref CF) (some d) H')))
def spResB (K : PySem.W.Frag) (CN CI : Addr) : Sp := fun vs H _ E => ∃ x y, vs = [x, y] ∧
  ((KV K H x ∧ cntV x = false ∧ ∀ d H', Same H H' → H d = Option.none → H' d = some (.xd [("value", x)]) → E (.ref CN) (some d) H') ∨
   (∃ (n : Int) (m : String), x = .int n ∧ 0 ≤ n ∧ TyB K H y m ∧ tyN m = true ∧ m ≠ "list" ∧ m ≠ "tuple" ∧ ∀ d H', Same H H' → H d = Option.none → H' d = some (.xd [("value", y)]) → E (.ref CI) (some d) H'))
theorem okL_resolved (T : Txt K mg a) : FnR P w K mg base (L2.CX P w) 8 a.resolved (spResE (SqL K) K a.Sequence a.InvalidStep a.StepFailed) := by
  obtain ⟨fd, F⟩ := T.F_resolved
  obtain ⟨fd_InvalidNumber, FE_InvalidNumber⟩ := T.F_InvalidNumber___init__
  have GE_InvalidNumber := okE_InvalidNumber (P := P) (w := w) (base := base) T T.e_InvalidNumber FE_InvalidNumber
  have BE_InvalidNumber := FE_InvalidNumber.binds bn_InvalidNumber___init__
  obtain ⟨fd_InvalidStep, FE_InvalidStep⟩ := T.F_InvalidStep___init__
  have GE_InvalidStep := okE_InvalidStep (P := P) (w := w) (base := base) T T.e_InvalidStep FE_InvalidStep
  have BE_InvalidStep := FE_InvalidStep.binds bn_InvalidStep___init__
  obtain ⟨fd_StepFailed, FE_StepFailed⟩ := T.F_StepFailed___init__
  have GE_StepFailed := okE_StepFailed (P := P) (w := w) (base := base) T T.e_StepFailed FE_StepFailed
  have BE_StepFailed := FE_StepFailed.binds bn_StepFailed___init__
  refine XT.okX F sc_resolved bn_resolved (fun vs H Q E h => ?_) (fun cdv A outer s H vs Q E hr h => ?_)
  · obtain ⟨n, l, xs, rfl, _⟩ := h
    rfl
  · obtain ⟨n, l, xs, rfl, hn, hS, hz, h⟩ := h
    have G_is_count := ok_is_count (P := P) (w := w) (base := base) T
    have G_is_any_step := okU_is_any_step (P := P) (w := w) (base := base) T
    have G_ordinary_step := ok_ordinary_step (P := P) (w := w) (base := base) T
    have G_Sequence_init := ok_Sequence___init__ (P := P) (w := w) (base := base) T
    refine ⟨_, (pss_cons (ps_if (pt_not (pt_val (pe_callR G_is_count (hr.mono (by decide)) rfl T.g_is_count T.k_is_count pass0 (pa_cons (pv 0) pa_nil)))) (pss_one (ps_raiseE T.e_InvalidNumber GE_InvalidNumber BE_InvalidNumber (hr.mono (by decide)) T.g_InvalidNumber rfl (takes_of rfl rfl rfl rfl) (pv 0))) pss_nil)
      (pss_cons (ps_if (pt_cmpR (notInTyK K) (pe_callTy (typeK K) (by rfl) T.b_type (by decide +kernel) (pa_cons (pv 1) pa_nil)) (pe_tup (pa_cons (pe_bltn (v := .ty "list") (u := .type "list") (by rfl) T.b_list (by decide +kernel) rfl) (pa_cons (pe_bltn (v := .ty "tuple") (u := .type "tuple") (by rfl) T.b_tuple (by decide +kernel) rfl) pa_nil))) (by rfl)) (pss_one (ps_raiseE T.e_InvalidStep GE_InvalidStep BE_InvalidStep (hr.mono (by decide)) T.g_InvalidStep rfl (takes_of rfl rfl rfl rfl) (pv 1))) pss_nil)
      (pss_cons (ps_for (passes_of rfl) rfl (pi_list (pv 1)) (pg_name (i := 2) sc_resolved.nd rfl (Or.inl rfl))
        (pss_one (ps_if (pt_not (pt_val (pe_callR G_is_any_step (hr.mono (by decide)) rfl T.g_is_any_step T.k_is_any_step pass0 (pa_cons (pv 2) pa_nil)))) (pss_one (ps_raiseE T.e_InvalidStep GE_InvalidStep BE_InvalidStep (hr.mono (by decide)) T.g_InvalidStep rfl (takes_of rfl rfl rfl rfl) (pv 2))) pss_nil)))
      (pss_cons (ps_set (i := 3) sc_resolved.nd rfl (Or.inl rfl) (pe_lst pa_nil))
      (pss_cons (ps_for (passes_of rfl) rfl (pi_enum (by rfl) T.b_enumerate (pa_cons (pv 1) pa_nil)) (tupK K (n := 2) (by rfl) (pgs_cons (pg_name (i := 4) sc_resolved.nd rfl (Or.inl rfl)) (pgs_cons (pg_name (i := 2) sc_resolved.nd rfl (Or.inl rfl)) pgs_nil)))
        (pss_cons (ps_asg (pe_callR G_ordinary_step (hr.mono (by decide)) rfl T.g_ordinary_step T.k_ordinary_step pass0 (pa_cons (pv 0) (pa_cons (pv 2) pa_nil))) (tupK K (n := 2) (by rfl) (pgs_cons (pg_name (i := 5) sc_resolved.nd rfl (Or.inl rfl)) (pgs_cons (pg_name (i := 6) sc_resolved.nd rfl (Or.inl rfl)) pgs_nil))))
      (pss_cons (ps_if (PW.pt (pw_and (pt_cmpR op_eq (pv 5) pe_str (nomark _)) (pw_and1 (pt_not (pt_chain op_le op_le pe_int (pv 6) (pv 0)))))) (pss_one (ps_raiseG T.e_StepFailed GE_StepFailed BE_StepFailed (hr.mono (by decide)) T.g_StepFailed rfl (takes_of rfl rfl rfl rfl) (pv 4))) pss_nil)
      (pss_cons (ps_set (i := 0) sc_resolved.nd rfl (Or.inl rfl) (pe_ifExp (pt_cmpR op_eq (pv 5) pe_str (nomark _)) (pe_op op_add (pv 0) pe_int) (pe_op op_sub (pv 0) pe_int)))
      (pss_one (ps_expr (bmK K (pe_bm PySem.F.plainAttrs_list PySem.F.slot_list_append PySem.F.type_list_append mt_append (pv 3) (pa_cons (pe_tup (pa_cons (pv 5) (pa_cons (pv 6) pa_nil))) pa_nil)))))))))
      (pss_one (ps_ret (pe_makeS1 T.M_Sequence G_Sequence_init (hr.mono (by decide)) rfl T.g_Sequence pass0 (pv 3))))))))), ?_⟩
    have c0 : cntV (.int n) = true := by simp [cntV, hn]
    refine ⟨_, rfl, _, rfl, kv_int _, _, rfl, iteN (by rw [c0]; rfl) ?_⟩
    refine ⟨_, rfl, _, "list", rfl, TyB.lst hS, by decide, fun q0 hq => ⟨_, q0, ["list", "tuple"], rfl, rfl, SqT.of upd_same, by decide +kernel, by decide +kernel, _, rfl, iteN (by decide +kernel) ?_⟩⟩
    have s0 := same_new (o := .tup [V.ty "list", V.ty "tuple"]) hq
    generalize upd H q0 (.tup [V.ty "list", V.ty "tuple"]) = H0 at s0 ⊢
    have hS0 := Same.seq s0 hS
    rcases h with ⟨i0, x0, hx0, hbad, hpre, k⟩ | ⟨S, hL, hg, k1, k2⟩
    · try dsimp only [tNext]
      show tSeq _ _ _ _ _
      refine ⟨_, rfl, l, rfl, ⟨_, hS0⟩, for_list (K := K) (a := l) (xs := xs) (fun i σ H' => i ≤ i0 ∧ ∃ o2, σ = [some (.int n), some (.ref l), o2, none, none, none, none] ∧ Same H0 H') ⟨Nat.zero_le _, _, rfl, Same.refl _⟩ (fun _ σ H' _ ⟨_, _, _, s⟩ => Same.seq s hS0) ?_ ?_⟩
      · rintro i x σ H1 hx ⟨hi, o2, rfl, s1⟩
        by_cases e : i = i0
        · subst e
          rw [hx0] at hx
          cases hx
          refine ⟨_, rfl, .inr ⟨_, rfl, hbad.same (s0.trans s1), fun H2 s2 => ⟨_, rfl, iteH rfl ?_⟩⟩⟩
          exact ⟨_, rfl, err_rd fun d hd => k d _ (((s0.trans s1).trans s2).trans (same_new hd)) (((s0.trans s1).trans s2).free hd) upd_same⟩
        · obtain ⟨y, s, hy, hys, hgy⟩ := hpre i (by omega)
          rw [hy] at hx
          cases hx
          exact ⟨_, rfl, .inl ⟨_, s, rfl, hys.same (s0.trans s1), hgy, fun H2 s2 => ⟨_, rfl, iteN rfl ⟨by omega, _, rfl, s1.trans s2⟩⟩⟩⟩
      · rintro σ H1 ⟨hi, _⟩
        have := (List.getElem?_eq_some_iff.mp hx0).1
        omega
    have hxl := hL.length
    try dsimp only [tNext]
    show tSeq _ _ _ _ _
    refine seq_cut2 (fun σ' H' => ∃ o2, σ' = [some (.int n), some (.ref l), o2, none, none, none, none] ∧ Same H0 H') (fun N cont => ?_) (fun σ H1 h1 => ?_)
    · refine ⟨_, rfl, l, rfl, ⟨_, hS0⟩, for_list (K := K) (a := l) (xs := xs) (fun _ σ H' => ∃ o2, σ = [some (.int n), some (.ref l), o2, none, none, none, none] ∧ Same H0 H') ⟨_, rfl, Same.refl _⟩ (fun _ σ H' _ ⟨_, _, s⟩ => Same.seq s hS0) ?_ ?_⟩
      · rintro i x σ H1 hx ⟨o2, rfl, s1⟩
        obtain ⟨s, hs, hxs⟩ := pd_get hL hx
        exact ⟨_, rfl, .inl ⟨x, s, rfl, hxs.same (s0.trans s1), hg s (List.mem_of_getElem? hs), fun H2 s2 => ⟨_, rfl, iteN rfl ⟨_, rfl, s1.trans s2⟩⟩⟩⟩
      · rintro σ H1 ⟨o2, rfl, s1⟩
        exact cont _ _ ⟨_, rfl, s1⟩
    obtain ⟨o2, rfl, s1⟩ := h1
    have s01 := s0.trans s1
    refine ⟨Nat.zero_le _, fun D hD => ?_⟩
    have sD := same_new (o := .lst []) hD
    have nDH : H D = Option.none := s01.free hD
    have s02 := s01.trans sD
    refine ⟨_, rfl, l, xs, rfl, Same.seq s02 hS, ?_⟩
    refine for_enL (xs := xs) (fun i σ H' => ∃ (m : Int) (acc : List V) (F : List Stp) (o2 o4 o5 o6 : Option V), σ = [some (.int m), some (.ref l), o2, some (.ref D), o4, o5, o6] ∧ Same H H' ∧ H' D = some (.lst acc) ∧ StsAt K H' acc F ∧ F.length = i ∧ (∀ s ∈ F, goodS s = true) ∧ 0 ≤ m ∧ Top.outc n S 0 = Top.pre F (Top.outc m (S.drop i) i))
      (fun i σ H' hi ⟨_, _, _, _, _, _, _, _, s, _⟩ => s.seq hS) ⟨n, [], [], _, _, _, _, rfl, s02, upd_same, .nil, rfl, (fun s hs => by cases hs), hn, by rw [Top.pre_nil]; rfl⟩ ?_ ?_
    · rintro i x T' σ H2 hi9 hx hT' ⟨m, acc, F, p2, p4, p5, p6, rfl, s2, hD2, hF, hFl, hFg, hm, hres⟩
      obtain ⟨s, hs, hxs⟩ := pd_get hL hx
      have hiS := (List.getElem?_eq_some_iff.mp hs).1
      have sT := same_new (o := .tup [V.int (i : Int), x]) hT'
      refine ⟨T', [V.int (i : Int), x], rfl, SqT.of upd_same, rfl, _, [x], rfl, x, [], rfl, rfl, ?_⟩
      have s3 := s2.trans sT
      refine ⟨_, rfl, _, rfl, m, x, s, rfl, hxs.same s3, fun v H4 s4 hv => ?_⟩
      obtain ⟨q, rfl, hq⟩ := hv
      have s34 := s3.trans s4
      have hD4 := (sT.trans s4) _ _ hD2
      have hF4 := sts_same hF (sT.trans s4)
      have hal := hF.length
      by_cases hok : Top.okO m (Top.ord m s) = true
      · rw [Top.outc_ok hs hok] at hres
        have hnx := Top.nxt_nn hok hm
        have gd := Top.okO_good hok
        generalize Top.ord m s = st at hok hres hq hnx gd
        obtain ⟨b, j⟩ := st
        refine ⟨q, _, rfl, hq, rfl, _, [.int j], rfl, _, [], rfl, rfl, ?_⟩
        try dsimp only [tNext]
        show tSeq _ _ _ _ _
        refine seq_cut2 (fun σ' H' => σ' = [some (.int m), some (.ref l), some x, some (.ref D), some (.int (i : Int)), some (.str (wrd b)), some (.int j)] ∧ H' = H4) (fun N cont => ?_) (fun σ H5 h5 => ?_)
        · refine ⟨_, rfl, rfl, _, rfl, ?_⟩
          rw [wrd_rm]
          cases b with
          | true => exact iteN rfl (cont _ _ ⟨rfl, rfl⟩)
          | false =>
            simp [Top.okO] at hok
            refine iteH rfl ?_
            refine ⟨_, rfl, _, _, rfl, rfl, _, rfl, iteH (decide_eq_true hok.1) ?_⟩
            refine ⟨_, rfl, _, _, rfl, rfl, _, rfl, iteN (by simp [hok.2]) ?_⟩
            exact cont _ _ ⟨rfl, rfl⟩
        obtain ⟨rfl, rfl⟩ := h5
        refine ⟨_, rfl, rfl, _, rfl, ?_⟩
        refine iteKS (.int (Top.nxt m (b, j))) (fun hc k' hk => ?_) (fun hc k' hk => ?_) ?_
        · rw [wrd_ins] at hc
          subst hc
          exact ⟨_, rfl, _, _, rfl, rfl, hk⟩
        · rw [wrd_ins] at hc
          have hb : b = false := by simpa using hc
          subst hb
          exact ⟨_, rfl, _, _, rfl, rfl, hk⟩
        refine ⟨_, rfl, .inl ⟨rfl, _, SqL.of hD4⟩, _, rfl, _, rfl, by show 2 ≤ sizeLine; decide, fun t ht => ?_⟩
        have st := same_new (o := .tup [V.str (wrd b), V.int j]) ht
        refine ⟨D, _, _, rfl, rfl, st _ _ hD4, Nat.lt_of_lt_of_le (show acc.length < 100000 by omega) line_ge, ?_⟩
        have hDt := st _ _ hD4
        refine ⟨Top.nxt m (b, j), acc ++ [.ref t], F ++ [(b, j)], _, _, _, _, rfl, same_upd (s34.trans st) nDH, upd_same, ?_, by rw [List.length_append, hFl]; rfl, fun s hs => (List.mem_append.mp hs).elim (hFg s) (fun z => by rw [List.mem_singleton.mp z]; exact gd), hnx, hres⟩
        refine pd_append (sts_kt (sts_same hF4 st) (kt_upd hDt)) (.cons ?_ .nil)
        have z1 : SqT K (upd H5 t (.tup [V.str (wrd b), V.int j])) t [.str (wrd b), .int j] := SqT.of upd_same
        exact ⟨t, rfl, kt_upd hDt _ _ z1⟩
      · rw [Top.outc_no hs hok] at hres
        generalize Top.ord m s = st at hok hq
        obtain ⟨b, j⟩ := st
        cases b with
        | true => exact absurd rfl hok
        | false =>
          refine ⟨q, _, rfl, hq, rfl, _, [.int j], rfl, _, [], rfl, rfl, ?_⟩
          try dsimp only [tNext]
          show tSeq _ _ _ _ _
          refine ⟨_, rfl, rfl, _, rfl, ?_⟩
          rw [wrd_rm]
          refine iteH rfl ?_
          by_cases c1 : 1 ≤ j
          · have c2 : ¬ j ≤ m := fun z => hok (by simp [Top.okO, c1, z])
            refine ⟨_, rfl, _, _, rfl, rfl, _, rfl, iteH (decide_eq_true c1) ?_⟩
            refine ⟨_, rfl, _, _, rfl, rfl, _, rfl, iteH (by rw [decide_eq_false c2]; rfl) ?_⟩
            exact ⟨_, rfl, err_rd fun d hd => k2 i hres d _ (s34.trans (same_new hd)) (s34.free hd) upd_same⟩
          · refine ⟨_, rfl, _, _, rfl, rfl, _, rfl, iteN (decide_eq_false c1) ?_⟩
            refine ⟨_, rfl, iteH rfl ?_⟩
            exact ⟨_, rfl, err_rd fun d hd => k2 i hres d _ (s34.trans (same_new hd)) (s34.free hd) upd_same⟩
    · rintro σ H2 ⟨m, acc, F, p2, p4, p5, p6, rfl, s2, hD2, hF, hFl, hFg, hm, hres⟩
      rw [Top.outc_end F m S xs.length (by omega)] at hres
      have hal := hF.length
      refine ⟨_, rfl, D, acc, rfl, .inr (SqL.of hD2), fun r dr nr ndr ner => ?_⟩
      exact sq_mk nr ndr ner hF hFg (by omega) fun H3 s3 h3 => ⟨rfl, k1 F hres r H3 (s2.trans s3) (s2.free nr) h3⟩

theorem okT_resolved (T : Txt K mg a) : FnR P w K mg base (L2.CX P w) 8 a.resolved (spResE (SqT K) K a.Sequence a.InvalidStep a.StepFailed) := by
  obtain ⟨fd, F⟩ := T.F_resolved
  obtain ⟨fd_InvalidNumber, FE_InvalidNumber⟩ := T.F_InvalidNumber___init__
  have GE_InvalidNumber := okE_InvalidNumber (P := P) (w := w) (base := base) T T.e_InvalidNumber FE_InvalidNumber
  have BE_InvalidNumber := FE_InvalidNumber.binds bn_InvalidNumber___init__
  obtain ⟨fd_InvalidStep, FE_InvalidStep⟩ := T.F_InvalidStep___init__
  have GE_InvalidStep := okE_InvalidStep (P := P) (w := w) (base := base) T T.e_InvalidStep FE_InvalidStep
  have BE_InvalidStep := FE_InvalidStep.binds bn_InvalidStep___init__
  obtain ⟨fd_StepFailed, FE_StepFailed⟩ := T.F_StepFailed___init__
  have GE_StepFailed := okE_StepFailed (P := P) (w := w) (base := base) T T.e_StepFailed FE_StepFailed
  have BE_StepFailed := FE_StepFailed.binds bn_StepFailed___init__
  refine XT.okX F sc_resolved bn_resolved (fun vs H Q E h => ?_) (fun cdv A outer s H vs Q E hr h => ?_)
  · obtain ⟨n, l, xs, rfl, _⟩ := h
    rfl
  · obtain ⟨n, l, xs, rfl, hn, hS, hz, h⟩ := h
    have G_is_count := ok_is_count (P := P) (w := w) (base := base) T
    have G_is_any_step := okU_is_any_step (P := P) (w := w) (base := base) T
    have G_ordinary_step := ok_ordinary_step (P := P) (w := w) (base := base) T
    have G_Sequence_init := ok_Sequence___init__ (P := P) (w := w) (base := base) T
    refine ⟨_, (pss_cons (ps_if (pt_not (pt_val (pe_callR G_is_count (hr.mono (by decide)) rfl T.g_is_count T.k_is_count pass0 (pa_cons (pv 0) pa_nil)))) (pss_one (ps_raiseE T.e_InvalidNumber GE_InvalidNumber BE_InvalidNumber (hr.mono (by decide)) T.g_InvalidNumber rfl (takes_of rfl rfl rfl rfl) (pv 0))) pss_nil)
      (pss_cons (ps_if (pt_cmpR (notInTyK K) (pe_callTy (typeK K) (by rfl) T.b_type (by decide +kernel) (pa_cons (pv 1) pa_nil)) (pe_tup (pa_cons (pe_bltn (v := .ty "list") (u := .type "list") (by rfl) T.b_list (by decide +kernel) rfl) (pa_cons (pe_bltn (v := .ty "tuple") (u := .type "tuple") (by rfl) T.b_tuple (by decide +kernel) rfl) pa_nil))) (by rfl)) (pss_one (ps_raiseE T.e_InvalidStep GE_InvalidStep BE_InvalidStep (hr.mono (by decide)) T.g_InvalidStep rfl (takes_of rfl rfl rfl rfl) (pv 1))) pss_nil)
      (pss_cons (ps_for (passes_of rfl) rfl (pi_tup (pv 1)) (pg_name (i := 2) sc_resolved.nd rfl (Or.inl rfl))
        (pss_one (ps_if (pt_not (pt_val (pe_callR G_is_any_step (hr.mono (by decide)) rfl T.g_is_any_step T.k_is_any_step pass0 (pa_cons (pv 2) pa_nil)))) (pss_one (ps_raiseE T.e_InvalidStep GE_InvalidStep BE_InvalidStep (hr.mono (by decide)) T.g_InvalidStep rfl (takes_of rfl rfl rfl rfl) (pv 2))) pss_nil)))
      (pss_cons (ps_set (i := 3) sc_resolved.nd rfl (Or.inl rfl) (pe_lst pa_nil))
      (pss_cons (ps_for (passes_of rfl) rfl (pi_enumT (by rfl) T.b_enumerate (pa_cons (pv 1) pa_nil)) (tupK K (n := 2) (by rfl) (pgs_cons (pg_name (i := 4) sc_resolved.nd rfl (Or.inl rfl)) (pgs_cons (pg_name (i := 2) sc_resolved.nd rfl (Or.inl rfl)) pgs_nil)))
        (pss_cons (ps_asg (pe_callR G_ordinary_step (hr.mono (by decide)) rfl T.g_ordinary_step T.k_ordinary_step pass0 (pa_cons (pv 0) (pa_cons (pv 2) pa_nil))) (tupK K (n := 2) (by rfl) (pgs_cons (pg_name (i := 5) sc_resolved.nd rfl (Or.inl rfl)) (pgs_cons (pg_name (i := 6) sc_resolved.nd rfl (Or.inl rfl)) pgs_nil))))
      (pss_cons (ps_if (PW.pt (pw_and (pt_cmpR op_eq (pv 5) pe_str (nomark _)) (pw_and1 (pt_not (pt_chain op_le op_le pe_int (pv 6) (pv 0)))))) (pss_one (ps_raiseG T.e_StepFailed GE_StepFailed BE_StepFailed (hr.mono (by decide)) T.g_StepFailed rfl (takes_of rfl rfl rfl rfl) (pv 4))) pss_nil)
      (pss_cons (ps_set (i := 0) sc_resolved.nd rfl (Or.inl rfl) (pe_ifExp (pt_cmpR op_eq (pv 5) pe_str (nomark _)) (pe_op op_add (pv 0) pe_int) (pe_op op_sub (pv 0) pe_int)))
      (pss_one (ps_expr (bmK K (pe_bm PySem.F.plainAttrs_list PySem.F.slot_list_append PySem.F.type_list_append mt_append (pv 3) (pa_cons (pe_tup (pa_cons (pv 5) (pa_cons (pv 6) pa_nil))) pa_nil)))))))))
      (pss_one (ps_ret (pe_makeS1 T.M_Sequence G_Sequence_init (hr.mono (by decide)) rfl T.g_Sequence pass0 (pv 3))))))))), ?_⟩
    have c0 : cntV (.int n) = true := by simp [cntV, hn]
    refine ⟨_, rfl, _, rfl, kv_int _, _, rfl, iteN (by rw [c0]; rfl) ?_⟩
    refine ⟨_, rfl, _, "tuple", rfl, TyB.tup hS, by decide, fun q0 hq => ⟨_, q0, ["list", "tuple"], rfl, rfl, SqT.of upd_same, by decide +kernel, by decide +kernel, _, rfl, iteN (by decide +kernel) ?_⟩⟩
    have s0 := same_new (o := .tup [V.ty "list", V.ty "tuple"]) hq
    generalize upd H q0 (.tup [V.ty "list", V.ty "tuple"]) = H0 at s0 ⊢
    have hS0 := same_seqT s0 hS
    rcases h with ⟨i0, x0, hx0, hbad, hpre, k⟩ | ⟨S, hL, hg, k1, k2⟩
    · try dsimp only [tNext]
      show tSeq _ _ _ _ _
      refine ⟨_, rfl, l, rfl, ⟨_, hS0⟩, for_tup (K := K) (a := l) (xs := xs) (fun i σ H' => i ≤ i0 ∧ ∃ o2, σ = [some (.int n), some (.ref l), o2, none, none, none, none] ∧ Same H0 H') ⟨Nat.zero_le _, _, rfl, Same.refl _⟩ (fun _ σ H' _ ⟨_, _, _, s⟩ => same_seqT s hS0) ?_ ?_⟩
      · rintro i x σ H1 hx ⟨hi, o2, rfl, s1⟩
        by_cases e : i = i0
        · subst e
          rw [hx0] at hx
          cases hx
          refine ⟨_, rfl, .inr ⟨_, rfl, hbad.same (s0.trans s1), fun H2 s2 => ⟨_, rfl, iteH rfl ?_⟩⟩⟩
          exact ⟨_, rfl, err_rd fun d hd => k d _ (((s0.trans s1).trans s2).trans (same_new hd)) (((s0.trans s1).trans s2).free hd) upd_same⟩
        · obtain ⟨y, s, hy, hys, hgy⟩ := hpre i (by omega)
          rw [hy] at hx
          cases hx
          exact ⟨_, rfl, .inl ⟨_, s, rfl, hys.same (s0.trans s1), hgy, fun H2 s2 => ⟨_, rfl, iteN rfl ⟨by omega, _, rfl, s1.trans s2⟩⟩⟩⟩
      · rintro σ H1 ⟨hi, _⟩
        have := (List.getElem?_eq_some_iff.mp hx0).1
        omega
    have hxl := hL.length
    try dsimp only [tNext]
    show tSeq _ _ _ _ _
    refine seq_cut2 (fun σ' H' => ∃ o2, σ' = [some (.int n), some (.ref l), o2, none, none, none, none] ∧ Same H0 H') (fun N cont => ?_) (fun σ H1 h1 => ?_)
    · refine ⟨_, rfl, l, rfl, ⟨_, hS0⟩, for_tup (K := K) (a := l) (xs := xs) (fun _ σ H' => ∃ o2, σ = [some (.int n), some (.ref l), o2, none, none, none, none] ∧ Same H0 H') ⟨_, rfl, Same.refl _⟩ (fun _ σ H' _ ⟨_, _, s⟩ => same_seqT s hS0) ?_ ?_⟩
      · rintro i x σ H1 hx ⟨o2, rfl, s1⟩
        obtain ⟨s, hs, hxs⟩ := pd_get hL hx
        exact ⟨_, rfl, .inl ⟨x, s, rfl, hxs.same (s0.trans s1), hg s (List.mem_of_getElem? hs), fun H2 s2 => ⟨_, rfl, iteN rfl ⟨_, rfl, s1.trans s2⟩⟩⟩⟩
      · rintro σ H1 ⟨o2, rfl, s1⟩
        exact cont _ _ ⟨_, rfl, s1⟩
    obtain ⟨o2, rfl, s1⟩ := h1
    have s01 := s0.trans s1
    refine ⟨Nat.zero_le _, fun D hD => ?_⟩
    have sD := same_new (o := .lst []) hD
    have nDH : H D = Option.none := s01.free hD
    have s02 := s01.trans sD
    refine ⟨_, rfl, l, xs, rfl, same_seqT s02 hS, ?_⟩
    refine for_enT (xs := xs) (same_seqT s02 hS) (fun i σ H' => ∃ (m : Int) (acc : List V) (F : List Stp) (o2 o4 o5 o6 : Option V), σ = [some (.int m), some (.ref l), o2, some (.ref D), o4, o5, o6] ∧ Same H H' ∧ H' D = some (.lst acc) ∧ StsAt K H' acc F ∧ F.length = i ∧ (∀ s ∈ F, goodS s = true) ∧ 0 ≤ m ∧ Top.outc n S 0 = Top.pre F (Top.outc m (S.drop i) i))
      (fun i σ H' hi ⟨_, _, _, _, _, _, _, _, s, _⟩ => same_seqT s hS) ⟨n, [], [], _, _, _, _, rfl, s02, upd_same, .nil, rfl, (fun s hs => by cases hs), hn, by rw [Top.pre_nil]; rfl⟩ ?_ ?_
    · rintro i x T' σ H2 hi9 hx hT' ⟨m, acc, F, p2, p4, p5, p6, rfl, s2, hD2, hF, hFl, hFg, hm, hres⟩
      obtain ⟨s, hs, hxs⟩ := pd_get hL hx
      have hiS := (List.getElem?_eq_some_iff.mp hs).1
      have sT := same_new (o := .tup [V.int (i : Int), x]) hT'
      refine ⟨T', [V.int (i : Int), x], rfl, SqT.of upd_same, rfl, _, [x], rfl, x, [], rfl, rfl, ?_⟩
      have s3 := s2.trans sT
      refine ⟨_, rfl, _, rfl, m, x, s, rfl, hxs.same s3, fun v H4 s4 hv => ?_⟩
      obtain ⟨q, rfl, hq⟩ := hv
      have s34 := s3.trans s4
      have hD4 := (sT.trans s4) _ _ hD2
      have hF4 := sts_same hF (sT.trans s4)
      have hal := hF.length
      by_cases hok : Top.okO m (Top.ord m s) = true
      · rw [Top.outc_ok hs hok] at hres
        have hnx := Top.nxt_nn hok hm
        have gd := Top.okO_good hok
        generalize Top.ord m s = st at hok hres hq hnx gd
        obtain ⟨b, j⟩ := st
        refine ⟨q, _, rfl, hq, rfl, _, [.int j], rfl, _, [], rfl, rfl, ?_⟩
        try dsimp only [tNext]
        show tSeq _ _ _ _ _
        refine seq_cut2 (fun σ' H' => σ' = [some (.int m), some (.ref l), some x, some (.ref D), some (.int (i : Int)), some (.str (wrd b)), some (.int j)] ∧ H' = H4) (fun N cont => ?_) (fun σ H5 h5 => ?_)
        · refine ⟨_, rfl, rfl, _, rfl, ?_⟩
          rw [wrd_rm]
          cases b with
          | true => exact iteN rfl (cont _ _ ⟨rfl, rfl⟩)
          | false =>
            simp [Top.okO] at hok
            refine iteH rfl ?_
            refine ⟨_, rfl, _, _, rfl, rfl, _, rfl, iteH (decide_eq_true hok.1) ?_⟩
            refine ⟨_, rfl, _, _, rfl, rfl, _, rfl, iteN (by simp [hok.2]) ?_⟩
            exact cont _ _ ⟨rfl, rfl⟩
        obtain ⟨rfl, rfl⟩ := h5
        refine ⟨_, rfl, rfl, _, rfl, ?_⟩
        refine iteKS (.int (Top.nxt m (b, j))) (fun hc k' hk => ?_) (fun hc k' hk => ?_) ?_
        · rw [wrd_ins] at hc
          subst hc
          exact ⟨_, rfl, _, _, rfl, rfl, hk⟩
        · rw [wrd_ins] at hc
          have hb : b = false := by simpa using hc
          subst hb
          exact ⟨_, rfl, _, _, rfl, rfl, hk⟩
        refine ⟨_, rfl, .inl ⟨rfl, _, SqL.of hD4⟩, _, rfl, _, rfl, by show 2 ≤ sizeLine; decide, fun t ht => ?_⟩
        have st := same_new (o := .tup [V.str (wrd b), V.int j]) ht
        refine ⟨D, _, _, rfl, rfl, st _ _ hD4, Nat.lt_of_lt_of_le (show acc.length < 100000 by omega) line_ge, ?_⟩
        have hDt := st _ _ hD4
        refine ⟨Top.nxt m (b, j), acc ++ [.ref t], F ++ [(b, j)], _, _, _, _, rfl, same_upd (s34.trans st) nDH, upd_same, ?_, by rw [List.length_append, hFl]; rfl, fun s hs => (List.mem_append.mp hs).elim (hFg s) (fun z => by rw [List.mem_singleton.mp z]; exact gd), hnx, hres⟩
        refine pd_append (sts_kt (sts_same hF4 st) (kt_upd hDt)) (.cons ?_ .nil)
        have z1 : SqT K (upd H5 t (.tup [V.str (wrd b), V.int j])) t [.str (wrd b), .int j] := SqT.of upd_same
        exact ⟨t, rfl, kt_upd hDt _ _ z1⟩
      · rw [Top.outc_no hs hok] at hres
        generalize Top.ord m s = st at hok hq
        obtain ⟨b, j⟩ := st
        cases b with
        | true => exact absurd rfl hok
        | false =>
          refine ⟨q, _, rfl, hq, rfl, _, [.int j], rfl, _, [], rfl, rfl, ?_⟩
          try dsimp only [tNext]
          show tSeq _ _ _ _ _
          refine ⟨_, rfl, rfl, _, rfl, ?_⟩
          rw [wrd_rm]
          refine iteH rfl ?_
          by_cases c1 : 1 ≤ j
          · have c2 : ¬ j ≤ m := fun z => hok (by simp [Top.okO, c1, z])
            refine ⟨_, rfl, _, _, rfl, rfl, _, rfl, iteH (decide_eq_true c1) ?_⟩
            refine ⟨_, rfl, _, _, rfl, rfl, _, rfl, iteH (by rw [decide_eq_false c2]; rfl) ?_⟩
            exact ⟨_, rfl, err_rd fun d hd => k2 i hres d _ (s34.trans (same_new hd)) (s34.free hd) upd_same⟩
          · refine ⟨_, rfl, _, _, rfl, rfl, _, rfl, iteN (decide_eq_false c1) ?_⟩
            refine ⟨_, rfl, iteH rfl ?_⟩
            exact ⟨_, rfl, err_rd fun d hd => k2 i hres d _ (s34.trans (same_new hd)) (s34.free hd) upd_same⟩
    · rintro σ H2 ⟨m, acc, F, p2, p4, p5, p6, rfl, s2, hD2, hF, hFl, hFg, hm, hres⟩
      rw [Top.outc_end F m S xs.length (by omega)] at hres
      have hal := hF.length
      refine ⟨_, rfl, D, acc, rfl, .inr (SqL.of hD2), fun r dr nr ndr ner => ?_⟩
      exact sq_mk nr ndr ner hF hFg (by omega) fun H3 s3 h3 => ⟨rfl, k1 F hres r H3 (s2.trans s3) (s2.free nr) h3⟩

theorem okB_resolved (T : Txt K mg a) : FnR P w K mg base (L2.CX P w) 8 a.resolved (spResB K a.InvalidNumber a.InvalidStep) := by
  obtain ⟨fd, F⟩ := T.F_resolved
  obtain ⟨fd_InvalidNumber, FE_InvalidNumber⟩ := T.F_InvalidNumber___init__
  have GE_InvalidNumber := okE_InvalidNumber (P := P) (w := w) (base := base) T T.e_InvalidNumber FE_InvalidNumber
  have BE_InvalidNumber := FE_InvalidNumber.binds bn_InvalidNumber___init__
  obtain ⟨fd_InvalidStep, FE_InvalidStep⟩ := T.F_InvalidStep___init__
  have GE_InvalidStep := okE_InvalidStep (P := P) (w := w) (base := base) T T.e_InvalidStep FE_InvalidStep
  have BE_InvalidStep := FE_InvalidStep.binds bn_InvalidStep___init__
  obtain ⟨fd_StepFailed, FE_StepFailed⟩ := T.F_StepFailed___init__
  have GE_StepFailed := okE_StepFailed (P := P) (w := w) (base := base) T T.e_StepFailed FE_StepFailed
  have BE_StepFailed := FE_StepFailed.binds bn_StepFailed___init__
  refine XT.okX F sc_resolved bn_resolved (fun vs H Q E h => ?_) (fun cdv A outer s H vs Q E hr h => ?_)
  · obtain ⟨x, y, rfl, _⟩ := h
    rfl
  · obtain ⟨x, y, rfl, h⟩ := h
    have G_is_count := ok_is_count (P := P) (w := w) (base := base) T
    have G_is_any_step := okU_is_any_step (P := P) (w := w) (base := base) T
    have G_ordinary_step := ok_ordinary_step (P := P) (w := w) (base := base) T
    have G_Sequence_init := ok_Sequence___init__ (P := P) (w := w) (base := base) T
    refine ⟨_, (pss_cons (ps_if (pt_not (pt_val (pe_callR G_is_count (hr.mono (by decide)) rfl T.g_is_count T.k_is_count pass0 (pa_cons (pv 0) pa_nil)))) (pss_one (ps_raiseE T.e_InvalidNumber GE_InvalidNumber BE_InvalidNumber (hr.mono (by decide)) T.g_InvalidNumber rfl (takes_of rfl rfl rfl rfl) (pv 0))) pss_nil)
      (pss_cons (ps_if (pt_cmpR (notInTyK K) (pe_callTy (typeK K) (by rfl) T.b_type (by decide +kernel) (pa_cons (pv 1) pa_nil)) (pe_tup (pa_cons (pe_bltn (v := .ty "list") (u := .type "list") (by rfl) T.b_list (by decide +kernel) rfl) (pa_cons (pe_bltn (v := .ty "tuple") (u := .type "tuple") (by rfl) T.b_tuple (by decide +kernel) rfl) pa_nil))) (by rfl)) (pss_one (ps_raiseE T.e_InvalidStep GE_InvalidStep BE_InvalidStep (hr.mono (by decide)) T.g_InvalidStep rfl (takes_of rfl rfl rfl rfl) (pv 1))) pss_nil)
      (pss_cons (ps_for (passes_of rfl) rfl (pi_list (pv 1)) (pg_name (i := 2) sc_resolved.nd rfl (Or.inl rfl))
        (pss_one (ps_if (pt_not (pt_val (pe_callR G_is_any_step (hr.mono (by decide)) rfl T.g_is_any_step T.k_is_any_step pass0 (pa_cons (pv 2) pa_nil)))) (pss_one (ps_raiseE T.e_InvalidStep GE_InvalidStep BE_InvalidStep (hr.mono (by decide)) T.g_InvalidStep rfl (takes_of rfl rfl rfl rfl) (pv 2))) pss_nil)))
      (pss_cons (ps_set (i := 3) sc_resolved.nd rfl (Or.inl rfl) (pe_lst pa_nil))
      (pss_cons (ps_for (passes_of rfl) rfl (pi_enum (by rfl) T.b_enumerate (pa_cons (pv 1) pa_nil)) (tupK K (n := 2) (by rfl) (pgs_cons (pg_name (i := 4) sc_resolved.nd rfl (Or.inl rfl)) (pgs_cons (pg_name (i := 2) sc_resolved.nd rfl (Or.inl rfl)) pgs_nil)))
        (pss_cons (ps_asg (pe_callR G_ordinary_step (hr.mono (by decide)) rfl T.g_ordinary_step T.k_ordinary_step pass0 (pa_cons (pv 0) (pa_cons (pv 2) pa_nil))) (tupK K (n := 2) (by rfl) (pgs_cons (pg_name (i := 5) sc_resolved.nd rfl (Or.inl rfl)) (pgs_cons (pg_name (i := 6) sc_resolved.nd rfl (Or.inl rfl)) pgs_nil))))
      (pss_cons (ps_if (PW.pt (pw_and (pt_cmpR op_eq (pv 5) pe_str (nomark _)) (pw_and1 (pt_not (pt_chain op_le op_le pe_int (pv 6) (pv 0)))))) (pss_one (ps_raiseG T.e_StepFailed GE_StepFailed BE_StepFailed (hr.mono (by decide)) T.g_StepFailed rfl (takes_of rfl rfl rfl rfl) (pv 4))) pss_nil)
      (pss_cons (ps_set (i := 0) sc_resolved.nd rfl (Or.inl rfl) (pe_ifExp (pt_cmpR op_eq (pv 5) pe_str (nomark _)) (pe_op op_add (pv 0) pe_int) (pe_op op_sub (pv 0) pe_int)))
      (pss_one (ps_expr (bmK K (pe_bm PySem.F.plainAttrs_list PySem.F.slot_list_append PySem.F.type_list_append mt_append (pv 3) (pa_cons (pe_tup (pa_cons (pv 5) (pa_cons (pv 6) pa_nil))) pa_nil)))))))))
      (pss_one (ps_ret (pe_makeS1 T.M_Sequence G_Sequence_init (hr.mono (by decide)) rfl T.g_Sequence pass0 (pv 3))))))))), ?_⟩
    rcases h with ⟨kx, cx, k⟩ | ⟨n, m, rfl, hn, ty, tm, m1, m2, k⟩
    · refine ⟨_, rfl, _, rfl, kx, _, rfl, iteH (by rw [cx]; rfl) ?_⟩
      exact ⟨_, rfl, err_rd fun d hd => k d _ (same_new hd) hd upd_same⟩
    · have c0 : cntV (.int n) = true := by simp [cntV, hn]
      refine ⟨_, rfl, _, rfl, kv_int _, _, rfl, iteN (by rw [c0]; rfl) ?_⟩
      refine ⟨_, rfl, _, m, rfl, ty, by decide, fun q0 hq => ⟨_, q0, ["list", "tuple"], rfl, rfl, SqT.of upd_same, tm, by decide +kernel, _, rfl, iteH (by rw [in_lt m1 m2]; rfl) ?_⟩⟩
      exact ⟨_, rfl, err_rd fun d hd => k d _ ((same_new hq).trans (same_new hd)) ((same_new hq).free hd) upd_same⟩

def spResU (K : PySem.W.Frag) (CS CN CI CF : Addr) : Sp := fun vs H Q E => spResE (SqL K) K CS CI CF vs H Q E ∨ (spResE (SqT K) K CS CI CF vs H Q E ∨ spResB K CN CI vs H Q E)
theorem okU_resolved (T : Txt K mg a) : FnR P w K mg base (L2.CX P w) 8 a.resolved (spResU K a.Sequence a.InvalidNumber a.InvalidStep a.StepFailed) := fnR_or (okL_resolved T) (fnR_or (okT_resolved T) (okB_resolved T))
end
end K41
namespace K41
open PySem L2 XT
section
variable {P : Program} {w : World} {K : PySem.W.Frag} {mg : Str → Option Value} {base : Heap} {a : Ads}
local macro_rules | `(tactic| walk_at "rside") => `(tactic| first | (show (0 : Int) < _; first | decide | omega) | (exact ⟨by first | decide | omega, by first | decide | omega⟩) | (exact Or.inl ⟨by omega, by omega⟩) | (exact Or.inr ⟨by omega, by omega⟩) | (exact ⟨by decide, by decide, by decide⟩))
local macro_rules | `(tactic| walk_at "rd1") => `(tactic| first | (refine ⟨_, rfl, ?_⟩) | (refine ⟨_, _, rfl, rfl, (by walk_at "rside"), ?_⟩) | (refine ⟨_, _, rfl, rfl, ?_⟩))
local macro_rules | `(tactic| walk_at "rd") => `(tactic| repeat (walk_at "rd1"))

/-- a value that a law asks with, and its data -/
structure Odv (K : PySem.W.Frag) (H : Hp) (x : V) (d : PyData) : Prop where
  kv : KV K H x
  od : Okd d
  rd : Rd K H x d
  tx : txD d = true
theorem Odv.same {H H' : Hp} {x : V} {d : PyData} (h : Odv K H x d) (s : Same H H') : Odv K H' x d := ⟨h.kv.same s, h.od, rd_same s h.rd, h.tx⟩
theorem sh_err {w : Str} (hw : PyData.strOk w = true) (b : Bool) : SeqAt.shaped (.tuple [.str w, .bool b]) = true := by
  simp [SeqAt.shaped, PyData.canLay0, PyData.canLayAll0, PyData.depth, PyData.depthAll, hw]
theorem dp_err {H : Hp} {r : Addr} {w : Str} {b : Bool} (h : H r = some (.tup [.str w, .bl b])) : Dp K H (.ref r) (.tuple [.str w, .bool b]) := .tup (SqT.of h) (.cons (.str w) (.cons (.bl b) .nil))
theorem log_small {i : Int} (h : i.natAbs < 2 ^ 250) : i.natAbs.log2 < 1920 := by
  by_cases z : i.natAbs = 0
  · rw [z]; decide
  · exact (Nat.log2_lt z).mpr (Nat.lt_of_lt_of_le h (Nat.pow_le_pow_right (by decide) (by decide)))
theorem odv_int {H : Hp} {i : Int} (h : i.natAbs < 2 ^ 250) : Odv K H (.int i) (.int i) := ⟨kv_int i, ⟨by simp [plainD, log_small h], by simp [PyData.depth], by simp [sc]⟩, .inl ⟨.int _, rfl⟩, rfl⟩
theorem odv_non {H : Hp} : Odv K H .non .none := ⟨⟨"NoneType", .non, by decide +kernel⟩, ⟨by decide +kernel, by decide +kernel, by decide +kernel⟩, .inl ⟨.non, rfl⟩, by decide +kernel⟩
theorem odv_bl {H : Hp} (b : Bool) : Odv K H (.bl b) (.bool b) := ⟨⟨"bool", .bl _, by decide +kernel⟩, ⟨by cases b <;> decide +kernel, by cases b <;> decide +kernel, by cases b <;> decide +kernel⟩, .inl ⟨.bl _, rfl⟩, by cases b <;> decide +kernel⟩
theorem odv_str {H : Hp} (x : Str) (h1 : plainD (.str x) = true) (h2 : sc (.str x) ≤ 16000000) (h3 : txD (.str x) = true) : Odv K H (.str x) (.str x) := ⟨⟨"str", .str _, by decide +kernel⟩, ⟨h1, by simp [PyData.depth], h2⟩, .inl ⟨.str _, rfl⟩, h3⟩
theorem odv_tup1 {H : Hp} {z : Addr} {i : Int} (f : H z = some (.tup [.int i])) (h : i.natAbs < 2 ^ 250) : Odv K H (.ref z) (.tuple [.int i]) := ⟨⟨"tuple", .tup (SqT.of f), by decide +kernel⟩, ⟨by simp [plainD, plainAll, log_small h], by simp [PyData.depth, PyData.depthAll], by simp [sc, scAll]⟩, .inl ⟨dp_tup (L := [i]) (SqT.of f), rfl⟩, rfl⟩
theorem odv_lst1 {H : Hp} {z : Addr} {i : Int} (f : H z = some (.lst [.int i])) (h : i.natAbs < 2 ^ 250) : Odv K H (.ref z) (.list [.int i]) := ⟨⟨"list", .lst (SqL.of f), by decide +kernel⟩, ⟨by simp [plainD, plainAll, log_small h], by simp [PyData.depth, PyData.depthAll], by simp [sc, scAll]⟩, .inl ⟨dp_lst (L := [i]) (SqL.of f), rfl⟩, rfl⟩
theorem odv_lst0 {H : Hp} {z : Addr} (f : H z = some (.lst [])) : Odv K H (.ref z) (.list []) := ⟨⟨"list", .lst (SqL.of f), by decide +kernel⟩, ⟨by decide +kernel, by decide +kernel, by decide +kernel⟩, .inl ⟨dp_lst (L := []) (SqL.of f), rfl⟩, rfl⟩
theorem odv_dict {H : Hp} {z : Addr} (f : H z = some (.dK [])) : Odv K H (.ref z) (.dict []) := ⟨⟨"dict", .dK f, by decide +kernel⟩, ⟨by decide +kernel, by decide +kernel, by decide +kernel⟩, .inr (.inl ⟨z, rfl, f, rfl⟩), by decide +kernel⟩
theorem but_lst {p D : Addr} {H H' : Hp} {xs : List V} (h : H D = some (.lst xs)) (n : D ≠ p) (b : But p H H') : H' D = some (.lst xs) := b _ _ n h
theorem but_news {p o : Addr} {H H' : Hp} {x : HO} (b : But p H H') (n : H o = Option.none) : But p H (upd H' o x) := fun c u nc e => by
  rw [upd_ne (fun z => by rw [z, n] at e; cases e)]
  exact b c u nc e

def tbB (B : Int) : Top.TS → Prop
  | .ins x => -B ≤ x ∧ x ≤ B
  | _ => True

def isIns : Top.TS → Bool
  | .ins _ => true
  | _ => false
def isMed : Top.TS → Bool
  | .med => true
  | _ => false
theorem wi (s : Top.TS) : ∃ w rest, tsV s = V.str w :: rest := by cases s <;> exact ⟨_, _, rfl⟩
theorem ts_ins (s : Top.TS) {w : Str} {rest : List V} (h : tsV s = V.str w :: rest) : decide (V.str w = V.str "insert") = isIns s := by
  cases s <;> (injection h with h _; rw [← h]; first | exact Eq.trans (b := true) (by decide +kernel) rfl | exact Eq.trans (b := false) (by decide +kernel) rfl)
theorem ts_med (s : Top.TS) {w : Str} {rest : List V} (h : tsV s = V.str w :: rest) : decide (V.str w = V.str "median") = isMed s := by
  cases s <;> (injection h with h _; rw [← h]; first | exact Eq.trans (b := true) (by decide +kernel) rfl | exact Eq.trans (b := false) (by decide +kernel) rfl)
theorem pick_two {c0 c1 r : Int} (h0 : 0 ≤ r) (h1 : r < 2) : ∃ z, atI ([V.int c0, V.int c1] : List V) r = some (.int z) ∧ (z = c0 ∨ z = c1) := by
  have : r = 0 ∨ r = 1 := by omega
  rcases this with rfl | rfl
  · exact ⟨_, rfl, .inl rfl⟩
  · exact ⟨_, rfl, .inr rfl⟩
def spWd (K : PySem.W.Frag) : Sp := fun vs H Q _ => ∃ (p : Addr), vs = [.ref p] ∧ PoolAt H p ∧ ∀ t s H', But p H H' → PoolAt H' p → H t = Option.none → H' t = some (.tup (tsV s)) → Top.good s = true → tbB 100 s → Q (.ref t) H'
theorem ok_law_wide (T : Txt K mg a) : FnR P w K mg base CX0 2 a.law_wide (spWd K) := by
  obtain ⟨fd, F⟩ := T.F_law_wide
  refine XT.okR F sc_law_wide bn_law_wide (fun vs H Q E h => ?_) (fun cdv A outer s H vs Q E hr h => ?_)
  · obtain ⟨p, rfl, _⟩ := h
    rfl
  · obtain ⟨p, rfl, hp, k⟩ := h
    have G_law_take := ok_law_take (P := P) (w := w) (base := base) T
    refine ⟨_, (pss_cons (ps_set (i := 1) sc_law_wide.nd rfl (Or.inl rfl) (pe_callR G_law_take (hr.mono (by decide)) rfl T.g_law_take T.k_law_take pass0 (pa_cons (pv 0) (pa_cons pe_int pa_nil))))
      (pss_cons (ps_if (pt_cmpR op_lt (pv 1) pe_int (nomark _)) (pss_one (ps_ret (pe_tup (pa_cons pe_str (pa_cons (pe_op op_sub (pe_callR G_law_take (hr.mono (by decide)) rfl T.g_law_take T.k_law_take pass0 (pa_cons (pv 0) (pa_cons pe_int pa_nil))) pe_int) pa_nil))))) pss_nil)
      (pss_cons (ps_if (pt_cmpR op_eq (pv 1) pe_int (nomark _)) (pss_one (ps_ret (pe_tup (pa_cons pe_str pa_nil)))) pss_nil)
      (pss_one (ps_ret (pe_tup (pa_cons (pe_ix (ixLK K) (pe_lst (pa_cons pe_str (pa_cons pe_str (pa_cons pe_str pa_nil)))) (pe_op op_sub (pv 1) pe_int) (fun _ _ => rfl)) (pa_cons (pe_op op_add pe_int (pe_callR G_law_take (hr.mono (by decide)) rfl T.g_law_take T.k_law_take pass0 (pa_cons (pv 0) (pa_cons (pe_ix (ixLK K) (pe_lst (pa_cons pe_int (pa_cons pe_int pa_nil))) (pe_callR G_law_take (hr.mono (by decide)) rfl T.g_law_take T.k_law_take pass0 (pa_cons (pv 0) (pa_cons pe_int pa_nil))) (fun _ _ => rfl)) pa_nil)))) pa_nil)))))))), ?_⟩
    refine ⟨_, rfl, p, 6, rfl, hp, by decide, by decide, fun kd H1 k0 k1 b1 hp1 => ?_⟩
    have fresh : ∀ (H2 : Hp) (t : Addr), But p H H2 → PoolAt H2 p → H2 t = Option.none → H t = Option.none := fun H2 t b h n => by
      cases e : H t with
      | none => rfl
      | some o => exact absurd (b _ _ (pool_ne h n) e) (by rw [n]; simp)
    refine ⟨_, rfl, _, _, rfl, rfl, _, rfl, ite2 (fun h1 => ?_) (fun h1 => ?_)⟩
    · refine ⟨_, rfl, p, 12, rfl, hp1, by decide, by decide, fun r H2 r0 r1 b2 hp2 => ⟨_, _, rfl, rfl, by show 2 ≤ sizeLine; decide, fun t ht => ?_⟩⟩
      exact k t (.ins (r - 4)) _ ((b1.trans b2).trans (but_same (same_new ht))) (pool_but hp2 ht rfl) (fresh H2 t (b1.trans b2) hp2 ht) upd_same rfl (by show -100 ≤ r - 4 ∧ r - 4 ≤ 100; omega)
    refine ⟨_, rfl, rfl, _, rfl, ite2 (fun h2 => ?_) (fun h2 => ?_)⟩
    · refine ⟨by show 1 ≤ sizeLine; decide, fun t ht => ?_⟩
      exact k t .med _ (b1.trans (but_same (same_new ht))) (pool_but hp1 ht rfl) (fresh H1 t b1 hp1 ht) upd_same rfl trivial
    have h1' : ¬ kd < 2 := fun q => h1 (decide_eq_true q)
    have h2' : ¬ kd = 2 := fun q => h2 (decide_eq_true (by rw [q]))
    refine ⟨by show 3 ≤ sizeLine; decide, fun ls hls => ?_⟩
    have w1 := same_new (o := .lst [V.str "remove", V.str "top", V.str "top"]) hls
    have hp2 := pool_same hp1 w1
    obtain ⟨wd, ewd, hwd⟩ : ∃ wd : Str, atI [V.str ("remove" : Str), V.str "top", V.str "top"] (kd - 3) = some (.str wd) ∧ (wd = "remove" ∨ wd = "top") := by
      have : kd = 3 ∨ kd = 4 ∨ kd = 5 := by omega
      rcases this with rfl | rfl | rfl
      · exact ⟨_, rfl, .inl rfl⟩
      · exact ⟨_, rfl, .inr rfl⟩
      · exact ⟨_, rfl, .inr rfl⟩
    refine ⟨_, rfl, _, _, rfl, rfl, ls, _, kd - 3, .str wd, rfl, rfl, SqL.of upd_same, ewd, ?_⟩
    refine ⟨_, rfl, by show 2 ≤ sizeLine; decide, fun l2 hl2 => ?_⟩
    have w2 := same_new (o := .lst [V.int 3, V.int 7]) hl2
    have f2 : (upd (upd H1 ls (.lst [V.str "remove", V.str "top", V.str "top"])) l2 (.lst [V.int 3, V.int 7])) l2 = some (.lst [V.int 3, V.int 7]) := upd_same
    have hp3 := pool_same hp2 w2
    have n2 := pool_ne hp2 hl2
    refine ⟨_, rfl, p, 2, rfl, hp3, by decide, by decide, fun c Hc c0 c1 bc hpc => ?_⟩
    obtain ⟨z, ez, hz2⟩ := pick_two (c0 := 3) (c1 := 7) c0 c1
    refine ⟨l2, _, c, .int z, rfl, rfl, SqL.of (but_lst f2 n2 bc), ez, p, z, rfl, hpc, by omega, by omega, fun v Hd v0 v1 bd hpd => ⟨_, _, rfl, rfl, by show 2 ≤ sizeLine; decide, fun t ht => ?_⟩⟩
    have b0d := (b1.trans (but_same (p := p) (w1.trans w2))).trans (bc.trans bd)
    rcases hwd with rfl | rfl
    · exact k t (.rem (1 + v)) _ (b0d.trans (but_same (same_new ht))) (pool_but hpd ht rfl) (fresh Hd t b0d hpd ht) upd_same (by simp [Top.good]; omega) trivial
    · exact k t (.top (1 + v)) _ (b0d.trans (but_same (same_new ht))) (pool_but hpd ht rfl) (fresh Hd t b0d hpd ht) upd_same (by simp [Top.good]; omega) trivial

theorem okF (n k : Int) : Top.okO n (false, k) = decide (1 ≤ k ∧ k ≤ n) := by simp [Top.okO, Bool.decide_and]
def spOrdn (K : PySem.W.Frag) : Sp := fun vs H Q _ => ∃ (x : V) (n : Int) (s : Top.TS), vs = [x, .int n] ∧ TsAt K H x s ∧ 0 ≤ n ∧ Top.good s = true ∧ ∀ v H', Same H H' → ((Top.okO n (Top.ord n s) = true ∧ StAt K H' v (Top.ord n s)) ∨ (Top.okO n (Top.ord n s) = false ∧ v = .non)) → Q v H'
theorem ok_law_ordinary (T : Txt K mg a) : FnR P w K mg base CX0 2 a.law_ordinary (spOrdn K) := by
  obtain ⟨fd, F⟩ := T.F_law_ordinary
  refine XT.okR F sc_law_ordinary bn_law_ordinary (fun vs H Q E h => ?_) (fun cdv A outer s H vs Q E hr h => ?_)
  · obtain ⟨x, n, s, rfl, _⟩ := h
    rfl
  · obtain ⟨x, n, s, rfl, ⟨r, rfl, hr0⟩, hn, hg, k⟩ := h
    refine ⟨_, (pss_cons (ps_if (pt_cmpR op_eq (pe_ix (ixTK K) (pv 0) pe_int (fun _ _ => rfl)) pe_str (nomark _)) (pss_one (ps_ret (pe_ifExp (pt_cmpR op_gt (pv 1) pe_int (nomark _)) (pe_tup (pa_cons pe_str (pa_cons (pe_op op_fdiv (pe_op op_add (pv 1) pe_int) pe_int) pa_nil))) pe_non))) pss_nil)
      (pss_cons (ps_if (pt_cmpR op_eq (pe_ix (ixTK K) (pv 0) pe_int (fun _ _ => rfl)) pe_str (nomark _)) (pss_one (ps_ret (pv 0))) pss_nil)
      (pss_cons (ps_if (pt_cmpR op_gt (pe_ix (ixTK K) (pv 0) pe_int (fun _ _ => rfl)) (pv 1) (nomark _)) (pss_one (ps_ret pe_non)) pss_nil)
      (pss_one (ps_ret (pe_ifExp (pt_cmpR op_eq (pe_ix (ixTK K) (pv 0) pe_int (fun _ _ => rfl)) pe_str (nomark _)) (pe_tup (pa_cons pe_str (pa_cons (pe_op op_add (pe_op op_sub (pv 1) (pe_ix (ixTK K) (pv 0) pe_int (fun _ _ => rfl))) pe_int) pa_nil))) (pv 0))))))), ?_⟩
    obtain ⟨w, rest, ew⟩ := wi s
    have e1 := ts_ins s ew
    have e2 := ts_med s ew
    refine ⟨_, rfl, r, _, 0, .str w, rfl, rfl, hr0, by rw [ew]; exact atI_nat (j := 0) rfl, rfl, _, rfl, ?_⟩
    rw [e2]
    cases s with
    | med =>
      refine iteH rfl ?_
      refine ⟨_, rfl, _, _, rfl, rfl, _, rfl, ite2 (fun h => ?_) (fun h => ?_)⟩
      · have h' : n > 0 := of_decide_eq_true h
        refine ⟨_, rfl, _, _, rfl, rfl, _, _, rfl, rfl, ⟨by decide, by decide⟩, by show 2 ≤ sizeLine; decide, fun t ht => ?_⟩
        exact k _ _ (same_new ht) (.inl ⟨(okF n _).trans (decide_eq_true (by omega)), st_of (b := false) upd_same⟩)
      · have h' : ¬ n > 0 := fun z => h (decide_eq_true z)
        exact k _ _ (Same.refl _) (.inr ⟨(okF n _).trans (decide_eq_false (by omega)), rfl⟩)
    | ins y =>
      refine iteN rfl ?_
      refine ⟨_, rfl, r, _, 0, .str w, rfl, rfl, hr0, by rw [ew]; exact atI_nat (j := 0) rfl, rfl, _, rfl, ?_⟩
      rw [e1]
      exact iteH rfl ⟨_, rfl, k _ _ (Same.refl _) (.inl ⟨rfl, r, rfl, hr0⟩)⟩
    | rem j =>
      have hj : 0 < j := by simpa [Top.good] using hg
      refine iteN rfl ?_
      refine ⟨_, rfl, r, _, 0, .str w, rfl, rfl, hr0, by rw [ew]; exact atI_nat (j := 0) rfl, rfl, _, rfl, ?_⟩
      rw [e1]
      refine iteN rfl ?_
      refine ⟨_, rfl, r, _, 1, .int j, rfl, rfl, hr0, rfl, _, rfl, _, _, rfl, rfl, _, rfl, ite2 (fun h => ?_) (fun h => ?_)⟩
      · have h' : j > n := of_decide_eq_true h
        exact k _ _ (Same.refl _) (.inr ⟨(okF n _).trans (decide_eq_false (by omega)), rfl⟩)
      · have h' : ¬ j > n := fun z => h (decide_eq_true z)
        refine ⟨_, rfl, r, _, 0, .str w, rfl, rfl, hr0, by rw [ew]; exact atI_nat (j := 0) rfl, rfl, _, rfl, iteN (by injection ew with h _; rw [← h]; decide +kernel) ?_⟩
        exact ⟨_, rfl, k _ _ (Same.refl _) (.inl ⟨(okF n _).trans (decide_eq_true (by omega)), r, rfl, hr0⟩)⟩
    | top j =>
      have hj : 0 < j := by simpa [Top.good] using hg
      refine iteN rfl ?_
      refine ⟨_, rfl, r, _, 0, .str w, rfl, rfl, hr0, by rw [ew]; exact atI_nat (j := 0) rfl, rfl, _, rfl, ?_⟩
      rw [e1]
      refine iteN rfl ?_
      refine ⟨_, rfl, r, _, 1, .int j, rfl, rfl, hr0, rfl, _, rfl, _, _, rfl, rfl, _, rfl, ite2 (fun h => ?_) (fun h => ?_)⟩
      · have h' : j > n := of_decide_eq_true h
        exact k _ _ (Same.refl _) (.inr ⟨(okF n _).trans (decide_eq_false (by omega)), rfl⟩)
      · have h' : ¬ j > n := fun z => h (decide_eq_true z)
        refine ⟨_, rfl, r, _, 0, .str w, rfl, rfl, hr0, by rw [ew]; exact atI_nat (j := 0) rfl, rfl, _, rfl, iteH (by injection ew with h _; rw [← h]; decide +kernel) ?_⟩
        refine ⟨_, rfl, _, rfl, r, _, 1, .int j, rfl, rfl, hr0, rfl, _, _, rfl, rfl, _, _, rfl, rfl, by show 2 ≤ sizeLine; decide, fun t ht => ?_⟩
        refine k _ _ (same_new ht) (.inl ⟨(okF n _).trans (decide_eq_true (by omega)), ?_⟩)
        have e : n - j + 1 = n + 1 - j := by omega
        have z := st_of (b := false) (i := n + 1 - j) (K := K) (H := upd H t (.tup [V.str "remove", V.int (n - j + 1)])) (r := t) (by rw [upd_same, e]; rfl)
        exact z

def spDue (K : PySem.W.Frag) : Sp := fun vs H Q _ => ∃ (n : Int) (l : Addr) (xs : List V) (S : List Top.TS), vs = [.int n, .ref l] ∧ 0 ≤ n ∧ SqL K H l xs ∧ TssAt K H xs S ∧ (∀ s ∈ S, Top.good s = true) ∧ S.length ≤ 100 ∧
  ∀ t H', Same H H' → H t = Option.none → (∀ R, Top.outc n S 0 = .inl R → ∃ ys, SqT K H' t ys ∧ StsAt K H' ys R) → (∀ i : Nat, Top.outc n S 0 = .inr i → SqT K H' t [.str "failed", .int (i : Int)]) → Q (.ref t) H'
theorem ok_law_due (T : Txt K mg a) : FnR P w K mg base CX0 3 a.law_due (spDue K) := by
  obtain ⟨fd, F⟩ := T.F_law_due
  refine XT.okR F sc_law_due bn_law_due (fun vs H Q E h => ?_) (fun cdv A outer s H vs Q E hr h => ?_)
  · obtain ⟨n, l, xs, S, rfl, _⟩ := h
    rfl
  · obtain ⟨n, l, xs, S, rfl, hn, hS, hL, hg, hz, k⟩ := h
    have G_law_ordinary := ok_law_ordinary (P := P) (w := w) (base := base) T
    refine ⟨_, (pss_cons (ps_set (i := 2) sc_law_due.nd rfl (Or.inl rfl) (pe_lst pa_nil))
      (pss_cons (ps_for PassesOwn.never rfl (pi_enum (by rfl) T.b_enumerate (pa_cons (pv 1) pa_nil)) (tupK K (n := 2) (by rfl) (pgs_cons (pg_name (i := 3) sc_law_due.nd rfl (Or.inl rfl)) (pgs_cons (pg_name (i := 4) sc_law_due.nd rfl (Or.inl rfl)) pgs_nil)))
        (pss_cons (ps_set (i := 5) sc_law_due.nd rfl (Or.inl rfl) (pe_callR G_law_ordinary (hr.mono (by decide)) rfl T.g_law_ordinary T.k_law_ordinary pass0 (pa_cons (pv 4) (pa_cons (pv 0) pa_nil))))
      (pss_cons (ps_if (pt_cmpR op_isN (pv 5) pe_non (nomark _)) (pss_one (ps_ret (pe_tup (pa_cons pe_str (pa_cons (pv 3) pa_nil))))) pss_nil)
      (pss_cons (ps_set (i := 0) sc_law_due.nd rfl (Or.inl rfl) (pe_op op_add (pv 0) (pe_ifExp (pt_cmpR op_eq (pe_ix (ixTK K) (pv 5) pe_int (fun _ _ => rfl)) pe_str (nomark _)) pe_int (pe_un un_neg pe_int))))
      (pss_one (ps_expr (bmK K (pe_bm PySem.F.plainAttrs_list PySem.F.slot_list_append PySem.F.type_list_append mt_append (pv 2) (pa_cons (pv 5) pa_nil)))))))))
      (pss_one (ps_ret (pe_callTy (tupleK K) (by rfl) T.b_tuple (by decide +kernel) (pa_cons (pv 2) pa_nil)))))), ?_⟩
    have hxl := hL.length
    refine ⟨Nat.zero_le _, fun D hD => ?_⟩
    have sD := same_new (o := .lst []) hD
    refine ⟨_, rfl, l, xs, rfl, sD.seq hS, ?_⟩
    refine for_enL (xs := xs) (fun i σ H' => ∃ (m : Int) (acc : List V) (F : List Stp) (o3 o4 o5 : Option V), σ = [some (.int m), some (.ref l), some (.ref D), o3, o4, o5] ∧ Same H H' ∧ H' D = some (.lst acc) ∧ StsAt K H' acc F ∧ F.length = i ∧ 0 ≤ m ∧ Top.outc n S 0 = Top.pre F (Top.outc m (S.drop i) i))
      (fun i σ H' hi ⟨_, _, _, _, _, _, _, s, _⟩ => s.seq hS) ⟨n, [], [], _, _, _, rfl, sD, upd_same, .nil, rfl, hn, by rw [Top.pre_nil]; rfl⟩ ?_ ?_
    · rintro i x T' σ H2 hi hx hT' ⟨m, acc, F, p3, p4, p5, rfl, s2, hD2, hF, hFl, hm, hres⟩
      obtain ⟨s, hs, hxs⟩ := pd_get hL hx
      have sT := same_new (o := .tup [V.int (i : Int), x]) hT'
      refine ⟨T', [V.int (i : Int), x], rfl, SqT.of upd_same, rfl, _, [x], rfl, x, [], rfl, rfl, ?_⟩
      have s3 := s2.trans sT
      have hal := hF.length
      refine ⟨_, rfl, _, rfl, x, m, s, rfl, hxs.same s3, hm, hg s (List.mem_of_getElem? hs), fun v H4 s4 hv => ?_⟩
      have s34 := s3.trans s4
      have hD4 := (sT.trans s4) _ _ hD2
      have hF4 := sts_same hF (sT.trans s4)
      rcases hv with ⟨hok, hv⟩ | ⟨hno, rfl⟩
      · rw [Top.outc_ok hs hok] at hres
        have hnx := Top.nxt_nn hok hm
        generalize Top.ord m s = st at hok hres hv hnx
        obtain ⟨b, j⟩ := st
        obtain ⟨q, rfl, hq⟩ := hv
        refine ⟨_, rfl, rfl, _, rfl, iteN (by rfl) ?_⟩
        refine ⟨_, rfl, _, rfl, q, _, 0, .str (wrd b), rfl, rfl, hq, rfl, rfl, _, rfl, ?_⟩
        rw [wrd_ins]
        refine iteKS (.int (if b = true then 1 else -1)) (fun hc k' hk => ?_) (fun hc k' hk => ?_) ?_
        · rw [if_pos hc] at hk
          exact hk
        · rw [if_neg hc] at hk
          exact ⟨1, rfl, hk⟩
        refine ⟨_, _, rfl, rfl, ?_⟩
        have nx : Top.nxt m (b, j) = m + (if b = true then 1 else -1) := by
          cases b <;> simp [Top.nxt] <;> omega
        refine ⟨_, rfl, .inl ⟨rfl, _, SqL.of hD4⟩, _, rfl, D, _, _, rfl, rfl, hD4, Nat.lt_of_lt_of_le (show acc.length < 100000 by omega) line_ge, ?_⟩
        refine ⟨Top.nxt m (b, j), acc ++ [.ref q], F ++ [(b, j)], _, _, _, by rw [nx]; rfl, same_upd s34 hD, upd_same, ?_, by rw [List.length_append, hFl]; rfl, hnx, hres⟩
        exact pd_append (sts_kt hF4 (kt_upd hD4)) (.cons ⟨q, rfl, kt_upd hD4 _ _ hq⟩ .nil)
      · rw [Top.outc_no hs (by rw [hno]; decide)] at hres
        refine ⟨_, rfl, rfl, _, rfl, iteH (by rfl) ?_⟩
        refine ⟨_, rfl, by show 2 ≤ sizeLine; decide, fun t ht => ?_⟩
        refine k t _ (s34.trans (same_new ht)) (s34.free ht) (fun R e => ?_) (fun i' e => ?_)
        · rw [hres] at e; cases e
        · rw [hres] at e; cases e; exact SqT.of upd_same
    · rintro σ H2 ⟨m, acc, F, p3, p4, p5, rfl, s2, hD2, hF, hFl, hm, hres⟩
      rw [Top.outc_end F m S xs.length (by omega)] at hres
      have hal := hF.length
      refine ⟨_, rfl, D, acc, rfl, .inl ⟨SqL.of hD2, fun t ht => ?_⟩⟩
      refine k t _ (s2.trans (same_new ht)) (s2.free ht) (fun R e => ?_) (fun i' e => ?_)
      · rw [hres] at e; cases e; exact ⟨acc, SqT.of upd_same, sts_same hF (same_new ht)⟩
      · rw [hres] at e; cases e

def spTold (K : PySem.W.Frag) : Sp := fun vs H Q _ => ∃ (x y : V), vs = [x, y] ∧
  ((∃ (n : Int) (l : Addr) (xs : List V) (S : List Top.TS), x = .int n ∧ y = .ref l ∧ 0 ≤ n ∧ (SqL K H l xs ∨ SqT K H l xs) ∧ TssAt K H xs S ∧ (∀ s ∈ S, Top.good s = true) ∧ S.length ≤ 100 ∧
     ∀ t H', Same H H' → (∀ R, Top.outc n S 0 = .inl R → ∃ ys, SqT K H' t ys ∧ StsAt K H' ys R) → (∀ i : Nat, Top.outc n S 0 = .inr i → SqT K H' t [.str "failed", .int (i : Int)]) → Q (.ref t) H') ∨
   (∃ d, Odv K H x d ∧ cntV x = false ∧ ∀ t H', Same H H' → H' t = some (.tup [.str "number", .str d.shown, .bl true]) → Q (.ref t) H') ∨
   (∃ (n : Int) (m : String) (d : PyData), x = .int n ∧ 0 ≤ n ∧ TyB K H y m ∧ tyN m = true ∧ m ≠ "list" ∧ m ≠ "tuple" ∧ Odv K H y d ∧ ∀ t H', Same H H' → H' t = some (.tup [.str "step", .str d.shown, .bl true]) → Q (.ref t) H') ∨
   (∃ (n : Int) (l : Addr) (xs : List V) (i0 : Nat) (z : V) (d : PyData), x = .int n ∧ y = .ref l ∧ 0 ≤ n ∧ SqL K H l xs ∧ xs.length ≤ 1000 ∧ xs[i0]? = some z ∧ BadSt K H z ∧ (∀ j < i0, ∃ y s, xs[j]? = some y ∧ TsAt K H y s ∧ Top.good s = true) ∧ Odv K H z d ∧ ∀ t H', Same H H' → H' t = some (.tup [.str "step", .str d.shown, .bl true]) → Q (.ref t) H'))
theorem ok_law_told (T : Txt K mg a) : FnG P w K mg base CX0 10 a.law_told (spTold K) := by
  obtain ⟨fd, F⟩ := T.F_law_told
  have G_resolved := okU_resolved (P := P) (w := w) (base := base) T
  have G_steps := ok_Sequence_steps (P := P) (w := w) (base := base) T
  refine XT.okGX F sc_law_told bn_law_told (fun vs H Q E h => ?_) (fun cdv A outer s H vs Q E hg hr h => ?_)
  · obtain ⟨x, y, rfl, _⟩ := h
    rfl
  · obtain ⟨x, y, rfl, h⟩ := h
    refine ⟨_, (pss_one (ps_try_asL rfl rfl sc_law_told.nd takes0 (fun W pn xe tk po => (pss_one (ps_ret (pe_propR (pe_callR G_resolved (hr.mono (by decide)) rfl T.g_resolved T.k_resolved (passAll tk 3 rfl) (pa_cons (pv 0) (pa_cons (pv 1) pa_nil))) T.cl_S T.p_steps G_steps (hr.mono (by decide)) pass0 rfl))))
      (AsOk.cons (i := 2) ⟨by rfl, by decide, .inl T.g_InvalidNumber⟩ rfl rfl (fun ea oe cls d pn hz hf => (pss_one (ps_ret (pe_tup (pa_cons pe_str (pa_cons (pe_callB (reprKx K hg hr.units) (by rfl) T.b_repr (by decide +kernel) (pa_cons (pe_xf T.e_InvalidNumber.xf T.e_InvalidNumber.no hz hf (pv 2)) pa_nil)) (pa_cons (pe_callB (isEKx K T.e_InvalidNumber.exc hz hf) (by rfl) T.b_isinstance (by decide +kernel) (pa_cons (pv 2) (pa_cons (pe_glob (v := .ref a.RankError) (by rfl) T.g_RankError rfl) pa_nil))) pa_nil)))))))
      (AsOk.cons (i := 2) ⟨by rfl, by decide, .inl T.g_InvalidStep⟩ rfl rfl (fun ea oe cls d pn hz hf => (pss_one (ps_ret (pe_tup (pa_cons pe_str (pa_cons (pe_callB (reprKx K hg hr.units) (by rfl) T.b_repr (by decide +kernel) (pa_cons (pe_xf T.e_InvalidStep.xf T.e_InvalidStep.no hz hf (pv 2)) pa_nil)) (pa_cons (pe_callB (isEKx K T.e_InvalidStep.exc hz hf) (by rfl) T.b_isinstance (by decide +kernel) (pa_cons (pv 2) (pa_cons (pe_glob (v := .ref a.RankError) (by rfl) T.g_RankError rfl) pa_nil))) pa_nil)))))))
      (AsOk.cons (i := 2) ⟨by rfl, by decide, .inl T.g_StepFailed⟩ rfl rfl (fun ea oe cls d pn hz hf => (pss_cons (ps_if (PW.pt (pw_and (pt_val (pe_callB (isEKx K T.e_StepFailed.exc hz hf) (by rfl) T.b_isinstance (by decide +kernel) (pa_cons (pv 2) (pa_cons (pe_bltn (v := .ty "RuntimeError") (u := .type "RuntimeError") (by rfl) T.b_RuntimeError (by decide +kernel) rfl) pa_nil)))) (pw_and1 (pt_not (pt_val (pe_callB (isEKx K T.e_StepFailed.exc hz hf) (by rfl) T.b_isinstance (by decide +kernel) (pa_cons (pv 2) (pa_cons (pe_glob (v := .ref a.RankError) (by rfl) T.g_RankError rfl) pa_nil)))))))) (pss_one (ps_ret (pe_tup (pa_cons pe_str (pa_cons (pe_xf T.e_StepFailed.xf T.e_StepFailed.no hz hf (pv 2)) pa_nil))))) pss_nil)
      (pss_one (ps_ret (pe_tup (pa_cons pe_str pa_nil)))))) AsOk.nil))))), ?_⟩
    rcases h with ⟨n, l, xs, S, rfl, rfl, hn, hS, hL, hgd, hz, k⟩ | ⟨D, od, hc, k⟩ | ⟨n, m, D, rfl, hn, ty, tm, m1, m2, od, k⟩ | ⟨n, l, xs, i0, z, D, rfl, rfl, hn, hS, hz, hx, hb, hpre, od, k⟩
    · have hxl := hL.length
      rcases hS with hS | hS
      · refine ⟨_, rfl, _, rfl, .inl ⟨n, l, xs, rfl, hn, hS, by omega, .inr ⟨S, hL, hgd, fun R hi r H1 s1 n1 hr9 => ?_, fun i hi d H1 s1 nd hd σ hσ => ?_⟩⟩⟩
        · obtain ⟨dx, p, h1⟩ := hr9.ins
          exact ⟨r, dx, _, rfl, h1, r, _, rfl, hr9, fun p2 xs2 hp2 hst2 => k p2 _ s1 (fun R' e => by rw [hi] at e; cases e; exact ⟨xs2, hp2, hst2⟩) (fun i' e => by rw [hi] at e; cases e)⟩
        · refine ⟨false, T.x_FN, (fun q => Bool.noConfusion q), fun _ => ⟨false, T.x_FS, (fun q => Bool.noConfusion q), fun _ => ⟨true, T.x_FF, fun _ ea hea => ?_, fun q => Bool.noConfusion q⟩⟩⟩
          have he : (σ.set 2 (some (V.ref ea)))[2]? = some (some (V.ref ea)) := by simp [hσ]
          refine ⟨_, he, _, _, true, d, _, rfl, rfl, (fun u r => by cases r; rfl), rfl, hd, T.r_FT, ?_⟩
          refine ⟨_, rfl, iteH rfl ?_⟩
          refine ⟨_, he, _, _, false, d, _, rfl, rfl, (fun u r => r), rfl, hd, T.r_FR, ?_⟩
          refine ⟨_, rfl, iteH rfl ?_⟩
          refine ⟨_, he, rfl, rfl, d, _, _, rfl, hd, rfl, ?_⟩
          exact ⟨by show 2 ≤ sizeLine; decide, fun t ht => k t _ (s1.trans (same_new ht)) (fun R e => by rw [hi] at e; cases e) (fun i' e => by rw [hi] at e; cases e; exact SqT.of upd_same)⟩
      · refine ⟨_, rfl, _, rfl, .inr (.inl ⟨n, l, xs, rfl, hn, hS, by omega, .inr ⟨S, hL, hgd, fun R hi r H1 s1 n1 hr9 => ?_, fun i hi d H1 s1 nd hd σ hσ => ?_⟩⟩)⟩
        · obtain ⟨dx, p, h1⟩ := hr9.ins
          exact ⟨r, dx, _, rfl, h1, r, _, rfl, hr9, fun p2 xs2 hp2 hst2 => k p2 _ s1 (fun R' e => by rw [hi] at e; cases e; exact ⟨xs2, hp2, hst2⟩) (fun i' e => by rw [hi] at e; cases e)⟩
        · refine ⟨false, T.x_FN, (fun q => Bool.noConfusion q), fun _ => ⟨false, T.x_FS, (fun q => Bool.noConfusion q), fun _ => ⟨true, T.x_FF, fun _ ea hea => ?_, fun q => Bool.noConfusion q⟩⟩⟩
          have he : (σ.set 2 (some (V.ref ea)))[2]? = some (some (V.ref ea)) := by simp [hσ]
          refine ⟨_, he, _, _, true, d, _, rfl, rfl, (fun u r => by cases r; rfl), rfl, hd, T.r_FT, ?_⟩
          refine ⟨_, rfl, iteH rfl ?_⟩
          refine ⟨_, he, _, _, false, d, _, rfl, rfl, (fun u r => r), rfl, hd, T.r_FR, ?_⟩
          refine ⟨_, rfl, iteH rfl ?_⟩
          refine ⟨_, he, rfl, rfl, d, _, _, rfl, hd, rfl, ?_⟩
          exact ⟨by show 2 ≤ sizeLine; decide, fun t ht => k t _ (s1.trans (same_new ht)) (fun R e => by rw [hi] at e; cases e) (fun i' e => by rw [hi] at e; cases e; exact SqT.of upd_same)⟩
    · refine ⟨_, rfl, _, rfl, .inr (.inr ⟨_, _, rfl, .inl ⟨od.kv, hc, fun d H1 s1 nd hd σ hσ => ?_⟩⟩)⟩
      refine ⟨true, T.x_NN, fun _ ea hea => ?_, fun q => Bool.noConfusion q⟩
      have he : (σ.set 2 (some (V.ref ea)))[2]? = some (some (V.ref ea)) := by simp [hσ]
      refine ⟨_, he, rfl, rfl, d, _, _, rfl, hd, rfl, _, D, rfl, rd_same s1 od.rd, od.od.pl, od.od.dp, od.od.sz, ?_⟩
      refine ⟨_, he, _, _, true, d, _, rfl, rfl, (fun u r => r), rfl, hd, T.r_NR, ?_⟩
      exact ⟨by show 3 ≤ sizeLine; decide, fun t ht => k t _ (s1.trans (same_new ht)) upd_same⟩
    · refine ⟨_, rfl, _, rfl, .inr (.inr ⟨_, _, rfl, .inr ⟨n, m, rfl, hn, ty, tm, m1, m2, fun d H1 s1 nd hd σ hσ => ?_⟩⟩)⟩
      refine ⟨false, T.x_SN, (fun q => Bool.noConfusion q), fun _ => ⟨true, T.x_SS, fun _ ea hea => ?_, fun q => Bool.noConfusion q⟩⟩
      have he : (σ.set 2 (some (V.ref ea)))[2]? = some (some (V.ref ea)) := by simp [hσ]
      refine ⟨_, he, rfl, rfl, d, _, _, rfl, hd, rfl, _, D, rfl, rd_same s1 od.rd, od.od.pl, od.od.dp, od.od.sz, ?_⟩
      refine ⟨_, he, _, _, true, d, _, rfl, rfl, (fun u r => r), rfl, hd, T.r_SR, ?_⟩
      exact ⟨by show 3 ≤ sizeLine; decide, fun t ht => k t _ (s1.trans (same_new ht)) upd_same⟩
    · refine ⟨_, rfl, _, rfl, .inl ⟨n, l, xs, rfl, hn, hS, hz, .inl ⟨i0, z, hx, hb, hpre, fun d H1 s1 nd hd σ hσ => ?_⟩⟩⟩
      refine ⟨false, T.x_SN, (fun q => Bool.noConfusion q), fun _ => ⟨true, T.x_SS, fun _ ea hea => ?_, fun q => Bool.noConfusion q⟩⟩
      have he : (σ.set 2 (some (V.ref ea)))[2]? = some (some (V.ref ea)) := by simp [hσ]
      refine ⟨_, he, rfl, rfl, d, _, _, rfl, hd, rfl, _, D, rfl, rd_same s1 od.rd, od.od.pl, od.od.dp, od.od.sz, ?_⟩
      refine ⟨_, he, _, _, true, d, _, rfl, rfl, (fun u r => r), rfl, hd, T.r_SR, ?_⟩
      exact ⟨by show 3 ≤ sizeLine; decide, fun t ht => k t _ (s1.trans (same_new ht)) upd_same⟩
end
end K41
namespace K41
open PySem L2 XT
section
variable {P : Program} {w : World} {K : PySem.W.Frag} {mg : Str → Option Value} {base : Heap} {a : Ads}
local macro_rules | `(tactic| walk_at "rside") => `(tactic| first | (show (0 : Int) < _; first | decide | omega) | (exact ⟨by first | decide | omega, by first | decide | omega⟩) | (exact Or.inl ⟨by omega, by omega⟩) | (exact Or.inr ⟨by omega, by omega⟩) | (exact ⟨by decide, by decide, by decide⟩))
local macro_rules | `(tactic| walk_at "rd1") => `(tactic| first | (refine ⟨_, rfl, ?_⟩) | (refine ⟨_, _, rfl, rfl, (by walk_at "rside"), ?_⟩) | (refine ⟨_, _, rfl, rfl, ?_⟩))
local macro_rules | `(tactic| walk_at "rd") => `(tactic| repeat (walk_at "rd1"))

theorem sh_tld {w1 w2 : Str} (h1 : PyData.strOk w1 = true) (h2 : PyData.strOk w2 = true) (b : Bool) : SeqAt.shaped (.tuple [.str w1, .str w2, .bool b]) = true := by
  simp [SeqAt.shaped, PyData.canLay0, PyData.canLayAll0, PyData.depth, PyData.depthAll, h1, h2]
theorem dp_tld {H : Hp} {r : Addr} {w1 w2 : Str} {b : Bool} (h : H r = some (.tup [.str w1, .str w2, .bl b])) : Dp K H (.ref r) (.tuple [.str w1, .str w2, .bool b]) := .tup (SqT.of h) (.cons (.str w1) (.cons (.str w2) (.cons (.bl b) .nil)))
theorem tld_eq {w1 w2 : Str} : (!PyData.eqv (.tuple [.str w1, .str w2, .bool true]) (.tuple [.str w1, .str w2, .bool true])) = false := by
  simp [PyData.eqv, PyData.eqvAll]
def spCE (K : PySem.W.Frag) : Sp := fun vs H Q _ => ∃ (p l : Addr) (xs : List V) (S : List Top.TS), vs = [.ref p, .ref l] ∧ PoolAt H p ∧ l ≠ p ∧ H l = some (.lst xs) ∧ TssAt K H xs S ∧ (∀ s ∈ S, Top.good s = true) ∧ S.length ≤ 20 ∧ ∀ H', But p H H' → PoolAt H' p → Q (.bl true) H'
theorem ok_law_check_errors (T : Txt K mg a) : FnG P w K mg base CX0 12 a.law_check_errors (spCE K) := by
  obtain ⟨fd, F⟩ := T.F_law_check_errors
  have G_law_take := ok_law_take (P := P) (w := w) (base := base) T
  have G_law_told := ok_law_told (P := P) (w := w) (base := base) T
  refine XT.okGX F sc_law_check_errors bn_law_check_errors (fun vs H Q E h => ?_) (fun cdv A outer s H vs Q E hg hr h => ?_)
  · obtain ⟨p, l, xs, S, rfl, _⟩ := h
    rfl
  · obtain ⟨p, l, xs, S, rfl, hp, nlp, hl, hT, hgd, hz, k⟩ := h
    refine ⟨_, PSs.nox ((pss_cons (ps_for PassesOwn.never rfl (pi_list (pe_lst (pa_cons pe_non (pa_cons (pe_un un_neg pe_int) (pa_cons pe_bl (pa_cons pe_bl (pa_cons pe_str (pa_cons (pe_tup (pa_cons pe_int pa_nil)) (pa_cons (pe_lst pa_nil) (pa_cons (pe_un un_neg (pe_op op_pow pe_int pe_int)) pa_nil)))))))))) (pg_name (i := 2) sc_law_check_errors.nd rfl (Or.inl rfl))
        (pss_one (ps_if (pt_cmpR (neDK K hr.units) (pe_callG G_law_told hg (hr.mono (by decide)) rfl T.g_law_told T.k_law_told pass0 (pa_cons (pv 2) (pa_cons pe_non pa_nil))) (pe_tup (pa_cons pe_str (pa_cons (pe_callB (reprKx K hg hr.units) (by rfl) T.b_repr (by decide +kernel) (pa_cons (pv 2) pa_nil)) (pa_cons pe_bl pa_nil)))) (nomark _)) (pss_one (ps_ret pe_bl)) pss_nil)))
      (pss_cons (ps_for PassesOwn.never rfl (pi_list (pe_lst (pa_cons pe_non (pa_cons pe_int (pa_cons pe_str (pa_cons pe_dnewK (pa_cons pe_bl pa_nil))))))) (pg_name (i := 2) sc_law_check_errors.nd rfl (Or.inl rfl))
        (pss_one (ps_if (pt_cmpR (neDK K hr.units) (pe_callG G_law_told hg (hr.mono (by decide)) rfl T.g_law_told T.k_law_told pass0 (pa_cons pe_int (pa_cons (pv 2) pa_nil))) (pe_tup (pa_cons pe_str (pa_cons (pe_callB (reprKx K hg hr.units) (by rfl) T.b_repr (by decide +kernel) (pa_cons (pv 2) pa_nil)) (pa_cons pe_bl pa_nil)))) (nomark _)) (pss_one (ps_ret pe_bl)) pss_nil)))
      (pss_cons (ps_set (i := 3) sc_law_check_errors.nd rfl (Or.inl rfl) (pe_callR G_law_take (hr.mono (by decide)) rfl T.g_law_take T.k_law_take pass0 (pa_cons (pv 0) (pa_cons (pe_op op_add (pe_callB (lenK K) (by rfl) T.b_len (by decide +kernel) (pa_cons (pv 1) pa_nil)) pe_int) pa_nil))))
      (pss_cons (ps_set (i := 4) sc_law_check_errors.nd rfl (Or.inl rfl) (pe_lst (pa_cons pe_non (pa_cons pe_int (pa_cons pe_str (pa_cons (pe_tup (pa_cons pe_str (pa_cons pe_int pa_nil))) (pa_cons (pe_lst (pa_cons pe_str pa_nil)) (pa_cons (pe_tup (pa_cons pe_str pa_nil)) (pa_cons (pe_tup (pa_cons pe_str (pa_cons pe_int pa_nil))) (pa_cons (pe_tup (pa_cons pe_str (pa_cons (pe_un un_neg pe_int) pa_nil))) (pa_cons (pe_tup (pa_cons pe_str (pa_cons pe_bl pa_nil))) pa_nil)))))))))))
      (pss_cons (ps_set (i := 4) sc_law_check_errors.nd rfl (Or.inl rfl) (pe_op op_cat (pv 4) (pe_lst (pa_cons (pe_tup (pa_cons pe_str (pa_cons pe_str pa_nil))) (pa_cons (pe_tup (pa_cons pe_str (pa_cons pe_int pa_nil))) (pa_cons (pe_tup (pa_cons pe_str (pa_cons pe_non pa_nil))) (pa_cons (pe_tup (pa_cons pe_str (pa_cons pe_int pa_nil))) (pa_cons (pe_tup (pa_cons pe_str (pa_cons pe_int (pa_cons pe_int pa_nil)))) (pa_cons (pe_lst (pa_cons (pe_tup (pa_cons pe_str (pa_cons pe_int pa_nil))) pa_nil)) pa_nil)))))))))
      (pss_cons (ps_for PassesOwn.never rfl (pi_list (pe_op op_cat (pv 4) (pe_lst (pa_cons (pe_tup (pa_cons pe_str (pa_cons pe_int pa_nil))) (pa_cons (pe_tup (pa_cons pe_int (pa_cons pe_str pa_nil))) (pa_cons (pe_tup (pa_cons pe_str (pa_cons (pe_lst (pa_cons pe_int pa_nil)) pa_nil))) pa_nil)))))) (pg_name (i := 2) sc_law_check_errors.nd rfl (Or.inl rfl))
        (pss_one (ps_if (pt_cmpR (neDK K hr.units) (pe_callG G_law_told hg (hr.mono (by decide)) rfl T.g_law_told T.k_law_told pass0 (pa_cons pe_int (pa_cons (pe_op op_cat (pe_op op_cat (pe_op op_cat (pe_slice (slLK K) (pv 1) po_none (po_some (pv 3))) (pe_lst (pa_cons (pv 2) pa_nil))) (pe_slice (slLK K) (pv 1) (po_some (pv 3)) po_none)) (pe_lst (pa_cons pe_non pa_nil))) pa_nil))) (pe_tup (pa_cons pe_str (pa_cons (pe_callB (reprKx K hg hr.units) (by rfl) T.b_repr (by decide +kernel) (pa_cons (pv 2) pa_nil)) (pa_cons pe_bl pa_nil)))) (nomark _)) (pss_one (ps_ret pe_bl)) pss_nil)))
      (pss_one (ps_ret pe_bl))))))))), ?_⟩
    try dsimp only [tNext]
    show tSeq _ _ _ _ _
    refine seq_cut2 (fun σ' H' => ∃ o2, σ' = [some (.ref p), some (.ref l), o2, none, none] ∧ Same H H') (fun N cont => ?_) (fun σ H1 h1 => ?_)
    · refine ⟨_, rfl, by show 1 ≤ sizeLine; decide, fun z1 h1 => ?_⟩
      refine ⟨Nat.zero_le _, fun z2 h2 => ?_⟩
      refine ⟨_, _, rfl, rfl, ⟨by decide, by decide, by decide⟩, _, rfl, by show 8 ≤ sizeLine; decide, fun pl hpl => ?_⟩
      have ae0 := same_new (o := .tup [V.int 3]) h1
      have ae1 := same_new (o := .lst []) h2
      have ae2 := same_new (o := .lst [V.non, V.int (-1), V.bl true, V.bl false, V.str "3", V.ref z1, V.ref z2, V.int (-10 ^ (20 : Int).toNat)]) hpl
      have af0 := (ae2 _ _ (ae1 _ _ (upd_same (H := H) (a := z1) (o := .tup [V.int 3]))))
      have af1 := (ae2 _ _ (upd_same (H := (upd H z1 (.tup [V.int 3]))) (a := z2) (o := .lst [])))
      have af2 := (upd_same (H := (upd (upd H z1 (.tup [V.int 3])) z2 (.lst []))) (a := pl) (o := .lst [V.non, V.int (-1), V.bl true, V.bl false, V.str "3", V.ref z1, V.ref z2, V.int (-10 ^ (20 : Int).toNat)]))
      have as := ((ae0.trans ae1).trans ae2)
      generalize upd (upd (upd H z1 (.tup [V.int 3])) z2 (.lst [])) pl (.lst [V.non, V.int (-1), V.bl true, V.bl false, V.str "3", V.ref z1, V.ref z2, V.int (-10 ^ (20 : Int).toNat)]) = HA at as af0 af1 af2 ⊢
      clear ae0 ae1 ae2
      have odds : ∀ x ∈ ([V.non, V.int (-1), V.bl true, V.bl false, V.str "3", V.ref z1, V.ref z2, V.int (-10 ^ (20 : Int).toNat)] : List V), ∃ d, Odv K HA x d ∧ cntV x = false := by
        intro x hx
        simp only [List.mem_cons, List.not_mem_nil, or_false] at hx
        rcases hx with rfl | rfl | rfl | rfl | rfl | rfl | rfl | rfl
        · exact ⟨_, odv_non, rfl⟩
        · exact ⟨_, odv_int (by decide), rfl⟩
        · exact ⟨_, odv_bl true, rfl⟩
        · exact ⟨_, odv_bl false, rfl⟩
        · exact ⟨_, odv_str "3" (by decide +kernel) (by decide +kernel) (by decide +kernel), rfl⟩
        · exact ⟨_, odv_tup1 af0 (by decide), rfl⟩
        · exact ⟨_, odv_lst0 af1, rfl⟩
        · exact ⟨_, odv_int (by decide +kernel), by decide +kernel⟩
      generalize ([V.non, V.int (-1), V.bl true, V.bl false, V.str "3", V.ref z1, V.ref z2, V.int (-10 ^ (20 : Int).toNat)] : List V) = os at af2 odds
      refine ⟨pl, rfl, ⟨_, SqL.of af2⟩, for_list (K := K) (a := pl) (xs := os) (fun _ σ H' => ∃ o2, σ = [some (.ref p), some (.ref l), o2, none, none] ∧ Same HA H') ⟨_, rfl, Same.refl _⟩ (fun _ σ H' _ ⟨_, _, s⟩ => s.seq (SqL.of af2)) ?_ ?_⟩
      · rintro j x σ Hx hx ⟨o2, rfl, sx⟩
        obtain ⟨d, od0, tv⟩ := odds x (List.mem_of_getElem? hx)
        have od := od0.same sx
        refine ⟨_, rfl, x, .non, rfl, .inr (.inl ⟨d, od, tv, fun t HB sB htB => ?_⟩)⟩
        refine ⟨_, rfl, x, d, rfl, rd_same sB od.rd, od.od.pl, od.od.dp, od.od.sz, by show 3 ≤ sizeLine; decide, fun t2 ht2 => ?_⟩
        have okd := ok_shown d od.tx
        refine ⟨_, _, dp_tld ((same_new ht2) _ _ htB), dp_tld upd_same, sh_tld (by decide +kernel) okd true, sh_tld (by decide +kernel) okd true, _, rfl, iteN tld_eq ?_⟩
        exact ⟨_, rfl, (sx.trans sB).trans (same_new ht2)⟩
      · rintro σ Hx ⟨o2, rfl, sx⟩
        exact cont _ _ ⟨_, rfl, as.trans sx⟩
    obtain ⟨o2, rfl, s1⟩ := h1
    try dsimp only [tNext]
    show tSeq _ _ _ _ _
    refine seq_cut2 (fun σ' H' => ∃ o2, σ' = [some (.ref p), some (.ref l), o2, none, none] ∧ Same H1 H') (fun N cont => ?_) (fun σ H2 h2 => ?_)
    · refine fun z1 h1 => ?_
      refine ⟨by show 5 ≤ sizeLine; decide, fun pl hpl => ?_⟩
      have be0 := same_new (o := .dK []) h1
      have be1 := same_new (o := .lst [V.non, V.int 5, V.str "top", V.ref z1, V.bl true]) hpl
      have bf0 := (be1 _ _ (upd_same (H := H1) (a := z1) (o := .dK [])))
      have bf1 := (upd_same (H := (upd H1 z1 (.dK []))) (a := pl) (o := .lst [V.non, V.int 5, V.str "top", V.ref z1, V.bl true]))
      have bs := (be0.trans be1)
      generalize upd (upd H1 z1 (.dK [])) pl (.lst [V.non, V.int 5, V.str "top", V.ref z1, V.bl true]) = HA at bs bf0 bf1 ⊢
      clear be0 be1
      have odds : ∀ x ∈ ([V.non, V.int 5, V.str "top", V.ref z1, V.bl true] : List V), ∃ d m, Odv K HA x d ∧ TyB K HA x m ∧ tyN m = true ∧ m ≠ "list" ∧ m ≠ "tuple" := by
        intro x hx
        simp only [List.mem_cons, List.not_mem_nil, or_false] at hx
        rcases hx with rfl | rfl | rfl | rfl | rfl
        · exact ⟨_, _, odv_non, .non, by decide +kernel, by decide, by decide⟩
        · exact ⟨_, _, odv_int (by decide), .int _, by decide +kernel, by decide, by decide⟩
        · exact ⟨_, _, odv_str "top" (by decide +kernel) (by decide +kernel) (by decide +kernel), .str _, by decide +kernel, by decide, by decide⟩
        · exact ⟨_, _, odv_dict bf0, .dK bf0, by decide +kernel, by decide, by decide⟩
        · exact ⟨_, _, odv_bl true, .bl _, by decide +kernel, by decide, by decide⟩
      generalize ([V.non, V.int 5, V.str "top", V.ref z1, V.bl true] : List V) = os at bf1 odds
      refine ⟨pl, rfl, ⟨_, SqL.of bf1⟩, for_list (K := K) (a := pl) (xs := os) (fun _ σ H' => ∃ o2, σ = [some (.ref p), some (.ref l), o2, none, none] ∧ Same HA H') ⟨_, rfl, Same.refl _⟩ (fun _ σ H' _ ⟨_, _, s⟩ => s.seq (SqL.of bf1)) ?_ ?_⟩
      · rintro j x σ Hx hx ⟨o2, rfl, sx⟩
        obtain ⟨d, m, od0, ty, tm, m1, m2⟩ := odds x (List.mem_of_getElem? hx)
        have od := od0.same sx
        refine ⟨_, rfl, .int 3, x, rfl, .inr (.inr (.inl ⟨3, m, d, rfl, by decide, same_tyB sx ty, tm, m1, m2, od, fun t HB sB htB => ?_⟩))⟩
        refine ⟨_, rfl, x, d, rfl, rd_same sB od.rd, od.od.pl, od.od.dp, od.od.sz, by show 3 ≤ sizeLine; decide, fun t2 ht2 => ?_⟩
        have okd := ok_shown d od.tx
        refine ⟨_, _, dp_tld ((same_new ht2) _ _ htB), dp_tld upd_same, sh_tld (by decide +kernel) okd true, sh_tld (by decide +kernel) okd true, _, rfl, iteN tld_eq ?_⟩
        exact ⟨_, rfl, (sx.trans sB).trans (same_new ht2)⟩
      · rintro σ Hx ⟨o2, rfl, sx⟩
        exact cont _ _ ⟨_, rfl, bs.trans sx⟩
    obtain ⟨o2, rfl, s2⟩ := h2
    have s12 := s1.trans s2
    have hp2 := pool_same hp s12
    have hl2 := s12 _ _ hl
    have hxl := hT.length
    refine ⟨_, rfl, _, rfl, l, _, rfl, .inl (SqL.of hl2), _, _, rfl, rfl, p, _, rfl, hp2, by omega, by omega, fun u H3 u0 u1 b3 hp3 => ?_⟩
    obtain ⟨j, rfl⟩ : ∃ j : Nat, u = (j : Int) := ⟨u.toNat, by omega⟩
    have hl3 := but_lst hl2 nlp b3
    have hT3 := tss_kt (tss_same hT s12) (kt_but hp2 b3)
    have b03 := (but_same s12).trans b3
    refine ⟨by show 2 ≤ sizeLine; decide, fun z1 hz1 => ?_⟩
    refine ⟨by show 1 ≤ sizeLine; decide, fun z2 hz2 => ?_⟩
    refine ⟨by show 1 ≤ sizeLine; decide, fun z3 hz3 => ?_⟩
    refine ⟨by show 2 ≤ sizeLine; decide, fun z4 hz4 => ?_⟩
    refine ⟨_, rfl, by show 2 ≤ sizeLine; decide, fun z5 hz5 => ?_⟩
    refine ⟨by show 2 ≤ sizeLine; decide, fun z6 hz6 => ?_⟩
    refine ⟨by show 9 ≤ sizeLine; decide, fun pa hpa => ?_⟩
    have ae0 := same_new (o := .tup [V.str "median", V.int 1]) hz1
    have ae1 := same_new (o := .lst [V.str "median"]) hz2
    have ae2 := same_new (o := .tup [V.str "top"]) hz3
    have ae3 := same_new (o := .tup [V.str "top", V.int 0]) hz4
    have ae4 := same_new (o := .tup [V.str "top", V.int (-1)]) hz5
    have ae5 := same_new (o := .tup [V.str "top", V.bl true]) hz6
    have ae6 := same_new (o := .lst [V.non, V.int 5, V.str "median", V.ref z1, V.ref z2, V.ref z3, V.ref z4, V.ref z5, V.ref z6]) hpa
    have af0 := (ae6 _ _ (ae5 _ _ (ae4 _ _ (ae3 _ _ (ae2 _ _ (ae1 _ _ (upd_same (H := H3) (a := z1) (o := .tup [V.str "median", V.int 1]))))))))
    have af1 := (ae6 _ _ (ae5 _ _ (ae4 _ _ (ae3 _ _ (ae2 _ _ (upd_same (H := (upd H3 z1 (.tup [V.str "median", V.int 1]))) (a := z2) (o := .lst [V.str "median"])))))))
    have af2 := (ae6 _ _ (ae5 _ _ (ae4 _ _ (ae3 _ _ (upd_same (H := (upd (upd H3 z1 (.tup [V.str "median", V.int 1])) z2 (.lst [V.str "median"]))) (a := z3) (o := .tup [V.str "top"]))))))
    have af3 := (ae6 _ _ (ae5 _ _ (ae4 _ _ (upd_same (H := (upd (upd (upd H3 z1 (.tup [V.str "median", V.int 1])) z2 (.lst [V.str "median"])) z3 (.tup [V.str "top"]))) (a := z4) (o := .tup [V.str "top", V.int 0])))))
    have af4 := (ae6 _ _ (ae5 _ _ (upd_same (H := (upd (upd (upd (upd H3 z1 (.tup [V.str "median", V.int 1])) z2 (.lst [V.str "median"])) z3 (.tup [V.str "top"])) z4 (.tup [V.str "top", V.int 0]))) (a := z5) (o := .tup [V.str "top", V.int (-1)]))))
    have af5 := (ae6 _ _ (upd_same (H := (upd (upd (upd (upd (upd H3 z1 (.tup [V.str "median", V.int 1])) z2 (.lst [V.str "median"])) z3 (.tup [V.str "top"])) z4 (.tup [V.str "top", V.int 0])) z5 (.tup [V.str "top", V.int (-1)]))) (a := z6) (o := .tup [V.str "top", V.bl true])))
    have af6 := (upd_same (H := (upd (upd (upd (upd (upd (upd H3 z1 (.tup [V.str "median", V.int 1])) z2 (.lst [V.str "median"])) z3 (.tup [V.str "top"])) z4 (.tup [V.str "top", V.int 0])) z5 (.tup [V.str "top", V.int (-1)])) z6 (.tup [V.str "top", V.bl true]))) (a := pa) (o := .lst [V.non, V.int 5, V.str "median", V.ref z1, V.ref z2, V.ref z3, V.ref z4, V.ref z5, V.ref z6]))
    have as := ((((((ae0.trans ae1).trans ae2).trans ae3).trans ae4).trans ae5).trans ae6)
    generalize upd (upd (upd (upd (upd (upd (upd H3 z1 (.tup [V.str "median", V.int 1])) z2 (.lst [V.str "median"])) z3 (.tup [V.str "top"])) z4 (.tup [V.str "top", V.int 0])) z5 (.tup [V.str "top", V.int (-1)])) z6 (.tup [V.str "top", V.bl true])) pa (.lst [V.non, V.int 5, V.str "median", V.ref z1, V.ref z2, V.ref z3, V.ref z4, V.ref z5, V.ref z6]) = HA at as af0 af1 af2 af3 af4 af5 af6 ⊢
    clear ae0 ae1 ae2 ae3 ae4 ae5 ae6
    refine ⟨_, rfl, ?_⟩
    refine ⟨by show 2 ≤ sizeLine; decide, fun z7 hz7 => ?_⟩
    refine ⟨by show 2 ≤ sizeLine; decide, fun z8 hz8 => ?_⟩
    refine ⟨by show 2 ≤ sizeLine; decide, fun z9 hz9 => ?_⟩
    refine ⟨by show 2 ≤ sizeLine; decide, fun y1 hy1 => ?_⟩
    refine ⟨by show 3 ≤ sizeLine; decide, fun y2 hy2 => ?_⟩
    refine ⟨by show 2 ≤ sizeLine; decide, fun y3 hy3 => ?_⟩
    refine ⟨by show 1 ≤ sizeLine; decide, fun y4 hy4 => ?_⟩
    refine ⟨by show 6 ≤ sizeLine; decide, fun pb hpb => ?_⟩
    have be0 := same_new (o := .tup [V.str "top", V.str "1"]) hz7
    have be1 := same_new (o := .tup [V.str "remove", V.int 0]) hz8
    have be2 := same_new (o := .tup [V.str "insert", V.non]) hz9
    have be3 := same_new (o := .tup [V.str "Top", V.int 1]) hy1
    have be4 := same_new (o := .tup [V.str "top", V.int 1, V.int 2]) hy2
    have be5 := same_new (o := .tup [V.str "top", V.int 1]) hy3
    have be6 := same_new (o := .lst [V.ref y3]) hy4
    have be7 := same_new (o := .lst [V.ref z7, V.ref z8, V.ref z9, V.ref y1, V.ref y2, V.ref y4]) hpb
    have bf0 := (be7 _ _ (be6 _ _ (be5 _ _ (be4 _ _ (be3 _ _ (be2 _ _ (be1 _ _ (upd_same (H := HA) (a := z7) (o := .tup [V.str "top", V.str "1"])))))))))
    have bf1 := (be7 _ _ (be6 _ _ (be5 _ _ (be4 _ _ (be3 _ _ (be2 _ _ (upd_same (H := (upd HA z7 (.tup [V.str "top", V.str "1"]))) (a := z8) (o := .tup [V.str "remove", V.int 0]))))))))
    have bf2 := (be7 _ _ (be6 _ _ (be5 _ _ (be4 _ _ (be3 _ _ (upd_same (H := (upd (upd HA z7 (.tup [V.str "top", V.str "1"])) z8 (.tup [V.str "remove", V.int 0]))) (a := z9) (o := .tup [V.str "insert", V.non])))))))
    have bf3 := (be7 _ _ (be6 _ _ (be5 _ _ (be4 _ _ (upd_same (H := (upd (upd (upd HA z7 (.tup [V.str "top", V.str "1"])) z8 (.tup [V.str "remove", V.int 0])) z9 (.tup [V.str "insert", V.non]))) (a := y1) (o := .tup [V.str "Top", V.int 1]))))))
    have bf4 := (be7 _ _ (be6 _ _ (be5 _ _ (upd_same (H := (upd (upd (upd (upd HA z7 (.tup [V.str "top", V.str "1"])) z8 (.tup [V.str "remove", V.int 0])) z9 (.tup [V.str "insert", V.non])) y1 (.tup [V.str "Top", V.int 1]))) (a := y2) (o := .tup [V.str "top", V.int 1, V.int 2])))))
    have bf5 := (be7 _ _ (be6 _ _ (upd_same (H := (upd (upd (upd (upd (upd HA z7 (.tup [V.str "top", V.str "1"])) z8 (.tup [V.str "remove", V.int 0])) z9 (.tup [V.str "insert", V.non])) y1 (.tup [V.str "Top", V.int 1])) y2 (.tup [V.str "top", V.int 1, V.int 2]))) (a := y3) (o := .tup [V.str "top", V.int 1]))))
    have bf6 := (be7 _ _ (upd_same (H := (upd (upd (upd (upd (upd (upd HA z7 (.tup [V.str "top", V.str "1"])) z8 (.tup [V.str "remove", V.int 0])) z9 (.tup [V.str "insert", V.non])) y1 (.tup [V.str "Top", V.int 1])) y2 (.tup [V.str "top", V.int 1, V.int 2])) y3 (.tup [V.str "top", V.int 1]))) (a := y4) (o := .lst [V.ref y3])))
    have bf7 := (upd_same (H := (upd (upd (upd (upd (upd (upd (upd HA z7 (.tup [V.str "top", V.str "1"])) z8 (.tup [V.str "remove", V.int 0])) z9 (.tup [V.str "insert", V.non])) y1 (.tup [V.str "Top", V.int 1])) y2 (.tup [V.str "top", V.int 1, V.int 2])) y3 (.tup [V.str "top", V.int 1])) y4 (.lst [V.ref y3]))) (a := pb) (o := .lst [V.ref z7, V.ref z8, V.ref z9, V.ref y1, V.ref y2, V.ref y4]))
    have bs := (((((((be0.trans be1).trans be2).trans be3).trans be4).trans be5).trans be6).trans be7)
    generalize upd (upd (upd (upd (upd (upd (upd (upd HA z7 (.tup [V.str "top", V.str "1"])) z8 (.tup [V.str "remove", V.int 0])) z9 (.tup [V.str "insert", V.non])) y1 (.tup [V.str "Top", V.int 1])) y2 (.tup [V.str "top", V.int 1, V.int 2])) y3 (.tup [V.str "top", V.int 1])) y4 (.lst [V.ref y3])) pb (.lst [V.ref z7, V.ref z8, V.ref z9, V.ref y1, V.ref y2, V.ref y4]) = HB at bs bf0 bf1 bf2 bf3 bf4 bf5 bf6 bf7 ⊢
    clear be0 be1 be2 be3 be4 be5 be6 be7
    refine ⟨pa, pb, _, _, rfl, rfl, bs _ _ af6, bf7, by show 15 ≤ sizeLine; decide, fun c1 hc1 => ?_⟩
    have sc1 := same_new (o := .lst ([V.non, V.int 5, V.str "median", V.ref z1, V.ref z2, V.ref z3, V.ref z4, V.ref z5, V.ref z6] ++ [V.ref z7, V.ref z8, V.ref z9, V.ref y1, V.ref y2, V.ref y4])) hc1
    have fc1 := upd_same (H := HB) (a := c1) (o := .lst ([V.non, V.int 5, V.str "median", V.ref z1, V.ref z2, V.ref z3, V.ref z4, V.ref z5, V.ref z6] ++ [V.ref z7, V.ref z8, V.ref z9, V.ref y1, V.ref y2, V.ref y4]))
    generalize upd HB c1 (.lst ([V.non, V.int 5, V.str "median", V.ref z1, V.ref z2, V.ref z3, V.ref z4, V.ref z5, V.ref z6] ++ [V.ref z7, V.ref z8, V.ref z9, V.ref y1, V.ref y2, V.ref y4])) = HC at sc1 fc1 ⊢
    refine ⟨_, rfl, ?_⟩
    refine ⟨by show 2 ≤ sizeLine; decide, fun y5 hy5 => ?_⟩
    refine ⟨by show 2 ≤ sizeLine; decide, fun y6 hy6 => ?_⟩
    refine ⟨by show 1 ≤ sizeLine; decide, fun y7 hy7 => ?_⟩
    refine ⟨by show 2 ≤ sizeLine; decide, fun y8 hy8 => ?_⟩
    refine ⟨by show 3 ≤ sizeLine; decide, fun pc hpc => ?_⟩
    have ce0 := same_new (o := .tup [V.str "bottom", V.int 1]) hy5
    have ce1 := same_new (o := .tup [V.int 1, V.str "top"]) hy6
    have ce2 := same_new (o := .lst [V.int 1]) hy7
    have ce3 := same_new (o := .tup [V.str "top", V.ref y7]) hy8
    have ce4 := same_new (o := .lst [V.ref y5, V.ref y6, V.ref y8]) hpc
    have cf0 := (ce4 _ _ (ce3 _ _ (ce2 _ _ (ce1 _ _ (upd_same (H := HC) (a := y5) (o := .tup [V.str "bottom", V.int 1]))))))
    have cf1 := (ce4 _ _ (ce3 _ _ (ce2 _ _ (upd_same (H := (upd HC y5 (.tup [V.str "bottom", V.int 1]))) (a := y6) (o := .tup [V.int 1, V.str "top"])))))
    have cf2 := (ce4 _ _ (ce3 _ _ (upd_same (H := (upd (upd HC y5 (.tup [V.str "bottom", V.int 1])) y6 (.tup [V.int 1, V.str "top"]))) (a := y7) (o := .lst [V.int 1]))))
    have cf3 := (ce4 _ _ (upd_same (H := (upd (upd (upd HC y5 (.tup [V.str "bottom", V.int 1])) y6 (.tup [V.int 1, V.str "top"])) y7 (.lst [V.int 1]))) (a := y8) (o := .tup [V.str "top", V.ref y7])))
    have cf4 := (upd_same (H := (upd (upd (upd (upd HC y5 (.tup [V.str "bottom", V.int 1])) y6 (.tup [V.int 1, V.str "top"])) y7 (.lst [V.int 1])) y8 (.tup [V.str "top", V.ref y7]))) (a := pc) (o := .lst [V.ref y5, V.ref y6, V.ref y8]))
    have cs := ((((ce0.trans ce1).trans ce2).trans ce3).trans ce4)
    generalize upd (upd (upd (upd (upd HC y5 (.tup [V.str "bottom", V.int 1])) y6 (.tup [V.int 1, V.str "top"])) y7 (.lst [V.int 1])) y8 (.tup [V.str "top", V.ref y7])) pc (.lst [V.ref y5, V.ref y6, V.ref y8]) = HD at cs cf0 cf1 cf2 cf3 cf4 ⊢
    clear ce0 ce1 ce2 ce3 ce4
    refine ⟨c1, pc, _, _, rfl, rfl, cs _ _ fc1, cf4, by show 18 ≤ sizeLine; decide, fun c2 hc2 => ?_⟩
    have sc2 := same_new (o := .lst (([V.non, V.int 5, V.str "median", V.ref z1, V.ref z2, V.ref z3, V.ref z4, V.ref z5, V.ref z6] ++ [V.ref z7, V.ref z8, V.ref z9, V.ref y1, V.ref y2, V.ref y4]) ++ [V.ref y5, V.ref y6, V.ref y8])) hc2
    have fc2 := upd_same (H := HD) (a := c2) (o := .lst (([V.non, V.int 5, V.str "median", V.ref z1, V.ref z2, V.ref z3, V.ref z4, V.ref z5, V.ref z6] ++ [V.ref z7, V.ref z8, V.ref z9, V.ref y1, V.ref y2, V.ref y4]) ++ [V.ref y5, V.ref y6, V.ref y8]))
    generalize upd HD c2 (.lst (([V.non, V.int 5, V.str "median", V.ref z1, V.ref z2, V.ref z3, V.ref z4, V.ref z5, V.ref z6] ++ [V.ref z7, V.ref z8, V.ref z9, V.ref y1, V.ref y2, V.ref y4]) ++ [V.ref y5, V.ref y6, V.ref y8])) = HE at sc2 fc2 ⊢
    have sCE := cs.trans sc2
    have sBE := sc1.trans sCE
    have sAE := bs.trans sBE
    have s3E := as.trans sAE
    have ag0 := sAE _ _ af0
    have ag1 := sAE _ _ af1
    have ag2 := sAE _ _ af2
    have ag3 := sAE _ _ af3
    have ag4 := sAE _ _ af4
    have ag5 := sAE _ _ af5
    have bg0 := sBE _ _ bf0
    have bg1 := sBE _ _ bf1
    have bg2 := sBE _ _ bf2
    have bg3 := sBE _ _ bf3
    have bg4 := sBE _ _ bf4
    have bg5 := sBE _ _ bf5
    have bg6 := sBE _ _ bf6
    have cg0 := sc2 _ _ cf0
    have cg1 := sc2 _ _ cf1
    have cg2 := sc2 _ _ cf2
    have cg3 := sc2 _ _ cf3
    have odds : ∀ x ∈ (([V.non, V.int 5, V.str "median", V.ref z1, V.ref z2, V.ref z3, V.ref z4, V.ref z5, V.ref z6] ++ [V.ref z7, V.ref z8, V.ref z9, V.ref y1, V.ref y2, V.ref y4]) ++ [V.ref y5, V.ref y6, V.ref y8] : List V), ∃ d, Odv K HE x d ∧ BadSt K HE x := by
      intro x hx
      simp only [List.cons_append, List.nil_append, List.mem_cons, List.not_mem_nil, or_false] at hx
      rcases hx with rfl | rfl | rfl | rfl | rfl | rfl | rfl | rfl | rfl | rfl | rfl | rfl | rfl | rfl | rfl | rfl | rfl | rfl
      · exact ⟨_, odv_non, .inl ⟨_, .non, by decide +kernel, by decide⟩⟩
      · exact ⟨_, odv_int (by decide), .inl ⟨_, .int _, by decide +kernel, by decide⟩⟩
      · exact ⟨_, odv_str "median" (by decide +kernel) (by decide +kernel) (by decide +kernel), .inl ⟨_, .str _, by decide +kernel, by decide⟩⟩
      · exact ⟨.tuple [.str "median", .int 1], ⟨⟨"tuple", .tup (SqT.of ag0), by decide +kernel⟩, ⟨by decide +kernel, by decide +kernel, by decide +kernel⟩, .inl ⟨(.tup (SqT.of ag0) (.cons (.str _) (.cons (.int _) .nil))), rfl⟩, by decide +kernel⟩, .inr ⟨z1, V.str "median", [V.int 1], rfl, SqT.of ag0, kv_str _, (fun o ho => by simp only [List.mem_cons, List.not_mem_nil, or_false] at ho; rcases ho with rfl; exact kv_int _), by simp, by decide +kernel⟩⟩
      · exact ⟨.list [.str "median"], ⟨⟨"list", .lst (SqL.of ag1), by decide +kernel⟩, ⟨by decide +kernel, by decide +kernel, by decide +kernel⟩, .inl ⟨(.lst (SqL.of ag1) (.cons (.str _) .nil)), rfl⟩, by decide +kernel⟩, .inl ⟨"list", .lst (SqL.of ag1), by decide +kernel, by decide⟩⟩
      · exact ⟨.tuple [.str "top"], ⟨⟨"tuple", .tup (SqT.of ag2), by decide +kernel⟩, ⟨by decide +kernel, by decide +kernel, by decide +kernel⟩, .inl ⟨(.tup (SqT.of ag2) (.cons (.str _) .nil)), rfl⟩, by decide +kernel⟩, .inr ⟨z3, V.str "top", [], rfl, SqT.of ag2, kv_str _, (fun o ho => by cases ho), by simp, by decide +kernel⟩⟩
      · exact ⟨.tuple [.str "top", .int 0], ⟨⟨"tuple", .tup (SqT.of ag3), by decide +kernel⟩, ⟨by decide +kernel, by decide +kernel, by decide +kernel⟩, .inl ⟨(.tup (SqT.of ag3) (.cons (.str _) (.cons (.int _) .nil))), rfl⟩, by decide +kernel⟩, .inr ⟨z4, V.str "top", [V.int 0], rfl, SqT.of ag3, kv_str _, (fun o ho => by simp only [List.mem_cons, List.not_mem_nil, or_false] at ho; rcases ho with rfl; exact kv_int _), by simp, by decide +kernel⟩⟩
      · exact ⟨.tuple [.str "top", .int (-1)], ⟨⟨"tuple", .tup (SqT.of ag4), by decide +kernel⟩, ⟨by decide +kernel, by decide +kernel, by decide +kernel⟩, .inl ⟨(.tup (SqT.of ag4) (.cons (.str _) (.cons (.int _) .nil))), rfl⟩, by decide +kernel⟩, .inr ⟨z5, V.str "top", [V.int (-1)], rfl, SqT.of ag4, kv_str _, (fun o ho => by simp only [List.mem_cons, List.not_mem_nil, or_false] at ho; rcases ho with rfl; exact kv_int _), by simp, by decide +kernel⟩⟩
      · exact ⟨.tuple [.str "top", .bool true], ⟨⟨"tuple", .tup (SqT.of ag5), by decide +kernel⟩, ⟨by decide +kernel, by decide +kernel, by decide +kernel⟩, .inl ⟨(.tup (SqT.of ag5) (.cons (.str _) (.cons (.bl _) .nil))), rfl⟩, by decide +kernel⟩, .inr ⟨z6, V.str "top", [V.bl true], rfl, SqT.of ag5, kv_str _, (fun o ho => by simp only [List.mem_cons, List.not_mem_nil, or_false] at ho; rcases ho with rfl; exact ⟨"bool", .bl _, by decide +kernel⟩), by simp, by decide +kernel⟩⟩
      · exact ⟨.tuple [.str "top", .str "1"], ⟨⟨"tuple", .tup (SqT.of bg0), by decide +kernel⟩, ⟨by decide +kernel, by decide +kernel, by decide +kernel⟩, .inl ⟨(.tup (SqT.of bg0) (.cons (.str _) (.cons (.str _) .nil))), rfl⟩, by decide +kernel⟩, .inr ⟨z7, V.str "top", [V.str "1"], rfl, SqT.of bg0, kv_str _, (fun o ho => by simp only [List.mem_cons, List.not_mem_nil, or_false] at ho; rcases ho with rfl; exact kv_str _), by simp, by decide +kernel⟩⟩
      · exact ⟨.tuple [.str "remove", .int 0], ⟨⟨"tuple", .tup (SqT.of bg1), by decide +kernel⟩, ⟨by decide +kernel, by decide +kernel, by decide +kernel⟩, .inl ⟨(.tup (SqT.of bg1) (.cons (.str _) (.cons (.int _) .nil))), rfl⟩, by decide +kernel⟩, .inr ⟨z8, V.str "remove", [V.int 0], rfl, SqT.of bg1, kv_str _, (fun o ho => by simp only [List.mem_cons, List.not_mem_nil, or_false] at ho; rcases ho with rfl; exact kv_int _), by simp, by decide +kernel⟩⟩
      · exact ⟨.tuple [.str "insert", .none], ⟨⟨"tuple", .tup (SqT.of bg2), by decide +kernel⟩, ⟨by decide +kernel, by decide +kernel, by decide +kernel⟩, .inl ⟨(.tup (SqT.of bg2) (.cons (.str _) (.cons .non .nil))), rfl⟩, by decide +kernel⟩, .inr ⟨z9, V.str "insert", [V.non], rfl, SqT.of bg2, kv_str _, (fun o ho => by simp only [List.mem_cons, List.not_mem_nil, or_false] at ho; rcases ho with rfl; exact ⟨"NoneType", .non, by decide +kernel⟩), by simp, by decide +kernel⟩⟩
      · exact ⟨.tuple [.str "Top", .int 1], ⟨⟨"tuple", .tup (SqT.of bg3), by decide +kernel⟩, ⟨by decide +kernel, by decide +kernel, by decide +kernel⟩, .inl ⟨(.tup (SqT.of bg3) (.cons (.str _) (.cons (.int _) .nil))), rfl⟩, by decide +kernel⟩, .inr ⟨y1, V.str "Top", [V.int 1], rfl, SqT.of bg3, kv_str _, (fun o ho => by simp only [List.mem_cons, List.not_mem_nil, or_false] at ho; rcases ho with rfl; exact kv_int _), by simp, by decide +kernel⟩⟩
      · exact ⟨.tuple [.str "top", .int 1, .int 2], ⟨⟨"tuple", .tup (SqT.of bg4), by decide +kernel⟩, ⟨by decide +kernel, by decide +kernel, by decide +kernel⟩, .inl ⟨(.tup (SqT.of bg4) (.cons (.str _) (.cons (.int _) (.cons (.int _) .nil)))), rfl⟩, by decide +kernel⟩, .inr ⟨y2, V.str "top", [V.int 1, V.int 2], rfl, SqT.of bg4, kv_str _, (fun o ho => by simp only [List.mem_cons, List.not_mem_nil, or_false] at ho; rcases ho with rfl | rfl <;> exact kv_int _), by simp, by decide +kernel⟩⟩
      · exact ⟨.list [.tuple [.str "top", .int 1]], ⟨⟨"list", .lst (SqL.of bg6), by decide +kernel⟩, ⟨by decide +kernel, by decide +kernel, by decide +kernel⟩, .inl ⟨(.lst (SqL.of bg6) (.cons (.tup (SqT.of bg5) (.cons (.str _) (.cons (.int _) .nil))) .nil)), rfl⟩, by decide +kernel⟩, .inl ⟨"list", .lst (SqL.of bg6), by decide +kernel, by decide⟩⟩
      · exact ⟨.tuple [.str "bottom", .int 1], ⟨⟨"tuple", .tup (SqT.of cg0), by decide +kernel⟩, ⟨by decide +kernel, by decide +kernel, by decide +kernel⟩, .inl ⟨(.tup (SqT.of cg0) (.cons (.str _) (.cons (.int _) .nil))), rfl⟩, by decide +kernel⟩, .inr ⟨y5, V.str "bottom", [V.int 1], rfl, SqT.of cg0, kv_str _, (fun o ho => by simp only [List.mem_cons, List.not_mem_nil, or_false] at ho; rcases ho with rfl; exact kv_int _), by simp, by decide +kernel⟩⟩
      · exact ⟨.tuple [.int 1, .str "top"], ⟨⟨"tuple", .tup (SqT.of cg1), by decide +kernel⟩, ⟨by decide +kernel, by decide +kernel, by decide +kernel⟩, .inl ⟨(.tup (SqT.of cg1) (.cons (.int _) (.cons (.str _) .nil))), rfl⟩, by decide +kernel⟩, .inr ⟨y6, V.int 1, [V.str "top"], rfl, SqT.of cg1, kv_int _, (fun o ho => by simp only [List.mem_cons, List.not_mem_nil, or_false] at ho; rcases ho with rfl; exact kv_str _), by simp, by decide +kernel⟩⟩
      · exact ⟨.tuple [.str "top", .list [.int 1]], ⟨⟨"tuple", .tup (SqT.of cg3), by decide +kernel⟩, ⟨by decide +kernel, by decide +kernel, by decide +kernel⟩, .inl ⟨(.tup (SqT.of cg3) (.cons (.str _) (.cons (.lst (SqL.of cg2) (.cons (.int _) .nil)) .nil))), rfl⟩, by decide +kernel⟩, .inr ⟨y8, V.str "top", [V.ref y7], rfl, SqT.of cg3, kv_str _, (fun o ho => by simp only [List.mem_cons, List.not_mem_nil, or_false] at ho; rcases ho with rfl; exact ⟨"list", .lst (SqL.of cg2), by decide +kernel⟩), by simp, by simp [anyV, stpV, isI, rnkV]⟩⟩
    have lE := s3E _ _ hl3
    have hTE := tss_same hT3 s3E
    have hpE := pool_same hp3 s3E
    have b0E := b03.trans (but_same s3E)
    generalize (([V.non, V.int 5, V.str "median", V.ref z1, V.ref z2, V.ref z3, V.ref z4, V.ref z5, V.ref z6] ++ [V.ref z7, V.ref z8, V.ref z9, V.ref y1, V.ref y2, V.ref y4]) ++ [V.ref y5, V.ref y6, V.ref y8] : List V) = os at fc2 odds
    have lt := List.length_take (i := j) (l := xs)
    have ld := List.length_drop (i := j) (l := xs)
    refine ⟨c2, rfl, ⟨_, SqL.of fc2⟩, for_list (K := K) (a := c2) (xs := os) (fun _ σ H' => ∃ o2, σ = [some (.ref p), some (.ref l), o2, some (.int (j : Int)), some (.ref c1)] ∧ Same HE H') ⟨_, rfl, Same.refl _⟩ (fun _ σ H' _ ⟨_, _, s⟩ => s.seq (SqL.of fc2)) ?_ ?_⟩
    · rintro i x σ Hx hx ⟨o2, rfl, sx⟩
      obtain ⟨d, od0, bd0⟩ := odds x (List.mem_of_getElem? hx)
      have lEx := sx _ _ lE
      refine ⟨_, rfl, _, rfl, _, rfl, l, _, rfl, SqL.of lEx, fun d1 hd1 => ?_⟩
      rw [XT.cut_to]
      have q1 := same_new (o := .lst (xs.take j)) hd1
      refine ⟨_, rfl, by show 1 ≤ sizeLine; decide, fun d2 hd2 => ?_⟩
      have q2 := same_new (o := .lst [x]) hd2
      refine ⟨d1, d2, _, _, rfl, rfl, q2 _ _ upd_same, upd_same, Nat.le_trans (show (xs.take j).length + 1 ≤ 100000 by omega) line_ge, fun d3 hd3 => ?_⟩
      have q3 := same_new (o := .lst (xs.take j ++ [x])) hd3
      have q13 := (q1.trans q2).trans q3
      refine ⟨_, rfl, _, rfl, _, rfl, l, _, rfl, SqL.of (q13 _ _ lEx), fun d4 hd4 => ?_⟩
      rw [XT.cut_from]
      have q4 := same_new (o := .lst (xs.drop j)) hd4
      refine ⟨d3, d4, _, _, rfl, rfl, q4 _ _ upd_same, upd_same, Nat.le_trans (show (xs.take j ++ [x]).length + (xs.drop j).length ≤ 100000 by rw [List.length_append, List.length_singleton]; omega) line_ge, fun d5 hd5 => ?_⟩
      have q5 := same_new (o := .lst (xs.take j ++ [x] ++ xs.drop j)) hd5
      refine ⟨by show 1 ≤ sizeLine; decide, fun d6 hd6 => ?_⟩
      have q6 := same_new (o := .lst [V.non]) hd6
      have lW : (xs.take j ++ [x] ++ xs.drop j).length + [V.non].length ≤ 1000 := by rw [List.length_append, List.length_append, List.length_singleton, List.length_singleton]; omega
      refine ⟨d5, d6, _, _, rfl, rfl, q6 _ _ upd_same, upd_same, Nat.le_trans (Nat.le_trans lW (show 1000 ≤ 100000 by decide)) line_ge, fun d7 hd7 => ?_⟩
      have q7 := same_new (o := .lst (xs.take j ++ [x] ++ xs.drop j ++ [V.non])) hd7
      have qa := (((q13.trans q4).trans q5).trans q6).trans q7
      have lj : (xs.take j).length = j := by omega
      have eW : (xs.take j ++ [x] ++ xs.drop j ++ [V.non])[j]? = some x := by
        rw [List.append_assoc, List.append_assoc, List.getElem?_append_right (by omega), lj, Nat.sub_self]
        rfl
      have od := od0.same (sx.trans qa)
      refine ⟨.int 0, .ref d7, rfl, .inr (.inr (.inr ⟨0, d7, xs.take j ++ [x] ++ xs.drop j ++ [V.non], j, x, d, rfl, rfl, by decide, SqL.of upd_same, by rw [List.length_append]; exact lW, eW, bd0.same (sx.trans qa), fun i hi => ?_, od, fun t HB sB htB => ?_⟩))⟩
      · have hix : i < xs.length := by omega
        have hx2 : xs[i]? = some xs[i] := by simp [hix]
        obtain ⟨s, hs, ht⟩ := pd_get hTE hx2
        refine ⟨_, s, ?_, ht.same (sx.trans qa), hgd s (List.mem_of_getElem? hs)⟩
        rw [List.append_assoc, List.append_assoc, List.getElem?_append_left (by omega), List.getElem?_take_of_lt hi]
        exact hx2
      refine ⟨_, rfl, x, d, rfl, rd_same sB od.rd, od.od.pl, od.od.dp, od.od.sz, by show 3 ≤ sizeLine; decide, fun t2 ht2 => ?_⟩
      have okd := ok_shown d od.tx
      refine ⟨_, _, dp_tld ((same_new ht2) _ _ htB), dp_tld upd_same, sh_tld (by decide +kernel) okd true, sh_tld (by decide +kernel) okd true, _, rfl, iteN tld_eq ?_⟩
      exact ⟨_, rfl, ((sx.trans qa).trans sB).trans (same_new ht2)⟩
    · rintro σ Hx ⟨o2, rfl, sx⟩
      exact k _ (b0E.trans (but_same sx)) (pool_same hpE sx)
end
end K41
namespace K41
open PySem L2 XT
section
variable {P : Program} {w : World} {K : PySem.W.Frag} {mg : Str → Option Value} {base : Heap} {a : Ads}
local macro_rules | `(tactic| walk_at "rside") => `(tactic| first | (show (0 : Int) < _; first | decide | omega) | (exact ⟨by first | decide | omega, by first | decide | omega⟩) | (exact Or.inl ⟨by omega, by omega⟩) | (exact Or.inr ⟨by omega, by omega⟩) | (exact ⟨by decide, by decide, by decide⟩))
local macro_rules | `(tactic| walk_at "rd1") => `(tactic| first | (refine ⟨_, rfl, ?_⟩) | (refine ⟨_, _, rfl, rfl, (by walk_at "rside"), ?_⟩) | (refine ⟨_, _, rfl, rfl, ?_⟩))
local macro_rules | `(tactic| walk_at "rd") => `(tactic| repeat (walk_at "rd1"))

theorem sc_sts : ∀ L : List Stp, scAll (L.map stD) ≤ 3000 * L.length
  | [] => Nat.zero_le _
  | s :: L => by
    have h := sc_sts L
    have hw : sc (stD s) ≤ 2900 := by
      obtain ⟨b, k⟩ := s
      cases b <;> simp [stD, sc, scAll] <;> decide +kernel
    show sc (stD s) + 2 + scAll (L.map stD) ≤ 3000 * (L.length + 1)
    omega
theorem pl_sts : ∀ L : List Stp, (∀ s ∈ L, s.2.natAbs.log2 < 1920) → plainAll (L.map stD) = true
  | [], _ => rfl
  | s :: L, h => by
    have h1 := h s (by simp)
    have h2 := pl_sts L fun t ht => h t (List.mem_cons_of_mem _ ht)
    show (plainD (stD s) && plainAll (L.map stD)) = true
    rw [h2, Bool.and_true]
    obtain ⟨b, k⟩ := s
    have e : plainD (.str (wrd b)) = true := by cases b <;> decide +kernel
    simp only [stD, plainD, plainAll, Bool.and_true]
    simp only [plainD] at e
    rw [e, Bool.true_and]
    exact decide_eq_true h1
def outD : List Stp ⊕ Nat → PyData
  | .inl R => .tuple (R.map stD)
  | .inr i => .tuple [.str "failed", .int (i : Int)]
theorem log_big {i : Int} (h : i.natAbs < 2 ^ 400) : i.natAbs.log2 < 1920 := by
  by_cases z : i.natAbs = 0
  · rw [z]; decide
  · exact (Nat.log2_lt z).mpr (Nat.lt_of_lt_of_le h (Nat.pow_le_pow_right (by decide) (by decide)))
theorem okd_out {o : List Stp ⊕ Nat} (h1 : ∀ R, o = .inl R → R.length ≤ 100 ∧ ∀ s ∈ R, s.2.natAbs < 2 ^ 400) (h2 : ∀ i : Nat, o = .inr i → i ≤ 100) : Okd (outD o) := by
  cases o with
  | inl R =>
    obtain ⟨hl, hb⟩ := h1 R rfl
    have hs := sc_sts R
    have hd := depth_sts R
    refine ⟨?_, ?_, ?_⟩
    · show plainAll _ = true
      exact pl_sts R fun s hs => log_big (hb s hs)
    · simp [outD, PyData.depth]
      omega
    · show scAll _ + 3 ≤ _
      omega
  | inr i =>
    have hi := h2 i rfl
    have e : ((i : Int)).natAbs.log2 < 1920 := log_big (Nat.lt_of_le_of_lt (show ((i : Int)).natAbs ≤ 100 by omega) (by decide +kernel))
    refine ⟨?_, ?_, ?_⟩
    · have e2 : plainD (.str ("failed" : Str)) = true := by decide +kernel
      simp only [outD, plainD, plainAll, Bool.and_true]
      simp only [plainD] at e2
      rw [e2, Bool.true_and]
      exact decide_eq_true e
    · simp [outD, PyData.depth, PyData.depthAll]
    · have e3 : sc (.str ("failed" : Str)) ≤ 100 := by decide +kernel
      simp only [outD, sc, scAll] at e3 ⊢
      omega
theorem rd_out {H : Hp} {t : Addr} {o : List Stp ⊕ Nat} (h1 : ∀ R, o = .inl R → ∃ ys, SqT K H t ys ∧ StsAt K H ys R) (h2 : ∀ i : Nat, o = .inr i → SqT K H t [.str "failed", .int (i : Int)]) : Rd K H (.ref t) (outD o) := by
  cases o with
  | inl R =>
    obtain ⟨ys, a, b⟩ := h1 R rfl
    exact .inl ⟨dp_stsT a b, by simp [outD, PyData.hasDict, PyData.hasDictAll_of_canLayAll _ (canLay_sts R)]⟩
  | inr i => exact .inl ⟨.tup (h2 i rfl) (.cons (.str _) (.cons (.int _) .nil)), rfl⟩
theorem outc_len : ∀ {S : List Top.TS} {n : Int} {k : Nat}, (∀ R, Top.outc n S k = .inl R → R.length = S.length) ∧ (∀ i, Top.outc n S k = .inr i → i < k + S.length)
  | [], n, k => ⟨fun R h => (by cases h; rfl), fun i h => (by cases h)⟩
  | s :: S, n, k => by
    have ih := outc_len (S := S) (n := Top.nxt n (Top.ord n s)) (k := k + 1)
    by_cases c : Top.okO n (Top.ord n s) = true
    · have e : Top.outc n (s :: S) k = Top.pre1 (Top.ord n s) (Top.outc (Top.nxt n (Top.ord n s)) S (k + 1)) := by
        show (if _ then _ else _) = _
        rw [if_pos c]
      rw [e]
      cases o : Top.outc (Top.nxt n (Top.ord n s)) S (k + 1) with
      | inl R =>
        refine ⟨fun R' h => ?_, fun i h => (by cases h)⟩
        cases h
        rw [List.length_cons, List.length_cons, ih.1 R o]
      | inr j =>
        refine ⟨fun R' h => (by cases h), fun i h => ?_⟩
        cases h
        have := ih.2 j o
        rw [List.length_cons]
        omega
    · have e : Top.outc n (s :: S) k = .inr k := by
        show (if _ then _ else _) = _
        rw [if_neg c]
      rw [e]
      refine ⟨fun R' h => (by cases h), fun i h => ?_⟩
      cases h
      rw [List.length_cons]
      omega
theorem outc_bnd {B : Int} : ∀ {S : List Top.TS} {n : Int} {k : Nat} {R : List Stp}, Top.outc n S k = .inl R → n + S.length ≤ B → 0 ≤ B → (∀ s ∈ S, tbB B s) → ∀ s ∈ R, -B ≤ s.2 ∧ s.2 ≤ B
  | [], n, k, R, h, _, _, _ => by cases h; intro s hs; cases hs
  | t :: S, n, k, R, h, hn, hB, hb => by
    rw [List.length_cons] at hn
    by_cases c : Top.okO n (Top.ord n t) = true
    · have e : Top.outc n (t :: S) k = Top.pre1 (Top.ord n t) (Top.outc (Top.nxt n (Top.ord n t)) S (k + 1)) := by
        show (if _ then _ else _) = _
        rw [if_pos c]
      rw [e] at h
      cases o : Top.outc (Top.nxt n (Top.ord n t)) S (k + 1) with
      | inr j => rw [o] at h; cases h
      | inl R' =>
        rw [o] at h
        cases h
        have hx : Top.nxt n (Top.ord n t) ≤ n + 1 := by unfold Top.nxt; split <;> omega
        have ih := outc_bnd o (by omega) hB fun s hs => hb s (List.mem_cons_of_mem _ hs)
        intro s hs
        rcases List.mem_cons.mp hs with rfl | hs
        · have ht := hb t (by simp)
          cases t with
          | ins x => exact ht
          | rem j => have c' : 1 ≤ j ∧ j ≤ n := of_decide_eq_true ((okF n _).symm.trans c); show -B ≤ j ∧ j ≤ B; omega
          | top j => have c' : 1 ≤ n + 1 - j ∧ n + 1 - j ≤ n := of_decide_eq_true ((okF n _).symm.trans c); show -B ≤ n + 1 - j ∧ n + 1 - j ≤ B; omega
          | med => have c' : 1 ≤ (n + 1) / 2 ∧ (n + 1) / 2 ≤ n := of_decide_eq_true ((okF n _).symm.trans c); show -B ≤ (n + 1) / 2 ∧ (n + 1) / 2 ≤ B; omega
        · exact ih s hs
    · have e : Top.outc n (t :: S) k = .inr k := by
        show (if _ then _ else _) = _
        rw [if_neg c]
      rw [e] at h
      cases h
theorem okd_outc {B n : Int} {S : List Top.TS} (hS : S.length ≤ 50) (hn : n + S.length ≤ B) (h0 : 0 ≤ B) (hb : ∀ s ∈ S, tbB B s) (hB : B.natAbs < 2 ^ 400) : Okd (outD (Top.outc n S 0)) := by
  refine okd_out (fun R e => ⟨by rw [outc_len.1 R e]; omega, fun s hs => ?_⟩) (fun i e => ?_)
  · have := outc_bnd e hn h0 hb s hs
    omega
  · have := outc_len.2 i e
    omega
theorem pick_three {c0 c1 c2 r : Int} (h0 : 0 ≤ r) (h1 : r < 3) : ∃ z, atI ([V.int c0, V.int c1, V.int c2] : List V) r = some (.int z) ∧ (z = c0 ∨ z = c1 ∨ z = c2) := by
  have : r = 0 ∨ r = 1 ∨ r = 2 := by omega
  rcases this with rfl | rfl | rfl
  · exact ⟨_, rfl, .inl rfl⟩
  · exact ⟨_, rfl, .inr (.inl rfl)⟩
  · exact ⟨_, rfl, .inr (.inr rfl)⟩
def spGR (K : PySem.W.Frag) : Sp := fun vs H Q _ => ∃ (p : Addr), vs = [.ref p] ∧ PoolAt H p ∧ ∀ H', But p H H' → PoolAt H' p → Q (.bl true) H'
theorem ok_law_check_great (T : Txt K mg a) : FnG P w K mg base CX0 12 a.law_check_great (spGR K) := by
  obtain ⟨fd, F⟩ := T.F_law_check_great
  have G_law_take := ok_law_take (P := P) (w := w) (base := base) T
  have G_law_due := ok_law_due (P := P) (w := w) (base := base) T
  have G_law_told := ok_law_told (P := P) (w := w) (base := base) T
  refine XT.okGX F sc_law_check_great bn_law_check_great (fun vs H Q E h => ?_) (fun cdv A outer s H vs Q E hg hr h => ?_)
  · obtain ⟨p, rfl, _⟩ := h
    rfl
  · obtain ⟨p, rfl, hp, k⟩ := h
    refine ⟨_, PSs.nox ((pss_cons (ps_set (i := 1) sc_law_check_great.nd rfl (Or.inl rfl) (pe_op op_add (pe_ix (ixLK K) (pe_lst (pa_cons (pe_op op_pow pe_int pe_int) (pa_cons (pe_op op_pow pe_int pe_int) (pa_cons (pe_op op_mulW (pe_op op_pow pe_int pe_int) (pe_op op_pow pe_int pe_int)) pa_nil)))) (pe_callR G_law_take (hr.mono (by decide)) rfl T.g_law_take T.k_law_take pass0 (pa_cons (pv 0) (pa_cons pe_int pa_nil))) (fun _ _ => rfl)) (pe_callR G_law_take (hr.mono (by decide)) rfl T.g_law_take T.k_law_take pass0 (pa_cons (pv 0) (pa_cons pe_int pa_nil)))))
      (pss_cons (ps_par (i := 2) (j := 3) (by rfl) sc_law_check_great.nd rfl rfl (by decide) rfl rfl (pa_cons (pe_lst (pa_cons pe_int (pa_cons pe_int (pa_cons (pe_op op_fdiv (pv 1) pe_int) (pa_cons (pe_op op_add (pe_op op_fdiv (pv 1) pe_int) pe_int) (pa_cons (pe_op op_sub (pv 1) pe_int) (pa_cons (pv 1) (pa_cons (pe_op op_add (pv 1) pe_int) (pa_cons (pe_op op_add (pv 1) pe_int) pa_nil))))))))) (pa_cons (pe_lst pa_nil) pa_nil)) (by rfl))
      (pss_cons (ps_for PassesOwn.never rfl (pi_rng1 (by rfl) T.b_range (pa_cons pe_int pa_nil)) (pg_name (i := 4) sc_law_check_great.nd rfl (Or.inl rfl))
        (pss_cons (ps_par (i := 5) (j := 6) (by rfl) sc_law_check_great.nd rfl rfl (by decide) rfl rfl (pa_cons (pe_callR G_law_take (hr.mono (by decide)) rfl T.g_law_take T.k_law_take pass0 (pa_cons (pv 0) (pa_cons pe_int pa_nil))) (pa_cons (pe_ix (ixLK K) (pv 2) (pe_callR G_law_take (hr.mono (by decide)) rfl T.g_law_take T.k_law_take pass0 (pa_cons (pv 0) (pa_cons pe_int pa_nil))) (fun _ _ => rfl)) pa_nil)) (by rfl))
      (pss_one (ps_expr (bmK K (pe_bm PySem.F.plainAttrs_list PySem.F.slot_list_append PySem.F.type_list_append mt_append (pv 3) (pa_cons (pe_ix (ixLK K) (pe_lst (pa_cons (pe_tup (pa_cons pe_str (pa_cons (pv 6) pa_nil))) (pa_cons (pe_tup (pa_cons pe_str (pa_cons (pv 6) pa_nil))) (pa_cons (pe_tup (pa_cons pe_str pa_nil)) (pa_cons (pe_tup (pa_cons pe_str (pa_cons (pv 6) pa_nil))) (pa_cons (pe_tup (pa_cons pe_str (pa_cons (pv 6) pa_nil))) pa_nil)))))) (pv 5) (fun _ _ => rfl)) pa_nil)))))))
      (pss_cons (ps_set (i := 7) sc_law_check_great.nd rfl (Or.inl rfl) (pe_callB (reprKx K hg hr.units) (by rfl) T.b_repr (by decide +kernel) (pa_cons (pe_callR G_law_due (hr.mono (by decide)) rfl T.g_law_due T.k_law_due pass0 (pa_cons (pv 1) (pa_cons (pv 3) pa_nil))) pa_nil)))
      (pss_cons (ps_if (PW.pt (pw_or (pt_cmpR op_ne (pe_callB (reprKx K hg hr.units) (by rfl) T.b_repr (by decide +kernel) (pa_cons (pe_callG G_law_told hg (hr.mono (by decide)) rfl T.g_law_told T.k_law_told pass0 (pa_cons (pv 1) (pa_cons (pv 3) pa_nil))) pa_nil)) (pv 7) (nomark _)) (pw_or1 (pt_cmpR op_ne (pe_callB (reprKx K hg hr.units) (by rfl) T.b_repr (by decide +kernel) (pa_cons (pe_callG G_law_told hg (hr.mono (by decide)) rfl T.g_law_told T.k_law_told pass0 (pa_cons (pv 1) (pa_cons (pe_callTy (tupleK K) (by rfl) T.b_tuple (by decide +kernel) (pa_cons (pv 3) pa_nil)) pa_nil))) pa_nil)) (pv 7) (nomark _))))) (pss_one (ps_ret pe_bl)) pss_nil)
      (pss_one (ps_ret (pe_cmpR (eqDK K hr.units) (pe_callG G_law_told hg (hr.mono (by decide)) rfl T.g_law_told T.k_law_told pass0 (pa_cons (pv 1) (pa_cons (pe_lst (pa_cons (pe_tup (pa_cons pe_str pa_nil)) (pa_cons (pe_tup (pa_cons pe_str pa_nil)) pa_nil))) pa_nil))) (pe_tup (pa_cons (pe_tup (pa_cons pe_str (pa_cons (pe_op op_fdiv (pe_op op_add (pv 1) pe_int) pe_int) pa_nil))) (pa_cons (pe_tup (pa_cons pe_str (pa_cons (pe_op op_fdiv (pv 1) pe_int) pa_nil))) pa_nil))) (nomark _)))))))))), ?_⟩
    refine ⟨_, _, rfl, rfl, ⟨by decide, by decide, by decide⟩, _, _, rfl, rfl, ⟨by decide, by decide, by decide⟩, _, _, rfl, rfl, ⟨by decide, by decide, by decide⟩, ?_⟩
    refine ⟨_, _, rfl, rfl, ⟨by decide, by decide, by decide⟩, ?_⟩
    refine ⟨_, _, rfl, rfl, (by unfold CMulW; decide +kernel), by show 3 ≤ sizeLine; decide, fun ls hls => ?_⟩
    have hp1 := pool_same hp (same_new (o := .lst [V.int (10 ^ (20 : Int).toNat), V.int (10 ^ (45 : Int).toNat), V.int (10 ^ (45 : Int).toNat * 10 ^ (45 : Int).toNat)]) hls)
    have nls := pool_ne hp hls
    refine ⟨_, rfl, p, 3, rfl, hp1, by decide, by decide, fun r H1 r0 r1 b1 hp2 => ?_⟩
    obtain ⟨z, ez, hz⟩ := pick_three (c0 := 10 ^ (20 : Int).toNat) (c1 := 10 ^ (45 : Int).toNat) (c2 := 10 ^ (45 : Int).toNat * 10 ^ (45 : Int).toNat) r0 r1
    refine ⟨ls, _, r, .int z, rfl, rfl, SqL.of (but_lst upd_same nls b1), ez, ?_⟩
    refine ⟨_, rfl, p, 99, rfl, hp2, by decide, by decide, fun r2 H2 r20 r21 b2 hp3 => ⟨_, _, rfl, rfl, ?_⟩⟩
    have b02 := ((but_same (p := p) (same_new hls)).trans b1).trans b2
    have hz0 : 1000 ≤ z := by
      rcases hz with rfl | rfl | rfl <;> decide +kernel
    have hz1 : z ≤ 10 ^ 95 := by
      rcases hz with rfl | rfl | rfl <;> decide +kernel
    obtain ⟨n, hn⟩ : ∃ n, n = z + r2 := ⟨_, rfl⟩
    show gName 1 (V.int (z + r2)) _ _ _
    rw [← hn]
    have hn0 : 1000 ≤ n := by omega
    obtain ⟨B, hB⟩ : ∃ B : Int, B = 10 ^ 95 + 200 := ⟨_, rfl⟩
    have hnB : n + 100 ≤ B := by
      generalize (10 : Int) ^ 95 = T9 at hz1 hB
      omega
    have hBb : B.natAbs < 2 ^ 400 := by rw [hB]; decide +kernel
    clear hz hz1 ez hB
    refine ⟨_, rfl, _, _, rfl, rfl, ⟨by decide, by decide⟩, _, rfl, _, _, rfl, rfl, ⟨by decide, by decide⟩, _, _, rfl, rfl, _, rfl, _, _, rfl, rfl, _, rfl, _, rfl, _, _, rfl, rfl, _, rfl, _, _, rfl, rfl, by show 8 ≤ sizeLine; decide, fun rk hrk => ⟨Nat.zero_le _, fun st hst => ?_⟩⟩
    have RKat : ∀ ri : Int, 0 ≤ ri → ri < 8 → ∃ r, atI [V.int 1, V.int 2, V.int (n / 2), V.int (n / 2 + 1), V.int (n - 1), V.int n, V.int (n + 1), V.int (n + 2)] ri = some (.int r) ∧ 1 ≤ r ∧ r ≤ n + 2 := by
      intro ri h0 h1
      have : ri = 0 ∨ ri = 1 ∨ ri = 2 ∨ ri = 3 ∨ ri = 4 ∨ ri = 5 ∨ ri = 6 ∨ ri = 7 := by omega
      rcases this with rfl | rfl | rfl | rfl | rfl | rfl | rfl | rfl
      · exact ⟨1, rfl, by omega, by omega⟩
      · exact ⟨2, rfl, by omega, by omega⟩
      · exact ⟨n / 2, rfl, by omega, by omega⟩
      · exact ⟨n / 2 + 1, rfl, by omega, by omega⟩
      · exact ⟨n - 1, rfl, by omega, by omega⟩
      · exact ⟨n, rfl, by omega, by omega⟩
      · exact ⟨n + 1, rfl, by omega, by omega⟩
      · exact ⟨n + 2, rfl, by omega, by omega⟩
    have e1 := same_new (o := .lst [V.int 1, V.int 2, V.int (n / 2), V.int (n / 2 + 1), V.int (n - 1), V.int n, V.int (n + 1), V.int (n + 2)]) hrk
    have e2 := same_new (o := .lst []) hst
    have f1 := e2 _ _ (upd_same (H := H2) (a := rk) (o := .lst [V.int 1, V.int 2, V.int (n / 2), V.int (n / 2 + 1), V.int (n - 1), V.int n, V.int (n + 1), V.int (n + 2)]))
    have f2 := upd_same (H := upd H2 rk (.lst [V.int 1, V.int 2, V.int (n / 2), V.int (n / 2 + 1), V.int (n - 1), V.int n, V.int (n + 1), V.int (n + 2)])) (a := st) (o := .lst [])
    have hp5 := pool_same hp3 (e1.trans e2)
    have nrk := pool_ne hp3 hrk
    have nst := pool_ne (pool_same hp3 e1) hst
    have nrs : rk ≠ st := fun q => by rw [← q, upd_same] at hst; cases hst
    have b05 := b02.trans (but_same (p := p) (e1.trans e2))
    have stf : H st = Option.none := by
      cases e : H st with
      | none => rfl
      | some o =>
        have h := (b02.trans (but_same e1)) _ _ nst e
        exact absurd (h.symm.trans hst) (by simp)
    generalize [V.int 1, V.int 2, V.int (n / 2), V.int (n / 2 + 1), V.int (n - 1), V.int n, V.int (n + 1), V.int (n + 2)] = RK at RKat f1 f2 hp5 b05 e1 e2 ⊢
    generalize upd (upd H2 rk (.lst RK)) st (.lst []) = H5 at f1 f2 hp5 b05 ⊢
    refine ⟨_, _, rfl, ?_⟩
    try dsimp only [tNext]
    show tSeq _ _ _ _ _
    refine seq_cut2 (fun σ' H' => ∃ acc S o4 o5 o6, σ' = [some (.ref p), some (.int n), some (.ref rk), some (.ref st), o4, o5, o6, none] ∧ But p H H' ∧ PoolAt H' p ∧ H' st = some (.lst acc) ∧ TssAt K H' acc S ∧ (∀ s ∈ S, Top.good s = true) ∧ (∀ s ∈ S, tbB B s) ∧ S.length ≤ 5) (fun N cont => ?_) (fun σ H6 h6 => ?_)
    · refine ⟨_, rfl, for_range (lo := 0) (fun i σ H' => ∃ acc S o4 o5 o6, σ = [some (.ref p), some (.int n), some (.ref rk), some (.ref st), o4, o5, o6, none] ∧ But p H H' ∧ PoolAt H' p ∧ H' rk = some (.lst RK) ∧ H' st = some (.lst acc) ∧ TssAt K H' acc S ∧ (∀ s ∈ S, Top.good s = true) ∧ (∀ s ∈ S, tbB B s) ∧ S.length = i) ⟨[], [], _, _, _, rfl, b05, hp5, f1, f2, .nil, (fun s hs => by cases hs), (fun s hs => by cases hs), rfl⟩ ?_ ?_⟩
      · rintro i σ Hx hi ⟨acc, S, o4, o5, o6, rfl, bx, hpx, hrx, hsx, hTx, hgx, hbx, hlx⟩
        refine ⟨_, rfl, p, 5, rfl, hpx, by decide, by decide, fun kd Hk kd0 kd1 bk hpk => ⟨_, rfl, _, rfl, p, 8, rfl, hpk, by decide, by decide, fun ri Hr ri0 ri1 br hpr => ?_⟩⟩
        obtain ⟨r, er, rl, rh⟩ := RKat ri ri0 ri1
        have bkr := bk.trans br
        refine ⟨rk, RK, ri, .int r, rfl, rfl, SqL.of (but_lst hrx nrk bkr), er, _, _, rfl, ?_⟩
        have hsr := but_lst hsx nst bkr
        have hTr := tss_kt hTx (kt_but hpx bkr)
        refine ⟨_, rfl, .inl ⟨rfl, _, SqL.of hsr⟩, ?_⟩
        refine ⟨_, rfl, by show 2 ≤ sizeLine; decide, fun t1 h1 => ⟨_, rfl, by show 2 ≤ sizeLine; decide, fun t2 h2 => ⟨by show 1 ≤ sizeLine; decide, fun t3 h3 => ⟨_, rfl, by show 2 ≤ sizeLine; decide, fun t4 h4 => ⟨_, rfl, by show 2 ≤ sizeLine; decide, fun t5 h5 => ⟨by show 5 ≤ sizeLine; decide, fun tl htl => ?_⟩⟩⟩⟩⟩⟩
        have x1 := same_new (o := .tup [V.str "top", V.int r]) h1
        have x2 := same_new (o := .tup [V.str "remove", V.int r]) h2
        have x3 := same_new (o := .tup [V.str "median"]) h3
        have x4 := same_new (o := .tup [V.str "insert", V.int r]) h4
        have x5 := same_new (o := .tup [V.str "top", V.int r]) h5
        have x6 := same_new (o := .lst [V.ref t1, V.ref t2, V.ref t3, V.ref t4, V.ref t5]) htl
        have g5 := x6 _ _ (upd_same (H := upd (upd (upd (upd Hr t1 (.tup [V.str "top", V.int r])) t2 (.tup [V.str "remove", V.int r])) t3 (.tup [V.str "median"])) t4 (.tup [V.str "insert", V.int r])) (a := t5) (o := .tup [V.str "top", V.int r]))
        have g4 := (x5.trans x6) _ _ (upd_same (H := upd (upd (upd Hr t1 (.tup [V.str "top", V.int r])) t2 (.tup [V.str "remove", V.int r])) t3 (.tup [V.str "median"])) (a := t4) (o := .tup [V.str "insert", V.int r]))
        have g3 := ((x4.trans x5).trans x6) _ _ (upd_same (H := upd (upd Hr t1 (.tup [V.str "top", V.int r])) t2 (.tup [V.str "remove", V.int r])) (a := t3) (o := .tup [V.str "median"]))
        have g2 := (((x3.trans x4).trans x5).trans x6) _ _ (upd_same (H := upd Hr t1 (.tup [V.str "top", V.int r])) (a := t2) (o := .tup [V.str "remove", V.int r]))
        have g1 := ((((x2.trans x3).trans x4).trans x5).trans x6) _ _ (upd_same (H := Hr) (a := t1) (o := .tup [V.str "top", V.int r]))
        have g6 := upd_same (H := upd (upd (upd (upd (upd Hr t1 (.tup [V.str "top", V.int r])) t2 (.tup [V.str "remove", V.int r])) t3 (.tup [V.str "median"])) t4 (.tup [V.str "insert", V.int r])) t5 (.tup [V.str "top", V.int r])) (a := tl) (o := .lst [V.ref t1, V.ref t2, V.ref t3, V.ref t4, V.ref t5])
        have xs6 := ((((x1.trans x2).trans x3).trans x4).trans x5).trans x6
        generalize upd (upd (upd (upd (upd (upd Hr t1 (.tup [V.str "top", V.int r])) t2 (.tup [V.str "remove", V.int r])) t3 (.tup [V.str "median"])) t4 (.tup [V.str "insert", V.int r])) t5 (.tup [V.str "top", V.int r])) tl (.lst [V.ref t1, V.ref t2, V.ref t3, V.ref t4, V.ref t5]) = Hy at g1 g2 g3 g4 g5 g6 xs6 ⊢
        clear x1 x2 x3 x4 x5 x6
        obtain ⟨tx, sx, etx, htx, hgs, hbs⟩ : ∃ tx s, atI [V.ref t1, V.ref t2, V.ref t3, V.ref t4, V.ref t5] kd = some (.ref tx) ∧ SqT K Hy tx (tsV s) ∧ Top.good s = true ∧ tbB B s := by
          have hr1 : decide (0 < r) = true := decide_eq_true (by omega)
          have : kd = 0 ∨ kd = 1 ∨ kd = 2 ∨ kd = 3 ∨ kd = 4 := by omega
          rcases this with rfl | rfl | rfl | rfl | rfl
          · exact ⟨t1, .top r, rfl, SqT.of g1, hr1, trivial⟩
          · exact ⟨t2, .rem r, rfl, SqT.of g2, hr1, trivial⟩
          · exact ⟨t3, .med, rfl, SqT.of g3, rfl, trivial⟩
          · exact ⟨t4, .ins r, rfl, SqT.of g4, rfl, by show -B ≤ r ∧ r ≤ B; omega⟩
          · exact ⟨t5, .top r, rfl, SqT.of g5, hr1, trivial⟩
        have hsy := xs6 _ _ hsr
        have hal := hTx.length
        refine ⟨_, rfl, tl, _, kd, .ref tx, rfl, rfl, SqL.of g6, etx, ?_⟩
        refine ⟨st, _, _, rfl, rfl, hsy, Nat.lt_of_lt_of_le (show acc.length < 100000 by omega) line_ge, ?_⟩
        have bxy := (bx.trans bkr).trans (but_same xs6)
        have ky : Kt K Hy (upd Hy st (.lst (acc ++ [V.ref tx]))) := kt_upd hsy
        refine ⟨acc ++ [.ref tx], S ++ [sx], _, _, _, rfl, but_news bxy stf, ?_, ?_, upd_same, ?_, fun s hs => (List.mem_append.mp hs).elim (hgx s) (fun z => by rw [List.mem_singleton.mp z]; exact hgs), fun s hs => (List.mem_append.mp hs).elim (hbx s) (fun z => by rw [List.mem_singleton.mp z]; exact hbs), by rw [List.length_append, hlx]; rfl⟩
        · obtain ⟨xx, yy, e, more⟩ := pool_same hpr xs6
          exact ⟨xx, yy, by rw [upd_ne (Ne.symm nst)]; exact e, more⟩
        · rw [upd_ne nrs]
          exact xs6 _ _ (but_lst hrx nrk bkr)
        · exact pd_append (tss_kt (tss_same hTr xs6) ky) (.cons ⟨tx, rfl, ky _ _ htx⟩ .nil)
      · rintro σ Hx ⟨acc, S, o4, o5, o6, rfl, bx, hpx, hrx, hsx, hTx, hgx, hbx, hlx⟩
        exact cont _ _ ⟨acc, S, _, _, _, rfl, bx, hpx, hsx, hTx, hgx, hbx, by omega⟩
    obtain ⟨acc, S, o4, o5, o6, rfl, b6, hp6, hs6, hT6, hg6, hb6, hl6⟩ := h6
    have hal := hT6.length
    have okO9 := okd_outc (n := n) (S := S) (by omega) (show n + S.length ≤ B by omega) (by omega) hb6 hBb
    generalize eo : Top.outc n S 0 = o9 at okO9
    -- what is due
    refine ⟨_, rfl, _, rfl, n, st, acc, S, rfl, by omega, SqL.of hs6, hT6, hg6, by omega, fun td H7 s7 n7 dA dB => ?_⟩
    rw [eo] at dA dB
    refine ⟨_, outD o9, rfl, rd_out dA dB, okO9.pl, okO9.dp, okO9.sz, ?_⟩
    refine ⟨_, rfl, _, rfl, .int n, .ref st, rfl, .inl ⟨n, st, acc, S, rfl, rfl, by omega, .inl (SqL.of (s7 _ _ hs6)), tss_same hT6 s7, hg6, by omega, fun t8 H8 s8 dA8 dB8 => ?_⟩⟩
    rw [eo] at dA8 dB8
    refine ⟨_, outD o9, rfl, rd_out dA8 dB8, okO9.pl, okO9.dp, okO9.sz, ?_⟩
    refine ⟨_, rfl, rfl, _, rfl, iteN (by simp) ?_⟩
    have s68 := s7.trans s8
    refine ⟨_, rfl, _, rfl, st, acc, rfl, .inl ⟨SqL.of (s68 _ _ hs6), fun tt htt => ?_⟩⟩
    have st9 := same_new (o := .tup acc) htt
    refine ⟨.int n, .ref tt, rfl, .inl ⟨n, tt, acc, S, rfl, rfl, by omega, .inr (SqT.of upd_same), tss_same hT6 (s68.trans st9), hg6, by omega, fun t9 H9 s9 dA9 dB9 => ?_⟩⟩
    rw [eo] at dA9 dB9
    refine ⟨_, outD o9, rfl, rd_out dA9 dB9, okO9.pl, okO9.dp, okO9.sz, ?_⟩
    refine ⟨_, rfl, rfl, _, rfl, iteN (by simp) ?_⟩
    -- two medians
    have s69 := (s68.trans st9).trans s9
    refine ⟨_, rfl, by show 1 ≤ sizeLine; decide, fun m1 hm1 => ⟨by show 1 ≤ sizeLine; decide, fun m2 hm2 => ⟨by show 2 ≤ sizeLine; decide, fun ml hml => ?_⟩⟩⟩
    have v1 := same_new (o := .tup [V.str "median"]) hm1
    have v2 := same_new (o := .tup [V.str "median"]) hm2
    have v3 := same_new (o := .lst [V.ref m1, V.ref m2]) hml
    have w1 := (v2.trans v3) _ _ (upd_same (H := H9) (a := m1) (o := .tup [V.str "median"]))
    have w2 := v3 _ _ (upd_same (H := upd H9 m1 (.tup [V.str "median"])) (a := m2) (o := .tup [V.str "median"]))
    refine ⟨.int n, .ref ml, rfl, .inl ⟨n, ml, [.ref m1, .ref m2], [.med, .med], rfl, rfl, by omega, .inl (SqL.of upd_same), .cons ⟨m1, rfl, SqT.of w1⟩ (.cons ⟨m2, rfl, SqT.of w2⟩ .nil), (fun s hs => by
      simp only [List.mem_cons, List.not_mem_nil, or_false] at hs
      rcases hs with rfl | rfl <;> rfl), by show 2 ≤ 100; decide, fun t10 H10 s10 dA10 dB10 => ?_⟩⟩
    have c1 : Top.okO n (Top.ord n .med) = true := (okF n _).trans (decide_eq_true (by omega))
    have c2 : Top.okO (n - 1) (Top.ord (n - 1) .med) = true := (okF (n - 1) _).trans (decide_eq_true (by omega))
    have eM : Top.outc n [.med, .med] 0 = .inl [Top.ord n .med, Top.ord (n - 1) .med] := by
      show (if Top.okO n (Top.ord n .med) = true then _ else _) = _
      rw [if_pos c1]
      show Top.pre1 _ (if Top.okO (n - 1) (Top.ord (n - 1) .med) = true then _ else _) = _
      rw [if_pos c2]
      rfl
    obtain ⟨ys, hy1, hy2⟩ := dA10 _ eM
    refine ⟨_, rfl, _, _, rfl, rfl, _, _, rfl, rfl, ⟨by decide, by decide⟩, by show 2 ≤ sizeLine; decide, fun d1 hd1 => ⟨_, rfl, _, _, rfl, rfl, ⟨by decide, by decide⟩, by show 2 ≤ sizeLine; decide, fun d2 hd2 => ⟨by show 2 ≤ sizeLine; decide, fun dt hdt => ?_⟩⟩⟩
    have v4 := same_new (o := .tup [V.str "remove", V.int ((n + 1) / 2)]) hd1
    have v5 := same_new (o := .tup [V.str "remove", V.int (n / 2)]) hd2
    have v6 := same_new (o := .tup [V.ref d1, V.ref d2]) hdt
    have w4 := (v5.trans v6) _ _ (upd_same (H := H10) (a := d1) (o := .tup [V.str "remove", V.int ((n + 1) / 2)]))
    have w5 := v6 _ _ (upd_same (H := upd H10 d1 (.tup [V.str "remove", V.int ((n + 1) / 2)])) (a := d2) (o := .tup [V.str "remove", V.int (n / 2)]))
    have v46 := (v4.trans v5).trans v6
    refine ⟨_, _, dp_stsT (same_seqT v46 hy1) (sts_same hy2 v46), dp_stsT (L := [(false, (n + 1) / 2), (false, n / 2)]) (SqT.of upd_same) (.cons (st_of (b := false) w4) (.cons (st_of (b := false) w5) .nil)), sh_stsT _, sh_stsT _, ?_⟩
    rw [eqv_stsT, decide_eq_true (by show [((false, (n + 1) / 2) : Stp), (false, (n - 1 + 1) / 2)] = _; rw [show n - 1 + 1 = n by omega])]
    have vAll := (s69.trans ((v1.trans v2).trans v3)).trans (s10.trans v46)
    exact k _ (b6.trans (but_same vAll)) (pool_same hp6 vAll)
end
end K41
namespace K41
open PySem L2 XT
section
variable {P : Program} {w : World} {K : PySem.W.Frag} {mg : Str → Option Value} {base : Heap} {a : Ads}
local macro_rules | `(tactic| walk_at "rside") => `(tactic| first | (show (0 : Int) < _; first | decide | omega) | (exact ⟨by first | decide | omega, by first | decide | omega⟩) | (exact Or.inl ⟨by omega, by omega⟩) | (exact Or.inr ⟨by omega, by omega⟩) | (exact ⟨by decide, by decide, by decide⟩))
local macro_rules | `(tactic| walk_at "rd1") => `(tactic| first | (refine ⟨_, rfl, ?_⟩) | (refine ⟨_, _, rfl, rfl, (by walk_at "rside"), ?_⟩) | (refine ⟨_, _, rfl, rfl, ?_⟩))
local macro_rules | `(tactic| walk_at "rd") => `(tactic| repeat (walk_at "rd1"))

def tsD : Top.TS → PyData
  | .ins x => .tuple [.str "insert", .int x]
  | .rem x => .tuple [.str "remove", .int x]
  | .top x => .tuple [.str "top", .int x]
  | .med => .tuple [.str "median"]
theorem ts_dp {H : Hp} {x : V} {s : Top.TS} (h : TsAt K H x s) : Dp K H x (tsD s) := by
  obtain ⟨r, rfl, hr⟩ := h
  cases s
  · exact .tup hr (.cons (.str _) (.cons (.int _) .nil))
  · exact .tup hr (.cons (.str _) (.cons (.int _) .nil))
  · exact .tup hr (.cons (.str _) (.cons (.int _) .nil))
  · exact .tup hr (.cons (.str _) .nil)
theorem tss_dp {H : Hp} : ∀ {xs : List V} {S : List Top.TS}, TssAt K H xs S → DpAll K H xs (S.map tsD)
  | _, _, .nil => .nil
  | _, _, .cons r t => .cons (ts_dp r) (tss_dp t)
theorem canLay_tss : ∀ S : List Top.TS, PyData.canLayAll0 (S.map tsD) = true
  | [] => rfl
  | x :: S => by cases x <;> simp [PyData.canLayAll0, PyData.canLay0, tsD, ok_of, canLay_tss S]
theorem depth_tss : ∀ S : List Top.TS, PyData.depthAll (S.map tsD) ≤ 1
  | [] => by simp [PyData.depthAll]
  | x :: S => by
    have := depth_tss S
    cases x <;> (simp [PyData.depthAll, PyData.depth, tsD]; omega)
theorem sh_tssL (S : List Top.TS) : SeqAt.shaped (.list (S.map tsD)) = true := by
  have := depth_tss S
  simp [SeqAt.shaped, PyData.canLay0, PyData.depth, canLay_tss]
  omega
theorem tbB_mono {s : Top.TS} (h : tbB 100 s) : tbB 1000 s := by
  cases s with
  | ins x => have h' : -100 ≤ x ∧ x ≤ 100 := h; show -1000 ≤ x ∧ x ≤ 1000; omega
  | _ => trivial
def spLaw (K : PySem.W.Frag) : Sp := fun vs H Q _ => ∃ (sc : Addr) (ns : List Int), vs = [.ref sc] ∧ SqL K H sc (ns.map V.int) ∧ ns.length ≤ 63 ∧ ∀ H', Q (.bl true) H'
def InvS (K : PySem.W.Frag) (p D : Addr) (Hs : Hp) (i : Nat) (H : Hp) (acc : List V) : Prop := ∃ S : List Top.TS, acc.length = i ∧ H D = some (.lst acc) ∧ PoolAt H p ∧ But p Hs H ∧ TssAt K H acc S ∧ (∀ s ∈ S, Top.good s = true) ∧ (∀ s ∈ S, tbB 100 s)
theorem ok_law (T : Txt K mg a) {fd : FuncData} (F : Fun K "law" "law" s_law a.law fd) : FnG P w K mg base CX0 14 a.law (spLaw K) := by
  refine XT.okGX F sc_law bn_law (fun vs H Q E h => ?_) (fun cdv A outer s H vs Q E hg hr h => ?_)
  · obtain ⟨sc, ns, rfl, _⟩ := h
    rfl
  · obtain ⟨sc, ns, rfl, hS, hn, k⟩ := h
    have G_law_pool := ok_law_pool (P := P) (w := w) (base := base) T
    have G_law_take := ok_law_take (P := P) (w := w) (base := base) T
    have G_law_wide := ok_law_wide (P := P) (w := w) (base := base) T
    have G_law_due := ok_law_due (P := P) (w := w) (base := base) T
    have G_law_told := ok_law_told (P := P) (w := w) (base := base) T
    have G_law_check_errors := ok_law_check_errors (P := P) (w := w) (base := base) T
    have G_law_check_great := ok_law_check_great (P := P) (w := w) (base := base) T
    refine ⟨_, PSs.nox ((pss_cons (ps_for PassesOwn.never rfl (pi_rng1 (by rfl) T.b_range (pa_cons (pe_callB (call_max2 rfl) (by rfl) T.b_max (by decide +kernel) (pa_cons pe_int (pa_cons (pe_callB (call_min2 rfl) (by rfl) T.b_min (by decide +kernel) (pa_cons pe_int (pa_cons (pe_callB (lenK K) (by rfl) T.b_len (by decide +kernel) (pa_cons (pv 0) pa_nil)) pa_nil))) pa_nil))) pa_nil)) (pg_name (i := 1) sc_law.nd rfl (Or.inl rfl))
        (pss_cons (ps_set (i := 2) sc_law.nd rfl (Or.inr rfl) (pe_callR G_law_pool (hr.mono (by decide)) rfl T.g_law_pool T.k_law_pool pass0 (pa_cons (pv 0) (pa_cons (pv 1) pa_nil))))
      (pss_cons (ps_for PassesOwn.never rfl (pi_rng1 (by rfl) T.b_range (pa_cons pe_int pa_nil)) (pg_name (i := 3) sc_law.nd rfl (Or.inl rfl))
        (pss_cons (ps_par (i := 4) (j := 5) (by rfl) sc_law.nd rfl rfl (by decide) rfl rfl (pa_cons (pe_callR G_law_take (hr.mono (by decide)) rfl T.g_law_take T.k_law_take pass0 (pa_cons (pv 2) (pa_cons pe_int pa_nil))) (pa_cons (pe_lc (own := [("_law_place", 6)])  rfl sc_law.nd (pi_rng1 (by rfl) T.b_range (pa_cons (pe_callR G_law_take (hr.mono (by decide)) rfl T.g_law_take T.k_law_take pass0 (pa_cons (pv 2) (pa_cons pe_int pa_nil))) pa_nil)) (blkOk_by (N := N_law) (sc := defScope s_law) (by decide +kernel)) (fun _ _ _ _ _ => by exact (pg_name (i := 6) sc_law.nd rfl (Or.inl rfl))) (fun _ _ _ _ _ => by exact pts_nil) (fun _ _ _ _ _ => by exact (pe_callR G_law_wide (hr.mono (by decide)) rfl T.g_law_wide T.k_law_wide pass0 (pa_cons (pv 2) pa_nil)))) pa_nil)) (by rfl))
      (pss_cons (ps_par (i := 7) (j := 8) (by rfl) sc_law.nd rfl rfl (by decide) rfl rfl (pa_cons (pe_callR G_law_due (hr.mono (by decide)) rfl T.g_law_due T.k_law_due pass0 (pa_cons (pv 4) (pa_cons (pv 5) pa_nil))) (pa_cons (pe_callTy (listK K) (by rfl) T.b_list (by decide +kernel) (pa_cons (pv 5) pa_nil)) pa_nil)) (by rfl))
      (pss_cons (ps_if (PW.pt (pw_or (pt_cmpR op_ne (pe_callB (reprKx K hg hr.units) (by rfl) T.b_repr (by decide +kernel) (pa_cons (pe_callG G_law_told hg (hr.mono (by decide)) rfl T.g_law_told T.k_law_told pass0 (pa_cons (pv 4) (pa_cons (pv 5) pa_nil))) pa_nil)) (pe_callB (reprKx K hg hr.units) (by rfl) T.b_repr (by decide +kernel) (pa_cons (pv 7) pa_nil)) (nomark _)) (pw_or1 (pt_cmpR op_ne (pe_callB (reprKx K hg hr.units) (by rfl) T.b_repr (by decide +kernel) (pa_cons (pe_callG G_law_told hg (hr.mono (by decide)) rfl T.g_law_told T.k_law_told pass0 (pa_cons (pv 4) (pa_cons (pe_callTy (tupleK K) (by rfl) T.b_tuple (by decide +kernel) (pa_cons (pv 5) pa_nil)) pa_nil))) pa_nil)) (pe_callB (reprKx K hg hr.units) (by rfl) T.b_repr (by decide +kernel) (pa_cons (pv 7) pa_nil)) (nomark _))))) (pss_one (ps_ret pe_bl)) pss_nil)
      (pss_one (ps_if (pt_cmpR (neDK K hr.units) (pv 5) (pv 8) (nomark _)) (pss_one (ps_ret pe_bl)) pss_nil))))))
      (pss_one (ps_if (PW.pt (pw_or (pt_not (pt_val (pe_callG G_law_check_errors hg (hr.mono (by decide)) rfl T.g_law_check_errors T.k_law_check_errors pass0 (pa_cons (pv 2) (pa_cons (pv 5) pa_nil))))) (pw_or1 (pt_not (pt_val (pe_callG G_law_check_great hg (hr.mono (by decide)) rfl T.g_law_check_great T.k_law_check_great pass0 (pa_cons (pv 2) pa_nil))))))) (pss_one (ps_ret pe_bl)) pss_nil)))))
      (pss_one (ps_ret (pe_and (pe_cmpR (eqDK K hr.units) (pe_callG G_law_told hg (hr.mono (by decide)) rfl T.g_law_told T.k_law_told pass0 (pa_cons pe_int (pa_cons (pe_lst (pa_cons (pe_tup (pa_cons pe_str pa_nil)) pa_nil)) pa_nil))) (pe_tup (pa_cons pe_str (pa_cons pe_int pa_nil))) (nomark _)) (pe_one (pe_cmpR (eqDK K hr.units) (pe_callG G_law_told hg (hr.mono (by decide)) rfl T.g_law_told T.k_law_told pass0 (pa_cons pe_int (pa_cons (pe_lst pa_nil) pa_nil))) (pe_tup pa_nil) (nomark _)))))))), ?_⟩
    refine ⟨_, rfl, sc, _, rfl, .inl hS, 8, _, rfl, 1, _, rfl, _, rfl, ?_⟩
    refine for_range (lo := 0) (fun i σ H' => ∃ o1 o2 o3 o4 o5 o7 o8, σ = [some (.ref sc), o1, o2, o3, o4, o5, none, o7, o8] ∧ Same H H') ⟨_, _, _, _, _, _, _, rfl, Same.refl _⟩ ?_ ?_
    · rintro i σ H2 hi ⟨o1, o2, o3, o4, o5, o7, o8, rfl, s2⟩
      have hi2 : i ≤ 1000 := by
        rw [List.length_map] at hi
        have : (if (if (ns.length : Int) < 8 then (ns.length : Int) else 8) > 1 then (if (ns.length : Int) < 8 then (ns.length : Int) else 8) else 1) ≤ 63 := by split <;> (try split) <;> omega
        omega
      refine ⟨_, rfl, _, rfl, sc, ns, (0 : Int) + i, rfl, s2.seq hS, by omega, by omega, fun p H3 s3 n3 hp => ?_⟩
      have npH : H p = Option.none := s2.free n3
      try dsimp only [tNext]
      show tSeq _ _ _ _ _
      refine seq_cut2 (fun σ' H' => ∃ l xs S o3 o4 o7 o8, σ' = [some (.ref sc), some (.int (0 + (i : Int))), some (.ref p), o3, o4, some (.ref l), none, o7, o8] ∧ But p H3 H' ∧ PoolAt H' p ∧ l ≠ p ∧ H' l = some (.lst xs) ∧ TssAt K H' xs S ∧ (∀ s ∈ S, Top.good s = true) ∧ S.length ≤ 20) (fun N cont => ?_) (fun σ H4 h4 => ?_)
      · refine ⟨_, rfl, for_range (lo := 0) (fun j σ H' => ∃ o3 o4 o5 o7 o8, σ = [some (.ref sc), some (.int (0 + (i : Int))), some (.ref p), o3, o4, o5, none, o7, o8] ∧ But p H3 H' ∧ PoolAt H' p ∧ (0 < j → ∃ l xs S, o5 = some (.ref l) ∧ l ≠ p ∧ H' l = some (.lst xs) ∧ TssAt K H' xs S ∧ (∀ s ∈ S, Top.good s = true) ∧ S.length ≤ 20)) ⟨_, _, _, _, _, rfl, But.refl _ _, hp, fun h => absurd h (by decide)⟩ ?_ ?_⟩
        · rintro j σ Hx hj ⟨o3, o4, o5, o7, o8, rfl, bx, hpx, _⟩
          refine ⟨_, rfl, p, 13, rfl, hpx, by decide, by decide, fun n H5 n0 n1 b5 hp5 => ?_⟩
          refine ⟨_, rfl, p, 10, rfl, hp5, by decide, by decide, fun u H6 u0 u1 b6 hp6 => ⟨_, rfl, fun D hD => ?_⟩⟩
          have nD := pool_ne hp6 hD
          refine lcE (lo := 0) (InvS K p D H6) ⟨[], rfl, upd_same, pool_but hp6 hD rfl, but_same (same_new hD), .nil, (fun s hs => by cases hs), (fun s hs => by cases hs)⟩ (Nat.le_trans (show u.toNat ≤ 100000 by omega) line_ge) (fun i' H' acc ⟨_, hl, _⟩ => hl) ?_ ?_
          · rintro i' H' acc R hi' ⟨S, hlen, hDD, hpp, bb, hT, hg9, hb9⟩ kk
            refine ⟨rfl, _, rfl, p, rfl, hpp, fun t s H8 b8 hp8 nt ht hgs hbs => ?_⟩
            have hD8 := b8 _ _ nD hDD
            have ky : Kt K H8 (upd H8 D (.lst (acc ++ [V.ref t]))) := kt_upd hD8
            refine kk _ H8 hD8 ⟨S ++ [s], by rw [List.length_append, hlen]; rfl, upd_same, ?_, but_news (bb.trans b8) hD, ?_, fun s hs => (List.mem_append.mp hs).elim (hg9 s) (fun z => by rw [List.mem_singleton.mp z]; exact hgs), fun s hs => (List.mem_append.mp hs).elim (hb9 s) (fun z => by rw [List.mem_singleton.mp z]; exact hbs)⟩
            · obtain ⟨xx, yy, e, more⟩ := hp8
              exact ⟨xx, yy, by rw [upd_ne (Ne.symm nD)]; exact e, more⟩
            · exact pd_append (tss_kt (tss_kt hT (kt_but hpp b8)) ky) (.cons ⟨t, rfl, ky _ _ (SqT.of ht)⟩ .nil)
          rintro H7 acc ⟨S, hlen, hD7, hp7, b7, hT, hg9, hb9⟩
          have hal := hT.length
          have hSl : S.length ≤ 10 := by omega
          have okO9 := okd_outc (B := 1000) (n := n) (S := S) (by omega) (show n + S.length ≤ 1000 by omega) (by omega) (fun s hs => tbB_mono (hb9 s hs)) (by decide +kernel)
          generalize eo : Top.outc n S 0 = o9 at okO9
          refine ⟨_, _, rfl, ?_⟩
          refine ⟨_, rfl, _, rfl, n, D, acc, S, rfl, by omega, SqL.of hD7, hT, hg9, by omega, fun td H8 s8 n8 dA dB => ?_⟩
          rw [eo] at dA dB
          refine ⟨_, rfl, D, _, rfl, .inl (SqL.of (s8 _ _ hD7)), fun bl hbl => ⟨_, _, rfl, ?_⟩⟩
          have sb := same_new (o := .lst acc) hbl
          have s9 := s8.trans sb
          have fb := upd_same (H := H8) (a := bl) (o := .lst acc)
          refine ⟨_, rfl, _, rfl, .int n, .ref D, rfl, .inl ⟨n, D, acc, S, rfl, rfl, by omega, .inl (SqL.of (s9 _ _ hD7)), tss_same hT s9, hg9, by omega, fun t8 HA sA dA8 dB8 => ?_⟩⟩
          rw [eo] at dA8 dB8
          have rdd := rd_out (K := K) dA dB
          refine ⟨_, outD o9, rfl, rd_out dA8 dB8, okO9.pl, okO9.dp, okO9.sz, ?_⟩
          refine ⟨_, rfl, _, outD o9, rfl, rd_same (sb.trans sA) rdd, okO9.pl, okO9.dp, okO9.sz, ?_⟩
          refine ⟨rfl, _, rfl, iteN (by simp) ?_⟩
          have sC := s9.trans sA
          refine ⟨_, rfl, _, rfl, D, acc, rfl, .inl ⟨SqL.of (sC _ _ hD7), fun tt htt => ?_⟩⟩
          have st9 := same_new (o := .tup acc) htt
          refine ⟨.int n, .ref tt, rfl, .inl ⟨n, tt, acc, S, rfl, rfl, by omega, .inr (SqT.of upd_same), tss_same hT (sC.trans st9), hg9, by omega, fun t9 HD sD dA9 dB9 => ?_⟩⟩
          rw [eo] at dA9 dB9
          refine ⟨_, outD o9, rfl, rd_out dA9 dB9, okO9.pl, okO9.dp, okO9.sz, ?_⟩
          have sE := (sA.trans st9).trans sD
          refine ⟨_, rfl, _, outD o9, rfl, rd_same (sb.trans sE) rdd, okO9.pl, okO9.dp, okO9.sz, ?_⟩
          refine ⟨rfl, _, rfl, iteN (by simp) ?_⟩
          have s9E := s9.trans sE
          refine ⟨_, rfl, _, rfl, _, _, .lst (SqL.of (s9E _ _ hD7)) (tss_dp (tss_same hT s9E)), .lst (SqL.of (sE _ _ fb)) (tss_dp (tss_same hT s9E)), sh_tssL _, sh_tssL _, _, rfl, iteN (ne_self (sh_tssL S)) ?_⟩
          have bAll := (((bx.trans b5).trans b6).trans b7).trans (but_same s9E)
          exact ⟨_, _, _, _, _, rfl, bAll, pool_same hp7 s9E, fun _ => ⟨D, acc, S, rfl, nD, s9E _ _ hD7, tss_same hT s9E, hg9, by omega⟩⟩
        · rintro σ Hx ⟨o3, o4, o5, o7, o8, rfl, bx, hpx, hl⟩
          obtain ⟨l, xs, S, rfl, nl, hxl, hT, hg9, hz⟩ := hl (by decide)
          exact cont _ _ ⟨l, xs, S, _, _, _, _, rfl, bx, hpx, nl, hxl, hT, hg9, hz⟩
      obtain ⟨l, xs, S, o3, o4, o7, o8, rfl, b4, hp4, nl, hxl, hT, hg9, hz⟩ := h4
      refine ⟨_, rfl, _, rfl, p, l, xs, S, rfl, hp4, nl, hxl, hT, hg9, hz, fun H5 b5 hp5 => ⟨_, rfl, iteN rfl ?_⟩⟩
      refine ⟨_, rfl, p, rfl, hp5, fun H6 b6 hp6 => ⟨_, rfl, iteN rfl ?_⟩⟩
      exact ⟨_, _, _, _, _, _, _, rfl, s2.trans (but_to s3 n3 ((b4.trans b5).trans b6))⟩
    · rintro σ H2 ⟨o1, o2, o3, o4, o5, o7, o8, rfl, s2⟩
      refine ⟨by show 1 ≤ sizeLine; decide, fun m1 hm1 => ⟨by show 1 ≤ sizeLine; decide, fun ml hml => ?_⟩⟩
      have v1 := same_new (o := .tup [V.str "median"]) hm1
      have v2 := same_new (o := .lst [V.ref m1]) hml
      have w1 := v2 _ _ (upd_same (H := H2) (a := m1) (o := .tup [V.str "median"]))
      refine ⟨.int 0, .ref ml, rfl, .inl ⟨0, ml, [.ref m1], [.med], rfl, rfl, by decide, .inl (SqL.of upd_same), .cons ⟨m1, rfl, SqT.of w1⟩ .nil, (fun s hs => by rw [List.mem_singleton.mp hs]; rfl), by decide, fun t1 H3 s3 dA dB => ?_⟩⟩
      have z1 := dB 0 rfl
      refine ⟨by show 2 ≤ sizeLine; decide, fun d1 hd1 => ?_⟩
      have v3 := same_new (o := .tup [V.str "failed", V.int 0]) hd1
      have dpF : ∀ {H' : Hp} {q : Addr}, SqT K H' q [.str "failed", .int 0] → Dp K H' (.ref q) (.tuple [.str "failed", .int 0]) := fun h => .tup h (.cons (.str _) (.cons (.int _) .nil))
      refine ⟨_, _, dpF (same_seqT v3 z1), dpF (SqT.of upd_same), by decide +kernel, by decide +kernel, ?_⟩
      refine ⟨_, rfl, iteH (by decide +kernel) ?_⟩
      refine ⟨Nat.zero_le _, fun z hz => ?_⟩
      refine ⟨.int 0, .ref z, rfl, .inl ⟨0, z, [], [], rfl, rfl, by decide, .inl (SqL.of upd_same), .nil, (fun s hs => by cases hs), by decide, fun t2 H4 s4 dA2 dB2 => ?_⟩⟩
      obtain ⟨ys, y1, y2⟩ := dA2 [] rfl
      cases y2
      refine ⟨Nat.zero_le _, fun d2 hd2 => ?_⟩
      refine ⟨_, _, dp_stsT (L := []) (same_seqT (same_new hd2) y1) .nil, dp_stsT (L := []) (SqT.of upd_same) .nil, sh_stsT _, sh_stsT _, ?_⟩
      rw [eqv_stsT, decide_eq_true rfl]
      exact k _

end
end K41
namespace K41
open PySem L2 XT
section
variable {P : Program} {w : World} {K : PySem.W.Frag} {mg : Str → Option Value} {base : Heap} {a : Ads}
theorem kit_subB {B C : Addr} (hc : (PySem.W.clsIn K C).isSome = true) (ht : PySem.W.typeIn K (.ref C) = some (.type "type")) (hs : PySem.W.subIn K (.ref B) (.ref C) = some false) (hr : PySem.W.subIn K (.ref B) (.ref B) = some true) : PySem.W.kitOne K (.ref B) (.ref C) = some false := by
  have hne : B ≠ C := fun e => by
    rw [e] at hr hs
    rw [hr] at hs
    cases hs
  simp [PySem.W.kitOne, PySem.W.kitCls, hc, ht, hs, hne]
theorem mro_of {nm q : Str} {C N : Addr} {bs bm : List Value} {hd : Bool} {sn : List Str} {sub : List Value} {ab : Bool} {col : Option Bool} {dd : Option Addr} {k0 k1 k2 k3 k5 : Option Value} {new : String} (xl : K.lookup C = some (excClassObj nm q C N bs bm hd sn sub ab col dd k0 k1 k2 k3 k5 new)) (b : Value) : PySem.W.mroIn K C b = some ((Value.ref C :: bm).contains b) := by
  simp [PySem.W.mroIn, PySem.W.clsIn, xl, excClassObj]
theorem kit_t {C : Addr} {T : String} {m : List Value} {b : Bool} (hk : PySem.W.kitMeta T = true) (h : PySem.W.mroIn K C (.type T) = some ((Value.ref C :: m).contains (.type T))) (e : m.contains (.type T) = b) : PySem.W.kitOne K (.ref C) (.type T) = some b := by
  have h1 : (Value.ref C == Value.type T) = false := rfl
  have h2 : (Value.ref C :: m).contains (.type T) = b := by
    rw [List.contains_cons, e]
    rfl
  rw [h2] at h
  unfold PySem.W.kitOne PySem.W.kitCls
  rw [h1]
  simp only [hk, if_true, Bool.false_eq_true, if_false]
  exact h

theorem kit_self {a : Addr} : PySem.W.kitOne K (.ref a) (.ref a) = some true := by simp [PySem.W.kitOne]
theorem exm_of {D C : Addr} {b : Bool} (h1 : PySem.W.subIn K (.ref C) (.type "BaseException") = some true) (h2 : PySem.W.isClsIn K C = true) (h3 : PySem.W.typeIn K (.ref C) = some (.type "type")) (h4 : PySem.W.subIn K (.ref D) (.ref C) = some b) : PySem.W.exmOne K (.ref D) (.ref C) = some b := by
  have h2' : (PySem.W.clsIn K C).isSome = true := h2
  simp [PySem.W.exmOne, PySem.W.kitCls, h1, h2', h3, h4]
theorem all_mk {l : PySem.W.OpenLaw} {h : Heap} {fa : Addr} (X : K.In h) (G : h.Ns mainGlobals mg) (hfa : mg "law" = some (.ref fa)) {is_integer is_count is_rank InvalidStep___init__ InvalidNumber___init__ StepFailed___init__ Sequence___init__ Sequence_is_step Sequence_steps is_any_step ordinary_step resolved law_pool law_take law_wide law_ordinary law_due law_told law_check_errors law_check_great law RankError InvalidStep InvalidNumber StepFailed Sequence P_steps S_is_step : Addr} {rest_steps rest_is_step : List Value}
    {nm_InvalidStep q_InvalidStep : Str} {N_InvalidStep : Addr} {bs_InvalidStep : List Value} {sn_InvalidStep : List Str} {sub_InvalidStep : List Value} {ab_InvalidStep : Bool} {col_InvalidStep : Option Bool} {dd_InvalidStep : Option Addr} {e0_InvalidStep e1_InvalidStep e2_InvalidStep e3_InvalidStep e5_InvalidStep : Option Value}
    {nm_InvalidNumber q_InvalidNumber : Str} {N_InvalidNumber : Addr} {bs_InvalidNumber : List Value} {sn_InvalidNumber : List Str} {sub_InvalidNumber : List Value} {ab_InvalidNumber : Bool} {col_InvalidNumber : Option Bool} {dd_InvalidNumber : Option Addr} {e0_InvalidNumber e1_InvalidNumber e2_InvalidNumber e3_InvalidNumber e5_InvalidNumber : Option Value}
    {nm_StepFailed q_StepFailed : Str} {N_StepFailed : Addr} {bs_StepFailed : List Value} {sn_StepFailed : List Str} {sub_StepFailed : List Value} {ab_StepFailed : Bool} {col_StepFailed : Option Bool} {dd_StepFailed : Option Addr} {e0_StepFailed e1_StepFailed e2_StepFailed e3_StepFailed e5_StepFailed : Option Value}
    {oc_is_integer kV_is_integer dc_is_integer pm_is_integer cd_is_integer ct_is_integer : Value} {od_is_integer an_is_integer : Option Addr} {sl_is_integer : Array (Option Value)}
    {oc_is_count kV_is_count dc_is_count pm_is_count cd_is_count ct_is_count : Value} {od_is_count an_is_count : Option Addr} {sl_is_count : Array (Option Value)}
    {oc_is_rank kV_is_rank dc_is_rank pm_is_rank cd_is_rank ct_is_rank : Value} {od_is_rank an_is_rank : Option Addr} {sl_is_rank : Array (Option Value)}
    {oc_InvalidStep___init__ kV_InvalidStep___init__ dc_InvalidStep___init__ pm_InvalidStep___init__ cd_InvalidStep___init__ ct_InvalidStep___init__ : Value} {od_InvalidStep___init__ an_InvalidStep___init__ : Option Addr} {sl_InvalidStep___init__ : Array (Option Value)}
    {oc_InvalidNumber___init__ kV_InvalidNumber___init__ dc_InvalidNumber___init__ pm_InvalidNumber___init__ cd_InvalidNumber___init__ ct_InvalidNumber___init__ : Value} {od_InvalidNumber___init__ an_InvalidNumber___init__ : Option Addr} {sl_InvalidNumber___init__ : Array (Option Value)}
    {oc_StepFailed___init__ kV_StepFailed___init__ dc_StepFailed___init__ pm_StepFailed___init__ cd_StepFailed___init__ ct_StepFailed___init__ : Value} {od_StepFailed___init__ an_StepFailed___init__ : Option Addr} {sl_StepFailed___init__ : Array (Option Value)}
    {oc_Sequence___init__ kV_Sequence___init__ dc_Sequence___init__ pm_Sequence___init__ cd_Sequence___init__ ct_Sequence___init__ : Value} {od_Sequence___init__ an_Sequence___init__ : Option Addr} {sl_Sequence___init__ : Array (Option Value)}
    {oc_Sequence_is_step kV_Sequence_is_step dc_Sequence_is_step pm_Sequence_is_step cd_Sequence_is_step ct_Sequence_is_step : Value} {od_Sequence_is_step an_Sequence_is_step : Option Addr} {sl_Sequence_is_step : Array (Option Value)}
    {oc_Sequence_steps kV_Sequence_steps dc_Sequence_steps pm_Sequence_steps cd_Sequence_steps ct_Sequence_steps : Value} {od_Sequence_steps an_Sequence_steps : Option Addr} {sl_Sequence_steps : Array (Option Value)}
    {oc_is_any_step kV_is_any_step dc_is_any_step pm_is_any_step cd_is_any_step ct_is_any_step : Value} {od_is_any_step an_is_any_step : Option Addr} {sl_is_any_step : Array (Option Value)}
    {oc_ordinary_step kV_ordinary_step dc_ordinary_step pm_ordinary_step cd_ordinary_step ct_ordinary_step : Value} {od_ordinary_step an_ordinary_step : Option Addr} {sl_ordinary_step : Array (Option Value)}
    {oc_resolved kV_resolved dc_resolved pm_resolved cd_resolved ct_resolved : Value} {od_resolved an_resolved : Option Addr} {sl_resolved : Array (Option Value)}
    {oc_law_pool kV_law_pool dc_law_pool pm_law_pool cd_law_pool ct_law_pool : Value} {od_law_pool an_law_pool : Option Addr} {sl_law_pool : Array (Option Value)}
    {oc_law_take kV_law_take dc_law_take pm_law_take cd_law_take ct_law_take : Value} {od_law_take an_law_take : Option Addr} {sl_law_take : Array (Option Value)}
    {oc_law_wide kV_law_wide dc_law_wide pm_law_wide cd_law_wide ct_law_wide : Value} {od_law_wide an_law_wide : Option Addr} {sl_law_wide : Array (Option Value)}
    {oc_law_ordinary kV_law_ordinary dc_law_ordinary pm_law_ordinary cd_law_ordinary ct_law_ordinary : Value} {od_law_ordinary an_law_ordinary : Option Addr} {sl_law_ordinary : Array (Option Value)}
    {oc_law_due kV_law_due dc_law_due pm_law_due cd_law_due ct_law_due : Value} {od_law_due an_law_due : Option Addr} {sl_law_due : Array (Option Value)}
    {oc_law_told kV_law_told dc_law_told pm_law_told cd_law_told ct_law_told : Value} {od_law_told an_law_told : Option Addr} {sl_law_told : Array (Option Value)}
    {oc_law_check_errors kV_law_check_errors dc_law_check_errors pm_law_check_errors cd_law_check_errors ct_law_check_errors : Value} {od_law_check_errors an_law_check_errors : Option Addr} {sl_law_check_errors : Array (Option Value)}
    {oc_law_check_great kV_law_check_great dc_law_check_great pm_law_check_great cd_law_check_great ct_law_check_great : Value} {od_law_check_great an_law_check_great : Option Addr} {sl_law_check_great : Array (Option Value)}
    {oc_law kV_law dc_law pm_law cd_law ct_law : Value} {od_law an_law : Option Addr} {sl_law : Array (Option Value)}
    (a_is_integer : PySem.W.nsIn K mainGlobals "is_integer" = some (some (.ref is_integer)))
    (a_is_count : PySem.W.nsIn K mainGlobals "is_count" = some (some (.ref is_count)))
    (a_is_rank : PySem.W.nsIn K mainGlobals "is_rank" = some (some (.ref is_rank)))
    (a_is_any_step : PySem.W.nsIn K mainGlobals "is_any_step" = some (some (.ref is_any_step)))
    (a_ordinary_step : PySem.W.nsIn K mainGlobals "ordinary_step" = some (some (.ref ordinary_step)))
    (a_resolved : PySem.W.nsIn K mainGlobals "resolved" = some (some (.ref resolved)))
    (a_law_pool : PySem.W.nsIn K mainGlobals "_law_pool" = some (some (.ref law_pool)))
    (a_law_take : PySem.W.nsIn K mainGlobals "_law_take" = some (some (.ref law_take)))
    (a_law_wide : PySem.W.nsIn K mainGlobals "_law_wide" = some (some (.ref law_wide)))
    (a_law_ordinary : PySem.W.nsIn K mainGlobals "_law_ordinary" = some (some (.ref law_ordinary)))
    (a_law_due : PySem.W.nsIn K mainGlobals "_law_due" = some (some (.ref law_due)))
    (a_law_told : PySem.W.nsIn K mainGlobals "_law_told" = some (some (.ref law_told)))
    (a_law_check_errors : PySem.W.nsIn K mainGlobals "_law_check_errors" = some (some (.ref law_check_errors)))
    (a_law_check_great : PySem.W.nsIn K mainGlobals "_law_check_great" = some (some (.ref law_check_great)))
    (a_law : PySem.W.nsIn K mainGlobals "law" = some (some (.ref law)))
    (a_RankError : PySem.W.nsIn K mainGlobals "RankError" = some (some (.ref RankError)))
    (a_InvalidStep : PySem.W.nsIn K mainGlobals "InvalidStep" = some (some (.ref InvalidStep)))
    (a_InvalidNumber : PySem.W.nsIn K mainGlobals "InvalidNumber" = some (some (.ref InvalidNumber)))
    (a_StepFailed : PySem.W.nsIn K mainGlobals "StepFailed" = some (some (.ref StepFailed)))
    (a_Sequence : PySem.W.nsIn K mainGlobals "Sequence" = some (some (.ref Sequence)))
    (at_Sequence___init__ : PySem.W.findIn K (.ref Sequence) "__init__" = some (some (.ref Sequence___init__)))
    (f_Sequence___init__ : PySem.W.isFn K (.ref Sequence___init__) = true)
    (pat_steps : PySem.W.findIn K (.ref Sequence) "steps" = some (some (.ref P_steps)))
    (rec_steps : PySem.W.recIn K P_steps "property" = some (.ref Sequence_steps :: rest_steps))
    (get_steps : PySem.W.specialIn K (.ref P_steps) "__get__" = some (some (.builtin "property.__get__")))
    (tak_steps : PySem.W.takesIn K (.ref P_steps) = some true)
    (at_is_step : PySem.W.findIn K (.ref Sequence) "is_step" = some (some (.ref S_is_step)))
    (rec_is_step : PySem.W.recIn K S_is_step "staticmethod" = some (.ref Sequence_is_step :: rest_is_step))
    (sty_is_step : PySem.W.typeIn K (.ref S_is_step) = some (.type "staticmethod"))
    (get_is_step : PySem.W.specialIn K (.ref S_is_step) "__get__" = some (some (.builtin "staticmethod.__get__")))
    (tak_is_step : PySem.W.takesIn K (.ref S_is_step) = some false)
    (cls_is_step : PySem.W.findCls K (.ref Sequence) (.type "type") "is_step" = some (.get (.builtin "staticmethod.__get__") (.ref S_is_step) .none (.ref Sequence)))
    (rds_Sequence : PySem.W.readsIn K Sequence (.type "type") = true)
    (rga_Sequence : PySem.W.specialIn K (.ref Sequence) "__getattribute__" = some (some (.builtin "type.__getattribute__")))
    (z_type : PySem.W.nsIn K mainGlobals "type" = some none)
    (z_int : PySem.W.nsIn K mainGlobals "int" = some none)
    (z_list : PySem.W.nsIn K mainGlobals "list" = some none)
    (z_tuple : PySem.W.nsIn K mainGlobals "tuple" = some none)
    (z_str : PySem.W.nsIn K mainGlobals "str" = some none)
    (z_len : PySem.W.nsIn K mainGlobals "len" = some none)
    (z_isinstance : PySem.W.nsIn K mainGlobals "isinstance" = some none)
    (z_abs : PySem.W.nsIn K mainGlobals "abs" = some none)
    (z_max : PySem.W.nsIn K mainGlobals "max" = some none)
    (z_min : PySem.W.nsIn K mainGlobals "min" = some none)
    (z_range : PySem.W.nsIn K mainGlobals "range" = some none)
    (z_repr : PySem.W.nsIn K mainGlobals "repr" = some none)
    (z_enumerate : PySem.W.nsIn K mainGlobals "enumerate" = some none)
    (z_RuntimeError : PySem.W.nsIn K mainGlobals "RuntimeError" = some none)
    (xl_InvalidStep : K.lookup InvalidStep = some (excClassObj nm_InvalidStep q_InvalidStep InvalidStep N_InvalidStep bs_InvalidStep [.ref RankError, .type "ValueError", .type "Exception", .type "BaseException", .type "object"] true sn_InvalidStep sub_InvalidStep ab_InvalidStep col_InvalidStep dd_InvalidStep e0_InvalidStep e1_InvalidStep e2_InvalidStep e3_InvalidStep e5_InvalidStep "ValueError.__new__"))
    (sa_InvalidStep : PySem.W.findIn K (.ref InvalidStep) "__setattr__" = some (some (.builtin "object.__setattr__")))
    (ex_InvalidStep : PySem.W.subIn K (.ref InvalidStep) (.type "BaseException") = some true)
    (ty_InvalidStep : PySem.W.typeIn K (.ref InvalidStep) = some (.type "type"))
    (kc_InvalidStep : PySem.W.keepIn K (.ref InvalidStep) = true)
    (in_InvalidStep : PySem.W.findIn K (.ref InvalidStep) "__init__" = some (some (.ref InvalidStep___init__)))
    (ti_InvalidStep : PySem.W.typeIn K (.ref InvalidStep___init__) = some (.type "function"))
    (no_InvalidStep : PySem.W.findIn K (.ref InvalidStep) "value" = some none)
    (ga_InvalidStep : PySem.W.findIn K (.ref InvalidStep) "__getattribute__" = some (some (.builtin "BaseException.__getattribute__")))
    (gg_InvalidStep : PySem.W.findIn K (.ref InvalidStep) "__getattr__" = some none)
    (hd_InvalidStep : PySem.W.hasDictIn K InvalidStep = true)
    (ha_InvalidStep : PySem.W.findIn K (.ref InvalidStep) "__class__" = some (some (.builtin "object.__class__")))
    (hm_InvalidStep : PySem.W.mroIn K InvalidStep (.type "object") = some true)
    (ic_InvalidStep : PySem.W.isClsIn K InvalidStep = true)
    (xl_InvalidNumber : K.lookup InvalidNumber = some (excClassObj nm_InvalidNumber q_InvalidNumber InvalidNumber N_InvalidNumber bs_InvalidNumber [.ref RankError, .type "ValueError", .type "Exception", .type "BaseException", .type "object"] true sn_InvalidNumber sub_InvalidNumber ab_InvalidNumber col_InvalidNumber dd_InvalidNumber e0_InvalidNumber e1_InvalidNumber e2_InvalidNumber e3_InvalidNumber e5_InvalidNumber "ValueError.__new__"))
    (sa_InvalidNumber : PySem.W.findIn K (.ref InvalidNumber) "__setattr__" = some (some (.builtin "object.__setattr__")))
    (ex_InvalidNumber : PySem.W.subIn K (.ref InvalidNumber) (.type "BaseException") = some true)
    (ty_InvalidNumber : PySem.W.typeIn K (.ref InvalidNumber) = some (.type "type"))
    (kc_InvalidNumber : PySem.W.keepIn K (.ref InvalidNumber) = true)
    (in_InvalidNumber : PySem.W.findIn K (.ref InvalidNumber) "__init__" = some (some (.ref InvalidNumber___init__)))
    (ti_InvalidNumber : PySem.W.typeIn K (.ref InvalidNumber___init__) = some (.type "function"))
    (no_InvalidNumber : PySem.W.findIn K (.ref InvalidNumber) "value" = some none)
    (ga_InvalidNumber : PySem.W.findIn K (.ref InvalidNumber) "__getattribute__" = some (some (.builtin "BaseException.__getattribute__")))
    (gg_InvalidNumber : PySem.W.findIn K (.ref InvalidNumber) "__getattr__" = some none)
    (hd_InvalidNumber : PySem.W.hasDictIn K InvalidNumber = true)
    (ha_InvalidNumber : PySem.W.findIn K (.ref InvalidNumber) "__class__" = some (some (.builtin "object.__class__")))
    (hm_InvalidNumber : PySem.W.mroIn K InvalidNumber (.type "object") = some true)
    (ic_InvalidNumber : PySem.W.isClsIn K InvalidNumber = true)
    (xl_StepFailed : K.lookup StepFailed = some (excClassObj nm_StepFailed q_StepFailed StepFailed N_StepFailed bs_StepFailed [.type "RuntimeError", .type "Exception", .type "BaseException", .type "object"] true sn_StepFailed sub_StepFailed ab_StepFailed col_StepFailed dd_StepFailed e0_StepFailed e1_StepFailed e2_StepFailed e3_StepFailed e5_StepFailed "RuntimeError.__new__"))
    (sa_StepFailed : PySem.W.findIn K (.ref StepFailed) "__setattr__" = some (some (.builtin "object.__setattr__")))
    (ex_StepFailed : PySem.W.subIn K (.ref StepFailed) (.type "BaseException") = some true)
    (ty_StepFailed : PySem.W.typeIn K (.ref StepFailed) = some (.type "type"))
    (kc_StepFailed : PySem.W.keepIn K (.ref StepFailed) = true)
    (in_StepFailed : PySem.W.findIn K (.ref StepFailed) "__init__" = some (some (.ref StepFailed___init__)))
    (ti_StepFailed : PySem.W.typeIn K (.ref StepFailed___init__) = some (.type "function"))
    (no_StepFailed : PySem.W.findIn K (.ref StepFailed) "index" = some none)
    (ga_StepFailed : PySem.W.findIn K (.ref StepFailed) "__getattribute__" = some (some (.builtin "BaseException.__getattribute__")))
    (gg_StepFailed : PySem.W.findIn K (.ref StepFailed) "__getattr__" = some none)
    (hd_StepFailed : PySem.W.hasDictIn K StepFailed = true)
    (ha_StepFailed : PySem.W.findIn K (.ref StepFailed) "__class__" = some (some (.builtin "object.__class__")))
    (hm_StepFailed : PySem.W.mroIn K StepFailed (.type "object") = some true)
    (ic_StepFailed : PySem.W.isClsIn K StepFailed = true)
    (l_is_integer : K.lookup is_integer = some ⟨oc_is_integer, od_is_integer, .func (PySem.W.fnOf "is_integer" "is_integer" (defArgs s_is_integer) (defBody s_is_integer) (defScope s_is_integer) .none kV_is_integer dc_is_integer pm_is_integer an_is_integer cd_is_integer ct_is_integer), sl_is_integer⟩)
    (c_is_integer : PySem.W.codeIn K cd_is_integer "is_integer" = true)
    (k_is_integer : PySem.W.keepIn K (.ref is_integer) = true)
    (l_is_count : K.lookup is_count = some ⟨oc_is_count, od_is_count, .func (PySem.W.fnOf "is_count" "is_count" (defArgs s_is_count) (defBody s_is_count) (defScope s_is_count) .none kV_is_count dc_is_count pm_is_count an_is_count cd_is_count ct_is_count), sl_is_count⟩)
    (c_is_count : PySem.W.codeIn K cd_is_count "is_count" = true)
    (k_is_count : PySem.W.keepIn K (.ref is_count) = true)
    (l_is_rank : K.lookup is_rank = some ⟨oc_is_rank, od_is_rank, .func (PySem.W.fnOf "is_rank" "is_rank" (defArgs s_is_rank) (defBody s_is_rank) (defScope s_is_rank) .none kV_is_rank dc_is_rank pm_is_rank an_is_rank cd_is_rank ct_is_rank), sl_is_rank⟩)
    (c_is_rank : PySem.W.codeIn K cd_is_rank "is_rank" = true)
    (k_is_rank : PySem.W.keepIn K (.ref is_rank) = true)
    (l_InvalidStep___init__ : K.lookup InvalidStep___init__ = some ⟨oc_InvalidStep___init__, od_InvalidStep___init__, .func (PySem.W.fnOf "__init__" "InvalidStep.__init__" (defArgs s_InvalidStep___init__) (defBody s_InvalidStep___init__) (defScope s_InvalidStep___init__) .none kV_InvalidStep___init__ dc_InvalidStep___init__ pm_InvalidStep___init__ an_InvalidStep___init__ cd_InvalidStep___init__ ct_InvalidStep___init__), sl_InvalidStep___init__⟩)
    (c_InvalidStep___init__ : PySem.W.codeIn K cd_InvalidStep___init__ "InvalidStep.__init__" = true)
    (k_InvalidStep___init__ : PySem.W.keepIn K (.ref InvalidStep___init__) = true)
    (l_InvalidNumber___init__ : K.lookup InvalidNumber___init__ = some ⟨oc_InvalidNumber___init__, od_InvalidNumber___init__, .func (PySem.W.fnOf "__init__" "InvalidNumber.__init__" (defArgs s_InvalidNumber___init__) (defBody s_InvalidNumber___init__) (defScope s_InvalidNumber___init__) .none kV_InvalidNumber___init__ dc_InvalidNumber___init__ pm_InvalidNumber___init__ an_InvalidNumber___init__ cd_InvalidNumber___init__ ct_InvalidNumber___init__), sl_InvalidNumber___init__⟩)
    (c_InvalidNumber___init__ : PySem.W.codeIn K cd_InvalidNumber___init__ "InvalidNumber.__init__" = true)
    (k_InvalidNumber___init__ : PySem.W.keepIn K (.ref InvalidNumber___init__) = true)
    (l_StepFailed___init__ : K.lookup StepFailed___init__ = some ⟨oc_StepFailed___init__, od_StepFailed___init__, .func (PySem.W.fnOf "__init__" "StepFailed.__init__" (defArgs s_StepFailed___init__) (defBody s_StepFailed___init__) (defScope s_StepFailed___init__) .none kV_StepFailed___init__ dc_StepFailed___init__ pm_StepFailed___init__ an_StepFailed___init__ cd_StepFailed___init__ ct_StepFailed___init__), sl_StepFailed___init__⟩)
    (c_StepFailed___init__ : PySem.W.codeIn K cd_StepFailed___init__ "StepFailed.__init__" = true)
    (k_StepFailed___init__ : PySem.W.keepIn K (.ref StepFailed___init__) = true)
    (l_Sequence___init__ : K.lookup Sequence___init__ = some ⟨oc_Sequence___init__, od_Sequence___init__, .func (PySem.W.fnOf "__init__" "Sequence.__init__" (defArgs s_Sequence___init__) (defBody s_Sequence___init__) (defScope s_Sequence___init__) .none kV_Sequence___init__ dc_Sequence___init__ pm_Sequence___init__ an_Sequence___init__ cd_Sequence___init__ ct_Sequence___init__), sl_Sequence___init__⟩)
    (c_Sequence___init__ : PySem.W.codeIn K cd_Sequence___init__ "Sequence.__init__" = true)
    (k_Sequence___init__ : PySem.W.keepIn K (.ref Sequence___init__) = true)
    (l_Sequence_is_step : K.lookup Sequence_is_step = some ⟨oc_Sequence_is_step, od_Sequence_is_step, .func (PySem.W.fnOf "is_step" "Sequence.is_step" (defArgs s_Sequence_is_step) (defBody s_Sequence_is_step) (defScope s_Sequence_is_step) .none kV_Sequence_is_step dc_Sequence_is_step pm_Sequence_is_step an_Sequence_is_step cd_Sequence_is_step ct_Sequence_is_step), sl_Sequence_is_step⟩)
    (c_Sequence_is_step : PySem.W.codeIn K cd_Sequence_is_step "Sequence.is_step" = true)
    (k_Sequence_is_step : PySem.W.keepIn K (.ref Sequence_is_step) = true)
    (l_Sequence_steps : K.lookup Sequence_steps = some ⟨oc_Sequence_steps, od_Sequence_steps, .func (PySem.W.fnOf "steps" "Sequence.steps" (defArgs s_Sequence_steps) (defBody s_Sequence_steps) (defScope s_Sequence_steps) .none kV_Sequence_steps dc_Sequence_steps pm_Sequence_steps an_Sequence_steps cd_Sequence_steps ct_Sequence_steps), sl_Sequence_steps⟩)
    (c_Sequence_steps : PySem.W.codeIn K cd_Sequence_steps "Sequence.steps" = true)
    (k_Sequence_steps : PySem.W.keepIn K (.ref Sequence_steps) = true)
    (l_is_any_step : K.lookup is_any_step = some ⟨oc_is_any_step, od_is_any_step, .func (PySem.W.fnOf "is_any_step" "is_any_step" (defArgs s_is_any_step) (defBody s_is_any_step) (defScope s_is_any_step) .none kV_is_any_step dc_is_any_step pm_is_any_step an_is_any_step cd_is_any_step ct_is_any_step), sl_is_any_step⟩)
    (c_is_any_step : PySem.W.codeIn K cd_is_any_step "is_any_step" = true)
    (k_is_any_step : PySem.W.keepIn K (.ref is_any_step) = true)
    (l_ordinary_step : K.lookup ordinary_step = some ⟨oc_ordinary_step, od_ordinary_step, .func (PySem.W.fnOf "ordinary_step" "ordinary_step" (defArgs s_ordinary_step) (defBody s_ordinary_step) (defScope s_ordinary_step) .none kV_ordinary_step dc_ordinary_step pm_ordinary_step an_ordinary_step cd_ordinary_step ct_ordinary_step), sl_ordinary_step⟩)
    (c_ordinary_step : PySem.W.codeIn K cd_ordinary_step "ordinary_step" = true)
    (k_ordinary_step : PySem.W.keepIn K (.ref ordinary_step) = true)
    (l_resolved : K.lookup resolved = some ⟨oc_resolved, od_resolved, .func (PySem.W.fnOf "resolved" "resolved" (defArgs s_resolved) (defBody s_resolved) (defScope s_resolved) .none kV_resolved dc_resolved pm_resolved an_resolved cd_resolved ct_resolved), sl_resolved⟩)
    (c_resolved : PySem.W.codeIn K cd_resolved "resolved" = true)
    (k_resolved : PySem.W.keepIn K (.ref resolved) = true)
    (l_law_pool : K.lookup law_pool = some ⟨oc_law_pool, od_law_pool, .func (PySem.W.fnOf "_law_pool" "_law_pool" (defArgs s_law_pool) (defBody s_law_pool) (defScope s_law_pool) .none kV_law_pool dc_law_pool pm_law_pool an_law_pool cd_law_pool ct_law_pool), sl_law_pool⟩)
    (c_law_pool : PySem.W.codeIn K cd_law_pool "_law_pool" = true)
    (k_law_pool : PySem.W.keepIn K (.ref law_pool) = true)
    (l_law_take : K.lookup law_take = some ⟨oc_law_take, od_law_take, .func (PySem.W.fnOf "_law_take" "_law_take" (defArgs s_law_take) (defBody s_law_take) (defScope s_law_take) .none kV_law_take dc_law_take pm_law_take an_law_take cd_law_take ct_law_take), sl_law_take⟩)
    (c_law_take : PySem.W.codeIn K cd_law_take "_law_take" = true)
    (k_law_take : PySem.W.keepIn K (.ref law_take) = true)
    (l_law_wide : K.lookup law_wide = some ⟨oc_law_wide, od_law_wide, .func (PySem.W.fnOf "_law_wide" "_law_wide" (defArgs s_law_wide) (defBody s_law_wide) (defScope s_law_wide) .none kV_law_wide dc_law_wide pm_law_wide an_law_wide cd_law_wide ct_law_wide), sl_law_wide⟩)
    (c_law_wide : PySem.W.codeIn K cd_law_wide "_law_wide" = true)
    (k_law_wide : PySem.W.keepIn K (.ref law_wide) = true)
    (l_law_ordinary : K.lookup law_ordinary = some ⟨oc_law_ordinary, od_law_ordinary, .func (PySem.W.fnOf "_law_ordinary" "_law_ordinary" (defArgs s_law_ordinary) (defBody s_law_ordinary) (defScope s_law_ordinary) .none kV_law_ordinary dc_law_ordinary pm_law_ordinary an_law_ordinary cd_law_ordinary ct_law_ordinary), sl_law_ordinary⟩)
    (c_law_ordinary : PySem.W.codeIn K cd_law_ordinary "_law_ordinary" = true)
    (k_law_ordinary : PySem.W.keepIn K (.ref law_ordinary) = true)
    (l_law_due : K.lookup law_due = some ⟨oc_law_due, od_law_due, .func (PySem.W.fnOf "_law_due" "_law_due" (defArgs s_law_due) (defBody s_law_due) (defScope s_law_due) .none kV_law_due dc_law_due pm_law_due an_law_due cd_law_due ct_law_due), sl_law_due⟩)
    (c_law_due : PySem.W.codeIn K cd_law_due "_law_due" = true)
    (k_law_due : PySem.W.keepIn K (.ref law_due) = true)
    (l_law_told : K.lookup law_told = some ⟨oc_law_told, od_law_told, .func (PySem.W.fnOf "_law_told" "_law_told" (defArgs s_law_told) (defBody s_law_told) (defScope s_law_told) .none kV_law_told dc_law_told pm_law_told an_law_told cd_law_told ct_law_told), sl_law_told⟩)
    (c_law_told : PySem.W.codeIn K cd_law_told "_law_told" = true)
    (k_law_told : PySem.W.keepIn K (.ref law_told) = true)
    (l_law_check_errors : K.lookup law_check_errors = some ⟨oc_law_check_errors, od_law_check_errors, .func (PySem.W.fnOf "_law_check_errors" "_law_check_errors" (defArgs s_law_check_errors) (defBody s_law_check_errors) (defScope s_law_check_errors) .none kV_law_check_errors dc_law_check_errors pm_law_check_errors an_law_check_errors cd_law_check_errors ct_law_check_errors), sl_law_check_errors⟩)
    (c_law_check_errors : PySem.W.codeIn K cd_law_check_errors "_law_check_errors" = true)
    (k_law_check_errors : PySem.W.keepIn K (.ref law_check_errors) = true)
    (l_law_check_great : K.lookup law_check_great = some ⟨oc_law_check_great, od_law_check_great, .func (PySem.W.fnOf "_law_check_great" "_law_check_great" (defArgs s_law_check_great) (defBody s_law_check_great) (defScope s_law_check_great) .none kV_law_check_great dc_law_check_great pm_law_check_great an_law_check_great cd_law_check_great ct_law_check_great), sl_law_check_great⟩)
    (c_law_check_great : PySem.W.codeIn K cd_law_check_great "_law_check_great" = true)
    (k_law_check_great : PySem.W.keepIn K (.ref law_check_great) = true)
    (l_law : K.lookup law = some ⟨oc_law, od_law, .func (PySem.W.fnOf "law" "law" (defArgs s_law) (defBody s_law) (defScope s_law) .none kV_law dc_law pm_law an_law cd_law ct_law), sl_law⟩)
    (c_law : PySem.W.codeIn K cd_law "law" = true)
    (k_law : PySem.W.keepIn K (.ref law) = true)
    (hn : PySem.W.specialIn K (.builtin "object.__class__") "__get__" = some (some (.builtin "getset_descriptor.__get__")))
    (htk : PySem.W.takesIn K (.builtin "object.__class__") = some true)
    (pg_Sequence : PySem.W.plainGet K Sequence Str.empty = true)
    (hd_Sequence : PySem.W.hasDictIn K Sequence = true)
    (po_Sequence : PySem.W.plainOver K Sequence = true)
    (sa_Sequence : PySem.W.findIn K (.ref Sequence) "__setattr__" = some (some (.builtin "object.__setattr__")))
    (mkI_Sequence : PySem.W.makesIn K Sequence = true)
    (kc_Sequence : PySem.W.keepIn K (.ref Sequence) = true)
    (ha_Sequence : PySem.W.findIn K (.ref Sequence) "__class__" = some (some (.builtin "object.__class__")))
    (hm_Sequence : PySem.W.mroIn K Sequence (.type "object") = some true)
    (ic_Sequence : PySem.W.isClsIn K Sequence = true)
    (ty_Sequence : PySem.W.typeIn K (.ref Sequence) = some (.type "type"))
    (n_steps : PySem.W.findIn K (.ref Sequence) "_steps" = some none)
    (s_NN : PySem.W.subIn K (.ref InvalidNumber) (.ref InvalidNumber) = some true)
    (s_SN : PySem.W.subIn K (.ref InvalidStep) (.ref InvalidNumber) = some false)
    (s_SS : PySem.W.subIn K (.ref InvalidStep) (.ref InvalidStep) = some true)
    (s_FN : PySem.W.subIn K (.ref StepFailed) (.ref InvalidNumber) = some false)
    (s_FS : PySem.W.subIn K (.ref StepFailed) (.ref InvalidStep) = some false)
    (s_FF : PySem.W.subIn K (.ref StepFailed) (.ref StepFailed) = some true)
    (s_NR : PySem.W.subIn K (.ref InvalidNumber) (.ref RankError) = some true)
    (s_SR : PySem.W.subIn K (.ref InvalidStep) (.ref RankError) = some true)
    (s_FR : PySem.W.subIn K (.ref StepFailed) (.ref RankError) = some false)
    (ic_R : PySem.W.isClsIn K RankError = true)
    (ty_R : PySem.W.typeIn K (.ref RankError) = some (.type "type")) :
    ∀ base : Heap, K.In base → base.Ns mainGlobals mg → FnG l.prog w K mg base CX0 14 fa (spLaw K) := by
  have e := hfa.symm.trans (PySem.W.mg_of X G a_law)
  cases e
  have T : Txt K mg { is_integer := is_integer, is_count := is_count, is_rank := is_rank, InvalidStep___init__ := InvalidStep___init__, InvalidNumber___init__ := InvalidNumber___init__, StepFailed___init__ := StepFailed___init__, Sequence___init__ := Sequence___init__, Sequence_is_step := Sequence_is_step, Sequence_steps := Sequence_steps, is_any_step := is_any_step, ordinary_step := ordinary_step, resolved := resolved, law_pool := law_pool, law_take := law_take, law_wide := law_wide, law_ordinary := law_ordinary, law_due := law_due, law_told := law_told, law_check_errors := law_check_errors, law_check_great := law_check_great, law := fa, RankError := RankError, InvalidStep := InvalidStep, InvalidNumber := InvalidNumber, StepFailed := StepFailed, Sequence := Sequence, P_steps := P_steps, S_is_step := S_is_step } :=
    { g_is_integer := PySem.W.mg_of X G a_is_integer,
      k_is_integer := k_is_integer,
      F_is_integer := ⟨_, fun_mk (st := s_is_integer) l_is_integer c_is_integer k_is_integer⟩,
      g_is_count := PySem.W.mg_of X G a_is_count,
      k_is_count := k_is_count,
      F_is_count := ⟨_, fun_mk (st := s_is_count) l_is_count c_is_count k_is_count⟩,
      g_is_rank := PySem.W.mg_of X G a_is_rank,
      k_is_rank := k_is_rank,
      F_is_rank := ⟨_, fun_mk (st := s_is_rank) l_is_rank c_is_rank k_is_rank⟩,
      F_InvalidStep___init__ := ⟨_, fun_mk (st := s_InvalidStep___init__) l_InvalidStep___init__ c_InvalidStep___init__ k_InvalidStep___init__⟩,
      F_InvalidNumber___init__ := ⟨_, fun_mk (st := s_InvalidNumber___init__) l_InvalidNumber___init__ c_InvalidNumber___init__ k_InvalidNumber___init__⟩,
      F_StepFailed___init__ := ⟨_, fun_mk (st := s_StepFailed___init__) l_StepFailed___init__ c_StepFailed___init__ k_StepFailed___init__⟩,
      F_Sequence___init__ := ⟨_, fun_mk (st := s_Sequence___init__) l_Sequence___init__ c_Sequence___init__ k_Sequence___init__⟩,
      F_Sequence_is_step := ⟨_, fun_mk (st := s_Sequence_is_step) l_Sequence_is_step c_Sequence_is_step k_Sequence_is_step⟩,
      F_Sequence_steps := ⟨_, fun_mk (st := s_Sequence_steps) l_Sequence_steps c_Sequence_steps k_Sequence_steps⟩,
      g_is_any_step := PySem.W.mg_of X G a_is_any_step,
      k_is_any_step := k_is_any_step,
      F_is_any_step := ⟨_, fun_mk (st := s_is_any_step) l_is_any_step c_is_any_step k_is_any_step⟩,
      g_ordinary_step := PySem.W.mg_of X G a_ordinary_step,
      k_ordinary_step := k_ordinary_step,
      F_ordinary_step := ⟨_, fun_mk (st := s_ordinary_step) l_ordinary_step c_ordinary_step k_ordinary_step⟩,
      g_resolved := PySem.W.mg_of X G a_resolved,
      k_resolved := k_resolved,
      F_resolved := ⟨_, fun_mk (st := s_resolved) l_resolved c_resolved k_resolved⟩,
      g_law_pool := PySem.W.mg_of X G a_law_pool,
      k_law_pool := k_law_pool,
      F_law_pool := ⟨_, fun_mk (st := s_law_pool) l_law_pool c_law_pool k_law_pool⟩,
      g_law_take := PySem.W.mg_of X G a_law_take,
      k_law_take := k_law_take,
      F_law_take := ⟨_, fun_mk (st := s_law_take) l_law_take c_law_take k_law_take⟩,
      g_law_wide := PySem.W.mg_of X G a_law_wide,
      k_law_wide := k_law_wide,
      F_law_wide := ⟨_, fun_mk (st := s_law_wide) l_law_wide c_law_wide k_law_wide⟩,
      g_law_ordinary := PySem.W.mg_of X G a_law_ordinary,
      k_law_ordinary := k_law_ordinary,
      F_law_ordinary := ⟨_, fun_mk (st := s_law_ordinary) l_law_ordinary c_law_ordinary k_law_ordinary⟩,
      g_law_due := PySem.W.mg_of X G a_law_due,
      k_law_due := k_law_due,
      F_law_due := ⟨_, fun_mk (st := s_law_due) l_law_due c_law_due k_law_due⟩,
      g_law_told := PySem.W.mg_of X G a_law_told,
      k_law_told := k_law_told,
      F_law_told := ⟨_, fun_mk (st := s_law_told) l_law_told c_law_told k_law_told⟩,
      g_law_check_errors := PySem.W.mg_of X G a_law_check_errors,
      k_law_check_errors := k_law_check_errors,
      F_law_check_errors := ⟨_, fun_mk (st := s_law_check_errors) l_law_check_errors c_law_check_errors k_law_check_errors⟩,
      g_law_check_great := PySem.W.mg_of X G a_law_check_great,
      k_law_check_great := k_law_check_great,
      F_law_check_great := ⟨_, fun_mk (st := s_law_check_great) l_law_check_great c_law_check_great k_law_check_great⟩,
      g_law := PySem.W.mg_of X G a_law,
      k_law := k_law,
      F_law := ⟨_, fun_mk (st := s_law) l_law c_law k_law⟩,
      g_RankError := PySem.W.mg_of X G a_RankError,
      g_InvalidStep := PySem.W.mg_of X G a_InvalidStep,
      g_InvalidNumber := PySem.W.mg_of X G a_InvalidNumber,
      g_StepFailed := PySem.W.mg_of X G a_StepFailed,
      g_Sequence := PySem.W.mg_of X G a_Sequence,
      p_steps := ⟨pat_steps, get_steps, tak_steps, ⟨_, rec_steps⟩⟩,
      sta_is_step := ⟨cls_is_step, ⟨_, rec_is_step⟩, k_Sequence_is_step⟩,
      sti_is_step := ⟨pg_Sequence, ic_Sequence, at_is_step, sty_is_step, get_is_step, tak_is_step, by decide +kernel, ⟨_, rec_is_step⟩, k_Sequence_is_step⟩,
      rd_Sequence := ⟨rds_Sequence, rga_Sequence⟩,
      b_type := PySem.W.mg_none_of X G z_type,
      b_int := PySem.W.mg_none_of X G z_int,
      b_list := PySem.W.mg_none_of X G z_list,
      b_tuple := PySem.W.mg_none_of X G z_tuple,
      b_str := PySem.W.mg_none_of X G z_str,
      b_len := PySem.W.mg_none_of X G z_len,
      b_isinstance := PySem.W.mg_none_of X G z_isinstance,
      b_abs := PySem.W.mg_none_of X G z_abs,
      b_max := PySem.W.mg_none_of X G z_max,
      b_min := PySem.W.mg_none_of X G z_min,
      b_range := PySem.W.mg_none_of X G z_range,
      b_repr := PySem.W.mg_none_of X G z_repr,
      b_enumerate := PySem.W.mg_none_of X G z_enumerate,
      b_RuntimeError := PySem.W.mg_none_of X G z_RuntimeError,
      e_InvalidStep := ⟨⟨⟨_, _, _, _, _, _, _, _, _, _, _, _, _, _, _, xl_InvalidStep, show PySem.HandSPX.refsVE [.type "ValueError", .type "Exception", .type "BaseException", .type "object"] = true by decide +kernel⟩, sa_InvalidStep, ex_InvalidStep, ty_InvalidStep, kc_InvalidStep⟩, in_InvalidStep, ti_InvalidStep, no_InvalidStep, ga_InvalidStep, gg_InvalidStep, hd_InvalidStep, ha_InvalidStep, hn, htk, hm_InvalidStep⟩,
      e_InvalidNumber := ⟨⟨⟨_, _, _, _, _, _, _, _, _, _, _, _, _, _, _, xl_InvalidNumber, show PySem.HandSPX.refsVE [.type "ValueError", .type "Exception", .type "BaseException", .type "object"] = true by decide +kernel⟩, sa_InvalidNumber, ex_InvalidNumber, ty_InvalidNumber, kc_InvalidNumber⟩, in_InvalidNumber, ti_InvalidNumber, no_InvalidNumber, ga_InvalidNumber, gg_InvalidNumber, hd_InvalidNumber, ha_InvalidNumber, hn, htk, hm_InvalidNumber⟩,
      e_StepFailed := ⟨bx_Runtime, ⟨⟨_, _, _, _, [], _, _, _, _, _, _, _, _, _, _, xl_StepFailed⟩, sa_StepFailed, ex_StepFailed, ty_StepFailed, kc_StepFailed⟩, in_StepFailed, ti_StepFailed, no_StepFailed, ga_StepFailed, gg_StepFailed, hd_StepFailed, ha_StepFailed, hn, htk, hm_StepFailed⟩,
      n_steps := n_steps,
      cl_S := ⟨pg_Sequence, hd_Sequence, po_Sequence, sa_Sequence⟩,
      M_Sequence := ⟨mkI_Sequence, at_Sequence___init__, f_Sequence___init__, kc_Sequence⟩,
      isi_S := ⟨⟨pg_Sequence, hd_Sequence, po_Sequence, sa_Sequence⟩, ha_Sequence, hn, htk, hm_Sequence, kit_self⟩,
      ty_Sequence := ty_Sequence,
      x_NN := exm_of ex_InvalidNumber ic_InvalidNumber ty_InvalidNumber s_NN,
      x_SN := exm_of ex_InvalidNumber ic_InvalidNumber ty_InvalidNumber s_SN,
      x_SS := exm_of ex_InvalidStep ic_InvalidStep ty_InvalidStep s_SS,
      x_FN := exm_of ex_InvalidNumber ic_InvalidNumber ty_InvalidNumber s_FN,
      x_FS := exm_of ex_InvalidStep ic_InvalidStep ty_InvalidStep s_FS,
      x_FF := exm_of ex_StepFailed ic_StepFailed ty_StepFailed s_FF,
      r_NR := kit_sub ic_R ty_R s_NR,
      r_SR := kit_sub ic_R ty_R s_SR,
      r_FR := kit_subB ic_R ty_R s_FR s_FF,
      r_FT := kit_t (by decide +kernel) (mro_of xl_StepFailed (.type "RuntimeError")) rfl }
  exact fun base _ _ => ok_law T (fun_mk (st := s_law) l_law c_law k_law)
theorem walk {l : PySem.W.OpenLaw} {q : Program} {loose : List Str} {XP : (Str → Option Value) → Heap → Prop} {YP : World → Heap → Prop} {d : DefRec} {K : Params → PySem.W.Frag} (hn : l.most = some 63) (hdf : d.params.defaults = [])
    (hY : ∀ (w : World) (h : Heap), YP w h → (K w.params).In h)
    (F : ∀ (w : World) (mg : Str → Option Value) (fa : Addr) (h : Heap), (K w.params).In h → h.Ns mainGlobals mg → mg d.name = some (.ref fa) →
      ∀ base : Heap, (K w.params).In base → base.Ns mainGlobals mg → FnG l.prog w (K w.params) mg base CX0 14 fa (spLaw (K w.params))) :
    PySem.W.WalkO q loose XP YP l.row.toRowW d [] (fun f vs => PySem.call f vs) :=
  walkG (n := 63) (k := 14) (CX := fun _ => CX0) (sp := fun w => spLaw (K w.params)) hn (by decide) hdf ⟨rfl, by decide, by decide⟩ hY F (fun _ _ a ns hl _ hS => ⟨a, ns, rfl, hS, hl, fun _ => rfl⟩) fun _ _ _ _ _ z => z
end
end K41
open PySem PySem.W PyProof.Rows
set_option maxRecDepth 100000 in
set_option maxHeartbeats 0 in
theorem PySem.Challenge.cw_rankeffect_k41_steps_from_the_top_holds : PySem.Challenge.rw_rankeffect_k41_steps_from_the_top.Holds := by
  w_on; o_law; k_head; (case hw => w_witness2)
  k_fill
  refine K41.walk (l := PySem.Challenge.rw_rankeffect_k41_steps_from_the_top) rfl rfl (fun w h Y => PySem.W.kIn_of Y) ?F
  case F =>
    intro w mg fa h KX G hmg
    refine' K41.all_mk KX G hmg ?a_is_integer ?a_is_count ?a_is_rank ?a_is_any_step ?a_ordinary_step ?a_resolved ?a_law_pool ?a_law_take ?a_law_wide ?a_law_ordinary ?a_law_due ?a_law_told ?a_law_check_errors ?a_law_check_great ?a_law ?a_RankError ?a_InvalidStep ?a_InvalidNumber ?a_StepFailed ?a_Sequence ?at_Sequence___init__ ?f_Sequence___init__ ?pat_steps ?rec_steps ?get_steps ?tak_steps ?at_is_step ?rec_is_step ?sty_is_step ?get_is_step ?tak_is_step ?cls_is_step ?rds_Sequence ?rga_Sequence ?z_type ?z_int ?z_list ?z_tuple ?z_str ?z_len ?z_isinstance ?z_abs ?z_max ?z_min ?z_range ?z_repr ?z_enumerate ?z_RuntimeError ?xl_InvalidStep ?sa_InvalidStep ?ex_InvalidStep ?ty_InvalidStep ?kc_InvalidStep ?in_InvalidStep ?ti_InvalidStep ?no_InvalidStep ?ga_InvalidStep ?gg_InvalidStep ?hd_InvalidStep ?ha_InvalidStep ?hm_InvalidStep ?ic_InvalidStep ?xl_InvalidNumber ?sa_InvalidNumber ?ex_InvalidNumber ?ty_InvalidNumber ?kc_InvalidNumber ?in_InvalidNumber ?ti_InvalidNumber ?no_InvalidNumber ?ga_InvalidNumber ?gg_InvalidNumber ?hd_InvalidNumber ?ha_InvalidNumber ?hm_InvalidNumber ?ic_InvalidNumber ?xl_StepFailed ?sa_StepFailed ?ex_StepFailed ?ty_StepFailed ?kc_StepFailed ?in_StepFailed ?ti_StepFailed ?no_StepFailed ?ga_StepFailed ?gg_StepFailed ?hd_StepFailed ?ha_StepFailed ?hm_StepFailed ?ic_StepFailed ?l_is_integer ?c_is_integer ?k_is_integer ?l_is_count ?c_is_count ?k_is_count ?l_is_rank ?c_is_rank ?k_is_rank ?l_InvalidStep___init__ ?c_InvalidStep___init__ ?k_InvalidStep___init__ ?l_InvalidNumber___init__ ?c_InvalidNumber___init__ ?k_InvalidNumber___init__ ?l_StepFailed___init__ ?c_StepFailed___init__ ?k_StepFailed___init__ ?l_Sequence___init__ ?c_Sequence___init__ ?k_Sequence___init__ ?l_Sequence_is_step ?c_Sequence_is_step ?k_Sequence_is_step ?l_Sequence_steps ?c_Sequence_steps ?k_Sequence_steps ?l_is_any_step ?c_is_any_step ?k_is_any_step ?l_ordinary_step ?c_ordinary_step ?k_ordinary_step ?l_resolved ?c_resolved ?k_resolved ?l_law_pool ?c_law_pool ?k_law_pool ?l_law_take ?c_law_take ?k_law_take ?l_law_wide ?c_law_wide ?k_law_wide ?l_law_ordinary ?c_law_ordinary ?k_law_ordinary ?l_law_due ?c_law_due ?k_law_due ?l_law_told ?c_law_told ?k_law_told ?l_law_check_errors ?c_law_check_errors ?k_law_check_errors ?l_law_check_great ?c_law_check_great ?k_law_check_great ?l_law ?c_law ?k_law ?hn ?htk ?pg_Sequence ?hd_Sequence ?po_Sequence ?sa_Sequence ?mkI_Sequence ?kc_Sequence ?ha_Sequence ?hm_Sequence ?ic_Sequence ?ty_Sequence ?n_steps ?s_NN ?s_SN ?s_SS ?s_FN ?s_FS ?s_FF ?s_NR ?s_SR ?s_FR ?ic_R ?ty_R
    (case a_is_integer => first | k_is | rfl)
    (case a_is_count => first | k_is | rfl)
    (case a_is_rank => first | k_is | rfl)
    (case a_is_any_step => first | k_is | rfl)
    (case a_ordinary_step => first | k_is | rfl)
    (case a_resolved => first | k_is | rfl)
    (case a_law_pool => first | k_is | rfl)
    (case a_law_take => first | k_is | rfl)
    (case a_law_wide => first | k_is | rfl)
    (case a_law_ordinary => first | k_is | rfl)
    (case a_law_due => first | k_is | rfl)
    (case a_law_told => first | k_is | rfl)
    (case a_law_check_errors => first | k_is | rfl)
    (case a_law_check_great => first | k_is | rfl)
    (case a_law => first | k_is | rfl)
    (case a_RankError => first | k_is | rfl)
    (case a_InvalidStep => first | k_is | rfl)
    (case a_InvalidNumber => first | k_is | rfl)
    (case a_StepFailed => first | k_is | rfl)
    (case a_Sequence => first | k_is | rfl)
    (case at_Sequence___init__ => first | k_is | rfl)
    (case f_Sequence___init__ => first | k_is | rfl)
    (case pat_steps => first | k_is | rfl)
    (case rec_steps => first | k_is | rfl)
    (case get_steps => first | k_is | rfl)
    (case tak_steps => first | k_is | rfl)
    (case at_is_step => first | k_is | rfl)
    (case rec_is_step => first | k_is | rfl)
    (case sty_is_step => first | k_is | rfl)
    (case get_is_step => first | k_is | rfl)
    (case tak_is_step => first | k_is | rfl)
    (case cls_is_step => first | k_is | rfl)
    (case rds_Sequence => first | k_is | rfl)
    (case rga_Sequence => first | k_is | rfl)
    (case z_type => first | k_is | rfl)
    (case z_int => first | k_is | rfl)
    (case z_list => first | k_is | rfl)
    (case z_tuple => first | k_is | rfl)
    (case z_str => first | k_is | rfl)
    (case z_len => first | k_is | rfl)
    (case z_isinstance => first | k_is | rfl)
    (case z_abs => first | k_is | rfl)
    (case z_max => first | k_is | rfl)
    (case z_min => first | k_is | rfl)
    (case z_range => first | k_is | rfl)
    (case z_repr => first | k_is | rfl)
    (case z_enumerate => first | k_is | rfl)
    (case z_RuntimeError => first | k_is | rfl)
    (case xl_InvalidStep => first | k_is | rfl)
    (case sa_InvalidStep => first | k_is | rfl)
    (case ex_InvalidStep => first | k_is | rfl)
    (case ty_InvalidStep => first | k_is | rfl)
    (case kc_InvalidStep => first | k_is | rfl)
    (case in_InvalidStep => first | k_is | rfl)
    (case ti_InvalidStep => first | k_is | rfl)
    (case no_InvalidStep => first | k_is | rfl)
    (case ga_InvalidStep => first | k_is | rfl)
    (case gg_InvalidStep => first | k_is | rfl)
    (case hd_InvalidStep => first | k_is | rfl)
    (case ha_InvalidStep => first | k_is | rfl)
    (case hm_InvalidStep => first | k_is | rfl)
    (case ic_InvalidStep => first | k_is | rfl)
    (case xl_InvalidNumber => first | k_is | rfl)
    (case sa_InvalidNumber => first | k_is | rfl)
    (case ex_InvalidNumber => first | k_is | rfl)
    (case ty_InvalidNumber => first | k_is | rfl)
    (case kc_InvalidNumber => first | k_is | rfl)
    (case in_InvalidNumber => first | k_is | rfl)
    (case ti_InvalidNumber => first | k_is | rfl)
    (case no_InvalidNumber => first | k_is | rfl)
    (case ga_InvalidNumber => first | k_is | rfl)
    (case gg_InvalidNumber => first | k_is | rfl)
    (case hd_InvalidNumber => first | k_is | rfl)
    (case ha_InvalidNumber => first | k_is | rfl)
    (case hm_InvalidNumber => first | k_is | rfl)
    (case ic_InvalidNumber => first | k_is | rfl)
    (case xl_StepFailed => first | k_is | rfl)
    (case sa_StepFailed => first | k_is | rfl)
    (case ex_StepFailed => first | k_is | rfl)
    (case ty_StepFailed => first | k_is | rfl)
    (case kc_StepFailed => first | k_is | rfl)
    (case in_StepFailed => first | k_is | rfl)
    (case ti_StepFailed => first | k_is | rfl)
    (case no_StepFailed => first | k_is | rfl)
    (case ga_StepFailed => first | k_is | rfl)
    (case gg_StepFailed => first | k_is | rfl)
    (case hd_StepFailed => first | k_is | rfl)
    (case ha_StepFailed => first | k_is | rfl)
    (case hm_StepFailed => first | k_is | rfl)
    (case ic_StepFailed => first | k_is | rfl)
    (case l_is_integer => first | k_is | rfl)
    (case c_is_integer => first | k_is | rfl)
    (case k_is_integer => first | k_is | rfl)
    (case l_is_count => first | k_is | rfl)
    (case c_is_count => first | k_is | rfl)
    (case k_is_count => first | k_is | rfl)
    (case l_is_rank => first | k_is | rfl)
    (case c_is_rank => first | k_is | rfl)
    (case k_is_rank => first | k_is | rfl)
    (case l_InvalidStep___init__ => first | k_is | rfl)
    (case c_InvalidStep___init__ => first | k_is | rfl)
    (case k_InvalidStep___init__ => first | k_is | rfl)
    (case l_InvalidNumber___init__ => first | k_is | rfl)
    (case c_InvalidNumber___init__ => first | k_is | rfl)
    (case k_InvalidNumber___init__ => first | k_is | rfl)
    (case l_StepFailed___init__ => first | k_is | rfl)
    (case c_StepFailed___init__ => first | k_is | rfl)
    (case k_StepFailed___init__ => first | k_is | rfl)
    (case l_Sequence___init__ => first | k_is | rfl)
    (case c_Sequence___init__ => first | k_is | rfl)
    (case k_Sequence___init__ => first | k_is | rfl)
    (case l_Sequence_is_step => first | k_is | rfl)
    (case c_Sequence_is_step => first | k_is | rfl)
    (case k_Sequence_is_step => first | k_is | rfl)
    (case l_Sequence_steps => first | k_is | rfl)
    (case c_Sequence_steps => first | k_is | rfl)
    (case k_Sequence_steps => first | k_is | rfl)
    (case l_is_any_step => first | k_is | rfl)
    (case c_is_any_step => first | k_is | rfl)
    (case k_is_any_step => first | k_is | rfl)
    (case l_ordinary_step => first | k_is | rfl)
    (case c_ordinary_step => first | k_is | rfl)
    (case k_ordinary_step => first | k_is | rfl)
    (case l_resolved => first | k_is | rfl)
    (case c_resolved => first | k_is | rfl)
    (case k_resolved => first | k_is | rfl)
    (case l_law_pool => first | k_is | rfl)
    (case c_law_pool => first | k_is | rfl)
    (case k_law_pool => first | k_is | rfl)
    (case l_law_take => first | k_is | rfl)
    (case c_law_take => first | k_is | rfl)
    (case k_law_take => first | k_is | rfl)
    (case l_law_wide => first | k_is | rfl)
    (case c_law_wide => first | k_is | rfl)
    (case k_law_wide => first | k_is | rfl)
    (case l_law_ordinary => first | k_is | rfl)
    (case c_law_ordinary => first | k_is | rfl)
    (case k_law_ordinary => first | k_is | rfl)
    (case l_law_due => first | k_is | rfl)
    (case c_law_due => first | k_is | rfl)
    (case k_law_due => first | k_is | rfl)
    (case l_law_told => first | k_is | rfl)
    (case c_law_told => first | k_is | rfl)
    (case k_law_told => first | k_is | rfl)
    (case l_law_check_errors => first | k_is | rfl)
    (case c_law_check_errors => first | k_is | rfl)
    (case k_law_check_errors => first | k_is | rfl)
    (case l_law_check_great => first | k_is | rfl)
    (case c_law_check_great => first | k_is | rfl)
    (case k_law_check_great => first | k_is | rfl)
    (case l_law => first | k_is | rfl)
    (case c_law => first | k_is | rfl)
    (case k_law => first | k_is | rfl)
    (case hn => first | k_is | rfl)
    (case htk => first | k_is | rfl)
    (case pg_Sequence => first | k_is | rfl)
    (case hd_Sequence => first | k_is | rfl)
    (case po_Sequence => first | k_is | rfl)
    (case sa_Sequence => first | k_is | rfl)
    (case mkI_Sequence => first | k_is | rfl)
    (case kc_Sequence => first | k_is | rfl)
    (case ha_Sequence => first | k_is | rfl)
    (case hm_Sequence => first | k_is | rfl)
    (case ic_Sequence => first | k_is | rfl)
    (case ty_Sequence => first | k_is | rfl)
    (case n_steps => first | k_is | rfl)
    (case s_NN => first | k_is | rfl)
    (case s_SN => first | k_is | rfl)
    (case s_SS => first | k_is | rfl)
    (case s_FN => first | k_is | rfl)
    (case s_FS => first | k_is | rfl)
    (case s_FF => first | k_is | rfl)
    (case s_NR => first | k_is | rfl)
    (case s_SR => first | k_is | rfl)
    (case s_FR => first | k_is | rfl)
    (case ic_R => first | k_is | rfl)
    (case ty_R => first | k_is | rfl)
