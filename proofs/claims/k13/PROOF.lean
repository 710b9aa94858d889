import PyProof.Rows.All
import Wide.All
import OpenK.AllK
import Wide.FinOn
import HandS.ForMost
import HandS.ForExc
import HandS.Star
import HandS.SlotsOwn
import HandS.Zip
import HandS.SortInts
import HandS.Property
import HandS.TupAny
import HandS.IsInst
import PyProof.LongRange
import PyProof.FactsAll.object_2
import KE.GoesMore
import KE.GoesEnum
import HandS.Iter
import PyProof.TypeEq
import HandS.Codes
import HandS.NoneIn
import KE.KEqSeq
import HandS.ExcInit
import HandS.ExcField
import HandS.ExcIs
import HandS.WordsExc
import HandS.TryMany
import PyProof.ReprRoads
import HandS.Ends
import KE.KExcIs
import HandS.Style
import HandS.Dict
import PyProof.P3Eq
import HandS.ClsMeth
import PyProof.FString
import HandS.TupMul
import HandS.NamedTupGet
import HandS.Wide
import KE.KExcInit
import PyProof.TupleOfSeq
import HandS.SetFor
import HandS.MakeKwOnly
import HandS.OwnEq
import HandS.Strs
import HandS.CallLocal
import HandS.ExcOwn
import HandS.List
import HandS.More
import KE.DataMinMax
import HandS.Conv
import PySem.Challenge.RW_rankeffect_k13_whole_separating_lists
set_option Elab.async false
set_option linter.all false
set_option maxRecDepth 100000
set_option maxHeartbeats 4000000
namespace XT
open PySem PySem.Spec PyProof.Rows L2

section
variable {prog : Program} {w : World} {A : Around} {E : Value → Shared → Prop} {s : Shared} {K : PySem.W.Frag} {x C f : Addr} {ox : Obj} {od : Option Obj}
/-- the answer of an own __ne__ that is the object's: an own __eq__ is asked -/
theorem ne_body {y : Value} {R : Fin → Shared → Prop} (hu : A.units < cLine) (X : K.In s.heap) (I : PySem.W.InstAt s.heap x ox C od)
    (hs : PySem.W.findIn K (.ref C) "__eq__" = some (some (.ref f))) (hf : PySem.W.isFn K (.ref f) = true)
    (h : wpAny (model prog w) A (call (.ref f) [.ref x, y]) (fun r s1 => ∃ b, r = Value.bool b ∧ R (.done (.ret (.bool (!b)))) s1) E s) :
    wpAny (model prog w) A (Builtin.«object.__ne__» ⟨[.ref x, y], []⟩) R E s := by
  unfold Builtin.«object.__ne__»
  refine wpAny_bind (m := slotArgs "__ne__" 1 ⟨[.ref x, y], []⟩) (wpAny_pure ?_)
  dsimp only
  refine wpAny_bind (wpAny_cRoomFor hu ?_)
  refine wpAny_bind (m := callSpecialIfBound? (.ref x) (Str.ofString "__eq__") [y]) (PySem.W.ifBound_K X I hs hf (wpAny_mono h (fun r s' hr => ?_) fun _ _ e => e))
  obtain ⟨b, rfl, q⟩ := hr
  dsimp only
  refine wpAny_bind (m := truthy (.bool b)) (wpAny_pure ?_)
  exact wpAny_pure q
theorem ne_check {y : Value} {Q : Unit → Shared → Prop} (X : K.In s.heap) (I : PySem.W.InstAt s.heap x ox C od) (hs : PySem.W.subIn K (.ref C) (.type "object") = some true) (h : Q () s) :
    wpAny (model prog w) A (checkBuiltinCall "object.__ne__" ⟨[.ref x, y], []⟩) Q E s := by
  have hk : builtinKind "object.__ne__" = some .slot := by decide +kernel
  have hsp : splitId "object.__ne__" = some ("object", "__ne__") := by decide +kernel
  unfold checkBuiltinCall
  simp only [hk, hsp]
  refine wpAny_bind ?_
  unfold isInstance
  refine wpAny_bind (I.type.here ((PySem.W.looks_subIn X hs).here ?_))
  simp only [Bool.not_true, Bool.false_eq_true, if_false]
  have ha := PySem.F.args_object_ne_2 (.ref x) y
  cases hsig : Manifest.signature? "object.__ne__" with
  | none => exact wpAny_pure h
  | some sig =>
    simp only [argsOk, hsig] at ha
    have h2 : Bind.checkArgs "object.__ne__" sig ⟨[.ref x, y], []⟩ = pure () := ha
    show wpAny _ A (Bind.checkArgs "object.__ne__" sig ⟨[.ref x, y], []⟩) Q E s
    rw [h2]
    exact wpAny_pure h
/-- x != y, the class with an own __eq__ and no own __ne__ -/
theorem ne_own {y tb : Value} {Q : Value → Shared → Prop} (hu : A.units + 1 < cLine) (X : K.In s.heap) (I : PySem.W.InstAt s.heap x ox C od) (hb : PySem.W.Looks (model prog w) s.heap (typeOf y) tb) (hn : PySem.W.notFirst K C tb = true)
    (hne : PySem.W.findIn K (.ref C) "__ne__" = some (some (.builtin "object.__ne__"))) (ho : PySem.W.subIn K (.ref C) (.type "object") = some true)
    (hs : PySem.W.findIn K (.ref C) "__eq__" = some (some (.ref f))) (hf : PySem.W.isFn K (.ref f) = true)
    (h : wpAny (model prog w) A.in1 (call (.ref f) [.ref x, y]) (fun r s1 => ∃ b, r = Value.bool b ∧ Q (.bool (!b)) s1) E s) :
    wpAny (model prog w) A (richCompare .NotEq (.ref x) y) Q E s := by
  have hu0 : A.units < cLine := Nat.lt_of_le_of_lt (Nat.le_succ _) hu
  have run : wpAny (model prog w) A (call (.builtin "object.__ne__") [.ref x, y]) (fun r s1 => ∃ b, r = Value.bool b ∧ Q r s1) E s := by
    refine wpAny_call (codeAny_call_builtin PySem.F.slot_object_ne.plain PySem.F.entry_object_ne (ne_check X I ho ?_))
    refine ne_body (by simpa using hu) X I hs hf (wpAny_mono h (fun r s1 z => ?_) fun _ _ e => e)
    obtain ⟨b, rfl, q⟩ := z
    exact ⟨b, rfl, ⟨_, rfl, q⟩⟩
  have one : wpAny (model prog w) A (tryCompare (.ref x) "__ne__" y) (fun r s' => ∃ v, r = some v ∧ Q v s') E s := by
    unfold tryCompare
    refine wpAny_bind ?_
    simp only [callSpecialIfBound?, bindSpecialIfBound?]
    refine wpAny_holding (wpAny_bind (wpAny_bind (wpAny_bind (I.type.here ((PySem.W.looks_findIn X hne).here ?_)))))
    have fin : wpAny (model prog w) A (call (.builtin "object.__ne__") ([.ref x] ++ [y]) >>= fun v => pure (some v)) (fun r s' => wpAny (model prog w) A (match r with | some .notImplemented | none => pure none | some v => pure (some v)) (fun r s' => ∃ v, r = some v ∧ Q v s') E s') E s := by
      refine wpAny_bind (wpAny_mono run (fun v s' z => ?_) fun _ _ e => e)
      obtain ⟨b, rfl, q⟩ := z
      exact wpAny_pure (wpAny_pure ⟨_, rfl, q⟩)
    refine wpAny_bind (wpAny_askSetting (wpAny_ite ?_))
    split
    · exact wpAny_bind (wpAny_of_eq (PySem.F.slot_object_ne.bind (.ref x)) (wpAny_pure (by exact fin)))
    · exact wpAny_tryCatch (wpAny_bind (wpAny_of_eq (PySem.F.slot_object_ne.bind (.ref x)) (wpAny_pure (by exact fin))))
  unfold richCompare
  simp only [oneThing_ref]
  refine wpAny_holding (wpAny_bind (wpAny_cRoomFor hu0 ?_))
  refine wpAny_bind (I.type.here (wpAny_bind (hb.here ?_)))
  split
  · rename_i q
    have e : PySem.W.subIn K tb (.ref C) = some false := by
      rcases Bool.or_eq_true_iff.mp hn with e | e
      · rw [beq_iff_eq.mp e] at q; simp at q
      · exact beq_iff_eq.mp e
    refine wpAny_bind ((PySem.W.looks_subIn X e).here ?_)
    simp only [Bool.false_eq_true, if_false]
    refine wpAny_bind (wpAny_mono one (fun r s' z => ?_) fun _ _ e => e)
    obtain ⟨v, rfl, hq⟩ := z
    exact wpAny_pure hq
  · refine wpAny_bind (wpAny_pure ?_)
    simp only [Bool.false_eq_true, if_false]
    refine wpAny_bind (wpAny_mono one (fun r s' z => ?_) fun _ _ e => e)
    obtain ⟨v, rfl, hq⟩ := z
    exact wpAny_pure hq
theorem type_bool : isType (.type "bool") = pure true := by first | rfl | kernel_rfl | (unfold isType; rw [isSubtype_type]; kernel_rfl)
/-- bool(x) by an own __bool__ -/
theorem bool_own {Q : Value → Shared → Prop} (X : K.In s.heap) (I : PySem.W.InstAt s.heap x ox C od) (hs : PySem.W.findIn K (.ref C) "__bool__" = some (some (.ref f))) (hf : PySem.W.isFn K (.ref f) = true)
    (h : wpAny (model prog w) A.in1.in1 (call (.ref f) [.ref x]) (fun r s1 => ∃ b, r = Value.bool b ∧ Q r s1) E s) : wpAny (model prog w) A (call (.type "bool") [.ref x]) Q E s := by
  refine callType_codes (T := "bool") (Bi := Builtin.«object.__init__») (Q₁ := fun r s1 => ∃ b, r = Value.bool b ∧ Q r s1) PySem.F.called_bool (PySem.F.typeCall_bool_1 _) PySem.F.entry_object_init ?_ ?_
  · refine codeAny_of_tree ?_
    show wpAny _ A.in1.in1 (do checkBuiltinCall "bool.__new__" ⟨[.type "bool", .ref x], []⟩; again (.builtin "bool.__new__" ⟨[.type "bool", .ref x], []⟩)) _ _ s
    refine wpAny_bind (wpAny_of_eq (PySem.F.newCall_bool_1 _) (wpAny_pure ⟨plainId_quiet (by decide +kernel) _, codeAny_builtin PySem.F.entry_bool_new ?_⟩))
    rw [Around.under_plainId (by decide +kernel) _]
    unfold Builtin.«bool.__new__»
    refine wpAny_bind (wpAny_of_eq (a := true) type_bool ?_)
    refine PySem.W.KFB.if_not rfl ?_
    refine wpAny_bind (wpAny_of_eq (a := true) PySem.F.conv_sub_bool ?_)
    refine PySem.W.KFB.if_not rfl ?_
    refine wpAny_bind (m := someArgs "bool" 0 1 _) (wpAny_of_eq (a := [Value.ref x]) (by first | rfl | kernel_rfl | simp [someArgs]) ?_)
    dsimp only
    refine wpAny_bind (m := truthy (.ref x)) ?_
    unfold truthy
    refine wpAny_bind (m := callSpecial? (.ref x) (Str.ofString "__bool__")) (PySem.W.special_fn X I hs (beq_iff_eq.mp hf) (wpAny_mono h (fun r s' hr => ?_) fun _ _ y => y))
    obtain ⟨b, rfl, hq⟩ := hr
    exact wpAny_pure (wpAny_pure ⟨b, rfl, hq⟩)
  · rintro obj s₁ ⟨b, rfl, hq⟩
    exact ⟨PySem.typeIs_bool _ _, PySem.F.args_object_init_2 _ _, object_init_meets PySem.F.called_bool.init.lookup PySem.F.called_bool.made (by decide) prog w A.in1 _ s₁ ⟨PySem.typeIs_bool _ _, rfl, hq⟩⟩
end
/-! ### operators of instances of own classes -/
/-- an instance of the class at C -/
def InsA (H : Hp) (a C : Addr) : Prop := ∃ dx fs, H a = some (.ins C dx fs)
section
variable {X : Cx} {CX : CXT} {n : Nat} {C g : Addr} {sp : Sp} {E : XK}
theorem insA_at {pins : List (Addr × Obj)} {σ : L2.St} {H : Hp} {s : Shared} {a : Addr} (I : Inv X pins σ H s) (h : InsA H a C) : ∃ ox od, PySem.W.InstAt s.heap a ox C od := by
  obtain ⟨dx, fs, h⟩ := h
  obtain ⟨mA, O, _⟩ := ins_get I.hok h
  obtain ⟨od, J, _⟩ := O.look
  exact ⟨_, _, J⟩
/-- x op y, both instances of the class at C, which has a def for it at g -/
def rOwnB (C : Addr) (sp : Sp) (E : XK) : R2 := fun x y H Q => ∃ a b, x = .ref a ∧ y = .ref b ∧ InsA H a C ∧ InsA H b C ∧ sp [x, y] H Q E
theorem op_ownB {op : Operator} (hc : PySem.W.selfFirst X.K C = true) (hs : PySem.W.findIn X.K (.ref C) (PySem.dunder op.info.2) = some (some (.ref g))) (hf : PySem.W.isFn X.K (.ref g) = true) (F : FnR X.prog X.w X.K X.mg X.base CX n g sp)
    (hr : Room n X.A) (hx : Passes CX X E) : OpR X (binaryOp op) (rOwnB C sp E) := by
  intro pins s σ H x y v u Q I rx ry h
  obtain ⟨a, b, rfl, rfl, ha, hb, q⟩ := h
  cases (show v = Value.ref a from rx)
  cases (show u = Value.ref b from ry)
  obtain ⟨ox, od, J⟩ := insA_at I ha
  obtain ⟨oy, oe, J'⟩ := insA_at I hb
  obtain ⟨m, hF⟩ := I.fr
  refine PySem.W.binop_K (op := op) hF I.ok.mod.kin J J'.type hc hs hf ?_
  refine wpAny_mono (wpAny_call (run_fnR (us := [.ref a, .ref b]) (vs := [.ref a, .ref b]) F hr hx I (.cons rfl (.cons rfl .nil)) q)) (fun w s' z => ?_) fun _ _ x => x
  obtain ⟨z', H', I', rz, qz⟩ := z
  exact SlX.cmpback rz ⟨z', H', I', rz, qz⟩
/-- x == y -/
theorem op_ownE (hs : PySem.W.findIn X.K (.ref C) "__eq__" = some (some (.ref g))) (hf : PySem.W.isFn X.K (.ref g) = true) (F : FnR X.prog X.w X.K X.mg X.base CX n g sp)
    (hr : Room n X.A) (hx : Passes CX X E) : OpR X (compareOp .Eq) (rOwnB C sp E) := by
  intro pins s σ H x y v u Q I rx ry h
  obtain ⟨a, b, rfl, rfl, ha, hb, q⟩ := h
  cases (show v = Value.ref a from rx)
  cases (show u = Value.ref b from ry)
  obtain ⟨ox, od, J⟩ := insA_at I ha
  obtain ⟨oy, oe, J'⟩ := insA_at I hb
  obtain ⟨m, hF⟩ := I.fr
  show wpAny _ _ (richCompare .Eq _ _) _ _ _
  refine PySem.W.cmp_K (op := .Eq) (tb := .ref C) hr.units0 hF I.ok.mod.kin J J'.type (by unfold PySem.W.notFirst; simp) hs hf ?_
  refine wpAny_mono (wpAny_call (run_fnR (us := [.ref a, .ref b]) (vs := [.ref a, .ref b]) F hr hx I (.cons rfl (.cons rfl .nil)) q)) (fun w s' z => ?_) fun _ _ x => x
  obtain ⟨z', H', I', rz, qz⟩ := z
  exact SlX.cmpback rz ⟨z', H', I', rz, qz⟩
/-- x != y, by == -/
def rOwnN (C : Addr) (sp : Sp) (E : XK) : R2 := fun x y H Q => ∃ a b, x = .ref a ∧ y = .ref b ∧ InsA H a C ∧ InsA H b C ∧ sp [x, y] H (fun z H' => ∃ k, z = .bl k ∧ Q (.bl (!k)) H') E
theorem op_ownN (hne : PySem.W.findIn X.K (.ref C) "__ne__" = some (some (.builtin "object.__ne__"))) (ho : PySem.W.subIn X.K (.ref C) (.type "object") = some true)
    (hs : PySem.W.findIn X.K (.ref C) "__eq__" = some (some (.ref g))) (hf : PySem.W.isFn X.K (.ref g) = true) (F : FnR X.prog X.w X.K X.mg X.base CX n g sp)
    (hr : Room (n + 1) X.A) (hx : Passes CX X E) : OpR X (compareOp .NotEq) (rOwnN C sp E) := by
  intro pins s σ H x y v u Q I rx ry h
  obtain ⟨a, b, rfl, rfl, ha, hb, q⟩ := h
  cases (show v = Value.ref a from rx)
  cases (show u = Value.ref b from ry)
  obtain ⟨ox, od, J⟩ := insA_at I ha
  obtain ⟨oy, oe, J'⟩ := insA_at I hb
  show wpAny _ _ (richCompare .NotEq _ _) _ _ _
  refine ne_own (tb := .ref C) (by have := hr.units; omega) I.kIn J J'.type (by unfold PySem.W.notFirst; simp) hne ho hs hf ?_
  refine wpAny_mono (wpAny_call (SlX.run_at (us := [.ref a, .ref b]) (ws := [.ref a, .ref b]) F hr.in1 I.env0.in1 hx I (.cons rfl (.cons rfl .nil)) q)) (fun w s' z => ?_) fun _ _ x => x
  obtain ⟨z', H', I', rz, k, rfl, qz⟩ := z
  cases (show w = Value.bool k from rz)
  exact ⟨k, rfl, .bl (!k), H', I', rfl, qz⟩
/-- bool(x) -/
def rBoolO (C : Addr) (sp : Sp) (E : XK) : List V → Hp → VK → Prop := fun xs H Q => ∃ a, xs = [V.ref a] ∧ InsA H a C ∧ sp xs H (fun z H' => ∃ k, z = .bl k ∧ Q z H') E
theorem call_boolO (hs : PySem.W.findIn X.K (.ref C) "__bool__" = some (some (.ref g))) (hf : PySem.W.isFn X.K (.ref g) = true) (F : FnR X.prog X.w X.K X.mg X.base CX n g sp) (hr : Room (n + 2) X.A) (hx : Passes CX X E) : CallR X (.type "bool") (rBoolO C sp E) := by
  intro pins s σ H xs us Q I r h
  obtain ⟨a, rfl, ha, q⟩ := h
  obtain ⟨u, rfl, ru⟩ := r.one
  cases (show u = Value.ref a from ru)
  obtain ⟨ox, od, J⟩ := insA_at I ha
  have hr2 : Room n X.A.in1.in1 := (show Room (n + 1) X.A.in1 from Room.in1 hr).in1
  refine bool_own I.kIn J hs hf (wpAny_mono (wpAny_call (SlX.run_at (us := [.ref a]) (ws := [.ref a]) F hr2 I.env0.in1.in1 hx I (.cons rfl .nil) q)) (fun w s' z => ?_) fun _ _ x => x)
  obtain ⟨z', H', I', rz, k, rfl, qz⟩ := z
  cases (show w = Value.bool k from rz)
  exact ⟨k, rfl, .bl k, H', I', rfl, qz⟩
end
end XT

namespace XT
open PySem PySem.Spec PyProof.Rows L2
/-! ### range(a, b) of ints of any size -/
theorem turn_lrange {P : Program} {w : World} {K : PySem.W.Frag} {tg : Expr} (it : Addr) (lo : Int) (n : Nat) : Turn P w K tg (Itr lo n) [it] it (fun i h => IsLongIter h it (lo + (i : Nat) * 1) ((n : Int) - (i : Nat)) 1) where
  mem := by simp
  obj := fun i h st b hb => by
    have e : b = it := by simpa using hb
    subst e
    exact ⟨_, st, fun v z => by
      have z' : Data.fields _ = Data.cell v := z
      cases z'⟩
  keep := fun i h h' st k => k it (by simp) _ st
  item := by
    intro X hP hw hK hc i pins s σ H E I hf st hg
    subst hP hw hK
    obtain ⟨f0, f1, f2, f3, f4, f5⟩ := hf it (by simp)
    have W := Walks.longrange (prog := X.prog) (w := X.w) (I.ok.hd hc) it lo 1 n
    refine W.item i s _ _ hg st fun v h' tk hv st' kk => ?_
    obtain ⟨t, rfl⟩ := hv
    have I1 : Inv X pins σ H { s with heap := h', toks := tk } := I.turned (fun b o hb e => kk b o (by simpa using hb) e) f0 f1 f3 f4 f5
    refine ⟨_, rfl, go_of (s := { s with heap := h', toks := tk }) (n := "longrange_iterator") st' rfl rfl (by decide) ⟨.int (lo + i), H, I1, ⟨t, ?_⟩, ⟨rfl, rfl⟩, st', fun b hb => (hf b hb).1⟩⟩
    rw [Int.mul_one]
  done := by
    intro X hP hw hK hc i pins s σ H E I hf st hg
    subst hP hw hK
    obtain ⟨f0, f1, f2, f3, f4, f5⟩ := hf it (by simp)
    exact wpAny_pyNext_long_end (I.ok.hd hc) st (by have : n ≤ i := hg; omega) fun h' eb => ⟨rfl, I.turned (t' := s.toks) (fun b o hb e => eb b o hb e) f0 f1 f3 f4 f5⟩
  self := fun _ _ _ _ _ st h => wpAny_pyIter_longiter st h
section
variable {X : Cx} {tg : Expr}
theorem lrange_it {pins : List (Addr × Obj)} {σ : L2.St} {H : Hp} {s : Shared} {R : It → Hp → Prop} {E : Value → Shared → Prop} {lo hi : Int} {t u v : Tok} {tk : Nat} (I : Inv X pins σ H s)
    (q : R (Itr lo (hi - lo).toNat) H) : wpAny (model X.prog X.w) X.A (pyIter (.ref s.heap.objs.size)) (PIE X pins σ tg R) E { s with heap := s.heap.push { cls := .type "range", data := .fields #[.int lo t, .int hi u, .int 1 v] }, toks := tk } := by
  have I1 : Inv X pins σ H { s with heap := s.heap.push { cls := .type "range", data := .fields #[.int lo t, .int hi u, .int 1 v] }, toks := tk } := I.kept fun b o e => Heap.get?_push_of_some _ e
  have e1 : lo + ((0 : Nat) : Int) * 1 = lo := by simp
  have e2 : (((hi - lo).toNat : Nat) : Int) - ((0 : Nat) : Int) = Builtin.Range.rangeSize lo hi 1 := by rw [rangeSize_one]; split <;> omega
  have fp : ∀ b ∈ [(s.heap.push { cls := .type "range", data := .fields #[.int lo t, .int hi u, .int 1 v] }).objs.size], FpOk X pins H b := fun b hb => by
    have e : b = (s.heap.push { cls := .type "range", data := .fields #[.int lo t, .int hi u, .int 1 v] }).objs.size := by simpa using hb
    subst e
    exact I1.fpOk (Nat.le_refl _) (I1.hok.fresh (Nat.le_refl _))
  cases hsm : Builtin.Range.small lo hi 1 with
  | true =>
    refine wpAny_pyIter_range (IsRange.new ..) hsm ?_
    refine ⟨(s.heap.push { cls := .type "range", data := .fields #[.int lo t, .int hi u, .int 1 v] }).objs.size, [(s.heap.push { cls := .type "range", data := .fields #[.int lo t, .int hi u, .int 1 v] }).objs.size], _, _, H, rfl,
      I1.kept (t' := tk) fun b o e => Heap.get?_push_of_some _ e, turn_range _ lo (hi - lo).toNat, ?_, fp, q⟩
    show IsRangeIter _ _ (lo + ((0 : Nat) : Int) * 1) ((((hi - lo).toNat : Nat) : Int) - ((0 : Nat) : Int)) 1
    rw [e1, e2]
    exact Heap.get?_push_size _ rfl
  | false =>
    refine wpAny_pyIter_longrange (IsRange.new ..) hsm ?_
    refine ⟨(s.heap.push { cls := .type "range", data := .fields #[.int lo t, .int hi u, .int 1 v] }).objs.size, [(s.heap.push { cls := .type "range", data := .fields #[.int lo t, .int hi u, .int 1 v] }).objs.size], _, _, H, rfl,
      I1.kept (t' := tk) fun b o e => Heap.get?_push_of_some _ e, turn_lrange _ lo (hi - lo).toNat, ?_, fp, q⟩
    show IsLongIter _ _ (lo + ((0 : Nat) : Int) * 1) ((((hi - lo).toNat : Nat) : Int) - ((0 : Nat) : Int)) 1
    rw [e1, e2]
    exact Heap.get?_push_size _ rfl
def iRngW1 (ta : TA) : TI := fun σ H R => ta σ H fun vs H1 => ∃ j : Int, vs = [.int j] ∧ R (Itr 0 j.toNat) H1
def iRngW2 (ta : TA) : TI := fun σ H R => ta σ H fun vs H1 => ∃ i j : Int, vs = [.int i, .int j] ∧ R (Itr i (j - i).toNat) H1
theorem pi_rng1 {a : Expr} {ta : TA} {p pos : Pos} (hg : Gl X "range") (hm : X.mg "range" = none) (ha : PA X [a] ta) (hs : starEach [a] X.env = [(false, eval a X.env)] := by rfl) : PI X tg (.Call (.Name "range" p) [a] [] pos) (iRngW1 ta) := by
  refine ⟨fun pins s σ H R I h => ?_⟩
  refine Call_ (ld_blt I hg hm boot_range (PyProof.Rows.callWith_type1 (thn (ha.run pos pins s σ H _ I h) fun us s1 ⟨vs, H1, I1, r1, q1⟩ => ?_) hs rfl))
  obtain ⟨j, e, q⟩ := q1
  subst e
  cases r1 with
  | cons r rr =>
    cases rr
    obtain ⟨t, rfl⟩ := r
    exact call_range_1 (lrange_it I1 (by simpa using q))
theorem pi_rng2 {a b : Expr} {ta : TA} {p pos : Pos} (hg : Gl X "range") (hm : X.mg "range" = none) (ha : PA X [a, b] ta) (hs : starEach [a, b] X.env = [(false, eval a X.env), (false, eval b X.env)] := by rfl) (hs2 : starEach [b] X.env = [(false, eval b X.env)] := by rfl) :
    PI X tg (.Call (.Name "range" p) [a, b] [] pos) (iRngW2 ta) := by
  refine ⟨fun pins s σ H R I h => ?_⟩
  refine Call_ (ld_blt I hg hm boot_range (PyProof.Rows.callWith_type1 (thn (ha.run pos pins s σ H _ I h) fun us s1 ⟨vs, H1, I1, r1, q1⟩ => ?_) (by rw [hs, hs2]) (by rw [hs2]; rfl)))
  obtain ⟨i, j, e, q⟩ := q1
  subst e
  cases r1 with
  | cons r rr =>
    cases rr with
    | cons r' rr =>
      cases rr
      obtain ⟨t, rfl⟩ := r
      obtain ⟨t', rfl⟩ := r'
      exact call_range_2 (lrange_it I1 q)
end
/-! ### enumerate(tuple) -/
theorem meets_enumerate_newT (l : Addr) (items : Array Value) (n : Nat) (dct : Option Addr) (sl : Array (Option Value)) :
    Meets (Builtin.«enumerate.__new__» ⟨[.type "enumerate", .ref l], []⟩) (fun _ R s => s.heap.get? l = some { cls := .type "tuple", dict := dct, data := .seq items n, slots := sl } ∧
      R (.ok (.ret (.ref (s.heap.push { cls := .type "tuple_iterator", data := .fields #[.ref l, .int 0 0] }).objs.size)))
        { s with heap := (s.heap.push { cls := .type "tuple_iterator", data := .fields #[.ref l, .int 0 0] }).push { cls := .type "enumerate", data := .fields #[.none, .bool false, .ref s.heap.objs.size, rawInt 0, .none, .none] } }) :=
  .of_wp fun prog w A R s h => by
    obtain ⟨hp, g, d, tk, os⟩ := s; obtain ⟨hl, h⟩ := h
    have hsub := sub_enumerate
    have hL : Heap.IsTuple (Shared.heap ⟨hp, g, d, tk, os⟩) l items := ⟨_, hl, rfl, n, rfl⟩
    wp_walk using AutoSeq1.wpAny_loadPart' hl
    refine wpAny_stack_any fun st => wpAny_pure ?_
    split
    · rename_i c _ _ _ _ _
      cases (c == Value.type "enumerate")
      · wp_walk using AutoSeq1.wpAny_loadPart' hl, wpAny_pyIter_tuple hL
        exact ⟨_, rfl, h⟩
      · wp_walk using AutoSeq1.wpAny_loadPart' hl, wpAny_pyIter_tuple hL
        exact ⟨_, rfl, h⟩
    · wp_walk using AutoSeq1.wpAny_loadPart' hl, wpAny_pyIter_tuple hL
      exact ⟨_, rfl, h⟩
theorem call_enumerate_tuple {prog : Program} {w : World} {A : Around} {E : Value → Shared → Prop} {s : Shared} {l : Addr} {items : Array Value} {Q : Value → Shared → Prop} (hL : s.heap.IsTuple l items)
    (h : ∀ h', IsEnum h' (s.heap.objs.size + 1) s.heap.objs.size 0 .none → h'.IsTupleIter s.heap.objs.size l 0 → h'.objs.size = s.heap.objs.size + 2 →
      (∀ b o, s.heap.get? b = some o → h'.get? b = some o) → Q (.ref (s.heap.objs.size + 1)) { s with heap := h' }) :
    wpAny (model prog w) A (call (.type "enumerate") [.ref l]) Q E s := by
  obtain ⟨⟨c, dct, dt, sl⟩, hl, hc, n, hd⟩ := hL
  replace hc : c = .type "tuple" := hc
  replace hd : dt = .seq items n := hd
  subst hc hd
  refine callType_new PySem.F.called_enumerate (by decide) (PySem.F.typeCall_enumerate_1 _) (PySem.F.newCall_enumerate_1 _) (fun obj => PySem.F.args_object_init_2 obj _) PySem.F.entry_enumerate_new
    (meets_enumerate_newT l items n dct sl) ⟨hl, ?_⟩
  have hz : (s.heap.push { cls := .type "tuple_iterator", data := .fields #[.ref l, .int 0 0] }).objs.size = s.heap.objs.size + 1 := Heap.size_push ..
  show _ ∧ _
  rw [hz]
  have he : IsEnum ((s.heap.push { cls := .type "tuple_iterator", data := .fields #[.ref l, .int 0 0] }).push
      { cls := .type "enumerate", data := .fields #[.none, .bool false, .ref s.heap.objs.size, rawInt 0, .none, .none] }) (s.heap.objs.size + 1) s.heap.objs.size 0 .none := by
    have := Heap.get?_push_size (s.heap.push { cls := .type "tuple_iterator", data := .fields #[.ref l, .int 0 0] })
      (o := { cls := .type "enumerate", data := .fields #[.none, .bool false, .ref s.heap.objs.size, rawInt 0, .none, .none] }) rfl
    rw [hz] at this; exact this
  refine ⟨⟨_, he, rfl⟩, h _ he ⟨_, Heap.get?_push_of_some _ (Heap.get?_push_size _ rfl), rfl, rfl⟩ (by rw [Heap.size_push, hz]) fun b o x => Heap.get?_push_of_some _ (Heap.get?_push_of_some _ x)⟩
def IteT (K : PySem.W.Frag) (a : Addr) : It :=
  ⟨fun i H => ∃ (xs : List V) (x : V), SqT K H a xs ∧ xs[i]? = some x, fun i H v H' => ∃ T x, v = .ref T ∧ H T = none ∧ H' = upd H T (.tup [.int (i : Nat), x]) ∧ ∀ xs, SqT K H a xs → xs[i]? = some x, fun i H => ∃ xs : List V, SqT K H a xs ∧ xs.length ≤ i⟩
theorem turn_enumT {P : Program} {w : World} {K : PySem.W.Frag} {elts : List Expr} {kk : Nat} {tpos : Pos} (a e it : Addr) :
    Turn P w K (.Tuple elts kk tpos) (IteT K a) [e, it] e (fun i h => (∃ old, IsEnum h e it ((i : Nat) : Int) old) ∧ h.IsTupleIter it a i ∧ e ≠ it ∧ a ≠ it ∧ a ≠ e) where
  mem := by simp
  obj := fun i h st b hb => by
    obtain ⟨⟨old, he⟩, ⟨o, ho, hc, hd⟩, _⟩ := st
    have e' : b = e ∨ b = it := by simpa using hb
    rcases e' with z | z
    · rw [z]; exact ⟨_, he, fun v q => nomatch q⟩
    · rw [z]; exact ⟨o, ho, fun v q => by rw [hd] at q; cases q⟩
  keep := fun i h h' st k => let ⟨⟨old, he⟩, hi, hne⟩ := st; ⟨⟨old, k e (by simp) _ he⟩, hi.at fun o q => k it (by simp) o q, hne⟩
  item := by
    intro X hP hw hK hc i pins s σ H E I hf st hg
    subst hP hw hK
    obtain ⟨⟨old, he⟩, hit, hne, hai, hae⟩ := st
    obtain ⟨xs, x, hq, hx⟩ := hg
    obtain ⟨its, rv, p, hz⟩ := I.tuple hq
    obtain ⟨u, hu, ru⟩ := rv.get hx
    have hel : e < s.heap.objs.size := Heap.lt_size he
    have hil : it < s.heap.objs.size := by obtain ⟨_, q, _⟩ := hit; exact Heap.lt_size q
    have D := Draws.tuple (prog := X.prog) (w := X.w) (A := X.A.in1) (by have := I.ok.hd hc; simpa using this) it a hai its.toArray
    have hp : s.heap.IsTuple a its.toArray := p
    have hl : i < its.toArray.size := by
      have := (List.getElem?_eq_some_iff.mp hu).1
      simpa using this
    refine wpAny_pyNext_enum_itemD D he ⟨hit, hp⟩ hl hne (by simp [hne, Ne.symm hae]) fun x' h' tk hP ho hSt hT hsz hk => ?_
    have hxu : x' = u := by
      have e1 : its.toArray[i]? = some u := by simpa using hu
      rw [e1] at hP
      exact (Option.some.inj hP).symm
    subst hxu
    refine ⟨_, rfl, wpAny_letOwnedTupleGo_enum (s := { s with heap := h', toks := tk + 1 }) ho fun h'' he' sb => ?_⟩
    have hT2 : h''.get? s.heap.objs.size = some { cls := .type "tuple", data := .seq #[.int i tk, x'] } := (sb.2 _ (Nat.ne_of_gt hel)).trans hT
    have new : ObjOk X.prog X.w (upd H s.heap.objs.size (.tup [.int (i : Nat), x])) h'' s.heap.objs.size (.tup [.int (i : Nat), x]) :=
      ⟨by show 2 ≤ sizeLine; decide, [.int i tk, x'], .cons ⟨_, rfl⟩ (.cons ru .nil), ⟨_, hT2, rfl, _, rfl⟩⟩
    have I1 : Inv X pins σ (upd H s.heap.objs.size (.tup [.int (i : Nat), x])) { s with heap := h'', toks := tk + 1 } :=
      I.turnedNew (ch := [e, it]) (fun b ob hb q => (sb.2 b (fun z => hb (by simp [z]))).trans (hk b ob (fun z => hb (by simp [z])) (fun z => hb (by simp [z])) q)) hf (Nat.le_refl _) new
    refine ⟨.ref s.heap.objs.size, _, I1, rfl, ⟨_, x, rfl, I.hok.fresh (Nat.le_refl _), rfl, fun ys hy => by rw [I.tuple_inj hy hq]; exact hx⟩, ⟨⟨x', ?_⟩, hSt.1.at fun o q => (sb.2 it (Ne.symm hne)).trans q, hne, hai, hae⟩, fun b hb => ?_⟩
    · have e1 : ((i + 1 : Nat) : Int) = (i : Int) + 1 := by omega
      rw [e1]; exact he'
    · have hb' : b < s.heap.objs.size := by
        have e' : b = e ∨ b = it := by simpa using hb
        rcases e' with z | z
        · rw [z]; exact hel
        · rw [z]; exact hil
      rw [upd_ne (Nat.ne_of_lt hb')]
      exact (hf b hb).1
  done := by
    intro X hP hw hK hc i pins s σ H E I hf st hg
    subst hP hw hK
    obtain ⟨⟨old, he⟩, hit, hne, hai, hae⟩ := st
    obtain ⟨xs, hq, hx⟩ := hg
    obtain ⟨its, rv, p, hz⟩ := I.tuple hq
    obtain ⟨f0, f1, f2, f3, f4, f5⟩ := hf it (by simp)
    have hl := rv.length
    have hp : s.heap.IsTuple a its.toArray := p
    have hT : s.TypeIs (.ref e) "enumerate" := ⟨_, he, rfl⟩
    have hh : X.A.handled = none := I.ok.hd hc
    unfold pyNext
    refine wpAny_bind (wpAny_attempt (wpAny_callSpecial?_slot (name := Str.ofString "__next__") hT PySem.F.slot_enumerate_next
      (wpAny_call_entry PySem.F.slot_enumerate_next hT PySem.F.entry_enumerate_next ?_ (PySem.F.args_enumerate_next_1 _))))
    show wpAny _ _ (field (.ref e) 2 >>= _) _ _ _
    refine wpAny_bind (wpAny_field he rfl (x := .ref it) rfl ?_)
    refine wpAny_bind (wpAny_nextOf_tuple_end (by simpa using hh) hit hp (by simp; omega) fun h' x he' hx' => ?_)
    obtain ⟨o, ho, hc⟩ := hx'
    refine wpAny_bind (wpAny_isInstance (T := "StopIteration") (b := true) ⟨o, ho, hc⟩ isSubtype_stop ?_)
    exact wpAny_pure ⟨rfl, I.turned (t' := s.toks) (fun b o hb q => he' b o hb q) f0 f1 f3 f4 f5⟩
  self := fun A i s Q E st h => let ⟨⟨_, he⟩, _⟩ := st; wpAny_pyIter_enum he h
def iEnumT (K : PySem.W.Frag) (ta : TA) : TI := fun σ H R => ta σ H fun vs H1 => ∃ a xs, vs = [.ref a] ∧ SqT K H1 a xs ∧ R (IteT K a) H1
theorem pi_enumT {X : Cx} {e : Expr} {ta : TA} {p pos tpos : Pos} {elts : List Expr} {kk : Nat} (hg : Gl X "enumerate") (hm : X.mg "enumerate" = none) (ha : PA X [e] ta) (hs : starEach [e] X.env = [(false, eval e X.env)] := by rfl) :
    PI X (.Tuple elts kk tpos) (.Call (.Name "enumerate" p) [e] [] pos) (iEnumT X.K ta) := by
  refine ⟨fun pins s σ H R I h => ?_⟩
  refine Call_ (ld_blt I hg hm boot_enumerate (PyProof.Rows.callWith_type1 (thn (ha.run pos pins s σ H _ I h) fun us s1 ⟨vs, H1, I1, r1, q1⟩ => ?_) hs rfl))
  obtain ⟨a, xs, ex, hq, q⟩ := q1
  subst ex
  cases r1 with
  | cons r rr =>
    cases rr
    cases r
    obtain ⟨its, rv, p', hz⟩ := I1.tuple hq
    have hp : s1.heap.IsTuple a its.toArray := p'
    have hal : a < s1.heap.objs.size := by obtain ⟨o, ho, _⟩ := hp; exact Heap.lt_size ho
    refine call_enumerate_tuple hp fun h' he hit hsz hk => wpAny_pyIter_enum he ?_
    have I2 : Inv X pins σ H1 { s1 with heap := h' } := I1.kept (t' := s1.toks) hk
    refine ⟨s1.heap.objs.size + 1, [s1.heap.objs.size + 1, s1.heap.objs.size], _, _, H1, rfl, I2, turn_enumT a (s1.heap.objs.size + 1) s1.heap.objs.size, ⟨⟨.none, he⟩, hit, Nat.succ_ne_self _, Nat.ne_of_lt hal, Nat.ne_of_lt (Nat.lt_succ_of_lt hal)⟩, fun b hb => ?_, q⟩
    have e' : b = s1.heap.objs.size + 1 ∨ b = s1.heap.objs.size := by simpa using hb
    have hle : s1.heap.objs.size ≤ b := by
      rcases e' with z | z
      · rw [z]; exact Nat.le_add_right _ _
      · rw [z]; exact Nat.le_refl _
    exact I1.fpOk hle (I1.hok.fresh hle)
end XT

namespace XT
open PySem PySem.Spec PyProof.Rows L2
/-! ### types compared -/
def tyN (m : String) : Bool := ["int", "str", "bool", "NoneType", "list", "tuple", "dict"].contains m
theorem tyN_meta {m : String} (h : tyN m = true) (s' : Shared) : s'.TypeIs (.type m) "type" := by
  unfold tyN at h
  simp only [List.contains_cons, List.contains_nil, Bool.or_eq_true, beq_iff_eq, Bool.false_eq_true, or_false] at h
  rcases h with rfl | rfl | rfl | rfl | rfl | rfl | rfl
  · exact TypeEq.meta_int s'
  · exact TypeEq.meta_str s'
  · exact TypeEq.meta_bool s'
  · exact TypeEq.meta_NoneType s'
  · exact TypeEq.meta_list s'
  · exact TypeEq.meta_tuple s'
  · exact TypeEq.meta_dict s'
section
variable {X : Cx}
theorem op_eqTy : OpR X (compareOp .Eq) (fun x y H Q => ∃ m n, x = .ty m ∧ y = .ty n ∧ tyN m = true ∧ tyN n = true ∧ Q (.bl (decide (m = n))) H) := by
  intro pins s σ H x y v u Q I rx ry h
  obtain ⟨m, n, rfl, rfl, hm, hn, q⟩ := h
  cases (show v = Value.type m from rx)
  cases (show u = Value.type n from ry)
  by_cases e : m = n
  · subst e
    exact TypeEq.eq_type_same (fun s' => tyN_meta hm s') ⟨.bl true, H, I, rfl, by simpa using q⟩
  · refine TypeEq.eq_type_other (fun s' => tyN_meta hm s') (fun s' => tyN_meta hn s') ?_ ⟨.bl false, H, I, rfl, by simpa [e] using q⟩
    rw [Bool.eq_false_iff]
    intro z
    rw [beq_iff_eq] at z
    injection z with z
    exact e z
theorem eqAt_ty {A : Around} {s : Shared} {m n : String} (hm : tyN m = true) (hn : tyN n = true) : SeqAt.EqAt A s (.type m) (.type n) (decide (m = n)) := fun prog w E Q h => by
  unfold eqBool
  refine wpAny_holding ?_
  refine wpAny_ite_split (fun hab => ?_) (fun hab => ?_)
  · have e : m = n := by have := eq_of_beq hab; injection this
    subst e
    exact wpAny_bind (wpAny_rule (wpAny_pure (by simpa using h)))
  · have e : m ≠ n := fun z => hab (by rw [z]; exact beq_self_eq_true _)
    refine wpAny_bind (m := richCompare .Eq (.type m) (.type n)) (show wpAny _ _ (compareOp .Eq _ _) _ _ _ from TypeEq.eq_type_other (fun s' => tyN_meta hm s') (fun s' => tyN_meta hn s') ?_ ?_)
    · rw [Bool.eq_false_iff]
      intro z
      rw [beq_iff_eq] at z
      injection z with z
      exact e z
    · exact wpAny_pure (by simpa [e] using h)
def tyU (m : String) : Value → Bool
  | .type n => decide (n = m)
  | _ => false
theorem op_inTy : OpR X (compareOp .In) (fun x y H Q => ∃ (m : String) (p : Addr) (ns : List String), x = .ty m ∧ y = .ref p ∧ SqT X.K H p (ns.map V.ty) ∧ tyN m = true ∧ (∀ n ∈ ns, tyN n = true) ∧ Q (.bl (ns.any fun n => decide (n = m))) H) := by
  intro pins s σ H x y v u Q I rx ry h
  obtain ⟨m, p, ns, rfl, rfl, hq, hm, hn, q⟩ := h
  cases (show v = Value.type m from rx)
  cases (show u = Value.ref p from ry)
  obtain ⟨its, r, pl, hz⟩ := I.tuple hq
  have key : ∀ (ns : List String) (its : List Value), Vals (ns.map V.ty) its → its = ns.map Value.type := by
    intro ns
    induction ns with
    | nil => intro its r; cases r; rfl
    | cons n ns ih =>
      intro its r
      cases r with
      | cons a t =>
        rw [ih _ t, List.map_cons]
        congr 1
  have e := key ns its r
  subst e
  refine SeqAt.in_tupleAt (tyU m) pl (fun w hw => ?_) ⟨.bl _, H, I, rfl, ?_⟩
  · have hw' : w ∈ ns.map Value.type := by simpa using hw
    obtain ⟨n, hmem, rfl⟩ := List.mem_map.mp hw'
    exact eqAt_ty (hn n hmem) hm
  · have e2 : ((ns.map Value.type).toArray.any (tyU m)) = ns.any fun n => decide (n = m) := by
      rw [List.any_toArray, List.any_map]
      rfl
    rw [e2]
    exact q
/-! ### calls by promises of positional values -/
def tCallR (sp : Sp) (E : XK) (t : TA) : TE := fun σ H Q => t σ H fun vs H1 => sp vs H1 Q E
theorem pe_callR {CX : CXT} {k : Nat} {f : Addr} {sp : Sp} {E : XK} {x : Str} {e : Expr} {es : List Expr} {t : TA} {p pos : Pos} (F : FnR X.prog X.w X.K X.mg X.base CX k f sp) (hr : Room k X.A) (hg : Gl X x) (hm : X.mg x = some (.ref f)) (hk : PySem.W.keepIn X.K (.ref f) = true) (hx : Passes CX X E) (ha : PA X (e :: es) t) (hd : (x == ("__debug__" : Str)) = false := by decide)
    (he : starEach (e :: es) X.env = (false, eval e X.env) :: starEach es X.env := by rfl) (hst : (backTo pos (starEach es X.env)).any (·.1) = false := by rfl) :
    PE X (.Call (.Name x p) (e :: es) [] pos) (tCallR sp E t) := by
  refine ⟨fun pins s σ H Q I h => ?_⟩
  refine wpAny_Call_Name_kw (ld_glob I hg hm ?_ hd)
  refine PySem.W.callWith_K (h₀ := X.base) I.ok.mod.kin hk (thn (ha.run pos pins s σ H _ I h) fun us s1 ⟨vs, H1, I1, r, q⟩ => ⟨I1.kIn, ?_⟩) he hst
  exact wpAny_call (run_fnR F hr hx I1 r q)
def tPropR (C : Addr) (sp : Sp) (E : XK) (ta : TE) : TE := fun σ H Q => ta σ H fun x H1 => ∃ a dx fs, x = .ref a ∧ H1 a = some (.ins C dx fs) ∧ sp [.ref a] H1 Q E
theorem pe_propR {CX : CXT} {k : Nat} {C p g : Addr} {f : Str} {sp : Sp} {E : XK} {e : Expr} {pos : Pos} {ta : TE} (he : PE X e ta) (c : Cls X.K C) (hp : PropOf X.K C f p g) (F : FnR X.prog X.w X.K X.mg X.base CX k g sp) (hr : Room (k + 1) X.A) (hx : Passes CX X.nox E)
    (hab : attributeBase e f X.env (eval e X.env) = eval e X.env) : PE X (.Attribute e f pos) (tPropR C sp E ta) := by
  refine ⟨fun pins s σ H Q I h => ?_⟩
  refine attr_of hab (thn (he.run pins s σ H _ I h) fun u s1 ⟨x, H1, I1, rx, a, dx, fs, ex, ea, q⟩ => ?_)
  subst ex
  obtain rfl : u = Value.ref a := rx
  obtain ⟨mA, O, _, _, _, _⟩ := ins_get I1.hok ea
  obtain ⟨od, J, _⟩ := O.look
  obtain ⟨rest, hrec⟩ := hp.rec_
  have I2 := I1.tok (s1.toks + 1)
  have hc : (PySem.W.clsIn X.K C).isSome = true := by
    obtain ⟨cd, hc, _⟩ := PySem.W.any_some c.hd
    rw [hc]
    rfl
  refine PySem.W.get_bind I1.kIn J (PySem.W.plainGet_of (c.get f)).1 (PySem.W.findObj_data hc hp.at_ hp.get hp.tak) (PySem.W.plainGet_of (c.get f)).2 (wpAny_call (PySem.W.prop_get (s := { s1 with toks := s1.toks + 1 }) I1.kIn hrec ?_))
  refine codeAny_mono (F X.A.in1 X.stack { s1 with toks := s1.toks + 1 } H1 [.ref a] [.ref a] Q E hr.in1 I2.env0.in1 (.cons rfl .nil) q) fun r s' hq => ?_
  cases r with
  | error er => exact False.elim (hx pins σ H1 { s1 with toks := s1.toks + 1 } er s' (I2.wish _) hq)
  | ok fl =>
    cases fl with
    | ret u =>
      obtain ⟨v, H', I3, rv, q3⟩ := I2.after hq
      show wpAny _ _ (handedOut u) _ _ _
      rw [PySem.W.handedOut_of (handed_of rv)]
      exact wpAny_pure ⟨v, H', I3, rv, q3⟩
    | next => exact False.elim hq
    | brk => exact False.elim hq
    | cont => exact False.elim hq
end
section
variable {P : Program} {w : World} {K : PySem.W.Frag} {mg : Str → Option Value} {base : Heap}
/-- how arguments bind, for every such def -/
def Bnd (x qual : Str) (st : Stmt) (ps : List Str) : Prop := ∀ (kV doc pm : Value) (an : Option Addr) (cdv ct : Value) (us : List Value), us.length = ps.length → bindArgs (PySem.W.fnOf x qual (defArgs st) (defBody st) (defScope st) .none kV doc pm an cdv ct) ⟨us, []⟩ = pure (ps.zip us)
/-- a def's promise by positional values; no exception leaves it -/
theorem okR {x qual : Str} {st : Stmt} {f : Addr} {fd : FuncData} {N ps : List Str} {k : Nat} {sp : Sp} (F : Fun K x qual st f fd) (S : FnScope N ps (defScope st)) (B : Bnd x qual st ps) (len : ∀ vs H Q E, sp vs H Q E → vs.length = ps.length)
    (hbody : ∀ (cdv : Value) (A : Around) (outer : List Env) (s : Shared) (H : Hp) (vs : List V) (Q : VK) (E : XK), Room k (A.deeper (envOfC qual (defScope st) s.heap.objs.size f cdv)) → sp vs H Q E →
      ∃ t, PSs (cxOf CX0 P w K mg base N qual (defScope st) f cdv A outer s H E).nox (defBody st) t ∧ t { nx := fun _ H' => Q .non H', rt := Q } (start N vs) H) : FnR P w K mg base CX0 (k + 1) f sp := by
  have G := F.ok S len hbody
  have hb := F.binds B
  exact (G.raw hb .nil).imp fun vs H Q E h => by simpa using h
end
end XT

namespace XT
open PySem PySem.Spec PyProof.Rows L2
/-! ### heaps that grow -/
theorem same_upd {H H1 : Hp} {p : Addr} {o : HO} (h : Same H H1) (n : H p = Option.none) : Same H (upd H1 p o) := fun b u e => by
  have hb : b ≠ p := fun q => by rw [q, n] at e; cases e
  rw [upd_ne hb]
  exact h b u e
theorem same_new {H : Hp} {p : Addr} {o : HO} (n : H p = Option.none) : Same H (upd H p o) := same_upd (Same.refl H) n
theorem same_seqT {K : PySem.W.Frag} {H H' : Hp} {a : Addr} {xs : List V} (e : Same H H') (h : SqT K H a xs) : SqT K H' a xs := by
  rcases h with (h | ⟨o, h⟩) | h
  · exact .inl (.inl (e _ _ h))
  · exact .inl (.inr ⟨o, e _ _ h⟩)
  · exact .inr h
theorem same_tyB {K : PySem.W.Frag} {H H' : Hp} {x : V} {n : String} (e : Same H H') (h : TyB K H x n) : TyB K H' x n := by
  cases h with
  | non => exact .non
  | bl b => exact .bl b
  | int i => exact .int i
  | str z => exact .str z
  | byt b => exact .byt b
  | lst h => exact .lst (e.seq h)
  | tup h => exact .tup (same_seqT e h)
  | dK h => exact .dK (e _ _ h)
/-- a value of a known kind -/
def KV (K : PySem.W.Frag) (H : Hp) (x : V) : Prop := ∃ n, TyB K H x n ∧ tyN n = true
theorem KV.same {K : PySem.W.Frag} {H H' : Hp} {x : V} (h : KV K H x) (e : Same H H') : KV K H' x := let ⟨n, a, b⟩ := h; ⟨n, same_tyB e a, b⟩
theorem kv_int {K : PySem.W.Frag} {H : Hp} (i : Int) : KV K H (.int i) := ⟨"int", .int i, by decide +kernel⟩
def isI : V → Bool
  | .int _ => true
  | _ => false
theorem tyB_isI {K : PySem.W.Frag} {H : Hp} {x : V} {n : String} (h : TyB K H x n) : decide (n = "int") = isI x := by
  cases h <;> first | rfl | decide +kernel
/-! ### what is walked, while only new things are made -/
structure StatJ (J : It) (H0 : Hp) (n : Nat) (P : Nat → V → Hp → Prop) : Prop where
  go : ∀ i H, i < n → Same H0 H → J.go i H
  stop : ∀ H, Same H0 H → J.stop n H
  yld : ∀ i H x H', i < n → Same H0 H → J.yld i H x H' → Same H H' ∧ P i x H'
theorem stat_list {K : PySem.W.Frag} {H0 : Hp} {a : Addr} {xs : List V} (h : SqL K H0 a xs) : StatJ (Itl K a) H0 xs.length (fun i x _ => xs[i]? = some x) where
  go := fun i H hi s => ⟨xs, xs[i], s.seq h, by simp [hi]⟩
  stop := fun H s => ⟨xs, s.seq h, Nat.le_refl _⟩
  yld := fun i H x H' hi s y => by
    obtain ⟨e, y⟩ := y
    subst e
    exact ⟨Same.refl _, y xs (s.seq h)⟩
theorem stat_tup {K : PySem.W.Frag} {H0 : Hp} {a : Addr} {xs : List V} (h : SqT K H0 a xs) : StatJ (Itt K a) H0 xs.length (fun i x _ => xs[i]? = some x) where
  go := fun i H hi s => ⟨xs, xs[i], same_seqT s h, by simp [hi]⟩
  stop := fun H s => ⟨xs, same_seqT s h, Nat.le_refl _⟩
  yld := fun i H x H' hi s y => by
    obtain ⟨e, y⟩ := y
    subst e
    exact ⟨Same.refl _, y xs (same_seqT s h)⟩
theorem stat_rng {H0 : Hp} (lo : Int) (n : Nat) : StatJ (Itr lo n) H0 n (fun i x _ => x = .int (lo + i)) where
  go := fun i H hi s => hi
  stop := fun H s => Nat.le_refl _
  yld := fun i H x H' hi s y => by
    obtain ⟨e, y⟩ := y
    subst e
    exact ⟨Same.refl _, y⟩
theorem stat_enumT {K : PySem.W.Frag} {H0 : Hp} {a : Addr} {xs : List V} (h : SqT K H0 a xs) : StatJ (IteT K a) H0 xs.length (fun i v H => ∃ T x, v = .ref T ∧ H T = some (.tup [.int (i : Nat), x]) ∧ xs[i]? = some x) where
  go := fun i H hi s => ⟨xs, xs[i], same_seqT s h, by simp [hi]⟩
  stop := fun H s => ⟨xs, same_seqT s h, Nat.le_refl _⟩
  yld := fun i H x H' hi s y => by
    obtain ⟨T, x', e, n, e', y⟩ := y
    subst e e'
    exact ⟨same_new n, T, x', rfl, upd_same, y xs (same_seqT s h)⟩
theorem stat_zip {K : PySem.W.Frag} {H0 : Hp} {a b : Addr} {xs ys : List V} (h : SqL K H0 a xs) (k : SqL K H0 b ys) : StatJ (Itz K a b) H0 (min xs.length ys.length) (fun i v H => ∃ T x y, v = .ref T ∧ H T = some (.tup [x, y]) ∧ xs[i]? = some x ∧ ys[i]? = some y) where
  go := fun i H hi s => ⟨xs, ys, xs[i], ys[i], s.seq h, s.seq k, by simp, by simp⟩
  stop := fun H s => ⟨xs, ys, s.seq h, s.seq k, by omega⟩
  yld := fun i H x H' hi s y => by
    obtain ⟨T, x', y', e, n, e', p, q⟩ := y
    subst e e'
    exact ⟨same_new n, T, x', y', rfl, upd_same, p xs (s.seq h), q ys (s.seq k)⟩
theorem stat_zipT {K : PySem.W.Frag} {H0 : Hp} {a b : Addr} {xs ys : List V} (h : SqT K H0 a xs) (k : SqT K H0 b ys) : StatJ (RZ.ItzT K a b) H0 (min xs.length ys.length) (fun i v H => ∃ T x y, v = .ref T ∧ H T = some (.tup [x, y]) ∧ xs[i]? = some x ∧ ys[i]? = some y) where
  go := fun i H hi s => ⟨xs, ys, xs[i], ys[i], same_seqT s h, same_seqT s k, by simp, by simp⟩
  stop := fun H s => ⟨xs, ys, same_seqT s h, same_seqT s k, by omega⟩
  yld := fun i H x H' hi s y => by
    obtain ⟨T, x', y', e, n, e', p, q⟩ := y
    subst e e'
    exact ⟨same_new n, T, x', y', rfl, upd_same, p xs (same_seqT s h), q ys (same_seqT s k)⟩
/-- what a comprehension collects -/
def outs (out : Nat → Option V) (n : Nat) : List V := (List.range n).filterMap out
theorem outs_succ (out : Nat → Option V) (n : Nat) : outs out (n + 1) = outs out n ++ (out n).toList := by
  unfold outs
  rw [List.range_succ, List.filterMap_append]
  cases h : out n <;> simp [List.filterMap, h]
theorem outs_len (out : Nat → Option V) (n : Nat) : (outs out n).length ≤ n := by
  unfold outs
  exact Nat.le_trans (List.length_filterMap_le _ _) (by simp)
theorem outs_list (f : V → Option V) (xs : List V) : outs (fun i => (xs[i]?).bind f) xs.length = xs.filterMap f := by
  have : ∀ n, n ≤ xs.length → outs (fun i => (xs[i]?).bind f) n = (xs.take n).filterMap f := by
    intro n
    induction n with
    | zero => intro _; rfl
    | succ n ih =>
      intro h
      rw [outs_succ, ih (by omega), List.take_succ, List.filterMap_append]
      congr 1
      have e : xs[n]? = some xs[n] := by simp
      rw [e]
      cases h2 : f xs[n] <;> simp [h2]
  rw [this _ (Nat.le_refl _), List.take_length]
theorem outs_map (f : V → V) (xs : List V) : outs (fun i => (xs[i]?).map f) xs.length = xs.map f := by
  have e : (fun (i : Nat) => (xs[i]?).map f) = fun (i : Nat) => (xs[i]?).bind fun x => some (f x) := by funext i; cases xs[i]? <;> rfl
  rw [e, outs_list]
  simp
theorem outs_fun (f : Nat → V) (n : Nat) : outs (fun i => some (f i)) n = (List.range n).map f := by
  unfold outs
  simp
theorem outs_congr {o o' : Nat → Option V} {n : Nat} (h : ∀ i, i < n → o i = o' i) : outs o n = outs o' n := by
  induction n with
  | zero => rfl
  | succ n ih => rw [outs_succ, outs_succ, ih fun i hi => h i (by omega), h n (by omega)]
/-- a comprehension over what stands still -/
theorem lcG {J : It} {n : Nat} {P : Nat → V → Hp → Prop} {g : TG} {tt : TT} {te : TE} {vs : List Nat} {σ : L2.St} {H1 : Hp} {D : Addr} {Qd : Hp → Prop} (S : StatJ J H1 n P) (hD : H1 D = Option.none) (out : Nat → Option V) (hn : n ≤ sizeLine)
    (hs : ∀ i x H (R : Option V → Hp → Prop), i < n → Same H1 H → P i x H → (∀ H', Same H H' → R (out i) H') → g x (wipe σ vs) H fun σ2 H2 => wipe σ2 vs = wipe σ vs ∧ tt σ2 H2 fun b H3 => if b = true then te σ2 H3 fun y H4 => R (some y) H4 else R Option.none H3)
    (hd : ∀ H, Same H1 H → H D = some (.lst (outs out n)) → Qd H) :
    ∃ W : Nat → Nat → Hp → Prop, (∃ m, W 0 m (upd H1 D (.lst []))) ∧ ∀ i m H, W i m H →
      (J.stop i H ∧ Qd H) ∨ (J.go i H ∧ ∃ Nx : Hp → Prop, (∀ H', Nx H' → ∃ m', m' < m ∧ W (i + 1) m' H') ∧ ∀ x H', J.yld i H x H' → g x (wipe σ vs) H' fun σ2 H2 => wipe σ2 vs = wipe σ vs ∧ tt σ2 H2 fun b H3 =>
        if b = true then te σ2 H3 fun y H4 => ∃ acc, H4 D = some (.lst acc) ∧ acc.length < sizeLine ∧ Nx (upd H4 D (.lst (acc ++ [y]))) else Nx H3) := by
  refine ⟨fun i m H => m = n - i ∧ i ≤ n ∧ Same H1 H ∧ H D = some (.lst (outs out i)), ⟨n, by simp, Nat.zero_le _, same_new hD, by rw [upd_same]; rfl⟩, ?_⟩
  rintro i m H ⟨rfl, hi, s, hH⟩
  by_cases hlt : i < n
  · refine .inr ⟨S.go i H hlt s, fun H' => Same H1 H' ∧ H' D = some (.lst (outs out (i + 1))), fun H' p => ⟨n - (i + 1), by omega, rfl, hlt, p.1, p.2⟩, fun x H' y => ?_⟩
    obtain ⟨s2, px⟩ := S.yld i H x H' hlt s y
    refine hs i x H' (fun r H4 => match r with | some y => ∃ acc, H4 D = some (.lst acc) ∧ acc.length < sizeLine ∧ (Same H1 (upd H4 D (.lst (acc ++ [y]))) ∧ (upd H4 D (.lst (acc ++ [y]))) D = some (.lst (outs out (i + 1)))) | none => Same H1 H4 ∧ H4 D = some (.lst (outs out (i + 1)))) hlt (s.trans s2) px fun H4 s4 => ?_
    have h4 : H4 D = some (.lst (outs out i)) := s4 _ _ (s2 _ _ hH)
    have s14 : Same H1 H4 := (s.trans s2).trans s4
    cases ho : out i with
    | none =>
      refine ⟨s14, ?_⟩
      rw [outs_succ, ho, h4]
      simp
    | some y =>
      refine ⟨_, h4, Nat.lt_of_le_of_lt (outs_len out i) (Nat.lt_of_lt_of_le hlt hn), same_upd s14 hD, ?_⟩
      rw [upd_same, outs_succ, ho]
      rfl
  · have e : i = n := by omega
    subst e
    exact .inl ⟨S.stop H s, hd H s hH⟩
/-- without a test -/
theorem lcM {J : It} {n : Nat} {P : Nat → V → Hp → Prop} {g : TG} {te : TE} {vs : List Nat} {σ : L2.St} {H1 : Hp} {D : Addr} {Qd : Hp → Prop} (S : StatJ J H1 n P) (hD : H1 D = Option.none) (out : Nat → V) (hn : n ≤ sizeLine)
    (hs : ∀ i x H (R : V → Hp → Prop), i < n → Same H1 H → P i x H → (∀ H', Same H H' → R (out i) H') → g x (wipe σ vs) H fun σ2 H2 => wipe σ2 vs = wipe σ vs ∧ te σ2 H2 R)
    (hd : ∀ H, Same H1 H → H D = some (.lst ((List.range n).map out)) → Qd H) :
    ∃ W : Nat → Nat → Hp → Prop, (∃ m, W 0 m (upd H1 D (.lst []))) ∧ ∀ i m H, W i m H →
      (J.stop i H ∧ Qd H) ∨ (J.go i H ∧ ∃ Nx : Hp → Prop, (∀ H', Nx H' → ∃ m', m' < m ∧ W (i + 1) m' H') ∧ ∀ x H', J.yld i H x H' → g x (wipe σ vs) H' fun σ2 H2 => wipe σ2 vs = wipe σ vs ∧ tYes σ2 H2 fun b H3 =>
        if b = true then te σ2 H3 fun y H4 => ∃ acc, H4 D = some (.lst acc) ∧ acc.length < sizeLine ∧ Nx (upd H4 D (.lst (acc ++ [y]))) else Nx H3) := by
  refine ⟨fun i m H => m = n - i ∧ i ≤ n ∧ Same H1 H ∧ H D = some (.lst ((List.range i).map out)), ⟨n, by simp, Nat.zero_le _, same_new hD, by rw [upd_same]; rfl⟩, ?_⟩
  rintro i m H ⟨rfl, hi, s, hH⟩
  by_cases hlt : i < n
  · refine .inr ⟨S.go i H hlt s, fun H' => Same H1 H' ∧ H' D = some (.lst ((List.range (i + 1)).map out)), fun H' p => ⟨n - (i + 1), by omega, rfl, hlt, p.1, p.2⟩, fun x H' y => ?_⟩
    obtain ⟨s2, px⟩ := S.yld i H x H' hlt s y
    show g x (wipe σ vs) H' fun σ2 H2 => wipe σ2 vs = wipe σ vs ∧ (if true = true then te σ2 H2 fun y H4 => ∃ acc, H4 D = some (.lst acc) ∧ acc.length < sizeLine ∧ (Same H1 (upd H4 D (.lst (acc ++ [y]))) ∧ (upd H4 D (.lst (acc ++ [y]))) D = some (.lst ((List.range (i + 1)).map out))) else (Same H1 H2 ∧ H2 D = some (.lst ((List.range (i + 1)).map out))))
    simp only [if_true]
    refine hs i x H' (fun y H4 => ∃ acc, H4 D = some (.lst acc) ∧ acc.length < sizeLine ∧ (Same H1 (upd H4 D (.lst (acc ++ [y]))) ∧ (upd H4 D (.lst (acc ++ [y]))) D = some (.lst ((List.range (i + 1)).map out)))) hlt (s.trans s2) px fun H4 s4 => ?_
    have h4 : H4 D = some (.lst ((List.range i).map out)) := s4 _ _ (s2 _ _ hH)
    refine ⟨_, h4, Nat.lt_of_le_of_lt (by simp) (Nat.lt_of_lt_of_le hlt hn), same_upd ((s.trans s2).trans s4) hD, ?_⟩
    rw [upd_same, List.range_succ, List.map_append]
    rfl
  · have e : i = n := by omega
    subst e
    exact .inl ⟨S.stop H s, hd H s hH⟩
theorem range_map (f : V → V) (d : V) (xs : List V) : (List.range xs.length).map (fun i => f (xs.getD i d)) = xs.map f := by
  apply List.ext_getElem
  · simp
  · intro i h1 h2
    have h3 : i < xs.length := by simpa using h2
    simp [List.getD, h3]
theorem getD_of {xs : List V} {i : Nat} {x d : V} (h : xs[i]? = some x) : xs.getD i d = x := by
  simp [List.getD, h]
end XT

namespace XT
open PySem PySem.Spec PyProof.Rows L2
/-! ### the rules whose reading names the written part, with that part given -/
section
variable {X : Cx} (K : PySem.W.Frag)
theorem fldK {e : Expr} {f : Str} {pos : Pos} {ta : TE} (he : PE X e ta) (hb : attributeBase e f X.env (eval e X.env) = eval e X.env) (hK : X.K = K := by rfl) : PE X (.Attribute e f pos) (tFld K ta f) := by subst hK; exact pe_fld he hb
theorem tupK {es : List Expr} {k : Nat} {pos : Pos} {t : TGs} {n : Nat} (hc : X.calm = true) (h : PGs X es t) (hK : X.K = K := by rfl) (hn : (assignEach es X.env).length = n := by rfl) (hst : (assignEach es X.env).findIdx? (·.1) = none := by rfl) : PG X (.Tuple es k pos) (gTup K n t) := by
  subst hK
  exact pg_tup hc h hn hst
theorem unlK {es : List Expr} {k : Nat} {pos : Pos} {t : TGs} {n : Nat} (hc : X.calm = true) (h : PGs X es t) (hK : X.K = K := by rfl) (hn : (assignEach es X.env).length = n := by rfl) (hst : (assignEach es X.env).findIdx? (·.1) = none := by rfl) : PG X (.Tuple es k pos) (gUnl K n t) := by
  subst hK
  exact pg_unl hc h hn hst
theorem ixLK (hK : X.K = K := by rfl) : IxR X (rIxL K) := by subst hK; exact ix_list
theorem ixTK (hK : X.K = K := by rfl) : IxR X (rIxT K) := by subst hK; exact ix_tup
theorem slLK (hK : X.K = K := by rfl) : SlR X (rSlL K) := by subst hK; exact sl_list
theorem slTK (hK : X.K = K := by rfl) : SlR X (rSlA K) := by subst hK; exact sl_tupA
theorem lenK (hK : X.K = K := by rfl) : CallR X (.builtin "len") (fun xs H Q => ∃ p ys, xs = [.ref p] ∧ (SqL K H p ys ∨ SqT K H p ys) ∧ Q (.int ys.length) H) := by subst hK; exact call_len_seq
theorem typeK (hK : X.K = K := by rfl) : CallR X (.type "type") (rTyp K) := by subst hK; exact call_type1
theorem allK (hc : X.calm = true) (hK : X.K = K := by rfl) : CallR X (.builtin "all") (rAll K) := by subst hK; exact cr_all hc
theorem sortedK (hK : X.K = K := by rfl) : CallR X (.builtin "sorted") (rSortedI K) := by subst hK; exact cr_sortedI
theorem listK (hK : X.K = K := by rfl) : CallR X (.type "list") (fun xs H Q => ∃ p ys, xs = [.ref p] ∧ (SqL K H p ys ∨ SqT K H p ys) ∧ ∀ l, H l = Option.none → Q (.ref l) (upd H l (.lst ys))) := by subst hK; exact call_list_of
theorem tupleK (hK : X.K = K := by rfl) : CallR X (.type "tuple") (fun xs H Q => ∃ p ys, xs = [.ref p] ∧ ((SqL K H p ys ∧ ∀ l, H l = Option.none → Q (.ref l) (upd H l (.tup ys))) ∨ (SqT K H p ys ∧ Q (.ref p) H))) := by subst hK; exact call_tuple_of
theorem inK (hK : X.K = K := by rfl) : OpR X (compareOp .In) (rIn K false) := by subst hK; exact op_in_seq
theorem notInK (hK : X.K = K := by rfl) : OpR X (compareOp .NotIn) (rIn K true) := by subst hK; exact op_notIn_seq
theorem eqDK (hu : X.A.units + 64 < cLine) (hK : X.K = K := by rfl) : OpR X (compareOp .Eq) (rEqD K) := by subst hK; exact op_eqD hu
theorem neDK (hu : X.A.units + 64 < cLine) (hK : X.K = K := by rfl) : OpR X (compareOp .NotEq) (rNeD K) := by subst hK; exact op_neD hu
theorem inTyK (hK : X.K = K := by rfl) : OpR X (compareOp .In) (fun x y H Q => ∃ (m : String) (p : Addr) (ns : List String), x = .ty m ∧ y = .ref p ∧ SqT K H p (ns.map V.ty) ∧ tyN m = true ∧ (∀ n ∈ ns, tyN n = true) ∧ Q (.bl (ns.any fun n => decide (n = m))) H) := by subst hK; exact op_inTy
theorem bmK {o e : Expr} {es : List Expr} {name : Str} {apos cpos : Pos} {to : TE} {t : TA} {r : V → List V → Hp → VK → Prop} {T : String} (h : PE X (.Call (.Attribute o name apos) (e :: es) [] cpos) (tBM X.K T r to t)) (hK : X.K = K := by rfl) : PE X (.Call (.Attribute o name apos) (e :: es) [] cpos) (tBM K T r to t) := by subst hK; exact h
theorem starK {e : Expr} {p : Pos} {es : List Expr} {te : TE} {t : TA} (h : PA X (.Starred e p :: es) (StX.tStar X.K te t)) (hK : X.K = K := by rfl) : PA X (.Starred e p :: es) (StX.tStar K te t) := by subst hK; exact h
end
end XT

namespace XT
open PySem PySem.Spec PyProof.Rows L2
/-! ### data of ints -/
theorem dpAll_ints {K : PySem.W.Frag} {H : Hp} (L : List Int) : DpAll K H (L.map V.int) (L.map PyData.int) := by
  induction L with
  | nil => exact .nil
  | cons x L ih => exact .cons (.int x) ih
theorem dp_lst {K : PySem.W.Frag} {H : Hp} {p : Addr} {L : List Int} (h : SqL K H p (L.map V.int)) : Dp K H (.ref p) (.list (L.map PyData.int)) := .lst h (dpAll_ints L)
theorem dp_tup {K : PySem.W.Frag} {H : Hp} {p : Addr} {L : List Int} (h : SqT K H p (L.map V.int)) : Dp K H (.ref p) (.tuple (L.map PyData.int)) := .tup h (dpAll_ints L)
theorem eqvAll_ints (L : List Int) : ∀ M : List Int, PyData.eqvAll (L.map PyData.int) (M.map PyData.int) = decide (L = M) := by
  induction L with
  | nil =>
    intro M
    cases M with
    | nil => simp [PyData.eqvAll]
    | cons y M => simp [PyData.eqvAll]
  | cons x L ih =>
    intro M
    cases M with
    | nil => simp [PyData.eqvAll]
    | cons y M =>
      rw [List.map_cons, List.map_cons, PyData.eqvAll, ih]
      by_cases h : x = y
      · subst h
        simp [PyData.eqv]
      · have : (PyData.int x).eqv (.int y) = false := by simp [PyData.eqv, h]
        rw [this]
        simp [h]
theorem eqv_tups (L M : List Int) : PyData.eqv (.tuple (L.map PyData.int)) (.tuple (M.map PyData.int)) = decide (L = M) := by
  rw [PyData.eqv]
  exact eqvAll_ints L M
theorem eqv_lsts (L M : List Int) : PyData.eqv (.list (L.map PyData.int)) (.list (M.map PyData.int)) = decide (L = M) := by
  rw [PyData.eqv]
  exact eqvAll_ints L M
theorem shaped_lst (L : List Int) : SeqAt.shaped (.list (L.map PyData.int)) = true := PySem.W.ke_shaped_ints L
theorem shaped_tup (L : List Int) : SeqAt.shaped (.tuple (L.map PyData.int)) = true := by
  have := PySem.W.ke_shaped_ints L
  unfold SeqAt.shaped at this ⊢
  simpa [PyData.canLay0, PyData.depth] using this
/-! ### bool(x) by its truth -/
section
variable {prog : Program} {w : World} {A : Around} {E : Value → Shared → Prop} {s : Shared}
theorem bool_gen {v : Value} {Q : Value → Shared → Prop} (h : wpAny (model prog w) A.in1.in1 (truthy v) (fun b s1 => Q (.bool b) s1) E s) : wpAny (model prog w) A (call (.type "bool") [v]) Q E s := by
  refine callType_codes (T := "bool") (Bi := Builtin.«object.__init__») (Q₁ := fun r s1 => ∃ b, r = Value.bool b ∧ Q r s1) PySem.F.called_bool (PySem.F.typeCall_bool_1 _) PySem.F.entry_object_init ?_ ?_
  · refine codeAny_of_tree ?_
    show wpAny _ A.in1.in1 (do checkBuiltinCall "bool.__new__" ⟨[.type "bool", v], []⟩; again (.builtin "bool.__new__" ⟨[.type "bool", v], []⟩)) _ _ s
    refine wpAny_bind (wpAny_of_eq (PySem.F.newCall_bool_1 _) (wpAny_pure ⟨plainId_quiet (by decide +kernel) _, codeAny_builtin PySem.F.entry_bool_new ?_⟩))
    rw [Around.under_plainId (by decide +kernel) _]
    unfold Builtin.«bool.__new__»
    refine wpAny_bind (wpAny_of_eq (a := true) type_bool ?_)
    refine PySem.W.KFB.if_not rfl ?_
    refine wpAny_bind (wpAny_of_eq (a := true) PySem.F.conv_sub_bool ?_)
    refine PySem.W.KFB.if_not rfl ?_
    refine wpAny_bind (m := someArgs "bool" 0 1 _) (wpAny_of_eq (a := [v]) (by first | rfl | kernel_rfl | simp [someArgs]) ?_)
    dsimp only
    exact wpAny_bind (wpAny_mono h (fun b s1 q => wpAny_pure ⟨b, rfl, q⟩) fun _ _ y => y)
  · rintro obj s₁ ⟨b, rfl, hq⟩
    exact ⟨PySem.typeIs_bool _ _, PySem.F.args_object_init_2 _ _, object_init_meets PySem.F.called_bool.init.lookup PySem.F.called_bool.made (by decide) prog w A.in1 _ s₁ ⟨PySem.typeIs_bool _ _, rfl, hq⟩⟩
end
section
variable {X : Cx} (K : PySem.W.Frag)
theorem boolT (hK : X.K = K := by rfl) : CallR X (.type "bool") (fun xs H Q => ∃ (a : Addr) (zs : List V), xs = [.ref a] ∧ SqT K H a zs ∧ Q (.bl (!zs.isEmpty)) H) := by
  subst hK
  intro pins s σ H xs us Q I r h
  obtain ⟨a, zs, rfl, hq, q⟩ := h
  obtain rfl := Vals.ref1 r
  obtain ⟨its, rv, pl, hz⟩ := I.tuple hq
  have hl := line63
  have hlen := rv.length
  refine bool_gen (truthy_tuple pl (by simp only [List.size_toArray]; omega) ?_)
  exact ⟨.bl (!zs.isEmpty), H, I.tok _, by rw [isEmpty_of rv]; rfl, q⟩
end
end XT

namespace XT
open PySem PySem.Spec PyProof.Rows L2
/-! ### defs that ask which list or tuple is being written (repr): nothing of that kind is under way -/
/-- as FnR, no repr being under way -/
def FnG (P : Program) (w : World) (K : PySem.W.Frag) (mg : Str → Option Value) (base : Heap) (CX : CXT) (k : Nat) (f : Addr) (sp : Sp) : Prop :=
  ∀ (A : Around) (outer : List Env) (s : Shared) (H : Hp) (us : List Value) (vs : List V) (Q : VK) (E : XK), A.guards = some [] → Room k A → Env0 P w K mg base A outer s H → Vals vs us → sp vs H Q E →
    codeAny (model P w) A (.call (.ref f) ⟨us, []⟩) (CR CX outer P w H s Q E) s
section
variable {P : Program} {w : World} {K : PySem.W.Frag} {mg : Str → Option Value} {base : Heap} {CX : CXT} {j k : Nat} {f : Addr} {sp sp' : Sp}
theorem FnG.imp (F : FnG P w K mg base CX k f sp) (h : ∀ vs H Q E, sp' vs H Q E → sp vs H Q E) : FnG P w K mg base CX k f sp' := fun A outer s H us vs Q E hg hr e0 r hs => F A outer s H us vs Q E hg hr e0 r (h _ _ _ _ hs)
theorem FnR.toG (F : FnR P w K mg base CX k f sp) : FnG P w K mg base CX k f sp := fun A outer s H us vs Q E _ hr e0 r hs => F A outer s H us vs Q E hr e0 r hs
/-- a def by its body, one entry at a time -/
theorem fnG_of {name qual : Str} {params : Arguments} {body : List Stmt} {scope : Scope} {dV kV doc pm cdv ct oc : Value} {an od : Option Addr}
    {osl : Array (Option Value)} {N ps : List Str} (lk : K.lookup f = some ⟨oc, od, .func (PySem.W.fnOf name qual params body scope dV kV doc pm an cdv ct), osl⟩) (hcd : PySem.W.codeIn K cdv qual = true) (S : FnScope N ps scope)
    (hb : Binds K (PySem.W.fnOf name qual params body scope dV kV doc pm an cdv ct) ps []) (len : ∀ vs H Q E, sp vs H Q E → vs.length = ps.length)
    (hbody : ∀ (A : Around) (outer : List Env) (s : Shared) (H : Hp) (vs : List V) (Q : VK) (E : XK), (A.deeper (envOfC qual scope s.heap.objs.size f cdv)).guards = some [] → Room k (A.deeper (envOfC qual scope s.heap.objs.size f cdv)) → sp vs H Q E →
      ∃ t, PSs (cxOf CX P w K mg base N qual scope f cdv A outer s H E) body t ∧ t { nx := fun _ H' => Q .non H', rt := Q } (start N vs) H) :
    FnG P w K mg base CX (k + 1) f sp := by
  intro A outer s H us vs Q E hg hr e0 r hsp
  have hl := len _ _ _ _ hsp
  have hlu : us.length = ps.length := r.length ▸ hl
  have keep : ∀ b o, base.get? b = some o → s.heap.get? b = some o := fun b o e => (e0.bs b o e).1
  have KX : K.In s.heap := e0.mod.kin.keeps keep
  have lim : s.heap.NoLimit := e0.mod.nolimit.keeps keep
  have hkind : ∀ y ∈ ps.zip us, scope.names.lookup y.1 = some .local ∨ (scope.names.lookup y.1 = some .cell ∧ ((cellsFrom (s.heap.objs.size + 1) scope.names []).lookup y.1).isSome = true) := fun ⟨n, v⟩ hy => by
    rcases S.par n (List.of_mem_zip hy).1 with q | q
    · exact .inl q
    · exact .inr ⟨q, PySem.W.cellsFrom_some _ _ _ (.inl q)⟩
  have hbt : BindsTo s (PySem.W.fnOf name qual params body scope dV kV doc pm an cdv ct) ⟨us, []⟩ (ps.zip us) := by
    have z := hb s us KX (by simpa using hlu)
    simpa using z
  refine codeAny_call_function hr.depth (KX _ _ lk) rfl S.co S.gen rfl (PySem.W.codeRec_of KX hcd) (hbt _ _ _ _ ?_)
  refine wpAny_newFunctionEnv_cells S.kind hkind fun env he s1 x => ?_
  subst he
  refine ⟨lim.keeps x.toInCall.keep, codeAny_func ?_⟩
  obtain ⟨t, ht, hq⟩ := hbody A outer s H vs Q E hg (hr.deeper _) hsp
  have I : Inv (cxOf CX P w K mg base N qual scope f cdv A outer s H E) [] (start N vs) H s1 := inv_start S hr.hd e0 hl r x
  have fin : ∀ {σ' : L2.St} {H' : Hp} {v : V} {u : Value} {s' : Shared}, Inv (cxOf CX P w K mg base N qual scope f cdv A outer s H E) [] σ' H' s' → RelV v u → Q v H' → CE outer P w H s Q u s' :=
    fun {σ' H' v u s'} J rv q => ⟨v, H', J.os, J.bare, J.base, J.hok, rv, q⟩
  refine wpAny_mono (ht.run [] s1 (start N vs) H _ I hq) (fun fl s' hs => ?_) fun e s' hs => hs
  match fl, hs with
  | .ret u, ⟨v, σ', H', J, rv, q⟩ => exact fin J rv q
  | .next, ⟨σ', H', J, q⟩ => exact fin (v := V.non) (u := Value.none) J rfl q
  | .brk, ⟨_, _, _, q⟩ => exact q.elim
  | .cont, ⟨_, _, _, q⟩ => exact q.elim
/-- a def that may raise, by positional values -/
theorem okGX {x qual : Str} {st : Stmt} {fd : FuncData} {N ps : List Str} (F : Fun K x qual st f fd) (S : FnScope N ps (defScope st)) (B : Bnd x qual st ps) (len : ∀ vs H Q E, sp vs H Q E → vs.length = ps.length)
    (hbody : ∀ (cdv : Value) (A : Around) (outer : List Env) (s : Shared) (H : Hp) (vs : List V) (Q : VK) (E : XK), (A.deeper (envOfC qual (defScope st) s.heap.objs.size f cdv)).guards = some [] → Room k (A.deeper (envOfC qual (defScope st) s.heap.objs.size f cdv)) → sp vs H Q E →
      ∃ t, PSs (cxOf CX P w K mg base N qual (defScope st) f cdv A outer s H E) (defBody st) t ∧ t { nx := fun _ H' => Q .non H', rt := Q } (start N vs) H) : FnG P w K mg base CX (k + 1) f sp := by
  have hb := F.binds B
  obtain ⟨oc, od, kV, doc, pm, an, cdv, ct, osl, rfl, lk, hcd⟩ := F.ex
  exact fnG_of lk hcd S hb len fun A outer s H vs Q E hg hr hsp => hbody cdv A outer s H vs Q E hg hr hsp
/-- a def that may raise, by positional values -/
theorem okX {x qual : Str} {st : Stmt} {fd : FuncData} {N ps : List Str} (F : Fun K x qual st f fd) (S : FnScope N ps (defScope st)) (B : Bnd x qual st ps) (len : ∀ vs H Q E, sp vs H Q E → vs.length = ps.length)
    (hbody : ∀ (cdv : Value) (A : Around) (outer : List Env) (s : Shared) (H : Hp) (vs : List V) (Q : VK) (E : XK), Room k (A.deeper (envOfC qual (defScope st) s.heap.objs.size f cdv)) → sp vs H Q E →
      ∃ t, PSs (cxOf (L2.CX P w) P w K mg base N qual (defScope st) f cdv A outer s H E) (defBody st) t ∧ t { nx := fun _ H' => Q .non H', rt := Q } (start N vs) H) : FnR P w K mg base (L2.CX P w) (k + 1) f sp := by
  have G := F.okX S len hbody
  have hb := F.binds B
  exact (G.raw hb .nil).imp fun vs H Q E h => by simpa using h
end
end XT

namespace XT
open PySem PySem.Spec PyProof.Rows L2
/-! ### several clauses «except X as n» behind one another -/
/-- the ways out of a suite that has bound slot i -/
def endsAs (i : Nat) (D : Ends) : Ends := { nx := fun σ' H' => D.nx (σ'.set i none) H', rt := D.rt, bk := fun σ' H' => D.bk (σ'.set i none) H', ct := fun σ' H' => D.ct (σ'.set i none) H' }
/-- what the clauses wish of an exception: class, slot, suite -/
def wAsL (K : PySem.W.Frag) (Wout : WX) (D : Ends) : List (Value × Nat × (Addr → Value → Option Addr → TS)) → WX
  | [] => Wout
  | (c, i, ts) :: r => fun cls d σ H => ∃ b, PySem.W.exmOne K cls c = some b ∧ (b = true → ∀ a, H a = none → ts a cls d (endsAs i D) (σ.set i (some (.ref a))) H) ∧ (b = false → wAsL K Wout D r cls d σ H)
/-- the written clauses, one by one -/
inductive AsOk (X : Cx) : List ExceptHandler → List (Value × Nat × (Addr → Value → Option Addr → TS)) → Prop
  | nil : AsOk X [] []
  | cons {x n : Str} {c : Value} {i : Nat} {ts : Addr → Value → Option Addr → TS} {b₀ : Stmt} {suite : List Stmt} {np pos' : Pos} {hds : List ExceptHandler} {l : List (Value × Nat × (Addr → Value → Option Addr → TS))} (hc : Names X x c)
      (hi : X.N[i]? = some n) (hln : X.env.kindOf n = some .local)
      (hsu : ∀ (a : Addr) (oe : Obj) (cls : Value) (d : Option Addr) (pn : List (Addr × Obj)), Zc cls d oe → (∃ vs, oe.data = .fields vs) → PSs (X.suite a ((a, oe) :: pn)) (b₀ :: suite) (ts a cls d)) (r : AsOk X hds l) :
      AsOk X (.ExceptHandler (some (.Name x np)) (some n) (b₀ :: suite) pos' :: hds) ((c, i, ts) :: l)
section
variable {X : Cx} {body : List Stmt} {h₀ : ExceptHandler} {hds : List ExceptHandler} {l : List (Value × Nat × (Addr → Value → Option Addr → TS))} {pos : Pos} {tb : WX → TS} {Wout : WX}
theorem ps_try_asL (hs : X.stack = X.env :: X.outer) (hf : X.env.frame = some X.env.locals) (hN : X.N.Nodup) (tk : Takes X Wout)
    (hb : ∀ (W : WX) (pn : List (Addr × Obj)) (xe : Value → Shared → Prop), Takes (X.tr pn xe) W → PassesOwn (model X.prog X.w) X.A X.env xe → PSs (X.tr pn xe) body (tb W))
    (hh : AsOk X (h₀ :: hds) l) : PS X (.Try body (h₀ :: hds) [] [] pos) (fun D σ H => tb (wAsL X.K Wout D l) D σ H) := by
  refine ⟨fun pins s σ H D I h => ?_⟩
  have ok := I.ok
  have hfr : X.A.frames = some (X.env :: X.outer) := ok.frames.trans (congrArg some hs)
  refine wpAny_Try_except ?_
  refine wpAny_mono ((hb (wAsL X.K Wout D l) (X.pn ++ pins) (fun e s₁ => wpAny (model X.prog X.w) X.A (noteFrame e X.env) (fun _ s₂ => wpAny (model X.prog X.w) X.A (setFlight e none) (fun _ s₃ =>
    wpAny (model X.prog X.w) X.A (handleBy e X.env (h₀ :: hds)) (SP X pins D) X.xe s₃) X.xe s₂) X.xe s₁) (fun u s' xx => ?_) PassesOwn.looking).run [] s σ H D (I.toTry _) h) (fun f s1 hsp => ?_) (fun e s1 he => he)
  · obtain ⟨a, B, sI, pins', σ', H', cls, d, rfl, J', nb, up, sky, na, os, ag, w⟩ := xx
    have J : Inv X pins σ' H' sI := J'.ofTry ok
    have sky' : Sky B (X.env :: X.outer) a (Zc cls d) X.env.locals s'.heap := hs ▸ sky
    show wpAny (model X.prog X.w) X.A (noteFrame (.ref a) X.env) _ _ _
    refine Sky.land Zc.steady hfr hf sky' fun h3 fl3 up3 => ?_
    have up13 := up.trans up3
    have J3 : Inv X pins σ' H' { s' with heap := h3 } := J.landed nb fl3.1 up13 os ag
    obtain ⟨oe3, vs3, he3, hz3, hd3⟩ := fl3.there
    have nfr : a ∉ frs (X.env :: X.outer) := fun hm => by
      obtain ⟨_, o', e', hnf⟩ := fl3.2.2.1.mem hm
      exact hnf _ (by rw [he3] at e'; cases e'; exact hd3)
    have nL : a ≠ X.env.locals := fun z => nfr (List.mem_filterMap.mpr ⟨X.env, List.mem_cons_self, hf.trans (congrArg some z.symm)⟩)
    have nF : a ∉ X.fs := fun hm => by
      obtain ⟨e, he, q⟩ := List.mem_filterMap.mp hm
      exact nfr (List.mem_filterMap.mpr ⟨e, List.mem_cons_of_mem _ he, q⟩)
    have S3 := J3.suite he3 hd3 na nL nF
    have LT : PySem.W.Looks (model X.prog X.w) h3 (typeOf (.ref a)) cls := fun A Q E s k q => wpAny_typeOf_ref (k _ _ he3) (hz3.1.symm ▸ q)
    have go : ∀ {hds' : List ExceptHandler} {l' : List (Value × Nat × (Addr → Value → Option Addr → TS))}, AsOk X hds' l' → wAsL X.K Wout D l' cls d σ' H' →
        wpAny (model X.prog X.w) X.A (handleBy (.ref a) X.env hds') (SP X pins D) X.xe { s' with heap := h3 } := by
      intro hds' l' hk
      induction hk with
      | nil =>
        intro w
        refine wpAny_handleBy_nil ?_
        obtain ⟨k1, k2, k3, oe, vs, T, oT, ts', he, hz, hd, h1, hr⟩ := id fl3
        unfold PySem.passOn
        refine wpAny_bind (wpAny_field he hd h1 ?_)
        rw [if_neg (show ¬ ((Value.ref T == Value.none) = true) from by simp)]
        have fin : wpAny (model X.prog X.w) X.A (setFlight (.ref a) X.env.frame) (fun _ s4 => wpAny (model X.prog X.w) X.A (throw (.ref a) : Sem Flow) (SP X pins D) X.xe s4) X.xe { s' with heap := h3 } := by
          rw [hf]
          exact HandSPX.setFlight_upZ fl3 fun h4 hh4 up4 => wpAny_throw (tk _ _ ⟨a, B, sI, pins, σ', H', cls, d, rfl, J, nb, up13.trans up4, .inr (.inr (by rw [hs]; exact hh4)), na, os, ag, w⟩)
        first
          | exact wpAny_bind (wpAny_pure (wpAny_bind fin))
          | exact wpAny_bind fin
      | @cons x n c i ts b₀ suite np pos' hds2 l2 hc hi hln hsu r ih =>
        intro w
        obtain ⟨b, hb1, hyes, hno⟩ := w
        refine wpAny_handleBy_cons (codeAny_handlers_test ?_) (by intro q; cases q)
        have LM := PySem.W.exm_one (M := model X.prog X.w) (J3.kIn) LT hb1
        have test : ∀ {Q : Value → Shared → Prop} {E : Value → Shared → Prop}, Q c { s' with heap := h3 } → wpAny (model X.prog X.w) (X.A.mark (some (.ref a))) (eval (.Name x np) X.env) Q E { s' with heap := h3 } := fun {Q E} q => by
          obtain ⟨hg, hdbg, hm | ⟨hm, hv, hnn⟩⟩ := hc
          · exact ld_glob (X := X.suite a ((a, oe3) :: (X.pn ++ pins))) S3 hg hm q hdbg
          · exact ld_blt (X := X.suite a ((a, oe3) :: (X.pn ++ pins))) S3 hg hm hv q hnn hdbg
        refine test (LM.here ?_)
        cases b with
        | true =>
          refine codeAny_handlers_suite_as ?_
          refine HandSPX.lands_againZ fl3 fun h4 fl4 up4 => ?_
          have J4 : Inv X pins σ' H' { s' with heap := h4 } := J.landed nb fl4.1 (up13.trans up4) os ag
          obtain ⟨oe4, vs4, he4, hz4, hd4⟩ := fl4.there
          have S4 := J4.suite he4 hd4 na nL nF
          refine store_ok (X := X.suite a ((a, oe4) :: (X.pn ++ pins))) (v := .ref a) S4 hN hi (.inl hln) rfl (fun s5 S5 => ?_) (.inr hln)
          refine wpAny_mono ((hsu a oe4 cls d (X.pn ++ pins) hz4 ⟨_, hd4⟩).run [] s5 _ H' _ S5 (hyes rfl a na)) (fun f s6 hsp => ?_) (fun _ _ z => False.elim z)
          have done_ : ∀ {σ6 : L2.St} {H6 : Hp} {Q : Shared → Prop}, Inv (X.suite a ((a, oe4) :: (X.pn ++ pins))) [] σ6 H6 s6 → (∀ s7, Inv X pins (σ6.set i none) H6 s7 → Q s7) →
              wpAny (model X.prog X.w) X.A (do bindName X.env n .none; unbindBehindTheSuite X.env n pos') (fun _ s7 => Q s7) X.xe s6 := fun {σ6 H6 Q} S6 hq => gone_ok (S6.unsuite ok) hN hi hln hq
          match f, hsp with
          | .next, ⟨σ6, H6, S6, q6⟩ => exact done_ S6 fun s7 J7 => ⟨_, _, J7, q6⟩
          | .brk, ⟨σ6, H6, S6, q6⟩ => exact done_ S6 fun s7 J7 => ⟨_, _, J7, q6⟩
          | .cont, ⟨σ6, H6, S6, q6⟩ => exact done_ S6 fun s7 J7 => ⟨_, _, J7, q6⟩
          | .ret u, ⟨v6, σ6, H6, S6, r6, q6⟩ => exact done_ S6 fun s7 J7 => ⟨_, _, _, J7, r6, q6⟩
        | false =>
          show wpAny _ X.A (handleBy (.ref a) X.env hds2) _ _ _
          exact ih (hno rfl)
    exact go hh w
  · match f, hsp with
    | .next, ⟨σ', H', J', q⟩ => exact wpAny_execs_nil ⟨σ', H', J'.ofTry ok, q⟩
    | .brk, ⟨σ', H', J', q⟩ => exact ⟨σ', H', J'.ofTry ok, q⟩
    | .cont, ⟨σ', H', J', q⟩ => exact ⟨σ', H', J'.ofTry ok, q⟩
    | .ret u, ⟨v, σ', H', J', r, q⟩ => exact ⟨v, σ', H', J'.ofTry ok, r, q⟩
end
end XT

namespace XT
open PySem PySem.Spec PyProof.Rows L2
/-! ### repr of data -/
mutual
/-- what the text of d may come to -/
def sc : PyData → Nat
  | .none | .bool _ => 5
  | .int _ => 1921
  | .str x => 10 * x.length + 2
  | .list xs | .tuple xs => scAll xs + 3
  | .dict _ => 2
def scAll : List PyData → Nat
  | [] => 0
  | x :: xs => sc x + 2 + scAll xs
end
mutual
/-- data whose text is known: ints not too big, dicts empty -/
def plainD : PyData → Bool
  | .none | .bool _ => true
  | .int i => decide (i.natAbs.log2 < 1920)
  | .str x => x.cps.toList.all fun c => decide (c < 16 ^ 8)
  | .list xs | .tuple xs => plainAll xs
  | .dict kvs => kvs.isEmpty
def plainAll : List PyData → Bool
  | [] => true
  | x :: xs => plainD x && plainAll xs
end
mutual
theorem plain_showable : ∀ d : PyData, plainD d = true → d.showable = true
  | .none, _ => by simp [PyData.showable]
  | .bool _, _ => by simp [PyData.showable]
  | .int i, h => by simpa [PyData.showable, plainD] using h
  | .str _, _ => by simp [PyData.showable]
  | .list xs, h => by
    simp only [PyData.showable]
    exact plainAll_showable xs (by simpa [plainD] using h)
  | .tuple xs, h => by
    simp only [PyData.showable]
    exact plainAll_showable xs (by simpa [plainD] using h)
  | .dict [], _ => by simp [PyData.showable, PyData.showableKv]
  | .dict (_ :: _), h => by simp [plainD] at h
theorem plainAll_showable : ∀ xs : List PyData, plainAll xs = true → PyData.showableAll xs = true
  | [], _ => by simp [PyData.showableAll]
  | x :: xs, h => by
    have h' : plainD x = true ∧ plainAll xs = true := by simpa [plainAll] using h
    simp only [PyData.showableAll, Bool.and_eq_true]
    exact ⟨plain_showable x h'.1, plainAll_showable xs h'.2⟩
end
mutual
theorem shown_sc : ∀ d : PyData, plainD d = true → d.shown.length ≤ sc d
  | .none, _ => by decide +kernel
  | .bool true, _ => by decide +kernel
  | .bool false, _ => by decide +kernel
  | .int i, h => by
    have e : i.natAbs.log2 < 1920 := by simpa [plainD] using h
    have := PySem.int_text_length_le (k := 1920) (by decide) e
    show (Str.ofString (toString i)).length ≤ 1921
    rw [PySem.ofString_length]
    exact this
  | .str x, h => by
    simp only [sc, PyData.shown]
    refine StrLaws.reprText_len x ?_
    unfold plainD at h
    rw [List.all_eq_true] at h
    exact fun c hc => of_decide_eq_true (h c hc)
  | .list xs, h => by
    simp only [sc, PyData.shown]
    have := shownAll_sc xs (by simpa [plainD] using h)
    have := listText_len_le (PyData.shownAll xs)
    omega
  | .tuple xs, h => by
    simp only [sc, PyData.shown]
    have := shownAll_sc xs (by simpa [plainD] using h)
    have := tupleText_len_le (PyData.shownAll xs)
    omega
  | .dict [], _ => by decide +kernel
  | .dict (_ :: _), h => by simp [plainD] at h
theorem shownAll_sc : ∀ xs : List PyData, plainAll xs = true → ((PyData.shownAll xs).map (·.length)).sum + 2 * (PyData.shownAll xs).length ≤ scAll xs
  | [], _ => by simp [PyData.shownAll, scAll]
  | x :: xs, h => by
    have h' : plainD x = true ∧ plainAll xs = true := by simpa [plainAll] using h
    have h1 := shown_sc x h'.1
    have h2 := shownAll_sc xs h'.2
    simp only [PyData.shownAll, scAll, List.map_cons, List.sum_cons, List.length_cons]
    omega
end
theorem scAll_ints (L : List Int) : scAll (L.map PyData.int) = 1923 * L.length := by
  induction L with
  | nil => rfl
  | cons x L ih => simp only [List.map_cons, scAll, ih, sc, List.length_cons]; omega
theorem log2_lt_of {m : Nat} (h : m < 2 ^ 1920) : m.log2 < 1920 := by
  by_cases e : m = 0
  · subst e
    decide
  · exact (Nat.log2_lt e).mpr h
theorem plainAll_ints {L : List Int} (h : ∀ x ∈ L, x.natAbs < 2 ^ 1920) : plainAll (L.map PyData.int) = true := by
  induction L with
  | nil => rfl
  | cons x L ih =>
    simp only [List.map_cons, plainAll, Bool.and_eq_true]
    refine ⟨?_, ih fun y hy => h y (List.mem_cons_of_mem _ hy)⟩
    simp only [plainD, decide_eq_true_eq]
    exact log2_lt_of (h x List.mem_cons_self)
/-- x stands for the data d: flat and nested lists and tuples; an empty dict alone, or second in a pair -/
def Rd (K : PySem.W.Frag) (H : Hp) (x : V) (d : PyData) : Prop :=
  (Dp K H x d ∧ d.hasDict = false) ∨ (∃ a, x = .ref a ∧ H a = some (.dK []) ∧ d = .dict []) ∨ ∃ (a b : Addr) (i : Int), x = .ref a ∧ SqT K H a [.int i, .ref b] ∧ H b = some (.dK []) ∧ d = .tuple [.int i, .dict []]
section
variable {X : Cx} {pins : List (Addr × Obj)} {σ : L2.St} {H : Hp} {s : Shared}
theorem emp_reads {a : Addr} (I : Inv X pins σ H s) (h : H a = some (.dK [])) : Reads s.heap (.ref a) (.dict []) [a] ∧ a ≠ sysModules := by
  obtain ⟨_, hs, vs, hkv, o, es, ep, ho, hx, hd, _, hp, _⟩ := I.hok a _ h
  have ev : vs = [] := by cases hkv; rfl
  subst ev
  have ee : es.toList = [] := by
    first
      | (cases hp; assumption)
      | (have := hp.length; simpa using this)
      | (generalize es.toList = l at hp; cases hp; rfl)
  refine ⟨?_, fun z => by subst z; simp at hs⟩
  have z := Reads.dict (kvs := []) (as := []) (bs := []) ho hx.1 hd (by rw [ee]; exact .nil) (by rw [ee]; exact .nil)
  simpa using z
theorem Rd.reads {x : V} {u : Value} {d : PyData} (I : Inv X pins σ H s) (h : Rd X.K H x d) (r : RelV x u) : ∃ as, Reads s.heap u d as ∧ (d.hasDict = true → sysModules ∉ as) := by
  rcases h with ⟨h, hn⟩ | ⟨a, rfl, h, rfl⟩ | ⟨a, b, i, rfl, ht, h, rfl⟩
  · obtain ⟨as, q⟩ := Dp.reads I d x u h r
    exact ⟨as, q, PyData.noDict_hsm hn⟩
  · cases r
    obtain ⟨q, ne⟩ := emp_reads I h
    exact ⟨_, q, fun _ z => ne (List.mem_singleton.mp z).symm⟩
  · cases r
    obtain ⟨q, ne⟩ := emp_reads I h
    obtain ⟨its, rv, ⟨o, ho, hc, n, hd⟩, _⟩ := I.tuple ht
    cases rv with
    | cons r1 rr =>
      cases rr with
      | cons r2 rr =>
        cases rr
        obtain ⟨t, rfl⟩ := r1
        cases r2
        refine ⟨_, Reads.tuple ho hc hd (.cons (.int i t) (.cons q .nil)), fun _ z => ?_⟩
        simp at z
        exact ne z.symm
/-- repr(x) of data -/
def rReprD (K : PySem.W.Frag) : List V → Hp → VK → Prop := fun xs H Q => ∃ x d, xs = [x] ∧ Rd K H x d ∧ plainD d = true ∧ d.depth ≤ 50 ∧ sc d ≤ 16000000 ∧ Q (.str d.shown) H
theorem call_reprD (hg : X.A.guards = some []) (hu : X.A.units + 64 < cLine) : CallR X (.builtin "repr") (rReprD X.K) := by
  intro pins s σ H xs us Q I r h
  obtain ⟨x, d, rfl, hr, hp, hd, hz, q⟩ := h
  obtain ⟨u, rfl, ru⟩ := r.one
  obtain ⟨as, hre, hsm⟩ := hr.reads I ru
  have hsz : d.shown.length ≤ sizeLine := by
    have := shown_sc d hp
    rw [sizeLine_eq]
    omega
  have fin : ∀ h' v tk, (∀ b o, s.heap.get? b = some o → h'.get? b = some o) → EP X pins σ Q (.str d.shown v) { s with heap := h', toks := tk } := fun h' v tk k => ⟨.str d.shown, H, I.kept (t' := tk) k, ⟨v, rfl⟩, q⟩
  cases hre with
  | none => exact PySem.P.repr_of_none (fin s.heap _ _ fun _ _ z => z)
  | bool b => exact PySem.P.repr_of_bool (by cases b <;> exact fin s.heap _ _ fun _ _ z => z)
  | int i t => exact PySem.P.repr_of_int (by simpa [plainD] using hp) (fin s.heap _ _ fun _ _ z => z)
  | str y t => exact PySem.P.repr_of_str (fin s.heap _ _ fun _ _ z => z) hsz
  | list h1 h2 h3 h4 => exact repr_of_reads' (.list h1 h2 h3 h4) (plain_showable _ hp) hsm hg (by omega) (fun _ _ z => z) fin hsz
  | tuple h1 h2 h3 h4 => exact repr_of_reads' (.tuple h1 h2 h3 h4) (plain_showable _ hp) hsm hg (by omega) (fun _ _ z => z) fin hsz
  | dict h1 h2 h3 h4 h5 => exact repr_of_reads' (.dict h1 h2 h3 h4 h5) (plain_showable _ hp) hsm hg (by omega) (fun _ _ z => z) fin hsz
end
end XT

namespace XT
open PySem PySem.Spec PyProof.Rows L2
/-! ### the law's call, no repr under way at its start -/
section
variable {P : Program} {w : World} {K : PySem.W.Frag} {mg mb : Str → Option Value} {CX : CXT} {k : Nat} {fa a : Addr} {sp : Sp} {s₁ : Shared} {vs : List Value} {ns : List Int}
/-- from one abstract heap: nothing but the script is tracked -/
theorem law_coreG (H : Hp) (KX : K.In s₁.heap) (hns : s₁.heap.Ns mainGlobals mg) (hb : s₁.heap.Ns builtinsNs mb) (hbb : ∀ x : Str, x ≠ "__name__" → mb x = bootBuiltins x) (hlim : s₁.heap.NoLimit) (hg : s₁.gens = #[])
    (ha : s₁.heap.get? a = some { cls := .type "list", data := .seq vs.toArray }) (hr : Room k callerA)
    (F : ∀ base : Heap, K.In base → base.Ns mainGlobals mg → FnG P w K mg base CX k fa sp)
    (hq : sp [.ref a] H (fun v _ => v = .bl true) fun _ _ _ => False) (hCX : ∀ H e s', CX [] H s₁ (fun _ _ _ => False) e s' → False)
    (hO : Only H) (hok : HOk P w H s₁.heap) (hA : ∀ b, H b ≠ none → b = a) (hK : H a ≠ none → K.lookup a = none) :
    codeAny (model P w) callerA (.call (.ref fa) ⟨[.ref a], []⟩) (fun r s' => r = .ok (.ret (.bool true)) ∧ OldK s₁.heap s'.heap ∧ s'.os = s₁.os ∧ AllBare s'.gens) s₁ := by
  have free : ∀ {b : Addr}, (b = a → False) → H b = none := fun {b} h => by
    by_cases q : H b = none
    · exact q
    · exact (h (hA b q)).elim
  have noA : ∀ {b : Addr} {o : Obj} {es : Array DictEntry} {ep : Nat}, s₁.heap.get? b = some o → o.data = .dict es ep → H b = none := fun {b o es ep} e d => free fun z => by
    subst z
    rw [ha] at e
    cases e
    have d' : Data.seq vs.toArray _ = Data.dict es ep := d
    cases d'
  have hKb : K.In (hidT s₁.heap H) := fun b o e => hidT_get (KX b o e) (by
    by_cases q : H b = none
    · exact q
    · have z := hA b q
      subst z
      rw [hK q] at e
      cases e)
  have nsK : ∀ {b : Addr} {m : Str → Option Value}, s₁.heap.Ns b m → (hidT s₁.heap H).Ns b m := fun {b m} ⟨o, es, ep, e, d, r⟩ => ⟨o, es, ep, hidT_get e (noA e d), d, r⟩
  have hM : Mod K mg (hidT s₁.heap H) := ⟨hKb, nsK hns, ⟨mb, nsK hb, hbb⟩, let ⟨mc, h1, h2⟩ := hlim; ⟨mc, nsK h1, h2⟩⟩
  have e0 : Env0 P w K mg (hidT s₁.heap H) callerA [] s₁ H := ⟨rfl, hM, fun b o e => of_hidT e, Nat.le_of_eq (hidT_size _ _), trivial, fun b hb => absurd (show b ∈ ([] : List Addr) from hb) (by simp), hok, .of_eq hg⟩
  refine codeAny_mono (F _ hKb (nsK hns) callerA [] s₁ H [.ref a] [.ref a] _ _ rfl hr e0 (.cons rfl .nil) hq) fun r s' h => ?_
  match r, h with
  | .error e, h => exact (hCX H e s' h).elim
  | .ok (.ret u), ⟨v, H', os, bare, un, hok', r', q⟩ =>
    have q' : v = .bl true := q
    subst q'
    obtain rfl : u = Value.bool true := r'
    refine ⟨rfl, OldK.of_keep fun b o e => ?_, os, bare⟩
    cases q : H b with
    | none => exact un.keep b o e q (by intro z; exact absurd (show b ∈ ([] : List Addr) from z) (by simp)) (by simp)
    | some u =>
      rcases hO b with z | ⟨ob, xs, z⟩
      · rw [q] at z
        cases z
      · obtain ⟨e1, _⟩ := hok b _ z
        obtain ⟨e2, _⟩ := hok' b _ (un.frzs b ob _ z)
        rw [e] at e1
        cases e1
        exact e2
theorem law_callG (KX : K.In s₁.heap) (hns : s₁.heap.Ns mainGlobals mg) (hb : s₁.heap.Ns builtinsNs mb) (hbb : ∀ x : Str, x ≠ "__name__" → mb x = bootBuiltins x) (hlim : s₁.heap.NoLimit) (hg : s₁.gens = #[])
    (ha : s₁.heap.get? a = some { cls := .type "list", data := .seq vs.toArray }) (hi : IntsAre vs ns) (hl : ns.length ≤ sizeLine) (hr : Room k callerA)
    (F : ∀ base : Heap, K.In base → base.Ns mainGlobals mg → FnG P w K mg base CX k fa sp)
    (hsp : ∀ H : Hp, Only H → SqL K H a (ns.map V.int) → sp [.ref a] H (fun v _ => v = .bl true) fun _ _ _ => False)
    (hCX : ∀ H e s', CX [] H s₁ (fun _ _ _ => False) e s' → False) :
    codeAny (model P w) callerA (.call (.ref fa) ⟨[.ref a], []⟩) (fun r s' => r = .ok (.ret (.bool true)) ∧ OldK s₁.heap s'.heap ∧ s'.os = s₁.os ∧ AllBare s'.gens) s₁ := by
  have rv := vals_ints hi
  have lenV := hi.length
  cases hk : K.lookup a with
  | some o =>
    have e := KX a o hk
    rw [ha] at e
    cases e
    have hO : Only fun _ => none := fun _ => .inl rfl
    exact law_coreG (fun _ => none) KX hns hb hbb hlim hg ha hr F (hsp _ hO (.inr ⟨_, vs.toArray, _, hk, rfl, rfl, rfl, by rw [List.size_toArray, lenV]; exact hl, by simpa using rv⟩)) hCX hO (fun b u z => nomatch (show (none : Option HO) = some u from z)) (fun b z => absurd rfl z) fun z => absurd rfl z
  | none =>
    let o : HO := .frz { cls := .type "list", data := .seq vs.toArray } (.lst (ns.map V.int))
    let H : Hp := fun b => if b = a then some o else none
    have at_ : H a = some o := if_pos rfl
    have off : ∀ {b}, b ≠ a → H b = none := fun h => if_neg h
    have hO : Only H := fun b => by
      by_cases e : b = a
      · subst e
        exact .inr ⟨_, _, at_⟩
      · exact .inl (off e)
    refine law_coreG H KX hns hb hbb hlim hg ha hr F (hsp H hO (.inl (.inr ⟨_, at_⟩))) hCX hO (fun b u z => ?_) (fun b z => ?_) fun _ => hk
    · by_cases e : b = a
      · subst e
        rw [at_] at z
        cases z
        exact ⟨ha, by rw [List.length_map]; exact hl, vs, _, rv, ha⟩
      · rw [off e] at z
        cases z
    · by_cases e : b = a
      · exact e
      · exact absurd (off e) z
end
/-- the goal of the head, from the law's promise -/
theorem walkG {l : PySem.W.OpenLaw} {n k : Nat} {q : Program} {loose : List Str} {XP : (Str → Option Value) → Heap → Prop} {YP : World → Heap → Prop} {d : DefRec} {K : Params → PySem.W.Frag} {CX : World → CXT} {sp : World → Sp}
    (hn : l.most = some n) (hn2 : n ≤ sizeLine) (hdf : d.params.defaults = []) (hr : Room k callerA)
    (hY : ∀ (w : World) (h : Heap), YP w h → (K w.params).In h)
    (F : ∀ (w : World) (mg : Str → Option Value) (fa : Addr) (h : Heap), (K w.params).In h → h.Ns mainGlobals mg → mg d.name = some (.ref fa) →
      ∀ base : Heap, (K w.params).In base → base.Ns mainGlobals mg → FnG l.prog w (K w.params) mg base (CX w) k fa (sp w))
    (hsp : ∀ (w : World) (H : Hp) (a : Addr) (ns : List Int), ns.length ≤ n → Only H → SqL (K w.params) H a (ns.map V.int) → sp w [.ref a] H (fun v _ => v = .bl true) fun _ _ _ => False)
    (hCX : ∀ (w : World) (H : Hp) (s : Shared) (e : Value) (s' : Shared), CX w [] H s (fun _ _ _ => False) e s' → False) :
    PySem.W.WalkO q loose XP YP l.row.toRowW d [] (fun f vs => PySem.call f vs) := by
  refine Att.attach_call hn hdf fun w s₀ s₁ mg mb fa o pm cd doc a vs ns G Y ho hd hcd hmg hobj hints hlen hg => ?_
  have KX := hY w _ Y
  exact law_callG KX G.T.g G.T.b G.T.builtins G.T.nolimit hg hobj hints (Nat.le_trans hlen hn2) hr (F w mg fa _ KX G.T.g hmg) (fun H hO hS => hsp w H a ns hlen hO hS) fun H e s' => hCX w H s₁ e s'
end XT

namespace XT
open PySem PySem.Spec PyProof.Rows L2
/-! ### own errors that keep one field -/
section
variable {X : Cx}
/-- isinstance(e, c), e the exception that the suite holds, with a dict of its own -/
def rIsED (K : PySem.W.Frag) (D a : Addr) (cls : Value) (d : Option Addr) : List V → Hp → VK → Prop := fun xs H Q => ∃ (c : V) (cv : Value) (b : Bool) (dd : Addr) (fs : List (Str × V)), xs = [.ref a, c] ∧ cls = .ref D ∧ (∀ u, RelV c u → u = cv) ∧ d = some dd ∧ H dd = some (.xd fs) ∧ PySem.W.kitOne K (.ref D) cv = some b ∧ Q (.bl b) H
theorem call_isED {a D : Addr} {oe : Obj} {cls : Value} {d : Option Addr} {pn : List (Addr × Obj)} (C : ExcC X.K D) (hz : Zc cls d oe) (hf : ∃ vs, oe.data = .fields vs) : CallR (X.suite a ((a, oe) :: pn)) (.builtin "isinstance") (rIsED X.K D a cls d) := by
  intro pins s σ H xs us Q I r h
  obtain ⟨c, cv, b, dd, fs, rfl, rfl, hcv, rfl, ed, e, q⟩ := h
  cases r with
  | cons rx rr =>
    cases rr with
    | cons rt rr =>
      cases rr
      cases rx
      have ec := hcv _ rt
      subst ec
      obtain ⟨hget, _⟩ := I.pin (a, oe) (List.mem_append.mpr (.inl List.mem_cons_self))
      obtain ⟨vs, hv⟩ := hf
      obtain ⟨mA, hns, hr⟩ := show ∃ mA, s.heap.Ns1 dd mA ∧ ∀ f, RelO (fs.lookup f) (mA f) from I.hok dd _ ed
      obtain ⟨od, ho, _⟩ := lookIn_ns hns
      have J : PySem.W.InstAt s.heap a oe D (some od) := ⟨hget, hz.1, by unfold PySem.W.notCls; rw [hv] <;> rfl, by rw [hz.2]; exact ho⟩
      have hc : (PySem.W.clsIn X.K D).isSome = true := by
        obtain ⟨cd, hc, _⟩ := PySem.W.any_some C.hd
        rw [hc]
        rfl
      exact PySem.W.kia_one (PySem.W.kitx_exc hc C.hg C.hk C.hs C.ha C.hn C.ht C.hm) I.kIn J e (fun z => nomatch z) fun tk => ⟨.bl b, H, I.kept (t' := tk) fun _ _ z => z, rfl, q⟩
end
/-- the __init__ of such an error: self.f = v -/
def spErr (f : Str) (C : Addr) : Sp := fun vs H Q _ => ∃ (a : Addr) (v : V), vs = [.ref a, v] ∧ H a = some (exo a C none) ∧ ∀ d, H d = none → d ≠ a → Q .non (upd (upd H d (exd d [(f, v)])) a (exo a C (some d)))
/-- what the written part says of such an error -/
structure ErrC (K : PySem.W.Frag) (C fI : Addr) (f : Str) : Prop where
  oex : OexC K C
  iC : PySem.W.findIn K (.ref C) "__init__" = some (some (.ref fI))
  tI : PySem.W.typeIn K (.ref fI) = some (.type "function")
  no : PySem.W.findIn K (.ref C) f = some none
  ga : PySem.W.findIn K (.ref C) "__getattribute__" = some (some (.builtin "BaseException.__getattribute__"))
  gg : PySem.W.findIn K (.ref C) "__getattr__" = some none
  hd : PySem.W.hasDictIn K C = true
  ha : PySem.W.findIn K (.ref C) "__class__" = some (some (.builtin "object.__class__"))
  hn : PySem.W.specialIn K (.builtin "object.__class__") "__get__" = some (some (.builtin "getset_descriptor.__get__"))
  ht : PySem.W.takesIn K (.builtin "object.__class__") = some true
  hm : PySem.W.mroIn K C (.type "object") = some true
theorem ErrC.xf {K : PySem.W.Frag} {C fI : Addr} {f : Str} (T : ErrC K C fI f) : XfC K C := ⟨T.ga, T.gg, T.oex.exC, T.hd⟩
theorem ErrC.exc {K : PySem.W.Frag} {C fI : Addr} {f : Str} (T : ErrC K C fI f) : ExcC K C := ⟨T.ga, T.gg, T.oex.exC, T.hd, T.ha, T.hn, T.ht, T.hm⟩
theorem made_same {H : Hp} {a d C : Addr} {f : Str} {v : V} (ha : H a = none) (hd : d ≠ a) :
    upd (del (upd (upd (upd H a (exo a C none)) d (exd d [(f, v)])) a (exo a C (some d))) a) d (.xd [(f, v)]) = upd H d (.xd [(f, v)]) := by
  funext b
  by_cases e1 : b = d
  · subst e1
    rw [upd_same, upd_same]
  · rw [upd_ne e1, upd_ne e1]
    by_cases e2 : b = a
    · subst e2
      rw [del_same, ha]
    · rw [del_ne e2, upd_ne e2, upd_ne e1, upd_ne e2]
section
variable {X : Cx}
/-- C(e), the error made -/
def tErr (C : Addr) (f : Str) (te : TE) : L2.St → Hp → XK → Prop := fun σ H Q => te σ H fun v H1 => tMkO C (spErr f C) [] (fun _ H Q => Q [v] H) σ H1 Q
theorem err_rd {C : Addr} {f : Str} {v : V} {σ : L2.St} {H : Hp} {Q : XK} (h : ∀ d, H d = none → Q (.ref C) (some d) (upd H d (.xd [(f, v)]))) : tMkO C (spErr f C) [] (fun _ H Q => Q [v] H) σ H Q := by
  refine ⟨by simp, fun a ha => ⟨a, v, rfl, upd_same, fun d hd hne => ⟨rfl, d, [(f, v)], upd_same, ?_, ?_, ?_⟩⟩⟩
  · rw [upd_ne hne, upd_same]
  · rw [upd_ne hne] at hd
    exact hd
  · have hd' : H d = none := by
      rw [upd_ne hne] at hd
      exact hd
    rw [made_same ha hne]
    exact h d hd'
theorem pmk_err {x : Str} {C fI : Addr} {f : Str} {k : Nat} {fd : FuncData} {ps : List Str} {e : Expr} {te : TE} {p pos : Pos} (T : ErrC X.K C fI f) (F1 : FnOk X.prog X.w X.K X.mg X.base CX0 k fI fd ps (spErr f C)) (hb : Binds X.K fd ps []) (hr : Room (k + 1) X.A)
    (hg : Gl X x) (hm : X.mg x = some (.ref C)) (he : PE X e te) (hdb : (x == ("__debug__" : Str)) = false := by decide)
    (hs : starEach [e] X.env = (false, eval e X.env) :: starEach [] X.env := by rfl) (hpl : (backTo pos (starEach [] X.env)).any (·.1) = false := by rfl) :
    PMk X (.Call (.Name x p) [e] [] pos) (tErr C f te) :=
  pmk_oex T.oex T.iC T.tI F1 hr hb .nil pass0 hg hm (pa_cons he pa_nil hs) hdb hs hpl
/-- raise C(e) in a def -/
theorem ps_raiseE {W : WX} {x : Str} {C fI : Addr} {f : Str} {k : Nat} {fd : FuncData} {ps : List Str} {e : Expr} {te : TE} {p pos rpos : Pos} (T : ErrC X.K C fI f) (F1 : FnOk X.prog X.w X.K X.mg X.base CX0 k fI fd ps (spErr f C)) (hb : Binds X.K fd ps []) (hr : Room (k + 1) X.A)
    (hm : X.mg x = some (.ref C)) (hc : X.calm = true) (tk : Takes X W) (he : PE X e te) (hg : Gl X x := by rfl) (hdb : (x == ("__debug__" : Str)) = false := by decide)
    (hs : starEach [e] X.env = (false, eval e X.env) :: starEach [] X.env := by rfl) (hpl : (backTo pos (starEach [] X.env)).any (·.1) = false := by rfl) :
    PS X (.Raise (some (.Call (.Name x p) [e] [] pos)) none rpos) (fun _ σ H => tErr C f te σ H fun cls d H' => W cls d σ H') :=
  ps_raise hc tk (pmk_err T F1 hb hr hg hm he hdb hs hpl)
end
end XT

namespace XT
open PySem PySem.Spec PyProof.Rows L2
section
variable {P : Program} {w : World} {K : PySem.W.Frag} {mg : Str → Option Value} {base : Heap} {CX : CXT} {j k : Nat} {f : Addr} {sp sp' : Sp}
/-- a def that lets nothing out, where something may be let out -/
theorem fnR_lift (F : FnR P w K mg base CX0 k f sp) : FnR P w K mg base CX k f sp := fun A outer s H us vs Q E hr e0 r hs =>
  codeAny_mono (F A outer s H us vs Q E hr e0 r hs) fun r s' h => by
    match r, h with
    | .ok (.ret u), h => exact h
    | .error e, h => exact False.elim h
theorem fnR_or (F : FnR P w K mg base CX k f sp) (G : FnR P w K mg base CX k f sp') : FnR P w K mg base CX k f (fun vs H Q E => sp vs H Q E ∨ sp' vs H Q E) := fun A outer s H us vs Q E hr e0 r hs =>
  hs.elim (fun h => F A outer s H us vs Q E hr e0 r h) (fun h => G A outer s H us vs Q E hr e0 r h)
end
/-- what a call in a try may let out: told for all slots -/
theorem passAll {X : Cx} {W : WX} (tk : Takes X W) (n : Nat) (hn : X.N.length = n) : Passes (L2.CX X.prog X.w) X (fun cls d H => ∀ σ : L2.St, σ.length = n → W cls d σ H) :=
  fun _ σ _ _ e s' I c => tk e s' (XE.of_call I (fun _ _ _ h => h σ (I.len.trans hn)) c)
mutual
theorem dp_same {K : PySem.W.Frag} {H H' : Hp} (s : Same H H') : ∀ (d : PyData) (v : V), Dp K H v d → Dp K H' v d
  | .none, _, h => by cases h; exact .non
  | .bool b, _, h => by cases h; exact .bl b
  | .int i, _, h => by cases h; exact .int i
  | .str x, _, h => by cases h; exact .str x
  | .list ds, _, h => by
    cases h with
    | lst hs ha => exact .lst (s.seq hs) (dpAll_same s ds _ ha)
  | .tuple ds, _, h => by
    cases h with
    | tup hs ha => exact .tup (same_seqT s hs) (dpAll_same s ds _ ha)
  | .dict _, _, h => by cases h
theorem dpAll_same {K : PySem.W.Frag} {H H' : Hp} (s : Same H H') : ∀ (ds : List PyData) (vs : List V), DpAll K H vs ds → DpAll K H' vs ds
  | [], _, h => by cases h; exact .nil
  | d :: ds, _, h => by
    cases h with
    | cons h1 h2 => exact .cons (dp_same s d _ h1) (dpAll_same s ds _ h2)
end
theorem rd_same {K : PySem.W.Frag} {H H' : Hp} (s : Same H H') {v : V} {d : PyData} (h : Rd K H v d) : Rd K H' v d := by
  rcases h with ⟨h, n⟩ | ⟨a, e, h, e2⟩ | ⟨a, b, i, e, h1, h2, e2⟩
  · exact .inl ⟨dp_same s d v h, n⟩
  · exact .inr (.inl ⟨a, e, s _ _ h, e2⟩)
  · exact .inr (.inr ⟨a, b, i, e, same_seqT s h1, s _ _ h2, e2⟩)
/-- data whose text may be asked for -/
structure Okd (d : PyData) : Prop where
  pl : plainD d = true
  dp : d.depth ≤ 50
  sz : sc d ≤ 16000000
theorem repr_rd {K : PySem.W.Frag} {x : V} {d : PyData} {H : Hp} {Q : VK} (h : Rd K H x d) (o : Okd d) (q : Q (.str d.shown) H) : rReprD K [x] H Q := ⟨x, d, rfl, h, o.pl, o.dp, o.sz, q⟩
section
variable {X : Cx} (K : PySem.W.Frag)
theorem reprKx (hg : X.A.guards = some []) (hu : X.A.units + 64 < cLine) (hK : X.K = K := by rfl) : CallR X (.builtin "repr") (rReprD K) := by
  subst hK
  exact call_reprD hg hu
theorem isEKx {a D : Addr} {oe : Obj} {cls : Value} {d : Option Addr} {pn : List (Addr × Obj)} (C : ExcC K D) (hz : Zc cls d oe) (hf : ∃ vs, oe.data = .fields vs) (hK : X.K = K := by rfl) : CallR (X.suite a ((a, oe) :: pn)) (.builtin "isinstance") (rIsED K D a cls d) := by
  subst hK
  exact call_isED C hz hf
end
section
variable {X : Cx}
/-- f(e, ..), f an expression that gives a tracked instance of C -/
def tCallI (C : Addr) (sp : Sp) (E : XK) (tf : TE) (t : TA) : TE := fun σ H Q => tf σ H fun y H1 => ∃ a, y = V.ref a ∧ t σ H1 fun vs H2 => InsA H2 a C ∧ sp (V.ref a :: vs) H2 Q E
theorem pe_callI {CX : CXT} {C : Addr} {k : Nat} {sp : Sp} {E : XK} {fe e : Expr} {es : List Expr} {tf : TE} {t : TA} {pos : Pos} {g : Addr} (hf : PE X fe tf) (c : StX.CallO X.K C g) (F : FnR X.prog X.w X.K X.mg X.base CX k g sp) (hr : Room k X.A) (hx : Passes CX X E) (ha : PA X (e :: es) t)
    (ht : eval (.Call fe (e :: es) [] pos) X.env = (do callWith pos (← eval fe X.env) [] (backTo pos (starEach (e :: es) X.env)) (backToKw pos (keywordEach [] X.env))) := by rfl)
    (he : starEach (e :: es) X.env = (false, eval e X.env) :: starEach es X.env := by rfl) (hpl : (backTo pos (starEach es X.env)).any (·.1) = false := by rfl) : PE X (.Call fe (e :: es) [] pos) (tCallI C sp E tf t) := by
  refine ⟨fun pins s σ H Q I h => ?_⟩
  refine Call_ (thn (hf.run pins s σ H _ I h) fun u s1 ⟨y, H1, I1, ry, a, ey, q⟩ => ?_) ht
  subst ey
  obtain rfl : u = Value.ref a := ry
  refine StX.callO_with (thn (ha.run pos pins s1 σ H1 _ I1 q) fun us s2 ⟨vs, H2, I2, r, hi, q2⟩ => ?_) he hpl
  have hi' : StX.InsC X H2 a C := let ⟨dx, fs, h⟩ := hi; .inr ⟨dx, fs, h⟩
  obtain ⟨ox, od, J, hd⟩ := StX.insC_at I2 hi'
  exact ⟨⟨C, ox, od, J, hd⟩, StX.run_callO c F hr hx I2 hi' r q2⟩
/-- f(e, ..), f a global def with a promise where no repr is under way -/
theorem pe_callG {CX : CXT} {k : Nat} {f : Addr} {sp : Sp} {E : XK} {x : Str} {e : Expr} {es : List Expr} {t : TA} {p pos : Pos} (F : FnG X.prog X.w X.K X.mg X.base CX k f sp) (hgu : X.A.guards = some []) (hr : Room k X.A) (hg : Gl X x) (hm : X.mg x = some (.ref f)) (hk : PySem.W.keepIn X.K (.ref f) = true) (hx : Passes CX X E) (ha : PA X (e :: es) t) (hd : (x == ("__debug__" : Str)) = false := by decide)
    (he : starEach (e :: es) X.env = (false, eval e X.env) :: starEach es X.env := by rfl) (hst : (backTo pos (starEach es X.env)).any (·.1) = false := by rfl) :
    PE X (.Call (.Name x p) (e :: es) [] pos) (tCallR sp E t) := by
  refine ⟨fun pins s σ H Q I h => ?_⟩
  refine wpAny_Call_Name_kw (ld_glob I hg hm ?_ hd)
  refine PySem.W.callWith_K (h₀ := X.base) I.ok.mod.kin hk (thn (ha.run pos pins s σ H _ I h) fun us s1 ⟨vs, H1, I1, r, q⟩ => ⟨I1.kIn, ?_⟩) he hst
  refine wpAny_call (codeAny_mono (F X.A X.stack s1 H1 us vs Q E hgu hr I1.env0 r q) fun r s' hq => ?_)
  match r, hq with
  | .error e, hq => exact hx pins σ H1 s1 e s' I1 hq
  | .ok (.ret u), hq => exact I1.after hq
end
end XT

namespace XT
open PySem PySem.Spec PyProof.Rows L2
section
variable {X : Cx} (K : PySem.W.Frag)
/-- x == y, x of an own class with __eq__, y of another type -/
def rOwnEo (K : PySem.W.Frag) (C : Addr) (sp : Sp) (E : XK) : R2 := fun x y H Q => ∃ a t, x = .ref a ∧ InsA H a C ∧ TyX K H y t ∧ PySem.W.notFirst K C t = true ∧ sp [x, y] H Q E
theorem op_ownEo {CX : CXT} {n : Nat} {C g : Addr} {sp : Sp} {E : XK} (hs : PySem.W.findIn X.K (.ref C) "__eq__" = some (some (.ref g))) (hf : PySem.W.isFn X.K (.ref g) = true) (F : FnR X.prog X.w X.K X.mg X.base CX n g sp)
    (hr : Room n X.A) (hx : Passes CX X E) : OpR X (compareOp .Eq) (rOwnEo X.K C sp E) := by
  intro pins s σ H x y v u Q I rx ry h
  obtain ⟨a, t, rfl, ha, ht, hn, q⟩ := h
  cases (show v = Value.ref a from rx)
  obtain ⟨ox, od, J⟩ := insA_at I ha
  obtain ⟨Z, kz, hz, _⟩ := kit_of I ry ht
  obtain ⟨m, hF⟩ := I.fr
  show wpAny _ _ (richCompare .Eq _ _) _ _ _
  refine PySem.W.cmp_K (op := .Eq) (tb := t) hr.units0 hF I.ok.mod.kin J (kz.ty _ _ I.kIn hz) hn hs hf ?_
  refine wpAny_mono (wpAny_call (run_fnR (us := [.ref a, u]) (vs := [.ref a, y]) F hr hx I (.cons rfl (.cons ry .nil)) q)) (fun w s' z => ?_) fun _ _ x => x
  obtain ⟨z', H', I', rz, qz⟩ := z
  exact SlX.cmpback rz ⟨z', H', I', rz, qz⟩
theorem op_ownEoK {CX : CXT} {n : Nat} {C g : Addr} {sp : Sp} {E : XK} (hs : PySem.W.findIn K (.ref C) "__eq__" = some (some (.ref g))) (hf : PySem.W.isFn K (.ref g) = true) (F : FnR X.prog X.w K X.mg X.base CX n g sp)
    (hr : Room n X.A) (hx : Passes CX X E) (hK : X.K = K := by rfl) : OpR X (compareOp .Eq) (rOwnEo K C sp E) := by
  subst hK
  exact op_ownEo hs hf F hr hx
/-- not x, x of an own class with __bool__ -/
def tNotO (C : Addr) (sp : Sp) (E : XK) (ta : TE) : TE := fun σ H Q => ta σ H fun x H1 => ∃ a, x = .ref a ∧ InsA H1 a C ∧ sp [x] H1 (fun z H2 => ∃ b, z = .bl b ∧ Q (.bl (!b)) H2) E
theorem pe_notO {CX : CXT} {n : Nat} {C g : Addr} {sp : Sp} {E : XK} {e : Expr} {pos : Pos} {ta : TE} (he : PE X e ta) (hs : PySem.W.findIn X.K (.ref C) "__bool__" = some (some (.ref g))) (hf : PySem.W.isFn X.K (.ref g) = true)
    (F : FnR X.prog X.w X.K X.mg X.base CX n g sp) (hr : Room n X.A) (hx : Passes CX X E) : PE X (.UnaryOp .Not e pos) (tNotO C sp E ta) := by
  refine ⟨fun pins s σ H Q I h => ?_⟩
  refine UnaryOp_ (thn (he.run pins s σ H _ I h) fun v s1 ⟨x, H1, I1, r1, q1⟩ => ?_)
  obtain ⟨a, rfl, ha, q⟩ := q1
  cases (show v = Value.ref a from r1)
  obtain ⟨ox, od, J⟩ := insA_at I1 ha
  refine not_of ?_
  unfold truthy
  refine wpAny_bind (m := callSpecial? (.ref a) (Str.ofString "__bool__")) (PySem.W.special_fn I1.kIn J hs (beq_iff_eq.mp hf) (wpAny_mono (wpAny_call (run_fnR (us := [.ref a]) (vs := [.ref a]) F hr hx I1 (.cons rfl .nil) q)) (fun r s' hr => ?_) fun _ _ y => y))
  obtain ⟨z, H', I', rz, b, rfl, hq⟩ := hr
  cases (show r = Value.bool b from rz)
  exact wpAny_pure ⟨.bl (!b), H', I', rfl, hq⟩
end
/-- isinstance of a value of another type -/
theorem kit_other {K : PySem.W.Frag} {C : Addr} {n : String} {b : Bool} (hc : (PySem.W.clsIn K C).isSome = true) (ht : PySem.W.typeIn K (.ref C) = some (.type "type")) (hs : PySem.W.subIn K (.type n) (.ref C) = some b) : PySem.W.kitOne K (.type n) (.ref C) = some b := by
  simp [PySem.W.kitOne, PySem.W.kitCls, hc, ht, hs]
theorem kit_sub {K : PySem.W.Frag} {B C : Addr} (hc : (PySem.W.clsIn K C).isSome = true) (ht : PySem.W.typeIn K (.ref C) = some (.type "type")) (hs : PySem.W.subIn K (.ref B) (.ref C) = some true) : PySem.W.kitOne K (.ref B) (.ref C) = some true := by
  simp [PySem.W.kitOne, PySem.W.kitCls, hc, ht, hs]
end XT

namespace XT
open PySem PySem.Spec PyProof.Rows L2
/-! ### the characters of a text of data are characters -/
theorem ok_of (s : String) : PyData.strOk (Str.ofString s) = true := by
  unfold PyData.strOk
  rw [Str.ofString_eq_toList]
  simp only [List.all_toArray, List.all_map, List.all_eq_true]
  intro c _
  have h : c.toNat < 0x110000 := by
    have := c.valid
    unfold UInt32.isValidChar Nat.isValidChar at this
    have e : c.toNat = c.val.toNat := rfl
    omega
  exact decide_eq_true h
theorem ok_app {x y : Str} (h : PyData.strOk x = true) (k : PyData.strOk y = true) : PyData.strOk (x ++ y) = true := by
  unfold PyData.strOk at *
  show (x.cps ++ y.cps).all _ = true
  rw [Array.all_append, h, k]
  rfl
theorem ok_textFrom : ∀ (ts : List Str) (k : Nat) (acc : Str), (∀ t ∈ ts, PyData.strOk t = true) → PyData.strOk acc = true → PyData.strOk (textFrom k acc ts) = true
  | [], _, _, _, h => h
  | t :: ts, k, acc, ht, h => by
    refine ok_textFrom ts (k + 1) _ (fun u hu => ht u (List.mem_cons_of_mem _ hu)) (ok_app (ok_app h ?_) (ht t List.mem_cons_self))
    exact ok_of _
theorem ok_listText {ts : List Str} (h : ∀ t ∈ ts, PyData.strOk t = true) : PyData.strOk (listText ts) = true := ok_app (ok_textFrom ts 0 _ h (ok_of "[")) (ok_of "]")
theorem ok_join {sep : Str} (hs : PyData.strOk sep = true) : ∀ (ts : List Str), (∀ t ∈ ts, PyData.strOk t = true) → PyData.strOk (Str.join sep ts) = true
  | [], _ => (by decide +kernel : PyData.strOk Str.empty = true)
  | [x], h => h x List.mem_cons_self
  | x :: y :: r, h => ok_app (ok_app (h x List.mem_cons_self) hs) (ok_join hs (y :: r) fun t ht => h t (List.mem_cons_of_mem _ ht))
theorem ok_tupleText {ts : List Str} (h : ∀ t ∈ ts, PyData.strOk t = true) : PyData.strOk (tupleText ts) = true := ok_app (ok_app (ok_of "(") (ok_join (ok_of ", ") ts h)) (ok_of _)
mutual
/-- the texts in d are of characters, also written out -/
def txD : PyData → Bool
  | .none | .bool _ | .int _ => true
  | .str x => PyData.strOk (reprText x)
  | .list xs | .tuple xs => txAll xs
  | .dict kvs => kvs.isEmpty
def txAll : List PyData → Bool
  | [] => true
  | x :: xs => txD x && txAll xs
end
mutual
theorem ok_shown : ∀ d : PyData, txD d = true → PyData.strOk d.shown = true
  | .none, _ => by decide +kernel
  | .bool true, _ => by decide +kernel
  | .bool false, _ => by decide +kernel
  | .int i, _ => ok_of _
  | .str x, h => by simpa [txD, PyData.shown] using h
  | .list xs, h => by
    simp only [PyData.shown]
    exact ok_listText (ok_shownAll xs (by simpa [txD] using h))
  | .tuple xs, h => by
    simp only [PyData.shown]
    exact ok_tupleText (ok_shownAll xs (by simpa [txD] using h))
  | .dict [], _ => by decide +kernel
  | .dict (_ :: _), h => by simp [txD] at h
theorem ok_shownAll : ∀ xs : List PyData, txAll xs = true → ∀ t ∈ PyData.shownAll xs, PyData.strOk t = true
  | [], _, t, ht => by simp [PyData.shownAll] at ht
  | x :: xs, h, t, ht => by
    have h' : txD x = true ∧ txAll xs = true := by simpa [txAll] using h
    simp only [PyData.shownAll, List.mem_cons] at ht
    rcases ht with rfl | ht
    · exact ok_shown x h'.1
    · exact ok_shownAll xs h'.2 t ht
end
theorem txAll_ints (L : List Int) : txAll (L.map PyData.int) = true := by
  induction L with
  | nil => rfl
  | cons x L ih => simp only [List.map_cons, txAll, txD, ih, Bool.and_self]
/-- comparing shaped data with itself -/
theorem ne_self {d : PyData} (h : SeqAt.shaped d = true) : (!PyData.eqv d d) = false := by rw [SeqAt.eqv_refl d (SeqAt.canLay_of_shaped h)]; rfl
theorem sh_told {w x : Str} (hw : PyData.strOk w = true) (hx : PyData.strOk x = true) (b : Bool) : SeqAt.shaped (.list [.str w, .str x, .bool b]) = true := by
  simp [SeqAt.shaped, PyData.canLay0, PyData.canLayAll0, PyData.depth, PyData.depthAll, hw, hx]
theorem dp_told {K : PySem.W.Frag} {H : Hp} {r : Addr} {w x : Str} {b : Bool} (h : H r = some (.lst [.str w, .str x, .bl b])) : Dp K H (.ref r) (.list [.str w, .str x, .bool b]) := .lst (SqL.of h) (.cons (.str w) (.cons (.str x) (.cons (.bl b) .nil)))
theorem canLay_ints : ∀ L : List Int, PyData.canLayAll0 (L.map PyData.int) = true
  | [] => rfl
  | x :: L => by simp [PyData.canLayAll0, PyData.canLay0, canLay_ints L]
theorem depth_ints : ∀ L : List Int, PyData.depthAll (L.map PyData.int) = 0
  | [] => rfl
  | x :: L => by simp [PyData.depthAll, PyData.depth, depth_ints L]
theorem sh_three (s g : Int) (L : List Int) : SeqAt.shaped (.list [.int s, .tuple (L.map PyData.int), .int g]) = true := by
  simp [SeqAt.shaped, PyData.canLay0, PyData.canLayAll0, PyData.depth, PyData.depthAll, canLay_ints, depth_ints]
theorem sh_tab (w : Str) (hw : PyData.strOk w = true) (s : Int) (L : List Int) : SeqAt.shaped (.list [.str w, .int s, .tuple (L.map PyData.int)]) = true := by
  simp [SeqAt.shaped, PyData.canLay0, PyData.canLayAll0, PyData.depth, PyData.depthAll, canLay_ints, depth_ints, hw]
theorem sh_pair {w x : Str} (hw : PyData.strOk w = true) (hx : PyData.strOk x = true) (b : Bool) : SeqAt.shaped (.list [.list [.str w, .str x, .bool b], .list [.str w, .str x, .bool b]]) = true := by
  simp [SeqAt.shaped, PyData.canLay0, PyData.canLayAll0, PyData.depth, PyData.depthAll, hw, hx]
/-- one statement, the rest cut off behind it -/
theorem seq_cut2 {t u : TS} {D : Ends} {σ : L2.St} {H : Hp} (G : L2.St → Hp → Prop) (h : ∀ N : L2.St → Hp → Prop, (∀ σ' H', G σ' H' → N σ' H') → t { D with nx := N } σ H) (k : ∀ σ' H', G σ' H' → u D σ' H') : tSeq t u D σ H := h (u D) k
theorem next_go {D : Ends} {σ : L2.St} {H : Hp} (h : D.nx σ H) : tNext D σ H := h
theorem seq_cut {t u : TS} {D : Ends} {σ : L2.St} {H : Hp} (G : Hp → Prop) (h : ∀ N : L2.St → Hp → Prop, (∀ H', G H' → N σ H') → t { D with nx := N } σ H) (k : ∀ H', G H' → u D σ H') : tSeq t u D σ H := h (u D) k
end XT

namespace XT
open PySem PySem.Spec PyProof.Rows L2
/-! ### static methods -/
/-- C.m is a static method: its record at p, its def at g -/
structure CSta (K : PySem.W.Frag) (C : Addr) (mc : Value) (m : Str) (p g : Addr) : Prop where
  at_ : PySem.W.findCls K (.ref C) mc m = some (.get (.builtin "staticmethod.__get__") (.ref p) .none (.ref C))
  rc : ∃ rest, PySem.W.recIn K p "staticmethod" = some (.ref g :: rest)
  kp : PySem.W.keepIn K (.ref g) = true
/-- the same, reached through an instance -/
structure CStI (K : PySem.W.Frag) (C : Addr) (m : Str) (p g : Addr) : Prop where
  pg : PySem.W.plainGet K C Str.empty = true
  ic : PySem.W.isClsIn K C = true
  at_ : PySem.W.findIn K (.ref C) m = some (some (.ref p))
  ty : PySem.W.typeIn K (.ref p) = some (.type "staticmethod")
  get : PySem.W.specialIn K (.ref p) "__get__" = some (some (.builtin "staticmethod.__get__"))
  tk : PySem.W.takesIn K (.ref p) = some false
  cp : PySem.W.copiedNames.contains m = false
  rc : ∃ rest, PySem.W.recIn K p "staticmethod" = some (.ref g :: rest)
  kp : PySem.W.keepIn K (.ref g) = true
def tSta (C : Addr) (sp : Sp) (E : XK) (ta : TE) (t : TA) : TE := fun σ H Q => ta σ H fun x H1 => x = .ref C ∧ t σ H1 fun vs H2 => sp vs H2 Q E
def tStaI (C : Addr) (m : Str) (sp : Sp) (E : XK) (ta : TE) (t : TA) : TE := fun σ H Q => ta σ H fun x H1 => ∃ a dx fs, x = .ref a ∧ H1 a = some (.ins C dx fs) ∧ fs.lookup m = none ∧ t σ H1 fun vs H2 => sp vs H2 Q E
section
variable {X : Cx} {CX : CXT} {k : Nat} {C p g : Addr} {mc : Value} {sp : Sp} {E : XK} {o e : Expr} {es : List Expr} {f m : Str} {pos apos : Pos} {ta : TE} {t : TA} {pl : Sem Bool}
theorem pe_sta (he : PE X o ta) (r : ClX.CRead X.K C mc) (c : CSta X.K C mc m p g) (F : FnR X.prog X.w X.K X.mg X.base CX k g sp) (hr : Room k X.A) (hx : Passes CX X E) (ha : PA X (e :: es) t)
    (hst : starEach (e :: es) X.env = (false, eval e X.env) :: starEach es X.env := by rfl) (hpl : (backTo pos (starEach es X.env)).any (·.1) = false := by rfl)
    (ht : eval (.Call (.Attribute o m apos) (e :: es) [] pos) X.env = (do
      let ov ← eval o X.env
      standAt apos.atName
      let (f, first) ← holding [ov] (getMethod ov m pl)
      callWith pos f first (backTo pos (starEach (e :: es) X.env)) (backToKw pos (keywordEach [] X.env))) := by rfl) :
    PE X (.Call (.Attribute o m apos) (e :: es) [] pos) (tSta C sp E ta t) := by
  refine ⟨fun pins s σ H Q I h => ?_⟩
  refine PySem.W.methodCall_KW (pl := pl) (thn (he.run pins s σ H _ I h) fun u s1 ⟨x, H1, I1, rx, ex, q⟩ => ?_) ht
  subst ex
  obtain rfl : u = Value.ref C := rx
  refine PySem.W.method_cls I1.kIn r.ga ?_
  obtain ⟨rest, hp⟩ := c.rc
  refine PySem.W.cls_bind I1.kIn r.rd c.at_ ?_
  refine wpAny_call (PySem.W.sm_get (s := { s1 with toks := s1.toks + 1 }) I1.kIn hp (PySem.W.handed_on rfl ?_))
  have I2 := I1.tok (s1.toks + 1)
  refine PySem.W.callWith_K (h₀ := X.base) I.ok.mod.kin c.kp (thn (ha.run pos pins _ σ H1 _ I2 q) fun us s2 ⟨vs, H2, I3, r2, q2⟩ => ⟨I3.kIn, ?_⟩) hst hpl
  exact wpAny_call (run_fnR F hr hx I3 r2 q2)
theorem pe_staI (he : PE X o ta) (c : CStI X.K C m p g) (F : FnR X.prog X.w X.K X.mg X.base CX k g sp) (hr : Room k X.A) (hx : Passes CX X E) (ha : PA X (e :: es) t)
    (hst : starEach (e :: es) X.env = (false, eval e X.env) :: starEach es X.env := by rfl) (hpl : (backTo pos (starEach es X.env)).any (·.1) = false := by rfl)
    (ht : eval (.Call (.Attribute o m apos) (e :: es) [] pos) X.env = (do
      let ov ← eval o X.env
      standAt apos.atName
      let (f, first) ← holding [ov] (getMethod ov m pl)
      callWith pos f first (backTo pos (starEach (e :: es) X.env)) (backToKw pos (keywordEach [] X.env))) := by rfl) :
    PE X (.Call (.Attribute o m apos) (e :: es) [] pos) (tStaI C m sp E ta t) := by
  refine ⟨fun pins s σ H Q I h => ?_⟩
  refine PySem.W.methodCall_KW (pl := pl) (thn (he.run pins s σ H _ I h) fun u s1 ⟨x, H1, I1, rx, a, dx, fs, ex, ea, l, q⟩ => ?_) ht
  subst ex
  obtain rfl : u = Value.ref a := rx
  obtain ⟨mA, O, rr, _, _, _⟩ := ins_get I1.hok ea
  have hn : mA m = none := RelO.none_of (by rw [← l]; exact rr m)
  obtain ⟨od, J, hl⟩ := O.look
  obtain ⟨rest, hp⟩ := c.rc
  have hg : PySem.W.plainGet X.K C m = true := c.pg
  refine PySem.W.method_usual (r := some (.ref p)) I1.kIn J (PySem.W.plainGet_of hg).1 (PySem.W.plainGet_of hg).2 c.at_ ?_ ?_
  · show ((PySem.W.typeIn X.K (.ref p)).any fun t => t != .type "function" && t != .type "method_descriptor" && t != .type "wrapper_descriptor") = true
    rw [c.ty]
    first
    | rfl
    | decide +kernel
  · refine PySem.W.get_bind I1.kIn J (PySem.W.plainGet_of hg).1 (ClX.find_cm c.ic c.at_ c.get c.tk c.cp (by rw [hl m, hn])) (PySem.W.plainGet_of hg).2 ?_
    refine wpAny_call (PySem.W.sm_get (s := { s1 with toks := s1.toks + 1 }) I1.kIn hp (PySem.W.handed_on rfl ?_))
    have I2 := I1.tok (s1.toks + 1)
    refine PySem.W.callWith_K (h₀ := X.base) I.ok.mod.kin c.kp (thn (ha.run pos pins _ σ H1 _ I2 q) fun us s2 ⟨vs, H2, I3, r2, q2⟩ => ⟨I3.kIn, ?_⟩) hst hpl
    exact wpAny_call (run_fnR F hr hx I3 r2 q2)
/-! ### C(), C(*e) by a positional promise of its __init__ -/
def tMakeR0 (C : Addr) (sp : Sp) (E : XK) : TE := fun _ H Q => ∀ x dx, H x = none → H dx = none → dx ≠ x → sp [V.ref x] (upd (upd H dx (.own x)) x (.ins C dx [])) (fun v H2 => v = .non ∧ Q (.ref x) H2) E
theorem pe_makeR0 {x : Str} {p : Pos} (M : Mk X.K C g) (F : FnR X.prog X.w X.K X.mg X.base CX k g sp) (hr : Room (k + 1) X.A) (hg : Gl X x) (hm : X.mg x = some (.ref C)) (hx : Passes CX X E) (hdb : (x == ("__debug__" : Str)) = false := by decide) :
    PE X (.Call (.Name x p) [] [] pos) (tMakeR0 C sp E) := by
  refine ⟨fun pins s σ H Q I h => ?_⟩
  refine wpAny_Call_Name_kw (ld_glob I hg hm ?_ hdb)
  refine PySem.W.callWith_K0 (first := []) I.kIn M.kp ?_
  exact StX.run_makeR (us := []) (vs := []) M F hr hx I .nil h
theorem pe_makeS1 {x : Str} {p sp_ : Pos} {te : TE} (M : Mk X.K C g) (F : FnR X.prog X.w X.K X.mg X.base CX k g sp) (hr : Room (k + 1) X.A) (hg : Gl X x) (hm : X.mg x = some (.ref C)) (hx : Passes CX X E) (he : PE X e te) (hdb : (x == ("__debug__" : Str)) = false := by decide)
    (hst : starEach [.Starred e sp_] X.env = [(true, eval e X.env)] := by rfl) :
    PE X (.Call (.Name x p) [.Starred e sp_] [] pos) (fun σ H Q => te σ H fun y H1 => ∃ a xs, y = V.ref a ∧ (SqT X.K H1 a xs ∨ SqL X.K H1 a xs) ∧ ∀ x dx, H1 x = none → H1 dx = none → dx ≠ x → sp (V.ref x :: xs) (upd (upd H1 dx (.own x)) x (.ins C dx [])) (fun v H2 => v = .non ∧ Q (.ref x) H2) E) := by
  refine ⟨fun pins s σ H Q I h => ?_⟩
  refine wpAny_Call_Name_kw (ld_glob I hg hm ?_ hdb)
  refine PySem.W.callWith_S (h₀ := X.base) I.ok.mod.kin M.kp (thn (he.run pins s σ H _ I h) fun v s1 ⟨y, H1, I1, ry, a, xs, ey, hxs, q⟩ => ?_) hst
  subst ey
  obtain rfl : v = Value.ref a := ry
  exact StX.star_any I1 hxs fun us s2 I2 rv => ⟨I2.kIn, StX.run_makeR M F hr hx I2 rv q⟩
end
/-! ### defs with a star -/
section
variable {P : Program} {w : World} {K : PySem.W.Frag} {mg : Str → Option Value} {base : Heap}
def BndS (x qual : Str) (st : Stmt) (ps : List Str) (pv : Str) : Prop := ∀ (kV doc pm : Value) (an : Option Addr) (cdv ct : Value) (us rest : List Value), us.length = ps.length →
  bindArgs (PySem.W.fnOf x qual (defArgs st) (defBody st) (defScope st) .none kV doc pm an cdv ct) ⟨us ++ rest, []⟩ = (newTuple rest >>= fun t => pure (ps.zip us ++ [(pv, t)]))
/-- the promise of a def whose last parameter takes what is left over -/
def spStar (n : Nat) (sp : Sp) : Sp := fun vs H Q E => ∃ ws rest, vs = ws ++ rest ∧ ws.length = n ∧ rest.length ≤ sizeLine ∧ ∀ p, H p = none → sp (ws ++ [V.ref p]) (upd H p (.tup rest)) Q E
theorem okStar {x qual : Str} {st : Stmt} {f : Addr} {fd : FuncData} {N ps : List Str} {pv : Str} {k : Nat} {sp : Sp} (F : Fun K x qual st f fd) (S : FnScope N (ps ++ [pv]) (defScope st)) (B : BndS x qual st ps pv)
    (hbody : ∀ (cdv : Value) (A : Around) (outer : List Env) (s : Shared) (H : Hp) (vs : List V) (Q : VK) (E : XK), Room k (A.deeper (envOfC qual (defScope st) s.heap.objs.size f cdv)) → sp vs H Q E →
      ∃ t, PSs (cxOf (L2.CX P w) P w K mg base N qual (defScope st) f cdv A outer s H E) (defBody st) t ∧ t { nx := fun _ H' => Q .non H', rt := Q } (start N vs) H) : FnR P w K mg base (L2.CX P w) (k + 1) f (spStar ps.length sp) := by
  obtain ⟨oc, od, kV, doc, pm, an, cdv, ct, osl, rfl, lk, hcd⟩ := F.ex
  exact StX.fn_star lk hcd S StX.cxUp (fun us rest h => B kV doc pm an cdv ct us rest h) fun A outer s H vs Q E hr hsp => hbody cdv A outer s H vs Q E hr hsp
theorem okStar0 {x qual : Str} {st : Stmt} {f : Addr} {fd : FuncData} {N ps : List Str} {pv : Str} {k : Nat} {sp : Sp} (F : Fun K x qual st f fd) (S : FnScope N (ps ++ [pv]) (defScope st)) (B : BndS x qual st ps pv)
    (hbody : ∀ (cdv : Value) (A : Around) (outer : List Env) (s : Shared) (H : Hp) (vs : List V) (Q : VK) (E : XK), Room k (A.deeper (envOfC qual (defScope st) s.heap.objs.size f cdv)) → sp vs H Q E →
      ∃ t, PSs (cxOf CX0 P w K mg base N qual (defScope st) f cdv A outer s H E) (defBody st) t ∧ t { nx := fun _ H' => Q .non H', rt := Q } (start N vs) H) : FnR P w K mg base CX0 (k + 1) f (spStar ps.length sp) := by
  obtain ⟨oc, od, kV, doc, pm, an, cdv, ct, osl, rfl, lk, hcd⟩ := F.ex
  exact StX.fn_star lk hcd S StX.cxUp_none (fun us rest h => B kV doc pm an cdv ct us rest h) fun A outer s H vs Q E hr hsp => hbody cdv A outer s H vs Q E hr hsp
end
end XT

namespace XT
open PySem PySem.Spec PyProof.Rows L2
/-! ### types told apart by != -/
theorem slot_type_ne : Slot "type" (cmpInfo .NotEq).2.1 "object.__ne__" :=
  .of (owner := "object") (n := "__ne__") (by rw [typeLookup_type, builtinLookup_eq_fast]; kernel_rfl) (by decide +kernel) (by decide +kernel) (by decide +kernel)
    (by first | exact .inl (by decide +kernel) | exact .inr (by decide +kernel)) (by rw [isSubtype_type]; kernel_rfl)
theorem slot_type_ne_refl : Slot "type" (cmpInfo .NotEq).2.2 "object.__ne__" :=
  .of (owner := "object") (n := "__ne__") (by rw [typeLookup_type, builtinLookup_eq_fast]; kernel_rfl) (by decide +kernel) (by decide +kernel) (by decide +kernel)
    (by first | exact .inl (by decide +kernel) | exact .inr (by decide +kernel)) (by rw [isSubtype_type]; kernel_rfl)
section
variable {prog : Program} {w : World} {A : Around} {E : Value → Shared → Prop} {s : Shared} {Q : Value → Shared → Prop}
theorem ne_ty_same {X : String} (hX : ∀ s' : Shared, s'.TypeIs (.type X) "type") (h : Q (.bool false) s) : wpAny (model prog w) A (call (.builtin "object.__ne__") [.type X, .type X]) (fun v s' => v = .bool false ∧ Q v s') E s := by
  refine wpAny_call_entry slot_type_ne (hX s) PySem.F.entry_object_ne ?_ (PySem.F.args_object_ne_2 _ _)
  unfold Builtin.«object.__ne__»
  refine wpAny_bind (m := slotArgs "__ne__" 1 ⟨[.type X, .type X], []⟩) (wpAny_pure ?_)
  dsimp only
  refine wpAny_bind (wpAny_cRoomFor_or (.inl rfl) ?_)
  refine wpAny_bind (m := callSpecialIfBound? (.type X) (Str.ofString "__eq__") [.type X]) (wpAny_callSpecialIfBound?_slot (name := Str.ofString "__eq__") (hX s) TypeEq.slot_type_eq
    (call_gives TypeEq.slot_type_eq (hX s) PySem.F.entry_object_eq (PySem.F.args_object_eq_2 _ _) (TypeEq.object_eq_same rfl (by simp)) ?_))
  show wpAny _ _ _ _ _ _
  refine wpAny_bind (m := truthy (.bool true)) (wpAny_pure ?_)
  exact wpAny_pure ⟨_, rfl, rfl, h⟩
theorem ne_ty_other {X Y : String} (hX : ∀ s' : Shared, s'.TypeIs (.type X) "type") (hne : (Value.type X == Value.type Y) = false) (h : Q .notImplemented s) : wpAny (model prog w) A (call (.builtin "object.__ne__") [.type X, .type Y]) (fun v s' => v = .notImplemented ∧ Q v s') E s := by
  refine wpAny_call_entry slot_type_ne (hX s) PySem.F.entry_object_ne ?_ (PySem.F.args_object_ne_2 _ _)
  unfold Builtin.«object.__ne__»
  refine wpAny_bind (m := slotArgs "__ne__" 1 ⟨[.type X, .type Y], []⟩) (wpAny_pure ?_)
  dsimp only
  refine wpAny_bind (wpAny_cRoomFor_or (.inl rfl) ?_)
  refine wpAny_bind (m := callSpecialIfBound? (.type X) (Str.ofString "__eq__") [.type Y]) (wpAny_callSpecialIfBound?_slot (name := Str.ofString "__eq__") (hX s) TypeEq.slot_type_eq
    (call_gives TypeEq.slot_type_eq (hX s) PySem.F.entry_object_eq (PySem.F.args_object_eq_2 _ _) (TypeEq.object_eq_other rfl hne) ?_))
  exact wpAny_pure ⟨_, rfl, rfl, h⟩
theorem ne_type_same {X : String} (hX : ∀ s' : Shared, s'.TypeIs (.type X) "type") (h : Q (.bool false) s) : wpAny (model prog w) A (compareOp .NotEq (.type X) (.type X)) Q E s := by
  show wpAny _ A (richCompare .NotEq _ _) Q E s
  exact wpAny_richCompare_same (T := "type") (hX s) (hX s) slot_type_ne (wpAny_mono (ne_ty_same (Q := Q) hX h) (fun v s' z => ⟨(by rw [z.1]; intro e; cases e), z.2⟩) fun _ _ z => z)
theorem ne_type_other {X Y : String} (hX : ∀ s' : Shared, s'.TypeIs (.type X) "type") (hY : ∀ s' : Shared, s'.TypeIs (.type Y) "type") (hne : (Value.type X == Value.type Y) = false) (h : Q (.bool true) s) : wpAny (model prog w) A (compareOp .NotEq (.type X) (.type Y)) Q E s := by
  have hne' : (Value.type Y == Value.type X) = false := by
    rw [Bool.eq_false_iff] at hne ⊢
    intro e
    exact hne (by rw [beq_iff_eq] at e ⊢; exact e.symm)
  show wpAny _ A (richCompare .NotEq _ _) Q E s
  have h1 := slot_type_ne
  have h2 := slot_type_ne_refl
  rcases hi : cmpInfo CmpOp.NotEq with ⟨sym, f, r⟩
  rw [hi] at h1 h2
  simp only [richCompare, hi, (hX s).oneThing_none]
  try with_reducible refine wpAny_holding ?_
  refine wpAny_bind (wpAny_cRoomFor_or (.inl rfl) ?_)
  refine wpAny_bind (wpAny_typeOf (hX s) (wpAny_bind (wpAny_typeOf (hY s) ?_)))
  simp only [bne_self_eq_false, Bool.false_eq_true, if_false, pure_bind, Bool.not_false, if_true]
  refine wpAny_bind (m := tryCompare (.type X) _ (.type Y)) (wpAny_tryCompare_declines (hX s) h1 (ne_ty_other (Q := fun _ s₁ => _) hX hne ?_))
  refine wpAny_bind (m := tryCompare (.type Y) _ (.type X)) (wpAny_tryCompare_declines (hY s) h2 (ne_ty_other (Q := fun _ s₁ => _) hY hne' ?_))
  refine wpAny_bind (wpAny_rule (wpAny_bind (wpAny_of_eq (a := false) (by rw [isSame_plain rfl, hne]) (wpAny_pure ?_))))
  simpa using h
end
section
variable {X : Cx}
theorem op_neTy : OpR X (compareOp .NotEq) (fun x y H Q => ∃ m n, x = .ty m ∧ y = .ty n ∧ tyN m = true ∧ tyN n = true ∧ Q (.bl (!decide (m = n))) H) := by
  intro pins s σ H x y v u Q I rx ry h
  obtain ⟨m, n, rfl, rfl, hm, hn, q⟩ := h
  cases (show v = Value.type m from rx)
  cases (show u = Value.type n from ry)
  by_cases e : m = n
  · subst e
    exact ne_type_same (fun s' => tyN_meta hm s') ⟨.bl false, H, I, rfl, by simpa using q⟩
  · refine ne_type_other (fun s' => tyN_meta hm s') (fun s' => tyN_meta hn s') ?_ ⟨.bl true, H, I, rfl, by simpa [e] using q⟩
    rw [Bool.eq_false_iff]
    intro z
    rw [beq_iff_eq] at z
    injection z with z
    exact e z
/-! ### tuple * int -/
theorem tuple_mul1 (l : Addr) (items : Array Value) (n : Nat) (dd : Option Addr) (sl : Array (Option Value)) (x : Int) (u : Tok) (c0 : (decide (x < -(2 ^ 63)) || decide (x ≥ 2 ^ 63)) = false) (c1 : (items.isEmpty || x == 1) = true) :
    Meets (Builtin.«tuple.__mul__» ⟨[.ref l, .int x u], []⟩) (fun _ R s => s.heap.get? l = some { cls := .type "tuple", dict := dd, data := .seq items n, slots := sl } ∧ R (.ok (.ret (Value.ref l))) s) :=
  .of_wp fun prog w A R s h => by
    obtain ⟨hp, g, d, tk, os⟩ := s
    obtain ⟨hl, h⟩ := h
    have f1 := AutoSeq1.idx_int
    wp_walk using wpAny_loadPart' hl
    repeat (first
      | (refine wpAny_ite_false (decide_eq_false (by rw [c0]; exact Bool.false_ne_true)) ?_; wp_walk using wpAny_loadPart' hl)
      | (refine wpAny_ite_true (decide_eq_true (by rw [c1])) ?_; wp_walk using wpAny_loadPart' hl))
    exact ⟨_, rfl, h⟩
theorem tuple_mul0 (l : Addr) (items : Array Value) (n : Nat) (dd : Option Addr) (sl : Array (Option Value)) (u : Tok) (c1 : items.isEmpty = false) :
    Meets (Builtin.«tuple.__mul__» ⟨[.ref l, .int 0 u], []⟩) (fun _ R s => s.heap.get? l = some { cls := .type "tuple", dict := dd, data := .seq items n, slots := sl } ∧ R (.ok (.ret (Value.ref s.heap.objs.size))) { s with heap := s.heap.push { cls := Value.type "tuple", data := Data.seq #[] }, toks := s.toks }) :=
  .of_wp fun prog w A R s h => by
    obtain ⟨hp, g, d, tk, os⟩ := s
    obtain ⟨hl, h⟩ := h
    have f1 := AutoSeq1.idx_int
    have c0 : (decide ((0 : Int) < -(2 ^ 63)) || decide ((0 : Int) ≥ 2 ^ 63)) = false := by decide
    have c2 : (items.isEmpty || (0 : Int) == 1) = false := by rw [c1]; decide
    have c3 : (decide ((0 : Int) ≤ 0) || items.isEmpty) = true := by simp
    wp_walk using wpAny_loadPart' hl
    repeat (first
      | (refine wpAny_ite_false (decide_eq_false (by rw [c0]; exact Bool.false_ne_true)) ?_; wp_walk using wpAny_loadPart' hl)
      | (refine wpAny_ite_false (decide_eq_false (by rw [c2]; exact Bool.false_ne_true)) ?_; wp_walk using wpAny_loadPart' hl)
      | (refine wpAny_ite_true (decide_eq_true (by rw [c3])) ?_; wp_walk using wpAny_loadPart' hl))
    exact ⟨_, rfl, h⟩
/-- t * k, k a small count -/
def rRepA (K : PySem.W.Frag) : R2 := fun x y H Q => ∃ l k xs, x = .ref l ∧ y = .int k ∧ SqT K H l xs ∧ 0 ≤ k ∧ k ≤ 1000 ∧ xs.length ≤ 1000 ∧ (∀ p H', Same H H' → SqT K H' p (List.replicate k.toNat xs).flatten → Q (.ref p) H')
theorem op_repA : OpR X (binaryOp .Mult) (rRepA X.K) := by
  intro pins s σ H x y v u Q I rx ry h
  obtain ⟨l, k, xs, rfl, rfl, hT, h0, h2, hz, q⟩ := h
  by_cases hb : 2 ≤ k ∧ xs ≠ []
  · exact op_repT pins s σ H _ _ v u Q I rx ry ⟨l, k, xs, rfl, rfl, hT, hb.2, hb.1, h2, hz, fun p hp => q p _ (same_new hp) (SqT.of upd_same)⟩
  have hT0 := hT
  cases rx
  obtain ⟨t, rfl⟩ := ry
  obtain ⟨its, r, ⟨⟨cls, dd, data, sl⟩, ho, hc, n, hd⟩, hs⟩ := I.tuple hT
  simp only at hc hd
  subst hc hd
  have c0 : (decide (k < -(2 ^ 63)) || decide (k ≥ 2 ^ 63)) = false := by
    rw [decide_eq_false (by omega), decide_eq_false (by omega)] <;> rfl
  by_cases h1 : k = 1 ∨ xs = []
  · have c1 : (its.toArray.isEmpty || k == 1) = true := by
      rcases h1 with rfl | rfl
      · simp
      · cases r
        rfl
    refine wpAny_binaryOp_repeat_ref (T := "tuple") (U := "int") (by decide) ⟨_, ho, rfl⟩ (fun s' => typeIs_int s' k t) noFill_tuple_mul F.fills_int_mul F.slot_int_rmul repeat_tuple F.slot_int_index.lookup
      (call_meets F.slot_int_rmul (typeIs_int s k t) F.entry_int_rmul (F.args_int_rmul_2 _ _) (int_rmul_tuple k t l its.toArray n dd sl)
        ⟨ho, rfl, ⟨_, ho, rfl⟩, call_meets F.slot_tuple_mul ⟨_, ho, rfl⟩ F.entry_tuple_mul (F.args_tuple_mul_2 _ _) (tuple_mul1 l its.toArray n dd sl k t c0 c1) ⟨ho, ?_⟩⟩)
    refine ⟨.ref l, H, I, rfl, q l H (Same.refl H) ?_⟩
    rcases h1 with rfl | rfl
    · have : (List.replicate (1 : Int).toNat xs).flatten = xs := by simp
      rw [this]
      exact hT0
    · have : (List.replicate k.toNat ([] : List V)).flatten = [] := by simp
      rw [this]
      exact hT0
  · have hk : k = 0 := by
      by_cases hx : xs = []
      · exact absurd (.inr hx) h1
      · have : ¬ 2 ≤ k := fun z => hb ⟨z, hx⟩
        have : k ≠ 1 := fun z => h1 (.inl z)
        omega
    subst hk
    have hx : its.toArray.isEmpty = false := by
      cases r with
      | nil => exact absurd (.inr rfl) h1
      | cons _ _ => rfl
    refine wpAny_binaryOp_repeat_ref (T := "tuple") (U := "int") (by decide) ⟨_, ho, rfl⟩ (fun s' => typeIs_int s' 0 t) noFill_tuple_mul F.fills_int_mul F.slot_int_rmul repeat_tuple F.slot_int_index.lookup
      (call_meets F.slot_int_rmul (typeIs_int s 0 t) F.entry_int_rmul (F.args_int_rmul_2 _ _) (int_rmul_tuple 0 t l its.toArray n dd sl)
        ⟨ho, rfl, ⟨_, ho, rfl⟩, call_meets F.slot_tuple_mul ⟨_, ho, rfl⟩ F.entry_tuple_mul (F.args_tuple_mul_2 _ _) (tuple_mul0 l its.toArray n dd sl t hx) ⟨ho, ?_⟩⟩)
    refine ⟨.ref s.heap.objs.size, _, I.laid (t' := s.toks) (o := .tup []) (fun b ob q => Heap.get?_push_of_some _ q) (Nat.le_refl _) ?_, rfl, q _ _ (same_new (I.hok.fresh (Nat.le_refl _))) ?_⟩
    · exact ⟨Nat.zero_le _, [], .nil, IsTup.new _ _⟩
    · have : (List.replicate (0 : Int).toNat xs).flatten = ([] : List V) := by simp
      rw [this]
      exact SqT.of upd_same
end
end XT

namespace XT
open PySem PySem.Spec PyProof.Rows L2
/-! ### what stands side by side -/
section
variable {α β : Type} {F : α → β → Prop}
theorem pd_append : ∀ {l m : List α} {l' m' : List β}, Paired F l l' → Paired F m m' → Paired F (l ++ m) (l' ++ m')
  | _, _, _, _, .nil, h => h
  | _, _, _, _, .cons r t, h => .cons r (pd_append t h)
theorem pd_get : ∀ {l : List α} {l' : List β}, Paired F l l' → ∀ {i : Nat} {x : α}, l[i]? = some x → ∃ y, l'[i]? = some y ∧ F x y
  | _, _, .nil, _, _, h => by simp at h
  | _, _, .cons r t, 0, _, h => ⟨_, rfl, by
      have : some _ = some _ := h
      cases this
      exact r⟩
  | _, _, .cons r t, i + 1, x, h => by
      obtain ⟨y, h1, h2⟩ := pd_get t (i := i) (x := x) (by simpa using h)
      exact ⟨y, by simpa using h1, h2⟩
theorem pd_get' : ∀ {l : List α} {l' : List β}, Paired F l l' → ∀ {i : Nat} {y : β}, l'[i]? = some y → ∃ x, l[i]? = some x ∧ F x y
  | _, _, .nil, _, _, h => by simp at h
  | _, _, .cons r t, 0, _, h => ⟨_, rfl, by
      have : some _ = some _ := h
      cases this
      exact r⟩
  | _, _, .cons r t, i + 1, x, h => by
      obtain ⟨y, h1, h2⟩ := pd_get' t (i := i) (y := x) (by simpa using h)
      exact ⟨y, by simpa using h1, h2⟩
theorem pd_take : ∀ {l : List α} {l' : List β} (n : Nat), Paired F l l' → Paired F (l.take n) (l'.take n)
  | _, _, 0, _ => by simpa using Paired.nil
  | _, _, n + 1, .nil => by simpa using Paired.nil
  | _, _, n + 1, .cons r t => by
      rw [List.take_succ_cons, List.take_succ_cons]
      exact .cons r (pd_take n t)
theorem pd_drop : ∀ {l : List α} {l' : List β} (n : Nat), Paired F l l' → Paired F (l.drop n) (l'.drop n)
  | _, _, 0, h => h
  | _, _, n + 1, .nil => by simpa using Paired.nil
  | _, _, n + 1, .cons r t => by
      rw [List.drop_succ_cons, List.drop_succ_cons]
      exact pd_drop n t
theorem pd_rev : ∀ {l : List α} {l' : List β}, Paired F l l' → Paired F l.reverse l'.reverse
  | _, _, .nil => .nil
  | _, _, .cons r t => by
      rw [List.reverse_cons, List.reverse_cons]
      exact pd_append (pd_rev t) (.cons r .nil)
theorem pd_rep (n : Nat) {l : List α} {l' : List β} (h : Paired F l l') : Paired F (List.replicate n l).flatten (List.replicate n l').flatten := by
  induction n with
  | zero => exact .nil
  | succ n ih =>
    rw [List.replicate_succ, List.replicate_succ, List.flatten_cons, List.flatten_cons]
    exact pd_append h ih
end
/-! ### steps -/
/-- a step: an insertion (true) or a removal, and its number -/
abbrev Stp := Bool × Int
def wrd : Bool → Str
  | true => "insert"
  | false => "remove"
def goodS (s : Stp) : Bool := s.1 || decide (0 < s.2)
def stD (s : Stp) : PyData := .tuple [.str (wrd s.1), .int s.2]
def StAt (K : PySem.W.Frag) (H : Hp) (x : V) (s : Stp) : Prop := ∃ r, x = .ref r ∧ SqT K H r [.str (wrd s.1), .int s.2]
abbrev StsAt (K : PySem.W.Frag) (H : Hp) : List V → List Stp → Prop := Paired (StAt K H)
theorem StAt.same {K : PySem.W.Frag} {H H' : Hp} {x : V} {s : Stp} (h : StAt K H x s) (e : Same H H') : StAt K H' x s := let ⟨r, a, b⟩ := h; ⟨r, a, same_seqT e b⟩
theorem sts_same {K : PySem.W.Frag} {H H' : Hp} {xs : List V} {L : List Stp} (h : StsAt K H xs L) (e : Same H H') : StsAt K H' xs L := L2.Paired.mapP h fun _ _ z => z.same e
theorem st_of {K : PySem.W.Frag} {H : Hp} {r : Addr} {b : Bool} {i : Int} (h : H r = some (.tup [.str (wrd b), .int i])) : StAt K H (.ref r) (b, i) := ⟨r, rfl, SqT.of h⟩
theorem st_dp {K : PySem.W.Frag} {H : Hp} {x : V} {s : Stp} (h : StAt K H x s) : Dp K H x (stD s) := by
  obtain ⟨r, rfl, hr⟩ := h
  exact .tup hr (.cons (.str _) (.cons (.int _) .nil))
theorem sts_dp {K : PySem.W.Frag} {H : Hp} : ∀ {xs : List V} {L : List Stp}, StsAt K H xs L → DpAll K H xs (L.map stD)
  | _, _, .nil => .nil
  | _, _, .cons r t => .cons (st_dp r) (sts_dp t)
theorem dp_stsT {K : PySem.W.Frag} {H : Hp} {p : Addr} {xs : List V} {L : List Stp} (h : SqT K H p xs) (k : StsAt K H xs L) : Dp K H (.ref p) (.tuple (L.map stD)) := .tup h (sts_dp k)
theorem dp_stsL {K : PySem.W.Frag} {H : Hp} {p : Addr} {xs : List V} {L : List Stp} (h : SqL K H p xs) (k : StsAt K H xs L) : Dp K H (.ref p) (.list (L.map stD)) := .lst h (sts_dp k)
theorem wrd_inj {b c : Bool} : (wrd b == wrd c) = decide (b = c) := by cases b <;> cases c <;> decide +kernel
theorem eqv_st (s t : Stp) : PyData.eqv (stD s) (stD t) = decide (s = t) := by
  obtain ⟨b, i⟩ := s
  obtain ⟨c, j⟩ := t
  have h1 : PyData.eqv (.str (wrd b)) (.str (wrd c)) = decide (b = c) := by
    have := wrd_inj (b := b) (c := c)
    simp only [PyData.eqv]
    first | exact this | simpa using this
  have h2 : PyData.eqv (.int i) (.int j) = decide (i = j) := by
    simp only [PyData.eqv]
    rw [Bool.eq_iff_iff]
    simp
  simp only [stD, PyData.eqv, PyData.eqvAll]
  simp only [PyData.eqv] at h1 h2
  first
    | (rw [h1, h2, Bool.and_true, Bool.eq_iff_iff]; simp)
    | (simp only [h1, h2]; rw [Bool.eq_iff_iff]; simp)
theorem eqvAll_sts (L : List Stp) : ∀ M : List Stp, PyData.eqvAll (L.map stD) (M.map stD) = decide (L = M) := by
  induction L with
  | nil =>
    intro M
    cases M <;> simp [PyData.eqvAll]
  | cons x L ih =>
    intro M
    cases M with
    | nil => simp [PyData.eqvAll]
    | cons y M =>
      rw [List.map_cons, List.map_cons, PyData.eqvAll, ih, eqv_st, Bool.eq_iff_iff]
      simp
theorem eqv_stsT (L M : List Stp) : PyData.eqv (.tuple (L.map stD)) (.tuple (M.map stD)) = decide (L = M) := by
  rw [PyData.eqv]
  exact eqvAll_sts L M
theorem eqv_stsL (L M : List Stp) : PyData.eqv (.list (L.map stD)) (.list (M.map stD)) = decide (L = M) := by
  rw [PyData.eqv]
  exact eqvAll_sts L M
theorem wrd_ok (b : Bool) : PyData.strOk (wrd b) = true := by cases b <;> exact ok_of _
theorem canLay_sts : ∀ L : List Stp, PyData.canLayAll0 (L.map stD) = true
  | [] => rfl
  | x :: L => by simp [PyData.canLayAll0, PyData.canLay0, stD, wrd_ok, canLay_sts L]
theorem depth_sts : ∀ L : List Stp, PyData.depthAll (L.map stD) ≤ 1
  | [] => by simp [PyData.depthAll]
  | x :: L => by
    have := depth_sts L
    simp [PyData.depthAll, PyData.depth, stD]
    omega
theorem sh_stsT (L : List Stp) : SeqAt.shaped (.tuple (L.map stD)) = true := by
  have := depth_sts L
  simp [SeqAt.shaped, PyData.canLay0, PyData.depth, canLay_sts]
  omega
theorem sh_stsL (L : List Stp) : SeqAt.shaped (.list (L.map stD)) = true := by
  have := depth_sts L
  simp [SeqAt.shaped, PyData.canLay0, PyData.depth, canLay_sts]
  omega
end XT

namespace XT
open PySem PySem.Spec PyProof.Rows L2
section
variable {prog : Program} {w : World} {A : Around} {E : Value → Shared → Prop} {s : Shared} {K : PySem.W.Frag} {x C f L : Addr} {ox : Obj} {od : Option Obj} {h₀ : Heap} {m : Str → Option Value}
/-- len(x), by an own __len__ -/
theorem len_own {Q : Value → Shared → Prop} (X : K.In s.heap) (I : PySem.W.InstAt s.heap x ox C od) (hs : PySem.W.findIn K (.ref C) "__len__" = some (some (.ref f))) (hf : PySem.W.isFn K (.ref f) = true)
    (h : wpAny (model prog w) A.in1 (call (.ref f) [.ref x]) (fun r s1 => ∃ (n : Int) (t : Tok), r = Value.int n t ∧ 0 ≤ n ∧ n < 2 ^ 63 ∧ Q (.int n s1.toks) { s1 with toks := s1.toks + 1 }) E s) : wpAny (model prog w) A (call (.builtin "len") [.ref x]) Q E s := by
  refine Calls.call_function_entry PySem.kind_len PySem.plain_len PySem.entry_len (PySem.args_len1 _) ?_
  unfold Builtin.«len»
  refine wpAny_bind (m := oneArg "len" _) (wpAny_pure ?_)
  refine wpAny_bind (m := callSpecial? (.ref x) (PySem.Str.ofString "__len__")) (PySem.W.special_fn X I hs (beq_iff_eq.mp hf) (wpAny_mono h (fun r s' hr => ?_) fun _ _ y => y))
  obtain ⟨n, t, rfl, h0, h1, q⟩ := hr
  dsimp only
  refine wpAny_bind (wpAny_holding (wpAny_pure ?_))
  refine wpAny_bind (wpAny_letGo ?_)
  show wpAny _ _ (if n < 0 then _ else _) _ _ _
  rw [if_neg (by omega)]
  show wpAny _ _ (if n ≥ 2 ^ 63 then _ else _) _ _ _
  rw [if_neg (by omega)]
  exact wpAny_bind (wpAny_mkInt (wpAny_pure ⟨_, rfl, q⟩))
/-- x * n, n an int, by an own __mul__ and no own __rmul__ -/
theorem mul_own {n : Int} {t : Tok} {Q : Value → Shared → Prop} (F : PyProof.Rows.Fr h₀ L s.heap m) (X₀ : K.In h₀) (I : PySem.W.InstAt s.heap x ox C od) (hc : PySem.W.selfFirst K C = true) (hi : PySem.W.subIn K (.type "int") (.ref C) = some false)
    (hs : PySem.W.findIn K (.ref C) "__mul__" = some (some (.ref f))) (hrm : PySem.W.findIn K (.ref C) "__rmul__" = some none) (hf : PySem.W.isFn K (.ref f) = true)
    (h : wpAny (model prog w) A (call (.ref f) [.ref x, .int n t]) (PySem.W.CmpBack Q) E s) : wpAny (model prog w) A (binaryOp .Mult (.ref x) (.int n t)) Q E s := by
  have X := X₀.keeps F.keep
  obtain ⟨cd, hcd, hm⟩ := PySem.W.any_some hc
  obtain ⟨rest, hm⟩ : ∃ rest, cd.mro = .ref C :: rest := by
    cases q : cd.mro with
    | nil => rw [q] at hm; cases hm
    | cons a r => rw [q] at hm; exact ⟨r, by rw [List.head?_cons] at hm; cases (beq_iff_eq.mp hm); rfl⟩
  have hs' : PySem.W.findIn K (.ref C) (PySem.dunder "mul") = some (some (.ref f)) := hs
  have hr' : PySem.W.findIn K (.ref C) (PySem.dunderR "mul") = some none := hrm
  unfold binaryOp
  refine wpAny_holding (wpAny_bind ?_)
  show wpAny _ _ (binaryOp1 "mul" _ _) _ _ _
  unfold binaryOp1
  refine wpAny_bind (I.type.here (wpAny_bind (wpAny_typeOf (typeIs_int s n t) (wpAny_bind ((PySem.W.fills_K X hcd hm hs').here ?_)))))
  have e1 : (Value.ref C == Value.type "int") = false := rfl
  rw [e1]
  refine wpAny_bind ?_
  refine wpAny_of_eq (a := true) PySem.F.fills_int_mul ?_
  simp only [Bool.and_self, if_true]
  refine wpAny_bind ((PySem.W.looks_subIn X hi).here ?_)
  simp only [Bool.false_eq_true, if_false, Bool.not_false, Bool.and_self, if_true, Bool.and_true]
  have nsp : wpAny (model prog w) A (numberSlotInPython (.ref C) "mul") (fun b s' => b = true ∧ s' = s) E s := by
    unfold numberSlotInPython
    refine wpAny_bind ((PySem.W.looks_findIn X hs').here ?_)
    refine wpAny_bind (m := calledByName (.ref C) _ (some (.ref f))) (wpAny_pure ?_)
    refine wpAny_bind ((PySem.W.looks_findIn X hr').here ?_)
    refine wpAny_bind (m := calledByName (.ref C) _ none) (wpAny_pure ?_)
    simp only [Bool.or_false, if_true]
    exact wpAny_pure ⟨rfl, rfl⟩
  have fin : wpAny (model prog w) A (tryMethod (.ref x) (PySem.dunder "mul") (.int n t)) (fun r s' => ∃ v, r = some v ∧ Q v s') E s := by
    unfold tryMethod
    refine wpAny_bind (PySem.W.special_fn X I hs' (beq_iff_eq.mp hf) (wpAny_mono h (fun v s' hv => ?_) fun _ _ e => e))
    cases v <;> first | exact hv.elim | exact wpAny_pure ⟨_, rfl, hv⟩
  refine wpAny_bind (wpAny_mono nsp (fun b s' z => ?_) fun _ _ e => e)
  obtain ⟨rfl, rfl⟩ := z
  simp only [if_true]
  refine wpAny_bind (m := numberSlotInPython (.type "int") "mul") (wpAny_pure ?_)
  simp only [Bool.not_false, if_true]
  refine wpAny_bind (wpAny_of_eq (a := some (.builtin "int.__rmul__")) PySem.F.slot_int_rmul.lookup ?_)
  refine wpAny_bind (wpAny_mono fin (fun v s2 z => ?_) fun _ _ e => e)
  obtain ⟨u, rfl, hq⟩ := z
  exact wpAny_pure (wpAny_pure hq)
end
section
variable {X : Cx} {CX : CXT} {n : Nat} {C g : Addr} {sp : Sp} {E : XK}
/-- len(x) -/
def rLenO (C : Addr) (sp : Sp) (E : XK) : List V → Hp → VK → Prop := fun xs H Q => ∃ a, xs = [V.ref a] ∧ InsA H a C ∧ sp xs H (fun z H' => ∃ k : Int, z = .int k ∧ 0 ≤ k ∧ k < 2 ^ 63 ∧ Q z H') E
theorem call_lenO (hs : PySem.W.findIn X.K (.ref C) "__len__" = some (some (.ref g))) (hf : PySem.W.isFn X.K (.ref g) = true) (F : FnR X.prog X.w X.K X.mg X.base CX n g sp) (hr : Room (n + 1) X.A) (hx : Passes CX X E) : CallR X (.builtin "len") (rLenO C sp E) := by
  intro pins s σ H xs us Q I r h
  obtain ⟨a, rfl, ha, q⟩ := h
  obtain ⟨u, rfl, ru⟩ := r.one
  cases (show u = Value.ref a from ru)
  obtain ⟨ox, od, J⟩ := insA_at I ha
  refine len_own I.kIn J hs hf (wpAny_mono (wpAny_call (SlX.run_at (us := [.ref a]) (ws := [.ref a]) F hr.in1 I.env0.in1 hx I (.cons rfl .nil) q)) (fun w s' z => ?_) fun _ _ x => x)
  obtain ⟨z', H', I', rz, k, rfl, k0, k1, qz⟩ := z
  obtain ⟨t, rfl⟩ : ∃ t, w = Value.int k t := rz
  exact ⟨k, t, rfl, k0, k1, .int k, H', I'.tok _, ⟨_, rfl⟩, qz⟩
/-- x * n -/
def rMulO (C : Addr) (sp : Sp) (E : XK) : R2 := fun x y H Q => ∃ a i, x = .ref a ∧ y = .int i ∧ InsA H a C ∧ sp [x, y] H Q E
theorem op_mulO (hc : PySem.W.selfFirst X.K C = true) (hi : PySem.W.subIn X.K (.type "int") (.ref C) = some false) (hs : PySem.W.findIn X.K (.ref C) "__mul__" = some (some (.ref g))) (hrm : PySem.W.findIn X.K (.ref C) "__rmul__" = some none)
    (hf : PySem.W.isFn X.K (.ref g) = true) (F : FnR X.prog X.w X.K X.mg X.base CX n g sp) (hr : Room n X.A) (hx : Passes CX X E) : OpR X (binaryOp .Mult) (rMulO C sp E) := by
  intro pins s σ H x y v u Q I rx ry h
  obtain ⟨a, i, rfl, rfl, ha, q⟩ := h
  cases (show v = Value.ref a from rx)
  obtain ⟨t, rfl⟩ : ∃ t, u = Value.int i t := ry
  obtain ⟨ox, od, J⟩ := insA_at I ha
  obtain ⟨m, hF⟩ := I.fr
  refine mul_own hF I.ok.mod.kin J hc hi hs hrm hf ?_
  refine wpAny_mono (wpAny_call (run_fnR (us := [.ref a, .int i t]) (vs := [.ref a, .int i]) F hr hx I (.cons rfl (.cons ⟨t, rfl⟩ .nil)) q)) (fun w s' z => ?_) fun _ _ x => x
  obtain ⟨z', H', I', rz, qz⟩ := z
  exact SlX.cmpback rz ⟨z', H', I', rz, qz⟩
end
end XT

namespace XT
open PySem PySem.Spec PyProof.Rows L2
section
variable {X : Cx} (K : PySem.W.Frag)
/-- x != y, by an own ==, y of another type -/
def rOwnNo (K : PySem.W.Frag) (C : Addr) (sp : Sp) (E : XK) : R2 := fun x y H Q => ∃ a t, x = .ref a ∧ InsA H a C ∧ TyX K H y t ∧ PySem.W.notFirst K C t = true ∧ sp [x, y] H (fun z H' => ∃ k, z = .bl k ∧ Q (.bl (!k)) H') E
theorem op_ownNoK {CX : CXT} {n : Nat} {C g : Addr} {sp : Sp} {E : XK} (hne : PySem.W.findIn K (.ref C) "__ne__" = some (some (.builtin "object.__ne__"))) (ho : PySem.W.subIn K (.ref C) (.type "object") = some true)
    (hs : PySem.W.findIn K (.ref C) "__eq__" = some (some (.ref g))) (hf : PySem.W.isFn K (.ref g) = true) (F : FnR X.prog X.w K X.mg X.base CX n g sp)
    (hr : Room (n + 1) X.A) (hx : Passes CX X E) (hK : X.K = K := by rfl) : OpR X (compareOp .NotEq) (rOwnNo K C sp E) := by
  subst hK
  intro pins s σ H x y v u Q I rx ry h
  obtain ⟨a, t, rfl, ha, ht, hn, q⟩ := h
  cases (show v = Value.ref a from rx)
  obtain ⟨ox, od, J⟩ := insA_at I ha
  obtain ⟨Z, kz, hz, _⟩ := kit_of I ry ht
  show wpAny _ _ (richCompare .NotEq _ _) _ _ _
  refine ne_own (tb := t) (by have := hr.units; omega) I.kIn J (kz.ty _ _ I.kIn hz) hn hne ho hs hf ?_
  refine wpAny_mono (wpAny_call (SlX.run_at (us := [.ref a, u]) (ws := [.ref a, y]) F hr.in1 I.env0.in1 hx I (.cons rfl (.cons ry .nil)) q)) (fun w s' z => ?_) fun _ _ x => x
  obtain ⟨z', H', I', rz, k, rfl, qz⟩ := z
  cases (show w = Value.bool k from rz)
  exact ⟨k, rfl, .bl (!k), H', I', rfl, qz⟩
theorem revLK {e : Expr} {te : TE} {k : Nat} {p1 p2 p3 pos : Pos} (he : PE X e te) (hK : X.K = K := by rfl) : PE X (.Subscript e (.Slice none none (some (.UnaryOp .USub (.Constant (.int 1) k p1) p2)) p3) pos) (tRevL K te) := by subst hK; exact pe_revL he
theorem catAK (hK : X.K = K := by rfl) : OpR X (binaryOp .Add) (rCatA K) := by subst hK; exact op_catA
end
theorem tyX_tup {K : PySem.W.Frag} {H : Hp} {p : Addr} {xs : List V} (h : SqT K H p xs) : TyX K H (.ref p) (.type "tuple") := by
  rcases h with (h | ⟨o, h⟩) | h
  · exact .base (.tup h)
  · exact .fTuple h
  · obtain ⟨o, its, n, e, c, _⟩ := h
    exact .kTuple e c
theorem kit_ty {K : PySem.W.Frag} {n : String} : PySem.W.kitOne K (.type n) (.type n) = some true := by simp [PySem.W.kitOne]
end XT

namespace XT
open PySem PySem.Spec PyProof.Rows L2
/-! ### own exception classes over any built-in one, their __init__ a def -/
/-- what is asked of the built-in class: tl its chain, nw its maker -/
structure BaseX (B nw ini : String) (tl : List Value) : Prop where
  eb : ExcBaseFacts B nw ini tl
  st : ∀ self : Value, PySem.refuseLoop self "__setattr__" tl = pure ()
  ob : tl.contains (.type "object") = true
theorem bx_Value : BaseX "ValueError" "ValueError.__new__" "ValueError.__init__" [.type "ValueError", .type "Exception", .type "BaseException", .type "object"] := ⟨F.excBase_ValueError, F.store_ValueError.passes, by decide +kernel⟩
theorem bx_Runtime : BaseX "RuntimeError" "RuntimeError.__new__" "RuntimeError.__init__" [.type "RuntimeError", .type "Exception", .type "BaseException", .type "object"] := ⟨F.excBase_RuntimeError, F.store_RuntimeError.passes, by decide +kernel⟩
theorem bx_Lookup : BaseX "LookupError" "LookupError.__new__" "LookupError.__init__" [.type "LookupError", .type "Exception", .type "BaseException", .type "object"] := ⟨F.excBase_LookupError, F.store_LookupError.passes, by decide +kernel⟩
theorem bx_Overflow : BaseX "OverflowError" "OverflowError.__new__" "OverflowError.__init__" [.type "OverflowError", .type "ArithmeticError", .type "Exception", .type "BaseException", .type "object"] := ⟨F.excBase_OverflowError, F.store_OverflowError.passes, by decide +kernel⟩
section
variable {tl : List Value}
theorem chain_has (cs : List Addr) (n : String) : (cs.map Value.ref ++ tl).contains (.type n) = tl.contains (.type n) := by
  induction cs with
  | nil => rfl
  | cons c cs ih =>
    rw [List.map_cons, List.cons_append, List.contains_cons, ih]
    rfl
theorem chain_pass (st : ∀ self : Value, PySem.refuseLoop self "__setattr__" tl = pure ()) (self : Value) (cs : List Addr) : PySem.refuseLoop self "__setattr__" (cs.map Value.ref ++ tl) = pure () := by
  induction cs with
  | nil => exact st self
  | cons c cs ih =>
    rw [List.map_cons, List.cons_append, PySem.refuseLoop_ref]
    exact ih
end
/-- the written part of such a class -/
structure OexG (K : PySem.W.Frag) (C : Addr) (tl : List Value) (nw : String) : Prop where
  cls : ∃ (nm q : Str) (N : Addr) (bs : List Value) (cs : List Addr) (sn : List Str) (sub : List Value) (ab : Bool) (col : Option Bool) (dd : Option Addr) (k0 k1 k2 k3 k5 : Option Value), K.lookup C = some (excClassObj nm q C N bs (cs.map Value.ref ++ tl) true sn sub ab col dd k0 k1 k2 k3 k5 nw)
  sa : PySem.W.findIn K (.ref C) "__setattr__" = some (some (.builtin "object.__setattr__"))
  exC : PySem.W.subIn K (.ref C) (.type "BaseException") = some true
  tyC : PySem.W.typeIn K (.ref C) = some (.type "type")
  kC : PySem.W.keepIn K (.ref C) = true
section
variable {prog : Program} {w : World} {A : Around} {R : Result → Shared → Prop} {hp : Heap} {g : Array GenState} {d : Drawn} {t : Nat} {os : OsState}
/-- the first field of such an exception -/
theorem gx_store {K : PySem.W.Frag} {name : Str} {tk : Tok} {v : Value} {x C : Addr} {fv : Array Value} {cd : ClassData} {tl : List Value} {cs : List Addr} (st : ∀ self : Value, PySem.refuseLoop self "__setattr__" tl = pure ()) (ob : tl.contains (.type "object") = true)
    (X : K.In hp) (hx : hp.get? x = some { cls := .ref C, data := .fields fv }) (hcd : PySem.W.clsIn K C = some cd) (hm : cd.mro = (C :: cs).map Value.ref ++ tl) (hh : cd.hasDict = true) (ha : PySem.W.findIn K (.ref C) name = some none)
    (hq : ∀ h' tk' dx, (∀ b o, b ≠ x → hp.get? b = some o → h'.get? b = some o) → hp.objs.size ≤ dx → dx ≠ x → h'.get? x = some { cls := .ref C, dict := some dx, data := .fields fv } →
      h'.Ns1 dx (fun y => if y = name then some v else none) → R (.ok (.ret .none)) ⟨h', g, d, tk', os⟩) :
    codeAny (model prog w) A (.call (.builtin "object.__setattr__") ⟨[.ref x, .str name tk, v], []⟩) R ⟨hp, g, d, t, os⟩ := by
  have J : PySem.W.InstAt hp x { cls := .ref C, data := .fields fv } C none := ⟨hx, rfl, rfl, trivial⟩
  have hob : cd.mro.contains (.type "object") = true := by rw [hm, chain_has, ob]
  have hne : cd.mro.isEmpty = false := by rw [hm]; rfl
  have hx0 : x ≠ hp.objs.size := Nat.ne_of_lt (Heap.lt_size hx)
  have isO : PySem.W.Looks (model prog w) hp (isInstance (.ref x) (.type "object")) true := J.type.andThen (PySem.W.looks_mroIn X (by unfold PySem.W.mroIn; rw [hcd, Option.bind_some, if_neg (by rw [hne]; decide), hob]))
  have SF := F.store_object
  refine codeAny_call_builtin SF.slot.plain SF.entry (@PySem.W.check_slot (model prog w) _ _ ⟨hp, g, d, t, os⟩ "object.__setattr__" "object" "__setattr__" (.ref x) [.str name tk, v] [] _ SF.kind SF.split isO (SF.args (.ref x) (.str name tk) v) ?_)
  have lm : PySem.W.Looks (model prog w) hp (mroOf (.ref C)) cd.mro := (PySem.W.looks_clsIn X hcd).andThen .now
  have lc : PySem.W.Looks (model prog w) hp (classData C) cd := PySem.W.looks_clsIn X hcd
  have lt : PySem.W.Looks (model prog w) hp (Builtin.ObjectAttr.storeTaker? none) none := .now
  rw [PySem.W.osa_eq, PySem.refuse_eq]
  refine wpAny_bind (wpAny_bind (J.type.at (wpAny_bind (lm.at ?_))))
  rw [hm, chain_pass st]
  refine wpAny_pure (wpAny_bind (J.type.at (wpAny_bind ((PySem.W.looks_findIn X ha).at (wpAny_bind (lt.at ?_))))))
  show wpAny _ _ (Builtin.ObjectAttr.storeInOwnDict (.ref x) (.ref C) (.str name tk) name v false) _ _ _
  obtain ⟨nm, bs, mro, ns, qn, hd, sn, sb, ab, col, del⟩ := cd
  dsimp only at hh
  subst hh
  unfold Builtin.ObjectAttr.storeInOwnDict Builtin.ObjectAttr.ownDictForStores
  repeat (first | with_reducible refine PySem.HandSPX.store_in_new ?_ ?_ | with_reducible refine wpAny_loadPart_at hx ?_ | with_reducible refine lc.at ?_ | wp_step)
  · exact ⟨_, #[], _, (Heap.get?_update_ne _ _ _ _ hx0.symm).trans (Heap.get?_push_at rfl rfl), rfl, fun e he => absurd he (by simp), fun _ => rfl⟩
  · intro h' tk' hn' hs
    have hx1 : (hp.push { cls := .type "dict", data := .dict #[] }).get? x = some { cls := .ref C, data := .fields fv } := Heap.get?_push_of_some _ hx
    exact hq h' tk' hp.objs.size (fun b o hb ho => (hs.2 b (Nat.ne_of_lt (Heap.lt_size ho))).trans ((Heap.get?_update_ne _ _ _ _ hb).trans (Heap.get?_push_of_some _ ho))) (Nat.le_refl _) hx0.symm ((hs.2 x hx0).trans (Heap.get?_update_self _ hx1 rfl)) hn'
end
section
variable {X : Cx} {pins : List (Addr × Obj)} {σ : L2.St} {H : Hp} {s : Shared} {a C : Addr} {f : Str} {y : V} {u : Value} {Q : Unit → Shared → Prop} {E : Value → Shared → Prop} {A : Around} {B nw ini : String} {tl : List Value}
theorem gst_new (bx : BaseX B nw ini tl) (T : OexG X.K C tl nw) (I : Inv X pins σ H s) (e : H a = some (exo a C none)) (hno : PySem.W.findIn X.K (.ref C) f = some none) (ry : RelV y u)
    (h : ∀ dx s', H dx = none → dx ≠ a → Inv X pins σ (upd (upd H dx (exd dx [(f, y)])) a (exo a C (some dx))) s' → Q () s') : wpAny (model X.prog X.w) A (setAttr (.ref a) f u) Q E s := by
  obtain ⟨nm, q, N, bs, cs, sn, sub, ab, col, dd, k0, k1, k2, k3, k5, hC⟩ := T.cls
  have hcl : PySem.W.clsIn X.K C = some { name := nm, bases := bs, mro := .ref C :: (cs.map Value.ref ++ tl), ns := N, qualname := q, hasDict := true, slotNames := sn, subclasses := sub, abstract := ab, collection := col, hasDel := false } := by unfold PySem.W.clsIn; rw [hC] <;> rfl
  obtain ⟨t1, ho⟩ := exo_at I.hok e
  obtain ⟨hp, g, d, t, os⟩ := s
  refine PySem.W.set_plain I.kIn (ox := { cls := .ref C, dict := none, data := .fields #[.ref t1, .none, .none, .none, .bool false, .none] }) (od := none) ⟨ho, rfl, rfl, trivial⟩ T.sa ?_
  refine gx_store (cs := cs) bx.st bx.ob I.kIn ho hcl rfl rfl hno (fun h' tk' dx k dn dne hx hn => ?_)
  have fresh : H dx = none := I.hok.fresh dn
  have low : ∀ {b : Addr} {o : Obj}, hp.get? b = some o → b ≠ dx := fun z => Nat.ne_of_lt (Nat.lt_of_lt_of_le (Heap.lt_size z) dn)
  have notA : ∀ {b : Addr}, H b = none → b ≠ a := fun {b} n z => by rw [z, e] at n; cases n
  have both : ∀ {b : Addr} {v : HO}, H b = some v → exo a C none ≠ v → upd (upd H dx (exd dx [(f, y)])) a (exo a C (some dx)) b = some v := fun {b v} z ne => by
    rw [upd_ne (fun q => by rw [q, e] at z; exact ne (Option.some.inj z)), upd_ne (fun q => by rw [q, fresh] at z; cases z)]
    exact z
  have U : Un X.fs [] H (upd (upd H dx (exd dx [(f, y)])) a (exo a C (some dx))) hp h' := {
    keep := fun b o z n _ _ => k b o (notA n) z
    slot := fun b o z n _ _ => ⟨o.slots, k b o (notA n) z⟩
    free := fun b o z n _ => by rw [upd_ne (notA n), upd_ne (low z)]; exact n
    there := fun b o z _ => by
      by_cases hb : b = a
      · subst hb
        exact ⟨_, hx⟩
      · exact ⟨o, k b o hb z⟩
    tups := fun b xs z => both z exo_tup
    frzs := fun b o v z => both z exo_frz
    tbls := fun b ps z => ⟨#[], by rw [both z exo_tbl]; simp⟩ }
  refine h dx _ fresh dne (I.un (t' := tk') U fun b o z => ?_)
  by_cases hb : b = a
  · subst hb
    rw [upd_same] at z
    cases z
    exact exo_ok hx
  · rw [upd_ne hb] at z
    by_cases hd : b = dx
    · subst hd
      rw [upd_same] at z
      cases z
      exact exd_ok hn (relO_put (fs := []) ry fun g => True.intro)
    · rw [upd_ne hd] at z
      refine (I.hok b o z).stay (fun c v hc zz => k c v ?_ zz) (fun c hc => both hc exo_own) (fun c xs hc => both hc exo_tup)
      rcases hc with rfl | hc
      · exact hb
      · exact at_ne e hc exo_own
end
/-- self.f = e in such an __init__ -/
def tGst (K : PySem.W.Frag) (f : Str) (to te : TE) : TS := fun D σ H => te σ H fun y H1 => to σ H1 fun x H2 => ∃ (a C : Addr) (B nw ini : String) (tl : List Value), x = .ref a ∧ BaseX B nw ini tl ∧ OexG K C tl nw ∧ PySem.W.findIn K (.ref C) f = some none ∧
  H2 a = some (exo a C none) ∧ ∀ dx, H2 dx = none → dx ≠ a → D.nx σ (upd (upd H2 dx (exd dx [(f, y)])) a (exo a C (some dx)))
section
variable {X : Cx} {o e : Expr} {es : List Expr} {to te : TE} {ta : TA} {f : Str} {p p' pos : Pos} {B nw ini : String} {tl : List Value}
theorem ps_gst (ho : PE X o to) (he : PE X e te) (hs : swapsWith e (some (.Attribute o f p')) pos.line X.env = pure false := by rfl) : PS X (.Assign [.Attribute o f p'] e pos) (tGst X.K f to te) := by
  refine ⟨fun pins s σ H D I h => ?_⟩
  refine plainObj_wpAny_Assign_Attribute (thn (he.run pins s σ H _ I h) fun v s1 ⟨y, H1, I1, r1, q1⟩ => thn (ho.run pins s1 σ H1 _ I1 q1) fun u s2 ⟨x, H2, I2, r2, a, C, B, nw, ini, tl, ex, bx, T, hno, ea, q⟩ => ?_) hs
  subst ex
  obtain rfl : u = Value.ref a := r2
  exact gst_new bx T I2 ea hno r1 fun dx s' n ne J => ⟨σ, _, J, q dx n ne⟩
/-- C(e, ..) to be raised -/
theorem pmk_gex {CX : CXT} {x : Str} {C fI : Addr} {k : Nat} {fd : FuncData} {ps : List Str} {sp : Sp} (bx : BaseX B nw ini tl) (T : OexG X.K C tl nw) (iC : PySem.W.findIn X.K (.ref C) "__init__" = some (some (.ref fI))) (tI : PySem.W.typeIn X.K (.ref fI) = some (.type "function"))
    (F1 : FnOk X.prog X.w X.K X.mg X.base CX k fI fd ps sp) (hr : Room (k + 1) X.A) (hb : Binds X.K fd ps []) (hx : Passes CX X (fun _ _ _ => False)) (hg : Gl X x) (hm : X.mg x = some (.ref C)) (ha : PA X (e :: es) ta)
    (hdb : (x == ("__debug__" : Str)) = false := by decide) (he : starEach (e :: es) X.env = (false, eval e X.env) :: starEach es X.env := by rfl) (hpl : (backTo pos (starEach es X.env)).any (·.1) = false := by rfl) :
    PMk X (.Call (.Name x p) (e :: es) [] pos) (tMkO C sp [] ta) := by
  intro pins s σ H Q I h
  obtain ⟨nm, q, N, bs, cs, sn, sub, ab, col, dd, k0, k1, k2, k3, k5, hC⟩ := T.cls
  refine wpAny_Call_Name_kw (ld_glob I hg hm ?_ hdb)
  refine PySem.W.callWith_K (h₀ := X.base) I.ok.mod.kin T.kC (thn (ha.run pos pins s σ H _ I h) fun us s1 ⟨vs, H1, I1, r1, hz, q1⟩ => ⟨I1.kIn, ?_⟩) he hpl
  show wpAny _ _ (call (.ref C) us) _ _ _
  obtain ⟨hp, g, dr, tk, os⟩ := s1
  have up : hp.objs.size ≤ hp.objs.size + 1 := Nat.le_succ _
  have hq := q1 (hp.objs.size + 1) (I1.hok.fresh up)
  have kk : ∀ b o, hp.get? b = some o → ((hp.push (PySem.W.kdv_tup us)).push (PySem.HandSPX.excO C hp.objs.size)).get? b = some o := fun b o z => Heap.get?_push_of_some _ (Heap.get?_push_of_some _ z)
  have I2 : Inv X pins σ (upd H1 (hp.objs.size + 1) (exo (hp.objs.size + 1) C none)) ⟨(hp.push (PySem.W.kdv_tup us)).push (PySem.HandSPX.excO C hp.objs.size), g, dr, tk, os⟩ :=
    I1.laid (t' := tk) (a := hp.objs.size + 1) (o := exo (hp.objs.size + 1) C none) kk up (exo_ok (t1 := hp.objs.size) (by heap_get))
  have r2 : Vals (V.ref (hp.objs.size + 1) :: (vs ++ [])) (Value.ref (hp.objs.size + 1) :: us) := .cons rfl (by rw [List.append_nil]; exact r1)
  have hl : (Value.ref (hp.objs.size + 1) :: us).length = ps.length := r2.length.symm.trans (F1.len _ _ _ _ hq)
  have hus : us.length ≤ sizeLine := by
    rw [← Paired.length r1, sizeLine_eq]
    omega
  have hbd := hb ⟨(hp.push (PySem.W.kdv_tup us)).push (PySem.HandSPX.excO C hp.objs.size), g, dr, tk, os⟩ (Value.ref (hp.objs.size + 1) :: us) I2.kIn (by simpa using hl)
  refine wpAny_call (PySem.HandSPX.call_own bx.eb (chain_has cs) (I1.kIn _ _ hC) (PySem.W.looks_findIn I1.kIn iC) (fun self => PySem.W.bind_fn I1.kIn self tI) hus
    (codeAny_mono (F1.run _ X.stack _ _ ⟨Value.ref (hp.objs.size + 1) :: us, []⟩ (Value.ref (hp.objs.size + 1) :: us) _ _ (fun _ _ _ => False) (hr.make C us []) (I2.env0.make C us []) (by simpa using hbd) r2 hq) fun r s' hq' => ?_))
  match r, hq' with
  | .error er, hq' => exact hx pins σ _ _ er s' I2 hq'
  | .ok (.ret u), hq' =>
    obtain ⟨v, H2, os2, bare2, un2, hok2, rv, ev, d, fs, ea, ed, hd1, q2⟩ := hq'
    subst ev
    obtain ⟨h2, g2, d2, t2, os'⟩ := s'
    exact ⟨rv, mk_end (raises_own T.exC T.tyC) I1 up kk un2 hok2 os2 bare2 ea ed hd1 q2⟩
end
/-- what the written part says of such an error -/
structure ErrG (K : PySem.W.Frag) (C fI : Addr) (f : Str) (B nw ini : String) (tl : List Value) : Prop where
  bx : BaseX B nw ini tl
  oex : OexG K C tl nw
  iC : PySem.W.findIn K (.ref C) "__init__" = some (some (.ref fI))
  tI : PySem.W.typeIn K (.ref fI) = some (.type "function")
  no : PySem.W.findIn K (.ref C) f = some none
  ga : PySem.W.findIn K (.ref C) "__getattribute__" = some (some (.builtin "BaseException.__getattribute__"))
  gg : PySem.W.findIn K (.ref C) "__getattr__" = some none
  hd : PySem.W.hasDictIn K C = true
  ha : PySem.W.findIn K (.ref C) "__class__" = some (some (.builtin "object.__class__"))
  hn : PySem.W.specialIn K (.builtin "object.__class__") "__get__" = some (some (.builtin "getset_descriptor.__get__"))
  ht : PySem.W.takesIn K (.builtin "object.__class__") = some true
  hm : PySem.W.mroIn K C (.type "object") = some true
section
variable {K : PySem.W.Frag} {C fI : Addr} {f : Str} {B nw ini : String} {tl : List Value}
theorem ErrG.xf (T : ErrG K C fI f B nw ini tl) : XfC K C := ⟨T.ga, T.gg, T.oex.exC, T.hd⟩
theorem ErrG.exc (T : ErrG K C fI f B nw ini tl) : ExcC K C := ⟨T.ga, T.gg, T.oex.exC, T.hd, T.ha, T.hn, T.ht, T.hm⟩
/-- raise C(e) in a def -/
theorem ps_raiseG {X : Cx} {W : WX} {x : Str} {k : Nat} {fd : FuncData} {ps : List Str} {e : Expr} {te : TE} {p pos rpos : Pos} (T : ErrG X.K C fI f B nw ini tl) (F1 : FnOk X.prog X.w X.K X.mg X.base CX0 k fI fd ps (spErr f C)) (hb : Binds X.K fd ps []) (hr : Room (k + 1) X.A)
    (hm : X.mg x = some (.ref C)) (hc : X.calm = true) (tk : Takes X W) (he : PE X e te) (hg : Gl X x := by rfl) (hdb : (x == ("__debug__" : Str)) = false := by decide)
    (hs : starEach [e] X.env = (false, eval e X.env) :: starEach [] X.env := by rfl) (hpl : (backTo pos (starEach [] X.env)).any (·.1) = false := by rfl) :
    PS X (.Raise (some (.Call (.Name x p) [e] [] pos)) none rpos) (fun _ σ H => tErr C f te σ H fun cls d H' => W cls d σ H') :=
  ps_raise hc tk (pmk_gex T.bx T.oex T.iC T.tI F1 hr hb pass0 hg hm (pa_cons he pa_nil hs) hdb hs hpl)
end
end XT

namespace XT
open PySem PySem.Spec PyProof.Rows L2
/-! ### sorted(t) of a tuple of ints -/
def rSortedA (K : PySem.W.Frag) : List V → Hp → VK → Prop := fun vs H Q => ∃ (a : Addr) (ns : List Int), vs = [V.ref a] ∧ (SqL K H a (ns.map V.int) ∨ SqT K H a (ns.map V.int)) ∧
  ∀ (ns' : List Int) (p : Addr), ns'.Perm ns → ns'.Pairwise (· ≤ ·) → H p = none → Q (.ref p) (upd H p (.lst (ns'.map V.int)))
section
variable {X : Cx}
theorem cr_sortedA : CallR X (.builtin "sorted") (rSortedA X.K) := by
  intro pins s σ H vs us Q I r h
  obtain ⟨a, ns, rfl, hs | hs, q⟩ := h
  · exact cr_sortedI pins s σ H _ us Q I r ⟨a, ns, rfl, hs, q⟩
  obtain ⟨its, rv, hl, hz⟩ := I.tuple hs
  rw [Vals.ref1 r]
  have hi := rv.ints
  have hle : its.length ≤ sizeLine := by rw [← rv.length]; exact hz
  obtain ⟨o, ho, hc, n, hd⟩ := hl
  refine Calls.call_function_entry kind_sorted plain_sorted entry_sorted (args_sorted1 _) ?_
  unfold Builtin.«sorted»
  refine wpAny_bind (m := checkCount "sorted" 1 1 _) (wpAny_pure ?_)
  refine wpAny_bind (wpAny_collect_seq a (.inr rfl) ho hc hd (fun h' hk => ?_) (by rw [List.size_toArray]; exact hle))
  have e0 : its.toArray.toList = its := by simp
  rw [e0]
  refine wpAny_bind (wpAny_newList ?_ hle)
  have hoL : (h'.push (seqObj "list" its.toArray 0)).get? h'.objs.size = some (seqObj "list" its.toArray 0) := Heap.get?_push_size _ rfl
  show wpAny _ _ _ _ _ { s with heap := h'.push (seqObj "list" its.toArray 0) }
  refine wpAny_bind (wpAny_holding (wpAny_call_entry slot_list_sort ⟨_, hoL, rfl⟩ entry_list_sort (SrtO.list_sort_ord SrtO.swo_int hoL hle (fun h2 => SrtO.ints_sortable hi h2) fun out q1 q2 => ⟨_, rfl, ?_⟩) (args_list_sort _)))
  refine wpAny_pure ⟨_, rfl, ?_⟩
  obtain ⟨k1, k2, k3⟩ := SrtO.ints_out hi q1 q2
  obtain ⟨ep, he'⟩ := PyProof.Rows.sortedHeap_at (vs := its) (out := out.toArray) hoL
  have hlen : ((out.map SrtO.iv).map V.int).length ≤ sizeLine := by
    rw [List.length_map, k2.length_eq]
    rw [List.length_map] at hz
    exact hz
  have I1 : Inv X pins σ H { s with heap := h' } := I.kept (t' := s.toks) hk
  have h2 : ∀ b u, h'.get? b = some u → b ≠ h'.objs.size ∧ (h'.push (seqObj "list" its.toArray 0)).get? b = some u := fun b u z => ⟨Nat.ne_of_lt (Heap.lt_size z), Heap.get?_push_of_some _ z⟩
  exact ⟨.ref _, upd H h'.objs.size (.lst ((out.map SrtO.iv).map V.int)), I1.laid (t' := s.toks) (fun b u z => by rw [PyProof.Rows.sortedHeap_old (h2 b u z).1 (Heap.lt_size (h2 b u z).2)]; exact (h2 b u z).2) (Nat.le_refl _) ⟨hlen, out, ep, vals_of_ints k1, he'⟩, rfl, q _ _ k2 k3 (I1.hok.fresh (Nat.le_refl _))⟩
theorem sortedAK (K : PySem.W.Frag) (hK : X.K = K := by rfl) : CallR X (.builtin "sorted") (rSortedA K) := by subst hK; exact cr_sortedA
end
end XT

namespace XT
open PySem PySem.Spec PyProof.Rows L2
/-! ### own exception classes called with one keyword -/
section
variable {prog : Program} {w : World} {A : Around} {E : Value → Shared → Prop} {R : Result → Shared → Prop} {h : Heap} {g : Array GenState} {d : Drawn} {t : Nat} {os : OsState} {nm q : Str} {C N fI : Addr} {bs bm bmB : List Value} {hdct : Bool} {sn : List Str} {sub : List Value} {ab : Bool} {col : Option Bool} {dd : Option Addr}
  {k0 k1 k2 k3 k5 : Option Value} {B newId initId : String} {kf : Str} {kv : Value}
theorem kx_new {M : Model} (F : ExcBaseFacts B newId initId bmB) (hT : ∀ X : String, bm.contains (.type X) = bmB.contains (.type X)) {Q : Unit → Shared → Prop}
    (hC : h.get? C = some (excClassObj nm q C N bs bm hdct sn sub ab col dd k0 k1 k2 k3 k5 newId)) (hq : Q () ⟨h, g, d, t, os⟩) : wpAny M A (checkBuiltinCall newId ⟨[.ref C], [(kf, kv)]⟩) Q E ⟨h, g, d, t, os⟩ := by
  have hcont : (Value.ref C :: bm).contains (.type B) = true := by rw [List.contains_cons, hT, F.hasB, Bool.or_true]
  have hstar := F.noStar
  simp only [checkBuiltinCall, F.newKind, F.newSplit, F.newRow]
  repeat (first | refine wpAny_loadPart_at hC ?_ | (refine wpAny_isSubtype_exc hC ?_; rw [hcont]) | refine wpAny_staticBase_exc hC ?_ | refine wpAny_madeBy_exc hC ?_ | simp only [bne_self_eq_false, Bool.false_eq_true, if_false] | wp_step)
  exact hq
theorem kx_tc {M : Model} {Q : Unit → Shared → Prop} (hC : h.get? C = some (excClassObj nm q C N bs bm hdct sn sub ab col dd k0 k1 k2 k3 k5 newId))
    (hq : Q () ⟨h, g, d, t, os⟩) : wpAny M A (checkBuiltinCall "type.__call__" ⟨[.ref C], [(kf, kv)]⟩) Q E ⟨h, g, d, t, os⟩ := by
  have f3 := tc_sub
  have hT : (⟨h, g, d, t, os⟩ : Shared).TypeIs (.ref C) "type" := ⟨_, hC, rfl⟩
  simp only [checkBuiltinCall, tc_kind, tc_split]
  repeat (any_goals (first | assumption | with_reducible refine wpAny_loadPart_at hC ?_ | with_reducible refine wpAny_onRaise ?_ | with_reducible refine wpAny_map ?_ | wp_step))
end
end XT

namespace XT
open PySem PySem.Spec PyProof.Rows L2
section
variable {prog : Program} {w : World} {A : Around} {E : Value → Shared → Prop} {R : Result → Shared → Prop} {h : Heap} {g : Array GenState} {d : Drawn} {t : Nat} {os : OsState} {nm q : Str} {C N fI : Addr} {bs bm bmB : List Value} {hdct : Bool} {sn : List Str} {sub : List Value} {ab : Bool} {col : Option Bool} {dd : Option Addr}
  {k0 k1 k2 k3 k5 : Option Value} {B newId initId : String} {kf : Str} {kv : Value}
theorem kx_newobj (F : ExcBaseFacts B newId initId bmB) (hT : ∀ X : String, bm.contains (.type X) = bmB.contains (.type X)) (hC : h.get? C = some (excClassObj nm q C N bs bm hdct sn sub ab col dd k0 k1 k2 k3 k5 newId))
    (hq : R (.ok (.ret (.ref (h.objs.size + 1)))) ⟨(h.push (PySem.W.kdv_tup [])).push (PySem.HandSPX.excO C h.objs.size), g, d, t, os⟩) :
    codeAny (model prog w) A (.builtin newId ⟨[.ref C], [(kf, kv)]⟩) R ⟨h, g, d, t, os⟩ := by
  have hends := F.ends
  have hcB : (Value.ref C :: bm).contains (.type B) = true := by rw [List.contains_cons, hT, F.hasB, Bool.or_true]
  have hcA : (Value.ref C :: bm).contains (.type "AttributeError") = false := by rw [List.contains_cons, hT, F.noAttr]; rfl
  have hcN : (Value.ref C :: bm).contains (.type "NameError") = false := by rw [List.contains_cons, hT, F.noName]; rfl
  refine codeAny_builtinAt F.entry ?_
  unfold Builtin.«BaseException.__new__»
  refine PySem.wpAt_bind ?_
  show PySem.wpAt _ _ _ (stack >>= _) _ _ _
  refine PySem.wpAt_bind (PySem.wpAt_stack fun p below => PySem.wpAt_of_wpAny ?_)
  wp_walk
  refine PySem.wpAt_of_wpAny ?_
  rw [F.owner]
  repeat (first | with_reducible refine wpAny_madeHere_exc F.canon hC ?_ | with_reducible refine wpAny_loadPart_at hC ?_ | (with_reducible refine wpAny_isSubtype_exc hC ?_; first | rw [hcB] | rw [hcA] | rw [hcN]) | wp_step)
  show R _ _
  rw [Heap.size_push]
  exact hq
theorem kx_type {Q : PySem.Fin → Shared → Prop} (F : ExcBaseFacts B newId initId bmB) (hT : ∀ X : String, bm.contains (.type X) = bmB.contains (.type X)) (hC : h.get? C = some (excClassObj nm q C N bs bm hdct sn sub ab col dd k0 k1 k2 k3 k5 newId))
    (hi : PySem.W.Looks (model prog w) h (typeLookup (.ref C) "__init__") (some (.ref fI))) (hb : ∀ self, PySem.W.Looks (model prog w) h (bindSpecial (.ref fI) self) (.ref fI, [self]))
    (hq : codeAny (model prog w) A (.call (.ref fI) ⟨[.ref (h.objs.size + 1)], [(kf, kv)]⟩)
      (fun r s' => match r with | .ok (.ret v) => v = .none ∧ Q (.done (.ret (.ref (h.objs.size + 1)))) s' | .ok _ => False | .error e => E e s')
      ⟨(h.push (PySem.W.kdv_tup [])).push (PySem.HandSPX.excO C h.objs.size), g, d, t, os⟩) :
    wpAny (model prog w) A (Builtin.«type.__call__» ⟨[.ref C], [(kf, kv)]⟩) Q E ⟨h, g, d, t, os⟩ := by
  repeat (first | with_reducible refine wpAny_loadPart_at hC ?_ | with_reducible refine wpAny_madeBy_exc hC ?_ | wp_step)
  refine codeAny_call_builtin_code (Code.quiet_builtin _ F.quiet) (kx_new F hT hC ?_)
  refine kx_newobj F hT hC ?_
  show wpAny _ _ _ _ _ _
  have kk : ∀ b o, h.get? b = some o → ((h.push (PySem.W.kdv_tup [])).push (PySem.HandSPX.excO C h.objs.size)).get? b = some o := fun b o e => Heap.get?_push_of_some _ (Heap.get?_push_of_some _ e)
  have hC1 := kk _ _ hC
  have hget : ((h.push (PySem.W.kdv_tup [])).push (PySem.HandSPX.excO C h.objs.size)).get? (h.objs.size + 1) = some (PySem.HandSPX.excO C h.objs.size) := by heap_get
  have hcC : (Value.ref C :: bm).contains (.ref C) = true := by simp
  have i1 := hi.keeps kk
  have b1 := (hb (.ref (h.objs.size + 1))).keeps kk
  unfold isInstance
  repeat (first | with_reducible refine wpAny_loadPart_at hget ?_ | (with_reducible refine wpAny_isSubtype_exc hC1 ?_; rw [hcC]) | wp_step)
  show wpAny _ _ (typeLookup (.ref C) _) _ _ _
  refine i1.at ?_
  refine wpAny_holding (wpAny_bind (b1.at ?_))
  refine wpAny_bind (wpAny_call (codeAny_mono hq fun r s' z => ?_))
  rcases r with e | (v | _ | _ | _) <;> first | exact z | exact z.elim | skip
  obtain ⟨rfl, z⟩ := z
  first
    | exact wpAny_pure (wpAny_pure z)
    | (wp_walk; exact z)
theorem kx_call (F : ExcBaseFacts B newId initId bmB) (hT : ∀ X : String, bm.contains (.type X) = bmB.contains (.type X)) (hC : h.get? C = some (excClassObj nm q C N bs bm hdct sn sub ab col dd k0 k1 k2 k3 k5 newId))
    (hi : PySem.W.Looks (model prog w) h (typeLookup (.ref C) "__init__") (some (.ref fI))) (hb : ∀ self, PySem.W.Looks (model prog w) h (bindSpecial (.ref fI) self) (.ref fI, [self]))
    (hq : codeAny (model prog w) (A.under (.builtin "type.__call__" ⟨[.ref C], [(kf, kv)]⟩)) (.call (.ref fI) ⟨[.ref (h.objs.size + 1)], [(kf, kv)]⟩) (PySem.W.InitBack (h.objs.size + 1) R)
      ⟨(h.push (PySem.W.kdv_tup [])).push (PySem.HandSPX.excO C h.objs.size), g, d, t, os⟩) :
    codeAny (model prog w) A (.call (.ref C) ⟨[], [(kf, kv)]⟩) R ⟨h, g, d, t, os⟩ := by
  have f1 := tc_lookup
  have f2 := tc_bind (.ref C)
  have hTy : (⟨h, g, d, t, os⟩ : Shared).TypeIs (.ref C) "type" := ⟨_, hC, rfl⟩
  refine codeAny_of_tree ?_
  show wpAny _ _ (callAny (.ref C) _) _ _ _
  repeat (any_goals (first | assumption | with_reducible refine wpAny_loadPart_at hC ?_ | wp_step))
  refine ⟨rfl, ?_⟩
  refine codeAny_call_builtin_at (Code.quiet_builtin _ (by decide +kernel)) entry_typeCall (kx_tc hC (kx_type F hT hC hi hb ?_))
  refine codeAny_mono hq fun r s' z => ?_
  rcases r with e | (v | _ | _ | _) <;> exact z
end
end XT

namespace XT
open PySem PySem.Spec PyProof.Rows L2
/-! ### errors as values -/
/-- an error of the class at C stands at a, its field f holds v -/
def ErrAt (H : Hp) (C : Addr) (f : Str) (v : V) (a : Addr) : Prop := ∃ d, H a = some (exo a C (some d)) ∧ H d = some (exd d [(f, v)])
theorem ErrAt.same {H H' : Hp} {C : Addr} {f : Str} {v : V} {a : Addr} (h : ErrAt H C f v a) (e : Same H H') : ErrAt H' C f v a := let ⟨d, p, q⟩ := h; ⟨d, e _ _ p, e _ _ q⟩
theorem err_made {H : Hp} {a d C : Addr} {f : Str} {v : V} (ha : H a = none) (hd : H d = none) (ne : d ≠ a) : Same H (upd (upd (upd H a (exo a C none)) d (exd d [(f, v)])) a (exo a C (some d))) ∧ ErrAt (upd (upd (upd H a (exo a C none)) d (exd d [(f, v)])) a (exo a C (some d))) C f v a := by
  refine ⟨fun b o e => ?_, d, upd_same, by rw [upd_ne ne, upd_same]⟩
  have h1 : b ≠ a := fun q => by rw [q, ha] at e; cases e
  have h2 : b ≠ d := fun q => by rw [q, hd] at e; cases e
  rw [upd_ne h1, upd_ne h2, upd_ne h1]
  exact e
/-- C(e), C(f=e), as a value -/
def tMkV (C : Addr) (f : Str) (te : TE) : TE := fun σ H Q => tCons te tNil σ H fun vs H1 => ∃ v, vs = [v] ∧ ∀ a H2, Same H1 H2 → H1 a = none → ErrAt H2 C f v a → Q (.ref a) H2
section
variable {X : Cx} {B nw ini : String} {tl : List Value} {C fI : Addr} {f x : Str} {k : Nat} {fd : FuncData} {e : Expr} {te : TE} {p pos kp : Pos}
theorem run_err {pins : List (Addr × Obj)} {σ : L2.St} {H : Hp} {s : Shared} {Q : VK} {v : V} {u : Value} {ps : List Str} {args : Args} (F1 : FnOk X.prog X.w X.K X.mg X.base CX0 k fI fd ps (spErr f C)) (hr : Room (k + 1) X.A)
    (I : Inv X pins σ H s) (rv : RelV v u) (kw : List (Str × Value)) (us : List Value)
    (hbd : BindsTo { s with heap := (s.heap.push (PySem.W.kdv_tup us)).push (PySem.HandSPX.excO C s.heap.objs.size) } fd args (ps.zip [Value.ref (s.heap.objs.size + 1), u]))
    (q : ∀ a H2, Same H H2 → H a = none → ErrAt H2 C f v a → Q (.ref a) H2) :
    codeAny (model X.prog X.w) (X.A.under (.builtin "type.__call__" ⟨.ref C :: us, kw⟩)) (.call (.ref fI) args) (PySem.W.InitBack (s.heap.objs.size + 1) (fun r s' => match r with | .ok (.ret v) => EP X pins σ Q v s' | .ok _ => False | .error e => X.xe e s'))
      { s with heap := (s.heap.push (PySem.W.kdv_tup us)).push (PySem.HandSPX.excO C s.heap.objs.size) } := by
  have up : s.heap.objs.size ≤ s.heap.objs.size + 1 := Nat.le_succ _
  have kk : ∀ b o, s.heap.get? b = some o → ((s.heap.push (PySem.W.kdv_tup us)).push (PySem.HandSPX.excO C s.heap.objs.size)).get? b = some o := fun b o z => Heap.get?_push_of_some _ (Heap.get?_push_of_some _ z)
  have I2 : Inv X pins σ (upd H (s.heap.objs.size + 1) (exo (s.heap.objs.size + 1) C none)) { s with heap := (s.heap.push (PySem.W.kdv_tup us)).push (PySem.HandSPX.excO C s.heap.objs.size) } :=
    I.laid (t' := s.toks) (a := s.heap.objs.size + 1) (o := exo (s.heap.objs.size + 1) C none) kk up (exo_ok (t1 := s.heap.objs.size) (by heap_get))
  have n0 : H (s.heap.objs.size + 1) = none := I.hok.fresh up
  have r2 : Vals [V.ref (s.heap.objs.size + 1), v] [Value.ref (s.heap.objs.size + 1), u] := .cons rfl (.cons rv .nil)
  have hq : spErr f C [V.ref (s.heap.objs.size + 1), v] (upd H (s.heap.objs.size + 1) (exo (s.heap.objs.size + 1) C none)) (fun v' H2 => v' = .non ∧ Q (.ref (s.heap.objs.size + 1)) H2) E0 :=
    ⟨_, v, rfl, upd_same, fun d hd hne => ⟨rfl, by
      have hd' : H d = none := by rw [upd_ne hne] at hd; exact hd
      obtain ⟨s1, e1⟩ := err_made (C := C) (f := f) (v := v) n0 hd' hne
      exact q _ _ s1 n0 e1⟩⟩
  refine codeAny_mono (F1.run _ X.stack _ _ args [Value.ref (s.heap.objs.size + 1), u] [V.ref (s.heap.objs.size + 1), v] _ E0 (hr.make C us kw) (I2.env0.make C us kw) hbd r2 hq) fun r s' hq' => ?_
  match r, hq' with
  | .error er, hq' => exact hq'.elim
  | .ok (.ret u'), hq' =>
    obtain ⟨v', H', I3, rv', ev, q3⟩ := I2.after hq'
    subst ev
    exact ⟨rv', ⟨V.ref (s.heap.objs.size + 1), H', I3, rfl, q3⟩⟩
theorem pe_mkErr {ps : List Str} (T : ErrG X.K C fI f B nw ini tl) (F1 : FnOk X.prog X.w X.K X.mg X.base CX0 k fI fd ps (spErr f C)) (hb : Binds X.K fd ps []) (hl : ps.length = 2) (hr : Room (k + 1) X.A) (hg : Gl X x) (hm : X.mg x = some (.ref C)) (he : PE X e te)
    (hdb : (x == ("__debug__" : Str)) = false := by decide) (hs : starEach [e] X.env = (false, eval e X.env) :: starEach [] X.env := by rfl) (hpl : (backTo pos (starEach [] X.env)).any (·.1) = false := by rfl) :
    PE X (.Call (.Name x p) [e] [] pos) (tMkV C f te) := by
  refine ⟨fun pins s σ H Q I h => ?_⟩
  obtain ⟨nm, q, N, bs, cs, sn, sub, ab, col, dd, k0, k1, k2, k3, k5, hC⟩ := T.oex.cls
  refine wpAny_Call_Name_kw (ld_glob I hg hm ?_ hdb)
  refine PySem.W.callWith_K (h₀ := X.base) I.ok.mod.kin T.oex.kC (thn ((pa_cons he pa_nil hs).run pos pins s σ H _ I h) fun us s1 ⟨vs, H1, I1, r1, v, ev, q1⟩ => ⟨I1.kIn, ?_⟩) hs hpl
  subst ev
  obtain ⟨u, rfl, ru⟩ := r1.one
  obtain ⟨hp, g, d, t, os⟩ := s1
  have hbd := hb ⟨(hp.push (PySem.W.kdv_tup [u])).push (PySem.HandSPX.excO C hp.objs.size), g, d, t, os⟩ [Value.ref (hp.objs.size + 1), u] (I1.kept (t' := t) fun b o z => Heap.get?_push_of_some _ (Heap.get?_push_of_some _ z)).kIn (by rw [hl]; rfl)
  refine wpAny_call (codeAny_mono (PySem.HandSPX.call_own T.bx.eb (chain_has cs) (I1.kIn _ _ hC) (PySem.W.looks_findIn I1.kIn T.iC) (fun self => PySem.W.bind_fn I1.kIn self T.tI) (show 1 ≤ sizeLine by decide)
    (run_err F1 hr I1 ru [] [u] (by simpa using hbd) q1)) fun r s' z => z)
theorem pe_mkErrK {ps : List Str} (T : ErrG X.K C fI f B nw ini tl) (F1 : FnOk X.prog X.w X.K X.mg X.base CX0 k fI fd ps (spErr f C)) (hb : ∀ (s : Shared) (a u : Value), BindsTo s fd ⟨[a], [(f, u)]⟩ (ps.zip [a, u])) (hr : Room (k + 1) X.A) (hg : Gl X x) (hm : X.mg x = some (.ref C)) (he : PE X e te)
    (hdb : (x == ("__debug__" : Str)) = false := by decide)
    (hall : (backToKw pos (keywordEach [⟨some f, e, kp⟩] X.env)).all (·.1.isSome) = true := by rfl) (hks : (backToKw pos (keywordEach [⟨some f, e, kp⟩] X.env)).filterMap (·.1) = [f] := by rfl)
    (hpl : ((backTo pos (starEach [] X.env)).any (·.1) || (backToKw pos (keywordEach [⟨some f, e, kp⟩] X.env)).any (·.1.isNone)) = false := by rfl) :
    PE X (.Call (.Name x p) [] [⟨some f, e, kp⟩] pos) (tMkV C f te) := by
  refine ⟨fun pins s σ H Q I h => ?_⟩
  obtain ⟨nm, q, N, bs, cs, sn, sub, ab, col, dd, k0, k1, k2, k3, k5, hC⟩ := T.oex.cls
  refine wpAny_Call_Name_kw (ld_glob I hg hm ?_ hdb)
  refine PySem.W.callWith_KW0 (h₀ := X.base) I.ok.mod.kin T.oex.kC hall ?_ hpl
  refine thn ((pk_cons (nm := some f) (kpos := kp) he pk_nil).run pos pins s σ H _ I h) fun us s1 ⟨vs, H1, I1, r1, v, ev, q1⟩ => ⟨I1.kIn, ?_⟩
  subst ev
  obtain ⟨u, rfl, ru⟩ := r1.one
  rw [hks]
  obtain ⟨hp, g, d, t, os⟩ := s1
  refine wpAny_call (codeAny_mono (kx_call (kf := f) (kv := u) T.bx.eb (chain_has cs) (I1.kIn _ _ hC) (PySem.W.looks_findIn I1.kIn T.iC) (fun self => PySem.W.bind_fn I1.kIn self T.tI)
    (run_err F1 hr I1 ru [(f, u)] [] (hb _ _ _) q1)) fun r s' z => z)
/-- isinstance(e, c), e such an error -/
def rIsErr (K : PySem.W.Frag) : List V → Hp → VK → Prop := fun xs H Q => ∃ (a C : Addr) (f : Str) (v c : V) (u : Value) (b : Bool), xs = [.ref a, c] ∧ ErrAt H C f v a ∧ ExcC K C ∧ ClsV c u ∧ PySem.W.kitOne K (.ref C) u = some b ∧ Q (.bl b) H
theorem call_isErr : CallR X (.builtin "isinstance") (rIsErr X.K) := by
  intro pins s σ H xs us Q I r h
  obtain ⟨a, C, f, v, c, u, b, rfl, ⟨d, ea, ed⟩, T, hc, e, q⟩ := h
  cases r with
  | cons rx rr =>
    cases rr with
    | cons rt rr =>
      cases rr
      cases rx
      have ec := hc.eq rt
      subst ec
      obtain ⟨t1, ho⟩ := exo_at I.hok ea
      obtain ⟨mA, hns, hr⟩ := exd_at I.hok ed
      obtain ⟨od, hd, _⟩ := lookIn_ns hns
      have J : PySem.W.InstAt s.heap a _ C (some od) := ⟨ho, rfl, rfl, hd⟩
      have hcl : (PySem.W.clsIn X.K C).isSome = true := by
        obtain ⟨cd, hc, _⟩ := PySem.W.any_some T.hd
        rw [hc]
        rfl
      exact PySem.W.kia_one (PySem.W.kitx_exc hcl T.hg T.hk T.hs T.ha T.hn T.ht T.hm) I.kIn J e (fun z => nomatch z) fun tk => ⟨.bl b, H, I.kept (t' := tk) fun _ _ z => z, rfl, q⟩
theorem isErrK (K : PySem.W.Frag) (hK : X.K = K := by rfl) : CallR X (.builtin "isinstance") (rIsErr K) := by subst hK; exact call_isErr
/-- e.f -/
def tFldE (K : PySem.W.Frag) (n : Str) (ta : TE) : TE := fun σ H Q => ta σ H fun x H1 => ∃ (a C : Addr) (v : V), x = .ref a ∧ XfC K C ∧ PySem.W.findIn K (.ref C) n = some none ∧ ErrAt H1 C n v a ∧ Q v H1
theorem pe_fldE (K : PySem.W.Frag) {ta : TE} {n : Str} (he : PE X e ta) (hb : attributeBase e n X.env (eval e X.env) = eval e X.env := by rfl) (hK : X.K = K := by rfl) : PE X (.Attribute e n pos) (tFldE K n ta) := by
  subst hK
  refine ⟨fun pins s σ H Q I h => ?_⟩
  refine attr_of hb (thn (he.run pins s σ H _ I h) fun u s1 ⟨x, H1, I1, rx, a, C, v, ex, T, hno, ⟨d, ea, ed⟩, q⟩ => ?_)
  subst ex
  obtain rfl : u = Value.ref a := rx
  obtain ⟨t1, ho⟩ := exo_at I1.hok ea
  obtain ⟨mA, hns, hr⟩ := exd_at I1.hok ed
  obtain ⟨od, hd, hl⟩ := lookIn_ns hns
  obtain ⟨u, hu, ru⟩ := RelO.some_of (v := v) (o := mA n) (by have := hr n; simpa [List.lookup] using this)
  have J : PySem.W.InstAt s1.heap a _ C (some od) := ⟨ho, rfl, rfl, hd⟩
  exact HandSPX.exc_get I1.kIn J T.ga T.gg T.exC (PySem.W.findObj_own T.hdC hno rfl (by rw [hl, hu])) (handed_of ru) ⟨v, H1, I1.tok _, ru, q⟩
/-- xs.count(y) of flat values -/
def rCntV (K : PySem.W.Frag) : V → List V → Hp → VK → Prop := fun x xs H Q => ∃ (p : Addr) (ys : List V) (y : V), x = .ref p ∧ xs = [y] ∧ SqL K H p ys ∧ flatV y = true ∧ ys.all flatV = true ∧ Q (.int (ys.countP (fun z => eqV z y) : Nat)) H
theorem cnt_of {y : V} {u : Value} (ru : RelV y u) : ∀ {ys : List V} {its : List Value}, Vals ys its → ys.all flatV = true → its.countP (eqU y) = ys.countP (fun z => eqV z y)
  | _, _, .nil, _ => rfl
  | _, _, .cons (a := z) (b := w) rz t, h => by
    rw [List.all_cons, Bool.and_eq_true] at h
    rw [List.countP_cons, List.countP_cons, cnt_of ru t h.2, eqU_of rz h.1]
theorem mt_countV : MtR X "list.count" (rCntV X.K) := by
  intro pins s σ H x xs v us Q I rx rxs h
  obtain ⟨p, ys, y, rfl, rfl, hs, fy, fys, q⟩ := h
  cases rx
  obtain ⟨u, rfl, ru⟩ := rxs.one
  obtain ⟨its, rv, ⟨⟨cls, dd, data, sl⟩, n, ho, hc, hdn, hd⟩, hlen⟩ := I.list hs
  simp only at hc hd
  subst hc hd
  refine call_meets PySem.F.slot_list_count ⟨_, ho, rfl⟩ PySem.F.entry_list_count (PySem.F.args_list_count_2 _ _)
    (SeqAt.list_countAt p its.toArray n dd sl u (eqU y)) ⟨ho, fun u' hu' => mem_eqAt ru fy rv fys u' (by simpa using hu'), ?_⟩
  have ec : its.toArray.toList.countP (eqU y) = ys.countP (fun z => eqV z y) := cnt_of ru rv fys
  exact ⟨.int (ys.countP (fun z => eqV z y) : Nat), H, I.tok _, ⟨s.toks, by rw [ec]⟩, q⟩
end
/-- how one keyword binds -/
def BndK (x qual : Str) (st : Stmt) (p f : Str) : Prop := ∀ (kV doc pm : Value) (an : Option Addr) (cdv ct : Value) (a u : Value), bindArgs (PySem.W.fnOf x qual (defArgs st) (defBody st) (defScope st) .none kV doc pm an cdv ct) ⟨[a], [(f, u)]⟩ = pure [(p, a), (f, u)]
theorem bindsK {K : PySem.W.Frag} {x qual : Str} {st : Stmt} {g : Addr} {fd : FuncData} {p f : Str} (F : Fun K x qual st g fd) (B : BndK x qual st p f) : ∀ (s : Shared) (a u : Value), BindsTo s fd ⟨[a], [(f, u)]⟩ (([p, f] : List Str).zip [a, u]) := by
  obtain ⟨oc, od, kV, doc, pm, an, cdv, ct, osl, rfl, lk, hcd⟩ := F.ex
  exact fun s a u => .of_eq (B kV doc pm an cdv ct a u)
end XT

namespace XT
open PySem PySem.Spec PyProof.Rows L2
/-! ### list + list, the left one perhaps not the program's own -/
theorem list_addG (l b : Addr) (xs ys : Array Value) (n m : Nat) (d1 d2 : Option Addr) (s1 s2 : Array (Option Value)) (hz : xs.size + ys.size ≤ sizeLine) :
    Meets (Builtin.«list.__add__» ⟨[.ref l, .ref b], []⟩) (fun _ R s => s.heap.get? l = some { cls := .type "list", dict := d1, data := .seq xs n, slots := s1 } ∧ s.heap.get? b = some { cls := .type "list", dict := d2, data := .seq ys m, slots := s2 } ∧
      R (.ok (.ret (.ref s.heap.objs.size))) { s with heap := s.heap.push { cls := .type "list", data := .seq (xs ++ ys) } }) :=
  .of_wp fun prog w A R s h => by
    obtain ⟨hp, g, d, tk, os⟩ := s
    obtain ⟨hl, hb, h⟩ := h
    have f3 := AutoSeq1.sub_list_list
    wp_walk using wpAny_loadPart' hl, wpAny_loadPart' hb
    exact ⟨_, rfl, h⟩
def rCatQ (K : PySem.W.Frag) : R2 := fun x y H Q => ∃ l b xs zs, x = .ref l ∧ y = .ref b ∧ SqL K H l xs ∧ SqL K H b zs ∧ xs.length + zs.length ≤ sizeLine ∧ ∀ p, H p = none → Q (.ref p) (upd H p (.lst (xs ++ zs)))
theorem op_catQ {X : Cx} : OpR X (binaryOp .Add) (rCatQ X.K) := by
  intro pins s σ H x y v u Q I rx ry h
  obtain ⟨l, b, xs, zs, rfl, rfl, hH, hB, hz, q⟩ := h
  cases rx
  cases ry
  obtain ⟨its, r, ⟨⟨cls, dd, data, sl⟩, n, ho, hc, hdn, hd⟩, _⟩ := I.list hH
  obtain ⟨its2, r2, ⟨⟨cls2, dd2, data2, sl2⟩, n2, ho2, hc2, hdn2, hd2⟩, _⟩ := I.list hB
  simp only at hc hd hdn hc2 hd2 hdn2
  subst hc hc2
  have l1 := r.length
  have l2 := r2.length
  subst hdn hdn2 hd hd2
  refine concat_meets ⟨_, ho, rfl⟩ ⟨_, ho2, rfl⟩ noFill_list_add seq_list_add F.slot_list_add F.entry_list_add (F.args_list_add_2 _ _) (list_addG l b its.toArray its2.toArray _ _ _ _ _ _ (by rw [List.size_toArray, List.size_toArray]; omega)) ⟨ho, ho2, ?_⟩
  have ea : its.toArray ++ its2.toArray = (its ++ its2).toArray := by simp
  rw [ea]
  exact ⟨.ref _, _, I.lnew (t' := s.toks) (r.append r2) (by rw [List.length_append]; omega), rfl, q _ I.fresh⟩
end XT

namespace Tbl
/-- how many are at most c -/
def cnt (L : List Int) (c : Int) : Int := ((L.countP fun x => decide (x ≤ c) : Nat) : Int)
abbrev Asc (L : List Int) : Prop := L.Pairwise (· < ·)
abbrev Up (L : List Int) : Prop := L.Pairwise (· ≤ ·)
def Pos (L : List Int) : Prop := ∀ x ∈ L, 1 ≤ x
def bnds : Nat → List Int → List Int
  | _, [] => []
  | i, x :: L => (x - (i : Int)) :: bnds (i + 1) L
def kr (L : List Int) (p : Int) : Int := p + cnt (bnds 0 L) p
def mp (s : Int) (L : List Int) (c : Int) : Int := s + c - cnt L c
theorem cnt_nil (c : Int) : cnt [] c = 0 := rfl
theorem cnt_cons (x : Int) (L : List Int) (c : Int) : cnt (x :: L) c = (if x ≤ c then 1 else 0) + cnt L c := by
  unfold cnt
  rw [List.countP_cons]
  by_cases h : x ≤ c
  · simp [h]; omega
  · simp [h]
theorem cnt_nn (L : List Int) (c : Int) : 0 ≤ cnt L c := Int.natCast_nonneg _
theorem cnt_le_len (L : List Int) (c : Int) : cnt L c ≤ L.length := by
  unfold cnt
  exact Int.ofNat_le.mpr List.countP_le_length
theorem cnt_mono (L : List Int) {c d : Int} (h : c ≤ d) : cnt L c ≤ cnt L d := by
  induction L with
  | nil => exact Int.le_refl _
  | cons x L ih =>
    rw [cnt_cons, cnt_cons]
    by_cases h1 : x ≤ c
    · rw [if_pos h1, if_pos (Int.le_trans h1 h)]; omega
    · rw [if_neg h1]; split <;> omega
theorem cnt_zero {L : List Int} {c : Int} (h : ∀ x ∈ L, c < x) : cnt L c = 0 := by
  induction L with
  | nil => rfl
  | cons x L ih =>
    rw [cnt_cons, if_neg (by have := h x (List.mem_cons_self ..); omega), ih fun y hy => h y (List.mem_cons_of_mem _ hy)]
    rfl
theorem cnt_all {L : List Int} {c : Int} (h : ∀ x ∈ L, x ≤ c) : cnt L c = L.length := by
  induction L with
  | nil => rfl
  | cons x L ih =>
    rw [cnt_cons, if_pos (h x (List.mem_cons_self ..)), ih fun y hy => h y (List.mem_cons_of_mem _ hy), List.length_cons]
    omega
theorem cnt_append (L M : List Int) (c : Int) : cnt (L ++ M) c = cnt L c + cnt M c := by
  unfold cnt
  rw [List.countP_append]
  omega
theorem cnt_perm {L M : List Int} (h : L.Perm M) (c : Int) : cnt L c = cnt M c := by
  unfold cnt
  rw [h.countP_eq]
theorem cnt_map_sub (L : List Int) (p : Int) : cnt (L.map (· - 1)) p = cnt L (p + 1) := by
  induction L with
  | nil => rfl
  | cons x L ih =>
    rw [List.map_cons, cnt_cons, cnt_cons, ih]
    by_cases h : x ≤ p + 1
    · rw [if_pos h, if_pos (by omega)]
    · rw [if_neg h, if_neg (by omega)]
theorem bnds_succ (L : List Int) : ∀ i : Nat, bnds (i + 1) L = (bnds i L).map (· - 1) := by
  induction L with
  | nil => intro i; rfl
  | cons x L ih =>
    intro i
    show (x - ((i + 1 : Nat) : Int)) :: bnds (i + 1 + 1) L = (x - (i : Int) - 1) :: (bnds (i + 1) L).map (· - 1)
    rw [ih (i + 1)]
    congr 1
    omega
theorem bnds_length (L : List Int) : ∀ i : Nat, (bnds i L).length = L.length := by
  induction L with
  | nil => intro i; rfl
  | cons x L ih => intro i; show (bnds (i + 1) L).length + 1 = L.length + 1; rw [ih]
theorem bnds_snoc (L : List Int) (x : Int) : ∀ i : Nat, bnds i (L ++ [x]) = bnds i L ++ [x - ((i + L.length : Nat) : Int)] := by
  induction L with
  | nil => intro i; rfl
  | cons y L ih =>
    intro i
    show (y - (i : Int)) :: bnds (i + 1) (L ++ [x]) = (y - (i : Int)) :: (bnds (i + 1) L ++ [x - ((i + (L.length + 1) : Nat) : Int)])
    rw [ih (i + 1)]
    congr 4
    omega
theorem bnds_ge {L : List Int} : ∀ {i : Nat} {x : Int}, Asc L → (∀ y ∈ L, x + (i : Int) ≤ y) → ∀ b ∈ bnds i L, x ≤ b := by
  induction L with
  | nil => intro i x _ _ b hb; cases hb
  | cons y L ih =>
    intro i x ha h b hb
    rcases List.mem_cons.mp hb with rfl | hb
    · have := h y (List.mem_cons_self ..); omega
    · refine ih (i := i + 1) (List.pairwise_cons.mp ha).2 (fun z hz => ?_) b hb
      have h1 := (List.pairwise_cons.mp ha).1 z hz
      have h2 := h y (List.mem_cons_self ..)
      omega
theorem bnds_up {L : List Int} : ∀ {i : Nat}, Asc L → Up (bnds i L) := by
  induction L with
  | nil => intro i _; exact List.Pairwise.nil
  | cons y L ih =>
    intro i ha
    refine List.pairwise_cons.mpr ⟨fun b hb => ?_, ih (List.pairwise_cons.mp ha).2⟩
    refine bnds_ge (i := i + 1) (List.pairwise_cons.mp ha).2 (fun z hz => ?_) b hb
    have h1 := (List.pairwise_cons.mp ha).1 z hz
    omega
theorem cnt_gap {L : List Int} : ∀ {p c : Int}, Asc L → (∀ y ∈ L, p < y) → p ≤ c → cnt L c ≤ c - p := by
  induction L with
  | nil => intro p c _ _ h; rw [cnt_nil]; omega
  | cons y L ih =>
    intro p c ha h hpc
    have hy := h y (List.mem_cons_self ..)
    rw [cnt_cons]
    by_cases hc : y ≤ c
    · rw [if_pos hc]
      have := ih (p := y) (c := c) (List.pairwise_cons.mp ha).2 (List.pairwise_cons.mp ha).1 hc
      omega
    · rw [if_neg hc, cnt_zero fun z hz => by have := (List.pairwise_cons.mp ha).1 z hz; omega]
      omega
theorem kr_cons_le {x : Int} {L : List Int} {p : Int} (h : x ≤ p) : kr (x :: L) p = kr L (p + 1) := by
  unfold kr
  show p + cnt ((x - ((0 : Nat) : Int)) :: bnds 1 L) p = _
  rw [cnt_cons, bnds_succ, cnt_map_sub, if_pos (by omega)]
  omega
theorem kr_cons_gt {x : Int} {L : List Int} {p : Int} (ha : Asc (x :: L)) (h : p < x) : kr (x :: L) p = p := by
  unfold kr
  rw [cnt_zero]
  · omega
  · intro b hb
    have := bnds_ge (i := 0) (x := x) ha (fun y hy => by
      rcases List.mem_cons.mp hy with rfl | hy
      · omega
      · have := (List.pairwise_cons.mp ha).1 y hy; omega) b hb
    omega
theorem kr_ge (L : List Int) (p : Int) : p ≤ kr L p := by unfold kr; have := cnt_nn (bnds 0 L) p; omega
theorem kr_lt {L : List Int} {p q : Int} (h : p < q) : kr L p < kr L q := by
  unfold kr
  have := cnt_mono (bnds 0 L) (Int.le_of_lt h)
  omega
/-- the place p is reached at c exactly if the p-th kept rank is at most c -/
theorem gal {L : List Int} : ∀ {p c : Int}, Asc L → (p ≤ c - cnt L c ↔ kr L p ≤ c) := by
  induction L with
  | nil => intro p c _; rw [cnt_nil]; unfold kr bnds; rw [cnt_nil]; omega
  | cons x L ih =>
    intro p c ha
    have hL := (List.pairwise_cons.mp ha).2
    by_cases hp : x ≤ p
    · rw [kr_cons_le hp, cnt_cons]
      by_cases hc : x ≤ c
      · rw [if_pos hc]
        have := ih (p := p + 1) (c := c) hL
        omega
      · rw [if_neg hc]
        have h1 := cnt_nn L c
        have h2 := kr_ge L (p + 1)
        omega
    · have hp' : p < x := by omega
      rw [kr_cons_gt ha hp']
      constructor
      · intro h; have := cnt_nn (x :: L) c; omega
      · intro h
        have := cnt_gap (p := p) (c := c) ha (fun y hy => by
          rcases List.mem_cons.mp hy with rfl | hy
          · exact hp'
          · have := (List.pairwise_cons.mp ha).1 y hy; omega) h
        omega
theorem cnt_mem {L : List Int} (ha : Asc L) {x : Int} : x ∈ L ↔ cnt L x = cnt L (x - 1) + 1 := by
  induction L with
  | nil => rw [cnt_nil, cnt_nil]; simp
  | cons y L ih =>
    have hL := (List.pairwise_cons.mp ha).2
    have hy := (List.pairwise_cons.mp ha).1
    rw [cnt_cons, cnt_cons]
    by_cases e : x = y
    · subst e
      rw [if_pos (Int.le_refl _), if_neg (by omega), cnt_zero hy, cnt_zero fun z hz => by have := hy z hz; omega]
      simp
    · rw [List.mem_cons]
      have := ih hL
      by_cases h : y ≤ x
      · rw [if_pos h, if_pos (by omega)]
        constructor
        · rintro (h1 | h1)
          · exact absurd h1 e
          · have := this.mp h1; omega
        · intro h1; exact .inr (this.mpr (by omega))
      · rw [if_neg h, if_neg (by omega)]
        constructor
        · rintro (h1 | h1)
          · exact absurd h1 e
          · have := this.mp h1; omega
        · intro h1; exact .inr (this.mpr (by omega))
theorem asc_ext {L : List Int} : ∀ {M : List Int}, Asc L → Asc M → (∀ x, x ∈ L ↔ x ∈ M) → L = M := by
  induction L with
  | nil =>
    intro M _ _ h
    cases M with
    | nil => rfl
    | cons y M => exact absurd ((h y).mpr (List.mem_cons_self ..)) (by simp)
  | cons x L ih =>
    intro M ha hb h
    cases M with
    | nil => exact absurd ((h x).mp (List.mem_cons_self ..)) (by simp)
    | cons y M =>
      have ha1 := (List.pairwise_cons.mp ha).1
      have hb1 := (List.pairwise_cons.mp hb).1
      have e : x = y := by
        rcases List.mem_cons.mp ((h x).mp (List.mem_cons_self ..)) with e | e
        · exact e
        · rcases List.mem_cons.mp ((h y).mpr (List.mem_cons_self ..)) with e' | e'
          · exact e'.symm
          · have := hb1 x e; have := ha1 y e'; omega
      subst e
      rw [ih (List.pairwise_cons.mp ha).2 (List.pairwise_cons.mp hb).2 fun z => ?_]
      constructor
      · intro hz
        rcases List.mem_cons.mp ((h z).mp (List.mem_cons_of_mem _ hz)) with e | e
        · subst e; have := ha1 z hz; omega
        · exact e
      · intro hz
        rcases List.mem_cons.mp ((h z).mpr (List.mem_cons_of_mem _ hz)) with e | e
        · subst e; have := hb1 z hz; omega
        · exact e
theorem asc_nodup {L : List Int} (h : Asc L) : L.Nodup := h.imp fun h e => by omega
theorem up_nodup {L : List Int} (h : Up L) (n : L.Nodup) : Asc L := (h.and n).imp fun ⟨a, b⟩ => by omega
theorem kr_notin {L : List Int} (ha : Asc L) (p : Int) : kr L p ∉ L := by
  intro h
  have h1 := (cnt_mem ha).mp h
  have h2 := (gal (p := p) (c := kr L p) ha).mpr (Int.le_refl _)
  have h3 := (gal (p := p) (c := kr L p - 1) ha)
  have : kr L p ≤ kr L p - 1 := h3.mp (by omega)
  omega
theorem cnt_le {L : List Int} (ha : Asc L) (hp : Pos L) {c : Int} (hc : 0 ≤ c) : cnt L c ≤ c := by
  have := cnt_gap (p := 0) (c := c) ha (fun y hy => by have := hp y hy; omega) hc
  omega
/-! ### tables -/
structure Ok (s : Int) (L : List Int) : Prop where
  s0 : 0 ≤ s
  asc : Asc L
  pos : Pos L
theorem Ok.mp_ge {s : Int} {L : List Int} (h : Ok s L) {c : Int} (hc : 0 ≤ c) : s ≤ mp s L c := by
  have := cnt_le h.asc h.pos hc
  unfold mp; omega
theorem Ok.mp_nn {s : Int} {L : List Int} (h : Ok s L) {c : Int} (hc : 0 ≤ c) : 0 ≤ mp s L c := Int.le_trans h.s0 (h.mp_ge hc)
theorem mp_zero {s : Int} {L : List Int} (h : Ok s L) : mp s L 0 = s := by
  unfold mp
  rw [cnt_zero fun x hx => by have := h.pos x hx; omega]
  omega
/-- two tables that map alike are one -/
theorem ok_ext {s t : Int} {L M : List Int} (h : Ok s L) (k : Ok t M) (e : ∀ c, 0 ≤ c → mp s L c = mp t M c) : s = t ∧ L = M := by
  have es : s = t := by
    have := e 0 (Int.le_refl _)
    rwa [mp_zero h, mp_zero k] at this
  refine ⟨es, asc_ext h.asc k.asc fun x => ?_⟩
  subst es
  have ec : ∀ c, 0 ≤ c → cnt L c = cnt M c := fun c hc => by have := e c hc; unfold mp at this; omega
  by_cases hx : 1 ≤ x
  · rw [cnt_mem h.asc, cnt_mem k.asc, ec x (by omega), ec (x - 1) (by omega)]
  · constructor
    · intro z; exact absurd (h.pos x z) hx
    · intro z; exact absurd (k.pos x z) hx
/-- the kept ranks that the second table loses -/
def found (s : Int) (L M : List Int) : List Int := ((M.filter fun r => decide (s < r)).map fun r => r - s).map (kr L)
theorem found_nodup {s : Int} {L M : List Int} (hM : Asc M) : (found s L M).Nodup := by
  unfold found
  have h1 : Asc (M.filter fun r => decide (s < r)) := hM.filter _
  have h2 : Asc ((M.filter fun r => decide (s < r)).map fun r => r - s) := List.pairwise_map.mpr (h1.imp fun h => by omega)
  have h3 : Asc (((M.filter fun r => decide (s < r)).map fun r => r - s).map (kr L)) := List.pairwise_map.mpr (h2.imp fun h => kr_lt h)
  exact asc_nodup h3
theorem found_pos {s : Int} {L M : List Int} : Pos (found s L M) := by
  intro x hx
  unfold found at hx
  obtain ⟨p, hp, rfl⟩ := List.mem_map.mp hx
  obtain ⟨r, hr, rfl⟩ := List.mem_map.mp hp
  have := (List.mem_filter.mp hr).2
  have h1 : s < r := by simpa using this
  have := kr_ge L (r - s)
  omega
theorem cnt_found {s : Int} {L M : List Int} (hL : Asc L) {c : Int} (hc : cnt L c ≤ c) : cnt M (mp s L c) = cnt M s + cnt (found s L M) c := by
  induction M with
  | nil => rfl
  | cons r M ih =>
    unfold found at ih ⊢
    rw [List.filter_cons]
    by_cases h : s < r
    · rw [if_pos (show decide (s < r) = true from decide_eq_true h), List.map_cons, List.map_cons, cnt_cons, cnt_cons, cnt_cons, if_neg (show ¬ r ≤ s by omega), ih]
      have g := gal (p := r - s) (c := c) hL
      by_cases h2 : r ≤ mp s L c
      · have h3 : kr L (r - s) ≤ c := g.mp (by unfold mp at h2; omega)
        rw [if_pos h2, if_pos h3]; omega
      · have h3 : ¬ kr L (r - s) ≤ c := fun z => h2 (by have := g.mpr z; unfold mp; omega)
        rw [if_neg h2, if_neg h3]; omega
    · rw [if_neg (show ¬ decide (s < r) = true by simpa using h), cnt_cons, cnt_cons, ih, if_pos (show r ≤ s by omega), if_pos (show r ≤ mp s L c by unfold mp; omega)]
      omega
/-- the sum of two tables: its start, and lost ranks in ascending order that are those of the first and the found ones -/
theorem ok_add {s t : Int} {L M N : List Int} (h : Ok s L) (k : Ok t M) (p : N.Perm (L ++ found s L M)) (u : Up N) : Ok (mp t M s) N := by
  refine ⟨k.mp_nn h.s0, up_nodup u (p.nodup_iff.mpr ?_), fun x hx => ?_⟩
  · refine List.nodup_append.mpr ⟨asc_nodup h.asc, found_nodup k.asc, fun a ha b hb e => ?_⟩
    subst e
    unfold found at hb
    obtain ⟨q, _, e⟩ := List.mem_map.mp hb
    exact kr_notin h.asc q (e ▸ ha)
  · rcases List.mem_append.mp (p.mem_iff.mp hx) with hx | hx
    · exact h.pos x hx
    · exact found_pos x hx
theorem mp_add {s t : Int} {L M N : List Int} (h : Ok s L) (p : N.Perm (L ++ found s L M)) {c : Int} (hc : 0 ≤ c) : mp (mp t M s) N c = mp t M (mp s L c) := by
  have h1 := cnt_found (s := s) (M := M) h.asc (cnt_le h.asc h.pos hc)
  have h2 := cnt_perm p c
  rw [cnt_append] at h2
  unfold mp at *
  omega
theorem len_add {s : Int} {L M N : List Int} (p : N.Perm (L ++ found s L M)) : (N.length : Int) = L.length + (M.length - cnt M s) := by
  rw [p.length_eq, List.length_append]
  unfold found
  rw [List.length_map, List.length_map]
  have : ∀ M : List Int, (((M.filter fun r => decide (s < r)).length : Nat) : Int) = M.length - cnt M s := by
    intro M
    induction M with
    | nil => rfl
    | cons r M ih =>
      rw [List.filter_cons, cnt_cons]
      by_cases h : s < r
      · rw [if_pos (by simpa using h), if_neg (by omega), List.length_cons, List.length_cons]; omega
      · rw [if_neg (by simpa using h), if_pos (by omega), List.length_cons]; omega
  have := this M
  omega
/-- the least count that becomes at least k -/
def lst (s : Int) (L : List Int) (k : Int) : Int := if k ≤ s then 0 else kr L (k - s)
theorem lst_nn {s : Int} {L : List Int} (k : Int) : 0 ≤ lst s L k := by
  unfold lst
  split
  · exact Int.le_refl _
  · have := kr_ge L (k - s); omega
theorem lst_gal {s : Int} {L : List Int} (h : Ok s L) {k c : Int} (hc : 0 ≤ c) : lst s L k ≤ c ↔ k ≤ mp s L c := by
  unfold lst
  by_cases hk : k ≤ s
  · rw [if_pos hk]
    have := h.mp_ge hc
    omega
  · rw [if_neg hk, ← gal h.asc]
    unfold mp; omega
theorem lst_add {s t : Int} {L M N : List Int} (h : Ok s L) (k : Ok t M) (p : N.Perm (L ++ found s L M)) (u : Up N) (c : Int) : lst (mp t M s) N c = lst s L (lst t M c) := by
  have key : ∀ d, 0 ≤ d → (lst (mp t M s) N c ≤ d ↔ lst s L (lst t M c) ≤ d) := fun d hd => by
    rw [lst_gal (ok_add h k p u) hd, mp_add h p hd, lst_gal h hd, lst_gal k (h.mp_nn hd)]
  have h1 := (key _ (lst_nn (s := mp t M s) (L := N) c)).mp (Int.le_refl _)
  have h2 := (key _ (lst_nn (s := s) (L := L) (lst t M c))).mpr (Int.le_refl _)
  omega
theorem nil_add {t : Int} {M N : List Int} (k : Ok t M) (p : N.Perm (found 0 [] M)) (u : Up N) : mp t M 0 = t ∧ N = M := by
  have h : Ok 0 [] := ⟨Int.le_refl _, List.Pairwise.nil, fun _ h => by cases h⟩
  have k2 := ok_add h k (N := N) (by simpa using p) u
  exact ok_ext k2 k fun c hc => by
    rw [mp_add h (by simpa using p) hc]
    have e : mp 0 [] c = c := by unfold mp; rw [cnt_nil]; omega
    rw [e]
theorem add_nil {s : Int} {L N : List Int} (h : Ok s L) (p : N.Perm (L ++ found s L [])) (u : Up N) : mp 0 [] s = s ∧ N = L := by
  have k : Ok 0 [] := ⟨Int.le_refl _, List.Pairwise.nil, fun _ h => by cases h⟩
  have k2 := ok_add h k p u
  exact ok_ext k2 h fun c hc => by rw [mp_add h p hc]; unfold mp; rw [cnt_nil]; omega
theorem add_assoc {s t u : Int} {L M O N1 N2 R1 R2 : List Int} (h : Ok s L) (k : Ok t M) (l : Ok u O)
    (p1 : N1.Perm (L ++ found s L M)) (u1 : Up N1) (q1 : R1.Perm (N1 ++ found (mp t M s) N1 O)) (v1 : Up R1)
    (p2 : N2.Perm (M ++ found t M O)) (u2 : Up N2) (q2 : R2.Perm (L ++ found s L N2)) (v2 : Up R2) :
    mp u O (mp t M s) = mp (mp u O t) N2 s ∧ R1 = R2 := by
  have a := ok_add h k p1 u1
  have b := ok_add k l p2 u2
  refine ok_ext (ok_add a l q1 v1) (ok_add h b q2 v2) fun c hc => ?_
  rw [mp_add a q1 hc, mp_add h p1 hc, mp_add h q2 hc, mp_add k p2 (h.mp_nn hc)]
end Tbl
namespace Tbl
theorem asc_adj {L : List Int} : Asc L ↔ ∀ i, (h : i + 1 < L.length) → L[i] < L[i + 1] := by
  induction L with
  | nil => simp
  | cons x L ih =>
    rw [Asc, List.pairwise_cons]
    constructor
    · rintro ⟨h1, h2⟩ i h
      cases i with
      | zero => exact h1 _ (List.getElem_mem _)
      | succ i => exact (ih.mp h2) i (by simpa using h)
    · intro h
      have h2 : Asc L := ih.mpr fun i hi => h (i + 1) (by simpa using hi)
      refine ⟨fun y hy => ?_, h2⟩
      cases L with
      | nil => cases hy
      | cons z L =>
        have h0 := h 0 (by simp)
        have h0' : x < z := h0
        rcases List.mem_cons.mp hy with rfl | hy
        · exact h0'
        · have := (List.pairwise_cons.mp h2).1 y hy; omega
end Tbl
namespace Tbl
theorem cnt_split {B : List Int} {c : Int} {k : Nat} (hk : k ≤ B.length) (h1 : ∀ j, (h : j < B.length) → j < k → B[j] ≤ c) (h2 : ∀ j, (h : j < B.length) → k ≤ j → c < B[j]) : cnt B c = k := by
  have e : B = B.take k ++ B.drop k := (List.take_append_drop k B).symm
  rw [e, cnt_append, cnt_all (L := B.take k), cnt_zero (L := B.drop k), List.length_take]
  · omega
  · intro x hx
    obtain ⟨i, hi, rfl⟩ := List.getElem_of_mem hx
    rw [List.getElem_drop]
    exact h2 _ _ (by omega)
  · intro x hx
    obtain ⟨i, hi, rfl⟩ := List.getElem_of_mem hx
    rw [List.getElem_take]
    have hi' : i < k ∧ i < B.length := by rw [List.length_take] at hi; omega
    exact h1 i hi'.2 hi'.1
theorem up_get {B : List Int} (h : Up B) {i j : Nat} (hi : i < B.length) (hj : j < B.length) (hij : i ≤ j) : B[i] ≤ B[j] := by
  rcases Nat.lt_or_ge i j with h1 | h1
  · exact (List.pairwise_iff_getElem.mp h) i j hi hj h1
  · have : i = j := by omega
    subst this
    exact Int.le_refl _
theorem asc_up {L : List Int} (h : Asc L) : Up L := h.imp fun h => by omega
end Tbl

namespace XT
open PySem PySem.Spec PyProof.Rows L2
/-! ### running a sequence on a list -/
def srt (L : List Int) : List Int := L.mergeSort fun a b => decide (a ≤ b)
theorem srt_perm (L : List Int) : (srt L).Perm L := List.mergeSort_perm L _
theorem srt_up (L : List Int) : (srt L).Pairwise (· ≤ ·) := by
  have := List.pairwise_mergeSort (le := fun a b : Int => decide (a ≤ b)) (by simp; omega) (by simp; omega) L
  exact this.imp fun h => by simpa using h
theorem srt_of {N L : List Int} (p : N.Perm L) (u : N.Pairwise (· ≤ ·)) : N = srt L :=
  List.Perm.eq_of_pairwise (le := (· ≤ ·)) (fun a b _ _ h1 h2 => Int.le_antisymm h1 h2) u (srt_up L) (p.trans (srt_perm L).symm)
theorem srt_len (L : List Int) : (srt L).length = L.length := (srt_perm L).length_eq
def stepR (L : List Int) : Stp → Option (List Int)
  | (true, x) => some (srt (L ++ [x]))
  | (false, k) => if (L.length : Int) < k then none else some (L.take (k - 1).toNat ++ L.drop k.toNat)
def runR (L : List Int) (i : Nat) : List Stp → List Int ⊕ Nat
  | [] => .inl L
  | s :: r => match stepR L s with
    | none => .inr i
    | some M => runR M (i + 1) r
theorem runR_step {L M : List Int} {i : Nat} {S : List Stp} {s : Stp} (h : S[i]? = some s) (e : stepR L s = some M) : runR L i (S.drop i) = runR M (i + 1) (S.drop (i + 1)) := by
  obtain ⟨hi, hs⟩ := List.getElem?_eq_some_iff.mp h
  rw [List.drop_eq_getElem_cons hi, hs]
  simp only [runR, e]
theorem runR_fail {L : List Int} {i : Nat} {S : List Stp} {s : Stp} (h : S[i]? = some s) (e : stepR L s = none) : runR L i (S.drop i) = .inr i := by
  obtain ⟨hi, hs⟩ := List.getElem?_eq_some_iff.mp h
  rw [List.drop_eq_getElem_cons hi, hs]
  simp only [runR, e]
theorem stepR_len {L M : List Int} {s : Stp} (e : stepR L s = some M) : M.length ≤ L.length + 1 := by
  obtain ⟨b, k⟩ := s
  cases b with
  | true =>
    have e' : some (srt (L ++ [k])) = some M := e
    cases e'
    rw [srt_len, List.length_append]
    simp
  | false =>
    simp only [stepR] at e
    split at e
    · cases e
    · cases e
      rw [List.length_append, List.length_take, List.length_drop]
      omega
theorem cut_to (n : Nat) (xs : List V) : cutV xs none (some (n : Int)) = xs.take n := by
  unfold cutV
  have e : HT.sIx xs.length xs.length (some (n : Int)) = min n xs.length := HT.sIx_nat xs.length xs.length n
  rw [HT.sIx_none, e]
  simp
  try omega
theorem cut_from (n : Nat) (xs : List V) : cutV xs (some (n : Int)) none = xs.drop n := by
  unfold cutV
  have e : HT.sIx xs.length 0 (some (n : Int)) = min n xs.length := HT.sIx_nat xs.length 0 n
  rw [e, HT.sIx_none]
  by_cases h : n ≤ xs.length
  · rw [Nat.min_eq_left h]
    exact List.take_of_length_le (by simp)
  · have h' : xs.length ≤ n := by omega
    rw [Nat.min_eq_right h', List.drop_eq_nil_of_le h']
    simp
theorem cut_rm {L : List Int} {k : Int} (h : 0 < k) : cutV (L.map V.int) none (some (k - 1)) ++ cutV (L.map V.int) (some k) none = (L.take (k - 1).toNat ++ L.drop k.toNat).map V.int := by
  have e1 : k - 1 = ((k - 1).toNat : Int) := by omega
  have e2 : k = (k.toNat : Int) := by omega
  have h1 := cut_to (k - 1).toNat (L.map V.int)
  have h2 := cut_from k.toNat (L.map V.int)
  rw [← e1] at h1
  rw [← e2] at h2
  rw [h1, h2, List.map_append, List.map_take, List.map_drop]
/-- what comes of it, as data -/
def resD : List Int ⊕ Nat → PyData
  | .inl M => .list [.str "list", .list (M.map PyData.int)]
  | .inr i => .list [.str "failed", .int (i : Int), .bool false]
theorem sh_res (r : List Int ⊕ Nat) : SeqAt.shaped (resD r) = true := by
  cases r with
  | inl M => simp [resD, SeqAt.shaped, PyData.canLay0, PyData.canLayAll0, PyData.depth, PyData.depthAll, canLay_ints, depth_ints, ok_of]
  | inr i => simp [resD, SeqAt.shaped, PyData.canLay0, PyData.canLayAll0, PyData.depth, PyData.depthAll, ok_of]
/-- the list that tells it -/
def ResAt (K : PySem.W.Frag) (H : Hp) (r : Addr) : List Int ⊕ Nat → Prop
  | .inl M => ∃ m, H r = some (.lst [.str "list", .ref m]) ∧ H m = some (.lst (M.map V.int))
  | .inr i => H r = some (.lst [.str "failed", .int (i : Int), .bl false])
theorem ResAt.same {K : PySem.W.Frag} {H H' : Hp} {r : Addr} {v : List Int ⊕ Nat} (h : ResAt K H r v) (e : Same H H') : ResAt K H' r v := by
  cases v with
  | inl M =>
    obtain ⟨m, a, b⟩ := h
    exact ⟨m, e _ _ a, e _ _ b⟩
  | inr i => exact e _ _ h
theorem ResAt.dp {K : PySem.W.Frag} {H : Hp} {r : Addr} {v : List Int ⊕ Nat} (h : ResAt K H r v) : Dp K H (.ref r) (resD v) := by
  cases v with
  | inl M =>
    obtain ⟨m, a, b⟩ := h
    exact .lst (SqL.of a) (.cons (.str _) (.cons (dp_lst (SqL.of b)) .nil))
  | inr i => exact .lst (SqL.of h) (.cons (.str _) (.cons (.int _) (.cons (.bl _) .nil)))
/-! ### a comprehension over a range whose element changes something -/
theorem lcE {lo : Int} {n : Nat} {g : TG} {te : TE} {vs : List Nat} {σ : L2.St} {H1 : Hp} {D : Addr} {Qd : Hp → Prop} (I : Nat → Hp → List V → Prop) (h0 : I 0 (upd H1 D (.lst [])) []) (hn : n ≤ sizeLine)
    (hl : ∀ i H acc, I i H acc → acc.length = i)
    (hs : ∀ i H acc (R : V → Hp → Prop), i < n → I i H acc → (∀ y H', H' D = some (.lst acc) → I (i + 1) (upd H' D (.lst (acc ++ [y]))) (acc ++ [y]) → R y H') → g (.int (lo + (i : Nat))) (wipe σ vs) H fun σ2 H2 => wipe σ2 vs = wipe σ vs ∧ te σ2 H2 R)
    (hd : ∀ H acc, I n H acc → Qd H) :
    ∃ W : Nat → Nat → Hp → Prop, (∃ m, W 0 m (upd H1 D (.lst []))) ∧ ∀ i m H, W i m H →
      ((Itr lo n).stop i H ∧ Qd H) ∨ ((Itr lo n).go i H ∧ ∃ Nx : Hp → Prop, (∀ H', Nx H' → ∃ m', m' < m ∧ W (i + 1) m' H') ∧ ∀ x H', (Itr lo n).yld i H x H' → g x (wipe σ vs) H' fun σ2 H2 => wipe σ2 vs = wipe σ vs ∧ tYes σ2 H2 fun b H3 =>
        if b = true then te σ2 H3 fun y H4 => ∃ acc, H4 D = some (.lst acc) ∧ acc.length < sizeLine ∧ Nx (upd H4 D (.lst (acc ++ [y]))) else Nx H3) := by
  refine ⟨fun i m H => m = n - i ∧ i ≤ n ∧ ∃ acc, I i H acc, ⟨n, by simp, Nat.zero_le _, _, h0⟩, ?_⟩
  rintro i m H ⟨rfl, hi, acc, hI⟩
  by_cases hlt : i < n
  · refine .inr ⟨hlt, fun H' => ∃ acc, I (i + 1) H' acc, fun H' p => ⟨n - (i + 1), by omega, rfl, hlt, p⟩, fun x H' y => ?_⟩
    obtain ⟨e, y⟩ := y
    subst e y
    show g _ _ _ fun σ2 H2 => _ ∧ (if true = true then te σ2 H2 fun y H4 => ∃ acc, H4 D = some (.lst acc) ∧ acc.length < sizeLine ∧ (∃ acc', I (i + 1) (upd H4 D (.lst (acc ++ [y]))) acc') else (∃ acc, I (i + 1) H2 acc))
    simp only [if_true]
    exact hs i _ acc _ hlt hI fun y H' e k => ⟨acc, e, by rw [hl i _ acc hI]; exact Nat.lt_of_lt_of_le hlt hn, _, k⟩
  · have e : i = n := by omega
    subst e
    exact .inl ⟨Nat.le_refl _, hd H acc hI⟩
/-- for i, x in enumerate(t) -/
theorem for_enT {K : PySem.W.Frag} {a : Addr} {xs : List V} {g : TG} {tb : TS} {D : Ends} {σ : L2.St} {H : Hp} (h1 : SqT K H a xs) (Pv : Nat → L2.St → Hp → Prop) (hl : ∀ i σ H, i ≤ xs.length → Pv i σ H → SqT K H a xs) (h0 : Pv 0 σ H)
    (hs : ∀ i x T σ H, i < xs.length → xs[i]? = some x → H T = none → Pv i σ H → g (.ref T) σ (upd H T (.tup [.int (i : Nat), x])) fun σ2 H2 => tb { D with nx := Pv (i + 1), ct := Pv (i + 1), bk := D.nx } σ2 H2) (hd : ∀ σ H, Pv xs.length σ H → D.nx σ H) :
    ∃ W : Nat → Nat → L2.St → Hp → Prop, (∃ m, W 0 m σ H) ∧ ∀ i m σ H, W i m σ H →
      ((IteT K a).stop i H ∧ D.nx σ H) ∨ ((IteT K a).go i H ∧ ∃ N : L2.St → Hp → Prop, (∀ σ' H', N σ' H' → ∃ m', m' < m ∧ W (i + 1) m' σ' H') ∧ ∀ x H', (IteT K a).yld i H x H' → g x σ H' fun σ2 H2 => tb { D with nx := N, ct := N, bk := D.nx } σ2 H2) := by
  refine ⟨fun i m σ H => m = xs.length - i ∧ i ≤ xs.length ∧ Pv i σ H, ⟨xs.length, by simp, Nat.zero_le _, h0⟩, ?_⟩
  rintro i m σ H ⟨rfl, hi, p⟩
  have q := hl i σ H hi p
  by_cases hlt : i < xs.length
  · have e : xs[i]? = some xs[i] := by simp [hlt]
    refine .inr ⟨⟨xs, xs[i], q, e⟩, Pv (i + 1), fun σ' H' p' => ⟨xs.length - (i + 1), by omega, rfl, hlt, p'⟩, fun x H' y => ?_⟩
    obtain ⟨T, x', e1, n, e2, y⟩ := y
    subst e1 e2
    exact hs i x' T σ H hlt (y xs q) n p
  · have e : i = xs.length := by omega
    subst e
    exact .inl ⟨⟨xs, q, Nat.le_refl _⟩, hd σ H p⟩
/-- for i, x in enumerate(l) -/
theorem for_enL {K : PySem.W.Frag} {a : Addr} {xs : List V} {g : TG} {tb : TS} {D : Ends} {σ : L2.St} {H : Hp} (Pv : Nat → L2.St → Hp → Prop) (hl : ∀ i σ H, i ≤ xs.length → Pv i σ H → SqL K H a xs) (h0 : Pv 0 σ H)
    (hs : ∀ i x T σ H, i < xs.length → xs[i]? = some x → H T = none → Pv i σ H → g (.ref T) σ (upd H T (.tup [.int (i : Nat), x])) fun σ2 H2 => tb { D with nx := Pv (i + 1), ct := Pv (i + 1), bk := D.nx } σ2 H2) (hd : ∀ σ H, Pv xs.length σ H → D.nx σ H) :
    ∃ W : Nat → Nat → L2.St → Hp → Prop, (∃ m, W 0 m σ H) ∧ ∀ i m σ H, W i m σ H →
      ((Ite K a).stop i H ∧ D.nx σ H) ∨ ((Ite K a).go i H ∧ ∃ N : L2.St → Hp → Prop, (∀ σ' H', N σ' H' → ∃ m', m' < m ∧ W (i + 1) m' σ' H') ∧ ∀ x H', (Ite K a).yld i H x H' → g x σ H' fun σ2 H2 => tb { D with nx := N, ct := N, bk := D.nx } σ2 H2) := by
  refine ⟨fun i m σ H => m = xs.length - i ∧ i ≤ xs.length ∧ Pv i σ H, ⟨xs.length, by simp, Nat.zero_le _, h0⟩, ?_⟩
  rintro i m σ H ⟨rfl, hi, p⟩
  have q := hl i σ H hi p
  by_cases hlt : i < xs.length
  · have e : xs[i]? = some xs[i] := by simp [hlt]
    refine .inr ⟨⟨xs, xs[i], q, e⟩, Pv (i + 1), fun σ' H' p' => ⟨xs.length - (i + 1), by omega, rfl, hlt, p'⟩, fun x H' y => ?_⟩
    obtain ⟨T, x', e1, n, e2, y⟩ := y
    subst e1 e2
    exact hs i x' T σ H hlt (y xs q) n p
  · have e : i = xs.length := by omega
    subst e
    exact .inl ⟨⟨xs, q, Nat.le_refl _⟩, hd σ H p⟩
end XT

namespace Eff
open Tbl XT
/-! ### the table of a threshold, step by step -/
def insAt (L : List Int) (i : Int) (x : Int) : List Int := L.take i.toNat ++ [x] ++ L.drop i.toNat
def tstep (t : Int) (p : Int × List Int) (s : Stp) : Int × List Int :=
  if s.1 = true then (if s.2 ≤ t then (p.1 + 1, p.2) else p)
  else if s.2 ≤ p.1 then (p.1 - 1, p.2)
  else (p.1, insAt p.2 (kr p.2 (s.2 - p.1) - (s.2 - p.1)) (kr p.2 (s.2 - p.1)))
def tb (t : Int) (S : List Stp) : Int × List Int := S.foldl (tstep t) (0, [])
def smp1 (t : Int) (c : Int) (s : Stp) : Int := if s.1 = true then (if s.2 ≤ t then c + 1 else c) else if s.2 ≤ c then c - 1 else c
def smp (t : Int) (S : List Stp) (c : Int) : Int := S.foldl (smp1 t) c
theorem cnt_notin {L : List Int} {x : Int} (h : x ∉ L) : cnt L x = cnt L (x - 1) := by
  induction L with
  | nil => rfl
  | cons y L ih =>
    have h1 : x ≠ y := fun e => h (e ▸ List.mem_cons_self)
    rw [cnt_cons, cnt_cons, ih fun z => h (List.mem_cons_of_mem _ z)]
    by_cases c : y ≤ x
    · rw [if_pos c, if_pos (by omega)]
    · rw [if_neg c, if_neg (by omega)]
theorem kr_place {L : List Int} (ha : Asc L) (p : Int) : kr L p - p = cnt L (kr L p) := by
  have h1 := (gal (p := p) (c := kr L p) ha).mpr (Int.le_refl _)
  have h2 := cnt_notin (kr_notin ha p)
  have h3 : ¬ p ≤ kr L p - 1 - cnt L (kr L p - 1) := fun h => by
    have := (gal (p := p) (c := kr L p - 1) ha).mp h
    omega
  omega
theorem insAt_perm (L : List Int) (i x : Int) : (insAt L i x).Perm (x :: L) := by
  unfold insAt
  have h : (L.take i.toNat ++ [x] ++ L.drop i.toNat).Perm ([x] ++ (L.take i.toNat ++ L.drop i.toNat)) := by
    rw [List.append_assoc]
    exact List.perm_append_comm_assoc _ _ _
  rw [List.take_append_drop] at h
  exact h
theorem insAt_asc {x : Int} : ∀ {L : List Int}, Asc L → x ∉ L → Asc (insAt L (cnt L x) x)
  | [], _, _ => by simp [insAt]
  | y :: L, ha, hx => by
    have hy := (List.pairwise_cons.mp ha).1
    have hL := (List.pairwise_cons.mp ha).2
    have hxL : x ∉ L := fun z => hx (List.mem_cons_of_mem _ z)
    have hne : x ≠ y := fun e => hx (e ▸ List.mem_cons_self)
    by_cases c : y ≤ x
    · rw [cnt_cons, if_pos c]
      have n0 := cnt_nn L x
      have e : (1 + cnt L x).toNat = (cnt L x).toNat + 1 := by omega
      have e2 : insAt (y :: L) (1 + cnt L x) x = y :: insAt L (cnt L x) x := by
        unfold insAt
        rw [e]
        rfl
      rw [e2]
      refine List.pairwise_cons.mpr ⟨fun z hz => ?_, insAt_asc hL hxL⟩
      rcases List.mem_cons.mp ((insAt_perm L _ x).mem_iff.mp hz) with rfl | hz
      · omega
      · exact hy z hz
    · have e : cnt (y :: L) x = 0 := cnt_zero fun z hz => by
        rcases List.mem_cons.mp hz with rfl | hz
        · omega
        · have := hy z hz; omega
      rw [e]
      show Asc (x :: y :: L)
      refine List.pairwise_cons.mpr ⟨fun z hz => ?_, ha⟩
      rcases List.mem_cons.mp hz with rfl | hz
      · omega
      · have := hy z hz; omega
theorem tstep_ok {t : Int} {p : Int × List Int} {st : Stp} (h : Ok p.1 p.2) (g : goodS st = true) : Ok (tstep t p st).1 (tstep t p st).2 ∧ ∀ c, 0 ≤ c → mp (tstep t p st).1 (tstep t p st).2 c = smp1 t (mp p.1 p.2 c) st := by
  obtain ⟨b, k⟩ := st
  obtain ⟨s, L⟩ := p
  have h : Ok s L := h
  unfold tstep smp1
  cases b with
  | true =>
    simp only [if_true]
    by_cases c : k ≤ t
    · simp only [if_pos c]
      refine ⟨⟨by have := h.s0; omega, h.asc, h.pos⟩, fun c _ => ?_⟩
      unfold mp; omega
    · simp only [if_neg c]
      exact ⟨h, fun _ _ => trivial⟩
  | false =>
    have hk : 0 < k := by simpa [goodS] using g
    simp only [Bool.false_eq_true, if_false]
    by_cases c : k ≤ s
    · simp only [if_pos c]
      refine ⟨⟨by have := h.s0; omega, h.asc, h.pos⟩, fun d hd => ?_⟩
      have := h.mp_ge hd
      rw [if_pos (by omega)]
      unfold mp; omega
    · simp only [if_neg c]
      have hp : 1 ≤ k - s := by omega
      have hr := kr_ge L (k - s)
      have hn := kr_notin h.asc (k - s)
      have hpl := kr_place h.asc (k - s)
      have hg := fun d => gal (p := k - s) (c := d) h.asc
      generalize hr' : kr L (k - s) = r at hr hn hpl hg ⊢
      rw [hpl]
      have pm := insAt_perm L (cnt L r) r
      refine ⟨⟨h.s0, insAt_asc h.asc hn, fun x hx => ?_⟩, fun d hd => ?_⟩
      · rcases List.mem_cons.mp (pm.mem_iff.mp hx) with rfl | hx
        · omega
        · exact h.pos x hx
      · have e := cnt_perm pm d
        rw [cnt_cons] at e
        unfold mp
        rw [e]
        by_cases cc : r ≤ d
        · rw [if_pos cc, if_pos (by have := (hg d).mpr cc; omega)]; omega
        · rw [if_neg cc, if_neg (fun z => cc ((hg d).mp (by omega)))]; omega
theorem fold_ok {t : Int} : ∀ {S : List Stp} {p : Int × List Int}, Ok p.1 p.2 → (∀ s ∈ S, goodS s = true) → Ok (S.foldl (tstep t) p).1 (S.foldl (tstep t) p).2 ∧ ∀ c, 0 ≤ c → mp (S.foldl (tstep t) p).1 (S.foldl (tstep t) p).2 c = S.foldl (smp1 t) (mp p.1 p.2 c)
  | [], p, h, _ => ⟨h, fun _ _ => rfl⟩
  | s :: S, p, h, g => by
    obtain ⟨h1, h2⟩ := tstep_ok (t := t) (st := s) h (g s List.mem_cons_self)
    obtain ⟨h3, h4⟩ := fold_ok (t := t) (S := S) h1 fun x hx => g x (List.mem_cons_of_mem _ hx)
    refine ⟨h3, fun c hc => ?_⟩
    rw [List.foldl_cons, List.foldl_cons, h4 c hc, h2 c hc]
theorem ok0 : Ok 0 [] := ⟨Int.le_refl _, List.Pairwise.nil, fun _ h => by cases h⟩
theorem tb_ok {t : Int} {S : List Stp} (g : ∀ s ∈ S, goodS s = true) : Ok (tb t S).1 (tb t S).2 := (fold_ok (t := t) (p := (0, [])) ok0 g).1
theorem tb_mp {t : Int} {S : List Stp} (g : ∀ s ∈ S, goodS s = true) {c : Int} (hc : 0 ≤ c) : mp (tb t S).1 (tb t S).2 c = smp t S c := by
  have := (fold_ok (t := t) (p := (0, [])) ok0 g).2 c hc
  have e : mp (0, ([] : List Int)).1 (0, ([] : List Int)).2 c = c := by unfold mp; rw [cnt_nil]; omega
  rw [e] at this
  exact this
theorem tb_snoc (t : Int) (S : List Stp) (s : Stp) : tb t (S ++ [s]) = tstep t (tb t S) s := by
  unfold tb
  rw [List.foldl_append]
  rfl
theorem smp_append (t : Int) (S M : List Stp) (c : Int) : smp t (S ++ M) c = smp t M (smp t S c) := by
  unfold smp
  rw [List.foldl_append]
theorem smp_nn {t : Int} : ∀ {S : List Stp} {c : Int}, (∀ s ∈ S, goodS s = true) → 0 ≤ c → 0 ≤ smp t S c
  | [], c, _, h => h
  | (b, k) :: S, c, g, h => by
    show 0 ≤ smp t S (smp1 t c (b, k))
    refine smp_nn (fun s hs => g s (List.mem_cons_of_mem _ hs)) ?_
    have := g _ List.mem_cons_self
    unfold smp1
    cases b with
    | true => simp only [if_true]; split <;> omega
    | false =>
      have hk : 0 < k := by simpa [goodS] using this
      simp only [Bool.false_eq_true, if_false]
      split <;> omega
/-! ### growth -/
def gr1 (t : Int) (s : Stp) : Int := if s.1 = true then (if s.2 ≤ t then 1 else 0) else -1
def gr (t : Int) : List Stp → Int
  | [] => 0
  | s :: S => gr1 t s + gr t S
theorem insAt_len (L : List Int) (i x : Int) : (insAt L i x).length = L.length + 1 := by rw [(insAt_perm L i x).length_eq, List.length_cons]
theorem tstep_gr (t : Int) (p : Int × List Int) (s : Stp) : (tstep t p s).1 - ((tstep t p s).2.length : Int) = p.1 - (p.2.length : Int) + gr1 t s := by
  unfold tstep gr1
  split
  · split
    · simp only; omega
    · omega
  · split
    · simp only; omega
    · simp only [insAt_len]; omega
theorem fold_gr (t : Int) : ∀ (S : List Stp) (p : Int × List Int), (S.foldl (tstep t) p).1 - ((S.foldl (tstep t) p).2.length : Int) = p.1 - (p.2.length : Int) + gr t S
  | [], p => by show _ = _ + 0; rw [Int.add_zero]; rfl
  | s :: S, p => by
    rw [List.foldl_cons, fold_gr t S, tstep_gr]
    show _ = _ + (gr1 t s + gr t S)
    omega
theorem tb_gr (t : Int) (S : List Stp) : (tb t S).1 - ((tb t S).2.length : Int) = gr t S := by
  have := fold_gr t S (0, [])
  simpa [tb] using this
theorem fold_len (t : Int) : ∀ (S : List Stp) (p : Int × List Int), (S.foldl (tstep t) p).2.length ≤ p.2.length + S.length ∧ (S.foldl (tstep t) p).1 ≤ p.1 + S.length
  | [], p => ⟨Nat.le_refl _, by simp⟩
  | s :: S, p => by
    have h := fold_len t S (tstep t p s)
    have h2 : (tstep t p s).2.length ≤ p.2.length + 1 ∧ (tstep t p s).1 ≤ p.1 + 1 := by
      unfold tstep
      split
      · split
        · exact ⟨Nat.le_succ _, Int.le_refl _⟩
        · exact ⟨Nat.le_succ _, by omega⟩
      · split
        · exact ⟨Nat.le_succ _, by simp only; omega⟩
        · exact ⟨by simp only [insAt_len]; omega, by simp only; omega⟩
    rw [List.foldl_cons, List.length_cons]
    omega
theorem tb_len (t : Int) (S : List Stp) : (tb t S).2.length ≤ S.length := by have := (fold_len t S (0, [])).1; simpa [tb] using this
theorem tb_start (t : Int) (S : List Stp) : (tb t S).1 ≤ S.length := by have := (fold_len t S (0, [])).2; simpa [tb] using this
theorem gr_mono {t u : Int} (h : t ≤ u) : ∀ S : List Stp, gr t S ≤ gr u S
  | [] => Int.le_refl _
  | s :: S => by
    have := gr_mono h S
    have : gr1 t s ≤ gr1 u s := by
      unfold gr1
      split
      · split
        · rw [if_pos (by omega)]; exact Int.le_refl _
        · split <;> omega
      · exact Int.le_refl _
    show gr1 t s + gr t S ≤ gr1 u s + gr u S
    omega
theorem gr_lt {t u x : Int} (h : t < x) (h2 : x ≤ u) : ∀ {S : List Stp}, (true, x) ∈ S → gr t S < gr u S
  | s :: S, hm => by
    show gr1 t s + gr t S < gr1 u s + gr u S
    rcases List.mem_cons.mp hm with e | hm
    · subst e
      have := gr_mono (t := t) (u := u) (by omega) S
      have e1 : gr1 t (true, x) = 0 := by unfold gr1; rw [if_pos rfl, if_neg (by show ¬ x ≤ t; omega)]
      have e2 : gr1 u (true, x) = 1 := by unfold gr1; rw [if_pos rfl, if_pos (show x ≤ u by omega)]
      omega
    · have := gr_lt h h2 hm
      have := gr_mono (t := t) (u := u) (by omega) [s]
      have : gr1 t s ≤ gr1 u s := by simpa [gr] using this
      omega
theorem gr_append (t : Int) : ∀ S M : List Stp, gr t (S ++ M) = gr t S + gr t M
  | [], M => by show gr t M = 0 + gr t M; omega
  | s :: S, M => by
    show gr1 t s + gr t (S ++ M) = gr1 t s + gr t S + gr t M
    rw [gr_append t S M]
    omega
/-! ### thresholds between the breaks -/
theorem tb_local {t u : Int} {S : List Stp} (h : ∀ x, (true, x) ∈ S → (x ≤ t ↔ x ≤ u)) : tb t S = tb u S := by
  have : ∀ (S : List Stp) (p : Int × List Int), (∀ x, (true, x) ∈ S → (x ≤ t ↔ x ≤ u)) → S.foldl (tstep t) p = S.foldl (tstep u) p := by
    intro S
    induction S with
    | nil => intro p _; rfl
    | cons s S ih =>
      intro p h
      obtain ⟨b, k⟩ := s
      have e : tstep t p (b, k) = tstep u p (b, k) := by
        unfold tstep
        cases b with
        | true =>
          have := h k List.mem_cons_self
          simp only [if_true]
          by_cases c : k ≤ t
          · rw [if_pos c, if_pos (this.mp c)]
          · rw [if_neg c, if_neg fun z => c (this.mpr z)]
        | false => simp
      rw [List.foldl_cons, List.foldl_cons, e]
      exact ih _ fun x hx => h x (List.mem_cons_of_mem _ hx)
  exact this S _ h
/-- the breaks of a sequence -/
structure Brk (S : List Stp) (B : List Int) : Prop where
  asc : Asc B
  mem : ∀ x, x ∈ B ↔ (true, x) ∈ S
theorem Brk.ext {S : List Stp} {B C : List Int} (h : Brk S B) (k : Brk S C) : B = C := asc_ext h.asc k.asc fun x => by rw [h.mem, k.mem]
def low (B : List Int) : Int := match B with
  | [] => 0
  | b :: _ => b - 1
def thr (B : List Int) : List Int := low B :: B
theorem low_lt {B : List Int} (h : Asc B) : ∀ x ∈ B, low B < x := by
  intro x hx
  cases B with
  | nil => cases hx
  | cons b B =>
    show b - 1 < x
    rcases List.mem_cons.mp hx with rfl | hx
    · omega
    · have := (List.pairwise_cons.mp h).1 x hx; omega
theorem cnt_at {B : List Int} (h : Asc B) : ∀ (t : Int) (j : Nat), cnt B t = (j : Int) + 1 → ∃ b, B[j]? = some b ∧ b ≤ t ∧ ∀ x ∈ B, x ≤ t ↔ x ≤ b := by
  induction B with
  | nil => intro t j e; rw [cnt_nil] at e; omega
  | cons y B ih =>
    intro t j e
    have hy := (List.pairwise_cons.mp h).1
    have hB := (List.pairwise_cons.mp h).2
    rw [cnt_cons] at e
    by_cases c : y ≤ t
    · rw [if_pos c] at e
      cases j with
      | zero =>
        refine ⟨y, rfl, c, fun x hx => ?_⟩
        rcases List.mem_cons.mp hx with rfl | hx
        · constructor <;> intro <;> omega
        · have h1 := hy x hx
          constructor
          · intro h2
            exfalso
            have : (1 : Int) ≤ cnt B t := by
              have h3 := (cnt_mem hB).mp hx
              have h4 := cnt_nn B (x - 1)
              have h5 := cnt_mono B h2
              omega
            omega
          · intro; omega
      | succ j =>
        obtain ⟨b, h1, h2, h3⟩ := ih hB t j (by omega)
        refine ⟨b, by simpa using h1, h2, fun x hx => ?_⟩
        rcases List.mem_cons.mp hx with rfl | hx
        · have := hy b (List.mem_of_getElem? h1)
          constructor <;> intro <;> omega
        · exact h3 x hx
    · rw [if_neg c] at e
      have := cnt_zero (L := B) (c := t) fun z hz => by have := hy z hz; omega
      omega
theorem thr_at {S : List Stp} {B : List Int} (h : Brk S B) (t : Int) : ∃ u, (thr B)[(cnt B t).toNat]? = some u ∧ tb u S = tb t S ∧ gr u S = gr t S := by
  have n0 := cnt_nn B t
  have key : ∀ u, (∀ x ∈ B, x ≤ t ↔ x ≤ u) → tb u S = tb t S ∧ gr u S = gr t S := fun u hu => by
    have e : tb u S = tb t S := tb_local fun x hx => (hu x ((h.mem x).mpr hx)).symm
    exact ⟨e, by rw [← tb_gr u S, ← tb_gr t S, e]⟩
  by_cases e : cnt B t = 0
  · refine ⟨low B, by rw [e]; rfl, key _ fun x hx => ?_⟩
    have h1 := low_lt h.asc x hx
    have h2 : ¬ x ≤ t := fun z => by
      have h3 := (cnt_mem h.asc).mp hx
      have h4 := cnt_nn B (x - 1)
      have h5 := cnt_mono B z
      omega
    constructor <;> intro <;> omega
  · obtain ⟨b, h1, h2, h3⟩ := cnt_at h.asc t ((cnt B t).toNat - 1) (by omega)
    refine ⟨b, ?_, key b h3⟩
    have : (cnt B t).toNat = (cnt B t).toNat - 1 + 1 := by omega
    rw [this]
    simpa [thr] using h1
/-- its tables -/
def tbs (S : List Stp) (B : List Int) : List (Int × List Int) := (thr B).map fun t => tb t S
theorem tbs_at {S : List Stp} {B : List Int} (h : Brk S B) (t : Int) : (tbs S B)[(cnt B t).toNat]? = some (tb t S) := by
  obtain ⟨u, h1, h2, _⟩ := thr_at h t
  unfold tbs
  rw [List.getElem?_map, h1, ← h2]
  rfl
theorem tbs_len (S : List Stp) (B : List Int) : (tbs S B).length = B.length + 1 := by simp [tbs, thr]
theorem brk_iff {S : List Stp} {B : List Int} (h : Brk S B) (b : Int) : b ∈ B ↔ tb b S ≠ tb (b - 1) S := by
  rw [h.mem]
  constructor
  · intro hb e
    have := gr_lt (t := b - 1) (u := b) (by omega) (Int.le_refl _) hb
    rw [← tb_gr b S, ← tb_gr (b - 1) S, e] at this
    omega
  · intro e
    refine Classical.byContradiction fun hb => e (tb_local fun x hx => ?_)
    have : x ≠ b := fun z => hb (z ▸ hx)
    constructor <;> intro <;> omega
/-- effects that have the same tables are one -/
theorem eff_ext {S M : List Stp} {B C : List Int} (h : Brk S B) (k : Brk M C) : (B = C ∧ tbs S B = tbs M C) ↔ ∀ t, tb t S = tb t M := by
  constructor
  · rintro ⟨rfl, e⟩ t
    have h1 := tbs_at h t
    have h2 := tbs_at k t
    rw [e, h2] at h1
    exact (Option.some.inj h1).symm
  · intro e
    have : B = C := asc_ext h.asc k.asc fun x => by rw [brk_iff h, brk_iff k, e, e]
    subst this
    refine ⟨rfl, ?_⟩
    unfold tbs
    exact List.map_congr_left fun t _ => e t
theorem tb_eq_iff {t u : Int} {S M : List Stp} (g : ∀ s ∈ S, goodS s = true) (g2 : ∀ s ∈ M, goodS s = true) : tb t S = tb u M ↔ ∀ c, 0 ≤ c → smp t S c = smp u M c := by
  constructor
  · intro e c hc
    rw [← tb_mp g hc, ← tb_mp g2 hc, e]
  · intro e
    obtain ⟨h1, h2⟩ := ok_ext (tb_ok (t := t) g) (tb_ok (t := u) g2) fun c hc => by rw [tb_mp g hc, tb_mp g2 hc, e c hc]
    exact Prod.ext h1 h2
/-- the sum of two tables -/
theorem tb_add {t : Int} {S M : List Stp} {N : List Int} (g : ∀ s ∈ S, goodS s = true) (g2 : ∀ s ∈ M, goodS s = true) (p : N.Perm ((tb t S).2 ++ found (tb t S).1 (tb t S).2 (tb t M).2)) (u : Up N) :
    (mp (tb t M).1 (tb t M).2 (tb t S).1, N) = tb t (S ++ M) := by
  have g3 : ∀ s ∈ S ++ M, goodS s = true := fun s hs => (List.mem_append.mp hs).elim (g s) (g2 s)
  have o1 := tb_ok (t := t) g
  have o2 := tb_ok (t := t) g2
  obtain ⟨h1, h2⟩ := ok_ext (ok_add o1 o2 p u) (tb_ok (t := t) g3) fun c hc => by
    rw [mp_add o1 p hc, tb_mp g hc, tb_mp g2 (smp_nn g hc), tb_mp g3 hc, smp_append]
  exact Prod.ext h1 h2
/-- neighboring tables differ -/
theorem tbs_adj {S : List Stp} {B : List Int} (h : Brk S B) : ∀ (i : Nat) (p q : Int × List Int), (tbs S B)[i]? = some p → (tbs S B)[i + 1]? = some q → p ≠ q := by
  intro i p q hp hq e
  unfold tbs at hp hq
  rw [List.getElem?_map] at hp hq
  obtain ⟨t, ht, rfl⟩ := Option.map_eq_some_iff.mp hp
  obtain ⟨u, hu, rfl⟩ := Option.map_eq_some_iff.mp hq
  have hu' : B[i]? = some u := by simpa [thr] using hu
  have hum := List.mem_of_getElem? hu'
  have hlt : t < u := by
    cases i with
    | zero =>
      have : low B = t := by simpa [thr] using ht
      rw [← this]
      exact low_lt h.asc u hum
    | succ i =>
      have ht' : B[i]? = some t := by simpa [thr] using ht
      obtain ⟨h1, e1⟩ := List.getElem?_eq_some_iff.mp ht'
      obtain ⟨h2, e2⟩ := List.getElem?_eq_some_iff.mp hu'
      have := (List.pairwise_iff_getElem.mp h.asc) i (i + 1) h1 h2 (by omega)
      omega
  have := gr_lt hlt (Int.le_refl u) ((h.mem u).mp hum)
  rw [← tb_gr t S, ← tb_gr u S, e] at this
  omega
/-! ### runs -/
theorem up_srt (L : List Int) : Up (srt L) := srt_up L
theorem cnt_srt (L : List Int) (t : Int) : cnt (srt L) t = cnt L t := cnt_perm (srt_perm L) t
theorem cnt_rm {N : List Int} (u : Up N) (t : Int) : ∀ j : Nat, j < N.length → cnt (N.take j ++ N.drop (j + 1)) t = cnt N t - (if (j : Int) < cnt N t then 1 else 0) := by
  induction N with
  | nil => intro j h; cases h
  | cons y N ih =>
    intro j h
    have hy := (List.pairwise_cons.mp u).1
    have hN := (List.pairwise_cons.mp u).2
    have n0 := cnt_nn N t
    have hz : ¬ y ≤ t → cnt N t = 0 := fun c => cnt_zero fun z hz => by have := hy z hz; omega
    cases j with
    | zero =>
      show cnt N t = _
      rw [cnt_cons]
      by_cases c : y ≤ t
      · rw [if_pos c, if_pos (by simp only [Int.natCast_zero, Int.ofNat_zero] at *; omega)]; omega
      · rw [if_neg c, hz c]; rfl
    | succ j =>
      have := ih hN j (by simpa using h)
      show cnt (y :: (N.take j ++ N.drop (j + 1))) t = _
      rw [cnt_cons, cnt_cons, this]
      by_cases c : y ≤ t
      · rw [if_pos c]
        by_cases d : (j : Int) < cnt N t
        · rw [if_pos d, if_pos (by omega)]; omega
        · rw [if_neg d, if_neg (by omega)]; omega
      · rw [if_neg c, hz c]
        rw [if_neg (by omega), if_neg (by omega)]
        omega
theorem step_cnt {N M : List Int} {s : Stp} (u : Up N) (g : goodS s = true) (e : stepR N s = some M) : Up M ∧ (∀ t, cnt M t = smp1 t (cnt N t) s) ∧ (M.length : Int) = N.length + (if s.1 = true then 1 else -1) ∧ ∀ x ∈ M, x ∈ N ∨ s = (true, x) := by
  obtain ⟨b, k⟩ := s
  cases b with
  | true =>
    have e' : some (srt (N ++ [k])) = some M := e
    cases e'
    refine ⟨up_srt _, fun t => ?_, ?_, fun x hx => ?_⟩
    · rw [cnt_srt, cnt_append, cnt_cons, cnt_nil]
      unfold smp1
      simp only [if_true]
      split <;> omega
    · rw [srt_len, List.length_append]
      simp
    · rcases List.mem_append.mp ((srt_perm _).mem_iff.mp hx) with h | h
      · exact .inl h
      · rw [List.mem_singleton.mp h]; exact .inr rfl
  | false =>
    have hk : 0 < k := by simpa [goodS] using g
    simp only [stepR] at e
    split at e
    · cases e
    · rename_i hl
      cases e
      have hj : (k - 1).toNat < N.length := by omega
      have ej : k.toNat = (k - 1).toNat + 1 := by omega
      rw [ej]
      refine ⟨?_, fun t => ?_, ?_, fun x hx => .inl ?_⟩
      · refine List.pairwise_append.mpr ⟨u.sublist (List.take_sublist _ _), u.sublist (List.drop_sublist _ _), fun a ha b hb => ?_⟩
        have h1 : a ∈ N.take ((k - 1).toNat + 1) := (List.take_sublist_take_left (by omega)).subset ha
        have h2 := u
        rw [← List.take_append_drop ((k - 1).toNat + 1) N] at h2
        exact (List.pairwise_append.mp h2).2.2 a h1 b hb
      · rw [cnt_rm u t _ hj]
        unfold smp1
        simp only [Bool.false_eq_true, if_false]
        by_cases c : k ≤ cnt N t
        · rw [if_pos c, if_pos (by omega)]
        · rw [if_neg c, if_neg (by omega)]; omega
      · rw [List.length_append, List.length_take, List.length_drop]
        simp
        omega
      · rcases List.mem_append.mp hx with h | h
        · exact List.mem_of_mem_take h
        · exact List.mem_of_mem_drop h
theorem run_cnt : ∀ {S : List Stp} {N M : List Int} {i : Nat}, Up N → (∀ s ∈ S, goodS s = true) → runR N i S = .inl M → Up M ∧ (∀ t, cnt M t = smp t S (cnt N t)) ∧ ∀ x ∈ M, x ∈ N ∨ (true, x) ∈ S
  | [], N, M, i, u, _, e => by
    have e' : (Sum.inl N : List Int ⊕ Nat) = .inl M := e
    cases e'
    exact ⟨u, fun _ => rfl, fun x hx => .inl hx⟩
  | s :: S, N, M, i, u, g, e => by
    simp only [runR] at e
    cases h : stepR N s with
    | none => rw [h] at e; cases e
    | some N1 =>
      rw [h] at e
      obtain ⟨u1, c1, _, m1⟩ := step_cnt u (g s List.mem_cons_self) h
      obtain ⟨u2, c2, m2⟩ := run_cnt u1 (fun x hx => g x (List.mem_cons_of_mem _ hx)) e
      refine ⟨u2, fun t => ?_, fun x hx => ?_⟩
      · rw [c2 t, c1 t]
        rfl
      · rcases m2 x hx with h1 | h1
        · rcases m1 x h1 with h2 | h2
          · exact .inl h2
          · rw [h2]; exact .inr List.mem_cons_self
        · exact .inr (List.mem_cons_of_mem _ h1)
/-- a threshold above all inserted numbers -/
def Top (T : Int) (S : List Stp) : Prop := ∀ x, (true, x) ∈ S → x ≤ T
theorem smp_ge {t : Int} : ∀ (S : List Stp) (c : Int), c + gr t S ≤ smp t S c
  | [], c => by show c + 0 ≤ c; omega
  | (b, k) :: S, c => by
    have := smp_ge (t := t) S (smp1 t c (b, k))
    have h : c + gr1 t (b, k) ≤ smp1 t c (b, k) := by
      unfold gr1 smp1
      cases b with
      | true => simp only [if_true]; split <;> omega
      | false => simp only [Bool.false_eq_true, if_false]; split <;> omega
    show c + (gr1 t (b, k) + gr t S) ≤ smp t S (smp1 t c (b, k))
    omega
theorem run_ok {T : Int} : ∀ {S : List Stp} {N : List Int} {i : Nat}, Up N → (∀ s ∈ S, goodS s = true) → Top T S → ((∃ M, runR N i S = .inl M) ↔ smp T S N.length = N.length + gr T S)
  | [], N, i, _, _, _ => by
    constructor
    · intro _; show (N.length : Int) = N.length + 0; omega
    · intro _; exact ⟨N, rfl⟩
  | (b, k) :: S, N, i, u, g, tp => by
    have gS : ∀ s ∈ S, goodS s = true := fun x hx => g x (List.mem_cons_of_mem _ hx)
    have tS : Top T S := fun x hx => tp x (List.mem_cons_of_mem _ hx)
    show (∃ M, runR N i ((b, k) :: S) = .inl M) ↔ smp T S (smp1 T N.length (b, k)) = N.length + (gr1 T (b, k) + gr T S)
    simp only [runR]
    cases h : stepR N (b, k) with
    | some N1 =>
      obtain ⟨u1, _, l1, _⟩ := step_cnt u (g _ List.mem_cons_self) h
      have ih := run_ok (T := T) (i := i + 1) u1 gS tS
      have e1 : smp1 T N.length (b, k) = N1.length ∧ gr1 T (b, k) = (if b = true then 1 else -1) := by
        unfold smp1 gr1
        cases b with
        | true =>
          have := tp k List.mem_cons_self
          simp only [if_true] at l1 ⊢
          rw [if_pos this, if_pos this]
          omega
        | false =>
          simp only [stepR] at h
          split at h
          · cases h
          · simp only [Bool.false_eq_true, if_false] at l1 ⊢
            rw [if_pos (by omega)]
            constructor <;> first | omega | trivial
      rw [e1.1, e1.2]
      refine ih.trans ?_
      simp only at l1
      rw [l1]
      constructor <;> intro <;> omega
    | none =>
      cases b with
      | true => cases h
      | false =>
        simp only [stepR] at h
        split at h
        · rename_i hl
          have e1 : smp1 T N.length (false, k) = N.length := by
            unfold smp1
            simp only [Bool.false_eq_true, if_false]
            rw [if_neg (by omega)]
          have e2 : gr1 T (false, k) = -1 := by unfold gr1; simp
          rw [e1, e2]
          have := smp_ge (t := T) S N.length
          constructor
          · rintro ⟨M, z⟩; cases z
          · intro; omega
        · cases h
/-- the least length that is enough -/
def needL (L : List Int) : Int := L.getLastD 0
theorem needL_iff {L : List Int} (h : Asc L) (p : Pos L) {n : Int} (n0 : 0 ≤ n) : needL L ≤ n ↔ ∀ x ∈ L, x ≤ n := by
  unfold needL
  cases hL : L.getLast? with
  | none =>
    rw [List.getLast?_eq_none_iff] at hL
    subst hL
    simp
    exact n0
  | some x =>
    have e : L.getLastD 0 = x := by rw [List.getLastD_eq_getLast?, hL]; rfl
    rw [e]
    obtain ⟨M, rfl⟩ := List.getLast?_eq_some_iff.mp hL
    constructor
    · intro hx y hy
      rcases List.mem_append.mp hy with hy | hy
      · have := (List.pairwise_append.mp h).2.2 y hy x (List.mem_singleton.mpr rfl); omega
      · rw [List.mem_singleton.mp hy]; exact hx
    · intro hall; exact hall x (List.mem_append.mpr (.inr (List.mem_singleton.mpr rfl)))
theorem needL_nn {L : List Int} (p : Pos L) : 0 ≤ needL L := by
  unfold needL
  cases hL : L.getLast? with
  | none => rw [List.getLast?_eq_none_iff] at hL; subst hL; simp
  | some x =>
    have e : L.getLastD 0 = x := by rw [List.getLastD_eq_getLast?, hL]; rfl
    rw [e]
    have := p x (List.mem_of_getLast? hL)
    omega
theorem cnt_full {L : List Int} {n : Int} : cnt L n = L.length ↔ ∀ x ∈ L, x ≤ n := by
  constructor
  · intro e
    induction L with
    | nil => intro x hx; cases hx
    | cons y L ih =>
      rw [cnt_cons, List.length_cons] at e
      have := cnt_le_len L n
      intro x hx
      by_cases c : y ≤ n
      · rw [if_pos c] at e
        rcases List.mem_cons.mp hx with rfl | hx
        · exact c
        · exact ih (by omega) x hx
      · rw [if_neg c] at e
        omega
  · exact cnt_all
theorem run_need {T : Int} {S : List Stp} {N : List Int} {i : Nat} (u : Up N) (g : ∀ s ∈ S, goodS s = true) (tp : Top T S) : (∃ M, runR N i S = .inl M) ↔ needL (tb T S).2 ≤ N.length := by
  have o := tb_ok (t := T) g
  rw [run_ok u g tp, needL_iff o.asc o.pos (Int.natCast_nonneg _), ← cnt_full, ← tb_mp g (Int.natCast_nonneg _), ← tb_gr]
  unfold mp
  constructor <;> intro <;> omega
/-! ### lists by their counts -/
theorem up_ext {L : List Int} : ∀ {M : List Int}, Up L → Up M → (∀ t, cnt L t = cnt M t) → L = M := by
  intro M hL hM e
  have c : ∀ (x : Int) (L : List Int), (L.count x : Int) = cnt L x - cnt L (x - 1) := by
    intro x L
    induction L with
    | nil => rfl
    | cons y L ih =>
      rw [cnt_cons, cnt_cons, List.count_cons]
      by_cases h : y = x
      · subst h
        rw [if_pos (show y ≤ y from Int.le_refl _), if_neg (show ¬ y ≤ y - 1 by omega), if_pos (show (y == y) = true by simp)]
        omega
      · rw [if_neg (show ¬ (y == x) = true by simpa using h)]
        by_cases h2 : y ≤ x
        · rw [if_pos h2, if_pos (show y ≤ x - 1 by omega)]
          omega
        · rw [if_neg h2, if_neg (show ¬ y ≤ x - 1 by omega)]
          omega
  have p : L.Perm M := List.perm_iff_count.mpr fun x => by
    have h1 := c x L
    have h2 := c x M
    rw [e x, e (x - 1)] at h1
    omega
  exact p.eq_of_pairwise (le := (· ≤ ·)) (fun a b _ _ h1 h2 => Int.le_antisymm h1 h2) hL hM
theorem up_split {v : Int} : ∀ {M : List Int}, Up M → (∀ x ∈ M, v ≤ x) → ∃ M', M = List.replicate (cnt M v).toNat v ++ M' ∧ Up M' ∧ ∀ x ∈ M', v < x
  | [], _, _ => ⟨[], rfl, List.Pairwise.nil, fun _ h => by cases h⟩
  | y :: M, u, h => by
    have hy := (List.pairwise_cons.mp u).1
    have hM := (List.pairwise_cons.mp u).2
    have h1 := h y List.mem_cons_self
    by_cases c : y ≤ v
    · have e : y = v := by omega
      subst e
      obtain ⟨M', e1, u1, g1⟩ := up_split hM fun x hx => hy x hx
      refine ⟨M', ?_, u1, g1⟩
      rw [cnt_cons, if_pos (Int.le_refl _)]
      have n0 := cnt_nn M y
      have e2 : (1 + cnt M y).toNat = (cnt M y).toNat + 1 := by omega
      rw [e2, List.replicate_succ, List.cons_append, ← e1]
    · refine ⟨y :: M, ?_, u, fun x hx => ?_⟩
      · have : cnt (y :: M) v = 0 := cnt_zero fun x hx => by
          rcases List.mem_cons.mp hx with rfl | hx
          · omega
          · have := hy x hx; omega
        rw [this]
        rfl
      · rcases List.mem_cons.mp hx with rfl | hx
        · omega
        · have := hy x hx; omega
/-- what spread makes -/
def spr (b : Int) : List (Int × Int) → List Int
  | [] => []
  | (v, f) :: V => List.replicate (f - b).toNat v ++ spr f V
theorem spr_run {V : List Int} : ∀ {M : List Int} {b : Int} {f : Int → Int}, Asc V → Up M → (∀ x ∈ M, x ∈ V) → (∀ v ∈ V, f v = b + cnt M v) → spr b (V.map fun v => (v, f v)) = M := by
  induction V with
  | nil =>
    intro M b f _ _ h _
    cases M with
    | nil => rfl
    | cons x M => exact absurd (h x List.mem_cons_self) (by simp)
  | cons v V ih =>
    intro M b f ha u h hf
    have hv := (List.pairwise_cons.mp ha).1
    have hV := (List.pairwise_cons.mp ha).2
    obtain ⟨M', e, u', g'⟩ := up_split (v := v) u fun x hx => by
      rcases List.mem_cons.mp (h x hx) with rfl | hx
      · exact Int.le_refl _
      · have := hv x hx; omega
    have n0 := cnt_nn M v
    have h1 := hf v List.mem_cons_self
    show List.replicate (f v - b).toNat v ++ spr (f v) (V.map fun v => (v, f v)) = M
    have e1 : (f v - b).toNat = (cnt M v).toNat := by omega
    rw [e1, ih (M := M') hV u' (fun x hx => ?_) (fun w hw => ?_), ← e]
    · have hx2 : x ∈ M := by rw [e]; exact List.mem_append.mpr (.inr hx)
      rcases List.mem_cons.mp (h x hx2) with rfl | h3
      · have := g' x hx; omega
      · exact h3
    · rw [hf w (List.mem_cons_of_mem _ hw), h1]
      have hw2 := hv w hw
      have e2 : cnt M w = cnt M v + cnt M' w := by
        have h3 := congrArg (fun L => cnt L w) e
        simp only [cnt_append] at h3
        rw [h3, cnt_all (L := List.replicate (cnt M v).toNat v) fun x hx => by rw [List.eq_of_mem_replicate hx]; omega, List.length_replicate]
        omega
      omega
theorem spr_len : ∀ (V : List (Int × Int)) (b : Int) (m : Int), b ≤ m → (V.map (·.2)).Pairwise (· ≤ ·) → (∀ p ∈ V, b ≤ p.2 ∧ p.2 ≤ m) → ((spr b V).length : Int) ≤ m - b
  | [], b, m, h, _, _ => by show ((0 : Nat) : Int) ≤ m - b; omega
  | (v, f) :: V, b, m, h, u, k => by
    have hf := k (v, f) List.mem_cons_self
    rw [List.map_cons] at u
    have hu := List.pairwise_cons.mp u
    have := spr_len V f m hf.2 hu.2 fun p hp => ⟨hu.1 p.2 (List.mem_map.mpr ⟨p, hp, rfl⟩), (k p (List.mem_cons_of_mem _ hp)).2⟩
    show ((List.replicate (f - b).toNat v ++ spr f V).length : Int) ≤ m - b
    rw [List.length_append, List.length_replicate]
    simp only at hf
    omega
/-! ### shifted -/
def shf (o : Int) (S : List Stp) : List Stp := S.map fun s => if s.1 = true then (true, s.2 + o) else s
theorem tb_shf (o t : Int) (S : List Stp) : tb (t + o) (shf o S) = tb t S := by
  have : ∀ (S : List Stp) (p : Int × List Int), (shf o S).foldl (tstep (t + o)) p = S.foldl (tstep t) p := by
    intro S
    induction S with
    | nil => intro p; rfl
    | cons s S ih =>
      intro p
      show (shf o S).foldl (tstep (t + o)) (tstep (t + o) p (if s.1 = true then (true, s.2 + o) else s)) = _
      rw [ih, List.foldl_cons]
      congr 1
      obtain ⟨b, k⟩ := s
      unfold tstep
      cases b with
      | true =>
        simp only [if_true]
        by_cases c : k ≤ t
        · rw [if_pos c, if_pos (by omega)]
        · rw [if_neg c, if_neg (by omega)]
      | false => simp
  exact this S _
theorem good_shf {o : Int} {S : List Stp} (g : ∀ s ∈ S, goodS s = true) : ∀ s ∈ shf o S, goodS s = true := by
  intro s hs
  obtain ⟨x, hx, rfl⟩ := List.mem_map.mp hs
  have := g x hx
  split
  · rfl
  · exact this
end Eff
namespace Eff
open Tbl XT
/-- a threshold above all numbers of the steps -/
def topOf (S : List Stp) : Int := S.foldr (fun s m => max s.2 m) 0
theorem top_ge : ∀ {S : List Stp} {s : Stp}, s ∈ S → s.2 ≤ topOf S
  | x :: S, s, h => by
    show s.2 ≤ max x.2 (topOf S)
    rcases List.mem_cons.mp h with rfl | h
    · exact Int.le_max_left _ _
    · exact Int.le_trans (top_ge h) (Int.le_max_right _ _)
theorem top_top (S : List Stp) : Top (topOf S) S := fun x hx => top_ge hx
def need (S : List Stp) : Int := needL (tb (topOf S) S).2
def grow (S : List Stp) : Int := gr (topOf S) S
theorem tb_top {T : Int} {S : List Stp} (h : Top T S) : tb T S = tb (topOf S) S := tb_local fun x hx => by
  have h1 := h x hx
  have h2 := top_top S x hx
  constructor <;> intro <;> omega
theorem gr_top {T : Int} {S : List Stp} (h : Top T S) : gr T S = grow S := by
  unfold grow
  rw [← tb_gr T S, ← tb_gr (topOf S) S, tb_top h]
theorem tbs_last {S : List Stp} {B : List Int} (h : Brk S B) : (tbs S B)[B.length]? = some (tb (topOf S) S) := by
  have h1 := tbs_at h (topOf S)
  have h2 : cnt B (topOf S) = B.length := cnt_all fun x hx => top_top S x ((h.mem x).mp hx)
  rw [h2, Int.toNat_natCast] at h1
  exact h1
theorem need_nn {S : List Stp} (g : ∀ s ∈ S, goodS s = true) : 0 ≤ need S := needL_nn (tb_ok g).pos
theorem run_iff {S : List Stp} {N : List Int} {i : Nat} (u : Up N) (g : ∀ s ∈ S, goodS s = true) : (∃ M, runR N i S = .inl M) ↔ need S ≤ N.length := run_need u g (top_top S)
theorem brk_nil : Brk [] [] := ⟨List.Pairwise.nil, fun x => by simp⟩
/-- the inserted numbers -/
def ins (S : List Stp) : List Int := S.filterMap fun s => if s.1 = true then some s.2 else none
theorem mem_ins {S : List Stp} {x : Int} : x ∈ ins S ↔ (true, x) ∈ S := by
  unfold ins
  rw [List.mem_filterMap]
  constructor
  · rintro ⟨⟨b, k⟩, h, e⟩
    cases b with
    | true => simp at e; subst e; exact h
    | false => simp at e
  · intro h
    exact ⟨(true, x), h, by simp⟩
theorem ins_len (S : List Stp) : (ins S).length ≤ S.length := List.length_filterMap_le _ _
theorem all_eq_iff {S M : List Stp} {B : List Int} : ((List.range (tbs S B).length).all fun i => decide ((tbs S B)[i]? = (tbs M B)[i]?)) = true ↔ tbs S B = tbs M B := by
  rw [List.all_eq_true]
  constructor
  · intro h
    apply List.ext_getElem?
    intro i
    by_cases hi : i < (tbs S B).length
    · exact of_decide_eq_true (h i (List.mem_range.mpr hi))
    · rw [List.getElem?_eq_none (by omega), List.getElem?_eq_none (by rw [tbs_len] at hi ⊢; omega)]
  · intro e i _
    rw [e]
    exact decide_eq_true rfl
end Eff

namespace XT
open PySem PySem.SeqAt
open AutoSeq1 (wpAny_loadPart')
open MeetsSeq MeetsSeq2 MeetsSeq3 SeqRoads2
section
variable {prog : Program} {w : World} {A : Around} {R : Result → Shared → Prop}
/-- == of two tuples of one length, pair by pair, whatever a pair answers -/
theorem tup_eqB (l b : Addr) (xs ys : Array Value) (n m : Nat) (d1 d2 : Option Addr) (s1 s2 : Array (Option Value)) (hsz : xs.size = ys.size) (I : Shared → Prop) (e : Nat → Bool)
    (turn : ∀ i (h1 : i < xs.size) (h2 : i < ys.size) s, I s → wpAny (model prog w) A.in1 (eqBool xs[i] ys[i]) (fun r s' => r = e i ∧ I s') (fun x s' => R (.error x) s') s)
    (fin : ∀ s, I s → R (.ok (.ret (.bool ((List.range xs.size).all e)))) s) {s : Shared} (hl : s.heap.get? l = some { cls := .type "tuple", dict := d1, data := .seq xs n, slots := s1 })
    (hb : s.heap.get? b = some { cls := .type "tuple", dict := d2, data := .seq ys m, slots := s2 }) (h : I s) :
    wpAny (model prog w) A.in1 (Builtin.«tuple.__eq__» ⟨[.ref l, .ref b], []⟩) (GQ.FinOf prog w A R) (fun x s' => R (.error x) s') s := by
  have f2 := AutoSeq1.sub_tuple_tuple
  have hZ : (xs.toList.zip ys.toList).length = xs.size := by simp [hsz]
  have hI0 := h
  obtain ⟨hp, g, d, tk, os⟩ := s
  wp_walk using wpAny_loadPart' hl, wpAny_loadPart' hb, wpAny_forIn_list _ (fun rest b s' => b.1 = none ∧ ∃ i, rest = (xs.toList.zip ys.toList).drop i ∧ i ≤ xs.size ∧ (∀ j, j < i → e j = true) ∧ I s') _
  case turn =>
    rintro ⟨y, x⟩ rest b s' ⟨hb', i, hz, hi, hj, hI⟩
    have hlt : i < (xs.toList.zip ys.toList).length := by
      refine Nat.lt_of_not_le fun h' => ?_
      rw [List.drop_of_length_le h'] at hz
      cases hz
    have h1 : i < xs.size := by omega
    have h2 : i < ys.size := by omega
    rw [List.drop_eq_getElem_cons hlt] at hz
    injection hz with hyx hrest
    have hy : y = xs[i] := by have := congrArg Prod.fst hyx; simpa using this
    have hx : x = ys[i] := by have := congrArg Prod.snd hyx; simpa using this
    subst hy hx
    refine wpAny_bind (wpAny_mono (turn i h1 h2 s' hI) (fun r s2 q => ?_) fun _ _ z => z)
    obtain ⟨hr, q2⟩ := q
    subst hr
    cases he : e i with
    | true =>
      wp_walk
      refine ⟨rfl, i + 1, hrest, h1, fun j hj' => ?_, q2⟩
      by_cases c : j = i
      · rw [c]; exact he
      · exact hj j (by omega)
    | false =>
      have hf : ((List.range xs.size).all e) = false := by
        rw [List.all_eq_false]
        exact ⟨i, List.mem_range.mpr h1, by rw [he]; decide⟩
      have hR := fin s2 q2
      rw [hf] at hR
      wp_walk
      exact hR
  case fin =>
    rintro ⟨b1, b2⟩ s' ⟨hb', i, hz, hi, hj, hI⟩
    simp only at hb'
    subst hb'
    have hge : xs.size ≤ i := by
      refine Nat.le_of_not_lt fun h' => ?_
      rw [List.drop_eq_getElem_cons (by omega)] at hz
      cases hz
    have ha : ((List.range xs.size).all e) = true := by
      rw [List.all_eq_true]
      intro j hj'
      exact hj j (by have := List.mem_range.mp hj'; omega)
    have hR := fin s' hI
    rw [ha] at hR
    wp_walk
    simpa [Builtin.Tuple.tupleCompareSizes, hsz] using hR
  case h =>
    exact ⟨rfl, 0, rfl, Nat.zero_le _, (fun j hj => by omega), hI0⟩
end
section
variable {prog : Program} {w : World} {A : Around} {E : Value → Shared → Prop} {s : Shared}
theorem rc_tupB {l b : Addr} {xs ys : Array Value} {Q : Value → Shared → Prop} (hsz : xs.size = ys.size) (hu : A.units < cLine) (I : Shared → Prop) (e : Nat → Bool) (hl : s.heap.IsTuple l xs) (hb : s.heap.IsTuple b ys)
    (turn : ∀ i (h1 : i < xs.size) (h2 : i < ys.size) s, I s → wpAny (model prog w) A.in1 (eqBool xs[i] ys[i]) (fun r s' => r = e i ∧ I s') E s)
    (fin : ∀ s, I s → Q (.bool ((List.range xs.size).all e)) s) (h : I s) : wpAny (model prog w) A (richCompare .Eq (.ref l) (.ref b)) Q E s := by
  obtain ⟨⟨c1, d1, w1, k1⟩, ho, hc, n, hd⟩ := id hl
  obtain ⟨⟨c2, d2, w2, k2⟩, ho2, hc2, m, hd2⟩ := id hb
  simp only at hc hd hc2 hd2
  subst hc hd hc2 hd2
  refine wpAny_richCompare_same_room (op := .Eq) ⟨_, ho, rfl⟩ ⟨_, ho2, rfl⟩ F.slot_tuple_eq (GQ.call_here F.slot_tuple_eq ⟨_, ho, rfl⟩ F.entry_tuple_eq (F.args_tuple_eq_2 _ _) ?_) hu
  exact tup_eqB (R := wants (fun v s' => v ≠ .notImplemented ∧ Q v s') E) l b xs ys n m d1 d2 k1 k2 hsz I e turn (fun s' q => ⟨(fun x => nomatch x), fin s' q⟩) ho ho2 h
end
end XT
namespace XT
open PySem PySem.Spec PyProof.Rows L2
/-- how == answers, by the abstract heap -/
abbrev EqvB := V → V → Hp → Bool → Prop
def MonB (D : EqvB) : Prop := ∀ x y H H' b, L2.Ext H H' → D x y H b → D x y H' b
def EqB (X : Cx) (n : Nat) (D : EqvB) : Prop :=
  ∀ (A : Around) (pins : List (Addr × Obj)) (s : Shared) (σ : L2.St) (H : Hp) (x y : V) (u v : Value) (b : Bool), L2.Sub X n A → Inv X pins σ H s → RelV x u → RelV y v → D x y H b →
    wpAny (model X.prog X.w) A (eqBool u v) (fun r s' => r = b ∧ ∃ H', Inv X pins σ H' s' ∧ L2.Ext H H') X.xe s
def RcB (X : Cx) (n : Nat) (D : EqvB) : Prop :=
  ∀ (A : Around) (pins : List (Addr × Obj)) (s : Shared) (σ : L2.St) (H : Hp) (x y : V) (u v : Value) (b : Bool), L2.Sub X n A → Inv X pins σ H s → RelV x u → RelV y v → D x y H b →
    wpAny (model X.prog X.w) A (richCompare .Eq u v) (fun r s' => r = .bool b ∧ ∃ H', Inv X pins σ H' s' ∧ L2.Ext H H') X.xe s
section
variable {X : Cx} {n : Nat} {D : EqvB}
def DTupB (K : PySem.W.Frag) (D : EqvB) : EqvB := fun x y H b => ∃ a c xs ys, ∃ e : Nat → Bool, x = .ref a ∧ y = .ref c ∧ SqT K H a xs ∧ SqT K H c ys ∧ xs.length = ys.length ∧ (∀ (i : Nat) x y, xs[i]? = some x → ys[i]? = some y → D x y H (e i)) ∧ b = (List.range xs.length).all e
theorem rcB_tup (hD : MonB D) (h : EqB X n D) : RcB X (n + 1) (DTupB X.K D) := by
  intro A pins s σ H x y u v b sb I rx ry d
  obtain ⟨a, c, xs, ys, e, rfl, rfl, ha, hb, hlen, hp, rfl⟩ := d
  cases rx
  cases ry
  obtain ⟨its, r, e1, z⟩ := I.tuple ha
  obtain ⟨its2, r2, e2, z2⟩ := I.tuple hb
  have hsz : its.toArray.size = its2.toArray.size := by rw [List.size_toArray, List.size_toArray, ← r.length, ← r2.length]; exact hlen
  refine rc_tupB hsz sb.room.units0 (fun s' => LoopI X pins σ H s') e e1 e2 (fun i h1 h2 s' q => ?_) (fun s' q => ⟨by rw [List.size_toArray, ← r.length], q⟩) ⟨H, I, L2.Ext.rfl'⟩
  obtain ⟨H1, I1, x1⟩ := q
  have h1' : i < its.length := by simpa using h1
  have h2' : i < its2.length := by simpa using h2
  have k1 : i < xs.length := by rw [r.length]; exact h1'
  have k2 : i < ys.length := by rw [← hlen]; exact k1
  obtain ⟨u, hu, ru⟩ := r.get (List.getElem?_eq_getElem k1)
  obtain ⟨v, hv, rv⟩ := r2.get (List.getElem?_eq_getElem k2)
  have g1 : u = its.toArray[i] := by
    rw [List.getElem?_eq_getElem h1'] at hu
    simpa using (Option.some.inj hu).symm
  have g2 : v = its2.toArray[i] := by
    rw [List.getElem?_eq_getElem h2'] at hv
    simpa using (Option.some.inj hv).symm
  subst g1 g2
  refine wpAny_mono (h A.in1 pins s' σ H1 _ _ _ _ (e i) sb.in1 I1 ru rv (hD _ _ _ _ _ x1 (hp i _ _ (List.getElem?_eq_getElem k1) (List.getElem?_eq_getElem k2)))) (fun r s2 q => ?_) fun _ _ z => z
  obtain ⟨hr, H2, I2, x2⟩ := q
  exact ⟨hr, H2, I2, x1.trans x2⟩
theorem RcB.eqB (h : RcB X n D) (hr : ∀ x y H b, D x y H b → ∃ a c, x = .ref a ∧ y = .ref c) (hid : ∀ pins s σ H a b, Inv X pins σ H s → D (.ref a) (.ref a) H b → b = true) : EqB X n D := by
  intro A pins s σ H x y u v b sb I rx ry d
  obtain ⟨a, c, rfl, rfl⟩ := hr _ _ _ _ d
  cases rx
  cases ry
  by_cases hab : a = c
  · subst hab
    rw [hid _ _ _ _ _ _ I d]
    exact SeqAt.EqAt.same (A := A) (s := s) (.ref a) X.prog X.w X.xe _ ⟨rfl, H, I, L2.Ext.rfl'⟩
  · refine GQ.eqBool_refG hab (wpAny_mono (h A pins s σ H (.ref a) (.ref c) _ _ b sb I rfl rfl d) (fun r s' q => ?_) fun _ _ z => z)
    obtain ⟨hr', q⟩ := q
    exact ⟨b, hr', rfl, q⟩
theorem seqT_inj {pins : List (Addr × Obj)} {s : Shared} {σ : L2.St} {H : Hp} {a : Addr} {L M : List Int} (I : Inv X pins σ H s) (h : SqT X.K H a (L.map V.int)) (k : SqT X.K H a (M.map V.int)) : L = M := by
  obtain ⟨its, r, e, _⟩ := I.tuple h
  obtain ⟨its2, r2, e2, _⟩ := I.tuple k
  obtain ⟨o, ho, _, n, hd⟩ := e
  obtain ⟨o2, ho2, _, n2, hd2⟩ := e2
  have eo : o = o2 := Option.some.inj (ho.symm.trans ho2)
  subst eo
  rw [hd] at hd2
  have ei : its = its2 := by
    injection hd2 with q _
    simpa using q
  subst ei
  rw [← SrtO.iv_ints r.ints, ← SrtO.iv_ints r2.ints]
/-- by an own __eq__ -/
theorem rcB_own {CX : CXT} {C f : Addr} {sp : Sp} {E : XK} (F : FnR X.prog X.w X.K X.mg X.base CX n f sp) (hs : PySem.W.findIn X.K (.ref C) "__eq__" = some (some (.ref f))) (hf : PySem.W.isFn X.K (.ref f) = true) (hx : Passes CX X E)
    (hD : ∀ x y H b, D x y H b → ∃ a c, x = .ref a ∧ y = .ref c ∧ InsA H a C ∧ InsA H c C ∧ sp [x, y] H (fun z H' => z = .bl b ∧ L2.Ext H H') E) : RcB X n D := by
  intro A pins s σ H x y u v b sb I rx ry d
  obtain ⟨a, c, rfl, rfl, ha, hc, hsp⟩ := hD _ _ _ _ d
  cases rx
  cases ry
  obtain ⟨ox, od, J⟩ := insA_at I ha
  obtain ⟨oy, oe, J'⟩ := insA_at I hc
  obtain ⟨m, hF⟩ := I.fr
  refine PySem.W.cmp_K (op := .Eq) (tb := .ref C) sb.room.units0 hF I.ok.mod.kin J J'.type (by simp [PySem.W.notFirst]) hs hf ?_
  have e0 : Env0 X.prog X.w X.K X.mg X.base A X.stack s H := by
    have e := I.env0
    exact ⟨by rw [sb.fr]; exact e.frames, e.mod, e.bs, e.bsz, e.funs, e.frf, e.hok, e.bare⟩
  refine wpAny_mono (wpAny_call (SlX.run_at (us := [.ref a, .ref c]) (ws := [.ref a, .ref c]) F sb.room e0 hx I (.cons rfl (.cons rfl .nil)) hsp)) (fun w s' z => ?_) fun _ _ x => x
  obtain ⟨z', H', I', rz, ez, ex⟩ := z
  subst ez
  cases (show w = Value.bool b from rz)
  exact ⟨rfl, H', I', ex⟩
/-- x == y as an expression -/
def rEqB (D : EqvB) : R2 := fun x y H Q => ∃ b, D x y H b ∧ ∀ H', L2.Ext H H' → Q (.bl b) H'
theorem op_eqB (h : RcB X n D) (hr : Room n X.A) : OpR X (compareOp .Eq) (rEqB D) := by
  intro pins s σ H x y v u Q I rx ry hq
  obtain ⟨b, d, q⟩ := hq
  show wpAny (model X.prog X.w) X.A (richCompare .Eq v u) (EP X pins σ Q) X.xe s
  refine wpAny_mono (h X.A pins s σ H x y v u b ⟨hr, rfl⟩ I rx ry d) (fun r s' z => ?_) fun _ _ x => x
  obtain ⟨hr', H', I', e⟩ := z
  subst hr'
  exact ⟨.bl b, H', I', rfl, q H' e⟩
end
end XT

namespace XT
open PySem PySem.SeqAt
open AutoSeq1 (wpAny_loadPart')
open MeetsSeq MeetsSeq2 MeetsSeq3 SeqRoads2
section
variable {prog : Program} {w : World} {A : Around} {R : Result → Shared → Prop}
/-- at each turn the two lists are read anew -/
def LstB (prog : Program) (w : World) (A : Around) (E : Value → Shared → Prop) (l b : Addr) (N : Nat) (I : Shared → Prop) (e : Nat → Bool) : Prop :=
  ∀ s, I s → ∃ (xs ys : Array Value) (n m : Nat), s.heap.get? l = some { cls := .type "list", data := .seq xs n } ∧ s.heap.get? b = some { cls := .type "list", data := .seq ys m } ∧ xs.size = N ∧ ys.size = N ∧
    ∀ i (h1 : i < xs.size) (h2 : i < ys.size), wpAny (model prog w) A.in1 (eqBool xs[i] ys[i]) (fun r s' => r = e i ∧ I s') E s
theorem loopEqB (l b : Addr) (N : Nat) (I : Shared → Prop) (e : Nat → Bool) (hl : LstB prog w A (fun x s' => R (.error x) s') l b N I e) (fin : ∀ s, I s → R (.ok (.ret (.bool (((List.range N).all e))))) s) (k : Nat) :
    ∀ i : Nat, N - i = k → i ≤ N → (∀ j, j < i → e j = true) → ∀ s, I s →
      wpAny (model prog w) A.in1 (Builtin.«list.__eq__.loop» ⟨[.ref l, .ref b, rawInt i, rawInt 2], []⟩) (GQ.FinOf prog w A R) (fun x s' => R (.error x) s') s := by
  induction k with
  | zero =>
    intro i hk hi hj s h
    obtain ⟨xs, ys, n, m, g1, g2, z1, z2, _⟩ := hl _ h
    have ha : ((List.range N).all e) = true := by
      rw [List.all_eq_true]
      intro j hj'
      exact hj j (by have := List.mem_range.mp hj'; omega)
    have hR := fin s h
    rw [ha] at hR
    obtain ⟨hp, g, d, tk, os⟩ := s
    wp_walk using wpAny_loadPart' g1, wpAny_loadPart' g2
    have q1 : xs[((i : Nat) : Int).toNat]? = none := by simp; omega
    have q2 : ys[((i : Nat) : Int).toNat]? = none := by simp; omega
    rw [q1, q2]
    wp_walk using wpAny_loadPart' g1, wpAny_loadPart' g2
    show R (.ok (.ret (.bool (xs.size == ys.size)))) _
    rw [z1, z2]
    simpa using hR
  | succ k ih =>
    intro i hk hi hj s h
    obtain ⟨xs, ys, n, m, g1, g2, z1, z2, turn⟩ := hl _ h
    have l1 : i < xs.size := by omega
    have l2 : i < ys.size := by omega
    have ht := turn i l1 l2
    obtain ⟨hp, g, d, tk, os⟩ := s
    wp_walk using wpAny_loadPart' g1, wpAny_loadPart' g2
    have q1 : xs[((i : Nat) : Int).toNat]? = some xs[i] := by simp [l1]
    have q2 : ys[((i : Nat) : Int).toNat]? = some ys[i] := by simp [l2]
    have qc : ((i : Int) + 1) = ((i + 1 : Nat) : Int) := by omega
    rw [q1, q2]
    refine wpAny_bind (wpAny_mono ht (fun r s2 h2 => ?_) fun _ _ z => z)
    obtain ⟨hr, h2⟩ := h2
    subst hr
    cases he : e i with
    | true =>
      have hrec := ih (i + 1) (by omega) (by omega) (fun j hj' => by
        by_cases c : j = i
        · rw [c]; exact he
        · exact hj j (by omega)) s2 h2
      obtain ⟨hp2, g2', d2, tk2, os2⟩ := s2
      wp_walk
      rw [qc]
      exact ⟨plainId_quiet plain_eq_loop _, codeAny_builtin entry_eq_loop (by rw [Around.under_plainId plain_eq_loop _]; exact hrec)⟩
    | false =>
      have hf : ((List.range N).all e) = false := by
        rw [List.all_eq_false]
        exact ⟨i, List.mem_range.mpr (by omega), by rw [he]; decide⟩
      obtain ⟨xs', ys', n', m', g1', g2', z1', z2', _⟩ := hl _ h2
      have hR := fin s2 h2
      rw [hf] at hR
      have l1' : i < xs'.size := by omega
      have l2' : i < ys'.size := by omega
      obtain ⟨hp2, gg2, d2, tk2, os2⟩ := s2
      wp_walk using wpAny_loadPart' g1', wpAny_loadPart' g2'
      have q1' : xs'[((i : Nat) : Int).toNat]? = some xs'[i] := by simp [l1']
      have q2' : ys'[((i : Nat) : Int).toNat]? = some ys'[i] := by simp [l2']
      rw [q1', q2']
      wp_walk
      simpa using hR
theorem lstEqB (l b : Addr) (N : Nat) (I : Shared → Prop) (e : Nat → Bool) (hl : LstB prog w A (fun x s' => R (.error x) s') l b N I e) (fin : ∀ s, I s → R (.ok (.ret (.bool (((List.range N).all e))))) s) {s : Shared} (h : I s) :
    wpAny (model prog w) A.in1 (Builtin.«list.__eq__» ⟨[.ref l, .ref b], []⟩) (GQ.FinOf prog w A R) (fun x s' => R (.error x) s') s := by
  obtain ⟨xs, ys, n, m, g1, g2, z1, z2, _⟩ := hl _ h
  have hrec := loopEqB (A := A) (R := R) l b N I e hl fin _ 0 rfl (Nat.zero_le _) (fun j hj => by omega) s h
  obtain ⟨hp, g, d, tk, os⟩ := s
  have f3 := AutoSeq1.sub_list_list
  have hne : ¬ (xs.size != ys.size) = true := by simp [z1, z2]
  wp_walk using wpAny_loadPart' g1, wpAny_loadPart' g2
  exact ⟨plainId_quiet plain_eq_loop _, codeAny_builtin entry_eq_loop (by rw [Around.under_plainId plain_eq_loop _]; exact hrec)⟩
theorem loopNeB (l b : Addr) (N : Nat) (I : Shared → Prop) (e : Nat → Bool) (hl : LstB prog w A (fun x s' => R (.error x) s') l b N I e) (fin : ∀ s, I s → R (.ok (.ret (.bool (!((List.range N).all e))))) s) (k : Nat) :
    ∀ i : Nat, N - i = k → i ≤ N → (∀ j, j < i → e j = true) → ∀ s, I s →
      wpAny (model prog w) A.in1 (Builtin.«list.__eq__.loop» ⟨[.ref l, .ref b, rawInt i, rawInt 3], []⟩) (GQ.FinOf prog w A R) (fun x s' => R (.error x) s') s := by
  induction k with
  | zero =>
    intro i hk hi hj s h
    obtain ⟨xs, ys, n, m, g1, g2, z1, z2, _⟩ := hl _ h
    have ha : ((List.range N).all e) = true := by
      rw [List.all_eq_true]
      intro j hj'
      exact hj j (by have := List.mem_range.mp hj'; omega)
    have hR := fin s h
    rw [ha] at hR
    obtain ⟨hp, g, d, tk, os⟩ := s
    wp_walk using wpAny_loadPart' g1, wpAny_loadPart' g2
    have q1 : xs[((i : Nat) : Int).toNat]? = none := by simp; omega
    have q2 : ys[((i : Nat) : Int).toNat]? = none := by simp; omega
    rw [q1, q2]
    wp_walk using wpAny_loadPart' g1, wpAny_loadPart' g2
    show R (.ok (.ret (.bool (xs.size != ys.size)))) _
    rw [z1, z2]
    simpa using hR
  | succ k ih =>
    intro i hk hi hj s h
    obtain ⟨xs, ys, n, m, g1, g2, z1, z2, turn⟩ := hl _ h
    have l1 : i < xs.size := by omega
    have l2 : i < ys.size := by omega
    have ht := turn i l1 l2
    obtain ⟨hp, g, d, tk, os⟩ := s
    wp_walk using wpAny_loadPart' g1, wpAny_loadPart' g2
    have q1 : xs[((i : Nat) : Int).toNat]? = some xs[i] := by simp [l1]
    have q2 : ys[((i : Nat) : Int).toNat]? = some ys[i] := by simp [l2]
    have qc : ((i : Int) + 1) = ((i + 1 : Nat) : Int) := by omega
    rw [q1, q2]
    refine wpAny_bind (wpAny_mono ht (fun r s2 h2 => ?_) fun _ _ z => z)
    obtain ⟨hr, h2⟩ := h2
    subst hr
    cases he : e i with
    | true =>
      have hrec := ih (i + 1) (by omega) (by omega) (fun j hj' => by
        by_cases c : j = i
        · rw [c]; exact he
        · exact hj j (by omega)) s2 h2
      obtain ⟨hp2, g2', d2, tk2, os2⟩ := s2
      wp_walk
      rw [qc]
      exact ⟨plainId_quiet plain_eq_loop _, codeAny_builtin entry_eq_loop (by rw [Around.under_plainId plain_eq_loop _]; exact hrec)⟩
    | false =>
      have hf : ((List.range N).all e) = false := by
        rw [List.all_eq_false]
        exact ⟨i, List.mem_range.mpr (by omega), by rw [he]; decide⟩
      obtain ⟨xs', ys', n', m', g1', g2', z1', z2', _⟩ := hl _ h2
      have hR := fin s2 h2
      rw [hf] at hR
      have l1' : i < xs'.size := by omega
      have l2' : i < ys'.size := by omega
      obtain ⟨hp2, gg2, d2, tk2, os2⟩ := s2
      wp_walk using wpAny_loadPart' g1', wpAny_loadPart' g2'
      have q1' : xs'[((i : Nat) : Int).toNat]? = some xs'[i] := by simp [l1']
      have q2' : ys'[((i : Nat) : Int).toNat]? = some ys'[i] := by simp [l2']
      rw [q1', q2']
      wp_walk
      simpa using hR
theorem lstNeB (l b : Addr) (N : Nat) (I : Shared → Prop) (e : Nat → Bool) (hl : LstB prog w A (fun x s' => R (.error x) s') l b N I e) (fin : ∀ s, I s → R (.ok (.ret (.bool (!((List.range N).all e))))) s) {s : Shared} (h : I s) :
    wpAny (model prog w) A.in1 (Builtin.«list.__ne__» ⟨[.ref l, .ref b], []⟩) (GQ.FinOf prog w A R) (fun x s' => R (.error x) s') s := by
  obtain ⟨xs, ys, n, m, g1, g2, z1, z2, _⟩ := hl _ h
  have hrec := loopNeB (A := A) (R := R) l b N I e hl fin _ 0 rfl (Nat.zero_le _) (fun j hj => by omega) s h
  obtain ⟨hp, g, d, tk, os⟩ := s
  have f3 := AutoSeq1.sub_list_list
  have hne : ¬ (xs.size != ys.size) = true := by simp [z1, z2]
  wp_walk using wpAny_loadPart' g1, wpAny_loadPart' g2
  exact ⟨plainId_quiet plain_eq_loop _, codeAny_builtin entry_eq_loop (by rw [Around.under_plainId plain_eq_loop _]; exact hrec)⟩
theorem tup_neB (l b : Addr) (xs ys : Array Value) (n m : Nat) (d1 d2 : Option Addr) (s1 s2 : Array (Option Value)) (hsz : xs.size = ys.size) (I : Shared → Prop) (e : Nat → Bool)
    (turn : ∀ i (h1 : i < xs.size) (h2 : i < ys.size) s, I s → wpAny (model prog w) A.in1 (eqBool xs[i] ys[i]) (fun r s' => r = e i ∧ I s') (fun x s' => R (.error x) s') s)
    (fin : ∀ s, I s → R (.ok (.ret (.bool (!((List.range xs.size).all e))))) s) {s : Shared} (hl : s.heap.get? l = some { cls := .type "tuple", dict := d1, data := .seq xs n, slots := s1 })
    (hb : s.heap.get? b = some { cls := .type "tuple", dict := d2, data := .seq ys m, slots := s2 }) (h : I s) :
    wpAny (model prog w) A.in1 (Builtin.«tuple.__ne__» ⟨[.ref l, .ref b], []⟩) (GQ.FinOf prog w A R) (fun x s' => R (.error x) s') s := by
  have f2 := AutoSeq1.sub_tuple_tuple
  have hZ : (xs.toList.zip ys.toList).length = xs.size := by simp [hsz]
  have hI0 := h
  obtain ⟨hp, g, d, tk, os⟩ := s
  wp_walk using wpAny_loadPart' hl, wpAny_loadPart' hb, wpAny_forIn_list _ (fun rest b s' => b.1 = none ∧ ∃ i, rest = (xs.toList.zip ys.toList).drop i ∧ i ≤ xs.size ∧ (∀ j, j < i → e j = true) ∧ I s') _
  case turn =>
    rintro ⟨y, x⟩ rest b s' ⟨hb', i, hz, hi, hj, hI⟩
    have hlt : i < (xs.toList.zip ys.toList).length := by
      refine Nat.lt_of_not_le fun h' => ?_
      rw [List.drop_of_length_le h'] at hz
      cases hz
    have h1 : i < xs.size := by omega
    have h2 : i < ys.size := by omega
    rw [List.drop_eq_getElem_cons hlt] at hz
    injection hz with hyx hrest
    have hy : y = xs[i] := by have := congrArg Prod.fst hyx; simpa using this
    have hx : x = ys[i] := by have := congrArg Prod.snd hyx; simpa using this
    subst hy hx
    refine wpAny_bind (wpAny_mono (turn i h1 h2 s' hI) (fun r s2 q => ?_) fun _ _ z => z)
    obtain ⟨hr, q2⟩ := q
    subst hr
    cases he : e i with
    | true =>
      wp_walk
      refine ⟨rfl, i + 1, hrest, h1, fun j hj' => ?_, q2⟩
      by_cases c : j = i
      · rw [c]; exact he
      · exact hj j (by omega)
    | false =>
      have hf : ((List.range xs.size).all e) = false := by
        rw [List.all_eq_false]
        exact ⟨i, List.mem_range.mpr h1, by rw [he]; decide⟩
      have hR := fin s2 q2
      rw [hf] at hR
      wp_walk
      exact hR
  case fin =>
    rintro ⟨b1, b2⟩ s' ⟨hb', i, hz, hi, hj, hI⟩
    simp only at hb'
    subst hb'
    have hge : xs.size ≤ i := by
      refine Nat.le_of_not_lt fun h' => ?_
      rw [List.drop_eq_getElem_cons (by omega)] at hz
      cases hz
    have ha : ((List.range xs.size).all e) = true := by
      rw [List.all_eq_true]
      intro j hj'
      exact hj j (by have := List.mem_range.mp hj'; omega)
    have hR := fin s' hI
    rw [ha] at hR
    wp_walk
    simpa [Builtin.Tuple.tupleCompareSizes, hsz, bne] using hR
  case h =>
    exact ⟨rfl, 0, rfl, Nat.zero_le _, (fun j hj => by omega), hI0⟩
end
section
variable {prog : Program} {w : World} {A : Around} {E : Value → Shared → Prop} {s : Shared}
theorem rc_lstEqB {l b : Addr} {N : Nat} {Q : Value → Shared → Prop} (hu : A.units < cLine) (I : Shared → Prop) (e : Nat → Bool) (hl : LstB prog w A E l b N I e) (fin : ∀ s, I s → Q (.bool (((List.range N).all e))) s) (h : I s) : wpAny (model prog w) A (richCompare .Eq (.ref l) (.ref b)) Q E s := by
  obtain ⟨xs, ys, n, m, g1, g2, _, _, _⟩ := hl _ h
  refine wpAny_richCompare_same_room (op := .Eq) ⟨_, g1, rfl⟩ ⟨_, g2, rfl⟩ F.slot_list_eq (GQ.call_here F.slot_list_eq ⟨_, g1, rfl⟩ F.entry_list_eq (F.args_list_eq_2 _ _) ?_) hu
  exact lstEqB (R := wants (fun v s' => v ≠ .notImplemented ∧ Q v s') E) l b N I e hl (fun s' q => ⟨(fun x => nomatch x), fin s' q⟩) h
theorem rc_lstNeB {l b : Addr} {N : Nat} {Q : Value → Shared → Prop} (hu : A.units < cLine) (I : Shared → Prop) (e : Nat → Bool) (hl : LstB prog w A E l b N I e) (fin : ∀ s, I s → Q (.bool (!((List.range N).all e))) s) (h : I s) : wpAny (model prog w) A (richCompare .NotEq (.ref l) (.ref b)) Q E s := by
  obtain ⟨xs, ys, n, m, g1, g2, _, _, _⟩ := hl _ h
  refine wpAny_richCompare_same_room (op := .NotEq) ⟨_, g1, rfl⟩ ⟨_, g2, rfl⟩ F.slot_list_ne (GQ.call_here F.slot_list_ne ⟨_, g1, rfl⟩ F.entry_list_ne (F.args_list_ne_2 _ _) ?_) hu
  exact lstNeB (R := wants (fun v s' => v ≠ .notImplemented ∧ Q v s') E) l b N I e hl (fun s' q => ⟨(fun x => nomatch x), fin s' q⟩) h
theorem rc_tupNeB {l b : Addr} {xs ys : Array Value} {Q : Value → Shared → Prop} (hsz : xs.size = ys.size) (hu : A.units < cLine) (I : Shared → Prop) (e : Nat → Bool) (hl : s.heap.IsTuple l xs) (hb : s.heap.IsTuple b ys)
    (turn : ∀ i (h1 : i < xs.size) (h2 : i < ys.size) s, I s → wpAny (model prog w) A.in1 (eqBool xs[i] ys[i]) (fun r s' => r = e i ∧ I s') E s)
    (fin : ∀ s, I s → Q (.bool (!((List.range xs.size).all e))) s) (h : I s) : wpAny (model prog w) A (richCompare .NotEq (.ref l) (.ref b)) Q E s := by
  obtain ⟨⟨c1, d1, w1, k1⟩, ho, hc, n, hd⟩ := id hl
  obtain ⟨⟨c2, d2, w2, k2⟩, ho2, hc2, m, hd2⟩ := id hb
  simp only at hc hd hc2 hd2
  subst hc hd hc2 hd2
  refine wpAny_richCompare_same_room (op := .NotEq) ⟨_, ho, rfl⟩ ⟨_, ho2, rfl⟩ F.slot_tuple_ne (GQ.call_here F.slot_tuple_ne ⟨_, ho, rfl⟩ F.entry_tuple_ne (F.args_tuple_ne_2 _ _) ?_) hu
  exact tup_neB (R := wants (fun v s' => v ≠ .notImplemented ∧ Q v s') E) l b xs ys n m d1 d2 k1 k2 hsz I e turn (fun s' q => ⟨(fun x => nomatch x), fin s' q⟩) ho ho2 h
end
end XT
namespace XT
open PySem PySem.Spec PyProof.Rows L2
/-! ### the layer -/
section
variable {X : Cx} {n m : Nat} {D D' : EqvB}
theorem EqB.mono (h : EqB X n D) (hn : n ≤ m) : EqB X m D := fun A pins s σ H x y u v b sb => h A pins s σ H x y u v b (sb.mono hn)
theorem EqB.or (h : EqB X n D) (h' : EqB X n D') : EqB X n (fun x y H b => D x y H b ∨ D' x y H b) := fun A pins s σ H x y u v b sb I rx ry d => by
  rcases d with d | d
  · exact h A pins s σ H x y u v b sb I rx ry d
  · exact h' A pins s σ H x y u v b sb I rx ry d
theorem MonB.or (h : MonB D) (h' : MonB D') : MonB (fun x y H b => D x y H b ∨ D' x y H b) := fun x y H H' b e d => d.elim (fun d => .inl (h x y H H' b e d)) fun d => .inr (h' x y H H' b e d)
def DFlatB : EqvB := fun x y _ b => flatV x = true ∧ flatV y = true ∧ b = eqV x y
theorem monB_flat : MonB DFlatB := fun _ _ _ _ _ _ d => d
theorem eqB_flat : EqB X 0 DFlatB := by
  intro A pins s σ H x y u v b sb I rx ry d
  obtain ⟨fx, fy, rfl⟩ := d
  exact eqAt_V (A := A) (s := s) rx ry fx fy X.prog X.w X.xe _ ⟨rfl, H, I, L2.Ext.rfl'⟩
/-- data at any depth -/
def DDat (K : PySem.W.Frag) : EqvB := fun x y H b => ∃ d e, Dp K H x d ∧ Dp K H y e ∧ SeqAt.shaped d = true ∧ SeqAt.shaped e = true ∧ b = PyData.eqv d e
def DLstB (D : EqvB) : EqvB := fun x y H b => ∃ a c xs ys, ∃ e : Nat → Bool, x = .ref a ∧ y = .ref c ∧ H a = some (.lst xs) ∧ H c = some (.lst ys) ∧ xs.length = ys.length ∧ (∀ (i : Nat) x y, xs[i]? = some x → ys[i]? = some y → D x y H (e i)) ∧ b = (List.range xs.length).all e
theorem turnB (hD : MonB D) (h : EqB X n D) {A : Around} (sb : L2.Sub X (n + 1) A) {pins : List (Addr × Obj)} {σ : L2.St} {H : Hp} {xs ys : List V} {its its2 : List Value} {e : Nat → Bool} (hlen : xs.length = ys.length) (hp : ∀ (i : Nat) x y, xs[i]? = some x → ys[i]? = some y → D x y H (e i)) (r : Vals xs its) (r2 : Vals ys its2)
    (i : Nat) (h1 : i < its.toArray.size) (h2 : i < its2.toArray.size) (s' : Shared) (q : LoopI X pins σ H s') : wpAny (model X.prog X.w) A.in1 (eqBool its.toArray[i] its2.toArray[i]) (fun r s2 => r = e i ∧ LoopI X pins σ H s2) X.xe s' := by
  obtain ⟨H1, I1, x1⟩ := q
  have h1' : i < its.length := by simpa using h1
  have h2' : i < its2.length := by simpa using h2
  have k1 : i < xs.length := by rw [r.length]; exact h1'
  have k2 : i < ys.length := by rw [← hlen]; exact k1
  obtain ⟨u, hu, ru⟩ := r.get (List.getElem?_eq_getElem k1)
  obtain ⟨v, hv, rv⟩ := r2.get (List.getElem?_eq_getElem k2)
  have g1 : u = its.toArray[i] := by
    rw [List.getElem?_eq_getElem h1'] at hu
    simpa using (Option.some.inj hu).symm
  have g2 : v = its2.toArray[i] := by
    rw [List.getElem?_eq_getElem h2'] at hv
    simpa using (Option.some.inj hv).symm
  subst g1 g2
  refine wpAny_mono (h A.in1 pins s' σ H1 _ _ _ _ (e i) sb.in1 I1 ru rv (hD _ _ _ _ _ x1 (hp i _ _ (List.getElem?_eq_getElem k1) (List.getElem?_eq_getElem k2)))) (fun r s2 q => ?_) fun _ _ z => z
  obtain ⟨hr, H2, I2, x2⟩ := q
  exact ⟨hr, H2, I2, x1.trans x2⟩
theorem lstB_of (hD : MonB D) (h : EqB X n D) {A : Around} (sb : L2.Sub X (n + 1) A) {pins : List (Addr × Obj)} {σ : L2.St} {H : Hp} {a c : Addr} {xs ys : List V} {e : Nat → Bool} (ha : H a = some (.lst xs)) (hc : H c = some (.lst ys)) (hlen : xs.length = ys.length)
    (hp : ∀ (i : Nat) x y, xs[i]? = some x → ys[i]? = some y → D x y H (e i)) : LstB X.prog X.w A X.xe a c xs.length (LoopI X pins σ H) e := by
  intro s q
  obtain ⟨H1, I1, x1⟩ := id q
  obtain ⟨z, its, k, r, g1⟩ := I1.hok a _ (x1 _ _ ha)
  obtain ⟨z2, its2, k2, r2, g2⟩ := I1.hok c _ (x1 _ _ hc)
  exact ⟨its.toArray, its2.toArray, k, k2, g1, g2, by rw [List.size_toArray, ← r.length], by rw [List.size_toArray, ← r2.length, ← hlen], fun i h1 h2 => turnB hD h sb hlen hp r r2 i h1 h2 s q⟩
theorem rcB_lst (hD : MonB D) (h : EqB X n D) : RcB X (n + 1) (DLstB D) := by
  intro A pins s σ H x y u v b sb I rx ry d
  obtain ⟨a, c, xs, ys, e, rfl, rfl, ha, hc, hlen, hp, rfl⟩ := d
  cases rx
  cases ry
  exact rc_lstEqB sb.room.units0 (LoopI X pins σ H) e (lstB_of hD h sb ha hc hlen hp) (fun s' q => ⟨rfl, q⟩) ⟨H, I, L2.Ext.rfl'⟩
/-- != -/
def RnB (X : Cx) (n : Nat) (D : EqvB) : Prop :=
  ∀ (A : Around) (pins : List (Addr × Obj)) (s : Shared) (σ : L2.St) (H : Hp) (x y : V) (u v : Value) (b : Bool), L2.Sub X n A → Inv X pins σ H s → RelV x u → RelV y v → D x y H b →
    wpAny (model X.prog X.w) A (richCompare .NotEq u v) (fun r s' => r = .bool (!b) ∧ ∃ H', Inv X pins σ H' s' ∧ L2.Ext H H') X.xe s
theorem rnB_lst (hD : MonB D) (h : EqB X n D) : RnB X (n + 1) (DLstB D) := by
  intro A pins s σ H x y u v b sb I rx ry d
  obtain ⟨a, c, xs, ys, e, rfl, rfl, ha, hc, hlen, hp, rfl⟩ := d
  cases rx
  cases ry
  exact rc_lstNeB sb.room.units0 (LoopI X pins σ H) e (lstB_of hD h sb ha hc hlen hp) (fun s' q => ⟨rfl, q⟩) ⟨H, I, L2.Ext.rfl'⟩
theorem rnB_tup (hD : MonB D) (h : EqB X n D) : RnB X (n + 1) (DTupB X.K D) := by
  intro A pins s σ H x y u v b sb I rx ry d
  obtain ⟨a, c, xs, ys, e, rfl, rfl, ha, hb, hlen, hp, rfl⟩ := d
  cases rx
  cases ry
  obtain ⟨its, r, e1, z⟩ := I.tuple ha
  obtain ⟨its2, r2, e2, z2⟩ := I.tuple hb
  have hsz : its.toArray.size = its2.toArray.size := by rw [List.size_toArray, List.size_toArray, ← r.length, ← r2.length]; exact hlen
  exact rc_tupNeB hsz sb.room.units0 (LoopI X pins σ H) e e1 e2 (fun i h1 h2 s' q => turnB hD h sb hlen hp r r2 i h1 h2 s' q) (fun s' q => ⟨by rw [List.size_toArray, ← r.length], q⟩) ⟨H, I, L2.Ext.rfl'⟩
def rNeB (D : EqvB) : R2 := fun x y H Q => ∃ b, D x y H b ∧ ∀ H', L2.Ext H H' → Q (.bl (!b)) H'
theorem op_neB (h : RnB X n D) (hr : Room n X.A) : OpR X (compareOp .NotEq) (rNeB D) := by
  intro pins s σ H x y v u Q I rx ry hq
  obtain ⟨b, d, q⟩ := hq
  show wpAny (model X.prog X.w) X.A (richCompare .NotEq v u) (EP X pins σ Q) X.xe s
  refine wpAny_mono (h X.A pins s σ H x y v u b ⟨hr, rfl⟩ I rx ry d) (fun r s' z => ?_) fun _ _ x => x
  obtain ⟨hr', H', I', e⟩ := z
  subst hr'
  exact ⟨.bl (!b), H', I', rfl, q H' e⟩
end
end XT

/-! sets of ints out of lists; sorted of them, any number -/
namespace XT
open PySem PySem.Spec PyProof.Rows L2
section
variable {P : Program} {w : World} {A : Around} {E : Value → Shared → Prop} {s : Shared}
/-- a new set's object -/
abbrev nS (w : World) : Obj := { cls := .type "set", dict := none, data := .set #[] 0 (.fresh 0 0 (!w.params.followText "set-order")) }
/-- what set.__init__ leaves -/
def InitS (w : World) (s : Shared) (ns : List Int) (s2 : Shared) : Prop := ∃ (h' : Heap) (tk c : Nat), s2 = { s with heap := h', toks := tk } ∧ SetR w h' s.heap.objs.size (fun j => decide (j ∈ ns)) c ∧ c ≤ ns.length ∧ ∀ b o, s.heap.get? b = some o → h'.get? b = some o
theorem init_list {l : Addr} {its : Array Value} {ns : List Int} (hA : A.handled = none) (hl : s.heap.IsList l its) (hi : IntsAre its.toList ns) (hb : ns.length + 1 < scanBound) :
    codeAny (model P w) A (.call (.builtin "set.__init__") ⟨[.ref s.heap.objs.size, .ref l], []⟩) (wants (fun r s2 => r = .none ∧ InitS w s ns s2) E) { s with heap := s.heap.push (nS w) } := by
  have nit : its.size = ns.length := by have q := IntsAre.length hi; rwa [Array.length_toList] at q
  have gS : (s.heap.push (nS w)).get? s.heap.objs.size = some (nS w) := Heap.get?_push_size _ rfl
  have tS : Shared.TypeIs { s with heap := s.heap.push (nS w) } (.ref s.heap.objs.size) "set" := ⟨_, gS, rfl⟩
  refine codeAny_call_builtin F.called_set.init.plain F.entry_set_init (check_set_init_1 tS ?_)
  obtain ⟨⟨c1, d1, w1, k1⟩, ho, hc, n1, hd⟩ := hl
  simp only at hc hd
  subst hc
  subst hd
  have lS : l < s.heap.objs.size := Heap.lt_size ho
  have gL : (s.heap.push (nS w)).get? l = some { cls := .type "list", dict := d1, data := .seq its n1, slots := k1 } := Heap.get?_push_of_some _ ho
  have f1 := F.sub_list_set
  have f2 := F.sub_list_frozenset
  have f3 : (Value.type "list" == Value.type "dict") = false := by decide
  have iL : (s.heap.push (nS w)).IsList l its := ⟨_, gL, rfl, n1, rfl⟩
  unfold Builtin.«set.__init__» noKeywords Builtin.Frozenset.updateFrom
  generalize hPI : pyIter = PI
  wp_walk
  subst hPI
  refine wpAny_pyIter_list iL (wpAny_bind (wpAny_runValue ?_))
  have zS : (s.heap.push (nS w)).objs.size = s.heap.objs.size + 1 := Heap.size_push ..
  have nIt : l ≠ (s.heap.push (nS w)).objs.size := Nat.ne_of_lt (by rw [zS]; exact Nat.lt_succ_of_lt lS)
  have nfp : s.heap.objs.size ∉ [(s.heap.push (nS w)).objs.size, l] := by
    simp only [List.mem_cons, List.not_mem_nil, or_false, not_or]
    exact ⟨Nat.ne_of_lt (by rw [zS]; exact Nat.lt_succ_self _), Nat.ne_of_gt lS⟩
  have val : ∀ (i : Nat) (v : Value), its[i]? = some v → ∃ k t, ns[i]? = some k ∧ v = .int k t := fun i v hv => by
    have lt : i < ns.length := by rw [← nit]; exact (Array.getElem?_eq_some_iff.mp hv).1
    obtain ⟨t, e⟩ := PyProof.Rows.IntsAre.int_at hi i v (by rw [Array.getElem?_toList]; exact hv)
    exact ⟨ns[i], t, List.getElem?_eq_getElem lt, by rw [e, List.getD_eq_getElem?_getD, List.getElem?_eq_getElem lt] <;> rfl⟩
  refine set_update_ints ((Walks.list (by simp [hA]) _ l nIt its).toS) s.heap.objs.size nfp ns nit hb val (its.size - 0) 0 _ (by omega) (Nat.zero_le _) ⟨⟨_, Heap.get?_push_size _ rfl, rfl, rfl⟩, (iL.push _)⟩
    ⟨0, Nat.le_refl 0, setR_new_at (Heap.get?_push_of_some _ gS)⟩ fun s' c mv hc' R => ?_
  obtain ⟨h', gn, dr, tk, os⟩ := s'
  cases (show gn = s.gens from mv.gens)
  cases (show dr = s.drawn from mv.drawn)
  cases (show os = s.os from mv.os)
  show wpAny _ _ _ _ _ _
  refine wpAny_pure ?_
  show wpAny _ _ (ret Value.none) _ _ _
  rw [nit] at hc'
  refine wpAny_pure ⟨rfl, h', tk, c, rfl, R, hc', fun b o e => ?_⟩
  have lb : b < s.heap.objs.size := Heap.lt_size e
  refine mv.heap b o ?_ (Heap.get?_push_of_some _ (Heap.get?_push_of_some _ e))
  simp only [List.mem_cons, List.not_mem_nil, or_false, not_or]
  exact ⟨Nat.ne_of_lt lb, Nat.ne_of_lt (by rw [zS]; exact Nat.lt_succ_of_lt lb)⟩
theorem call_setL {l : Addr} {its : Array Value} {ns : List Int} {Q : Value → Shared → Prop} (hA : A.handled = none) (hl : s.heap.IsList l its) (hi : IntsAre its.toList ns) (hb : ns.length + 1 < scanBound)
    (h : ∀ (h' : Heap) (tk c : Nat), SetR w h' s.heap.objs.size (fun j => decide (j ∈ ns)) c → c ≤ ns.length → (∀ b o, s.heap.get? b = some o → h'.get? b = some o) → Q (.ref s.heap.objs.size) { s with heap := h', toks := tk }) :
    wpAny (model P w) A (call (.type "set") [.ref l]) Q E s := by
  obtain ⟨c, tl, m1⟩ := F.called_set.mro
  have m2 := F.called_set.made
  have m3 := F.called_set.sub
  have m4 := F.called_set.notType
  have m5 := F.called_set.canCreate
  have m6 := F.typeCall_set_1 (.ref l)
  refine wpAny_call (codeAny_of_tree ?_)
  show wpAny _ _ (callAny (.type "set") _) _ _ _
  refine wpAny_pure ⟨Code.quiet_builtin _ (by decide +kernel), codeAny_builtin F.entry_type_call ?_⟩
  rw [Around.under_plain (weight_type_call_type "set" [.ref l] []) rfl]
  repeat (any_goals (first | assumption | wp_step))
  refine codeAny_mono (code_set_led1 (.ref l) (E := E) (Q₁ := fun obj s1 => obj = .ref s.heap.objs.size ∧ s1 = { s with heap := s.heap.push (nS w) }) ⟨rfl, rfl⟩) fun r s1 hr => ?_
  match r, hr with
  | .error e, hr => exact hr
  | .ok (.ret obj), hr =>
    obtain ⟨rfl, rfl⟩ := hr
    have gS : (s.heap.push (nS w)).get? s.heap.objs.size = some (nS w) := Heap.get?_push_size _ rfl
    have tS : Shared.TypeIs { s with heap := s.heap.push (nS w) } (.ref s.heap.objs.size) "set" := ⟨_, gS, rfl⟩
    have i1 := F.called_set.init.lookup
    have i2 := F.called_set.init.bind (.ref s.heap.objs.size)
    repeat (any_goals (first | assumption | wp_step))
    refine codeAny_mono (init_list (E := E) (by simpa using hA) hl hi hb) fun r2 s2 hr2 => ?_
    match r2, hr2 with
    | .error e, hr2 => exact hr2
    | .ok (.ret r), hr2 =>
      obtain ⟨rfl, h', tk, c', rfl, R, hc, hk⟩ := hr2
      repeat (any_goals (first | assumption | wp_step))
      exact h _ _ _ R hc hk
    | .ok .next, hr2 => exact False.elim hr2
    | .ok .brk, hr2 => exact False.elim hr2
    | .ok .cont, hr2 => exact False.elim hr2
  | .ok .next, hr => exact False.elim hr
  | .ok .brk, hr => exact False.elim hr
  | .ok .cont, hr => exact False.elim hr
/-- sorted of a set of ints -/
theorem sorted_setA {a : Addr} {S : Int → Bool} {n : Nat} {Q : Value → Shared → Prop} (R : SetR w s.heap a S n) (hA : A.handled = none)
    (hQ : ∀ s' p (out : List Value) (c : Nat) (ns : List Int), (∀ b o, s.heap.get? b = some o → s'.heap.get? b = some o) → s'.gens = s.gens → s'.os = s.os → s.heap.objs.size ≤ p →
      s'.heap.get? p = some (seqObj "list" out.toArray c) → IntsAre out ns → ns.Pairwise (· < ·) → (∀ k, k ∈ ns ↔ S k = true) → ns.length = n → Q (.ref p) s') :
    wpAny (model P w) A (call (.builtin "sorted") [.ref a]) Q E s := by
  obtain ⟨o, es, ep, t, ho, ex, hd, g, nd, hm, hb, hf, hn, hr, hl⟩ := R
  refine Calls.call_function_entry kind_sorted plain_sorted entry_sorted (args_sorted1 _) ?_
  unfold Builtin.«sorted»
  refine wpAny_bind (m := checkCount "sorted" 1 1 _) (wpAny_pure (wpAny_bind ?_))
  refine collect_set (A := A.in1) hA ⟨o, ho, ex.1, hd⟩ hf hb hr hl fun s1 vs k1 hz g1 o1 pm => ?_
  have nv : vs.length = n := by rw [pm.length_eq, List.length_map, Array.length_toList]; exact hn
  have iI : IntsAre vs (vs.map SrtO.iv) := SrtO.ints_iv fun v hv => by
    obtain ⟨e, he, q⟩ := List.mem_map.mp (pm.mem_iff.mp hv)
    obtain ⟨k, tk, h1, _⟩ := g e he
    exact ⟨k, tk, by rw [← q]; exact h1⟩
  have pk : (vs.map SrtO.iv).Perm (es.toList.map keyOf) := by
    have q := pm.map SrtO.iv
    rw [List.map_map] at q
    have e : es.toList.map (SrtO.iv ∘ (·.2)) = es.toList.map keyOf := List.map_congr_left fun x hx => by
      obtain ⟨k, tk, h1, _⟩ := g x hx
      show SrtO.iv x.2 = keyOf x
      unfold keyOf
      rw [h1]
      rfl
    rw [← e]
    exact q
  have sz : vs.length ≤ sizeLine := by rw [nv, ← hn, sizeLine_eq]; unfold scanBound at hb; omega
  refine wpAny_bind (wpAny_newList ?_ sz)
  have oL : (s1.heap.push (seqObj "list" vs.toArray 0)).get? s1.heap.objs.size = some (seqObj "list" vs.toArray 0) := Heap.get?_push_size _ rfl
  refine wpAny_bind (wpAny_holding (wpAny_call_entry slot_list_sort ⟨_, oL, rfl⟩ entry_list_sort
    (SrtO.list_sort_ord SrtO.swo_int oL sz (fun h2 => SrtO.ints_sortable iI h2) fun out h1 h2 => ⟨_, rfl, ?_⟩) (args_list_sort _)))
  obtain ⟨q1, q2, q3⟩ := SrtO.ints_out iI h1 h2
  obtain ⟨c, hc⟩ := sortedHeap_at (vs := vs) (out := out.toArray) oL
  have pn : (out.map SrtO.iv).Perm (es.toList.map keyOf) := q2.trans pk
  refine wpAny_pure ⟨_, rfl, hQ _ s1.heap.objs.size out c (out.map SrtO.iv) (fun b u e => ?_) g1 o1 hz hc q1 (lt_of_le_nodup _ q3 (pn.nodup_iff.mpr nd)) (fun k => by rw [pn.mem_iff, ← hm k]) ?_⟩
  · have q := k1 b u e
    have lt := Heap.lt_size q
    show (sortedHeap (s1.heap.push (seqObj "list" vs.toArray 0)) s1.heap.objs.size vs out.toArray).get? b = some u
    rw [sortedHeap_old (Nat.ne_of_lt lt) (by rw [size_push']; exact Nat.lt_succ_of_lt lt)]
    exact Heap.get?_push_of_some _ q
  · rw [pn.length_eq, List.length_map, Array.length_toList]; exact hn
end
end XT

namespace XT
open PySem PySem.Spec PyProof.Rows L2
/-! ### set(xs), sorted(set(xs)) -/
section
variable {X : Cx}
def rSetL (K : PySem.W.Frag) (w : World) : List V → Hp → VK → Prop := fun xs H Q => ∃ (l : Addr) (ns : List Int), xs = [V.ref l] ∧ SqL K H l (ns.map V.int) ∧ ns.length ≤ 4000 ∧
  ∀ (p : Addr) (n : Nat), H p = Option.none → n ≤ ns.length → Q (.ref p) (upd H p (SetO w p (fun j => decide (j ∈ ns)) n))
theorem setLK (K : PySem.W.Frag) (w : World) (hc : X.calm = true) (hK : X.K = K := by rfl) (hw : X.w = w := by rfl) : CallR X (.type "set") (rSetL K w) := by
  subst hK
  subst hw
  intro pins s σ H xs us Q I r h
  obtain ⟨l, ns, rfl, hs, hz, q⟩ := h
  rw [Vals.ref1 r]
  obtain ⟨its, rv, hl, _⟩ := I.list hs
  refine call_setL (I.ok.hd hc) hl.isList rv.ints (by unfold scanBound; omega) fun h' tk c R hcn hk => ?_
  exact ⟨.ref _, upd H s.heap.objs.size (SetO X.w s.heap.objs.size (fun j => decide (j ∈ ns)) c), I.laid (t' := tk) hk (Nat.le_refl _) (setO_new R), rfl, q _ _ (I.hok.fresh (Nat.le_refl _)) hcn⟩
def rSortS (w : World) : List V → Hp → VK → Prop := fun vs H Q => ∃ (a : Addr) (S : Int → Bool) (n : Nat), vs = [V.ref a] ∧ H a = some (SetO w a S n) ∧ n ≤ 4000 ∧
  ∀ (ns : List Int) (p : Addr), ns.Pairwise (· < ·) → (∀ k : Int, k ∈ ns ↔ S k = true) → ns.length = n → H p = Option.none → Q (.ref p) (upd H p (.lst (ns.map V.int)))
theorem sortSK (w : World) (hc : X.calm = true) (hw : X.w = w := by rfl) : CallR X (.builtin "sorted") (rSortS w) := by
  subst hw
  intro pins s σ H vs us Q I r h
  obtain ⟨a, S, n, rfl, ha, hz, q⟩ := h
  have R := setO_get I ha
  rw [Vals.ref1 r]
  refine sorted_setA R (I.ok.hd hc) fun s' p out c ns k g o hp hg hi hs hm hl => ?_
  have hlen : (ns.map V.int).length ≤ sizeLine := by rw [List.length_map, hl, sizeLine_eq]; omega
  have hn : H p = Option.none := I.hok.fresh hp
  have J : Inv X pins σ (upd H p (.lst (ns.map V.int))) { s with heap := s'.heap, gens := s'.gens, drawn := s'.drawn, toks := s'.toks } :=
    I.call (ch := []) (Un.laid k hp hn) (I.hok.laid k hp ⟨hlen, out, c, vals_of_ints hi, hg⟩) (by rw [g]; exact I.bare) (fun _ z => nomatch z)
  have e : s' = { s with heap := s'.heap, gens := s'.gens, drawn := s'.drawn, toks := s'.toks } := by
    cases s'
    cases s
    cases o
    rfl
  rw [e]
  exact ⟨.ref p, _, J, rfl, q ns p hs hm hl hn⟩
/-! ### type(x) == C -/
theorem op_eqCls {C : Addr} (ht : PySem.W.typeIn X.K (.ref C) = some (.type "type")) (hu : X.A.units < cLine) : OpR X (compareOp .Eq) (fun x y H Q => x = V.ref C ∧ y = V.ref C ∧ Q (.bl true) H) := by
  intro pins s σ H x y v u Q I rx ry h
  obtain ⟨rfl, rfl, q⟩ := h
  cases rx
  cases ry
  obtain ⟨o, ho, hc⟩ := Option.map_eq_some_iff.mp ht
  have ta : s.TypeIs (.ref C) "type" := ⟨o, I.kIn _ _ ho, hc⟩
  show wpAny _ _ (richCompare .Eq _ _) _ _ _
  refine wpAny_richCompare_same_room (op := .Eq) ta ta TypeEq.slot_type_eq (GQ.call_here TypeEq.slot_type_eq ta PySem.F.cmpEntry_eq (PySem.F.cmpArgs_eq _ _) ?_) hu
  exact objEq_entry_same (M := model X.prog X.w) ⟨(fun z => nomatch z), .bl true, H, I, rfl, q⟩
/-! ### class methods without arguments; C(..) where C is in a slot -/
variable {CX : CXT} {k : Nat} {C p g f : Addr} {mc : Value} {sp : Sp} {E : XK} {o e : Expr} {es : List Expr} {m x : Str} {pos apos : Pos} {ta : TE} {t : TA} {pl : Sem Bool}
theorem pe_cmeth0 (he : PE X o ta) (r : ClX.CRead X.K C mc) (c : ClX.CMet X.K C mc m p g) (F : FnR X.prog X.w X.K X.mg X.base CX k g sp) (hr : Room k X.A) (hx : Passes CX X E)
    (ht : eval (.Call (.Attribute o m apos) [] [] pos) X.env = (do
      let ov ← eval o X.env
      standAt apos.atName
      let (f, first) ← holding [ov] (getMethod ov m pl)
      callWith pos f first (backTo pos (starEach [] X.env)) (backToKw pos (keywordEach [] X.env))) := by rfl) :
    PE X (.Call (.Attribute o m apos) [] [] pos) (ClX.tCMeth C sp E ta tNil) := by
  refine ⟨fun pins s σ H Q I h => ?_⟩
  refine PySem.W.methodCall_KW (pl := pl) (thn (he.run pins s σ H _ I h) fun u s1 ⟨x, H1, I1, rx, ex, q⟩ => ?_) ht
  subst ex
  obtain rfl : u = Value.ref C := rx
  refine ClX.getmethcm_ok I1 r c fun s2 I2 => PySem.W.callWith_M0 (first := []) ⟨ClX.pin_at I2, I2.kIn⟩ c.fi ?_
  exact ClX.run_cm F hr hx I2 .nil q
theorem pe_imeth0 (he : PE X o ta) (c : ClX.CInst X.K C m p g) (F : FnR X.prog X.w X.K X.mg X.base CX k g sp) (hr : Room k X.A) (hx : Passes CX X E)
    (ht : eval (.Call (.Attribute o m apos) [] [] pos) X.env = (do
      let ov ← eval o X.env
      standAt apos.atName
      let (f, first) ← holding [ov] (getMethod ov m pl)
      callWith pos f first (backTo pos (starEach [] X.env)) (backToKw pos (keywordEach [] X.env))) := by rfl) :
    PE X (.Call (.Attribute o m apos) [] [] pos) (ClX.tIMethD C m sp E ta tNil) := by
  refine ⟨fun pins s σ H Q I h => ?_⟩
  refine PySem.W.methodCall_KW (pl := pl) (thn (he.run pins s σ H _ I h) fun u s1 ⟨x, H1, I1, rx, a, dx, fs, ex, ea, l, q⟩ => ?_) ht
  subst ex
  obtain rfl : u = Value.ref a := rx
  obtain ⟨mA, O, rr, _, _, _⟩ := ins_get I1.hok ea
  have hn : mA m = none := RelO.none_of (by rw [← l]; exact rr m)
  obtain ⟨od, J, hl⟩ := O.look
  refine ClX.getmethim_ok I1 J (by rw [hl m, hn]) c fun s2 I2 => PySem.W.callWith_M0 (first := []) ⟨ClX.pin_at I2, I2.kIn⟩ c.fi ?_
  exact ClX.run_cm F hr hx I2 .nil q
def tMakeL (i : Nat) (C : Addr) (sp : Sp) (E : XK) (t : TA) : TE := fun σ H Q => σ[i]? = some (some (.ref C)) ∧ StX.tMakeR C sp E t σ H Q
theorem pe_makeL {i : Nat} {p : Pos} (M : Mk X.K C f) (F : FnR X.prog X.w X.K X.mg X.base CX k f sp) (hr : Room (k + 1) X.A) (hN : X.N[i]? = some x) (hv : Vis X.env.scope x) (hx : Passes CX X E) (ha : PA X (e :: es) t)
    (hdb : (x == ("__debug__" : Str)) = false := by decide) (hcd : (x == ("__classdict__" : Str)) = false := by decide)
    (he : starEach (e :: es) X.env = (false, eval e X.env) :: starEach es X.env := by rfl) (hpl : (backTo pos (starEach es X.env)).any (·.1) = false := by rfl) : PE X (.Call (.Name x p) (e :: es) [] pos) (tMakeL i C sp E t) := by
  refine ⟨fun pins s σ H Q I h => ?_⟩
  obtain ⟨hs, ht⟩ := h
  refine wpAny_Call_Name_kw (thn ((pe_var (pos := p) hN hv hdb hcd).run pins s σ H (fun v H1 => v = .ref C ∧ H1 = H) I ⟨.ref C, hs, rfl, rfl⟩) fun u s1 ⟨v, H1, I1, r1, q1⟩ => ?_)
  obtain ⟨rfl, rfl⟩ := q1
  cases r1
  refine PySem.W.callWith_K (h₀ := X.base) I.ok.mod.kin M.kp (thn (ha.run pos pins s1 σ _ _ I1 ht) fun us s2 ⟨vs, H2, I2, r, q⟩ => ⟨I2.kIn, ?_⟩) he hpl
  exact StX.run_makeR M F hr hx I2 r q
/-! ### type(x) not in (list, tuple) -/
theorem op_notInTy : OpR X (compareOp .NotIn) (fun x y H Q => ∃ (m : String) (p : Addr) (ns : List String), x = .ty m ∧ y = .ref p ∧ SqT X.K H p (ns.map V.ty) ∧ tyN m = true ∧ (∀ n ∈ ns, tyN n = true) ∧ Q (.bl (!(ns.any fun n => decide (n = m)))) H) := by
  intro pins s σ H x y v u Q I rx ry h
  obtain ⟨m, p, ns, rfl, rfl, hq, hm, hn, q⟩ := h
  cases (show v = Value.type m from rx)
  cases (show u = Value.ref p from ry)
  obtain ⟨its, r, pl, hz⟩ := I.tuple hq
  have key : ∀ (ns : List String) (its : List Value), Vals (ns.map V.ty) its → its = ns.map Value.type := by
    intro ns
    induction ns with
    | nil => intro its r; cases r; rfl
    | cons n ns ih =>
      intro its r
      cases r with
      | cons a t =>
        rw [ih _ t, List.map_cons]
        congr 1
  have e := key ns its r
  subst e
  refine SeqAt.notIn_tupleAt (tyU m) pl (fun w hw => ?_) ⟨.bl _, H, I, rfl, ?_⟩
  · have hw' : w ∈ ns.map Value.type := by simpa using hw
    obtain ⟨n, hmem, rfl⟩ := List.mem_map.mp hw'
    exact eqAt_ty (hn n hmem) hm
  · have e2 : ((ns.map Value.type).toArray.any (tyU m)) = ns.any fun n => decide (n = m) := by
      rw [List.any_toArray, List.any_map]
      rfl
    rw [e2]
    exact q
end
section
variable {X : Cx} (K : PySem.W.Frag)
theorem notInTyK (hK : X.K = K := by rfl) : OpR X (compareOp .NotIn) (fun x y H Q => ∃ (m : String) (p : Addr) (ns : List String), x = .ty m ∧ y = .ref p ∧ SqT K H p (ns.map V.ty) ∧ tyN m = true ∧ (∀ n ∈ ns, tyN n = true) ∧ Q (.bl (!(ns.any fun n => decide (n = m)))) H) := by subst hK; exact op_notInTy
end
/-! ### a comprehension whose items are made anew -/
theorem lcR {J : It} {n : Nat} {P : Nat → V → Hp → Prop} {g : TG} {te : TE} {vs : List Nat} {σ : L2.St} {H1 : Hp} {D : Addr} {Qd : Hp → Prop} (S : StatJ J H1 n P) (hD : H1 D = Option.none) (R : Nat → V → Hp → Prop) (hR : ∀ i y H H', Same H H' → R i y H → R i y H') (hU : ∀ i y H a b, H D = some (.lst a) → R i y H → R i y (upd H D (.lst b))) (hn : n ≤ sizeLine)
    (hs : ∀ i x H (T : V → Hp → Prop), i < n → Same H1 H → P i x H → (∀ y H', Same H H' → R i y H' → T y H') → g x (wipe σ vs) H fun σ2 H2 => wipe σ2 vs = wipe σ vs ∧ te σ2 H2 T)
    (hd : ∀ H acc, Same H1 H → acc.length = n → (∀ i y, acc[i]? = some y → R i y H) → H D = some (.lst acc) → Qd H) :
    ∃ W : Nat → Nat → Hp → Prop, (∃ m, W 0 m (upd H1 D (.lst []))) ∧ ∀ i m H, W i m H →
      (J.stop i H ∧ Qd H) ∨ (J.go i H ∧ ∃ Nx : Hp → Prop, (∀ H', Nx H' → ∃ m', m' < m ∧ W (i + 1) m' H') ∧ ∀ x H', J.yld i H x H' → g x (wipe σ vs) H' fun σ2 H2 => wipe σ2 vs = wipe σ vs ∧ tYes σ2 H2 fun b H3 =>
        if b = true then te σ2 H3 fun y H4 => ∃ acc, H4 D = some (.lst acc) ∧ acc.length < sizeLine ∧ Nx (upd H4 D (.lst (acc ++ [y]))) else Nx H3) := by
  refine ⟨fun i m H => m = n - i ∧ i ≤ n ∧ Same H1 H ∧ ∃ acc, H D = some (.lst acc) ∧ acc.length = i ∧ ∀ j y, acc[j]? = some y → R j y H, ⟨n, by simp, Nat.zero_le _, same_new hD, [], upd_same, rfl, fun j y e => by simp at e⟩, ?_⟩
  rintro i m H ⟨rfl, hi, s, acc, hH, hlen, hacc⟩
  by_cases hlt : i < n
  · refine .inr ⟨S.go i H hlt s, fun H' => Same H1 H' ∧ ∃ acc, H' D = some (.lst acc) ∧ acc.length = i + 1 ∧ ∀ j y, acc[j]? = some y → R j y H', fun H' p => ⟨n - (i + 1), by omega, rfl, hlt, p.1, p.2⟩, fun x H' y => ?_⟩
    obtain ⟨s2, px⟩ := S.yld i H x H' hlt s y
    show g x (wipe σ vs) H' fun σ2 H2 => wipe σ2 vs = wipe σ vs ∧ (if true = true then te σ2 H2 fun y H4 => ∃ acc, H4 D = some (.lst acc) ∧ acc.length < sizeLine ∧ (Same H1 (upd H4 D (.lst (acc ++ [y]))) ∧ ∃ acc', (upd H4 D (.lst (acc ++ [y]))) D = some (.lst acc') ∧ acc'.length = i + 1 ∧ ∀ j y', acc'[j]? = some y' → R j y' (upd H4 D (.lst (acc ++ [y])))) else (Same H1 H2 ∧ ∃ acc', H2 D = some (.lst acc') ∧ acc'.length = i + 1 ∧ ∀ j y', acc'[j]? = some y' → R j y' H2))
    simp only [if_true]
    refine hs i x H' _ hlt (s.trans s2) px fun y H4 s4 ry => ?_
    have h4 : H4 D = some (.lst acc) := s4 _ _ (s2 _ _ hH)
    have s14 : Same H1 H4 := (s.trans s2).trans s4
    have sl : acc.length < sizeLine := by rw [hlen]; exact Nat.lt_of_lt_of_le hlt hn
    refine ⟨acc, h4, sl, same_upd s14 hD, acc ++ [y], upd_same, by rw [List.length_append, hlen]; rfl, fun j y' e => ?_⟩
    refine hU _ _ _ _ _ h4 ?_
    by_cases c : j < acc.length
    · rw [List.getElem?_append_left c] at e
      exact hR _ _ _ _ (s2.trans s4) (hacc j y' e)
    · rw [List.getElem?_append_right (by omega)] at e
      have hj : j - acc.length = 0 := by
        rcases Nat.eq_zero_or_pos (j - acc.length) with z | z
        · exact z
        · rw [List.getElem?_eq_none (by rw [List.length_singleton]; omega)] at e
          cases e
      rw [hj] at e
      have e' : y = y' := by simpa using e
      subst e'
      have : j = i := by omega
      rw [this]
      exact ry
  · have e : i = n := by omega
    subst e
    exact .inl ⟨S.stop H s, hd H acc s hlen hacc hH⟩
end XT

namespace XT
open PySem PySem.Spec PyProof.Rows L2
/-! ### calls in a try whose wishes are told at the caller's slots -/
section
variable {X : Cx} {CX : CXT} {k : Nat} {C f g : Addr} {m x : Str} {sp : Sp} {E : L2.St → XK} {o e fe : Expr} {es : List Expr} {ta tf : TE} {t : TA} {p apos pos : Pos} {pl : Sem Bool}
theorem run_fnRS {pins : List (Addr × Obj)} {σ : L2.St} {H : Hp} {s : Shared} {Q : VK} {E : XK} {us : List Value} {vs : List V} (F : FnR X.prog X.w X.K X.mg X.base CX k f sp) (hr : Room k X.A) (hx : PassesAt CX X σ E) (I : Inv X pins σ H s) (r : Vals vs us) (h : sp vs H Q E) :
    codeAny (model X.prog X.w) X.A (.call (.ref f) ⟨us, []⟩) (fun r s' => match r with | .ok (.ret v) => EP X pins σ Q v s' | .ok _ => False | .error e => X.xe e s') s := by
  refine codeAny_mono (F X.A X.stack s H us vs Q E hr I.env0 r h) fun r s' hq => ?_
  match r, hq with
  | .error e, hq => exact hx pins H s e s' I hq
  | .ok (.ret u), hq => exact I.after hq
def tMthS (C : Addr) (m : Str) (sp : Sp) (E : L2.St → XK) (ta : TE) (t : TA) : TE := fun σ H Q => ta σ H fun x H1 => ∃ a dx fs, x = .ref a ∧ H1 a = some (.ins C dx fs) ∧ fs.lookup m = none ∧ t σ H1 fun vs H2 => sp (.ref a :: vs) H2 Q (E σ)
theorem pe_mthS (he : PE X o ta) (c : Cls X.K C) (hm : Meth X.K C m f) (F : FnR X.prog X.w X.K X.mg X.base CX k f sp) (hr : Room k X.A) (hx : ∀ σ, PassesAt CX X σ (E σ)) (ha : PA X (e :: es) t)
    (hst : starEach (e :: es) X.env = (false, eval e X.env) :: starEach es X.env := by rfl) (hpl : (backTo pos (starEach es X.env)).any (·.1) = false := by rfl)
    (ht : eval (.Call (.Attribute o m apos) (e :: es) [] pos) X.env = (do
      let ov ← eval o X.env
      standAt apos.atName
      let (f, first) ← holding [ov] (getMethod ov m pl)
      callWith pos f first (backTo pos (starEach (e :: es) X.env)) (backToKw pos (keywordEach [] X.env))) := by rfl) :
    PE X (.Call (.Attribute o m apos) (e :: es) [] pos) (tMthS C m sp E ta t) := by
  refine ⟨fun pins s σ H Q I h => ?_⟩
  refine PySem.W.methodCall_KW (pl := pl) (thn (he.run pins s σ H _ I h) fun u s1 ⟨x, H1, I1, rx, a, dx, fs, ex, ea, l, q⟩ => ?_) ht
  subst ex
  obtain rfl : u = Value.ref a := rx
  refine getmeth_ok I1 ea c hm l (PySem.W.callWith_K (first := [.ref a]) (h₀ := X.base) I.ok.mod.kin hm.kp (thn (ha.run pos pins s1 σ H1 _ I1 q) fun us s2 ⟨vs, H2, I2, r, q2⟩ => ⟨I2.kIn, ?_⟩) hst hpl)
  exact wpAny_call (run_fnRS (us := .ref a :: us) (vs := .ref a :: vs) F hr (hx σ) I2 (.cons rfl r) q2)
def tCliS (C : Addr) (sp : Sp) (E : L2.St → XK) (tf : TE) (t : TA) : TE := fun σ H Q => tf σ H fun y H1 => ∃ a, y = V.ref a ∧ t σ H1 fun vs H2 => InsA H2 a C ∧ sp (V.ref a :: vs) H2 Q (E σ)
theorem pe_cliS (hf : PE X fe tf) (c : StX.CallO X.K C g) (F : FnR X.prog X.w X.K X.mg X.base CX k g sp) (hr : Room k X.A) (hx : ∀ σ, PassesAt CX X σ (E σ)) (ha : PA X (e :: es) t)
    (ht : eval (.Call fe (e :: es) [] pos) X.env = (do callWith pos (← eval fe X.env) [] (backTo pos (starEach (e :: es) X.env)) (backToKw pos (keywordEach [] X.env))) := by rfl)
    (he : starEach (e :: es) X.env = (false, eval e X.env) :: starEach es X.env := by rfl) (hpl : (backTo pos (starEach es X.env)).any (·.1) = false := by rfl) : PE X (.Call fe (e :: es) [] pos) (tCliS C sp E tf t) := by
  refine ⟨fun pins s σ H Q I h => ?_⟩
  refine Call_ (thn (hf.run pins s σ H _ I h) fun u s1 ⟨y, H1, I1, ry, a, ey, q⟩ => ?_) ht
  subst ey
  obtain rfl : u = Value.ref a := ry
  refine StX.callO_with (thn (ha.run pos pins s1 σ H1 _ I1 q) fun us s2 ⟨vs, H2, I2, r, hi, q2⟩ => ?_) he hpl
  have hi' : StX.InsC X H2 a C := let ⟨dx, fs, h⟩ := hi; .inr ⟨dx, fs, h⟩
  obtain ⟨ox, od, J, hd⟩ := StX.insC_at I2 hi'
  exact ⟨⟨C, ox, od, J, hd⟩, wpAny_call (PySem.W.kco_code I2.kIn J hd c.at_ c.fn c.fi (run_fnRS (us := .ref a :: us) (vs := .ref a :: vs) F hr (hx σ) I2 (.cons rfl r) q2))⟩
/-- f(e, ..), f a global def -/
def tClrS (sp : Sp) (E : L2.St → XK) (t : TA) : TE := fun σ H Q => t σ H fun vs H1 => sp vs H1 Q (E σ)
theorem pe_clrS (F : FnR X.prog X.w X.K X.mg X.base CX k f sp) (hr : Room k X.A) (hg : Gl X x) (hm : X.mg x = some (.ref f)) (hk : PySem.W.keepIn X.K (.ref f) = true) (hx : ∀ σ, PassesAt CX X σ (E σ)) (ha : PA X (e :: es) t) (hd : (x == ("__debug__" : Str)) = false := by decide)
    (he : starEach (e :: es) X.env = (false, eval e X.env) :: starEach es X.env := by rfl) (hst : (backTo pos (starEach es X.env)).any (·.1) = false := by rfl) :
    PE X (.Call (.Name x p) (e :: es) [] pos) (tClrS sp E t) := by
  refine ⟨fun pins s σ H Q I h => ?_⟩
  refine wpAny_Call_Name_kw (ld_glob I hg hm ?_ hd)
  refine PySem.W.callWith_K (h₀ := X.base) I.ok.mod.kin hk (thn (ha.run pos pins s σ H _ I h) fun us s1 ⟨vs, H1, I1, r, q⟩ => ⟨I1.kIn, ?_⟩) he hst
  exact wpAny_call (run_fnRS F hr (hx σ) I1 r q)
end
end XT

namespace XT
open PySem PySem.Spec PyProof.Rows L2
section
variable {X : Cx} {o : Expr} {lo hi : Option Expr} {to : TE} {tl th : TO} {pos p2 : Pos}
/-- o[lo:hi] = a list -/
def gSl (to : TE) (tl th : TO) : TG := fun v σ H Q => to σ H fun o H1 => tl σ H1 fun a H2 => th σ H2 fun c H3 =>
  ∃ (l b : Addr) (xs ys : List V) (i j : Int), o = .ref l ∧ v = .ref b ∧ a = some i ∧ c = some j ∧ H3 l = some (.lst xs) ∧ H3 b = some (.lst ys) ∧ l ≠ b ∧ 0 ≤ i ∧ i ≤ j ∧ j ≤ xs.length ∧ xs.length + ys.length ≤ sizeLine ∧
    Q σ (upd H3 l (.lst (xs.take i.toNat ++ ys ++ xs.drop j.toNat)))
theorem isPart_rel {u : Value} {i : Int} (h : IsPart u (some i)) : RelV (.int i) u := by
  cases h with
  | int i t => exact ⟨t, rfl⟩
theorem pg_slice (ho : PE X o to) (hl : PO X lo tl) (hu : PO X hi th)
    (ha : ∀ v, assign (.Subscript o (.Slice lo hi none p2) pos) X.env v = (do
      let ov ← holding [v] (eval o X.env)
      let iv ← holding [v, ov] (eval (.Slice lo hi none p2) X.env)
      standAt pos
      holding [v, ov, iv] (setItem ov iv v)
      release [iv, v, ov] []) := by intro _; rfl) : PG X (.Subscript o (.Slice lo hi none p2) pos) (gSl to tl th) := by
  refine ⟨fun pins s σ H v u Q I r h => ?_⟩
  rw [ha]
  refine wpAny_bind (wpAny_holding (thn (ho.run pins s σ H _ I h) fun ov s1 ⟨x, H1, I1, r1, q1⟩ => ?_))
  refine wpAny_bind (wpAny_holding ?_)
  refine wpAny_Slice (thn (hl.run pins s1 σ H1 _ I1 q1) fun vl s2 ⟨l, H2, I2, pl, q2⟩ => thn (hu.run pins s2 σ H2 _ I2 q2) fun vu s3 ⟨c, H3, I3, pu, q3⟩ => ?_)
  rw [evalPart_none]
  refine wpAny_pure ?_
  have I4 : Inv X pins σ H3 { s3 with heap := s3.heap.push { cls := .type "slice", data := .fields #[vl, vu, .none] } } := I3.kept (t' := s3.toks) fun b ob q => Heap.get?_push_of_some _ q
  obtain ⟨lA, bA, xs, ys, i, j, rfl, rfl, rfl, rfl, hx, hy, hne, h0, hij, hj, hz, q⟩ := q3
  cases r1
  cases r
  refine wpAny_bind (wpAny_standAt (wpAny_bind (wpAny_holding ?_)))
  refine set_slice I4 hx hy hne (Heap.IsSliceOf.new ..) (isPart_rel pl) (isPart_rel pu) h0 hij hj hz fun s' I' => ?_
  exact wpAny_release ⟨σ, _, I', q⟩
end
end XT

namespace Eff
open Tbl XT
theorem smp_big {t m : Int} : ∀ {S : List Stp} {c : Int}, (∀ s ∈ S, s.1 = false → s.2 ≤ m) → m + S.length ≤ c → smp t S c = c + gr t S
  | [], c, _, _ => by show c = c + 0; omega
  | (b, k) :: S, c, h, hc => by
    rw [List.length_cons] at hc
    have ih := fun (d : Int) (hd : m + S.length ≤ d) => smp_big (t := t) (S := S) (c := d) (fun s hs => h s (List.mem_cons_of_mem _ hs)) hd
    show smp t S (smp1 t c (b, k)) = c + (gr1 t (b, k) + gr t S)
    unfold smp1 gr1
    cases b with
    | true =>
      simp only [if_true]
      by_cases d : k ≤ t
      · rw [if_pos d, if_pos d, ih _ (by omega)]; omega
      · rw [if_neg d, if_neg d, ih _ (by omega)]; omega
    | false =>
      have := h _ List.mem_cons_self rfl
      simp only [Bool.false_eq_true, if_false]
      rw [if_pos (show k ≤ c by simp only at this; omega), ih _ (by omega)]
      omega
theorem range_filt {L : List Int} {lo : Int} {n : Nat} {p : Nat → Bool} (ha : Asc L) (hb : ∀ x ∈ L, lo ≤ x ∧ x < lo + n) (hp : ∀ i : Nat, i < n → (p i = true ↔ lo + (i : Int) ∈ L)) : ((List.range n).filter p).map (fun i : Nat => lo + (i : Int)) = L := by
  refine asc_ext ?_ ha fun x => ?_
  · refine List.pairwise_map.mpr ((List.pairwise_lt_range (n := n)).filter p |>.imp fun h => ?_)
    omega
  · rw [List.mem_map]
    constructor
    · rintro ⟨i, hi, rfl⟩
      obtain ⟨h1, h2⟩ := List.mem_filter.mp hi
      exact (hp i (List.mem_range.mp h1)).mp h2
    · intro hx
      obtain ⟨h1, h2⟩ := hb x hx
      refine ⟨(x - lo).toNat, List.mem_filter.mpr ⟨List.mem_range.mpr (by omega), (hp _ (by omega)).mpr ?_⟩, by omega⟩
      have : lo + (((x - lo).toNat : Nat) : Int) = x := by omega
      rw [this]
      exact hx
theorem mem_lost {t : Int} {S : List Stp} (g : ∀ s ∈ S, goodS s = true) {x : Int} (hx : 1 ≤ x) : x ∈ (tb t S).2 ↔ smp t S x = smp t S (x - 1) := by
  have o := tb_ok (t := t) g
  rw [cnt_mem o.asc, ← tb_mp g (show 0 ≤ x by omega), ← tb_mp g (show 0 ≤ x - 1 by omega)]
  unfold mp
  constructor <;> intro <;> omega
theorem lost_le {t m : Int} {S : List Stp} (g : ∀ s ∈ S, goodS s = true) (h : ∀ s ∈ S, s.1 = false → s.2 ≤ m) (hm : 0 ≤ m) : ∀ x ∈ (tb t S).2, x ≤ m + S.length := by
  intro x hx
  have o := tb_ok (t := t) g
  have h1 := o.pos x hx
  have h2 := (mem_lost g h1).mp hx
  refine Classical.byContradiction fun c => ?_
  rw [smp_big h (by omega), smp_big h (by omega)] at h2
  omega
def row (t : Int) (S : List Stp) : List Int := (List.range 31).map fun c : Nat => smp t S (c : Int)
theorem row_iff {S : List Stp} {B : List Int} (h : Brk S B) (g : ∀ s ∈ S, goodS s = true) (hr : ∀ s ∈ S, s.1 = false → s.2 ≤ 14) (hl : S.length ≤ 12) (t : Int) : ¬ row t S = row (t - 1) S ↔ t ∈ B := by
  rw [brk_iff h]
  constructor
  · intro c e
    exact c (List.map_congr_left fun x _ => (tb_eq_iff g g).mp e x (Int.natCast_nonneg _))
  · intro c e
    have hb := (h.mem t).mp ((brk_iff h t).mpr c)
    have h1 := gr_lt (t := t - 1) (u := t) (by omega) (Int.le_refl _) hb
    have h2 := congrArg (fun l => l[30]?) e
    simp only [row] at h2
    rw [List.getElem?_map, List.getElem?_map] at h2
    have h3 : (List.range 31)[30]? = some 30 := rfl
    rw [h3] at h2
    have h4 : smp t S ((30 : Nat) : Int) = smp (t - 1) S ((30 : Nat) : Int) := Option.some.inj h2
    rw [smp_big hr (by omega), smp_big hr (by omega)] at h4
    omega
theorem row_len (t : Int) (S : List Stp) : (row t S).length = 31 := by simp [row]
theorem cuts_eq {S : List Stp} {B : List Int} (h : Brk S B) (g : ∀ s ∈ S, goodS s = true) (hr : ∀ s ∈ S, -2 ≤ s.2 ∧ s.2 ≤ 14) (hl : S.length ≤ 12) :
    ((List.range 20).filter fun i : Nat => !decide (row (-5 + (i : Int)) S = row (-6 + (i : Int)) S)).map (fun i : Nat => -5 + (i : Int)) = B := by
  refine range_filt h.asc (fun x hx => ?_) fun i hi => ?_
  · have := hr _ ((h.mem x).mp hx)
    simp only at this
    omega
  · rw [← row_iff h g (fun s hs _ => (hr s hs).2) hl]
    have e : -5 + (i : Int) - 1 = -6 + (i : Int) := by omega
    rw [e]
    simp
theorem top14 {S : List Stp} (hr : ∀ s ∈ S, -2 ≤ s.2 ∧ s.2 ≤ 14) : Top 14 S := fun x hx => (hr _ hx).2
theorem need_eq {S : List Stp} (g : ∀ s ∈ S, goodS s = true) (hr : ∀ s ∈ S, -2 ≤ s.2 ∧ s.2 ≤ 14) (hl : S.length ≤ 12) :
    ((List.range 30).filter fun i : Nat => decide (smp 14 S (1 + (i : Int)) = smp 14 S (1 + (i : Int) - 1))).map (fun i : Nat => 1 + (i : Int)) = (tb (topOf S) S).2 := by
  rw [← tb_top (top14 hr)]
  have o := tb_ok (t := 14) g
  refine range_filt o.asc (fun x hx => ?_) fun i hi => ?_
  · have h1 := o.pos x hx
    have h2 := lost_le (m := 14) g (fun s hs _ => (hr s hs).2) (by decide) x hx
    omega
  · rw [mem_lost g (by omega)]
    simp
theorem grow_eq {S : List Stp} (hr : ∀ s ∈ S, -2 ≤ s.2 ∧ s.2 ≤ 14) (hl : S.length ≤ 12) : smp 14 S 30 - 30 = grow S := by
  rw [smp_big (m := 14) (fun s hs _ => (hr s hs).2) (by omega), gr_top (top14 hr)]
  omega
end Eff
namespace Eff
open Tbl XT
theorem top14c {S : List Stp} {k : Int} (hr : ∀ s ∈ S, -2 ≤ s.2 ∧ s.2 ≤ 14) : Top 14 (S ++ [(false, k)]) := fun x hx => by
  rcases List.mem_append.mp hx with h | h
  · exact (hr _ h).2
  · have := List.mem_singleton.mp h
    cases this
theorem great_need {S : List Stp} {k : Int} (g : ∀ s ∈ S, goodS s = true) (hr : ∀ s ∈ S, -2 ≤ s.2 ∧ s.2 ≤ 14) (hl : S.length ≤ 12) (hk : 1000 ≤ k) : need (S ++ [(false, k)]) = k - grow S := by
  have e0 : need (S ++ [(false, k)]) = needL (tb 14 (S ++ [(false, k)])).2 := by unfold need; rw [tb_top (top14c hr)]
  rw [e0, tb_snoc]
  have o := tb_ok (t := 14) g
  have ll := lost_le (t := 14) (m := 14) g (fun s hs _ => (hr s hs).2) (by decide)
  have lg := tb_gr 14 S
  have ls := tb_start 14 S
  rw [gr_top (top14 hr)] at lg
  generalize hp : tb 14 S = p at o ll lg ls ⊢
  obtain ⟨s, L⟩ := p
  simp only at o ll lg ls
  unfold tstep
  rw [if_neg (by simp), if_neg (show ¬ k ≤ s by omega)]
  have kp := kr_place o.asc (k - s)
  have kg := kr_ge L (k - s)
  have kc : cnt L (kr L (k - s)) = L.length := cnt_all fun x hx => by have := ll x hx; omega
  have e1 : insAt L (kr L (k - s) - (k - s)) (kr L (k - s)) = L ++ [kr L (k - s)] := by
    unfold insAt
    rw [kp, kc, Int.toNat_natCast, List.take_length, List.drop_length, List.append_nil]
  show needL (insAt L (kr L (k - s) - (k - s)) (kr L (k - s))) = _
  rw [e1]
  have e2 : needL (L ++ [kr L (k - s)]) = kr L (k - s) := by unfold needL; simp
  rw [e2]
  omega
theorem great_grow {S : List Stp} {k : Int} (hr : ∀ s ∈ S, -2 ≤ s.2 ∧ s.2 ≤ 14) : grow (S ++ [(false, k)]) = grow S - 1 := by
  rw [← gr_top (top14c hr), ← gr_top (top14 hr), gr_append]
  show gr 14 S + (gr1 14 (false, k) + 0) = _
  unfold gr1
  simp
  omega
theorem tb_low {S : List Stp} {B : List Int} (h : Brk S B) {t : Int} (ht : ∀ x, (true, x) ∈ S → t < x) : tb t S = tb (low B) S := tb_local fun x hx => by
  have h1 := ht x hx
  have h2 := low_lt h.asc x ((h.mem x).mpr hx)
  constructor <;> intro <;> omega
theorem tb_high {S : List Stp} {t : Int} (ht : ∀ x, (true, x) ∈ S → x ≤ t) : tb t S = tb (topOf S) S := tb_top ht
theorem brk_of_nil {B : List Int} (h : Brk [] B) : B = [] := h.ext brk_nil
end Eff

namespace Eff
open Tbl XT
/-! ### calling an effect: lengths -/
theorem runR_len : ∀ {S : List Stp} {N M : List Int} {i : Nat}, runR N i S = .inl M → M.length ≤ N.length + S.length
  | [], N, M, i, e => by
    have e' : (Sum.inl N : List Int ⊕ Nat) = .inl M := e
    cases e'
    exact Nat.le_refl _
  | s :: S, N, M, i, e => by
    simp only [runR] at e
    cases h : stepR N s with
    | none => rw [h] at e; cases e
    | some N1 =>
      rw [h] at e
      have h1 := runR_len e
      have h2 := stepR_len h
      rw [List.length_cons]
      omega
theorem asc_sub : ∀ {B L : List Int}, Asc B → (∀ x ∈ B, x ∈ L) → B.length ≤ L.length
  | [], L, _, _ => Nat.zero_le _
  | b :: B, L, a, h => by
    have hb := h b List.mem_cons_self
    have hp := List.pairwise_cons.mp a
    have := asc_sub (B := B) (L := L.erase b) hp.2 fun x hx => by
      have h1 := hp.1 x hx
      exact (List.mem_erase_of_ne (by omega)).mpr (h x (List.mem_cons_of_mem _ hx))
    rw [List.length_erase_of_mem hb] at this
    have : 0 < L.length := List.length_pos_of_mem hb
    rw [List.length_cons]
    omega
theorem brk_len {S : List Stp} {B : List Int} (h : Brk S B) : B.length ≤ S.length :=
  Nat.le_trans (asc_sub h.asc fun x hx => mem_ins.mpr ((h.mem x).mp hx)) (ins_len S)
theorem zip_self (A : List Int) (g : Int → Int) : A.zip (A.map g) = A.map fun v => (v, g v) := by
  induction A with
  | nil => rfl
  | cons x A ih => rw [List.map_cons, List.zip_cons_cons, ih, List.map_cons]
theorem rng_map (A : List Int) (g : Int → V) : ((List.range A.length).map fun i => g (A.getD i 0)) = A.map g := by
  apply List.ext_getElem
  · simp
  · intro i h1 h2
    simp at h1
    simp [h1]
theorem run_grow {T : Int} : ∀ {S : List Stp} {N M : List Int} {i : Nat}, Up N → (∀ s ∈ S, goodS s = true) → Top T S → runR N i S = .inl M → (M.length : Int) = N.length + gr T S
  | [], N, M, i, _, _, _, e => by
    have e' : (Sum.inl N : List Int ⊕ Nat) = .inl M := e
    cases e'
    show (N.length : Int) = N.length + 0
    omega
  | s :: S, N, M, i, u, g, tp, e => by
    simp only [runR] at e
    cases h : stepR N s with
    | none => rw [h] at e; cases e
    | some N1 =>
      rw [h] at e
      obtain ⟨u1, c1, l1, m1⟩ := step_cnt u (g s List.mem_cons_self) h
      have h1 := run_grow u1 (fun x hx => g x (List.mem_cons_of_mem _ hx)) (fun x hx => tp x (List.mem_cons_of_mem _ hx)) e
      show (M.length : Int) = N.length + (gr1 T s + gr T S)
      have : gr1 T s = if s.1 = true then 1 else -1 := by
        unfold gr1
        obtain ⟨b, k⟩ := s
        cases b with
        | true =>
          have := tp k List.mem_cons_self
          simp only [if_true]
          rw [if_pos this]
        | false => rfl
      omega
theorem run_len {S : List Stp} {N M : List Int} {i : Nat} (u : Up N) (g : ∀ s ∈ S, goodS s = true) (e : runR N i S = .inl M) : (M.length : Int) = N.length + grow S := run_grow u g (top_top S) e
/-! ### numbers renamed in order -/
def ren (f : Int → Int) (s : Stp) : Stp := if s.1 = true then (true, f s.2) else s
def Mono (f : Int → Int) : Prop := ∀ a b, a ≤ b → f a ≤ f b
theorem srt_map {f : Int → Int} (m : Mono f) (L : List Int) : (srt L).map f = srt (L.map f) :=
  srt_of ((srt_perm L).map f) (List.pairwise_map.mpr ((srt_up L).imp fun h => m _ _ h))
theorem srt_eq {L M : List Int} (p : L.Perm M) : srt L = srt M := srt_of ((srt_perm L).trans p) (srt_up L)
theorem srt_self {L : List Int} (u : Up L) : srt L = L := (srt_of (List.Perm.refl L) u).symm
theorem srt_srt (L : List Int) : srt (srt L) = srt L := srt_self (srt_up L)
theorem step_map {f : Int → Int} (m : Mono f) (L : List Int) (s : Stp) : stepR (L.map f) (ren f s) = (stepR L s).map (List.map f) := by
  obtain ⟨b, k⟩ := s
  cases b with
  | true =>
    show some (srt (L.map f ++ [f k])) = some ((srt (L ++ [k])).map f)
    rw [srt_map m, List.map_append]
    rfl
  | false =>
    show stepR (L.map f) (false, k) = _
    simp only [stepR, List.length_map]
    by_cases c : (L.length : Int) < k
    · rw [if_pos c, if_pos c]; rfl
    · rw [if_neg c, if_neg c]
      simp
theorem run_map {f : Int → Int} (m : Mono f) : ∀ (S : List Stp) (L : List Int) (i : Nat), runR (L.map f) i (S.map (ren f)) = Sum.map (List.map f) id (runR L i S)
  | [], L, i => rfl
  | s :: S, L, i => by
    simp only [runR, List.map_cons, step_map m]
    cases h : stepR L s with
    | none => rfl
    | some M => exact run_map m S M (i + 1)
/-! ### a smaller list has smaller results -/
theorem smp1_mono (t : Int) (s : Stp) {c d : Int} (h : c ≤ d) : smp1 t c s ≤ smp1 t d s := by
  unfold smp1
  split
  · split <;> omega
  · split <;> split <;> omega
theorem smp_mono (t : Int) : ∀ (S : List Stp) {c d : Int}, c ≤ d → smp t S c ≤ smp t S d
  | [], c, d, h => h
  | s :: S, c, d, h => smp_mono t S (smp1_mono t s h)
theorem cnt_ge_get {B : List Int} (u : Up B) {i : Nat} (h : i < B.length) : (i : Int) + 1 ≤ cnt B B[i] := by
  have e : cnt B B[i] = cnt (B.take (i + 1)) B[i] + cnt (B.drop (i + 1)) B[i] := by rw [← cnt_append, List.take_append_drop]
  have e2 : cnt (B.take (i + 1)) B[i] = (B.take (i + 1)).length := cnt_all fun x hx => by
    obtain ⟨j, hj, rfl⟩ := List.mem_iff_getElem.mp hx
    rw [List.length_take] at hj
    rw [List.getElem_take]
    rcases Nat.lt_or_ge j i with c | c
    · exact List.pairwise_iff_getElem.mp u j i (by omega) h c
    · have : j = i := by omega
      subst this
      exact Int.le_refl _
  have := cnt_nn (B.drop (i + 1)) B[i]
  rw [List.length_take] at e2
  omega
theorem cnt_lt_get {A : List Int} (u : Up A) {i : Nat} (h : i < A.length) {t : Int} (ht : t < A[i]) : cnt A t ≤ i := by
  have e : cnt A t = cnt (A.take i) t + cnt (A.drop i) t := by rw [← cnt_append, List.take_append_drop]
  have e2 : cnt (A.drop i) t = 0 := cnt_zero fun x hx => by
    obtain ⟨j, hj, rfl⟩ := List.mem_iff_getElem.mp hx
    rw [List.length_drop] at hj
    rw [List.getElem_drop]
    rcases Nat.eq_zero_or_pos j with c | c
    · subst c; exact ht
    · have := List.pairwise_iff_getElem.mp u i (i + j) h (by omega) (by omega)
      omega
  have := cnt_le_len (A.take i) t
  rw [List.length_take] at this
  omega
theorem dom_get {A B : List Int} (u : Up A) (v : Up B) (h : ∀ t, cnt B t ≤ cnt A t) {i : Nat} (hi : i < A.length) (hj : i < B.length) : A[i] ≤ B[i] := by
  by_cases c : B[i] < A[i]
  · have h1 := cnt_ge_get v hj
    have h2 := cnt_lt_get u hi c
    have h3 := h B[i]
    omega
  · omega
theorem cnt_pair {A B : List Int} (hl : A.length = B.length) (h : ∀ (i : Nat) (p : i < A.length) (q : i < B.length), A[i] ≤ B[i]) (t : Int) : cnt B t ≤ cnt A t := by
  induction A generalizing B with
  | nil =>
    cases B with
    | nil => exact Int.le_refl _
    | cons b B => cases hl
  | cons x A ih =>
    cases B with
    | nil => cases hl
    | cons b B =>
      rw [cnt_cons, cnt_cons]
      have h0 := h 0 (by simp) (by simp)
      have h1 := ih (B := B) (by simpa using hl) fun i p q => by
        have := h (i + 1) (Nat.succ_lt_succ p) (Nat.succ_lt_succ q)
        rw [List.getElem_cons_succ, List.getElem_cons_succ] at this
        exact this
      have h0' : x ≤ b := h0
      by_cases c : b ≤ t
      · rw [if_pos c, if_pos (by omega)]; omega
      · rw [if_neg c]; split <;> omega
theorem run_dom {S : List Stp} {A B C D : List Int} {i j : Nat} (g : ∀ s ∈ S, goodS s = true) (h : ∀ t, cnt B t ≤ cnt A t) (e1 : runR (srt A) i S = .inl C) (e2 : runR (srt B) j S = .inl D) : ∀ (k : Nat) (p : k < C.length) (q : k < D.length), C[k] ≤ D[k] := by
  obtain ⟨u1, c1, _⟩ := run_cnt (srt_up A) g e1
  obtain ⟨u2, c2, _⟩ := run_cnt (srt_up B) g e2
  exact fun k p q => dom_get u1 u2 (fun t => by rw [c1, c2]; exact smp_mono t S (by rw [cnt_srt, cnt_srt]; exact h t)) p q
/-! ### one more element beyond all others -/
theorem srt_big {K : Int} (L : List Int) (h : ∀ x ∈ L, x ≤ K) : srt (L ++ [K]) = srt L ++ [K] := by
  refine (srt_of ((List.Perm.append_right [K] (srt_perm L))) ?_).symm
  refine List.pairwise_append.mpr ⟨srt_up L, List.pairwise_singleton _ _, fun a ha b hb => ?_⟩
  rw [List.mem_singleton.mp hb]
  exact h a ((srt_perm L).mem_iff.mp ha)
theorem run_big {K : Int} : ∀ {S : List Stp} {L M : List Int} {i : Nat}, (∀ x ∈ L, x ≤ K) → (∀ s ∈ S, goodS s = true) → (∀ s ∈ S, s.1 = true → s.2 ≤ K) → runR L i S = .inl M → runR (L ++ [K]) i S = .inl (M ++ [K])
  | [], L, M, i, _, _, _, e => by
    have e' : (Sum.inl L : List Int ⊕ Nat) = .inl M := e
    cases e'
    rfl
  | (b, k) :: S, L, M, i, h, g, hk, e => by
    simp only [runR] at e ⊢
    cases b with
    | true =>
      have hkk : k ≤ K := hk (true, k) List.mem_cons_self rfl
      have e1 : stepR (L ++ [K]) (true, k) = some (srt (L ++ [k]) ++ [K]) := by
        show some (srt (L ++ [K] ++ [k])) = _
        rw [← srt_big (L ++ [k]) fun x hx => (List.mem_append.mp hx).elim (h x) fun z => by rw [List.mem_singleton.mp z]; exact hkk]
        congr 1
        refine srt_eq ?_
        rw [List.append_assoc, List.append_assoc]
        exact List.Perm.append_left L (List.perm_append_comm (l₁ := [K]) (l₂ := [k]))
      rw [e1]
      have e2 : stepR L (true, k) = some (srt (L ++ [k])) := rfl
      rw [e2] at e
      exact run_big (fun x hx => (List.mem_append.mp ((srt_perm _).mem_iff.mp hx)).elim (h x) fun z => by rw [List.mem_singleton.mp z]; exact hkk) (fun s hs => g s (List.mem_cons_of_mem _ hs)) (fun s hs => hk s (List.mem_cons_of_mem _ hs)) e
    | false =>
      have gk : 0 < k := by simpa [goodS] using g (false, k) List.mem_cons_self
      by_cases c : (L.length : Int) < k
      · have e2 : stepR L (false, k) = none := by simp only [stepR]; rw [if_pos c]
        rw [e2] at e
        cases e
      · have e2 : stepR L (false, k) = some (L.take (k - 1).toNat ++ L.drop k.toNat) := by simp only [stepR]; rw [if_neg c]
        have e3 : stepR (L ++ [K]) (false, k) = some (L.take (k - 1).toNat ++ L.drop k.toNat ++ [K]) := by
          simp only [stepR]
          rw [if_neg (by rw [List.length_append, List.length_singleton]; omega), List.take_append_of_le_length (by omega), List.drop_append_of_le_length (by omega), List.append_assoc]
        rw [e2] at e
        rw [e3]
        exact run_big (fun x hx => (List.mem_append.mp hx).elim (fun z => h x (List.mem_of_mem_take z)) fun z => h x (List.mem_of_mem_drop z)) (fun s hs => g s (List.mem_cons_of_mem _ hs)) (fun s hs => hk s (List.mem_cons_of_mem _ hs)) e
end Eff

namespace XT
open PySem PySem.Spec PyProof.Rows L2
theorem stat_enumL {K : PySem.W.Frag} {H0 : Hp} {a : Addr} {xs : List V} (h : SqL K H0 a xs) : StatJ (Ite K a) H0 xs.length (fun i v H => ∃ T x, v = .ref T ∧ H T = some (.tup [.int (i : Nat), x]) ∧ xs[i]? = some x) where
  go := fun i H hi s => ⟨xs, xs[i], s.seq h, by simp [hi]⟩
  stop := fun H s => ⟨xs, s.seq h, Nat.le_refl _⟩
  yld := fun i H x H' hi s y => by
    obtain ⟨T, x', e, n, e', y⟩ := y
    subst e e'
    exact ⟨same_new n, T, x', rfl, upd_same, y xs (s.seq h)⟩
/-- a comprehension over a list whose element changes something -/
theorem lcEL {K : PySem.W.Frag} {a : Addr} {xs : List V} {g : TG} {te : TE} {vs : List Nat} {σ : L2.St} {H1 : Hp} {D : Addr} {Qd : Hp → Prop} (I : Nat → Hp → List V → Prop) (h0 : I 0 (upd H1 D (.lst [])) []) (hn : xs.length ≤ sizeLine)
    (hl : ∀ i H acc, I i H acc → SqL K H a xs ∧ acc.length = i)
    (hs : ∀ i x H acc (R : V → Hp → Prop), xs[i]? = some x → I i H acc → (∀ y H', H' D = some (.lst acc) → I (i + 1) (upd H' D (.lst (acc ++ [y]))) (acc ++ [y]) → R y H') → g x (wipe σ vs) H fun σ2 H2 => wipe σ2 vs = wipe σ vs ∧ te σ2 H2 R)
    (hd : ∀ H acc, I xs.length H acc → Qd H) :
    ∃ W : Nat → Nat → Hp → Prop, (∃ m, W 0 m (upd H1 D (.lst []))) ∧ ∀ i m H, W i m H →
      ((Itl K a).stop i H ∧ Qd H) ∨ ((Itl K a).go i H ∧ ∃ Nx : Hp → Prop, (∀ H', Nx H' → ∃ m', m' < m ∧ W (i + 1) m' H') ∧ ∀ x H', (Itl K a).yld i H x H' → g x (wipe σ vs) H' fun σ2 H2 => wipe σ2 vs = wipe σ vs ∧ tYes σ2 H2 fun b H3 =>
        if b = true then te σ2 H3 fun y H4 => ∃ acc, H4 D = some (.lst acc) ∧ acc.length < sizeLine ∧ Nx (upd H4 D (.lst (acc ++ [y]))) else Nx H3) := by
  refine ⟨fun i m H => m = xs.length - i ∧ i ≤ xs.length ∧ ∃ acc, I i H acc, ⟨xs.length, by simp, Nat.zero_le _, _, h0⟩, ?_⟩
  rintro i m H ⟨rfl, hi, acc, hI⟩
  have q := (hl i H acc hI).1
  by_cases hlt : i < xs.length
  · have e : xs[i]? = some xs[i] := by simp [hlt]
    refine .inr ⟨⟨xs, xs[i], q, e⟩, fun H' => ∃ acc, I (i + 1) H' acc, fun H' p => ⟨xs.length - (i + 1), by omega, rfl, hlt, p⟩, fun x H' y => ?_⟩
    obtain ⟨e1, y⟩ := y
    subst e1
    have ex := y xs q
    show g _ _ _ fun σ2 H2 => _ ∧ (if true = true then te σ2 H2 fun y H4 => ∃ acc, H4 D = some (.lst acc) ∧ acc.length < sizeLine ∧ (∃ acc', I (i + 1) (upd H4 D (.lst (acc ++ [y]))) acc') else (∃ acc, I (i + 1) H2 acc))
    simp only [if_true]
    exact hs i x _ acc _ ex hI fun y H' e k => ⟨acc, e, by rw [(hl i _ acc hI).2]; exact Nat.lt_of_lt_of_le hlt hn, _, k⟩
  · have e : i = xs.length := by omega
    subst e
    exact .inl ⟨⟨xs, q, Nat.le_refl _⟩, hd H acc hI⟩
theorem outs_none (n : Nat) : outs (fun _ => Option.none) n = [] := by
  induction n with
  | zero => rfl
  | succ n ih => rw [outs_succ, ih]; rfl
end XT

namespace Cmp
open Tbl Eff XT
/-- the least element of two ascending lists where they differ -/
def ld : List Int → List Int → Option Int
  | [], [] => none
  | x :: _, [] => some x
  | [], y :: _ => some y
  | x :: A, y :: B => if x = y then ld A B else some (if y < x then y else x)
theorem ld_drop : ∀ {A B : List Int} (i : Nat), i ≤ A.length → i ≤ B.length → A.take i = B.take i → ld A B = ld (A.drop i) (B.drop i)
  | _, _, 0, _, _, _ => rfl
  | x :: A, y :: B, i + 1, h1, h2, h => by
    have hh : x :: A.take i = y :: B.take i := h
    obtain ⟨e, e2⟩ := List.cons.inj hh
    show (if x = y then ld A B else _) = _
    rw [if_pos e]
    exact ld_drop i (by simp at h1; omega) (by simp at h2; omega) e2
theorem cnt_lt {L : List Int} {d : Int} (h : ∀ x ∈ L, d < x) : cnt L d = 0 := by
  induction L with
  | nil => rfl
  | cons x L ih =>
    have e : cnt (x :: L) d = cnt [x] d + cnt L d := cnt_append [x] L d
    rw [e, ih fun y hy => h y (List.mem_cons_of_mem _ hy)]
    have := h x List.mem_cons_self
    unfold cnt
    simp
    omega
theorem cnt_cons (x : Int) (L : List Int) (d : Int) : cnt (x :: L) d = (if x ≤ d then 1 else 0) + cnt L d := by
  have e : cnt (x :: L) d = cnt [x] d + cnt L d := cnt_append [x] L d
  rw [e]
  congr 1
  unfold cnt
  by_cases h : x ≤ d <;> simp [h]
theorem asc_tail {x : Int} {L : List Int} (h : Asc (x :: L)) : Asc L ∧ ∀ y ∈ L, x < y := by
  have := List.pairwise_cons.mp h
  exact ⟨this.2, this.1⟩
theorem cnt_nn (L : List Int) (d : Int) : 0 ≤ cnt L d := by unfold cnt; omega
theorem ld_some : ∀ {A B : List Int} {c : Int}, Asc A → Asc B → ld A B = some c → cnt A c ≠ cnt B c ∧ (∀ d, d < c → cnt A d = cnt B d) ∧ (c ∈ A ∨ c ∈ B)
  | [], [], c, _, _, h => by cases h
  | x :: A, [], c, ha, _, h => by
    have e : x = c := by injection h
    subst e
    obtain ⟨_, h2⟩ := asc_tail ha
    have nn := cnt_nn A x
    have e0 : ∀ d, cnt [] d = 0 := fun _ => rfl
    refine ⟨by rw [cnt_cons, e0, if_pos (Int.le_refl _)]; omega, fun d hd => ?_, .inl List.mem_cons_self⟩
    rw [e0, cnt_lt fun y hy => ?_]
    rcases List.mem_cons.mp hy with rfl | hy
    · exact hd
    · exact Int.lt_trans hd (h2 y hy)
  | [], y :: B, c, _, hb, h => by
    have e : y = c := by injection h
    subst e
    obtain ⟨_, h2⟩ := asc_tail hb
    have nn := cnt_nn B y
    have e0 : ∀ d, cnt [] d = 0 := fun _ => rfl
    refine ⟨by rw [cnt_cons, e0, if_pos (Int.le_refl _)]; omega, fun d hd => ?_, .inr List.mem_cons_self⟩
    rw [e0, cnt_lt fun z hz => ?_]
    rcases List.mem_cons.mp hz with rfl | hz
    · exact hd
    · exact Int.lt_trans hd (h2 z hz)
  | x :: A, y :: B, c, ha, hb, h => by
    obtain ⟨a1, a2⟩ := asc_tail ha
    obtain ⟨b1, b2⟩ := asc_tail hb
    by_cases e : x = y
    · subst e
      have h : ld A B = some c := by
        have : ld (x :: A) (x :: B) = ld A B := by show (if x = x then _ else _) = _; rw [if_pos rfl]
        rw [← this]; exact h
      obtain ⟨h1, h2, h3⟩ := ld_some a1 b1 h
      refine ⟨by rw [cnt_cons, cnt_cons]; omega, fun d hd => by rw [cnt_cons, cnt_cons, h2 d hd], h3.elim (fun z => .inl (List.mem_cons_of_mem _ z)) fun z => .inr (List.mem_cons_of_mem _ z)⟩
    · have h : some (if y < x then y else x) = some c := by
        have : ld (x :: A) (y :: B) = some (if y < x then y else x) := by show (if x = y then _ else _) = _; rw [if_neg e]
        rw [← this]; exact h
      have h : (if y < x then y else x) = c := by injection h
      have allA : ∀ d, d < x → cnt (x :: A) d = 0 := fun d hd => cnt_lt fun z hz => by
        rcases List.mem_cons.mp hz with rfl | hz
        · exact hd
        · exact Int.lt_trans hd (a2 z hz)
      have allB : ∀ d, d < y → cnt (y :: B) d = 0 := fun d hd => cnt_lt fun z hz => by
        rcases List.mem_cons.mp hz with rfl | hz
        · exact hd
        · exact Int.lt_trans hd (b2 z hz)
      by_cases hyx : y < x
      · rw [if_pos hyx] at h
        subst h
        have nn := cnt_nn B y
        refine ⟨by rw [allA y hyx, cnt_cons, if_pos (Int.le_refl _)]; omega, fun d hd => by rw [allA d (Int.lt_trans hd hyx), allB d hd], .inr List.mem_cons_self⟩
      · rw [if_neg hyx] at h
        subst h
        have nn := cnt_nn A x
        refine ⟨by rw [allB x (by omega), cnt_cons, if_pos (Int.le_refl _)]; omega, fun d hd => by rw [allA d hd, allB d (by omega)], .inl List.mem_cons_self⟩
theorem ld_none : ∀ {A B : List Int}, ld A B = none → A = B
  | [], [], _ => rfl
  | x :: A, [], h => by cases h
  | [], y :: B, h => by cases h
  | x :: A, y :: B, h => by
    by_cases e : x = y
    · subst e
      have : ld (x :: A) (x :: B) = ld A B := by show (if x = x then _ else _) = _; rw [if_pos rfl]
      rw [this] at h
      rw [ld_none h]
    · have : ld (x :: A) (y :: B) = some (if y < x then y else x) := by show (if x = y then _ else _) = _; rw [if_neg e]
      rw [this] at h
      cases h
theorem ld_self : ∀ A : List Int, ld A A = none
  | [] => rfl
  | x :: A => by show (if x = x then ld A A else _) = _; rw [if_pos rfl]; exact ld_self A
/-- the least count where two tables differ -/
def ldT (p q : Int × List Int) : Option Int := if p.1 = q.1 then ld p.2 q.2 else some 0
theorem ldT_none {p q : Int × List Int} : ldT p q = none ↔ p = q := by
  obtain ⟨a, A⟩ := p
  obtain ⟨b, B⟩ := q
  unfold ldT
  constructor
  · intro h
    by_cases e : a = b
    · rw [if_pos e] at h
      have h2 : A = B := ld_none h
      have e : a = b := e
      rw [e, h2]
    · rw [if_neg e] at h; cases h
  · intro h
    injection h with h1 h2
    subst h1 h2
    show (if a = a then ld A A else _) = _
    rw [if_pos rfl, ld_self]
theorem ldT_some {p q : Int × List Int} (ok1 : Ok p.1 p.2) (ok2 : Ok q.1 q.2) {c : Int} (h : ldT p q = some c) : 0 ≤ c ∧ mp p.1 p.2 c ≠ mp q.1 q.2 c ∧ (∀ d, 0 ≤ d → d < c → mp p.1 p.2 d = mp q.1 q.2 d) ∧ (c = 0 ∨ c ∈ p.2 ∨ c ∈ q.2) := by
  obtain ⟨a, A⟩ := p
  obtain ⟨b, B⟩ := q
  unfold ldT at h
  by_cases e : a = b
  · subst e
    rw [if_pos rfl] at h
    obtain ⟨h1, h2, h3⟩ := ld_some ok1.asc ok2.asc h
    have c1 : 1 ≤ c := h3.elim (ok1.pos c) (ok2.pos c)
    refine ⟨by omega, ?_, fun d d0 hd => ?_, .inr h3⟩
    · show mp a A c ≠ mp a B c
      have h1 : cnt A c ≠ cnt B c := h1
      unfold mp
      omega
    · show mp a A d = mp a B d
      unfold mp
      rw [h2 d hd]
  · rw [if_neg e] at h
    have e0 : (0 : Int) = c := by injection h
    subst e0
    refine ⟨Int.le_refl _, ?_, fun d d0 hd => by omega, .inl rfl⟩
    have z1 : cnt A 0 = 0 := cnt_lt fun x hx => by have := ok1.pos x hx; omega
    have z2 : cnt B 0 = 0 := cnt_lt fun x hx => by have := ok2.pos x hx; omega
    show mp a A 0 ≠ mp b B 0
    unfold mp
    rw [z1, z2]
    omega
/-- the first difference: the least count, of the first threshold that has it -/
def fstep (f : Int → Option Int) (u : Option (Int × Int)) (t : Int) : Option (Int × Int) := match f t with
  | none => u
  | some c => match u with
    | none => some (t, c)
    | some (t0, c0) => if c < c0 then some (t, c) else some (t0, c0)
def fdF (f : Int → Option Int) (B : List Int) : Option (Int × Int) := B.foldl (fstep f) none
theorem fdF_snoc (f : Int → Option Int) (B : List Int) (t : Int) : fdF f (B ++ [t]) = fstep f (fdF f B) t := by unfold fdF; rw [List.foldl_append]; rfl
theorem fdF_spec (f : Int → Option Int) : ∀ B : List Int, (fdF f B = none ↔ ∀ t ∈ B, f t = none) ∧ ∀ t c, fdF f B = some (t, c) → t ∈ B ∧ f t = some c ∧ ∀ u ∈ B, ∀ d, f u = some d → c ≤ d := by
  intro B
  have : ∀ (B : List Int), (fdF f B.reverse = none ↔ ∀ t ∈ B.reverse, f t = none) ∧ ∀ t c, fdF f B.reverse = some (t, c) → t ∈ B.reverse ∧ f t = some c ∧ ∀ u ∈ B.reverse, ∀ d, f u = some d → c ≤ d := by
    intro B
    induction B with
    | nil => exact ⟨⟨fun _ t ht => (by cases ht), fun _ => rfl⟩, fun t c h => (by cases h)⟩
    | cons x B ih =>
      obtain ⟨i1, i2⟩ := ih
      rw [List.reverse_cons, fdF_snoc]
      have mem : ∀ u, u ∈ B.reverse ++ [x] ↔ u ∈ B.reverse ∨ u = x := fun u => by simp
      cases hx : f x with
      | none =>
        have e : fstep f (fdF f B.reverse) x = fdF f B.reverse := by unfold fstep; rw [hx]
        rw [e]
        refine ⟨i1.trans ⟨fun h t ht => ((mem t).mp ht).elim (h t) fun z => by rw [z]; exact hx, fun h t ht => h t ((mem t).mpr (.inl ht))⟩, fun t c h => ?_⟩
        obtain ⟨j1, j2, j3⟩ := i2 t c h
        exact ⟨(mem t).mpr (.inl j1), j2, fun u hu d hd => ((mem u).mp hu).elim (fun z => j3 u z d hd) fun z => by rw [z, hx] at hd; cases hd⟩
      | some c =>
        cases hu : fdF f B.reverse with
        | none =>
          have e : fstep f none x = some (x, c) := by unfold fstep; rw [hx]
          rw [e]
          have al := i1.mp hu
          refine ⟨⟨fun h => (by cases h), fun h => (by have := h x ((mem x).mpr (.inr rfl)); rw [hx] at this; cases this)⟩, fun t c' h => ?_⟩
          injection h with h
          injection h with h1 h2
          subst h1 h2
          exact ⟨(mem _).mpr (.inr rfl), hx, fun u hu d hd => ((mem u).mp hu).elim (fun z => by rw [al u z] at hd; cases hd) fun z => by rw [z, hx] at hd; injection hd with hd; omega⟩
        | some p =>
          obtain ⟨t0, c0⟩ := p
          obtain ⟨j1, j2, j3⟩ := i2 t0 c0 hu
          have e : fstep f (some (t0, c0)) x = if c < c0 then some (x, c) else some (t0, c0) := by unfold fstep; rw [hx]
          rw [e]
          refine ⟨⟨fun h => (by split at h <;> cases h), fun h => (by have := h x ((mem x).mpr (.inr rfl)); rw [hx] at this; cases this)⟩, fun t c' h => ?_⟩
          split at h
          · injection h with h
            injection h with h1 h2
            subst h1 h2
            exact ⟨(mem _).mpr (.inr rfl), hx, fun u hu d hd => ((mem u).mp hu).elim (fun z => by have := j3 u z d hd; omega) fun z => by rw [z, hx] at hd; injection hd with hd; omega⟩
          · injection h with h
            injection h with h1 h2
            subst h1 h2
            exact ⟨(mem _).mpr (.inl j1), j2, fun u hu d hd => ((mem u).mp hu).elim (fun z => j3 u z d hd) fun z => by rw [z, hx] at hd; injection hd with hd; omega⟩
  have := this B.reverse
  rw [List.reverse_reverse] at this
  exact this
end Cmp

namespace Rem
open Tbl Eff XT
/-- from the place after the removal of rank k to that before -/
def r1 (k p : Int) : Int := if p < k then p else p + 1
def s1 (k c : Int) : Int := if k ≤ c then c - 1 else c
/-- from the place after the removals to that before -/
def rem : List Int → Int → Int
  | [], p => p
  | k :: ks, p => r1 k (rem ks p)
/-- from the place before to that after -/
def sm : List Int → Int → Int
  | [], c => c
  | k :: ks, c => sm ks (s1 k c)
theorem rem_app : ∀ (A B : List Int) (p : Int), rem (A ++ B) p = rem A (rem B p)
  | [], _, _ => rfl
  | k :: A, B, p => by show r1 k (rem (A ++ B) p) = r1 k (rem A (rem B p)); rw [rem_app A B p]
theorem sm_app : ∀ (A B : List Int) (c : Int), sm (A ++ B) c = sm B (sm A c)
  | [], _, _ => rfl
  | k :: A, B, c => sm_app A B (s1 k c)
theorem r1_lt (k : Int) {p q : Int} (h : p < q) : r1 k p < r1 k q := by unfold r1; split <;> split <;> omega
theorem r1_ge (k p : Int) : p ≤ r1 k p := by unfold r1; split <;> omega
theorem r1_ne (k p : Int) : r1 k p ≠ k := by unfold r1; split <;> omega
theorem rem_lt : ∀ (R : List Int) {p q : Int}, p < q → rem R p < rem R q
  | [], _, _, h => h
  | k :: R, _, _, h => r1_lt k (rem_lt R h)
theorem rem_ge : ∀ (R : List Int) (p : Int), p ≤ rem R p
  | [], p => Int.le_refl p
  | k :: R, p => Int.le_trans (rem_ge R p) (r1_ge k _)
theorem rem_inj (R : List Int) {p q : Int} (h : rem R p = rem R q) : p = q := by
  rcases Int.lt_trichotomy p q with h1 | h1 | h1
  · have := rem_lt R h1; omega
  · exact h1
  · have := rem_lt R h1; omega
theorem sm_rem : ∀ (R : List Int) (p : Int), sm R (rem R p) = p ∧ sm R (rem R p - 1) = p - 1
  | [], p => ⟨rfl, rfl⟩
  | k :: R, p => by
    obtain ⟨h1, h2⟩ := sm_rem R p
    have e1 : s1 k (r1 k (rem R p)) = rem R p := by unfold s1 r1; split <;> split <;> omega
    have e2 : s1 k (r1 k (rem R p) - 1) = rem R p - 1 := by unfold s1 r1; split <;> split <;> omega
    exact ⟨by show sm R (s1 k (r1 k (rem R p))) = p; rw [e1, h1], by show sm R (s1 k (r1 k (rem R p) - 1)) = p - 1; rw [e2, h2]⟩
theorem rem_sm : ∀ (R : List Int) (x : Int), sm R x = sm R (x - 1) + 1 → rem R (sm R x) = x
  | [], x, _ => rfl
  | k :: R, x, h => by
    have h' : sm R (s1 k x) = sm R (s1 k (x - 1)) + 1 := h
    show r1 k (rem R (sm R (s1 k x))) = x
    unfold s1 at h' ⊢
    by_cases h1 : k ≤ x
    · by_cases h2 : k ≤ x - 1
      · rw [if_pos h1, if_pos h2] at h'
        rw [if_pos h1, rem_sm R (x - 1) h']
        unfold r1
        rw [if_neg (by omega)]
        omega
      · rw [if_pos h1, if_neg h2] at h'
        omega
    · rw [if_neg h1, if_neg (by omega)] at h'
      rw [if_neg h1, rem_sm R x h']
      unfold r1
      rw [if_pos (by omega)]
/-- the removals as steps -/
def stp (R : List Int) : List Stp := R.map fun k => (false, k)
theorem smp_sm (t : Int) : ∀ (R : List Int) (c : Int), smp t (stp R) c = sm R c
  | [], _ => rfl
  | k :: R, c => by
    have e : smp1 t c (false, k) = s1 k c := by unfold smp1 s1; rw [if_neg (by simp)]
    show smp t (stp R) (smp1 t c (false, k)) = sm R (s1 k c)
    rw [e]
    exact smp_sm t R _
def lost (R : List Int) : List Int := (tb 0 (stp R)).2
theorem stp_good {R : List Int} (h : Pos R) : ∀ s ∈ stp R, goodS s = true := by
  intro s hs
  obtain ⟨k, hk, rfl⟩ := List.mem_map.mp hs
  have := h k hk
  simp [goodS]
  omega
theorem sm_zero : ∀ {R : List Int}, Pos R → sm R 0 = 0
  | [], _ => rfl
  | k :: R, h => by
    have := h k List.mem_cons_self
    show sm R (s1 k 0) = 0
    unfold s1
    rw [if_neg (by omega)]
    exact sm_zero fun x hx => h x (List.mem_cons_of_mem _ hx)
theorem tb_one {R : List Int} (h : Pos R) : (tb 0 (stp R)).1 = 0 := by
  have ok := tb_ok (t := 0) (stp_good h)
  have e := tb_mp (t := 0) (stp_good h) (Int.le_refl 0)
  rw [mp_zero ok, smp_sm, sm_zero h] at e
  exact e
theorem lost_ok {R : List Int} (h : Pos R) : Ok 0 (lost R) := by
  have ok := tb_ok (t := 0) (stp_good h)
  rw [tb_one h] at ok
  exact ok
theorem lost_cnt {R : List Int} (h : Pos R) {c : Int} (hc : 0 ≤ c) : c - cnt (lost R) c = sm R c := by
  have e := tb_mp (t := 0) (stp_good h) hc
  rw [tb_one h, smp_sm] at e
  unfold mp at e
  unfold lost
  omega
theorem lost_len {R : List Int} (h : Pos R) : (lost R).length = R.length := by
  have e := tb_gr 0 (stp R)
  rw [tb_one h] at e
  have : ∀ R : List Int, gr 0 (stp R) = - (R.length : Int) := fun R => by
    induction R with
    | nil => rfl
    | cons k R ih =>
      show gr1 0 (false, k) + gr 0 (stp R) = _
      rw [ih, List.length_cons]
      simp [gr1]
      omega
  rw [this] at e
  show (tb 0 (stp R)).2.length = R.length
  omega
theorem kr_rem {R : List Int} (h : Pos R) {p : Int} (hp : 1 ≤ p) : kr (lost R) p = rem R p := by
  have ha := (lost_ok h).asc
  obtain ⟨e1, e2⟩ := sm_rem R p
  have g := rem_ge R p
  rw [← lost_cnt h (by omega)] at e1 e2
  have a1 : kr (lost R) p ≤ rem R p := (gal ha).mp (by omega)
  have a2 : ¬ kr (lost R) p ≤ rem R p - 1 := fun z => by have := (gal ha).mpr z; omega
  omega
theorem lost_mem {R : List Int} (h : Pos R) {x : Int} (hx : 1 ≤ x) : x ∈ lost R ↔ sm R x = sm R (x - 1) := by
  rw [cnt_mem (lost_ok h).asc]
  have e1 := lost_cnt h (c := x) (by omega)
  have e2 := lost_cnt h (c := x - 1) (by omega)
  omega
theorem rem_notin {R : List Int} (h : Pos R) {p : Int} (hp : 1 ≤ p) : rem R p ∉ lost R := by
  rw [← kr_rem h hp]
  exact kr_notin (lost_ok h).asc p
/-- what is removed at its place -/
theorem el_in {A B : List Int} {k : Int} (h : Pos (A ++ k :: B)) : rem A k ∈ lost (A ++ k :: B) := by
  have hk := h k (by simp)
  have g := rem_ge A k
  obtain ⟨e1, e2⟩ := sm_rem A k
  rw [lost_mem h (by omega), sm_app, sm_app, e1, e2]
  show sm B (s1 k k) = sm B (s1 k (k - 1))
  unfold s1
  rw [if_pos (by omega), if_neg (by omega)]
theorem not_rem {R : List Int} (h : Pos R) {x : Int} (hx : 1 ≤ x) (hn : x ∉ lost R) : rem R (x - cnt (lost R) x) = x := by
  rw [lost_cnt h (by omega)]
  refine rem_sm R x ?_
  have hn' : ¬ sm R x = sm R (x - 1) := fun z => hn ((lost_mem h hx).mpr z)
  have hc : x ∉ lost R → cnt (lost R) x = cnt (lost R) (x - 1) := cnt_notin
  have e1 := lost_cnt h (c := x) (by omega)
  have e2 := lost_cnt h (c := x - 1) (by omega)
  have := hc hn
  omega
/-- the removals repeated -/
def F (R : List Int) : Nat → Int → Int
  | 0, x => x
  | n + 1, x => F R n (rem R x)
theorem F_add (R : List Int) : ∀ (n m : Nat) (x : Int), F R (n + m) x = F R m (F R n x)
  | 0, m, x => by rw [Nat.zero_add]; rfl
  | n + 1, m, x => by rw [Nat.add_right_comm]; exact F_add R n m (rem R x)
theorem F_succ (R : List Int) (n : Nat) (x : Int) : F R (n + 1) x = rem R (F R n x) := F_add R n 1 x
theorem F_ge (R : List Int) : ∀ (n : Nat) (x : Int), x ≤ F R n x
  | 0, x => Int.le_refl x
  | n + 1, x => Int.le_trans (rem_ge R x) (F_ge R n _)
theorem F_inj (R : List Int) : ∀ (n : Nat) {x y : Int}, F R n x = F R n y → x = y
  | 0, _, _, h => h
  | n + 1, _, _, h => rem_inj R (F_inj R n h)
theorem up_cnt {c : Int} : ∀ {B : List Int}, Up B → ∀ (j : Nat) (h : j < B.length), B[j] ≤ c ↔ (j : Int) < cnt B c
  | [], _, j, h => by cases h
  | b :: B, u, j, h => by
    have hp := List.pairwise_cons.mp u
    rw [cnt_cons]
    have cn := cnt_nn B c
    cases j with
    | zero =>
      show b ≤ c ↔ _
      by_cases hb : b ≤ c
      · rw [if_pos hb]; constructor <;> intro <;> omega
      · rw [if_neg hb]
        have : cnt B c = 0 := cnt_zero fun x hx => by have := hp.1 x hx; omega
        constructor <;> intro <;> omega
    | succ j =>
      have hj : j < B.length := by simpa using h
      have ih := up_cnt (c := c) hp.2 j hj
      show B[j] ≤ c ↔ _
      by_cases hb : b ≤ c
      · rw [if_pos hb, ih]; constructor <;> intro <;> omega
      · rw [if_neg hb]
        have : cnt B c = 0 := cnt_zero fun x hx => by have := hp.1 x hx; omega
        have h3 := hp.1 B[j] (List.getElem_mem hj)
        constructor <;> intro <;> omega
theorem bnds_get (L : List Int) : ∀ (i j : Nat) (h : j < L.length) (h2 : j < (bnds i L).length), (bnds i L)[j] = L[j] - ((i + j : Nat) : Int) := by
  induction L with
  | nil => intro i j h; cases h
  | cons x L ih =>
    intro i j h h2
    cases j with
    | zero => rfl
    | succ j =>
      show (bnds (i + 1) L)[j]'(by rw [bnds_length]; simpa using h) = L[j]'(by simpa using h) - ((i + (j + 1) : Nat) : Int)
      rw [ih (i + 1) j (by simpa using h)]
      omega
/-- rank_before: many repetitions at one go -/
theorem go_up {R : List Int} (h : Pos R) {r : Int} (hr : 1 ≤ r) {p : Nat} (hp : cnt (bnds 0 (lost R)) r = p) : ∀ m : Nat, (∀ (hlt : p < (lost R).length), r + (m : Int) * p ≤ (lost R)[p] - 1) → F R m r = r + (m : Int) * p
  | 0, _ => by show r = _; omega
  | m + 1, hb => by
    have hb' : ∀ (hlt : p < (lost R).length), r + (m : Int) * p ≤ (lost R)[p] - 1 := fun hlt => by
      have := hb hlt
      have e : ((m + 1 : Nat) : Int) * (p : Int) = (m : Int) * p + p := by rw [Int.natCast_add, Int.add_mul]; omega
      omega
    have ih := go_up h hr hp m hb'
    have e : ((m + 1 : Nat) : Int) * (p : Int) = (m : Int) * p + p := by rw [Int.natCast_add, Int.add_mul]; omega
    have mp0 : 0 ≤ (m : Int) * p := Int.mul_nonneg (Int.natCast_nonneg _) (Int.natCast_nonneg _)
    rw [F_succ, ih, ← kr_rem h (by omega)]
    have ha := (lost_ok h).asc
    have hu := bnds_up (i := 0) ha
    have hl := bnds_length (lost R) 0
    have hpl : p ≤ (lost R).length := by have := cnt_le_len (bnds 0 (lost R)) r; omega
    have key : cnt (bnds 0 (lost R)) (r + (m : Int) * p) = p := by
      refine cnt_split (by omega) (fun j hj hlt => ?_) (fun j hj hge => ?_)
      · have := (up_cnt (c := r) hu j hj).mpr (by omega)
        omega
      · have hpp : p < (bnds 0 (lost R)).length := by omega
        have h1 := up_get hu hpp hj hge
        have h2 := bnds_get (lost R) 0 p (by omega) hpp
        have h3 := hb (by omega)
        rw [h2] at h1
        omega
    unfold kr
    rw [key]
    omega
/-- removal_of: many repetitions back at one go -/
theorem go_down {R : List Int} (h : Pos R) {r : Int} {p : Nat} (hp : cnt (lost R) r = p) (hp1 : 1 ≤ p) (hpl : p - 1 < (lost R).length) : ∀ m : Nat, (∀ j : Nat, j < m → (lost R)[p - 1] < r - (j : Int) * p) → F R m (r - (m : Int) * p) = r
  | 0, _ => by show r - _ = r; omega
  | m + 1, hb => by
    have ih := go_down h hp hp1 hpl m fun j hj => hb j (by omega)
    have e : ((m + 1 : Nat) : Int) * (p : Int) = (m : Int) * p + p := by rw [Int.natCast_add, Int.add_mul]; omega
    have mp0 : 0 ≤ (m : Int) * p := Int.mul_nonneg (Int.natCast_nonneg _) (Int.natCast_nonneg _)
    have hm := hb m (by omega)
    have ha := (lost_ok h).asc
    have hpos := (lost_ok h).pos
    have hu := asc_up ha
    have key : cnt (lost R) (r - (m : Int) * p) = p := by
      have c1 := cnt_mono (lost R) (c := r - (m : Int) * p) (d := r) (by omega)
      have c2 := (up_cnt (c := r - (m : Int) * p) hu (p - 1) hpl).mp (by omega)
      omega
    have l1 := hpos _ (List.getElem_mem hpl)
    have x1 : 1 ≤ r - (m : Int) * p := by omega
    have nin : r - (m : Int) * p ∉ lost R := fun z => by
      have := (cnt_mem ha).mp z
      have c2 := (up_cnt (c := r - (m : Int) * p - 1) hu (p - 1) hpl).mp (by omega)
      omega
    have := not_rem h x1 nin
    rw [key] at this
    show F R m (rem R (r - ((m + 1 : Nat) : Int) * p)) = r
    rw [e, show r - ((m : Int) * p + p) = r - (m : Int) * p - p by omega, this, ih]
/-- the ranks of the removals -/
def rms (S : List Stp) : List Int := S.filterMap fun s => if s.1 = true then none else some s.2
theorem rms_app (A B : List Stp) : rms (A ++ B) = rms A ++ rms B := List.filterMap_append
theorem rms_pos {S : List Stp} (g : ∀ s ∈ S, goodS s = true) : Pos (rms S) := by
  intro x hx
  obtain ⟨s, hs, e⟩ := List.mem_filterMap.mp hx
  have gs := g s hs
  obtain ⟨b, k⟩ := s
  cases b with
  | true => simp at e
  | false =>
    simp at e
    subst e
    simp [goodS] at gs
    omega
theorem rms_len (S : List Stp) : (rms S).length ≤ S.length := List.length_filterMap_le _ _
theorem rms_at {S : List Stp} {i : Nat} {k : Int} (h : S[i]? = some (false, k)) : rms S = rms (S.take i) ++ k :: rms (S.drop (i + 1)) := by
  obtain ⟨a, e⟩ := List.getElem?_eq_some_iff.mp h
  have : S = S.take i ++ (false, k) :: S.drop (i + 1) := by rw [← e, ← List.drop_eq_getElem_cons a, List.take_append_drop]
  conv => lhs; rw [this]
  rw [rms_app]
  rfl
theorem rms_snoc {S : List Stp} {i : Nat} {b : Bool} {k : Int} (h : S[i]? = some (b, k)) : rms (S.take (i + 1)) = rms (S.take i) ++ (if b = true then [] else [k]) := by
  rw [List.take_add_one, h, rms_app]
  cases b <;> rfl
theorem take_good {S : List Stp} (g : ∀ s ∈ S, goodS s = true) (i : Nat) : ∀ s ∈ S.take i, goodS s = true := fun s hs => g s (List.mem_of_mem_take hs)
/-- the rank at the very beginning of what step i of repetition n removes, where this step is the removal of rank k -/
def old (S : List Stp) (n i : Nat) (k : Int) : Int := F (rms S) n (rem (rms (S.take i)) k)
theorem el_mem {S : List Stp} (g : ∀ s ∈ S, goodS s = true) {i : Nat} {k : Int} (h : S[i]? = some (false, k)) : rem (rms (S.take i)) k ∈ lost (rms S) := by
  have hp := rms_pos g
  rw [rms_at h] at hp ⊢
  exact el_in hp
theorem el_pos {S : List Stp} (g : ∀ s ∈ S, goodS s = true) {i : Nat} {k : Int} (h : S[i]? = some (false, k)) : 1 ≤ rem (rms (S.take i)) k := by
  have := rem_ge (rms (S.take i)) k
  have gs := g _ (List.mem_of_getElem? h)
  simp [goodS] at gs
  omega
theorem el_ne {S : List Stp} (g : ∀ s ∈ S, goodS s = true) {i j : Nat} {k l : Int} (h : S[i]? = some (false, k)) (h2 : S[j]? = some (false, l)) (hij : i < j) : rem (rms (S.take i)) k ≠ rem (rms (S.take j)) l := by
  intro e
  have h' : (S.take (i + 1))[i]? = some (false, k) := by rw [List.getElem?_take_of_lt (by omega)]; exact h
  have m1 := el_mem (take_good g (i + 1)) h'
  rw [List.take_take, Nat.min_eq_left (by omega)] at m1
  have e2 : S.take j = S.take (i + 1) ++ (S.drop (i + 1)).take (j - (i + 1)) := by
    rw [← List.take_append_drop (i + 1) (S.take j), List.take_take, Nat.min_eq_left (by omega), List.drop_take]
  have gl := g _ (List.mem_of_getElem? h2)
  simp [goodS] at gl
  have q := rem_ge (rms ((S.drop (i + 1)).take (j - (i + 1)))) l
  rw [e, e2, rms_app, rem_app] at m1
  exact rem_notin (rms_pos (take_good g (i + 1))) (by omega) m1
theorem old_inj {S : List Stp} (g : ∀ s ∈ S, goodS s = true) {i j n m : Nat} {k l : Int} (h : S[i]? = some (false, k)) (h2 : S[j]? = some (false, l)) (e : old S n i k = old S m j l) : n = m ∧ i = j := by
  have low : ∀ {i j n m : Nat} {k l : Int}, S[i]? = some (false, k) → S[j]? = some (false, l) → n < m → old S n i k ≠ old S m j l := by
    intro i j n m k l h h2 hnm e
    unfold old at e
    obtain ⟨d, rfl⟩ : ∃ d, m = d + 1 + n := ⟨m - n - 1, by omega⟩
    rw [F_add] at e
    have e' := F_inj _ n e
    rw [F_succ] at e'
    have m1 := el_mem g h
    have p1 := el_pos g h2
    have p2 := F_ge (rms S) d (rem (rms (S.take j)) l)
    rw [e'] at m1
    exact rem_notin (rms_pos g) (by omega) m1
  rcases Nat.lt_trichotomy n m with c | c | c
  · exact absurd e (low h h2 c)
  · subst c
    refine ⟨rfl, ?_⟩
    have e' := F_inj _ n e
    rcases Nat.lt_trichotomy i j with c | c | c
    · exact absurd e' (el_ne g h h2 c)
    · exact c
    · exact absurd e'.symm (el_ne g h2 h c)
  · exact absurd e.symm (low h2 h c)
theorem kr_low {L : List Int} (ha : Asc L) {r : Int} (h : ∀ y ∈ L, r < y) : kr L r = r := by
  unfold kr
  have : cnt (bnds 0 L) r = 0 := cnt_zero fun x hx => by
    have := bnds_ge (i := 0) (x := r + 1) ha (fun y hy => by have := h y hy; omega) x hx
    omega
  omega
theorem F_low {R : List Int} (h : Pos R) {r : Int} (hr : 1 ≤ r) (hl : ∀ y ∈ lost R, r < y) : ∀ n : Nat, F R n r = r
  | 0 => rfl
  | n + 1 => by
    show F R n (rem R r) = r
    rw [← kr_rem h hr, kr_low (lost_ok h).asc hl]
    exact F_low h hr hl n
theorem get_ge {L : List Int} (ha : Asc L) (hp : Pos L) : ∀ (j : Nat) (h : j < L.length), (j : Int) + 1 ≤ L[j]
  | 0, h => by have := hp L[0] (List.getElem_mem h); omega
  | j + 1, h => by
    have := get_ge ha hp j (by omega)
    have := asc_adj.mp ha j h
    omega
/-- removal_of's one turn -/
theorem down_turn {R : List Int} (h : Pos R) {r : Int} {p : Nat} (hp : cnt (lost R) r = p) (hp1 : 1 ≤ p) (hpl : p - 1 < (lost R).length) (hne : (lost R)[p - 1] ≠ r) :
    ∃ m : Nat, (r - (lost R)[p - 1] + p - 1) / (p : Int) = m ∧ 1 ≤ r - (m : Int) * p ∧ r - (m : Int) * p < r ∧ F R m (r - (m : Int) * p) = r := by
  have ok := lost_ok h
  have hu := asc_up ok.asc
  have hle := (up_cnt (c := r) hu (p - 1) hpl).mpr (by omega)
  have hge := get_ge ok.asc ok.pos (p - 1) hpl
  obtain ⟨y, ey⟩ : ∃ y, y = (lost R)[p - 1] := ⟨_, rfl⟩
  rw [← ey] at hle hne hge ⊢
  have d0 : 1 ≤ (r - y + p - 1) / (p : Int) := (Int.le_ediv_iff_mul_le (by omega)).mpr (by omega)
  have d1 : (r - y + p - 1) / (p : Int) * (p : Int) ≤ r - y + p - 1 := Int.ediv_mul_le _ (by omega)
  obtain ⟨m, em⟩ : ∃ m : Nat, (r - y + p - 1) / (p : Int) = m := ⟨((r - y + p - 1) / (p : Int)).toNat, by omega⟩
  rw [em] at d0 d1
  refine ⟨m, em, by omega, ?_, ?_⟩
  · have : (1 : Int) * p ≤ (m : Int) * p := Int.mul_le_mul_of_nonneg_right (by omega) (by omega)
    omega
  · refine go_down h hp hp1 hpl m fun j hj => ?_
    rw [← ey]
    have : (j : Int) * p ≤ ((m : Int) - 1) * p := Int.mul_le_mul_of_nonneg_right (by omega) (by omega)
    rw [Int.sub_mul] at this
    omega
end Rem

namespace Rem
open Tbl Eff XT
/-- all removals of n repetitions -/
def rp (R : List Int) : Nat → List Int
  | 0 => []
  | n + 1 => rp R n ++ R
theorem F_rp (R : List Int) : ∀ (n : Nat) (x : Int), rem (rp R n) x = F R n x
  | 0, _ => rfl
  | n + 1, x => by
    show rem (rp R n ++ R) x = F R n (rem R x)
    rw [rem_app, F_rp R n]
theorem rp_len (R : List Int) : ∀ n : Nat, (rp R n).length = n * R.length
  | 0 => by simp [rp]
  | n + 1 => by show (rp R n ++ R).length = _; rw [List.length_append, rp_len R n, Nat.succ_mul]
/-- every lost rank is that of a removal -/
theorem mem_el : ∀ {R : List Int} {x : Int}, sm R x = sm R (x - 1) → ∃ A k B, R = A ++ k :: B ∧ x = rem A k
  | [], x, h => by simp [sm] at h; omega
  | k :: R, x, h => by
    have h' : sm R (s1 k x) = sm R (s1 k (x - 1)) := h
    by_cases e : x = k
    · exact ⟨[], k, R, rfl, e⟩
    · have e2 : s1 k (x - 1) = s1 k x - 1 := by unfold s1; split <;> split <;> omega
      rw [e2] at h'
      obtain ⟨A, l, B, rfl, hx⟩ := mem_el h'
      refine ⟨k :: A, l, B, rfl, ?_⟩
      show x = r1 k (rem A l)
      rw [← hx]
      unfold s1 r1
      split <;> split <;> omega
theorem rms_split : ∀ {S : List Stp} {A : List Int} {k : Int} {B : List Int}, rms S = A ++ k :: B → ∃ i : Nat, S[i]? = some (false, k) ∧ rms (S.take i) = A
  | [], A, k, B, h => by
    have := congrArg List.length h
    simp [rms] at this
  | (true, n) :: S, A, k, B, h => by
    obtain ⟨i, h1, h2⟩ := rms_split (S := S) h
    exact ⟨i + 1, h1, h2⟩
  | (false, n) :: S, [], k, B, h => by
    have h' : n :: rms S = k :: B := h
    injection h' with e1 e2
    exact ⟨0, by rw [e1]; rfl, rfl⟩
  | (false, n) :: S, x :: A, k, B, h => by
    have h' : n :: rms S = x :: (A ++ k :: B) := h
    injection h' with e1 e2
    obtain ⟨i, h1, h2⟩ := rms_split (S := S) e2
    refine ⟨i + 1, h1, ?_⟩
    show n :: rms (S.take i) = x :: A
    rw [h2, e1]
theorem lost_el {S : List Stp} (g : ∀ s ∈ S, goodS s = true) {x : Int} (h : x ∈ lost (rms S)) : ∃ (i : Nat) (k : Int), S[i]? = some (false, k) ∧ x = rem (rms (S.take i)) k := by
  have hp := rms_pos g
  have hx : 1 ≤ x := (lost_ok hp).pos x h
  obtain ⟨A, k, B, e, ex⟩ := mem_el ((lost_mem hp hx).mp h)
  obtain ⟨i, h1, h2⟩ := rms_split e
  exact ⟨i, k, h1, by rw [h2, ex]⟩
/-- beyond all ranks -/
theorem rem_far : ∀ {R : List Int} {p : Int}, (∀ k ∈ R, k ≤ p) → rem R p = p + R.length
  | [], p, _ => by simp [rem]
  | k :: R, p, h => by
    have := h k List.mem_cons_self
    show r1 k (rem R p) = _
    rw [rem_far fun x hx => h x (List.mem_cons_of_mem _ hx), List.length_cons]
    unfold r1
    rw [if_neg (by omega)]
    omega
theorem F_far {R : List Int} {p : Int} (h : ∀ k ∈ R, k ≤ p) : ∀ n : Nat, F R n p = p + (n : Int) * R.length
  | 0 => by simp [F]
  | n + 1 => by
    have ih := F_far h n
    have nn : 0 ≤ (n : Int) * (R.length : Int) := Int.mul_nonneg (Int.natCast_nonneg _) (Int.natCast_nonneg _)
    rw [F_succ, ih, rem_far fun k hk => by have := h k hk; omega]
    have : ((n + 1 : Nat) : Int) * (R.length : Int) = (n : Int) * R.length + R.length := by rw [Int.natCast_add, Int.add_mul]; omega
    omega
/-- what is left of the first m natural numbers (from 1) -/
def left (Q : List Int) (m : Nat) : List Int := (List.range m).map fun p : Nat => rem Q ((p : Int) + 1)
theorem left_get {Q : List Int} {m j : Nat} (h : j < m) : (left Q m)[j]? = some (rem Q ((j : Int) + 1)) := by
  unfold left
  rw [List.getElem?_map, List.getElem?_range h]
  rfl
theorem left_pop {Q : List Int} {m j : Nat} (h : j < m + 1) : (left Q (m + 1)).eraseIdx j = left (Q ++ [(j : Int) + 1]) m := by
  apply List.ext_getElem?
  intro i
  have r : ∀ i : Nat, rem (Q ++ [(j : Int) + 1]) ((i : Int) + 1) = rem Q (if i < j then (i : Int) + 1 else (i : Int) + 2) := fun i => by
    rw [rem_app]
    show rem Q (r1 ((j : Int) + 1) ((i : Int) + 1)) = _
    unfold r1
    by_cases c : i < j
    · rw [if_pos (by omega), if_pos c]
    · rw [if_neg (by omega), if_neg c]
      congr 1
      skip
  rw [List.getElem?_eraseIdx]
  by_cases c : i < j
  · rw [if_pos c, left_get (by omega), left_get (by omega), r, if_pos c]
  · rw [if_neg c]
    by_cases c2 : i < m
    · rw [left_get (by omega), left_get c2, r, if_neg c]
      congr 2
      skip
    · unfold left
      rw [List.getElem?_eq_none (by simp; omega), List.getElem?_eq_none (by simp; omega)]
/-- the removals of one repetition as the law tells them -/
def tel (S : List Stp) (t : Nat) (n : Nat) : List (Nat × Nat × Int) := (List.range n).filterMap fun i => match S[i]? with
  | some (false, k) => some (t, i, old S t i k)
  | _ => none
def tells (S : List Stp) : Nat → List (Nat × Nat × Int)
  | 0 => []
  | t + 1 => tells S t ++ tel S t S.length
theorem tel_succ (S : List Stp) (t n : Nat) : tel S t (n + 1) = tel S t n ++ (match S[n]? with
  | some (false, k) => [(t, n, old S t n k)]
  | _ => []) := by
  unfold tel
  rw [List.range_succ, List.filterMap_append]
  congr 1
  rcases h : S[n]? with _ | ⟨b, k⟩
  · simp [h]
  · cases b <;> simp [h]
theorem tel_mem {S : List Stp} {t n : Nat} {x : Nat × Nat × Int} : x ∈ tel S t n ↔ ∃ i k, i < n ∧ S[i]? = some (false, k) ∧ x = (t, i, old S t i k) := by
  unfold tel
  rw [List.mem_filterMap]
  constructor
  · rintro ⟨i, hi, e⟩
    rcases h : S[i]? with _ | ⟨b, k⟩
    · rw [h] at e; cases e
    · rw [h] at e
      cases b with
      | true => cases e
      | false =>
        cases e
        exact ⟨i, k, List.mem_range.mp hi, h, rfl⟩
  · rintro ⟨i, k, hi, h, rfl⟩
    exact ⟨i, List.mem_range.mpr hi, by rw [h]⟩
theorem tells_mem {S : List Stp} : ∀ {T : Nat} {x : Nat × Nat × Int}, x ∈ tells S T ↔ ∃ t i k, t < T ∧ S[i]? = some (false, k) ∧ x = (t, i, old S t i k)
  | 0, x => ⟨(fun h => by cases h), (fun ⟨t, i, k, h, _⟩ => absurd h (Nat.not_lt_zero _))⟩
  | T + 1, x => by
    show x ∈ tells S T ++ tel S T S.length ↔ _
    rw [List.mem_append, tells_mem, tel_mem]
    constructor
    · rintro (⟨t, i, k, h1, h2, h3⟩ | ⟨i, k, h1, h2, h3⟩)
      · exact ⟨t, i, k, by omega, h2, h3⟩
      · exact ⟨T, i, k, by omega, h2, h3⟩
    · rintro ⟨t, i, k, h1, h2, h3⟩
      by_cases e : t = T
      · subst e
        exact .inr ⟨i, k, (List.getElem?_eq_some_iff.mp h2).1, h2, h3⟩
      · exact .inl ⟨t, i, k, by omega, h2, h3⟩
theorem tel_len (S : List Stp) (t n : Nat) : (tel S t n).length ≤ n := Nat.le_trans (List.length_filterMap_le _ _) (by simp)
theorem tells_len (S : List Stp) : ∀ T : Nat, (tells S T).length ≤ T * S.length
  | 0 => by simp [tells]
  | T + 1 => by
    have := tells_len S T
    have := tel_len S T S.length
    show (tells S T ++ tel S T S.length).length ≤ _
    rw [List.length_append, Nat.succ_mul]
    omega
theorem rem_le : ∀ (R : List Int) (p : Int), rem R p ≤ p + R.length
  | [], p => by simp [rem]
  | k :: R, p => by
    have := rem_le R p
    show r1 k (rem R p) ≤ _
    rw [List.length_cons]
    unfold r1
    split <;> omega
theorem F_le (R : List Int) : ∀ (n : Nat) (p : Int), F R n p ≤ p + (n : Int) * R.length
  | 0, p => by simp [F]
  | n + 1, p => by
    have h1 := F_le R n p
    have h2 := rem_le R (F R n p)
    have : ((n + 1 : Nat) : Int) * (R.length : Int) = (n : Int) * R.length + R.length := by rw [Int.natCast_add, Int.add_mul]; omega
    rw [F_succ]
    omega
theorem old_le (S : List Stp) (n i : Nat) (k : Int) : old S n i k ≤ k + S.length + (n : Int) * S.length := by
  have h1 := F_le (rms S) n (rem (rms (S.take i)) k)
  have h2 := rem_le (rms (S.take i)) k
  have h3 := rms_len S
  have h4 := rms_len (S.take i)
  rw [List.length_take] at h4
  have h5 : (n : Int) * (rms S).length ≤ (n : Int) * S.length := Int.mul_le_mul_of_nonneg_left (by omega) (by omega)
  unfold old
  omega
/-- what a step removes is not below all lost ranks -/
theorem old_ge {S : List Stp} (g : ∀ s ∈ S, goodS s = true) {n i : Nat} {k : Int} (h : S[i]? = some (false, k)) : ∃ y ∈ lost (rms S), y ≤ old S n i k := ⟨_, el_mem g h, F_ge _ _ _⟩
end Rem

namespace Rem
open Tbl Eff XT
theorem rem_up {R : List Int} (h : Pos R) {x : Int} (hx : 1 ≤ x) (hy : ∃ y ∈ lost R, y ≤ x) : x + 1 ≤ rem R x := by
  have g := rem_ge R x
  by_cases e : rem R x = x
  · obtain ⟨e1, _⟩ := sm_rem R x
    rw [e] at e1
    have e2 := lost_cnt h (c := x) (by omega)
    obtain ⟨y, hy1, hy2⟩ := hy
    have : 1 ≤ cnt (lost R) x := by
      unfold cnt
      have : 0 < (lost R).countP fun z => decide (z ≤ x) := List.countP_pos_iff.mpr ⟨y, hy1, decide_eq_true hy2⟩
      omega
    omega
  · omega
theorem F_up {R : List Int} (h : Pos R) : ∀ (n : Nat) {x : Int}, 1 ≤ x → (∃ y ∈ lost R, y ≤ x) → x + n ≤ F R n x
  | 0, x, _, _ => by simp [F]
  | n + 1, x, hx, hy => by
    have u := rem_up h hx hy
    obtain ⟨y, hy1, hy2⟩ := hy
    have := F_up h n (x := rem R x) (by omega) ⟨y, hy1, by omega⟩
    show x + ((n + 1 : Nat) : Int) ≤ F R n (rem R x)
    omega
theorem old_n {S : List Stp} (g : ∀ s ∈ S, goodS s = true) {n i : Nat} {k : Int} (h : S[i]? = some (false, k)) : (n : Int) + 1 ≤ old S n i k := by
  have p := el_pos g h
  have := F_up (rms_pos g) n p ⟨_, el_mem g h, Int.le_refl _⟩
  unfold old
  omega
theorem old_lin {S : List Stp} (g : ∀ s ∈ S, goodS s = true) {near d i : Nat} {k : Int} (h : S[i]? = some (false, k)) (hb : ∀ x ∈ rms S, x ≤ (near : Int) + 1) : old S (near + d) i k = old S near i k + (d : Int) * (rms S).length := by
  have n1 := old_n g (n := near) h
  unfold old at n1 ⊢
  rw [F_add, F_far fun x hx => by have := hb x hx; omega]
theorem old_succ {S : List Stp} {n i : Nat} {k : Int} (hb : ∀ x ∈ rms S, x ≤ old S n i k) : old S (n + 1) i k = old S n i k + (rms S).length := by
  unfold old at hb ⊢
  rw [F_succ, rem_far hb]
theorem rms_le {S : List Stp} {b : Int} (h : ∀ s ∈ S, s.2 ≤ b) : ∀ x ∈ rms S, x ≤ b := by
  intro x hx
  obtain ⟨s, hs, e⟩ := List.mem_filterMap.mp hx
  obtain ⟨c, n⟩ := s
  cases c with
  | true => simp at e
  | false => simp at e; subst e; exact h _ hs
theorem lost_le {S : List Stp} (g : ∀ s ∈ S, goodS s = true) {b : Int} (h : ∀ s ∈ S, s.2 ≤ b) : ∀ y ∈ lost (rms S), y ≤ b + S.length := by
  intro y hy
  obtain ⟨i, k, hk, rfl⟩ := lost_el g hy
  have h1 := rem_le (rms (S.take i)) k
  have h2 := rms_len (S.take i)
  rw [List.length_take] at h2
  have h3 := h _ (List.mem_of_getElem? hk)
  simp only at h3
  omega
/-- one removal alone, behind an insertion -/
abbrev one (x G : Int) : List Stp := [(true, x), (false, G)]
theorem old_one {x G : Int} (n : Nat) : old (one x G) n 1 G = G + n := by
  show F [G] n (rem [] G) = _
  have : ∀ k ∈ [G], k ≤ rem [] G := fun k hk => by rw [List.mem_singleton.mp hk]; exact Int.le_refl _
  rw [F_far this]
  show G + (n : Int) * 1 = _
  omega
theorem lost_one {x G : Int} (g : ∀ s ∈ one x G, goodS s = true) {y : Int} (h : y ∈ lost (rms (one x G))) : y = G := by
  obtain ⟨i, k, hk, rfl⟩ := lost_el g h
  match i, hk with
  | 0, hk => simp at hk
  | 1, hk => simp at hk; subst hk; rfl
  | i + 2, hk => simp at hk
theorem one_at {x G : Int} {i : Nat} {k : Int} (hk : (one x G)[i]? = some (false, k)) : i = 1 ∧ k = G := by
  match i, hk with
  | 0, hk => simp at hk
  | 1, hk => simp at hk; exact ⟨rfl, hk.symm⟩
  | i + 2, hk => simp at hk
end Rem

namespace Norm
open Tbl Eff XT Rem
/-- the longest parts, one step more -/
def padd (P : List (List Stp)) (s : Stp) : List (List Stp) := match P.getLast? with
  | some l => if (l.head?.map (·.1)) = some s.1 then P.dropLast ++ [l ++ [s]] else P ++ [[s]]
  | none => [[s]]
def parts (S : List Stp) : List (List Stp) := S.foldl padd []
theorem padd_nil (s : Stp) : padd [] s = [[s]] := rfl
theorem padd_snoc (M : List (List Stp)) (l : List Stp) (s : Stp) : padd (M ++ [l]) s = if (l.head?.map (·.1)) = some s.1 then M ++ [l ++ [s]] else M ++ [l] ++ [[s]] := by
  unfold padd
  rw [List.getLast?_concat]
  simp
theorem parts_snoc (S : List Stp) (s : Stp) : parts (S ++ [s]) = padd (parts S) s := by unfold parts; rw [List.foldl_append]; rfl
/-- not empty, all of the kind b -/
def Kd (b : Bool) (l : List Stp) : Prop := l ≠ [] ∧ ∀ s ∈ l, s.1 = b
theorem Kd.head {b : Bool} {l : List Stp} (h : Kd b l) : l.head?.map (·.1) = some b := by
  cases l with
  | nil => exact absurd rfl h.1
  | cons s l => simp; exact h.2 s List.mem_cons_self
/-- neighboring parts are of different kinds -/
def Alt : Option Bool → List (List Stp) → Prop
  | _, [] => True
  | k, l :: L => ∃ b, Kd b l ∧ k ≠ some b ∧ Alt (some b) L
def lastK : Option Bool → List (List Stp) → Option Bool
  | k, [] => k
  | _, l :: L => lastK (l.head?.map (·.1)) L
theorem fold_kd {b : Bool} : ∀ {m : List Stp} {M : List (List Stp)} {l : List Stp}, Kd b l → (∀ s ∈ m, s.1 = b) → m.foldl padd (M ++ [l]) = M ++ [l ++ m]
  | [], M, l, _, _ => by simp
  | s :: m, M, l, hl, h => by
    have hs := h s List.mem_cons_self
    show m.foldl padd (padd (M ++ [l]) s) = _
    rw [padd_snoc, if_pos (by rw [hl.head, hs]), fold_kd (l := l ++ [s]) ⟨by simp, fun t ht => (List.mem_append.mp ht).elim (hl.2 t) fun z => by rw [List.mem_singleton.mp z]; exact hs⟩ fun t ht => h t (List.mem_cons_of_mem _ ht)]
    rw [List.append_assoc]
    rfl
/-- the last part of M is of kind k -/
def EndK (k : Option Bool) (M : List (List Stp)) : Prop := match k with
  | none => M = []
  | some b => ∃ N l, M = N ++ [l] ∧ Kd b l
theorem fold_alt : ∀ {L : List (List Stp)} {k : Option Bool} {M : List (List Stp)}, Alt k L → EndK k M → L.flatten.foldl padd M = M ++ L
  | [], k, M, _, _ => by simp
  | l :: L, k, M, ⟨b, hk, hne, ha⟩, he => by
    obtain ⟨s, m, rfl⟩ : ∃ s m, l = s :: m := by
      cases l with
      | nil => exact absurd rfl hk.1
      | cons s m => exact ⟨s, m, rfl⟩
    have hs : s.1 = b := hk.2 s List.mem_cons_self
    have first : padd M s = M ++ [[s]] := by
      cases k with
      | none =>
        have : M = [] := he
        rw [this]; rfl
      | some c =>
        obtain ⟨N, l2, rfl, hl2⟩ := he
        rw [padd_snoc, if_neg]
        rw [hl2.head, hs]
        exact fun z => hne z
    show (s :: m ++ L.flatten).foldl padd M = _
    rw [List.cons_append]
    show (m ++ L.flatten).foldl padd (padd M s) = _
    rw [first, List.foldl_append, fold_kd (b := b) ⟨by simp, fun t ht => by rw [List.mem_singleton.mp ht]; exact hs⟩ fun t ht => hk.2 t (List.mem_cons_of_mem _ ht)]
    have := fold_alt (M := M ++ [[s] ++ m]) ha ⟨M, [s] ++ m, rfl, hk⟩
    rw [this]
    simp
theorem parts_flat {L : List (List Stp)} (h : Alt none L) : parts L.flatten = L := by
  have := fold_alt (M := []) h rfl
  rw [List.nil_append] at this
  exact this
theorem alt_snoc : ∀ {L : List (List Stp)} {k : Option Bool} {l : List Stp} {b : Bool}, Alt k (L ++ [l]) → Kd b l → ∀ s : Stp, (s.1 = b → Alt k (L ++ [l ++ [s]])) ∧ (s.1 ≠ b → Alt k (L ++ [l] ++ [[s]]))
  | [], k, l, b, ⟨c, hc, hne, _⟩, hb, s => by
    have e : c = b := by
      have h1 := hc.head
      rw [hb.head] at h1
      exact (Option.some.inj h1).symm
    subst e
    refine ⟨fun hs => ⟨c, ⟨by simp, fun t ht => (List.mem_append.mp ht).elim (hc.2 t) fun z => by rw [List.mem_singleton.mp z]; exact hs⟩, hne, trivial⟩, fun hs => ⟨c, hc, hne, s.1, ⟨by simp, fun t ht => by rw [List.mem_singleton.mp ht]⟩, fun z => hs (Option.some.inj z).symm, trivial⟩⟩
  | m :: L, k, l, b, ⟨c, hc, hne, ha⟩, hb, s => by
    obtain ⟨h1, h2⟩ := alt_snoc ha hb s
    exact ⟨fun hs => ⟨c, hc, hne, h1 hs⟩, fun hs => ⟨c, hc, hne, h2 hs⟩⟩
theorem parts_kd {S : List Stp} : ∀ l ∈ parts S, ∃ b, Kd b l := by
  have : ∀ (m : List Stp) (P : List (List Stp)), (∀ l ∈ P, ∃ b, Kd b l) → ∀ l ∈ m.foldl padd P, ∃ b, Kd b l := by
    intro m
    induction m with
    | nil => intro P h; exact h
    | cons s m ih =>
      intro P h
      refine ih (padd P s) ?_
      rcases List.eq_nil_or_concat P with e | ⟨M, l, e⟩
      · subst e
        intro l hl
        rw [padd_nil] at hl
        rw [List.mem_singleton.mp hl]
        exact ⟨s.1, by simp, fun t ht => by rw [List.mem_singleton.mp ht]⟩
      · rw [List.concat_eq_append] at e
        subst e
        obtain ⟨b, hb⟩ := h l (by simp)
        rw [padd_snoc]
        split
        · rename_i hh
          rw [hb.head] at hh
          have hs := Option.some.inj hh
          intro l2 hl2
          rcases List.mem_append.mp hl2 with hl2 | hl2
          · exact h l2 (List.mem_append_left _ hl2)
          · rw [List.mem_singleton.mp hl2]
            exact ⟨b, by simp, fun t ht => (List.mem_append.mp ht).elim (hb.2 t) fun z => by rw [List.mem_singleton.mp z]; exact hs.symm⟩
        · intro l2 hl2
          rcases List.mem_append.mp hl2 with hl2 | hl2
          · exact h l2 hl2
          · rw [List.mem_singleton.mp hl2]
            exact ⟨s.1, by simp, fun t ht => by rw [List.mem_singleton.mp ht]⟩
  exact this S [] fun l hl => by cases hl
theorem parts_alt (S : List Stp) : Alt none (parts S) ∧ (parts S).flatten = S := by
  have : ∀ (n : Nat) (S : List Stp), S.length = n → Alt none (parts S) ∧ (parts S).flatten = S := by
    intro n
    induction n with
    | zero => intro S h; cases S with
      | nil => exact ⟨trivial, rfl⟩
      | cons s S => simp at h
    | succ n ih =>
      intro S h
      rcases List.eq_nil_or_concat S with e | ⟨T, s, e⟩
      · subst e; simp at h
      · rw [List.concat_eq_append] at e
        subst e
        rw [List.length_append, List.length_singleton] at h
        obtain ⟨h1, h2⟩ := ih T (by omega)
        rw [parts_snoc]
        rcases List.eq_nil_or_concat (parts T) with e | ⟨M, l, e⟩
        · rw [e] at h2 ⊢
          have : T = [] := by simpa using h2.symm
          subst this
          exact ⟨⟨s.1, ⟨by simp, fun t ht => by rw [List.mem_singleton.mp ht]⟩, by simp, trivial⟩, rfl⟩
        · rw [List.concat_eq_append] at e
          obtain ⟨b, hb⟩ := parts_kd (S := T) l (by rw [e]; simp)
          rw [e] at h1 h2 ⊢
          obtain ⟨a1, a2⟩ := alt_snoc h1 hb s
          rw [padd_snoc, hb.head]
          split
          · rename_i hh
            refine ⟨a1 (Option.some.inj hh).symm, ?_⟩
            have h3 : M.flatten ++ l = T := by simpa using h2
            simp only [List.flatten_append, List.flatten_cons, List.flatten_nil, List.append_nil]
            rw [← List.append_assoc, h3]
          · rename_i hh
            refine ⟨a2 fun z => hh (by rw [z]), ?_⟩
            rw [List.flatten_append, h2]
            rfl
  exact this _ S rfl
/-- the normal form of a part -/
def npart (l : List Stp) : List Stp := match l with
  | [] => []
  | (true, _) :: _ => (srt (l.map (·.2))).map fun n => (true, n)
  | (false, _) :: _ => (lost (l.map (·.2))).reverse.map fun n => (false, n)
theorem npart_t {l : List Stp} (h : Kd true l) : npart l = (srt (l.map (·.2))).map fun n => (true, n) := by
  cases l with
  | nil => exact absurd rfl h.1
  | cons s l =>
    obtain ⟨b, n⟩ := s
    have : b = true := h.2 _ List.mem_cons_self
    subst this
    rfl
theorem npart_f {l : List Stp} (h : Kd false l) : npart l = (lost (l.map (·.2))).reverse.map fun n => (false, n) := by
  cases l with
  | nil => exact absurd rfl h.1
  | cons s l =>
    obtain ⟨b, n⟩ := s
    have : b = false := h.2 _ List.mem_cons_self
    subst this
    rfl
def NF (S : List Stp) : List Stp := ((parts S).map npart).flatten
theorem kd_pos {l : List Stp} (h : Kd false l) (g : ∀ s ∈ l, goodS s = true) : Pos (l.map (·.2)) := by
  intro x hx
  obtain ⟨s, hs, rfl⟩ := List.mem_map.mp hx
  have gs := g s hs
  have k := h.2 s hs
  obtain ⟨b, n⟩ := s
  simp only at k
  subst k
  simp [goodS] at gs
  show 1 ≤ n
  omega
theorem npart_kd {b : Bool} {l : List Stp} (h : Kd b l) (g : ∀ s ∈ l, goodS s = true) : Kd b (npart l) ∧ (∀ s ∈ npart l, goodS s = true) ∧ (npart l).length = l.length := by
  have h0 : 0 < l.length := List.length_pos_iff.mpr h.1
  cases b with
  | true =>
    rw [npart_t h]
    have e : ((srt (l.map (·.2))).map fun n => ((true, n) : Stp)).length = l.length := by rw [List.length_map, srt_len, List.length_map]
    refine ⟨⟨fun z => by rw [z] at e; simp at e; omega, fun s hs => ?_⟩, fun s hs => ?_, e⟩
    · obtain ⟨n, _, rfl⟩ := List.mem_map.mp hs; rfl
    · obtain ⟨n, _, rfl⟩ := List.mem_map.mp hs; rfl
  | false =>
    rw [npart_f h]
    have hp := kd_pos h g
    have e : ((lost (l.map (·.2))).reverse.map fun n => ((false, n) : Stp)).length = l.length := by rw [List.length_map, List.length_reverse, lost_len hp, List.length_map]
    refine ⟨⟨fun z => by rw [z] at e; simp at e; omega, fun s hs => ?_⟩, fun s hs => ?_, e⟩
    · obtain ⟨n, _, rfl⟩ := List.mem_map.mp hs; rfl
    · obtain ⟨n, hn, rfl⟩ := List.mem_map.mp hs
      have := (lost_ok hp).pos n (List.mem_reverse.mp hn)
      simp [goodS]
      omega
theorem parts_good {S : List Stp} (g : ∀ s ∈ S, goodS s = true) : ∀ l ∈ parts S, ∀ s ∈ l, goodS s = true := by
  intro l hl s hs
  refine g s ?_
  rw [← (parts_alt S).2]
  exact List.mem_flatten.mpr ⟨l, hl, hs⟩
theorem alt_map : ∀ {L : List (List Stp)} {k : Option Bool}, Alt k L → (∀ l ∈ L, ∀ s ∈ l, goodS s = true) → Alt k (L.map npart)
  | [], _, _, _ => trivial
  | l :: L, k, ⟨b, hk, hne, ha⟩, g => ⟨b, (npart_kd hk (g l List.mem_cons_self)).1, hne, alt_map ha fun m hm => g m (List.mem_cons_of_mem _ hm)⟩
theorem nf_good {S : List Stp} (g : ∀ s ∈ S, goodS s = true) : ∀ s ∈ NF S, goodS s = true := by
  intro s hs
  obtain ⟨m, hm, hsm⟩ := List.mem_flatten.mp hs
  obtain ⟨l, hl, rfl⟩ := List.mem_map.mp hm
  obtain ⟨b, hb⟩ := parts_kd l hl
  exact (npart_kd hb (parts_good g l hl)).2.1 s hsm
theorem len_eq : ∀ (L : List (List Stp)), (∀ l ∈ L, (npart l).length = l.length) → (L.map npart).flatten.length = L.flatten.length
  | [], _ => rfl
  | l :: L, h => by
    show (npart l ++ (L.map npart).flatten).length = (l ++ L.flatten).length
    rw [List.length_append, List.length_append, h l List.mem_cons_self, len_eq L fun m hm => h m (List.mem_cons_of_mem _ hm)]
theorem nf_len {S : List Stp} (g : ∀ s ∈ S, goodS s = true) : (NF S).length = S.length := by
  unfold NF
  rw [len_eq _ fun l hl => by
    obtain ⟨b, hb⟩ := parts_kd l hl
    exact (npart_kd hb (parts_good g l hl)).2.2, (parts_alt S).2]
/-- removals from the top downwards remove their ranks -/
theorem rem_desc : ∀ {A : List Int} {p : Int}, (∀ x ∈ A, p < x) → rem A p = p
  | [], _, _ => rfl
  | x :: A, p, h => by
    show r1 x (rem A p) = p
    rw [rem_desc fun y hy => h y (List.mem_cons_of_mem _ hy)]
    unfold r1
    rw [if_pos (h x List.mem_cons_self)]
theorem lost_desc {A : List Int} (ha : Asc A) (hp : Pos A) : lost A.reverse = A := by
  have hr : Pos A.reverse := fun x hx => hp x (List.mem_reverse.mp hx)
  have desc : A.reverse.Pairwise (· > ·) := List.pairwise_reverse.mpr ha
  refine asc_ext (lost_ok hr).asc ha fun x => ⟨fun hx => ?_, fun hx => ?_⟩
  · have x1 := (lost_ok hr).pos x hx
    obtain ⟨B, k, C, e, ex⟩ := mem_el ((lost_mem hr x1).mp hx)
    rw [e] at desc
    have : ∀ y ∈ B, k < y := fun y hy => (List.pairwise_append.mp desc).2.2 y hy k List.mem_cons_self
    rw [rem_desc this] at ex
    subst ex
    have : x ∈ A.reverse := by rw [e]; simp
    exact List.mem_reverse.mp this
  · obtain ⟨B, C, e⟩ := List.append_of_mem (List.mem_reverse.mpr hx)
    rw [e] at desc hr ⊢
    have h2 : ∀ y ∈ B, x < y := fun y hy => (List.pairwise_append.mp desc).2.2 y hy x List.mem_cons_self
    have := el_in hr
    rw [rem_desc h2] at this
    exact this
theorem npart_npart {b : Bool} {l : List Stp} (h : Kd b l) (g : ∀ s ∈ l, goodS s = true) : npart (npart l) = npart l := by
  have k2 := (npart_kd h g).1
  cases b with
  | true =>
    rw [npart_t k2, npart_t h, List.map_map]
    have e : (srt (l.map (·.2))).map ((·.2) ∘ fun n => ((true, n) : Stp)) = srt (l.map (·.2)) := by
      rw [show ((fun s : Stp => s.2) ∘ fun n => ((true, n) : Stp)) = id from rfl, List.map_id]
    rw [e, ← srt_of (List.Perm.refl _) (up_srt _)]
  | false =>
    have hp := kd_pos h g
    rw [npart_f k2, npart_f h, List.map_map]
    have e : (lost (l.map (·.2))).reverse.map ((·.2) ∘ fun n => ((false, n) : Stp)) = (lost (l.map (·.2))).reverse := by
      rw [show ((fun s : Stp => s.2) ∘ fun n => ((false, n) : Stp)) = id from rfl, List.map_id]
    rw [e, lost_desc (lost_ok hp).asc (lost_ok hp).pos]
theorem nf_nf {S : List Stp} (g : ∀ s ∈ S, goodS s = true) : NF (NF S) = NF S := by
  obtain ⟨h1, h2⟩ := parts_alt S
  have pg := parts_good g
  have e : parts (NF S) = (parts S).map npart := parts_flat (alt_map h1 pg)
  show ((parts (NF S)).map npart).flatten = _
  rw [e, List.map_map]
  unfold NF
  congr 1
  refine List.map_congr_left fun l hl => ?_
  obtain ⟨b, hb⟩ := parts_kd l hl
  exact npart_npart hb (pg l hl)
/-- what the law finds removed, sorted -/
theorem srt_gone {R : List Int} (h : Pos R) {Gs : List Int} (e : Gs.length = R.length) (hg : ∀ (i : Nat) x, Gs[i]? = some x → ∃ k, R[i]? = some k ∧ x = rem (R.take i) k) : srt Gs = lost R := by
  have ok := lost_ok h
  have g := stp_good h
  have rms_stp : ∀ A : List Int, rms (stp A) = A := fun A => by
    induction A with
    | nil => rfl
    | cons x A ih => show x :: rms (stp A) = x :: A; rw [ih]
  have stp_take : ∀ (A : List Int) i, (stp A).take i = stp (A.take i) := fun A i => by unfold stp; rw [List.map_take]
  have stp_get : ∀ (A : List Int) (i : Nat) k, A[i]? = some k → (stp A)[i]? = some (false, k) := fun A i k hk => by unfold stp; rw [List.getElem?_map, hk]; rfl
  have nd : Gs.Nodup := by
    refine List.pairwise_iff_getElem.mpr fun i j hi2 hj2 hij z' => ?_
    obtain ⟨k, hk, ek⟩ := hg i _ (List.getElem?_eq_getElem hi2)
    obtain ⟨m, hm, em⟩ := hg j _ (List.getElem?_eq_getElem hj2)
    rw [ek, em] at z'
    have := el_ne g (stp_get R i k hk) (stp_get R j m hm) hij
    rw [stp_take, stp_take, rms_stp, rms_stp] at this
    exact this z'
  refine asc_ext (up_nodup (up_srt Gs) ((srt_perm Gs).nodup_iff.mpr nd)) ok.asc fun x => ?_
  rw [(srt_perm Gs).mem_iff]
  constructor
  · intro hx
    obtain ⟨i, hi⟩ := List.getElem?_of_mem hx
    obtain ⟨k, hk, rfl⟩ := hg i x hi
    have := el_mem g (stp_get R i k hk)
    rw [stp_take, rms_stp, rms_stp] at this
    exact this
  · intro hx
    obtain ⟨A, k, B, eR, ex⟩ := mem_el ((lost_mem h (ok.pos x hx)).mp hx)
    have hi : R[A.length]? = some k := by rw [eR]; simp
    have hl : A.length < Gs.length := by rw [e, eR]; simp
    obtain ⟨k', hk', ey⟩ := hg A.length _ (List.getElem?_eq_getElem hl)
    rw [hi] at hk'
    cases hk'
    rw [eR, List.take_append_of_le_length (Nat.le_refl _), List.take_length] at ey
    rw [ex, ← ey]
    exact List.getElem_mem hl
end Norm

namespace Exc
open Tbl Eff XT
/-- two neighboring steps of one kind, exchanged -/
def ex (a b : Stp) : Stp × Stp := if a.1 = true then (b, a) else if a.2 ≤ b.2 then ((false, b.2 + 1), a) else (b, (false, a.2 - 1))
theorem smp1_f (t c k : Int) : smp1 t c (false, k) = if k ≤ c then c - 1 else c := by unfold smp1; rw [if_neg (by simp)]
theorem ex_smp {t c : Int} {a b : Stp} (h : a.1 = b.1) (ga : goodS a = true) (gb : goodS b = true) : smp1 t (smp1 t c (ex a b).1) (ex a b).2 = smp1 t (smp1 t c a) b := by
  obtain ⟨x, j⟩ := a
  obtain ⟨y, k⟩ := b
  simp only at h
  subst h
  cases x with
  | true =>
    simp only [ex, if_true, smp1]
    split <;> split <;> omega
  | false =>
    simp [goodS] at ga gb
    unfold ex
    rw [if_neg (by simp)]
    by_cases hjk : j ≤ k
    · rw [if_pos (show (false, j).2 ≤ (false, k).2 from hjk)]
      simp only [smp1_f]
      split <;> split <;> (try split) <;> (try split) <;> omega
    · rw [if_neg (show ¬ (false, j).2 ≤ (false, k).2 from hjk)]
      simp only [smp1_f]
      split <;> split <;> (try split) <;> (try split) <;> omega
theorem ex_good {a b : Stp} (h : a.1 = b.1) (ga : goodS a = true) (gb : goodS b = true) : goodS (ex a b).1 = true ∧ goodS (ex a b).2 = true := by
  obtain ⟨x, j⟩ := a
  obtain ⟨y, k⟩ := b
  simp only at h
  subst h
  cases x with
  | true => exact ⟨rfl, rfl⟩
  | false =>
    simp [goodS] at ga gb
    unfold ex
    rw [if_neg (by simp)]
    split
    · simp [goodS]; omega
    · rename_i hh
      simp at hh
      simp [goodS]; omega
theorem ex_kind {a b : Stp} (h : a.1 = b.1) : (ex a b).1.1 = a.1 ∧ (ex a b).2.1 = a.1 := by
  obtain ⟨x, j⟩ := a
  obtain ⟨y, k⟩ := b
  simp only at h
  subst h
  unfold ex
  cases x with
  | true => exact ⟨rfl, rfl⟩
  | false => rw [if_neg (by simp)]; split <;> exact ⟨rfl, rfl⟩
theorem ex_ex {a b : Stp} (h : a.1 = b.1) : ex (ex a b).1 (ex a b).2 = (a, b) := by
  obtain ⟨x, j⟩ := a
  obtain ⟨y, k⟩ := b
  simp only at h
  subst h
  cases x with
  | true => rfl
  | false =>
    by_cases hjk : j ≤ k
    · have e : ex (false, j) (false, k) = ((false, k + 1), (false, j)) := by unfold ex; rw [if_neg (by simp), if_pos (show (false, j).2 ≤ (false, k).2 from hjk)]
      rw [e]
      unfold ex
      rw [if_neg (by simp), if_neg (show ¬ ((false, k + 1) : Stp).2 ≤ ((false, j) : Stp).2 by show ¬ k + 1 ≤ j; omega)]
      show (((false, j) : Stp), ((false, k + 1 - 1) : Stp)) = _
      rw [show k + 1 - 1 = k by omega]
    · have e : ex (false, j) (false, k) = ((false, k), (false, j - 1)) := by unfold ex; rw [if_neg (by simp), if_neg (show ¬ (false, j).2 ≤ (false, k).2 from hjk)]
      rw [e]
      unfold ex
      rw [if_neg (by simp), if_pos (show ((false, k) : Stp).2 ≤ ((false, j - 1) : Stp).2 by show k ≤ j - 1; omega)]
      show (((false, j - 1 + 1) : Stp), ((false, k) : Stp)) = _
      rw [show j - 1 + 1 = j by omega]
/-- the steps at i and i + 1 exchanged -/
def exs (S : List Stp) (i : Nat) (a b : Stp) : List Stp := S.take i ++ [(ex a b).1, (ex a b).2] ++ S.drop (i + 2)
theorem split2 {S : List Stp} {i : Nat} {a b : Stp} (h : S[i]? = some a) (h2 : S[i + 1]? = some b) : S = S.take i ++ [a, b] ++ S.drop (i + 2) := by
  obtain ⟨p, e⟩ := List.getElem?_eq_some_iff.mp h
  obtain ⟨p2, e2⟩ := List.getElem?_eq_some_iff.mp h2
  conv => lhs; rw [← List.take_append_drop i S, List.drop_eq_getElem_cons p, e, List.drop_eq_getElem_cons p2, e2]
  simp
theorem exs_smp {S : List Stp} {i : Nat} {a b : Stp} (g : ∀ s ∈ S, goodS s = true) (h : S[i]? = some a) (h2 : S[i + 1]? = some b) (k : a.1 = b.1) (t c : Int) : smp t (exs S i a b) c = smp t S c := by
  conv => rhs; rw [split2 h h2]
  unfold exs
  rw [smp_append, smp_append, smp_append, smp_append]
  congr 1
  exact ex_smp k (g _ (List.mem_of_getElem? h)) (g _ (List.mem_of_getElem? h2))
theorem exs_good {S : List Stp} {i : Nat} {a b : Stp} (g : ∀ s ∈ S, goodS s = true) (h : S[i]? = some a) (h2 : S[i + 1]? = some b) (k : a.1 = b.1) : ∀ s ∈ exs S i a b, goodS s = true := by
  obtain ⟨e1, e2⟩ := ex_good k (g _ (List.mem_of_getElem? h)) (g _ (List.mem_of_getElem? h2))
  intro s hs
  unfold exs at hs
  rcases List.mem_append.mp hs with hs | hs
  · rcases List.mem_append.mp hs with hs | hs
    · exact g _ (List.mem_of_mem_take hs)
    · simp only [List.mem_cons, List.not_mem_nil, or_false] at hs
      rcases hs with rfl | rfl
      · exact e1
      · exact e2
  · exact g _ (List.mem_of_mem_drop hs)
theorem exs_len {S : List Stp} {i : Nat} {a b : Stp} (h2 : S[i + 1]? = some b) : (exs S i a b).length = S.length := by
  obtain ⟨p2, _⟩ := List.getElem?_eq_some_iff.mp h2
  unfold exs
  rw [List.length_append, List.length_append, List.length_take, List.length_drop]
  show min i S.length + 2 + (S.length - (i + 2)) = S.length
  omega
theorem exs_at {S : List Stp} {i : Nat} {a b : Stp} (h2 : S[i + 1]? = some b) : (exs S i a b)[i]? = some (ex a b).1 ∧ (exs S i a b)[i + 1]? = some (ex a b).2 := by
  obtain ⟨p2, _⟩ := List.getElem?_eq_some_iff.mp h2
  have l : (S.take i).length = i := by rw [List.length_take]; omega
  unfold exs
  rw [List.append_assoc]
  constructor
  · rw [List.getElem?_append_right (by omega), l]; simp
  · rw [List.getElem?_append_right (by omega), l, show i + 1 - i = 1 by omega]; rfl
theorem exs_exs {S : List Stp} {i : Nat} {a b : Stp} (h : S[i]? = some a) (h2 : S[i + 1]? = some b) (k : a.1 = b.1) : exs (exs S i a b) i (ex a b).1 (ex a b).2 = S := by
  obtain ⟨p2, _⟩ := List.getElem?_eq_some_iff.mp h2
  have l : (S.take i).length = i := by rw [List.length_take]; omega
  conv => rhs; rw [split2 h h2]
  show (exs S i a b).take i ++ [(ex (ex a b).1 (ex a b).2).1, (ex (ex a b).1 (ex a b).2).2] ++ (exs S i a b).drop (i + 2) = _
  rw [ex_ex k]
  have e1 : (exs S i a b).take i = S.take i := by
    unfold exs
    rw [List.append_assoc, List.take_append_of_le_length (by omega), List.take_of_length_le (by omega)]
  have e2 : (exs S i a b).drop (i + 2) = S.drop (i + 2) := by
    unfold exs
    have : (S.take i ++ [(ex a b).1, (ex a b).2]).length = i + 2 := by rw [List.length_append, l]; rfl
    rw [← this, List.drop_append_of_le_length (Nat.le_refl _), List.drop_length, List.nil_append, this]
  rw [e1, e2]
/-- what acts alike does alike -/
theorem same_run {S M : List Stp} (g : ∀ s ∈ S, goodS s = true) (g2 : ∀ s ∈ M, goodS s = true) (h : ∀ t c, smp t S c = smp t M c) {N R : List Int} {i j : Nat} (u : Up N) (r : runR N i S = .inl R) : runR N j M = .inl R := by
  have tbe : ∀ t, tb t S = tb t M := fun t => (tb_eq_iff g g2).mpr fun c _ => h t c
  have gre : ∀ t, gr t S = gr t M := fun t => by rw [← tb_gr, ← tb_gr, tbe]
  obtain ⟨T, hT⟩ : ∃ T, T = max (topOf S) (topOf M) := ⟨_, rfl⟩
  have t1 : Top T S := fun x hx => by have := top_top S x hx; omega
  have t2 : Top T M := fun x hx => by have := top_top M x hx; omega
  have e1 := (run_ok (i := i) u g t1).mp ⟨R, r⟩
  rw [h, gre] at e1
  obtain ⟨R2, r2⟩ := (run_ok (i := j) u g2 t2).mpr e1
  obtain ⟨u1, c1, _⟩ := run_cnt u g r
  obtain ⟨u2, c2, _⟩ := run_cnt u g2 r2
  rw [r2, up_ext u2 u1 fun t => by rw [c1, c2, h]]
end Exc

namespace Norm
open Tbl Eff XT Rem Exc
theorem padd_form (A : List Stp) (k : Bool) : ∃ M l, (∀ s ∈ l, s.1 = k) ∧ ∀ s : Stp, s.1 = k → padd (parts A) s = M ++ [l ++ [s]] := by
  rcases List.eq_nil_or_concat (parts A) with h | ⟨M, l, h⟩
  · exact ⟨[], [], (fun _ h => by cases h), fun s _ => by rw [h]; rfl⟩
  · have h : parts A = M ++ [l] := by simpa using h
    obtain ⟨b, hk⟩ := parts_kd l (by rw [h]; simp)
    by_cases e : b = k
    · subst e
      refine ⟨M, l, hk.2, fun s hs => ?_⟩
      rw [h, padd_snoc, if_pos (by rw [hk.head, hs])]
    · refine ⟨M ++ [l], [], (fun _ h => by cases h), fun s hs => ?_⟩
      rw [h, padd_snoc, if_neg (by rw [hk.head, hs]; intro z; exact e (by injection z))]
      rfl
theorem fold_form : ∀ (B : List Stp) (k : Bool), ∃ m R, (∀ s ∈ m, s.1 = k) ∧ ∀ M l, l.head?.map (·.1) = some k → B.foldl padd (M ++ [l]) = M ++ [l ++ m] ++ R
  | [], k => ⟨[], [], (fun _ h => by cases h), fun M l _ => by simp⟩
  | s :: B, k => by
    by_cases e : s.1 = k
    · obtain ⟨m, R, h1, h2⟩ := fold_form B k
      refine ⟨s :: m, R, fun x hx => ?_, fun M l hl => ?_⟩
      · rcases List.mem_cons.mp hx with rfl | hx
        · exact e
        · exact h1 x hx
      · show B.foldl padd (padd (M ++ [l]) s) = _
        rw [padd_snoc, if_pos (by rw [hl, e]), h2 M (l ++ [s]) (by cases l with
          | nil => cases hl
          | cons x y => exact hl)]
        simp
    · obtain ⟨m, R, h1, h2⟩ := fold_form B s.1
      refine ⟨[], ([s] ++ m) :: R, (fun _ h => by cases h), fun M l hl => ?_⟩
      show B.foldl padd (padd (M ++ [l]) s) = _
      rw [padd_snoc, if_neg (by rw [hl]; intro z; exact e (by injection z with z; exact z.symm)), h2 (M ++ [l]) [s] rfl]
      simp
theorem parts_form (A B : List Stp) (k : Bool) : ∃ M l m R, (∀ s ∈ l, s.1 = k) ∧ (∀ s ∈ m, s.1 = k) ∧ ∀ a b : Stp, a.1 = k → b.1 = k → parts (A ++ a :: b :: B) = M ++ [l ++ [a, b] ++ m] ++ R := by
  obtain ⟨M, l, h1, h2⟩ := padd_form A k
  obtain ⟨m, R, h3, h4⟩ := fold_form B k
  refine ⟨M, l, m, R, h1, h3, fun a b ha hb => ?_⟩
  have hh : (l ++ [a]).head?.map (·.1) = some k := by
    cases l with
    | nil => simp [ha]
    | cons x y => simp [h1 x List.mem_cons_self]
  have hh2 : (l ++ [a] ++ [b]).head?.map (·.1) = some k := by
    cases l with
    | nil => simp [ha]
    | cons x y => simp [h1 x List.mem_cons_self]
  have e : parts (A ++ a :: b :: B) = B.foldl padd (padd (padd (parts A) a) b) := by
    unfold parts
    rw [List.foldl_append]
    rfl
  rw [e, h2 a ha, padd_snoc, if_pos (by rw [hh, hb]), h4 M _ hh2]
  simp
theorem kd_stp {l : List Stp} (h : Kd false l) : l = Rem.stp (l.map (·.2)) := by
  unfold Rem.stp
  rw [List.map_map]
  conv => lhs; rw [← List.map_id l]
  refine List.map_congr_left fun s hs => ?_
  have := h.2 s hs
  obtain ⟨b, n⟩ := s
  simp only at this
  subst this
  rfl
theorem lost_smp {l m : List Stp} (h : Kd false l) (h2 : Kd false m) (g : ∀ s ∈ l, goodS s = true) (g2 : ∀ s ∈ m, goodS s = true) (e : ∀ c, 0 ≤ c → smp 0 l c = smp 0 m c) : lost (l.map (·.2)) = lost (m.map (·.2)) := by
  unfold lost
  rw [← kd_stp h, ← kd_stp h2, (tb_eq_iff (t := 0) (u := 0) g g2).mpr e]
theorem npart_ex {k : Bool} {l m : List Stp} {a b : Stp} (hl : ∀ s ∈ l, s.1 = k) (hm : ∀ s ∈ m, s.1 = k) (ha : a.1 = k) (hb : b.1 = k) (g : ∀ s ∈ l ++ [a, b] ++ m, goodS s = true) : npart (l ++ [(ex a b).1, (ex a b).2] ++ m) = npart (l ++ [a, b] ++ m) := by
  have h := ha.trans hb.symm
  obtain ⟨k1, k2⟩ := ex_kind h
  have ga : goodS a = true := g a (by simp)
  have gb : goodS b = true := g b (by simp)
  obtain ⟨g1, g2⟩ := ex_good h ga gb
  have kd : ∀ {x y : Stp}, x.1 = k → y.1 = k → Kd k (l ++ [x, y] ++ m) := fun {x y} hx hy => ⟨by simp, fun s hs => by
    simp only [List.mem_append, List.mem_cons, List.not_mem_nil, or_false] at hs
    rcases hs with (hs | rfl | rfl) | hs
    · exact hl s hs
    · exact hx
    · exact hy
    · exact hm s hs⟩
  have d1 := kd ha hb
  have d2 := kd (k1.trans ha) (k2.trans ha)
  have g' : ∀ s ∈ l ++ [(ex a b).1, (ex a b).2] ++ m, goodS s = true := fun s hs => by
    simp only [List.mem_append, List.mem_cons, List.not_mem_nil, or_false] at hs
    rcases hs with (hs | rfl | rfl) | hs
    · exact g s (by simp [hs])
    · exact g1
    · exact g2
    · exact g s (by simp [hs])
  cases k with
  | true =>
    rw [npart_t d1, npart_t d2]
    congr 1
    have p : (l ++ [(ex a b).1, (ex a b).2] ++ m).Perm (l ++ [a, b] ++ m) := by
      have e : ex a b = (b, a) := by unfold ex; rw [if_pos ha]
      rw [e]
      exact ((List.Perm.swap a b []).append_left l).append_right m
    exact srt_of ((srt_perm _).trans (p.map _)) (srt_up _)
  | false =>
    rw [npart_f d1, npart_f d2, lost_smp d2 d1 g' g fun c hc => ?_]
    rw [smp_append, smp_append, smp_append, smp_append]
    congr 1
    exact ex_smp h ga gb
/-- an exchange keeps the normal form -/
theorem nf_ex {A B : List Stp} {a b : Stp} (h : a.1 = b.1) (g : ∀ s ∈ A ++ a :: b :: B, goodS s = true) : NF (A ++ (ex a b).1 :: (ex a b).2 :: B) = NF (A ++ a :: b :: B) := by
  obtain ⟨M, l, m, R, hl, hm, e⟩ := parts_form A B a.1
  obtain ⟨k1, k2⟩ := ex_kind h
  have e1 := e a b rfl h.symm
  have e2 := e _ _ k1 k2
  unfold NF
  rw [e1, e2, List.map_append, List.map_append, List.map_append, List.map_append]
  have : npart (l ++ [(ex a b).1, (ex a b).2] ++ m) = npart (l ++ [a, b] ++ m) := npart_ex hl hm rfl h.symm fun s hs => g s (by
    rw [← (parts_alt (A ++ a :: b :: B)).2, e1]
    exact List.mem_flatten.mpr ⟨_, by simp, hs⟩)
  show (_ ++ [npart (l ++ [(ex a b).1, (ex a b).2] ++ m)] ++ _).flatten = (_ ++ [npart (l ++ [a, b] ++ m)] ++ _).flatten
  rw [this]
theorem npart_smp {b : Bool} {l : List Stp} (h : Kd b l) (g : ∀ s ∈ l, goodS s = true) (t : Int) {c : Int} (hc : 0 ≤ c) : smp t (npart l) c = smp t l c := by
  cases b with
  | true =>
    have e : ∀ (L : List Int) (c : Int), smp t (L.map fun n => ((true, n) : Stp)) c = c + cnt L t := by
      intro L
      induction L with
      | nil => intro c; rw [show cnt [] t = 0 from rfl]; show c = c + 0; omega
      | cons x L ih =>
        intro c
        show smp t (L.map fun n => ((true, n) : Stp)) (smp1 t c (true, x)) = _
        rw [ih]
        have e1 : cnt (x :: L) t = (if x ≤ t then 1 else 0) + cnt L t := by
          have := cnt_append [x] L t
          rw [show [x] ++ L = x :: L from rfl] at this
          rw [this]
          congr 1
          unfold cnt
          by_cases h : x ≤ t <;> simp [h]
        rw [e1]
        unfold smp1
        rw [if_pos rfl]
        show (if x ≤ t then c + 1 else c) + _ = _
        split <;> omega
    have el : l = (l.map (·.2)).map fun n => ((true, n) : Stp) := by
      rw [List.map_map]
      conv => lhs; rw [← List.map_id l]
      refine List.map_congr_left fun s hs => ?_
      have := h.2 s hs
      obtain ⟨b, n⟩ := s
      simp only at this
      subst this
      rfl
    rw [npart_t h, e]
    conv => rhs; rw [el, e]
    rw [cnt_perm (srt_perm (l.map (·.2)))]
  | false =>
    have hp := kd_pos h g
    have e1 : smp t l c = sm (l.map (·.2)) c := by
      conv => lhs; rw [kd_stp h]
      exact smp_sm t _ c
    have ok := lost_ok hp
    have hp2 : Pos (lost (l.map (·.2))).reverse := fun x hx => ok.pos x (List.mem_reverse.mp hx)
    have e2 : smp t (npart l) c = sm (lost (l.map (·.2))).reverse c := by
      rw [npart_f h]
      exact smp_sm t _ c
    rw [e1, e2, ← lost_cnt hp hc, ← lost_cnt hp2 hc, lost_desc ok.asc ok.pos]
/-- the normal form acts alike -/
theorem nf_smp {S : List Stp} (g : ∀ s ∈ S, goodS s = true) (t : Int) {c : Int} (hc : 0 ≤ c) : smp t (NF S) c = smp t S c := by
  have : ∀ (L : List (List Stp)), (∀ l ∈ L, (∃ b, Kd b l) ∧ ∀ s ∈ l, goodS s = true) → ∀ c, 0 ≤ c → smp t (L.map npart).flatten c = smp t L.flatten c := by
    intro L
    induction L with
    | nil => intro _ c _; rfl
    | cons l L ih =>
      intro h c hc
      obtain ⟨⟨b, hk⟩, gl⟩ := h l List.mem_cons_self
      show smp t (npart l ++ (L.map npart).flatten) c = smp t (l ++ L.flatten) c
      rw [smp_append, smp_append, npart_smp hk gl t hc]
      exact ih (fun x hx => h x (List.mem_cons_of_mem _ hx)) _ (smp_nn gl hc)
  have := this (parts S) (fun l hl => ⟨parts_kd l hl, parts_good g l hl⟩) c hc
  rw [(parts_alt S).2] at this
  exact this
theorem kd_kinds {b : Bool} {l : List Stp} (h : Kd b l) : l.map (·.1) = List.replicate l.length b := List.eq_replicate_iff.mpr ⟨by simp, fun x hx => by obtain ⟨s, hs, rfl⟩ := List.mem_map.mp hx; exact h.2 s hs⟩
/-- the normal form keeps the kinds -/
theorem nf_kinds {S : List Stp} (g : ∀ s ∈ S, goodS s = true) : (NF S).map (·.1) = S.map (·.1) := by
  have : ∀ (L : List (List Stp)), (∀ l ∈ L, (∃ b, Kd b l) ∧ ∀ s ∈ l, goodS s = true) → (L.map npart).flatten.map (·.1) = L.flatten.map (·.1) := by
    intro L
    induction L with
    | nil => intro _; rfl
    | cons l L ih =>
      intro h
      obtain ⟨⟨b, hk⟩, gl⟩ := h l List.mem_cons_self
      obtain ⟨k1, _, k3⟩ := npart_kd hk gl
      show (npart l ++ (L.map npart).flatten).map (·.1) = (l ++ L.flatten).map (·.1)
      rw [List.map_append, List.map_append, ih (fun x hx => h x (List.mem_cons_of_mem _ hx)), kd_kinds hk, kd_kinds k1, k3]
  have := this (parts S) (fun l hl => ⟨parts_kd l hl, parts_good g l hl⟩)
  rw [(parts_alt S).2] at this
  exact this
theorem nf_at {S R : List Stp} (g : ∀ s ∈ S, goodS s = true) (g2 : ∀ s ∈ R, goodS s = true) {i : Nat} {a b : Stp} (ha : S[i]? = some a) (hb : R[i]? = some b) (hne : a.1 ≠ b.1) : NF S ≠ NF R := fun e => by
  have h := congrArg (List.map fun s : Stp => s.1) e
  rw [nf_kinds g, nf_kinds g2] at h
  have h2 := congrArg (fun L : List Bool => L[i]?) h
  simp only [List.getElem?_map, ha, hb, Option.map_some] at h2
  exact hne (by injection h2)
/-- one exchange after another -/
inductive Chn (S : List Stp) : List Stp → Prop
  | refl : Chn S S
  | step {R : List Stp} {i : Nat} {a b : Stp} : Chn S R → R[i]? = some a → R[i + 1]? = some b → a.1 = b.1 → Chn S (exs R i a b)
theorem Chn.all {S R : List Stp} (h : Chn S R) (g : ∀ s ∈ S, goodS s = true) : (∀ s ∈ R, goodS s = true) ∧ R.length = S.length ∧ (∀ t c, smp t R c = smp t S c) ∧
    ∀ A B : List Stp, (∀ s ∈ A, goodS s = true) → (∀ s ∈ B, goodS s = true) → NF (A ++ R ++ B) = NF (A ++ S ++ B) := by
  induction h with
  | refl => exact ⟨g, rfl, fun _ _ => rfl, fun _ _ _ _ => rfl⟩
  | step c ha hb hk ih =>
    obtain ⟨g1, l1, s1, n1⟩ := ih
    refine ⟨exs_good g1 ha hb hk, (exs_len hb).trans l1, fun t c => (exs_smp g1 ha hb hk t c).trans (s1 t c), fun A B gA gB => ?_⟩
    rename_i R i a b
    rw [← n1 A B gA gB]
    have e : A ++ R ++ B = (A ++ R.take i) ++ a :: b :: (R.drop (i + 2) ++ B) := by
      conv => lhs; rw [split2 ha hb]
      simp
    have e2 : A ++ exs R i a b ++ B = (A ++ R.take i) ++ (ex a b).1 :: (ex a b).2 :: (R.drop (i + 2) ++ B) := by
      unfold exs
      simp
    rw [e2, e]
    refine nf_ex hk ?_
    rw [← e]
    intro s hs
    rcases List.mem_append.mp hs with hs | hs
    · rcases List.mem_append.mp hs with hs | hs
      · exact gA s hs
      · exact g1 s hs
    · exact gB s hs
theorem chn_nf {S R : List Stp} (h : Chn S R) (g : ∀ s ∈ S, goodS s = true) : NF R = NF S := by
  have := (h.all g).2.2.2 [] [] (fun _ h => by cases h) (fun _ h => by cases h)
  simpa using this
theorem chn_two {S R : List Stp} (h : Chn S R) (g : ∀ s ∈ S, goodS s = true) : NF (R ++ R) = NF (S ++ S) := by
  obtain ⟨g1, _, _, n⟩ := h.all g
  have a := n [] R (fun _ h => by cases h) g1
  have b := n S [] g (fun _ h => by cases h)
  simp at a b
  exact a.trans b
/-- an insertion and a removal in the other order act otherwise -/
theorem turn_smp {a b : Stp} (h : a.1 ≠ b.1) (ga : goodS a = true) (gb : goodS b = true) : ¬ ∀ t, tb t [a, b] = tb t [b, a] := by
  intro e
  have g1 : ∀ s ∈ [a, b], goodS s = true := fun s hs => by
    simp only [List.mem_cons, List.not_mem_nil, or_false] at hs
    rcases hs with rfl | rfl <;> assumption
  have g2 : ∀ s ∈ [b, a], goodS s = true := fun s hs => by
    simp only [List.mem_cons, List.not_mem_nil, or_false] at hs
    rcases hs with rfl | rfl <;> assumption
  have e2 : ∀ t c, 0 ≤ c → smp1 t (smp1 t c a) b = smp1 t (smp1 t c b) a := fun t c hc => (tb_eq_iff g1 g2).mp (e t) c hc
  obtain ⟨x, n⟩ := a
  obtain ⟨y, k⟩ := b
  cases x <;> cases y
  · exact h rfl
  · simp [goodS] at ga
    have := e2 k (n - 1) (by omega)
    simp only [smp1, if_true, Bool.false_eq_true, if_false] at this
    simp at this
    split at this <;> omega
  · simp [goodS] at gb
    have := e2 n (k - 1) (by omega)
    simp only [smp1, if_true, Bool.false_eq_true, if_false] at this
    simp at this
    split at this <;> omega
  · exact h rfl
end Norm

namespace Cmp
open Tbl Eff XT
theorem smp_far {t b : Int} : ∀ {S : List Stp} {c : Int}, (∀ s ∈ S, s.2 ≤ b) → b + S.length ≤ c → smp t S c = c + gr t S
  | [], c, _, _ => by show c = c + 0; omega
  | s :: S, c, h, hc => by
    have h1 := h s List.mem_cons_self
    simp only [List.length_cons] at hc
    have e : smp1 t c s = c + gr1 t s := by
      unfold smp1 gr1
      split
      · split <;> omega
      · rw [if_pos (by omega)]; omega
    have hb : b + S.length ≤ smp1 t c s := by
      rw [e]
      unfold gr1
      split
      · split <;> omega
      · omega
    show smp t S (smp1 t c s) = c + (gr1 t s + gr t S)
    rw [smp_far (fun x hx => h x (List.mem_cons_of_mem _ hx)) hb, e]
    omega
theorem lost_leT {t b : Int} {S : List Stp} (g : ∀ s ∈ S, goodS s = true) (h : ∀ s ∈ S, s.2 ≤ b) (b0 : 0 ≤ b) {x : Int} (hx : x ∈ (tb t S).2) : x ≤ b + S.length := by
  refine Int.not_lt.mp fun hlt => ?_
  have ok := tb_ok (t := t) g
  have e1 := tb_mp (t := t) g (c := x) (by omega)
  have e2 := tb_mp (t := t) g (c := x - 1) (by omega)
  rw [smp_far h (by omega)] at e1
  rw [smp_far h (by omega)] at e2
  have := (cnt_mem ok.asc).mp hx
  unfold mp at e1 e2
  omega
theorem need_le {b : Int} {S : List Stp} (g : ∀ s ∈ S, goodS s = true) (h : ∀ s ∈ S, s.2 ≤ b) (b0 : 0 ≤ b) : need S ≤ b + S.length := by
  have ok := tb_ok (t := topOf S) g
  unfold need
  exact (needL_iff ok.asc ok.pos (by omega)).mpr fun x hx => lost_leT g h b0 hx
theorem thr_all {S R : List Stp} {A : List Int} (asc : Asc A) (mem : ∀ x, x ∈ A ↔ (true, x) ∈ S ∨ (true, x) ∈ R) (h : ∀ t ∈ A ++ [low A], tb t S = tb t R) (t : Int) : tb t S = tb t R := by
  have key : ∀ u, (∀ x ∈ A, x ≤ t ↔ x ≤ u) → u ∈ A ++ [low A] → tb t S = tb t R := fun u hu hm => by
    rw [tb_local (t := t) (u := u) fun x hx => hu x ((mem x).mpr (.inl hx)), tb_local (S := R) (t := t) (u := u) fun x hx => hu x ((mem x).mpr (.inr hx))]
    exact h u hm
  have n0 := cnt_nn A t
  by_cases e : cnt A t = 0
  · refine key (low A) (fun x hx => ?_) (by simp)
    have h1 := low_lt asc x hx
    have h2 : ¬ x ≤ t := fun z => by
      have h3 := (cnt_mem asc).mp hx
      have h4 := cnt_nn A (x - 1)
      have h5 := cnt_mono A z
      omega
    constructor <;> intro <;> omega
  · obtain ⟨b, h1, h2, h3⟩ := cnt_at asc t ((cnt A t).toNat - 1) (by omega)
    exact key b h3 (List.mem_append_left _ (List.mem_of_getElem? h1))
/-- an insertion and two removals of one rank, in two orders -/
theorem three_smp (t c n k : Int) : smp t [(true, n), (false, k), (false, k)] c = smp t [(false, k), (true, n), (false, k)] c := by
  simp [smp, smp1]
  split <;> split <;> (try split) <;> (try split) <;> (try split) <;> (try split) <;> omega
theorem two_smp (t c n m : Int) : smp t [(true, n), (true, m)] c = smp t [(true, m), (true, n)] c := by
  simp [smp, smp1]
  split <;> split <;> omega
end Cmp

namespace XT
open PySem PySem.Spec PyProof.Rows L2
/-- a comprehension over a list with a test, its items made anew -/
theorem lcELT {K : PySem.W.Frag} {a : Addr} {xs : List V} {g : TG} {tt : L2.St → Hp → (Bool → Hp → Prop) → Prop} {te : TE} {vs : List Nat} {σ : L2.St} {H1 : Hp} {D : Addr} {Qd : Hp → Prop} (I : Nat → Hp → List V → Prop) (h0 : I 0 (upd H1 D (.lst [])) []) (hn : xs.length ≤ sizeLine)
    (hl : ∀ i H acc, I i H acc → SqL K H a xs ∧ acc.length ≤ i)
    (hs : ∀ i x H acc (R : V → Hp → Prop) (Nx : Hp → Prop), xs[i]? = some x → I i H acc → (∀ y H', H' D = some (.lst acc) → I (i + 1) (upd H' D (.lst (acc ++ [y]))) (acc ++ [y]) → R y H') → (∀ H', I (i + 1) H' acc → Nx H') → g x (wipe σ vs) H fun σ2 H2 => wipe σ2 vs = wipe σ vs ∧ tt σ2 H2 fun b H3 => if b = true then te σ2 H3 R else Nx H3)
    (hd : ∀ H acc, I xs.length H acc → Qd H) :
    ∃ W : Nat → Nat → Hp → Prop, (∃ m, W 0 m (upd H1 D (.lst []))) ∧ ∀ i m H, W i m H →
      ((Itl K a).stop i H ∧ Qd H) ∨ ((Itl K a).go i H ∧ ∃ Nx : Hp → Prop, (∀ H', Nx H' → ∃ m', m' < m ∧ W (i + 1) m' H') ∧ ∀ x H', (Itl K a).yld i H x H' → g x (wipe σ vs) H' fun σ2 H2 => wipe σ2 vs = wipe σ vs ∧ tt σ2 H2 fun b H3 =>
        if b = true then te σ2 H3 fun y H4 => ∃ acc, H4 D = some (.lst acc) ∧ acc.length < sizeLine ∧ Nx (upd H4 D (.lst (acc ++ [y]))) else Nx H3) := by
  refine ⟨fun i m H => m = xs.length - i ∧ i ≤ xs.length ∧ ∃ acc, I i H acc, ⟨xs.length, by simp, Nat.zero_le _, _, h0⟩, ?_⟩
  rintro i m H ⟨rfl, hi, acc, hI⟩
  have q := (hl i H acc hI).1
  by_cases hlt : i < xs.length
  · have e : xs[i]? = some xs[i] := by simp [hlt]
    refine .inr ⟨⟨xs, xs[i], q, e⟩, fun H' => ∃ acc, I (i + 1) H' acc, fun H' p => ⟨xs.length - (i + 1), by omega, rfl, hlt, p⟩, fun x H' y => ?_⟩
    obtain ⟨e1, y⟩ := y
    subst e1
    have ex := y xs q
    exact hs i x _ acc _ _ ex hI (fun y H' e k => ⟨acc, e, by have := (hl i _ acc hI).2; exact Nat.lt_of_le_of_lt this (Nat.lt_of_lt_of_le hlt hn), _, k⟩) fun H' k => ⟨acc, k⟩
  · have e : i = xs.length := by omega
    subst e
    exact .inl ⟨⟨xs, q, Nat.le_refl _⟩, hd H acc hI⟩
end XT

namespace ZT
open PySem PySem.Spec PyProof.Rows L2 RZ
/-- a loop over zip of two tuples of any lengths -/
theorem for_zipTm {K : PySem.W.Frag} {a b : Addr} {xs ys : List V} {g : TG} {tb : TS} {D : Ends} {σ : L2.St} {H : Hp} (Pv : Nat → L2.St → Hp → Prop) (h0 : Pv 0 σ H) (hq : ∀ i σ H, Pv i σ H → SqT K H a xs ∧ SqT K H b ys)
    (hs : ∀ (i : Nat) (x y : V) (T : Addr) (σ : L2.St) (H : Hp), xs[i]? = some x → ys[i]? = some y → Pv i σ H → H T = none → g (.ref T) σ (upd H T (.tup [x, y])) fun σ2 H2 => tb { D with nx := Pv (i + 1), ct := Pv (i + 1), bk := D.nx } σ2 H2) (hd : ∀ σ H, Pv (min xs.length ys.length) σ H → D.nx σ H) :
    ∃ W : Nat → Nat → L2.St → Hp → Prop, (∃ m, W 0 m σ H) ∧ ∀ i m σ H, W i m σ H →
      ((ItzT K a b).stop i H ∧ D.nx σ H) ∨ ((ItzT K a b).go i H ∧ ∃ N : L2.St → Hp → Prop, (∀ σ' H', N σ' H' → ∃ m', m' < m ∧ W (i + 1) m' σ' H') ∧ ∀ v H', (ItzT K a b).yld i H v H' → g v σ H' fun σ2 H2 => tb { D with nx := N, ct := N, bk := D.nx } σ2 H2) := by
  refine ⟨fun i m σ H => m = min xs.length ys.length - i ∧ i ≤ min xs.length ys.length ∧ Pv i σ H, ⟨min xs.length ys.length, rfl, Nat.zero_le _, h0⟩, ?_⟩
  rintro i m σ H ⟨rfl, hi, p⟩
  obtain ⟨qx, qy⟩ := hq i σ H p
  by_cases hlt : i < min xs.length ys.length
  · have hlt1 : i < xs.length := by omega
    have hx : xs[i]? = some xs[i] := List.getElem?_eq_getElem hlt1
    have hlt2 : i < ys.length := by omega
    have hy : ys[i]? = some ys[i] := List.getElem?_eq_getElem hlt2
    refine .inr ⟨⟨xs, ys, _, _, qx, qy, hx, hy⟩, Pv (i + 1), fun σ' H' p' => ⟨min xs.length ys.length - (i + 1), by omega, rfl, hlt, p'⟩, fun v H' y => ?_⟩
    obtain ⟨T, x', y', rfl, hT, rfl, f1, f2⟩ := y
    exact hs i x' y' T σ H (f1 xs qx) (f2 ys qy) p hT
  · have e : i = min xs.length ys.length := by omega
    subst e
    exact .inl ⟨⟨xs, ys, qx, qy, by omega⟩, hd σ H p⟩
end ZT

namespace XT
open PySem PySem.Spec PyProof.Rows L2
/-! ### min(xs), xs a list of tuples of ints: the first of the least; dict(xs) of pairs, sorted(d) -/
section
variable {X : Cx}
/-- the first of the least -/
def leastT (p : Addr × List Int) (ps : List (Addr × List Int)) : Addr × List Int := ps.foldl (fun a y => if HT.lexLt y.2 a.2 then y else a) p
def rMinT (K : PySem.W.Frag) : List V → Hp → VK → Prop := fun vs H Q => ∃ (a : Addr) (p : Addr × List Int) (ps : List (Addr × List Int)), vs = [V.ref a] ∧ SqL K H a ((p :: ps).map fun q => V.ref q.1) ∧ (∀ q ∈ p :: ps, SqT K H q.1 (q.2.map V.int)) ∧ Q (.ref (leastT p ps).1) H
theorem vals_refs : ∀ {ps : List (Addr × List Int)} {us : List Value}, Vals (ps.map fun q => V.ref q.1) us → us = ps.map fun q => Value.ref q.1
  | [], _, h => by cases h; rfl
  | p :: ps, _, h => by
    cases h with
    | cons r t =>
      cases r
      rw [List.map_cons, vals_refs t]
theorem cr_minT (hc : X.calm = true) (hu : X.A.units + 1 < cLine) : CallR X (.builtin "min") (rMinT X.K) := by
  intro pins s σ H vs us Q I r h
  obtain ⟨a, p, ps, rfl, hs, ht, q⟩ := h
  rw [Vals.ref1 r]
  obtain ⟨its, rv, hl, _⟩ := I.list hs
  have ei := vals_refs rv
  subst ei
  refine call_min_walkH (PySem.W.iter_listW (A := X.A.in1) (I.ok.hd hc) hl.isList fun s₂ e W st hfp hw hk => ?_)
  have at_ : ∀ (i : Nat) (v : Value), (((p :: ps).map fun q => Value.ref q.1).toArray)[i]? = some v → v = .ref ((p :: ps).getD i p).1 ∧ (p :: ps).getD i p ∈ p :: ps := fun i v hv => by
    rw [List.getElem?_toArray, List.getElem?_map] at hv
    obtain ⟨y, hy, rfl⟩ := Option.map_eq_some_iff.mp hv
    rw [List.getD_eq_getElem?_getD, hy]
    exact ⟨rfl, List.mem_of_getElem? hy⟩
  have cmp : CmpIn X.prog X.w X.A.in1 .Lt s.heap (fun i v => (((p :: ps).map fun q => Value.ref q.1).toArray)[i]? = some v) (fun i j => (fun y x : Addr × List Int => HT.lexLt y.2 x.2) ((p :: ps).getD i p) ((p :: ps).getD j p)) := fun i j vi vj s' Q E hk hi hj hq => by
    obtain ⟨e1, m1⟩ := at_ i vi hi
    obtain ⟨e2, m2⟩ := at_ j vj hj
    subst e1 e2
    obtain ⟨its1, r1, p1, _⟩ := I.tuple (ht _ m1)
    obtain ⟨its2, r2, p2, _⟩ := I.tuple (ht _ m2)
    refine HT.lt_tupInts (A := X.A.in1) ?_ ?_ (intsAre_of r1) (intsAre_of r2) hu hq
    · obtain ⟨o, ho, z⟩ := p1
      exact ⟨o, hk _ _ ho, z⟩
    · obtain ⟨o, ho, z⟩ := p2
      exact ⟨o, hk _ _ ho, z⟩
  refine ⟨_, _, _, _, _, _, _, s.heap, _, rfl, W, st, hfp, by simp, hw, hk, cmp, fun v s' hP m => ?_⟩
  obtain ⟨h', tk, rfl, hk'⟩ := PySem.W.moved_old e rfl m
  obtain ⟨ev, _⟩ := at_ _ v hP
  have e2 := (PySem.W.argBest_fold (fun y x : Addr × List Int => HT.lexLt y.2 x.2) p p ps ps.length (Nat.le_refl _)).2
  rw [List.take_length] at e2
  have e1 : (((p :: ps).map fun q => Value.ref q.1).toArray).size - 1 = ps.length := by simp
  rw [e1, e2] at ev
  exact ⟨.ref _, H, I.kept hk', ev.symm ▸ rfl, q⟩
theorem minTK (K : PySem.W.Frag) (hc : X.calm = true) (hu : X.A.units + 1 < cLine) (hK : X.K = K := by rfl) : CallR X (.builtin "min") (rMinT K) := by subst hK; exact cr_minT hc hu
def rDictP (K : PySem.W.Frag) : List V → Hp → VK → Prop := fun xs H Q => ∃ (a : Addr) (ps : List Addr) (kvs : List (Key × V)), xs = [.ref a] ∧ SqL K H a (ps.map V.ref) ∧ Paired (fun p kv => SqT K H p [kV kv.1, kv.2]) ps kvs ∧
    ∀ p, H p = none → Q (.ref p) (upd H p (.dK (mergeK [] kvs)))
theorem dictPK (K : PySem.W.Frag) (hc : X.calm = true) (hK : X.K = K := by rfl) : CallR X (.type "dict") (rDictP K) := by subst hK; exact call_dictP hc
def rSortDI : List V → Hp → VK → Prop := fun xs H Q => ∃ (a : Addr) (kvs : List (Key × V)) (ks : List Int), xs = [.ref a] ∧ L2.Rd H a (.dK kvs) ∧ kvs.map (·.1) = ks.map Sum.inl ∧ ks.length < 64 ∧
    ∀ (ys : List Int) (p : Addr), ys.Perm ks → ys.Pairwise (· ≤ ·) → H p = none → Q (.ref p) (upd H p (.lst (ys.map V.int)))
theorem sortDIK (hc : X.calm = true) : CallR X (.builtin "sorted") rSortDI := call_sortedDI hc
end
/-- the keys of dict([(n, True), ..]) -/
def addI (ks : List Int) (n : Int) : List Int := if n ∈ ks then ks else ks ++ [n]
def keysI (ns : List Int) : List Int := ns.foldl addI []
theorem put_keys {kvs : List (Key × V)} {ks : List Int} (n : Int) (v : V) (h : kvs.map (·.1) = ks.map Sum.inl) : (putK kvs (Sum.inl n) v).map (·.1) = (addI ks n).map Sum.inl := by
  have hany : (kvs.any fun kv => decide (kv.1 = (Sum.inl n : Key))) = decide (n ∈ ks) := by
    have e : (kvs.any fun kv => decide (kv.1 = (Sum.inl n : Key))) = (kvs.map (·.1)).any fun k => decide (k = (Sum.inl n : Key)) := by rw [List.any_map]; rfl
    rw [e, h, List.any_map]
    rw [Bool.eq_iff_iff, List.any_eq_true, decide_eq_true_eq]
    constructor
    · rintro ⟨x, hx, e⟩
      have := Sum.inl.inj (of_decide_eq_true e)
      rw [← this]
      exact hx
    · intro hx
      exact ⟨n, hx, decide_eq_true rfl⟩
  unfold putK addI
  rw [hany]
  by_cases hn : n ∈ ks
  · rw [if_pos (decide_eq_true hn), if_pos hn, List.map_map, ← h]
    refine List.map_congr_left fun kv _ => ?_
    show (if kv.1 = _ then _ else _ : Key × V).1 = _
    split <;> rfl
  · rw [if_neg (by simpa using hn), if_neg hn, List.map_append, h, List.map_append]
    rfl
theorem merge_keys (f : Int → V) : ∀ (ns : List Int) (kvs : List (Key × V)) (ks : List Int), kvs.map (·.1) = ks.map Sum.inl → (mergeK kvs (ns.map fun n => (Sum.inl n, f n))).map (·.1) = (ns.foldl addI ks).map Sum.inl
  | [], _, _, h => h
  | n :: ns, kvs, ks, h => by
    rw [List.map_cons, List.foldl_cons]
    exact merge_keys f ns _ _ (put_keys n (f n) h)
theorem addI_nodup {ks : List Int} {n : Int} (h : ks.Nodup) : (addI ks n).Nodup := by
  unfold addI
  by_cases hn : n ∈ ks
  · rw [if_pos hn]; exact h
  · rw [if_neg hn, List.nodup_append]
    refine ⟨h, by simp, fun x hx y hy e => ?_⟩
    rw [List.mem_singleton] at hy
    exact hn (by rw [← hy, ← e]; exact hx)
theorem addI_mem {ks : List Int} {n x : Int} : x ∈ addI ks n ↔ x ∈ ks ∨ x = n := by
  unfold addI
  by_cases hn : n ∈ ks
  · rw [if_pos hn]
    exact ⟨.inl, fun z => z.elim id fun e => by rw [e]; exact hn⟩
  · rw [if_neg hn, List.mem_append, List.mem_singleton]
theorem fold_keys : ∀ (ns ks : List Int), ks.Nodup → (ns.foldl addI ks).Nodup ∧ (∀ x, x ∈ ns.foldl addI ks ↔ x ∈ ks ∨ x ∈ ns) ∧ (ns.foldl addI ks).length ≤ ks.length + ns.length
  | [], ks, h => ⟨h, fun x => by simp, by simp⟩
  | n :: ns, ks, h => by
    obtain ⟨h1, h2, h3⟩ := fold_keys ns (addI ks n) (addI_nodup h)
    refine ⟨h1, fun x => ?_, ?_⟩
    · rw [List.foldl_cons, h2, addI_mem, List.mem_cons, or_assoc]
    · rw [List.foldl_cons]
      have : (addI ks n).length ≤ ks.length + 1 := by unfold addI; split <;> simp
      simp only [List.length_cons]
      omega
theorem keysI_spec (ns : List Int) : (keysI ns).Nodup ∧ (∀ x, x ∈ keysI ns ↔ x ∈ ns) ∧ (keysI ns).length ≤ ns.length := by
  obtain ⟨h1, h2, h3⟩ := fold_keys ns [] List.nodup_nil
  exact ⟨h1, fun x => by unfold keysI; rw [h2]; simp, by simpa [keysI] using h3⟩
/-- ascending without equal ones -/
theorem asc_of {ys ks : List Int} (hp : ys.Perm ks) (hs : ys.Pairwise (· ≤ ·)) (nd : ks.Nodup) : Tbl.Asc ys := by
  have n2 : ys.Nodup := hp.nodup_iff.mpr nd
  unfold Tbl.Asc
  exact (hs.and n2).imp fun ⟨h1, h2⟩ => by omega
end XT

namespace Cmp
open Tbl Eff XT PySem
/-- what stands in one of two lists only, those of the first one first -/
def sd (A B : List Int) : List Int := A.filter (fun x => !decide (x ∈ B)) ++ B.filter (fun x => !decide (x ∈ A))
theorem mem_sd {A B : List Int} {x : Int} : x ∈ sd A B ↔ (x ∈ A ∧ x ∉ B) ∨ (x ∈ B ∧ x ∉ A) := by
  unfold sd
  rw [List.mem_append, List.mem_filter, List.mem_filter]
  simp
theorem ld_sd {A B : List Int} (ha : Asc A) (hb : Asc B) : (ld A B = none → sd A B = []) ∧ ∀ c, ld A B = some c → c ∈ sd A B ∧ ∀ y ∈ sd A B, c ≤ y := by
  refine ⟨fun h => ?_, fun c h => ?_⟩
  · have e := ld_none h
    subst e
    refine List.eq_nil_iff_forall_not_mem.mpr fun x hx => ?_
    rcases mem_sd.mp hx with ⟨h1, h2⟩ | ⟨h1, h2⟩ <;> exact h2 h1
  · obtain ⟨h1, h2, h3⟩ := ld_some ha hb h
    have e1 := h2 (c - 1) (by omega)
    have cA := cnt_mem ha (x := c)
    have cB := cnt_mem hb (x := c)
    refine ⟨mem_sd.mpr ?_, fun y hy => Int.not_lt.mp fun hlt => ?_⟩
    · rcases h3 with h3 | h3
      · refine .inl ⟨h3, fun z => h1 ?_⟩
        rw [cA.mp h3, cB.mp z, e1]
      · refine .inr ⟨h3, fun z => h1 ?_⟩
        rw [cB.mp h3, cA.mp z, e1]
    · have d1 := h2 y hlt
      have d2 := h2 (y - 1) (by omega)
      have yA := cnt_mem ha (x := y)
      have yB := cnt_mem hb (x := y)
      rcases mem_sd.mp hy with ⟨g1, g2⟩ | ⟨g1, g2⟩
      · exact g2 (yB.mpr (by rw [← d1, ← d2]; exact yA.mp g1))
      · exact g2 (yA.mpr (by rw [d1, d2]; exact yB.mp g1))
/-- what the law finds: (count, place, threshold) of each threshold where the tables differ -/
def fnd (f : Int → Option Int) : Nat → List Int → List (List Int)
  | _, [] => []
  | i, t :: N => match f t with
    | none => fnd f (i + 1) N
    | some c => [c, (i : Int), t] :: fnd f (i + 1) N
theorem fnd_snoc (f : Int → Option Int) (t : Int) : ∀ (N : List Int) (i : Nat), fnd f i (N ++ [t]) = fnd f i N ++ (match f t with | none => [] | some c => [[c, ((i + N.length : Nat) : Int), t]])
  | [], i => by
    show (match f t with | none => fnd f (i + 1) [] | some c => [c, (i : Int), t] :: fnd f (i + 1) []) = _
    cases f t <;> rfl
  | u :: N, i => by
    have ih := fnd_snoc f t N (i + 1)
    have el : i + 1 + N.length = i + (u :: N).length := by simp only [List.length_cons]; omega
    rw [el] at ih
    show (match f u with | none => fnd f (i + 1) (N ++ [t]) | some c => [c, (i : Int), u] :: fnd f (i + 1) (N ++ [t])) = (match f u with | none => fnd f (i + 1) N | some c => [c, (i : Int), u] :: fnd f (i + 1) N) ++ _
    rw [ih]
    cases f u <;> rfl
theorem fnd_take {f : Int → Option Int} {N : List Int} {i : Nat} {t : Int} (h : N[i]? = some t) : fnd f 0 (N.take (i + 1)) = fnd f 0 (N.take i) ++ (match f t with | none => [] | some c => [[c, (i : Int), t]]) := by
  have hi := (List.getElem?_eq_some_iff.mp h).1
  rw [List.take_add_one, h]
  have := fnd_snoc f t (N.take i) 0
  rw [List.length_take, Nat.zero_add, Nat.min_eq_left (by omega)] at this
  exact this
theorem lex3 {c k t c0 k0 t0 : Int} (h : k0 < k) : HT.lexLt [c, k, t] [c0, k0, t0] = decide (c < c0) := by
  rw [HT.lexLt_cons]
  by_cases e : c = c0
  · rw [if_pos e, HT.lexLt_cons, if_neg (by omega)]
    rw [Bool.eq_iff_iff, decide_eq_true_eq, decide_eq_true_eq]
    omega
  · rw [if_neg e]
theorem leastT_snoc (p q : Addr × List Int) (ps : List (Addr × List Int)) : leastT p (ps ++ [q]) = if HT.lexLt q.2 (leastT p ps).2 then q else leastT p ps := by
  unfold leastT
  rw [List.foldl_append]
  rfl
/-- its least one is the first difference -/
theorem fnd_least (f : Int → Option Int) : ∀ (N : List Int) (F : List (Addr × List Int)), F.map (·.2) = fnd f 0 N →
    (F = [] → fdF f N = none) ∧ ∀ p ps, F = p :: ps → leastT p ps ∈ p :: ps ∧ ∃ c k t, (leastT p ps).2 = [c, k, t] ∧ k < N.length ∧ fdF f N = some (t, c) := by
  suffices h : ∀ (N : List Int) (F : List (Addr × List Int)), F.map (·.2) = fnd f 0 N.reverse →
    (F = [] → fdF f N.reverse = none) ∧ ∀ p ps, F = p :: ps → leastT p ps ∈ p :: ps ∧ ∃ c k t, (leastT p ps).2 = [c, k, t] ∧ k < N.reverse.length ∧ fdF f N.reverse = some (t, c) by
    intro N F hF
    have := h N.reverse F (by rw [List.reverse_reverse]; exact hF)
    rw [List.reverse_reverse] at this
    exact this
  intro N
  induction N with
  | nil =>
    intro F hF
    have e : F = [] := List.map_eq_nil_iff.mp hF
    subst e
    exact ⟨fun _ => rfl, fun p ps e => by cases e⟩
  | cons t N ih =>
    intro F hF
    rw [List.reverse_cons] at hF ⊢
    rw [fnd_snoc, Nat.zero_add] at hF
    rw [fdF_snoc, List.length_append, List.length_singleton]
    generalize N.reverse = R at hF ih ⊢
    cases hf : f t with
    | none =>
      rw [hf] at hF
      have hF : F.map (·.2) = fnd f 0 R := by rw [hF]; exact List.append_nil _
      have e : fstep f (fdF f R) t = fdF f R := by unfold fstep; rw [hf]
      rw [e]
      obtain ⟨i1, i2⟩ := ih F hF
      refine ⟨i1, fun p ps h => ?_⟩
      obtain ⟨m, c, k, u, e1, e2, e3⟩ := i2 p ps h
      exact ⟨m, c, k, u, e1, by omega, e3⟩
    | some c =>
      rw [hf] at hF
      have hF : F.map (·.2) = fnd f 0 R ++ [[c, (R.length : Int), t]] := hF
      obtain ⟨F', Fq, rfl, h1, h2⟩ := List.map_eq_append_iff.mp hF
      obtain ⟨q, rfl, hq⟩ : ∃ q, Fq = [q] ∧ q.2 = [c, (R.length : Int), t] := by
        cases Fq with
        | nil => cases h2
        | cons q Fq =>
          rw [List.map_cons] at h2
          obtain ⟨e1, e2⟩ := List.cons.inj h2
          have e2 := List.map_eq_nil_iff.mp e2
          subst e2
          exact ⟨q, rfl, e1⟩
      obtain ⟨i1, i2⟩ := ih F' h1
      refine ⟨fun h => by simp at h, fun p ps h => ?_⟩
      cases F' with
      | nil =>
        obtain ⟨rfl, rfl⟩ := List.cons.inj (show q :: [] = p :: ps from h)
        have e : fstep f (fdF f R) t = some (t, c) := by unfold fstep; rw [hf, i1 rfl]
        rw [e]
        exact ⟨List.mem_cons_self, c, _, t, hq, by omega, rfl⟩
      | cons p' ps' =>
        obtain ⟨rfl, rfl⟩ := List.cons.inj (show p' :: (ps' ++ [q]) = p :: ps from h)
        obtain ⟨m, c0, k0, t0, e1, e2, e3⟩ := i2 p' ps' rfl
        have e : fstep f (fdF f R) t = if c < c0 then some (t, c) else some (t0, c0) := by unfold fstep; rw [hf, e3]
        rw [e, leastT_snoc, hq, e1, lex3 e2]
        by_cases hc : c < c0
        · rw [if_pos (decide_eq_true hc), if_pos hc]
          exact ⟨by simp, c, _, t, hq, by omega, rfl⟩
        · rw [if_neg (by simpa using hc), if_neg hc]
          refine ⟨?_, c0, k0, t0, e1, by omega, rfl⟩
          rcases List.mem_cons.mp m with z | z
          · rw [z]; exact List.mem_cons_self
          · exact List.mem_cons_of_mem _ (List.mem_append_left _ z)
/-- the list that separates -/
def sepN (L t c : Int) : List Int := List.replicate (min L c).toNat t ++ List.replicate (L - min L c).toNat (t + 1)
theorem sepN_up (L t c : Int) : Up (sepN L t c) := by
  unfold sepN Up
  rw [List.pairwise_append]
  refine ⟨List.pairwise_replicate.mpr (.inr (Int.le_refl _)), List.pairwise_replicate.mpr (.inr (Int.le_refl _)), fun x hx y hy => ?_⟩
  rw [(List.mem_replicate.mp hx).2, (List.mem_replicate.mp hy).2]
  omega
theorem sepN_len {L t c : Int} (hL : 0 ≤ L) (hc : 0 ≤ c) : ((sepN L t c).length : Int) = L := by
  unfold sepN
  rw [List.length_append, List.length_replicate, List.length_replicate]
  omega
theorem cnt_rep (n : Nat) (x d : Int) : cnt (List.replicate n x) d = if x ≤ d then (n : Int) else 0 := by
  induction n with
  | zero => simp [cnt]
  | succ n ih =>
    rw [List.replicate_succ, cnt_cons, ih]
    split <;> omega
theorem sepN_cnt {L t c : Int} (hL : 0 ≤ L) (hc : 0 ≤ c) : cnt (sepN L t c) t = min L c := by
  unfold sepN
  rw [cnt_append, cnt_rep, cnt_rep, if_pos (Int.le_refl _), if_neg (by omega)]
  omega
def sepW (S R : List Stp) (c : Int) : Int := if need S = need R then (if c > need S then c else need S) else (if need R < need S then need R else need S)
theorem sepW_nn {S R : List Stp} (gS : ∀ s ∈ S, goodS s = true) (gR : ∀ s ∈ R, goodS s = true) {c : Int} : 0 ≤ sepW S R c := by
  have := need_nn gS
  have := need_nn gR
  unfold sepW
  split <;> split <;> omega
/-- one fails and one doesn't, or both give other lists -/
theorem sep_differs {S R : List Stp} (gS : ∀ s ∈ S, goodS s = true) (gR : ∀ s ∈ R, goodS s = true) {t c : Int} (h : ldT (tb t S) (tb t R) = some c) : ∀ M, runR (sepN (sepW S R c) t c) 0 S = .inl M → runR (sepN (sepW S R c) t c) 0 R = .inl M → False := fun M r1 r2 => by
  have c0 := (ldT_some (tb_ok gS) (tb_ok gR) h).1
  have hne := (ldT_some (tb_ok gS) (tb_ok gR) h).2.1
  have nn := sepW_nn gS gR (c := c)
  have up := sepN_up (sepW S R c) t c
  have ln := sepN_len (t := t) nn c0
  have n1 := (run_iff up gS).mp ⟨M, r1⟩
  have n2 := (run_iff up gR).mp ⟨M, r2⟩
  have ct := sepN_cnt (t := t) nn c0
  obtain ⟨_, k1, _⟩ := run_cnt up gS r1
  obtain ⟨_, k2, _⟩ := run_cnt up gR r2
  rw [ln] at n1 n2
  have e : min (sepW S R c) c = c := by
    unfold sepW at n1 n2 ⊢
    by_cases e : need S = need R
    · rw [if_pos e]
      split <;> omega
    · rw [if_neg e] at n1 n2
      split at n1 <;> omega
  rw [e] at ct
  apply hne
  have z1 := k1 t
  have z2 := k2 t
  rw [ct] at z1 z2
  show mp (tb t S).1 (tb t S).2 c = mp (tb t R).1 (tb t R).2 c
  rw [tb_mp gS c0, tb_mp gR c0, ← z1, ← z2]
/-- one of them does not fail -/
theorem sep_some {S R : List Stp} (gS : ∀ s ∈ S, goodS s = true) (gR : ∀ s ∈ R, goodS s = true) {t c : Int} (c0 : 0 ≤ c) : ∃ M, runR (sepN (sepW S R c) t c) 0 S = .inl M ∨ runR (sepN (sepW S R c) t c) 0 R = .inl M := by
  have nn := sepW_nn gS gR (c := c)
  have up := sepN_up (sepW S R c) t c
  have ln := sepN_len (t := t) nn c0
  by_cases h : need S ≤ sepW S R c
  · obtain ⟨M, hM⟩ := (run_iff (i := 0) up gS).mpr (by rw [ln]; exact h)
    exact ⟨M, .inl hM⟩
  · have h2 : need R ≤ sepW S R c := by
      revert h
      unfold sepW
      by_cases e1 : need S = need R
      · rw [if_pos e1]
        split <;> omega
      · rw [if_neg e1]
        split <;> omega
    obtain ⟨M, hM⟩ := (run_iff (i := 0) up gR).mpr (by rw [ln]; exact h2)
    exact ⟨M, .inr hM⟩
end Cmp

namespace Cmp
open Tbl Eff XT PySem
/-- what a run gives: None if it fails -/
def rn (N : List Int) (S : List Stp) : Option (List Int) := match runR N 0 S with
  | .inl M => some M
  | .inr _ => none
theorem rn_some {N M : List Int} {S : List Stp} : rn N S = some M ↔ runR N 0 S = .inl M := by
  unfold rn
  cases runR N 0 S with
  | inl A => simp
  | inr i => simp
theorem rn_none {N : List Int} {S : List Stp} (u : Up N) (g : ∀ s ∈ S, goodS s = true) : rn N S = none ↔ (N.length : Int) < need S := by
  have h := run_iff (i := 0) u g
  unfold rn
  cases hr : runR N 0 S with
  | inl A =>
    have := h.mp ⟨A, hr⟩
    simp
    omega
  | inr i =>
    simp
    refine Int.not_le.mp fun z => ?_
    obtain ⟨M, hM⟩ := h.mpr z
    rw [hr] at hM
    cases hM
theorem cnt_congr {t u : Int} {M : List Int} (h : ∀ x ∈ M, x ≤ t ↔ x ≤ u) : cnt M t = cnt M u := by
  induction M with
  | nil => rfl
  | cons x M ih =>
    rw [cnt_cons, cnt_cons, ih fun y hy => h y (List.mem_cons_of_mem _ hy)]
    have := h x List.mem_cons_self
    by_cases hx : x ≤ t
    · rw [if_pos hx, if_pos (this.mp hx)]
    · rw [if_neg hx, if_neg fun z => hx (this.mpr z)]
theorem cnt_le_len (M : List Int) (t : Int) : cnt M t ≤ M.length := by
  induction M with
  | nil => exact Int.le_refl _
  | cons x M ih =>
    rw [cnt_cons, List.length_cons]
    split <;> omega
theorem none_le {A : List Int} (asc : Asc A) {t : Int} (e : cnt A t = 0) : ∀ x ∈ A, ¬ x ≤ t := fun x hx z => by
  have h3 := (cnt_mem asc).mp hx
  have h4 := cnt_nn A (x - 1)
  have h5 := cnt_mono A z
  omega
theorem cnt_ext {A : List Int} (asc : Asc A) {M N : List Int} (hM : ∀ x ∈ M, x ∈ A) (hN : ∀ x ∈ N, x ∈ A) (h : ∀ t ∈ A, cnt M t = cnt N t) (t : Int) : cnt M t = cnt N t := by
  have n0 := cnt_nn A t
  by_cases e : cnt A t = 0
  · have n1 := none_le asc e
    rw [cnt_lt fun x hx => Int.not_le.mp (n1 x (hM x hx)), cnt_lt fun x hx => Int.not_le.mp (n1 x (hN x hx))]
  · obtain ⟨b, h1, h2, h3⟩ := cnt_at asc t ((cnt A t).toNat - 1) (by omega)
    rw [cnt_congr fun x hx => h3 x (hM x hx), cnt_congr (M := N) fun x hx => h3 x (hN x hx)]
    exact h b (List.mem_of_getElem? h1)
/-- among the thresholds there is one like any other -/
theorem near {A : List Int} (asc : Asc A) (t : Int) : ∃ u ∈ A ++ [low A], ∀ x ∈ A, x ≤ t ↔ x ≤ u := by
  have n0 := cnt_nn A t
  by_cases e : cnt A t = 0
  · refine ⟨low A, by simp, fun x hx => ?_⟩
    have h1 := low_lt asc x hx
    have h2 := none_le asc e x hx
    constructor <;> intro <;> omega
  · obtain ⟨b, h1, h2, h3⟩ := cnt_at asc t ((cnt A t).toNat - 1) (by omega)
    exact ⟨b, List.mem_append_left _ (List.mem_of_getElem? h1), h3⟩
theorem near_tb {S R : List Stp} {A : List Int} (asc : Asc A) (mem : ∀ x, x ∈ A ↔ (true, x) ∈ S ∨ (true, x) ∈ R) (t : Int) : ∃ u ∈ A ++ [low A], tb t S = tb u S ∧ tb t R = tb u R := by
  obtain ⟨u, hm, h⟩ := near asc t
  exact ⟨u, hm, tb_local fun x hx => h x ((mem x).mpr (.inl hx)), tb_local fun x hx => h x ((mem x).mpr (.inr hx))⟩
theorem rn_ext {S R : List Stp} (gS : ∀ s ∈ S, goodS s = true) (gR : ∀ s ∈ R, goodS s = true) {N : List Int} (u : Up N) (h1 : need S ≤ N.length) (h2 : need R ≤ N.length) (h : ∀ t, smp t S (cnt N t) = smp t R (cnt N t)) : rn N S = rn N R := by
  obtain ⟨M1, r1⟩ := (run_iff (i := 0) u gS).mpr h1
  obtain ⟨M2, r2⟩ := (run_iff (i := 0) u gR).mpr h2
  obtain ⟨u1, k1, _⟩ := run_cnt u gS r1
  obtain ⟨u2, k2, _⟩ := run_cnt u gR r2
  rw [rn_some.mpr r1, rn_some.mpr r2, up_ext u1 u2 fun t => by rw [k1, k2, h]]
/-- thresholds enough to tell two results apart -/
theorem rn_iff {S R : List Stp} (gS : ∀ s ∈ S, goodS s = true) (gR : ∀ s ∈ R, goodS s = true) {N A : List Int} (u : Up N) (asc : Asc A) (hN : ∀ x ∈ N, x ∈ A) (hS : ∀ x, (true, x) ∈ S → x ∈ A) (hR : ∀ x, (true, x) ∈ R → x ∈ A) (h1 : need S ≤ N.length) (h2 : need R ≤ N.length) : rn N S ≠ rn N R ↔ ∃ t ∈ A, smp t S (cnt N t) ≠ smp t R (cnt N t) := by
  obtain ⟨M1, r1⟩ := (run_iff (i := 0) u gS).mpr h1
  obtain ⟨M2, r2⟩ := (run_iff (i := 0) u gR).mpr h2
  obtain ⟨u1, k1, m1⟩ := run_cnt u gS r1
  obtain ⟨u2, k2, m2⟩ := run_cnt u gR r2
  rw [rn_some.mpr r1, rn_some.mpr r2]
  constructor
  · intro ne
    refine Classical.byContradiction fun no => ne ?_
    have al : ∀ t ∈ A, cnt M1 t = cnt M2 t := fun t ht => by
      rw [k1, k2]
      exact Classical.byContradiction fun z => no ⟨t, ht, z⟩
    rw [up_ext u1 u2 (cnt_ext asc (fun x hx => (m1 x hx).elim (hN x) (hS x)) (fun x hx => (m2 x hx).elim (hN x) (hR x)) al)]
  · rintro ⟨t, _, hne⟩ e
    rw [← k1, ← k2, Option.some.inj e] at hne
    exact hne rfl
/-- what is_separating gives -/
def isSep (S R : List Stp) (N A : List Int) : Bool := if (N.length : Int) < max (need S) (need R) then decide (min (need S) (need R) ≤ (N.length : Int)) else A.any fun t => decide (smp t S (cnt N t) ≠ smp t R (cnt N t))
theorem isSep_iff {S R : List Stp} (gS : ∀ s ∈ S, goodS s = true) (gR : ∀ s ∈ R, goodS s = true) {N A : List Int} (u : Up N) (asc : Asc A) (hN : ∀ x ∈ N, x ∈ A) (hS : ∀ x, (true, x) ∈ S → x ∈ A) (hR : ∀ x, (true, x) ∈ R → x ∈ A) : isSep S R N A = decide (rn N S ≠ rn N R) := by
  rw [Bool.eq_iff_iff, decide_eq_true_eq]
  unfold isSep
  have n1 := rn_none u gS
  have n2 := rn_none u gR
  by_cases h : (N.length : Int) < max (need S) (need R)
  · rw [if_pos h, decide_eq_true_eq]
    constructor
    · intro h2 e
      by_cases h3 : (N.length : Int) < need S
      · rw [n1.mpr h3] at e
        have := n2.mp e.symm
        omega
      · have := n2.mpr (by omega)
        rw [this] at e
        exact h3 (n1.mp e)
    · intro ne
      refine Int.not_lt.mp fun h2 => ne ?_
      rw [n1.mpr (by omega), n2.mpr (by omega)]
  · rw [if_neg h, List.any_eq_true]
    rw [rn_iff gS gR u asc hN hS hR (by omega) (by omega)]
    exact ⟨fun ⟨t, h1, h2⟩ => ⟨t, h1, of_decide_eq_true h2⟩, fun ⟨t, h1, h2⟩ => ⟨t, h1, decide_eq_true h2⟩⟩
/-- a list that is shorter than the separating one does not separate -/
theorem rn_short {S R : List Stp} (gS : ∀ s ∈ S, goodS s = true) (gR : ∀ s ∈ R, goodS s = true) {A : List Int} (asc : Asc A) (mem : ∀ x, x ∈ A ↔ (true, x) ∈ S ∨ (true, x) ∈ R) {t c : Int} (hu : fdF (fun t => ldT (tb t S) (tb t R)) (A ++ [low A]) = some (t, c)) {N : List Int} (u : Up N) (hl : (N.length : Int) < sepW S R c) : rn N S = rn N R := by
  have n1 := rn_none u gS
  have n2 := rn_none u gR
  have sp := (fdF_spec (fun t => ldT (tb t S) (tb t R)) (A ++ [low A])).2 t c hu
  by_cases h1 : (N.length : Int) < need S
  · by_cases h2 : (N.length : Int) < need R
    · rw [n1.mpr h1, n2.mpr h2]
    · exfalso
      unfold sepW at hl
      rw [if_neg (by omega)] at hl
      split at hl <;> omega
  · by_cases h2 : (N.length : Int) < need R
    · exfalso
      unfold sepW at hl
      rw [if_neg (by omega)] at hl
      split at hl <;> omega
    · refine rn_ext gS gR u (by omega) (by omega) fun t' => ?_
      have hc : (N.length : Int) < c := by
        unfold sepW at hl
        split at hl
        · split at hl <;> omega
        · split at hl <;> omega
      have c1 := cnt_le_len N t'
      have c0 := cnt_nn N t'
      obtain ⟨w, hw, e1, e2⟩ := near_tb asc mem t'
      rw [← tb_mp gS c0, ← tb_mp gR c0, e1, e2]
      cases hd : ldT (tb w S) (tb w R) with
      | none => rw [ldT_none.mp hd]
      | some d =>
        have := sp.2.2 w hw d hd
        exact (ldT_some (tb_ok gS) (tb_ok gR) hd).2.2.1 _ c0 (by omega)
theorem rn_same {S R : List Stp} (gS : ∀ s ∈ S, goodS s = true) (gR : ∀ s ∈ R, goodS s = true) {A : List Int} (asc : Asc A) (mem : ∀ x, x ∈ A ↔ (true, x) ∈ S ∨ (true, x) ∈ R) (hu : fdF (fun t => ldT (tb t S) (tb t R)) (A ++ [low A]) = none) {N : List Int} (u : Up N) : rn N S = rn N R := by
  have al := (fdF_spec (fun t => ldT (tb t S) (tb t R)) (A ++ [low A])).1.mp hu
  have te : ∀ t, tb t S = tb t R := fun t => by
    obtain ⟨w, hw, e1, e2⟩ := near_tb asc mem t
    rw [e1, e2]
    exact ldT_none.mp (al w hw)
  have sm : ∀ t c, 0 ≤ c → smp t S c = smp t R c := fun t c h => by rw [← tb_mp gS h, ← tb_mp gR h, te]
  have n1 := rn_none u gS
  have n2 := rn_none u gR
  have ne : need S = need R := by
    obtain ⟨T, hT⟩ : ∃ T, T = max (topOf S) (topOf R) := ⟨_, rfl⟩
    have e1 : tb (topOf S) S = tb T S := tb_local fun x hx => by
      have := top_top S x hx
      constructor <;> intro <;> omega
    have e2 : tb (topOf R) R = tb T R := tb_local fun x hx => by
      have := top_top R x hx
      constructor <;> intro <;> omega
    unfold need
    rw [e1, e2, te]
  by_cases h : (N.length : Int) < need S
  · rw [n1.mpr h, n2.mpr (by omega)]
  · exact rn_ext gS gR u (by omega) (by omega) fun t => sm t _ (cnt_nn N t)
theorem rn_sep {S R : List Stp} (gS : ∀ s ∈ S, goodS s = true) (gR : ∀ s ∈ R, goodS s = true) {t c : Int} (h : ldT (tb t S) (tb t R) = some c) : rn (sepN (sepW S R c) t c) S ≠ rn (sepN (sepW S R c) t c) R := fun e => by
  have c0 := (ldT_some (tb_ok gS) (tb_ok gR) h).1
  obtain ⟨M, r | r⟩ := sep_some gS gR (t := t) c0
  · have r2 := rn_some.mpr r
    rw [e] at r2
    exact sep_differs gS gR h M r (rn_some.mp r2)
  · have r2 := rn_some.mpr r
    rw [← e] at r2
    exact sep_differs gS gR h M (rn_some.mp r2) r
end Cmp

namespace K13
open PySem L2 XT
def top (i : Nat) : Stmt := PySem.Challenge.pw_rankeffect_k13_whole_separating_lists.main.body.getD i (.Pass ⟨0, 0, 0, 0⟩)

abbrev s_is_integer : Stmt := top 3
abbrev N_is_integer : List Str := ["value"]
theorem sc_is_integer : FnScope N_is_integer ["value"] (defScope s_is_integer) := ⟨rfl, rfl, rfl, by decide +kernel, rfl, by decide +kernel, by decide +kernel⟩
theorem bn_is_integer : XT.Bnd "is_integer" "is_integer" s_is_integer ["value"] := fun _ _ _ _ _ _ us hl => match us, hl with | [_], _ => rfl

abbrev s_is_count : Stmt := top 4
abbrev N_is_count : List Str := ["value"]
theorem sc_is_count : FnScope N_is_count ["value"] (defScope s_is_count) := ⟨rfl, rfl, rfl, by decide +kernel, rfl, by decide +kernel, by decide +kernel⟩
theorem bn_is_count : XT.Bnd "is_count" "is_count" s_is_count ["value"] := fun _ _ _ _ _ _ us hl => match us, hl with | [_], _ => rfl

abbrev s_is_rank : Stmt := top 5
abbrev N_is_rank : List Str := ["value"]
theorem sc_is_rank : FnScope N_is_rank ["value"] (defScope s_is_rank) := ⟨rfl, rfl, rfl, by decide +kernel, rfl, by decide +kernel, by decide +kernel⟩
theorem bn_is_rank : XT.Bnd "is_rank" "is_rank" s_is_rank ["value"] := fun _ _ _ _ _ _ us hl => match us, hl with | [_], _ => rfl

abbrev s_is_number_list : Stmt := top 6
abbrev N_is_number_list : List Str := ["value", "number"]
theorem sc_is_number_list : FnScope N_is_number_list ["value"] (defScope s_is_number_list) := ⟨rfl, rfl, rfl, by decide +kernel, rfl, by decide +kernel, by decide +kernel⟩
theorem bn_is_number_list : XT.Bnd "is_number_list" "is_number_list" s_is_number_list ["value"] := fun _ _ _ _ _ _ us hl => match us, hl with | [_], _ => rfl

abbrev s_is_ascending : Stmt := top 7
abbrev N_is_ascending : List Str := ["value", "low", "high"]
theorem sc_is_ascending : FnScope N_is_ascending ["value"] (defScope s_is_ascending) := ⟨rfl, rfl, rfl, by decide +kernel, rfl, by decide +kernel, by decide +kernel⟩
theorem bn_is_ascending : XT.Bnd "is_ascending" "is_ascending" s_is_ascending ["value"] := fun _ _ _ _ _ _ us hl => match us, hl with | [_], _ => rfl

abbrev s_is_rank_list : Stmt := top 8
abbrev N_is_rank_list : List Str := ["value", "number"]
theorem sc_is_rank_list : FnScope N_is_rank_list ["value"] (defScope s_is_rank_list) := ⟨rfl, rfl, rfl, by decide +kernel, rfl, by decide +kernel, by decide +kernel⟩
theorem bn_is_rank_list : XT.Bnd "is_rank_list" "is_rank_list" s_is_rank_list ["value"] := fun _ _ _ _ _ _ us hl => match us, hl with | [_], _ => rfl

abbrev s_ascending : Stmt := top 19
abbrev N_ascending : List Str := ["numbers"]
theorem sc_ascending : FnScope N_ascending ["numbers"] (defScope s_ascending) := ⟨rfl, rfl, rfl, by decide +kernel, rfl, by decide +kernel, by decide +kernel⟩
theorem bn_ascending : XT.Bnd "ascending" "ascending" s_ascending ["numbers"] := fun _ _ _ _ _ _ us hl => match us, hl with | [_], _ => rfl

abbrev s_Sequence___init__ : Stmt := inClass (top 21) 0
abbrev N_Sequence___init__ : List Str := ["self", "steps", "step"]
theorem sc_Sequence___init__ : FnScope N_Sequence___init__ ["self", "steps"] (defScope s_Sequence___init__) := ⟨rfl, rfl, rfl, by decide +kernel, rfl, by decide +kernel, by decide +kernel⟩
theorem bn_Sequence___init__ : XT.BndS "__init__" "Sequence.__init__" s_Sequence___init__ ["self"] "steps" := fun _ _ _ _ _ _ us rest hl => StX.bind_star1 (B := fun us => bindArgs _ ⟨us, []⟩) (fun _ => rfl) (fun _ _ _ => rfl) us rest hl

abbrev s_Sequence_is_step : Stmt := inClass (top 21) 1
abbrev N_Sequence_is_step : List Str := ["value", "word", "number"]
theorem sc_Sequence_is_step : FnScope N_Sequence_is_step ["value"] (defScope s_Sequence_is_step) := ⟨rfl, rfl, rfl, by decide +kernel, rfl, by decide +kernel, by decide +kernel⟩
theorem bn_Sequence_is_step : XT.Bnd "is_step" "Sequence.is_step" s_Sequence_is_step ["value"] := fun _ _ _ _ _ _ us hl => match us, hl with | [_], _ => rfl

abbrev s_Sequence_steps : Stmt := inClass (top 21) 2
abbrev N_Sequence_steps : List Str := ["self"]
theorem sc_Sequence_steps : FnScope N_Sequence_steps ["self"] (defScope s_Sequence_steps) := ⟨rfl, rfl, rfl, by decide +kernel, rfl, by decide +kernel, by decide +kernel⟩
theorem bn_Sequence_steps : XT.Bnd "steps" "Sequence.steps" s_Sequence_steps ["self"] := fun _ _ _ _ _ _ us hl => match us, hl with | [_], _ => rfl

abbrev s_Sequence___add__ : Stmt := inClass (top 21) 5
abbrev N_Sequence___add__ : List Str := ["self", "other", "steps"]
theorem sc_Sequence___add__ : FnScope N_Sequence___add__ ["self", "other"] (defScope s_Sequence___add__) := ⟨rfl, rfl, rfl, by decide +kernel, rfl, by decide +kernel, by decide +kernel⟩
theorem bn_Sequence___add__ : XT.Bnd "__add__" "Sequence.__add__" s_Sequence___add__ ["self", "other"] := fun _ _ _ _ _ _ us hl => match us, hl with | [_, _], _ => rfl

abbrev s_how_many_up_to : Stmt := top 23
abbrev N_how_many_up_to : List Str := ["numbers", "limit", "low", "high", "middle"]
theorem sc_how_many_up_to : FnScope N_how_many_up_to ["numbers", "limit"] (defScope s_how_many_up_to) := ⟨rfl, rfl, rfl, by decide +kernel, rfl, by decide +kernel, by decide +kernel⟩
theorem bn_how_many_up_to : XT.Bnd "how_many_up_to" "how_many_up_to" s_how_many_up_to ["numbers", "limit"] := fun _ _ _ _ _ _ us hl => match us, hl with | [_, _], _ => rfl

abbrev s_mapped : Stmt := top 24
abbrev N_mapped : List Str := ["start", "lost", "count"]
theorem sc_mapped : FnScope N_mapped ["start", "lost", "count"] (defScope s_mapped) := ⟨rfl, rfl, rfl, by decide +kernel, rfl, by decide +kernel, by decide +kernel⟩
theorem bn_mapped : XT.Bnd "mapped" "mapped" s_mapped ["start", "lost", "count"] := fun _ _ _ _ _ _ us hl => match us, hl with | [_, _, _], _ => rfl

abbrev s_kept_rank : Stmt := top 25
abbrev N_kept_rank : List Str := ["lost", "place", "low", "high", "middle"]
theorem sc_kept_rank : FnScope N_kept_rank ["lost", "place"] (defScope s_kept_rank) := ⟨rfl, rfl, rfl, by decide +kernel, rfl, by decide +kernel, by decide +kernel⟩
theorem bn_kept_rank : XT.Bnd "kept_rank" "kept_rank" s_kept_rank ["lost", "place"] := fun _ _ _ _ _ _ us hl => match us, hl with | [_, _], _ => rfl

abbrev s_Table___init__ : Stmt := inClass (top 26) 0
abbrev N_Table___init__ : List Str := ["self", "start", "lost"]
theorem sc_Table___init__ : FnScope N_Table___init__ ["self", "start", "lost"] (defScope s_Table___init__) := ⟨rfl, rfl, rfl, by decide +kernel, rfl, by decide +kernel, by decide +kernel⟩
theorem bn_Table___init__ : XT.Bnd "__init__" "Table.__init__" s_Table___init__ ["self", "start", "lost"] := fun _ _ _ _ _ _ us hl => match us, hl with | [_, _, _], _ => rfl

abbrev s_Table_start : Stmt := inClass (top 26) 1
abbrev N_Table_start : List Str := ["self"]
theorem sc_Table_start : FnScope N_Table_start ["self"] (defScope s_Table_start) := ⟨rfl, rfl, rfl, by decide +kernel, rfl, by decide +kernel, by decide +kernel⟩
theorem bn_Table_start : XT.Bnd "start" "Table.start" s_Table_start ["self"] := fun _ _ _ _ _ _ us hl => match us, hl with | [_], _ => rfl

abbrev s_Table_lost : Stmt := inClass (top 26) 2
abbrev N_Table_lost : List Str := ["self"]
theorem sc_Table_lost : FnScope N_Table_lost ["self"] (defScope s_Table_lost) := ⟨rfl, rfl, rfl, by decide +kernel, rfl, by decide +kernel, by decide +kernel⟩
theorem bn_Table_lost : XT.Bnd "lost" "Table.lost" s_Table_lost ["self"] := fun _ _ _ _ _ _ us hl => match us, hl with | [_], _ => rfl

abbrev s_Table___call__ : Stmt := inClass (top 26) 5
abbrev N_Table___call__ : List Str := ["self", "count"]
theorem sc_Table___call__ : FnScope N_Table___call__ ["self", "count"] (defScope s_Table___call__) := ⟨rfl, rfl, rfl, by decide +kernel, rfl, by decide +kernel, by decide +kernel⟩
theorem bn_Table___call__ : XT.Bnd "__call__" "Table.__call__" s_Table___call__ ["self", "count"] := fun _ _ _ _ _ _ us hl => match us, hl with | [_, _], _ => rfl

abbrev s_Table___eq__ : Stmt := inClass (top 26) 6
abbrev N_Table___eq__ : List Str := ["self", "other"]
theorem sc_Table___eq__ : FnScope N_Table___eq__ ["self", "other"] (defScope s_Table___eq__) := ⟨rfl, rfl, rfl, by decide +kernel, rfl, by decide +kernel, by decide +kernel⟩
theorem bn_Table___eq__ : XT.Bnd "__eq__" "Table.__eq__" s_Table___eq__ ["self", "other"] := fun _ _ _ _ _ _ us hl => match us, hl with | [_, _], _ => rfl

abbrev s_united : Stmt := top 28
abbrev N_united : List Str := ["first", "second"]
theorem sc_united : FnScope N_united ["first", "second"] (defScope s_united) := ⟨rfl, rfl, rfl, by decide +kernel, rfl, by decide +kernel, by decide +kernel⟩
theorem bn_united : XT.Bnd "united" "united" s_united ["first", "second"] := fun _ _ _ _ _ _ us hl => match us, hl with | [_, _], _ => rfl

abbrev s_below_all : Stmt := top 29
abbrev N_below_all : List Str := ["breaks"]
theorem sc_below_all : FnScope N_below_all ["breaks"] (defScope s_below_all) := ⟨rfl, rfl, rfl, by decide +kernel, rfl, by decide +kernel, by decide +kernel⟩
theorem bn_below_all : XT.Bnd "below_all" "below_all" s_below_all ["breaks"] := fun _ _ _ _ _ _ us hl => match us, hl with | [_], _ => rfl

abbrev s_table_at : Stmt := top 30
abbrev N_table_at : List Str := ["breaks", "tables", "threshold"]
theorem sc_table_at : FnScope N_table_at ["breaks", "tables", "threshold"] (defScope s_table_at) := ⟨rfl, rfl, rfl, by decide +kernel, rfl, by decide +kernel, by decide +kernel⟩
theorem bn_table_at : XT.Bnd "table_at" "table_at" s_table_at ["breaks", "tables", "threshold"] := fun _ _ _ _ _ _ us hl => match us, hl with | [_, _, _], _ => rfl

abbrev s_table_of : Stmt := top 31
abbrev N_table_of : List Str := ["steps", "threshold", "start", "lost", "word", "number", "place", "rank", "below"]
theorem sc_table_of : FnScope N_table_of ["steps", "threshold"] (defScope s_table_of) := ⟨rfl, rfl, rfl, by decide +kernel, rfl, by decide +kernel, by decide +kernel⟩
theorem bn_table_of : XT.Bnd "table_of" "table_of" s_table_of ["steps", "threshold"] := fun _ _ _ _ _ _ us hl => match us, hl with | [_, _], _ => rfl

abbrev s_is_table_list : Stmt := top 32
abbrev N_is_table_list : List Str := ["value", "table", "low", "high"]
theorem sc_is_table_list : FnScope N_is_table_list ["value"] (defScope s_is_table_list) := ⟨rfl, rfl, rfl, by decide +kernel, rfl, by decide +kernel, by decide +kernel⟩
theorem bn_is_table_list : XT.Bnd "is_table_list" "is_table_list" s_is_table_list ["value"] := fun _ _ _ _ _ _ us hl => match us, hl with | [_], _ => rfl

abbrev s_total_after : Stmt := top 33
abbrev N_total_after : List Str := ["effect", "numbers", "threshold", "table"]
theorem sc_total_after : FnScope N_total_after ["effect", "numbers", "threshold"] (defScope s_total_after) := ⟨rfl, rfl, rfl, by decide +kernel, rfl, by decide +kernel, by decide +kernel⟩
theorem bn_total_after : XT.Bnd "total_after" "total_after" s_total_after ["effect", "numbers", "threshold"] := fun _ _ _ _ _ _ us hl => match us, hl with | [_, _, _], _ => rfl

abbrev s_spread : Stmt := top 34
abbrev N_spread : List Str := ["values", "totals", "result", "before", "value", "total"]
theorem sc_spread : FnScope N_spread ["values", "totals"] (defScope s_spread) := ⟨rfl, rfl, rfl, by decide +kernel, rfl, by decide +kernel, by decide +kernel⟩
theorem bn_spread : XT.Bnd "spread" "spread" s_spread ["values", "totals"] := fun _ _ _ _ _ _ us hl => match us, hl with | [_, _], _ => rfl

abbrev s_Effect___init__ : Stmt := inClass (top 35) 0
abbrev N_Effect___init__ : List Str := ["self", "breaks", "tables"]
theorem sc_Effect___init__ : FnScope N_Effect___init__ ["self", "breaks", "tables"] (defScope s_Effect___init__) := ⟨rfl, rfl, rfl, by decide +kernel, rfl, by decide +kernel, by decide +kernel⟩
theorem bn_Effect___init__ : XT.Bnd "__init__" "Effect.__init__" s_Effect___init__ ["self", "breaks", "tables"] := fun _ _ _ _ _ _ us hl => match us, hl with | [_, _, _], _ => rfl

abbrev s_Effect_of : Stmt := inClass (top 35) 1
abbrev N_Effect_of : List Str := ["cls", "sequence", "steps", "breaks", "word", "number", "thresholds", "threshold"]
theorem sc_Effect_of : FnScope N_Effect_of ["cls", "sequence"] (defScope s_Effect_of) := ⟨rfl, rfl, rfl, by decide +kernel, rfl, by decide +kernel, by decide +kernel⟩
theorem bn_Effect_of : XT.Bnd "of" "Effect.of" s_Effect_of ["cls", "sequence"] := fun _ _ _ _ _ _ us hl => match us, hl with | [_, _], _ => rfl

abbrev s_Effect_breaks : Stmt := inClass (top 35) 3
abbrev N_Effect_breaks : List Str := ["self"]
theorem sc_Effect_breaks : FnScope N_Effect_breaks ["self"] (defScope s_Effect_breaks) := ⟨rfl, rfl, rfl, by decide +kernel, rfl, by decide +kernel, by decide +kernel⟩
theorem bn_Effect_breaks : XT.Bnd "breaks" "Effect.breaks" s_Effect_breaks ["self"] := fun _ _ _ _ _ _ us hl => match us, hl with | [_], _ => rfl

abbrev s_Effect_tables : Stmt := inClass (top 35) 4
abbrev N_Effect_tables : List Str := ["self"]
theorem sc_Effect_tables : FnScope N_Effect_tables ["self"] (defScope s_Effect_tables) := ⟨rfl, rfl, rfl, by decide +kernel, rfl, by decide +kernel, by decide +kernel⟩
theorem bn_Effect_tables : XT.Bnd "tables" "Effect.tables" s_Effect_tables ["self"] := fun _ _ _ _ _ _ us hl => match us, hl with | [_], _ => rfl

abbrev s_Effect_need : Stmt := inClass (top 35) 5
abbrev N_Effect_need : List Str := ["self", "lost"]
theorem sc_Effect_need : FnScope N_Effect_need ["self"] (defScope s_Effect_need) := ⟨rfl, rfl, rfl, by decide +kernel, rfl, by decide +kernel, by decide +kernel⟩
theorem bn_Effect_need : XT.Bnd "need" "Effect.need" s_Effect_need ["self"] := fun _ _ _ _ _ _ us hl => match us, hl with | [_], _ => rfl

abbrev s_Effect_table : Stmt := inClass (top 35) 7
abbrev N_Effect_table : List Str := ["self", "threshold"]
theorem sc_Effect_table : FnScope N_Effect_table ["self", "threshold"] (defScope s_Effect_table) := ⟨rfl, rfl, rfl, by decide +kernel, rfl, by decide +kernel, by decide +kernel⟩
theorem bn_Effect_table : XT.Bnd "table" "Effect.table" s_Effect_table ["self", "threshold"] := fun _ _ _ _ _ _ us hl => match us, hl with | [_, _], _ => rfl

abbrev s_Effect___eq__ : Stmt := inClass (top 35) 10
abbrev N_Effect___eq__ : List Str := ["self", "other"]
theorem sc_Effect___eq__ : FnScope N_Effect___eq__ ["self", "other"] (defScope s_Effect___eq__) := ⟨rfl, rfl, rfl, by decide +kernel, rfl, by decide +kernel, by decide +kernel⟩
theorem bn_Effect___eq__ : XT.Bnd "__eq__" "Effect.__eq__" s_Effect___eq__ ["self", "other"] := fun _ _ _ _ _ _ us hl => match us, hl with | [_, _], _ => rfl

abbrev s_least_difference : Stmt := top 37
abbrev N_least_difference : List Str := ["first", "second", "one", "other", "shared", "rest"]
theorem sc_least_difference : FnScope N_least_difference ["first", "second"] (defScope s_least_difference) := ⟨rfl, rfl, rfl, by decide +kernel, rfl, by decide +kernel, by decide +kernel⟩
theorem bn_least_difference : XT.Bnd "least_difference" "least_difference" s_least_difference ["first", "second"] := fun _ _ _ _ _ _ us hl => match us, hl with | [_, _], _ => rfl

abbrev s_first_difference : Stmt := top 38
abbrev N_first_difference : List Str := ["first", "second", "breaks", "found", "threshold", "count"]
theorem sc_first_difference : FnScope N_first_difference ["first", "second"] (defScope s_first_difference) := ⟨rfl, rfl, rfl, by decide +kernel, rfl, by decide +kernel, by decide +kernel⟩
theorem bn_first_difference : XT.Bnd "first_difference" "first_difference" s_first_difference ["first", "second"] := fun _ _ _ _ _ _ us hl => match us, hl with | [_, _], _ => rfl

abbrev s_separating_list : Stmt := top 39
abbrev N_separating_list : List Str := ["first", "second", "found", "threshold", "count", "length", "low"]
theorem sc_separating_list : FnScope N_separating_list ["first", "second"] (defScope s_separating_list) := ⟨rfl, rfl, rfl, by decide +kernel, rfl, by decide +kernel, by decide +kernel⟩
theorem bn_separating_list : XT.Bnd "separating_list" "separating_list" s_separating_list ["first", "second"] := fun _ _ _ _ _ _ us hl => match us, hl with | [_, _], _ => rfl

abbrev s_is_separating : Stmt := top 40
abbrev N_is_separating : List Str := ["first", "second", "value", "numbers", "thresholds", "threshold"]
theorem sc_is_separating : FnScope N_is_separating ["first", "second", "value"] (defScope s_is_separating) := ⟨rfl, rfl, rfl, by decide +kernel, rfl, by decide +kernel, by decide +kernel⟩
theorem bn_is_separating : XT.Bnd "is_separating" "is_separating" s_is_separating ["first", "second", "value"] := fun _ _ _ _ _ _ us hl => match us, hl with | [_, _, _], _ => rfl

abbrev s_law_pool : Stmt := top 42
abbrev N_law_pool : List Str := ["_law_script", "_law_k", "_law_cell", "_law_mixed"]
theorem sc_law_pool : FnScope N_law_pool ["_law_script", "_law_k"] (defScope s_law_pool) := ⟨rfl, rfl, rfl, by decide +kernel, rfl, by decide +kernel, by decide +kernel⟩
theorem bn_law_pool : XT.Bnd "_law_pool" "_law_pool" s_law_pool ["_law_script", "_law_k"] := fun _ _ _ _ _ _ us hl => match us, hl with | [_, _], _ => rfl

abbrev s_law_take : Stmt := top 43
abbrev N_law_take : List Str := ["_law_pool_here", "_law_many", "_law_found"]
theorem sc_law_take : FnScope N_law_take ["_law_pool_here", "_law_many"] (defScope s_law_take) := ⟨rfl, rfl, rfl, by decide +kernel, rfl, by decide +kernel, by decide +kernel⟩
theorem bn_law_take : XT.Bnd "_law_take" "_law_take" s_law_take ["_law_pool_here", "_law_many"] := fun _ _ _ _ _ _ us hl => match us, hl with | [_, _], _ => rfl

abbrev s_law_steps : Stmt := top 44
abbrev N_law_steps : List Str := ["_law_pool_here", "_law_most", "_law_steps_here", "_law_way", "_law_turn"]
theorem sc_law_steps : FnScope N_law_steps ["_law_pool_here", "_law_most"] (defScope s_law_steps) := ⟨rfl, rfl, rfl, by decide +kernel, rfl, by decide +kernel, by decide +kernel⟩
theorem bn_law_steps : XT.Bnd "_law_steps" "_law_steps" s_law_steps ["_law_pool_here", "_law_most"] := fun _ _ _ _ _ _ us hl => match us, hl with | [_, _], _ => rfl

abbrev s_law_made : Stmt := top 45
abbrev N_law_made : List Str := ["_law_steps_here", "_law_made_here", "_law_step"]
theorem sc_law_made : FnScope N_law_made ["_law_steps_here"] (defScope s_law_made) := ⟨rfl, rfl, rfl, by decide +kernel, rfl, by decide +kernel, by decide +kernel⟩
theorem bn_law_made : XT.Bnd "_law_made" "_law_made" s_law_made ["_law_steps_here"] := fun _ _ _ _ _ _ us hl => match us, hl with | [_], _ => rfl

abbrev s_law_run : Stmt := top 46
abbrev N_law_run : List Str := ["_law_steps_here", "_law_numbers", "_law_rest", "_law_word", "_law_number"]
theorem sc_law_run : FnScope N_law_run ["_law_steps_here", "_law_numbers"] (defScope s_law_run) := ⟨rfl, rfl, rfl, by decide +kernel, rfl, by decide +kernel, by decide +kernel⟩
theorem bn_law_run : XT.Bnd "_law_run" "_law_run" s_law_run ["_law_steps_here", "_law_numbers"] := fun _ _ _ _ _ _ us hl => match us, hl with | [_, _], _ => rfl

abbrev s_law_lists : Stmt := top 47
abbrev N_law_lists : List Str := ["_law_values", "_law_size", "_law_rows", "_law_turn", "_law_longer", "_law_row", "_law_value"]
theorem sc_law_lists : FnScope N_law_lists ["_law_values", "_law_size"] (defScope s_law_lists) := ⟨rfl, rfl, rfl, by decide +kernel, rfl, by decide +kernel, by decide +kernel⟩
theorem bn_law_lists : XT.Bnd "_law_lists" "_law_lists" s_law_lists ["_law_values", "_law_size"] := fun _ _ _ _ _ _ us hl => match us, hl with | [_, _], _ => rfl

abbrev s_law_drawn_right : Stmt := top 48
abbrev N_law_drawn_right : List Str := ["_law_pool_here", "_law_first", "_law_second", "_law_one", "_law_two", "_law_least", "_law_values", "_law_turn", "_law_numbers", "_law_item", "_law_shown", "_law_due"]
theorem sc_law_drawn_right : FnScope N_law_drawn_right ["_law_pool_here", "_law_first", "_law_second", "_law_one", "_law_two", "_law_least", "_law_values"] (defScope s_law_drawn_right) := ⟨rfl, rfl, rfl, by decide +kernel, rfl, by decide +kernel, by decide +kernel⟩
theorem bn_law_drawn_right : XT.Bnd "_law_drawn_right" "_law_drawn_right" s_law_drawn_right ["_law_pool_here", "_law_first", "_law_second", "_law_one", "_law_two", "_law_least", "_law_values"] := fun _ _ _ _ _ _ us hl => match us, hl with | [_, _, _, _, _, _, _], _ => rfl

abbrev s_law_right : Stmt := top 49
abbrev N_law_right : List Str := ["_law_pool_here", "_law_one", "_law_two", "_law_first", "_law_second", "_law_found", "_law_values", "_law_number", "_law_size", "_law_length", "_law_numbers", "_law_odd", "_law_least"]
theorem sc_law_right : FnScope N_law_right ["_law_pool_here", "_law_one", "_law_two"] (defScope s_law_right) := ⟨rfl, rfl, rfl, by decide +kernel, rfl, by decide +kernel, by decide +kernel⟩
theorem bn_law_right : XT.Bnd "_law_right" "_law_right" s_law_right ["_law_pool_here", "_law_one", "_law_two"] := fun _ _ _ _ _ _ us hl => match us, hl with | [_, _, _], _ => rfl

abbrev s_law : Stmt := top 50
abbrev N_law : List Str := ["_law_script", "_law_k", "_law_pool_here", "_law_one", "_law_two", "_law_at", "_law_other"]
theorem sc_law : FnScope N_law ["_law_script"] (defScope s_law) := ⟨rfl, rfl, rfl, by decide +kernel, rfl, by decide +kernel, by decide +kernel⟩
theorem bn_law : XT.Bnd "law" "law" s_law ["_law_script"] := fun _ _ _ _ _ _ us hl => match us, hl with | [_], _ => rfl

structure Ads where
  is_integer : Addr
  is_count : Addr
  is_rank : Addr
  is_number_list : Addr
  is_ascending : Addr
  is_rank_list : Addr
  ascending : Addr
  Sequence___init__ : Addr
  Sequence_is_step : Addr
  Sequence_steps : Addr
  Sequence___add__ : Addr
  how_many_up_to : Addr
  mapped : Addr
  kept_rank : Addr
  Table___init__ : Addr
  Table_start : Addr
  Table_lost : Addr
  Table___call__ : Addr
  Table___eq__ : Addr
  united : Addr
  below_all : Addr
  table_at : Addr
  table_of : Addr
  is_table_list : Addr
  total_after : Addr
  spread : Addr
  Effect___init__ : Addr
  Effect_of : Addr
  Effect_breaks : Addr
  Effect_tables : Addr
  Effect_need : Addr
  Effect_table : Addr
  Effect___eq__ : Addr
  least_difference : Addr
  first_difference : Addr
  separating_list : Addr
  is_separating : Addr
  law_pool : Addr
  law_take : Addr
  law_steps : Addr
  law_made : Addr
  law_run : Addr
  law_lists : Addr
  law_drawn_right : Addr
  law_right : Addr
  law : Addr
  RankError : Addr
  Sequence : Addr
  Table : Addr
  Effect : Addr
  P_steps : Addr
  P_start : Addr
  P_lost : Addr
  P_breaks : Addr
  P_tables : Addr
  P_need : Addr
  S_is_step : Addr
  C_of : Addr

structure Txt (K : PySem.W.Frag) (mg : Str → Option Value) (a : Ads) : Prop where
  F_is_integer : ∃ fd, Fun K "is_integer" "is_integer" s_is_integer a.is_integer fd
  g_is_integer : mg "is_integer" = some (.ref a.is_integer)
  k_is_integer : PySem.W.keepIn K (.ref a.is_integer) = true
  F_is_count : ∃ fd, Fun K "is_count" "is_count" s_is_count a.is_count fd
  g_is_count : mg "is_count" = some (.ref a.is_count)
  k_is_count : PySem.W.keepIn K (.ref a.is_count) = true
  F_is_rank : ∃ fd, Fun K "is_rank" "is_rank" s_is_rank a.is_rank fd
  g_is_rank : mg "is_rank" = some (.ref a.is_rank)
  k_is_rank : PySem.W.keepIn K (.ref a.is_rank) = true
  F_is_number_list : ∃ fd, Fun K "is_number_list" "is_number_list" s_is_number_list a.is_number_list fd
  g_is_number_list : mg "is_number_list" = some (.ref a.is_number_list)
  k_is_number_list : PySem.W.keepIn K (.ref a.is_number_list) = true
  F_is_ascending : ∃ fd, Fun K "is_ascending" "is_ascending" s_is_ascending a.is_ascending fd
  g_is_ascending : mg "is_ascending" = some (.ref a.is_ascending)
  k_is_ascending : PySem.W.keepIn K (.ref a.is_ascending) = true
  F_is_rank_list : ∃ fd, Fun K "is_rank_list" "is_rank_list" s_is_rank_list a.is_rank_list fd
  g_is_rank_list : mg "is_rank_list" = some (.ref a.is_rank_list)
  k_is_rank_list : PySem.W.keepIn K (.ref a.is_rank_list) = true
  F_ascending : ∃ fd, Fun K "ascending" "ascending" s_ascending a.ascending fd
  g_ascending : mg "ascending" = some (.ref a.ascending)
  k_ascending : PySem.W.keepIn K (.ref a.ascending) = true
  F_Sequence___init__ : ∃ fd, Fun K "__init__" "Sequence.__init__" s_Sequence___init__ a.Sequence___init__ fd
  F_Sequence_is_step : ∃ fd, Fun K "is_step" "Sequence.is_step" s_Sequence_is_step a.Sequence_is_step fd
  F_Sequence_steps : ∃ fd, Fun K "steps" "Sequence.steps" s_Sequence_steps a.Sequence_steps fd
  F_Sequence___add__ : ∃ fd, Fun K "__add__" "Sequence.__add__" s_Sequence___add__ a.Sequence___add__ fd
  F_how_many_up_to : ∃ fd, Fun K "how_many_up_to" "how_many_up_to" s_how_many_up_to a.how_many_up_to fd
  g_how_many_up_to : mg "how_many_up_to" = some (.ref a.how_many_up_to)
  k_how_many_up_to : PySem.W.keepIn K (.ref a.how_many_up_to) = true
  F_mapped : ∃ fd, Fun K "mapped" "mapped" s_mapped a.mapped fd
  g_mapped : mg "mapped" = some (.ref a.mapped)
  k_mapped : PySem.W.keepIn K (.ref a.mapped) = true
  F_kept_rank : ∃ fd, Fun K "kept_rank" "kept_rank" s_kept_rank a.kept_rank fd
  g_kept_rank : mg "kept_rank" = some (.ref a.kept_rank)
  k_kept_rank : PySem.W.keepIn K (.ref a.kept_rank) = true
  F_Table___init__ : ∃ fd, Fun K "__init__" "Table.__init__" s_Table___init__ a.Table___init__ fd
  F_Table_start : ∃ fd, Fun K "start" "Table.start" s_Table_start a.Table_start fd
  F_Table_lost : ∃ fd, Fun K "lost" "Table.lost" s_Table_lost a.Table_lost fd
  F_Table___call__ : ∃ fd, Fun K "__call__" "Table.__call__" s_Table___call__ a.Table___call__ fd
  F_Table___eq__ : ∃ fd, Fun K "__eq__" "Table.__eq__" s_Table___eq__ a.Table___eq__ fd
  F_united : ∃ fd, Fun K "united" "united" s_united a.united fd
  g_united : mg "united" = some (.ref a.united)
  k_united : PySem.W.keepIn K (.ref a.united) = true
  F_below_all : ∃ fd, Fun K "below_all" "below_all" s_below_all a.below_all fd
  g_below_all : mg "below_all" = some (.ref a.below_all)
  k_below_all : PySem.W.keepIn K (.ref a.below_all) = true
  F_table_at : ∃ fd, Fun K "table_at" "table_at" s_table_at a.table_at fd
  g_table_at : mg "table_at" = some (.ref a.table_at)
  k_table_at : PySem.W.keepIn K (.ref a.table_at) = true
  F_table_of : ∃ fd, Fun K "table_of" "table_of" s_table_of a.table_of fd
  g_table_of : mg "table_of" = some (.ref a.table_of)
  k_table_of : PySem.W.keepIn K (.ref a.table_of) = true
  F_is_table_list : ∃ fd, Fun K "is_table_list" "is_table_list" s_is_table_list a.is_table_list fd
  g_is_table_list : mg "is_table_list" = some (.ref a.is_table_list)
  k_is_table_list : PySem.W.keepIn K (.ref a.is_table_list) = true
  F_total_after : ∃ fd, Fun K "total_after" "total_after" s_total_after a.total_after fd
  g_total_after : mg "total_after" = some (.ref a.total_after)
  k_total_after : PySem.W.keepIn K (.ref a.total_after) = true
  F_spread : ∃ fd, Fun K "spread" "spread" s_spread a.spread fd
  g_spread : mg "spread" = some (.ref a.spread)
  k_spread : PySem.W.keepIn K (.ref a.spread) = true
  F_Effect___init__ : ∃ fd, Fun K "__init__" "Effect.__init__" s_Effect___init__ a.Effect___init__ fd
  F_Effect_of : ∃ fd, Fun K "of" "Effect.of" s_Effect_of a.Effect_of fd
  F_Effect_breaks : ∃ fd, Fun K "breaks" "Effect.breaks" s_Effect_breaks a.Effect_breaks fd
  F_Effect_tables : ∃ fd, Fun K "tables" "Effect.tables" s_Effect_tables a.Effect_tables fd
  F_Effect_need : ∃ fd, Fun K "need" "Effect.need" s_Effect_need a.Effect_need fd
  F_Effect_table : ∃ fd, Fun K "table" "Effect.table" s_Effect_table a.Effect_table fd
  F_Effect___eq__ : ∃ fd, Fun K "__eq__" "Effect.__eq__" s_Effect___eq__ a.Effect___eq__ fd
  F_least_difference : ∃ fd, Fun K "least_difference" "least_difference" s_least_difference a.least_difference fd
  g_least_difference : mg "least_difference" = some (.ref a.least_difference)
  k_least_difference : PySem.W.keepIn K (.ref a.least_difference) = true
  F_first_difference : ∃ fd, Fun K "first_difference" "first_difference" s_first_difference a.first_difference fd
  g_first_difference : mg "first_difference" = some (.ref a.first_difference)
  k_first_difference : PySem.W.keepIn K (.ref a.first_difference) = true
  F_separating_list : ∃ fd, Fun K "separating_list" "separating_list" s_separating_list a.separating_list fd
  g_separating_list : mg "separating_list" = some (.ref a.separating_list)
  k_separating_list : PySem.W.keepIn K (.ref a.separating_list) = true
  F_is_separating : ∃ fd, Fun K "is_separating" "is_separating" s_is_separating a.is_separating fd
  g_is_separating : mg "is_separating" = some (.ref a.is_separating)
  k_is_separating : PySem.W.keepIn K (.ref a.is_separating) = true
  F_law_pool : ∃ fd, Fun K "_law_pool" "_law_pool" s_law_pool a.law_pool fd
  g_law_pool : mg "_law_pool" = some (.ref a.law_pool)
  k_law_pool : PySem.W.keepIn K (.ref a.law_pool) = true
  F_law_take : ∃ fd, Fun K "_law_take" "_law_take" s_law_take a.law_take fd
  g_law_take : mg "_law_take" = some (.ref a.law_take)
  k_law_take : PySem.W.keepIn K (.ref a.law_take) = true
  F_law_steps : ∃ fd, Fun K "_law_steps" "_law_steps" s_law_steps a.law_steps fd
  g_law_steps : mg "_law_steps" = some (.ref a.law_steps)
  k_law_steps : PySem.W.keepIn K (.ref a.law_steps) = true
  F_law_made : ∃ fd, Fun K "_law_made" "_law_made" s_law_made a.law_made fd
  g_law_made : mg "_law_made" = some (.ref a.law_made)
  k_law_made : PySem.W.keepIn K (.ref a.law_made) = true
  F_law_run : ∃ fd, Fun K "_law_run" "_law_run" s_law_run a.law_run fd
  g_law_run : mg "_law_run" = some (.ref a.law_run)
  k_law_run : PySem.W.keepIn K (.ref a.law_run) = true
  F_law_lists : ∃ fd, Fun K "_law_lists" "_law_lists" s_law_lists a.law_lists fd
  g_law_lists : mg "_law_lists" = some (.ref a.law_lists)
  k_law_lists : PySem.W.keepIn K (.ref a.law_lists) = true
  F_law_drawn_right : ∃ fd, Fun K "_law_drawn_right" "_law_drawn_right" s_law_drawn_right a.law_drawn_right fd
  g_law_drawn_right : mg "_law_drawn_right" = some (.ref a.law_drawn_right)
  k_law_drawn_right : PySem.W.keepIn K (.ref a.law_drawn_right) = true
  F_law_right : ∃ fd, Fun K "_law_right" "_law_right" s_law_right a.law_right fd
  g_law_right : mg "_law_right" = some (.ref a.law_right)
  k_law_right : PySem.W.keepIn K (.ref a.law_right) = true
  F_law : ∃ fd, Fun K "law" "law" s_law a.law fd
  g_law : mg "law" = some (.ref a.law)
  k_law : PySem.W.keepIn K (.ref a.law) = true
  b_type : mg "type" = none
  b_int : mg "int" = none
  b_list : mg "list" = none
  b_tuple : mg "tuple" = none
  b_str : mg "str" = none
  b_len : mg "len" = none
  b_isinstance : mg "isinstance" = none
  b_abs : mg "abs" = none
  b_max : mg "max" = none
  b_min : mg "min" = none
  b_range : mg "range" = none
  b_all : mg "all" = none
  b_zip : mg "zip" = none
  b_sorted : mg "sorted" = none
  b_set : mg "set" = none
  b_enumerate : mg "enumerate" = none
  b_bool : mg "bool" = none
  b_dict : mg "dict" = none
  b_any : mg "any" = none
  b_repr : mg "repr" = none
  g_RankError : mg "RankError" = some (.ref a.RankError)
  cl_S : Cls K a.Sequence
  g_Sequence : mg "Sequence" = some (.ref a.Sequence)
  M_Sequence : L2.Mk K a.Sequence a.Sequence___init__
  isi_S : C8.InsC K a.Sequence
  ty_Sequence : PySem.W.typeIn K (.ref a.Sequence) = some (.type "type")
  n_steps : NoAttr K a.Sequence "_steps"
  p_steps : PropOf K a.Sequence "steps" a.P_steps a.Sequence_steps
  rd_Sequence : ClX.CRead K a.Sequence (.type "type")
  sta_is_step : CSta K a.Sequence (.type "type") "is_step" a.S_is_step a.Sequence_is_step
  sti_is_step : CStI K a.Sequence "is_step" a.S_is_step a.Sequence_is_step
  sf_S : PySem.W.selfFirst K a.Sequence = true
  addA_S : PySem.W.findIn K (.ref a.Sequence) "__add__" = some (some (.ref a.Sequence___add__))
  addF_S : PySem.W.isFn K (.ref a.Sequence___add__) = true
  cl_T : Cls K a.Table
  g_Table : mg "Table" = some (.ref a.Table)
  M_Table : L2.Mk K a.Table a.Table___init__
  isi_T : C8.InsC K a.Table
  ty_Table : PySem.W.typeIn K (.ref a.Table) = some (.type "type")
  n_start : NoAttr K a.Table "_start"
  n_lost : NoAttr K a.Table "_lost"
  p_start : PropOf K a.Table "start" a.P_start a.Table_start
  p_lost : PropOf K a.Table "lost" a.P_lost a.Table_lost
  eqA_T : PySem.W.findIn K (.ref a.Table) "__eq__" = some (some (.ref a.Table___eq__))
  eqF_T : PySem.W.isFn K (.ref a.Table___eq__) = true
  neA_T : PySem.W.findIn K (.ref a.Table) "__ne__" = some (some (.builtin "object.__ne__"))
  sub_T : PySem.W.subIn K (.ref a.Table) (.type "object") = some true
  callO_T : StX.CallO K a.Table a.Table___call__
  cl_E : Cls K a.Effect
  g_Effect : mg "Effect" = some (.ref a.Effect)
  M_Effect : L2.Mk K a.Effect a.Effect___init__
  isi_E : C8.InsC K a.Effect
  ty_Effect : PySem.W.typeIn K (.ref a.Effect) = some (.type "type")
  n_breaks : NoAttr K a.Effect "_breaks"
  n_tables : NoAttr K a.Effect "_tables"
  p_breaks : PropOf K a.Effect "breaks" a.P_breaks a.Effect_breaks
  p_tables : PropOf K a.Effect "tables" a.P_tables a.Effect_tables
  p_need : PropOf K a.Effect "need" a.P_need a.Effect_need
  m_table : Meth K a.Effect "table" a.Effect_table
  rd_Effect : ClX.CRead K a.Effect (.type "type")
  cm_of : ClX.CMet K a.Effect (.type "type") "of" a.C_of a.Effect_of
  ci_of : ClX.CInst K a.Effect "of" a.C_of a.Effect_of
  eqA_E : PySem.W.findIn K (.ref a.Effect) "__eq__" = some (some (.ref a.Effect___eq__))
  eqF_E : PySem.W.isFn K (.ref a.Effect___eq__) = true
  neA_E : PySem.W.findIn K (.ref a.Effect) "__ne__" = some (some (.builtin "object.__ne__"))
  sub_E : PySem.W.subIn K (.ref a.Effect) (.type "object") = some true
  i_MOST : ∃ t, mg "MOST_ELEMENTS" = some (.int 500 t)


def cntV : V → Bool
  | .int i => decide (0 ≤ i)
  | _ => false
def rnkV : V → Bool
  | .int i => decide (0 < i)
  | _ => false
def spInt (K : PySem.W.Frag) : Sp := fun vs H Q _ => ∃ x, vs = [x] ∧ KV K H x ∧ Q (.bl (isI x)) H
def spCount (K : PySem.W.Frag) : Sp := fun vs H Q _ => ∃ x, vs = [x] ∧ KV K H x ∧ Q (.bl (cntV x)) H
def spRank (K : PySem.W.Frag) : Sp := fun vs H Q _ => ∃ x, vs = [x] ∧ KV K H x ∧ Q (.bl (rnkV x)) H
/-- a list or a tuple of values of known kinds -/
def Sq (K : PySem.W.Frag) (H : Hp) (x : V) (xs : List V) : Prop := ∃ p, x = .ref p ∧ (SqL K H p xs ∨ SqT K H p xs) ∧ (∀ y ∈ xs, KV K H y) ∧ xs.length ≤ 100000
/-- a value of another kind -/
def Od (K : PySem.W.Frag) (H : Hp) (x : V) : Prop := ∃ n, TyB K H x n ∧ tyN n = true ∧ n ≠ "list" ∧ n ≠ "tuple"
/-- a check of lists: what it says of a list's items -/
def spChk (K : PySem.W.Frag) (f : List V → Bool) : Sp := fun vs H Q _ => ∃ x, vs = [x] ∧ ((∃ xs, Sq K H x xs ∧ ∀ H', Same H H' → Q (.bl (f xs)) H') ∨ (Od K H x ∧ ∀ H', Same H H' → Q (.bl false) H'))
def numsV (xs : List V) : Bool := xs.all isI
section
variable {P : Program} {w : World} {K : PySem.W.Frag} {mg : Str → Option Value} {base : Heap} {a : Ads}

theorem ok_is_integer (T : Txt K mg a) : FnR P w K mg base CX0 1 a.is_integer (spInt K) := by
  obtain ⟨fd, F⟩ := T.F_is_integer
  refine XT.okR F sc_is_integer bn_is_integer (fun vs H Q E h => ?_) (fun cdv A outer s H vs Q E hr h => ?_)
  · obtain ⟨x, rfl, _⟩ := h
    rfl
  · obtain ⟨x, rfl, ⟨n, ht, hn⟩, q⟩ := h
    refine ⟨_, (pss_one (ps_ret (pe_cmpR op_eqTy (pe_callTy (typeK K) (by rfl) T.b_type (by decide +kernel) (pa_cons (pv 0) pa_nil)) (pe_bltn (v := .ty "int") (u := .type "int") (by rfl) T.b_int (by decide +kernel) rfl) (nomark _)))), ?_⟩
    refine ⟨x, rfl, x, n, rfl, ht, n, "int", rfl, rfl, hn, by decide +kernel, ?_⟩
    rw [tyB_isI ht]
    exact q

theorem ok_is_count (T : Txt K mg a) : FnR P w K mg base CX0 2 a.is_count (spCount K) := by
  obtain ⟨fd, F⟩ := T.F_is_count
  refine XT.okR F sc_is_count bn_is_count (fun vs H Q E h => ?_) (fun cdv A outer s H vs Q E hr h => ?_)
  · obtain ⟨x, rfl, _⟩ := h
    rfl
  · obtain ⟨x, rfl, hk, q⟩ := h
    have G_is_integer := ok_is_integer (P := P) (w := w) (base := base) T
    refine ⟨_, (pss_one (ps_ret (pe_and (pe_callR G_is_integer (hr.mono (by decide)) rfl T.g_is_integer T.k_is_integer pass0 (pa_cons (pv 0) pa_nil)) (pe_one (pe_cmpR op_ge (pv 0) pe_int (nomark _)))))), ?_⟩
    refine ⟨x, rfl, x, rfl, hk, _, rfl, ?_⟩
    cases x with
    | int i => exact iteT ⟨_, rfl, _, _, rfl, rfl, q⟩
    | _ => exact iteF q

theorem ok_is_rank (T : Txt K mg a) : FnR P w K mg base CX0 2 a.is_rank (spRank K) := by
  obtain ⟨fd, F⟩ := T.F_is_rank
  refine XT.okR F sc_is_rank bn_is_rank (fun vs H Q E h => ?_) (fun cdv A outer s H vs Q E hr h => ?_)
  · obtain ⟨x, rfl, _⟩ := h
    rfl
  · obtain ⟨x, rfl, hk, q⟩ := h
    have G_is_integer := ok_is_integer (P := P) (w := w) (base := base) T
    refine ⟨_, (pss_one (ps_ret (pe_and (pe_callR G_is_integer (hr.mono (by decide)) rfl T.g_is_integer T.k_is_integer pass0 (pa_cons (pv 0) pa_nil)) (pe_one (pe_cmpR op_gt (pv 0) pe_int (nomark _)))))), ?_⟩
    refine ⟨x, rfl, x, rfl, hk, _, rfl, ?_⟩
    cases x with
    | int i => exact iteT ⟨_, rfl, _, _, rfl, rfl, q⟩
    | _ => exact iteF q

theorem iteH {c : Bool} {A B : Prop} (h : c = true) (x : A) : if c = true then A else B := by
  rw [if_pos h]
  exact x
theorem iteN {c : Bool} {A B : Prop} (h : c = false) (x : B) : if c = true then A else B := by
  rw [h]
  exact iteF x
theorem all_map_bl (f : V → Bool) (xs : List V) : ((xs.map f).all id) = xs.all f := by
  rw [List.all_map]
  rfl
theorem in_lt {n : String} (h1 : n ≠ "list") (h2 : n ≠ "tuple") : (["list", "tuple"].any fun m => decide (m = n)) = false := by
  simp [Ne.symm h1, Ne.symm h2]
theorem line_ge : (100000 : Nat) ≤ sizeLine := by rw [sizeLine_eq]; decide
theorem ok_is_number_list (T : Txt K mg a) : FnR P w K mg base CX0 2 a.is_number_list (spChk K numsV) := by
  obtain ⟨fd, F⟩ := T.F_is_number_list
  refine XT.okR F sc_is_number_list bn_is_number_list (fun vs H Q E h => ?_) (fun cdv A outer s H vs Q E hr h => ?_)
  · obtain ⟨x, rfl, _⟩ := h
    rfl
  · obtain ⟨x, rfl, hq⟩ := h
    have G_is_integer := ok_is_integer (P := P) (w := w) (base := base) T
    rcases hq with ⟨xs, ⟨p, rfl, hS, kv, hl⟩, q0⟩ | ⟨⟨n, ht, hn, n1, n2⟩, q0⟩
    · rcases hS with hS | hS
      · refine ⟨_, (pss_one (ps_ret (pe_and (pe_cmpR (inTyK K) (pe_callTy (typeK K) (by rfl) T.b_type (by decide +kernel) (pa_cons (pv 0) pa_nil)) (pe_tup (pa_cons (pe_bltn (v := .ty "list") (u := .type "list") (by rfl) T.b_list (by decide +kernel) rfl) (pa_cons (pe_bltn (v := .ty "tuple") (u := .type "tuple") (by rfl) T.b_tuple (by decide +kernel) rfl) pa_nil))) (by rfl)) (pe_one (pe_callB (allK K rfl) (by rfl) T.b_all (by decide +kernel) (pa_cons (pe_lc (own := [("number", 1)])  rfl sc_is_number_list.nd (pi_list (pv 0)) (blkOk_by (N := N_is_number_list) (sc := defScope s_is_number_list) (by decide +kernel)) (fun _ _ _ _ _ => by exact (pg_name (i := 1) sc_is_number_list.nd rfl (Or.inl rfl))) (fun _ _ _ _ _ => by exact pts_nil) (fun _ _ _ _ _ => by exact (pe_callR G_is_integer (hr.mono (by decide)) rfl T.g_is_integer T.k_is_integer pass0 (pa_cons (pv 1) pa_nil)))) pa_nil)))))), ?_⟩
        have hS1 : ∀ q o, H q = Option.none → SqL K (upd H q o) p xs := fun q o hq => Same.seq (same_new hq) hS
        refine ⟨_, rfl, _, "list", rfl, TyB.lst hS, by decide, fun q hq => ⟨_, q, ["list", "tuple"], rfl, rfl, SqT.of upd_same, by decide +kernel, by decide +kernel, _, rfl, iteH (by decide +kernel) ?_⟩⟩
        refine ⟨_, rfl, p, rfl, ⟨xs, hS1 _ _ hq⟩, fun D hD => lcM (stat_list (hS1 _ _ hq)) hD (fun i => .bl (isI (xs.getD i .non))) (Nat.le_trans hl line_ge) ?_ ?_⟩
        · intro i y H2 R hi s px k
          refine ⟨rfl, y, rfl, y, rfl, (kv y (List.mem_of_getElem? px)).same ((same_new hq).trans s), ?_⟩
          have := k _ (Same.refl _)
          rw [getD_of px] at this
          exact this
        · intro H2 s hL
          rw [range_map (fun y => V.bl (isI y)) .non xs] at hL
          refine ⟨D, xs.map isI, rfl, SqL.of (by rw [hL, List.map_map]; rfl), ?_⟩
          rw [all_map_bl]
          exact q0 _ ((same_new hq).trans s)
      · refine ⟨_, (pss_one (ps_ret (pe_and (pe_cmpR (inTyK K) (pe_callTy (typeK K) (by rfl) T.b_type (by decide +kernel) (pa_cons (pv 0) pa_nil)) (pe_tup (pa_cons (pe_bltn (v := .ty "list") (u := .type "list") (by rfl) T.b_list (by decide +kernel) rfl) (pa_cons (pe_bltn (v := .ty "tuple") (u := .type "tuple") (by rfl) T.b_tuple (by decide +kernel) rfl) pa_nil))) (by rfl)) (pe_one (pe_callB (allK K rfl) (by rfl) T.b_all (by decide +kernel) (pa_cons (pe_lc (own := [("number", 1)])  rfl sc_is_number_list.nd (pi_tup (pv 0)) (blkOk_by (N := N_is_number_list) (sc := defScope s_is_number_list) (by decide +kernel)) (fun _ _ _ _ _ => by exact (pg_name (i := 1) sc_is_number_list.nd rfl (Or.inl rfl))) (fun _ _ _ _ _ => by exact pts_nil) (fun _ _ _ _ _ => by exact (pe_callR G_is_integer (hr.mono (by decide)) rfl T.g_is_integer T.k_is_integer pass0 (pa_cons (pv 1) pa_nil)))) pa_nil)))))), ?_⟩
        have hS1 : ∀ q o, H q = Option.none → SqT K (upd H q o) p xs := fun q o hq => same_seqT (same_new hq) hS
        refine ⟨_, rfl, _, "tuple", rfl, TyB.tup hS, by decide, fun q hq => ⟨_, q, ["list", "tuple"], rfl, rfl, SqT.of upd_same, by decide +kernel, by decide +kernel, _, rfl, iteH (by decide +kernel) ?_⟩⟩
        refine ⟨_, rfl, p, rfl, ⟨xs, hS1 _ _ hq⟩, fun D hD => lcM (stat_tup (hS1 _ _ hq)) hD (fun i => .bl (isI (xs.getD i .non))) (Nat.le_trans hl line_ge) ?_ ?_⟩
        · intro i y H2 R hi s px k
          refine ⟨rfl, y, rfl, y, rfl, (kv y (List.mem_of_getElem? px)).same ((same_new hq).trans s), ?_⟩
          have := k _ (Same.refl _)
          rw [getD_of px] at this
          exact this
        · intro H2 s hL
          rw [range_map (fun y => V.bl (isI y)) .non xs] at hL
          refine ⟨D, xs.map isI, rfl, SqL.of (by rw [hL, List.map_map]; rfl), ?_⟩
          rw [all_map_bl]
          exact q0 _ ((same_new hq).trans s)
    · refine ⟨_, (pss_one (ps_ret (pe_and (pe_cmpR (inTyK K) (pe_callTy (typeK K) (by rfl) T.b_type (by decide +kernel) (pa_cons (pv 0) pa_nil)) (pe_tup (pa_cons (pe_bltn (v := .ty "list") (u := .type "list") (by rfl) T.b_list (by decide +kernel) rfl) (pa_cons (pe_bltn (v := .ty "tuple") (u := .type "tuple") (by rfl) T.b_tuple (by decide +kernel) rfl) pa_nil))) (by rfl)) (pe_one (pe_callB (allK K rfl) (by rfl) T.b_all (by decide +kernel) (pa_cons (pe_lc (own := [("number", 1)])  rfl sc_is_number_list.nd (pi_list (pv 0)) (blkOk_by (N := N_is_number_list) (sc := defScope s_is_number_list) (by decide +kernel)) (fun _ _ _ _ _ => by exact (pg_name (i := 1) sc_is_number_list.nd rfl (Or.inl rfl))) (fun _ _ _ _ _ => by exact pts_nil) (fun _ _ _ _ _ => by exact (pe_callR G_is_integer (hr.mono (by decide)) rfl T.g_is_integer T.k_is_integer pass0 (pa_cons (pv 1) pa_nil)))) pa_nil)))))), ?_⟩
      exact ⟨_, rfl, _, n, rfl, ht, by decide, fun q hq => ⟨_, q, ["list", "tuple"], rfl, rfl, SqT.of upd_same, hn, by decide +kernel, _, rfl, iteN (in_lt n1 n2) (q0 _ (same_new hq))⟩⟩

def vi : V → Int
  | .int i => i
  | _ => 0
theorem nums_map {xs : List V} (h : numsV xs = true) : xs = (xs.map vi).map V.int := by
  unfold numsV at h
  rw [List.all_eq_true] at h
  rw [List.map_map]
  conv => lhs; rw [← List.map_id xs]
  apply List.map_congr_left
  intro x hx
  have := h x hx
  cases x with
  | int i => rfl
  | _ => exact absurd this Bool.false_ne_true
theorem nums_of (L : List Int) : numsV (L.map V.int) = true := by
  unfold numsV
  rw [List.all_map]
  exact List.all_eq_true.mpr fun x _ => rfl
theorem vi_map (L : List Int) : (L.map V.int).map vi = L := by
  rw [List.map_map]
  exact List.map_id L
def ascV (xs : List V) : Bool := numsV xs && decide (Tbl.Asc (xs.map vi))
theorem cut1 (xs : List V) : cutV xs (some 1) Option.none = xs.drop 1 := by
  unfold cutV
  have e : HT.sIx xs.length 0 (some 1) = min 1 xs.length := HT.sIx_nat xs.length 0 1
  rw [e, HT.sIx_none]
  cases xs with
  | nil => rfl
  | cons x xs => simp
theorem asc_all (L : List Int) : ((List.range (min L.length (L.drop 1).length)).map fun i => decide (L.getD i 0 < L.getD (i + 1) 0)).all id = decide (Tbl.Asc L) := by
  rw [Bool.eq_iff_iff, decide_eq_true_eq, Tbl.asc_adj, List.all_eq_true]
  constructor
  · intro h i hi
    have := h (decide (L.getD i 0 < L.getD (i + 1) 0)) (List.mem_map.mpr ⟨i, List.mem_range.mpr (by simp; omega), rfl⟩)
    simpa [List.getD, hi, Nat.lt_of_succ_lt hi] using this
  · intro h b hb
    obtain ⟨i, hi, rfl⟩ := List.mem_map.mp hb
    have hi' : i + 1 < L.length := by have := List.mem_range.mp hi; simp at this; omega
    simpa [List.getD, hi', Nat.lt_of_succ_lt hi'] using h i hi' 
theorem ok_is_ascending (T : Txt K mg a) : FnR P w K mg base CX0 3 a.is_ascending (spChk K ascV) := by
  obtain ⟨fd, F⟩ := T.F_is_ascending
  refine XT.okR F sc_is_ascending bn_is_ascending (fun vs H Q E h => ?_) (fun cdv A outer s H vs Q E hr h => ?_)
  · obtain ⟨x, rfl, _⟩ := h
    rfl
  · obtain ⟨x, rfl, hq⟩ := h
    have G_is_number_list := ok_is_number_list (P := P) (w := w) (base := base) T
    rcases hq with ⟨xs, ⟨p, rfl, hS, kv, hl⟩, q0⟩ | ⟨od, q0⟩
    · have hA : True := trivial
      rcases hS with hS | hS
      · refine ⟨_, (pss_one (ps_ret (pe_and (pe_callR G_is_number_list (hr.mono (by decide)) rfl T.g_is_number_list T.k_is_number_list pass0 (pa_cons (pv 0) pa_nil)) (pe_one (pe_callB (allK K rfl) (by rfl) T.b_all (by decide +kernel) (pa_cons (pe_lc (own := [("low", 1), ("high", 2)])  rfl sc_is_ascending.nd (RZ.pi_zipA (by rfl) T.b_zip (pa_cons (pv 0) (pa_cons (pe_slice (slLK K) (pv 0) (po_some pe_int) po_none) pa_nil))) (blkOk_by (N := N_is_ascending) (sc := defScope s_is_ascending) (by decide +kernel)) (fun _ _ _ _ _ => by exact (tupK K (n := 2) (by rfl) (pgs_cons (pg_name (i := 1) sc_is_ascending.nd rfl (Or.inl rfl)) (pgs_cons (pg_name (i := 2) sc_is_ascending.nd rfl (Or.inl rfl)) pgs_nil)))) (fun _ _ _ _ _ => by exact pts_nil) (fun _ _ _ _ _ => by exact (pe_cmpR op_lt (pv 1) (pv 2) (nomark _)))) pa_nil)))))), ?_⟩
        refine ⟨_, rfl, .ref p, rfl, .inl ⟨xs, ⟨p, rfl, .inl hS, kv, hl⟩, fun H1 s1 => ⟨_, rfl, ?_⟩⟩⟩
        cases hn : numsV xs with
        | false => exact iteN rfl (by have := q0 _ s1; unfold ascV at this; rwa [hn] at this)
        | true =>
          refine iteH rfl ?_
          obtain ⟨L, rfl⟩ : ∃ L : List Int, xs = L.map V.int := ⟨_, nums_map hn⟩
          have hS1 := s1.seq hS
          refine ⟨_, rfl, _, rfl, _, rfl, p, _, rfl, hS1, fun z hz => ?_⟩
          rw [cut1, ← List.map_drop]
          have hS2 : SqL K (upd H1 z (.lst ((L.drop 1).map V.int))) p (L.map V.int) := Same.seq (same_new hz) hS1
          have hS3 : SqL K (upd H1 z (.lst ((L.drop 1).map V.int))) z ((L.drop 1).map V.int) := SqL.of upd_same
          refine ⟨p, z, _, _, rfl, .inl ⟨hS2, hS3, fun D hD => lcM (stat_zip hS2 hS3) hD (fun i => .bl (decide (L.getD i 0 < L.getD (i + 1) 0))) (Nat.le_trans (Nat.min_le_left _ _) (Nat.le_trans hl line_ge)) ?_ ?_⟩⟩
          · rintro i v H3 R hi s3 ⟨U, x, y, rfl, hU, px, py⟩ k
            refine ⟨U, [x, y], rfl, SqT.of hU, rfl, x, [y], rfl, y, [], rfl, rfl, rfl, ?_⟩
            rw [List.getElem?_map] at px
            rw [List.getElem?_map] at py
            obtain ⟨i1, h1, rfl⟩ := Option.map_eq_some_iff.mp px
            obtain ⟨i2, h2, rfl⟩ := Option.map_eq_some_iff.mp py
            refine ⟨_, rfl, _, rfl, i1, i2, rfl, rfl, ?_⟩
            have hk := k _ (Same.refl _)
            have e1 : L.getD i 0 = i1 := by simp [List.getD, h1]
            have e2 : L.getD (i + 1) 0 = i2 := by
              rw [List.getElem?_drop] at h2
              simp [List.getD, Nat.add_comm i 1, h2]
            rw [e1, e2] at hk
            exact hk
          · intro H3 s3 hL
            have e0 : min (L.map V.int).length ((L.drop 1).map V.int).length = min L.length (L.drop 1).length := by rw [List.length_map, List.length_map]
            rw [e0] at hL
            refine ⟨D, (List.range (min L.length (L.drop 1).length)).map fun i => decide (L.getD i 0 < L.getD (i + 1) 0), rfl, SqL.of (by rw [hL, List.map_map]; rfl), ?_⟩
            rw [asc_all]
            have := q0 _ ((s1.trans (same_new hz)).trans s3)
            unfold ascV at this
            rw [hn, Bool.true_and, vi_map] at this
            exact this
      · refine ⟨_, (pss_one (ps_ret (pe_and (pe_callR G_is_number_list (hr.mono (by decide)) rfl T.g_is_number_list T.k_is_number_list pass0 (pa_cons (pv 0) pa_nil)) (pe_one (pe_callB (allK K rfl) (by rfl) T.b_all (by decide +kernel) (pa_cons (pe_lc (own := [("low", 1), ("high", 2)])  rfl sc_is_ascending.nd (RZ.pi_zipA (by rfl) T.b_zip (pa_cons (pv 0) (pa_cons (pe_slice (slTK K) (pv 0) (po_some pe_int) po_none) pa_nil))) (blkOk_by (N := N_is_ascending) (sc := defScope s_is_ascending) (by decide +kernel)) (fun _ _ _ _ _ => by exact (tupK K (n := 2) (by rfl) (pgs_cons (pg_name (i := 1) sc_is_ascending.nd rfl (Or.inl rfl)) (pgs_cons (pg_name (i := 2) sc_is_ascending.nd rfl (Or.inl rfl)) pgs_nil)))) (fun _ _ _ _ _ => by exact pts_nil) (fun _ _ _ _ _ => by exact (pe_cmpR op_lt (pv 1) (pv 2) (nomark _)))) pa_nil)))))), ?_⟩
        refine ⟨_, rfl, .ref p, rfl, .inl ⟨xs, ⟨p, rfl, .inr hS, kv, hl⟩, fun H1 s1 => ⟨_, rfl, ?_⟩⟩⟩
        cases hn : numsV xs with
        | false => exact iteN rfl (by have := q0 _ s1; unfold ascV at this; rwa [hn] at this)
        | true =>
          refine iteH rfl ?_
          obtain ⟨L, rfl⟩ : ∃ L : List Int, xs = L.map V.int := ⟨_, nums_map hn⟩
          have hS1 := same_seqT s1 hS
          refine ⟨_, rfl, _, rfl, _, rfl, p, _, rfl, hS1, fun hw => ?_, fun hw z hz => ?_⟩
          · have e : L = [] := by
              have h1 := hw.1
              have e1 : HT.sIx (L.map V.int).length 0 (some 1) = min 1 (L.map V.int).length := HT.sIx_nat _ 0 1
              rw [e1, List.length_map] at h1
              exact List.length_eq_zero_iff.mp (by omega)
            have hS3 : SqT K H1 p ((L.drop 1).map V.int) := by rw [e]; rw [e] at hS1; exact hS1
            refine ⟨p, p, _, _, rfl, .inr ⟨hS1, hS3, fun D hD => lcM (stat_zipT hS1 hS3) hD (fun i => .bl (decide (L.getD i 0 < L.getD (i + 1) 0))) (Nat.le_trans (Nat.min_le_left _ _) (Nat.le_trans hl line_ge)) ?_ ?_⟩⟩
            · rintro i v H3 R hi s3 ⟨U, x, y, rfl, hU, px, py⟩ k
              refine ⟨U, [x, y], rfl, SqT.of hU, rfl, x, [y], rfl, y, [], rfl, rfl, rfl, ?_⟩
              rw [List.getElem?_map] at px
              rw [List.getElem?_map] at py
              obtain ⟨i1, h1, rfl⟩ := Option.map_eq_some_iff.mp px
              obtain ⟨i2, h2, rfl⟩ := Option.map_eq_some_iff.mp py
              refine ⟨_, rfl, _, rfl, i1, i2, rfl, rfl, ?_⟩
              have hk := k _ (Same.refl _)
              have e1 : L.getD i 0 = i1 := by simp [List.getD, h1]
              have e2 : L.getD (i + 1) 0 = i2 := by
                rw [List.getElem?_drop] at h2
                simp [List.getD, Nat.add_comm i 1, h2]
              rw [e1, e2] at hk
              exact hk
            · intro H3 s3 hL
              have e0 : min (L.map V.int).length ((L.drop 1).map V.int).length = min L.length (L.drop 1).length := by rw [List.length_map, List.length_map]
              rw [e0] at hL
              refine ⟨D, (List.range (min L.length (L.drop 1).length)).map fun i => decide (L.getD i 0 < L.getD (i + 1) 0), rfl, SqL.of (by rw [hL, List.map_map]; rfl), ?_⟩
              rw [asc_all]
              have := q0 _ ((s1).trans s3)
              unfold ascV at this
              rw [hn, Bool.true_and, vi_map] at this
              exact this
          · rw [cut1, ← List.map_drop]
            have hS2 : SqT K (upd H1 z (.tup ((L.drop 1).map V.int))) p (L.map V.int) := same_seqT (same_new hz) hS1
            have hS3 : SqT K (upd H1 z (.tup ((L.drop 1).map V.int))) z ((L.drop 1).map V.int) := SqT.of upd_same
            refine ⟨p, z, _, _, rfl, .inr ⟨hS2, hS3, fun D hD => lcM (stat_zipT hS2 hS3) hD (fun i => .bl (decide (L.getD i 0 < L.getD (i + 1) 0))) (Nat.le_trans (Nat.min_le_left _ _) (Nat.le_trans hl line_ge)) ?_ ?_⟩⟩
            · rintro i v H3 R hi s3 ⟨U, x, y, rfl, hU, px, py⟩ k
              refine ⟨U, [x, y], rfl, SqT.of hU, rfl, x, [y], rfl, y, [], rfl, rfl, rfl, ?_⟩
              rw [List.getElem?_map] at px
              rw [List.getElem?_map] at py
              obtain ⟨i1, h1, rfl⟩ := Option.map_eq_some_iff.mp px
              obtain ⟨i2, h2, rfl⟩ := Option.map_eq_some_iff.mp py
              refine ⟨_, rfl, _, rfl, i1, i2, rfl, rfl, ?_⟩
              have hk := k _ (Same.refl _)
              have e1 : L.getD i 0 = i1 := by simp [List.getD, h1]
              have e2 : L.getD (i + 1) 0 = i2 := by
                rw [List.getElem?_drop] at h2
                simp [List.getD, Nat.add_comm i 1, h2]
              rw [e1, e2] at hk
              exact hk
            · intro H3 s3 hL
              have e0 : min (L.map V.int).length ((L.drop 1).map V.int).length = min L.length (L.drop 1).length := by rw [List.length_map, List.length_map]
              rw [e0] at hL
              refine ⟨D, (List.range (min L.length (L.drop 1).length)).map fun i => decide (L.getD i 0 < L.getD (i + 1) 0), rfl, SqL.of (by rw [hL, List.map_map]; rfl), ?_⟩
              rw [asc_all]
              have := q0 _ ((s1.trans (same_new hz)).trans s3)
              unfold ascV at this
              rw [hn, Bool.true_and, vi_map] at this
              exact this
    · refine ⟨_, (pss_one (ps_ret (pe_and (pe_callR G_is_number_list (hr.mono (by decide)) rfl T.g_is_number_list T.k_is_number_list pass0 (pa_cons (pv 0) pa_nil)) (pe_one (pe_callB (allK K rfl) (by rfl) T.b_all (by decide +kernel) (pa_cons (pe_lc (own := [("low", 1), ("high", 2)])  rfl sc_is_ascending.nd (RZ.pi_zipA (by rfl) T.b_zip (pa_cons (pv 0) (pa_cons (pe_slice (slLK K) (pv 0) (po_some pe_int) po_none) pa_nil))) (blkOk_by (N := N_is_ascending) (sc := defScope s_is_ascending) (by decide +kernel)) (fun _ _ _ _ _ => by exact (tupK K (n := 2) (by rfl) (pgs_cons (pg_name (i := 1) sc_is_ascending.nd rfl (Or.inl rfl)) (pgs_cons (pg_name (i := 2) sc_is_ascending.nd rfl (Or.inl rfl)) pgs_nil)))) (fun _ _ _ _ _ => by exact pts_nil) (fun _ _ _ _ _ => by exact (pe_cmpR op_lt (pv 1) (pv 2) (nomark _)))) pa_nil)))))), ?_⟩
      exact ⟨_, rfl, x, rfl, .inr ⟨od, fun H1 s1 => ⟨_, rfl, iteN rfl (q0 _ s1)⟩⟩⟩

def rnkL (xs : List V) : Bool := ascV xs && xs.all rnkV
theorem ok_is_rank_list (T : Txt K mg a) : FnR P w K mg base CX0 4 a.is_rank_list (spChk K rnkL) := by
  obtain ⟨fd, F⟩ := T.F_is_rank_list
  refine XT.okR F sc_is_rank_list bn_is_rank_list (fun vs H Q E h => ?_) (fun cdv A outer s H vs Q E hr h => ?_)
  · obtain ⟨x, rfl, _⟩ := h
    rfl
  · obtain ⟨x, rfl, hq⟩ := h
    have G_is_ascending := ok_is_ascending (P := P) (w := w) (base := base) T
    have G_is_rank := ok_is_rank (P := P) (w := w) (base := base) T
    rcases hq with ⟨xs, ⟨p, rfl, hS, kv, hl⟩, q0⟩ | ⟨od, q0⟩
    · rcases hS with hS | hS
      · refine ⟨_, (pss_one (ps_ret (pe_and (pe_callR G_is_ascending (hr.mono (by decide)) rfl T.g_is_ascending T.k_is_ascending pass0 (pa_cons (pv 0) pa_nil)) (pe_one (pe_callB (allK K rfl) (by rfl) T.b_all (by decide +kernel) (pa_cons (pe_lc (own := [("number", 1)])  rfl sc_is_rank_list.nd (pi_list (pv 0)) (blkOk_by (N := N_is_rank_list) (sc := defScope s_is_rank_list) (by decide +kernel)) (fun _ _ _ _ _ => by exact (pg_name (i := 1) sc_is_rank_list.nd rfl (Or.inl rfl))) (fun _ _ _ _ _ => by exact pts_nil) (fun _ _ _ _ _ => by exact (pe_callR G_is_rank (hr.mono (by decide)) rfl T.g_is_rank T.k_is_rank pass0 (pa_cons (pv 1) pa_nil)))) pa_nil)))))), ?_⟩
        refine ⟨_, rfl, .ref p, rfl, .inl ⟨xs, ⟨p, rfl, .inl hS, kv, hl⟩, fun H1 s1 => ⟨_, rfl, ?_⟩⟩⟩
        cases hn : ascV xs with
        | false => exact iteN rfl (by have := q0 _ s1; unfold rnkL at this; rwa [hn] at this)
        | true =>
          refine iteH rfl ?_
          have hS1 := s1.seq hS
          refine ⟨_, rfl, p, rfl, ⟨xs, hS1⟩, fun D hD => lcM (stat_list hS1) hD (fun i => .bl (rnkV (xs.getD i .non))) (Nat.le_trans hl line_ge) ?_ ?_⟩
          · intro i y H2 R hi s px k
            refine ⟨rfl, y, rfl, y, rfl, (kv y (List.mem_of_getElem? px)).same (s1.trans s), ?_⟩
            have := k _ (Same.refl _)
            rw [getD_of px] at this
            exact this
          · intro H2 s hL
            rw [range_map (fun y => V.bl (rnkV y)) .non xs] at hL
            refine ⟨D, xs.map rnkV, rfl, SqL.of (by rw [hL, List.map_map]; rfl), ?_⟩
            rw [all_map_bl]
            have := q0 _ (s1.trans s)
            unfold rnkL at this
            rw [hn, Bool.true_and] at this
            exact this
      · refine ⟨_, (pss_one (ps_ret (pe_and (pe_callR G_is_ascending (hr.mono (by decide)) rfl T.g_is_ascending T.k_is_ascending pass0 (pa_cons (pv 0) pa_nil)) (pe_one (pe_callB (allK K rfl) (by rfl) T.b_all (by decide +kernel) (pa_cons (pe_lc (own := [("number", 1)])  rfl sc_is_rank_list.nd (pi_tup (pv 0)) (blkOk_by (N := N_is_rank_list) (sc := defScope s_is_rank_list) (by decide +kernel)) (fun _ _ _ _ _ => by exact (pg_name (i := 1) sc_is_rank_list.nd rfl (Or.inl rfl))) (fun _ _ _ _ _ => by exact pts_nil) (fun _ _ _ _ _ => by exact (pe_callR G_is_rank (hr.mono (by decide)) rfl T.g_is_rank T.k_is_rank pass0 (pa_cons (pv 1) pa_nil)))) pa_nil)))))), ?_⟩
        refine ⟨_, rfl, .ref p, rfl, .inl ⟨xs, ⟨p, rfl, .inr hS, kv, hl⟩, fun H1 s1 => ⟨_, rfl, ?_⟩⟩⟩
        cases hn : ascV xs with
        | false => exact iteN rfl (by have := q0 _ s1; unfold rnkL at this; rwa [hn] at this)
        | true =>
          refine iteH rfl ?_
          have hS1 := same_seqT s1 hS
          refine ⟨_, rfl, p, rfl, ⟨xs, hS1⟩, fun D hD => lcM (stat_tup hS1) hD (fun i => .bl (rnkV (xs.getD i .non))) (Nat.le_trans hl line_ge) ?_ ?_⟩
          · intro i y H2 R hi s px k
            refine ⟨rfl, y, rfl, y, rfl, (kv y (List.mem_of_getElem? px)).same (s1.trans s), ?_⟩
            have := k _ (Same.refl _)
            rw [getD_of px] at this
            exact this
          · intro H2 s hL
            rw [range_map (fun y => V.bl (rnkV y)) .non xs] at hL
            refine ⟨D, xs.map rnkV, rfl, SqL.of (by rw [hL, List.map_map]; rfl), ?_⟩
            rw [all_map_bl]
            have := q0 _ (s1.trans s)
            unfold rnkL at this
            rw [hn, Bool.true_and] at this
            exact this
    · refine ⟨_, (pss_one (ps_ret (pe_and (pe_callR G_is_ascending (hr.mono (by decide)) rfl T.g_is_ascending T.k_is_ascending pass0 (pa_cons (pv 0) pa_nil)) (pe_one (pe_callB (allK K rfl) (by rfl) T.b_all (by decide +kernel) (pa_cons (pe_lc (own := [("number", 1)])  rfl sc_is_rank_list.nd (pi_list (pv 0)) (blkOk_by (N := N_is_rank_list) (sc := defScope s_is_rank_list) (by decide +kernel)) (fun _ _ _ _ _ => by exact (pg_name (i := 1) sc_is_rank_list.nd rfl (Or.inl rfl))) (fun _ _ _ _ _ => by exact pts_nil) (fun _ _ _ _ _ => by exact (pe_callR G_is_rank (hr.mono (by decide)) rfl T.g_is_rank T.k_is_rank pass0 (pa_cons (pv 1) pa_nil)))) pa_nil)))))), ?_⟩
      exact ⟨_, rfl, x, rfl, .inr ⟨od, fun H1 s1 => ⟨_, rfl, iteN rfl (q0 _ s1)⟩⟩⟩

theorem rnkL_of {L : List Int} (h1 : Tbl.Asc L) (h2 : Tbl.Pos L) : rnkL (L.map V.int) = true := by
  unfold rnkL ascV
  rw [nums_of, vi_map, decide_eq_true h1, List.all_map, Bool.true_and, Bool.true_and]
  exact List.all_eq_true.mpr fun x hx => decide_eq_true (by have := h2 x hx; omega)

theorem tyB_isS {H : Hp} {x : V} {n : String} (h : TyB K H x n) : decide (n = "str") = (match x with | .str _ => true | _ => false) := by
  cases h <;> first | rfl | decide +kernel
/-- whether a pair is a step -/
def stpV : V → V → Bool
  | .str z, y => if decide (V.str z = V.str "insert") = true then isI y else (decide (V.str z = V.str "remove") && rnkV y)
  | _, _ => false
theorem stpV_st (s : Stp) : stpV (.str (wrd s.1)) (.int s.2) = goodS s := by
  obtain ⟨b, i⟩ := s
  cases b
  · have h1 : decide (V.str (wrd false) = V.str "insert") = false := by decide +kernel
    have h2 : decide (V.str (wrd false) = V.str "remove") = true := by decide +kernel
    simp only [stpV, h1, h2, Bool.false_eq_true, if_false, Bool.true_and, rnkV, goodS, Bool.false_or]
  · have h1 : decide (V.str (wrd true) = V.str "insert") = true := by decide +kernel
    simp only [stpV, h1, if_true, isI, goodS, Bool.true_or]
/-- is_step -/
def spStp (K : PySem.W.Frag) : Sp := fun vs H Q _ => ∃ x, vs = [x] ∧ ((∃ n, TyB K H x n ∧ tyN n = true ∧ n ≠ "tuple" ∧ Q (.bl false) H) ∨ (∃ r xs, x = .ref r ∧ SqT K H r xs ∧ xs.length ≠ 2 ∧ Q (.bl false) H) ∨
  ∃ r u y, x = .ref r ∧ SqT K H r [u, y] ∧ KV K H u ∧ KV K H y ∧ Q (.bl (stpV u y)) H)
theorem kv_str {H : Hp} (z : Str) : KV K H (.str z) := ⟨"str", .str z, by decide +kernel⟩
theorem stp_of {H : Hp} {Q : VK} {E : XK} {x : V} {s : Stp} (h : StAt K H x s) (q : Q (.bl (goodS s)) H) : spStp K [x] H Q E := by
  obtain ⟨r, rfl, hr⟩ := h
  exact ⟨_, rfl, .inr (.inr ⟨r, _, _, rfl, hr, kv_str _, kv_int _, by rw [stpV_st]; exact q⟩)⟩
theorem stp_good {H : Hp} {Q : VK} {E : XK} {x : V} {s : Stp} (h : StAt K H x s) (g : goodS s = true) (q : Q (.bl true) H) : spStp K [x] H Q E := stp_of h (by rw [g]; exact q)
theorem ok_Sequence_is_step (T : Txt K mg a) : FnR P w K mg base CX0 3 a.Sequence_is_step (spStp K) := by
  obtain ⟨fd, F⟩ := T.F_Sequence_is_step
  refine XT.okR F sc_Sequence_is_step bn_Sequence_is_step (fun vs H Q E h => ?_) (fun cdv A outer s H vs Q E hr h => ?_)
  · obtain ⟨x, rfl, _⟩ := h
    rfl
  · obtain ⟨x, rfl, h⟩ := h
    have G_is_integer := ok_is_integer (P := P) (w := w) (base := base) T
    have G_is_rank := ok_is_rank (P := P) (w := w) (base := base) T
    refine ⟨_, (pss_cons (ps_if (PW.pt (pw_or (pt_cmpR op_neTy (pe_callTy (typeK K) (by rfl) T.b_type (by decide +kernel) (pa_cons (pv 0) pa_nil)) (pe_bltn (v := .ty "tuple") (u := .type "tuple") (by rfl) T.b_tuple (by decide +kernel) rfl) (nomark _)) (pw_or1 (pt_cmpR op_ne (pe_callB (lenK K) (by rfl) T.b_len (by decide +kernel) (pa_cons (pv 0) pa_nil)) pe_int (nomark _))))) (pss_one (ps_ret pe_bl)) pss_nil)
      (pss_cons (ps_asg (pv 0) (tupK K (n := 2) (by rfl) (pgs_cons (pg_name (i := 1) sc_Sequence_is_step.nd rfl (Or.inl rfl)) (pgs_cons (pg_name (i := 2) sc_Sequence_is_step.nd rfl (Or.inl rfl)) pgs_nil))))
      (pss_cons (ps_if (pt_cmpR op_neTy (pe_callTy (typeK K) (by rfl) T.b_type (by decide +kernel) (pa_cons (pv 1) pa_nil)) (pe_bltn (v := .ty "str") (u := .type "str") (by rfl) T.b_str (by decide +kernel) rfl) (nomark _)) (pss_one (ps_ret pe_bl)) pss_nil)
      (pss_cons (ps_if (pt_cmpR op_eq (pv 1) pe_str (nomark _)) (pss_one (ps_ret (pe_callR G_is_integer (hr.mono (by decide)) rfl T.g_is_integer T.k_is_integer pass0 (pa_cons (pv 2) pa_nil)))) pss_nil)
      (pss_one (ps_ret (pe_and (pe_cmpR op_eq (pv 1) pe_str (nomark _)) (pe_one (pe_callR G_is_rank (hr.mono (by decide)) rfl T.g_is_rank T.k_is_rank pass0 (pa_cons (pv 2) pa_nil)))))))))), ?_⟩
    rcases h with ⟨n, ht, hn, hne, q⟩ | ⟨r, xs, rfl, hS, hl, q⟩ | ⟨r, u, y, rfl, hS, ku, ky, q⟩
    · refine ⟨_, rfl, _, n, rfl, ht, n, "tuple", rfl, rfl, hn, by decide +kernel, _, rfl, iteH (by simp [hne]) ?_⟩
      exact q
    · refine ⟨_, rfl, _, "tuple", rfl, .tup hS, "tuple", "tuple", rfl, rfl, by decide +kernel, by decide +kernel, _, rfl, iteN (by decide) ?_⟩
      refine ⟨_, rfl, r, xs, rfl, .inr hS, rfl, _, rfl, iteH (by simp; omega) ?_⟩
      exact q
    · refine ⟨_, rfl, _, "tuple", rfl, .tup hS, "tuple", "tuple", rfl, rfl, by decide +kernel, by decide +kernel, _, rfl, iteN (by decide) ?_⟩
      refine ⟨_, rfl, r, [u, y], rfl, .inr hS, rfl, _, rfl, iteN (by simp) ?_⟩
      refine ⟨_, rfl, r, [u, y], rfl, hS, rfl, u, [y], rfl, y, [], rfl, rfl, ?_⟩
      obtain ⟨nu, hu, hnu⟩ := ku
      have e := tyB_isS hu
      cases u with
      | str z =>
        refine ⟨_, rfl, _, nu, rfl, hu, nu, "str", rfl, rfl, hnu, by decide +kernel, _, rfl, iteN (by rw [e]; rfl) ?_⟩
        have q : Q (.bl (if decide (V.str z = V.str "insert") = true then isI y else (decide (V.str z = V.str "remove") && rnkV y))) H := q
        refine ⟨_, rfl, rfl, _, rfl, ite2 (fun h1 => ?_) (fun h1 => ?_)⟩
        · refine ⟨y, rfl, y, rfl, ky, ?_⟩
          rw [if_pos h1] at q
          exact q
        · rw [if_neg h1] at q
          refine ⟨_, rfl, rfl, _, rfl, ite2 (fun h2 => ?_) (fun h2 => ?_)⟩
          · refine ⟨y, rfl, y, rfl, ky, ?_⟩
            rw [h2] at q
            exact q
          · rw [Bool.not_eq_true _ |>.mp h2] at q
            exact q
      | _ =>
        refine ⟨_, rfl, _, nu, rfl, hu, nu, "str", rfl, rfl, hnu, by decide +kernel, _, rfl, iteH (by rw [e]; rfl) ?_⟩
        exact q

end
end K13
namespace K13
open PySem L2 XT
section
variable {P : Program} {w : World} {K : PySem.W.Frag} {mg : Str → Option Value} {base : Heap} {a : Ads}
local macro_rules | `(tactic| walk_at "rside") => `(tactic| first | (show (0 : Int) < _; first | decide | omega) | (exact ⟨by first | decide | omega, by first | decide | omega⟩) | (exact Or.inl ⟨by omega, by omega⟩) | (exact Or.inr ⟨by omega, by omega⟩) | (exact ⟨by decide, by decide, by decide⟩))
local macro_rules | `(tactic| walk_at "rd1") => `(tactic| first | (refine ⟨_, rfl, ?_⟩) | (refine ⟨_, _, rfl, rfl, (by walk_at "rside"), ?_⟩) | (refine ⟨_, _, rfl, rfl, ?_⟩))
local macro_rules | `(tactic| walk_at "rd") => `(tactic| repeat (walk_at "rd1"))

/-- a sequence's fields -/
abbrev sfl (p : Addr) : List (Str × V) := putF "_steps" (.ref p) []
/-- a sequence of the steps L stands at t -/
def SqcAt (K : PySem.W.Frag) (C : Addr) (H : Hp) (t : Addr) (L : List Stp) : Prop := ∃ dx p xs, H t = some (.ins C dx (sfl p)) ∧ SqT K H p xs ∧ StsAt K H xs L ∧ ∀ s ∈ L, goodS s = true
theorem SqcAt.same {C : Addr} {H H' : Hp} {t : Addr} {L : List Stp} (h : SqcAt K C H t L) (e : Same H H') : SqcAt K C H' t L :=
  let ⟨dx, p, xs, a, b, c, d⟩ := h
  ⟨dx, p, xs, e _ _ a, same_seqT e b, sts_same c e, d⟩
theorem SqcAt.insA {C : Addr} {H : Hp} {t : Addr} {L : List Stp} (h : SqcAt K C H t L) : InsA H t C := let ⟨dx, p, xs, a, _⟩ := h; ⟨dx, _, a⟩
theorem SqcAt.good {C : Addr} {H : Hp} {t : Addr} {L : List Stp} (h : SqcAt K C H t L) : ∀ s ∈ L, goodS s = true := let ⟨dx, p, xs, a, b, c, d⟩ := h; d
theorem SqcAt.ins {C : Addr} {H : Hp} {t : Addr} {L : List Stp} (h : SqcAt K C H t L) : ∃ dx p, H t = some (.ins C dx (sfl p)) := let ⟨dx, p, xs, a, _⟩ := h; ⟨dx, p, a⟩
theorem sfl_steps (p : Addr) : (sfl p).lookup ("_steps" : Str) = some (V.ref p) := by
  simp [sfl, putF, List.lookup]
theorem sfl_no (p : Addr) (m : Str) (h : (m == ("_steps" : Str)) = false) : (sfl p).lookup m = Option.none := by
  simp [sfl, putF, List.lookup, h]
/-- Sequence.__init__: at its best -/
def spInit (K : PySem.W.Frag) (C : Addr) : Sp := fun vs H Q _ => ∃ (t p dx : Addr) (xs : List V) (L : List Stp), vs = [.ref t, .ref p] ∧ H t = some (.ins C dx []) ∧ SqT K H p xs ∧ StsAt K H xs L ∧ (∀ s ∈ L, goodS s = true) ∧ Q .non (upd H t (.ins C dx (sfl p)))
theorem ok_Sequence___init__ (T : Txt K mg a) : FnR P w K mg base CX0 4 a.Sequence___init__ (spStar 1 (spInit K a.Sequence)) := by
  obtain ⟨fd, F⟩ := T.F_Sequence___init__
  have G_is_step := ok_Sequence_is_step (P := P) (w := w) (base := base) T
  refine XT.okStar0 (ps := ["self"]) F sc_Sequence___init__ bn_Sequence___init__ (fun cdv A outer s H vs Q E hr h => ?_)
  obtain ⟨t, p, dx, xs, L, rfl, ht, hS, hL, hg, q⟩ := h
  refine ⟨_, PSs.nox ((pss_cons (ps_for PassesOwn.never rfl (pi_tup (pv 1)) (pg_name (i := 2) sc_Sequence___init__.nd rfl (Or.inl rfl))
        (pss_one (ps_if (pt_not (pt_val (pe_staI (pv 0) T.sti_is_step G_is_step (hr.mono (by decide)) pass0 (pa_cons (pv 2) pa_nil)))) (pss_one ps_never) pss_nil)))
      (pss_one (ps_fld (pv 0) (pv 1) rfl)))), ?_⟩
  refine ⟨_, rfl, p, rfl, ⟨_, hS⟩, for_tup (K := K) (a := p) (xs := xs) (fun i σ H' => H' = H ∧ ∃ o, σ = [some (.ref t), some (.ref p), o]) ⟨rfl, _, rfl⟩ (fun i σ H' _ ⟨e, _⟩ => by rw [e]; exact hS) ?_ ?_⟩
  · rintro i x σ H' hx ⟨rfl, o, rfl⟩
    obtain ⟨s, hs, hst⟩ := pd_get hL hx
    refine ⟨_, rfl, t, dx, [], rfl, ht, rfl, _, rfl, ?_⟩
    dsimp only [tNil]
    refine stp_good hst (hg s (List.mem_of_getElem? hs)) ⟨_, rfl, iteN rfl ?_⟩
    exact ⟨rfl, _, rfl⟩
  · rintro σ H' ⟨rfl, o, rfl⟩
    exact ⟨_, rfl, _, rfl, t, a.Sequence, dx, _, rfl, ht, T.cl_S, T.n_steps, (by show 0 < 1000; decide), q⟩
/-- a sequence made out of steps -/
theorem sq_mk {C : Addr} {H1 : Hp} {xs : List V} {L : List Stp} {Q : VK} {E : XK} {x dx : Addr} (nx : H1 x = Option.none) (ndx : H1 dx = Option.none) (ne : dx ≠ x) (hL : StsAt K H1 xs L) (hg : ∀ s ∈ L, goodS s = true) (hz : xs.length ≤ 100000) (k : ∀ H', Same H1 H' → SqcAt K C H' x L → Q .non H') :
    spStar 1 (spInit K C) (V.ref x :: xs) (upd (upd H1 dx (.own x)) x (.ins C dx [])) Q E := by
  refine ⟨[V.ref x], xs, rfl, rfl, Nat.le_trans hz line_ge, fun p hp => ?_⟩
  have npx : p ≠ x := fun z => by rw [z, upd_same] at hp; cases hp
  have npd : p ≠ dx := fun z => by rw [z, upd_ne ne, upd_same] at hp; cases hp
  have hp1 : H1 p = Option.none := by rw [upd_ne npx, upd_ne npd] at hp; exact hp
  have s1 : Same H1 (upd (upd (upd H1 dx (.own x)) x (.ins C dx [])) p (.tup xs)) := (same_upd (same_new ndx) nx).trans (same_new hp)
  have s2 : Same H1 (upd (upd (upd (upd H1 dx (.own x)) x (.ins C dx [])) p (.tup xs)) x (.ins C dx (sfl p))) := same_upd s1 nx
  exact ⟨x, p, dx, xs, L, rfl, by rw [upd_ne (Ne.symm npx), upd_same], SqT.of upd_same, sts_same hL s1, hg, k _ s2 ⟨dx, p, xs, upd_same, SqT.of (by rw [upd_ne npx, upd_same]), sts_same hL s2, hg⟩⟩
theorem sq_made {C : Addr} {H1 : Hp} {xs : List V} {L : List Stp} {Q : VK} {E : XK} (hL : StsAt K H1 xs L) (hg : ∀ s ∈ L, goodS s = true) (hz : xs.length ≤ 100000) (k : ∀ t H', Same H1 H' → H1 t = Option.none → SqcAt K C H' t L → Q (.ref t) H') :
    ∀ x dx, H1 x = Option.none → H1 dx = Option.none → dx ≠ x → spStar 1 (spInit K C) (V.ref x :: xs) (upd (upd H1 dx (.own x)) x (.ins C dx [])) (fun v H2 => v = .non ∧ Q (.ref x) H2) E :=
  fun x dx nx ndx ne => sq_mk nx ndx ne hL hg hz fun H' s h => ⟨rfl, k x H' s nx h⟩
/-- .. asked with something that is no step -/
def spInitBad (K : PySem.W.Frag) (C CE : Addr) : Sp := fun vs H _ E => ∃ (t p dx : Addr) (xs ys : List V) (y : V) (L : List Stp), vs = [.ref t, .ref p] ∧ H t = some (.ins C dx []) ∧ SqT K H p (xs ++ y :: ys) ∧ StsAt K H xs L ∧ (∀ s ∈ L, goodS s = true) ∧
  ((∃ n, TyB K H y n ∧ tyN n = true ∧ n ≠ "tuple") ∨ (∃ r zs, y = .ref r ∧ SqT K H r zs ∧ zs.length ≠ 2) ∨ ∃ r u z, y = .ref r ∧ SqT K H r [u, z] ∧ KV K H u ∧ KV K H z ∧ stpV u z = false) ∧
  ∀ d, H d = Option.none → E (.ref CE) (some d) (upd H d (.xd [("value", y)]))
def spSteps (K : PySem.W.Frag) (C : Addr) : Sp := fun vs H Q _ => ∃ t L, vs = [.ref t] ∧ SqcAt K C H t L ∧ ∀ p xs, SqT K H p xs → StsAt K H xs L → Q (.ref p) H
def spLen (K : PySem.W.Frag) (C : Addr) : Sp := fun vs H Q _ => ∃ t L, vs = [.ref t] ∧ SqcAt K C H t L ∧ Q (.int (L.length : Int)) H
def spEqS (K : PySem.W.Frag) (C : Addr) : Sp := fun vs H Q _ => ∃ t u L M, vs = [.ref t, .ref u] ∧ SqcAt K C H t L ∧ SqcAt K C H u M ∧ Q (.bl (decide (L = M))) H
def spEqSo (K : PySem.W.Frag) (C : Addr) : Sp := fun vs H Q _ => ∃ (t : Addr) (y : V) (ty : Value), vs = [.ref t, y] ∧ TyX K H y ty ∧ PySem.W.kitOne K ty (.ref C) = some false ∧ Q (.bl false) H
def spAddS (K : PySem.W.Frag) (C : Addr) : Sp := fun vs H Q _ => ∃ t u L M, vs = [.ref t, .ref u] ∧ SqcAt K C H t L ∧ SqcAt K C H u M ∧ L.length + M.length ≤ 100000 ∧ ∀ r H', Same H H' → H r = Option.none → SqcAt K C H' r (L ++ M) → Q (.ref r) H'
def spMulS (K : PySem.W.Frag) (C : Addr) : Sp := fun vs H Q _ => ∃ t L n, vs = [.ref t, .int n] ∧ SqcAt K C H t L ∧ 0 ≤ n ∧ (L = [] ∨ n ≤ 100) ∧ L.length ≤ 1000 ∧ ∀ r H', Same H H' → H r = Option.none → SqcAt K C H' r (List.replicate n.toNat L).flatten → Q (.ref r) H'
theorem rep_nil (n : Nat) : (List.replicate n ([] : List Stp)).flatten = [] := by simp
theorem ok_Sequence_steps (T : Txt K mg a) : FnR P w K mg base CX0 1 a.Sequence_steps (spSteps K a.Sequence) := by
  obtain ⟨fd, F⟩ := T.F_Sequence_steps
  refine XT.okR F sc_Sequence_steps bn_Sequence_steps (fun vs H Q E h => ?_) (fun cdv A outer s H vs Q E hr h => ?_)
  · obtain ⟨t, L, rfl, _⟩ := h
    rfl
  · obtain ⟨t, L, rfl, ⟨dx, p, xs, ht, hS, hL, hg⟩, q⟩ := h
    refine ⟨_, (pss_one (ps_ret (fldK K (pv 0) rfl))), ?_⟩
    exact ⟨_, rfl, t, a.Sequence, dx, _, _, rfl, ht, T.cl_S, T.n_steps, sfl_steps _, q p xs hS hL⟩

theorem ok_Sequence___add__ (T : Txt K mg a) : FnR P w K mg base CX0 6 a.Sequence___add__ (spAddS K a.Sequence) := by
  obtain ⟨fd, F⟩ := T.F_Sequence___add__
  refine XT.okR F sc_Sequence___add__ bn_Sequence___add__ (fun vs H Q E h => ?_) (fun cdv A outer s H vs Q E hr h => ?_)
  · obtain ⟨t, u, L, L2, rfl, _⟩ := h
    rfl
  · obtain ⟨t, u, L, L2, rfl, ⟨dx, p, xs, ht, hS, hL, hg⟩, ⟨dy, p2, ys, hu, hS2, hL2, hg2⟩, hz, k⟩ := h
    have G_Sequence_init := ok_Sequence___init__ (P := P) (w := w) (base := base) T
    refine ⟨_, (pss_cons (ps_set (i := 2) sc_Sequence___add__.nd rfl (Or.inl rfl) (pe_op op_catA (fldK K (pv 0) rfl) (fldK K (pv 1) rfl)))
      (pss_one (ps_ret (pe_makeS1 T.M_Sequence G_Sequence_init (hr.mono (by decide)) rfl T.g_Sequence pass0 (pv 2))))), ?_⟩
    have hgg : ∀ s ∈ L ++ L2, goodS s = true := fun s hs => (List.mem_append.mp hs).elim (hg s) (hg2 s)
    have l1 := hL.length
    have l2 := hL2.length
    have fin : ∀ (q : Addr) (zs : List V) (H1 : Hp), Same H H1 → SqT K H1 q zs → StsAt K H1 zs (L ++ L2) → (∀ x dx, H1 x = Option.none → H1 dx = Option.none → dx ≠ x → spStar 1 (spInit K a.Sequence) (V.ref x :: zs) (upd (upd H1 dx (.own x)) x (.ins a.Sequence dx [])) (fun v H2 => v = .non ∧ Q (.ref x) H2) E0) := fun q zs H1 s1 hq hz1 =>
      sq_made hz1 hgg (by rw [hz1.length, List.length_append]; omega) fun r H' s2 nr hr => k r H' (s1.trans s2) (s1.free nr) hr
    refine ⟨_, rfl, t, a.Sequence, dx, _, _, rfl, ht, T.cl_S, T.n_steps, sfl_steps _, _, rfl, u, a.Sequence, dy, _, _, rfl, hu, T.cl_S, T.n_steps, sfl_steps _, p, p2, xs, ys, rfl, rfl, hS, hS2, Nat.le_trans (by omega) line_ge, fun e => ?_, fun e1 e2 => ?_, fun e1 e2 q hq => ?_⟩
    · subst e
      cases hL
      exact ⟨_, rfl, _, _, rfl, .inl hS2, fin p2 ys H (Same.refl H) hS2 hL2⟩
    · subst e2
      cases hL2
      exact ⟨_, rfl, _, _, rfl, .inl hS, fin p xs H (Same.refl H) hS (by rw [List.append_nil]; exact hL)⟩
    · exact ⟨_, rfl, _, _, rfl, .inl (SqT.of upd_same), fin q (xs ++ ys) _ (same_new hq) (SqT.of upd_same) (sts_same (pd_append hL hL2) (same_new hq))⟩

end
end K13
namespace K13
open PySem L2 XT
section
variable {P : Program} {w : World} {K : PySem.W.Frag} {mg : Str → Option Value} {base : Heap} {a : Ads}
local macro_rules | `(tactic| walk_at "rside") => `(tactic| first | (show (0 : Int) < _; first | decide | omega) | (exact ⟨by first | decide | omega, by first | decide | omega⟩) | (exact Or.inl ⟨by omega, by omega⟩) | (exact Or.inr ⟨by omega, by omega⟩) | (exact ⟨by decide, by decide, by decide⟩))
local macro_rules | `(tactic| walk_at "rd1") => `(tactic| first | (refine ⟨_, rfl, ?_⟩) | (refine ⟨_, _, rfl, rfl, (by walk_at "rside"), ?_⟩) | (refine ⟨_, _, rfl, rfl, ?_⟩))
local macro_rules | `(tactic| walk_at "rd") => `(tactic| repeat (walk_at "rd1"))

/-- numbers in ascending order, as a list or a tuple -/
def spHow (K : PySem.W.Frag) : Sp := fun vs H Q _ => ∃ (p : Addr) (lim : Int) (B : List Int), vs = [.ref p, .int lim] ∧ (SqL K H p (B.map V.int) ∨ SqT K H p (B.map V.int)) ∧ Tbl.Up B ∧ Q (.int (Tbl.cnt B lim)) H
def muHow : L2.St → Nat := fun σ => match σ with
  | [_, _, some (.int lo), some (.int hi), _] => (hi - lo).toNat
  | _ => 0
def InvHow (p : Addr) (lim : Int) (B : List Int) (H0 : Hp) (σ : L2.St) (H : Hp) : Prop := ∃ (lo hi : Nat) (m : Option V), H = H0 ∧ σ = [some (.ref p), some (.int lim), some (.int lo), some (.int hi), m] ∧ lo ≤ hi ∧ hi ≤ B.length ∧
  (∀ j, (h : j < B.length) → j < lo → B[j] ≤ lim) ∧ ∀ j, (h : j < B.length) → hi ≤ j → lim < B[j]
theorem ok_how_many_up_to (T : Txt K mg a) : FnR P w K mg base CX0 1 a.how_many_up_to (spHow K) := by
  obtain ⟨fd, F⟩ := T.F_how_many_up_to
  refine XT.okR F sc_how_many_up_to bn_how_many_up_to (fun vs H Q E h => ?_) (fun cdv A outer s H vs Q E hr h => ?_)
  · obtain ⟨p, lim, B, rfl, _⟩ := h
    rfl
  · obtain ⟨p, lim, B, rfl, hS, hu, q⟩ := h
    rcases hS with hS | hS
    · refine ⟨_, (pss_cons (ps_par (i := 2) (j := 3) (by rfl) sc_how_many_up_to.nd rfl rfl (by decide) rfl rfl (pa_cons pe_int (pa_cons (pe_callB (lenK K) (by rfl) T.b_len (by decide +kernel) (pa_cons (pv 0) pa_nil)) pa_nil)) (by rfl))
            (pss_cons (ps_while PassesOwn.never (pt_cmpR op_lt (pv 2) (pv 3) (nomark _))
              (pss_cons (ps_set (i := 4) sc_how_many_up_to.nd rfl (Or.inl rfl) (pe_op op_fdiv (pe_op op_add (pv 2) (pv 3)) pe_int))
            (pss_one (ps_if (pt_cmpR op_le (pe_ix (ixLK K) (pv 0) (pv 4) (fun _ _ => rfl)) (pv 1) (nomark _)) (pss_one (ps_set (i := 2) sc_how_many_up_to.nd rfl (Or.inl rfl) (pe_op op_add (pv 4) pe_int))) (pss_one (ps_set (i := 3) sc_how_many_up_to.nd rfl (Or.inl rfl) (pv 4)))))))
            (pss_one (ps_ret (pv 2))))), ?_⟩
      refine ⟨_, rfl, p, _, rfl, .inl hS, _, _, rfl, ?_⟩
      refine while_by (InvHow p lim B H) (fun σ _ => muHow σ) ⟨0, B.length, Option.none, rfl, ?_, Nat.zero_le _, Nat.le_refl _, fun j h h2 => absurd h2 (Nat.not_lt_zero _), fun j h h2 => absurd h (by omega)⟩ ?_ ?_
      · show _ = [some (V.ref p), some (V.int lim), some (V.int ((0 : Nat) : Int)), some (V.int (B.length : Int)), Option.none]
        rw [List.length_map]
        rfl
      · rintro σ H1 ⟨lo, hi, m, rfl, rfl, h1, h2, h3, h4⟩
        refine ⟨_, rfl, _, rfl, _, _, rfl, rfl, _, rfl, ite2 (fun hlt => ?_) (fun hge => ?_)⟩
        · have hlt' : lo < hi := by have := of_decide_eq_true hlt; omega
          have em : ((lo : Int) + (hi : Int)) / 2 = (((lo + hi) / 2 : Nat) : Int) := by omega
          have hm : (lo + hi) / 2 < B.length := by omega
          have hg : (B.map V.int)[(lo + hi) / 2]? = some (V.int B[(lo + hi) / 2]) := by simp [hm]
          refine ⟨_, rfl, _, rfl, _, _, rfl, rfl, _, _, rfl, rfl, ⟨by decide, by decide⟩, ?_⟩
          refine ⟨_, rfl, _, rfl, p, _, _, _, rfl, rfl, hS, at_of em hg, _, rfl, _, _, rfl, rfl, _, rfl, ite2 (fun hle => ?_) (fun hgt => ?_)⟩
          · have hle' := of_decide_eq_true hle
            refine ⟨_, rfl, _, _, rfl, rfl, ⟨⟨(lo + hi) / 2 + 1, hi, some (V.int (((lo : Int) + (hi : Int)) / 2)), rfl, ?_, by omega, h2, fun j hj hlt2 => ?_, h4⟩, ?_⟩⟩
            · show [some (V.ref p), some (V.int lim), some (V.int (((lo : Int) + (hi : Int)) / 2 + 1)), some (V.int (hi : Int)), some (V.int (((lo : Int) + (hi : Int)) / 2))] = _
              rw [em]
              try rfl
            · exact Int.le_trans (Tbl.up_get hu hj hm (by omega)) hle'
            · show ((hi : Int) - (((lo : Int) + (hi : Int)) / 2 + 1)).toNat < ((hi : Int) - (lo : Int)).toNat
              omega
          · have hgt' : ¬ B[(lo + hi) / 2] ≤ lim := fun z => hgt (decide_eq_true z)
            refine ⟨_, rfl, ⟨⟨lo, (lo + hi) / 2, some (V.int (((lo : Int) + (hi : Int)) / 2)), rfl, ?_, by omega, by omega, h3, fun j hj hle2 => ?_⟩, ?_⟩⟩
            · show [some (V.ref p), some (V.int lim), some (V.int (lo : Int)), some (V.int (((lo : Int) + (hi : Int)) / 2)), some (V.int (((lo : Int) + (hi : Int)) / 2))] = _
              rw [em]
              try rfl
            · have := Tbl.up_get hu hm hj hle2
              omega
            · show ((((lo : Int) + (hi : Int)) / 2) - (lo : Int)).toNat < ((hi : Int) - (lo : Int)).toNat
              omega
        · have hge' : ¬ ((lo : Int) < (hi : Int)) := fun z => hge (decide_eq_true z)
          have e : lo = hi := by omega
          subst e
          refine ⟨_, rfl, ?_⟩
          have := Tbl.cnt_split h2 h3 h4
          rw [this] at q
          exact q
      · rintro σ H1 Q1 Q2 hq ⟨x, hx, y, hy, i, j, e1, e2, k, e3, z⟩
        exact ⟨x, hx, y, hy, i, j, e1, e2, k, e3, hq _ _ z⟩
    · refine ⟨_, (pss_cons (ps_par (i := 2) (j := 3) (by rfl) sc_how_many_up_to.nd rfl rfl (by decide) rfl rfl (pa_cons pe_int (pa_cons (pe_callB (lenK K) (by rfl) T.b_len (by decide +kernel) (pa_cons (pv 0) pa_nil)) pa_nil)) (by rfl))
            (pss_cons (ps_while PassesOwn.never (pt_cmpR op_lt (pv 2) (pv 3) (nomark _))
              (pss_cons (ps_set (i := 4) sc_how_many_up_to.nd rfl (Or.inl rfl) (pe_op op_fdiv (pe_op op_add (pv 2) (pv 3)) pe_int))
            (pss_one (ps_if (pt_cmpR op_le (pe_ix (ixTK K) (pv 0) (pv 4) (fun _ _ => rfl)) (pv 1) (nomark _)) (pss_one (ps_set (i := 2) sc_how_many_up_to.nd rfl (Or.inl rfl) (pe_op op_add (pv 4) pe_int))) (pss_one (ps_set (i := 3) sc_how_many_up_to.nd rfl (Or.inl rfl) (pv 4)))))))
            (pss_one (ps_ret (pv 2))))), ?_⟩
      refine ⟨_, rfl, p, _, rfl, .inr hS, _, _, rfl, ?_⟩
      refine while_by (InvHow p lim B H) (fun σ _ => muHow σ) ⟨0, B.length, Option.none, rfl, ?_, Nat.zero_le _, Nat.le_refl _, fun j h h2 => absurd h2 (Nat.not_lt_zero _), fun j h h2 => absurd h (by omega)⟩ ?_ ?_
      · show _ = [some (V.ref p), some (V.int lim), some (V.int ((0 : Nat) : Int)), some (V.int (B.length : Int)), Option.none]
        rw [List.length_map]
        rfl
      · rintro σ H1 ⟨lo, hi, m, rfl, rfl, h1, h2, h3, h4⟩
        refine ⟨_, rfl, _, rfl, _, _, rfl, rfl, _, rfl, ite2 (fun hlt => ?_) (fun hge => ?_)⟩
        · have hlt' : lo < hi := by have := of_decide_eq_true hlt; omega
          have em : ((lo : Int) + (hi : Int)) / 2 = (((lo + hi) / 2 : Nat) : Int) := by omega
          have hm : (lo + hi) / 2 < B.length := by omega
          have hg : (B.map V.int)[(lo + hi) / 2]? = some (V.int B[(lo + hi) / 2]) := by simp [hm]
          refine ⟨_, rfl, _, rfl, _, _, rfl, rfl, _, _, rfl, rfl, ⟨by decide, by decide⟩, ?_⟩
          refine ⟨_, rfl, _, rfl, p, _, _, _, rfl, rfl, hS, at_of em hg, _, rfl, _, _, rfl, rfl, _, rfl, ite2 (fun hle => ?_) (fun hgt => ?_)⟩
          · have hle' := of_decide_eq_true hle
            refine ⟨_, rfl, _, _, rfl, rfl, ⟨⟨(lo + hi) / 2 + 1, hi, some (V.int (((lo : Int) + (hi : Int)) / 2)), rfl, ?_, by omega, h2, fun j hj hlt2 => ?_, h4⟩, ?_⟩⟩
            · show [some (V.ref p), some (V.int lim), some (V.int (((lo : Int) + (hi : Int)) / 2 + 1)), some (V.int (hi : Int)), some (V.int (((lo : Int) + (hi : Int)) / 2))] = _
              rw [em]
              try rfl
            · exact Int.le_trans (Tbl.up_get hu hj hm (by omega)) hle'
            · show ((hi : Int) - (((lo : Int) + (hi : Int)) / 2 + 1)).toNat < ((hi : Int) - (lo : Int)).toNat
              omega
          · have hgt' : ¬ B[(lo + hi) / 2] ≤ lim := fun z => hgt (decide_eq_true z)
            refine ⟨_, rfl, ⟨⟨lo, (lo + hi) / 2, some (V.int (((lo : Int) + (hi : Int)) / 2)), rfl, ?_, by omega, by omega, h3, fun j hj hle2 => ?_⟩, ?_⟩⟩
            · show [some (V.ref p), some (V.int lim), some (V.int (lo : Int)), some (V.int (((lo : Int) + (hi : Int)) / 2)), some (V.int (((lo : Int) + (hi : Int)) / 2))] = _
              rw [em]
              try rfl
            · have := Tbl.up_get hu hm hj hle2
              omega
            · show ((((lo : Int) + (hi : Int)) / 2) - (lo : Int)).toNat < ((hi : Int) - (lo : Int)).toNat
              omega
        · have hge' : ¬ ((lo : Int) < (hi : Int)) := fun z => hge (decide_eq_true z)
          have e : lo = hi := by omega
          subst e
          refine ⟨_, rfl, ?_⟩
          have := Tbl.cnt_split h2 h3 h4
          rw [this] at q
          exact q
      · rintro σ H1 Q1 Q2 hq ⟨x, hx, y, hy, i, j, e1, e2, k, e3, z⟩
        exact ⟨x, hx, y, hy, i, j, e1, e2, k, e3, hq _ _ z⟩

def spMapped (K : PySem.W.Frag) : Sp := fun vs H Q _ => ∃ (s c : Int) (p : Addr) (L : List Int), vs = [.int s, .ref p, .int c] ∧ SqT K H p (L.map V.int) ∧ Tbl.Up L ∧ Q (.int (Tbl.mp s L c)) H
theorem ok_mapped (T : Txt K mg a) : FnR P w K mg base CX0 2 a.mapped (spMapped K) := by
  obtain ⟨fd, F⟩ := T.F_mapped
  refine XT.okR F sc_mapped bn_mapped (fun vs H Q E h => ?_) (fun cdv A outer s H vs Q E hr h => ?_)
  · obtain ⟨z, c, p, L, rfl, _⟩ := h
    rfl
  · obtain ⟨z, c, p, L, rfl, hS, hu, q⟩ := h
    have G_how_many_up_to := ok_how_many_up_to (P := P) (w := w) (base := base) T
    refine ⟨_, (pss_one (ps_ret (pe_op op_sub (pe_op op_add (pv 0) (pv 2)) (pe_callR G_how_many_up_to (hr.mono (by decide)) rfl T.g_how_many_up_to T.k_how_many_up_to pass0 (pa_cons (pv 1) (pa_cons (pv 2) pa_nil)))))), ?_⟩
    exact ⟨_, rfl, _, rfl, _, _, rfl, rfl, _, rfl, _, rfl, p, c, L, rfl, .inr hS, hu, _, _, rfl, rfl, q⟩

theorem bnds_get (L : List Int) : ∀ (i j : Nat) (h : j < L.length) (h2 : j < (Tbl.bnds i L).length), (Tbl.bnds i L)[j] = L[j] - ((i + j : Nat) : Int) := by
  induction L with
  | nil => intro i j h; cases h
  | cons x L ih =>
    intro i j h h2
    cases j with
    | zero => rfl
    | succ j =>
      show (Tbl.bnds (i + 1) L)[j]'(by rw [Tbl.bnds_length]; simpa using h) = L[j]'(by simpa using h) - ((i + (j + 1) : Nat) : Int)
      rw [ih (i + 1) j (by simpa using h)]
      omega
def spKr (K : PySem.W.Frag) : Sp := fun vs H Q _ => ∃ (p : Addr) (lim : Int) (B : List Int), vs = [.ref p, .int lim] ∧ (SqL K H p (B.map V.int) ∨ SqT K H p (B.map V.int)) ∧ Tbl.Asc B ∧ Q (.int (Tbl.kr B lim)) H
theorem ok_kept_rank (T : Txt K mg a) : FnR P w K mg base CX0 1 a.kept_rank (spKr K) := by
  obtain ⟨fd, F⟩ := T.F_kept_rank
  refine XT.okR F sc_kept_rank bn_kept_rank (fun vs H Q E h => ?_) (fun cdv A outer s H vs Q E hr h => ?_)
  · obtain ⟨p, lim, B, rfl, _⟩ := h
    rfl
  · obtain ⟨p, lim, B, rfl, hS, ha, q⟩ := h
    rcases hS with hS | hS
    · refine ⟨_, (pss_cons (ps_par (i := 2) (j := 3) (by rfl) sc_kept_rank.nd rfl rfl (by decide) rfl rfl (pa_cons pe_int (pa_cons (pe_callB (lenK K) (by rfl) T.b_len (by decide +kernel) (pa_cons (pv 0) pa_nil)) pa_nil)) (by rfl))
            (pss_cons (ps_while PassesOwn.never (pt_cmpR op_lt (pv 2) (pv 3) (nomark _))
              (pss_cons (ps_set (i := 4) sc_kept_rank.nd rfl (Or.inl rfl) (pe_op op_fdiv (pe_op op_add (pv 2) (pv 3)) pe_int))
            (pss_one (ps_if (pt_cmpR op_le (pe_op op_sub (pe_ix (ixLK K) (pv 0) (pv 4) (fun _ _ => rfl)) (pv 4)) (pv 1) (nomark _)) (pss_one (ps_set (i := 2) sc_kept_rank.nd rfl (Or.inl rfl) (pe_op op_add (pv 4) pe_int))) (pss_one (ps_set (i := 3) sc_kept_rank.nd rfl (Or.inl rfl) (pv 4)))))))
            (pss_one (ps_ret (pe_op op_add (pv 1) (pv 2)))))), ?_⟩
      have hbl : (Tbl.bnds 0 B).length = B.length := Tbl.bnds_length B 0
      have hu := Tbl.bnds_up (i := 0) ha
      refine ⟨_, rfl, p, _, rfl, .inl hS, _, _, rfl, ?_⟩
      refine while_by (InvHow p lim (Tbl.bnds 0 B) H) (fun σ _ => muHow σ) ⟨0, (Tbl.bnds 0 B).length, Option.none, rfl, ?_, Nat.zero_le _, Nat.le_refl _, fun j h h2 => absurd h2 (Nat.not_lt_zero _), fun j h h2 => absurd h (by omega)⟩ ?_ ?_
      · show _ = [some (V.ref p), some (V.int lim), some (V.int ((0 : Nat) : Int)), some (V.int ((Tbl.bnds 0 B).length : Int)), Option.none]
        rw [List.length_map, hbl]
        rfl
      · rintro σ H1 ⟨lo, hi, m, rfl, rfl, h1, h2, h3, h4⟩
        refine ⟨_, rfl, _, rfl, _, _, rfl, rfl, _, rfl, ite2 (fun hlt => ?_) (fun hge => ?_)⟩
        · have hlt' : lo < hi := by have := of_decide_eq_true hlt; omega
          have em : ((lo : Int) + (hi : Int)) / 2 = (((lo + hi) / 2 : Nat) : Int) := by omega
          have hm : (lo + hi) / 2 < (Tbl.bnds 0 B).length := by omega
          have hm0 : (lo + hi) / 2 < B.length := by omega
          have hg : (B.map V.int)[(lo + hi) / 2]? = some (V.int B[(lo + hi) / 2]) := by simp [hm0]
          have hgb := bnds_get B 0 ((lo + hi) / 2) hm0 hm
          rw [Nat.zero_add] at hgb
          refine ⟨_, rfl, _, rfl, _, _, rfl, rfl, _, _, rfl, rfl, ⟨by decide, by decide⟩, ?_⟩
          refine ⟨_, rfl, _, rfl, p, _, _, _, rfl, rfl, hS, at_of em hg, _, rfl, _, _, rfl, rfl, _, rfl, _, _, rfl, rfl, _, rfl, ite2 (fun hle => ?_) (fun hgt => ?_)⟩
          · have hle' : (Tbl.bnds 0 B)[(lo + hi) / 2] ≤ lim := by have := of_decide_eq_true hle; rw [hgb]; omega
            refine ⟨_, rfl, _, _, rfl, rfl, ⟨⟨(lo + hi) / 2 + 1, hi, some (V.int (((lo : Int) + (hi : Int)) / 2)), rfl, ?_, by omega, h2, fun j hj hlt2 => ?_, h4⟩, ?_⟩⟩
            · show [some (V.ref p), some (V.int lim), some (V.int (((lo : Int) + (hi : Int)) / 2 + 1)), some (V.int (hi : Int)), some (V.int (((lo : Int) + (hi : Int)) / 2))] = _
              rw [em]
              try rfl
            · exact Int.le_trans (Tbl.up_get hu hj hm (by omega)) hle'
            · show ((hi : Int) - (((lo : Int) + (hi : Int)) / 2 + 1)).toNat < ((hi : Int) - (lo : Int)).toNat
              omega
          · have hgt' : lim < (Tbl.bnds 0 B)[(lo + hi) / 2] := by
              have := of_decide_eq_false ((Bool.not_eq_true _).mp hgt)
              rw [hgb]
              omega
            refine ⟨_, rfl, ⟨⟨lo, (lo + hi) / 2, some (V.int (((lo : Int) + (hi : Int)) / 2)), rfl, ?_, by omega, by omega, h3, fun j hj hle2 => ?_⟩, ?_⟩⟩
            · show [some (V.ref p), some (V.int lim), some (V.int (lo : Int)), some (V.int (((lo : Int) + (hi : Int)) / 2)), some (V.int (((lo : Int) + (hi : Int)) / 2))] = _
              rw [em]
              try rfl
            · have := Tbl.up_get hu hm hj hle2
              omega
            · show ((((lo : Int) + (hi : Int)) / 2) - (lo : Int)).toNat < ((hi : Int) - (lo : Int)).toNat
              omega
        · have hge' : ¬ ((lo : Int) < (hi : Int)) := fun z => hge (decide_eq_true z)
          have e : lo = hi := by omega
          subst e
          refine ⟨_, rfl, _, rfl, _, _, rfl, rfl, ?_⟩
          have := Tbl.cnt_split h2 h3 h4
          unfold Tbl.kr at q
          rw [this] at q
          exact q
      · rintro σ H1 Q1 Q2 hq ⟨x, hx, y, hy, i, j, e1, e2, k, e3, z⟩
        exact ⟨x, hx, y, hy, i, j, e1, e2, k, e3, hq _ _ z⟩
    · refine ⟨_, (pss_cons (ps_par (i := 2) (j := 3) (by rfl) sc_kept_rank.nd rfl rfl (by decide) rfl rfl (pa_cons pe_int (pa_cons (pe_callB (lenK K) (by rfl) T.b_len (by decide +kernel) (pa_cons (pv 0) pa_nil)) pa_nil)) (by rfl))
            (pss_cons (ps_while PassesOwn.never (pt_cmpR op_lt (pv 2) (pv 3) (nomark _))
              (pss_cons (ps_set (i := 4) sc_kept_rank.nd rfl (Or.inl rfl) (pe_op op_fdiv (pe_op op_add (pv 2) (pv 3)) pe_int))
            (pss_one (ps_if (pt_cmpR op_le (pe_op op_sub (pe_ix (ixTK K) (pv 0) (pv 4) (fun _ _ => rfl)) (pv 4)) (pv 1) (nomark _)) (pss_one (ps_set (i := 2) sc_kept_rank.nd rfl (Or.inl rfl) (pe_op op_add (pv 4) pe_int))) (pss_one (ps_set (i := 3) sc_kept_rank.nd rfl (Or.inl rfl) (pv 4)))))))
            (pss_one (ps_ret (pe_op op_add (pv 1) (pv 2)))))), ?_⟩
      have hbl : (Tbl.bnds 0 B).length = B.length := Tbl.bnds_length B 0
      have hu := Tbl.bnds_up (i := 0) ha
      refine ⟨_, rfl, p, _, rfl, .inr hS, _, _, rfl, ?_⟩
      refine while_by (InvHow p lim (Tbl.bnds 0 B) H) (fun σ _ => muHow σ) ⟨0, (Tbl.bnds 0 B).length, Option.none, rfl, ?_, Nat.zero_le _, Nat.le_refl _, fun j h h2 => absurd h2 (Nat.not_lt_zero _), fun j h h2 => absurd h (by omega)⟩ ?_ ?_
      · show _ = [some (V.ref p), some (V.int lim), some (V.int ((0 : Nat) : Int)), some (V.int ((Tbl.bnds 0 B).length : Int)), Option.none]
        rw [List.length_map, hbl]
        rfl
      · rintro σ H1 ⟨lo, hi, m, rfl, rfl, h1, h2, h3, h4⟩
        refine ⟨_, rfl, _, rfl, _, _, rfl, rfl, _, rfl, ite2 (fun hlt => ?_) (fun hge => ?_)⟩
        · have hlt' : lo < hi := by have := of_decide_eq_true hlt; omega
          have em : ((lo : Int) + (hi : Int)) / 2 = (((lo + hi) / 2 : Nat) : Int) := by omega
          have hm : (lo + hi) / 2 < (Tbl.bnds 0 B).length := by omega
          have hm0 : (lo + hi) / 2 < B.length := by omega
          have hg : (B.map V.int)[(lo + hi) / 2]? = some (V.int B[(lo + hi) / 2]) := by simp [hm0]
          have hgb := bnds_get B 0 ((lo + hi) / 2) hm0 hm
          rw [Nat.zero_add] at hgb
          refine ⟨_, rfl, _, rfl, _, _, rfl, rfl, _, _, rfl, rfl, ⟨by decide, by decide⟩, ?_⟩
          refine ⟨_, rfl, _, rfl, p, _, _, _, rfl, rfl, hS, at_of em hg, _, rfl, _, _, rfl, rfl, _, rfl, _, _, rfl, rfl, _, rfl, ite2 (fun hle => ?_) (fun hgt => ?_)⟩
          · have hle' : (Tbl.bnds 0 B)[(lo + hi) / 2] ≤ lim := by have := of_decide_eq_true hle; rw [hgb]; omega
            refine ⟨_, rfl, _, _, rfl, rfl, ⟨⟨(lo + hi) / 2 + 1, hi, some (V.int (((lo : Int) + (hi : Int)) / 2)), rfl, ?_, by omega, h2, fun j hj hlt2 => ?_, h4⟩, ?_⟩⟩
            · show [some (V.ref p), some (V.int lim), some (V.int (((lo : Int) + (hi : Int)) / 2 + 1)), some (V.int (hi : Int)), some (V.int (((lo : Int) + (hi : Int)) / 2))] = _
              rw [em]
              try rfl
            · exact Int.le_trans (Tbl.up_get hu hj hm (by omega)) hle'
            · show ((hi : Int) - (((lo : Int) + (hi : Int)) / 2 + 1)).toNat < ((hi : Int) - (lo : Int)).toNat
              omega
          · have hgt' : lim < (Tbl.bnds 0 B)[(lo + hi) / 2] := by
              have := of_decide_eq_false ((Bool.not_eq_true _).mp hgt)
              rw [hgb]
              omega
            refine ⟨_, rfl, ⟨⟨lo, (lo + hi) / 2, some (V.int (((lo : Int) + (hi : Int)) / 2)), rfl, ?_, by omega, by omega, h3, fun j hj hle2 => ?_⟩, ?_⟩⟩
            · show [some (V.ref p), some (V.int lim), some (V.int (lo : Int)), some (V.int (((lo : Int) + (hi : Int)) / 2)), some (V.int (((lo : Int) + (hi : Int)) / 2))] = _
              rw [em]
              try rfl
            · have := Tbl.up_get hu hm hj hle2
              omega
            · show ((((lo : Int) + (hi : Int)) / 2) - (lo : Int)).toNat < ((hi : Int) - (lo : Int)).toNat
              omega
        · have hge' : ¬ ((lo : Int) < (hi : Int)) := fun z => hge (decide_eq_true z)
          have e : lo = hi := by omega
          subst e
          refine ⟨_, rfl, _, rfl, _, _, rfl, rfl, ?_⟩
          have := Tbl.cnt_split h2 h3 h4
          unfold Tbl.kr at q
          rw [this] at q
          exact q
      · rintro σ H1 Q1 Q2 hq ⟨x, hx, y, hy, i, j, e1, e2, k, e3, z⟩
        exact ⟨x, hx, y, hy, i, j, e1, e2, k, e3, hq _ _ z⟩

theorem ne_ls : ¬ (("_lost" : Str) = "_start") := by decide +kernel
theorem ne_sl : ¬ (("_start" : Str) = "_lost") := by decide +kernel
def flds (s : Int) (la : Addr) : List (Str × V) := putF "_lost" (.ref la) (putF "_start" (.int s) [])
theorem flds_start (s : Int) (la : Addr) : (flds s la).lookup ("_start" : Str) = some (.int s) := by
  unfold flds
  rw [lookup_putF, if_neg ne_sl, lookup_putF, if_pos rfl]
theorem flds_lost (s : Int) (la : Addr) : (flds s la).lookup ("_lost" : Str) = some (.ref la) := by
  unfold flds
  rw [lookup_putF, if_pos rfl]
theorem flds_no (s : Int) (la : Addr) {m : Str} (h1 : ¬ m = "_lost") (h2 : ¬ m = "_start") : (flds s la).lookup m = none := by
  unfold flds
  rw [lookup_putF, if_neg h1, lookup_putF, if_neg h2]
  all_goals rfl
/-- a table stands at t -/
def TabAt (K : PySem.W.Frag) (C : Addr) (H : Hp) (t : Addr) (s : Int) (L : List Int) : Prop := ∃ dx la, H t = some (.ins C dx (flds s la)) ∧ SqT K H la (L.map V.int) ∧ Tbl.Ok s L ∧ L.length ≤ 100000
theorem TabAt.same {K : PySem.W.Frag} {C : Addr} {H H' : Hp} {t : Addr} {s : Int} {L : List Int} (h : TabAt K C H t s L) (e : Same H H') : TabAt K C H' t s L :=
  let ⟨dx, la, a, b, c⟩ := h
  ⟨dx, la, e _ _ a, same_seqT e b, c⟩
theorem TabAt.insA {K : PySem.W.Frag} {C : Addr} {H : Hp} {t : Addr} {s : Int} {L : List Int} (h : TabAt K C H t s L) : InsA H t C := let ⟨dx, la, a, _⟩ := h; ⟨dx, _, a⟩
theorem TabAt.insC {X : Cx} {K : PySem.W.Frag} {C : Addr} {H : Hp} {t : Addr} {s : Int} {L : List Int} (h : TabAt K C H t s L) : StX.InsC X H t C := let ⟨dx, la, a, _⟩ := h; .inr ⟨dx, _, a⟩
def spTab0 (K : PySem.W.Frag) (C : Addr) : Sp := fun vs H Q _ => ∃ (t dx l : Addr) (s : Int) (L : List Int), vs = [.ref t, .int s, .ref l] ∧ H t = some (.ins C dx []) ∧ (SqL K H l (L.map V.int) ∨ SqT K H l (L.map V.int)) ∧ Tbl.Ok s L ∧ L.length ≤ 100000 ∧
  ∀ H', TabAt K C H' t s L → (∀ b o, H b = some o → b ≠ t → H' b = some o) → Q .non H'
/-- a table made -/
theorem tab_made {K : PySem.W.Frag} {C : Addr} {H1 : Hp} {l : Addr} {s : Int} {L : List Int} {Q : VK} {E : XK} (hS : SqL K H1 l (L.map V.int) ∨ SqT K H1 l (L.map V.int)) (ok : Tbl.Ok s L) (hl : L.length ≤ 100000)
    (k : ∀ t H', Same H1 H' → H1 t = Option.none → TabAt K C H' t s L → Q (.ref t) H') :
    ∀ x dx, H1 x = Option.none → H1 dx = Option.none → dx ≠ x → spTab0 K C [.ref x, .int s, .ref l] (upd (upd H1 dx (.own x)) x (.ins C dx [])) (fun v H2 => v = .non ∧ Q (.ref x) H2) E := by
  intro x dx nx ndx ne
  have s1 : Same H1 (upd (upd H1 dx (.own x)) x (.ins C dx [])) := same_upd (same_new ndx) nx
  refine ⟨x, dx, l, s, L, rfl, upd_same, hS.imp (fun h => s1.seq h) (fun h => same_seqT s1 h), ok, hl, fun H' T kp => ⟨rfl, k x H' (fun b o e => ?_) nx T⟩⟩
  exact kp b o (s1 b o e) (fun q => by rw [q, nx] at e; cases e)
def spGet (K : PySem.W.Frag) (C : Addr) (f : Int → List Int → Int) : Sp := fun vs H Q _ => ∃ t s L, vs = [.ref t] ∧ TabAt K C H t s L ∧ Q (.int (f s L)) H
def spLost (K : PySem.W.Frag) (C : Addr) : Sp := fun vs H Q _ => ∃ t s L, vs = [.ref t] ∧ TabAt K C H t s L ∧ ∀ p, SqT K H p (L.map V.int) → Q (.ref p) H
def spLeast (K : PySem.W.Frag) (C : Addr) : Sp := fun vs H Q _ => ∃ t s L c, vs = [.ref t, .int c] ∧ TabAt K C H t s L ∧ 0 ≤ c ∧ ∀ H', Same H H' → Q (.int (Tbl.lst s L c)) H'
def spCallT (K : PySem.W.Frag) (C : Addr) : Sp := fun vs H Q _ => ∃ t s L c, vs = [.ref t, .int c] ∧ TabAt K C H t s L ∧ 0 ≤ c ∧ Q (.int (Tbl.mp s L c)) H
def spEqT (K : PySem.W.Frag) (C : Addr) : Sp := fun vs H Q _ => ∃ t u s L s' L', vs = [.ref t, .ref u] ∧ TabAt K C H t s L ∧ TabAt K C H u s' L' ∧ Q (.bl (decide (s = s' ∧ L = L'))) H
def spBoolT (K : PySem.W.Frag) (C : Addr) : Sp := fun vs H Q _ => ∃ t s L, vs = [.ref t] ∧ TabAt K C H t s L ∧ Q (.bl (decide (¬ (s = 0 ∧ L = [])))) H
def spAddT (K : PySem.W.Frag) (C : Addr) : Sp := fun vs H Q _ => ∃ t u s L s' L', vs = [.ref t, .ref u] ∧ TabAt K C H t s L ∧ TabAt K C H u s' L' ∧ L.length + L'.length ≤ 100000 ∧
  ∀ r N H', Same H H' → N.Perm (L ++ Tbl.found s L L') → Tbl.Up N → TabAt K C H' r (Tbl.mp s' L' s) N → Q (.ref r) H'
theorem ok_Table___init__ (T : Txt K mg a) : FnR P w K mg base CX0 5 a.Table___init__ (spTab0 K a.Table) := by
  obtain ⟨fd, F⟩ := T.F_Table___init__
  refine XT.okR F sc_Table___init__ bn_Table___init__ (fun vs H Q E h => ?_) (fun cdv A outer s H vs Q E hr h => ?_)
  · obtain ⟨t, dx, l, z, L, rfl, _⟩ := h
    rfl
  · obtain ⟨t, dx, l, z, L, rfl, ht, hS, ok, hl, k⟩ := h
    have G_is_count := ok_is_count (P := P) (w := w) (base := base) T
    have G_is_rank_list := ok_is_rank_list (P := P) (w := w) (base := base) T
    refine ⟨_, (pss_cons (ps_if (PW.pt (pw_or (pt_not (pt_val (pe_callR G_is_count (hr.mono (by decide)) rfl T.g_is_count T.k_is_count pass0 (pa_cons (pv 1) pa_nil)))) (pw_or1 (pt_not (pt_val (pe_callR G_is_rank_list (hr.mono (by decide)) rfl T.g_is_rank_list T.k_is_rank_list pass0 (pa_cons (pv 2) pa_nil))))))) (pss_one ps_never) pss_nil)
      (pss_cons (ps_fld (pv 0) (pv 1) rfl)
      (pss_one (ps_fld (pv 0) (pe_callTy (tupleK K) (by rfl) T.b_tuple (by decide +kernel) (pa_cons (pv 2) pa_nil)) rfl)))), ?_⟩
    have kv : ∀ y ∈ L.map V.int, XT.KV K H y := fun y hy => by
      obtain ⟨i, _, rfl⟩ := List.mem_map.mp hy
      exact kv_int i
    refine ⟨_, rfl, _, rfl, kv_int z, _, rfl, iteN (by simp [cntV, ok.s0]) ?_⟩
    refine ⟨_, rfl, _, rfl, .inl ⟨L.map V.int, ⟨l, rfl, hS, kv, by rw [List.length_map]; exact hl⟩, fun H1 s1 => ⟨_, rfl, iteN (by rw [rnkL_of ok.asc ok.pos]; rfl) ?_⟩⟩⟩
    refine ⟨_, rfl, _, rfl, t, a.Table, dx, _, rfl, s1 _ _ ht, T.cl_T, T.n_start, (by show 0 < 1000; decide), ?_⟩
    have hto : ∀ b o, H b = some o → b ≠ t → (upd H1 t (.ins a.Table dx (putF "_start" (.int z) []))) b = some o := fun b o e hb => by
      rw [upd_ne hb]
      exact s1 b o e
    rcases hS with hS | hS
    · have hS2 : SqL K (upd H1 t (.ins a.Table dx (putF "_start" (.int z) []))) l (L.map V.int) := by
        rcases hS with (e | ⟨o, e⟩) | e
        · exact .inl (.inl (hto _ _ e (fun q => by rw [q, ht] at e; cases e)))
        · exact .inl (.inr ⟨o, hto _ _ e (fun q => by rw [q, ht] at e; cases e)⟩)
        · exact .inr e
      refine ⟨_, rfl, l, _, rfl, .inl ⟨hS2, fun q hq => ?_⟩⟩
      have nt : t ≠ q := fun z => by rw [← z, upd_same] at hq; cases hq
      refine ⟨_, rfl, t, a.Table, dx, _, rfl, by rw [upd_ne nt, upd_same], T.cl_T, T.n_lost, (by show 1 < 1000; decide), ?_⟩
      refine k _ ⟨dx, q, upd_same, SqT.of (by rw [upd_ne (Ne.symm nt), upd_same]), ok, hl⟩ fun b o e hb => ?_
      have nq : b ≠ q := fun z => by
        have := hto b o e hb
        rw [z, hq] at this
        cases this
      rw [upd_ne hb, upd_ne nq]
      exact hto b o e hb
    · have hS2 : SqT K (upd H1 t (.ins a.Table dx (putF "_start" (.int z) []))) l (L.map V.int) := by
        rcases hS with (e | ⟨o, e⟩) | e
        · exact .inl (.inl (hto _ _ e (fun q => by rw [q, ht] at e; cases e)))
        · exact .inl (.inr ⟨o, hto _ _ e (fun q => by rw [q, ht] at e; cases e)⟩)
        · exact .inr e
      refine ⟨_, rfl, l, _, rfl, .inr ⟨hS2, ?_⟩⟩
      refine ⟨_, rfl, t, a.Table, dx, _, rfl, upd_same, T.cl_T, T.n_lost, (by show 1 < 1000; decide), ?_⟩
      have hu : upd (upd H1 t (.ins a.Table dx (putF "_start" (.int z) []))) t (.ins a.Table dx (putF "_lost" (.ref l) (putF "_start" (.int z) []))) = upd H1 t (.ins a.Table dx (flds z l)) := upd_upd
      refine k _ ⟨dx, l, upd_same, ?_, ok, hl⟩ fun b o e hb => ?_
      · rcases hS with (e | ⟨o, e⟩) | e
        · exact .inl (.inl (by rw [upd_ne (fun q => by rw [q, ht] at e; cases e)]; exact hto _ _ e (fun q => by rw [q, ht] at e; cases e)))
        · exact .inl (.inr ⟨o, by rw [upd_ne (fun q => by rw [q, ht] at e; cases e)]; exact hto _ _ e (fun q => by rw [q, ht] at e; cases e)⟩)
        · exact .inr e
      · rw [upd_ne hb]
        exact hto b o e hb

theorem ok_Table_start (T : Txt K mg a) : FnR P w K mg base CX0 1 a.Table_start (spGet K a.Table (fun s _ => s)) := by
  obtain ⟨fd, F⟩ := T.F_Table_start
  refine XT.okR F sc_Table_start bn_Table_start (fun vs H Q E h => ?_) (fun cdv A outer s H vs Q E hr h => ?_)
  · obtain ⟨t, z, L, rfl, _⟩ := h
    rfl
  · obtain ⟨t, z, L, rfl, ⟨dx, la, ht, hS, ok, hl⟩, q⟩ := h
    exact ⟨_, (pss_one (ps_ret (fldK K (pv 0) rfl))), _, rfl, t, a.Table, dx, _, _, rfl, ht, T.cl_T, T.n_start, flds_start _ _, q⟩

theorem ok_Table_lost (T : Txt K mg a) : FnR P w K mg base CX0 1 a.Table_lost (spLost K a.Table) := by
  obtain ⟨fd, F⟩ := T.F_Table_lost
  refine XT.okR F sc_Table_lost bn_Table_lost (fun vs H Q E h => ?_) (fun cdv A outer s H vs Q E hr h => ?_)
  · obtain ⟨t, z, L, rfl, _⟩ := h
    rfl
  · obtain ⟨t, z, L, rfl, ⟨dx, la, ht, hS, ok, hl⟩, q⟩ := h
    exact ⟨_, (pss_one (ps_ret (fldK K (pv 0) rfl))), _, rfl, t, a.Table, dx, _, _, rfl, ht, T.cl_T, T.n_lost, flds_lost _ _, q la hS⟩

theorem ok_Table___call__ (T : Txt K mg a) : FnR P w K mg base CX0 3 a.Table___call__ (spCallT K a.Table) := by
  obtain ⟨fd, F⟩ := T.F_Table___call__
  refine XT.okR F sc_Table___call__ bn_Table___call__ (fun vs H Q E h => ?_) (fun cdv A outer s H vs Q E hr h => ?_)
  · obtain ⟨t, z, L, c, rfl, _⟩ := h
    rfl
  · obtain ⟨t, z, L, c, rfl, ⟨dx, la, ht, hS, ok, hl⟩, hc, q⟩ := h
    have G_is_count := ok_is_count (P := P) (w := w) (base := base) T
    have G_mapped := ok_mapped (P := P) (w := w) (base := base) T
    refine ⟨_, (pss_cons (ps_if (pt_not (pt_val (pe_callR G_is_count (hr.mono (by decide)) rfl T.g_is_count T.k_is_count pass0 (pa_cons (pv 1) pa_nil)))) (pss_one ps_never) pss_nil)
      (pss_one (ps_ret (pe_callR G_mapped (hr.mono (by decide)) rfl T.g_mapped T.k_mapped pass0 (pa_cons (fldK K (pv 0) rfl) (pa_cons (fldK K (pv 0) rfl) (pa_cons (pv 1) pa_nil))))))), ?_⟩
    refine ⟨_, rfl, _, rfl, kv_int c, _, rfl, iteN (by simp [cntV, hc]) ?_⟩
    exact ⟨_, rfl, t, a.Table, dx, _, _, rfl, ht, T.cl_T, T.n_start, flds_start _ _, _, rfl, t, a.Table, dx, _, _, rfl, ht, T.cl_T, T.n_lost, flds_lost _ _, _, rfl, z, c, la, L, rfl, hS, Tbl.asc_up ok.asc, q⟩

theorem ok_Table___eq__ (T : Txt K mg a) : FnR P w K mg base CX0 1 a.Table___eq__ (spEqT K a.Table) := by
  obtain ⟨fd, F⟩ := T.F_Table___eq__
  refine XT.okR F sc_Table___eq__ bn_Table___eq__ (fun vs H Q E h => ?_) (fun cdv A outer s H vs Q E hr h => ?_)
  · obtain ⟨t, u, z, L, z2, L2, rfl, _⟩ := h
    rfl
  · obtain ⟨t, u, z, L, z2, L2, rfl, ⟨dx, la, ht, hS, ok, hl⟩, ⟨dy, lb, hu, hS2, ok2, hl2⟩, q⟩ := h
    refine ⟨_, (pss_one (ps_ret (pe_and (pe_callB (C8.call_isC T.isi_T) (by rfl) T.b_isinstance (by decide +kernel) (pa_cons (pv 1) (pa_cons (pe_glob (v := .ref a.Table) (by rfl) T.g_Table rfl) pa_nil))) (pe_and (pe_cmpR op_eq (fldK K (pv 0) rfl) (fldK K (pv 1) rfl) (nomark _)) (pe_one (pe_cmpR (eqDK K hr.units) (fldK K (pv 0) rfl) (fldK K (pv 1) rfl) (nomark _))))))), ?_⟩
    refine ⟨_, rfl, u, dy, _, rfl, hu, _, rfl, iteT ?_⟩
    refine ⟨_, rfl, t, a.Table, dx, _, _, rfl, ht, T.cl_T, T.n_start, flds_start _ _, _, rfl, u, a.Table, dy, _, _, rfl, hu, T.cl_T, T.n_start, flds_start _ _, rfl, _, rfl, ite2 (fun h1 => ?_) (fun h1 => ?_)⟩
    · have e : z = z2 := by have := of_decide_eq_true h1; injection this
      refine ⟨_, rfl, t, a.Table, dx, _, _, rfl, ht, T.cl_T, T.n_lost, flds_lost _ _, _, rfl, u, a.Table, dy, _, _, rfl, hu, T.cl_T, T.n_lost, flds_lost _ _, _, _, dp_tup hS, dp_tup hS2, shaped_tup _, shaped_tup _, ?_⟩
      rw [eqv_tups]
      have e2 : decide (L = L2) = decide (z = z2 ∧ L = L2) := by simp [e]
      rw [e2]
      exact q
    · have e : ¬ z = z2 := fun x => h1 (by rw [x]; exact decide_eq_true rfl)
      have e2 : decide (z = z2 ∧ L = L2) = false := by simp [e]
      rw [e2] at q
      exact q

end
end K13
namespace K13
open PySem L2 XT
section
variable {P : Program} {w : World} {K : PySem.W.Frag} {mg : Str → Option Value} {base : Heap} {a : Ads}
local macro_rules | `(tactic| walk_at "rside") => `(tactic| first | (show (0 : Int) < _; first | decide | omega) | (exact ⟨by first | decide | omega, by first | decide | omega⟩) | (exact Or.inl ⟨by omega, by omega⟩) | (exact Or.inr ⟨by omega, by omega⟩) | (exact ⟨by decide, by decide, by decide⟩))
local macro_rules | `(tactic| walk_at "rd1") => `(tactic| first | (refine ⟨_, rfl, ?_⟩) | (refine ⟨_, _, rfl, rfl, (by walk_at "rside"), ?_⟩) | (refine ⟨_, _, rfl, rfl, ?_⟩))
local macro_rules | `(tactic| walk_at "rd") => `(tactic| repeat (walk_at "rd1"))

local macro_rules | `(tactic| walk_at "rside") => `(tactic| first | (show (0 : Int) < _; first | decide | omega) | (exact ⟨by first | decide | omega, by first | decide | omega⟩) | (exact Or.inl ⟨by omega, by omega⟩) | (exact Or.inr ⟨by omega, by omega⟩) | (exact ⟨by decide, by decide, by decide⟩))
local macro_rules | `(tactic| walk_at "rd1") => `(tactic| first | (refine ⟨_, rfl, ?_⟩) | (refine ⟨_, _, rfl, rfl, (by walk_at "rside"), ?_⟩) | (refine ⟨_, _, rfl, rfl, ?_⟩))
local macro_rules | `(tactic| walk_at "rd") => `(tactic| repeat (walk_at "rd1"))

/-- the law's pool: two numbers -/
def PoolAt (H : Hp) (p : Addr) : Prop := ∃ x y : Int, H p = some (.lst [.int x, .int y]) ∧ 0 ≤ x ∧ 0 ≤ y ∧ y < 2147483648
/-- all stays but what stands at p -/
def But (p : Addr) (H H' : Hp) : Prop := ∀ b o, b ≠ p → H b = some o → H' b = some o
theorem But.refl (p : Addr) (H : Hp) : But p H H := fun _ _ _ h => h
theorem But.trans {p : Addr} {H H1 H2 : Hp} (a : But p H H1) (b : But p H1 H2) : But p H H2 := fun c o n h => b c o n (a c o n h)
theorem but_same {p : Addr} {H H' : Hp} (h : Same H H') : But p H H' := fun b o _ e => h b o e
theorem but_upd {p : Addr} {H : Hp} {o : HO} : But p H (upd H p o) := fun b u n e => by
  rw [upd_ne n]
  exact e
/-- what is apart from p stays -/
theorem but_to {p : Addr} {H0 H H' : Hp} (s : Same H0 H) (n : H0 p = Option.none) (b : But p H H') : Same H0 H' := fun c o e => b c o (fun z => by rw [z, n] at e; cases e) (s c o e)
def spPool (K : PySem.W.Frag) : Sp := fun vs H Q _ => ∃ (sc : Addr) (ns : List Int) (k : Int), vs = [.ref sc, .int k] ∧ SqL K H sc (ns.map V.int) ∧ 0 ≤ k ∧ k ≤ 1000 ∧ ∀ p H', Same H H' → H p = Option.none → PoolAt H' p → Q (.ref p) H'
def spTake : Sp := fun vs H Q _ => ∃ (p : Addr) (m : Int), vs = [.ref p, .int m] ∧ PoolAt H p ∧ 0 < m ∧ m < 1000 ∧ ∀ r H', 0 ≤ r → r < m → But p H H' → PoolAt H' p → Q (.int r) H'
theorem ok_law_pool (T : Txt K mg a) : FnR P w K mg base CX0 1 a.law_pool (spPool K) := by
  obtain ⟨fd, F⟩ := T.F_law_pool
  refine XT.okR F sc_law_pool bn_law_pool (fun vs H Q E h => ?_) (fun cdv A outer s H vs Q E hr h => ?_)
  · obtain ⟨sc, ns, k, rfl, _⟩ := h
    rfl
  · obtain ⟨sc, ns, k, rfl, hS, k0, k1, q⟩ := h
    refine ⟨_, (pss_cons (ps_set (i := 2) sc_law_pool.nd rfl (Or.inl rfl) pe_int)
      (pss_cons (ps_if (pt_cmpR op_lt (pv 1) (pe_callB (lenK K) (by rfl) T.b_len (by decide +kernel) (pa_cons (pv 0) pa_nil)) (nomark _)) (pss_one (ps_set (i := 2) sc_law_pool.nd rfl (Or.inl rfl) (pe_callB call_abs (by rfl) T.b_abs (by decide +kernel) (pa_cons (pe_ix (ixLK K) (pv 0) (pv 1) (fun _ _ => rfl)) pa_nil)))) pss_nil)
      (pss_cons (ps_set (i := 3) sc_law_pool.nd rfl (Or.inl rfl) (pe_op op_mod (pe_op op_mul (pe_op op_add (pe_op op_add (pe_op op_add (pe_op op_mod (pv 2) pe_int) (pe_op op_mul (pe_op op_mul pe_int (pv 1)) (pv 1))) (pe_op op_mul pe_int (pv 1))) pe_int) pe_int) pe_int))
      (pss_one (ps_ret (pe_lst (pa_cons (pe_op op_mul (pv 2) (pe_callTy call_int1 (by rfl) T.b_int (by decide +kernel) (pa_cons (pe_cmpR op_ge (pv 2) (pe_op op_pow pe_int pe_int) (nomark _)) pa_nil))) (pa_cons (pe_op op_mod (pe_op op_mul (pv 3) (pv 3)) pe_int) pa_nil)))))))), ?_⟩
    refine ⟨_, rfl, _, rfl, sc, _, rfl, .inl hS, _, _, rfl, rfl, _, rfl, ite2 (fun h1 => ?_) (fun h1 => ?_)⟩
    · have h1' : k < ((ns.map V.int).length : Int) := of_decide_eq_true h1
      rw [List.length_map] at h1'
      obtain ⟨j, rfl⟩ : ∃ j : Nat, k = (j : Int) := ⟨k.toNat, by omega⟩
      have hj : j < ns.length := by omega
      have hg : (ns.map V.int)[j]? = some (V.int ns[j]) := by simp [hj]
      refine ⟨_, rfl, _, rfl, sc, _, _, _, rfl, rfl, hS, atI_nat hg, _, rfl, ?_⟩
      have hc : 0 ≤ (if ns[j] < 0 then -ns[j] else ns[j]) := by split <;> omega
      generalize (if ns[j] < 0 then -ns[j] else ns[j]) = c at hc ⊢
      walk_at "rd"
      refine .inr ⟨_, rfl, ?_⟩
      refine ⟨_, _, rfl, rfl, .inr (by split <;> omega), ?_⟩
      have hm : ∀ z : Int, 0 ≤ z % 2147483647 ∧ z % 2147483647 < 2147483647 := fun z => ⟨Int.emod_nonneg _ (by decide), Int.emod_lt_of_pos _ (by decide)⟩
      refine ⟨_, rfl, _, rfl, _, _, rfl, rfl, .inl ⟨by have := hm ((c % 2147483629 + 7919 * (j : Int) * (j : Int) + 31 * (j : Int) + 17) * 48271); omega, by have := hm ((c % 2147483629 + 7919 * (j : Int) * (j : Int) + 31 * (j : Int) + 17) * 48271); omega⟩, ?_⟩
      refine ⟨_, _, rfl, rfl, (by show (0 : Int) < _; decide), ?_⟩
      refine ⟨by show 2 ≤ sizeLine; decide, fun p hp => q p _ (same_new hp) hp ⟨_, _, upd_same, ?_, Int.emod_nonneg _ (by decide), Int.lt_trans (Int.emod_lt_of_pos _ (by decide)) (by decide)⟩⟩
      split <;> omega
    · walk_at "rd"
      refine .inr ⟨_, rfl, ?_⟩
      refine ⟨_, _, rfl, rfl, .inr (by split <;> omega), ?_⟩
      have hm : ∀ z : Int, 0 ≤ z % 2147483647 ∧ z % 2147483647 < 2147483647 := fun z => ⟨Int.emod_nonneg _ (by decide), Int.emod_lt_of_pos _ (by decide)⟩
      refine ⟨_, rfl, _, rfl, _, _, rfl, rfl, .inl ⟨by have := hm (((0 : Int) % 2147483629 + 7919 * k * k + 31 * k + 17) * 48271); omega, by have := hm (((0 : Int) % 2147483629 + 7919 * k * k + 31 * k + 17) * 48271); omega⟩, ?_⟩
      refine ⟨_, _, rfl, rfl, (by show (0 : Int) < _; decide), ?_⟩
      refine ⟨by show 2 ≤ sizeLine; decide, fun p hp => q p _ (same_new hp) hp ⟨_, _, upd_same, ?_, Int.emod_nonneg _ (by decide), Int.lt_trans (Int.emod_lt_of_pos _ (by decide)) (by decide)⟩⟩
      exact Int.le_of_eq (Int.zero_mul _).symm

theorem ok_law_take (T : Txt K mg a) : FnR P w K mg base CX0 1 a.law_take (spTake) := by
  obtain ⟨fd, F⟩ := T.F_law_take
  refine XT.okR F sc_law_take bn_law_take (fun vs H Q E h => ?_) (fun cdv A outer s H vs Q E hr h => ?_)
  · obtain ⟨p, m, rfl, _⟩ := h
    rfl
  · obtain ⟨p, m, rfl, ⟨x, y, hp, hx, hy, hy2⟩, hm0, hm1, k⟩ := h
    refine ⟨_, (pss_cons (ps_if (pt_cmpR op_gt (pe_ix (ixLK K) (pv 0) pe_int (fun _ _ => rfl)) pe_int (nomark _)) (pss_cons (ps_set (i := 2) sc_law_take.nd rfl (Or.inl rfl) (pe_op op_mod (pe_ix (ixLK K) (pv 0) pe_int (fun _ _ => rfl)) (pv 1)))
      (pss_cons (ps_asg (pe_op op_fdiv (pe_ix (ixLK K) (pv 0) pe_int (fun _ _ => rfl)) (pv 1)) (pg_sub (pv 0) pe_int set_list))
      (pss_one (ps_ret (pv 2))))) pss_nil)
      (pss_cons (ps_asg (pe_op op_mod (pe_op op_add (pe_op op_mul (pe_ix (ixLK K) (pv 0) pe_int (fun _ _ => rfl)) pe_int) pe_int) pe_int) (pg_sub (pv 0) pe_int set_list))
      (pss_one (ps_ret (pe_op op_mod (pe_op op_fdiv (pe_op op_mod (pe_op op_mul (pe_ix (ixLK K) (pv 0) pe_int (fun _ _ => rfl)) (pe_ix (ixLK K) (pv 0) pe_int (fun _ _ => rfl))) pe_int) pe_int) (pv 1)))))), ?_⟩
    have g0 : ([V.int x, V.int y] : List V)[0]? = some (V.int x) := rfl
    have g1 : ([V.int x, V.int y] : List V)[1]? = some (V.int y) := rfl
    refine ⟨_, rfl, p, _, 0, _, rfl, rfl, SqL.of hp, atI_nat (j := 0) g0, _, _, rfl, rfl, _, rfl, ite2 (fun h1 => ?_) (fun h1 => ?_)⟩
    · have h1' := of_decide_eq_true h1
      refine ⟨_, rfl, p, _, 0, _, rfl, rfl, SqL.of hp, atI_nat (j := 0) g0, _, rfl, _, _, rfl, rfl, hm0, ?_⟩
      refine ⟨_, rfl, p, _, 0, _, rfl, rfl, SqL.of hp, atI_nat (j := 0) g0, _, rfl, _, _, rfl, rfl, ⟨hm0, by omega⟩, ?_⟩
      refine ⟨_, rfl, p, _, 0, 0, rfl, rfl, hp, rfl, ?_⟩
      refine ⟨_, rfl, k _ _ (Int.emod_nonneg _ (by omega)) (Int.emod_lt_of_pos _ hm0) but_upd ⟨x / m, y, upd_same, Int.ediv_nonneg hx (by omega), hy, hy2⟩⟩
    · refine ⟨_, rfl, p, _, 1, _, rfl, rfl, SqL.of hp, atI_nat (j := 1) g1, _, _, rfl, rfl, .inr ⟨by decide, by decide⟩, _, _, rfl, rfl, _, _, rfl, rfl, (by show (0 : Int) < _; decide), ?_⟩
      refine ⟨_, rfl, p, _, 1, 1, rfl, rfl, hp, rfl, ?_⟩
      have hz0 : 0 ≤ (y * 48271 + 12345) % 2147483647 := Int.emod_nonneg _ (by decide)
      have hz1 : (y * 48271 + 12345) % 2147483647 < 2147483647 := Int.emod_lt_of_pos _ (by decide)
      have g2 : ([V.int x, V.int ((y * 48271 + 12345) % 2147483647)] : List V)[1]? = some (V.int ((y * 48271 + 12345) % 2147483647)) := rfl
      have hs : (upd H p (.lst ([V.int x, V.int y].set 1 (V.int ((y * 48271 + 12345) % 2147483647))))) p = some (.lst [V.int x, V.int ((y * 48271 + 12345) % 2147483647)]) := upd_same
      refine ⟨_, rfl, p, _, 1, _, rfl, rfl, SqL.of hs, atI_nat (j := 1) g2, _, rfl, p, _, 1, _, rfl, rfl, SqL.of hs, atI_nat (j := 1) g2, _, _, rfl, rfl, .inl ⟨by omega, by omega⟩, _, _, rfl, rfl, (by show (0 : Int) < _; decide), _, _, rfl, rfl, ⟨by decide, by decide⟩, _, rfl, _, _, rfl, rfl, hm0, ?_⟩
      exact k _ _ (Int.emod_nonneg _ (by omega)) (Int.emod_lt_of_pos _ hm0) but_upd ⟨x, _, hs, hx, hz0, by omega⟩

end
end K13
namespace K13
open PySem L2 XT
section
variable {P : Program} {w : World} {K : PySem.W.Frag} {mg : Str → Option Value} {base : Heap} {a : Ads}
local macro_rules | `(tactic| walk_at "rside") => `(tactic| first | (show (0 : Int) < _; first | decide | omega) | (exact ⟨by first | decide | omega, by first | decide | omega⟩) | (exact Or.inl ⟨by omega, by omega⟩) | (exact Or.inr ⟨by omega, by omega⟩) | (exact ⟨by decide, by decide, by decide⟩))
local macro_rules | `(tactic| walk_at "rd1") => `(tactic| first | (refine ⟨_, rfl, ?_⟩) | (refine ⟨_, _, rfl, rfl, (by walk_at "rside"), ?_⟩) | (refine ⟨_, _, rfl, rfl, ?_⟩))
local macro_rules | `(tactic| walk_at "rd") => `(tactic| repeat (walk_at "rd1"))

theorem tab_mk {C : Addr} {H1 : Hp} {l x dx : Addr} {s : Int} {L : List Int} {Q : VK} {E : XK} (nx : H1 x = Option.none) (ndx : H1 dx = Option.none) (ne : dx ≠ x) (hS : SqL K H1 l (L.map V.int) ∨ SqT K H1 l (L.map V.int)) (ok : Tbl.Ok s L) (hl : L.length ≤ 100000)
    (k : ∀ H', Same H1 H' → TabAt K C H' x s L → Q .non H') : spTab0 K C [.ref x, .int s, .ref l] (upd (upd H1 dx (.own x)) x (.ins C dx [])) Q E := by
  have s1 : Same H1 (upd (upd H1 dx (.own x)) x (.ins C dx [])) := same_upd (same_new ndx) nx
  exact ⟨x, dx, l, s, L, rfl, upd_same, hS.imp (fun h => s1.seq h) (fun h => same_seqT s1 h), ok, hl, fun H' T kp => k H' (fun b o e => kp b o (s1 b o e) (fun q => by rw [q, nx] at e; cases e)) T⟩
/-- tables in a row -/
def TbR (K : PySem.W.Frag) (C : Addr) (H : Hp) (x : V) (p : Int × List Int) : Prop := ∃ t, x = .ref t ∧ TabAt K C H t p.1 p.2
abbrev TbsAt (K : PySem.W.Frag) (C : Addr) (H : Hp) : List V → List (Int × List Int) → Prop := Paired (TbR K C H)
theorem tbs_same {C : Addr} {H H' : Hp} {ts : List V} {Ts : List (Int × List Int)} (h : TbsAt K C H ts Ts) (s : Same H H') : TbsAt K C H' ts Ts := L2.Paired.mapP h fun _ _ ⟨t, e, z⟩ => ⟨t, e, z.same s⟩
theorem flds_ne (s : Int) (la : Addr) : flds s la ≠ [] := fun e => by
  have := flds_start s la
  rw [e] at this
  cases this
theorem but_seqT {H H' : Hp} {e p C dx : Addr} {fs : List (Str × V)} {xs : List V} (he : H e = some (.ins C dx fs)) (b : But e H H') (h : SqT K H p xs) : SqT K H' p xs := by
  rcases h with (h | ⟨o, h⟩) | h
  · exact .inl (.inl (b _ _ (fun q => by rw [q, he] at h; cases h) h))
  · exact .inl (.inr ⟨o, b _ _ (fun q => by rw [q, he] at h; cases h) h⟩)
  · exact .inr h
theorem but_seqL {H H' : Hp} {e p C dx : Addr} {fs : List (Str × V)} {xs : List V} (he : H e = some (.ins C dx fs)) (b : But e H H') (h : SqL K H p xs) : SqL K H' p xs := by
  rcases h with (h | ⟨o, h⟩) | h
  · exact .inl (.inl (b _ _ (fun q => by rw [q, he] at h; cases h) h))
  · exact .inl (.inr ⟨o, b _ _ (fun q => by rw [q, he] at h; cases h) h⟩)
  · exact .inr h
theorem tab_but {H H' : Hp} {e C2 dx C t : Addr} {z : Int} {L : List Int} (he : H e = some (.ins C2 dx [])) (b : But e H H') (h : TabAt K C H t z L) : TabAt K C H' t z L := by
  obtain ⟨dy, la, ht, hS, ok, hl⟩ := h
  refine ⟨dy, la, b _ _ (fun q => ?_) ht, but_seqT he b hS, ok, hl⟩
  rw [q, he] at ht
  injection ht with ht
  injection ht with _ _ ht
  exact flds_ne _ _ ht.symm
theorem tbs_but {H H' : Hp} {e C2 dx C : Addr} {ts : List V} {Ts : List (Int × List Int)} (he : H e = some (.ins C2 dx [])) (b : But e H H') (h : TbsAt K C H ts Ts) : TbsAt K C H' ts Ts := L2.Paired.mapP h fun _ _ ⟨t, x, z⟩ => ⟨t, x, tab_but he b z⟩
/-- a list changed leaves tables as they are -/
theorem tab_lst {H : Hp} {D C t : Addr} {xs ys : List V} {z : Int} {L : List Int} (hD : H D = some (.lst xs)) (h : TabAt K C H t z L) : TabAt K C (upd H D (.lst ys)) t z L := by
  obtain ⟨dy, la, ht, hS, ok, hl⟩ := h
  refine ⟨dy, la, by rw [upd_ne (fun q => by rw [q, hD] at ht; cases ht)]; exact ht, ?_, ok, hl⟩
  rcases hS with (h | ⟨o, h⟩) | h
  · exact .inl (.inl (by rw [upd_ne (fun q => by rw [q, hD] at h; cases h)]; exact h))
  · exact .inl (.inr ⟨o, by rw [upd_ne (fun q => by rw [q, hD] at h; cases h)]; exact h⟩)
  · exact .inr h
def DTab (K : PySem.W.Frag) (C : Addr) : EqvB := fun x y H b => ∃ t u s L s2 M2, x = .ref t ∧ y = .ref u ∧ TabAt K C H t s L ∧ TabAt K C H u s2 M2 ∧ b = decide (s = s2 ∧ L = M2)
theorem monB_tab {C : Addr} : MonB (DTab K C) := fun x y H H' b e d => by
  obtain ⟨t, u, z, L, z2, M2, h1, h2, h3, h4, h5⟩ := d
  exact ⟨t, u, z, L, z2, M2, h1, h2, h3.same e, h4.same e, h5⟩
theorem eqB_tabX {X : Cx} {CX : CXT} {n : Nat} {C f : Addr} {E : XK} (F : FnR X.prog X.w X.K X.mg X.base CX n f (spEqT X.K C)) (hs : PySem.W.findIn X.K (.ref C) "__eq__" = some (some (.ref f))) (hf : PySem.W.isFn X.K (.ref f) = true) (hx : Passes CX X E) : EqB X n (DTab X.K C) := by
  refine RcB.eqB (rcB_own F hs hf hx fun x y H b d => ?_) (fun x y H b d => ?_) fun pins s σ H a b I d => ?_
  · obtain ⟨t, u, z, L, z2, M2, rfl, rfl, h3, h4, h5⟩ := d
    exact ⟨t, u, rfl, rfl, h3.insA, h4.insA, t, u, z, L, z2, M2, rfl, h3, h4, by rw [h5], L2.Ext.rfl'⟩
  · obtain ⟨t, u, z, L, z2, M2, rfl, rfl, _⟩ := d
    exact ⟨t, u, rfl, rfl⟩
  · obtain ⟨t, u, z, L, z2, M2, e1, e2, h3, h4, h5⟩ := d
    cases e1
    cases e2
    obtain ⟨dy, la, ht, hS, _⟩ := h3
    obtain ⟨dz, lb, hu, hS2, _⟩ := h4
    rw [ht] at hu
    injection hu with hu
    injection hu with _ _ hu
    have q1 := congrArg (fun l => l.lookup ("_start" : Str)) hu
    have q2 := congrArg (fun l => l.lookup ("_lost" : Str)) hu
    simp only [flds_start, flds_lost] at q1 q2
    injection q1 with q1
    injection q1 with q1
    injection q2 with q2
    injection q2 with q2
    subst q1
    subst q2
    have := seqT_inj I hS hS2
    rw [h5, this]
    simp
theorem rcB_tabX {X : Cx} {CX : CXT} {n : Nat} {C f : Addr} {E : XK} (F : FnR X.prog X.w X.K X.mg X.base CX n f (spEqT X.K C)) (hs : PySem.W.findIn X.K (.ref C) "__eq__" = some (some (.ref f))) (hf : PySem.W.isFn X.K (.ref f) = true) (hx : Passes CX X E) : RcB X (n + 1) (DTupB X.K (DTab X.K C)) :=
  rcB_tup monB_tab (eqB_tabX F hs hf hx)
def efl (p q : Addr) : List (Str × V) := putF "_tables" (.ref q) (putF "_breaks" (.ref p) [])
theorem ne_bt : ¬ (("_breaks" : Str) = "_tables") := by decide +kernel
theorem ne_tb : ¬ (("_tables" : Str) = "_breaks") := by decide +kernel
theorem efl_breaks (p q : Addr) : (efl p q).lookup ("_breaks" : Str) = some (.ref p) := by
  unfold efl
  rw [lookup_putF, if_neg ne_bt, lookup_putF, if_pos rfl]
theorem efl_tables (p q : Addr) : (efl p q).lookup ("_tables" : Str) = some (.ref q) := by
  unfold efl
  rw [lookup_putF, if_pos rfl]
theorem efl_no (p q : Addr) {m : Str} (h1 : ¬ m = "_tables") (h2 : ¬ m = "_breaks") : (efl p q).lookup m = none := by
  unfold efl
  rw [lookup_putF, if_neg h1, lookup_putF, if_neg h2]
  all_goals rfl
/-- the effect of the steps S stands at e -/
def EffAt (K : PySem.W.Frag) (CE CT : Addr) (H : Hp) (e : Addr) (S : List Stp) : Prop := ∃ dx p q B ts, H e = some (.ins CE dx (efl p q)) ∧ SqT K H p (B.map V.int) ∧ SqT K H q ts ∧ TbsAt K CT H ts (Eff.tbs S B) ∧ Eff.Brk S B ∧ (∀ s ∈ S, goodS s = true) ∧ S.length ≤ 20000 ∧ B.length ≤ 20000
theorem EffAt.same {CE CT : Addr} {H H' : Hp} {e : Addr} {S : List Stp} (h : EffAt K CE CT H e S) (s : Same H H') : EffAt K CE CT H' e S :=
  let ⟨dx, p, q, B, ts, a, b, c, d, r⟩ := h
  ⟨dx, p, q, B, ts, s _ _ a, same_seqT s b, same_seqT s c, tbs_same d s, r⟩
theorem EffAt.insA {CE CT : Addr} {H : Hp} {e : Addr} {S : List Stp} (h : EffAt K CE CT H e S) : InsA H e CE := let ⟨dx, p, q, B, ts, a, _⟩ := h; ⟨dx, _, a⟩
theorem EffAt.ins {CE CT : Addr} {H : Hp} {e : Addr} {S : List Stp} (h : EffAt K CE CT H e S) : ∃ dx p q, H e = some (.ins CE dx (efl p q)) := let ⟨dx, p, q, B, ts, a, _⟩ := h; ⟨dx, p, q, a⟩
theorem EffAt.insC {X : Cx} {CE CT : Addr} {H : Hp} {e : Addr} {S : List Stp} (h : EffAt K CE CT H e S) : StX.InsC X H e CE := let ⟨dx, p, q, B, ts, a, _⟩ := h; .inr ⟨dx, _, a⟩
theorem EffAt.good {CE CT : Addr} {H : Hp} {e : Addr} {S : List Stp} (h : EffAt K CE CT H e S) : ∀ s ∈ S, goodS s = true := let ⟨_, _, _, _, _, _, _, _, _, _, g, _⟩ := h; g
/-- below_all -/
def spBelow (K : PySem.W.Frag) : Sp := fun vs H Q _ => ∃ p B, vs = [.ref p] ∧ SqL K H p (B.map V.int) ∧ Q (.int (Eff.low B)) H
theorem ok_below_all (T : Txt K mg a) : FnR P w K mg base CX0 1 a.below_all (spBelow K) := by
  obtain ⟨fd, F⟩ := T.F_below_all
  refine XT.okR F sc_below_all bn_below_all (fun vs H Q E h => ?_) (fun cdv A outer s H vs Q E hr h => ?_)
  · obtain ⟨p, B, rfl, _⟩ := h
    rfl
  · obtain ⟨p, B, rfl, hS, q⟩ := h
    refine ⟨_, (pss_one (ps_ret (pe_ifExp (pt_truth (pv 0) (fun _ => rfl)) (pe_op op_sub (pe_ix (ixLK K) (pv 0) pe_int (fun _ _ => rfl)) pe_int) pe_int))), ?_⟩
    refine ⟨_, rfl, _, .inl ⟨_, hS, rfl⟩, ?_⟩
    cases B with
    | nil => exact iteN rfl q
    | cons b B =>
      refine iteH rfl ?_
      exact ⟨_, rfl, p, _, 0, .int b, rfl, rfl, hS, atI_nat (j := 0) rfl, _, _, rfl, rfl, q⟩

/-- table_at -/
def spTabAt (K : PySem.W.Frag) : Sp := fun vs H Q _ => ∃ p q t B ts x, vs = [.ref p, .ref q, .int t] ∧ SqT K H p (B.map V.int) ∧ Tbl.Asc B ∧ SqT K H q ts ∧ ts[(Tbl.cnt B t).toNat]? = some x ∧ Q x H
theorem ok_table_at (T : Txt K mg a) : FnR P w K mg base CX0 2 a.table_at (spTabAt K) := by
  obtain ⟨fd, F⟩ := T.F_table_at
  refine XT.okR F sc_table_at bn_table_at (fun vs H Q E h => ?_) (fun cdv A outer s H vs Q E hr h => ?_)
  · obtain ⟨p, q, t, B, ts, x, rfl, _⟩ := h
    rfl
  · obtain ⟨p, q, t, B, ts, x, rfl, hp, ha, hq, hx, k⟩ := h
    have G_how_many_up_to := ok_how_many_up_to (P := P) (w := w) (base := base) T
    refine ⟨_, (pss_one (ps_ret (pe_ix (ixTK K) (pv 1) (pe_callR G_how_many_up_to (hr.mono (by decide)) rfl T.g_how_many_up_to T.k_how_many_up_to pass0 (pa_cons (pv 0) (pa_cons (pv 2) pa_nil))) (fun _ _ => rfl)))), ?_⟩
    have e : Tbl.cnt B t = (((Tbl.cnt B t).toNat : Nat) : Int) := by have := Tbl.cnt_nn B t; omega
    exact ⟨_, rfl, _, rfl, _, rfl, p, t, B, rfl, .inr hp, Tbl.asc_up ha, q, _, _, x, rfl, rfl, hq, at_of e hx, k⟩

/-- table_of -/
def spTabOf (K : PySem.W.Frag) (CT : Addr) : Sp := fun vs H Q _ => ∃ p t xs S, vs = [.ref p, .int t] ∧ SqT K H p xs ∧ StsAt K H xs S ∧ (∀ s ∈ S, goodS s = true) ∧ S.length ≤ 20000 ∧ ∀ r H', Same H H' → H r = Option.none → TabAt K CT H' r (Eff.tb t S).1 (Eff.tb t S).2 → Q (.ref r) H'
theorem wrd_ins (b : Bool) : decide (V.str (wrd b) = V.str "insert") = b := by cases b <;> decide +kernel
theorem ok_table_of (T : Txt K mg a) : FnR P w K mg base CX0 8 a.table_of (spTabOf K a.Table) := by
  obtain ⟨fd, F⟩ := T.F_table_of
  refine XT.okR F sc_table_of bn_table_of (fun vs H Q E h => ?_) (fun cdv A outer s H vs Q E hr h => ?_)
  · obtain ⟨p, t, xs, S, rfl, _⟩ := h
    rfl
  · obtain ⟨p, t, xs, S, rfl, hS, hL, hg, hz, k⟩ := h
    have G_kept_rank := ok_kept_rank (P := P) (w := w) (base := base) T
    have G_Table_init := ok_Table___init__ (P := P) (w := w) (base := base) T
    refine ⟨_, (pss_cons (ps_set (i := 2) sc_table_of.nd rfl (Or.inl rfl) pe_int)
      (pss_cons (ps_set (i := 3) sc_table_of.nd rfl (Or.inl rfl) (pe_lst pa_nil))
      (pss_cons (ps_for PassesOwn.never rfl (pi_tup (pv 0)) (tupK K (n := 2) (by rfl) (pgs_cons (pg_name (i := 4) sc_table_of.nd rfl (Or.inl rfl)) (pgs_cons (pg_name (i := 5) sc_table_of.nd rfl (Or.inl rfl)) pgs_nil)))
        (pss_one (ps_if (pt_cmpR op_eq (pv 4) pe_str (nomark _)) (pss_one (ps_if (pt_cmpR op_le (pv 5) (pv 1) (nomark _)) (pss_one (ps_set (i := 2) sc_table_of.nd rfl (Or.inl rfl) (pe_op op_add (pv 2) pe_int))) pss_nil)) (pss_one (ps_if (pt_cmpR op_le (pv 5) (pv 2) (nomark _)) (pss_one (ps_set (i := 2) sc_table_of.nd rfl (Or.inl rfl) (pe_op op_sub (pv 2) pe_int))) (pss_cons (ps_set (i := 6) sc_table_of.nd rfl (Or.inl rfl) (pe_op op_sub (pv 5) (pv 2)))
      (pss_cons (ps_set (i := 7) sc_table_of.nd rfl (Or.inl rfl) (pe_callR G_kept_rank (hr.mono (by decide)) rfl T.g_kept_rank T.k_kept_rank pass0 (pa_cons (pv 3) (pa_cons (pv 6) pa_nil))))
      (pss_cons (ps_set (i := 8) sc_table_of.nd rfl (Or.inl rfl) (pe_op op_sub (pv 7) (pv 6)))
      (pss_one (ps_asg (pe_lst (pa_cons (pv 7) pa_nil)) (pg_slice (pv 3) (po_some (pv 8)) (po_some (pv 8)))))))))))))
      (pss_one (ps_ret (StX.pe_makeR T.M_Table G_Table_init (hr.mono (by decide)) rfl T.g_Table pass0 (pa_cons (pv 2) (pa_cons (pv 3) pa_nil)))))))), ?_⟩
    refine ⟨Nat.zero_le _, fun l hl => ?_⟩
    have s0 : Same H (upd H l (.lst [])) := same_new hl
    refine ⟨_, rfl, p, rfl, ⟨_, same_seqT s0 hS⟩, for_tup (K := K) (a := p) (xs := xs) (fun i σ H' => ∃ wv nv pv rv bv, σ = [some (.ref p), some (.int t), some (.int (Eff.tb t (S.take i)).1), some (.ref l), wv, nv, pv, rv, bv] ∧ Same H H' ∧ H' l = some (.lst ((Eff.tb t (S.take i)).2.map V.int)))
      ⟨_, _, _, _, _, rfl, s0, upd_same⟩ (fun i σ H' _ ⟨_, _, _, _, _, _, s, _⟩ => same_seqT s hS) ?_ ?_⟩
    · rintro i x σ H' hx ⟨wv, nv, pv, rv, bv, rfl, s, hl'⟩
      obtain ⟨st, hst, r, rfl, hr⟩ := pd_get hL hx
      have gst := hg st (List.mem_of_getElem? hst)
      have et : S.take (i + 1) = S.take i ++ [st] := by rw [List.take_add_one, hst]; rfl
      have gi : ∀ s ∈ S.take i, goodS s = true := fun s hs => hg s (List.mem_of_mem_take hs)
      have ok := Eff.tb_ok (t := t) gi
      have len := Eff.tb_len t (S.take i)
      rw [List.length_take] at len
      have eb := Eff.tb_snoc t (S.take i) st
      obtain ⟨b, n⟩ := st
      have fin : ∀ (z' : Int) (L' : List Int) (H2 : Hp) (wv nv pv rv bv : Option V), Eff.tb t (S.take (i + 1)) = (z', L') → Same H H2 → H2 l = some (.lst (L'.map V.int)) →
          ∃ wv' nv' pv' rv' bv', [some (V.ref p), some (V.int t), some (V.int z'), some (V.ref l), wv, nv, pv, rv, bv] = [some (V.ref p), some (V.int t), some (V.int (Eff.tb t (S.take (i + 1))).1), some (V.ref l), wv', nv', pv', rv', bv'] ∧ Same H H2 ∧ H2 l = some (.lst ((Eff.tb t (S.take (i + 1))).2.map V.int)) :=
        fun z' L' H2 wv nv pv rv bv e s h => ⟨wv, nv, pv, rv, bv, by rw [e], s, by rw [e]; exact h⟩
      refine ⟨r, _, rfl, same_seqT s hr, rfl, _, _, rfl, _, _, rfl, rfl, ?_⟩
      refine ⟨_, rfl, rfl, _, rfl, ?_⟩
      rw [wrd_ins]
      generalize hp : Eff.tb t (S.take i) = z at eb ok len hl'
      obtain ⟨z, L⟩ := z
      cases b with
      | true =>
        refine iteH rfl ?_
        refine ⟨_, rfl, _, rfl, _, _, rfl, rfl, _, rfl, ite2 (fun h1 => ?_) (fun h1 => ?_)⟩
        · have h1' : n ≤ t := of_decide_eq_true h1
          have e : Eff.tb t (S.take (i + 1)) = (z + 1, L) := by rw [et, eb]; unfold Eff.tstep; rw [if_pos rfl, if_pos h1']
          refine ⟨_, rfl, _, _, rfl, rfl, ?_⟩
          exact fin (z + 1) L H' _ _ _ _ _ e s hl'
        · have h1' : ¬ n ≤ t := of_decide_eq_false ((Bool.not_eq_true _).mp h1)
          have e : Eff.tb t (S.take (i + 1)) = (z, L) := by rw [et, eb]; unfold Eff.tstep; rw [if_pos rfl, if_neg h1']
          exact fin z L H' _ _ _ _ _ e s hl'
      | false =>
        refine iteN rfl ?_
        refine ⟨_, rfl, _, rfl, _, _, rfl, rfl, _, rfl, ite2 (fun h1 => ?_) (fun h1 => ?_)⟩
        · have h1' : n ≤ z := of_decide_eq_true h1
          have e : Eff.tb t (S.take (i + 1)) = (z - 1, L) := by rw [et, eb]; unfold Eff.tstep; rw [if_neg (by simp), if_pos h1']
          refine ⟨_, rfl, _, _, rfl, rfl, ?_⟩
          exact fin (z - 1) L H' _ _ _ _ _ e s hl'
        · have h1' : ¬ n ≤ z := of_decide_eq_false ((Bool.not_eq_true _).mp h1)
          have e : Eff.tb t (S.take (i + 1)) = (z, Eff.insAt L (Tbl.kr L (n - z) - (n - z)) (Tbl.kr L (n - z))) := by rw [et, eb]; unfold Eff.tstep; rw [if_neg (by simp), if_neg h1']
          have kp : Tbl.kr L (n - z) - (n - z) = Tbl.cnt L (Tbl.kr L (n - z)) := Eff.kr_place ok.asc (n - z)
          have c0 := Tbl.cnt_nn L (Tbl.kr L (n - z))
          have c1 := Tbl.cnt_le_len L (Tbl.kr L (n - z))
          have len' : L.length ≤ 20000 := by simp only at len; omega
          refine ⟨_, rfl, _, rfl, _, _, rfl, rfl, ?_⟩
          refine ⟨_, rfl, _, rfl, l, n - z, L, rfl, .inl (SqL.of hl'), ok.asc, ?_⟩
          refine ⟨_, rfl, _, rfl, _, _, rfl, rfl, ?_⟩
          refine ⟨_, rfl, Nat.le_trans (by show 1 ≤ 100000; decide) line_ge, fun q hq => ?_⟩
          have nlq : l ≠ q := fun x => by rw [x, hq] at hl'; cases hl'
          refine ⟨_, rfl, _, rfl, _, rfl, _, rfl, _, rfl, l, q, _, _, _, _, rfl, rfl, rfl, rfl, (upd_ne nlq).trans hl', upd_same, nlq, by omega, Int.le_refl _, by rw [List.length_map]; show _ ≤ ((L.length : Nat) : Int); omega, Nat.le_trans (by rw [List.length_map]; show L.length + 1 ≤ 100000; omega) line_ge, ?_⟩
          refine fin z _ _ _ _ _ _ _ e (same_upd (s.trans (same_new hq)) hl) ?_
          rw [upd_same]
          unfold Eff.insAt
          rw [List.map_append, List.map_append, List.map_take, List.map_drop]
          rfl
    · rintro σ H' ⟨wv, nv, pv, rv, bv, rfl, s, hl'⟩
      rw [hL.length, List.take_length] at hl' ⊢
      have len := Eff.tb_len t S
      refine ⟨_, rfl, _, rfl, ?_⟩
      exact tab_made (.inl (SqL.of hl')) (Eff.tb_ok hg) (by omega) fun r H2 s2 nr tb => k r H2 (s.trans s2) (s.free nr) tb

def spTabOfL (K : PySem.W.Frag) (CT : Addr) : Sp := fun vs H Q _ => ∃ p t xs S, vs = [.ref p, .int t] ∧ SqL K H p xs ∧ StsAt K H xs S ∧ (∀ s ∈ S, goodS s = true) ∧ S.length ≤ 20000 ∧ ∀ r H', Same H H' → H r = Option.none → TabAt K CT H' r (Eff.tb t S).1 (Eff.tb t S).2 → Q (.ref r) H'
theorem okL_table_of (T : Txt K mg a) : FnR P w K mg base CX0 8 a.table_of (spTabOfL K a.Table) := by
  obtain ⟨fd, F⟩ := T.F_table_of
  refine XT.okR F sc_table_of bn_table_of (fun vs H Q E h => ?_) (fun cdv A outer s H vs Q E hr h => ?_)
  · obtain ⟨p, t, xs, S, rfl, _⟩ := h
    rfl
  · obtain ⟨p, t, xs, S, rfl, hS, hL, hg, hz, k⟩ := h
    have G_kept_rank := ok_kept_rank (P := P) (w := w) (base := base) T
    have G_Table_init := ok_Table___init__ (P := P) (w := w) (base := base) T
    refine ⟨_, (pss_cons (ps_set (i := 2) sc_table_of.nd rfl (Or.inl rfl) pe_int)
      (pss_cons (ps_set (i := 3) sc_table_of.nd rfl (Or.inl rfl) (pe_lst pa_nil))
      (pss_cons (ps_for PassesOwn.never rfl (pi_list (pv 0)) (tupK K (n := 2) (by rfl) (pgs_cons (pg_name (i := 4) sc_table_of.nd rfl (Or.inl rfl)) (pgs_cons (pg_name (i := 5) sc_table_of.nd rfl (Or.inl rfl)) pgs_nil)))
        (pss_one (ps_if (pt_cmpR op_eq (pv 4) pe_str (nomark _)) (pss_one (ps_if (pt_cmpR op_le (pv 5) (pv 1) (nomark _)) (pss_one (ps_set (i := 2) sc_table_of.nd rfl (Or.inl rfl) (pe_op op_add (pv 2) pe_int))) pss_nil)) (pss_one (ps_if (pt_cmpR op_le (pv 5) (pv 2) (nomark _)) (pss_one (ps_set (i := 2) sc_table_of.nd rfl (Or.inl rfl) (pe_op op_sub (pv 2) pe_int))) (pss_cons (ps_set (i := 6) sc_table_of.nd rfl (Or.inl rfl) (pe_op op_sub (pv 5) (pv 2)))
      (pss_cons (ps_set (i := 7) sc_table_of.nd rfl (Or.inl rfl) (pe_callR G_kept_rank (hr.mono (by decide)) rfl T.g_kept_rank T.k_kept_rank pass0 (pa_cons (pv 3) (pa_cons (pv 6) pa_nil))))
      (pss_cons (ps_set (i := 8) sc_table_of.nd rfl (Or.inl rfl) (pe_op op_sub (pv 7) (pv 6)))
      (pss_one (ps_asg (pe_lst (pa_cons (pv 7) pa_nil)) (pg_slice (pv 3) (po_some (pv 8)) (po_some (pv 8)))))))))))))
      (pss_one (ps_ret (StX.pe_makeR T.M_Table G_Table_init (hr.mono (by decide)) rfl T.g_Table pass0 (pa_cons (pv 2) (pa_cons (pv 3) pa_nil)))))))), ?_⟩
    refine ⟨Nat.zero_le _, fun l hl => ?_⟩
    have s0 : Same H (upd H l (.lst [])) := same_new hl
    refine ⟨_, rfl, p, rfl, ⟨_, s0.seq hS⟩, for_list (K := K) (a := p) (xs := xs) (fun i σ H' => ∃ wv nv pv rv bv, σ = [some (.ref p), some (.int t), some (.int (Eff.tb t (S.take i)).1), some (.ref l), wv, nv, pv, rv, bv] ∧ Same H H' ∧ H' l = some (.lst ((Eff.tb t (S.take i)).2.map V.int)))
      ⟨_, _, _, _, _, rfl, s0, upd_same⟩ (fun i σ H' _ ⟨_, _, _, _, _, _, s, _⟩ => s.seq hS) ?_ ?_⟩
    · rintro i x σ H' hx ⟨wv, nv, pv, rv, bv, rfl, s, hl'⟩
      obtain ⟨st, hst, r, rfl, hr⟩ := pd_get hL hx
      have gst := hg st (List.mem_of_getElem? hst)
      have et : S.take (i + 1) = S.take i ++ [st] := by rw [List.take_add_one, hst]; rfl
      have gi : ∀ s ∈ S.take i, goodS s = true := fun s hs => hg s (List.mem_of_mem_take hs)
      have ok := Eff.tb_ok (t := t) gi
      have len := Eff.tb_len t (S.take i)
      rw [List.length_take] at len
      have eb := Eff.tb_snoc t (S.take i) st
      obtain ⟨b, n⟩ := st
      have fin : ∀ (z' : Int) (L' : List Int) (H2 : Hp) (wv nv pv rv bv : Option V), Eff.tb t (S.take (i + 1)) = (z', L') → Same H H2 → H2 l = some (.lst (L'.map V.int)) →
          ∃ wv' nv' pv' rv' bv', [some (V.ref p), some (V.int t), some (V.int z'), some (V.ref l), wv, nv, pv, rv, bv] = [some (V.ref p), some (V.int t), some (V.int (Eff.tb t (S.take (i + 1))).1), some (V.ref l), wv', nv', pv', rv', bv'] ∧ Same H H2 ∧ H2 l = some (.lst ((Eff.tb t (S.take (i + 1))).2.map V.int)) :=
        fun z' L' H2 wv nv pv rv bv e s h => ⟨wv, nv, pv, rv, bv, by rw [e], s, by rw [e]; exact h⟩
      refine ⟨r, _, rfl, same_seqT s hr, rfl, _, _, rfl, _, _, rfl, rfl, ?_⟩
      refine ⟨_, rfl, rfl, _, rfl, ?_⟩
      rw [wrd_ins]
      generalize hp : Eff.tb t (S.take i) = z at eb ok len hl'
      obtain ⟨z, L⟩ := z
      cases b with
      | true =>
        refine iteH rfl ?_
        refine ⟨_, rfl, _, rfl, _, _, rfl, rfl, _, rfl, ite2 (fun h1 => ?_) (fun h1 => ?_)⟩
        · have h1' : n ≤ t := of_decide_eq_true h1
          have e : Eff.tb t (S.take (i + 1)) = (z + 1, L) := by rw [et, eb]; unfold Eff.tstep; rw [if_pos rfl, if_pos h1']
          refine ⟨_, rfl, _, _, rfl, rfl, ?_⟩
          exact fin (z + 1) L H' _ _ _ _ _ e s hl'
        · have h1' : ¬ n ≤ t := of_decide_eq_false ((Bool.not_eq_true _).mp h1)
          have e : Eff.tb t (S.take (i + 1)) = (z, L) := by rw [et, eb]; unfold Eff.tstep; rw [if_pos rfl, if_neg h1']
          exact fin z L H' _ _ _ _ _ e s hl'
      | false =>
        refine iteN rfl ?_
        refine ⟨_, rfl, _, rfl, _, _, rfl, rfl, _, rfl, ite2 (fun h1 => ?_) (fun h1 => ?_)⟩
        · have h1' : n ≤ z := of_decide_eq_true h1
          have e : Eff.tb t (S.take (i + 1)) = (z - 1, L) := by rw [et, eb]; unfold Eff.tstep; rw [if_neg (by simp), if_pos h1']
          refine ⟨_, rfl, _, _, rfl, rfl, ?_⟩
          exact fin (z - 1) L H' _ _ _ _ _ e s hl'
        · have h1' : ¬ n ≤ z := of_decide_eq_false ((Bool.not_eq_true _).mp h1)
          have e : Eff.tb t (S.take (i + 1)) = (z, Eff.insAt L (Tbl.kr L (n - z) - (n - z)) (Tbl.kr L (n - z))) := by rw [et, eb]; unfold Eff.tstep; rw [if_neg (by simp), if_neg h1']
          have kp : Tbl.kr L (n - z) - (n - z) = Tbl.cnt L (Tbl.kr L (n - z)) := Eff.kr_place ok.asc (n - z)
          have c0 := Tbl.cnt_nn L (Tbl.kr L (n - z))
          have c1 := Tbl.cnt_le_len L (Tbl.kr L (n - z))
          have len' : L.length ≤ 20000 := by simp only at len; omega
          refine ⟨_, rfl, _, rfl, _, _, rfl, rfl, ?_⟩
          refine ⟨_, rfl, _, rfl, l, n - z, L, rfl, .inl (SqL.of hl'), ok.asc, ?_⟩
          refine ⟨_, rfl, _, rfl, _, _, rfl, rfl, ?_⟩
          refine ⟨_, rfl, Nat.le_trans (by show 1 ≤ 100000; decide) line_ge, fun q hq => ?_⟩
          have nlq : l ≠ q := fun x => by rw [x, hq] at hl'; cases hl'
          refine ⟨_, rfl, _, rfl, _, rfl, _, rfl, _, rfl, l, q, _, _, _, _, rfl, rfl, rfl, rfl, (upd_ne nlq).trans hl', upd_same, nlq, by omega, Int.le_refl _, by rw [List.length_map]; show _ ≤ ((L.length : Nat) : Int); omega, Nat.le_trans (by rw [List.length_map]; show L.length + 1 ≤ 100000; omega) line_ge, ?_⟩
          refine fin z _ _ _ _ _ _ _ e (same_upd (s.trans (same_new hq)) hl) ?_
          rw [upd_same]
          unfold Eff.insAt
          rw [List.map_append, List.map_append, List.map_take, List.map_drop]
          rfl
    · rintro σ H' ⟨wv, nv, pv, rv, bv, rfl, s, hl'⟩
      rw [hL.length, List.take_length] at hl' ⊢
      have len := Eff.tb_len t S
      refine ⟨_, rfl, _, rfl, ?_⟩
      exact tab_made (.inl (SqL.of hl')) (Eff.tb_ok hg) (by omega) fun r H2 s2 nr tb => k r H2 (s.trans s2) (s.free nr) tb

end
end K13
namespace K13
open PySem L2 XT
section
variable {P : Program} {w : World} {K : PySem.W.Frag} {mg : Str → Option Value} {base : Heap} {a : Ads}
local macro_rules | `(tactic| walk_at "rside") => `(tactic| first | (show (0 : Int) < _; first | decide | omega) | (exact ⟨by first | decide | omega, by first | decide | omega⟩) | (exact Or.inl ⟨by omega, by omega⟩) | (exact Or.inr ⟨by omega, by omega⟩) | (exact ⟨by decide, by decide, by decide⟩))
local macro_rules | `(tactic| walk_at "rd1") => `(tactic| first | (refine ⟨_, rfl, ?_⟩) | (refine ⟨_, _, rfl, rfl, (by walk_at "rside"), ?_⟩) | (refine ⟨_, _, rfl, rfl, ?_⟩))
local macro_rules | `(tactic| walk_at "rd") => `(tactic| repeat (walk_at "rd1"))

/-- is_table_list of tables, neighbors different -/
def AdjNe (Ts : List (Int × List Int)) : Prop := ∀ (i : Nat) p r, Ts[i]? = some p → Ts[i + 1]? = some r → p ≠ r
def spTL (K : PySem.W.Frag) (CT : Addr) : Sp := fun vs H Q _ => ∃ q ts Ts, vs = [.ref q] ∧ (SqL K H q ts ∨ SqT K H q ts) ∧ TbsAt K CT H ts Ts ∧ AdjNe Ts ∧ ts ≠ [] ∧ ts.length ≤ 100000 ∧ ∀ H', Same H H' → Q (.bl true) H'
theorem all_true {n : Nat} {f : Nat → Bool} (h : ∀ i, i < n → f i = true) : (((List.range n).map f).all id) = true := by
  rw [List.all_eq_true]
  intro b hb
  obtain ⟨i, hi, rfl⟩ := List.mem_map.mp hb
  exact h i (List.mem_range.mp hi)
theorem bls (n : Nat) : ((List.range n).map fun _ => V.bl true) = ((List.range n).map fun _ => true).map V.bl := by rw [List.map_map]; rfl
theorem ok_is_table_list (T : Txt K mg a) : FnR P w K mg base CX0 4 a.is_table_list (spTL K a.Table) := by
  obtain ⟨fd, F⟩ := T.F_is_table_list
  refine XT.okR F sc_is_table_list bn_is_table_list (fun vs H Q E h => ?_) (fun cdv A outer s H vs Q E hr h => ?_)
  · obtain ⟨q, ts, Ts, rfl, _⟩ := h
    rfl
  · obtain ⟨q, ts, Ts, rfl, hS, hT, hA, hne, hl, k0⟩ := h
    have G_eq_T := ok_Table___eq__ (P := P) (w := w) (base := base) T
    rcases hS with hS | hS
    · refine ⟨_, (pss_cons (ps_if (PW.pt (pw_or (pt_cmpR (notInTyK K) (pe_callTy (typeK K) (by rfl) T.b_type (by decide +kernel) (pa_cons (pv 0) pa_nil)) (pe_tup (pa_cons (pe_bltn (v := .ty "list") (u := .type "list") (by rfl) T.b_list (by decide +kernel) rfl) (pa_cons (pe_bltn (v := .ty "tuple") (u := .type "tuple") (by rfl) T.b_tuple (by decide +kernel) rfl) pa_nil))) (by rfl)) (pw_or1 (pt_not (pt_val (pe_callB (allK K rfl) (by rfl) T.b_all (by decide +kernel) (pa_cons (pe_lc (own := [("table", 1)])  rfl sc_is_table_list.nd (pi_list (pv 0)) (blkOk_by (N := N_is_table_list) (sc := defScope s_is_table_list) (by decide +kernel)) (fun _ _ _ _ _ => by exact (pg_name (i := 1) sc_is_table_list.nd rfl (Or.inl rfl))) (fun _ _ _ _ _ => by exact pts_nil) (fun _ _ _ _ _ => by exact (pe_cmpR (op_eqCls T.ty_Table hr.units0) (pe_callTy cr_type (by rfl) T.b_type (by decide +kernel) (pa_cons (pv 1) pa_nil)) (pe_glob (v := .ref a.Table) (by rfl) T.g_Table rfl) (nomark _)))) pa_nil))))))) (pss_one (ps_ret pe_bl)) pss_nil)
            (pss_one (ps_ret (pe_callB (allK K rfl) (by rfl) T.b_all (by decide +kernel) (pa_cons (pe_lc (own := [("low", 2), ("high", 3)])  rfl sc_is_table_list.nd (RZ.pi_zipA (by rfl) T.b_zip (pa_cons (pv 0) (pa_cons (pe_slice (slLK K) (pv 0) (po_some pe_int) po_none) pa_nil))) (blkOk_by (N := N_is_table_list) (sc := defScope s_is_table_list) (by decide +kernel)) (fun _ _ _ _ _ => by exact (tupK K (n := 2) (by rfl) (pgs_cons (pg_name (i := 2) sc_is_table_list.nd rfl (Or.inl rfl)) (pgs_cons (pg_name (i := 3) sc_is_table_list.nd rfl (Or.inl rfl)) pgs_nil)))) (fun _ _ _ _ _ => by exact pts_nil) (fun _ _ _ _ _ => by exact (pe_cmpR (op_ownN T.neA_T T.sub_T T.eqA_T T.eqF_T G_eq_T (hr.mono (by decide)) pass0) (pv 2) (pv 3) (nomark _)))) pa_nil))))), ?_⟩
      have hS1 : ∀ q0 o, H q0 = Option.none → SqL K (upd H q0 o) q ts := fun q0 o hq => Same.seq (same_new hq) hS
      refine ⟨_, rfl, _, "list", rfl, TyB.lst hS, by decide, fun q0 hq => ⟨_, q0, ["list", "tuple"], rfl, rfl, SqT.of upd_same, by decide +kernel, by decide +kernel, _, rfl, iteN (by decide +kernel) ?_⟩⟩
      have s0 := same_new (o := .tup [V.ty "list", V.ty "tuple"]) hq
      refine ⟨_, rfl, q, rfl, ⟨ts, hS1 _ _ hq⟩, fun D hD => lcM (stat_list (hS1 _ _ hq)) hD (fun i => .bl true) (Nat.le_trans hl line_ge) ?_ ?_⟩
      · intro i y H2 R hi s px k
        obtain ⟨p1, e1, t1, rfl, tb1⟩ := pd_get hT px
        have b1 := tb1.same (s0.trans s)
        obtain ⟨dx, fs, h1⟩ := b1.insA
        exact ⟨rfl, _, rfl, t1, a.Table, dx, fs, rfl, h1, rfl, rfl, k _ (Same.refl _)⟩
      · intro H2 s hL
        rw [bls] at hL
        refine ⟨D, (List.range _).map (fun _ => true), rfl, SqL.of hL, ?_⟩
        rw [all_true (f := fun _ => true) fun _ _ => rfl]
        refine ⟨_, rfl, iteN rfl ?_⟩
        have s2 := s0.trans s
        have hS2 := Same.seq s2 hS
        clear hL
        refine ⟨_, rfl, _, rfl, _, rfl, q, _, rfl, hS2, fun z hz => ?_⟩
        rw [cut1]
        have s4 := s2.trans (same_new (o := .lst (ts.drop 1)) hz)
        have hS3 : SqL K (upd H2 z (.lst (ts.drop 1))) q ts := s4.seq hS
        have hS4 : SqL K (upd H2 z (.lst (ts.drop 1))) z (ts.drop 1) := SqL.of upd_same
        refine ⟨q, z, _, _, rfl, .inl ⟨hS3, hS4, fun D2 hD2 => lcM (stat_zip hS3 hS4) hD2 (fun i => .bl true) (Nat.le_trans (Nat.min_le_left _ _) (Nat.le_trans hl line_ge)) ?_ ?_⟩⟩
        · rintro i v H3 R hi s3 ⟨U, x, y, rfl, hU, px, py⟩ k
          obtain ⟨p1, e1, t1, rfl, tb1⟩ := pd_get hT px
          rw [List.getElem?_drop] at py
          obtain ⟨p2, e2, t2, rfl, tb2⟩ := pd_get hT (by rw [Nat.add_comm] at py; exact py)
          refine ⟨U, [.ref t1, .ref t2], rfl, SqT.of hU, rfl, .ref t1, [.ref t2], rfl, .ref t2, [], rfl, rfl, rfl, ?_⟩
          have b1 := tb1.same (s4.trans s3)
          have b2 := tb2.same (s4.trans s3)
          refine ⟨_, rfl, _, rfl, t1, t2, rfl, rfl, b1.insA, b2.insA, t1, t2, _, _, _, _, rfl, b1, b2, _, rfl, ?_⟩
          have hne : ¬ (p1.1 = p2.1 ∧ p1.2 = p2.2) := fun z => hA i p1 p2 e1 e2 (Prod.ext z.1 z.2)
          rw [decide_eq_false hne]
          exact k _ (Same.refl _)
        · intro H3 s3 hL
          rw [bls] at hL
          refine ⟨D2, (List.range _).map (fun _ => true), rfl, SqL.of hL, ?_⟩
          rw [all_true (f := fun _ => true) fun _ _ => rfl]
          exact k0 _ (s4.trans s3)
    · refine ⟨_, (pss_cons (ps_if (PW.pt (pw_or (pt_cmpR (notInTyK K) (pe_callTy (typeK K) (by rfl) T.b_type (by decide +kernel) (pa_cons (pv 0) pa_nil)) (pe_tup (pa_cons (pe_bltn (v := .ty "list") (u := .type "list") (by rfl) T.b_list (by decide +kernel) rfl) (pa_cons (pe_bltn (v := .ty "tuple") (u := .type "tuple") (by rfl) T.b_tuple (by decide +kernel) rfl) pa_nil))) (by rfl)) (pw_or1 (pt_not (pt_val (pe_callB (allK K rfl) (by rfl) T.b_all (by decide +kernel) (pa_cons (pe_lc (own := [("table", 1)])  rfl sc_is_table_list.nd (pi_tup (pv 0)) (blkOk_by (N := N_is_table_list) (sc := defScope s_is_table_list) (by decide +kernel)) (fun _ _ _ _ _ => by exact (pg_name (i := 1) sc_is_table_list.nd rfl (Or.inl rfl))) (fun _ _ _ _ _ => by exact pts_nil) (fun _ _ _ _ _ => by exact (pe_cmpR (op_eqCls T.ty_Table hr.units0) (pe_callTy cr_type (by rfl) T.b_type (by decide +kernel) (pa_cons (pv 1) pa_nil)) (pe_glob (v := .ref a.Table) (by rfl) T.g_Table rfl) (nomark _)))) pa_nil))))))) (pss_one (ps_ret pe_bl)) pss_nil)
            (pss_one (ps_ret (pe_callB (allK K rfl) (by rfl) T.b_all (by decide +kernel) (pa_cons (pe_lc (own := [("low", 2), ("high", 3)])  rfl sc_is_table_list.nd (RZ.pi_zipA (by rfl) T.b_zip (pa_cons (pv 0) (pa_cons (pe_slice (slTK K) (pv 0) (po_some pe_int) po_none) pa_nil))) (blkOk_by (N := N_is_table_list) (sc := defScope s_is_table_list) (by decide +kernel)) (fun _ _ _ _ _ => by exact (tupK K (n := 2) (by rfl) (pgs_cons (pg_name (i := 2) sc_is_table_list.nd rfl (Or.inl rfl)) (pgs_cons (pg_name (i := 3) sc_is_table_list.nd rfl (Or.inl rfl)) pgs_nil)))) (fun _ _ _ _ _ => by exact pts_nil) (fun _ _ _ _ _ => by exact (pe_cmpR (op_ownN T.neA_T T.sub_T T.eqA_T T.eqF_T G_eq_T (hr.mono (by decide)) pass0) (pv 2) (pv 3) (nomark _)))) pa_nil))))), ?_⟩
      have hS1 : ∀ q0 o, H q0 = Option.none → SqT K (upd H q0 o) q ts := fun q0 o hq => same_seqT (same_new hq) hS
      refine ⟨_, rfl, _, "tuple", rfl, TyB.tup hS, by decide, fun q0 hq => ⟨_, q0, ["list", "tuple"], rfl, rfl, SqT.of upd_same, by decide +kernel, by decide +kernel, _, rfl, iteN (by decide +kernel) ?_⟩⟩
      have s0 := same_new (o := .tup [V.ty "list", V.ty "tuple"]) hq
      refine ⟨_, rfl, q, rfl, ⟨ts, hS1 _ _ hq⟩, fun D hD => lcM (stat_tup (hS1 _ _ hq)) hD (fun i => .bl true) (Nat.le_trans hl line_ge) ?_ ?_⟩
      · intro i y H2 R hi s px k
        obtain ⟨p1, e1, t1, rfl, tb1⟩ := pd_get hT px
        have b1 := tb1.same (s0.trans s)
        obtain ⟨dx, fs, h1⟩ := b1.insA
        exact ⟨rfl, _, rfl, t1, a.Table, dx, fs, rfl, h1, rfl, rfl, k _ (Same.refl _)⟩
      · intro H2 s hL
        rw [bls] at hL
        refine ⟨D, (List.range _).map (fun _ => true), rfl, SqL.of hL, ?_⟩
        rw [all_true (f := fun _ => true) fun _ _ => rfl]
        refine ⟨_, rfl, iteN rfl ?_⟩
        have s2 := s0.trans s
        have hS2 := same_seqT s2 hS
        clear hL
        refine ⟨_, rfl, _, rfl, _, rfl, q, _, rfl, hS2, fun hw => ?_, fun hw z hz => ?_⟩
        · exfalso
          have h1 := hw.1
          have e1 : HT.sIx ts.length 0 (some 1) = min 1 ts.length := HT.sIx_nat _ 0 1
          rw [e1] at h1
          exact hne (List.length_eq_zero_iff.mp (by omega))
        · rw [cut1]
          have s4 := s2.trans (same_new (o := .tup (ts.drop 1)) hz)
          have hS3 : SqT K (upd H2 z (.tup (ts.drop 1))) q ts := same_seqT s4 hS
          have hS4 : SqT K (upd H2 z (.tup (ts.drop 1))) z (ts.drop 1) := SqT.of upd_same
          refine ⟨q, z, _, _, rfl, .inr ⟨hS3, hS4, fun D2 hD2 => lcM (stat_zipT hS3 hS4) hD2 (fun i => .bl true) (Nat.le_trans (Nat.min_le_left _ _) (Nat.le_trans hl line_ge)) ?_ ?_⟩⟩
          · rintro i v H3 R hi s3 ⟨U, x, y, rfl, hU, px, py⟩ k
            obtain ⟨p1, e1, t1, rfl, tb1⟩ := pd_get hT px
            rw [List.getElem?_drop] at py
            obtain ⟨p2, e2, t2, rfl, tb2⟩ := pd_get hT (by rw [Nat.add_comm] at py; exact py)
            refine ⟨U, [.ref t1, .ref t2], rfl, SqT.of hU, rfl, .ref t1, [.ref t2], rfl, .ref t2, [], rfl, rfl, rfl, ?_⟩
            have b1 := tb1.same (s4.trans s3)
            have b2 := tb2.same (s4.trans s3)
            refine ⟨_, rfl, _, rfl, t1, t2, rfl, rfl, b1.insA, b2.insA, t1, t2, _, _, _, _, rfl, b1, b2, _, rfl, ?_⟩
            have hne : ¬ (p1.1 = p2.1 ∧ p1.2 = p2.2) := fun z => hA i p1 p2 e1 e2 (Prod.ext z.1 z.2)
            rw [decide_eq_false hne]
            exact k _ (Same.refl _)
          · intro H3 s3 hL
            rw [bls] at hL
            refine ⟨D2, (List.range _).map (fun _ => true), rfl, SqL.of hL, ?_⟩
            rw [all_true (f := fun _ => true) fun _ _ => rfl]
            exact k0 _ (s4.trans s3)

/-- Effect.__init__ -/
def spEff0 (K : PySem.W.Frag) (CE CT : Addr) : Sp := fun vs H Q _ => ∃ (e dx b q : Addr) (B : List Int) (ts : List V) (S : List Stp), vs = [.ref e, .ref b, .ref q] ∧ H e = some (.ins CE dx []) ∧ (SqL K H b (B.map V.int) ∨ SqT K H b (B.map V.int)) ∧ (SqL K H q ts ∨ SqT K H q ts) ∧
  TbsAt K CT H ts (Eff.tbs S B) ∧ Eff.Brk S B ∧ (∀ s ∈ S, goodS s = true) ∧ S.length ≤ 20000 ∧ B.length ≤ 20000 ∧ ∀ H', EffAt K CE CT H' e S → But e H H' → Q .non H'
theorem eff_mk {CE CT : Addr} {H1 : Hp} {b q x dx : Addr} {B : List Int} {ts : List V} {S : List Stp} {Q : VK} {E : XK} (nx : H1 x = Option.none) (ndx : H1 dx = Option.none) (ne : dx ≠ x) (hb : SqL K H1 b (B.map V.int) ∨ SqT K H1 b (B.map V.int)) (hq : SqL K H1 q ts ∨ SqT K H1 q ts)
    (ht : TbsAt K CT H1 ts (Eff.tbs S B)) (hB : Eff.Brk S B) (hg : ∀ s ∈ S, goodS s = true) (hz : S.length ≤ 20000) (hz2 : B.length ≤ 20000) (k : ∀ H', Same H1 H' → EffAt K CE CT H' x S → Q .non H') :
    spEff0 K CE CT [.ref x, .ref b, .ref q] (upd (upd H1 dx (.own x)) x (.ins CE dx [])) Q E := by
  have s1 : Same H1 (upd (upd H1 dx (.own x)) x (.ins CE dx [])) := same_upd (same_new ndx) nx
  exact ⟨x, dx, b, q, B, ts, S, rfl, upd_same, hb.imp (fun h => s1.seq h) (fun h => same_seqT s1 h), hq.imp (fun h => s1.seq h) (fun h => same_seqT s1 h), tbs_same ht s1, hB, hg, hz, hz2, fun H' T bt => k H' (fun c o e => bt c o (fun z => by rw [z, nx] at e; cases e) (s1 c o e)) T⟩
theorem eff_made {CE CT : Addr} {H1 : Hp} {b q : Addr} {B : List Int} {ts : List V} {S : List Stp} {Q : VK} {E : XK} (hb : SqL K H1 b (B.map V.int) ∨ SqT K H1 b (B.map V.int)) (hq : SqL K H1 q ts ∨ SqT K H1 q ts) (ht : TbsAt K CT H1 ts (Eff.tbs S B)) (hB : Eff.Brk S B) (hg : ∀ s ∈ S, goodS s = true)
    (hz : S.length ≤ 20000) (hz2 : B.length ≤ 20000) (k : ∀ r H', Same H1 H' → H1 r = Option.none → EffAt K CE CT H' r S → Q (.ref r) H') :
    ∀ x dx, H1 x = Option.none → H1 dx = Option.none → dx ≠ x → spEff0 K CE CT [.ref x, .ref b, .ref q] (upd (upd H1 dx (.own x)) x (.ins CE dx [])) (fun v H2 => v = .non ∧ Q (.ref x) H2) E := by
  intro x dx nx ndx ne
  have s1 : Same H1 (upd (upd H1 dx (.own x)) x (.ins CE dx [])) := same_upd (same_new ndx) nx
  refine ⟨x, dx, b, q, B, ts, S, rfl, upd_same, hb.imp (fun h => s1.seq h) (fun h => same_seqT s1 h), hq.imp (fun h => s1.seq h) (fun h => same_seqT s1 h), tbs_same ht s1, hB, hg, hz, hz2, fun H' T bt => ⟨rfl, k x H' (fun c o e => ?_) nx T⟩⟩
  exact bt c o (fun z => by rw [z, nx] at e; cases e) (s1 c o e)
theorem tup_any {H : Hp} {p : Addr} {ys : List V} {Q : VK} (h : SqL K H p ys ∨ SqT K H p ys) (k : ∀ l H', Same H H' → SqT K H' l ys → Q (.ref l) H') : (SqL K H p ys ∧ ∀ l, H l = Option.none → Q (.ref l) (upd H l (.tup ys))) ∨ (SqT K H p ys ∧ Q (.ref p) H) :=
  h.elim (fun h => .inl ⟨h, fun l hl => k l _ (same_new hl) (SqT.of upd_same)⟩) fun h => .inr ⟨h, k p H (Same.refl H) h⟩
theorem ok_Effect___init__ (T : Txt K mg a) : FnR P w K mg base CX0 6 a.Effect___init__ (spEff0 K a.Effect a.Table) := by
  obtain ⟨fd, F⟩ := T.F_Effect___init__
  refine XT.okR F sc_Effect___init__ bn_Effect___init__ (fun vs H Q E h => ?_) (fun cdv A outer s H vs Q E hr h => ?_)
  · obtain ⟨e, dx, b, q, B, ts, S, rfl, _⟩ := h
    rfl
  · obtain ⟨e, dx, b, q, B, ts, S, rfl, he, hb, hq, hT, hB, hg, hz, hz2, k⟩ := h
    have G_is_ascending := ok_is_ascending (P := P) (w := w) (base := base) T
    have G_is_table_list := ok_is_table_list (P := P) (w := w) (base := base) T
    refine ⟨_, (pss_cons (ps_if (PW.pt (pw_or (pt_not (pt_val (pe_callR G_is_ascending (hr.mono (by decide)) rfl T.g_is_ascending T.k_is_ascending pass0 (pa_cons (pv 1) pa_nil)))) (pw_or (pt_not (pt_val (pe_callR G_is_table_list (hr.mono (by decide)) rfl T.g_is_table_list T.k_is_table_list pass0 (pa_cons (pv 2) pa_nil)))) (pw_or1 (pt_cmpR op_ne (pe_callB (lenK K) (by rfl) T.b_len (by decide +kernel) (pa_cons (pv 2) pa_nil)) (pe_op op_add (pe_callB (lenK K) (by rfl) T.b_len (by decide +kernel) (pa_cons (pv 1) pa_nil)) pe_int) (nomark _)))))) (pss_one ps_never) pss_nil)
      (pss_cons (ps_fld (pv 0) (pe_callTy (tupleK K) (by rfl) T.b_tuple (by decide +kernel) (pa_cons (pv 1) pa_nil)) rfl)
      (pss_one (ps_fld (pv 0) (pe_callTy (tupleK K) (by rfl) T.b_tuple (by decide +kernel) (pa_cons (pv 2) pa_nil)) rfl)))), ?_⟩
    have kv : ∀ y ∈ B.map V.int, XT.KV K H y := fun y hy => by
      obtain ⟨i, _, rfl⟩ := List.mem_map.mp hy
      exact kv_int i
    have hlen : ts.length = B.length + 1 := by rw [hT.length, Eff.tbs_len]
    refine ⟨_, rfl, _, rfl, .inl ⟨B.map V.int, ⟨b, rfl, hb, kv, by rw [List.length_map]; omega⟩, fun H1 s1 => ⟨_, rfl, iteN (by unfold ascV; rw [nums_of, vi_map, decide_eq_true hB.asc]; rfl) ?_⟩⟩⟩
    refine ⟨_, rfl, q, ts, _, rfl, hq.imp (fun h => s1.seq h) (fun h => same_seqT s1 h), tbs_same hT s1, Eff.tbs_adj hB, (fun z => by rw [z] at hlen; simp at hlen), by omega, fun H2 s2 => ⟨_, rfl, iteN rfl ?_⟩⟩
    have s3 := s1.trans s2
    refine ⟨_, rfl, q, ts, rfl, hq.imp (fun h => s3.seq h) (fun h => same_seqT s3 h), _, rfl, b, _, rfl, hb.imp (fun h => s3.seq h) (fun h => same_seqT s3 h), _, _, rfl, rfl, ?_⟩
    refine ⟨rfl, _, rfl, iteN (by simp [hlen]) ?_⟩
    have he2 := s3 _ _ he
    rcases hb with hb | hb
    · refine ⟨_, rfl, b, B.map V.int, rfl, .inl ⟨s3.seq hb, fun l1 hl1 => ?_⟩⟩
      have s4 := same_new (o := .tup (B.map V.int)) hl1
      have h1 : SqT K (upd H2 l1 (.tup (B.map V.int))) l1 (B.map V.int) := SqT.of upd_same
      obtain ⟨H3, e3⟩ : ∃ H3, H3 = upd H2 l1 (.tup (B.map V.int)) := ⟨_, rfl⟩
      rw [← e3] at s4 h1 ⊢
      have s5 := s3.trans s4
      refine ⟨_, rfl, e, a.Effect, dx, _, rfl, s5 _ _ he, T.cl_E, T.n_breaks, (by show 0 < 1000; decide), ?_⟩
      have bt : But e H (upd H3 e (.ins a.Effect dx (putF "_breaks" (.ref l1) []))) := fun c o n x => by rw [upd_ne n]; exact s5 _ _ x
      have h1' : SqT K (upd H3 e (.ins a.Effect dx (putF "_breaks" (.ref l1) []))) l1 (B.map V.int) := but_seqT (s5 _ _ he) (fun c o n x => by rw [upd_ne n]; exact x) h1
      rcases hq with hq | hq
      · refine ⟨_, rfl, q, ts, rfl, .inl ⟨but_seqL he bt hq, fun l2 hl2 => ?_⟩⟩
        have s6 := same_new (o := .tup ts) hl2
        have h2 : SqT K (upd (upd H3 e (.ins a.Effect dx (putF "_breaks" (.ref l1) []))) l2 (.tup ts)) l2 ts := SqT.of upd_same
        obtain ⟨H4, e4⟩ : ∃ H4, H4 = upd (upd H3 e (.ins a.Effect dx (putF "_breaks" (.ref l1) []))) l2 (.tup ts) := ⟨_, rfl⟩
        rw [← e4] at s6 h2 ⊢
        refine ⟨_, rfl, e, a.Effect, dx, _, rfl, s6 _ _ upd_same, T.cl_E, T.n_tables, (by show 1 < 1000; decide), ?_⟩
        have he3 : (upd H3 e (.ins a.Effect dx (putF "_breaks" (.ref l1) []))) e = some (.ins a.Effect dx (putF "_breaks" (.ref l1) [])) := upd_same
        have he4 := s6 _ _ he3
        have bt2 : But e H (upd H4 e (.ins a.Effect dx (efl l1 l2))) := fun c o n x => by rw [upd_ne n]; exact s6 _ _ (bt c o n x)
        have bt3 : But e H4 (upd H4 e (.ins a.Effect dx (efl l1 l2))) := fun c o n x => by rw [upd_ne n]; exact x
        exact k _ ⟨dx, l1, l2, B, ts, upd_same, but_seqT he4 bt3 (same_seqT s6 h1'), but_seqT he4 bt3 h2, tbs_but he bt2 hT, hB, hg, hz, hz2⟩ bt2
      · refine ⟨_, rfl, q, ts, rfl, .inr ⟨but_seqT he bt hq, ?_⟩⟩
        obtain ⟨H4, e4⟩ : ∃ H4, H4 = upd H3 e (.ins a.Effect dx (putF "_breaks" (.ref l1) [])) := ⟨_, rfl⟩
        have s6 : Same (upd H3 e (.ins a.Effect dx (putF "_breaks" (.ref l1) []))) H4 := by rw [e4]; exact Same.refl _
        have h2 : SqT K H4 q ts := by rw [e4]; exact but_seqT he bt hq
        rw [← e4]
        obtain ⟨l2, e5⟩ : ∃ l2, l2 = q := ⟨_, rfl⟩
        rw [← e5] at h2 ⊢
        refine ⟨_, rfl, e, a.Effect, dx, _, rfl, s6 _ _ upd_same, T.cl_E, T.n_tables, (by show 1 < 1000; decide), ?_⟩
        have he3 : (upd H3 e (.ins a.Effect dx (putF "_breaks" (.ref l1) []))) e = some (.ins a.Effect dx (putF "_breaks" (.ref l1) [])) := upd_same
        have he4 := s6 _ _ he3
        have bt2 : But e H (upd H4 e (.ins a.Effect dx (efl l1 l2))) := fun c o n x => by rw [upd_ne n]; exact s6 _ _ (bt c o n x)
        have bt3 : But e H4 (upd H4 e (.ins a.Effect dx (efl l1 l2))) := fun c o n x => by rw [upd_ne n]; exact x
        exact k _ ⟨dx, l1, l2, B, ts, upd_same, but_seqT he4 bt3 (same_seqT s6 h1'), but_seqT he4 bt3 h2, tbs_but he bt2 hT, hB, hg, hz, hz2⟩ bt2
    · refine ⟨_, rfl, b, B.map V.int, rfl, .inr ⟨same_seqT s3 hb, ?_⟩⟩
      obtain ⟨l1, e3⟩ : ∃ l1, l1 = b := ⟨_, rfl⟩
      obtain ⟨H3, e4⟩ : ∃ H3, H3 = H2 := ⟨_, rfl⟩
      have s4 : Same H2 H3 := by rw [e4]; exact Same.refl _
      have h1 : SqT K H3 l1 (B.map V.int) := by rw [e3, e4]; exact same_seqT s3 hb
      rw [← e3, ← e4]
      have s5 := s3.trans s4
      refine ⟨_, rfl, e, a.Effect, dx, _, rfl, s5 _ _ he, T.cl_E, T.n_breaks, (by show 0 < 1000; decide), ?_⟩
      have bt : But e H (upd H3 e (.ins a.Effect dx (putF "_breaks" (.ref l1) []))) := fun c o n x => by rw [upd_ne n]; exact s5 _ _ x
      have h1' : SqT K (upd H3 e (.ins a.Effect dx (putF "_breaks" (.ref l1) []))) l1 (B.map V.int) := but_seqT (s5 _ _ he) (fun c o n x => by rw [upd_ne n]; exact x) h1
      rcases hq with hq | hq
      · refine ⟨_, rfl, q, ts, rfl, .inl ⟨but_seqL he bt hq, fun l2 hl2 => ?_⟩⟩
        have s6 := same_new (o := .tup ts) hl2
        have h2 : SqT K (upd (upd H3 e (.ins a.Effect dx (putF "_breaks" (.ref l1) []))) l2 (.tup ts)) l2 ts := SqT.of upd_same
        obtain ⟨H4, e6⟩ : ∃ H4, H4 = upd (upd H3 e (.ins a.Effect dx (putF "_breaks" (.ref l1) []))) l2 (.tup ts) := ⟨_, rfl⟩
        rw [← e6] at s6 h2 ⊢
        refine ⟨_, rfl, e, a.Effect, dx, _, rfl, s6 _ _ upd_same, T.cl_E, T.n_tables, (by show 1 < 1000; decide), ?_⟩
        have he3 : (upd H3 e (.ins a.Effect dx (putF "_breaks" (.ref l1) []))) e = some (.ins a.Effect dx (putF "_breaks" (.ref l1) [])) := upd_same
        have he6 := s6 _ _ he3
        have bt2 : But e H (upd H4 e (.ins a.Effect dx (efl l1 l2))) := fun c o n x => by rw [upd_ne n]; exact s6 _ _ (bt c o n x)
        have bt3 : But e H4 (upd H4 e (.ins a.Effect dx (efl l1 l2))) := fun c o n x => by rw [upd_ne n]; exact x
        exact k _ ⟨dx, l1, l2, B, ts, upd_same, but_seqT he6 bt3 (same_seqT s6 h1'), but_seqT he6 bt3 h2, tbs_but he bt2 hT, hB, hg, hz, hz2⟩ bt2
      · refine ⟨_, rfl, q, ts, rfl, .inr ⟨but_seqT he bt hq, ?_⟩⟩
        obtain ⟨H4, e6⟩ : ∃ H4, H4 = upd H3 e (.ins a.Effect dx (putF "_breaks" (.ref l1) [])) := ⟨_, rfl⟩
        have s6 : Same (upd H3 e (.ins a.Effect dx (putF "_breaks" (.ref l1) []))) H4 := by rw [e6]; exact Same.refl _
        have h2 : SqT K H4 q ts := by rw [e6]; exact but_seqT he bt hq
        rw [← e6]
        obtain ⟨l2, e5⟩ : ∃ l2, l2 = q := ⟨_, rfl⟩
        rw [← e5] at h2 ⊢
        refine ⟨_, rfl, e, a.Effect, dx, _, rfl, s6 _ _ upd_same, T.cl_E, T.n_tables, (by show 1 < 1000; decide), ?_⟩
        have he3 : (upd H3 e (.ins a.Effect dx (putF "_breaks" (.ref l1) []))) e = some (.ins a.Effect dx (putF "_breaks" (.ref l1) [])) := upd_same
        have he6 := s6 _ _ he3
        have bt2 : But e H (upd H4 e (.ins a.Effect dx (efl l1 l2))) := fun c o n x => by rw [upd_ne n]; exact s6 _ _ (bt c o n x)
        have bt3 : But e H4 (upd H4 e (.ins a.Effect dx (efl l1 l2))) := fun c o n x => by rw [upd_ne n]; exact x
        exact k _ ⟨dx, l1, l2, B, ts, upd_same, but_seqT he6 bt3 (same_seqT s6 h1'), but_seqT he6 bt3 h2, tbs_but he bt2 hT, hB, hg, hz, hz2⟩ bt2

end
end K13
namespace K13
open PySem L2 XT
section
variable {P : Program} {w : World} {K : PySem.W.Frag} {mg : Str → Option Value} {base : Heap} {a : Ads}
local macro_rules | `(tactic| walk_at "rside") => `(tactic| first | (show (0 : Int) < _; first | decide | omega) | (exact ⟨by first | decide | omega, by first | decide | omega⟩) | (exact Or.inl ⟨by omega, by omega⟩) | (exact Or.inr ⟨by omega, by omega⟩) | (exact ⟨by decide, by decide, by decide⟩))
local macro_rules | `(tactic| walk_at "rd1") => `(tactic| first | (refine ⟨_, rfl, ?_⟩) | (refine ⟨_, _, rfl, rfl, (by walk_at "rside"), ?_⟩) | (refine ⟨_, _, rfl, rfl, ?_⟩))
local macro_rules | `(tactic| walk_at "rd") => `(tactic| repeat (walk_at "rd1"))

def spBreaks (K : PySem.W.Frag) (CE CT : Addr) : Sp := fun vs H Q _ => ∃ e S, vs = [.ref e] ∧ EffAt K CE CT H e S ∧ ∀ p B, SqT K H p (B.map V.int) → Eff.Brk S B → B.length ≤ 20000 → Q (.ref p) H
def spTables (K : PySem.W.Frag) (CE CT : Addr) : Sp := fun vs H Q _ => ∃ e S, vs = [.ref e] ∧ EffAt K CE CT H e S ∧ ∀ q B ts, SqT K H q ts → TbsAt K CT H ts (Eff.tbs S B) → Eff.Brk S B → B.length ≤ 20000 → Q (.ref q) H
def spNeed (K : PySem.W.Frag) (CE CT : Addr) (f : List Stp → Int) : Sp := fun vs H Q _ => ∃ e S, vs = [.ref e] ∧ EffAt K CE CT H e S ∧ Q (.int (f S)) H
def spTable (K : PySem.W.Frag) (CE CT : Addr) : Sp := fun vs H Q _ => ∃ e S t, vs = [.ref e, .int t] ∧ EffAt K CE CT H e S ∧ ∀ r, TabAt K CT H r (Eff.tb t S).1 (Eff.tb t S).2 → Q (.ref r) H
def spEqEf (K : PySem.W.Frag) (CE CT : Addr) : Sp := fun vs H Q _ => ∃ e f S R, vs = [.ref e, .ref f] ∧ EffAt K CE CT H e S ∧ EffAt K CE CT H f R ∧ ∀ b, (b = true ↔ ∀ t, Eff.tb t S = Eff.tb t R) → ∀ H', Same H H' → Q (.bl b) H'
theorem ts_last {C : Addr} {H : Hp} {ts : List V} {S : List Stp} {B : List Int} (hT : TbsAt K C H ts (Eff.tbs S B)) (hB : Eff.Brk S B) : ∃ r us, ts = us ++ [.ref r] ∧ TabAt K C H r (Eff.tb (Eff.topOf S) S).1 (Eff.tb (Eff.topOf S) S).2 := by
  have hl : ts.length = B.length + 1 := by rw [hT.length, Eff.tbs_len]
  have hi : B.length < ts.length := by omega
  obtain ⟨p, hp, r, e, tb⟩ := pd_get hT (List.getElem?_eq_getElem hi)
  rw [Eff.tbs_last hB] at hp
  cases hp
  refine ⟨r, ts.dropLast, ?_, tb⟩
  have ne : ts ≠ [] := fun z => by rw [z] at hl; simp at hl
  have h2 := List.dropLast_concat_getLast ne
  have hh : ts.length - 1 = B.length := by omega
  have h3 : ts.getLast ne = .ref r := by
    rw [List.getLast_eq_getElem]
    simp only [hh]
    exact e
  rw [h3] at h2
  exact h2.symm
theorem ok_Effect_breaks (T : Txt K mg a) : FnR P w K mg base CX0 1 a.Effect_breaks (spBreaks K a.Effect a.Table) := by
  obtain ⟨fd, F⟩ := T.F_Effect_breaks
  refine XT.okR F sc_Effect_breaks bn_Effect_breaks (fun vs H Q E h => ?_) (fun cdv A outer s H vs Q E hr h => ?_)
  · obtain ⟨e, S, rfl, _⟩ := h
    rfl
  · obtain ⟨e, S, rfl, ⟨dx, p, q, B, ts, he, hp, hq, hT, hB, hg, hz, hz2⟩, k⟩ := h
    exact ⟨_, (pss_one (ps_ret (fldK K (pv 0) rfl))), _, rfl, e, a.Effect, dx, _, _, rfl, he, T.cl_E, T.n_breaks, efl_breaks _ _, k p B hp hB hz2⟩

theorem ok_Effect_tables (T : Txt K mg a) : FnR P w K mg base CX0 1 a.Effect_tables (spTables K a.Effect a.Table) := by
  obtain ⟨fd, F⟩ := T.F_Effect_tables
  refine XT.okR F sc_Effect_tables bn_Effect_tables (fun vs H Q E h => ?_) (fun cdv A outer s H vs Q E hr h => ?_)
  · obtain ⟨e, S, rfl, _⟩ := h
    rfl
  · obtain ⟨e, S, rfl, ⟨dx, p, q, B, ts, he, hp, hq, hT, hB, hg, hz, hz2⟩, k⟩ := h
    exact ⟨_, (pss_one (ps_ret (fldK K (pv 0) rfl))), _, rfl, e, a.Effect, dx, _, _, rfl, he, T.cl_E, T.n_tables, efl_tables _ _, k q B ts hq hT hB hz2⟩

theorem ok_Effect_need (T : Txt K mg a) : FnR P w K mg base CX0 3 a.Effect_need (spNeed K a.Effect a.Table Eff.need) := by
  obtain ⟨fd, F⟩ := T.F_Effect_need
  refine XT.okR F sc_Effect_need bn_Effect_need (fun vs H Q E h => ?_) (fun cdv A outer s H vs Q E hr h => ?_)
  · obtain ⟨e, S, rfl, _⟩ := h
    rfl
  · obtain ⟨e, S, rfl, ⟨dx, p, q, B, ts, he, hp, hq, hT, hB, hg, hz, hz2⟩, k⟩ := h
    have G_lost := ok_Table_lost (P := P) (w := w) (base := base) T
    refine ⟨_, (pss_cons (ps_set (i := 1) sc_Effect_need.nd rfl (Or.inl rfl) (pe_propR (pe_ix (ixTK K) (fldK K (pv 0) rfl) (pe_un un_neg pe_int) (fun _ _ => rfl)) T.cl_T T.p_lost G_lost (hr.mono (by decide)) pass0 rfl))
      (pss_one (ps_ret (pe_ifExp (pt_truth (pv 1) (fun _ => rfl)) (pe_ix (ixTK K) (pv 1) (pe_un un_neg pe_int) (fun _ _ => rfl)) pe_int)))), ?_⟩
    obtain ⟨r, us, e0, tb⟩ := ts_last hT hB
    obtain ⟨dy, fs, hr⟩ := tb.insA
    refine ⟨_, rfl, e, a.Effect, dx, _, _, rfl, he, T.cl_E, T.n_tables, efl_tables _ _, 1, rfl, q, ts, -1, .ref r, rfl, rfl, hq, by rw [e0]; exact atI_last us _, r, dy, fs, rfl, hr, r, _, _, rfl, tb, fun l hl => ?_⟩
    refine ⟨_, rfl, _, .inr (.inl ⟨_, hl, rfl⟩), ?_⟩
    unfold Eff.need at k
    generalize (Eff.tb (Eff.topOf S) S).2 = L at hl k ⊢
    cases hL : L.getLast? with
    | none =>
      rw [List.getLast?_eq_none_iff] at hL
      subst hL
      exact iteN rfl k
    | some x =>
      obtain ⟨M', rfl⟩ := List.getLast?_eq_some_iff.mp hL
      refine iteH (by cases M' <;> rfl) ?_
      refine ⟨_, rfl, 1, rfl, l, _, -1, .int x, rfl, rfl, hl, ?_, ?_⟩
      · rw [List.map_append]
        exact atI_last _ _
      · have : Eff.needL (M' ++ [x]) = x := by unfold Eff.needL; simp
        rw [this] at k
        exact k

theorem ok_Effect_table (T : Txt K mg a) : FnR P w K mg base CX0 3 a.Effect_table (spTable K a.Effect a.Table) := by
  obtain ⟨fd, F⟩ := T.F_Effect_table
  refine XT.okR F sc_Effect_table bn_Effect_table (fun vs H Q E h => ?_) (fun cdv A outer s H vs Q E hr h => ?_)
  · obtain ⟨e, S, t, rfl, _⟩ := h
    rfl
  · obtain ⟨e, S, t, rfl, ⟨dx, p, q, B, ts, he, hp, hq, hT, hB, hg, hz, hz2⟩, k⟩ := h
    have G_is_integer := ok_is_integer (P := P) (w := w) (base := base) T
    have G_table_at := ok_table_at (P := P) (w := w) (base := base) T
    refine ⟨_, (pss_cons (ps_if (pt_not (pt_val (pe_callR G_is_integer (hr.mono (by decide)) rfl T.g_is_integer T.k_is_integer pass0 (pa_cons (pv 1) pa_nil)))) (pss_one ps_never) pss_nil)
      (pss_one (ps_ret (pe_callR G_table_at (hr.mono (by decide)) rfl T.g_table_at T.k_table_at pass0 (pa_cons (fldK K (pv 0) rfl) (pa_cons (fldK K (pv 0) rfl) (pa_cons (pv 1) pa_nil))))))), ?_⟩
    refine ⟨_, rfl, _, rfl, kv_int t, _, rfl, iteN rfl ?_⟩
    obtain ⟨x, hx, r, e1, tb⟩ := pd_get' hT (Eff.tbs_at hB t)
    subst e1
    exact ⟨_, rfl, e, a.Effect, dx, _, _, rfl, he, T.cl_E, T.n_breaks, efl_breaks _ _, _, rfl, e, a.Effect, dx, _, _, rfl, he, T.cl_E, T.n_tables, efl_tables _ _, _, rfl, p, q, t, B, ts, .ref r, rfl, hp, hB.asc, hq, hx, k r tb⟩

theorem ok_Effect___eq__ (T : Txt K mg a) : FnR P w K mg base CX0 4 a.Effect___eq__ (spEqEf K a.Effect a.Table) := by
  obtain ⟨fd, F⟩ := T.F_Effect___eq__
  refine XT.okR F sc_Effect___eq__ bn_Effect___eq__ (fun vs H Q E h => ?_) (fun cdv A outer s H vs Q E hr h => ?_)
  · obtain ⟨e, f, S, R, rfl, _⟩ := h
    rfl
  · obtain ⟨e, f, S, R, rfl, ⟨dx, p, q, B, ts, he, hp, hq, hT, hB, hg, hz, hz2⟩, ⟨dy, p2, q2, C, us, hf, hp2, hq2, hU, hC, hg2, hy, hy2⟩, k⟩ := h
    have G_eq_T := ok_Table___eq__ (P := P) (w := w) (base := base) T
    refine ⟨_, (pss_one (ps_ret (pe_and (pe_callB (C8.call_isC T.isi_E) (by rfl) T.b_isinstance (by decide +kernel) (pa_cons (pv 1) (pa_cons (pe_glob (v := .ref a.Effect) (by rfl) T.g_Effect rfl) pa_nil))) (pe_and (pe_cmpR (eqDK K hr.units) (fldK K (pv 0) rfl) (fldK K (pv 1) rfl) (nomark _)) (pe_one (pe_cmpR (op_eqB (rcB_tabX G_eq_T T.eqA_T T.eqF_T pass0) (hr.mono (by decide))) (fldK K (pv 0) rfl) (fldK K (pv 1) rfl) (nomark _))))))), ?_⟩
    refine ⟨_, rfl, f, dy, _, rfl, hf, _, rfl, iteT ?_⟩
    have key := Eff.eff_ext hB hC
    refine ⟨_, rfl, e, a.Effect, dx, _, _, rfl, he, T.cl_E, T.n_breaks, efl_breaks _ _, _, rfl, f, a.Effect, dy, _, _, rfl, hf, T.cl_E, T.n_breaks, efl_breaks _ _, _, _, dp_tup hp, dp_tup hp2, shaped_tup _, shaped_tup _, _, rfl, ?_⟩
    rw [eqv_tups]
    refine ite2 (fun h1 => ?_) (fun h1 => ?_)
    · have e0 : B = C := of_decide_eq_true h1
      subst e0
      refine ⟨_, rfl, e, a.Effect, dx, _, _, rfl, he, T.cl_E, T.n_tables, efl_tables _ _, _, rfl, f, a.Effect, dy, _, _, rfl, hf, T.cl_E, T.n_tables, efl_tables _ _, _, ⟨q, q2, ts, us, fun i => decide ((Eff.tbs S B)[i]? = (Eff.tbs R B)[i]?), rfl, rfl, hq, hq2, ?_, fun i x y h2 h3 => ?_, rfl⟩, fun H' s => k _ ?_ H' s⟩
      · rw [hT.length, hU.length, Eff.tbs_len, Eff.tbs_len]
      · obtain ⟨p1, e1, t1, rfl, b1⟩ := pd_get hT h2
        obtain ⟨p3, e3, t3, rfl, b3⟩ := pd_get hU h3
        refine ⟨t1, t3, _, _, _, _, rfl, rfl, b1, b3, ?_⟩
        show decide ((Eff.tbs S B)[i]? = (Eff.tbs R B)[i]?) = _
        rw [e1, e3]
        exact decide_eq_decide.mpr ⟨fun z => by rw [Option.some.inj z]; exact ⟨rfl, rfl⟩, fun z => by rw [Prod.ext z.1 z.2]⟩
      · rw [hT.length, Eff.all_eq_iff, ← key]
        exact ⟨fun z => ⟨rfl, z⟩, fun z => z.2⟩
    · refine k false ⟨(fun z => by cases z), fun z => ?_⟩ H (Same.refl H)
      have := (key.mpr z).1
      exact absurd (decide_eq_true this) h1

/-- Effect.of -/
def spOf (K : PySem.W.Frag) (CE CT CS : Addr) : Sp := fun vs H Q _ => ∃ s S, vs = [.ref CE, .ref s] ∧ SqcAt K CS H s S ∧ S.length ≤ 3000 ∧ ∀ r H', Same H H' → H r = Option.none → EffAt K CE CT H' r S → Q (.ref r) H'
theorem out_ins (S : List Stp) : outs (fun i => (S[i]?).bind fun s => if s.1 = true then some (V.int s.2) else Option.none) S.length = (Eff.ins S).map V.int := by
  have : ∀ n, n ≤ S.length → outs (fun i => (S[i]?).bind fun s => if s.1 = true then some (V.int s.2) else Option.none) n = (Eff.ins (S.take n)).map V.int := by
    intro n
    induction n with
    | zero => intro _; rfl
    | succ n ih =>
      intro h
      have e : S[n]? = some S[n] := by simp
      rw [outs_succ, ih (by omega), List.take_add_one, e]
      unfold Eff.ins
      rw [List.filterMap_append, List.map_append]
      congr 1
      by_cases c : (S[n]).1 = true
      · simp [c]
      · simp [c]
  rw [this _ (Nat.le_refl _), List.take_length]
theorem tbR_lst {C D : Addr} {H : Hp} {x : V} {p : Int × List Int} {xs ys : List V} (hD : H D = some (.lst xs)) (h : TbR K C H x p) : TbR K C (upd H D (.lst ys)) x p := let ⟨t, e, z⟩ := h; ⟨t, e, tab_lst hD z⟩
theorem pd_of {α β : Type} {R : α → β → Prop} : ∀ {xs : List α} {ys : List β}, xs.length = ys.length → (∀ (i : Nat) (x : α) (y : β), xs[i]? = some x → ys[i]? = some y → R x y) → Paired R xs ys
  | [], [], _, _ => .nil
  | x :: xs, y :: ys, h, k => .cons (k 0 x y rfl rfl) (pd_of (by simpa using h) fun i a b h1 h2 => k (i + 1) a b (by simpa using h1) (by simpa using h2))
  | [], y :: ys, h, _ => by simp at h
  | x :: xs, [], h, _ => by simp at h
theorem ok_Effect_of (T : Txt K mg a) : FnR P w K mg base CX0 10 a.Effect_of (spOf K a.Effect a.Table a.Sequence) := by
  obtain ⟨fd, F⟩ := T.F_Effect_of
  refine XT.okR F sc_Effect_of bn_Effect_of (fun vs H Q E h => ?_) (fun cdv A outer s H vs Q E hr h => ?_)
  · obtain ⟨s0, S, rfl, _⟩ := h
    rfl
  · obtain ⟨s0, S, rfl, hS0, hz, k⟩ := h
    have G_steps := ok_Sequence_steps (P := P) (w := w) (base := base) T
    have G_below_all := ok_below_all (P := P) (w := w) (base := base) T
    have G_table_of := ok_table_of (P := P) (w := w) (base := base) T
    have G_Effect_init := ok_Effect___init__ (P := P) (w := w) (base := base) T
    refine ⟨_, (pss_cons (ps_set (i := 2) sc_Effect_of.nd rfl (Or.inr rfl) (pe_propR (pv 1) T.cl_S T.p_steps G_steps (hr.mono (by decide)) pass0 rfl))
      (pss_cons (ps_set (i := 3) sc_Effect_of.nd rfl (Or.inl rfl) (pe_callB (sortSK w rfl) (by rfl) T.b_sorted (by decide +kernel) (pa_cons (pe_callTy (setLK K w rfl) (by rfl) T.b_set (by decide +kernel) (pa_cons (pe_lc (own := [("word", 4), ("number", 5)])  rfl sc_Effect_of.nd (pi_tup (pv 2)) (blkOk_by (N := N_Effect_of) (sc := defScope s_Effect_of) (by decide +kernel)) (fun _ _ _ _ _ => by exact (tupK K (n := 2) (by rfl) (pgs_cons (pg_name (i := 4) sc_Effect_of.nd rfl (Or.inl rfl)) (pgs_cons (pg_name (i := 5) sc_Effect_of.nd rfl (Or.inl rfl)) pgs_nil)))) (fun _ _ _ _ _ => by exact pts_one (pt_cmpR op_eq (pv 4) pe_str (nomark _))) (fun _ _ _ _ _ => by exact (pv 5))) pa_nil)) pa_nil)))
      (pss_cons (ps_set (i := 6) sc_Effect_of.nd rfl (Or.inl rfl) (pe_lst (pa_cons (pe_callR G_below_all (hr.mono (by decide)) rfl T.g_below_all T.k_below_all pass0 (pa_cons (pv 3) pa_nil)) (starK K (StX.pa_star (pv 3) pa_nil)))))
      (pss_one (ps_ret (pe_makeL (i := 0) T.M_Effect G_Effect_init (hr.mono (by decide)) rfl (Or.inl rfl) pass0 (pa_cons (pv 3) (pa_cons (pe_lc (own := [("threshold", 7)])  rfl sc_Effect_of.nd (pi_list (pv 6)) (blkOk_by (N := N_Effect_of) (sc := defScope s_Effect_of) (by decide +kernel)) (fun _ _ _ _ _ => by exact (pg_name (i := 7) sc_Effect_of.nd rfl (Or.inl rfl))) (fun _ _ _ _ _ => by exact pts_nil) (fun _ _ _ _ _ => by exact (pe_callR G_table_of (hr.mono (by decide)) rfl T.g_table_of T.k_table_of pass0 (pa_cons (pv 2) (pa_cons (pv 7) pa_nil))))) pa_nil)))))))), ?_⟩
    have hg := hS0.good
    obtain ⟨dy, fs, hs⟩ := hS0.insA
    refine ⟨_, rfl, s0, dy, fs, rfl, hs, s0, S, rfl, hS0, fun p xs hS hL => ?_⟩
    have hxl := hL.length
    refine ⟨_, rfl, p, rfl, ⟨_, hS⟩, fun D hD => lcG (stat_tup hS) hD (fun i => (S[i]?).bind fun s => if s.1 = true then some (V.int s.2) else Option.none) (Nat.le_trans (show xs.length ≤ 100000 by omega) line_ge) ?_ ?_⟩
    · intro i x H2 R hi s px kk
      obtain ⟨⟨b, n⟩, hst, r, rfl, hr⟩ := pd_get hL px
      have hk := kk H2 (Same.refl H2)
      rw [hst] at hk
      have hk' : R (if b = true then some (V.int n) else Option.none) H2 := hk
      refine ⟨r, _, rfl, same_seqT s hr, rfl, _, _, rfl, _, _, rfl, rfl, rfl, ?_⟩
      refine ⟨_, rfl, rfl, _, rfl, ?_⟩
      rw [wrd_ins]
      cases b with
      | true => exact iteH rfl ⟨_, rfl, hk'⟩
      | false => exact iteN rfl hk'
    intro H2 s2 hD2
    rw [hxl, out_ins] at hD2
    have il := Eff.ins_len S
    refine ⟨D, _, rfl, SqL.of hD2, by omega, fun c n hc hn => ?_⟩
    refine ⟨c, _, n, rfl, upd_same, by omega, fun B r asc mem len hr => ?_⟩
    have hB : Eff.Brk S B := ⟨asc, fun x => by rw [mem x, decide_eq_true_eq, Eff.mem_ins]⟩
    have s3 := (s2.trans (same_new (o := SetO w c (fun j => decide (j ∈ Eff.ins S)) n) hc)).trans (same_new (o := .lst (B.map V.int)) hr)
    have hBl : B.length ≤ 3000 := by omega
    have hr1 : (upd (upd H2 c (SetO w c (fun j => decide (j ∈ Eff.ins S)) n)) r (.lst (B.map V.int))) r = some (.lst (B.map V.int)) := upd_same
    generalize hH3 : upd (upd H2 c (SetO w c (fun j => decide (j ∈ Eff.ins S)) n)) r (.lst (B.map V.int)) = H3 at s3 hr1 ⊢
    refine ⟨_, rfl, r, B, rfl, SqL.of hr1, ?_⟩
    refine ⟨_, rfl, r, _, rfl, .inr (SqL.of hr1), ?_⟩
    refine ⟨by show ([V.int (Eff.low B)] ++ (B.map V.int ++ [])).length ≤ sizeLine; exact Nat.le_trans (by simp; omega) line_ge, fun t ht => ?_⟩
    have e0 : [V.int (Eff.low B)] ++ (B.map V.int ++ []) = (Eff.thr B).map V.int := by simp [Eff.thr]
    have s4 := s3.trans (same_new (o := .lst ((Eff.thr B).map V.int)) ht)
    have ht1 : (upd H3 t (.lst ((Eff.thr B).map V.int))) t = some (.lst ((Eff.thr B).map V.int)) := upd_same
    have hr2 : (upd H3 t (.lst ((Eff.thr B).map V.int))) r = some (.lst (B.map V.int)) := same_new ht _ _ hr1
    show gName _ _ _ (upd H3 t (.lst ([V.int (Eff.low B)] ++ (B.map V.int ++ [])))) _
    rw [e0]
    generalize hH4 : upd H3 t (.lst ((Eff.thr B).map V.int)) = H4 at s4 ht1 hr2 ⊢
    refine ⟨rfl, _, rfl, _, rfl, t, rfl, ⟨_, SqL.of ht1⟩, fun D2 hD2 => lcR (stat_list (SqL.of ht1)) hD2 (fun i y H => ∀ u, (Eff.thr B)[i]? = some u → TbR K a.Table H y (Eff.tb u S)) (fun i y H H' s r u hu => let ⟨t, e, z⟩ := r u hu; ⟨t, e, z.same s⟩) (fun i y H x1 x2 hD r u hu => tbR_lst hD (r u hu)) ?_ ?_ ?_⟩
    · rw [List.length_map]
      exact Nat.le_trans (show (Eff.thr B).length ≤ 100000 by simp [Eff.thr]; omega) line_ge
    · intro i x H5 R hi s px kk
      rw [List.getElem?_map] at px
      obtain ⟨u, hu, rfl⟩ := Option.map_eq_some_iff.mp px
      have s5 := s4.trans s
      refine ⟨rfl, _, rfl, _, rfl, p, u, xs, S, rfl, same_seqT s5 hS, sts_same hL s5, hg, by omega, fun r' H6 s6 nr tb => ?_⟩
      refine kk _ H6 s6 fun u' hu' => ?_
      rw [hu] at hu'
      cases hu'
      exact ⟨r', rfl, tb⟩
    · intro H5 acc s5 hlen hacc hD5
      rw [List.length_map] at hlen
      have hT : TbsAt K a.Table H5 acc (Eff.tbs S B) := pd_of (by rw [hlen]; simp [Eff.tbs]) fun i x y h1 h2 => by
        unfold Eff.tbs at h2
        rw [List.getElem?_map] at h2
        obtain ⟨u, hu, rfl⟩ := Option.map_eq_some_iff.mp h2
        exact hacc i x h1 u hu
      have s6 := s4.trans s5
      exact eff_made (.inl (SqL.of (s5 _ _ hr2))) (.inl (SqL.of hD5)) hT hB hg (by omega) (by omega) fun r' H7 s7 n7 ef => k r' H7 (s6.trans s7) (s6.free n7) ef

def spNothing (K : PySem.W.Frag) (CE CT : Addr) : Sp := fun vs H Q _ => vs = [.ref CE] ∧ ∀ r H', Same H H' → H r = Option.none → EffAt K CE CT H' r [] → Q (.ref r) H'
end
end K13
namespace K13
open PySem L2 XT
section
variable {P : Program} {w : World} {K : PySem.W.Frag} {mg : Str → Option Value} {base : Heap} {a : Ads}
local macro_rules | `(tactic| walk_at "rside") => `(tactic| first | (show (0 : Int) < _; first | decide | omega) | (exact ⟨by first | decide | omega, by first | decide | omega⟩) | (exact Or.inl ⟨by omega, by omega⟩) | (exact Or.inr ⟨by omega, by omega⟩) | (exact ⟨by decide, by decide, by decide⟩))
local macro_rules | `(tactic| walk_at "rd1") => `(tactic| first | (refine ⟨_, rfl, ?_⟩) | (refine ⟨_, _, rfl, rfl, (by walk_at "rside"), ?_⟩) | (refine ⟨_, _, rfl, rfl, ?_⟩))
local macro_rules | `(tactic| walk_at "rd") => `(tactic| repeat (walk_at "rd1"))

theorem pick_four {c0 c1 c2 c3 r : Int} (h0 : 0 ≤ r) (h1 : r < 4) : ∃ z, atI ([V.int c0, V.int c1, V.int c2, V.int c3] : List V) r = some (.int z) ∧ (z = c0 ∨ z = c1 ∨ z = c2 ∨ z = c3) := by
  have : r = 0 ∨ r = 1 ∨ r = 2 ∨ r = 3 := by omega
  rcases this with rfl | rfl | rfl | rfl
  · exact ⟨_, rfl, .inl rfl⟩
  · exact ⟨_, rfl, .inr (.inl rfl)⟩
  · exact ⟨_, rfl, .inr (.inr (.inl rfl))⟩
  · exact ⟨_, rfl, .inr (.inr (.inr rfl))⟩
theorem pool_but {H H' : Hp} {p q : Addr} {o : HO} (h : PoolAt H p) (n : H q = Option.none) (e : H' = upd H q o) : PoolAt H' p := by
  obtain ⟨x, y, a, b⟩ := h
  have : p ≠ q := fun z => by rw [z, n] at a; cases a
  exact ⟨x, y, by rw [e, upd_ne this]; exact a, b⟩
theorem pool_same {H H' : Hp} {p : Addr} (h : PoolAt H p) (e : Same H H') : PoolAt H' p := let ⟨x, y, a, b⟩ := h; ⟨x, y, e _ _ a, b⟩
theorem pool_ne {H : Hp} {p q : Addr} (h : PoolAt H p) (n : H q = Option.none) : q ≠ p := fun z => by
  obtain ⟨x, y, a, _⟩ := h
  rw [z, a] at n
  cases n
/-- tuples stay -/
def Kt (K : PySem.W.Frag) (H H' : Hp) : Prop := ∀ r ys, SqT K H r ys → SqT K H' r ys
theorem Kt.trans {H H1 H2 : Hp} (h : Kt K H H1) (k : Kt K H1 H2) : Kt K H H2 := fun r ys z => k r ys (h r ys z)
theorem kt_same {H H' : Hp} (h : Same H H') : Kt K H H' := fun r ys z => same_seqT h z
theorem kt_upd {H : Hp} {l : Addr} {zs : List V} {o : HO} (hl : H l = some (.lst zs)) : Kt K H (upd H l o) := fun r ys z => by
  rcases z with (z | ⟨ob, z⟩) | z
  · exact .inl (.inl (by rw [upd_ne (fun q => by rw [q, hl] at z; cases z)]; exact z))
  · exact .inl (.inr ⟨ob, by rw [upd_ne (fun q => by rw [q, hl] at z; cases z)]; exact z⟩)
  · exact .inr z
theorem kt_but {H H' : Hp} {p : Addr} (hp : PoolAt H p) (b : But p H H') : Kt K H H' := fun r ys z => by
  obtain ⟨x, y, a, _⟩ := hp
  rcases z with (z | ⟨ob, z⟩) | z
  · exact .inl (.inl (b _ _ (fun q => by rw [q, a] at z; cases z) z))
  · exact .inl (.inr ⟨ob, b _ _ (fun q => by rw [q, a] at z; cases z) z⟩)
  · exact .inr z
theorem sts_kt {H H' : Hp} {xs : List V} {L : List Stp} (h : StsAt K H xs L) (k : Kt K H H') : StsAt K H' xs L := L2.Paired.mapP h fun _ _ ⟨r, e, z⟩ => ⟨r, e, k _ _ z⟩
theorem sqc_but {C : Addr} {H H' : Hp} {t p : Addr} {L : List Stp} (h : SqcAt K C H t L) (hp : PoolAt H p) (b : But p H H') : SqcAt K C H' t L := by
  obtain ⟨dx, q, xs, h1, h2, h3, h4⟩ := h
  have n : t ≠ p := fun z => by
    obtain ⟨x, y, e, _⟩ := hp
    rw [z, e] at h1
    cases h1
  exact ⟨dx, q, xs, b _ _ n h1, kt_but hp b _ _ h2, sts_kt h3 (kt_but hp b), h4⟩
/-- the steps of a law -/
structure LSt (L : List Stp) : Prop where
  good : ∀ s ∈ L, goodS s = true
  sm : ∀ s ∈ L, -2 ≤ s.2 ∧ s.2 ≤ 14
def spLSteps (K : PySem.W.Frag) : Sp := fun vs H Q _ => ∃ (p : Addr) (m : Int), vs = [.ref p, .int m] ∧ PoolAt H p ∧ 0 ≤ m ∧ m ≤ 100 ∧
  ∀ l xs L H', But p H H' → PoolAt H' p → H l = Option.none → H' l = some (.lst xs) → StsAt K H' xs L → LSt L → (L.length : Int) ≤ m → Q (.ref l) H'
def InvSt (K : PySem.W.Frag) (p l : Addr) (m u : Int) (H0 : Hp) (i : Nat) (σ : L2.St) (H : Hp) : Prop := ∃ (xs : List V) (L : List Stp) (tv : Option V), σ = [some (.ref p), some (.int m), some (.ref l), some (.int u), tv] ∧ H l = some (.lst xs) ∧ PoolAt H p ∧ But p H0 H ∧
  StsAt K H xs L ∧ LSt L ∧ L.length = i
theorem lst_snoc {L : List Stp} {s : Stp} (h : LSt L) (g : goodS s = true) (a : -2 ≤ s.2) (b : s.2 ≤ 14) : LSt (L ++ [s]) :=
  ⟨fun t ht => (List.mem_append.mp ht).elim (h.good t) fun z => by rw [List.mem_singleton.mp z]; exact g, fun t ht => (List.mem_append.mp ht).elim (h.sm t) fun z => by rw [List.mem_singleton.mp z]; exact ⟨a, b⟩⟩
theorem ok_law_steps (T : Txt K mg a) : FnR P w K mg base CX0 2 a.law_steps (spLSteps K) := by
  obtain ⟨fd, F⟩ := T.F_law_steps
  refine XT.okR F sc_law_steps bn_law_steps (fun vs H Q E h => ?_) (fun cdv A outer s H vs Q E hr h => ?_)
  · obtain ⟨p, m, rfl, _⟩ := h
    rfl
  · obtain ⟨p, m, rfl, hp, m0, m1, k⟩ := h
    have G_law_take := ok_law_take (P := P) (w := w) (base := base) T
    refine ⟨_, (pss_cons (ps_par (i := 2) (j := 3) (by rfl) sc_law_steps.nd rfl rfl (by decide) rfl rfl (pa_cons (pe_lst pa_nil) (pa_cons (pe_callR G_law_take (hr.mono (by decide)) rfl T.g_law_take T.k_law_take pass0 (pa_cons (pv 0) (pa_cons pe_int pa_nil))) pa_nil)) (by rfl))
      (pss_cons (ps_for PassesOwn.never rfl (pi_rng1 (by rfl) T.b_range (pa_cons (pe_callR G_law_take (hr.mono (by decide)) rfl T.g_law_take T.k_law_take pass0 (pa_cons (pv 0) (pa_cons (pe_op op_add (pv 1) pe_int) pa_nil))) pa_nil)) (pg_name (i := 4) sc_law_steps.nd rfl (Or.inl rfl))
        (pss_one (ps_if (pt_cmpR op_eq (pe_callR G_law_take (hr.mono (by decide)) rfl T.g_law_take T.k_law_take pass0 (pa_cons (pv 0) (pa_cons (pe_ix (ixLK K) (pe_lst (pa_cons pe_int (pa_cons pe_int (pa_cons pe_int (pa_cons pe_int pa_nil))))) (pv 3) (fun _ _ => rfl)) pa_nil))) pe_int (nomark _)) (pss_one (ps_expr (bmK K (pe_bm PySem.F.plainAttrs_list PySem.F.slot_list_append PySem.F.type_list_append mt_append (pv 2) (pa_cons (pe_tup (pa_cons pe_str (pa_cons (pe_op op_add pe_int (pe_callR G_law_take (hr.mono (by decide)) rfl T.g_law_take T.k_law_take pass0 (pa_cons (pv 0) (pa_cons (pe_ix (ixLK K) (pe_lst (pa_cons pe_int (pa_cons pe_int (pa_cons pe_int (pa_cons pe_int pa_nil))))) (pv 3) (fun _ _ => rfl)) pa_nil)))) pa_nil))) pa_nil))))) (pss_one (ps_expr (bmK K (pe_bm PySem.F.plainAttrs_list PySem.F.slot_list_append PySem.F.type_list_append mt_append (pv 2) (pa_cons (pe_tup (pa_cons pe_str (pa_cons (pe_op op_sub (pe_op op_mul (pe_ix (ixLK K) (pe_lst (pa_cons pe_int (pa_cons pe_int (pa_cons pe_int (pa_cons pe_int pa_nil))))) (pv 3) (fun _ _ => rfl)) (pe_callR G_law_take (hr.mono (by decide)) rfl T.g_law_take T.k_law_take pass0 (pa_cons (pv 0) (pa_cons (pe_ix (ixLK K) (pe_lst (pa_cons pe_int (pa_cons pe_int (pa_cons pe_int (pa_cons pe_int pa_nil))))) (pv 3) (fun _ _ => rfl)) pa_nil)))) pe_int) pa_nil))) pa_nil))))))))
      (pss_one (ps_ret (pv 2))))), ?_⟩
    refine ⟨Nat.zero_le _, fun l hl => ?_⟩
    have nlp := pool_ne hp hl
    have b1 : But p H (upd H l (.lst [])) := but_same (same_new hl)
    have hp1 : PoolAt (upd H l (.lst [])) p := pool_but hp hl rfl
    refine ⟨_, rfl, p, 4, rfl, hp1, by decide, by decide, fun u H1 u0 u1 b2 hp2 => ?_⟩
    have hl1 : H1 l = some (.lst []) := b2 _ _ nlp upd_same
    refine ⟨_, _, rfl, ?_⟩
    refine ⟨_, rfl, _, rfl, _, _, rfl, rfl, p, m + 1, rfl, hp2, by omega, by omega, fun r3 H3 r30 r31 b5 hp5 => ⟨_, rfl, ?_⟩⟩
    refine for_range (lo := 0) (n := r3.toNat) (InvSt K p l m u H) ⟨[], [], _, rfl, b5 _ _ nlp hl1, hp5, (b1.trans b2).trans b5, .nil, ⟨(fun _ h => by cases h), (fun _ h => by cases h)⟩, rfl⟩ ?_ ?_
    · rintro i σ H4 hi ⟨xs, L, tv, rfl, hL, hpp, bb, hSt, lst, hlen⟩
      have hi100 : i ≤ 100 := by omega
      refine ⟨_, rfl, by show 4 ≤ sizeLine; decide, fun d hd => ?_⟩
      have s4 := same_new (o := .lst [V.int 2, V.int 3, V.int 2, V.int 4]) hd
      obtain ⟨z, ez, hz⟩ := pick_four (c0 := 2) (c1 := 3) (c2 := 2) (c3 := 4) u0 u1
      refine ⟨_, rfl, d, _, u, .int z, rfl, rfl, SqL.of upd_same, ez, p, z, rfl, pool_same hpp s4, by omega, by omega, fun r4 H5 r40 r41 b6 hp6 => ?_⟩
      have b46 : But p H4 H5 := (but_same s4).trans b6
      have hL5 : H5 l = some (.lst xs) := b46 _ _ nlp hL
      have kt45 : Kt K H4 H5 := kt_but hpp b46
      refine ⟨rfl, _, rfl, ite2 (fun hz0 => ?_) (fun hz0 => ?_)⟩
      · refine ⟨_, rfl, .inl ⟨rfl, _, SqL.of hL5⟩, _, rfl, by show 4 ≤ sizeLine; decide, fun d2 hd2 => ?_⟩
        have s5 := same_new (o := .lst [V.int 3, V.int 5, V.int 2, V.int 9]) hd2
        obtain ⟨z2, ez2, hz2⟩ := pick_four (c0 := 3) (c1 := 5) (c2 := 2) (c3 := 9) u0 u1
        refine ⟨_, rfl, d2, _, u, .int z2, rfl, rfl, SqL.of upd_same, ez2, p, z2, rfl, pool_same hp6 s5, by omega, by omega, fun r5 H6 r50 r51 b7 hp7 => ?_⟩
        have b57 : But p H5 H6 := (but_same s5).trans b7
        have hL6 : H6 l = some (.lst xs) := b57 _ _ nlp hL5
        have kt56 : Kt K H4 H6 := kt45.trans (kt_but hp6 b57)
        refine ⟨_, _, rfl, rfl, by show 2 ≤ sizeLine; decide, fun q hq => ?_⟩
        have nlq : q ≠ l := fun z => by rw [z, hL6] at hq; cases hq
        have hlq : (upd H6 q (.tup [V.str "remove", V.int (1 + r5)])) l = some (.lst xs) := by rw [upd_ne (Ne.symm nlq)]; exact hL6
        have lx := hSt.length
        refine ⟨l, _, _, rfl, rfl, hlq, Nat.lt_of_lt_of_le (show xs.length < 100000 by omega) line_ge, ?_⟩
        have kt0 : Kt K H6 (upd (upd H6 q (.tup [V.str "remove", V.int (1 + r5)])) l (.lst (xs ++ [V.ref q]))) := (kt_same (same_new hq)).trans (kt_upd hlq)
        have bb2 : But p H6 (upd (upd H6 q (.tup [V.str "remove", V.int (1 + r5)])) l (.lst (xs ++ [V.ref q]))) → But p H (upd (upd H6 q (.tup [V.str "remove", V.int (1 + r5)])) l (.lst (xs ++ [V.ref q]))) := fun z => ((bb.trans b46).trans b57).trans z
        refine ⟨xs ++ [V.ref q], L ++ [(false, (1 + r5))], _, rfl, upd_same, ?_, ?_, pd_append (sts_kt hSt (kt56.trans kt0)) (.cons (st_of (b := false) (by rw [upd_ne nlq, upd_same]; rfl)) .nil), lst_snoc lst (by show goodS (false, 1 + r5) = true; simp [goodS]; omega) (by show (-2 : Int) ≤ 1 + r5; omega) (by show 1 + r5 ≤ (14 : Int); omega), by rw [List.length_append, hlen]; rfl⟩
        · obtain ⟨x, y, e, rest⟩ := hp7
          exact ⟨x, y, by rw [upd_ne (Ne.symm nlp), upd_ne (Ne.symm (pool_ne ⟨x, y, e, rest⟩ hq))]; exact e, rest⟩
        · intro b o nb e
          have nbl : b ≠ l := fun z => by rw [z, hl] at e; cases e
          have e2 := ((bb.trans b46).trans b57) _ _ nb e
          rw [upd_ne nbl, upd_ne (fun z => by rw [z, hq] at e2; cases e2)]
          exact e2
      · refine ⟨_, rfl, .inl ⟨rfl, _, SqL.of hL5⟩, by show 4 ≤ sizeLine; decide, fun d1 hd1 => ?_⟩
        have s5 := same_new (o := .lst [V.int 2, V.int 1, V.int 2, V.int 1]) hd1
        obtain ⟨z1, ez1, hz1⟩ := pick_four (c0 := 2) (c1 := 1) (c2 := 2) (c3 := 1) u0 u1
        refine ⟨_, rfl, d1, _, u, .int z1, rfl, rfl, SqL.of upd_same, ez1, _, rfl, by show 4 ≤ sizeLine; decide, fun d2 hd2 => ?_⟩
        have s6 := s5.trans (same_new (o := .lst [V.int 3, V.int 9, V.int 1, V.int 5]) hd2)
        obtain ⟨z2, ez2, hz2⟩ := pick_four (c0 := 3) (c1 := 9) (c2 := 1) (c3 := 5) u0 u1
        refine ⟨_, rfl, d2, _, u, .int z2, rfl, rfl, SqL.of upd_same, ez2, p, z2, rfl, pool_same hp6 s6, by omega, by omega, fun r5 H6 r50 r51 b7 hp7 => ?_⟩
        have b57 : But p H5 H6 := (but_same s6).trans b7
        have hL6 : H6 l = some (.lst xs) := b57 _ _ nlp hL5
        have kt56 : Kt K H4 H6 := kt45.trans (kt_but hp6 b57)
        have hm0 : 0 ≤ z1 * r5 := Int.mul_nonneg (by omega) r50
        have hm1 : z1 * r5 ≤ 2 * 8 := Int.mul_le_mul (by omega) (by omega) r50 (by decide)
        refine ⟨_, _, rfl, rfl, .inl ⟨by omega, by omega⟩, _, _, rfl, rfl, by show 2 ≤ sizeLine; decide, fun q hq => ?_⟩
        have nlq : q ≠ l := fun z => by rw [z, hL6] at hq; cases hq
        have hlq : (upd H6 q (.tup [V.str "insert", V.int (z1 * r5 - 2)])) l = some (.lst xs) := by rw [upd_ne (Ne.symm nlq)]; exact hL6
        have lx := hSt.length
        refine ⟨l, _, _, rfl, rfl, hlq, Nat.lt_of_lt_of_le (show xs.length < 100000 by omega) line_ge, ?_⟩
        have kt0 : Kt K H6 (upd (upd H6 q (.tup [V.str "insert", V.int (z1 * r5 - 2)])) l (.lst (xs ++ [V.ref q]))) := (kt_same (same_new hq)).trans (kt_upd hlq)
        have bb2 : But p H6 (upd (upd H6 q (.tup [V.str "insert", V.int (z1 * r5 - 2)])) l (.lst (xs ++ [V.ref q]))) → But p H (upd (upd H6 q (.tup [V.str "insert", V.int (z1 * r5 - 2)])) l (.lst (xs ++ [V.ref q]))) := fun z => ((bb.trans b46).trans b57).trans z
        refine ⟨xs ++ [V.ref q], L ++ [(true, (z1 * r5 - 2))], _, rfl, upd_same, ?_, ?_, pd_append (sts_kt hSt (kt56.trans kt0)) (.cons (st_of (b := true) (by rw [upd_ne nlq, upd_same]; rfl)) .nil), lst_snoc lst (by rfl) (by show (-2 : Int) ≤ z1 * r5 - 2; omega) (by show z1 * r5 - 2 ≤ (14 : Int); omega), by rw [List.length_append, hlen]; rfl⟩
        · obtain ⟨x, y, e, rest⟩ := hp7
          exact ⟨x, y, by rw [upd_ne (Ne.symm nlp), upd_ne (Ne.symm (pool_ne ⟨x, y, e, rest⟩ hq))]; exact e, rest⟩
        · intro b o nb e
          have nbl : b ≠ l := fun z => by rw [z, hl] at e; cases e
          have e2 := ((bb.trans b46).trans b57) _ _ nb e
          rw [upd_ne nbl, upd_ne (fun z => by rw [z, hq] at e2; cases e2)]
          exact e2
    · rintro σ H4 ⟨xs, L, tv, rfl, hL, hpp, bb, hSt, lst, hlen⟩
      exact ⟨_, rfl, k l xs L H4 bb hpp hl hL hSt lst (by omega)⟩

def spLMade (K : PySem.W.Frag) (C : Addr) : Sp := fun vs H Q _ => ∃ (l : Addr) (xs : List V) (L : List Stp), vs = [.ref l] ∧ SqL K H l xs ∧ StsAt K H xs L ∧ (∀ s ∈ L, goodS s = true) ∧ L.length ≤ 1000 ∧ ∀ r H', Same H H' → H r = Option.none → SqcAt K C H' r L → Q (.ref r) H'
theorem ok_law_made (T : Txt K mg a) : FnR P w K mg base CX0 7 a.law_made (spLMade K a.Sequence) := by
  obtain ⟨fd, F⟩ := T.F_law_made
  refine XT.okR F sc_law_made bn_law_made (fun vs H Q E h => ?_) (fun cdv A outer s H vs Q E hr h => ?_)
  · obtain ⟨l, xs, L, rfl, _⟩ := h
    rfl
  · obtain ⟨l, xs, L, rfl, hS, hL, hg, hz, k⟩ := h
    have G_Sequence_init := ok_Sequence___init__ (P := P) (w := w) (base := base) T
    have G_add_S := ok_Sequence___add__ (P := P) (w := w) (base := base) T
    refine ⟨_, (pss_cons (ps_set (i := 1) sc_law_made.nd rfl (Or.inl rfl) (pe_makeR0 T.M_Sequence G_Sequence_init (hr.mono (by decide)) rfl T.g_Sequence pass0))
      (pss_cons (ps_for PassesOwn.never rfl (pi_list (pv 0)) (pg_name (i := 2) sc_law_made.nd rfl (Or.inl rfl))
        (pss_one (ps_set (i := 1) sc_law_made.nd rfl (Or.inl rfl) (pe_op (op_ownB T.sf_S T.addA_S T.addF_S G_add_S (hr.mono (by decide)) pass0) (pv 1) (StX.pe_makeR T.M_Sequence G_Sequence_init (hr.mono (by decide)) rfl T.g_Sequence pass0 (pa_cons (pv 2) pa_nil))))))
      (pss_one (ps_ret (pv 1))))), ?_⟩
    refine fun t0 d0 n0 nd0 ne0 => ?_
    refine sq_mk (xs := []) (L := []) n0 nd0 ne0 .nil (fun s hs => by cases hs) (by decide) fun H0 s0 h0 => ⟨rfl, ?_⟩
    refine ⟨_, rfl, l, rfl, ⟨_, s0.seq hS⟩, for_list (K := K) (a := l) (xs := xs) (fun i σ H' => ∃ t o, σ = [some (.ref l), some (.ref t), o] ∧ Same H H' ∧ H t = Option.none ∧ SqcAt K a.Sequence H' t (L.take i)) ⟨_, _, rfl, s0, n0, h0⟩ (fun i σ H' _ ⟨_, _, _, s, _⟩ => s.seq hS) ?_ ?_⟩
    · rintro i x σ H' hx ⟨t, o, rfl, s, nt, ht⟩
      obtain ⟨st, hst, hxs⟩ := pd_get hL hx
      have gst := hg st (List.mem_of_getElem? hst)
      refine ⟨_, rfl, _, rfl, ?_⟩
      refine fun r d2 nr nd2 ne2 => ?_
      refine sq_mk (xs := [x]) (L := [st]) nr nd2 ne2 (.cons (hxs.same s) .nil) (fun u hu => by rw [List.mem_singleton.mp hu]; exact gst) (show 1 ≤ 100000 by decide) fun H2 s2 hr => ⟨rfl, ?_⟩
      refine ⟨t, r, rfl, rfl, (ht.same s2).insA, hr.insA, t, r, L.take i, [st], rfl, ht.same s2, hr, ?_, fun q H3 s3 nq hq => ?_⟩
      · rw [List.length_take, List.length_singleton]
        omega
      · refine ⟨q, _, rfl, (s.trans s2).trans s3, (s.trans s2).free nq, ?_⟩
        rw [List.take_add_one, hst]
        exact hq
    · rintro σ H' ⟨t, o, rfl, s, nt, ht⟩
      refine ⟨_, rfl, k t H' s nt ?_⟩
      rw [hL.length, List.take_length] at ht
      exact ht

theorem kv_ints {H : Hp} (L : List Int) : ∀ y ∈ L.map V.int, XT.KV K H y := fun y hy => by
  obtain ⟨i, _, rfl⟩ := List.mem_map.mp hy
  exact kv_int i
/-- a list or a tuple of the numbers L -/
def NumsAt (K : PySem.W.Frag) (H : Hp) (x : V) (L : List Int) : Prop := ∃ p, x = .ref p ∧ (SqL K H p (L.map V.int) ∨ SqT K H p (L.map V.int)) ∧ L.length ≤ 1000
theorem NumsAt.same {H H' : Hp} {x : V} {L : List Int} (h : NumsAt K H x L) (s : Same H H') : NumsAt K H' x L := let ⟨p, e, h1, h2⟩ := h; ⟨p, e, h1.imp (fun h => s.seq h) (fun h => same_seqT s h), h2⟩
theorem nums_lst {H : Hp} {q : Addr} {L : List Int} (h : H q = some (.lst (L.map V.int))) (hl : L.length ≤ 1000) : NumsAt K H (.ref q) L := ⟨q, rfl, .inl (SqL.of h), hl⟩
def spAscG (K : PySem.W.Frag) : Sp := fun vs H Q _ => ∃ x L, vs = [x] ∧ NumsAt K H x L ∧ ∀ m H', Same H H' → H m = Option.none → H' m = some (.lst ((XT.srt L).map V.int)) → Q (.ref m) H'
theorem ok_ascending (T : Txt K mg a) : FnR P w K mg base CX0 3 a.ascending (spAscG K) := by
  obtain ⟨fd, F⟩ := T.F_ascending
  refine XT.okR F sc_ascending bn_ascending (fun vs H Q E h => ?_) (fun cdv A outer s H vs Q E hr h => ?_)
  · obtain ⟨x, L, rfl, _⟩ := h
    rfl
  · obtain ⟨x, L, rfl, ⟨p, rfl, hS, hl⟩, k⟩ := h
    have G_is_number_list := ok_is_number_list (P := P) (w := w) (base := base) T
    refine ⟨_, (pss_cons (ps_if (pt_not (pt_val (pe_callR G_is_number_list (hr.mono (by decide)) rfl T.g_is_number_list T.k_is_number_list pass0 (pa_cons (pv 0) pa_nil)))) (pss_one ps_never) pss_nil)
      (pss_one (ps_ret (pe_callB (sortedAK K) (by rfl) T.b_sorted (by decide +kernel) (pa_cons (pv 0) pa_nil))))), ?_⟩
    refine ⟨_, rfl, _, rfl, .inl ⟨L.map V.int, ⟨p, rfl, hS, kv_ints L, by rw [List.length_map]; omega⟩, fun H1 s1 => ⟨_, rfl, iteN (by rw [nums_of]; rfl) ?_⟩⟩⟩
    refine ⟨_, rfl, p, L, rfl, hS.imp (fun h => s1.seq h) (fun h => same_seqT s1 h), fun N q pm up nq => ?_⟩
    rw [XT.srt_of pm up]
    exact k q _ (s1.trans (same_new nq)) (s1.free nq) upd_same

/-- united -/
def spUnited (K : PySem.W.Frag) : Sp := fun vs H Q _ => ∃ (p q : Addr) (B N : List Int), vs = [.ref p, .ref q] ∧ (SqL K H p (B.map V.int) ∨ SqT K H p (B.map V.int)) ∧ (SqL K H q (N.map V.int) ∨ SqT K H q (N.map V.int)) ∧ B.length + N.length ≤ 4000 ∧
  ∀ r A H', Same H H' → H r = Option.none → H' r = some (.lst (A.map V.int)) → Tbl.Asc A → (∀ x, x ∈ A ↔ x ∈ B ∨ x ∈ N) → A.length ≤ B.length + N.length → Q (.ref r) H'
theorem ok_united (T : Txt K mg a) : FnR P w K mg base CX0 1 a.united (spUnited K) := by
  obtain ⟨fd, F⟩ := T.F_united
  refine XT.okR F sc_united bn_united (fun vs H Q E h => ?_) (fun cdv A outer s H vs Q E hr h => ?_)
  · obtain ⟨p, q, B, N, rfl, _⟩ := h
    rfl
  · obtain ⟨p, q, B, N, rfl, hp, hq, hl, k⟩ := h
    refine ⟨_, (pss_one (ps_ret (pe_callB (sortSK w rfl) (by rfl) T.b_sorted (by decide +kernel) (pa_cons (pe_callTy (setLK K w rfl) (by rfl) T.b_set (by decide +kernel) (pa_cons (pe_lst (starK K (StX.pa_star (pv 0) (starK K (StX.pa_star (pv 1) pa_nil))))) pa_nil)) pa_nil)))), ?_⟩
    have ee : B.map V.int ++ (N.map V.int ++ []) = (B ++ N).map V.int := by rw [List.append_nil, List.map_append]
    refine ⟨_, rfl, p, _, rfl, hp.symm, _, rfl, q, _, rfl, hq.symm, ?_, fun l hn => ?_⟩
    · rw [ee, List.length_map, List.length_append]
      exact Nat.le_trans (show B.length + N.length ≤ 100000 by omega) line_ge
    rw [ee]
    have s0 := same_new (o := .lst ((B ++ N).map V.int)) hn
    have hl1 : (upd H l (.lst ((B ++ N).map V.int))) l = some (.lst ((B ++ N).map V.int)) := upd_same
    generalize upd H l (.lst ((B ++ N).map V.int)) = H1 at s0 hl1 ⊢
    refine ⟨l, B ++ N, rfl, SqL.of hl1, by rw [List.length_append]; exact hl, fun c n hc hcn => ?_⟩
    refine ⟨c, _, n, rfl, upd_same, by rw [List.length_append] at hcn; omega, fun A r asc mem len hr => ?_⟩
    have s1 := (s0.trans (same_new (o := SetO w c (fun j => decide (j ∈ B ++ N)) n) hc)).trans (same_new (o := .lst (A.map V.int)) hr)
    refine k r A _ s1 ((s0.trans (same_new (o := SetO w c (fun j => decide (j ∈ B ++ N)) n) hc)).free hr) upd_same asc (fun x => ?_) (by rw [List.length_append] at hcn; omega)
    rw [mem x, decide_eq_true_eq, List.mem_append]

/-- total_after -/
def spTotal (K : PySem.W.Frag) (CE CT : Addr) : Sp := fun vs H Q _ => ∃ (e m : Addr) (t : Int) (S : List Stp) (N : List Int), vs = [.ref e, .ref m, .int t] ∧ EffAt K CE CT H e S ∧ SqL K H m (N.map V.int) ∧ Tbl.Up N ∧ Q (.int (Eff.smp t S (Tbl.cnt N t))) H
theorem ok_total_after (T : Txt K mg a) : FnR P w K mg base CX0 4 a.total_after (spTotal K a.Effect a.Table) := by
  obtain ⟨fd, F⟩ := T.F_total_after
  refine XT.okR F sc_total_after bn_total_after (fun vs H Q E h => ?_) (fun cdv A outer s H vs Q E hr h => ?_)
  · obtain ⟨e, m, t, S, N, rfl, _⟩ := h
    rfl
  · obtain ⟨e, m, t, S, N, rfl, he, hm, up, k⟩ := h
    have G_how_many_up_to := ok_how_many_up_to (P := P) (w := w) (base := base) T
    have G_table := ok_Effect_table (P := P) (w := w) (base := base) T
    have G_call_T := ok_Table___call__ (P := P) (w := w) (base := base) T
    refine ⟨_, (pss_cons (ps_set (i := 3) sc_total_after.nd rfl (Or.inl rfl) (pe_methR (pv 0) T.cl_E T.m_table G_table (hr.mono (by decide)) pass0 (pa_cons (pv 2) pa_nil)))
      (pss_one (ps_ret (pe_callI (pv 3) T.callO_T G_call_T (hr.mono (by decide)) pass0 (pa_cons (pe_callR G_how_many_up_to (hr.mono (by decide)) rfl T.g_how_many_up_to T.k_how_many_up_to pass0 (pa_cons (pv 1) (pa_cons (pv 2) pa_nil))) pa_nil))))), ?_⟩
    obtain ⟨dx, pb, qt, h1⟩ := he.ins
    refine ⟨_, rfl, e, dx, _, rfl, h1, efl_no _ _ (by decide +kernel) (by decide +kernel), _, rfl, e, S, t, rfl, he, fun r tb => ?_⟩
    refine ⟨_, rfl, r, rfl, _, rfl, _, rfl, m, t, N, rfl, .inl hm, up, tb.insA, r, _, _, _, rfl, tb, Tbl.cnt_nn N t, ?_⟩
    rw [Eff.tb_mp he.good (Tbl.cnt_nn N t)]
    exact k

/-- spread -/
def spSpread (K : PySem.W.Frag) : Sp := fun vs H Q _ => ∃ (p q : Addr) (A F : List Int), vs = [.ref p, .ref q] ∧ SqL K H p (A.map V.int) ∧ SqL K H q (F.map V.int) ∧ A.length = F.length ∧ F.Pairwise (· ≤ ·) ∧ (∀ x ∈ F, 0 ≤ x ∧ x ≤ 90000) ∧
  ∀ r H', Same H H' → H r = Option.none → H' r = some (.lst ((Eff.spr 0 (A.zip F)).map V.int)) → Q (.ref r) H'
theorem spr_drop {A F : List Int} {i : Nat} {v f b : Int} (h1 : A[i]? = some v) (h2 : F[i]? = some f) : Eff.spr b ((A.zip F).drop i) = List.replicate (f - b).toNat v ++ Eff.spr f ((A.zip F).drop (i + 1)) := by
  have h3 : (A.zip F)[i]? = some (v, f) := by
    rw [List.getElem?_zip_eq_some]
    exact ⟨h1, h2⟩
  obtain ⟨hi, e⟩ := List.getElem?_eq_some_iff.mp h3
  rw [List.drop_eq_getElem_cons hi, e]
  rfl
theorem ok_spread (T : Txt K mg a) : FnR P w K mg base CX0 1 a.spread (spSpread K) := by
  obtain ⟨fd, F⟩ := T.F_spread
  refine XT.okR F sc_spread bn_spread (fun vs H Q E h => ?_) (fun cdv A outer s H vs Q E hr h => ?_)
  · obtain ⟨p, q, A, F, rfl, _⟩ := h
    rfl
  · obtain ⟨p, q, A, F, rfl, hp, hq, hl, pw, bd, k⟩ := h
    refine ⟨_, (pss_cons (ps_set (i := 2) sc_spread.nd rfl (Or.inl rfl) (pe_lst pa_nil))
      (pss_cons (ps_set (i := 3) sc_spread.nd rfl (Or.inl rfl) pe_int)
      (pss_cons (ps_for PassesOwn.never rfl (RZ.pi_zipA (by rfl) T.b_zip (pa_cons (pv 0) (pa_cons (pv 1) pa_nil))) (tupK K (n := 2) (by rfl) (pgs_cons (pg_name (i := 4) sc_spread.nd rfl (Or.inl rfl)) (pgs_cons (pg_name (i := 5) sc_spread.nd rfl (Or.inl rfl)) pgs_nil)))
        (pss_cons (ps_expr (bmK K (pe_bm PySem.F.plainAttrs_list PySem.F.slot_list_extend PySem.F.type_list_extend mt_extend (pv 2) (pa_cons (pe_op op_rep (pe_lst (pa_cons (pv 4) pa_nil)) (pe_op op_sub (pv 5) (pv 3))) pa_nil))))
      (pss_one (ps_set (i := 3) sc_spread.nd rfl (Or.inl rfl) (pv 5)))))
      (pss_one (ps_ret (pv 2)))))), ?_⟩
    refine ⟨Nat.zero_le _, fun r hr => ?_⟩
    have s0 := same_new (o := .lst []) hr
    refine ⟨_, rfl, _, rfl, p, q, _, _, rfl, .inl ⟨s0.seq hp, s0.seq hq, RZ.for_zipL (K := K) (a := p) (b := q) (xs := A.map V.int) (ys := F.map V.int) (by rw [List.length_map, List.length_map, hl]) (fun i σ H' => ∃ (b : Int) (acc : List Int) (o4 o5 : Option V), σ = [some (.ref p), some (.ref q), some (.ref r), some (.int b), o4, o5] ∧ Same H H' ∧ H' r = some (.lst (acc.map V.int)) ∧ 0 ≤ b ∧ (acc.length : Int) ≤ b ∧ b ≤ 90000 ∧ (∀ x ∈ F.drop i, b ≤ x) ∧ Eff.spr 0 (A.zip F) = acc ++ Eff.spr b ((A.zip F).drop i))
      ⟨0, [], _, _, rfl, s0, upd_same, by decide, by simp, by decide, fun x hx => (bd x hx).1, rfl⟩ (fun i σ H' ⟨_, _, _, _, _, s, _⟩ => ⟨s.seq hp, s.seq hq⟩) ?_ ?_⟩⟩
    · rintro i x y U σ H' hx hy ⟨b, acc, o4, o5, rfl, s, hr', b0, hab, hb9, hF, hE⟩ hU
      rw [List.getElem?_map] at hx hy
      obtain ⟨v, hv, rfl⟩ := Option.map_eq_some_iff.mp hx
      obtain ⟨f, hf, rfl⟩ := Option.map_eq_some_iff.mp hy
      have sU := same_new (o := .tup [V.int v, V.int f]) hU
      obtain ⟨hi, ef⟩ := List.getElem?_eq_some_iff.mp hf
      have hbf : b ≤ f := hF f (by rw [List.drop_eq_getElem_cons hi, ef]; exact List.mem_cons_self)
      have hf9 := (bd f (List.mem_of_getElem? hf)).2
      refine ⟨U, [.int v, .int f], rfl, SqT.of upd_same, rfl, .int v, [.int f], rfl, .int f, [], rfl, rfl, ?_⟩
      have hr1 := sU _ _ hr'
      refine ⟨_, rfl, .inl ⟨rfl, _, SqL.of hr1⟩, _, rfl, by show 1 ≤ sizeLine; decide, fun d hd => ?_⟩
      have s2 := same_new (o := .lst [V.int v]) hd
      refine ⟨_, rfl, _, rfl, _, _, rfl, rfl, d, f - b, [V.int v], rfl, rfl, upd_same, by omega, by omega, ?_, fun c hc => ?_⟩
      · show 1 * (f - b).toNat ≤ sizeLine
        exact Nat.le_trans (show 1 * (f - b).toNat ≤ 100000 by omega) line_ge
      have efl2 : (List.replicate (f - b).toNat [V.int v]).flatten = (List.replicate (f - b).toNat v).map V.int := by
        generalize (f - b).toNat = n
        induction n with
        | zero => rfl
        | succ n ih => rw [List.replicate_succ, List.replicate_succ, List.flatten_cons, ih]; rfl
      rw [efl2]
      have s3 := same_new (o := .lst ((List.replicate (f - b).toNat v).map V.int)) hc
      refine ⟨r, c, _, _, rfl, rfl, s3 _ _ (s2 _ _ hr1), upd_same, ?_, ?_⟩
      · rw [List.length_map, List.length_map, List.length_replicate]
        exact Nat.le_trans (show acc.length + (f - b).toNat ≤ 100000 by omega) line_ge
      refine ⟨_, rfl, f, acc ++ List.replicate (f - b).toNat v, _, _, rfl, same_upd (((s.trans sU).trans s2).trans s3) hr, ?_, by omega, ?_, hf9, ?_, ?_⟩
      · rw [upd_same, List.map_append]
      · rw [List.length_append, List.length_replicate]
        omega
      · intro x hx
        rw [List.drop_eq_getElem_cons hi, List.forall_mem_cons] at hF
        have h4 := pw
        rw [← List.take_append_drop i F] at h4
        have h5 := (List.pairwise_append.mp h4).2.1
        rw [List.drop_eq_getElem_cons hi, ef] at h5
        exact (List.pairwise_cons.mp h5).1 x hx
      · rw [hE, spr_drop hv hf, List.append_assoc]
    · rintro σ H' ⟨b, acc, o4, o5, rfl, s, hr', b0, hab, hb9, hF, hE⟩
      refine ⟨_, rfl, k r H' s hr ?_⟩
      rw [hE, List.drop_of_length_le (by rw [List.length_zip, List.length_map]; omega), hr']
      simp [Eff.spr]

/-- Effect.__call__ -/
def spCallE (K : PySem.W.Frag) (CE CT : Addr) : Sp := fun vs H Q _ => ∃ (e : Addr) (x : V) (S : List Stp) (L : List Int), vs = [.ref e, x] ∧ EffAt K CE CT H e S ∧ NumsAt K H x L ∧ S.length ≤ 2000 ∧ Eff.need S ≤ L.length ∧
  ∀ M, XT.runR (XT.srt L) 0 S = .inl M → ∀ m H', Same H H' → H m = Option.none → H' m = some (.lst (M.map V.int)) → Q (.ref m) H'
theorem cnt_pw {A M : List Int} (h : Tbl.Asc A) : (A.map fun v => Tbl.cnt M v).Pairwise (· ≤ ·) := List.pairwise_map.mpr (h.imp fun z => Tbl.cnt_mono M (by omega))
theorem eff_but {CE CT : Addr} {H H' : Hp} {e p : Addr} {S : List Stp} (h : EffAt K CE CT H e S) (hp : PoolAt H p) (b : But p H H') : EffAt K CE CT H' e S := by
  obtain ⟨dx, pp, q, B, ts, he, h1, h2, hT, rest⟩ := h
  have kt : Kt K H H' := kt_but hp b
  have ni : ∀ {x C d : Addr} {fs : List (Str × V)}, H x = some (.ins C d fs) → H' x = some (.ins C d fs) := fun {x C d fs} hx => b _ _ (fun z => by
    obtain ⟨u, v, ev, _⟩ := hp
    rw [z, ev] at hx
    cases hx) hx
  refine ⟨dx, pp, q, B, ts, ni he, kt _ _ h1, kt _ _ h2, L2.Paired.mapP hT fun _ _ ⟨t, ex, z⟩ => ⟨t, ex, ?_⟩, rest⟩
  obtain ⟨dy, la, ht, hS, ok, hl⟩ := z
  exact ⟨dy, la, ni ht, kt _ _ hS, ok, hl⟩
/-- the law's own run -/
def spRunL (K : PySem.W.Frag) : Sp := fun vs H Q _ => ∃ (l : Addr) (x : V) (xs : List V) (S : List Stp) (L : List Int), vs = [.ref l, x] ∧ SqL K H l xs ∧ StsAt K H xs S ∧ (∀ s ∈ S, goodS s = true) ∧ NumsAt K H x L ∧ S.length ≤ 1000 ∧
  (∀ M, XT.runR (XT.srt L) 0 S = .inl M → ∀ m H', Same H H' → H m = Option.none → H' m = some (.lst (M.map V.int)) → Q (.ref m) H') ∧ (∀ i, XT.runR (XT.srt L) 0 S = .inr i → ∀ H', Same H H' → Q .non H')
theorem ok_law_run (T : Txt K mg a) : FnR P w K mg base CX0 1 a.law_run (spRunL K) := by
  obtain ⟨fd, F⟩ := T.F_law_run
  refine XT.okR F sc_law_run bn_law_run (fun vs H Q E h => ?_) (fun cdv A outer s H vs Q E hr h => ?_)
  · obtain ⟨l, x, xs, S, L, rfl, _⟩ := h
    rfl
  · obtain ⟨l, x, xs, S, L, rfl, hS, hX, hg, ⟨p, rfl, hN, hl⟩, hs, k1, k2⟩ := h
    refine ⟨_, (pss_cons (ps_set (i := 2) sc_law_run.nd rfl (Or.inl rfl) (pe_callB (sortedAK K) (by rfl) T.b_sorted (by decide +kernel) (pa_cons (pv 1) pa_nil)))
      (pss_cons (ps_for PassesOwn.never rfl (pi_list (pv 0)) (tupK K (n := 2) (by rfl) (pgs_cons (pg_name (i := 3) sc_law_run.nd rfl (Or.inl rfl)) (pgs_cons (pg_name (i := 4) sc_law_run.nd rfl (Or.inl rfl)) pgs_nil)))
        (pss_one (ps_if (pt_cmpR op_eq (pv 3) pe_str (nomark _)) (pss_one (ps_set (i := 2) sc_law_run.nd rfl (Or.inl rfl) (pe_callB (sortedAK K) (by rfl) T.b_sorted (by decide +kernel) (pa_cons (pe_op op_cat (pv 2) (pe_lst (pa_cons (pv 4) pa_nil))) pa_nil)))) (pss_one (ps_if (pt_cmpR op_gt (pv 4) (pe_callB (lenK K) (by rfl) T.b_len (by decide +kernel) (pa_cons (pv 2) pa_nil)) (nomark _)) (pss_one (ps_ret pe_non)) (pss_one (ps_set (i := 2) sc_law_run.nd rfl (Or.inl rfl) (pe_op op_cat (pe_slice (slLK K) (pv 2) po_none (po_some (pe_op op_sub (pv 4) pe_int))) (pe_slice (slLK K) (pv 2) (po_some (pv 4)) po_none)))))))))
      (pss_one (ps_ret (pv 2))))), ?_⟩
    refine ⟨_, rfl, p, L, rfl, hN, fun N m0 pm up n0 => ?_⟩
    rw [XT.srt_of pm up]
    have s1 := same_new (o := .lst ((XT.srt L).map V.int)) n0
    refine ⟨_, rfl, l, rfl, ⟨_, s1.seq hS⟩, for_list (K := K) (a := l) (xs := xs) (fun i σ H' => ∃ (m : Addr) (M : List Int) (o3 o4 : Option V), σ = [some (.ref l), some (.ref p), some (.ref m), o3, o4] ∧ Same H H' ∧ H m = Option.none ∧ H' m = some (.lst (M.map V.int)) ∧ M.length ≤ 1000 + i ∧ XT.runR (XT.srt L) 0 S = XT.runR M i (S.drop i))
      ⟨m0, XT.srt L, _, _, rfl, s1, n0, upd_same, by rw [XT.srt_len]; omega, rfl⟩ (fun i σ H' _ ⟨_, _, _, _, _, s, _⟩ => s.seq hS) ?_ ?_⟩
    · rintro i x σ H' hx ⟨m, M, o3, o4, rfl, s, nm, hm, hml, hrun⟩
      obtain ⟨⟨b, n⟩, hst, r, rfl, hr⟩ := pd_get hX hx
      have gst := hg _ (List.mem_of_getElem? hst)
      have hi2 : i < S.length := (List.getElem?_eq_some_iff.mp hst).1
      refine ⟨r, _, rfl, same_seqT s hr, rfl, _, _, rfl, _, _, rfl, rfl, ?_⟩
      refine ⟨_, rfl, rfl, _, rfl, ?_⟩
      rw [wrd_ins]
      cases b with
      | true =>
        refine iteH rfl ?_
        refine ⟨_, rfl, _, rfl, by show 1 ≤ sizeLine; decide, fun c1 hc1 => ?_⟩
        have sc1 := same_new (o := .lst [V.int n]) hc1
        refine ⟨m, c1, _, _, rfl, rfl, sc1 _ _ hm, upd_same, ?_, fun c2 hc2 => ?_⟩
        · rw [List.length_map, List.length_singleton]
          exact Nat.le_trans (show M.length + 1 ≤ 100000 by omega) line_ge
        have sc2 := same_new (o := .lst (M.map V.int ++ [V.int n])) hc2
        have e : (M.map V.int ++ [V.int n] : List V) = (M ++ [n]).map V.int := by rw [List.map_append]; rfl
        refine ⟨c2, M ++ [n], rfl, .inl (SqL.of (by rw [← e]; exact upd_same)), fun N2 q2 pm2 up2 nq2 => ?_⟩
        rw [XT.srt_of pm2 up2]
        have s3 := ((s.trans sc1).trans sc2)
        exact ⟨q2, XT.srt (M ++ [n]), _, _, rfl, s3.trans (same_new nq2), s3.free nq2, upd_same, by rw [XT.srt_len, List.length_append]; simp; omega, by rw [hrun, XT.runR_step hst (M := XT.srt (M ++ [n])) rfl]⟩
      | false =>
        refine iteN rfl ?_
        have gd' : 0 < n := by simpa [goodS] using gst
        refine ⟨_, rfl, _, rfl, m, _, rfl, .inl (SqL.of hm), _, _, rfl, rfl, _, rfl, ite2 (fun h1 => ?_) (fun h1 => ?_)⟩
        · have h1' : n > ((M.map V.int).length : Int) := of_decide_eq_true h1
          rw [List.length_map] at h1'
          have e : XT.stepR M (false, n) = Option.none := by
            simp only [XT.stepR]
            rw [if_pos (show (M.length : Int) < n by omega)]
          exact k2 i (by rw [hrun, XT.runR_fail hst e]) _ s
        · have h1' : ¬ n > ((M.map V.int).length : Int) := fun z => h1 (decide_eq_true z)
          rw [List.length_map] at h1'
          have e : XT.stepR M (false, n) = some (M.take (n - 1).toNat ++ M.drop n.toNat) := by
            simp only [XT.stepR]
            rw [if_neg (show ¬ (M.length : Int) < n by omega)]
          refine ⟨_, rfl, _, rfl, _, _, rfl, rfl, _, rfl, m, _, rfl, SqL.of hm, fun p1 hp1 => ?_⟩
          have sp1 := same_new (o := .lst (cutV (M.map V.int) Option.none (some (n - 1)))) hp1
          refine ⟨_, rfl, _, rfl, _, rfl, m, _, rfl, SqL.of (sp1 _ _ hm), fun p2 hp2 => ?_⟩
          have sp2 := same_new (o := .lst (cutV (M.map V.int) (some n) Option.none)) hp2
          refine ⟨p1, p2, _, _, rfl, rfl, sp2 _ _ upd_same, upd_same, ?_, fun p3 hp3 => ?_⟩
          · have h1 := cutV_length (M.map V.int) Option.none (some (n - 1))
            have h2 := cutV_length (M.map V.int) (some n) Option.none
            rw [List.length_map] at h1 h2
            exact Nat.le_trans (Nat.add_le_add h1 h2) (Nat.le_trans (show M.length + M.length ≤ 100000 by omega) line_ge)
          · have s3 := (s.trans sp1).trans sp2
            exact ⟨p3, _, _, _, rfl, s3.trans (same_new hp3), s3.free hp3, by rw [upd_same, XT.cut_rm gd'], by have := XT.stepR_len e; omega, by rw [hrun, XT.runR_step hst e]⟩
    · rintro σ H' ⟨m, M, o3, o4, rfl, s, nm, hm, hml, hrun⟩
      refine ⟨_, rfl, k1 M ?_ m H' s nm hm⟩
      rw [hrun, hX.length, List.drop_length]
      rfl

end
end K13
namespace K13
open PySem L2 XT
section
variable {P : Program} {w : World} {K : PySem.W.Frag} {mg : Str → Option Value} {base : Heap} {a : Ads}
local macro_rules | `(tactic| walk_at "rside") => `(tactic| first | (show (0 : Int) < _; first | decide | omega) | (exact ⟨by first | decide | omega, by first | decide | omega⟩) | (exact Or.inl ⟨by omega, by omega⟩) | (exact Or.inr ⟨by omega, by omega⟩) | (exact ⟨by decide, by decide, by decide⟩))
local macro_rules | `(tactic| walk_at "rd1") => `(tactic| first | (refine ⟨_, rfl, ?_⟩) | (refine ⟨_, _, rfl, rfl, (by walk_at "rside"), ?_⟩) | (refine ⟨_, _, rfl, rfl, ?_⟩))
local macro_rules | `(tactic| walk_at "rd") => `(tactic| repeat (walk_at "rd1"))

/-- a tuple + a tuple, by what stands behind -/
def rCatS (K : PySem.W.Frag) : R2 := fun x y H Q => ∃ a b xs ys, x = .ref a ∧ y = .ref b ∧ SqT K H a xs ∧ SqT K H b ys ∧ xs.length + ys.length ≤ sizeLine ∧ ∀ r H', Same H H' → SqT K H' r (xs ++ ys) → Q (.ref r) H'
theorem catTS {X : Cx} (K : PySem.W.Frag) (hK : X.K = K := by rfl) : OpR X (binaryOp .Add) (rCatS K) := by
  subst hK
  intro pins s σ H x y v u Q I rx ry h
  obtain ⟨a, b, xs, ys, rfl, rfl, ha, hb, hz, q⟩ := h
  refine op_catA pins s σ H _ _ v u Q I rx ry ⟨a, b, xs, ys, rfl, rfl, ha, hb, hz, fun e => ?_, fun _ e => ?_, fun _ _ p hp => q p _ (same_new hp) (SqT.of upd_same)⟩
  · exact q b H (Same.refl H) (by rw [e, List.nil_append]; exact hb)
  · exact q a H (Same.refl H) (by rw [e, List.append_nil]; exact ha)
def rSlS (K : PySem.W.Frag) : V → Option Int → Option Int → Hp → VK → Prop := fun x lo hi H Q => ∃ a xs, x = .ref a ∧ SqT K H a xs ∧ ∀ r H', Same H H' → SqT K H' r (cutV xs lo hi) → Q (.ref r) H'
theorem slTS {X : Cx} (K : PySem.W.Frag) (hK : X.K = K := by rfl) : SlR X (rSlS K) := by
  subst hK
  intro pins s σ H x v vl vu lo hi sl Q I rx hs pl pu h
  obtain ⟨a, xs, rfl, ha, q⟩ := h
  refine sl_tupA pins s σ H _ v vl vu lo hi sl Q I rx hs pl pu ⟨a, xs, rfl, ha, fun w => q a H (Same.refl H) ?_, fun _ p hp => q p _ (same_new hp) (SqT.of upd_same)⟩
  have e : cutV xs lo hi = xs := by
    unfold cutV
    rw [w.1, w.2]
    simp
  rw [e]
  exact ha
def optV : Option Int → V
  | none => .non
  | some c => .int c
def spLD (K : PySem.W.Frag) (CT : Addr) : Sp := fun vs H Q _ => ∃ (t u : Addr) (z1 z2 : Int) (L1 L2 : List Int), vs = [.ref t, .ref u] ∧ TabAt K CT H t z1 L1 ∧ TabAt K CT H u z2 L2 ∧ ∀ H', Same H H' → Q (optV (Cmp.ldT (z1, L1) (z2, L2))) H'
theorem ok_least_difference (T : Txt K mg a) : FnR P w K mg base CX0 4 a.least_difference (spLD K a.Table) := by
  obtain ⟨fd, F⟩ := T.F_least_difference
  refine XT.okR F sc_least_difference bn_least_difference (fun vs H Q E h => ?_) (fun cdv A outer s H vs Q E hr h => ?_)
  · obtain ⟨t, u, z1, z2, A, B, rfl, _⟩ := h
    rfl
  · obtain ⟨t, u, z1, z2, A, B, rfl, h1, h2, k⟩ := h
    have G_start := ok_Table_start (P := P) (w := w) (base := base) T
    have G_lost := ok_Table_lost (P := P) (w := w) (base := base) T
    refine ⟨_, (pss_cons (ps_if (pt_cmpR op_ne (pe_propR (pv 0) T.cl_T T.p_start G_start (hr.mono (by decide)) pass0 rfl) (pe_propR (pv 1) T.cl_T T.p_start G_start (hr.mono (by decide)) pass0 rfl) (nomark _)) (pss_one (ps_ret pe_int)) pss_nil)
      (pss_cons (ps_for PassesOwn.never rfl (RZ.pi_zipA (by rfl) T.b_zip (pa_cons (pe_propR (pv 0) T.cl_T T.p_lost G_lost (hr.mono (by decide)) pass0 rfl) (pa_cons (pe_propR (pv 1) T.cl_T T.p_lost G_lost (hr.mono (by decide)) pass0 rfl) pa_nil))) (tupK K (n := 2) (by rfl) (pgs_cons (pg_name (i := 2) sc_least_difference.nd rfl (Or.inl rfl)) (pgs_cons (pg_name (i := 3) sc_least_difference.nd rfl (Or.inl rfl)) pgs_nil)))
        (pss_one (ps_if (pt_cmpR op_ne (pv 2) (pv 3) (nomark _)) (pss_one (ps_ret (pe_callB (call_min2 rfl) (by rfl) T.b_min (by decide +kernel) (pa_cons (pv 2) (pa_cons (pv 3) pa_nil))))) pss_nil)))
      (pss_cons (ps_set (i := 4) sc_least_difference.nd rfl (Or.inl rfl) (pe_callB (call_min2 rfl) (by rfl) T.b_min (by decide +kernel) (pa_cons (pe_callB (lenK K) (by rfl) T.b_len (by decide +kernel) (pa_cons (pe_propR (pv 0) T.cl_T T.p_lost G_lost (hr.mono (by decide)) pass0 rfl) pa_nil)) (pa_cons (pe_callB (lenK K) (by rfl) T.b_len (by decide +kernel) (pa_cons (pe_propR (pv 1) T.cl_T T.p_lost G_lost (hr.mono (by decide)) pass0 rfl) pa_nil)) pa_nil))))
      (pss_cons (ps_set (i := 5) sc_least_difference.nd rfl (Or.inl rfl) (pe_op (catTS K) (pe_slice (slTS K) (pe_propR (pv 0) T.cl_T T.p_lost G_lost (hr.mono (by decide)) pass0 rfl) (po_some (pv 4)) po_none) (pe_slice (slTS K) (pe_propR (pv 1) T.cl_T T.p_lost G_lost (hr.mono (by decide)) pass0 rfl) (po_some (pv 4)) po_none)))
      (pss_one (ps_ret (pe_ifExp (pt_truth (pv 5) (fun _ => rfl)) (pe_ix (ixTK K) (pv 5) pe_int (fun _ _ => rfl)) pe_non))))))), ?_⟩
    obtain ⟨d1, a1, i1, t1, ok1, m1⟩ := id h1
    obtain ⟨d2, a2, i2, t2, ok2, m2⟩ := id h2
    refine ⟨_, rfl, t, d1, _, rfl, i1, t, z1, A, rfl, h1, _, rfl, u, d2, _, rfl, i2, u, z2, B, rfl, h2, ?_⟩
    refine ⟨rfl, _, rfl, ite2 (fun hne => ?_) (fun heq => ?_)⟩
    · have e : Cmp.ldT (z1, A) (z2, B) = some 0 := by
        unfold Cmp.ldT
        rw [if_neg (by simpa using hne)]
      have := k H (Same.refl H)
      rw [e] at this
      exact this
    have ez : z1 = z2 := by simpa using heq
    have eT : Cmp.ldT (z1, A) (z2, B) = Cmp.ld A B := by unfold Cmp.ldT; rw [if_pos ez]
    rw [eT] at k
    refine ⟨_, rfl, t, d1, _, rfl, i1, t, z1, A, rfl, h1, fun p hp => ⟨_, rfl, u, d2, _, rfl, i2, u, z2, B, rfl, h2, fun q hq => ?_⟩⟩
    refine ⟨p, q, _, _, rfl, .inr ⟨hp, hq, ?_⟩⟩
    refine ZT.for_zipTm (K := K) (a := p) (b := q) (fun i σ H' => ∃ o2 o3, σ = [some (.ref t), some (.ref u), o2, o3, none, none] ∧ Same H H' ∧ A.take i = B.take i) ⟨_, _, rfl, Same.refl _, rfl⟩ (fun i σ H' ⟨_, _, _, s, _⟩ => ⟨same_seqT s hp, same_seqT s hq⟩) ?_ ?_
    · rintro i x y TT σ H1 hx hy ⟨o2, o3, rfl, s1, et⟩ hT
      rw [List.getElem?_map] at hx hy
      obtain ⟨x, ex, rfl⟩ := Option.map_eq_some_iff.mp hx
      obtain ⟨y, ey, rfl⟩ := Option.map_eq_some_iff.mp hy
      have sT := same_new (o := .tup [V.int x, V.int y]) hT
      have hiA := (List.getElem?_eq_some_iff.mp ex).1
      have hiB := (List.getElem?_eq_some_iff.mp ey).1
      refine ⟨TT, [V.int x, V.int y], rfl, SqT.of upd_same, rfl, _, [V.int y], rfl, V.int y, [], rfl, rfl, ?_⟩
      refine ⟨_, rfl, _, rfl, rfl, _, rfl, ite2 (fun hne => ?_) (fun heq => ?_)⟩
      · have hxy : x ≠ y := by simpa using hne
        refine ⟨_, rfl, _, rfl, _, _, rfl, ?_⟩
        have e := Cmp.ld_drop i (by omega) (by omega) et
        have eA : A.drop i = x :: A.drop (i + 1) := by rw [List.drop_eq_getElem_cons hiA]; congr 1; exact (List.getElem?_eq_some_iff.mp ex).2
        have eB : B.drop i = y :: B.drop (i + 1) := by rw [List.drop_eq_getElem_cons hiB]; congr 1; exact (List.getElem?_eq_some_iff.mp ey).2
        have e2 : Cmp.ld (A.drop i) (B.drop i) = some (if y < x then y else x) := by
          rw [eA, eB]
          show (if x = y then _ else _) = _
          rw [if_neg hxy]
        have := k _ (s1.trans sT)
        rw [e, e2] at this
        exact this
      · have hxy : x = y := by simpa using heq
        refine ⟨_, _, rfl, s1.trans sT, ?_⟩
        rw [List.take_add_one, List.take_add_one, ex, ey, et, hxy]
    · rintro σ H1 ⟨o2, o3, rfl, s1, et⟩
      rw [List.length_map, List.length_map] at et
      have h1' := h1.same s1
      have h2' := h2.same s1
      refine ⟨_, rfl, t, d1, _, rfl, s1 _ _ i1, t, z1, A, rfl, h1', fun p1 hp1 => ⟨p1, _, rfl, .inr hp1, _, rfl, u, d2, _, rfl, s1 _ _ i2, u, z2, B, rfl, h2', fun q1 hq1 => ⟨q1, _, rfl, .inr hq1, _, _, rfl, ?_⟩⟩⟩
      rw [List.length_map, List.length_map]
      obtain ⟨n, hn⟩ : ∃ n, n = min A.length B.length := ⟨_, rfl⟩
      have en : (if (B.length : Int) < (A.length : Int) then (B.length : Int) else (A.length : Int)) = (n : Int) := by split <;> omega
      rw [en]
      refine ⟨_, rfl, t, d1, _, rfl, s1 _ _ i1, t, z1, A, rfl, h1', fun p2 hp2 => ⟨_, rfl, _, rfl, p2, _, rfl, hp2, fun p3 H2 s2 hp3 => ?_⟩⟩
      rw [XT.cut_from] at hp3
      refine ⟨_, rfl, u, d2, _, rfl, s2 _ _ (s1 _ _ i2), u, z2, B, rfl, h2'.same s2, fun q2 hq2 => ⟨_, rfl, _, rfl, q2, _, rfl, hq2, fun q3 H3 s3 hq3 => ?_⟩⟩
      rw [XT.cut_from] at hq3
      refine ⟨p3, q3, _, _, rfl, rfl, same_seqT s3 hp3, hq3, Nat.le_trans (by rw [List.length_drop, List.length_drop, List.length_map, List.length_map]; show A.length - n + (B.length - n) ≤ 100000; omega) line_ge, fun r H4 s4 hr4 => ?_⟩
      have s14 := ((s1.trans s2).trans s3).trans s4
      have eld := Cmp.ld_drop (A := A) (B := B) n (by omega) (by omega) (by rw [hn]; exact et)
      have er : (A.map V.int).drop n ++ (B.map V.int).drop n = (A.drop n ++ B.drop n).map V.int := by rw [List.map_append, List.map_drop, List.map_drop]
      rw [er] at hr4
      rw [eld] at k
      refine ⟨_, rfl, _, .inr (.inl ⟨_, hr4, rfl⟩), ?_⟩
      have hcase : A.drop n = [] ∨ B.drop n = [] := by
        by_cases h : A.length ≤ B.length
        · exact .inl (List.drop_of_length_le (by omega))
        · exact .inr (List.drop_of_length_le (by omega))
      have kk := k _ s14
      generalize A.drop n = A2 at hr4 kk hcase ⊢
      generalize B.drop n = B2 at hr4 kk hcase ⊢
      rcases hcase with rfl | rfl
      · cases B2 with
        | nil => exact iteN rfl kk
        | cons y B2 => exact iteH rfl ⟨_, rfl, r, _, 0, .int y, rfl, rfl, hr4, atI_nat (j := 0) rfl, kk⟩
      · cases A2 with
        | nil => exact iteN rfl kk
        | cons y A2 => exact iteH rfl ⟨_, rfl, r, _, 0, .int y, rfl, rfl, hr4, atI_nat (j := 0) rfl, kk⟩

/-- where two effects may differ first -/
abbrev ldf (S R : List Stp) (t : Int) : Option Int := Cmp.ldT (Eff.tb t S) (Eff.tb t R)
def FVa (H0 H : Hp) (v : V) : Option (Int × Int) → Prop
  | none => v = .non
  | some (t, c) => ∃ a, v = V.ref a ∧ H0 a = Option.none ∧ H a = some (.tup [.int t, .int c])
theorem FVa.same {H0 H H' : Hp} {v : V} : ∀ {u : Option (Int × Int)}, FVa H0 H v u → Same H H' → FVa H0 H' v u
  | none, h, _ => h
  | some (t, c), ⟨a, e, n, h⟩, s => ⟨a, e, n, s _ _ h⟩
def spFD (K : PySem.W.Frag) (CE CT : Addr) : Sp := fun vs H Q _ => ∃ (e f : Addr) (S R : List Stp), vs = [.ref e, .ref f] ∧ EffAt K CE CT H e S ∧ EffAt K CE CT H f R ∧ S.length + R.length ≤ 4000 ∧
  ∀ v A H', Same H H' → Tbl.Asc A → (∀ x, x ∈ A ↔ (true, x) ∈ S ∨ (true, x) ∈ R) → FVa H H' v (Cmp.fdF (ldf S R) (A ++ [Eff.low A])) → Q v H'
theorem ok_first_difference (T : Txt K mg a) : FnR P w K mg base CX0 5 a.first_difference (spFD K a.Effect a.Table) := by
  obtain ⟨fd, F⟩ := T.F_first_difference
  refine XT.okR F sc_first_difference bn_first_difference (fun vs H Q E h => ?_) (fun cdv A outer s H vs Q E hr h => ?_)
  · obtain ⟨e, f, S, R, rfl, _⟩ := h
    rfl
  · obtain ⟨e, f, S, R, rfl, hE, hF, hz, k⟩ := h
    have G_breaks := ok_Effect_breaks (P := P) (w := w) (base := base) T
    have G_united := ok_united (P := P) (w := w) (base := base) T
    have G_below_all := ok_below_all (P := P) (w := w) (base := base) T
    have G_table := ok_Effect_table (P := P) (w := w) (base := base) T
    have G_least_difference := ok_least_difference (P := P) (w := w) (base := base) T
    refine ⟨_, (pss_cons (ps_set (i := 2) sc_first_difference.nd rfl (Or.inl rfl) (pe_callR G_united (hr.mono (by decide)) rfl T.g_united T.k_united pass0 (pa_cons (pe_propR (pv 0) T.cl_E T.p_breaks G_breaks (hr.mono (by decide)) pass0 rfl) (pa_cons (pe_propR (pv 1) T.cl_E T.p_breaks G_breaks (hr.mono (by decide)) pass0 rfl) pa_nil))))
      (pss_cons (ps_set (i := 3) sc_first_difference.nd rfl (Or.inl rfl) pe_non)
      (pss_cons (ps_for PassesOwn.never rfl (pi_list (pe_lst (starK K (StX.pa_star (pv 2) (pa_cons (pe_callR G_below_all (hr.mono (by decide)) rfl T.g_below_all T.k_below_all pass0 (pa_cons (pv 2) pa_nil)) pa_nil))))) (pg_name (i := 4) sc_first_difference.nd rfl (Or.inl rfl))
        (pss_cons (ps_set (i := 5) sc_first_difference.nd rfl (Or.inl rfl) (pe_callR G_least_difference (hr.mono (by decide)) rfl T.g_least_difference T.k_least_difference pass0 (pa_cons (pe_methR (pv 0) T.cl_E T.m_table G_table (hr.mono (by decide)) pass0 (pa_cons (pv 4) pa_nil)) (pa_cons (pe_methR (pv 1) T.cl_E T.m_table G_table (hr.mono (by decide)) pass0 (pa_cons (pv 4) pa_nil)) pa_nil))))
      (pss_one (ps_if (PW.pt (pw_and (pt_cmpR op_notN (pv 5) pe_non (nomark _)) (pw_and1 (PW.pt (pw_or (pt_cmpR op_isN (pv 3) pe_non (nomark _)) (pw_or1 (pt_cmpR op_lt (pv 5) (pe_ix (ixTK K) (pv 3) pe_int (fun _ _ => rfl)) (nomark _)))))))) (pss_one (ps_set (i := 3) sc_first_difference.nd rfl (Or.inl rfl) (pe_tup (pa_cons (pv 4) (pa_cons (pv 5) pa_nil))))) pss_nil))))
      (pss_one (ps_ret (pv 3)))))), ?_⟩
    obtain ⟨de, pe, qe, ie⟩ := hE.ins
    obtain ⟨df, pf, qf, jf⟩ := hF.ins
    refine ⟨_, rfl, e, de, _, rfl, ie, e, S, rfl, hE, fun p1 C1 hp1 hC1 _ => ⟨_, rfl, f, df, _, rfl, jf, f, R, rfl, hF, fun p2 C2 hp2 hC2 _ => ?_⟩⟩
    have l1 := Eff.brk_len hC1
    have l2 := Eff.brk_len hC2
    refine ⟨p1, p2, C1, C2, rfl, .inr hp1, .inr hp2, by omega, fun r A H1 s1 n1 hr1 asc mem len => ?_⟩
    have mem : ∀ x, x ∈ A ↔ (true, x) ∈ S ∨ (true, x) ∈ R := fun x => by rw [mem, hC1.mem, hC2.mem]
    refine ⟨_, rfl, r, _, rfl, .inr (SqL.of hr1), _, rfl, r, A, rfl, SqL.of hr1, Nat.le_trans (by rw [List.length_append, List.length_map]; show A.length + 1 ≤ 100000; omega) line_ge, fun d hd => ?_⟩
    have ex : A.map V.int ++ [V.int (Eff.low A)] = (A ++ [Eff.low A]).map V.int := by simp
    have s2 := same_new (o := .lst (A.map V.int ++ [V.int (Eff.low A)])) hd
    have hd2 : (upd H1 d (.lst (A.map V.int ++ [V.int (Eff.low A)]))) d = some (.lst ((A ++ [Eff.low A]).map V.int)) := by rw [upd_same, ex]
    generalize upd H1 d (.lst (A.map V.int ++ [V.int (Eff.low A)])) = H2 at s2 hd2 ⊢
    have s02 := s1.trans s2
    have k := fun v H' => k v A H'
    generalize A ++ [Eff.low A] = N at hd2 k
    refine ⟨d, rfl, ⟨_, SqL.of hd2⟩, for_list (K := K) (a := d) (xs := N.map V.int) (fun i σ H' => ∃ o4 o5 fv, σ = [some (.ref e), some (.ref f), some (.ref r), some fv, o4, o5] ∧ Same H2 H' ∧ FVa H H' fv (Cmp.fdF (ldf S R) (N.take i))) ⟨_, _, _, rfl, Same.refl _, rfl⟩ (fun i σ H' _ ⟨_, _, _, _, s, _⟩ => s.seq (SqL.of hd2)) ?_ ?_⟩
    · rintro i x σ H3 hx ⟨o4, o5, fv, rfl, s3, hfv⟩
      rw [List.getElem?_map] at hx
      obtain ⟨t, et, rfl⟩ := Option.map_eq_some_iff.mp hx
      have s03 := s02.trans s3
      refine ⟨_, rfl, e, de, _, rfl, s03 _ _ ie, efl_no _ _ (by decide +kernel) (by decide +kernel), _, rfl, e, S, t, rfl, hE.same s03, fun r1 hr1' => ?_⟩
      refine ⟨_, rfl, f, df, _, rfl, s03 _ _ jf, efl_no _ _ (by decide +kernel) (by decide +kernel), _, rfl, f, R, t, rfl, hF.same s03, fun r2 hr2' => ?_⟩
      refine ⟨r1, r2, _, _, _, _, rfl, hr1', hr2', fun H4 s4 => ?_⟩
      have hfv4 := hfv.same s4
      have s24 := s3.trans s4
      have s04 := s02.trans s24
      have estep : Cmp.fdF (ldf S R) (N.take (i + 1)) = Cmp.fstep (ldf S R) (Cmp.fdF (ldf S R) (N.take i)) t := by
        rw [List.take_add_one, et]
        exact Cmp.fdF_snoc _ _ _
      rw [estep]
      generalize Cmp.fdF (ldf S R) (N.take i) = u at hfv4 ⊢
      have el : ldf S R t = Cmp.ldT ((Eff.tb t S).1, (Eff.tb t S).2) ((Eff.tb t R).1, (Eff.tb t R).2) := rfl
      unfold Cmp.fstep
      rw [el]
      generalize Cmp.ldT ((Eff.tb t S).1, (Eff.tb t S).2) ((Eff.tb t R).1, (Eff.tb t R).2) = w
      cases w with
      | none =>
        refine ⟨_, rfl, rfl, _, rfl, iteN rfl (iteN rfl ?_)⟩
        exact ⟨_, _, fv, rfl, s24, hfv4⟩
      | some c =>
        refine ⟨_, rfl, rfl, _, rfl, iteH rfl ?_⟩
        cases u with
        | none =>
          have ev : fv = .non := hfv4
          subst ev
          refine ⟨_, rfl, rfl, _, rfl, iteH rfl (iteH rfl ?_)⟩
          refine ⟨_, rfl, _, rfl, by show 2 ≤ sizeLine; decide, fun z hz' => ?_⟩
          exact ⟨_, _, _, rfl, s24.trans (same_new hz'), z, rfl, s04.free hz', upd_same⟩
        | some p =>
          obtain ⟨t0, c0⟩ := p
          obtain ⟨z0, ev, nz0, hz0⟩ := hfv4
          subst ev
          refine ⟨_, rfl, rfl, _, rfl, iteN rfl ⟨_, rfl, _, rfl, z0, _, 1, .int c0, rfl, rfl, SqT.of hz0, atI_nat (j := 1) rfl, _, _, rfl, rfl, _, rfl, ite2 (fun h1 => ?_) (fun h1 => ?_)⟩⟩
          · have h1' : c < c0 := of_decide_eq_true h1
            refine ⟨_, rfl, _, rfl, by show 2 ≤ sizeLine; decide, fun z hz' => ?_⟩
            refine ⟨_, _, _, rfl, s24.trans (same_new hz'), ?_⟩
            show FVa H _ _ (if c < c0 then some (t, c) else some (t0, c0))
            rw [if_pos h1']
            exact ⟨z, rfl, s04.free hz', upd_same⟩
          · have h1' : ¬ c < c0 := fun q => h1 (decide_eq_true q)
            refine ⟨_, _, _, rfl, s24, ?_⟩
            show FVa H _ _ (if c < c0 then some (t, c) else some (t0, c0))
            rw [if_neg h1']
            exact ⟨z0, rfl, nz0, hz0⟩
    · rintro σ H3 ⟨o4, o5, fv, rfl, s3, hfv⟩
      rw [List.length_map, List.take_length] at hfv
      exact ⟨_, rfl, k fv H3 (s02.trans s3) asc mem hfv⟩

/-- how long the list is that tells two effects apart -/
def sepLen (S R : List Stp) (c : Int) : Int := if Eff.need S = Eff.need R then (if c > Eff.need S then c else Eff.need S) else (if Eff.need R < Eff.need S then Eff.need R else Eff.need S)
def sepL (S R : List Stp) (t c : Int) : List Int := List.replicate (min (sepLen S R c) c).toNat t ++ List.replicate (sepLen S R c - min (sepLen S R c) c).toNat (t + 1)
def spSep (K : PySem.W.Frag) (CE CT : Addr) : Sp := fun vs H Q _ => ∃ (e f : Addr) (S R : List Stp), vs = [.ref e, .ref f] ∧ EffAt K CE CT H e S ∧ EffAt K CE CT H f R ∧ S.length + R.length ≤ 4000 ∧
  ∀ A, Tbl.Asc A → (∀ x, x ∈ A ↔ (true, x) ∈ S ∨ (true, x) ∈ R) → (Cmp.fdF (ldf S R) (A ++ [Eff.low A]) = Option.none → ∀ H', Same H H' → Q .non H') ∧
    ∀ t c, Cmp.fdF (ldf S R) (A ++ [Eff.low A]) = some (t, c) → 0 ≤ c → sepLen S R c ≤ 500 ∧ ∀ r H', Same H H' → H r = Option.none → H' r = some (.lst ((sepL S R t c).map V.int)) → Q (.ref r) H'
theorem rep_one (n : Nat) (i : Int) : (List.replicate n [V.int i]).flatten = (List.replicate n i).map V.int := by
  induction n with
  | zero => rfl
  | succ n ih => rw [List.replicate_succ, List.replicate_succ, List.flatten_cons, ih]; rfl
theorem ok_separating_list (T : Txt K mg a) : FnR P w K mg base CX0 6 a.separating_list (spSep K a.Effect a.Table) := by
  obtain ⟨fd, F⟩ := T.F_separating_list
  refine XT.okR F sc_separating_list bn_separating_list (fun vs H Q E h => ?_) (fun cdv A outer s H vs Q E hr h => ?_)
  · obtain ⟨e, f, S, R, rfl, _⟩ := h
    rfl
  · obtain ⟨e, f, S, R, rfl, hE, hF, hz, k⟩ := h
    have G_first_difference := ok_first_difference (P := P) (w := w) (base := base) T
    have G_need := ok_Effect_need (P := P) (w := w) (base := base) T
    refine ⟨_, (pss_cons (ps_set (i := 2) sc_separating_list.nd rfl (Or.inl rfl) (pe_callR G_first_difference (hr.mono (by decide)) rfl T.g_first_difference T.k_first_difference pass0 (pa_cons (pv 0) (pa_cons (pv 1) pa_nil))))
      (pss_cons (ps_if (pt_cmpR op_isN (pv 2) pe_non (nomark _)) (pss_one (ps_ret pe_non)) pss_nil)
      (pss_cons (ps_asg (pv 2) (tupK K (n := 2) (by rfl) (pgs_cons (pg_name (i := 3) sc_separating_list.nd rfl (Or.inl rfl)) (pgs_cons (pg_name (i := 4) sc_separating_list.nd rfl (Or.inl rfl)) pgs_nil))))
      (pss_cons (ps_set (i := 5) sc_separating_list.nd rfl (Or.inl rfl) (pe_callB (call_min2 rfl) (by rfl) T.b_min (by decide +kernel) (pa_cons (pe_propR (pv 0) T.cl_E T.p_need G_need (hr.mono (by decide)) pass0 rfl) (pa_cons (pe_propR (pv 1) T.cl_E T.p_need G_need (hr.mono (by decide)) pass0 rfl) pa_nil))))
      (pss_cons (ps_if (pt_cmpR op_eq (pe_propR (pv 0) T.cl_E T.p_need G_need (hr.mono (by decide)) pass0 rfl) (pe_propR (pv 1) T.cl_E T.p_need G_need (hr.mono (by decide)) pass0 rfl) (nomark _)) (pss_one (ps_set (i := 5) sc_separating_list.nd rfl (Or.inl rfl) (pe_callB (call_max2 rfl) (by rfl) T.b_max (by decide +kernel) (pa_cons (pv 5) (pa_cons (pv 4) pa_nil))))) pss_nil)
      (pss_cons (ps_if (pt_cmpR op_gt (pv 5) (T.i_MOST.elim fun _ h => pe_glob (v := .int 500) (by rfl) h ⟨_, rfl⟩) (nomark _)) (pss_one ps_never) pss_nil)
      (pss_cons (ps_set (i := 6) sc_separating_list.nd rfl (Or.inl rfl) (pe_callB (call_min2 rfl) (by rfl) T.b_min (by decide +kernel) (pa_cons (pv 5) (pa_cons (pv 4) pa_nil))))
      (pss_one (ps_ret (pe_op op_cat (pe_op op_rep (pe_lst (pa_cons (pv 3) pa_nil)) (pv 6)) (pe_op op_rep (pe_lst (pa_cons (pe_op op_add (pv 3) pe_int) pa_nil)) (pe_op op_sub (pv 5) (pv 6))))))))))))), ?_⟩
    obtain ⟨de, pe, qe, ie⟩ := hE.ins
    obtain ⟨df, pf, qf, jf⟩ := hF.ins
    have gS := hE.good
    have gR := hF.good
    have nS := Eff.need_nn gS
    have nR := Eff.need_nn gR
    refine ⟨_, rfl, _, rfl, e, f, S, R, rfl, hE, hF, hz, fun v A H1 s1 asc mem hv => ?_⟩
    obtain ⟨k0, k1⟩ := k A asc mem
    have sp := Cmp.fdF_spec (ldf S R) (A ++ [Eff.low A])
    cases hu : Cmp.fdF (ldf S R) (A ++ [Eff.low A]) with
    | none =>
      rw [hu] at hv
      have ev : v = .non := hv
      subst ev
      exact ⟨_, rfl, rfl, _, rfl, iteH rfl (k0 hu H1 s1)⟩
    | some p =>
      obtain ⟨t, c⟩ := p
      rw [hu] at hv
      obtain ⟨z, ev, nz, hz1⟩ := hv
      subst ev
      obtain ⟨_, hldt, _⟩ := sp.2 t c hu
      have c0 : 0 ≤ c := (Cmp.ldT_some (Eff.tb_ok gS) (Eff.tb_ok gR) hldt).1
      obtain ⟨k2, k3⟩ := k1 t c hu c0
      refine ⟨_, rfl, rfl, _, rfl, iteN rfl ?_⟩
      refine ⟨_, rfl, z, [V.int t, V.int c], rfl, SqT.of hz1, rfl, _, [V.int c], rfl, V.int c, [], rfl, rfl, ?_⟩
      have ie1 := s1 _ _ ie
      have jf1 := s1 _ _ jf
      have hE1 := hE.same s1
      have hF1 := hF.same s1
      refine ⟨_, rfl, e, de, _, rfl, ie1, e, S, rfl, hE1, _, rfl, f, df, _, rfl, jf1, f, R, rfl, hF1, _, _, rfl, ?_⟩
      try dsimp only [tNext]
      show tSeq _ _ _ _ _
      refine seq_cut2 (fun σ' H' => σ' = [some (.ref e), some (.ref f), some (.ref z), some (.int t), some (.int c), some (.int (sepLen S R c)), none] ∧ H' = H1) (fun N cont => ?_) (fun σ H2 h2 => ?_)
      · refine ⟨_, rfl, e, de, _, rfl, ie1, e, S, rfl, hE1, _, rfl, f, df, _, rfl, jf1, f, R, rfl, hF1, ?_⟩
        refine ⟨rfl, _, rfl, ite2 (fun h1 => ?_) (fun h1 => ?_)⟩
        · have h1' : Eff.need S = Eff.need R := by simpa using h1
          refine ⟨_, rfl, _, rfl, _, _, rfl, ?_⟩
          refine cont _ _ ⟨?_, rfl⟩
          have e1 : (if Eff.need R < Eff.need S then Eff.need R else Eff.need S) = Eff.need S := if_neg (by omega)
          unfold sepLen
          rw [if_pos h1', e1]
          rfl
        · have h1' : ¬ Eff.need S = Eff.need R := by simpa using h1
          refine cont _ _ ⟨?_, rfl⟩
          unfold sepLen
          rw [if_neg h1']
          rfl
      obtain ⟨rfl, rfl⟩ := h2
      have l0 : 0 ≤ sepLen S R c := by unfold sepLen; split <;> split <;> omega
      refine ⟨_, rfl, _, _, rfl, rfl, _, rfl, iteN (decide_eq_false (by omega)) ?_⟩
      refine ⟨_, rfl, _, rfl, _, _, rfl, ?_⟩
      have em : (if c < sepLen S R c then c else sepLen S R c) = min (sepLen S R c) c := by split <;> omega
      rw [em]
      unfold sepL at k3
      generalize sepLen S R c = L at k2 k3 l0 ⊢
      obtain ⟨lo, hlo⟩ : ∃ lo, lo = min L c := ⟨_, rfl⟩
      rw [← hlo] at k3 ⊢
      refine ⟨_, rfl, by show 1 ≤ sizeLine; decide, fun q1 hq1 => ?_⟩
      have v1 := same_new (o := .lst [V.int t]) hq1
      refine ⟨_, rfl, q1, lo, [V.int t], rfl, rfl, upd_same, by omega, by omega, Nat.le_trans (show 1 * lo.toNat ≤ 100000 by omega) line_ge, fun q2 hq2 => ?_⟩
      have v2 := same_new (o := .lst (List.replicate lo.toNat [V.int t]).flatten) hq2
      refine ⟨_, rfl, _, _, rfl, rfl, by show 1 ≤ sizeLine; decide, fun q3 hq3 => ?_⟩
      have v3 := same_new (o := .lst [V.int (t + 1)]) hq3
      refine ⟨_, rfl, _, rfl, _, _, rfl, rfl, q3, L - lo, [V.int (t + 1)], rfl, rfl, upd_same, by omega, by omega, Nat.le_trans (show 1 * (L - lo).toNat ≤ 100000 by omega) line_ge, fun q4 hq4 => ?_⟩
      have v4 := same_new (o := .lst (List.replicate (L - lo).toNat [V.int (t + 1)]).flatten) hq4
      refine ⟨q2, q4, _, _, rfl, rfl, v4 _ _ (v3 _ _ upd_same), upd_same, Nat.le_trans (by rw [rep_one, rep_one, List.length_map, List.length_map, List.length_replicate, List.length_replicate]; show lo.toNat + (L - lo).toNat ≤ 100000; omega) line_ge, fun q5 hq5 => ?_⟩
      have v5 := same_new (o := .lst ((List.replicate lo.toNat [V.int t]).flatten ++ (List.replicate (L - lo).toNat [V.int (t + 1)]).flatten)) hq5
      have s15 := (((s1.trans v1).trans v2).trans v3).trans v4
      refine k3 q5 _ (s15.trans v5) (s15.free hq5) ?_
      rw [upd_same, rep_one, rep_one, List.map_append]

end
end K13
namespace K13
open PySem L2 XT
section
variable {P : Program} {w : World} {K : PySem.W.Frag} {mg : Str → Option Value} {base : Heap} {a : Ads}
local macro_rules | `(tactic| walk_at "rside") => `(tactic| first | (show (0 : Int) < _; first | decide | omega) | (exact ⟨by first | decide | omega, by first | decide | omega⟩) | (exact Or.inl ⟨by omega, by omega⟩) | (exact Or.inr ⟨by omega, by omega⟩) | (exact ⟨by decide, by decide, by decide⟩))
local macro_rules | `(tactic| walk_at "rd1") => `(tactic| first | (refine ⟨_, rfl, ?_⟩) | (refine ⟨_, _, rfl, rfl, (by walk_at "rside"), ?_⟩) | (refine ⟨_, _, rfl, rfl, ?_⟩))
local macro_rules | `(tactic| walk_at "rd") => `(tactic| repeat (walk_at "rd1"))

/-- something that is no list of numbers -/
def BadN (K : PySem.W.Frag) (H : Hp) (x : V) : Prop := (∃ xs, Sq K H x xs ∧ numsV xs = false) ∨ Od K H x
theorem BadN.same {H H' : Hp} {x : V} (h : BadN K H x) (s : Same H H') : BadN K H' x := by
  rcases h with ⟨xs, ⟨q, e1, e2, e3, e4⟩, e5⟩ | ⟨n, e1, e2, e3⟩
  · exact .inl ⟨xs, ⟨q, e1, e2.imp (fun h => s.seq h) (fun h => same_seqT s h), fun y hy => (e3 y hy).same s, e4⟩, e5⟩
  · exact .inr ⟨n, same_tyB s e1, e2, e3⟩
theorem anyK {X : Cx} (K : PySem.W.Frag) (hc : X.calm = true) (hK : X.K = K := by rfl) : CallR X (.builtin "any") (rAny K) := by subst hK; exact cr_any hc
def sepB (S R : List Stp) (L : List Int) : Bool := decide (Cmp.rn (XT.srt L) S ≠ Cmp.rn (XT.srt L) R)
def spIsep (K : PySem.W.Frag) (CE CT : Addr) : Sp := fun vs H Q _ => ∃ (e f : Addr) (x : V) (S R : List Stp), vs = [.ref e, .ref f, x] ∧ EffAt K CE CT H e S ∧ EffAt K CE CT H f R ∧ S.length + R.length ≤ 2000 ∧
  ((BadN K H x ∧ ∀ H', Same H H' → Q (.bl false) H') ∨ ∃ L, NumsAt K H x L ∧ ∀ H', Same H H' → Q (.bl (sepB S R L)) H')
theorem ok_is_separating (T : Txt K mg a) : FnR P w K mg base CX0 6 a.is_separating (spIsep K a.Effect a.Table) := by
  obtain ⟨fd, F⟩ := T.F_is_separating
  refine XT.okR F sc_is_separating bn_is_separating (fun vs H Q E h => ?_) (fun cdv A outer s H vs Q E hr h => ?_)
  · obtain ⟨e, f, x, S, R, rfl, _⟩ := h
    rfl
  · obtain ⟨e, f, x, S, R, rfl, hE, hF, hz, h⟩ := h
    have G_is_number_list := ok_is_number_list (P := P) (w := w) (base := base) T
    have G_need := ok_Effect_need (P := P) (w := w) (base := base) T
    have G_breaks := ok_Effect_breaks (P := P) (w := w) (base := base) T
    have G_united := ok_united (P := P) (w := w) (base := base) T
    have G_total_after := ok_total_after (P := P) (w := w) (base := base) T
    refine ⟨_, (pss_cons (ps_if (pt_not (pt_val (pe_callR G_is_number_list (hr.mono (by decide)) rfl T.g_is_number_list T.k_is_number_list pass0 (pa_cons (pv 2) pa_nil)))) (pss_one (ps_ret pe_bl)) pss_nil)
      (pss_cons (ps_if (pt_cmpR op_lt (pe_callB (lenK K) (by rfl) T.b_len (by decide +kernel) (pa_cons (pv 2) pa_nil)) (pe_callB (call_max2 rfl) (by rfl) T.b_max (by decide +kernel) (pa_cons (pe_propR (pv 0) T.cl_E T.p_need G_need (hr.mono (by decide)) pass0 rfl) (pa_cons (pe_propR (pv 1) T.cl_E T.p_need G_need (hr.mono (by decide)) pass0 rfl) pa_nil))) (nomark _)) (pss_one (ps_ret (pe_cmpR op_ge (pe_callB (lenK K) (by rfl) T.b_len (by decide +kernel) (pa_cons (pv 2) pa_nil)) (pe_callB (call_min2 rfl) (by rfl) T.b_min (by decide +kernel) (pa_cons (pe_propR (pv 0) T.cl_E T.p_need G_need (hr.mono (by decide)) pass0 rfl) (pa_cons (pe_propR (pv 1) T.cl_E T.p_need G_need (hr.mono (by decide)) pass0 rfl) pa_nil))) (nomark _)))) pss_nil)
      (pss_cons (ps_set (i := 3) sc_is_separating.nd rfl (Or.inr rfl) (pe_callB (sortedAK K) (by rfl) T.b_sorted (by decide +kernel) (pa_cons (pv 2) pa_nil)))
      (pss_cons (ps_set (i := 4) sc_is_separating.nd rfl (Or.inl rfl) (pe_callR G_united (hr.mono (by decide)) rfl T.g_united T.k_united pass0 (pa_cons (pe_callR G_united (hr.mono (by decide)) rfl T.g_united T.k_united pass0 (pa_cons (pe_propR (pv 0) T.cl_E T.p_breaks G_breaks (hr.mono (by decide)) pass0 rfl) (pa_cons (pe_propR (pv 1) T.cl_E T.p_breaks G_breaks (hr.mono (by decide)) pass0 rfl) pa_nil))) (pa_cons (pv 3) pa_nil))))
      (pss_one (ps_ret (pe_callB (anyK K rfl) (by rfl) T.b_any (by decide +kernel) (pa_cons (pe_lc (own := [("threshold", 5)])  rfl sc_is_separating.nd (pi_list (pv 4)) (blkOk_by (N := N_is_separating) (sc := defScope s_is_separating) (by decide +kernel)) (fun _ _ _ _ _ => by exact (pg_name (i := 5) sc_is_separating.nd rfl (Or.inl rfl))) (fun _ _ _ _ _ => by exact pts_nil) (fun _ _ _ _ _ => by exact (pe_cmpR op_ne (pe_callR G_total_after (hr.mono (by decide)) rfl T.g_total_after T.k_total_after pass0 (pa_cons (pv 0) (pa_cons (pv 3) (pa_cons (pv 5) pa_nil)))) (pe_callR G_total_after (hr.mono (by decide)) rfl T.g_total_after T.k_total_after pass0 (pa_cons (pv 1) (pa_cons (pv 3) (pa_cons (pv 5) pa_nil)))) (nomark _)))) pa_nil)))))))), ?_⟩
    rcases h with ⟨bad, k⟩ | ⟨L, hN, k⟩
    · refine ⟨_, rfl, x, rfl, ?_⟩
      rcases bad with ⟨xs, hS, hn⟩ | od
      · exact .inl ⟨xs, hS, fun H1 s1 => ⟨_, rfl, iteH (by rw [hn]; rfl) (k _ s1)⟩⟩
      · exact .inr ⟨od, fun H1 s1 => ⟨_, rfl, iteH rfl (k _ s1)⟩⟩
    obtain ⟨p, rfl, hS, hl⟩ := id hN
    refine ⟨_, rfl, _, rfl, .inl ⟨L.map V.int, ⟨p, rfl, hS, kv_ints L, by rw [List.length_map]; omega⟩, fun H1 s1 => ⟨_, rfl, iteN (by rw [nums_of]; rfl) ?_⟩⟩⟩
    have hE1 := hE.same s1
    have hF1 := hF.same s1
    have gS := hE.good
    have gR := hF.good
    have up := Eff.up_srt L
    obtain ⟨de, pe, qe, ie⟩ := hE1.ins
    obtain ⟨df, pf, qf, jf⟩ := hF1.ins
    have hS1 : SqL K H1 p (L.map V.int) ∨ SqT K H1 p (L.map V.int) := hS.imp (fun h => s1.seq h) (fun h => same_seqT s1 h)
    have em : (if Eff.need R > Eff.need S then Eff.need R else Eff.need S) = max (Eff.need S) (Eff.need R) := by split <;> omega
    have en : (if Eff.need R < Eff.need S then Eff.need R else Eff.need S) = min (Eff.need S) (Eff.need R) := by split <;> omega
    have ll : ((XT.srt L).length : Int) = L.length := by rw [XT.srt_len]
    have key : ∀ {A : List Int}, Tbl.Asc A → (∀ x ∈ XT.srt L, x ∈ A) → (∀ x, (true, x) ∈ S → x ∈ A) → (∀ x, (true, x) ∈ R → x ∈ A) → Cmp.isSep S R (XT.srt L) A = sepB S R L := fun asc h1 h2 h3 => Cmp.isSep_iff gS gR up asc h1 h2 h3
    refine ⟨_, rfl, p, _, rfl, hS1, _, rfl, e, de, _, rfl, ie, e, S, rfl, hE1, _, rfl, f, df, _, rfl, jf, f, R, rfl, hF1, _, _, rfl, _, _, rfl, rfl, _, rfl, ite2 (fun hlt => ?_) (fun hge => ?_)⟩
    · rw [em, List.length_map] at hlt
      have hlt' := of_decide_eq_true hlt
      refine ⟨_, rfl, p, _, rfl, hS1, _, rfl, e, de, _, rfl, ie, e, S, rfl, hE1, _, rfl, f, df, _, rfl, jf, f, R, rfl, hF1, _, _, rfl, _, _, rfl, rfl, ?_⟩
      rw [en, List.length_map]
      have := k H1 s1
      have hk : sepB S R L = decide ((L.length : Int) ≥ min (Eff.need S) (Eff.need R)) := by
        obtain ⟨A, hA⟩ : ∃ A, A = XT.keysI (XT.srt L ++ (S ++ R).map (·.2)) := ⟨_, rfl⟩
        obtain ⟨nd, km, _⟩ := XT.keysI_spec (XT.srt L ++ (S ++ R).map (·.2))
        have asc : Tbl.Asc (XT.srt A) := XT.asc_of (XT.srt_perm A) (Eff.up_srt A) (by rw [hA]; exact nd)
        have mm : ∀ x, x ∈ XT.srt A ↔ x ∈ XT.srt L ++ (S ++ R).map (·.2) := fun x => by rw [(XT.srt_perm A).mem_iff, hA, km]
        rw [← key asc (fun x hx => (mm x).mpr (List.mem_append_left _ hx)) (fun x hx => (mm x).mpr (List.mem_append_right _ (List.mem_map.mpr ⟨_, List.mem_append_left _ hx, rfl⟩))) (fun x hx => (mm x).mpr (List.mem_append_right _ (List.mem_map.mpr ⟨_, List.mem_append_right _ hx, rfl⟩)))]
        unfold Cmp.isSep
        rw [ll, if_pos hlt']
      rw [hk] at this
      exact this
    · rw [em, List.length_map] at hge
      have hge' : ¬ (L.length : Int) < max (Eff.need S) (Eff.need R) := fun z => hge (decide_eq_true z)
      refine ⟨_, rfl, p, L, rfl, hS1, fun N m0 pm up0 nq => ?_⟩
      rw [XT.srt_of pm up0]
      have s2 := same_new (o := .lst ((XT.srt L).map V.int)) nq
      have h2 := upd_same (H := H1) (a := m0) (o := .lst ((XT.srt L).map V.int))
      generalize upd H1 m0 (.lst ((XT.srt L).map V.int)) = H2 at s2 h2 ⊢
      have hE2 := hE1.same s2
      have hF2 := hF1.same s2
      refine ⟨_, rfl, e, de, _, rfl, s2 _ _ ie, e, S, rfl, hE2, fun p1 C1 hp1 hC1 _ => ⟨_, rfl, f, df, _, rfl, s2 _ _ jf, f, R, rfl, hF2, fun p2 C2 hp2 hC2 _ => ?_⟩⟩
      have l1 := Eff.brk_len hC1
      have l2 := Eff.brk_len hC2
      refine ⟨p1, p2, C1, C2, rfl, .inr hp1, .inr hp2, by omega, fun r A H3 s3 n3 hr asc mem len => ?_⟩
      refine ⟨_, rfl, r, m0, A, XT.srt L, rfl, .inl (SqL.of hr), .inl (SqL.of (s3 _ _ h2)), by rw [XT.srt_len]; omega, fun r2 A2 H4 s4 n4 hr2 asc2 mem2 len2 => ?_⟩
      rw [XT.srt_len] at len2
      have s14 := ((s1.trans s2).trans s3).trans s4
      have hE4 := (hE2.same s3).same s4
      have hF4 := (hF2.same s3).same s4
      have h24 := s4 _ _ (s3 _ _ h2)
      refine ⟨_, rfl, r2, rfl, ⟨_, SqL.of hr2⟩, fun D hD => lcM (stat_list (SqL.of hr2)) hD (fun i => V.bl (decide (Eff.smp (A2.getD i 0) S (Tbl.cnt (XT.srt L) (A2.getD i 0)) ≠ Eff.smp (A2.getD i 0) R (Tbl.cnt (XT.srt L) (A2.getD i 0))))) (Nat.le_trans (by rw [List.length_map]; omega) line_ge) ?_ ?_⟩
      · intro i y H5 T' hi s5 px kk
        rw [List.getElem?_map] at px
        obtain ⟨v, hv, rfl⟩ := Option.map_eq_some_iff.mp px
        have hk := kk H5 (Same.refl H5)
        have e0 : A2.getD i 0 = v := by simp [List.getD, hv]
        rw [e0] at hk
        refine ⟨rfl, _, rfl, _, rfl, _, rfl, e, m0, v, S, XT.srt L, rfl, hE4.same s5, SqL.of (s5 _ _ h24), up, _, rfl, _, rfl, _, rfl, f, m0, v, R, XT.srt L, rfl, hF4.same s5, SqL.of (s5 _ _ h24), up, rfl, ?_⟩
        have e9 : ∀ x y : Int, (!decide (V.int x = V.int y)) = decide (x ≠ y) := fun x y => by by_cases h : x = y <;> simp [h]
        show T' (V.bl (!decide (V.int _ = V.int _))) H5
        rw [e9]
        exact hk
      · intro H5 s5 hD5
        rw [List.length_map, Eff.rng_map A2 fun t => V.bl (decide (Eff.smp t S (Tbl.cnt (XT.srt L) t) ≠ Eff.smp t R (Tbl.cnt (XT.srt L) t)))] at hD5
        have e1 : (A2.map fun t => V.bl (decide (Eff.smp t S (Tbl.cnt (XT.srt L) t) ≠ Eff.smp t R (Tbl.cnt (XT.srt L) t)))) = (A2.map fun t => decide (Eff.smp t S (Tbl.cnt (XT.srt L) t) ≠ Eff.smp t R (Tbl.cnt (XT.srt L) t))).map V.bl := by rw [List.map_map]; rfl
        rw [e1] at hD5
        refine ⟨D, _, rfl, SqL.of hD5, ?_⟩
        have := k H5 (s14.trans s5)
        rw [← key asc2 (fun x hx => (mem2 x).mpr (.inr hx)) (fun x hx => (mem2 x).mpr (.inl ((mem x).mpr (.inl ((hC1.mem x).mpr hx))))) (fun x hx => (mem2 x).mpr (.inl ((mem x).mpr (.inr ((hC2.mem x).mpr hx)))))] at this
        unfold Cmp.isSep at this
        rw [ll, if_neg hge'] at this
        rw [List.any_map]
        exact this

end
end K13
namespace K13
open PySem L2 XT
section
variable {P : Program} {w : World} {K : PySem.W.Frag} {mg : Str → Option Value} {base : Heap} {a : Ads}
local macro_rules | `(tactic| walk_at "rside") => `(tactic| first | (show (0 : Int) < _; first | decide | omega) | (exact ⟨by first | decide | omega, by first | decide | omega⟩) | (exact Or.inl ⟨by omega, by omega⟩) | (exact Or.inr ⟨by omega, by omega⟩) | (exact ⟨by decide, by decide, by decide⟩))
local macro_rules | `(tactic| walk_at "rd1") => `(tactic| first | (refine ⟨_, rfl, ?_⟩) | (refine ⟨_, _, rfl, rfl, (by walk_at "rside"), ?_⟩) | (refine ⟨_, _, rfl, rfl, ?_⟩))
local macro_rules | `(tactic| walk_at "rd") => `(tactic| repeat (walk_at "rd1"))

/-- lists of numbers in a row, each made after H0 -/
abbrev RowsAt (H0 H : Hp) : List V → List (List Int) → Prop := Paired fun v L => ∃ q, v = V.ref q ∧ H0 q = Option.none ∧ H q = some (.lst (L.map V.int))
theorem rows_same {H0 H H' : Hp} {rows : List V} {Ls : List (List Int)} (h : RowsAt H0 H rows Ls) (s : Same H H') : RowsAt H0 H' rows Ls := L2.Paired.mapP h fun _ _ ⟨q, e, n, z⟩ => ⟨q, e, n, s _ _ z⟩
theorem rows_upd {H0 H : Hp} {D : Addr} {rows ws : List V} {Ls : List (List Int)} (h : RowsAt H0 H rows Ls) (k : ∀ v ∈ rows, v ≠ V.ref D) : RowsAt H0 (upd H D (.lst ws)) rows Ls := by
  induction h with
  | nil => exact .nil
  | cons h t ih =>
    obtain ⟨q, e, n, z⟩ := h
    refine .cons ⟨q, e, n, ?_⟩ (ih fun v hv => k v (List.mem_cons_of_mem _ hv))
    have : q ≠ D := fun x => k _ List.mem_cons_self (by rw [e, x])
    rw [upd_ne this]
    exact z
/-- short lists -/
def Lm (m : Nat) (L : List Int) : Prop := L.length ≤ m
theorem Lm.up {m n : Nat} {L : List Int} (h : Lm m L) (k : m ≤ n) : Lm n L := Nat.le_trans h k
theorem Lm.snoc {m : Nat} {L : List Int} {x : Int} (h : Lm m L) : Lm (m + 1) (L ++ [x]) := by
  show (L ++ [x]).length ≤ m + 1
  rw [List.length_append, List.length_singleton]
  exact Nat.succ_le_succ h
theorem Lm.nil {m : Nat} : Lm m [] := Nat.zero_le _
def spLists (K : PySem.W.Frag) : Sp := fun vs H Q _ => ∃ (v : Addr) (A : List Int) (m : Nat), vs = [.ref v, .int (m : Int)] ∧ SqL K H v (A.map V.int) ∧ A.length ≤ 8 ∧ m ≤ 4 ∧ ∀ r H' rows Ls, Same H H' → H' r = some (.lst rows) → RowsAt H H' rows Ls → (∀ L ∈ Ls, L.length ≤ m) → rows.length ≤ 5000 → Q (.ref r) H'
/-- the comprehension's list so far -/
def InvC (H0 Hx : Hp) (D : Addr) (m : Nat) (i : Nat) (H : Hp) (acc : List V) : Prop := ∃ Ls, RowsAt H0 H acc Ls ∧ (∀ L ∈ Ls, Lm m L) ∧ acc.length ≤ i ∧ H D = some (.lst acc) ∧ Same Hx H ∧ ∀ v ∈ acc, v ≠ V.ref D
theorem invC_step {H0 Hx H H2 : Hp} {D w : Addr} {m i : Nat} {acc : List V} {L : List Int} (n0 : Same H0 Hx) (hDx : Hx D = Option.none) (h : InvC H0 Hx D m i H acc) (s : Same H H2) (nw : H w = Option.none) (hw : H2 w = some (.lst (L.map V.int))) (hL : Lm m L) :
    InvC H0 Hx D m (i + 1) (upd H2 D (.lst (acc ++ [V.ref w]))) (acc ++ [V.ref w]) := by
  obtain ⟨Ls, hr, hm, hl, hD, sx, hne⟩ := h
  have nwD : w ≠ D := fun z => by rw [z, hD] at nw; cases nw
  have nw0 : H0 w = Option.none := (n0.trans sx).free nw
  refine ⟨Ls ++ [L], ?_, ?_, by rw [List.length_append, List.length_singleton]; omega, upd_same, same_upd (sx.trans s) hDx, ?_⟩
  · refine rows_upd (pd_append (rows_same hr s) (.cons ⟨w, rfl, nw0, hw⟩ .nil)) fun v hv => ?_
    rcases List.mem_append.mp hv with hv | hv
    · exact hne v hv
    · rw [List.mem_singleton.mp hv]
      exact fun z => nwD (by injection z)
  · intro K' hK
    rcases List.mem_append.mp hK with hK | hK
    · exact hm K' hK
    · rw [List.mem_singleton.mp hK]; exact hL
  · intro v hv
    rcases List.mem_append.mp hv with hv | hv
    · exact hne v hv
    · rw [List.mem_singleton.mp hv]
      exact fun z => nwD (by injection z)
theorem pow8 {t : Nat} (h : t < 4) : 8 * 8 ^ t ≤ 4096 ∧ 8 ^ (t + 1) = 8 * 8 ^ t := by
  have : t = 0 ∨ t = 1 ∨ t = 2 ∨ t = 3 := by omega
  rcases this with rfl | rfl | rfl | rfl <;> decide
theorem pow8' {t : Nat} (h : t ≤ 4) : 8 ^ t ≤ 5000 := by
  have : t = 0 ∨ t = 1 ∨ t = 2 ∨ t = 3 ∨ t = 4 := by omega
  rcases this with rfl | rfl | rfl | rfl | rfl <;> decide

theorem ok_law_lists (T : Txt K mg a) : FnR P w K mg base CX0 2 a.law_lists (spLists K) := by
  obtain ⟨fd, F⟩ := T.F_law_lists
  refine XT.okR F sc_law_lists bn_law_lists (fun vs H Q E h => ?_) (fun cdv A outer s H vs Q E hr h => ?_)
  · obtain ⟨v, A, m, rfl, _⟩ := h
    rfl
  · obtain ⟨v, A, m, rfl, hv, hA, hm4, k⟩ := h
    refine ⟨_, (pss_cons (ps_set (i := 2) sc_law_lists.nd rfl (Or.inl rfl) (pe_lst (pa_cons (pe_lst pa_nil) pa_nil)))
      (pss_cons (ps_for PassesOwn.never rfl (pi_rng1 (by rfl) T.b_range (pa_cons (pv 1) pa_nil)) (pg_name (i := 3) sc_law_lists.nd rfl (Or.inl rfl))
        (pss_cons (ps_set (i := 4) sc_law_lists.nd rfl (Or.inl rfl) (pe_lst pa_nil))
      (pss_cons (ps_for PassesOwn.never rfl (pi_list (pv 2)) (pg_name (i := 5) sc_law_lists.nd rfl (Or.inr rfl))
        (pss_one (ps_set (i := 4) sc_law_lists.nd rfl (Or.inl rfl) (pe_op op_cat (pv 4) (pe_lc (own := [("_law_value", 6)])  rfl sc_law_lists.nd (pi_list (pv 0)) (blkOk_by (N := N_law_lists) (sc := defScope s_law_lists) (by decide +kernel)) (fun _ _ _ _ _ => by exact (pg_name (i := 6) sc_law_lists.nd rfl (Or.inl rfl))) (fun _ _ _ _ _ => by exact pts_one (PW.pt (pw_or (pt_cmpR (eqDK K hr.units) (pv 5) (pe_lst pa_nil) (nomark _)) (pw_or1 (pt_cmpR op_le (pe_ix (ixLK K) (pv 5) (pe_un un_neg pe_int) (fun _ _ => rfl)) (pv 6) (nomark _)))))) (fun _ _ _ _ _ => by exact (pe_op op_cat (pv 5) (pe_lst (pa_cons (pv 6) pa_nil)))))))))
      (pss_one (ps_set (i := 2) sc_law_lists.nd rfl (Or.inl rfl) (pv 4))))))
      (pss_one (ps_ret (pv 2))))), ?_⟩
    refine ⟨Nat.zero_le _, fun w2 hw2 => ⟨by show 1 ≤ sizeLine; decide, fun r hr => ?_⟩⟩
    have t3 := same_new (o := .lst []) hw2
    have t4 := same_new (o := .lst [V.ref w2]) hr
    have s4 := t3.trans t4
    have i3 := t4 _ _ (upd_same (H := H) (a := w2) (o := .lst []))
    have i4 := upd_same (H := upd H w2 (.lst [])) (a := r) (o := .lst [V.ref w2])
    generalize upd (upd H w2 (.lst [])) r (.lst [V.ref w2]) = H4 at s4 i3 i4 ⊢
    refine ⟨_, rfl, (m : Int), rfl, for_range (lo := 0) (n := m) (fun t σ H' => ∃ r' rrows rL o3 o4 o5, σ = [some (.ref v), some (.int (m : Int)), some (.ref r'), o3, o4, o5, none] ∧ Same H H' ∧ H' r' = some (.lst rrows) ∧ RowsAt H H' rrows rL ∧ (∀ L ∈ rL, Lm t L) ∧ rrows.length ≤ 8 ^ t)
      ⟨r, _, [[]], _, _, _, rfl, s4, i4, .cons ⟨w2, rfl, hw2, i3⟩ .nil, (fun L hL => by rw [List.mem_singleton.mp hL]; exact Lm.nil), by simp⟩ ?_ ?_⟩
    · rintro t σ H5 ht ⟨r', rrows, rL, o3, o4, o5, rfl, s, hr', hrL, hr3, hrl⟩
      obtain ⟨p1, p2⟩ := pow8 (Nat.lt_of_lt_of_le ht hm4)
      refine ⟨Nat.zero_le _, fun lg hlg => ?_⟩
      have s5 := same_new (o := .lst []) hlg
      have ilg := upd_same (H := H5) (a := lg) (o := .lst [])
      have hr5 := s5 _ _ hr'
      generalize upd H5 lg (.lst []) = H6 at s5 ilg hr5 ⊢
      dsimp only [tNext]
      show tSeq _ _ _ _ _
      refine seq_cut2 (fun σ' H' => ∃ lg' lrows lL o5, σ' = [some (.ref v), some (.int (m : Int)), some (.ref r'), some (.int (0 + (t : Int))), some (.ref lg'), o5, none] ∧ Same H5 H' ∧ H' lg' = some (.lst lrows) ∧ RowsAt H H' lrows lL ∧ (∀ L ∈ lL, Lm (t + 1) L) ∧ lrows.length ≤ 8 * rrows.length) (fun N cont => ?_) (fun σ H7 h7 => ?_)
      · refine ⟨_, rfl, r', rfl, ⟨_, SqL.of hr5⟩, for_list (K := K) (a := r') (xs := rrows) (fun i σ H' => ∃ lg' lrows lL o5, σ = [some (.ref v), some (.int (m : Int)), some (.ref r'), some (.int (0 + (t : Int))), some (.ref lg'), o5, none] ∧ Same H5 H' ∧ H' lg' = some (.lst lrows) ∧ RowsAt H H' lrows lL ∧ (∀ L ∈ lL, Lm (t + 1) L) ∧ lrows.length ≤ 8 * i)
          ⟨lg, [], [], _, rfl, s5, ilg, .nil, (fun L hL => by cases hL), Nat.zero_le _⟩ (fun i σ H' _ ⟨_, _, _, _, _, s, _⟩ => SqL.of (s _ _ hr')) ?_ ?_⟩
        · rintro i x σ H8 hx ⟨lg', lrows, lL, o5, rfl, s8, hlg', hlL, hl3, hll⟩
          obtain ⟨L, hL, q, rfl, nq, hq0⟩ := pd_get hrL hx
          have hq := s8 _ _ hq0
          have hLt := hr3 L (List.mem_of_getElem? hL)
          have hi : i < rrows.length := (List.getElem?_eq_some_iff.mp hx).1
          have hv8 := (s.trans s8).seq hv
          refine ⟨_, rfl, _, rfl, v, rfl, ⟨_, hv8⟩, fun D hD => ?_⟩
          have sHx : Same H H8 := s.trans s8
          refine lcELT (K := K) (a := v) (xs := A.map V.int) (InvC H H8 D (t + 1)) ⟨[], .nil, (fun L hL => by cases hL), Nat.le_refl _, upd_same, same_new hD, (fun v hv => by cases hv)⟩ (Nat.le_trans (show (A.map V.int).length ≤ 100000 by rw [List.length_map]; omega) line_ge) (fun i' H' acc ⟨_, _, _, hl, _, sx, _⟩ => ⟨sx.seq hv8, hl⟩) ?_ ?_
          · rintro i' y H9 acc R Nx hy hI kk kn
            have hI' := hI
            obtain ⟨Ls, hrA, hm, hla, hDD, sx, hne⟩ := hI
            rw [List.getElem?_map] at hy
            obtain ⟨a', ha', rfl⟩ := Option.map_eq_some_iff.mp hy
            have hq9 := sx _ _ hq
            have elt : ∀ Hz, Same H9 Hz → (∃ x1, some (some (V.ref q)) = some (some x1) ∧ True) → ∀ c, Hz c = Option.none → ∀ w, (upd Hz c (.lst [V.int a'])) w = Option.none → R (.ref w) (upd (upd Hz c (.lst [V.int a'])) w (.lst (L.map V.int ++ [V.int a']))) := fun Hz sz _ c hc w hw => by
              have sc1 := sz.trans (same_new (o := .lst [V.int a']) hc)
              have sw := sc1.trans (same_new (o := .lst (L.map V.int ++ [V.int a'])) hw)
              refine kk _ _ (sw _ _ hDD) (invC_step (L := L ++ [a']) sHx hD hI' sw (sc1.free hw) (by rw [upd_same, List.map_append]; rfl) hLt.snoc)
            refine ⟨rfl, _, rfl, Nat.zero_le _, fun z hz => ?_⟩
            have sz := same_new (o := .lst []) hz
            refine ⟨_, _, dp_lst (SqL.of (sz _ _ hq9)), dp_lst (L := []) (SqL.of upd_same), shaped_lst _, shaped_lst _, _, rfl, ?_⟩
            have fin : ∀ Hz, Same H9 Hz → ∃ x1, some (some (V.ref q)) = some (some x1) ∧ True := fun _ _ => ⟨_, rfl, trivial⟩
            refine ite2 (fun h1 => ?_) (fun h1 => ?_)
            · refine iteT ⟨_, rfl, _, rfl, by show 1 ≤ sizeLine; decide, fun c hc => ?_⟩
              refine ⟨q, c, _, _, rfl, rfl, (same_new (o := .lst [V.int a']) hc) _ _ (sz _ _ hq9), upd_same, ?_, fun w hw => elt _ sz ⟨_, rfl, trivial⟩ c hc w hw⟩
              rw [List.length_map, List.length_singleton]
              exact Nat.le_trans (show L.length + 1 ≤ 100000 by have hLt' : _ ≤ _ := hLt; have := Nat.lt_of_lt_of_le ht hm4; omega) line_ge
            · have hne0 : L ≠ [] := fun z => h1 (by rw [z, eqv_lsts]; rfl)
              obtain ⟨L0, b0, rfl⟩ : ∃ L0 b0, L = L0 ++ [b0] := ⟨_, _, (List.dropLast_concat_getLast hne0).symm⟩
              refine ⟨_, rfl, 1, rfl, q, _, -1, .int b0, rfl, rfl, SqL.of (sz _ _ hq9), by rw [List.map_append]; exact atI_last _ _, _, rfl, _, _, rfl, rfl, _, rfl, ite2 (fun h2 => ?_) (fun h2 => ?_)⟩
              · refine ⟨_, rfl, _, rfl, by show 1 ≤ sizeLine; decide, fun c hc => ?_⟩
                refine ⟨q, c, _, _, rfl, rfl, (same_new (o := .lst [V.int a']) hc) _ _ (sz _ _ hq9), upd_same, ?_, fun w hw => elt _ sz ⟨_, rfl, trivial⟩ c hc w hw⟩
                rw [List.length_map, List.length_singleton]
                exact Nat.le_trans (show (L0 ++ [b0]).length + 1 ≤ 100000 by have hLt' : _ ≤ _ := hLt; have := Nat.lt_of_lt_of_le ht hm4; omega) line_ge
              · exact kn _ ⟨Ls, rows_same hrA sz, hm, by omega, sz _ _ hDD, sx.trans sz, hne⟩
          · rintro H9 acc ⟨Ls, hrA, hm, hla, hDD, sx, hne⟩
            rw [List.length_map] at hla
            have hlg9 := sx _ _ hlg'
            refine ⟨lg', D, lrows, acc, rfl, rfl, hlg9, hDD, Nat.le_trans (show lrows.length + acc.length ≤ 100000 by omega) line_ge, fun n2 hn2 => ?_⟩
            have sn := same_new (o := .lst (lrows ++ acc)) hn2
            refine ⟨n2, lrows ++ acc, lL ++ Ls, _, rfl, (s8.trans sx).trans sn, upd_same, pd_append (rows_same hlL (sx.trans sn)) (rows_same hrA sn), fun K' hK => ?_, by rw [List.length_append]; omega⟩
            rcases List.mem_append.mp hK with hK | hK
            · exact hl3 K' hK
            · exact hm K' hK
        · rintro σ H8 h8
          exact cont _ _ h8
      obtain ⟨lg', lrows, lL, o5', rfl, s7, hlg', hlL, hl3, hll⟩ := h7
      have hll2 : lrows.length ≤ 8 ^ (t + 1) := by omega
      exact ⟨_, rfl, lg', lrows, lL, _, _, _, rfl, s.trans s7, hlg', hlL, hl3, hll2⟩
    · rintro σ H5 ⟨r', rrows, rL, o3, o4, o5, rfl, s, hr', hrL, hr3, hrl⟩
      exact ⟨_, rfl, k r' H5 rrows rL s hr' hrL hr3 (Nat.le_trans hrl (pow8' hm4))⟩

end
end K13
namespace K13
open PySem L2 XT
section
variable {P : Program} {w : World} {K : PySem.W.Frag} {mg : Str → Option Value} {base : Heap} {a : Ads}
local macro_rules | `(tactic| walk_at "rside") => `(tactic| first | (show (0 : Int) < _; first | decide | omega) | (exact ⟨by first | decide | omega, by first | decide | omega⟩) | (exact Or.inl ⟨by omega, by omega⟩) | (exact Or.inr ⟨by omega, by omega⟩) | (exact ⟨by decide, by decide, by decide⟩))
local macro_rules | `(tactic| walk_at "rd1") => `(tactic| first | (refine ⟨_, rfl, ?_⟩) | (refine ⟨_, _, rfl, rfl, (by walk_at "rside"), ?_⟩) | (refine ⟨_, _, rfl, rfl, ?_⟩))
local macro_rules | `(tactic| walk_at "rd") => `(tactic| repeat (walk_at "rd1"))

/-- a value that a law asks with, and its data -/
structure Odv (K : PySem.W.Frag) (H : Hp) (x : V) (d : PyData) : Prop where
  kv : KV K H x
  od : Okd d
  rd : Rd K H x d
  tx : txD d = true
theorem Odv.same {H H' : Hp} {x : V} {d : PyData} (h : Odv K H x d) (s : Same H H') : Odv K H' x d := ⟨h.kv.same s, h.od, rd_same s h.rd, h.tx⟩
theorem sh_err {w : Str} (hw : PyData.strOk w = true) (b : Bool) : SeqAt.shaped (.tuple [.str w, .bool b]) = true := by
  simp [SeqAt.shaped, PyData.canLay0, PyData.canLayAll0, PyData.depth, PyData.depthAll, hw]
theorem dp_err {H : Hp} {r : Addr} {w : Str} {b : Bool} (h : H r = some (.tup [.str w, .bl b])) : Dp K H (.ref r) (.tuple [.str w, .bool b]) := .tup (SqT.of h) (.cons (.str w) (.cons (.bl b) .nil))
theorem log_small {i : Int} (h : i.natAbs < 2 ^ 250) : i.natAbs.log2 < 1920 := by
  by_cases z : i.natAbs = 0
  · rw [z]; decide
  · exact (Nat.log2_lt z).mpr (Nat.lt_of_lt_of_le h (Nat.pow_le_pow_right (by decide) (by decide)))
theorem odv_int {H : Hp} {i : Int} (h : i.natAbs < 2 ^ 250) : Odv K H (.int i) (.int i) := ⟨kv_int i, ⟨by simp [plainD, log_small h], by simp [PyData.depth], by simp [sc]⟩, .inl ⟨.int _, rfl⟩, rfl⟩
theorem odv_non {H : Hp} : Odv K H .non .none := ⟨⟨"NoneType", .non, by decide +kernel⟩, ⟨by decide +kernel, by decide +kernel, by decide +kernel⟩, .inl ⟨.non, rfl⟩, by decide +kernel⟩
theorem odv_bl {H : Hp} (b : Bool) : Odv K H (.bl b) (.bool b) := ⟨⟨"bool", .bl _, by decide +kernel⟩, ⟨by cases b <;> decide +kernel, by cases b <;> decide +kernel, by cases b <;> decide +kernel⟩, .inl ⟨.bl _, rfl⟩, by cases b <;> decide +kernel⟩
theorem odv_str {H : Hp} (x : Str) (h1 : plainD (.str x) = true) (h2 : sc (.str x) ≤ 16000000) (h3 : txD (.str x) = true) : Odv K H (.str x) (.str x) := ⟨⟨"str", .str _, by decide +kernel⟩, ⟨h1, by simp [PyData.depth], h2⟩, .inl ⟨.str _, rfl⟩, h3⟩
theorem odv_tup1 {H : Hp} {z : Addr} {i : Int} (f : H z = some (.tup [.int i])) (h : i.natAbs < 2 ^ 250) : Odv K H (.ref z) (.tuple [.int i]) := ⟨⟨"tuple", .tup (SqT.of f), by decide +kernel⟩, ⟨by simp [plainD, plainAll, log_small h], by simp [PyData.depth, PyData.depthAll], by simp [sc, scAll]⟩, .inl ⟨dp_tup (L := [i]) (SqT.of f), rfl⟩, rfl⟩
theorem odv_lst1 {H : Hp} {z : Addr} {i : Int} (f : H z = some (.lst [.int i])) (h : i.natAbs < 2 ^ 250) : Odv K H (.ref z) (.list [.int i]) := ⟨⟨"list", .lst (SqL.of f), by decide +kernel⟩, ⟨by simp [plainD, plainAll, log_small h], by simp [PyData.depth, PyData.depthAll], by simp [sc, scAll]⟩, .inl ⟨dp_lst (L := [i]) (SqL.of f), rfl⟩, rfl⟩
theorem odv_lst0 {H : Hp} {z : Addr} (f : H z = some (.lst [])) : Odv K H (.ref z) (.list []) := ⟨⟨"list", .lst (SqL.of f), by decide +kernel⟩, ⟨by decide +kernel, by decide +kernel, by decide +kernel⟩, .inl ⟨dp_lst (L := []) (SqL.of f), rfl⟩, rfl⟩
theorem odv_dict {H : Hp} {z : Addr} (f : H z = some (.dK [])) : Odv K H (.ref z) (.dict []) := ⟨⟨"dict", .dK f, by decide +kernel⟩, ⟨by decide +kernel, by decide +kernel, by decide +kernel⟩, .inr (.inl ⟨z, rfl, f, rfl⟩), by decide +kernel⟩
theorem okd_ints {Ns : List Int} (h : ∀ x ∈ Ns, x.natAbs < 2 ^ 1920) (k : Ns.length ≤ 100) : Okd (.list (Ns.map PyData.int)) := by
  refine ⟨?_, ?_, ?_⟩
  · simp [plainD, plainAll_ints h]
  · simp [PyData.depth, depth_ints]
  · simp [sc, scAll_ints]
    omega
theorem rd_ints {H : Hp} {q : Addr} {Ns : List Int} (h : H q = some (.lst (Ns.map V.int))) : Rd K H (.ref q) (.list (Ns.map PyData.int)) :=
  .inl ⟨dp_lst (SqL.of h), by simp [PyData.hasDict, PyData.hasDictAll_of_canLayAll _ (canLay_ints Ns)]⟩
theorem small1920 {i : Int} (h : i.natAbs < 100000) : i.natAbs < 2 ^ 1920 := Nat.lt_of_lt_of_le h (Nat.le_trans (by decide : 100000 ≤ 2 ^ 20) (Nat.pow_le_pow_right (by decide) (by decide)))
/-- what a run gives, as data -/
def outD : List Int ⊕ Nat → PyData
  | .inl M => .list (M.map PyData.int)
  | .inr _ => .none
def outO : List Int ⊕ Nat → Option (List Int)
  | .inl M => some M
  | .inr _ => Option.none
def spRunD (K : PySem.W.Frag) : Sp := fun vs H Q _ => ∃ (l : Addr) (x : V) (xs : List V) (S : List Stp) (L : List Int), vs = [.ref l, x] ∧ SqL K H l xs ∧ StsAt K H xs S ∧ (∀ s ∈ S, goodS s = true) ∧ NumsAt K H x L ∧ S.length ≤ 1000 ∧
  ∀ v H', Same H H' → Dp K H' v (outD (XT.runR (XT.srt L) 0 S)) → Q v H'
theorem okD_law_run (T : Txt K mg a) : FnR P w K mg base CX0 1 a.law_run (spRunD K) := fun A outer s H us vs Q E hr e0 r ⟨l, x, xs, S, L, e, h1, h2, h3, h4, h5, k⟩ =>
  ok_law_run (P := P) (w := w) (base := base) T A outer s H us vs Q E hr e0 r ⟨l, x, xs, S, L, e, h1, h2, h3, h4, h5, fun M hM m H' s _ hm => k _ H' s (by rw [hM]; exact dp_lst (SqL.of hm)), fun i hi H' s => k _ H' s (by rw [hi]; exact .non)⟩
theorem sh_out : ∀ r : List Int ⊕ Nat, SeqAt.shaped (outD r) = true
  | .inl M => shaped_lst M
  | .inr _ => by show SeqAt.shaped .none = true; decide
theorem eqv_out (r q : List Int ⊕ Nat) : PyData.eqv (outD r) (outD q) = decide (outO r = outO q) := by
  cases r with
  | inl M =>
    cases q with
    | inl N =>
      show PyData.eqv (.list _) (.list _) = _
      rw [eqv_lsts]
      show decide (M = N) = decide (some M = some N)
      by_cases h : M = N
      · rw [decide_eq_true h, decide_eq_true (by rw [h])]
      · rw [decide_eq_false h, decide_eq_false (fun z => h (Option.some.inj z))]
    | inr j => rfl
  | inr i =>
    cases q with
    | inl N => rfl
    | inr j => rfl
theorem rn_out (N : List Int) (S : List Stp) : Cmp.rn N S = outO (XT.runR N 0 S) := rfl
theorem ne_out (L : List Int) (S R : List Stp) : (!PyData.eqv (outD (XT.runR (XT.srt L) 0 S)) (outD (XT.runR (XT.srt L) 0 R))) = sepB S R L := by
  rw [eqv_out]
  unfold sepB
  rw [rn_out, rn_out]
  by_cases h : outO (XT.runR (XT.srt L) 0 S) = outO (XT.runR (XT.srt L) 0 R) <;> simp [h]
theorem pool_upd {p z : Addr} {H : Hp} {o : HO} (h : PoolAt H p) (n : z ≠ p) : PoolAt (upd H z o) p := let ⟨x, y, e, r⟩ := h; ⟨x, y, by rw [upd_ne (Ne.symm n)]; exact e, r⟩
theorem free_but {p w : Addr} {H0 H : Hp} (b : But p H0 H) (n : w ≠ p) (h : H w = Option.none) : H0 w = Option.none := by
  cases e : H0 w with
  | none => rfl
  | some o => rw [b _ _ n e] at h; cases h
theorem but_updF {p z : Addr} {H H' : Hp} {o : HO} (b : But p H H') (n : H z = Option.none) : But p H (upd H' z o) := fun c u nc e => by
  rw [upd_ne (fun q => by rw [q, n] at e; cases e)]
  exact b c u nc e
def spDrawn (K : PySem.W.Frag) (CE CT : Addr) : Sp := fun vs H Q _ => ∃ (p e f l1 l2 v : Addr) (xs ys : List V) (S R : List Stp) (A : List Int) (n : Int), vs = [.ref p, .ref e, .ref f, .ref l1, .ref l2, .int n, .ref v] ∧ PoolAt H p ∧ EffAt K CE CT H e S ∧ EffAt K CE CT H f R ∧
  H l1 = some (.lst xs) ∧ H l2 = some (.lst ys) ∧ l1 ≠ p ∧ l2 ≠ p ∧ StsAt K H xs S ∧ StsAt K H ys R ∧ S.length + R.length ≤ 1000 ∧ H v = some (.lst (A.map V.int)) ∧ v ≠ p ∧ 0 < A.length ∧ A.length < 900 ∧ (∀ x ∈ A, x.natAbs < 1000) ∧ 0 ≤ n ∧ n ≤ 90 ∧
  ∀ H', But p H H' → PoolAt H' p → Q (.bl true) H'
theorem ok_law_drawn_right (T : Txt K mg a) : FnG P w K mg base CX0 8 a.law_drawn_right (spDrawn K a.Effect a.Table) := by
  obtain ⟨fd, F⟩ := T.F_law_drawn_right
  have G_law_take := ok_law_take (P := P) (w := w) (base := base) T
  have G_law_run := okD_law_run (P := P) (w := w) (base := base) T
  have G_is_separating := ok_is_separating (P := P) (w := w) (base := base) T
  refine XT.okGX F sc_law_drawn_right bn_law_drawn_right (fun vs H Q E h => ?_) (fun cdv A outer s H vs Q E hg hr h => ?_)
  · obtain ⟨p, e, f, l1, l2, v, xs, ys, S, R, A, n, rfl, _⟩ := h
    rfl
  · obtain ⟨p, e, f, l1, l2, v, xs, ys, S, R, A, n, rfl, hp, he, hf, h1, h2, n1, n2, st, rt, hz, hv, nv, hA0, hA9, hAb, hn0, hn9, k⟩ := h
    refine ⟨_, PSs.nox ((pss_cons (ps_for PassesOwn.never rfl (pi_rng1 (by rfl) T.b_range (pa_cons pe_int pa_nil)) (pg_name (i := 7) sc_law_drawn_right.nd rfl (Or.inl rfl))
        (pss_cons (ps_set (i := 8) sc_law_drawn_right.nd rfl (Or.inl rfl) (pe_lst pa_nil))
      (pss_cons (ps_for PassesOwn.never rfl (pi_rng1 (by rfl) T.b_range (pa_cons (pe_op op_add (pv 5) (pe_callR G_law_take (hr.mono (by decide)) rfl T.g_law_take T.k_law_take pass0 (pa_cons (pv 0) (pa_cons pe_int pa_nil)))) pa_nil)) (pg_name (i := 9) sc_law_drawn_right.nd rfl (Or.inl rfl))
        (pss_one (ps_expr (bmK K (pe_bm PySem.F.plainAttrs_list PySem.F.slot_list_append PySem.F.type_list_append mt_append (pv 8) (pa_cons (pe_op op_add (pe_ix (ixLK K) (pv 6) (pe_callR G_law_take (hr.mono (by decide)) rfl T.g_law_take T.k_law_take pass0 (pa_cons (pv 0) (pa_cons (pe_callB (lenK K) (by rfl) T.b_len (by decide +kernel) (pa_cons (pv 6) pa_nil)) pa_nil))) (fun _ _ => rfl)) (pe_ix (ixLK K) (pe_lst (pa_cons pe_int (pa_cons pe_int (pa_cons pe_int (pa_cons (pe_un un_neg pe_int) (pa_cons pe_int pa_nil)))))) (pe_callR G_law_take (hr.mono (by decide)) rfl T.g_law_take T.k_law_take pass0 (pa_cons (pv 0) (pa_cons pe_int pa_nil))) (fun _ _ => rfl))) pa_nil))))))
      (pss_cons (ps_set (i := 10) sc_law_drawn_right.nd rfl (Or.inl rfl) (pe_callB (reprKx K hg hr.units) (by rfl) T.b_repr (by decide +kernel) (pa_cons (pv 8) pa_nil)))
      (pss_cons (ps_set (i := 11) sc_law_drawn_right.nd rfl (Or.inl rfl) (pe_cmpR (neDK K hr.units) (pe_callR G_law_run (hr.mono (by decide)) rfl T.g_law_run T.k_law_run pass0 (pa_cons (pv 3) (pa_cons (pv 8) pa_nil))) (pe_callR G_law_run (hr.mono (by decide)) rfl T.g_law_run T.k_law_run pass0 (pa_cons (pv 4) (pa_cons (pv 8) pa_nil))) (nomark _)))
      (pss_one (ps_if (PW.pt (pw_or (pt_cmpR op_ne (pe_callB (reprKx K hg hr.units) (by rfl) T.b_repr (by decide +kernel) (pa_cons (pe_callR G_is_separating (hr.mono (by decide)) rfl T.g_is_separating T.k_is_separating pass0 (pa_cons (pv 1) (pa_cons (pv 2) (pa_cons (pv 8) pa_nil)))) pa_nil)) (pe_callB (reprKx K hg hr.units) (by rfl) T.b_repr (by decide +kernel) (pa_cons (pv 11) pa_nil)) (nomark _)) (pw_or1 (pt_cmpR op_ne (pe_callB (reprKx K hg hr.units) (by rfl) T.b_repr (by decide +kernel) (pa_cons (pv 8) pa_nil)) (pv 10) (nomark _))))) (pss_one (ps_ret pe_bl)) pss_nil)))))))
      (pss_one (ps_ret pe_bl)))), ?_⟩
    have gS := he.good
    have gR := hf.good
    refine ⟨6, rfl, for_range (lo := 0) (n := 6) (fun i σ H' => ∃ o7 o8 o9 o10 o11, σ = [some (.ref p), some (.ref e), some (.ref f), some (.ref l1), some (.ref l2), some (.int n), some (.ref v), o7, o8, o9, o10, o11] ∧ But p H H' ∧ PoolAt H' p) ⟨_, _, _, _, _, rfl, But.refl _ _, hp⟩ ?_ ?_⟩
    · rintro i σ H1 hi ⟨o7, o8, o9, o10, o11, rfl, b1, hp1⟩
      refine ⟨Nat.zero_le _, fun z hz1 => ?_⟩
      have s2 := same_new (o := .lst []) hz1
      have nzp := pool_ne hp1 hz1
      have hp2 := pool_same hp1 s2
      have b2 := b1.trans (but_same s2)
      have hz2 := upd_same (H := H1) (a := z) (o := .lst [])
      generalize upd H1 z (.lst []) = H2 at s2 hp2 b2 hz2 ⊢
      try dsimp only [tNext]
      show tSeq _ _ _ _ _
      refine seq_cut2 (fun σ' H' => ∃ (Ns : List Int) (o9 : Option V), σ' = [some (.ref p), some (.ref e), some (.ref f), some (.ref l1), some (.ref l2), some (.int n), some (.ref v), some (.int (0 + (i : Int))), some (.ref z), o9, o10, o11] ∧ But p H H' ∧ PoolAt H' p ∧ H' z = some (.lst (Ns.map V.int)) ∧ Ns.length ≤ 95 ∧ ∀ x ∈ Ns, x.natAbs < 100000) (fun N cont => ?_) (fun σ H3 h3 => ?_)
      · refine ⟨_, rfl, _, rfl, p, 4, rfl, hp2, by decide, by decide, fun r H3 r0 r1 b3 hp3 => ⟨_, _, rfl, rfl, _, rfl, ?_⟩⟩
        have hz3 := b3 _ _ nzp hz2
        have b03 := b2.trans b3
        refine for_range (lo := 0) (fun j σ H' => ∃ (Ns : List Int) (o9 : Option V), σ = [some (.ref p), some (.ref e), some (.ref f), some (.ref l1), some (.ref l2), some (.int n), some (.ref v), some (.int (0 + (i : Int))), some (.ref z), o9, o10, o11] ∧ But p H H' ∧ PoolAt H' p ∧ H' z = some (.lst (Ns.map V.int)) ∧ Ns.length = j ∧ ∀ x ∈ Ns, x.natAbs < 100000) ⟨[], _, rfl, b03, hp3, hz3, rfl, fun x hx => by cases hx⟩ ?_ ?_
        · rintro j σ H4 hj ⟨Ns, o9', rfl, b4, hp4, hz4, hNl, hNb⟩
          have hv4 := b4 _ _ nv hv
          refine ⟨_, rfl, .inl ⟨rfl, _, SqL.of hz4⟩, _, rfl, _, rfl, _, rfl, v, _, rfl, .inl (SqL.of hv4), p, _, rfl, hp4, by rw [List.length_map]; omega, by rw [List.length_map]; omega, fun r2 H5 r20 r21 b5 hp5 => ?_⟩
          rw [List.length_map] at r21
          obtain ⟨j2, rfl⟩ : ∃ j2 : Nat, r2 = (j2 : Int) := ⟨r2.toNat, by omega⟩
          have hj2 : j2 < A.length := by omega
          have hv5 := b5 _ _ nv hv4
          refine ⟨v, _, (j2 : Int), .int A[j2], rfl, rfl, SqL.of hv5, atI_nat (by rw [List.getElem?_map, List.getElem?_eq_getElem hj2]; rfl), 1, rfl, by show 5 ≤ sizeLine; decide, fun d hd => ?_⟩
          have s6 := same_new (o := .lst [V.int 0, V.int 0, V.int 1, V.int (-1), V.int 30]) hd
          have hp6 := pool_same hp5 s6
          have hd6 := upd_same (H := H5) (a := d) (o := .lst [V.int 0, V.int 0, V.int 1, V.int (-1), V.int 30])
          have ndp := pool_ne hp5 hd
          generalize upd H5 d (.lst [V.int 0, V.int 0, V.int 1, V.int (-1), V.int 30]) = H6 at s6 hp6 hd6 ⊢
          refine ⟨_, rfl, p, 5, rfl, hp6, by decide, by decide, fun r3 H7 r30 r31 b7 hp7 => ?_⟩
          obtain ⟨j3, rfl⟩ : ∃ j3 : Nat, r3 = (j3 : Int) := ⟨r3.toNat, by omega⟩
          obtain ⟨y, hy, hyb⟩ : ∃ y : Int, [V.int 0, V.int 0, V.int 1, V.int (-1), V.int 30][j3]? = some (V.int y) ∧ y.natAbs ≤ 30 := by
            have : j3 = 0 ∨ j3 = 1 ∨ j3 = 2 ∨ j3 = 3 ∨ j3 = 4 := by omega
            rcases this with rfl | rfl | rfl | rfl | rfl
            · exact ⟨0, rfl, by decide⟩
            · exact ⟨0, rfl, by decide⟩
            · exact ⟨1, rfl, by decide⟩
            · exact ⟨-1, rfl, by decide⟩
            · exact ⟨30, rfl, by decide⟩
          have b47 := (b5.trans (but_same s6)).trans b7
          have hz7 := b47 _ _ nzp hz4
          refine ⟨d, _, (j3 : Int), .int y, rfl, rfl, SqL.of (b7 _ _ ndp hd6), atI_nat hy, _, _, rfl, rfl, z, _, _, rfl, rfl, hz7, Nat.lt_of_lt_of_le (show (Ns.map V.int).length < 100000 by rw [List.length_map, hNl]; omega) line_ge, ?_⟩
          refine ⟨Ns ++ [A[j2] + y], _, rfl, ?_, pool_upd hp7 nzp, by rw [upd_same, List.map_append]; rfl, by rw [List.length_append, hNl]; rfl, fun x hx => ?_⟩
          · exact but_updF (b4.trans b47) (free_but b1 nzp hz1)
          · rcases List.mem_append.mp hx with hx | hx
            · exact hNb x hx
            · rw [List.mem_singleton.mp hx]
              have := hAb _ (List.getElem_mem hj2)
              omega
        · rintro σ H4 ⟨Ns, o9', rfl, b4, hp4, hz4, hNl, hNb⟩
          exact cont _ _ ⟨Ns, _, rfl, b4, hp4, hz4, by omega, hNb⟩
      obtain ⟨Ns, o9', rfl, b3, hp3, hz3, hNl, hNb⟩ := h3
      have okN : Okd (.list (Ns.map PyData.int)) := okd_ints (fun x hx => small1920 (hNb x hx)) (by omega)
      refine ⟨_, rfl, _, _, rfl, rd_ints hz3, okN.pl, okN.dp, okN.sz, ?_⟩
      have l13 := b3 _ _ n1 h1
      have l23 := b3 _ _ n2 h2
      have st3 := sts_kt st (kt_but hp b3)
      have rt3 := sts_kt rt (kt_but hp b3)
      have he3 := eff_but he hp b3
      have hf3 := eff_but hf hp b3
      have bs : ∀ b, ∃ d, Odv K H (V.bl b) d ∧ d = .bool b := fun b => ⟨_, odv_bl b, rfl⟩
      refine ⟨_, rfl, _, rfl, l1, .ref z, xs, S, Ns, rfl, SqL.of l13, st3, gS, nums_lst hz3 (by omega), by omega, fun w1 H4 s4 d4 => ?_⟩
      refine ⟨_, rfl, _, rfl, l2, .ref z, ys, R, Ns, rfl, SqL.of (s4 _ _ l23), sts_same rt3 s4, gR, nums_lst (s4 _ _ hz3) (by omega), by omega, fun w2 H5 s5 d5 => ?_⟩
      refine ⟨_, _, dp_same s5 _ _ d4, d5, sh_out _, sh_out _, ?_⟩
      rw [ne_out]
      have s35 := s4.trans s5
      refine ⟨_, rfl, _, rfl, _, rfl, e, f, .ref z, S, R, rfl, he3.same s35, hf3.same s35, by omega, .inr ⟨Ns, nums_lst (s35 _ _ hz3) (by omega), fun H6 s6 => ?_⟩⟩
      have s36 := s35.trans s6
      have ob := (odv_bl (K := K) (H := H6) (sepB S R Ns))
      refine ⟨_, _, rfl, ob.rd, ob.od.pl, ob.od.dp, ob.od.sz, _, rfl, _, _, rfl, ob.rd, ob.od.pl, ob.od.dp, ob.od.sz, rfl, _, rfl, iteN (by rw [decide_eq_true rfl]; rfl) ?_⟩
      refine ⟨_, rfl, _, _, rfl, rd_ints (s36 _ _ hz3), okN.pl, okN.dp, okN.sz, _, rfl, rfl, _, rfl, iteN (by rw [decide_eq_true rfl]; rfl) ?_⟩
      exact ⟨_, _, _, _, _, rfl, b3.trans (but_same s36), pool_same hp3 s36⟩
    · rintro σ H1 ⟨o7, o8, o9, o10, o11, rfl, b1, hp1⟩
      exact k _ b1 hp1
end
end K13
namespace K13
open PySem L2 XT
section
variable {P : Program} {w : World} {K : PySem.W.Frag} {mg : Str → Option Value} {base : Heap} {a : Ads}
local macro_rules | `(tactic| walk_at "rside") => `(tactic| first | (show (0 : Int) < _; first | decide | omega) | (exact ⟨by first | decide | omega, by first | decide | omega⟩) | (exact Or.inl ⟨by omega, by omega⟩) | (exact Or.inr ⟨by omega, by omega⟩) | (exact ⟨by decide, by decide, by decide⟩))
local macro_rules | `(tactic| walk_at "rd1") => `(tactic| first | (refine ⟨_, rfl, ?_⟩) | (refine ⟨_, _, rfl, rfl, (by walk_at "rside"), ?_⟩) | (refine ⟨_, _, rfl, rfl, ?_⟩))
local macro_rules | `(tactic| walk_at "rd") => `(tactic| repeat (walk_at "rd1"))

theorem iteK {σ : L2.St} {H : Hp} {kk : V → Hp → Prop} {c : Bool} {A B : TE} (x : V) (h1 : c = true → ∀ k' : V → Hp → Prop, k' x H → A σ H k') (h2 : ¬ c = true → ∀ k' : V → Hp → Prop, k' x H → B σ H k') (k : kk x H) : if c = true then A σ H kk else B σ H kk := by
  split
  · rename_i h; exact h1 h _ k
  · rename_i h; exact h2 h _ k
/-- the pairs (number, True) of the numbers N -/
theorem prs_of {H : Hp} : ∀ {N : List Int} {acc : List V}, acc.length = N.length → (∀ (i : Nat) (y : V), acc[i]? = some y → ∃ (t : Addr) (n : Int), y = V.ref t ∧ N[i]? = some n ∧ H t = some (.tup [V.int n, V.bl true])) →
    ∃ ps : List Addr, acc = ps.map V.ref ∧ Paired (fun p (kv : Key × V) => SqT K H p [kV kv.1, kv.2]) ps (N.map fun n => ((Sum.inl n : Key), V.bl true))
  | [], [], _, _ => ⟨[], rfl, .nil⟩
  | n :: N, y :: acc, hl, h => by
    obtain ⟨t, n', rfl, e, ht⟩ := h 0 y rfl
    have e : n = n' := Option.some.inj e
    subst e
    obtain ⟨ps, rfl, hp⟩ := prs_of (N := N) (acc := acc) (by simpa using hl) fun i y hy => h (i + 1) y (by simpa using hy)
    exact ⟨t :: ps, rfl, .cons (SqT.of ht) hp⟩
  | [], _ :: _, hl, _ => by simp at hl
  | _ :: _, [], hl, _ => by simp at hl
theorem fdF_same {S R : List Stp} {A B : List Int} (ha : Tbl.Asc A) (hb : Tbl.Asc B) (ma : ∀ x, x ∈ A ↔ (true, x) ∈ S ∨ (true, x) ∈ R) (mb : ∀ x, x ∈ B ↔ (true, x) ∈ S ∨ (true, x) ∈ R) : A = B := Tbl.asc_ext ha hb fun x => by rw [ma, mb]
theorem kv_bl {H : Hp} (b : Bool) : KV K H (.bl b) := ⟨"bool", .bl b, by decide +kernel⟩
theorem kv_non {H : Hp} : KV K H .non := ⟨"NoneType", .non, by decide +kernel⟩
theorem bd_l {H : Hp} {a : Addr} {xs : List V} (h : H a = some (.lst xs)) (k : ∀ y ∈ xs, KV K H y) (hl : xs.length ≤ 100000) (r : numsV xs = false) : BadN K H (.ref a) := .inl ⟨xs, ⟨a, rfl, .inl (SqL.of h), k, hl⟩, r⟩
theorem odds6 {H : Hp} {z1 z2 z3 : Addr} (h1 : H z1 = some (.lst [V.bl true])) (h2 : H z2 = some (.lst [V.non])) (h3 : H z3 = some (.dK [])) : ∀ x ∈ [V.non, V.int 5, V.str "1", V.ref z1, V.ref z2, V.ref z3], BadN K H x := by
  intro x hx
  simp only [List.mem_cons, List.not_mem_nil, or_false] at hx
  rcases hx with rfl | rfl | rfl | rfl | rfl | rfl
  · exact .inr ⟨"NoneType", .non, by decide +kernel, by decide, by decide⟩
  · exact .inr ⟨"int", .int _, by decide +kernel, by decide, by decide⟩
  · exact .inr ⟨"str", .str _, by decide +kernel, by decide, by decide⟩
  · exact bd_l h1 (by simp [kv_bl]) (by decide) (by decide +kernel)
  · exact bd_l h2 (by simp [kv_non]) (by decide) (by decide +kernel)
  · exact .inr ⟨"dict", .dK h3, by decide +kernel, by decide, by decide⟩
def spRt (K : PySem.W.Frag) : Sp := fun vs H Q _ => ∃ (p l1 l2 : Addr) (xs ys : List V) (S R : List Stp), vs = [.ref p, .ref l1, .ref l2] ∧ PoolAt H p ∧ H l1 = some (.lst xs) ∧ H l2 = some (.lst ys) ∧ l1 ≠ p ∧ l2 ≠ p ∧ StsAt K H xs S ∧ StsAt K H ys R ∧ LSt S ∧ LSt R ∧ S.length ≤ 13 ∧ R.length ≤ 13 ∧
  ∀ H', But p H H' → PoolAt H' p → Q (.bl true) H'
theorem ok_law_right (T : Txt K mg a) : FnG P w K mg base CX0 13 a.law_right (spRt K) := by
  obtain ⟨fd, F⟩ := T.F_law_right
  have G_law_made := ok_law_made (P := P) (w := w) (base := base) T
  have G_of := ok_Effect_of (P := P) (w := w) (base := base) T
  have G_separating_list := ok_separating_list (P := P) (w := w) (base := base) T
  have G_eq_E := ok_Effect___eq__ (P := P) (w := w) (base := base) T
  have G_breaks := ok_Effect_breaks (P := P) (w := w) (base := base) T
  have G_need := ok_Effect_need (P := P) (w := w) (base := base) T
  have G_law_lists := ok_law_lists (P := P) (w := w) (base := base) T
  have G_law_run := okD_law_run (P := P) (w := w) (base := base) T
  have G_is_separating := ok_is_separating (P := P) (w := w) (base := base) T
  have G_law_drawn_right := ok_law_drawn_right (P := P) (w := w) (base := base) T
  refine XT.okGX F sc_law_right bn_law_right (fun vs H Q E h => ?_) (fun cdv A outer s H vs Q E hg hr h => ?_)
  · obtain ⟨p, l1, l2, xs, ys, S, R, rfl, _⟩ := h
    rfl
  · obtain ⟨p, l1, l2, xs, ys, S, R, rfl, hp, h1, h2, n1, n2, st, rt, lS, lR, zS, zR, k⟩ := h
    refine ⟨_, PSs.nox ((pss_cons (ps_par (i := 3) (j := 4) (by rfl) sc_law_right.nd rfl rfl (by decide) rfl rfl (pa_cons (ClX.pe_cmeth (pe_glob (v := .ref a.Effect) (by rfl) T.g_Effect rfl) T.rd_Effect T.cm_of G_of (hr.mono (by decide)) pass0 (pa_cons (pe_callR G_law_made (hr.mono (by decide)) rfl T.g_law_made T.k_law_made pass0 (pa_cons (pv 1) pa_nil)) pa_nil)) (pa_cons (ClX.pe_cmeth (pe_glob (v := .ref a.Effect) (by rfl) T.g_Effect rfl) T.rd_Effect T.cm_of G_of (hr.mono (by decide)) pass0 (pa_cons (pe_callR G_law_made (hr.mono (by decide)) rfl T.g_law_made T.k_law_made pass0 (pa_cons (pv 2) pa_nil)) pa_nil)) pa_nil)) (by rfl))
      (pss_cons (ps_set (i := 5) sc_law_right.nd rfl (Or.inl rfl) (pe_callR G_separating_list (hr.mono (by decide)) rfl T.g_separating_list T.k_separating_list pass0 (pa_cons (pv 3) (pa_cons (pv 4) pa_nil))))
      (pss_cons (ps_if (pt_cmpR op_ne (pe_cmpR op_isN (pv 5) pe_non (nomark _)) (pe_cmpR (op_ownE T.eqA_E T.eqF_E G_eq_E (hr.mono (by decide)) pass0) (pv 3) (pv 4) (nomark _)) (nomark _)) (pss_one (ps_ret pe_bl)) pss_nil)
      (pss_cons (ps_set (i := 6) sc_law_right.nd rfl (Or.inl rfl) (pe_op op_cat (pe_slice (slLK K) (pe_callB (sortDIK rfl) (by rfl) T.b_sorted (by decide +kernel) (pa_cons (pe_callTy (dictPK K rfl) (by rfl) T.b_dict (by decide +kernel) (pa_cons (pe_lc (own := [("_law_number", 7)])  rfl sc_law_right.nd (pi_tup (pe_op (catTS K) (pe_propR (pv 3) T.cl_E T.p_breaks G_breaks (hr.mono (by decide)) pass0 rfl) (pe_propR (pv 4) T.cl_E T.p_breaks G_breaks (hr.mono (by decide)) pass0 rfl))) (blkOk_by (N := N_law_right) (sc := defScope s_law_right) (by decide +kernel)) (fun _ _ _ _ _ => by exact (pg_name (i := 7) sc_law_right.nd rfl (Or.inl rfl))) (fun _ _ _ _ _ => by exact pts_nil) (fun _ _ _ _ _ => by exact (pe_tup (pa_cons (pv 7) (pa_cons pe_bl pa_nil))))) pa_nil)) pa_nil)) po_none (po_some pe_int)) (pe_lst (pa_cons (pe_un un_neg pe_int) (pa_cons pe_int pa_nil)))))
      (pss_cons (ps_set (i := 8) sc_law_right.nd rfl (Or.inl rfl) (pe_ifExp (pt_cmpR op_isN (pv 5) pe_non (nomark _)) pe_int (pe_callB (call_min2 rfl) (by rfl) T.b_min (by decide +kernel) (pa_cons pe_int (pa_cons (pe_op op_sub (pe_callB (lenK K) (by rfl) T.b_len (by decide +kernel) (pa_cons (pv 5) pa_nil)) pe_int) pa_nil)))))
      (pss_cons (ps_for PassesOwn.never rfl (pi_rng1 (by rfl) T.b_range (pa_cons (pe_op op_add (pv 8) pe_int) pa_nil)) (pg_name (i := 9) sc_law_right.nd rfl (Or.inl rfl))
        (pss_one (ps_for PassesOwn.never rfl (pi_list (pe_callR G_law_lists (hr.mono (by decide)) rfl T.g_law_lists T.k_law_lists pass0 (pa_cons (pv 6) (pa_cons (pv 9) pa_nil)))) (pg_name (i := 10) sc_law_right.nd rfl (Or.inl rfl))
        (pss_cons (ps_if (pt_cmpR (neDK K hr.units) (pe_callR G_law_run (hr.mono (by decide)) rfl T.g_law_run T.k_law_run pass0 (pa_cons (pv 1) (pa_cons (pv 10) pa_nil))) (pe_callR G_law_run (hr.mono (by decide)) rfl T.g_law_run T.k_law_run pass0 (pa_cons (pv 2) (pa_cons (pv 10) pa_nil))) (nomark _)) (pss_one (ps_ret pe_bl)) pss_nil)
      (pss_one (ps_if (pt_cmpR op_notBl (pe_callR G_is_separating (hr.mono (by decide)) rfl T.g_is_separating T.k_is_separating pass0 (pa_cons (pv 3) (pa_cons (pv 4) (pa_cons (pv 10) pa_nil)))) pe_bl (nomark _)) (pss_one (ps_ret pe_bl)) pss_nil))))))
      (pss_cons (ps_for PassesOwn.never rfl (pi_list (pe_lst (pa_cons pe_non (pa_cons pe_int (pa_cons pe_str (pa_cons (pe_lst (pa_cons pe_bl pa_nil)) (pa_cons (pe_lst (pa_cons pe_non pa_nil)) (pa_cons pe_dnewK pa_nil)))))))) (pg_name (i := 11) sc_law_right.nd rfl (Or.inl rfl))
        (pss_one (ps_if (pt_cmpR op_notBl (pe_callR G_is_separating (hr.mono (by decide)) rfl T.g_is_separating T.k_is_separating pass0 (pa_cons (pv 3) (pa_cons (pv 4) (pa_cons (pv 11) pa_nil)))) pe_bl (nomark _)) (pss_one (ps_ret pe_bl)) pss_nil)))
      (pss_cons (ps_set (i := 12) sc_law_right.nd rfl (Or.inl rfl) (pe_ifExp (pt_cmpR op_isN (pv 5) pe_non (nomark _)) (pe_propR (pv 3) T.cl_E T.p_need G_need (hr.mono (by decide)) pass0 rfl) (pe_callB (lenK K) (by rfl) T.b_len (by decide +kernel) (pa_cons (pv 5) pa_nil))))
      (pss_cons (ps_if (pt_not (pt_val (pe_callG G_law_drawn_right hg (hr.mono (by decide)) rfl T.g_law_drawn_right T.k_law_drawn_right pass0 (pa_cons (pv 0) (pa_cons (pv 3) (pa_cons (pv 4) (pa_cons (pv 1) (pa_cons (pv 2) (pa_cons (pv 12) (pa_cons (pv 6) pa_nil)))))))))) (pss_one (ps_ret pe_bl)) pss_nil)
      (pss_cons (ps_if (pt_cmpR op_isN (pv 5) pe_non (nomark _)) (pss_one (ps_ret pe_bl)) pss_nil)
      (pss_cons (ps_if (pt_cmpR op_notBl (pe_callR G_is_separating (hr.mono (by decide)) rfl T.g_is_separating T.k_is_separating pass0 (pa_cons (pv 3) (pa_cons (pv 4) (pa_cons (pe_callTy (tupleK K) (by rfl) T.b_tuple (by decide +kernel) (pa_cons (revLK K (pv 5)) pa_nil)) pa_nil)))) pe_bl (nomark _)) (pss_one (ps_ret pe_bl)) pss_nil)
      (pss_one (ps_ret (pe_and (pe_cmpR (eqDK K hr.units) (pv 5) (pe_callB (sortedAK K) (by rfl) T.b_sorted (by decide +kernel) (pa_cons (pv 5) pa_nil)) (nomark _)) (pe_one (pe_cmpR (neDK K hr.units) (pe_callR G_law_run (hr.mono (by decide)) rfl T.g_law_run T.k_law_run pass0 (pa_cons (pv 1) (pa_cons (pv 5) pa_nil))) (pe_callR G_law_run (hr.mono (by decide)) rfl T.g_law_run T.k_law_run pass0 (pa_cons (pv 2) (pa_cons (pv 5) pa_nil))) (nomark _)))))))))))))))))), ?_⟩
    have gS : ∀ s ∈ S, goodS s = true := fun s hs => lS.good s hs
    have gR : ∀ s ∈ R, goodS s = true := fun s hs => lR.good s hs
    refine ⟨rfl, _, rfl, l1, xs, S, rfl, SqL.of h1, st, gS, by omega, fun q H1 s1 n1' hq => ⟨q, S, rfl, hq, by omega, fun e H2 s2 n2' he => ⟨rfl, _, rfl, l2, ys, R, rfl, SqL.of ((s1.trans s2) _ _ h2), sts_same rt (s1.trans s2), gR, by omega, fun q' H3 s3 n3 hq' => ⟨q', R, rfl, hq', by omega, fun f H4 s4 n4 hf => ⟨_, _, rfl, ?_⟩⟩⟩⟩⟩
    have he4 := (he.same s3).same s4
    have s04 := ((s1.trans s2).trans s3).trans s4
    refine ⟨_, rfl, _, rfl, e, f, S, R, rfl, he4, hf, by omega, fun A asc mem => ⟨fun h0 H5 s5 => ?_, fun t c hu c0 => ?_⟩⟩
    · have teq : ∀ t, Eff.tb t S = Eff.tb t R := Cmp.thr_all asc mem fun t ht => Cmp.ldT_none.mp ((Cmp.fdF_spec (ldf S R) _).1.mp h0 t ht)
      have he5 := he4.same s5
      have hf5 := hf.same s5
      have s05 := s04.trans s5
      refine ⟨_, rfl, rfl, _, rfl, _, rfl, e, f, rfl, rfl, he5.insA, hf5.insA, e, f, S, R, rfl, he5, hf5, fun bb hbb H6 s6 => ?_⟩
      have eb : bb = true := hbb.mpr teq
      subst eb
      refine ⟨rfl, _, rfl, iteN (by rfl) ?_⟩
      have he6 := he5.same s6
      have hf6 := hf5.same s6
      have s06 := s05.trans s6
      obtain ⟨de, pe, qe, ie⟩ := he6.ins
      obtain ⟨df, pf, qf, jf⟩ := hf6.ins
      refine ⟨_, rfl, e, de, _, rfl, ie, e, S, rfl, he6, fun p1 C1 hp1 hC1 _ => ⟨_, rfl, f, df, _, rfl, jf, f, R, rfl, hf6, fun p2 C2 hp2 hC2 _ => ?_⟩⟩
      have l1' := Eff.brk_len hC1
      have l2' := Eff.brk_len hC2
      refine ⟨p1, p2, _, _, rfl, rfl, hp1, hp2, Nat.le_trans (by rw [List.length_map, List.length_map]; show C1.length + C2.length ≤ 100000; omega) line_ge, fun rr H7 s7 hr7 => ?_⟩
      rw [← List.map_append] at hr7
      obtain ⟨N, hN⟩ : ∃ N, N = C1 ++ C2 := ⟨_, rfl⟩
      have hNl : N.length < 64 := by rw [hN, List.length_append]; omega
      rw [← hN] at hr7
      refine ⟨rr, rfl, ⟨_, hr7⟩, fun D hD => lcR (stat_tup hr7) hD (fun i y H => ∃ (t : Addr) (n : Int), y = V.ref t ∧ N[i]? = some n ∧ H t = some (.tup [V.int n, V.bl true])) (fun i y Ha Hb s ⟨t, n, e1, e2, e3⟩ => ⟨t, n, e1, e2, s _ _ e3⟩) (fun i y Ha a b ha ⟨t, n, e1, e2, e3⟩ => ⟨t, n, e1, e2, by rw [upd_ne (fun q => by rw [q, ha] at e3; cases e3)]; exact e3⟩) (Nat.le_trans (by rw [List.length_map]; show N.length ≤ 100000; omega) line_ge) ?_ ?_⟩
      · intro i x H2 T hi s px kk
        rw [List.getElem?_map] at px
        obtain ⟨y, hy, rfl⟩ := Option.map_eq_some_iff.mp px
        refine ⟨rfl, _, rfl, by show 2 ≤ sizeLine; decide, fun t ht => ?_⟩
        exact kk _ _ (same_new ht) ⟨t, y, rfl, hy, upd_same⟩
      intro H8 acc s8 hal hacc hD8
      rw [List.length_map] at hal
      obtain ⟨ps, rfl, hps⟩ := prs_of (K := K) hal hacc
      refine ⟨D, ps, _, rfl, SqL.of hD8, hps, fun dd hdd => ?_⟩
      have s9 := same_new (o := .dK (mergeK [] (N.map fun n => ((Sum.inl n : Key), V.bl true)))) hdd
      obtain ⟨nd, km, kl⟩ := XT.keysI_spec N
      refine ⟨dd, _, XT.keysI N, rfl, .inl upd_same, XT.merge_keys (fun _ => V.bl true) N [] [] rfl, by omega, fun B br pm up hbr => ?_⟩
      have hBl : B.length < 64 := by rw [pm.length_eq]; omega
      have hBm : ∀ x ∈ B, (true, x) ∈ S ∨ (true, x) ∈ R := fun x hx => by
        have hx := (km x).mp (pm.mem_iff.mp hx)
        rw [hN, List.mem_append, hC1.mem, hC2.mem] at hx
        exact hx
      have sA := same_new (o := .lst (B.map V.int)) hbr
      have hbA := upd_same (H := upd H8 dd (.dK (mergeK [] (N.map fun n => ((Sum.inl n : Key), V.bl true))))) (a := br) (o := .lst (B.map V.int))
      have s6A := ((s7.trans s8).trans s9).trans sA
      generalize upd (upd H8 dd (.dK (mergeK [] (N.map fun n => ((Sum.inl n : Key), V.bl true))))) br (.lst (B.map V.int)) = HA at sA hbA s6A ⊢
      refine ⟨_, rfl, br, _, rfl, SqL.of hbA, fun c1 hc1 => ?_⟩
      rw [show cutV (B.map V.int) none (some (5 : Int)) = (B.take 5).map V.int from by rw [show (5 : Int) = ((5 : Nat) : Int) from rfl, cut_to, List.map_take]]
      have sB := same_new (o := .lst ((B.take 5).map V.int)) hc1
      refine ⟨9, rfl, by show 2 ≤ sizeLine; decide, fun c2 hc2 => ?_⟩
      have sC := same_new (o := .lst [V.int (-9), V.int 50]) hc2
      refine ⟨c1, c2, _, _, rfl, rfl, sC _ _ upd_same, upd_same, by rw [List.length_map, sizeLine_eq]; have := List.length_take_le 5 B; show (B.take 5).length + 2 ≤ _; omega, fun vl hvl => ?_⟩
      have sD := same_new (o := .lst ((B.take 5).map V.int ++ [V.int (-9), V.int 50])) hvl
      obtain ⟨W, hW⟩ : ∃ W, W = B.take 5 ++ [-9, 50] := ⟨_, rfl⟩
      have eW : (B.take 5).map V.int ++ [V.int (-9), V.int 50] = W.map V.int := by rw [hW, List.map_append]; rfl
      have hWl : 0 < W.length ∧ W.length ≤ 7 := by rw [hW, List.length_append]; have := List.length_take_le 5 B; show 0 < (B.take 5).length + 2 ∧ (B.take 5).length + 2 ≤ 7; omega
      have hWb : ∀ x ∈ W, x.natAbs < 1000 := fun x hx => by
        rw [hW] at hx
        rcases List.mem_append.mp hx with hx | hx
        · rcases hBm x (List.mem_of_mem_take hx) with h | h
          · have := (lS.sm _ h); simp only at this; omega
          · have := (lR.sm _ h); simp only at this; omega
        · simp only [List.mem_cons, List.not_mem_nil, or_false] at hx
          omega
      rw [eW] at sD ⊢
      have hvl0 := upd_same (H := upd (upd HA c1 (.lst ((B.take 5).map V.int))) c2 (.lst [V.int (-9), V.int 50])) (a := vl) (o := .lst (W.map V.int))
      have s6D := ((s6A.trans sB).trans sC).trans sD
      generalize upd (upd (upd HA c1 (.lst ((B.take 5).map V.int))) c2 (.lst [V.int (-9), V.int 50])) vl (.lst (W.map V.int)) = HD at s6D hvl0 ⊢
      have heD := he6.same s6D
      have hfD := hf6.same s6D
      have s0D := s06.trans s6D
      have nvp : vl ≠ p := fun q => by
        obtain ⟨x, y, ex, _⟩ := hp
        have := ((((s06.trans s6A).trans sB).trans sC)) _ _ ex
        rw [q, this] at hvl
        cases hvl
      obtain ⟨sz, hsz⟩ : ∃ sz : Int, sz = 4 := ⟨_, rfl⟩
      refine ⟨_, rfl, rfl, _, rfl, iteH (by rfl) ?_⟩
      rw [← hsz]
      have szb : sz + 1 ≤ 5 ∧ 0 ≤ sz + 1 := by omega
      refine ⟨_, rfl, _, _, rfl, rfl, _, rfl, for_range (lo := 0) (fun i σ H' => ∃ o9 o10 o11 o12, σ = [some (.ref p), some (.ref l1), some (.ref l2), some (.ref e), some (.ref f), some .non, some (.ref vl), none, some (.int sz), o9, o10, o11, o12] ∧ Same HD H') ⟨_, _, _, _, rfl, Same.refl _⟩ ?_ ?_⟩
      · rintro i σ H1 hi ⟨o9, o10, o11, o12, rfl, sE⟩
        have hi5 : (i : Int) < sz + 1 := by omega
        have s0E := s0D.trans sE
        refine ⟨_, rfl, _, rfl, vl, W, i, by rw [Int.zero_add], SqL.of (sE _ _ hvl0), by omega, by omega, fun q H2 rows Ls sF hq hrows hLs hrl => ?_⟩
        have sEF := sE.trans sF
        refine ⟨q, rfl, ⟨_, SqL.of hq⟩, for_list (K := K) (a := q) (xs := rows) (fun j σ H' => ∃ o10 o11 o12, σ = [some (.ref p), some (.ref l1), some (.ref l2), some (.ref e), some (.ref f), some .non, some (.ref vl), none, some (.int sz), some (.int (0 + (i : Int))), o10, o11, o12] ∧ Same H2 H') ⟨_, _, _, rfl, Same.refl _⟩ (fun j σ H' _ ⟨_, _, _, _, s⟩ => s.seq (SqL.of hq)) ?_ ?_⟩
        · rintro j x σ H3 hx ⟨o10, o11, o12, rfl, sG⟩
          obtain ⟨Lj, hLj, z, rfl, _, hz2⟩ := pd_get hrows hx
          have hlj := hLs Lj (List.mem_of_getElem? hLj)
          have hz3 := sG _ _ hz2
          have sDG := sEF.trans sG
          have s0G := s0D.trans sDG
          have heG := heD.same sDG
          have hfG := hfD.same sDG
          have nosep : sepB S R Lj = false := by
            unfold sepB
            rw [Cmp.rn_same gS gR asc mem h0 (Eff.up_srt Lj)]
            simp
          refine ⟨_, rfl, _, rfl, l1, .ref z, xs, S, Lj, rfl, SqL.of (s0G _ _ h1), sts_same st s0G, gS, nums_lst hz3 (by omega), by omega, fun w1 H4 s4 d4 => ?_⟩
          refine ⟨_, rfl, _, rfl, l2, .ref z, ys, R, Lj, rfl, SqL.of (s4 _ _ (s0G _ _ h2)), sts_same rt (s0G.trans s4), gR, nums_lst (s4 _ _ hz3) (by omega), by omega, fun w2 H5 s5 d5 => ?_⟩
          refine ⟨_, _, dp_same s5 _ _ d4, d5, sh_out _, sh_out _, _, rfl, iteN (by rw [ne_out, nosep]) ?_⟩
          have s45 := s4.trans s5
          refine ⟨_, rfl, _, rfl, _, rfl, e, f, .ref z, S, R, rfl, heG.same s45, hfG.same s45, by omega, .inr ⟨Lj, nums_lst (s45 _ _ hz3) (by omega), fun H6 s6' => ?_⟩⟩
          rw [nosep]
          exact ⟨false, false, rfl, rfl, _, rfl, iteN (by rfl) ⟨_, _, _, rfl, (sG.trans s45).trans s6'⟩⟩
        · rintro σ H3 ⟨o10, o11, o12, rfl, sG⟩
          exact ⟨_, _, _, _, rfl, sEF.trans sG⟩
      · rintro σ H1 ⟨o9, o10, o11, o12, rfl, sE⟩
        refine ⟨by show 1 ≤ sizeLine; decide, fun z1 hz1 => ⟨by show 1 ≤ sizeLine; decide, fun z2 hz2 => fun z3 hz3 => ⟨by show 6 ≤ sizeLine; decide, fun z4 hz4 => ?_⟩⟩⟩
        have oe0 := same_new (o := .lst [V.bl true]) hz1
        have oe1 := same_new (o := .lst [V.non]) hz2
        have oe2 := same_new (o := .dK []) hz3
        have oe3 := same_new (o := .lst [V.non, V.int 5, V.str "1", V.ref z1, V.ref z2, V.ref z3]) hz4
        have of0 := (oe3 _ _ (oe2 _ _ (oe1 _ _ (upd_same (H := H1) (a := z1) (o := .lst [V.bl true])))))
        have of1 := (oe3 _ _ (oe2 _ _ (upd_same (H := (upd H1 z1 (.lst [V.bl true]))) (a := z2) (o := .lst [V.non]))))
        have of2 := (oe3 _ _ (upd_same (H := (upd (upd H1 z1 (.lst [V.bl true])) z2 (.lst [V.non]))) (a := z3) (o := .dK [])))
        have of3 := (upd_same (H := (upd (upd (upd H1 z1 (.lst [V.bl true])) z2 (.lst [V.non])) z3 (.dK []))) (a := z4) (o := .lst [V.non, V.int 5, V.str "1", V.ref z1, V.ref z2, V.ref z3]))
        have os := (((oe0.trans oe1).trans oe2).trans oe3)
        generalize upd (upd (upd (upd H1 z1 (.lst [V.bl true])) z2 (.lst [V.non])) z3 (.dK [])) z4 (.lst [V.non, V.int 5, V.str "1", V.ref z1, V.ref z2, V.ref z3]) = H2 at os of0 of1 of2 of3 ⊢
        clear oe0 oe1 oe2 oe3
        have bad := odds6 (K := K) of0 of1 of2
        have sDo := sE.trans os
        refine ⟨z4, rfl, ⟨_, SqL.of of3⟩, for_list (K := K) (a := z4) (xs := [V.non, V.int 5, V.str "1", V.ref z1, V.ref z2, V.ref z3]) (fun j σ H' => ∃ o11 o12, σ = [some (.ref p), some (.ref l1), some (.ref l2), some (.ref e), some (.ref f), some .non, some (.ref vl), none, some (.int sz), o9, o10, o11, o12] ∧ Same H2 H') ⟨_, _, rfl, Same.refl _⟩ (fun j σ H' _ ⟨_, _, _, s⟩ => s.seq (SqL.of of3)) ?_ ?_⟩
        · rintro j x σ H3 hx ⟨o11, o12, rfl, sG⟩
          have hb := (bad x (List.mem_of_getElem? hx)).same sG
          have sDG := sDo.trans sG
          refine ⟨_, rfl, _, rfl, _, rfl, e, f, x, S, R, rfl, heD.same sDG, hfD.same sDG, by omega, .inl ⟨hb, fun H6 s6' => ?_⟩⟩
          exact ⟨false, false, rfl, rfl, _, rfl, iteN (by rfl) ⟨_, _, rfl, sG.trans s6'⟩⟩
        · rintro σ H3 ⟨o11, o12, rfl, sG⟩
          have sDG := sDo.trans sG
          have s0G := s0D.trans sDG
          have heG := heD.same sDG
          have hfG := hfD.same sDG
          have hpG := pool_same hp s0G
          obtain ⟨dg, _, _, ig⟩ := heG.ins
          have nn := Eff.need_nn gS
          have nl := Cmp.need_le gS (fun s hs => (lS.sm s hs).2) (by decide)
          refine ⟨_, rfl, rfl, _, rfl, iteH (by rfl) ?_⟩
          refine ⟨_, rfl, e, dg, _, rfl, ig, e, S, rfl, heG, ?_⟩
          refine ⟨_, rfl, _, rfl, _, rfl, _, rfl, _, rfl, _, rfl, _, rfl, p, e, f, l1, l2, vl, xs, ys, S, R, W, _, rfl, hpG, heG, hfG, s0G _ _ h1, s0G _ _ h2, n1, n2, sts_same st s0G, sts_same rt s0G, by omega, sDG _ _ hvl0, nvp, hWl.1, by omega, hWb, nn, by omega, fun H4 b4 hp4 => ?_⟩
          have b04 := (but_same s0G).trans b4
          refine ⟨_, rfl, iteN (by rfl) ?_⟩
          refine ⟨_, rfl, rfl, _, rfl, iteH (by rfl) ?_⟩
          exact k _ b04 hp4
    · obtain ⟨_, hld, _⟩ := (Cmp.fdF_spec (ldf S R) _).2 t c hu
      have hld : Cmp.ldT (Eff.tb t S) (Eff.tb t R) = some c := hld
      have nnS := Eff.need_nn gS
      have nnR := Eff.need_nn gR
      have nlS := Cmp.need_le gS (fun s hs => (lS.sm s hs).2) (by decide)
      have nlR := Cmp.need_le gR (fun s hs => (lR.sm s hs).2) (by decide)
      have cb : c ≤ 30 := by
        rcases (Cmp.ldT_some (Eff.tb_ok gS) (Eff.tb_ok gR) hld).2.2.2 with h | h | h
        · omega
        · have := Cmp.lost_leT gS (fun s hs => (lS.sm s hs).2) (by decide) h; omega
        · have := Cmp.lost_leT gR (fun s hs => (lR.sm s hs).2) (by decide) h; omega
      have lb : Cmp.sepW S R c ≤ 30 := by unfold Cmp.sepW; split <;> split <;> omega
      have nn := Cmp.sepW_nn gS gR (c := c)
      have hlen : ((sepL S R t c).length : Int) = Cmp.sepW S R c := Cmp.sepN_len nn c0
      have upS : Tbl.Up (sepL S R t c) := Cmp.sepN_up _ t c
      have srtE : XT.srt (sepL S R t c) = sepL S R t c := (XT.srt_of (List.Perm.refl _) upS).symm
      refine ⟨Int.le_trans lb (by decide), fun r H5 s5 nr hr => ?_⟩
      have nrp : r ≠ p := pool_ne (pool_same hp s04) nr
      have he5 := he4.same s5
      have hf5 := hf.same s5
      have s05 := s04.trans s5
      refine ⟨_, rfl, rfl, _, rfl, _, rfl, e, f, rfl, rfl, he5.insA, hf5.insA, e, f, S, R, rfl, he5, hf5, fun bb hbb H6 s6 => ?_⟩
      have eb : bb = false := by cases bb with | false => rfl | true => exact absurd (Cmp.ldT_none.mpr (hbb.mp rfl t)) (by rw [hld]; intro z; cases z)
      subst eb
      refine ⟨rfl, _, rfl, iteN (by rfl) ?_⟩
      have he6 := he5.same s6
      have hf6 := hf5.same s6
      have s06 := s05.trans s6
      have hr6 := s6 _ _ hr
      obtain ⟨de, pe, qe, ie⟩ := he6.ins
      obtain ⟨df, pf, qf, jf⟩ := hf6.ins
      refine ⟨_, rfl, e, de, _, rfl, ie, e, S, rfl, he6, fun p1 C1 hp1 hC1 _ => ⟨_, rfl, f, df, _, rfl, jf, f, R, rfl, hf6, fun p2 C2 hp2 hC2 _ => ?_⟩⟩
      have l1' := Eff.brk_len hC1
      have l2' := Eff.brk_len hC2
      refine ⟨p1, p2, _, _, rfl, rfl, hp1, hp2, Nat.le_trans (by rw [List.length_map, List.length_map]; show C1.length + C2.length ≤ 100000; omega) line_ge, fun rr H7 s7 hr7 => ?_⟩
      rw [← List.map_append] at hr7
      obtain ⟨N, hN⟩ : ∃ N, N = C1 ++ C2 := ⟨_, rfl⟩
      have hNl : N.length < 64 := by rw [hN, List.length_append]; omega
      rw [← hN] at hr7
      refine ⟨rr, rfl, ⟨_, hr7⟩, fun D hD => lcR (stat_tup hr7) hD (fun i y H => ∃ (t : Addr) (n : Int), y = V.ref t ∧ N[i]? = some n ∧ H t = some (.tup [V.int n, V.bl true])) (fun i y Ha Hb s ⟨t, n, e1, e2, e3⟩ => ⟨t, n, e1, e2, s _ _ e3⟩) (fun i y Ha a b ha ⟨t, n, e1, e2, e3⟩ => ⟨t, n, e1, e2, by rw [upd_ne (fun q => by rw [q, ha] at e3; cases e3)]; exact e3⟩) (Nat.le_trans (by rw [List.length_map]; show N.length ≤ 100000; omega) line_ge) ?_ ?_⟩
      · intro i x H2 T hi s px kk
        rw [List.getElem?_map] at px
        obtain ⟨y, hy, rfl⟩ := Option.map_eq_some_iff.mp px
        refine ⟨rfl, _, rfl, by show 2 ≤ sizeLine; decide, fun t ht => ?_⟩
        exact kk _ _ (same_new ht) ⟨t, y, rfl, hy, upd_same⟩
      intro H8 acc s8 hal hacc hD8
      rw [List.length_map] at hal
      obtain ⟨ps, rfl, hps⟩ := prs_of (K := K) hal hacc
      refine ⟨D, ps, _, rfl, SqL.of hD8, hps, fun dd hdd => ?_⟩
      have s9 := same_new (o := .dK (mergeK [] (N.map fun n => ((Sum.inl n : Key), V.bl true)))) hdd
      obtain ⟨nd, km, kl⟩ := XT.keysI_spec N
      refine ⟨dd, _, XT.keysI N, rfl, .inl upd_same, XT.merge_keys (fun _ => V.bl true) N [] [] rfl, by omega, fun B br pm up hbr => ?_⟩
      have hBl : B.length < 64 := by rw [pm.length_eq]; omega
      have hBm : ∀ x ∈ B, (true, x) ∈ S ∨ (true, x) ∈ R := fun x hx => by
        have hx := (km x).mp (pm.mem_iff.mp hx)
        rw [hN, List.mem_append, hC1.mem, hC2.mem] at hx
        exact hx
      have sA := same_new (o := .lst (B.map V.int)) hbr
      have hbA := upd_same (H := upd H8 dd (.dK (mergeK [] (N.map fun n => ((Sum.inl n : Key), V.bl true))))) (a := br) (o := .lst (B.map V.int))
      have s6A := ((s7.trans s8).trans s9).trans sA
      generalize upd (upd H8 dd (.dK (mergeK [] (N.map fun n => ((Sum.inl n : Key), V.bl true))))) br (.lst (B.map V.int)) = HA at sA hbA s6A ⊢
      refine ⟨_, rfl, br, _, rfl, SqL.of hbA, fun c1 hc1 => ?_⟩
      rw [show cutV (B.map V.int) none (some (5 : Int)) = (B.take 5).map V.int from by rw [show (5 : Int) = ((5 : Nat) : Int) from rfl, cut_to, List.map_take]]
      have sB := same_new (o := .lst ((B.take 5).map V.int)) hc1
      refine ⟨9, rfl, by show 2 ≤ sizeLine; decide, fun c2 hc2 => ?_⟩
      have sC := same_new (o := .lst [V.int (-9), V.int 50]) hc2
      refine ⟨c1, c2, _, _, rfl, rfl, sC _ _ upd_same, upd_same, by rw [List.length_map, sizeLine_eq]; have := List.length_take_le 5 B; show (B.take 5).length + 2 ≤ _; omega, fun vl hvl => ?_⟩
      have sD := same_new (o := .lst ((B.take 5).map V.int ++ [V.int (-9), V.int 50])) hvl
      obtain ⟨W, hW⟩ : ∃ W, W = B.take 5 ++ [-9, 50] := ⟨_, rfl⟩
      have eW : (B.take 5).map V.int ++ [V.int (-9), V.int 50] = W.map V.int := by rw [hW, List.map_append]; rfl
      have hWl : 0 < W.length ∧ W.length ≤ 7 := by rw [hW, List.length_append]; have := List.length_take_le 5 B; show 0 < (B.take 5).length + 2 ∧ (B.take 5).length + 2 ≤ 7; omega
      have hWb : ∀ x ∈ W, x.natAbs < 1000 := fun x hx => by
        rw [hW] at hx
        rcases List.mem_append.mp hx with hx | hx
        · rcases hBm x (List.mem_of_mem_take hx) with h | h
          · have := (lS.sm _ h); simp only at this; omega
          · have := (lR.sm _ h); simp only at this; omega
        · simp only [List.mem_cons, List.not_mem_nil, or_false] at hx
          omega
      rw [eW] at sD ⊢
      have hvl0 := upd_same (H := upd (upd HA c1 (.lst ((B.take 5).map V.int))) c2 (.lst [V.int (-9), V.int 50])) (a := vl) (o := .lst (W.map V.int))
      have s6D := ((s6A.trans sB).trans sC).trans sD
      generalize upd (upd (upd HA c1 (.lst ((B.take 5).map V.int))) c2 (.lst [V.int (-9), V.int 50])) vl (.lst (W.map V.int)) = HD at s6D hvl0 ⊢
      have heD := he6.same s6D
      have hfD := hf6.same s6D
      have s0D := s06.trans s6D
      have nvp : vl ≠ p := fun q => by
        obtain ⟨x, y, ex, _⟩ := hp
        have := ((((s06.trans s6A).trans sB).trans sC)) _ _ ex
        rw [q, this] at hvl
        cases hvl
      have hrD := s6D _ _ hr6
      obtain ⟨sz, hsz⟩ : ∃ sz : Int, sz = (if ((sepL S R t c).length : Int) - 1 < 4 then ((sepL S R t c).length : Int) - 1 else 4) := ⟨_, rfl⟩
      refine ⟨_, rfl, rfl, _, rfl, iteN (by rfl) ?_⟩
      refine ⟨_, rfl, r, _, rfl, .inl (SqL.of hrD), _, _, rfl, rfl, _, _, rfl, ?_⟩
      rw [List.length_map, ← hsz]
      have szb : sz + 1 ≤ 5 ∧ sz + 1 ≤ (sepL S R t c).length ∧ 0 ≤ sz + 1 := by rw [hsz]; split <;> omega
      refine ⟨_, rfl, _, _, rfl, rfl, _, rfl, for_range (lo := 0) (fun i σ H' => ∃ o9 o10 o11 o12, σ = [some (.ref p), some (.ref l1), some (.ref l2), some (.ref e), some (.ref f), some (.ref r), some (.ref vl), none, some (.int sz), o9, o10, o11, o12] ∧ Same HD H') ⟨_, _, _, _, rfl, Same.refl _⟩ ?_ ?_⟩
      · rintro i σ H1 hi ⟨o9, o10, o11, o12, rfl, sE⟩
        have hi5 : (i : Int) < sz + 1 := by omega
        have s0E := s0D.trans sE
        refine ⟨_, rfl, _, rfl, vl, W, i, by rw [Int.zero_add], SqL.of (sE _ _ hvl0), by omega, by omega, fun q H2 rows Ls sF hq hrows hLs hrl => ?_⟩
        have sEF := sE.trans sF
        refine ⟨q, rfl, ⟨_, SqL.of hq⟩, for_list (K := K) (a := q) (xs := rows) (fun j σ H' => ∃ o10 o11 o12, σ = [some (.ref p), some (.ref l1), some (.ref l2), some (.ref e), some (.ref f), some (.ref r), some (.ref vl), none, some (.int sz), some (.int (0 + (i : Int))), o10, o11, o12] ∧ Same H2 H') ⟨_, _, _, rfl, Same.refl _⟩ (fun j σ H' _ ⟨_, _, _, _, s⟩ => s.seq (SqL.of hq)) ?_ ?_⟩
        · rintro j x σ H3 hx ⟨o10, o11, o12, rfl, sG⟩
          obtain ⟨Lj, hLj, z, rfl, _, hz2⟩ := pd_get hrows hx
          have hlj := hLs Lj (List.mem_of_getElem? hLj)
          have hz3 := sG _ _ hz2
          have sDG := sEF.trans sG
          have s0G := s0D.trans sDG
          have heG := heD.same sDG
          have hfG := hfD.same sDG
          have nosep : sepB S R Lj = false := by
            unfold sepB
            rw [Cmp.rn_short gS gR asc mem hu (Eff.up_srt Lj) (by rw [XT.srt_len, ← hlen]; omega)]
            simp
          refine ⟨_, rfl, _, rfl, l1, .ref z, xs, S, Lj, rfl, SqL.of (s0G _ _ h1), sts_same st s0G, gS, nums_lst hz3 (by omega), by omega, fun w1 H4 s4 d4 => ?_⟩
          refine ⟨_, rfl, _, rfl, l2, .ref z, ys, R, Lj, rfl, SqL.of (s4 _ _ (s0G _ _ h2)), sts_same rt (s0G.trans s4), gR, nums_lst (s4 _ _ hz3) (by omega), by omega, fun w2 H5 s5 d5 => ?_⟩
          refine ⟨_, _, dp_same s5 _ _ d4, d5, sh_out _, sh_out _, _, rfl, iteN (by rw [ne_out, nosep]) ?_⟩
          have s45 := s4.trans s5
          refine ⟨_, rfl, _, rfl, _, rfl, e, f, .ref z, S, R, rfl, heG.same s45, hfG.same s45, by omega, .inr ⟨Lj, nums_lst (s45 _ _ hz3) (by omega), fun H6 s6' => ?_⟩⟩
          rw [nosep]
          exact ⟨false, false, rfl, rfl, _, rfl, iteN (by rfl) ⟨_, _, _, rfl, (sG.trans s45).trans s6'⟩⟩
        · rintro σ H3 ⟨o10, o11, o12, rfl, sG⟩
          exact ⟨_, _, _, _, rfl, sEF.trans sG⟩
      · rintro σ H1 ⟨o9, o10, o11, o12, rfl, sE⟩
        refine ⟨by show 1 ≤ sizeLine; decide, fun z1 hz1 => ⟨by show 1 ≤ sizeLine; decide, fun z2 hz2 => fun z3 hz3 => ⟨by show 6 ≤ sizeLine; decide, fun z4 hz4 => ?_⟩⟩⟩
        have oe0 := same_new (o := .lst [V.bl true]) hz1
        have oe1 := same_new (o := .lst [V.non]) hz2
        have oe2 := same_new (o := .dK []) hz3
        have oe3 := same_new (o := .lst [V.non, V.int 5, V.str "1", V.ref z1, V.ref z2, V.ref z3]) hz4
        have of0 := (oe3 _ _ (oe2 _ _ (oe1 _ _ (upd_same (H := H1) (a := z1) (o := .lst [V.bl true])))))
        have of1 := (oe3 _ _ (oe2 _ _ (upd_same (H := (upd H1 z1 (.lst [V.bl true]))) (a := z2) (o := .lst [V.non]))))
        have of2 := (oe3 _ _ (upd_same (H := (upd (upd H1 z1 (.lst [V.bl true])) z2 (.lst [V.non]))) (a := z3) (o := .dK [])))
        have of3 := (upd_same (H := (upd (upd (upd H1 z1 (.lst [V.bl true])) z2 (.lst [V.non])) z3 (.dK []))) (a := z4) (o := .lst [V.non, V.int 5, V.str "1", V.ref z1, V.ref z2, V.ref z3]))
        have os := (((oe0.trans oe1).trans oe2).trans oe3)
        generalize upd (upd (upd (upd H1 z1 (.lst [V.bl true])) z2 (.lst [V.non])) z3 (.dK [])) z4 (.lst [V.non, V.int 5, V.str "1", V.ref z1, V.ref z2, V.ref z3]) = H2 at os of0 of1 of2 of3 ⊢
        clear oe0 oe1 oe2 oe3
        have bad := odds6 (K := K) of0 of1 of2
        have sDo := sE.trans os
        refine ⟨z4, rfl, ⟨_, SqL.of of3⟩, for_list (K := K) (a := z4) (xs := [V.non, V.int 5, V.str "1", V.ref z1, V.ref z2, V.ref z3]) (fun j σ H' => ∃ o11 o12, σ = [some (.ref p), some (.ref l1), some (.ref l2), some (.ref e), some (.ref f), some (.ref r), some (.ref vl), none, some (.int sz), o9, o10, o11, o12] ∧ Same H2 H') ⟨_, _, rfl, Same.refl _⟩ (fun j σ H' _ ⟨_, _, _, s⟩ => s.seq (SqL.of of3)) ?_ ?_⟩
        · rintro j x σ H3 hx ⟨o11, o12, rfl, sG⟩
          have hb := (bad x (List.mem_of_getElem? hx)).same sG
          have sDG := sDo.trans sG
          refine ⟨_, rfl, _, rfl, _, rfl, e, f, x, S, R, rfl, heD.same sDG, hfD.same sDG, by omega, .inl ⟨hb, fun H6 s6' => ?_⟩⟩
          exact ⟨false, false, rfl, rfl, _, rfl, iteN (by rfl) ⟨_, _, rfl, sG.trans s6'⟩⟩
        · rintro σ H3 ⟨o11, o12, rfl, sG⟩
          have sDG := sDo.trans sG
          have s0G := s0D.trans sDG
          have heG := heD.same sDG
          have hfG := hfD.same sDG
          have hpG := pool_same hp s0G
          obtain ⟨dg, _, _, ig⟩ := heG.ins
          have hrG := sDG _ _ hrD
          refine ⟨_, rfl, rfl, _, rfl, iteN (by rfl) ?_⟩
          refine ⟨_, rfl, r, _, rfl, .inl (SqL.of hrG), ?_⟩
          rw [List.length_map]
          refine ⟨_, rfl, _, rfl, _, rfl, _, rfl, _, rfl, _, rfl, _, rfl, p, e, f, l1, l2, vl, xs, ys, S, R, W, _, rfl, hpG, heG, hfG, s0G _ _ h1, s0G _ _ h2, n1, n2, sts_same st s0G, sts_same rt s0G, by omega, sDG _ _ hvl0, nvp, hWl.1, by omega, hWb, Int.natCast_nonneg _, by omega, fun H4 b4 hp4 => ?_⟩
          have b04 := (but_same s0G).trans b4
          refine ⟨_, rfl, iteN (by rfl) ?_⟩
          have hr4 := b4 _ _ nrp hrG
          have he4' := eff_but heG hpG b4
          have hf4' := eff_but hfG hpG b4
          refine ⟨_, rfl, rfl, _, rfl, iteN (by rfl) ?_⟩
          refine ⟨_, rfl, _, rfl, _, rfl, r, _, rfl, SqL.of hr4, fun o2 ho2 => ?_⟩
          have sH := same_new (o := .lst ((sepL S R t c).map V.int).reverse) ho2
          refine ⟨o2, _, rfl, .inl ⟨SqL.of upd_same, fun tt htt => ?_⟩⟩
          have sI := same_new (o := .tup ((sepL S R t c).map V.int).reverse) htt
          have htt2 : SqT K (upd (upd H4 o2 (.lst ((sepL S R t c).map V.int).reverse)) tt (.tup ((sepL S R t c).map V.int).reverse)) tt ((sepL S R t c).reverse.map V.int) := by rw [List.map_reverse]; exact SqT.of upd_same
          generalize upd (upd H4 o2 (.lst ((sepL S R t c).map V.int).reverse)) tt (.tup ((sepL S R t c).map V.int).reverse) = H5 at sI htt2 ⊢
          have sHI := sH.trans sI
          refine ⟨e, f, .ref tt, S, R, rfl, he4'.same sHI, hf4'.same sHI, by omega, .inr ⟨(sepL S R t c).reverse, ⟨tt, rfl, .inr htt2, by rw [List.length_reverse]; omega⟩, fun H6 s6' => ?_⟩⟩
          have yes : sepB S R (sepL S R t c).reverse = true := by
            unfold sepB
            rw [show XT.srt (sepL S R t c).reverse = sepL S R t c from (XT.srt_of (List.reverse_perm _).symm upS).symm]
            exact decide_eq_true (Cmp.rn_sep gS gR hld)
          rw [yes]
          refine ⟨true, true, rfl, rfl, _, rfl, iteN (by rfl) ?_⟩
          have s46 := sHI.trans s6'
          have hr6' := s46 _ _ hr4
          refine ⟨_, rfl, _, rfl, r, _, rfl, .inl (SqL.of hr6'), fun N' so pm2 up2 nso => ?_⟩
          rw [XT.srt_of pm2 up2, srtE]
          have sJ := same_new (o := .lst ((sepL S R t c).map V.int)) nso
          refine ⟨_, _, dp_lst (SqL.of (sJ _ _ hr6')), dp_lst (SqL.of upd_same), shaped_lst _, shaped_lst _, _, rfl, iteH (by rw [eqv_lsts, decide_eq_true rfl]) ?_⟩
          have s4J := s46.trans sJ
          have st4 := sts_same (sts_kt st (kt_but hp b04)) s4J
          have rt4 := sts_same (sts_kt rt (kt_but hp b04)) s4J
          have h14 := s4J _ _ (b04 _ _ n1 h1)
          have h24 := s4J _ _ (b04 _ _ n2 h2)
          refine ⟨_, rfl, _, rfl, l1, .ref r, xs, S, _, rfl, SqL.of h14, st4, gS, nums_lst (sJ _ _ hr6') (by omega), by omega, fun w1 H7 s7' d7 => ?_⟩
          refine ⟨_, rfl, _, rfl, l2, .ref r, ys, R, _, rfl, SqL.of (s7' _ _ h24), sts_same rt4 s7', gR, nums_lst (s7' _ _ (sJ _ _ hr6')) (by omega), by omega, fun w2 H8' s8' d8 => ?_⟩
          refine ⟨_, _, dp_same s8' _ _ d7, d8, sh_out _, sh_out _, ?_⟩
          rw [ne_out, show sepB S R (sepL S R t c) = true from by unfold sepB; rw [srtE]; exact decide_eq_true (Cmp.rn_sep gS gR hld)]
          have s48 := s4J.trans (s7'.trans s8')
          exact k _ (b04.trans (but_same s48)) (pool_same hp4 s48)

end
end K13
namespace K13
open PySem L2 XT
section
variable {P : Program} {w : World} {K : PySem.W.Frag} {mg : Str → Option Value} {base : Heap} {a : Ads}
local macro_rules | `(tactic| walk_at "rside") => `(tactic| first | (show (0 : Int) < _; first | decide | omega) | (exact ⟨by first | decide | omega, by first | decide | omega⟩) | (exact Or.inl ⟨by omega, by omega⟩) | (exact Or.inr ⟨by omega, by omega⟩) | (exact ⟨by decide, by decide, by decide⟩))
local macro_rules | `(tactic| walk_at "rd1") => `(tactic| first | (refine ⟨_, rfl, ?_⟩) | (refine ⟨_, _, rfl, rfl, (by walk_at "rside"), ?_⟩) | (refine ⟨_, _, rfl, rfl, ?_⟩))
local macro_rules | `(tactic| walk_at "rd") => `(tactic| repeat (walk_at "rd1"))

def spLaw (K : PySem.W.Frag) : Sp := fun vs H Q _ => ∃ (sc : Addr) (ns : List Int), vs = [.ref sc] ∧ SqL K H sc (ns.map V.int) ∧ ns.length ≤ 63 ∧ ∀ H', Q (.bl true) H'
theorem pd_rev' {α β : Type} {F : α → β → Prop} {l : List α} {m : List β} (h : Paired F l m) : Paired F l.reverse m.reverse := by
  induction h with
  | nil => exact .nil
  | cons h t ih =>
    rw [List.reverse_cons, List.reverse_cons]
    exact pd_append ih (.cons h .nil)
theorem pd_take' {α β : Type} {F : α → β → Prop} : ∀ {l : List α} {m : List β} (n : Nat), Paired F l m → Paired F (l.take n) (m.take n)
  | _, _, 0, _ => .nil
  | _, _, n + 1, .nil => .nil
  | _, _, n + 1, .cons h t => .cons h (pd_take' n t)
theorem pd_drop' {α β : Type} {F : α → β → Prop} : ∀ {l : List α} {m : List β} (n : Nat), Paired F l m → Paired F (l.drop n) (m.drop n)
  | _, _, 0, h => h
  | _, _, n + 1, .nil => .nil
  | _, _, n + 1, .cons h t => pd_drop' n t
theorem lst_of {Z S R : List Stp} (a : LSt S) (b : LSt R) (h : ∀ s ∈ Z, s ∈ S ∨ s ∈ R) : LSt Z := ⟨fun s hs => (h s hs).elim (a.good s) (b.good s), fun s hs => (h s hs).elim (a.sm s) (b.sm s)⟩
/-- one of the law's lists of steps -/
def Oth (K : PySem.W.Frag) (p : Addr) (H : Hp) (x : V) : Prop := ∃ (l : Addr) (zs : List V) (Z : List Stp), x = V.ref l ∧ H l = some (.lst zs) ∧ l ≠ p ∧ StsAt K H zs Z ∧ LSt Z ∧ Z.length ≤ 13
theorem ok_law (T : Txt K mg a) {fd : FuncData} (F : Fun K "law" "law" s_law a.law fd) : FnG P w K mg base CX0 15 a.law (spLaw K) := by
  refine XT.okGX F sc_law bn_law (fun vs H Q E h => ?_) (fun cdv A outer s H vs Q E hg hr h => ?_)
  · obtain ⟨sc, ns, rfl, _⟩ := h
    rfl
  · obtain ⟨sc, ns, rfl, hS, hn, k⟩ := h
    have G_law_pool := ok_law_pool (P := P) (w := w) (base := base) T
    have G_law_take := ok_law_take (P := P) (w := w) (base := base) T
    have G_law_steps := ok_law_steps (P := P) (w := w) (base := base) T
    have G_law_right := ok_law_right (P := P) (w := w) (base := base) T
    refine ⟨_, PSs.nox ((pss_cons (ps_for PassesOwn.never rfl (pi_rng1 (by rfl) T.b_range (pa_cons (pe_callB (call_max2 rfl) (by rfl) T.b_max (by decide +kernel) (pa_cons pe_int (pa_cons (pe_callB (call_min2 rfl) (by rfl) T.b_min (by decide +kernel) (pa_cons pe_int (pa_cons (pe_callB (lenK K) (by rfl) T.b_len (by decide +kernel) (pa_cons (pv 0) pa_nil)) pa_nil))) pa_nil))) pa_nil)) (pg_name (i := 1) sc_law.nd rfl (Or.inl rfl))
        (pss_cons (ps_set (i := 2) sc_law.nd rfl (Or.inl rfl) (pe_callR G_law_pool (hr.mono (by decide)) rfl T.g_law_pool T.k_law_pool pass0 (pa_cons (pv 0) (pa_cons (pv 1) pa_nil))))
      (pss_cons (ps_par (i := 3) (j := 4) (by rfl) sc_law.nd rfl rfl (by decide) rfl rfl (pa_cons (pe_callR G_law_steps (hr.mono (by decide)) rfl T.g_law_steps T.k_law_steps pass0 (pa_cons (pv 2) (pa_cons pe_int pa_nil))) (pa_cons (pe_callR G_law_steps (hr.mono (by decide)) rfl T.g_law_steps T.k_law_steps pass0 (pa_cons (pv 2) (pa_cons pe_int pa_nil))) pa_nil)) (by rfl))
      (pss_cons (ps_set (i := 5) sc_law.nd rfl (Or.inl rfl) (pe_callR G_law_take (hr.mono (by decide)) rfl T.g_law_take T.k_law_take pass0 (pa_cons (pv 2) (pa_cons (pe_op op_add (pe_callB (lenK K) (by rfl) T.b_len (by decide +kernel) (pa_cons (pv 3) pa_nil)) pe_int) pa_nil))))
      (pss_one (ps_for PassesOwn.never rfl (pi_list (pe_lst (pa_cons (pv 4) (pa_cons (revLK K (pv 3)) (pa_cons (pe_op op_cat (pe_op op_cat (pe_slice (slLK K) (pv 3) po_none (po_some (pv 5))) (pe_slice (slLK K) (pv 4) po_none (po_some pe_int))) (pe_slice (slLK K) (pv 3) (po_some (pv 5)) po_none)) (pa_cons (pv 3) pa_nil)))))) (pg_name (i := 6) sc_law.nd rfl (Or.inl rfl))
        (pss_one (ps_if (pt_not (pt_val (pe_callG G_law_right hg (hr.mono (by decide)) rfl T.g_law_right T.k_law_right pass0 (pa_cons (pv 2) (pa_cons (pv 3) (pa_cons (pv 6) pa_nil)))))) (pss_one (ps_ret pe_bl)) pss_nil))))))))
      (pss_one (ps_ret pe_bl)))), ?_⟩
    refine ⟨_, rfl, sc, _, rfl, .inl hS, 12, _, rfl, 2, _, rfl, _, rfl, ?_⟩
    refine for_range (lo := 0) (fun i σ H' => ∃ o1 o2 o3 o4 o5 o6, σ = [some (.ref sc), o1, o2, o3, o4, o5, o6] ∧ Same H H') ⟨_, _, _, _, _, _, rfl, Same.refl _⟩ ?_ ?_
    · rintro i σ H2 hi ⟨o1, o2, o3, o4, o5, o6, rfl, s2⟩
      have hi2 : i ≤ 1000 := by
        rw [List.length_map] at hi
        have : (if (if (ns.length : Int) < 12 then (ns.length : Int) else 12) > 2 then (if (ns.length : Int) < 12 then (ns.length : Int) else 12) else 2) ≤ 63 := by split <;> (try split) <;> omega
        omega
      refine ⟨_, rfl, _, rfl, sc, ns, (0 : Int) + i, rfl, s2.seq hS, by omega, by omega, fun p H3 s3 n3 hp => ?_⟩
      refine ⟨_, rfl, p, 6, rfl, hp, by decide, by decide, fun l1 x1 S1 H4 b4 hp4 nl1 hL1 hst1 ls1 hz1 => ?_⟩
      have nl1p := pool_ne hp nl1
      refine ⟨_, rfl, p, 6, rfl, hp4, by decide, by decide, fun l2 x2 S2 H5 b5 hp5 nl2 hL2 hst2 ls2 hz2 => ?_⟩
      have nl2p := pool_ne hp4 nl2
      have lx1 := hst1.length
      have lx2 := hst2.length
      refine ⟨_, _, rfl, ?_⟩
      refine ⟨_, rfl, _, rfl, l1, _, rfl, .inl (SqL.of (b5 _ _ nl1p hL1)), _, _, rfl, rfl, p, _, rfl, hp5, by omega, by omega, fun a0 H6 a00 a01 b6 hp6 => ?_⟩
      obtain ⟨k0, rfl⟩ : ∃ k0 : Nat, a0 = (k0 : Int) := ⟨a0.toNat, by omega⟩
      have b46 := b5.trans b6
      have h16 := b46 _ _ nl1p hL1
      have h26 := b6 _ _ nl2p hL2
      have st16 := sts_kt hst1 (kt_but hp4 b46)
      have st26 := sts_kt hst2 (kt_but hp5 b6)
      have s06 := s2.trans (but_to s3 n3 (b4.trans b46))
      refine ⟨_, rfl, _, rfl, l1, _, rfl, SqL.of h16, fun o1 ho1 => ?_⟩
      have e1 := same_new (o := .lst x1.reverse) ho1
      have f1 := upd_same (H := H6) (a := o1) (o := .lst x1.reverse)
      have np1 := pool_ne hp6 ho1
      have hp7 := pool_same hp6 e1
      generalize upd H6 o1 (.lst x1.reverse) = H7 at e1 f1 hp7 ⊢
      refine ⟨_, rfl, _, rfl, _, rfl, l1, _, rfl, SqL.of (e1 _ _ h16), fun c1 hc1 => ?_⟩
      rw [cut_to]
      have e2 := same_new (o := .lst (x1.take k0)) hc1
      have f2 := upd_same (H := H7) (a := c1) (o := .lst (x1.take k0))
      generalize upd H7 c1 (.lst (x1.take k0)) = H8 at e2 f2 ⊢
      refine ⟨_, rfl, _, rfl, l2, _, rfl, SqL.of (e2 _ _ (e1 _ _ h26)), fun c2 hc2 => ?_⟩
      rw [show cutV x2 none (some (1 : Int)) = x2.take 1 from by rw [show (1 : Int) = ((1 : Nat) : Int) from rfl, cut_to]]
      have e3 := same_new (o := .lst (x2.take 1)) hc2
      have f3 := upd_same (H := H8) (a := c2) (o := .lst (x2.take 1))
      generalize upd H8 c2 (.lst (x2.take 1)) = H9 at e3 f3 ⊢
      refine ⟨c1, c2, _, _, rfl, rfl, e3 _ _ f2, f3, by rw [List.length_take, List.length_take, sizeLine_eq]; omega, fun c3 hc3 => ?_⟩
      have e4 := same_new (o := .lst (x1.take k0 ++ x2.take 1)) hc3
      have f4 := upd_same (H := H9) (a := c3) (o := .lst (x1.take k0 ++ x2.take 1))
      generalize upd H9 c3 (.lst (x1.take k0 ++ x2.take 1)) = HA at e4 f4 ⊢
      refine ⟨_, rfl, _, rfl, _, rfl, l1, _, rfl, SqL.of (e4 _ _ (e3 _ _ (e2 _ _ (e1 _ _ h16)))), fun c4 hc4 => ?_⟩
      rw [cut_from]
      have e5 := same_new (o := .lst (x1.drop k0)) hc4
      have f5 := upd_same (H := HA) (a := c4) (o := .lst (x1.drop k0))
      generalize upd HA c4 (.lst (x1.drop k0)) = HB at e5 f5 ⊢
      refine ⟨c3, c4, _, _, rfl, rfl, e5 _ _ f4, f5, by rw [List.length_append, List.length_take, List.length_take, List.length_drop, sizeLine_eq]; omega, fun c5 hc5 => ?_⟩
      have e6 := same_new (o := .lst (x1.take k0 ++ x2.take 1 ++ x1.drop k0)) hc5
      have f6 := upd_same (H := HB) (a := c5) (o := .lst (x1.take k0 ++ x2.take 1 ++ x1.drop k0))
      have e7B := ((e2.trans e3).trans e4).trans e5
      have np5 := pool_ne (pool_same hp7 e7B) hc5
      generalize upd HB c5 (.lst (x1.take k0 ++ x2.take 1 ++ x1.drop k0)) = HC at e6 f6 ⊢
      have e7C := e7B.trans e6
      refine ⟨_, rfl, by show 4 ≤ sizeLine; decide, fun dl hdl => ?_⟩
      have e8 := same_new (o := .lst [V.ref l2, V.ref o1, V.ref c5, V.ref l1]) hdl
      have f8 := upd_same (H := HC) (a := dl) (o := .lst [V.ref l2, V.ref o1, V.ref c5, V.ref l1])
      have npd := pool_ne (pool_same hp7 e7C) hdl
      generalize upd HC dl (.lst [V.ref l2, V.ref o1, V.ref c5, V.ref l1]) = HD at e8 f8 ⊢
      have e7D := e7C.trans e8
      have e6D := e1.trans e7D
      have hpD := pool_same hp7 e7D
      have s0D := s06.trans e6D
      have h1D := e6D _ _ h16
      have h2D := e6D _ _ h26
      have st1D := sts_same st16 e6D
      have st2D := sts_same st26 e6D
      have oth : ∀ x ∈ [V.ref l2, V.ref o1, V.ref c5, V.ref l1], Oth K p HD x := by
        intro x hx
        simp only [List.mem_cons, List.not_mem_nil, or_false] at hx
        rcases hx with rfl | rfl | rfl | rfl
        · exact ⟨l2, x2, S2, rfl, h2D, nl2p, st2D, ls2, by omega⟩
        · exact ⟨o1, _, S1.reverse, rfl, e7D _ _ f1, np1, pd_rev' st1D, lst_of ls1 ls1 fun s hs => .inl (List.mem_reverse.mp hs), by rw [List.length_reverse]; omega⟩
        · refine ⟨c5, _, S1.take k0 ++ S2.take 1 ++ S1.drop k0, rfl, e8 _ _ f6, np5, pd_append (pd_append (pd_take' k0 st1D) (pd_take' 1 st2D)) (pd_drop' k0 st1D), lst_of ls1 ls2 fun s hs => ?_, ?_⟩
          · rcases List.mem_append.mp hs with hs | hs
            · rcases List.mem_append.mp hs with hs | hs
              · exact .inl (List.mem_of_mem_take hs)
              · exact .inr (List.mem_of_mem_take hs)
            · exact .inl (List.mem_of_mem_drop hs)
          · rw [List.length_append, List.length_append, List.length_take, List.length_take, List.length_drop]
            omega
        · exact ⟨l1, x1, S1, rfl, h1D, nl1p, st1D, ls1, by omega⟩
      refine ⟨dl, rfl, ⟨_, SqL.of f8⟩, for_list (K := K) (a := dl) (xs := [V.ref l2, V.ref o1, V.ref c5, V.ref l1]) (fun j σ H' => ∃ o6, σ = [some (.ref sc), some (.int (0 + (i : Int))), some (.ref p), some (.ref l1), some (.ref l2), some (.int (k0 : Int)), o6] ∧ But p HD H' ∧ PoolAt H' p) ⟨_, rfl, But.refl _ _, hpD⟩ (fun j σ H' _ ⟨_, _, b, _⟩ => SqL.of (b _ _ npd f8)) ?_ ?_⟩
      · rintro j x σ HE hx ⟨o6, rfl, bE, hpE⟩
        obtain ⟨lz, zs, Z, rfl, hlz, nlz, stz, lsz, hz⟩ := oth x (List.mem_of_getElem? hx)
        have kE := kt_but (K := K) hpD bE
        refine ⟨_, rfl, _, rfl, _, rfl, p, l1, lz, x1, zs, S1, Z, rfl, hpE, bE _ _ nl1p h1D, bE _ _ nlz hlz, nl1p, nlz, sts_kt st1D kE, sts_kt stz kE, ls1, lsz, by omega, hz, fun HF bF hpF => ?_⟩
        exact ⟨_, rfl, iteN (by rfl) ⟨_, rfl, bE.trans bF, hpF⟩⟩
      · rintro σ HE ⟨o6, rfl, bE, hpE⟩
        exact ⟨_, _, _, _, _, _, rfl, s2.trans (but_to s3 n3 ((b4.trans b46).trans ((but_same e6D).trans bE)))⟩
    · rintro σ H2 ⟨o1, o2, o3, o4, o5, o6, rfl, s2⟩
      exact k _
end
end K13
namespace K13
open PySem L2 XT
section
variable {P : Program} {w : World} {K : PySem.W.Frag} {mg : Str → Option Value} {base : Heap} {a : Ads}
local macro_rules | `(tactic| walk_at "rside") => `(tactic| first | (show (0 : Int) < _; first | decide | omega) | (exact ⟨by first | decide | omega, by first | decide | omega⟩) | (exact Or.inl ⟨by omega, by omega⟩) | (exact Or.inr ⟨by omega, by omega⟩) | (exact ⟨by decide, by decide, by decide⟩))
local macro_rules | `(tactic| walk_at "rd1") => `(tactic| first | (refine ⟨_, rfl, ?_⟩) | (refine ⟨_, _, rfl, rfl, (by walk_at "rside"), ?_⟩) | (refine ⟨_, _, rfl, rfl, ?_⟩))
local macro_rules | `(tactic| walk_at "rd") => `(tactic| repeat (walk_at "rd1"))

theorem kit_subB {B C : Addr} (hc : (PySem.W.clsIn K C).isSome = true) (ht : PySem.W.typeIn K (.ref C) = some (.type "type")) (hs : PySem.W.subIn K (.ref B) (.ref C) = some false) (hr : PySem.W.subIn K (.ref B) (.ref B) = some true) : PySem.W.kitOne K (.ref B) (.ref C) = some false := by
  have hne : B ≠ C := fun e => by
    rw [e] at hr hs
    rw [hr] at hs
    cases hs
  simp [PySem.W.kitOne, PySem.W.kitCls, hc, ht, hs, hne]
theorem kit_self {a : Addr} : PySem.W.kitOne K (.ref a) (.ref a) = some true := by simp [PySem.W.kitOne]
theorem exm_of {D C : Addr} {b : Bool} (h1 : PySem.W.subIn K (.ref C) (.type "BaseException") = some true) (h2 : PySem.W.isClsIn K C = true) (h3 : PySem.W.typeIn K (.ref C) = some (.type "type")) (h4 : PySem.W.subIn K (.ref D) (.ref C) = some b) : PySem.W.exmOne K (.ref D) (.ref C) = some b := by
  have h2' : (PySem.W.clsIn K C).isSome = true := h2
  simp [PySem.W.exmOne, PySem.W.kitCls, h1, h2', h3, h4]
theorem all_mk {l : PySem.W.OpenLaw} {h : Heap} {fa : Addr} (X : K.In h) (G : h.Ns mainGlobals mg) (hfa : mg "law" = some (.ref fa)) {is_integer is_count is_rank is_number_list is_ascending is_rank_list ascending Sequence___init__ Sequence_is_step Sequence_steps Sequence___add__ how_many_up_to mapped kept_rank Table___init__ Table_start Table_lost Table___call__ Table___eq__ united below_all table_at table_of is_table_list total_after spread Effect___init__ Effect_of Effect_breaks Effect_tables Effect_need Effect_table Effect___eq__ least_difference first_difference separating_list is_separating law_pool law_take law_steps law_made law_run law_lists law_drawn_right law_right law RankError Sequence Table Effect P_steps P_start P_lost P_breaks P_tables P_need S_is_step C_of : Addr} {rest_steps rest_is_step rest_start rest_lost rest_breaks rest_tables rest_need rest_of : List Value}
    {tkM : PySem.Tok}
    {oc_is_integer kV_is_integer dc_is_integer pm_is_integer cd_is_integer ct_is_integer : Value} {od_is_integer an_is_integer : Option Addr} {sl_is_integer : Array (Option Value)}
    {oc_is_count kV_is_count dc_is_count pm_is_count cd_is_count ct_is_count : Value} {od_is_count an_is_count : Option Addr} {sl_is_count : Array (Option Value)}
    {oc_is_rank kV_is_rank dc_is_rank pm_is_rank cd_is_rank ct_is_rank : Value} {od_is_rank an_is_rank : Option Addr} {sl_is_rank : Array (Option Value)}
    {oc_is_number_list kV_is_number_list dc_is_number_list pm_is_number_list cd_is_number_list ct_is_number_list : Value} {od_is_number_list an_is_number_list : Option Addr} {sl_is_number_list : Array (Option Value)}
    {oc_is_ascending kV_is_ascending dc_is_ascending pm_is_ascending cd_is_ascending ct_is_ascending : Value} {od_is_ascending an_is_ascending : Option Addr} {sl_is_ascending : Array (Option Value)}
    {oc_is_rank_list kV_is_rank_list dc_is_rank_list pm_is_rank_list cd_is_rank_list ct_is_rank_list : Value} {od_is_rank_list an_is_rank_list : Option Addr} {sl_is_rank_list : Array (Option Value)}
    {oc_ascending kV_ascending dc_ascending pm_ascending cd_ascending ct_ascending : Value} {od_ascending an_ascending : Option Addr} {sl_ascending : Array (Option Value)}
    {oc_Sequence___init__ kV_Sequence___init__ dc_Sequence___init__ pm_Sequence___init__ cd_Sequence___init__ ct_Sequence___init__ : Value} {od_Sequence___init__ an_Sequence___init__ : Option Addr} {sl_Sequence___init__ : Array (Option Value)}
    {oc_Sequence_is_step kV_Sequence_is_step dc_Sequence_is_step pm_Sequence_is_step cd_Sequence_is_step ct_Sequence_is_step : Value} {od_Sequence_is_step an_Sequence_is_step : Option Addr} {sl_Sequence_is_step : Array (Option Value)}
    {oc_Sequence_steps kV_Sequence_steps dc_Sequence_steps pm_Sequence_steps cd_Sequence_steps ct_Sequence_steps : Value} {od_Sequence_steps an_Sequence_steps : Option Addr} {sl_Sequence_steps : Array (Option Value)}
    {oc_Sequence___add__ kV_Sequence___add__ dc_Sequence___add__ pm_Sequence___add__ cd_Sequence___add__ ct_Sequence___add__ : Value} {od_Sequence___add__ an_Sequence___add__ : Option Addr} {sl_Sequence___add__ : Array (Option Value)}
    {oc_how_many_up_to kV_how_many_up_to dc_how_many_up_to pm_how_many_up_to cd_how_many_up_to ct_how_many_up_to : Value} {od_how_many_up_to an_how_many_up_to : Option Addr} {sl_how_many_up_to : Array (Option Value)}
    {oc_mapped kV_mapped dc_mapped pm_mapped cd_mapped ct_mapped : Value} {od_mapped an_mapped : Option Addr} {sl_mapped : Array (Option Value)}
    {oc_kept_rank kV_kept_rank dc_kept_rank pm_kept_rank cd_kept_rank ct_kept_rank : Value} {od_kept_rank an_kept_rank : Option Addr} {sl_kept_rank : Array (Option Value)}
    {oc_Table___init__ kV_Table___init__ dc_Table___init__ pm_Table___init__ cd_Table___init__ ct_Table___init__ : Value} {od_Table___init__ an_Table___init__ : Option Addr} {sl_Table___init__ : Array (Option Value)}
    {oc_Table_start kV_Table_start dc_Table_start pm_Table_start cd_Table_start ct_Table_start : Value} {od_Table_start an_Table_start : Option Addr} {sl_Table_start : Array (Option Value)}
    {oc_Table_lost kV_Table_lost dc_Table_lost pm_Table_lost cd_Table_lost ct_Table_lost : Value} {od_Table_lost an_Table_lost : Option Addr} {sl_Table_lost : Array (Option Value)}
    {oc_Table___call__ kV_Table___call__ dc_Table___call__ pm_Table___call__ cd_Table___call__ ct_Table___call__ : Value} {od_Table___call__ an_Table___call__ : Option Addr} {sl_Table___call__ : Array (Option Value)}
    {oc_Table___eq__ kV_Table___eq__ dc_Table___eq__ pm_Table___eq__ cd_Table___eq__ ct_Table___eq__ : Value} {od_Table___eq__ an_Table___eq__ : Option Addr} {sl_Table___eq__ : Array (Option Value)}
    {oc_united kV_united dc_united pm_united cd_united ct_united : Value} {od_united an_united : Option Addr} {sl_united : Array (Option Value)}
    {oc_below_all kV_below_all dc_below_all pm_below_all cd_below_all ct_below_all : Value} {od_below_all an_below_all : Option Addr} {sl_below_all : Array (Option Value)}
    {oc_table_at kV_table_at dc_table_at pm_table_at cd_table_at ct_table_at : Value} {od_table_at an_table_at : Option Addr} {sl_table_at : Array (Option Value)}
    {oc_table_of kV_table_of dc_table_of pm_table_of cd_table_of ct_table_of : Value} {od_table_of an_table_of : Option Addr} {sl_table_of : Array (Option Value)}
    {oc_is_table_list kV_is_table_list dc_is_table_list pm_is_table_list cd_is_table_list ct_is_table_list : Value} {od_is_table_list an_is_table_list : Option Addr} {sl_is_table_list : Array (Option Value)}
    {oc_total_after kV_total_after dc_total_after pm_total_after cd_total_after ct_total_after : Value} {od_total_after an_total_after : Option Addr} {sl_total_after : Array (Option Value)}
    {oc_spread kV_spread dc_spread pm_spread cd_spread ct_spread : Value} {od_spread an_spread : Option Addr} {sl_spread : Array (Option Value)}
    {oc_Effect___init__ kV_Effect___init__ dc_Effect___init__ pm_Effect___init__ cd_Effect___init__ ct_Effect___init__ : Value} {od_Effect___init__ an_Effect___init__ : Option Addr} {sl_Effect___init__ : Array (Option Value)}
    {oc_Effect_of kV_Effect_of dc_Effect_of pm_Effect_of cd_Effect_of ct_Effect_of : Value} {od_Effect_of an_Effect_of : Option Addr} {sl_Effect_of : Array (Option Value)}
    {oc_Effect_breaks kV_Effect_breaks dc_Effect_breaks pm_Effect_breaks cd_Effect_breaks ct_Effect_breaks : Value} {od_Effect_breaks an_Effect_breaks : Option Addr} {sl_Effect_breaks : Array (Option Value)}
    {oc_Effect_tables kV_Effect_tables dc_Effect_tables pm_Effect_tables cd_Effect_tables ct_Effect_tables : Value} {od_Effect_tables an_Effect_tables : Option Addr} {sl_Effect_tables : Array (Option Value)}
    {oc_Effect_need kV_Effect_need dc_Effect_need pm_Effect_need cd_Effect_need ct_Effect_need : Value} {od_Effect_need an_Effect_need : Option Addr} {sl_Effect_need : Array (Option Value)}
    {oc_Effect_table kV_Effect_table dc_Effect_table pm_Effect_table cd_Effect_table ct_Effect_table : Value} {od_Effect_table an_Effect_table : Option Addr} {sl_Effect_table : Array (Option Value)}
    {oc_Effect___eq__ kV_Effect___eq__ dc_Effect___eq__ pm_Effect___eq__ cd_Effect___eq__ ct_Effect___eq__ : Value} {od_Effect___eq__ an_Effect___eq__ : Option Addr} {sl_Effect___eq__ : Array (Option Value)}
    {oc_least_difference kV_least_difference dc_least_difference pm_least_difference cd_least_difference ct_least_difference : Value} {od_least_difference an_least_difference : Option Addr} {sl_least_difference : Array (Option Value)}
    {oc_first_difference kV_first_difference dc_first_difference pm_first_difference cd_first_difference ct_first_difference : Value} {od_first_difference an_first_difference : Option Addr} {sl_first_difference : Array (Option Value)}
    {oc_separating_list kV_separating_list dc_separating_list pm_separating_list cd_separating_list ct_separating_list : Value} {od_separating_list an_separating_list : Option Addr} {sl_separating_list : Array (Option Value)}
    {oc_is_separating kV_is_separating dc_is_separating pm_is_separating cd_is_separating ct_is_separating : Value} {od_is_separating an_is_separating : Option Addr} {sl_is_separating : Array (Option Value)}
    {oc_law_pool kV_law_pool dc_law_pool pm_law_pool cd_law_pool ct_law_pool : Value} {od_law_pool an_law_pool : Option Addr} {sl_law_pool : Array (Option Value)}
    {oc_law_take kV_law_take dc_law_take pm_law_take cd_law_take ct_law_take : Value} {od_law_take an_law_take : Option Addr} {sl_law_take : Array (Option Value)}
    {oc_law_steps kV_law_steps dc_law_steps pm_law_steps cd_law_steps ct_law_steps : Value} {od_law_steps an_law_steps : Option Addr} {sl_law_steps : Array (Option Value)}
    {oc_law_made kV_law_made dc_law_made pm_law_made cd_law_made ct_law_made : Value} {od_law_made an_law_made : Option Addr} {sl_law_made : Array (Option Value)}
    {oc_law_run kV_law_run dc_law_run pm_law_run cd_law_run ct_law_run : Value} {od_law_run an_law_run : Option Addr} {sl_law_run : Array (Option Value)}
    {oc_law_lists kV_law_lists dc_law_lists pm_law_lists cd_law_lists ct_law_lists : Value} {od_law_lists an_law_lists : Option Addr} {sl_law_lists : Array (Option Value)}
    {oc_law_drawn_right kV_law_drawn_right dc_law_drawn_right pm_law_drawn_right cd_law_drawn_right ct_law_drawn_right : Value} {od_law_drawn_right an_law_drawn_right : Option Addr} {sl_law_drawn_right : Array (Option Value)}
    {oc_law_right kV_law_right dc_law_right pm_law_right cd_law_right ct_law_right : Value} {od_law_right an_law_right : Option Addr} {sl_law_right : Array (Option Value)}
    {oc_law kV_law dc_law pm_law cd_law ct_law : Value} {od_law an_law : Option Addr} {sl_law : Array (Option Value)}
    (a_is_integer : PySem.W.nsIn K mainGlobals "is_integer" = some (some (.ref is_integer)))
    (a_is_count : PySem.W.nsIn K mainGlobals "is_count" = some (some (.ref is_count)))
    (a_is_rank : PySem.W.nsIn K mainGlobals "is_rank" = some (some (.ref is_rank)))
    (a_is_number_list : PySem.W.nsIn K mainGlobals "is_number_list" = some (some (.ref is_number_list)))
    (a_is_ascending : PySem.W.nsIn K mainGlobals "is_ascending" = some (some (.ref is_ascending)))
    (a_is_rank_list : PySem.W.nsIn K mainGlobals "is_rank_list" = some (some (.ref is_rank_list)))
    (a_ascending : PySem.W.nsIn K mainGlobals "ascending" = some (some (.ref ascending)))
    (a_how_many_up_to : PySem.W.nsIn K mainGlobals "how_many_up_to" = some (some (.ref how_many_up_to)))
    (a_mapped : PySem.W.nsIn K mainGlobals "mapped" = some (some (.ref mapped)))
    (a_kept_rank : PySem.W.nsIn K mainGlobals "kept_rank" = some (some (.ref kept_rank)))
    (a_united : PySem.W.nsIn K mainGlobals "united" = some (some (.ref united)))
    (a_below_all : PySem.W.nsIn K mainGlobals "below_all" = some (some (.ref below_all)))
    (a_table_at : PySem.W.nsIn K mainGlobals "table_at" = some (some (.ref table_at)))
    (a_table_of : PySem.W.nsIn K mainGlobals "table_of" = some (some (.ref table_of)))
    (a_is_table_list : PySem.W.nsIn K mainGlobals "is_table_list" = some (some (.ref is_table_list)))
    (a_total_after : PySem.W.nsIn K mainGlobals "total_after" = some (some (.ref total_after)))
    (a_spread : PySem.W.nsIn K mainGlobals "spread" = some (some (.ref spread)))
    (a_least_difference : PySem.W.nsIn K mainGlobals "least_difference" = some (some (.ref least_difference)))
    (a_first_difference : PySem.W.nsIn K mainGlobals "first_difference" = some (some (.ref first_difference)))
    (a_separating_list : PySem.W.nsIn K mainGlobals "separating_list" = some (some (.ref separating_list)))
    (a_is_separating : PySem.W.nsIn K mainGlobals "is_separating" = some (some (.ref is_separating)))
    (a_law_pool : PySem.W.nsIn K mainGlobals "_law_pool" = some (some (.ref law_pool)))
    (a_law_take : PySem.W.nsIn K mainGlobals "_law_take" = some (some (.ref law_take)))
    (a_law_steps : PySem.W.nsIn K mainGlobals "_law_steps" = some (some (.ref law_steps)))
    (a_law_made : PySem.W.nsIn K mainGlobals "_law_made" = some (some (.ref law_made)))
    (a_law_run : PySem.W.nsIn K mainGlobals "_law_run" = some (some (.ref law_run)))
    (a_law_lists : PySem.W.nsIn K mainGlobals "_law_lists" = some (some (.ref law_lists)))
    (a_law_drawn_right : PySem.W.nsIn K mainGlobals "_law_drawn_right" = some (some (.ref law_drawn_right)))
    (a_law_right : PySem.W.nsIn K mainGlobals "_law_right" = some (some (.ref law_right)))
    (a_law : PySem.W.nsIn K mainGlobals "law" = some (some (.ref law)))
    (a_RankError : PySem.W.nsIn K mainGlobals "RankError" = some (some (.ref RankError)))
    (a_Sequence : PySem.W.nsIn K mainGlobals "Sequence" = some (some (.ref Sequence)))
    (at_Sequence___init__ : PySem.W.findIn K (.ref Sequence) "__init__" = some (some (.ref Sequence___init__)))
    (f_Sequence___init__ : PySem.W.isFn K (.ref Sequence___init__) = true)
    (at_Sequence___add__ : PySem.W.findIn K (.ref Sequence) "__add__" = some (some (.ref Sequence___add__)))
    (f_Sequence___add__ : PySem.W.isFn K (.ref Sequence___add__) = true)
    (pat_steps : PySem.W.findIn K (.ref Sequence) "steps" = some (some (.ref P_steps)))
    (rec_steps : PySem.W.recIn K P_steps "property" = some (.ref Sequence_steps :: rest_steps))
    (get_steps : PySem.W.specialIn K (.ref P_steps) "__get__" = some (some (.builtin "property.__get__")))
    (tak_steps : PySem.W.takesIn K (.ref P_steps) = some true)
    (at_is_step : PySem.W.findIn K (.ref Sequence) "is_step" = some (some (.ref S_is_step)))
    (rec_is_step : PySem.W.recIn K S_is_step "staticmethod" = some (.ref Sequence_is_step :: rest_is_step))
    (sty_is_step : PySem.W.typeIn K (.ref S_is_step) = some (.type "staticmethod"))
    (get_is_step : PySem.W.specialIn K (.ref S_is_step) "__get__" = some (some (.builtin "staticmethod.__get__")))
    (tak_is_step : PySem.W.takesIn K (.ref S_is_step) = some false)
    (cls_is_step : PySem.W.findCls K (.ref Sequence) (.type "type") "is_step" = some (.get (.builtin "staticmethod.__get__") (.ref S_is_step) .none (.ref Sequence)))
    (rds_Sequence : PySem.W.readsIn K Sequence (.type "type") = true)
    (rga_Sequence : PySem.W.specialIn K (.ref Sequence) "__getattribute__" = some (some (.builtin "type.__getattribute__")))
    (a_Table : PySem.W.nsIn K mainGlobals "Table" = some (some (.ref Table)))
    (at_Table___init__ : PySem.W.findIn K (.ref Table) "__init__" = some (some (.ref Table___init__)))
    (f_Table___init__ : PySem.W.isFn K (.ref Table___init__) = true)
    (at_Table___call__ : PySem.W.findIn K (.ref Table) "__call__" = some (some (.ref Table___call__)))
    (f_Table___call__ : PySem.W.isFn K (.ref Table___call__) = true)
    (at_Table___eq__ : PySem.W.findIn K (.ref Table) "__eq__" = some (some (.ref Table___eq__)))
    (f_Table___eq__ : PySem.W.isFn K (.ref Table___eq__) = true)
    (pat_start : PySem.W.findIn K (.ref Table) "start" = some (some (.ref P_start)))
    (rec_start : PySem.W.recIn K P_start "property" = some (.ref Table_start :: rest_start))
    (get_start : PySem.W.specialIn K (.ref P_start) "__get__" = some (some (.builtin "property.__get__")))
    (tak_start : PySem.W.takesIn K (.ref P_start) = some true)
    (pat_lost : PySem.W.findIn K (.ref Table) "lost" = some (some (.ref P_lost)))
    (rec_lost : PySem.W.recIn K P_lost "property" = some (.ref Table_lost :: rest_lost))
    (get_lost : PySem.W.specialIn K (.ref P_lost) "__get__" = some (some (.builtin "property.__get__")))
    (tak_lost : PySem.W.takesIn K (.ref P_lost) = some true)
    (a_Effect : PySem.W.nsIn K mainGlobals "Effect" = some (some (.ref Effect)))
    (at_Effect___init__ : PySem.W.findIn K (.ref Effect) "__init__" = some (some (.ref Effect___init__)))
    (f_Effect___init__ : PySem.W.isFn K (.ref Effect___init__) = true)
    (at_Effect_table : PySem.W.findIn K (.ref Effect) "table" = some (some (.ref Effect_table)))
    (f_Effect_table : PySem.W.isFn K (.ref Effect_table) = true)
    (at_Effect___eq__ : PySem.W.findIn K (.ref Effect) "__eq__" = some (some (.ref Effect___eq__)))
    (f_Effect___eq__ : PySem.W.isFn K (.ref Effect___eq__) = true)
    (pat_breaks : PySem.W.findIn K (.ref Effect) "breaks" = some (some (.ref P_breaks)))
    (rec_breaks : PySem.W.recIn K P_breaks "property" = some (.ref Effect_breaks :: rest_breaks))
    (get_breaks : PySem.W.specialIn K (.ref P_breaks) "__get__" = some (some (.builtin "property.__get__")))
    (tak_breaks : PySem.W.takesIn K (.ref P_breaks) = some true)
    (pat_tables : PySem.W.findIn K (.ref Effect) "tables" = some (some (.ref P_tables)))
    (rec_tables : PySem.W.recIn K P_tables "property" = some (.ref Effect_tables :: rest_tables))
    (get_tables : PySem.W.specialIn K (.ref P_tables) "__get__" = some (some (.builtin "property.__get__")))
    (tak_tables : PySem.W.takesIn K (.ref P_tables) = some true)
    (pat_need : PySem.W.findIn K (.ref Effect) "need" = some (some (.ref P_need)))
    (rec_need : PySem.W.recIn K P_need "property" = some (.ref Effect_need :: rest_need))
    (get_need : PySem.W.specialIn K (.ref P_need) "__get__" = some (some (.builtin "property.__get__")))
    (tak_need : PySem.W.takesIn K (.ref P_need) = some true)
    (at_of : PySem.W.findIn K (.ref Effect) "of" = some (some (.ref C_of)))
    (rec_of : PySem.W.recIn K C_of "classmethod" = some (.ref Effect_of :: rest_of))
    (sty_of : PySem.W.typeIn K (.ref C_of) = some (.type "classmethod"))
    (get_of : PySem.W.specialIn K (.ref C_of) "__get__" = some (some (.builtin "classmethod.__get__")))
    (tak_of : PySem.W.takesIn K (.ref C_of) = some false)
    (cls_of : PySem.W.findCls K (.ref Effect) (.type "type") "of" = some (.get (.builtin "classmethod.__get__") (.ref C_of) .none (.ref Effect)))
    (fi_of : PySem.W.fnIn K Effect_of = true)
    (rds_Effect : PySem.W.readsIn K Effect (.type "type") = true)
    (rga_Effect : PySem.W.specialIn K (.ref Effect) "__getattribute__" = some (some (.builtin "type.__getattribute__")))
    (z_type : PySem.W.nsIn K mainGlobals "type" = some none)
    (z_int : PySem.W.nsIn K mainGlobals "int" = some none)
    (z_list : PySem.W.nsIn K mainGlobals "list" = some none)
    (z_tuple : PySem.W.nsIn K mainGlobals "tuple" = some none)
    (z_str : PySem.W.nsIn K mainGlobals "str" = some none)
    (z_len : PySem.W.nsIn K mainGlobals "len" = some none)
    (z_isinstance : PySem.W.nsIn K mainGlobals "isinstance" = some none)
    (z_abs : PySem.W.nsIn K mainGlobals "abs" = some none)
    (z_max : PySem.W.nsIn K mainGlobals "max" = some none)
    (z_min : PySem.W.nsIn K mainGlobals "min" = some none)
    (z_range : PySem.W.nsIn K mainGlobals "range" = some none)
    (z_all : PySem.W.nsIn K mainGlobals "all" = some none)
    (z_zip : PySem.W.nsIn K mainGlobals "zip" = some none)
    (z_sorted : PySem.W.nsIn K mainGlobals "sorted" = some none)
    (z_set : PySem.W.nsIn K mainGlobals "set" = some none)
    (z_enumerate : PySem.W.nsIn K mainGlobals "enumerate" = some none)
    (z_bool : PySem.W.nsIn K mainGlobals "bool" = some none)
    (z_dict : PySem.W.nsIn K mainGlobals "dict" = some none)
    (z_any : PySem.W.nsIn K mainGlobals "any" = some none)
    (z_repr : PySem.W.nsIn K mainGlobals "repr" = some none)
    (l_is_integer : K.lookup is_integer = some ⟨oc_is_integer, od_is_integer, .func (PySem.W.fnOf "is_integer" "is_integer" (defArgs s_is_integer) (defBody s_is_integer) (defScope s_is_integer) .none kV_is_integer dc_is_integer pm_is_integer an_is_integer cd_is_integer ct_is_integer), sl_is_integer⟩)
    (c_is_integer : PySem.W.codeIn K cd_is_integer "is_integer" = true)
    (k_is_integer : PySem.W.keepIn K (.ref is_integer) = true)
    (l_is_count : K.lookup is_count = some ⟨oc_is_count, od_is_count, .func (PySem.W.fnOf "is_count" "is_count" (defArgs s_is_count) (defBody s_is_count) (defScope s_is_count) .none kV_is_count dc_is_count pm_is_count an_is_count cd_is_count ct_is_count), sl_is_count⟩)
    (c_is_count : PySem.W.codeIn K cd_is_count "is_count" = true)
    (k_is_count : PySem.W.keepIn K (.ref is_count) = true)
    (l_is_rank : K.lookup is_rank = some ⟨oc_is_rank, od_is_rank, .func (PySem.W.fnOf "is_rank" "is_rank" (defArgs s_is_rank) (defBody s_is_rank) (defScope s_is_rank) .none kV_is_rank dc_is_rank pm_is_rank an_is_rank cd_is_rank ct_is_rank), sl_is_rank⟩)
    (c_is_rank : PySem.W.codeIn K cd_is_rank "is_rank" = true)
    (k_is_rank : PySem.W.keepIn K (.ref is_rank) = true)
    (l_is_number_list : K.lookup is_number_list = some ⟨oc_is_number_list, od_is_number_list, .func (PySem.W.fnOf "is_number_list" "is_number_list" (defArgs s_is_number_list) (defBody s_is_number_list) (defScope s_is_number_list) .none kV_is_number_list dc_is_number_list pm_is_number_list an_is_number_list cd_is_number_list ct_is_number_list), sl_is_number_list⟩)
    (c_is_number_list : PySem.W.codeIn K cd_is_number_list "is_number_list" = true)
    (k_is_number_list : PySem.W.keepIn K (.ref is_number_list) = true)
    (l_is_ascending : K.lookup is_ascending = some ⟨oc_is_ascending, od_is_ascending, .func (PySem.W.fnOf "is_ascending" "is_ascending" (defArgs s_is_ascending) (defBody s_is_ascending) (defScope s_is_ascending) .none kV_is_ascending dc_is_ascending pm_is_ascending an_is_ascending cd_is_ascending ct_is_ascending), sl_is_ascending⟩)
    (c_is_ascending : PySem.W.codeIn K cd_is_ascending "is_ascending" = true)
    (k_is_ascending : PySem.W.keepIn K (.ref is_ascending) = true)
    (l_is_rank_list : K.lookup is_rank_list = some ⟨oc_is_rank_list, od_is_rank_list, .func (PySem.W.fnOf "is_rank_list" "is_rank_list" (defArgs s_is_rank_list) (defBody s_is_rank_list) (defScope s_is_rank_list) .none kV_is_rank_list dc_is_rank_list pm_is_rank_list an_is_rank_list cd_is_rank_list ct_is_rank_list), sl_is_rank_list⟩)
    (c_is_rank_list : PySem.W.codeIn K cd_is_rank_list "is_rank_list" = true)
    (k_is_rank_list : PySem.W.keepIn K (.ref is_rank_list) = true)
    (l_ascending : K.lookup ascending = some ⟨oc_ascending, od_ascending, .func (PySem.W.fnOf "ascending" "ascending" (defArgs s_ascending) (defBody s_ascending) (defScope s_ascending) .none kV_ascending dc_ascending pm_ascending an_ascending cd_ascending ct_ascending), sl_ascending⟩)
    (c_ascending : PySem.W.codeIn K cd_ascending "ascending" = true)
    (k_ascending : PySem.W.keepIn K (.ref ascending) = true)
    (l_Sequence___init__ : K.lookup Sequence___init__ = some ⟨oc_Sequence___init__, od_Sequence___init__, .func (PySem.W.fnOf "__init__" "Sequence.__init__" (defArgs s_Sequence___init__) (defBody s_Sequence___init__) (defScope s_Sequence___init__) .none kV_Sequence___init__ dc_Sequence___init__ pm_Sequence___init__ an_Sequence___init__ cd_Sequence___init__ ct_Sequence___init__), sl_Sequence___init__⟩)
    (c_Sequence___init__ : PySem.W.codeIn K cd_Sequence___init__ "Sequence.__init__" = true)
    (k_Sequence___init__ : PySem.W.keepIn K (.ref Sequence___init__) = true)
    (l_Sequence_is_step : K.lookup Sequence_is_step = some ⟨oc_Sequence_is_step, od_Sequence_is_step, .func (PySem.W.fnOf "is_step" "Sequence.is_step" (defArgs s_Sequence_is_step) (defBody s_Sequence_is_step) (defScope s_Sequence_is_step) .none kV_Sequence_is_step dc_Sequence_is_step pm_Sequence_is_step an_Sequence_is_step cd_Sequence_is_step ct_Sequence_is_step), sl_Sequence_is_step⟩)
    (c_Sequence_is_step : PySem.W.codeIn K cd_Sequence_is_step "Sequence.is_step" = true)
    (k_Sequence_is_step : PySem.W.keepIn K (.ref Sequence_is_step) = true)
    (l_Sequence_steps : K.lookup Sequence_steps = some ⟨oc_Sequence_steps, od_Sequence_steps, .func (PySem.W.fnOf "steps" "Sequence.steps" (defArgs s_Sequence_steps) (defBody s_Sequence_steps) (defScope s_Sequence_steps) .none kV_Sequence_steps dc_Sequence_steps pm_Sequence_steps an_Sequence_steps cd_Sequence_steps ct_Sequence_steps), sl_Sequence_steps⟩)
    (c_Sequence_steps : PySem.W.codeIn K cd_Sequence_steps "Sequence.steps" = true)
    (k_Sequence_steps : PySem.W.keepIn K (.ref Sequence_steps) = true)
    (l_Sequence___add__ : K.lookup Sequence___add__ = some ⟨oc_Sequence___add__, od_Sequence___add__, .func (PySem.W.fnOf "__add__" "Sequence.__add__" (defArgs s_Sequence___add__) (defBody s_Sequence___add__) (defScope s_Sequence___add__) .none kV_Sequence___add__ dc_Sequence___add__ pm_Sequence___add__ an_Sequence___add__ cd_Sequence___add__ ct_Sequence___add__), sl_Sequence___add__⟩)
    (c_Sequence___add__ : PySem.W.codeIn K cd_Sequence___add__ "Sequence.__add__" = true)
    (k_Sequence___add__ : PySem.W.keepIn K (.ref Sequence___add__) = true)
    (l_how_many_up_to : K.lookup how_many_up_to = some ⟨oc_how_many_up_to, od_how_many_up_to, .func (PySem.W.fnOf "how_many_up_to" "how_many_up_to" (defArgs s_how_many_up_to) (defBody s_how_many_up_to) (defScope s_how_many_up_to) .none kV_how_many_up_to dc_how_many_up_to pm_how_many_up_to an_how_many_up_to cd_how_many_up_to ct_how_many_up_to), sl_how_many_up_to⟩)
    (c_how_many_up_to : PySem.W.codeIn K cd_how_many_up_to "how_many_up_to" = true)
    (k_how_many_up_to : PySem.W.keepIn K (.ref how_many_up_to) = true)
    (l_mapped : K.lookup mapped = some ⟨oc_mapped, od_mapped, .func (PySem.W.fnOf "mapped" "mapped" (defArgs s_mapped) (defBody s_mapped) (defScope s_mapped) .none kV_mapped dc_mapped pm_mapped an_mapped cd_mapped ct_mapped), sl_mapped⟩)
    (c_mapped : PySem.W.codeIn K cd_mapped "mapped" = true)
    (k_mapped : PySem.W.keepIn K (.ref mapped) = true)
    (l_kept_rank : K.lookup kept_rank = some ⟨oc_kept_rank, od_kept_rank, .func (PySem.W.fnOf "kept_rank" "kept_rank" (defArgs s_kept_rank) (defBody s_kept_rank) (defScope s_kept_rank) .none kV_kept_rank dc_kept_rank pm_kept_rank an_kept_rank cd_kept_rank ct_kept_rank), sl_kept_rank⟩)
    (c_kept_rank : PySem.W.codeIn K cd_kept_rank "kept_rank" = true)
    (k_kept_rank : PySem.W.keepIn K (.ref kept_rank) = true)
    (l_Table___init__ : K.lookup Table___init__ = some ⟨oc_Table___init__, od_Table___init__, .func (PySem.W.fnOf "__init__" "Table.__init__" (defArgs s_Table___init__) (defBody s_Table___init__) (defScope s_Table___init__) .none kV_Table___init__ dc_Table___init__ pm_Table___init__ an_Table___init__ cd_Table___init__ ct_Table___init__), sl_Table___init__⟩)
    (c_Table___init__ : PySem.W.codeIn K cd_Table___init__ "Table.__init__" = true)
    (k_Table___init__ : PySem.W.keepIn K (.ref Table___init__) = true)
    (l_Table_start : K.lookup Table_start = some ⟨oc_Table_start, od_Table_start, .func (PySem.W.fnOf "start" "Table.start" (defArgs s_Table_start) (defBody s_Table_start) (defScope s_Table_start) .none kV_Table_start dc_Table_start pm_Table_start an_Table_start cd_Table_start ct_Table_start), sl_Table_start⟩)
    (c_Table_start : PySem.W.codeIn K cd_Table_start "Table.start" = true)
    (k_Table_start : PySem.W.keepIn K (.ref Table_start) = true)
    (l_Table_lost : K.lookup Table_lost = some ⟨oc_Table_lost, od_Table_lost, .func (PySem.W.fnOf "lost" "Table.lost" (defArgs s_Table_lost) (defBody s_Table_lost) (defScope s_Table_lost) .none kV_Table_lost dc_Table_lost pm_Table_lost an_Table_lost cd_Table_lost ct_Table_lost), sl_Table_lost⟩)
    (c_Table_lost : PySem.W.codeIn K cd_Table_lost "Table.lost" = true)
    (k_Table_lost : PySem.W.keepIn K (.ref Table_lost) = true)
    (l_Table___call__ : K.lookup Table___call__ = some ⟨oc_Table___call__, od_Table___call__, .func (PySem.W.fnOf "__call__" "Table.__call__" (defArgs s_Table___call__) (defBody s_Table___call__) (defScope s_Table___call__) .none kV_Table___call__ dc_Table___call__ pm_Table___call__ an_Table___call__ cd_Table___call__ ct_Table___call__), sl_Table___call__⟩)
    (c_Table___call__ : PySem.W.codeIn K cd_Table___call__ "Table.__call__" = true)
    (k_Table___call__ : PySem.W.keepIn K (.ref Table___call__) = true)
    (l_Table___eq__ : K.lookup Table___eq__ = some ⟨oc_Table___eq__, od_Table___eq__, .func (PySem.W.fnOf "__eq__" "Table.__eq__" (defArgs s_Table___eq__) (defBody s_Table___eq__) (defScope s_Table___eq__) .none kV_Table___eq__ dc_Table___eq__ pm_Table___eq__ an_Table___eq__ cd_Table___eq__ ct_Table___eq__), sl_Table___eq__⟩)
    (c_Table___eq__ : PySem.W.codeIn K cd_Table___eq__ "Table.__eq__" = true)
    (k_Table___eq__ : PySem.W.keepIn K (.ref Table___eq__) = true)
    (l_united : K.lookup united = some ⟨oc_united, od_united, .func (PySem.W.fnOf "united" "united" (defArgs s_united) (defBody s_united) (defScope s_united) .none kV_united dc_united pm_united an_united cd_united ct_united), sl_united⟩)
    (c_united : PySem.W.codeIn K cd_united "united" = true)
    (k_united : PySem.W.keepIn K (.ref united) = true)
    (l_below_all : K.lookup below_all = some ⟨oc_below_all, od_below_all, .func (PySem.W.fnOf "below_all" "below_all" (defArgs s_below_all) (defBody s_below_all) (defScope s_below_all) .none kV_below_all dc_below_all pm_below_all an_below_all cd_below_all ct_below_all), sl_below_all⟩)
    (c_below_all : PySem.W.codeIn K cd_below_all "below_all" = true)
    (k_below_all : PySem.W.keepIn K (.ref below_all) = true)
    (l_table_at : K.lookup table_at = some ⟨oc_table_at, od_table_at, .func (PySem.W.fnOf "table_at" "table_at" (defArgs s_table_at) (defBody s_table_at) (defScope s_table_at) .none kV_table_at dc_table_at pm_table_at an_table_at cd_table_at ct_table_at), sl_table_at⟩)
    (c_table_at : PySem.W.codeIn K cd_table_at "table_at" = true)
    (k_table_at : PySem.W.keepIn K (.ref table_at) = true)
    (l_table_of : K.lookup table_of = some ⟨oc_table_of, od_table_of, .func (PySem.W.fnOf "table_of" "table_of" (defArgs s_table_of) (defBody s_table_of) (defScope s_table_of) .none kV_table_of dc_table_of pm_table_of an_table_of cd_table_of ct_table_of), sl_table_of⟩)
    (c_table_of : PySem.W.codeIn K cd_table_of "table_of" = true)
    (k_table_of : PySem.W.keepIn K (.ref table_of) = true)
    (l_is_table_list : K.lookup is_table_list = some ⟨oc_is_table_list, od_is_table_list, .func (PySem.W.fnOf "is_table_list" "is_table_list" (defArgs s_is_table_list) (defBody s_is_table_list) (defScope s_is_table_list) .none kV_is_table_list dc_is_table_list pm_is_table_list an_is_table_list cd_is_table_list ct_is_table_list), sl_is_table_list⟩)
    (c_is_table_list : PySem.W.codeIn K cd_is_table_list "is_table_list" = true)
    (k_is_table_list : PySem.W.keepIn K (.ref is_table_list) = true)
    (l_total_after : K.lookup total_after = some ⟨oc_total_after, od_total_after, .func (PySem.W.fnOf "total_after" "total_after" (defArgs s_total_after) (defBody s_total_after) (defScope s_total_after) .none kV_total_after dc_total_after pm_total_after an_total_after cd_total_after ct_total_after), sl_total_after⟩)
    (c_total_after : PySem.W.codeIn K cd_total_after "total_after" = true)
    (k_total_after : PySem.W.keepIn K (.ref total_after) = true)
    (l_spread : K.lookup spread = some ⟨oc_spread, od_spread, .func (PySem.W.fnOf "spread" "spread" (defArgs s_spread) (defBody s_spread) (defScope s_spread) .none kV_spread dc_spread pm_spread an_spread cd_spread ct_spread), sl_spread⟩)
    (c_spread : PySem.W.codeIn K cd_spread "spread" = true)
    (k_spread : PySem.W.keepIn K (.ref spread) = true)
    (l_Effect___init__ : K.lookup Effect___init__ = some ⟨oc_Effect___init__, od_Effect___init__, .func (PySem.W.fnOf "__init__" "Effect.__init__" (defArgs s_Effect___init__) (defBody s_Effect___init__) (defScope s_Effect___init__) .none kV_Effect___init__ dc_Effect___init__ pm_Effect___init__ an_Effect___init__ cd_Effect___init__ ct_Effect___init__), sl_Effect___init__⟩)
    (c_Effect___init__ : PySem.W.codeIn K cd_Effect___init__ "Effect.__init__" = true)
    (k_Effect___init__ : PySem.W.keepIn K (.ref Effect___init__) = true)
    (l_Effect_of : K.lookup Effect_of = some ⟨oc_Effect_of, od_Effect_of, .func (PySem.W.fnOf "of" "Effect.of" (defArgs s_Effect_of) (defBody s_Effect_of) (defScope s_Effect_of) .none kV_Effect_of dc_Effect_of pm_Effect_of an_Effect_of cd_Effect_of ct_Effect_of), sl_Effect_of⟩)
    (c_Effect_of : PySem.W.codeIn K cd_Effect_of "Effect.of" = true)
    (k_Effect_of : PySem.W.keepIn K (.ref Effect_of) = true)
    (l_Effect_breaks : K.lookup Effect_breaks = some ⟨oc_Effect_breaks, od_Effect_breaks, .func (PySem.W.fnOf "breaks" "Effect.breaks" (defArgs s_Effect_breaks) (defBody s_Effect_breaks) (defScope s_Effect_breaks) .none kV_Effect_breaks dc_Effect_breaks pm_Effect_breaks an_Effect_breaks cd_Effect_breaks ct_Effect_breaks), sl_Effect_breaks⟩)
    (c_Effect_breaks : PySem.W.codeIn K cd_Effect_breaks "Effect.breaks" = true)
    (k_Effect_breaks : PySem.W.keepIn K (.ref Effect_breaks) = true)
    (l_Effect_tables : K.lookup Effect_tables = some ⟨oc_Effect_tables, od_Effect_tables, .func (PySem.W.fnOf "tables" "Effect.tables" (defArgs s_Effect_tables) (defBody s_Effect_tables) (defScope s_Effect_tables) .none kV_Effect_tables dc_Effect_tables pm_Effect_tables an_Effect_tables cd_Effect_tables ct_Effect_tables), sl_Effect_tables⟩)
    (c_Effect_tables : PySem.W.codeIn K cd_Effect_tables "Effect.tables" = true)
    (k_Effect_tables : PySem.W.keepIn K (.ref Effect_tables) = true)
    (l_Effect_need : K.lookup Effect_need = some ⟨oc_Effect_need, od_Effect_need, .func (PySem.W.fnOf "need" "Effect.need" (defArgs s_Effect_need) (defBody s_Effect_need) (defScope s_Effect_need) .none kV_Effect_need dc_Effect_need pm_Effect_need an_Effect_need cd_Effect_need ct_Effect_need), sl_Effect_need⟩)
    (c_Effect_need : PySem.W.codeIn K cd_Effect_need "Effect.need" = true)
    (k_Effect_need : PySem.W.keepIn K (.ref Effect_need) = true)
    (l_Effect_table : K.lookup Effect_table = some ⟨oc_Effect_table, od_Effect_table, .func (PySem.W.fnOf "table" "Effect.table" (defArgs s_Effect_table) (defBody s_Effect_table) (defScope s_Effect_table) .none kV_Effect_table dc_Effect_table pm_Effect_table an_Effect_table cd_Effect_table ct_Effect_table), sl_Effect_table⟩)
    (c_Effect_table : PySem.W.codeIn K cd_Effect_table "Effect.table" = true)
    (k_Effect_table : PySem.W.keepIn K (.ref Effect_table) = true)
    (l_Effect___eq__ : K.lookup Effect___eq__ = some ⟨oc_Effect___eq__, od_Effect___eq__, .func (PySem.W.fnOf "__eq__" "Effect.__eq__" (defArgs s_Effect___eq__) (defBody s_Effect___eq__) (defScope s_Effect___eq__) .none kV_Effect___eq__ dc_Effect___eq__ pm_Effect___eq__ an_Effect___eq__ cd_Effect___eq__ ct_Effect___eq__), sl_Effect___eq__⟩)
    (c_Effect___eq__ : PySem.W.codeIn K cd_Effect___eq__ "Effect.__eq__" = true)
    (k_Effect___eq__ : PySem.W.keepIn K (.ref Effect___eq__) = true)
    (l_least_difference : K.lookup least_difference = some ⟨oc_least_difference, od_least_difference, .func (PySem.W.fnOf "least_difference" "least_difference" (defArgs s_least_difference) (defBody s_least_difference) (defScope s_least_difference) .none kV_least_difference dc_least_difference pm_least_difference an_least_difference cd_least_difference ct_least_difference), sl_least_difference⟩)
    (c_least_difference : PySem.W.codeIn K cd_least_difference "least_difference" = true)
    (k_least_difference : PySem.W.keepIn K (.ref least_difference) = true)
    (l_first_difference : K.lookup first_difference = some ⟨oc_first_difference, od_first_difference, .func (PySem.W.fnOf "first_difference" "first_difference" (defArgs s_first_difference) (defBody s_first_difference) (defScope s_first_difference) .none kV_first_difference dc_first_difference pm_first_difference an_first_difference cd_first_difference ct_first_difference), sl_first_difference⟩)
    (c_first_difference : PySem.W.codeIn K cd_first_difference "first_difference" = true)
    (k_first_difference : PySem.W.keepIn K (.ref first_difference) = true)
    (l_separating_list : K.lookup separating_list = some ⟨oc_separating_list, od_separating_list, .func (PySem.W.fnOf "separating_list" "separating_list" (defArgs s_separating_list) (defBody s_separating_list) (defScope s_separating_list) .none kV_separating_list dc_separating_list pm_separating_list an_separating_list cd_separating_list ct_separating_list), sl_separating_list⟩)
    (c_separating_list : PySem.W.codeIn K cd_separating_list "separating_list" = true)
    (k_separating_list : PySem.W.keepIn K (.ref separating_list) = true)
    (l_is_separating : K.lookup is_separating = some ⟨oc_is_separating, od_is_separating, .func (PySem.W.fnOf "is_separating" "is_separating" (defArgs s_is_separating) (defBody s_is_separating) (defScope s_is_separating) .none kV_is_separating dc_is_separating pm_is_separating an_is_separating cd_is_separating ct_is_separating), sl_is_separating⟩)
    (c_is_separating : PySem.W.codeIn K cd_is_separating "is_separating" = true)
    (k_is_separating : PySem.W.keepIn K (.ref is_separating) = true)
    (l_law_pool : K.lookup law_pool = some ⟨oc_law_pool, od_law_pool, .func (PySem.W.fnOf "_law_pool" "_law_pool" (defArgs s_law_pool) (defBody s_law_pool) (defScope s_law_pool) .none kV_law_pool dc_law_pool pm_law_pool an_law_pool cd_law_pool ct_law_pool), sl_law_pool⟩)
    (c_law_pool : PySem.W.codeIn K cd_law_pool "_law_pool" = true)
    (k_law_pool : PySem.W.keepIn K (.ref law_pool) = true)
    (l_law_take : K.lookup law_take = some ⟨oc_law_take, od_law_take, .func (PySem.W.fnOf "_law_take" "_law_take" (defArgs s_law_take) (defBody s_law_take) (defScope s_law_take) .none kV_law_take dc_law_take pm_law_take an_law_take cd_law_take ct_law_take), sl_law_take⟩)
    (c_law_take : PySem.W.codeIn K cd_law_take "_law_take" = true)
    (k_law_take : PySem.W.keepIn K (.ref law_take) = true)
    (l_law_steps : K.lookup law_steps = some ⟨oc_law_steps, od_law_steps, .func (PySem.W.fnOf "_law_steps" "_law_steps" (defArgs s_law_steps) (defBody s_law_steps) (defScope s_law_steps) .none kV_law_steps dc_law_steps pm_law_steps an_law_steps cd_law_steps ct_law_steps), sl_law_steps⟩)
    (c_law_steps : PySem.W.codeIn K cd_law_steps "_law_steps" = true)
    (k_law_steps : PySem.W.keepIn K (.ref law_steps) = true)
    (l_law_made : K.lookup law_made = some ⟨oc_law_made, od_law_made, .func (PySem.W.fnOf "_law_made" "_law_made" (defArgs s_law_made) (defBody s_law_made) (defScope s_law_made) .none kV_law_made dc_law_made pm_law_made an_law_made cd_law_made ct_law_made), sl_law_made⟩)
    (c_law_made : PySem.W.codeIn K cd_law_made "_law_made" = true)
    (k_law_made : PySem.W.keepIn K (.ref law_made) = true)
    (l_law_run : K.lookup law_run = some ⟨oc_law_run, od_law_run, .func (PySem.W.fnOf "_law_run" "_law_run" (defArgs s_law_run) (defBody s_law_run) (defScope s_law_run) .none kV_law_run dc_law_run pm_law_run an_law_run cd_law_run ct_law_run), sl_law_run⟩)
    (c_law_run : PySem.W.codeIn K cd_law_run "_law_run" = true)
    (k_law_run : PySem.W.keepIn K (.ref law_run) = true)
    (l_law_lists : K.lookup law_lists = some ⟨oc_law_lists, od_law_lists, .func (PySem.W.fnOf "_law_lists" "_law_lists" (defArgs s_law_lists) (defBody s_law_lists) (defScope s_law_lists) .none kV_law_lists dc_law_lists pm_law_lists an_law_lists cd_law_lists ct_law_lists), sl_law_lists⟩)
    (c_law_lists : PySem.W.codeIn K cd_law_lists "_law_lists" = true)
    (k_law_lists : PySem.W.keepIn K (.ref law_lists) = true)
    (l_law_drawn_right : K.lookup law_drawn_right = some ⟨oc_law_drawn_right, od_law_drawn_right, .func (PySem.W.fnOf "_law_drawn_right" "_law_drawn_right" (defArgs s_law_drawn_right) (defBody s_law_drawn_right) (defScope s_law_drawn_right) .none kV_law_drawn_right dc_law_drawn_right pm_law_drawn_right an_law_drawn_right cd_law_drawn_right ct_law_drawn_right), sl_law_drawn_right⟩)
    (c_law_drawn_right : PySem.W.codeIn K cd_law_drawn_right "_law_drawn_right" = true)
    (k_law_drawn_right : PySem.W.keepIn K (.ref law_drawn_right) = true)
    (l_law_right : K.lookup law_right = some ⟨oc_law_right, od_law_right, .func (PySem.W.fnOf "_law_right" "_law_right" (defArgs s_law_right) (defBody s_law_right) (defScope s_law_right) .none kV_law_right dc_law_right pm_law_right an_law_right cd_law_right ct_law_right), sl_law_right⟩)
    (c_law_right : PySem.W.codeIn K cd_law_right "_law_right" = true)
    (k_law_right : PySem.W.keepIn K (.ref law_right) = true)
    (l_law : K.lookup law = some ⟨oc_law, od_law, .func (PySem.W.fnOf "law" "law" (defArgs s_law) (defBody s_law) (defScope s_law) .none kV_law dc_law pm_law an_law cd_law ct_law), sl_law⟩)
    (c_law : PySem.W.codeIn K cd_law "law" = true)
    (k_law : PySem.W.keepIn K (.ref law) = true)
    (hn : PySem.W.specialIn K (.builtin "object.__class__") "__get__" = some (some (.builtin "getset_descriptor.__get__")))
    (htk : PySem.W.takesIn K (.builtin "object.__class__") = some true)
    (pg_Sequence : PySem.W.plainGet K Sequence Str.empty = true)
    (hd_Sequence : PySem.W.hasDictIn K Sequence = true)
    (po_Sequence : PySem.W.plainOver K Sequence = true)
    (sa_Sequence : PySem.W.findIn K (.ref Sequence) "__setattr__" = some (some (.builtin "object.__setattr__")))
    (mkI_Sequence : PySem.W.makesIn K Sequence = true)
    (kc_Sequence : PySem.W.keepIn K (.ref Sequence) = true)
    (ha_Sequence : PySem.W.findIn K (.ref Sequence) "__class__" = some (some (.builtin "object.__class__")))
    (hm_Sequence : PySem.W.mroIn K Sequence (.type "object") = some true)
    (ic_Sequence : PySem.W.isClsIn K Sequence = true)
    (ty_Sequence : PySem.W.typeIn K (.ref Sequence) = some (.type "type"))
    (n_steps : PySem.W.findIn K (.ref Sequence) "_steps" = some none)
    (sf_S : PySem.W.selfFirst K Sequence = true)
    (pg_Table : PySem.W.plainGet K Table Str.empty = true)
    (hd_Table : PySem.W.hasDictIn K Table = true)
    (po_Table : PySem.W.plainOver K Table = true)
    (sa_Table : PySem.W.findIn K (.ref Table) "__setattr__" = some (some (.builtin "object.__setattr__")))
    (mkI_Table : PySem.W.makesIn K Table = true)
    (kc_Table : PySem.W.keepIn K (.ref Table) = true)
    (ha_Table : PySem.W.findIn K (.ref Table) "__class__" = some (some (.builtin "object.__class__")))
    (hm_Table : PySem.W.mroIn K Table (.type "object") = some true)
    (ic_Table : PySem.W.isClsIn K Table = true)
    (ty_Table : PySem.W.typeIn K (.ref Table) = some (.type "type"))
    (n_start : PySem.W.findIn K (.ref Table) "_start" = some none)
    (n_lost : PySem.W.findIn K (.ref Table) "_lost" = some none)
    (neA_T : PySem.W.findIn K (.ref Table) "__ne__" = some (some (.builtin "object.__ne__")))
    (sub_T : PySem.W.subIn K (.ref Table) (.type "object") = some true)
    (fic_T : PySem.W.fnIn K Table___call__ = true)
    (pg_Effect : PySem.W.plainGet K Effect Str.empty = true)
    (hd_Effect : PySem.W.hasDictIn K Effect = true)
    (po_Effect : PySem.W.plainOver K Effect = true)
    (sa_Effect : PySem.W.findIn K (.ref Effect) "__setattr__" = some (some (.builtin "object.__setattr__")))
    (mkI_Effect : PySem.W.makesIn K Effect = true)
    (kc_Effect : PySem.W.keepIn K (.ref Effect) = true)
    (ha_Effect : PySem.W.findIn K (.ref Effect) "__class__" = some (some (.builtin "object.__class__")))
    (hm_Effect : PySem.W.mroIn K Effect (.type "object") = some true)
    (ic_Effect : PySem.W.isClsIn K Effect = true)
    (ty_Effect : PySem.W.typeIn K (.ref Effect) = some (.type "type"))
    (n_breaks : PySem.W.findIn K (.ref Effect) "_breaks" = some none)
    (n_tables : PySem.W.findIn K (.ref Effect) "_tables" = some none)
    (neA_E : PySem.W.findIn K (.ref Effect) "__ne__" = some (some (.builtin "object.__ne__")))
    (sub_E : PySem.W.subIn K (.ref Effect) (.type "object") = some true)
    (a_MOST : PySem.W.nsIn K mainGlobals "MOST_ELEMENTS" = some (some (.int 500 tkM))) :
    ∀ base : Heap, K.In base → base.Ns mainGlobals mg → FnG l.prog w K mg base CX0 15 fa (spLaw K) := by
  have e := hfa.symm.trans (PySem.W.mg_of X G a_law)
  cases e
  have T : Txt K mg { is_integer := is_integer, is_count := is_count, is_rank := is_rank, is_number_list := is_number_list, is_ascending := is_ascending, is_rank_list := is_rank_list, ascending := ascending, Sequence___init__ := Sequence___init__, Sequence_is_step := Sequence_is_step, Sequence_steps := Sequence_steps, Sequence___add__ := Sequence___add__, how_many_up_to := how_many_up_to, mapped := mapped, kept_rank := kept_rank, Table___init__ := Table___init__, Table_start := Table_start, Table_lost := Table_lost, Table___call__ := Table___call__, Table___eq__ := Table___eq__, united := united, below_all := below_all, table_at := table_at, table_of := table_of, is_table_list := is_table_list, total_after := total_after, spread := spread, Effect___init__ := Effect___init__, Effect_of := Effect_of, Effect_breaks := Effect_breaks, Effect_tables := Effect_tables, Effect_need := Effect_need, Effect_table := Effect_table, Effect___eq__ := Effect___eq__, least_difference := least_difference, first_difference := first_difference, separating_list := separating_list, is_separating := is_separating, law_pool := law_pool, law_take := law_take, law_steps := law_steps, law_made := law_made, law_run := law_run, law_lists := law_lists, law_drawn_right := law_drawn_right, law_right := law_right, law := fa, RankError := RankError, Sequence := Sequence, Table := Table, Effect := Effect, P_steps := P_steps, P_start := P_start, P_lost := P_lost, P_breaks := P_breaks, P_tables := P_tables, P_need := P_need, S_is_step := S_is_step, C_of := C_of } :=
    { g_is_integer := PySem.W.mg_of X G a_is_integer,
      k_is_integer := k_is_integer,
      F_is_integer := ⟨_, fun_mk (st := s_is_integer) l_is_integer c_is_integer k_is_integer⟩,
      g_is_count := PySem.W.mg_of X G a_is_count,
      k_is_count := k_is_count,
      F_is_count := ⟨_, fun_mk (st := s_is_count) l_is_count c_is_count k_is_count⟩,
      g_is_rank := PySem.W.mg_of X G a_is_rank,
      k_is_rank := k_is_rank,
      F_is_rank := ⟨_, fun_mk (st := s_is_rank) l_is_rank c_is_rank k_is_rank⟩,
      g_is_number_list := PySem.W.mg_of X G a_is_number_list,
      k_is_number_list := k_is_number_list,
      F_is_number_list := ⟨_, fun_mk (st := s_is_number_list) l_is_number_list c_is_number_list k_is_number_list⟩,
      g_is_ascending := PySem.W.mg_of X G a_is_ascending,
      k_is_ascending := k_is_ascending,
      F_is_ascending := ⟨_, fun_mk (st := s_is_ascending) l_is_ascending c_is_ascending k_is_ascending⟩,
      g_is_rank_list := PySem.W.mg_of X G a_is_rank_list,
      k_is_rank_list := k_is_rank_list,
      F_is_rank_list := ⟨_, fun_mk (st := s_is_rank_list) l_is_rank_list c_is_rank_list k_is_rank_list⟩,
      g_ascending := PySem.W.mg_of X G a_ascending,
      k_ascending := k_ascending,
      F_ascending := ⟨_, fun_mk (st := s_ascending) l_ascending c_ascending k_ascending⟩,
      F_Sequence___init__ := ⟨_, fun_mk (st := s_Sequence___init__) l_Sequence___init__ c_Sequence___init__ k_Sequence___init__⟩,
      F_Sequence_is_step := ⟨_, fun_mk (st := s_Sequence_is_step) l_Sequence_is_step c_Sequence_is_step k_Sequence_is_step⟩,
      F_Sequence_steps := ⟨_, fun_mk (st := s_Sequence_steps) l_Sequence_steps c_Sequence_steps k_Sequence_steps⟩,
      F_Sequence___add__ := ⟨_, fun_mk (st := s_Sequence___add__) l_Sequence___add__ c_Sequence___add__ k_Sequence___add__⟩,
      g_how_many_up_to := PySem.W.mg_of X G a_how_many_up_to,
      k_how_many_up_to := k_how_many_up_to,
      F_how_many_up_to := ⟨_, fun_mk (st := s_how_many_up_to) l_how_many_up_to c_how_many_up_to k_how_many_up_to⟩,
      g_mapped := PySem.W.mg_of X G a_mapped,
      k_mapped := k_mapped,
      F_mapped := ⟨_, fun_mk (st := s_mapped) l_mapped c_mapped k_mapped⟩,
      g_kept_rank := PySem.W.mg_of X G a_kept_rank,
      k_kept_rank := k_kept_rank,
      F_kept_rank := ⟨_, fun_mk (st := s_kept_rank) l_kept_rank c_kept_rank k_kept_rank⟩,
      F_Table___init__ := ⟨_, fun_mk (st := s_Table___init__) l_Table___init__ c_Table___init__ k_Table___init__⟩,
      F_Table_start := ⟨_, fun_mk (st := s_Table_start) l_Table_start c_Table_start k_Table_start⟩,
      F_Table_lost := ⟨_, fun_mk (st := s_Table_lost) l_Table_lost c_Table_lost k_Table_lost⟩,
      F_Table___call__ := ⟨_, fun_mk (st := s_Table___call__) l_Table___call__ c_Table___call__ k_Table___call__⟩,
      F_Table___eq__ := ⟨_, fun_mk (st := s_Table___eq__) l_Table___eq__ c_Table___eq__ k_Table___eq__⟩,
      g_united := PySem.W.mg_of X G a_united,
      k_united := k_united,
      F_united := ⟨_, fun_mk (st := s_united) l_united c_united k_united⟩,
      g_below_all := PySem.W.mg_of X G a_below_all,
      k_below_all := k_below_all,
      F_below_all := ⟨_, fun_mk (st := s_below_all) l_below_all c_below_all k_below_all⟩,
      g_table_at := PySem.W.mg_of X G a_table_at,
      k_table_at := k_table_at,
      F_table_at := ⟨_, fun_mk (st := s_table_at) l_table_at c_table_at k_table_at⟩,
      g_table_of := PySem.W.mg_of X G a_table_of,
      k_table_of := k_table_of,
      F_table_of := ⟨_, fun_mk (st := s_table_of) l_table_of c_table_of k_table_of⟩,
      g_is_table_list := PySem.W.mg_of X G a_is_table_list,
      k_is_table_list := k_is_table_list,
      F_is_table_list := ⟨_, fun_mk (st := s_is_table_list) l_is_table_list c_is_table_list k_is_table_list⟩,
      g_total_after := PySem.W.mg_of X G a_total_after,
      k_total_after := k_total_after,
      F_total_after := ⟨_, fun_mk (st := s_total_after) l_total_after c_total_after k_total_after⟩,
      g_spread := PySem.W.mg_of X G a_spread,
      k_spread := k_spread,
      F_spread := ⟨_, fun_mk (st := s_spread) l_spread c_spread k_spread⟩,
      F_Effect___init__ := ⟨_, fun_mk (st := s_Effect___init__) l_Effect___init__ c_Effect___init__ k_Effect___init__⟩,
      F_Effect_of := ⟨_, fun_mk (st := s_Effect_of) l_Effect_of c_Effect_of k_Effect_of⟩,
      F_Effect_breaks := ⟨_, fun_mk (st := s_Effect_breaks) l_Effect_breaks c_Effect_breaks k_Effect_breaks⟩,
      F_Effect_tables := ⟨_, fun_mk (st := s_Effect_tables) l_Effect_tables c_Effect_tables k_Effect_tables⟩,
      F_Effect_need := ⟨_, fun_mk (st := s_Effect_need) l_Effect_need c_Effect_need k_Effect_need⟩,
      F_Effect_table := ⟨_, fun_mk (st := s_Effect_table) l_Effect_table c_Effect_table k_Effect_table⟩,
      F_Effect___eq__ := ⟨_, fun_mk (st := s_Effect___eq__) l_Effect___eq__ c_Effect___eq__ k_Effect___eq__⟩,
      g_least_difference := PySem.W.mg_of X G a_least_difference,
      k_least_difference := k_least_difference,
      F_least_difference := ⟨_, fun_mk (st := s_least_difference) l_least_difference c_least_difference k_least_difference⟩,
      g_first_difference := PySem.W.mg_of X G a_first_difference,
      k_first_difference := k_first_difference,
      F_first_difference := ⟨_, fun_mk (st := s_first_difference) l_first_difference c_first_difference k_first_difference⟩,
      g_separating_list := PySem.W.mg_of X G a_separating_list,
      k_separating_list := k_separating_list,
      F_separating_list := ⟨_, fun_mk (st := s_separating_list) l_separating_list c_separating_list k_separating_list⟩,
      g_is_separating := PySem.W.mg_of X G a_is_separating,
      k_is_separating := k_is_separating,
      F_is_separating := ⟨_, fun_mk (st := s_is_separating) l_is_separating c_is_separating k_is_separating⟩,
      g_law_pool := PySem.W.mg_of X G a_law_pool,
      k_law_pool := k_law_pool,
      F_law_pool := ⟨_, fun_mk (st := s_law_pool) l_law_pool c_law_pool k_law_pool⟩,
      g_law_take := PySem.W.mg_of X G a_law_take,
      k_law_take := k_law_take,
      F_law_take := ⟨_, fun_mk (st := s_law_take) l_law_take c_law_take k_law_take⟩,
      g_law_steps := PySem.W.mg_of X G a_law_steps,
      k_law_steps := k_law_steps,
      F_law_steps := ⟨_, fun_mk (st := s_law_steps) l_law_steps c_law_steps k_law_steps⟩,
      g_law_made := PySem.W.mg_of X G a_law_made,
      k_law_made := k_law_made,
      F_law_made := ⟨_, fun_mk (st := s_law_made) l_law_made c_law_made k_law_made⟩,
      g_law_run := PySem.W.mg_of X G a_law_run,
      k_law_run := k_law_run,
      F_law_run := ⟨_, fun_mk (st := s_law_run) l_law_run c_law_run k_law_run⟩,
      g_law_lists := PySem.W.mg_of X G a_law_lists,
      k_law_lists := k_law_lists,
      F_law_lists := ⟨_, fun_mk (st := s_law_lists) l_law_lists c_law_lists k_law_lists⟩,
      g_law_drawn_right := PySem.W.mg_of X G a_law_drawn_right,
      k_law_drawn_right := k_law_drawn_right,
      F_law_drawn_right := ⟨_, fun_mk (st := s_law_drawn_right) l_law_drawn_right c_law_drawn_right k_law_drawn_right⟩,
      g_law_right := PySem.W.mg_of X G a_law_right,
      k_law_right := k_law_right,
      F_law_right := ⟨_, fun_mk (st := s_law_right) l_law_right c_law_right k_law_right⟩,
      g_law := PySem.W.mg_of X G a_law,
      k_law := k_law,
      F_law := ⟨_, fun_mk (st := s_law) l_law c_law k_law⟩,
      g_RankError := PySem.W.mg_of X G a_RankError,
      g_Sequence := PySem.W.mg_of X G a_Sequence,
      p_steps := ⟨pat_steps, get_steps, tak_steps, ⟨_, rec_steps⟩⟩,
      sta_is_step := ⟨cls_is_step, ⟨_, rec_is_step⟩, k_Sequence_is_step⟩,
      sti_is_step := ⟨pg_Sequence, ic_Sequence, at_is_step, sty_is_step, get_is_step, tak_is_step, by decide +kernel, ⟨_, rec_is_step⟩, k_Sequence_is_step⟩,
      rd_Sequence := ⟨rds_Sequence, rga_Sequence⟩,
      g_Table := PySem.W.mg_of X G a_Table,
      p_start := ⟨pat_start, get_start, tak_start, ⟨_, rec_start⟩⟩,
      p_lost := ⟨pat_lost, get_lost, tak_lost, ⟨_, rec_lost⟩⟩,
      g_Effect := PySem.W.mg_of X G a_Effect,
      p_breaks := ⟨pat_breaks, get_breaks, tak_breaks, ⟨_, rec_breaks⟩⟩,
      p_tables := ⟨pat_tables, get_tables, tak_tables, ⟨_, rec_tables⟩⟩,
      p_need := ⟨pat_need, get_need, tak_need, ⟨_, rec_need⟩⟩,
      m_table := ⟨at_Effect_table, f_Effect_table, k_Effect_table⟩,
      cm_of := ⟨cls_of, ⟨_, rec_of⟩, fi_of⟩,
      ci_of := ⟨pg_Effect, ic_Effect, at_of, sty_of, get_of, tak_of, by decide +kernel, ⟨_, rec_of⟩, fi_of⟩,
      rd_Effect := ⟨rds_Effect, rga_Effect⟩,
      b_type := PySem.W.mg_none_of X G z_type,
      b_int := PySem.W.mg_none_of X G z_int,
      b_list := PySem.W.mg_none_of X G z_list,
      b_tuple := PySem.W.mg_none_of X G z_tuple,
      b_str := PySem.W.mg_none_of X G z_str,
      b_len := PySem.W.mg_none_of X G z_len,
      b_isinstance := PySem.W.mg_none_of X G z_isinstance,
      b_abs := PySem.W.mg_none_of X G z_abs,
      b_max := PySem.W.mg_none_of X G z_max,
      b_min := PySem.W.mg_none_of X G z_min,
      b_range := PySem.W.mg_none_of X G z_range,
      b_all := PySem.W.mg_none_of X G z_all,
      b_zip := PySem.W.mg_none_of X G z_zip,
      b_sorted := PySem.W.mg_none_of X G z_sorted,
      b_set := PySem.W.mg_none_of X G z_set,
      b_enumerate := PySem.W.mg_none_of X G z_enumerate,
      b_bool := PySem.W.mg_none_of X G z_bool,
      b_dict := PySem.W.mg_none_of X G z_dict,
      b_any := PySem.W.mg_none_of X G z_any,
      b_repr := PySem.W.mg_none_of X G z_repr,
      n_steps := n_steps,
      cl_S := ⟨pg_Sequence, hd_Sequence, po_Sequence, sa_Sequence⟩,
      M_Sequence := ⟨mkI_Sequence, at_Sequence___init__, f_Sequence___init__, kc_Sequence⟩,
      isi_S := ⟨⟨pg_Sequence, hd_Sequence, po_Sequence, sa_Sequence⟩, ha_Sequence, hn, htk, hm_Sequence, kit_self⟩,
      ty_Sequence := ty_Sequence,
      sf_S := sf_S,
      addA_S := at_Sequence___add__,
      addF_S := f_Sequence___add__,
      n_start := n_start,
      n_lost := n_lost,
      cl_T := ⟨pg_Table, hd_Table, po_Table, sa_Table⟩,
      M_Table := ⟨mkI_Table, at_Table___init__, f_Table___init__, kc_Table⟩,
      isi_T := ⟨⟨pg_Table, hd_Table, po_Table, sa_Table⟩, ha_Table, hn, htk, hm_Table, kit_self⟩,
      ty_Table := ty_Table,
      eqA_T := at_Table___eq__,
      eqF_T := f_Table___eq__,
      neA_T := neA_T,
      sub_T := sub_T,
      callO_T := ⟨at_Table___call__, f_Table___call__, fic_T⟩,
      n_breaks := n_breaks,
      n_tables := n_tables,
      cl_E := ⟨pg_Effect, hd_Effect, po_Effect, sa_Effect⟩,
      M_Effect := ⟨mkI_Effect, at_Effect___init__, f_Effect___init__, kc_Effect⟩,
      isi_E := ⟨⟨pg_Effect, hd_Effect, po_Effect, sa_Effect⟩, ha_Effect, hn, htk, hm_Effect, kit_self⟩,
      ty_Effect := ty_Effect,
      eqA_E := at_Effect___eq__,
      eqF_E := f_Effect___eq__,
      neA_E := neA_E,
      sub_E := sub_E,
      i_MOST := ⟨_, PySem.W.mg_of X G a_MOST⟩ }
  exact fun base _ _ => ok_law T (fun_mk (st := s_law) l_law c_law k_law)
theorem walk {l : PySem.W.OpenLaw} {q : Program} {loose : List Str} {XP : (Str → Option Value) → Heap → Prop} {YP : World → Heap → Prop} {d : DefRec} {K : Params → PySem.W.Frag} (hn : l.most = some 63) (hdf : d.params.defaults = [])
    (hY : ∀ (w : World) (h : Heap), YP w h → (K w.params).In h)
    (F : ∀ (w : World) (mg : Str → Option Value) (fa : Addr) (h : Heap), (K w.params).In h → h.Ns mainGlobals mg → mg d.name = some (.ref fa) →
      ∀ base : Heap, (K w.params).In base → base.Ns mainGlobals mg → FnG l.prog w (K w.params) mg base CX0 15 fa (spLaw (K w.params))) :
    PySem.W.WalkO q loose XP YP l.row.toRowW d [] (fun f vs => PySem.call f vs) :=
  walkG (n := 63) (k := 15) (CX := fun _ => CX0) (sp := fun w => spLaw (K w.params)) hn (by decide) hdf ⟨rfl, by decide, by decide⟩ hY F (fun _ _ a ns hl _ hS => ⟨a, ns, rfl, hS, hl, fun _ => rfl⟩) fun _ _ _ _ _ z => z
end
end K13
open PySem PySem.W PyProof.Rows
set_option maxRecDepth 100000 in
set_option maxHeartbeats 0 in
theorem PySem.Challenge.cw_rankeffect_k13_whole_separating_lists_holds : PySem.Challenge.rw_rankeffect_k13_whole_separating_lists.Holds := by
  w_on; o_law; k_head; (case hw => w_witness2)
  k_fill
  refine K13.walk (l := PySem.Challenge.rw_rankeffect_k13_whole_separating_lists) rfl rfl (fun w h Y => PySem.W.kIn_of Y) ?F
  case F =>
    intro w mg fa h KX G hmg
    refine' K13.all_mk KX G hmg ?a_is_integer ?a_is_count ?a_is_rank ?a_is_number_list ?a_is_ascending ?a_is_rank_list ?a_ascending ?a_how_many_up_to ?a_mapped ?a_kept_rank ?a_united ?a_below_all ?a_table_at ?a_table_of ?a_is_table_list ?a_total_after ?a_spread ?a_least_difference ?a_first_difference ?a_separating_list ?a_is_separating ?a_law_pool ?a_law_take ?a_law_steps ?a_law_made ?a_law_run ?a_law_lists ?a_law_drawn_right ?a_law_right ?a_law ?a_RankError ?a_Sequence ?at_Sequence___init__ ?f_Sequence___init__ ?at_Sequence___add__ ?f_Sequence___add__ ?pat_steps ?rec_steps ?get_steps ?tak_steps ?at_is_step ?rec_is_step ?sty_is_step ?get_is_step ?tak_is_step ?cls_is_step ?rds_Sequence ?rga_Sequence ?a_Table ?at_Table___init__ ?f_Table___init__ ?at_Table___call__ ?f_Table___call__ ?at_Table___eq__ ?f_Table___eq__ ?pat_start ?rec_start ?get_start ?tak_start ?pat_lost ?rec_lost ?get_lost ?tak_lost ?a_Effect ?at_Effect___init__ ?f_Effect___init__ ?at_Effect_table ?f_Effect_table ?at_Effect___eq__ ?f_Effect___eq__ ?pat_breaks ?rec_breaks ?get_breaks ?tak_breaks ?pat_tables ?rec_tables ?get_tables ?tak_tables ?pat_need ?rec_need ?get_need ?tak_need ?at_of ?rec_of ?sty_of ?get_of ?tak_of ?cls_of ?fi_of ?rds_Effect ?rga_Effect ?z_type ?z_int ?z_list ?z_tuple ?z_str ?z_len ?z_isinstance ?z_abs ?z_max ?z_min ?z_range ?z_all ?z_zip ?z_sorted ?z_set ?z_enumerate ?z_bool ?z_dict ?z_any ?z_repr ?l_is_integer ?c_is_integer ?k_is_integer ?l_is_count ?c_is_count ?k_is_count ?l_is_rank ?c_is_rank ?k_is_rank ?l_is_number_list ?c_is_number_list ?k_is_number_list ?l_is_ascending ?c_is_ascending ?k_is_ascending ?l_is_rank_list ?c_is_rank_list ?k_is_rank_list ?l_ascending ?c_ascending ?k_ascending ?l_Sequence___init__ ?c_Sequence___init__ ?k_Sequence___init__ ?l_Sequence_is_step ?c_Sequence_is_step ?k_Sequence_is_step ?l_Sequence_steps ?c_Sequence_steps ?k_Sequence_steps ?l_Sequence___add__ ?c_Sequence___add__ ?k_Sequence___add__ ?l_how_many_up_to ?c_how_many_up_to ?k_how_many_up_to ?l_mapped ?c_mapped ?k_mapped ?l_kept_rank ?c_kept_rank ?k_kept_rank ?l_Table___init__ ?c_Table___init__ ?k_Table___init__ ?l_Table_start ?c_Table_start ?k_Table_start ?l_Table_lost ?c_Table_lost ?k_Table_lost ?l_Table___call__ ?c_Table___call__ ?k_Table___call__ ?l_Table___eq__ ?c_Table___eq__ ?k_Table___eq__ ?l_united ?c_united ?k_united ?l_below_all ?c_below_all ?k_below_all ?l_table_at ?c_table_at ?k_table_at ?l_table_of ?c_table_of ?k_table_of ?l_is_table_list ?c_is_table_list ?k_is_table_list ?l_total_after ?c_total_after ?k_total_after ?l_spread ?c_spread ?k_spread ?l_Effect___init__ ?c_Effect___init__ ?k_Effect___init__ ?l_Effect_of ?c_Effect_of ?k_Effect_of ?l_Effect_breaks ?c_Effect_breaks ?k_Effect_breaks ?l_Effect_tables ?c_Effect_tables ?k_Effect_tables ?l_Effect_need ?c_Effect_need ?k_Effect_need ?l_Effect_table ?c_Effect_table ?k_Effect_table ?l_Effect___eq__ ?c_Effect___eq__ ?k_Effect___eq__ ?l_least_difference ?c_least_difference ?k_least_difference ?l_first_difference ?c_first_difference ?k_first_difference ?l_separating_list ?c_separating_list ?k_separating_list ?l_is_separating ?c_is_separating ?k_is_separating ?l_law_pool ?c_law_pool ?k_law_pool ?l_law_take ?c_law_take ?k_law_take ?l_law_steps ?c_law_steps ?k_law_steps ?l_law_made ?c_law_made ?k_law_made ?l_law_run ?c_law_run ?k_law_run ?l_law_lists ?c_law_lists ?k_law_lists ?l_law_drawn_right ?c_law_drawn_right ?k_law_drawn_right ?l_law_right ?c_law_right ?k_law_right ?l_law ?c_law ?k_law ?hn ?htk ?pg_Sequence ?hd_Sequence ?po_Sequence ?sa_Sequence ?mkI_Sequence ?kc_Sequence ?ha_Sequence ?hm_Sequence ?ic_Sequence ?ty_Sequence ?n_steps ?sf_S ?pg_Table ?hd_Table ?po_Table ?sa_Table ?mkI_Table ?kc_Table ?ha_Table ?hm_Table ?ic_Table ?ty_Table ?n_start ?n_lost ?neA_T ?sub_T ?fic_T ?pg_Effect ?hd_Effect ?po_Effect ?sa_Effect ?mkI_Effect ?kc_Effect ?ha_Effect ?hm_Effect ?ic_Effect ?ty_Effect ?n_breaks ?n_tables ?neA_E ?sub_E ?a_MOST
    (case a_is_integer => first | k_is | rfl)
    (case a_is_count => first | k_is | rfl)
    (case a_is_rank => first | k_is | rfl)
    (case a_is_number_list => first | k_is | rfl)
    (case a_is_ascending => first | k_is | rfl)
    (case a_is_rank_list => first | k_is | rfl)
    (case a_ascending => first | k_is | rfl)
    (case a_how_many_up_to => first | k_is | rfl)
    (case a_mapped => first | k_is | rfl)
    (case a_kept_rank => first | k_is | rfl)
    (case a_united => first | k_is | rfl)
    (case a_below_all => first | k_is | rfl)
    (case a_table_at => first | k_is | rfl)
    (case a_table_of => first | k_is | rfl)
    (case a_is_table_list => first | k_is | rfl)
    (case a_total_after => first | k_is | rfl)
    (case a_spread => first | k_is | rfl)
    (case a_least_difference => first | k_is | rfl)
    (case a_first_difference => first | k_is | rfl)
    (case a_separating_list => first | k_is | rfl)
    (case a_is_separating => first | k_is | rfl)
    (case a_law_pool => first | k_is | rfl)
    (case a_law_take => first | k_is | rfl)
    (case a_law_steps => first | k_is | rfl)
    (case a_law_made => first | k_is | rfl)
    (case a_law_run => first | k_is | rfl)
    (case a_law_lists => first | k_is | rfl)
    (case a_law_drawn_right => first | k_is | rfl)
    (case a_law_right => first | k_is | rfl)
    (case a_law => first | k_is | rfl)
    (case a_RankError => first | k_is | rfl)
    (case a_Sequence => first | k_is | rfl)
    (case at_Sequence___init__ => first | k_is | rfl)
    (case f_Sequence___init__ => first | k_is | rfl)
    (case at_Sequence___add__ => first | k_is | rfl)
    (case f_Sequence___add__ => first | k_is | rfl)
    (case pat_steps => first | k_is | rfl)
    (case rec_steps => first | k_is | rfl)
    (case get_steps => first | k_is | rfl)
    (case tak_steps => first | k_is | rfl)
    (case at_is_step => first | k_is | rfl)
    (case rec_is_step => first | k_is | rfl)
    (case sty_is_step => first | k_is | rfl)
    (case get_is_step => first | k_is | rfl)
    (case tak_is_step => first | k_is | rfl)
    (case cls_is_step => first | k_is | rfl)
    (case rds_Sequence => first | k_is | rfl)
    (case rga_Sequence => first | k_is | rfl)
    (case a_Table => first | k_is | rfl)
    (case at_Table___init__ => first | k_is | rfl)
    (case f_Table___init__ => first | k_is | rfl)
    (case at_Table___call__ => first | k_is | rfl)
    (case f_Table___call__ => first | k_is | rfl)
    (case at_Table___eq__ => first | k_is | rfl)
    (case f_Table___eq__ => first | k_is | rfl)
    (case pat_start => first | k_is | rfl)
    (case rec_start => first | k_is | rfl)
    (case get_start => first | k_is | rfl)
    (case tak_start => first | k_is | rfl)
    (case pat_lost => first | k_is | rfl)
    (case rec_lost => first | k_is | rfl)
    (case get_lost => first | k_is | rfl)
    (case tak_lost => first | k_is | rfl)
    (case a_Effect => first | k_is | rfl)
    (case at_Effect___init__ => first | k_is | rfl)
    (case f_Effect___init__ => first | k_is | rfl)
    (case at_Effect_table => first | k_is | rfl)
    (case f_Effect_table => first | k_is | rfl)
    (case at_Effect___eq__ => first | k_is | rfl)
    (case f_Effect___eq__ => first | k_is | rfl)
    (case pat_breaks => first | k_is | rfl)
    (case rec_breaks => first | k_is | rfl)
    (case get_breaks => first | k_is | rfl)
    (case tak_breaks => first | k_is | rfl)
    (case pat_tables => first | k_is | rfl)
    (case rec_tables => first | k_is | rfl)
    (case get_tables => first | k_is | rfl)
    (case tak_tables => first | k_is | rfl)
    (case pat_need => first | k_is | rfl)
    (case rec_need => first | k_is | rfl)
    (case get_need => first | k_is | rfl)
    (case tak_need => first | k_is | rfl)
    (case at_of => first | k_is | rfl)
    (case rec_of => first | k_is | rfl)
    (case sty_of => first | k_is | rfl)
    (case get_of => first | k_is | rfl)
    (case tak_of => first | k_is | rfl)
    (case cls_of => first | k_is | rfl)
    (case fi_of => first | k_is | rfl)
    (case rds_Effect => first | k_is | rfl)
    (case rga_Effect => first | k_is | rfl)
    (case z_type => first | k_is | rfl)
    (case z_int => first | k_is | rfl)
    (case z_list => first | k_is | rfl)
    (case z_tuple => first | k_is | rfl)
    (case z_str => first | k_is | rfl)
    (case z_len => first | k_is | rfl)
    (case z_isinstance => first | k_is | rfl)
    (case z_abs => first | k_is | rfl)
    (case z_max => first | k_is | rfl)
    (case z_min => first | k_is | rfl)
    (case z_range => first | k_is | rfl)
    (case z_all => first | k_is | rfl)
    (case z_zip => first | k_is | rfl)
    (case z_sorted => first | k_is | rfl)
    (case z_set => first | k_is | rfl)
    (case z_enumerate => first | k_is | rfl)
    (case z_bool => first | k_is | rfl)
    (case z_dict => first | k_is | rfl)
    (case z_any => first | k_is | rfl)
    (case z_repr => first | k_is | rfl)
    (case l_is_integer => first | k_is | rfl)
    (case c_is_integer => first | k_is | rfl)
    (case k_is_integer => first | k_is | rfl)
    (case l_is_count => first | k_is | rfl)
    (case c_is_count => first | k_is | rfl)
    (case k_is_count => first | k_is | rfl)
    (case l_is_rank => first | k_is | rfl)
    (case c_is_rank => first | k_is | rfl)
    (case k_is_rank => first | k_is | rfl)
    (case l_is_number_list => first | k_is | rfl)
    (case c_is_number_list => first | k_is | rfl)
    (case k_is_number_list => first | k_is | rfl)
    (case l_is_ascending => first | k_is | rfl)
    (case c_is_ascending => first | k_is | rfl)
    (case k_is_ascending => first | k_is | rfl)
    (case l_is_rank_list => first | k_is | rfl)
    (case c_is_rank_list => first | k_is | rfl)
    (case k_is_rank_list => first | k_is | rfl)
    (case l_ascending => first | k_is | rfl)
    (case c_ascending => first | k_is | rfl)
    (case k_ascending => first | k_is | rfl)
    (case l_Sequence___init__ => first | k_is | rfl)
    (case c_Sequence___init__ => first | k_is | rfl)
    (case k_Sequence___init__ => first | k_is | rfl)
    (case l_Sequence_is_step => first | k_is | rfl)
    (case c_Sequence_is_step => first | k_is | rfl)
    (case k_Sequence_is_step => first | k_is | rfl)
    (case l_Sequence_steps => first | k_is | rfl)
    (case c_Sequence_steps => first | k_is | rfl)
    (case k_Sequence_steps => first | k_is | rfl)
    (case l_Sequence___add__ => first | k_is | rfl)
    (case c_Sequence___add__ => first | k_is | rfl)
    (case k_Sequence___add__ => first | k_is | rfl)
    (case l_how_many_up_to => first | k_is | rfl)
    (case c_how_many_up_to => first | k_is | rfl)
    (case k_how_many_up_to => first | k_is | rfl)
    (case l_mapped => first | k_is | rfl)
    (case c_mapped => first | k_is | rfl)
    (case k_mapped => first | k_is | rfl)
    (case l_kept_rank => first | k_is | rfl)
    (case c_kept_rank => first | k_is | rfl)
    (case k_kept_rank => first | k_is | rfl)
    (case l_Table___init__ => first | k_is | rfl)
    (case c_Table___init__ => first | k_is | rfl)
    (case k_Table___init__ => first | k_is | rfl)
    (case l_Table_start => first | k_is | rfl)
    (case c_Table_start => first | k_is | rfl)
    (case k_Table_start => first | k_is | rfl)
    (case l_Table_lost => first | k_is | rfl)
    (case c_Table_lost => first | k_is | rfl)
    (case k_Table_lost => first | k_is | rfl)
    (case l_Table___call__ => first | k_is | rfl)
    (case c_Table___call__ => first | k_is | rfl)
    (case k_Table___call__ => first | k_is | rfl)
    (case l_Table___eq__ => first | k_is | rfl)
    (case c_Table___eq__ => first | k_is | rfl)
    (case k_Table___eq__ => first | k_is | rfl)
    (case l_united => first | k_is | rfl)
    (case c_united => first | k_is | rfl)
    (case k_united => first | k_is | rfl)
    (case l_below_all => first | k_is | rfl)
    (case c_below_all => first | k_is | rfl)
    (case k_below_all => first | k_is | rfl)
    (case l_table_at => first | k_is | rfl)
    (case c_table_at => first | k_is | rfl)
    (case k_table_at => first | k_is | rfl)
    (case l_table_of => first | k_is | rfl)
    (case c_table_of => first | k_is | rfl)
    (case k_table_of => first | k_is | rfl)
    (case l_is_table_list => first | k_is | rfl)
    (case c_is_table_list => first | k_is | rfl)
    (case k_is_table_list => first | k_is | rfl)
    (case l_total_after => first | k_is | rfl)
    (case c_total_after => first | k_is | rfl)
    (case k_total_after => first | k_is | rfl)
    (case l_spread => first | k_is | rfl)
    (case c_spread => first | k_is | rfl)
    (case k_spread => first | k_is | rfl)
    (case l_Effect___init__ => first | k_is | rfl)
    (case c_Effect___init__ => first | k_is | rfl)
    (case k_Effect___init__ => first | k_is | rfl)
    (case l_Effect_of => first | k_is | rfl)
    (case c_Effect_of => first | k_is | rfl)
    (case k_Effect_of => first | k_is | rfl)
    (case l_Effect_breaks => first | k_is | rfl)
    (case c_Effect_breaks => first | k_is | rfl)
    (case k_Effect_breaks => first | k_is | rfl)
    (case l_Effect_tables => first | k_is | rfl)
    (case c_Effect_tables => first | k_is | rfl)
    (case k_Effect_tables => first | k_is | rfl)
    (case l_Effect_need => first | k_is | rfl)
    (case c_Effect_need => first | k_is | rfl)
    (case k_Effect_need => first | k_is | rfl)
    (case l_Effect_table => first | k_is | rfl)
    (case c_Effect_table => first | k_is | rfl)
    (case k_Effect_table => first | k_is | rfl)
    (case l_Effect___eq__ => first | k_is | rfl)
    (case c_Effect___eq__ => first | k_is | rfl)
    (case k_Effect___eq__ => first | k_is | rfl)
    (case l_least_difference => first | k_is | rfl)
    (case c_least_difference => first | k_is | rfl)
    (case k_least_difference => first | k_is | rfl)
    (case l_first_difference => first | k_is | rfl)
    (case c_first_difference => first | k_is | rfl)
    (case k_first_difference => first | k_is | rfl)
    (case l_separating_list => first | k_is | rfl)
    (case c_separating_list => first | k_is | rfl)
    (case k_separating_list => first | k_is | rfl)
    (case l_is_separating => first | k_is | rfl)
    (case c_is_separating => first | k_is | rfl)
    (case k_is_separating => first | k_is | rfl)
    (case l_law_pool => first | k_is | rfl)
    (case c_law_pool => first | k_is | rfl)
    (case k_law_pool => first | k_is | rfl)
    (case l_law_take => first | k_is | rfl)
    (case c_law_take => first | k_is | rfl)
    (case k_law_take => first | k_is | rfl)
    (case l_law_steps => first | k_is | rfl)
    (case c_law_steps => first | k_is | rfl)
    (case k_law_steps => first | k_is | rfl)
    (case l_law_made => first | k_is | rfl)
    (case c_law_made => first | k_is | rfl)
    (case k_law_made => first | k_is | rfl)
    (case l_law_run => first | k_is | rfl)
    (case c_law_run => first | k_is | rfl)
    (case k_law_run => first | k_is | rfl)
    (case l_law_lists => first | k_is | rfl)
    (case c_law_lists => first | k_is | rfl)
    (case k_law_lists => first | k_is | rfl)
    (case l_law_drawn_right => first | k_is | rfl)
    (case c_law_drawn_right => first | k_is | rfl)
    (case k_law_drawn_right => first | k_is | rfl)
    (case l_law_right => first | k_is | rfl)
    (case c_law_right => first | k_is | rfl)
    (case k_law_right => first | k_is | rfl)
    (case l_law => first | k_is | rfl)
    (case c_law => first | k_is | rfl)
    (case k_law => first | k_is | rfl)
    (case hn => first | k_is | rfl)
    (case htk => first | k_is | rfl)
    (case pg_Sequence => first | k_is | rfl)
    (case hd_Sequence => first | k_is | rfl)
    (case po_Sequence => first | k_is | rfl)
    (case sa_Sequence => first | k_is | rfl)
    (case mkI_Sequence => first | k_is | rfl)
    (case kc_Sequence => first | k_is | rfl)
    (case ha_Sequence => first | k_is | rfl)
    (case hm_Sequence => first | k_is | rfl)
    (case ic_Sequence => first | k_is | rfl)
    (case ty_Sequence => first | k_is | rfl)
    (case n_steps => first | k_is | rfl)
    (case sf_S => first | k_is | rfl)
    (case pg_Table => first | k_is | rfl)
    (case hd_Table => first | k_is | rfl)
    (case po_Table => first | k_is | rfl)
    (case sa_Table => first | k_is | rfl)
    (case mkI_Table => first | k_is | rfl)
    (case kc_Table => first | k_is | rfl)
    (case ha_Table => first | k_is | rfl)
    (case hm_Table => first | k_is | rfl)
    (case ic_Table => first | k_is | rfl)
    (case ty_Table => first | k_is | rfl)
    (case n_start => first | k_is | rfl)
    (case n_lost => first | k_is | rfl)
    (case neA_T => first | k_is | rfl)
    (case sub_T => first | k_is | rfl)
    (case fic_T => first | k_is | rfl)
    (case pg_Effect => first | k_is | rfl)
    (case hd_Effect => first | k_is | rfl)
    (case po_Effect => first | k_is | rfl)
    (case sa_Effect => first | k_is | rfl)
    (case mkI_Effect => first | k_is | rfl)
    (case kc_Effect => first | k_is | rfl)
    (case ha_Effect => first | k_is | rfl)
    (case hm_Effect => first | k_is | rfl)
    (case ic_Effect => first | k_is | rfl)
    (case ty_Effect => first | k_is | rfl)
    (case n_breaks => first | k_is | rfl)
    (case n_tables => first | k_is | rfl)
    (case neA_E => first | k_is | rfl)
    (case sub_E => first | k_is | rfl)
    (case a_MOST => first | k_is | rfl)
