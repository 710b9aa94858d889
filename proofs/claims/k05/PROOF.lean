import PyProof.Rows.All
import Wide.All
import OpenK.AllK
import Wide.FinOn
import HandS.ForMost
import HandS.ForExc
import HandS.Star
import HandS.SlotsOwn
import HandS.Zip
import HandS.SortInts
import HandS.Property
import HandS.TupAny
import HandS.IsInst
import PyProof.LongRange
import PyProof.FactsAll.object_2
import KE.GoesMore
import KE.GoesEnum
import HandS.Iter
import PyProof.TypeEq
import HandS.Codes
import HandS.NoneIn
import KE.KEqSeq
import HandS.ExcInit
import HandS.ExcField
import HandS.ExcIs
import HandS.WordsExc
import HandS.TryMany
import PyProof.ReprRoads
import HandS.Ends
import KE.KExcIs
import HandS.Style
import HandS.Dict
import PyProof.P3Eq
import PySem.Challenge.RW_rankeffect_k05_tables_of_counts
set_option Elab.async false
set_option linter.all false
set_option maxRecDepth 100000
set_option maxHeartbeats 4000000
namespace XT
open PySem PySem.Spec PyProof.Rows L2

section
variable {prog : Program} {w : World} {A : Around} {E : Value → Shared → Prop} {s : Shared} {K : PySem.W.Frag} {x C f : Addr} {ox : Obj} {od : Option Obj}
/-- the answer of an own __ne__ that is the object's: an own __eq__ is asked -/
theorem ne_body {y : Value} {R : Fin → Shared → Prop} (hu : A.units < cLine) (X : K.In s.heap) (I : PySem.W.InstAt s.heap x ox C od)
    (hs : PySem.W.findIn K (.ref C) "__eq__" = some (some (.ref f))) (hf : PySem.W.isFn K (.ref f) = true)
    (h : wpAny (model prog w) A (call (.ref f) [.ref x, y]) (fun r s1 => ∃ b, r = Value.bool b ∧ R (.done (.ret (.bool (!b)))) s1) E s) :
    wpAny (model prog w) A (Builtin.«object.__ne__» ⟨[.ref x, y], []⟩) R E s := by
  unfold Builtin.«object.__ne__»
  refine wpAny_bind (m := slotArgs "__ne__" 1 ⟨[.ref x, y], []⟩) (wpAny_pure ?_)
  dsimp only
  refine wpAny_bind (wpAny_cRoomFor hu ?_)
  refine wpAny_bind (m := callSpecialIfBound? (.ref x) (Str.ofString "__eq__") [y]) (PySem.W.ifBound_K X I hs hf (wpAny_mono h (fun r s' hr => ?_) fun _ _ e => e))
  obtain ⟨b, rfl, q⟩ := hr
  dsimp only
  refine wpAny_bind (m := truthy (.bool b)) (wpAny_pure ?_)
  exact wpAny_pure q
theorem ne_check {y : Value} {Q : Unit → Shared → Prop} (X : K.In s.heap) (I : PySem.W.InstAt s.heap x ox C od) (hs : PySem.W.subIn K (.ref C) (.type "object") = some true) (h : Q () s) :
    wpAny (model prog w) A (checkBuiltinCall "object.__ne__" ⟨[.ref x, y], []⟩) Q E s := by
  have hk : builtinKind "object.__ne__" = some .slot := by decide +kernel
  have hsp : splitId "object.__ne__" = some ("object", "__ne__") := by decide +kernel
  unfold checkBuiltinCall
  simp only [hk, hsp]
  refine wpAny_bind ?_
  unfold isInstance
  refine wpAny_bind (I.type.here ((PySem.W.looks_subIn X hs).here ?_))
  simp only [Bool.not_true, Bool.false_eq_true, if_false]
  have ha := PySem.F.args_object_ne_2 (.ref x) y
  cases hsig : Manifest.signature? "object.__ne__" with
  | none => exact wpAny_pure h
  | some sig =>
    simp only [argsOk, hsig] at ha
    have h2 : Bind.checkArgs "object.__ne__" sig ⟨[.ref x, y], []⟩ = pure () := ha
    show wpAny _ A (Bind.checkArgs "object.__ne__" sig ⟨[.ref x, y], []⟩) Q E s
    rw [h2]
    exact wpAny_pure h
/-- x != y, the class with an own __eq__ and no own __ne__ -/
theorem ne_own {y tb : Value} {Q : Value → Shared → Prop} (hu : A.units + 1 < cLine) (X : K.In s.heap) (I : PySem.W.InstAt s.heap x ox C od) (hb : PySem.W.Looks (model prog w) s.heap (typeOf y) tb) (hn : PySem.W.notFirst K C tb = true)
    (hne : PySem.W.findIn K (.ref C) "__ne__" = some (some (.builtin "object.__ne__"))) (ho : PySem.W.subIn K (.ref C) (.type "object") = some true)
    (hs : PySem.W.findIn K (.ref C) "__eq__" = some (some (.ref f))) (hf : PySem.W.isFn K (.ref f) = true)
    (h : wpAny (model prog w) A.in1 (call (.ref f) [.ref x, y]) (fun r s1 => ∃ b, r = Value.bool b ∧ Q (.bool (!b)) s1) E s) :
    wpAny (model prog w) A (richCompare .NotEq (.ref x) y) Q E s := by
  have hu0 : A.units < cLine := Nat.lt_of_le_of_lt (Nat.le_succ _) hu
  have run : wpAny (model prog w) A (call (.builtin "object.__ne__") [.ref x, y]) (fun r s1 => ∃ b, r = Value.bool b ∧ Q r s1) E s := by
    refine wpAny_call (codeAny_call_builtin PySem.F.slot_object_ne.plain PySem.F.entry_object_ne (ne_check X I ho ?_))
    refine ne_body (by simpa using hu) X I hs hf (wpAny_mono h (fun r s1 z => ?_) fun _ _ e => e)
    obtain ⟨b, rfl, q⟩ := z
    exact ⟨b, rfl, ⟨_, rfl, q⟩⟩
  have one : wpAny (model prog w) A (tryCompare (.ref x) "__ne__" y) (fun r s' => ∃ v, r = some v ∧ Q v s') E s := by
    unfold tryCompare
    refine wpAny_bind ?_
    simp only [callSpecialIfBound?, bindSpecialIfBound?]
    refine wpAny_holding (wpAny_bind (wpAny_bind (wpAny_bind (I.type.here ((PySem.W.looks_findIn X hne).here ?_)))))
    have fin : wpAny (model prog w) A (call (.builtin "object.__ne__") ([.ref x] ++ [y]) >>= fun v => pure (some v)) (fun r s' => wpAny (model prog w) A (match r with | some .notImplemented | none => pure none | some v => pure (some v)) (fun r s' => ∃ v, r = some v ∧ Q v s') E s') E s := by
      refine wpAny_bind (wpAny_mono run (fun v s' z => ?_) fun _ _ e => e)
      obtain ⟨b, rfl, q⟩ := z
      exact wpAny_pure (wpAny_pure ⟨_, rfl, q⟩)
    refine wpAny_bind (wpAny_askSetting (wpAny_ite ?_))
    split
    · exact wpAny_bind (wpAny_of_eq (PySem.F.slot_object_ne.bind (.ref x)) (wpAny_pure (by exact fin)))
    · exact wpAny_tryCatch (wpAny_bind (wpAny_of_eq (PySem.F.slot_object_ne.bind (.ref x)) (wpAny_pure (by exact fin))))
  unfold richCompare
  simp only [oneThing_ref]
  refine wpAny_holding (wpAny_bind (wpAny_cRoomFor hu0 ?_))
  refine wpAny_bind (I.type.here (wpAny_bind (hb.here ?_)))
  split
  · rename_i q
    have e : PySem.W.subIn K tb (.ref C) = some false := by
      rcases Bool.or_eq_true_iff.mp hn with e | e
      · rw [beq_iff_eq.mp e] at q; simp at q
      · exact beq_iff_eq.mp e
    refine wpAny_bind ((PySem.W.looks_subIn X e).here ?_)
    simp only [Bool.false_eq_true, if_false]
    refine wpAny_bind (wpAny_mono one (fun r s' z => ?_) fun _ _ e => e)
    obtain ⟨v, rfl, hq⟩ := z
    exact wpAny_pure hq
  · refine wpAny_bind (wpAny_pure ?_)
    simp only [Bool.false_eq_true, if_false]
    refine wpAny_bind (wpAny_mono one (fun r s' z => ?_) fun _ _ e => e)
    obtain ⟨v, rfl, hq⟩ := z
    exact wpAny_pure hq
theorem type_bool : isType (.type "bool") = pure true := by first | rfl | kernel_rfl | (unfold isType; rw [isSubtype_type]; kernel_rfl)
/-- bool(x) by an own __bool__ -/
theorem bool_own {Q : Value → Shared → Prop} (X : K.In s.heap) (I : PySem.W.InstAt s.heap x ox C od) (hs : PySem.W.findIn K (.ref C) "__bool__" = some (some (.ref f))) (hf : PySem.W.isFn K (.ref f) = true)
    (h : wpAny (model prog w) A.in1.in1 (call (.ref f) [.ref x]) (fun r s1 => ∃ b, r = Value.bool b ∧ Q r s1) E s) : wpAny (model prog w) A (call (.type "bool") [.ref x]) Q E s := by
  refine callType_codes (T := "bool") (Bi := Builtin.«object.__init__») (Q₁ := fun r s1 => ∃ b, r = Value.bool b ∧ Q r s1) PySem.F.called_bool (PySem.F.typeCall_bool_1 _) PySem.F.entry_object_init ?_ ?_
  · refine codeAny_of_tree ?_
    show wpAny _ A.in1.in1 (do checkBuiltinCall "bool.__new__" ⟨[.type "bool", .ref x], []⟩; again (.builtin "bool.__new__" ⟨[.type "bool", .ref x], []⟩)) _ _ s
    refine wpAny_bind (wpAny_of_eq (PySem.F.newCall_bool_1 _) (wpAny_pure ⟨plainId_quiet (by decide +kernel) _, codeAny_builtin PySem.F.entry_bool_new ?_⟩))
    rw [Around.under_plainId (by decide +kernel) _]
    unfold Builtin.«bool.__new__»
    refine wpAny_bind (wpAny_of_eq (a := true) type_bool ?_)
    refine PySem.W.KFB.if_not rfl ?_
    refine wpAny_bind (wpAny_of_eq (a := true) PySem.F.conv_sub_bool ?_)
    refine PySem.W.KFB.if_not rfl ?_
    refine wpAny_bind (m := someArgs "bool" 0 1 _) (wpAny_of_eq (a := [Value.ref x]) (by first | rfl | kernel_rfl | simp [someArgs]) ?_)
    dsimp only
    refine wpAny_bind (m := truthy (.ref x)) ?_
    unfold truthy
    refine wpAny_bind (m := callSpecial? (.ref x) (Str.ofString "__bool__")) (PySem.W.special_fn X I hs (beq_iff_eq.mp hf) (wpAny_mono h (fun r s' hr => ?_) fun _ _ y => y))
    obtain ⟨b, rfl, hq⟩ := hr
    exact wpAny_pure (wpAny_pure ⟨b, rfl, hq⟩)
  · rintro obj s₁ ⟨b, rfl, hq⟩
    exact ⟨PySem.typeIs_bool _ _, PySem.F.args_object_init_2 _ _, object_init_meets PySem.F.called_bool.init.lookup PySem.F.called_bool.made (by decide) prog w A.in1 _ s₁ ⟨PySem.typeIs_bool _ _, rfl, hq⟩⟩
end
/-! ### operators of instances of own classes -/
/-- an instance of the class at C -/
def InsA (H : Hp) (a C : Addr) : Prop := ∃ dx fs, H a = some (.ins C dx fs)
section
variable {X : Cx} {CX : CXT} {n : Nat} {C g : Addr} {sp : Sp} {E : XK}
theorem insA_at {pins : List (Addr × Obj)} {σ : L2.St} {H : Hp} {s : Shared} {a : Addr} (I : Inv X pins σ H s) (h : InsA H a C) : ∃ ox od, PySem.W.InstAt s.heap a ox C od := by
  obtain ⟨dx, fs, h⟩ := h
  obtain ⟨mA, O, _⟩ := ins_get I.hok h
  obtain ⟨od, J, _⟩ := O.look
  exact ⟨_, _, J⟩
/-- x op y, both instances of the class at C, which has a def for it at g -/
def rOwnB (C : Addr) (sp : Sp) (E : XK) : R2 := fun x y H Q => ∃ a b, x = .ref a ∧ y = .ref b ∧ InsA H a C ∧ InsA H b C ∧ sp [x, y] H Q E
theorem op_ownB {op : Operator} (hc : PySem.W.selfFirst X.K C = true) (hs : PySem.W.findIn X.K (.ref C) (PySem.dunder op.info.2) = some (some (.ref g))) (hf : PySem.W.isFn X.K (.ref g) = true) (F : FnR X.prog X.w X.K X.mg X.base CX n g sp)
    (hr : Room n X.A) (hx : Passes CX X E) : OpR X (binaryOp op) (rOwnB C sp E) := by
  intro pins s σ H x y v u Q I rx ry h
  obtain ⟨a, b, rfl, rfl, ha, hb, q⟩ := h
  cases (show v = Value.ref a from rx)
  cases (show u = Value.ref b from ry)
  obtain ⟨ox, od, J⟩ := insA_at I ha
  obtain ⟨oy, oe, J'⟩ := insA_at I hb
  obtain ⟨m, hF⟩ := I.fr
  refine PySem.W.binop_K (op := op) hF I.ok.mod.kin J J'.type hc hs hf ?_
  refine wpAny_mono (wpAny_call (run_fnR (us := [.ref a, .ref b]) (vs := [.ref a, .ref b]) F hr hx I (.cons rfl (.cons rfl .nil)) q)) (fun w s' z => ?_) fun _ _ x => x
  obtain ⟨z', H', I', rz, qz⟩ := z
  exact SlX.cmpback rz ⟨z', H', I', rz, qz⟩
/-- x == y -/
theorem op_ownE (hs : PySem.W.findIn X.K (.ref C) "__eq__" = some (some (.ref g))) (hf : PySem.W.isFn X.K (.ref g) = true) (F : FnR X.prog X.w X.K X.mg X.base CX n g sp)
    (hr : Room n X.A) (hx : Passes CX X E) : OpR X (compareOp .Eq) (rOwnB C sp E) := by
  intro pins s σ H x y v u Q I rx ry h
  obtain ⟨a, b, rfl, rfl, ha, hb, q⟩ := h
  cases (show v = Value.ref a from rx)
  cases (show u = Value.ref b from ry)
  obtain ⟨ox, od, J⟩ := insA_at I ha
  obtain ⟨oy, oe, J'⟩ := insA_at I hb
  obtain ⟨m, hF⟩ := I.fr
  show wpAny _ _ (richCompare .Eq _ _) _ _ _
  refine PySem.W.cmp_K (op := .Eq) (tb := .ref C) hr.units0 hF I.ok.mod.kin J J'.type (by unfold PySem.W.notFirst; simp) hs hf ?_
  refine wpAny_mono (wpAny_call (run_fnR (us := [.ref a, .ref b]) (vs := [.ref a, .ref b]) F hr hx I (.cons rfl (.cons rfl .nil)) q)) (fun w s' z => ?_) fun _ _ x => x
  obtain ⟨z', H', I', rz, qz⟩ := z
  exact SlX.cmpback rz ⟨z', H', I', rz, qz⟩
/-- x != y, by == -/
def rOwnN (C : Addr) (sp : Sp) (E : XK) : R2 := fun x y H Q => ∃ a b, x = .ref a ∧ y = .ref b ∧ InsA H a C ∧ InsA H b C ∧ sp [x, y] H (fun z H' => ∃ k, z = .bl k ∧ Q (.bl (!k)) H') E
theorem op_ownN (hne : PySem.W.findIn X.K (.ref C) "__ne__" = some (some (.builtin "object.__ne__"))) (ho : PySem.W.subIn X.K (.ref C) (.type "object") = some true)
    (hs : PySem.W.findIn X.K (.ref C) "__eq__" = some (some (.ref g))) (hf : PySem.W.isFn X.K (.ref g) = true) (F : FnR X.prog X.w X.K X.mg X.base CX n g sp)
    (hr : Room (n + 1) X.A) (hx : Passes CX X E) : OpR X (compareOp .NotEq) (rOwnN C sp E) := by
  intro pins s σ H x y v u Q I rx ry h
  obtain ⟨a, b, rfl, rfl, ha, hb, q⟩ := h
  cases (show v = Value.ref a from rx)
  cases (show u = Value.ref b from ry)
  obtain ⟨ox, od, J⟩ := insA_at I ha
  obtain ⟨oy, oe, J'⟩ := insA_at I hb
  show wpAny _ _ (richCompare .NotEq _ _) _ _ _
  refine ne_own (tb := .ref C) (by have := hr.units; omega) I.kIn J J'.type (by unfold PySem.W.notFirst; simp) hne ho hs hf ?_
  refine wpAny_mono (wpAny_call (SlX.run_at (us := [.ref a, .ref b]) (ws := [.ref a, .ref b]) F hr.in1 I.env0.in1 hx I (.cons rfl (.cons rfl .nil)) q)) (fun w s' z => ?_) fun _ _ x => x
  obtain ⟨z', H', I', rz, k, rfl, qz⟩ := z
  cases (show w = Value.bool k from rz)
  exact ⟨k, rfl, .bl (!k), H', I', rfl, qz⟩
/-- bool(x) -/
def rBoolO (C : Addr) (sp : Sp) (E : XK) : List V → Hp → VK → Prop := fun xs H Q => ∃ a, xs = [V.ref a] ∧ InsA H a C ∧ sp xs H (fun z H' => ∃ k, z = .bl k ∧ Q z H') E
theorem call_boolO (hs : PySem.W.findIn X.K (.ref C) "__bool__" = some (some (.ref g))) (hf : PySem.W.isFn X.K (.ref g) = true) (F : FnR X.prog X.w X.K X.mg X.base CX n g sp) (hr : Room (n + 2) X.A) (hx : Passes CX X E) : CallR X (.type "bool") (rBoolO C sp E) := by
  intro pins s σ H xs us Q I r h
  obtain ⟨a, rfl, ha, q⟩ := h
  obtain ⟨u, rfl, ru⟩ := r.one
  cases (show u = Value.ref a from ru)
  obtain ⟨ox, od, J⟩ := insA_at I ha
  have hr2 : Room n X.A.in1.in1 := (show Room (n + 1) X.A.in1 from Room.in1 hr).in1
  refine bool_own I.kIn J hs hf (wpAny_mono (wpAny_call (SlX.run_at (us := [.ref a]) (ws := [.ref a]) F hr2 I.env0.in1.in1 hx I (.cons rfl .nil) q)) (fun w s' z => ?_) fun _ _ x => x)
  obtain ⟨z', H', I', rz, k, rfl, qz⟩ := z
  cases (show w = Value.bool k from rz)
  exact ⟨k, rfl, .bl k, H', I', rfl, qz⟩
end
end XT

namespace XT
open PySem PySem.Spec PyProof.Rows L2
/-! ### range(a, b) of ints of any size -/
theorem turn_lrange {P : Program} {w : World} {K : PySem.W.Frag} {tg : Expr} (it : Addr) (lo : Int) (n : Nat) : Turn P w K tg (Itr lo n) [it] it (fun i h => IsLongIter h it (lo + (i : Nat) * 1) ((n : Int) - (i : Nat)) 1) where
  mem := by simp
  obj := fun i h st b hb => by
    have e : b = it := by simpa using hb
    subst e
    exact ⟨_, st, fun v z => by
      have z' : Data.fields _ = Data.cell v := z
      cases z'⟩
  keep := fun i h h' st k => k it (by simp) _ st
  item := by
    intro X hP hw hK hc i pins s σ H E I hf st hg
    subst hP hw hK
    obtain ⟨f0, f1, f2, f3, f4, f5⟩ := hf it (by simp)
    have W := Walks.longrange (prog := X.prog) (w := X.w) (I.ok.hd hc) it lo 1 n
    refine W.item i s _ _ hg st fun v h' tk hv st' kk => ?_
    obtain ⟨t, rfl⟩ := hv
    have I1 : Inv X pins σ H { s with heap := h', toks := tk } := I.turned (fun b o hb e => kk b o (by simpa using hb) e) f0 f1 f3 f4 f5
    refine ⟨_, rfl, go_of (s := { s with heap := h', toks := tk }) (n := "longrange_iterator") st' rfl rfl (by decide) ⟨.int (lo + i), H, I1, ⟨t, ?_⟩, ⟨rfl, rfl⟩, st', fun b hb => (hf b hb).1⟩⟩
    rw [Int.mul_one]
  done := by
    intro X hP hw hK hc i pins s σ H E I hf st hg
    subst hP hw hK
    obtain ⟨f0, f1, f2, f3, f4, f5⟩ := hf it (by simp)
    exact wpAny_pyNext_long_end (I.ok.hd hc) st (by have : n ≤ i := hg; omega) fun h' eb => ⟨rfl, I.turned (t' := s.toks) (fun b o hb e => eb b o hb e) f0 f1 f3 f4 f5⟩
  self := fun _ _ _ _ _ st h => wpAny_pyIter_longiter st h
section
variable {X : Cx} {tg : Expr}
theorem lrange_it {pins : List (Addr × Obj)} {σ : L2.St} {H : Hp} {s : Shared} {R : It → Hp → Prop} {E : Value → Shared → Prop} {lo hi : Int} {t u v : Tok} {tk : Nat} (I : Inv X pins σ H s)
    (q : R (Itr lo (hi - lo).toNat) H) : wpAny (model X.prog X.w) X.A (pyIter (.ref s.heap.objs.size)) (PIE X pins σ tg R) E { s with heap := s.heap.push { cls := .type "range", data := .fields #[.int lo t, .int hi u, .int 1 v] }, toks := tk } := by
  have I1 : Inv X pins σ H { s with heap := s.heap.push { cls := .type "range", data := .fields #[.int lo t, .int hi u, .int 1 v] }, toks := tk } := I.kept fun b o e => Heap.get?_push_of_some _ e
  have e1 : lo + ((0 : Nat) : Int) * 1 = lo := by simp
  have e2 : (((hi - lo).toNat : Nat) : Int) - ((0 : Nat) : Int) = Builtin.Range.rangeSize lo hi 1 := by rw [rangeSize_one]; split <;> omega
  have fp : ∀ b ∈ [(s.heap.push { cls := .type "range", data := .fields #[.int lo t, .int hi u, .int 1 v] }).objs.size], FpOk X pins H b := fun b hb => by
    have e : b = (s.heap.push { cls := .type "range", data := .fields #[.int lo t, .int hi u, .int 1 v] }).objs.size := by simpa using hb
    subst e
    exact I1.fpOk (Nat.le_refl _) (I1.hok.fresh (Nat.le_refl _))
  cases hsm : Builtin.Range.small lo hi 1 with
  | true =>
    refine wpAny_pyIter_range (IsRange.new ..) hsm ?_
    refine ⟨(s.heap.push { cls := .type "range", data := .fields #[.int lo t, .int hi u, .int 1 v] }).objs.size, [(s.heap.push { cls := .type "range", data := .fields #[.int lo t, .int hi u, .int 1 v] }).objs.size], _, _, H, rfl,
      I1.kept (t' := tk) fun b o e => Heap.get?_push_of_some _ e, turn_range _ lo (hi - lo).toNat, ?_, fp, q⟩
    show IsRangeIter _ _ (lo + ((0 : Nat) : Int) * 1) ((((hi - lo).toNat : Nat) : Int) - ((0 : Nat) : Int)) 1
    rw [e1, e2]
    exact Heap.get?_push_size _ rfl
  | false =>
    refine wpAny_pyIter_longrange (IsRange.new ..) hsm ?_
    refine ⟨(s.heap.push { cls := .type "range", data := .fields #[.int lo t, .int hi u, .int 1 v] }).objs.size, [(s.heap.push { cls := .type "range", data := .fields #[.int lo t, .int hi u, .int 1 v] }).objs.size], _, _, H, rfl,
      I1.kept (t' := tk) fun b o e => Heap.get?_push_of_some _ e, turn_lrange _ lo (hi - lo).toNat, ?_, fp, q⟩
    show IsLongIter _ _ (lo + ((0 : Nat) : Int) * 1) ((((hi - lo).toNat : Nat) : Int) - ((0 : Nat) : Int)) 1
    rw [e1, e2]
    exact Heap.get?_push_size _ rfl
def iRngW1 (ta : TA) : TI := fun σ H R => ta σ H fun vs H1 => ∃ j : Int, vs = [.int j] ∧ R (Itr 0 j.toNat) H1
def iRngW2 (ta : TA) : TI := fun σ H R => ta σ H fun vs H1 => ∃ i j : Int, vs = [.int i, .int j] ∧ R (Itr i (j - i).toNat) H1
theorem pi_rng1 {a : Expr} {ta : TA} {p pos : Pos} (hg : Gl X "range") (hm : X.mg "range" = none) (ha : PA X [a] ta) (hs : starEach [a] X.env = [(false, eval a X.env)] := by rfl) : PI X tg (.Call (.Name "range" p) [a] [] pos) (iRngW1 ta) := by
  refine ⟨fun pins s σ H R I h => ?_⟩
  refine Call_ (ld_blt I hg hm boot_range (PyProof.Rows.callWith_type1 (thn (ha.run pos pins s σ H _ I h) fun us s1 ⟨vs, H1, I1, r1, q1⟩ => ?_) hs rfl))
  obtain ⟨j, e, q⟩ := q1
  subst e
  cases r1 with
  | cons r rr =>
    cases rr
    obtain ⟨t, rfl⟩ := r
    exact call_range_1 (lrange_it I1 (by simpa using q))
theorem pi_rng2 {a b : Expr} {ta : TA} {p pos : Pos} (hg : Gl X "range") (hm : X.mg "range" = none) (ha : PA X [a, b] ta) (hs : starEach [a, b] X.env = [(false, eval a X.env), (false, eval b X.env)] := by rfl) (hs2 : starEach [b] X.env = [(false, eval b X.env)] := by rfl) :
    PI X tg (.Call (.Name "range" p) [a, b] [] pos) (iRngW2 ta) := by
  refine ⟨fun pins s σ H R I h => ?_⟩
  refine Call_ (ld_blt I hg hm boot_range (PyProof.Rows.callWith_type1 (thn (ha.run pos pins s σ H _ I h) fun us s1 ⟨vs, H1, I1, r1, q1⟩ => ?_) (by rw [hs, hs2]) (by rw [hs2]; rfl)))
  obtain ⟨i, j, e, q⟩ := q1
  subst e
  cases r1 with
  | cons r rr =>
    cases rr with
    | cons r' rr =>
      cases rr
      obtain ⟨t, rfl⟩ := r
      obtain ⟨t', rfl⟩ := r'
      exact call_range_2 (lrange_it I1 q)
end
/-! ### enumerate(tuple) -/
theorem meets_enumerate_newT (l : Addr) (items : Array Value) (n : Nat) (dct : Option Addr) (sl : Array (Option Value)) :
    Meets (Builtin.«enumerate.__new__» ⟨[.type "enumerate", .ref l], []⟩) (fun _ R s => s.heap.get? l = some { cls := .type "tuple", dict := dct, data := .seq items n, slots := sl } ∧
      R (.ok (.ret (.ref (s.heap.push { cls := .type "tuple_iterator", data := .fields #[.ref l, .int 0 0] }).objs.size)))
        { s with heap := (s.heap.push { cls := .type "tuple_iterator", data := .fields #[.ref l, .int 0 0] }).push { cls := .type "enumerate", data := .fields #[.none, .bool false, .ref s.heap.objs.size, rawInt 0, .none, .none] } }) :=
  .of_wp fun prog w A R s h => by
    obtain ⟨hp, g, d, tk, os⟩ := s; obtain ⟨hl, h⟩ := h
    have hsub := sub_enumerate
    have hL : Heap.IsTuple (Shared.heap ⟨hp, g, d, tk, os⟩) l items := ⟨_, hl, rfl, n, rfl⟩
    wp_walk using AutoSeq1.wpAny_loadPart' hl
    refine wpAny_stack_any fun st => wpAny_pure ?_
    split
    · rename_i c _ _ _ _ _
      cases (c == Value.type "enumerate")
      · wp_walk using AutoSeq1.wpAny_loadPart' hl, wpAny_pyIter_tuple hL
        exact ⟨_, rfl, h⟩
      · wp_walk using AutoSeq1.wpAny_loadPart' hl, wpAny_pyIter_tuple hL
        exact ⟨_, rfl, h⟩
    · wp_walk using AutoSeq1.wpAny_loadPart' hl, wpAny_pyIter_tuple hL
      exact ⟨_, rfl, h⟩
theorem call_enumerate_tuple {prog : Program} {w : World} {A : Around} {E : Value → Shared → Prop} {s : Shared} {l : Addr} {items : Array Value} {Q : Value → Shared → Prop} (hL : s.heap.IsTuple l items)
    (h : ∀ h', IsEnum h' (s.heap.objs.size + 1) s.heap.objs.size 0 .none → h'.IsTupleIter s.heap.objs.size l 0 → h'.objs.size = s.heap.objs.size + 2 →
      (∀ b o, s.heap.get? b = some o → h'.get? b = some o) → Q (.ref (s.heap.objs.size + 1)) { s with heap := h' }) :
    wpAny (model prog w) A (call (.type "enumerate") [.ref l]) Q E s := by
  obtain ⟨⟨c, dct, dt, sl⟩, hl, hc, n, hd⟩ := hL
  replace hc : c = .type "tuple" := hc
  replace hd : dt = .seq items n := hd
  subst hc hd
  refine callType_new PySem.F.called_enumerate (by decide) (PySem.F.typeCall_enumerate_1 _) (PySem.F.newCall_enumerate_1 _) (fun obj => PySem.F.args_object_init_2 obj _) PySem.F.entry_enumerate_new
    (meets_enumerate_newT l items n dct sl) ⟨hl, ?_⟩
  have hz : (s.heap.push { cls := .type "tuple_iterator", data := .fields #[.ref l, .int 0 0] }).objs.size = s.heap.objs.size + 1 := Heap.size_push ..
  show _ ∧ _
  rw [hz]
  have he : IsEnum ((s.heap.push { cls := .type "tuple_iterator", data := .fields #[.ref l, .int 0 0] }).push
      { cls := .type "enumerate", data := .fields #[.none, .bool false, .ref s.heap.objs.size, rawInt 0, .none, .none] }) (s.heap.objs.size + 1) s.heap.objs.size 0 .none := by
    have := Heap.get?_push_size (s.heap.push { cls := .type "tuple_iterator", data := .fields #[.ref l, .int 0 0] })
      (o := { cls := .type "enumerate", data := .fields #[.none, .bool false, .ref s.heap.objs.size, rawInt 0, .none, .none] }) rfl
    rw [hz] at this; exact this
  refine ⟨⟨_, he, rfl⟩, h _ he ⟨_, Heap.get?_push_of_some _ (Heap.get?_push_size _ rfl), rfl, rfl⟩ (by rw [Heap.size_push, hz]) fun b o x => Heap.get?_push_of_some _ (Heap.get?_push_of_some _ x)⟩
def IteT (K : PySem.W.Frag) (a : Addr) : It :=
  ⟨fun i H => ∃ (xs : List V) (x : V), SqT K H a xs ∧ xs[i]? = some x, fun i H v H' => ∃ T x, v = .ref T ∧ H T = none ∧ H' = upd H T (.tup [.int (i : Nat), x]) ∧ ∀ xs, SqT K H a xs → xs[i]? = some x, fun i H => ∃ xs : List V, SqT K H a xs ∧ xs.length ≤ i⟩
theorem turn_enumT {P : Program} {w : World} {K : PySem.W.Frag} {elts : List Expr} {kk : Nat} {tpos : Pos} (a e it : Addr) :
    Turn P w K (.Tuple elts kk tpos) (IteT K a) [e, it] e (fun i h => (∃ old, IsEnum h e it ((i : Nat) : Int) old) ∧ h.IsTupleIter it a i ∧ e ≠ it ∧ a ≠ it ∧ a ≠ e) where
  mem := by simp
  obj := fun i h st b hb => by
    obtain ⟨⟨old, he⟩, ⟨o, ho, hc, hd⟩, _⟩ := st
    have e' : b = e ∨ b = it := by simpa using hb
    rcases e' with z | z
    · rw [z]; exact ⟨_, he, fun v q => nomatch q⟩
    · rw [z]; exact ⟨o, ho, fun v q => by rw [hd] at q; cases q⟩
  keep := fun i h h' st k => let ⟨⟨old, he⟩, hi, hne⟩ := st; ⟨⟨old, k e (by simp) _ he⟩, hi.at fun o q => k it (by simp) o q, hne⟩
  item := by
    intro X hP hw hK hc i pins s σ H E I hf st hg
    subst hP hw hK
    obtain ⟨⟨old, he⟩, hit, hne, hai, hae⟩ := st
    obtain ⟨xs, x, hq, hx⟩ := hg
    obtain ⟨its, rv, p, hz⟩ := I.tuple hq
    obtain ⟨u, hu, ru⟩ := rv.get hx
    have hel : e < s.heap.objs.size := Heap.lt_size he
    have hil : it < s.heap.objs.size := by obtain ⟨_, q, _⟩ := hit; exact Heap.lt_size q
    have D := Draws.tuple (prog := X.prog) (w := X.w) (A := X.A.in1) (by have := I.ok.hd hc; simpa using this) it a hai its.toArray
    have hp : s.heap.IsTuple a its.toArray := p
    have hl : i < its.toArray.size := by
      have := (List.getElem?_eq_some_iff.mp hu).1
      simpa using this
    refine wpAny_pyNext_enum_itemD D he ⟨hit, hp⟩ hl hne (by simp [hne, Ne.symm hae]) fun x' h' tk hP ho hSt hT hsz hk => ?_
    have hxu : x' = u := by
      have e1 : its.toArray[i]? = some u := by simpa using hu
      rw [e1] at hP
      exact (Option.some.inj hP).symm
    subst hxu
    refine ⟨_, rfl, wpAny_letOwnedTupleGo_enum (s := { s with heap := h', toks := tk + 1 }) ho fun h'' he' sb => ?_⟩
    have hT2 : h''.get? s.heap.objs.size = some { cls := .type "tuple", data := .seq #[.int i tk, x'] } := (sb.2 _ (Nat.ne_of_gt hel)).trans hT
    have new : ObjOk X.prog X.w (upd H s.heap.objs.size (.tup [.int (i : Nat), x])) h'' s.heap.objs.size (.tup [.int (i : Nat), x]) :=
      ⟨by show 2 ≤ sizeLine; decide, [.int i tk, x'], .cons ⟨_, rfl⟩ (.cons ru .nil), ⟨_, hT2, rfl, _, rfl⟩⟩
    have I1 : Inv X pins σ (upd H s.heap.objs.size (.tup [.int (i : Nat), x])) { s with heap := h'', toks := tk + 1 } :=
      I.turnedNew (ch := [e, it]) (fun b ob hb q => (sb.2 b (fun z => hb (by simp [z]))).trans (hk b ob (fun z => hb (by simp [z])) (fun z => hb (by simp [z])) q)) hf (Nat.le_refl _) new
    refine ⟨.ref s.heap.objs.size, _, I1, rfl, ⟨_, x, rfl, I.hok.fresh (Nat.le_refl _), rfl, fun ys hy => by rw [I.tuple_inj hy hq]; exact hx⟩, ⟨⟨x', ?_⟩, hSt.1.at fun o q => (sb.2 it (Ne.symm hne)).trans q, hne, hai, hae⟩, fun b hb => ?_⟩
    · have e1 : ((i + 1 : Nat) : Int) = (i : Int) + 1 := by omega
      rw [e1]; exact he'
    · have hb' : b < s.heap.objs.size := by
        have e' : b = e ∨ b = it := by simpa using hb
        rcases e' with z | z
        · rw [z]; exact hel
        · rw [z]; exact hil
      rw [upd_ne (Nat.ne_of_lt hb')]
      exact (hf b hb).1
  done := by
    intro X hP hw hK hc i pins s σ H E I hf st hg
    subst hP hw hK
    obtain ⟨⟨old, he⟩, hit, hne, hai, hae⟩ := st
    obtain ⟨xs, hq, hx⟩ := hg
    obtain ⟨its, rv, p, hz⟩ := I.tuple hq
    obtain ⟨f0, f1, f2, f3, f4, f5⟩ := hf it (by simp)
    have hl := rv.length
    have hp : s.heap.IsTuple a its.toArray := p
    have hT : s.TypeIs (.ref e) "enumerate" := ⟨_, he, rfl⟩
    have hh : X.A.handled = none := I.ok.hd hc
    unfold pyNext
    refine wpAny_bind (wpAny_attempt (wpAny_callSpecial?_slot (name := Str.ofString "__next__") hT PySem.F.slot_enumerate_next
      (wpAny_call_entry PySem.F.slot_enumerate_next hT PySem.F.entry_enumerate_next ?_ (PySem.F.args_enumerate_next_1 _))))
    show wpAny _ _ (field (.ref e) 2 >>= _) _ _ _
    refine wpAny_bind (wpAny_field he rfl (x := .ref it) rfl ?_)
    refine wpAny_bind (wpAny_nextOf_tuple_end (by simpa using hh) hit hp (by simp; omega) fun h' x he' hx' => ?_)
    obtain ⟨o, ho, hc⟩ := hx'
    refine wpAny_bind (wpAny_isInstance (T := "StopIteration") (b := true) ⟨o, ho, hc⟩ isSubtype_stop ?_)
    exact wpAny_pure ⟨rfl, I.turned (t' := s.toks) (fun b o hb q => he' b o hb q) f0 f1 f3 f4 f5⟩
  self := fun A i s Q E st h => let ⟨⟨_, he⟩, _⟩ := st; wpAny_pyIter_enum he h
def iEnumT (K : PySem.W.Frag) (ta : TA) : TI := fun σ H R => ta σ H fun vs H1 => ∃ a xs, vs = [.ref a] ∧ SqT K H1 a xs ∧ R (IteT K a) H1
theorem pi_enumT {X : Cx} {e : Expr} {ta : TA} {p pos tpos : Pos} {elts : List Expr} {kk : Nat} (hg : Gl X "enumerate") (hm : X.mg "enumerate" = none) (ha : PA X [e] ta) (hs : starEach [e] X.env = [(false, eval e X.env)] := by rfl) :
    PI X (.Tuple elts kk tpos) (.Call (.Name "enumerate" p) [e] [] pos) (iEnumT X.K ta) := by
  refine ⟨fun pins s σ H R I h => ?_⟩
  refine Call_ (ld_blt I hg hm boot_enumerate (PyProof.Rows.callWith_type1 (thn (ha.run pos pins s σ H _ I h) fun us s1 ⟨vs, H1, I1, r1, q1⟩ => ?_) hs rfl))
  obtain ⟨a, xs, ex, hq, q⟩ := q1
  subst ex
  cases r1 with
  | cons r rr =>
    cases rr
    cases r
    obtain ⟨its, rv, p', hz⟩ := I1.tuple hq
    have hp : s1.heap.IsTuple a its.toArray := p'
    have hal : a < s1.heap.objs.size := by obtain ⟨o, ho, _⟩ := hp; exact Heap.lt_size ho
    refine call_enumerate_tuple hp fun h' he hit hsz hk => wpAny_pyIter_enum he ?_
    have I2 : Inv X pins σ H1 { s1 with heap := h' } := I1.kept (t' := s1.toks) hk
    refine ⟨s1.heap.objs.size + 1, [s1.heap.objs.size + 1, s1.heap.objs.size], _, _, H1, rfl, I2, turn_enumT a (s1.heap.objs.size + 1) s1.heap.objs.size, ⟨⟨.none, he⟩, hit, Nat.succ_ne_self _, Nat.ne_of_lt hal, Nat.ne_of_lt (Nat.lt_succ_of_lt hal)⟩, fun b hb => ?_, q⟩
    have e' : b = s1.heap.objs.size + 1 ∨ b = s1.heap.objs.size := by simpa using hb
    have hle : s1.heap.objs.size ≤ b := by
      rcases e' with z | z
      · rw [z]; exact Nat.le_add_right _ _
      · rw [z]; exact Nat.le_refl _
    exact I1.fpOk hle (I1.hok.fresh hle)
end XT

namespace XT
open PySem PySem.Spec PyProof.Rows L2
/-! ### types compared -/
def tyN (m : String) : Bool := ["int", "str", "bool", "NoneType", "list", "tuple", "dict"].contains m
theorem tyN_meta {m : String} (h : tyN m = true) (s' : Shared) : s'.TypeIs (.type m) "type" := by
  unfold tyN at h
  simp only [List.contains_cons, List.contains_nil, Bool.or_eq_true, beq_iff_eq, Bool.false_eq_true, or_false] at h
  rcases h with rfl | rfl | rfl | rfl | rfl | rfl | rfl
  · exact TypeEq.meta_int s'
  · exact TypeEq.meta_str s'
  · exact TypeEq.meta_bool s'
  · exact TypeEq.meta_NoneType s'
  · exact TypeEq.meta_list s'
  · exact TypeEq.meta_tuple s'
  · exact TypeEq.meta_dict s'
section
variable {X : Cx}
theorem op_eqTy : OpR X (compareOp .Eq) (fun x y H Q => ∃ m n, x = .ty m ∧ y = .ty n ∧ tyN m = true ∧ tyN n = true ∧ Q (.bl (decide (m = n))) H) := by
  intro pins s σ H x y v u Q I rx ry h
  obtain ⟨m, n, rfl, rfl, hm, hn, q⟩ := h
  cases (show v = Value.type m from rx)
  cases (show u = Value.type n from ry)
  by_cases e : m = n
  · subst e
    exact TypeEq.eq_type_same (fun s' => tyN_meta hm s') ⟨.bl true, H, I, rfl, by simpa using q⟩
  · refine TypeEq.eq_type_other (fun s' => tyN_meta hm s') (fun s' => tyN_meta hn s') ?_ ⟨.bl false, H, I, rfl, by simpa [e] using q⟩
    rw [Bool.eq_false_iff]
    intro z
    rw [beq_iff_eq] at z
    injection z with z
    exact e z
theorem eqAt_ty {A : Around} {s : Shared} {m n : String} (hm : tyN m = true) (hn : tyN n = true) : SeqAt.EqAt A s (.type m) (.type n) (decide (m = n)) := fun prog w E Q h => by
  unfold eqBool
  refine wpAny_holding ?_
  refine wpAny_ite_split (fun hab => ?_) (fun hab => ?_)
  · have e : m = n := by have := eq_of_beq hab; injection this
    subst e
    exact wpAny_bind (wpAny_rule (wpAny_pure (by simpa using h)))
  · have e : m ≠ n := fun z => hab (by rw [z]; exact beq_self_eq_true _)
    refine wpAny_bind (m := richCompare .Eq (.type m) (.type n)) (show wpAny _ _ (compareOp .Eq _ _) _ _ _ from TypeEq.eq_type_other (fun s' => tyN_meta hm s') (fun s' => tyN_meta hn s') ?_ ?_)
    · rw [Bool.eq_false_iff]
      intro z
      rw [beq_iff_eq] at z
      injection z with z
      exact e z
    · exact wpAny_pure (by simpa [e] using h)
def tyU (m : String) : Value → Bool
  | .type n => decide (n = m)
  | _ => false
theorem op_inTy : OpR X (compareOp .In) (fun x y H Q => ∃ (m : String) (p : Addr) (ns : List String), x = .ty m ∧ y = .ref p ∧ SqT X.K H p (ns.map V.ty) ∧ tyN m = true ∧ (∀ n ∈ ns, tyN n = true) ∧ Q (.bl (ns.any fun n => decide (n = m))) H) := by
  intro pins s σ H x y v u Q I rx ry h
  obtain ⟨m, p, ns, rfl, rfl, hq, hm, hn, q⟩ := h
  cases (show v = Value.type m from rx)
  cases (show u = Value.ref p from ry)
  obtain ⟨its, r, pl, hz⟩ := I.tuple hq
  have key : ∀ (ns : List String) (its : List Value), Vals (ns.map V.ty) its → its = ns.map Value.type := by
    intro ns
    induction ns with
    | nil => intro its r; cases r; rfl
    | cons n ns ih =>
      intro its r
      cases r with
      | cons a t =>
        rw [ih _ t, List.map_cons]
        congr 1
  have e := key ns its r
  subst e
  refine SeqAt.in_tupleAt (tyU m) pl (fun w hw => ?_) ⟨.bl _, H, I, rfl, ?_⟩
  · have hw' : w ∈ ns.map Value.type := by simpa using hw
    obtain ⟨n, hmem, rfl⟩ := List.mem_map.mp hw'
    exact eqAt_ty (hn n hmem) hm
  · have e2 : ((ns.map Value.type).toArray.any (tyU m)) = ns.any fun n => decide (n = m) := by
      rw [List.any_toArray, List.any_map]
      rfl
    rw [e2]
    exact q
/-! ### calls by promises of positional values -/
def tCallR (sp : Sp) (E : XK) (t : TA) : TE := fun σ H Q => t σ H fun vs H1 => sp vs H1 Q E
theorem pe_callR {CX : CXT} {k : Nat} {f : Addr} {sp : Sp} {E : XK} {x : Str} {e : Expr} {es : List Expr} {t : TA} {p pos : Pos} (F : FnR X.prog X.w X.K X.mg X.base CX k f sp) (hr : Room k X.A) (hg : Gl X x) (hm : X.mg x = some (.ref f)) (hk : PySem.W.keepIn X.K (.ref f) = true) (hx : Passes CX X E) (ha : PA X (e :: es) t) (hd : (x == ("__debug__" : Str)) = false := by decide)
    (he : starEach (e :: es) X.env = (false, eval e X.env) :: starEach es X.env := by rfl) (hst : (backTo pos (starEach es X.env)).any (·.1) = false := by rfl) :
    PE X (.Call (.Name x p) (e :: es) [] pos) (tCallR sp E t) := by
  refine ⟨fun pins s σ H Q I h => ?_⟩
  refine wpAny_Call_Name_kw (ld_glob I hg hm ?_ hd)
  refine PySem.W.callWith_K (h₀ := X.base) I.ok.mod.kin hk (thn (ha.run pos pins s σ H _ I h) fun us s1 ⟨vs, H1, I1, r, q⟩ => ⟨I1.kIn, ?_⟩) he hst
  exact wpAny_call (run_fnR F hr hx I1 r q)
def tPropR (C : Addr) (sp : Sp) (E : XK) (ta : TE) : TE := fun σ H Q => ta σ H fun x H1 => ∃ a dx fs, x = .ref a ∧ H1 a = some (.ins C dx fs) ∧ sp [.ref a] H1 Q E
theorem pe_propR {CX : CXT} {k : Nat} {C p g : Addr} {f : Str} {sp : Sp} {E : XK} {e : Expr} {pos : Pos} {ta : TE} (he : PE X e ta) (c : Cls X.K C) (hp : PropOf X.K C f p g) (F : FnR X.prog X.w X.K X.mg X.base CX k g sp) (hr : Room (k + 1) X.A) (hx : Passes CX X.nox E)
    (hab : attributeBase e f X.env (eval e X.env) = eval e X.env) : PE X (.Attribute e f pos) (tPropR C sp E ta) := by
  refine ⟨fun pins s σ H Q I h => ?_⟩
  refine attr_of hab (thn (he.run pins s σ H _ I h) fun u s1 ⟨x, H1, I1, rx, a, dx, fs, ex, ea, q⟩ => ?_)
  subst ex
  obtain rfl : u = Value.ref a := rx
  obtain ⟨mA, O, _, _, _, _⟩ := ins_get I1.hok ea
  obtain ⟨od, J, _⟩ := O.look
  obtain ⟨rest, hrec⟩ := hp.rec_
  have I2 := I1.tok (s1.toks + 1)
  have hc : (PySem.W.clsIn X.K C).isSome = true := by
    obtain ⟨cd, hc, _⟩ := PySem.W.any_some c.hd
    rw [hc]
    rfl
  refine PySem.W.get_bind I1.kIn J (PySem.W.plainGet_of (c.get f)).1 (PySem.W.findObj_data hc hp.at_ hp.get hp.tak) (PySem.W.plainGet_of (c.get f)).2 (wpAny_call (PySem.W.prop_get (s := { s1 with toks := s1.toks + 1 }) I1.kIn hrec ?_))
  refine codeAny_mono (F X.A.in1 X.stack { s1 with toks := s1.toks + 1 } H1 [.ref a] [.ref a] Q E hr.in1 I2.env0.in1 (.cons rfl .nil) q) fun r s' hq => ?_
  cases r with
  | error er => exact False.elim (hx pins σ H1 { s1 with toks := s1.toks + 1 } er s' (I2.wish _) hq)
  | ok fl =>
    cases fl with
    | ret u =>
      obtain ⟨v, H', I3, rv, q3⟩ := I2.after hq
      show wpAny _ _ (handedOut u) _ _ _
      rw [PySem.W.handedOut_of (handed_of rv)]
      exact wpAny_pure ⟨v, H', I3, rv, q3⟩
    | next => exact False.elim hq
    | brk => exact False.elim hq
    | cont => exact False.elim hq
end
section
variable {P : Program} {w : World} {K : PySem.W.Frag} {mg : Str → Option Value} {base : Heap}
/-- how arguments bind, for every such def -/
def Bnd (x qual : Str) (st : Stmt) (ps : List Str) : Prop := ∀ (kV doc pm : Value) (an : Option Addr) (cdv ct : Value) (us : List Value), us.length = ps.length → bindArgs (PySem.W.fnOf x qual (defArgs st) (defBody st) (defScope st) .none kV doc pm an cdv ct) ⟨us, []⟩ = pure (ps.zip us)
/-- a def's promise by positional values; no exception leaves it -/
theorem okR {x qual : Str} {st : Stmt} {f : Addr} {fd : FuncData} {N ps : List Str} {k : Nat} {sp : Sp} (F : Fun K x qual st f fd) (S : FnScope N ps (defScope st)) (B : Bnd x qual st ps) (len : ∀ vs H Q E, sp vs H Q E → vs.length = ps.length)
    (hbody : ∀ (cdv : Value) (A : Around) (outer : List Env) (s : Shared) (H : Hp) (vs : List V) (Q : VK) (E : XK), Room k (A.deeper (envOfC qual (defScope st) s.heap.objs.size f cdv)) → sp vs H Q E →
      ∃ t, PSs (cxOf CX0 P w K mg base N qual (defScope st) f cdv A outer s H E).nox (defBody st) t ∧ t { nx := fun _ H' => Q .non H', rt := Q } (start N vs) H) : FnR P w K mg base CX0 (k + 1) f sp := by
  have G := F.ok S len hbody
  have hb := F.binds B
  exact (G.raw hb .nil).imp fun vs H Q E h => by simpa using h
end
end XT

namespace XT
open PySem PySem.Spec PyProof.Rows L2
/-! ### heaps that grow -/
theorem same_upd {H H1 : Hp} {p : Addr} {o : HO} (h : Same H H1) (n : H p = Option.none) : Same H (upd H1 p o) := fun b u e => by
  have hb : b ≠ p := fun q => by rw [q, n] at e; cases e
  rw [upd_ne hb]
  exact h b u e
theorem same_new {H : Hp} {p : Addr} {o : HO} (n : H p = Option.none) : Same H (upd H p o) := same_upd (Same.refl H) n
theorem same_seqT {K : PySem.W.Frag} {H H' : Hp} {a : Addr} {xs : List V} (e : Same H H') (h : SqT K H a xs) : SqT K H' a xs := by
  rcases h with (h | ⟨o, h⟩) | h
  · exact .inl (.inl (e _ _ h))
  · exact .inl (.inr ⟨o, e _ _ h⟩)
  · exact .inr h
theorem same_tyB {K : PySem.W.Frag} {H H' : Hp} {x : V} {n : String} (e : Same H H') (h : TyB K H x n) : TyB K H' x n := by
  cases h with
  | non => exact .non
  | bl b => exact .bl b
  | int i => exact .int i
  | str z => exact .str z
  | byt b => exact .byt b
  | lst h => exact .lst (e.seq h)
  | tup h => exact .tup (same_seqT e h)
  | dK h => exact .dK (e _ _ h)
/-- a value of a known kind -/
def KV (K : PySem.W.Frag) (H : Hp) (x : V) : Prop := ∃ n, TyB K H x n ∧ tyN n = true
theorem KV.same {K : PySem.W.Frag} {H H' : Hp} {x : V} (h : KV K H x) (e : Same H H') : KV K H' x := let ⟨n, a, b⟩ := h; ⟨n, same_tyB e a, b⟩
theorem kv_int {K : PySem.W.Frag} {H : Hp} (i : Int) : KV K H (.int i) := ⟨"int", .int i, by decide +kernel⟩
def isI : V → Bool
  | .int _ => true
  | _ => false
theorem tyB_isI {K : PySem.W.Frag} {H : Hp} {x : V} {n : String} (h : TyB K H x n) : decide (n = "int") = isI x := by
  cases h <;> first | rfl | decide +kernel
/-! ### what is walked, while only new things are made -/
structure StatJ (J : It) (H0 : Hp) (n : Nat) (P : Nat → V → Hp → Prop) : Prop where
  go : ∀ i H, i < n → Same H0 H → J.go i H
  stop : ∀ H, Same H0 H → J.stop n H
  yld : ∀ i H x H', i < n → Same H0 H → J.yld i H x H' → Same H H' ∧ P i x H'
theorem stat_list {K : PySem.W.Frag} {H0 : Hp} {a : Addr} {xs : List V} (h : SqL K H0 a xs) : StatJ (Itl K a) H0 xs.length (fun i x _ => xs[i]? = some x) where
  go := fun i H hi s => ⟨xs, xs[i], s.seq h, by simp [hi]⟩
  stop := fun H s => ⟨xs, s.seq h, Nat.le_refl _⟩
  yld := fun i H x H' hi s y => by
    obtain ⟨e, y⟩ := y
    subst e
    exact ⟨Same.refl _, y xs (s.seq h)⟩
theorem stat_tup {K : PySem.W.Frag} {H0 : Hp} {a : Addr} {xs : List V} (h : SqT K H0 a xs) : StatJ (Itt K a) H0 xs.length (fun i x _ => xs[i]? = some x) where
  go := fun i H hi s => ⟨xs, xs[i], same_seqT s h, by simp [hi]⟩
  stop := fun H s => ⟨xs, same_seqT s h, Nat.le_refl _⟩
  yld := fun i H x H' hi s y => by
    obtain ⟨e, y⟩ := y
    subst e
    exact ⟨Same.refl _, y xs (same_seqT s h)⟩
theorem stat_rng {H0 : Hp} (lo : Int) (n : Nat) : StatJ (Itr lo n) H0 n (fun i x _ => x = .int (lo + i)) where
  go := fun i H hi s => hi
  stop := fun H s => Nat.le_refl _
  yld := fun i H x H' hi s y => by
    obtain ⟨e, y⟩ := y
    subst e
    exact ⟨Same.refl _, y⟩
theorem stat_enumT {K : PySem.W.Frag} {H0 : Hp} {a : Addr} {xs : List V} (h : SqT K H0 a xs) : StatJ (IteT K a) H0 xs.length (fun i v H => ∃ T x, v = .ref T ∧ H T = some (.tup [.int (i : Nat), x]) ∧ xs[i]? = some x) where
  go := fun i H hi s => ⟨xs, xs[i], same_seqT s h, by simp [hi]⟩
  stop := fun H s => ⟨xs, same_seqT s h, Nat.le_refl _⟩
  yld := fun i H x H' hi s y => by
    obtain ⟨T, x', e, n, e', y⟩ := y
    subst e e'
    exact ⟨same_new n, T, x', rfl, upd_same, y xs (same_seqT s h)⟩
theorem stat_zip {K : PySem.W.Frag} {H0 : Hp} {a b : Addr} {xs ys : List V} (h : SqL K H0 a xs) (k : SqL K H0 b ys) : StatJ (Itz K a b) H0 (min xs.length ys.length) (fun i v H => ∃ T x y, v = .ref T ∧ H T = some (.tup [x, y]) ∧ xs[i]? = some x ∧ ys[i]? = some y) where
  go := fun i H hi s => ⟨xs, ys, xs[i], ys[i], s.seq h, s.seq k, by simp, by simp⟩
  stop := fun H s => ⟨xs, ys, s.seq h, s.seq k, by omega⟩
  yld := fun i H x H' hi s y => by
    obtain ⟨T, x', y', e, n, e', p, q⟩ := y
    subst e e'
    exact ⟨same_new n, T, x', y', rfl, upd_same, p xs (s.seq h), q ys (s.seq k)⟩
theorem stat_zipT {K : PySem.W.Frag} {H0 : Hp} {a b : Addr} {xs ys : List V} (h : SqT K H0 a xs) (k : SqT K H0 b ys) : StatJ (RZ.ItzT K a b) H0 (min xs.length ys.length) (fun i v H => ∃ T x y, v = .ref T ∧ H T = some (.tup [x, y]) ∧ xs[i]? = some x ∧ ys[i]? = some y) where
  go := fun i H hi s => ⟨xs, ys, xs[i], ys[i], same_seqT s h, same_seqT s k, by simp, by simp⟩
  stop := fun H s => ⟨xs, ys, same_seqT s h, same_seqT s k, by omega⟩
  yld := fun i H x H' hi s y => by
    obtain ⟨T, x', y', e, n, e', p, q⟩ := y
    subst e e'
    exact ⟨same_new n, T, x', y', rfl, upd_same, p xs (same_seqT s h), q ys (same_seqT s k)⟩
/-- what a comprehension collects -/
def outs (out : Nat → Option V) (n : Nat) : List V := (List.range n).filterMap out
theorem outs_succ (out : Nat → Option V) (n : Nat) : outs out (n + 1) = outs out n ++ (out n).toList := by
  unfold outs
  rw [List.range_succ, List.filterMap_append]
  cases h : out n <;> simp [List.filterMap, h]
theorem outs_len (out : Nat → Option V) (n : Nat) : (outs out n).length ≤ n := by
  unfold outs
  exact Nat.le_trans (List.length_filterMap_le _ _) (by simp)
theorem outs_list (f : V → Option V) (xs : List V) : outs (fun i => (xs[i]?).bind f) xs.length = xs.filterMap f := by
  have : ∀ n, n ≤ xs.length → outs (fun i => (xs[i]?).bind f) n = (xs.take n).filterMap f := by
    intro n
    induction n with
    | zero => intro _; rfl
    | succ n ih =>
      intro h
      rw [outs_succ, ih (by omega), List.take_succ, List.filterMap_append]
      congr 1
      have e : xs[n]? = some xs[n] := by simp
      rw [e]
      cases h2 : f xs[n] <;> simp [h2]
  rw [this _ (Nat.le_refl _), List.take_length]
theorem outs_map (f : V → V) (xs : List V) : outs (fun i => (xs[i]?).map f) xs.length = xs.map f := by
  have e : (fun (i : Nat) => (xs[i]?).map f) = fun (i : Nat) => (xs[i]?).bind fun x => some (f x) := by funext i; cases xs[i]? <;> rfl
  rw [e, outs_list]
  simp
theorem outs_fun (f : Nat → V) (n : Nat) : outs (fun i => some (f i)) n = (List.range n).map f := by
  unfold outs
  simp
theorem outs_congr {o o' : Nat → Option V} {n : Nat} (h : ∀ i, i < n → o i = o' i) : outs o n = outs o' n := by
  induction n with
  | zero => rfl
  | succ n ih => rw [outs_succ, outs_succ, ih fun i hi => h i (by omega), h n (by omega)]
/-- a comprehension over what stands still -/
theorem lcG {J : It} {n : Nat} {P : Nat → V → Hp → Prop} {g : TG} {tt : TT} {te : TE} {vs : List Nat} {σ : L2.St} {H1 : Hp} {D : Addr} {Qd : Hp → Prop} (S : StatJ J H1 n P) (hD : H1 D = Option.none) (out : Nat → Option V) (hn : n ≤ sizeLine)
    (hs : ∀ i x H (R : Option V → Hp → Prop), i < n → Same H1 H → P i x H → (∀ H', Same H H' → R (out i) H') → g x (wipe σ vs) H fun σ2 H2 => wipe σ2 vs = wipe σ vs ∧ tt σ2 H2 fun b H3 => if b = true then te σ2 H3 fun y H4 => R (some y) H4 else R Option.none H3)
    (hd : ∀ H, Same H1 H → H D = some (.lst (outs out n)) → Qd H) :
    ∃ W : Nat → Nat → Hp → Prop, (∃ m, W 0 m (upd H1 D (.lst []))) ∧ ∀ i m H, W i m H →
      (J.stop i H ∧ Qd H) ∨ (J.go i H ∧ ∃ Nx : Hp → Prop, (∀ H', Nx H' → ∃ m', m' < m ∧ W (i + 1) m' H') ∧ ∀ x H', J.yld i H x H' → g x (wipe σ vs) H' fun σ2 H2 => wipe σ2 vs = wipe σ vs ∧ tt σ2 H2 fun b H3 =>
        if b = true then te σ2 H3 fun y H4 => ∃ acc, H4 D = some (.lst acc) ∧ acc.length < sizeLine ∧ Nx (upd H4 D (.lst (acc ++ [y]))) else Nx H3) := by
  refine ⟨fun i m H => m = n - i ∧ i ≤ n ∧ Same H1 H ∧ H D = some (.lst (outs out i)), ⟨n, by simp, Nat.zero_le _, same_new hD, by rw [upd_same]; rfl⟩, ?_⟩
  rintro i m H ⟨rfl, hi, s, hH⟩
  by_cases hlt : i < n
  · refine .inr ⟨S.go i H hlt s, fun H' => Same H1 H' ∧ H' D = some (.lst (outs out (i + 1))), fun H' p => ⟨n - (i + 1), by omega, rfl, hlt, p.1, p.2⟩, fun x H' y => ?_⟩
    obtain ⟨s2, px⟩ := S.yld i H x H' hlt s y
    refine hs i x H' (fun r H4 => match r with | some y => ∃ acc, H4 D = some (.lst acc) ∧ acc.length < sizeLine ∧ (Same H1 (upd H4 D (.lst (acc ++ [y]))) ∧ (upd H4 D (.lst (acc ++ [y]))) D = some (.lst (outs out (i + 1)))) | none => Same H1 H4 ∧ H4 D = some (.lst (outs out (i + 1)))) hlt (s.trans s2) px fun H4 s4 => ?_
    have h4 : H4 D = some (.lst (outs out i)) := s4 _ _ (s2 _ _ hH)
    have s14 : Same H1 H4 := (s.trans s2).trans s4
    cases ho : out i with
    | none =>
      refine ⟨s14, ?_⟩
      rw [outs_succ, ho, h4]
      simp
    | some y =>
      refine ⟨_, h4, Nat.lt_of_le_of_lt (outs_len out i) (Nat.lt_of_lt_of_le hlt hn), same_upd s14 hD, ?_⟩
      rw [upd_same, outs_succ, ho]
      rfl
  · have e : i = n := by omega
    subst e
    exact .inl ⟨S.stop H s, hd H s hH⟩
/-- without a test -/
theorem lcM {J : It} {n : Nat} {P : Nat → V → Hp → Prop} {g : TG} {te : TE} {vs : List Nat} {σ : L2.St} {H1 : Hp} {D : Addr} {Qd : Hp → Prop} (S : StatJ J H1 n P) (hD : H1 D = Option.none) (out : Nat → V) (hn : n ≤ sizeLine)
    (hs : ∀ i x H (R : V → Hp → Prop), i < n → Same H1 H → P i x H → (∀ H', Same H H' → R (out i) H') → g x (wipe σ vs) H fun σ2 H2 => wipe σ2 vs = wipe σ vs ∧ te σ2 H2 R)
    (hd : ∀ H, Same H1 H → H D = some (.lst ((List.range n).map out)) → Qd H) :
    ∃ W : Nat → Nat → Hp → Prop, (∃ m, W 0 m (upd H1 D (.lst []))) ∧ ∀ i m H, W i m H →
      (J.stop i H ∧ Qd H) ∨ (J.go i H ∧ ∃ Nx : Hp → Prop, (∀ H', Nx H' → ∃ m', m' < m ∧ W (i + 1) m' H') ∧ ∀ x H', J.yld i H x H' → g x (wipe σ vs) H' fun σ2 H2 => wipe σ2 vs = wipe σ vs ∧ tYes σ2 H2 fun b H3 =>
        if b = true then te σ2 H3 fun y H4 => ∃ acc, H4 D = some (.lst acc) ∧ acc.length < sizeLine ∧ Nx (upd H4 D (.lst (acc ++ [y]))) else Nx H3) := by
  refine ⟨fun i m H => m = n - i ∧ i ≤ n ∧ Same H1 H ∧ H D = some (.lst ((List.range i).map out)), ⟨n, by simp, Nat.zero_le _, same_new hD, by rw [upd_same]; rfl⟩, ?_⟩
  rintro i m H ⟨rfl, hi, s, hH⟩
  by_cases hlt : i < n
  · refine .inr ⟨S.go i H hlt s, fun H' => Same H1 H' ∧ H' D = some (.lst ((List.range (i + 1)).map out)), fun H' p => ⟨n - (i + 1), by omega, rfl, hlt, p.1, p.2⟩, fun x H' y => ?_⟩
    obtain ⟨s2, px⟩ := S.yld i H x H' hlt s y
    show g x (wipe σ vs) H' fun σ2 H2 => wipe σ2 vs = wipe σ vs ∧ (if true = true then te σ2 H2 fun y H4 => ∃ acc, H4 D = some (.lst acc) ∧ acc.length < sizeLine ∧ (Same H1 (upd H4 D (.lst (acc ++ [y]))) ∧ (upd H4 D (.lst (acc ++ [y]))) D = some (.lst ((List.range (i + 1)).map out))) else (Same H1 H2 ∧ H2 D = some (.lst ((List.range (i + 1)).map out))))
    simp only [if_true]
    refine hs i x H' (fun y H4 => ∃ acc, H4 D = some (.lst acc) ∧ acc.length < sizeLine ∧ (Same H1 (upd H4 D (.lst (acc ++ [y]))) ∧ (upd H4 D (.lst (acc ++ [y]))) D = some (.lst ((List.range (i + 1)).map out)))) hlt (s.trans s2) px fun H4 s4 => ?_
    have h4 : H4 D = some (.lst ((List.range i).map out)) := s4 _ _ (s2 _ _ hH)
    refine ⟨_, h4, Nat.lt_of_le_of_lt (by simp) (Nat.lt_of_lt_of_le hlt hn), same_upd ((s.trans s2).trans s4) hD, ?_⟩
    rw [upd_same, List.range_succ, List.map_append]
    rfl
  · have e : i = n := by omega
    subst e
    exact .inl ⟨S.stop H s, hd H s hH⟩
theorem range_map (f : V → V) (d : V) (xs : List V) : (List.range xs.length).map (fun i => f (xs.getD i d)) = xs.map f := by
  apply List.ext_getElem
  · simp
  · intro i h1 h2
    have h3 : i < xs.length := by simpa using h2
    simp [List.getD, h3]
theorem getD_of {xs : List V} {i : Nat} {x d : V} (h : xs[i]? = some x) : xs.getD i d = x := by
  simp [List.getD, h]
end XT

namespace XT
open PySem PySem.Spec PyProof.Rows L2
/-! ### the rules whose reading names the written part, with that part given -/
section
variable {X : Cx} (K : PySem.W.Frag)
theorem fldK {e : Expr} {f : Str} {pos : Pos} {ta : TE} (he : PE X e ta) (hb : attributeBase e f X.env (eval e X.env) = eval e X.env) (hK : X.K = K := by rfl) : PE X (.Attribute e f pos) (tFld K ta f) := by subst hK; exact pe_fld he hb
theorem tupK {es : List Expr} {k : Nat} {pos : Pos} {t : TGs} {n : Nat} (hc : X.calm = true) (h : PGs X es t) (hK : X.K = K := by rfl) (hn : (assignEach es X.env).length = n := by rfl) (hst : (assignEach es X.env).findIdx? (·.1) = none := by rfl) : PG X (.Tuple es k pos) (gTup K n t) := by
  subst hK
  exact pg_tup hc h hn hst
theorem unlK {es : List Expr} {k : Nat} {pos : Pos} {t : TGs} {n : Nat} (hc : X.calm = true) (h : PGs X es t) (hK : X.K = K := by rfl) (hn : (assignEach es X.env).length = n := by rfl) (hst : (assignEach es X.env).findIdx? (·.1) = none := by rfl) : PG X (.Tuple es k pos) (gUnl K n t) := by
  subst hK
  exact pg_unl hc h hn hst
theorem ixLK (hK : X.K = K := by rfl) : IxR X (rIxL K) := by subst hK; exact ix_list
theorem ixTK (hK : X.K = K := by rfl) : IxR X (rIxT K) := by subst hK; exact ix_tup
theorem slLK (hK : X.K = K := by rfl) : SlR X (rSlL K) := by subst hK; exact sl_list
theorem slTK (hK : X.K = K := by rfl) : SlR X (rSlA K) := by subst hK; exact sl_tupA
theorem lenK (hK : X.K = K := by rfl) : CallR X (.builtin "len") (fun xs H Q => ∃ p ys, xs = [.ref p] ∧ (SqL K H p ys ∨ SqT K H p ys) ∧ Q (.int ys.length) H) := by subst hK; exact call_len_seq
theorem typeK (hK : X.K = K := by rfl) : CallR X (.type "type") (rTyp K) := by subst hK; exact call_type1
theorem allK (hc : X.calm = true) (hK : X.K = K := by rfl) : CallR X (.builtin "all") (rAll K) := by subst hK; exact cr_all hc
theorem sortedK (hK : X.K = K := by rfl) : CallR X (.builtin "sorted") (rSortedI K) := by subst hK; exact cr_sortedI
theorem listK (hK : X.K = K := by rfl) : CallR X (.type "list") (fun xs H Q => ∃ p ys, xs = [.ref p] ∧ (SqL K H p ys ∨ SqT K H p ys) ∧ ∀ l, H l = Option.none → Q (.ref l) (upd H l (.lst ys))) := by subst hK; exact call_list_of
theorem tupleK (hK : X.K = K := by rfl) : CallR X (.type "tuple") (fun xs H Q => ∃ p ys, xs = [.ref p] ∧ ((SqL K H p ys ∧ ∀ l, H l = Option.none → Q (.ref l) (upd H l (.tup ys))) ∨ (SqT K H p ys ∧ Q (.ref p) H))) := by subst hK; exact call_tuple_of
theorem inK (hK : X.K = K := by rfl) : OpR X (compareOp .In) (rIn K false) := by subst hK; exact op_in_seq
theorem notInK (hK : X.K = K := by rfl) : OpR X (compareOp .NotIn) (rIn K true) := by subst hK; exact op_notIn_seq
theorem eqDK (hu : X.A.units + 64 < cLine) (hK : X.K = K := by rfl) : OpR X (compareOp .Eq) (rEqD K) := by subst hK; exact op_eqD hu
theorem neDK (hu : X.A.units + 64 < cLine) (hK : X.K = K := by rfl) : OpR X (compareOp .NotEq) (rNeD K) := by subst hK; exact op_neD hu
theorem inTyK (hK : X.K = K := by rfl) : OpR X (compareOp .In) (fun x y H Q => ∃ (m : String) (p : Addr) (ns : List String), x = .ty m ∧ y = .ref p ∧ SqT K H p (ns.map V.ty) ∧ tyN m = true ∧ (∀ n ∈ ns, tyN n = true) ∧ Q (.bl (ns.any fun n => decide (n = m))) H) := by subst hK; exact op_inTy
theorem bmK {o e : Expr} {es : List Expr} {name : Str} {apos cpos : Pos} {to : TE} {t : TA} {r : V → List V → Hp → VK → Prop} {T : String} (h : PE X (.Call (.Attribute o name apos) (e :: es) [] cpos) (tBM X.K T r to t)) (hK : X.K = K := by rfl) : PE X (.Call (.Attribute o name apos) (e :: es) [] cpos) (tBM K T r to t) := by subst hK; exact h
theorem starK {e : Expr} {p : Pos} {es : List Expr} {te : TE} {t : TA} (h : PA X (.Starred e p :: es) (StX.tStar X.K te t)) (hK : X.K = K := by rfl) : PA X (.Starred e p :: es) (StX.tStar K te t) := by subst hK; exact h
end
end XT

namespace XT
open PySem PySem.Spec PyProof.Rows L2
/-! ### data of ints -/
theorem dpAll_ints {K : PySem.W.Frag} {H : Hp} (L : List Int) : DpAll K H (L.map V.int) (L.map PyData.int) := by
  induction L with
  | nil => exact .nil
  | cons x L ih => exact .cons (.int x) ih
theorem dp_lst {K : PySem.W.Frag} {H : Hp} {p : Addr} {L : List Int} (h : SqL K H p (L.map V.int)) : Dp K H (.ref p) (.list (L.map PyData.int)) := .lst h (dpAll_ints L)
theorem dp_tup {K : PySem.W.Frag} {H : Hp} {p : Addr} {L : List Int} (h : SqT K H p (L.map V.int)) : Dp K H (.ref p) (.tuple (L.map PyData.int)) := .tup h (dpAll_ints L)
theorem eqvAll_ints (L : List Int) : ∀ M : List Int, PyData.eqvAll (L.map PyData.int) (M.map PyData.int) = decide (L = M) := by
  induction L with
  | nil =>
    intro M
    cases M with
    | nil => simp [PyData.eqvAll]
    | cons y M => simp [PyData.eqvAll]
  | cons x L ih =>
    intro M
    cases M with
    | nil => simp [PyData.eqvAll]
    | cons y M =>
      rw [List.map_cons, List.map_cons, PyData.eqvAll, ih]
      by_cases h : x = y
      · subst h
        simp [PyData.eqv]
      · have : (PyData.int x).eqv (.int y) = false := by simp [PyData.eqv, h]
        rw [this]
        simp [h]
theorem eqv_tups (L M : List Int) : PyData.eqv (.tuple (L.map PyData.int)) (.tuple (M.map PyData.int)) = decide (L = M) := by
  rw [PyData.eqv]
  exact eqvAll_ints L M
theorem eqv_lsts (L M : List Int) : PyData.eqv (.list (L.map PyData.int)) (.list (M.map PyData.int)) = decide (L = M) := by
  rw [PyData.eqv]
  exact eqvAll_ints L M
theorem shaped_lst (L : List Int) : SeqAt.shaped (.list (L.map PyData.int)) = true := PySem.W.ke_shaped_ints L
theorem shaped_tup (L : List Int) : SeqAt.shaped (.tuple (L.map PyData.int)) = true := by
  have := PySem.W.ke_shaped_ints L
  unfold SeqAt.shaped at this ⊢
  simpa [PyData.canLay0, PyData.depth] using this
/-! ### bool(x) by its truth -/
section
variable {prog : Program} {w : World} {A : Around} {E : Value → Shared → Prop} {s : Shared}
theorem bool_gen {v : Value} {Q : Value → Shared → Prop} (h : wpAny (model prog w) A.in1.in1 (truthy v) (fun b s1 => Q (.bool b) s1) E s) : wpAny (model prog w) A (call (.type "bool") [v]) Q E s := by
  refine callType_codes (T := "bool") (Bi := Builtin.«object.__init__») (Q₁ := fun r s1 => ∃ b, r = Value.bool b ∧ Q r s1) PySem.F.called_bool (PySem.F.typeCall_bool_1 _) PySem.F.entry_object_init ?_ ?_
  · refine codeAny_of_tree ?_
    show wpAny _ A.in1.in1 (do checkBuiltinCall "bool.__new__" ⟨[.type "bool", v], []⟩; again (.builtin "bool.__new__" ⟨[.type "bool", v], []⟩)) _ _ s
    refine wpAny_bind (wpAny_of_eq (PySem.F.newCall_bool_1 _) (wpAny_pure ⟨plainId_quiet (by decide +kernel) _, codeAny_builtin PySem.F.entry_bool_new ?_⟩))
    rw [Around.under_plainId (by decide +kernel) _]
    unfold Builtin.«bool.__new__»
    refine wpAny_bind (wpAny_of_eq (a := true) type_bool ?_)
    refine PySem.W.KFB.if_not rfl ?_
    refine wpAny_bind (wpAny_of_eq (a := true) PySem.F.conv_sub_bool ?_)
    refine PySem.W.KFB.if_not rfl ?_
    refine wpAny_bind (m := someArgs "bool" 0 1 _) (wpAny_of_eq (a := [v]) (by first | rfl | kernel_rfl | simp [someArgs]) ?_)
    dsimp only
    exact wpAny_bind (wpAny_mono h (fun b s1 q => wpAny_pure ⟨b, rfl, q⟩) fun _ _ y => y)
  · rintro obj s₁ ⟨b, rfl, hq⟩
    exact ⟨PySem.typeIs_bool _ _, PySem.F.args_object_init_2 _ _, object_init_meets PySem.F.called_bool.init.lookup PySem.F.called_bool.made (by decide) prog w A.in1 _ s₁ ⟨PySem.typeIs_bool _ _, rfl, hq⟩⟩
end
section
variable {X : Cx} (K : PySem.W.Frag)
theorem boolT (hK : X.K = K := by rfl) : CallR X (.type "bool") (fun xs H Q => ∃ (a : Addr) (zs : List V), xs = [.ref a] ∧ SqT K H a zs ∧ Q (.bl (!zs.isEmpty)) H) := by
  subst hK
  intro pins s σ H xs us Q I r h
  obtain ⟨a, zs, rfl, hq, q⟩ := h
  obtain rfl := Vals.ref1 r
  obtain ⟨its, rv, pl, hz⟩ := I.tuple hq
  have hl := line63
  have hlen := rv.length
  refine bool_gen (truthy_tuple pl (by simp only [List.size_toArray]; omega) ?_)
  exact ⟨.bl (!zs.isEmpty), H, I.tok _, by rw [isEmpty_of rv]; rfl, q⟩
end
end XT

namespace XT
open PySem PySem.Spec PyProof.Rows L2
/-! ### defs that ask which list or tuple is being written (repr): nothing of that kind is under way -/
/-- as FnR, no repr being under way -/
def FnG (P : Program) (w : World) (K : PySem.W.Frag) (mg : Str → Option Value) (base : Heap) (CX : CXT) (k : Nat) (f : Addr) (sp : Sp) : Prop :=
  ∀ (A : Around) (outer : List Env) (s : Shared) (H : Hp) (us : List Value) (vs : List V) (Q : VK) (E : XK), A.guards = some [] → Room k A → Env0 P w K mg base A outer s H → Vals vs us → sp vs H Q E →
    codeAny (model P w) A (.call (.ref f) ⟨us, []⟩) (CR CX outer P w H s Q E) s
section
variable {P : Program} {w : World} {K : PySem.W.Frag} {mg : Str → Option Value} {base : Heap} {CX : CXT} {j k : Nat} {f : Addr} {sp sp' : Sp}
theorem FnG.imp (F : FnG P w K mg base CX k f sp) (h : ∀ vs H Q E, sp' vs H Q E → sp vs H Q E) : FnG P w K mg base CX k f sp' := fun A outer s H us vs Q E hg hr e0 r hs => F A outer s H us vs Q E hg hr e0 r (h _ _ _ _ hs)
theorem FnR.toG (F : FnR P w K mg base CX k f sp) : FnG P w K mg base CX k f sp := fun A outer s H us vs Q E _ hr e0 r hs => F A outer s H us vs Q E hr e0 r hs
/-- a def by its body, one entry at a time -/
theorem fnG_of {name qual : Str} {params : Arguments} {body : List Stmt} {scope : Scope} {dV kV doc pm cdv ct oc : Value} {an od : Option Addr}
    {osl : Array (Option Value)} {N ps : List Str} (lk : K.lookup f = some ⟨oc, od, .func (PySem.W.fnOf name qual params body scope dV kV doc pm an cdv ct), osl⟩) (hcd : PySem.W.codeIn K cdv qual = true) (S : FnScope N ps scope)
    (hb : Binds K (PySem.W.fnOf name qual params body scope dV kV doc pm an cdv ct) ps []) (len : ∀ vs H Q E, sp vs H Q E → vs.length = ps.length)
    (hbody : ∀ (A : Around) (outer : List Env) (s : Shared) (H : Hp) (vs : List V) (Q : VK) (E : XK), (A.deeper (envOfC qual scope s.heap.objs.size f cdv)).guards = some [] → Room k (A.deeper (envOfC qual scope s.heap.objs.size f cdv)) → sp vs H Q E →
      ∃ t, PSs (cxOf CX P w K mg base N qual scope f cdv A outer s H E) body t ∧ t { nx := fun _ H' => Q .non H', rt := Q } (start N vs) H) :
    FnG P w K mg base CX (k + 1) f sp := by
  intro A outer s H us vs Q E hg hr e0 r hsp
  have hl := len _ _ _ _ hsp
  have hlu : us.length = ps.length := r.length ▸ hl
  have keep : ∀ b o, base.get? b = some o → s.heap.get? b = some o := fun b o e => (e0.bs b o e).1
  have KX : K.In s.heap := e0.mod.kin.keeps keep
  have lim : s.heap.NoLimit := e0.mod.nolimit.keeps keep
  have hkind : ∀ y ∈ ps.zip us, scope.names.lookup y.1 = some .local ∨ (scope.names.lookup y.1 = some .cell ∧ ((cellsFrom (s.heap.objs.size + 1) scope.names []).lookup y.1).isSome = true) := fun ⟨n, v⟩ hy => by
    rcases S.par n (List.of_mem_zip hy).1 with q | q
    · exact .inl q
    · exact .inr ⟨q, PySem.W.cellsFrom_some _ _ _ (.inl q)⟩
  have hbt : BindsTo s (PySem.W.fnOf name qual params body scope dV kV doc pm an cdv ct) ⟨us, []⟩ (ps.zip us) := by
    have z := hb s us KX (by simpa using hlu)
    simpa using z
  refine codeAny_call_function hr.depth (KX _ _ lk) rfl S.co S.gen rfl (PySem.W.codeRec_of KX hcd) (hbt _ _ _ _ ?_)
  refine wpAny_newFunctionEnv_cells S.kind hkind fun env he s1 x => ?_
  subst he
  refine ⟨lim.keeps x.toInCall.keep, codeAny_func ?_⟩
  obtain ⟨t, ht, hq⟩ := hbody A outer s H vs Q E hg (hr.deeper _) hsp
  have I : Inv (cxOf CX P w K mg base N qual scope f cdv A outer s H E) [] (start N vs) H s1 := inv_start S hr.hd e0 hl r x
  have fin : ∀ {σ' : L2.St} {H' : Hp} {v : V} {u : Value} {s' : Shared}, Inv (cxOf CX P w K mg base N qual scope f cdv A outer s H E) [] σ' H' s' → RelV v u → Q v H' → CE outer P w H s Q u s' :=
    fun {σ' H' v u s'} J rv q => ⟨v, H', J.os, J.bare, J.base, J.hok, rv, q⟩
  refine wpAny_mono (ht.run [] s1 (start N vs) H _ I hq) (fun fl s' hs => ?_) fun e s' hs => hs
  match fl, hs with
  | .ret u, ⟨v, σ', H', J, rv, q⟩ => exact fin J rv q
  | .next, ⟨σ', H', J, q⟩ => exact fin (v := V.non) (u := Value.none) J rfl q
  | .brk, ⟨_, _, _, q⟩ => exact q.elim
  | .cont, ⟨_, _, _, q⟩ => exact q.elim
/-- a def that may raise, by positional values -/
theorem okGX {x qual : Str} {st : Stmt} {fd : FuncData} {N ps : List Str} (F : Fun K x qual st f fd) (S : FnScope N ps (defScope st)) (B : Bnd x qual st ps) (len : ∀ vs H Q E, sp vs H Q E → vs.length = ps.length)
    (hbody : ∀ (cdv : Value) (A : Around) (outer : List Env) (s : Shared) (H : Hp) (vs : List V) (Q : VK) (E : XK), (A.deeper (envOfC qual (defScope st) s.heap.objs.size f cdv)).guards = some [] → Room k (A.deeper (envOfC qual (defScope st) s.heap.objs.size f cdv)) → sp vs H Q E →
      ∃ t, PSs (cxOf CX P w K mg base N qual (defScope st) f cdv A outer s H E) (defBody st) t ∧ t { nx := fun _ H' => Q .non H', rt := Q } (start N vs) H) : FnG P w K mg base CX (k + 1) f sp := by
  have hb := F.binds B
  obtain ⟨oc, od, kV, doc, pm, an, cdv, ct, osl, rfl, lk, hcd⟩ := F.ex
  exact fnG_of lk hcd S hb len fun A outer s H vs Q E hg hr hsp => hbody cdv A outer s H vs Q E hg hr hsp
/-- a def that may raise, by positional values -/
theorem okX {x qual : Str} {st : Stmt} {fd : FuncData} {N ps : List Str} (F : Fun K x qual st f fd) (S : FnScope N ps (defScope st)) (B : Bnd x qual st ps) (len : ∀ vs H Q E, sp vs H Q E → vs.length = ps.length)
    (hbody : ∀ (cdv : Value) (A : Around) (outer : List Env) (s : Shared) (H : Hp) (vs : List V) (Q : VK) (E : XK), Room k (A.deeper (envOfC qual (defScope st) s.heap.objs.size f cdv)) → sp vs H Q E →
      ∃ t, PSs (cxOf (L2.CX P w) P w K mg base N qual (defScope st) f cdv A outer s H E) (defBody st) t ∧ t { nx := fun _ H' => Q .non H', rt := Q } (start N vs) H) : FnR P w K mg base (L2.CX P w) (k + 1) f sp := by
  have G := F.okX S len hbody
  have hb := F.binds B
  exact (G.raw hb .nil).imp fun vs H Q E h => by simpa using h
end
end XT

namespace XT
open PySem PySem.Spec PyProof.Rows L2
/-! ### several clauses «except X as n» behind one another -/
/-- the ways out of a suite that has bound slot i -/
def endsAs (i : Nat) (D : Ends) : Ends := { nx := fun σ' H' => D.nx (σ'.set i none) H', rt := D.rt, bk := fun σ' H' => D.bk (σ'.set i none) H', ct := fun σ' H' => D.ct (σ'.set i none) H' }
/-- what the clauses wish of an exception: class, slot, suite -/
def wAsL (K : PySem.W.Frag) (Wout : WX) (D : Ends) : List (Value × Nat × (Addr → Value → Option Addr → TS)) → WX
  | [] => Wout
  | (c, i, ts) :: r => fun cls d σ H => ∃ b, PySem.W.exmOne K cls c = some b ∧ (b = true → ∀ a, H a = none → ts a cls d (endsAs i D) (σ.set i (some (.ref a))) H) ∧ (b = false → wAsL K Wout D r cls d σ H)
/-- the written clauses, one by one -/
inductive AsOk (X : Cx) : List ExceptHandler → List (Value × Nat × (Addr → Value → Option Addr → TS)) → Prop
  | nil : AsOk X [] []
  | cons {x n : Str} {c : Value} {i : Nat} {ts : Addr → Value → Option Addr → TS} {b₀ : Stmt} {suite : List Stmt} {np pos' : Pos} {hds : List ExceptHandler} {l : List (Value × Nat × (Addr → Value → Option Addr → TS))} (hc : Names X x c)
      (hi : X.N[i]? = some n) (hln : X.env.kindOf n = some .local)
      (hsu : ∀ (a : Addr) (oe : Obj) (cls : Value) (d : Option Addr) (pn : List (Addr × Obj)), Zc cls d oe → (∃ vs, oe.data = .fields vs) → PSs (X.suite a ((a, oe) :: pn)) (b₀ :: suite) (ts a cls d)) (r : AsOk X hds l) :
      AsOk X (.ExceptHandler (some (.Name x np)) (some n) (b₀ :: suite) pos' :: hds) ((c, i, ts) :: l)
section
variable {X : Cx} {body : List Stmt} {h₀ : ExceptHandler} {hds : List ExceptHandler} {l : List (Value × Nat × (Addr → Value → Option Addr → TS))} {pos : Pos} {tb : WX → TS} {Wout : WX}
theorem ps_try_asL (hs : X.stack = X.env :: X.outer) (hf : X.env.frame = some X.env.locals) (hN : X.N.Nodup) (tk : Takes X Wout)
    (hb : ∀ (W : WX) (pn : List (Addr × Obj)) (xe : Value → Shared → Prop), Takes (X.tr pn xe) W → PassesOwn (model X.prog X.w) X.A X.env xe → PSs (X.tr pn xe) body (tb W))
    (hh : AsOk X (h₀ :: hds) l) : PS X (.Try body (h₀ :: hds) [] [] pos) (fun D σ H => tb (wAsL X.K Wout D l) D σ H) := by
  refine ⟨fun pins s σ H D I h => ?_⟩
  have ok := I.ok
  have hfr : X.A.frames = some (X.env :: X.outer) := ok.frames.trans (congrArg some hs)
  refine wpAny_Try_except ?_
  refine wpAny_mono ((hb (wAsL X.K Wout D l) (X.pn ++ pins) (fun e s₁ => wpAny (model X.prog X.w) X.A (noteFrame e X.env) (fun _ s₂ => wpAny (model X.prog X.w) X.A (setFlight e none) (fun _ s₃ =>
    wpAny (model X.prog X.w) X.A (handleBy e X.env (h₀ :: hds)) (SP X pins D) X.xe s₃) X.xe s₂) X.xe s₁) (fun u s' xx => ?_) PassesOwn.looking).run [] s σ H D (I.toTry _) h) (fun f s1 hsp => ?_) (fun e s1 he => he)
  · obtain ⟨a, B, sI, pins', σ', H', cls, d, rfl, J', nb, up, sky, na, os, ag, w⟩ := xx
    have J : Inv X pins σ' H' sI := J'.ofTry ok
    have sky' : Sky B (X.env :: X.outer) a (Zc cls d) X.env.locals s'.heap := hs ▸ sky
    show wpAny (model X.prog X.w) X.A (noteFrame (.ref a) X.env) _ _ _
    refine Sky.land Zc.steady hfr hf sky' fun h3 fl3 up3 => ?_
    have up13 := up.trans up3
    have J3 : Inv X pins σ' H' { s' with heap := h3 } := J.landed nb fl3.1 up13 os ag
    obtain ⟨oe3, vs3, he3, hz3, hd3⟩ := fl3.there
    have nfr : a ∉ frs (X.env :: X.outer) := fun hm => by
      obtain ⟨_, o', e', hnf⟩ := fl3.2.2.1.mem hm
      exact hnf _ (by rw [he3] at e'; cases e'; exact hd3)
    have nL : a ≠ X.env.locals := fun z => nfr (List.mem_filterMap.mpr ⟨X.env, List.mem_cons_self, hf.trans (congrArg some z.symm)⟩)
    have nF : a ∉ X.fs := fun hm => by
      obtain ⟨e, he, q⟩ := List.mem_filterMap.mp hm
      exact nfr (List.mem_filterMap.mpr ⟨e, List.mem_cons_of_mem _ he, q⟩)
    have S3 := J3.suite he3 hd3 na nL nF
    have LT : PySem.W.Looks (model X.prog X.w) h3 (typeOf (.ref a)) cls := fun A Q E s k q => wpAny_typeOf_ref (k _ _ he3) (hz3.1.symm ▸ q)
    have go : ∀ {hds' : List ExceptHandler} {l' : List (Value × Nat × (Addr → Value → Option Addr → TS))}, AsOk X hds' l' → wAsL X.K Wout D l' cls d σ' H' →
        wpAny (model X.prog X.w) X.A (handleBy (.ref a) X.env hds') (SP X pins D) X.xe { s' with heap := h3 } := by
      intro hds' l' hk
      induction hk with
      | nil =>
        intro w
        refine wpAny_handleBy_nil ?_
        obtain ⟨k1, k2, k3, oe, vs, T, oT, ts', he, hz, hd, h1, hr⟩ := id fl3
        unfold PySem.passOn
        refine wpAny_bind (wpAny_field he hd h1 ?_)
        rw [if_neg (show ¬ ((Value.ref T == Value.none) = true) from by simp)]
        have fin : wpAny (model X.prog X.w) X.A (setFlight (.ref a) X.env.frame) (fun _ s4 => wpAny (model X.prog X.w) X.A (throw (.ref a) : Sem Flow) (SP X pins D) X.xe s4) X.xe { s' with heap := h3 } := by
          rw [hf]
          exact HandSPX.setFlight_upZ fl3 fun h4 hh4 up4 => wpAny_throw (tk _ _ ⟨a, B, sI, pins, σ', H', cls, d, rfl, J, nb, up13.trans up4, .inr (.inr (by rw [hs]; exact hh4)), na, os, ag, w⟩)
        first
          | exact wpAny_bind (wpAny_pure (wpAny_bind fin))
          | exact wpAny_bind fin
      | @cons x n c i ts b₀ suite np pos' hds2 l2 hc hi hln hsu r ih =>
        intro w
        obtain ⟨b, hb1, hyes, hno⟩ := w
        refine wpAny_handleBy_cons (codeAny_handlers_test ?_) (by intro q; cases q)
        have LM := PySem.W.exm_one (M := model X.prog X.w) (J3.kIn) LT hb1
        have test : ∀ {Q : Value → Shared → Prop} {E : Value → Shared → Prop}, Q c { s' with heap := h3 } → wpAny (model X.prog X.w) (X.A.mark (some (.ref a))) (eval (.Name x np) X.env) Q E { s' with heap := h3 } := fun {Q E} q => by
          obtain ⟨hg, hdbg, hm | ⟨hm, hv, hnn⟩⟩ := hc
          · exact ld_glob (X := X.suite a ((a, oe3) :: (X.pn ++ pins))) S3 hg hm q hdbg
          · exact ld_blt (X := X.suite a ((a, oe3) :: (X.pn ++ pins))) S3 hg hm hv q hnn hdbg
        refine test (LM.here ?_)
        cases b with
        | true =>
          refine codeAny_handlers_suite_as ?_
          refine HandSPX.lands_againZ fl3 fun h4 fl4 up4 => ?_
          have J4 : Inv X pins σ' H' { s' with heap := h4 } := J.landed nb fl4.1 (up13.trans up4) os ag
          obtain ⟨oe4, vs4, he4, hz4, hd4⟩ := fl4.there
          have S4 := J4.suite he4 hd4 na nL nF
          refine store_ok (X := X.suite a ((a, oe4) :: (X.pn ++ pins))) (v := .ref a) S4 hN hi (.inl hln) rfl (fun s5 S5 => ?_) (.inr hln)
          refine wpAny_mono ((hsu a oe4 cls d (X.pn ++ pins) hz4 ⟨_, hd4⟩).run [] s5 _ H' _ S5 (hyes rfl a na)) (fun f s6 hsp => ?_) (fun _ _ z => False.elim z)
          have done_ : ∀ {σ6 : L2.St} {H6 : Hp} {Q : Shared → Prop}, Inv (X.suite a ((a, oe4) :: (X.pn ++ pins))) [] σ6 H6 s6 → (∀ s7, Inv X pins (σ6.set i none) H6 s7 → Q s7) →
              wpAny (model X.prog X.w) X.A (do bindName X.env n .none; unbindBehindTheSuite X.env n pos') (fun _ s7 => Q s7) X.xe s6 := fun {σ6 H6 Q} S6 hq => gone_ok (S6.unsuite ok) hN hi hln hq
          match f, hsp with
          | .next, ⟨σ6, H6, S6, q6⟩ => exact done_ S6 fun s7 J7 => ⟨_, _, J7, q6⟩
          | .brk, ⟨σ6, H6, S6, q6⟩ => exact done_ S6 fun s7 J7 => ⟨_, _, J7, q6⟩
          | .cont, ⟨σ6, H6, S6, q6⟩ => exact done_ S6 fun s7 J7 => ⟨_, _, J7, q6⟩
          | .ret u, ⟨v6, σ6, H6, S6, r6, q6⟩ => exact done_ S6 fun s7 J7 => ⟨_, _, _, J7, r6, q6⟩
        | false =>
          show wpAny _ X.A (handleBy (.ref a) X.env hds2) _ _ _
          exact ih (hno rfl)
    exact go hh w
  · match f, hsp with
    | .next, ⟨σ', H', J', q⟩ => exact wpAny_execs_nil ⟨σ', H', J'.ofTry ok, q⟩
    | .brk, ⟨σ', H', J', q⟩ => exact ⟨σ', H', J'.ofTry ok, q⟩
    | .cont, ⟨σ', H', J', q⟩ => exact ⟨σ', H', J'.ofTry ok, q⟩
    | .ret u, ⟨v, σ', H', J', r, q⟩ => exact ⟨v, σ', H', J'.ofTry ok, r, q⟩
end
end XT

namespace XT
open PySem PySem.Spec PyProof.Rows L2
/-! ### repr of data -/
mutual
/-- what the text of d may come to -/
def sc : PyData → Nat
  | .none | .bool _ => 5
  | .int _ => 1921
  | .str x => 10 * x.length + 2
  | .list xs | .tuple xs => scAll xs + 3
  | .dict _ => 2
def scAll : List PyData → Nat
  | [] => 0
  | x :: xs => sc x + 2 + scAll xs
end
mutual
/-- data whose text is known: ints not too big, dicts empty -/
def plainD : PyData → Bool
  | .none | .bool _ => true
  | .int i => decide (i.natAbs.log2 < 1920)
  | .str x => x.cps.toList.all fun c => decide (c < 16 ^ 8)
  | .list xs | .tuple xs => plainAll xs
  | .dict kvs => kvs.isEmpty
def plainAll : List PyData → Bool
  | [] => true
  | x :: xs => plainD x && plainAll xs
end
mutual
theorem plain_showable : ∀ d : PyData, plainD d = true → d.showable = true
  | .none, _ => by simp [PyData.showable]
  | .bool _, _ => by simp [PyData.showable]
  | .int i, h => by simpa [PyData.showable, plainD] using h
  | .str _, _ => by simp [PyData.showable]
  | .list xs, h => by
    simp only [PyData.showable]
    exact plainAll_showable xs (by simpa [plainD] using h)
  | .tuple xs, h => by
    simp only [PyData.showable]
    exact plainAll_showable xs (by simpa [plainD] using h)
  | .dict [], _ => by simp [PyData.showable, PyData.showableKv]
  | .dict (_ :: _), h => by simp [plainD] at h
theorem plainAll_showable : ∀ xs : List PyData, plainAll xs = true → PyData.showableAll xs = true
  | [], _ => by simp [PyData.showableAll]
  | x :: xs, h => by
    have h' : plainD x = true ∧ plainAll xs = true := by simpa [plainAll] using h
    simp only [PyData.showableAll, Bool.and_eq_true]
    exact ⟨plain_showable x h'.1, plainAll_showable xs h'.2⟩
end
mutual
theorem shown_sc : ∀ d : PyData, plainD d = true → d.shown.length ≤ sc d
  | .none, _ => by decide +kernel
  | .bool true, _ => by decide +kernel
  | .bool false, _ => by decide +kernel
  | .int i, h => by
    have e : i.natAbs.log2 < 1920 := by simpa [plainD] using h
    have := PySem.int_text_length_le (k := 1920) (by decide) e
    show (Str.ofString (toString i)).length ≤ 1921
    rw [PySem.ofString_length]
    exact this
  | .str x, h => by
    simp only [sc, PyData.shown]
    refine StrLaws.reprText_len x ?_
    unfold plainD at h
    rw [List.all_eq_true] at h
    exact fun c hc => of_decide_eq_true (h c hc)
  | .list xs, h => by
    simp only [sc, PyData.shown]
    have := shownAll_sc xs (by simpa [plainD] using h)
    have := listText_len_le (PyData.shownAll xs)
    omega
  | .tuple xs, h => by
    simp only [sc, PyData.shown]
    have := shownAll_sc xs (by simpa [plainD] using h)
    have := tupleText_len_le (PyData.shownAll xs)
    omega
  | .dict [], _ => by decide +kernel
  | .dict (_ :: _), h => by simp [plainD] at h
theorem shownAll_sc : ∀ xs : List PyData, plainAll xs = true → ((PyData.shownAll xs).map (·.length)).sum + 2 * (PyData.shownAll xs).length ≤ scAll xs
  | [], _ => by simp [PyData.shownAll, scAll]
  | x :: xs, h => by
    have h' : plainD x = true ∧ plainAll xs = true := by simpa [plainAll] using h
    have h1 := shown_sc x h'.1
    have h2 := shownAll_sc xs h'.2
    simp only [PyData.shownAll, scAll, List.map_cons, List.sum_cons, List.length_cons]
    omega
end
theorem scAll_ints (L : List Int) : scAll (L.map PyData.int) = 1923 * L.length := by
  induction L with
  | nil => rfl
  | cons x L ih => simp only [List.map_cons, scAll, ih, sc, List.length_cons]; omega
theorem log2_lt_of {m : Nat} (h : m < 2 ^ 1920) : m.log2 < 1920 := by
  by_cases e : m = 0
  · subst e
    decide
  · exact (Nat.log2_lt e).mpr h
theorem plainAll_ints {L : List Int} (h : ∀ x ∈ L, x.natAbs < 2 ^ 1920) : plainAll (L.map PyData.int) = true := by
  induction L with
  | nil => rfl
  | cons x L ih =>
    simp only [List.map_cons, plainAll, Bool.and_eq_true]
    refine ⟨?_, ih fun y hy => h y (List.mem_cons_of_mem _ hy)⟩
    simp only [plainD, decide_eq_true_eq]
    exact log2_lt_of (h x List.mem_cons_self)
/-- x stands for the data d: flat and nested lists and tuples; an empty dict alone, or second in a pair -/
def Rd (K : PySem.W.Frag) (H : Hp) (x : V) (d : PyData) : Prop :=
  (Dp K H x d ∧ d.hasDict = false) ∨ (∃ a, x = .ref a ∧ H a = some (.dK []) ∧ d = .dict []) ∨ ∃ (a b : Addr) (i : Int), x = .ref a ∧ SqT K H a [.int i, .ref b] ∧ H b = some (.dK []) ∧ d = .tuple [.int i, .dict []]
section
variable {X : Cx} {pins : List (Addr × Obj)} {σ : L2.St} {H : Hp} {s : Shared}
theorem emp_reads {a : Addr} (I : Inv X pins σ H s) (h : H a = some (.dK [])) : Reads s.heap (.ref a) (.dict []) [a] ∧ a ≠ sysModules := by
  obtain ⟨_, hs, vs, hkv, o, es, ep, ho, hx, hd, _, hp, _⟩ := I.hok a _ h
  have ev : vs = [] := by cases hkv; rfl
  subst ev
  have ee : es.toList = [] := by
    first
      | (cases hp; assumption)
      | (have := hp.length; simpa using this)
      | (generalize es.toList = l at hp; cases hp; rfl)
  refine ⟨?_, fun z => by subst z; simp at hs⟩
  have z := Reads.dict (kvs := []) (as := []) (bs := []) ho hx.1 hd (by rw [ee]; exact .nil) (by rw [ee]; exact .nil)
  simpa using z
theorem Rd.reads {x : V} {u : Value} {d : PyData} (I : Inv X pins σ H s) (h : Rd X.K H x d) (r : RelV x u) : ∃ as, Reads s.heap u d as ∧ (d.hasDict = true → sysModules ∉ as) := by
  rcases h with ⟨h, hn⟩ | ⟨a, rfl, h, rfl⟩ | ⟨a, b, i, rfl, ht, h, rfl⟩
  · obtain ⟨as, q⟩ := Dp.reads I d x u h r
    exact ⟨as, q, PyData.noDict_hsm hn⟩
  · cases r
    obtain ⟨q, ne⟩ := emp_reads I h
    exact ⟨_, q, fun _ z => ne (List.mem_singleton.mp z).symm⟩
  · cases r
    obtain ⟨q, ne⟩ := emp_reads I h
    obtain ⟨its, rv, ⟨o, ho, hc, n, hd⟩, _⟩ := I.tuple ht
    cases rv with
    | cons r1 rr =>
      cases rr with
      | cons r2 rr =>
        cases rr
        obtain ⟨t, rfl⟩ := r1
        cases r2
        refine ⟨_, Reads.tuple ho hc hd (.cons (.int i t) (.cons q .nil)), fun _ z => ?_⟩
        simp at z
        exact ne z.symm
/-- repr(x) of data -/
def rReprD (K : PySem.W.Frag) : List V → Hp → VK → Prop := fun xs H Q => ∃ x d, xs = [x] ∧ Rd K H x d ∧ plainD d = true ∧ d.depth ≤ 50 ∧ sc d ≤ 16000000 ∧ Q (.str d.shown) H
theorem call_reprD (hg : X.A.guards = some []) (hu : X.A.units + 64 < cLine) : CallR X (.builtin "repr") (rReprD X.K) := by
  intro pins s σ H xs us Q I r h
  obtain ⟨x, d, rfl, hr, hp, hd, hz, q⟩ := h
  obtain ⟨u, rfl, ru⟩ := r.one
  obtain ⟨as, hre, hsm⟩ := hr.reads I ru
  have hsz : d.shown.length ≤ sizeLine := by
    have := shown_sc d hp
    rw [sizeLine_eq]
    omega
  have fin : ∀ h' v tk, (∀ b o, s.heap.get? b = some o → h'.get? b = some o) → EP X pins σ Q (.str d.shown v) { s with heap := h', toks := tk } := fun h' v tk k => ⟨.str d.shown, H, I.kept (t' := tk) k, ⟨v, rfl⟩, q⟩
  cases hre with
  | none => exact PySem.P.repr_of_none (fin s.heap _ _ fun _ _ z => z)
  | bool b => exact PySem.P.repr_of_bool (by cases b <;> exact fin s.heap _ _ fun _ _ z => z)
  | int i t => exact PySem.P.repr_of_int (by simpa [plainD] using hp) (fin s.heap _ _ fun _ _ z => z)
  | str y t => exact PySem.P.repr_of_str (fin s.heap _ _ fun _ _ z => z) hsz
  | list h1 h2 h3 h4 => exact repr_of_reads' (.list h1 h2 h3 h4) (plain_showable _ hp) hsm hg (by omega) (fun _ _ z => z) fin hsz
  | tuple h1 h2 h3 h4 => exact repr_of_reads' (.tuple h1 h2 h3 h4) (plain_showable _ hp) hsm hg (by omega) (fun _ _ z => z) fin hsz
  | dict h1 h2 h3 h4 h5 => exact repr_of_reads' (.dict h1 h2 h3 h4 h5) (plain_showable _ hp) hsm hg (by omega) (fun _ _ z => z) fin hsz
end
end XT

namespace XT
open PySem PySem.Spec PyProof.Rows L2
/-! ### the law's call, no repr under way at its start -/
section
variable {P : Program} {w : World} {K : PySem.W.Frag} {mg mb : Str → Option Value} {CX : CXT} {k : Nat} {fa a : Addr} {sp : Sp} {s₁ : Shared} {vs : List Value} {ns : List Int}
/-- from one abstract heap: nothing but the script is tracked -/
theorem law_coreG (H : Hp) (KX : K.In s₁.heap) (hns : s₁.heap.Ns mainGlobals mg) (hb : s₁.heap.Ns builtinsNs mb) (hbb : ∀ x : Str, x ≠ "__name__" → mb x = bootBuiltins x) (hlim : s₁.heap.NoLimit) (hg : s₁.gens = #[])
    (ha : s₁.heap.get? a = some { cls := .type "list", data := .seq vs.toArray }) (hr : Room k callerA)
    (F : ∀ base : Heap, K.In base → base.Ns mainGlobals mg → FnG P w K mg base CX k fa sp)
    (hq : sp [.ref a] H (fun v _ => v = .bl true) fun _ _ _ => False) (hCX : ∀ H e s', CX [] H s₁ (fun _ _ _ => False) e s' → False)
    (hO : Only H) (hok : HOk P w H s₁.heap) (hA : ∀ b, H b ≠ none → b = a) (hK : H a ≠ none → K.lookup a = none) :
    codeAny (model P w) callerA (.call (.ref fa) ⟨[.ref a], []⟩) (fun r s' => r = .ok (.ret (.bool true)) ∧ OldK s₁.heap s'.heap ∧ s'.os = s₁.os ∧ AllBare s'.gens) s₁ := by
  have free : ∀ {b : Addr}, (b = a → False) → H b = none := fun {b} h => by
    by_cases q : H b = none
    · exact q
    · exact (h (hA b q)).elim
  have noA : ∀ {b : Addr} {o : Obj} {es : Array DictEntry} {ep : Nat}, s₁.heap.get? b = some o → o.data = .dict es ep → H b = none := fun {b o es ep} e d => free fun z => by
    subst z
    rw [ha] at e
    cases e
    have d' : Data.seq vs.toArray _ = Data.dict es ep := d
    cases d'
  have hKb : K.In (hidT s₁.heap H) := fun b o e => hidT_get (KX b o e) (by
    by_cases q : H b = none
    · exact q
    · have z := hA b q
      subst z
      rw [hK q] at e
      cases e)
  have nsK : ∀ {b : Addr} {m : Str → Option Value}, s₁.heap.Ns b m → (hidT s₁.heap H).Ns b m := fun {b m} ⟨o, es, ep, e, d, r⟩ => ⟨o, es, ep, hidT_get e (noA e d), d, r⟩
  have hM : Mod K mg (hidT s₁.heap H) := ⟨hKb, nsK hns, ⟨mb, nsK hb, hbb⟩, let ⟨mc, h1, h2⟩ := hlim; ⟨mc, nsK h1, h2⟩⟩
  have e0 : Env0 P w K mg (hidT s₁.heap H) callerA [] s₁ H := ⟨rfl, hM, fun b o e => of_hidT e, Nat.le_of_eq (hidT_size _ _), trivial, fun b hb => absurd (show b ∈ ([] : List Addr) from hb) (by simp), hok, .of_eq hg⟩
  refine codeAny_mono (F _ hKb (nsK hns) callerA [] s₁ H [.ref a] [.ref a] _ _ rfl hr e0 (.cons rfl .nil) hq) fun r s' h => ?_
  match r, h with
  | .error e, h => exact (hCX H e s' h).elim
  | .ok (.ret u), ⟨v, H', os, bare, un, hok', r', q⟩ =>
    have q' : v = .bl true := q
    subst q'
    obtain rfl : u = Value.bool true := r'
    refine ⟨rfl, OldK.of_keep fun b o e => ?_, os, bare⟩
    cases q : H b with
    | none => exact un.keep b o e q (by intro z; exact absurd (show b ∈ ([] : List Addr) from z) (by simp)) (by simp)
    | some u =>
      rcases hO b with z | ⟨ob, xs, z⟩
      · rw [q] at z
        cases z
      · obtain ⟨e1, _⟩ := hok b _ z
        obtain ⟨e2, _⟩ := hok' b _ (un.frzs b ob _ z)
        rw [e] at e1
        cases e1
        exact e2
theorem law_callG (KX : K.In s₁.heap) (hns : s₁.heap.Ns mainGlobals mg) (hb : s₁.heap.Ns builtinsNs mb) (hbb : ∀ x : Str, x ≠ "__name__" → mb x = bootBuiltins x) (hlim : s₁.heap.NoLimit) (hg : s₁.gens = #[])
    (ha : s₁.heap.get? a = some { cls := .type "list", data := .seq vs.toArray }) (hi : IntsAre vs ns) (hl : ns.length ≤ sizeLine) (hr : Room k callerA)
    (F : ∀ base : Heap, K.In base → base.Ns mainGlobals mg → FnG P w K mg base CX k fa sp)
    (hsp : ∀ H : Hp, Only H → SqL K H a (ns.map V.int) → sp [.ref a] H (fun v _ => v = .bl true) fun _ _ _ => False)
    (hCX : ∀ H e s', CX [] H s₁ (fun _ _ _ => False) e s' → False) :
    codeAny (model P w) callerA (.call (.ref fa) ⟨[.ref a], []⟩) (fun r s' => r = .ok (.ret (.bool true)) ∧ OldK s₁.heap s'.heap ∧ s'.os = s₁.os ∧ AllBare s'.gens) s₁ := by
  have rv := vals_ints hi
  have lenV := hi.length
  cases hk : K.lookup a with
  | some o =>
    have e := KX a o hk
    rw [ha] at e
    cases e
    have hO : Only fun _ => none := fun _ => .inl rfl
    exact law_coreG (fun _ => none) KX hns hb hbb hlim hg ha hr F (hsp _ hO (.inr ⟨_, vs.toArray, _, hk, rfl, rfl, rfl, by rw [List.size_toArray, lenV]; exact hl, by simpa using rv⟩)) hCX hO (fun b u z => nomatch (show (none : Option HO) = some u from z)) (fun b z => absurd rfl z) fun z => absurd rfl z
  | none =>
    let o : HO := .frz { cls := .type "list", data := .seq vs.toArray } (.lst (ns.map V.int))
    let H : Hp := fun b => if b = a then some o else none
    have at_ : H a = some o := if_pos rfl
    have off : ∀ {b}, b ≠ a → H b = none := fun h => if_neg h
    have hO : Only H := fun b => by
      by_cases e : b = a
      · subst e
        exact .inr ⟨_, _, at_⟩
      · exact .inl (off e)
    refine law_coreG H KX hns hb hbb hlim hg ha hr F (hsp H hO (.inl (.inr ⟨_, at_⟩))) hCX hO (fun b u z => ?_) (fun b z => ?_) fun _ => hk
    · by_cases e : b = a
      · subst e
        rw [at_] at z
        cases z
        exact ⟨ha, by rw [List.length_map]; exact hl, vs, _, rv, ha⟩
      · rw [off e] at z
        cases z
    · by_cases e : b = a
      · exact e
      · exact absurd (off e) z
end
/-- the goal of the head, from the law's promise -/
theorem walkG {l : PySem.W.OpenLaw} {n k : Nat} {q : Program} {loose : List Str} {XP : (Str → Option Value) → Heap → Prop} {YP : World → Heap → Prop} {d : DefRec} {K : Params → PySem.W.Frag} {CX : World → CXT} {sp : World → Sp}
    (hn : l.most = some n) (hn2 : n ≤ sizeLine) (hdf : d.params.defaults = []) (hr : Room k callerA)
    (hY : ∀ (w : World) (h : Heap), YP w h → (K w.params).In h)
    (F : ∀ (w : World) (mg : Str → Option Value) (fa : Addr) (h : Heap), (K w.params).In h → h.Ns mainGlobals mg → mg d.name = some (.ref fa) →
      ∀ base : Heap, (K w.params).In base → base.Ns mainGlobals mg → FnG l.prog w (K w.params) mg base (CX w) k fa (sp w))
    (hsp : ∀ (w : World) (H : Hp) (a : Addr) (ns : List Int), ns.length ≤ n → Only H → SqL (K w.params) H a (ns.map V.int) → sp w [.ref a] H (fun v _ => v = .bl true) fun _ _ _ => False)
    (hCX : ∀ (w : World) (H : Hp) (s : Shared) (e : Value) (s' : Shared), CX w [] H s (fun _ _ _ => False) e s' → False) :
    PySem.W.WalkO q loose XP YP l.row.toRowW d [] (fun f vs => PySem.call f vs) := by
  refine Att.attach_call hn hdf fun w s₀ s₁ mg mb fa o pm cd doc a vs ns G Y ho hd hcd hmg hobj hints hlen hg => ?_
  have KX := hY w _ Y
  exact law_callG KX G.T.g G.T.b G.T.builtins G.T.nolimit hg hobj hints (Nat.le_trans hlen hn2) hr (F w mg fa _ KX G.T.g hmg) (fun H hO hS => hsp w H a ns hlen hO hS) fun H e s' => hCX w H s₁ e s'
end XT

namespace XT
open PySem PySem.Spec PyProof.Rows L2
/-! ### own errors that keep one field -/
section
variable {X : Cx}
/-- isinstance(e, c), e the exception that the suite holds, with a dict of its own -/
def rIsED (K : PySem.W.Frag) (D a : Addr) (cls : Value) (d : Option Addr) : List V → Hp → VK → Prop := fun xs H Q => ∃ (c : V) (cv : Value) (b : Bool) (dd : Addr) (fs : List (Str × V)), xs = [.ref a, c] ∧ cls = .ref D ∧ (∀ u, RelV c u → u = cv) ∧ d = some dd ∧ H dd = some (.xd fs) ∧ PySem.W.kitOne K (.ref D) cv = some b ∧ Q (.bl b) H
theorem call_isED {a D : Addr} {oe : Obj} {cls : Value} {d : Option Addr} {pn : List (Addr × Obj)} (C : ExcC X.K D) (hz : Zc cls d oe) (hf : ∃ vs, oe.data = .fields vs) : CallR (X.suite a ((a, oe) :: pn)) (.builtin "isinstance") (rIsED X.K D a cls d) := by
  intro pins s σ H xs us Q I r h
  obtain ⟨c, cv, b, dd, fs, rfl, rfl, hcv, rfl, ed, e, q⟩ := h
  cases r with
  | cons rx rr =>
    cases rr with
    | cons rt rr =>
      cases rr
      cases rx
      have ec := hcv _ rt
      subst ec
      obtain ⟨hget, _⟩ := I.pin (a, oe) (List.mem_append.mpr (.inl List.mem_cons_self))
      obtain ⟨vs, hv⟩ := hf
      obtain ⟨mA, hns, hr⟩ := show ∃ mA, s.heap.Ns1 dd mA ∧ ∀ f, RelO (fs.lookup f) (mA f) from I.hok dd _ ed
      obtain ⟨od, ho, _⟩ := lookIn_ns hns
      have J : PySem.W.InstAt s.heap a oe D (some od) := ⟨hget, hz.1, by unfold PySem.W.notCls; rw [hv] <;> rfl, by rw [hz.2]; exact ho⟩
      have hc : (PySem.W.clsIn X.K D).isSome = true := by
        obtain ⟨cd, hc, _⟩ := PySem.W.any_some C.hd
        rw [hc]
        rfl
      exact PySem.W.kia_one (PySem.W.kitx_exc hc C.hg C.hk C.hs C.ha C.hn C.ht C.hm) I.kIn J e (fun z => nomatch z) fun tk => ⟨.bl b, H, I.kept (t' := tk) fun _ _ z => z, rfl, q⟩
end
/-- the __init__ of such an error: self.f = v -/
def spErr (f : Str) (C : Addr) : Sp := fun vs H Q _ => ∃ (a : Addr) (v : V), vs = [.ref a, v] ∧ H a = some (exo a C none) ∧ ∀ d, H d = none → d ≠ a → Q .non (upd (upd H d (exd d [(f, v)])) a (exo a C (some d)))
/-- what the written part says of such an error -/
structure ErrC (K : PySem.W.Frag) (C fI : Addr) (f : Str) : Prop where
  oex : OexC K C
  iC : PySem.W.findIn K (.ref C) "__init__" = some (some (.ref fI))
  tI : PySem.W.typeIn K (.ref fI) = some (.type "function")
  no : PySem.W.findIn K (.ref C) f = some none
  ga : PySem.W.findIn K (.ref C) "__getattribute__" = some (some (.builtin "BaseException.__getattribute__"))
  gg : PySem.W.findIn K (.ref C) "__getattr__" = some none
  hd : PySem.W.hasDictIn K C = true
  ha : PySem.W.findIn K (.ref C) "__class__" = some (some (.builtin "object.__class__"))
  hn : PySem.W.specialIn K (.builtin "object.__class__") "__get__" = some (some (.builtin "getset_descriptor.__get__"))
  ht : PySem.W.takesIn K (.builtin "object.__class__") = some true
  hm : PySem.W.mroIn K C (.type "object") = some true
theorem ErrC.xf {K : PySem.W.Frag} {C fI : Addr} {f : Str} (T : ErrC K C fI f) : XfC K C := ⟨T.ga, T.gg, T.oex.exC, T.hd⟩
theorem ErrC.exc {K : PySem.W.Frag} {C fI : Addr} {f : Str} (T : ErrC K C fI f) : ExcC K C := ⟨T.ga, T.gg, T.oex.exC, T.hd, T.ha, T.hn, T.ht, T.hm⟩
theorem made_same {H : Hp} {a d C : Addr} {f : Str} {v : V} (ha : H a = none) (hd : d ≠ a) :
    upd (del (upd (upd (upd H a (exo a C none)) d (exd d [(f, v)])) a (exo a C (some d))) a) d (.xd [(f, v)]) = upd H d (.xd [(f, v)]) := by
  funext b
  by_cases e1 : b = d
  · subst e1
    rw [upd_same, upd_same]
  · rw [upd_ne e1, upd_ne e1]
    by_cases e2 : b = a
    · subst e2
      rw [del_same, ha]
    · rw [del_ne e2, upd_ne e2, upd_ne e1, upd_ne e2]
section
variable {X : Cx}
/-- C(e), the error made -/
def tErr (C : Addr) (f : Str) (te : TE) : L2.St → Hp → XK → Prop := fun σ H Q => te σ H fun v H1 => tMkO C (spErr f C) [] (fun _ H Q => Q [v] H) σ H1 Q
theorem err_rd {C : Addr} {f : Str} {v : V} {σ : L2.St} {H : Hp} {Q : XK} (h : ∀ d, H d = none → Q (.ref C) (some d) (upd H d (.xd [(f, v)]))) : tMkO C (spErr f C) [] (fun _ H Q => Q [v] H) σ H Q := by
  refine ⟨by simp, fun a ha => ⟨a, v, rfl, upd_same, fun d hd hne => ⟨rfl, d, [(f, v)], upd_same, ?_, ?_, ?_⟩⟩⟩
  · rw [upd_ne hne, upd_same]
  · rw [upd_ne hne] at hd
    exact hd
  · have hd' : H d = none := by
      rw [upd_ne hne] at hd
      exact hd
    rw [made_same ha hne]
    exact h d hd'
theorem pmk_err {x : Str} {C fI : Addr} {f : Str} {k : Nat} {fd : FuncData} {ps : List Str} {e : Expr} {te : TE} {p pos : Pos} (T : ErrC X.K C fI f) (F1 : FnOk X.prog X.w X.K X.mg X.base CX0 k fI fd ps (spErr f C)) (hb : Binds X.K fd ps []) (hr : Room (k + 1) X.A)
    (hg : Gl X x) (hm : X.mg x = some (.ref C)) (he : PE X e te) (hdb : (x == ("__debug__" : Str)) = false := by decide)
    (hs : starEach [e] X.env = (false, eval e X.env) :: starEach [] X.env := by rfl) (hpl : (backTo pos (starEach [] X.env)).any (·.1) = false := by rfl) :
    PMk X (.Call (.Name x p) [e] [] pos) (tErr C f te) :=
  pmk_oex T.oex T.iC T.tI F1 hr hb .nil pass0 hg hm (pa_cons he pa_nil hs) hdb hs hpl
/-- raise C(e) in a def -/
theorem ps_raiseE {W : WX} {x : Str} {C fI : Addr} {f : Str} {k : Nat} {fd : FuncData} {ps : List Str} {e : Expr} {te : TE} {p pos rpos : Pos} (T : ErrC X.K C fI f) (F1 : FnOk X.prog X.w X.K X.mg X.base CX0 k fI fd ps (spErr f C)) (hb : Binds X.K fd ps []) (hr : Room (k + 1) X.A)
    (hm : X.mg x = some (.ref C)) (hc : X.calm = true) (tk : Takes X W) (he : PE X e te) (hg : Gl X x := by rfl) (hdb : (x == ("__debug__" : Str)) = false := by decide)
    (hs : starEach [e] X.env = (false, eval e X.env) :: starEach [] X.env := by rfl) (hpl : (backTo pos (starEach [] X.env)).any (·.1) = false := by rfl) :
    PS X (.Raise (some (.Call (.Name x p) [e] [] pos)) none rpos) (fun _ σ H => tErr C f te σ H fun cls d H' => W cls d σ H') :=
  ps_raise hc tk (pmk_err T F1 hb hr hg hm he hdb hs hpl)
end
end XT

namespace XT
open PySem PySem.Spec PyProof.Rows L2
section
variable {P : Program} {w : World} {K : PySem.W.Frag} {mg : Str → Option Value} {base : Heap} {CX : CXT} {j k : Nat} {f : Addr} {sp sp' : Sp}
/-- a def that lets nothing out, where something may be let out -/
theorem fnR_lift (F : FnR P w K mg base CX0 k f sp) : FnR P w K mg base CX k f sp := fun A outer s H us vs Q E hr e0 r hs =>
  codeAny_mono (F A outer s H us vs Q E hr e0 r hs) fun r s' h => by
    match r, h with
    | .ok (.ret u), h => exact h
    | .error e, h => exact False.elim h
theorem fnR_or (F : FnR P w K mg base CX k f sp) (G : FnR P w K mg base CX k f sp') : FnR P w K mg base CX k f (fun vs H Q E => sp vs H Q E ∨ sp' vs H Q E) := fun A outer s H us vs Q E hr e0 r hs =>
  hs.elim (fun h => F A outer s H us vs Q E hr e0 r h) (fun h => G A outer s H us vs Q E hr e0 r h)
end
/-- what a call in a try may let out: told for all slots -/
theorem passAll {X : Cx} {W : WX} (tk : Takes X W) (n : Nat) (hn : X.N.length = n) : Passes (L2.CX X.prog X.w) X (fun cls d H => ∀ σ : L2.St, σ.length = n → W cls d σ H) :=
  fun _ σ _ _ e s' I c => tk e s' (XE.of_call I (fun _ _ _ h => h σ (I.len.trans hn)) c)
mutual
theorem dp_same {K : PySem.W.Frag} {H H' : Hp} (s : Same H H') : ∀ (d : PyData) (v : V), Dp K H v d → Dp K H' v d
  | .none, _, h => by cases h; exact .non
  | .bool b, _, h => by cases h; exact .bl b
  | .int i, _, h => by cases h; exact .int i
  | .str x, _, h => by cases h; exact .str x
  | .list ds, _, h => by
    cases h with
    | lst hs ha => exact .lst (s.seq hs) (dpAll_same s ds _ ha)
  | .tuple ds, _, h => by
    cases h with
    | tup hs ha => exact .tup (same_seqT s hs) (dpAll_same s ds _ ha)
  | .dict _, _, h => by cases h
theorem dpAll_same {K : PySem.W.Frag} {H H' : Hp} (s : Same H H') : ∀ (ds : List PyData) (vs : List V), DpAll K H vs ds → DpAll K H' vs ds
  | [], _, h => by cases h; exact .nil
  | d :: ds, _, h => by
    cases h with
    | cons h1 h2 => exact .cons (dp_same s d _ h1) (dpAll_same s ds _ h2)
end
theorem rd_same {K : PySem.W.Frag} {H H' : Hp} (s : Same H H') {v : V} {d : PyData} (h : Rd K H v d) : Rd K H' v d := by
  rcases h with ⟨h, n⟩ | ⟨a, e, h, e2⟩ | ⟨a, b, i, e, h1, h2, e2⟩
  · exact .inl ⟨dp_same s d v h, n⟩
  · exact .inr (.inl ⟨a, e, s _ _ h, e2⟩)
  · exact .inr (.inr ⟨a, b, i, e, same_seqT s h1, s _ _ h2, e2⟩)
/-- data whose text may be asked for -/
structure Okd (d : PyData) : Prop where
  pl : plainD d = true
  dp : d.depth ≤ 50
  sz : sc d ≤ 16000000
theorem repr_rd {K : PySem.W.Frag} {x : V} {d : PyData} {H : Hp} {Q : VK} (h : Rd K H x d) (o : Okd d) (q : Q (.str d.shown) H) : rReprD K [x] H Q := ⟨x, d, rfl, h, o.pl, o.dp, o.sz, q⟩
section
variable {X : Cx} (K : PySem.W.Frag)
theorem reprKx (hg : X.A.guards = some []) (hu : X.A.units + 64 < cLine) (hK : X.K = K := by rfl) : CallR X (.builtin "repr") (rReprD K) := by
  subst hK
  exact call_reprD hg hu
theorem isEKx {a D : Addr} {oe : Obj} {cls : Value} {d : Option Addr} {pn : List (Addr × Obj)} (C : ExcC K D) (hz : Zc cls d oe) (hf : ∃ vs, oe.data = .fields vs) (hK : X.K = K := by rfl) : CallR (X.suite a ((a, oe) :: pn)) (.builtin "isinstance") (rIsED K D a cls d) := by
  subst hK
  exact call_isED C hz hf
end
section
variable {X : Cx}
/-- f(e, ..), f an expression that gives a tracked instance of C -/
def tCallI (C : Addr) (sp : Sp) (E : XK) (tf : TE) (t : TA) : TE := fun σ H Q => tf σ H fun y H1 => ∃ a, y = V.ref a ∧ t σ H1 fun vs H2 => InsA H2 a C ∧ sp (V.ref a :: vs) H2 Q E
theorem pe_callI {CX : CXT} {C : Addr} {k : Nat} {sp : Sp} {E : XK} {fe e : Expr} {es : List Expr} {tf : TE} {t : TA} {pos : Pos} {g : Addr} (hf : PE X fe tf) (c : StX.CallO X.K C g) (F : FnR X.prog X.w X.K X.mg X.base CX k g sp) (hr : Room k X.A) (hx : Passes CX X E) (ha : PA X (e :: es) t)
    (ht : eval (.Call fe (e :: es) [] pos) X.env = (do callWith pos (← eval fe X.env) [] (backTo pos (starEach (e :: es) X.env)) (backToKw pos (keywordEach [] X.env))) := by rfl)
    (he : starEach (e :: es) X.env = (false, eval e X.env) :: starEach es X.env := by rfl) (hpl : (backTo pos (starEach es X.env)).any (·.1) = false := by rfl) : PE X (.Call fe (e :: es) [] pos) (tCallI C sp E tf t) := by
  refine ⟨fun pins s σ H Q I h => ?_⟩
  refine Call_ (thn (hf.run pins s σ H _ I h) fun u s1 ⟨y, H1, I1, ry, a, ey, q⟩ => ?_) ht
  subst ey
  obtain rfl : u = Value.ref a := ry
  refine StX.callO_with (thn (ha.run pos pins s1 σ H1 _ I1 q) fun us s2 ⟨vs, H2, I2, r, hi, q2⟩ => ?_) he hpl
  have hi' : StX.InsC X H2 a C := let ⟨dx, fs, h⟩ := hi; .inr ⟨dx, fs, h⟩
  obtain ⟨ox, od, J, hd⟩ := StX.insC_at I2 hi'
  exact ⟨⟨C, ox, od, J, hd⟩, StX.run_callO c F hr hx I2 hi' r q2⟩
/-- f(e, ..), f a global def with a promise where no repr is under way -/
theorem pe_callG {CX : CXT} {k : Nat} {f : Addr} {sp : Sp} {E : XK} {x : Str} {e : Expr} {es : List Expr} {t : TA} {p pos : Pos} (F : FnG X.prog X.w X.K X.mg X.base CX k f sp) (hgu : X.A.guards = some []) (hr : Room k X.A) (hg : Gl X x) (hm : X.mg x = some (.ref f)) (hk : PySem.W.keepIn X.K (.ref f) = true) (hx : Passes CX X E) (ha : PA X (e :: es) t) (hd : (x == ("__debug__" : Str)) = false := by decide)
    (he : starEach (e :: es) X.env = (false, eval e X.env) :: starEach es X.env := by rfl) (hst : (backTo pos (starEach es X.env)).any (·.1) = false := by rfl) :
    PE X (.Call (.Name x p) (e :: es) [] pos) (tCallR sp E t) := by
  refine ⟨fun pins s σ H Q I h => ?_⟩
  refine wpAny_Call_Name_kw (ld_glob I hg hm ?_ hd)
  refine PySem.W.callWith_K (h₀ := X.base) I.ok.mod.kin hk (thn (ha.run pos pins s σ H _ I h) fun us s1 ⟨vs, H1, I1, r, q⟩ => ⟨I1.kIn, ?_⟩) he hst
  refine wpAny_call (codeAny_mono (F X.A X.stack s1 H1 us vs Q E hgu hr I1.env0 r q) fun r s' hq => ?_)
  match r, hq with
  | .error e, hq => exact hx pins σ H1 s1 e s' I1 hq
  | .ok (.ret u), hq => exact I1.after hq
end
end XT

namespace XT
open PySem PySem.Spec PyProof.Rows L2
section
variable {X : Cx} (K : PySem.W.Frag)
/-- x == y, x of an own class with __eq__, y of another type -/
def rOwnEo (K : PySem.W.Frag) (C : Addr) (sp : Sp) (E : XK) : R2 := fun x y H Q => ∃ a t, x = .ref a ∧ InsA H a C ∧ TyX K H y t ∧ PySem.W.notFirst K C t = true ∧ sp [x, y] H Q E
theorem op_ownEo {CX : CXT} {n : Nat} {C g : Addr} {sp : Sp} {E : XK} (hs : PySem.W.findIn X.K (.ref C) "__eq__" = some (some (.ref g))) (hf : PySem.W.isFn X.K (.ref g) = true) (F : FnR X.prog X.w X.K X.mg X.base CX n g sp)
    (hr : Room n X.A) (hx : Passes CX X E) : OpR X (compareOp .Eq) (rOwnEo X.K C sp E) := by
  intro pins s σ H x y v u Q I rx ry h
  obtain ⟨a, t, rfl, ha, ht, hn, q⟩ := h
  cases (show v = Value.ref a from rx)
  obtain ⟨ox, od, J⟩ := insA_at I ha
  obtain ⟨Z, kz, hz, _⟩ := kit_of I ry ht
  obtain ⟨m, hF⟩ := I.fr
  show wpAny _ _ (richCompare .Eq _ _) _ _ _
  refine PySem.W.cmp_K (op := .Eq) (tb := t) hr.units0 hF I.ok.mod.kin J (kz.ty _ _ I.kIn hz) hn hs hf ?_
  refine wpAny_mono (wpAny_call (run_fnR (us := [.ref a, u]) (vs := [.ref a, y]) F hr hx I (.cons rfl (.cons ry .nil)) q)) (fun w s' z => ?_) fun _ _ x => x
  obtain ⟨z', H', I', rz, qz⟩ := z
  exact SlX.cmpback rz ⟨z', H', I', rz, qz⟩
theorem op_ownEoK {CX : CXT} {n : Nat} {C g : Addr} {sp : Sp} {E : XK} (hs : PySem.W.findIn K (.ref C) "__eq__" = some (some (.ref g))) (hf : PySem.W.isFn K (.ref g) = true) (F : FnR X.prog X.w K X.mg X.base CX n g sp)
    (hr : Room n X.A) (hx : Passes CX X E) (hK : X.K = K := by rfl) : OpR X (compareOp .Eq) (rOwnEo K C sp E) := by
  subst hK
  exact op_ownEo hs hf F hr hx
/-- not x, x of an own class with __bool__ -/
def tNotO (C : Addr) (sp : Sp) (E : XK) (ta : TE) : TE := fun σ H Q => ta σ H fun x H1 => ∃ a, x = .ref a ∧ InsA H1 a C ∧ sp [x] H1 (fun z H2 => ∃ b, z = .bl b ∧ Q (.bl (!b)) H2) E
theorem pe_notO {CX : CXT} {n : Nat} {C g : Addr} {sp : Sp} {E : XK} {e : Expr} {pos : Pos} {ta : TE} (he : PE X e ta) (hs : PySem.W.findIn X.K (.ref C) "__bool__" = some (some (.ref g))) (hf : PySem.W.isFn X.K (.ref g) = true)
    (F : FnR X.prog X.w X.K X.mg X.base CX n g sp) (hr : Room n X.A) (hx : Passes CX X E) : PE X (.UnaryOp .Not e pos) (tNotO C sp E ta) := by
  refine ⟨fun pins s σ H Q I h => ?_⟩
  refine UnaryOp_ (thn (he.run pins s σ H _ I h) fun v s1 ⟨x, H1, I1, r1, q1⟩ => ?_)
  obtain ⟨a, rfl, ha, q⟩ := q1
  cases (show v = Value.ref a from r1)
  obtain ⟨ox, od, J⟩ := insA_at I1 ha
  refine not_of ?_
  unfold truthy
  refine wpAny_bind (m := callSpecial? (.ref a) (Str.ofString "__bool__")) (PySem.W.special_fn I1.kIn J hs (beq_iff_eq.mp hf) (wpAny_mono (wpAny_call (run_fnR (us := [.ref a]) (vs := [.ref a]) F hr hx I1 (.cons rfl .nil) q)) (fun r s' hr => ?_) fun _ _ y => y))
  obtain ⟨z, H', I', rz, b, rfl, hq⟩ := hr
  cases (show r = Value.bool b from rz)
  exact wpAny_pure ⟨.bl (!b), H', I', rfl, hq⟩
end
/-- isinstance of a value of another type -/
theorem kit_other {K : PySem.W.Frag} {C : Addr} {n : String} {b : Bool} (hc : (PySem.W.clsIn K C).isSome = true) (ht : PySem.W.typeIn K (.ref C) = some (.type "type")) (hs : PySem.W.subIn K (.type n) (.ref C) = some b) : PySem.W.kitOne K (.type n) (.ref C) = some b := by
  simp [PySem.W.kitOne, PySem.W.kitCls, hc, ht, hs]
theorem kit_sub {K : PySem.W.Frag} {B C : Addr} (hc : (PySem.W.clsIn K C).isSome = true) (ht : PySem.W.typeIn K (.ref C) = some (.type "type")) (hs : PySem.W.subIn K (.ref B) (.ref C) = some true) : PySem.W.kitOne K (.ref B) (.ref C) = some true := by
  simp [PySem.W.kitOne, PySem.W.kitCls, hc, ht, hs]
end XT

namespace XT
open PySem PySem.Spec PyProof.Rows L2
/-! ### the characters of a text of data are characters -/
theorem ok_of (s : String) : PyData.strOk (Str.ofString s) = true := by
  unfold PyData.strOk
  rw [Str.ofString_eq_toList]
  simp only [List.all_toArray, List.all_map, List.all_eq_true]
  intro c _
  have h : c.toNat < 0x110000 := by
    have := c.valid
    unfold UInt32.isValidChar Nat.isValidChar at this
    have e : c.toNat = c.val.toNat := rfl
    omega
  exact decide_eq_true h
theorem ok_app {x y : Str} (h : PyData.strOk x = true) (k : PyData.strOk y = true) : PyData.strOk (x ++ y) = true := by
  unfold PyData.strOk at *
  show (x.cps ++ y.cps).all _ = true
  rw [Array.all_append, h, k]
  rfl
theorem ok_textFrom : ∀ (ts : List Str) (k : Nat) (acc : Str), (∀ t ∈ ts, PyData.strOk t = true) → PyData.strOk acc = true → PyData.strOk (textFrom k acc ts) = true
  | [], _, _, _, h => h
  | t :: ts, k, acc, ht, h => by
    refine ok_textFrom ts (k + 1) _ (fun u hu => ht u (List.mem_cons_of_mem _ hu)) (ok_app (ok_app h ?_) (ht t List.mem_cons_self))
    exact ok_of _
theorem ok_listText {ts : List Str} (h : ∀ t ∈ ts, PyData.strOk t = true) : PyData.strOk (listText ts) = true := ok_app (ok_textFrom ts 0 _ h (ok_of "[")) (ok_of "]")
theorem ok_join {sep : Str} (hs : PyData.strOk sep = true) : ∀ (ts : List Str), (∀ t ∈ ts, PyData.strOk t = true) → PyData.strOk (Str.join sep ts) = true
  | [], _ => (by decide +kernel : PyData.strOk Str.empty = true)
  | [x], h => h x List.mem_cons_self
  | x :: y :: r, h => ok_app (ok_app (h x List.mem_cons_self) hs) (ok_join hs (y :: r) fun t ht => h t (List.mem_cons_of_mem _ ht))
theorem ok_tupleText {ts : List Str} (h : ∀ t ∈ ts, PyData.strOk t = true) : PyData.strOk (tupleText ts) = true := ok_app (ok_app (ok_of "(") (ok_join (ok_of ", ") ts h)) (ok_of _)
mutual
/-- the texts in d are of characters, also written out -/
def txD : PyData → Bool
  | .none | .bool _ | .int _ => true
  | .str x => PyData.strOk (reprText x)
  | .list xs | .tuple xs => txAll xs
  | .dict kvs => kvs.isEmpty
def txAll : List PyData → Bool
  | [] => true
  | x :: xs => txD x && txAll xs
end
mutual
theorem ok_shown : ∀ d : PyData, txD d = true → PyData.strOk d.shown = true
  | .none, _ => by decide +kernel
  | .bool true, _ => by decide +kernel
  | .bool false, _ => by decide +kernel
  | .int i, _ => ok_of _
  | .str x, h => by simpa [txD, PyData.shown] using h
  | .list xs, h => by
    simp only [PyData.shown]
    exact ok_listText (ok_shownAll xs (by simpa [txD] using h))
  | .tuple xs, h => by
    simp only [PyData.shown]
    exact ok_tupleText (ok_shownAll xs (by simpa [txD] using h))
  | .dict [], _ => by decide +kernel
  | .dict (_ :: _), h => by simp [txD] at h
theorem ok_shownAll : ∀ xs : List PyData, txAll xs = true → ∀ t ∈ PyData.shownAll xs, PyData.strOk t = true
  | [], _, t, ht => by simp [PyData.shownAll] at ht
  | x :: xs, h, t, ht => by
    have h' : txD x = true ∧ txAll xs = true := by simpa [txAll] using h
    simp only [PyData.shownAll, List.mem_cons] at ht
    rcases ht with rfl | ht
    · exact ok_shown x h'.1
    · exact ok_shownAll xs h'.2 t ht
end
theorem txAll_ints (L : List Int) : txAll (L.map PyData.int) = true := by
  induction L with
  | nil => rfl
  | cons x L ih => simp only [List.map_cons, txAll, txD, ih, Bool.and_self]
/-- comparing shaped data with itself -/
theorem ne_self {d : PyData} (h : SeqAt.shaped d = true) : (!PyData.eqv d d) = false := by rw [SeqAt.eqv_refl d (SeqAt.canLay_of_shaped h)]; rfl
theorem sh_told {w x : Str} (hw : PyData.strOk w = true) (hx : PyData.strOk x = true) (b : Bool) : SeqAt.shaped (.list [.str w, .str x, .bool b]) = true := by
  simp [SeqAt.shaped, PyData.canLay0, PyData.canLayAll0, PyData.depth, PyData.depthAll, hw, hx]
theorem dp_told {K : PySem.W.Frag} {H : Hp} {r : Addr} {w x : Str} {b : Bool} (h : H r = some (.lst [.str w, .str x, .bl b])) : Dp K H (.ref r) (.list [.str w, .str x, .bool b]) := .lst (SqL.of h) (.cons (.str w) (.cons (.str x) (.cons (.bl b) .nil)))
theorem canLay_ints : ∀ L : List Int, PyData.canLayAll0 (L.map PyData.int) = true
  | [] => rfl
  | x :: L => by simp [PyData.canLayAll0, PyData.canLay0, canLay_ints L]
theorem depth_ints : ∀ L : List Int, PyData.depthAll (L.map PyData.int) = 0
  | [] => rfl
  | x :: L => by simp [PyData.depthAll, PyData.depth, depth_ints L]
theorem sh_three (s g : Int) (L : List Int) : SeqAt.shaped (.list [.int s, .tuple (L.map PyData.int), .int g]) = true := by
  simp [SeqAt.shaped, PyData.canLay0, PyData.canLayAll0, PyData.depth, PyData.depthAll, canLay_ints, depth_ints]
theorem sh_tab (w : Str) (hw : PyData.strOk w = true) (s : Int) (L : List Int) : SeqAt.shaped (.list [.str w, .int s, .tuple (L.map PyData.int)]) = true := by
  simp [SeqAt.shaped, PyData.canLay0, PyData.canLayAll0, PyData.depth, PyData.depthAll, canLay_ints, depth_ints, hw]
theorem sh_pair {w x : Str} (hw : PyData.strOk w = true) (hx : PyData.strOk x = true) (b : Bool) : SeqAt.shaped (.list [.list [.str w, .str x, .bool b], .list [.str w, .str x, .bool b]]) = true := by
  simp [SeqAt.shaped, PyData.canLay0, PyData.canLayAll0, PyData.depth, PyData.depthAll, hw, hx]
/-- one statement, the rest cut off behind it -/
theorem seq_cut2 {t u : TS} {D : Ends} {σ : L2.St} {H : Hp} (G : L2.St → Hp → Prop) (h : ∀ N : L2.St → Hp → Prop, (∀ σ' H', G σ' H' → N σ' H') → t { D with nx := N } σ H) (k : ∀ σ' H', G σ' H' → u D σ' H') : tSeq t u D σ H := h (u D) k
theorem next_go {D : Ends} {σ : L2.St} {H : Hp} (h : D.nx σ H) : tNext D σ H := h
theorem seq_cut {t u : TS} {D : Ends} {σ : L2.St} {H : Hp} (G : Hp → Prop) (h : ∀ N : L2.St → Hp → Prop, (∀ H', G H' → N σ H') → t { D with nx := N } σ H) (k : ∀ H', G H' → u D σ H') : tSeq t u D σ H := h (u D) k
end XT

namespace Tbl
/-- how many are at most c -/
def cnt (L : List Int) (c : Int) : Int := ((L.countP fun x => decide (x ≤ c) : Nat) : Int)
abbrev Asc (L : List Int) : Prop := L.Pairwise (· < ·)
abbrev Up (L : List Int) : Prop := L.Pairwise (· ≤ ·)
def Pos (L : List Int) : Prop := ∀ x ∈ L, 1 ≤ x
def bnds : Nat → List Int → List Int
  | _, [] => []
  | i, x :: L => (x - (i : Int)) :: bnds (i + 1) L
def kr (L : List Int) (p : Int) : Int := p + cnt (bnds 0 L) p
def mp (s : Int) (L : List Int) (c : Int) : Int := s + c - cnt L c
theorem cnt_nil (c : Int) : cnt [] c = 0 := rfl
theorem cnt_cons (x : Int) (L : List Int) (c : Int) : cnt (x :: L) c = (if x ≤ c then 1 else 0) + cnt L c := by
  unfold cnt
  rw [List.countP_cons]
  by_cases h : x ≤ c
  · simp [h]; omega
  · simp [h]
theorem cnt_nn (L : List Int) (c : Int) : 0 ≤ cnt L c := Int.natCast_nonneg _
theorem cnt_le_len (L : List Int) (c : Int) : cnt L c ≤ L.length := by
  unfold cnt
  exact Int.ofNat_le.mpr List.countP_le_length
theorem cnt_mono (L : List Int) {c d : Int} (h : c ≤ d) : cnt L c ≤ cnt L d := by
  induction L with
  | nil => exact Int.le_refl _
  | cons x L ih =>
    rw [cnt_cons, cnt_cons]
    by_cases h1 : x ≤ c
    · rw [if_pos h1, if_pos (Int.le_trans h1 h)]; omega
    · rw [if_neg h1]; split <;> omega
theorem cnt_zero {L : List Int} {c : Int} (h : ∀ x ∈ L, c < x) : cnt L c = 0 := by
  induction L with
  | nil => rfl
  | cons x L ih =>
    rw [cnt_cons, if_neg (by have := h x (List.mem_cons_self ..); omega), ih fun y hy => h y (List.mem_cons_of_mem _ hy)]
    rfl
theorem cnt_all {L : List Int} {c : Int} (h : ∀ x ∈ L, x ≤ c) : cnt L c = L.length := by
  induction L with
  | nil => rfl
  | cons x L ih =>
    rw [cnt_cons, if_pos (h x (List.mem_cons_self ..)), ih fun y hy => h y (List.mem_cons_of_mem _ hy), List.length_cons]
    omega
theorem cnt_append (L M : List Int) (c : Int) : cnt (L ++ M) c = cnt L c + cnt M c := by
  unfold cnt
  rw [List.countP_append]
  omega
theorem cnt_perm {L M : List Int} (h : L.Perm M) (c : Int) : cnt L c = cnt M c := by
  unfold cnt
  rw [h.countP_eq]
theorem cnt_map_sub (L : List Int) (p : Int) : cnt (L.map (· - 1)) p = cnt L (p + 1) := by
  induction L with
  | nil => rfl
  | cons x L ih =>
    rw [List.map_cons, cnt_cons, cnt_cons, ih]
    by_cases h : x ≤ p + 1
    · rw [if_pos h, if_pos (by omega)]
    · rw [if_neg h, if_neg (by omega)]
theorem bnds_succ (L : List Int) : ∀ i : Nat, bnds (i + 1) L = (bnds i L).map (· - 1) := by
  induction L with
  | nil => intro i; rfl
  | cons x L ih =>
    intro i
    show (x - ((i + 1 : Nat) : Int)) :: bnds (i + 1 + 1) L = (x - (i : Int) - 1) :: (bnds (i + 1) L).map (· - 1)
    rw [ih (i + 1)]
    congr 1
    omega
theorem bnds_length (L : List Int) : ∀ i : Nat, (bnds i L).length = L.length := by
  induction L with
  | nil => intro i; rfl
  | cons x L ih => intro i; show (bnds (i + 1) L).length + 1 = L.length + 1; rw [ih]
theorem bnds_snoc (L : List Int) (x : Int) : ∀ i : Nat, bnds i (L ++ [x]) = bnds i L ++ [x - ((i + L.length : Nat) : Int)] := by
  induction L with
  | nil => intro i; rfl
  | cons y L ih =>
    intro i
    show (y - (i : Int)) :: bnds (i + 1) (L ++ [x]) = (y - (i : Int)) :: (bnds (i + 1) L ++ [x - ((i + (L.length + 1) : Nat) : Int)])
    rw [ih (i + 1)]
    congr 4
    omega
theorem bnds_ge {L : List Int} : ∀ {i : Nat} {x : Int}, Asc L → (∀ y ∈ L, x + (i : Int) ≤ y) → ∀ b ∈ bnds i L, x ≤ b := by
  induction L with
  | nil => intro i x _ _ b hb; cases hb
  | cons y L ih =>
    intro i x ha h b hb
    rcases List.mem_cons.mp hb with rfl | hb
    · have := h y (List.mem_cons_self ..); omega
    · refine ih (i := i + 1) (List.pairwise_cons.mp ha).2 (fun z hz => ?_) b hb
      have h1 := (List.pairwise_cons.mp ha).1 z hz
      have h2 := h y (List.mem_cons_self ..)
      omega
theorem bnds_up {L : List Int} : ∀ {i : Nat}, Asc L → Up (bnds i L) := by
  induction L with
  | nil => intro i _; exact List.Pairwise.nil
  | cons y L ih =>
    intro i ha
    refine List.pairwise_cons.mpr ⟨fun b hb => ?_, ih (List.pairwise_cons.mp ha).2⟩
    refine bnds_ge (i := i + 1) (List.pairwise_cons.mp ha).2 (fun z hz => ?_) b hb
    have h1 := (List.pairwise_cons.mp ha).1 z hz
    omega
theorem cnt_gap {L : List Int} : ∀ {p c : Int}, Asc L → (∀ y ∈ L, p < y) → p ≤ c → cnt L c ≤ c - p := by
  induction L with
  | nil => intro p c _ _ h; rw [cnt_nil]; omega
  | cons y L ih =>
    intro p c ha h hpc
    have hy := h y (List.mem_cons_self ..)
    rw [cnt_cons]
    by_cases hc : y ≤ c
    · rw [if_pos hc]
      have := ih (p := y) (c := c) (List.pairwise_cons.mp ha).2 (List.pairwise_cons.mp ha).1 hc
      omega
    · rw [if_neg hc, cnt_zero fun z hz => by have := (List.pairwise_cons.mp ha).1 z hz; omega]
      omega
theorem kr_cons_le {x : Int} {L : List Int} {p : Int} (h : x ≤ p) : kr (x :: L) p = kr L (p + 1) := by
  unfold kr
  show p + cnt ((x - ((0 : Nat) : Int)) :: bnds 1 L) p = _
  rw [cnt_cons, bnds_succ, cnt_map_sub, if_pos (by omega)]
  omega
theorem kr_cons_gt {x : Int} {L : List Int} {p : Int} (ha : Asc (x :: L)) (h : p < x) : kr (x :: L) p = p := by
  unfold kr
  rw [cnt_zero]
  · omega
  · intro b hb
    have := bnds_ge (i := 0) (x := x) ha (fun y hy => by
      rcases List.mem_cons.mp hy with rfl | hy
      · omega
      · have := (List.pairwise_cons.mp ha).1 y hy; omega) b hb
    omega
theorem kr_ge (L : List Int) (p : Int) : p ≤ kr L p := by unfold kr; have := cnt_nn (bnds 0 L) p; omega
theorem kr_lt {L : List Int} {p q : Int} (h : p < q) : kr L p < kr L q := by
  unfold kr
  have := cnt_mono (bnds 0 L) (Int.le_of_lt h)
  omega
/-- the place p is reached at c exactly if the p-th kept rank is at most c -/
theorem gal {L : List Int} : ∀ {p c : Int}, Asc L → (p ≤ c - cnt L c ↔ kr L p ≤ c) := by
  induction L with
  | nil => intro p c _; rw [cnt_nil]; unfold kr bnds; rw [cnt_nil]; omega
  | cons x L ih =>
    intro p c ha
    have hL := (List.pairwise_cons.mp ha).2
    by_cases hp : x ≤ p
    · rw [kr_cons_le hp, cnt_cons]
      by_cases hc : x ≤ c
      · rw [if_pos hc]
        have := ih (p := p + 1) (c := c) hL
        omega
      · rw [if_neg hc]
        have h1 := cnt_nn L c
        have h2 := kr_ge L (p + 1)
        omega
    · have hp' : p < x := by omega
      rw [kr_cons_gt ha hp']
      constructor
      · intro h; have := cnt_nn (x :: L) c; omega
      · intro h
        have := cnt_gap (p := p) (c := c) ha (fun y hy => by
          rcases List.mem_cons.mp hy with rfl | hy
          · exact hp'
          · have := (List.pairwise_cons.mp ha).1 y hy; omega) h
        omega
theorem cnt_mem {L : List Int} (ha : Asc L) {x : Int} : x ∈ L ↔ cnt L x = cnt L (x - 1) + 1 := by
  induction L with
  | nil => rw [cnt_nil, cnt_nil]; simp
  | cons y L ih =>
    have hL := (List.pairwise_cons.mp ha).2
    have hy := (List.pairwise_cons.mp ha).1
    rw [cnt_cons, cnt_cons]
    by_cases e : x = y
    · subst e
      rw [if_pos (Int.le_refl _), if_neg (by omega), cnt_zero hy, cnt_zero fun z hz => by have := hy z hz; omega]
      simp
    · rw [List.mem_cons]
      have := ih hL
      by_cases h : y ≤ x
      · rw [if_pos h, if_pos (by omega)]
        constructor
        · rintro (h1 | h1)
          · exact absurd h1 e
          · have := this.mp h1; omega
        · intro h1; exact .inr (this.mpr (by omega))
      · rw [if_neg h, if_neg (by omega)]
        constructor
        · rintro (h1 | h1)
          · exact absurd h1 e
          · have := this.mp h1; omega
        · intro h1; exact .inr (this.mpr (by omega))
theorem asc_ext {L : List Int} : ∀ {M : List Int}, Asc L → Asc M → (∀ x, x ∈ L ↔ x ∈ M) → L = M := by
  induction L with
  | nil =>
    intro M _ _ h
    cases M with
    | nil => rfl
    | cons y M => exact absurd ((h y).mpr (List.mem_cons_self ..)) (by simp)
  | cons x L ih =>
    intro M ha hb h
    cases M with
    | nil => exact absurd ((h x).mp (List.mem_cons_self ..)) (by simp)
    | cons y M =>
      have ha1 := (List.pairwise_cons.mp ha).1
      have hb1 := (List.pairwise_cons.mp hb).1
      have e : x = y := by
        rcases List.mem_cons.mp ((h x).mp (List.mem_cons_self ..)) with e | e
        · exact e
        · rcases List.mem_cons.mp ((h y).mpr (List.mem_cons_self ..)) with e' | e'
          · exact e'.symm
          · have := hb1 x e; have := ha1 y e'; omega
      subst e
      rw [ih (List.pairwise_cons.mp ha).2 (List.pairwise_cons.mp hb).2 fun z => ?_]
      constructor
      · intro hz
        rcases List.mem_cons.mp ((h z).mp (List.mem_cons_of_mem _ hz)) with e | e
        · subst e; have := ha1 z hz; omega
        · exact e
      · intro hz
        rcases List.mem_cons.mp ((h z).mpr (List.mem_cons_of_mem _ hz)) with e | e
        · subst e; have := hb1 z hz; omega
        · exact e
theorem asc_nodup {L : List Int} (h : Asc L) : L.Nodup := h.imp fun h e => by omega
theorem up_nodup {L : List Int} (h : Up L) (n : L.Nodup) : Asc L := (h.and n).imp fun ⟨a, b⟩ => by omega
theorem kr_notin {L : List Int} (ha : Asc L) (p : Int) : kr L p ∉ L := by
  intro h
  have h1 := (cnt_mem ha).mp h
  have h2 := (gal (p := p) (c := kr L p) ha).mpr (Int.le_refl _)
  have h3 := (gal (p := p) (c := kr L p - 1) ha)
  have : kr L p ≤ kr L p - 1 := h3.mp (by omega)
  omega
theorem cnt_le {L : List Int} (ha : Asc L) (hp : Pos L) {c : Int} (hc : 0 ≤ c) : cnt L c ≤ c := by
  have := cnt_gap (p := 0) (c := c) ha (fun y hy => by have := hp y hy; omega) hc
  omega
/-! ### tables -/
structure Ok (s : Int) (L : List Int) : Prop where
  s0 : 0 ≤ s
  asc : Asc L
  pos : Pos L
theorem Ok.mp_ge {s : Int} {L : List Int} (h : Ok s L) {c : Int} (hc : 0 ≤ c) : s ≤ mp s L c := by
  have := cnt_le h.asc h.pos hc
  unfold mp; omega
theorem Ok.mp_nn {s : Int} {L : List Int} (h : Ok s L) {c : Int} (hc : 0 ≤ c) : 0 ≤ mp s L c := Int.le_trans h.s0 (h.mp_ge hc)
theorem mp_zero {s : Int} {L : List Int} (h : Ok s L) : mp s L 0 = s := by
  unfold mp
  rw [cnt_zero fun x hx => by have := h.pos x hx; omega]
  omega
/-- two tables that map alike are one -/
theorem ok_ext {s t : Int} {L M : List Int} (h : Ok s L) (k : Ok t M) (e : ∀ c, 0 ≤ c → mp s L c = mp t M c) : s = t ∧ L = M := by
  have es : s = t := by
    have := e 0 (Int.le_refl _)
    rwa [mp_zero h, mp_zero k] at this
  refine ⟨es, asc_ext h.asc k.asc fun x => ?_⟩
  subst es
  have ec : ∀ c, 0 ≤ c → cnt L c = cnt M c := fun c hc => by have := e c hc; unfold mp at this; omega
  by_cases hx : 1 ≤ x
  · rw [cnt_mem h.asc, cnt_mem k.asc, ec x (by omega), ec (x - 1) (by omega)]
  · constructor
    · intro z; exact absurd (h.pos x z) hx
    · intro z; exact absurd (k.pos x z) hx
/-- the kept ranks that the second table loses -/
def found (s : Int) (L M : List Int) : List Int := ((M.filter fun r => decide (s < r)).map fun r => r - s).map (kr L)
theorem found_nodup {s : Int} {L M : List Int} (hM : Asc M) : (found s L M).Nodup := by
  unfold found
  have h1 : Asc (M.filter fun r => decide (s < r)) := hM.filter _
  have h2 : Asc ((M.filter fun r => decide (s < r)).map fun r => r - s) := List.pairwise_map.mpr (h1.imp fun h => by omega)
  have h3 : Asc (((M.filter fun r => decide (s < r)).map fun r => r - s).map (kr L)) := List.pairwise_map.mpr (h2.imp fun h => kr_lt h)
  exact asc_nodup h3
theorem found_pos {s : Int} {L M : List Int} : Pos (found s L M) := by
  intro x hx
  unfold found at hx
  obtain ⟨p, hp, rfl⟩ := List.mem_map.mp hx
  obtain ⟨r, hr, rfl⟩ := List.mem_map.mp hp
  have := (List.mem_filter.mp hr).2
  have h1 : s < r := by simpa using this
  have := kr_ge L (r - s)
  omega
theorem cnt_found {s : Int} {L M : List Int} (hL : Asc L) {c : Int} (hc : cnt L c ≤ c) : cnt M (mp s L c) = cnt M s + cnt (found s L M) c := by
  induction M with
  | nil => rfl
  | cons r M ih =>
    unfold found at ih ⊢
    rw [List.filter_cons]
    by_cases h : s < r
    · rw [if_pos (show decide (s < r) = true from decide_eq_true h), List.map_cons, List.map_cons, cnt_cons, cnt_cons, cnt_cons, if_neg (show ¬ r ≤ s by omega), ih]
      have g := gal (p := r - s) (c := c) hL
      by_cases h2 : r ≤ mp s L c
      · have h3 : kr L (r - s) ≤ c := g.mp (by unfold mp at h2; omega)
        rw [if_pos h2, if_pos h3]; omega
      · have h3 : ¬ kr L (r - s) ≤ c := fun z => h2 (by have := g.mpr z; unfold mp; omega)
        rw [if_neg h2, if_neg h3]; omega
    · rw [if_neg (show ¬ decide (s < r) = true by simpa using h), cnt_cons, cnt_cons, ih, if_pos (show r ≤ s by omega), if_pos (show r ≤ mp s L c by unfold mp; omega)]
      omega
/-- the sum of two tables: its start, and lost ranks in ascending order that are those of the first and the found ones -/
theorem ok_add {s t : Int} {L M N : List Int} (h : Ok s L) (k : Ok t M) (p : N.Perm (L ++ found s L M)) (u : Up N) : Ok (mp t M s) N := by
  refine ⟨k.mp_nn h.s0, up_nodup u (p.nodup_iff.mpr ?_), fun x hx => ?_⟩
  · refine List.nodup_append.mpr ⟨asc_nodup h.asc, found_nodup k.asc, fun a ha b hb e => ?_⟩
    subst e
    unfold found at hb
    obtain ⟨q, _, e⟩ := List.mem_map.mp hb
    exact kr_notin h.asc q (e ▸ ha)
  · rcases List.mem_append.mp (p.mem_iff.mp hx) with hx | hx
    · exact h.pos x hx
    · exact found_pos x hx
theorem mp_add {s t : Int} {L M N : List Int} (h : Ok s L) (p : N.Perm (L ++ found s L M)) {c : Int} (hc : 0 ≤ c) : mp (mp t M s) N c = mp t M (mp s L c) := by
  have h1 := cnt_found (s := s) (M := M) h.asc (cnt_le h.asc h.pos hc)
  have h2 := cnt_perm p c
  rw [cnt_append] at h2
  unfold mp at *
  omega
theorem len_add {s : Int} {L M N : List Int} (p : N.Perm (L ++ found s L M)) : (N.length : Int) = L.length + (M.length - cnt M s) := by
  rw [p.length_eq, List.length_append]
  unfold found
  rw [List.length_map, List.length_map]
  have : ∀ M : List Int, (((M.filter fun r => decide (s < r)).length : Nat) : Int) = M.length - cnt M s := by
    intro M
    induction M with
    | nil => rfl
    | cons r M ih =>
      rw [List.filter_cons, cnt_cons]
      by_cases h : s < r
      · rw [if_pos (by simpa using h), if_neg (by omega), List.length_cons, List.length_cons]; omega
      · rw [if_neg (by simpa using h), if_pos (by omega), List.length_cons]; omega
  have := this M
  omega
/-- the least count that becomes at least k -/
def lst (s : Int) (L : List Int) (k : Int) : Int := if k ≤ s then 0 else kr L (k - s)
theorem lst_nn {s : Int} {L : List Int} (k : Int) : 0 ≤ lst s L k := by
  unfold lst
  split
  · exact Int.le_refl _
  · have := kr_ge L (k - s); omega
theorem lst_gal {s : Int} {L : List Int} (h : Ok s L) {k c : Int} (hc : 0 ≤ c) : lst s L k ≤ c ↔ k ≤ mp s L c := by
  unfold lst
  by_cases hk : k ≤ s
  · rw [if_pos hk]
    have := h.mp_ge hc
    omega
  · rw [if_neg hk, ← gal h.asc]
    unfold mp; omega
theorem lst_add {s t : Int} {L M N : List Int} (h : Ok s L) (k : Ok t M) (p : N.Perm (L ++ found s L M)) (u : Up N) (c : Int) : lst (mp t M s) N c = lst s L (lst t M c) := by
  have key : ∀ d, 0 ≤ d → (lst (mp t M s) N c ≤ d ↔ lst s L (lst t M c) ≤ d) := fun d hd => by
    rw [lst_gal (ok_add h k p u) hd, mp_add h p hd, lst_gal h hd, lst_gal k (h.mp_nn hd)]
  have h1 := (key _ (lst_nn (s := mp t M s) (L := N) c)).mp (Int.le_refl _)
  have h2 := (key _ (lst_nn (s := s) (L := L) (lst t M c))).mpr (Int.le_refl _)
  omega
theorem nil_add {t : Int} {M N : List Int} (k : Ok t M) (p : N.Perm (found 0 [] M)) (u : Up N) : mp t M 0 = t ∧ N = M := by
  have h : Ok 0 [] := ⟨Int.le_refl _, List.Pairwise.nil, fun _ h => by cases h⟩
  have k2 := ok_add h k (N := N) (by simpa using p) u
  exact ok_ext k2 k fun c hc => by
    rw [mp_add h (by simpa using p) hc]
    have e : mp 0 [] c = c := by unfold mp; rw [cnt_nil]; omega
    rw [e]
theorem add_nil {s : Int} {L N : List Int} (h : Ok s L) (p : N.Perm (L ++ found s L [])) (u : Up N) : mp 0 [] s = s ∧ N = L := by
  have k : Ok 0 [] := ⟨Int.le_refl _, List.Pairwise.nil, fun _ h => by cases h⟩
  have k2 := ok_add h k p u
  exact ok_ext k2 h fun c hc => by rw [mp_add h p hc]; unfold mp; rw [cnt_nil]; omega
theorem add_assoc {s t u : Int} {L M O N1 N2 R1 R2 : List Int} (h : Ok s L) (k : Ok t M) (l : Ok u O)
    (p1 : N1.Perm (L ++ found s L M)) (u1 : Up N1) (q1 : R1.Perm (N1 ++ found (mp t M s) N1 O)) (v1 : Up R1)
    (p2 : N2.Perm (M ++ found t M O)) (u2 : Up N2) (q2 : R2.Perm (L ++ found s L N2)) (v2 : Up R2) :
    mp u O (mp t M s) = mp (mp u O t) N2 s ∧ R1 = R2 := by
  have a := ok_add h k p1 u1
  have b := ok_add k l p2 u2
  refine ok_ext (ok_add a l q1 v1) (ok_add h b q2 v2) fun c hc => ?_
  rw [mp_add a q1 hc, mp_add h p1 hc, mp_add h q2 hc, mp_add k p2 (h.mp_nn hc)]
end Tbl
namespace Tbl
theorem asc_adj {L : List Int} : Asc L ↔ ∀ i, (h : i + 1 < L.length) → L[i] < L[i + 1] := by
  induction L with
  | nil => simp
  | cons x L ih =>
    rw [Asc, List.pairwise_cons]
    constructor
    · rintro ⟨h1, h2⟩ i h
      cases i with
      | zero => exact h1 _ (List.getElem_mem _)
      | succ i => exact (ih.mp h2) i (by simpa using h)
    · intro h
      have h2 : Asc L := ih.mpr fun i hi => h (i + 1) (by simpa using hi)
      refine ⟨fun y hy => ?_, h2⟩
      cases L with
      | nil => cases hy
      | cons z L =>
        have h0 := h 0 (by simp)
        have h0' : x < z := h0
        rcases List.mem_cons.mp hy with rfl | hy
        · exact h0'
        · have := (List.pairwise_cons.mp h2).1 y hy; omega
end Tbl
namespace Tbl
theorem cnt_split {B : List Int} {c : Int} {k : Nat} (hk : k ≤ B.length) (h1 : ∀ j, (h : j < B.length) → j < k → B[j] ≤ c) (h2 : ∀ j, (h : j < B.length) → k ≤ j → c < B[j]) : cnt B c = k := by
  have e : B = B.take k ++ B.drop k := (List.take_append_drop k B).symm
  rw [e, cnt_append, cnt_all (L := B.take k), cnt_zero (L := B.drop k), List.length_take]
  · omega
  · intro x hx
    obtain ⟨i, hi, rfl⟩ := List.getElem_of_mem hx
    rw [List.getElem_drop]
    exact h2 _ _ (by omega)
  · intro x hx
    obtain ⟨i, hi, rfl⟩ := List.getElem_of_mem hx
    rw [List.getElem_take]
    have hi' : i < k ∧ i < B.length := by rw [List.length_take] at hi; omega
    exact h1 i hi'.2 hi'.1
theorem up_get {B : List Int} (h : Up B) {i j : Nat} (hi : i < B.length) (hj : j < B.length) (hij : i ≤ j) : B[i] ≤ B[j] := by
  rcases Nat.lt_or_ge i j with h1 | h1
  · exact (List.pairwise_iff_getElem.mp h) i j hi hj h1
  · have : i = j := by omega
    subst this
    exact Int.le_refl _
theorem asc_up {L : List Int} (h : Asc L) : Up L := h.imp fun h => by omega
end Tbl

namespace K05
open PySem L2 XT
def top (i : Nat) : Stmt := PySem.Challenge.pw_rankeffect_k05_tables_of_counts.main.body.getD i (.Pass ⟨0, 0, 0, 0⟩)

abbrev s_is_integer : Stmt := top 1
abbrev N_is_integer : List Str := ["value"]
theorem sc_is_integer : FnScope N_is_integer ["value"] (defScope s_is_integer) := ⟨rfl, rfl, rfl, by decide +kernel, rfl, by decide +kernel, by decide +kernel⟩
theorem bn_is_integer : XT.Bnd "is_integer" "is_integer" s_is_integer ["value"] := fun _ _ _ _ _ _ us hl => match us, hl with | [_], _ => rfl

abbrev s_is_count : Stmt := top 2
abbrev N_is_count : List Str := ["value"]
theorem sc_is_count : FnScope N_is_count ["value"] (defScope s_is_count) := ⟨rfl, rfl, rfl, by decide +kernel, rfl, by decide +kernel, by decide +kernel⟩
theorem bn_is_count : XT.Bnd "is_count" "is_count" s_is_count ["value"] := fun _ _ _ _ _ _ us hl => match us, hl with | [_], _ => rfl

abbrev s_is_rank : Stmt := top 3
abbrev N_is_rank : List Str := ["value"]
theorem sc_is_rank : FnScope N_is_rank ["value"] (defScope s_is_rank) := ⟨rfl, rfl, rfl, by decide +kernel, rfl, by decide +kernel, by decide +kernel⟩
theorem bn_is_rank : XT.Bnd "is_rank" "is_rank" s_is_rank ["value"] := fun _ _ _ _ _ _ us hl => match us, hl with | [_], _ => rfl

abbrev s_is_number_list : Stmt := top 4
abbrev N_is_number_list : List Str := ["value", "number"]
theorem sc_is_number_list : FnScope N_is_number_list ["value"] (defScope s_is_number_list) := ⟨rfl, rfl, rfl, by decide +kernel, rfl, by decide +kernel, by decide +kernel⟩
theorem bn_is_number_list : XT.Bnd "is_number_list" "is_number_list" s_is_number_list ["value"] := fun _ _ _ _ _ _ us hl => match us, hl with | [_], _ => rfl

abbrev s_is_ascending : Stmt := top 5
abbrev N_is_ascending : List Str := ["value", "low", "high"]
theorem sc_is_ascending : FnScope N_is_ascending ["value"] (defScope s_is_ascending) := ⟨rfl, rfl, rfl, by decide +kernel, rfl, by decide +kernel, by decide +kernel⟩
theorem bn_is_ascending : XT.Bnd "is_ascending" "is_ascending" s_is_ascending ["value"] := fun _ _ _ _ _ _ us hl => match us, hl with | [_], _ => rfl

abbrev s_is_rank_list : Stmt := top 6
abbrev N_is_rank_list : List Str := ["value", "number"]
theorem sc_is_rank_list : FnScope N_is_rank_list ["value"] (defScope s_is_rank_list) := ⟨rfl, rfl, rfl, by decide +kernel, rfl, by decide +kernel, by decide +kernel⟩
theorem bn_is_rank_list : XT.Bnd "is_rank_list" "is_rank_list" s_is_rank_list ["value"] := fun _ _ _ _ _ _ us hl => match us, hl with | [_], _ => rfl

abbrev s_InvalidTable___init__ : Stmt := inClass (top 9) 0
abbrev N_InvalidTable___init__ : List Str := ["self", "value"]
theorem sc_InvalidTable___init__ : FnScope N_InvalidTable___init__ ["self", "value"] (defScope s_InvalidTable___init__) := ⟨rfl, rfl, rfl, by decide +kernel, rfl, by decide +kernel, by decide +kernel⟩
theorem bn_InvalidTable___init__ : XT.Bnd "__init__" "InvalidTable.__init__" s_InvalidTable___init__ ["self", "value"] := fun _ _ _ _ _ _ us hl => match us, hl with | [_, _], _ => rfl

abbrev s_InvalidNumber___init__ : Stmt := inClass (top 10) 0
abbrev N_InvalidNumber___init__ : List Str := ["self", "value"]
theorem sc_InvalidNumber___init__ : FnScope N_InvalidNumber___init__ ["self", "value"] (defScope s_InvalidNumber___init__) := ⟨rfl, rfl, rfl, by decide +kernel, rfl, by decide +kernel, by decide +kernel⟩
theorem bn_InvalidNumber___init__ : XT.Bnd "__init__" "InvalidNumber.__init__" s_InvalidNumber___init__ ["self", "value"] := fun _ _ _ _ _ _ us hl => match us, hl with | [_, _], _ => rfl

abbrev s_how_many_up_to : Stmt := top 12
abbrev N_how_many_up_to : List Str := ["numbers", "limit", "low", "high", "middle"]
theorem sc_how_many_up_to : FnScope N_how_many_up_to ["numbers", "limit"] (defScope s_how_many_up_to) := ⟨rfl, rfl, rfl, by decide +kernel, rfl, by decide +kernel, by decide +kernel⟩
theorem bn_how_many_up_to : XT.Bnd "how_many_up_to" "how_many_up_to" s_how_many_up_to ["numbers", "limit"] := fun _ _ _ _ _ _ us hl => match us, hl with | [_, _], _ => rfl

abbrev s_mapped : Stmt := top 13
abbrev N_mapped : List Str := ["start", "lost", "count"]
theorem sc_mapped : FnScope N_mapped ["start", "lost", "count"] (defScope s_mapped) := ⟨rfl, rfl, rfl, by decide +kernel, rfl, by decide +kernel, by decide +kernel⟩
theorem bn_mapped : XT.Bnd "mapped" "mapped" s_mapped ["start", "lost", "count"] := fun _ _ _ _ _ _ us hl => match us, hl with | [_, _, _], _ => rfl

abbrev s_kept_rank : Stmt := top 14
abbrev N_kept_rank : List Str := ["lost", "place", "low", "high", "middle"]
theorem sc_kept_rank : FnScope N_kept_rank ["lost", "place"] (defScope s_kept_rank) := ⟨rfl, rfl, rfl, by decide +kernel, rfl, by decide +kernel, by decide +kernel⟩
theorem bn_kept_rank : XT.Bnd "kept_rank" "kept_rank" s_kept_rank ["lost", "place"] := fun _ _ _ _ _ _ us hl => match us, hl with | [_, _], _ => rfl

abbrev s_Table___init__ : Stmt := inClass (top 15) 0
abbrev N_Table___init__ : List Str := ["self", "start", "lost"]
theorem sc_Table___init__ : FnScope N_Table___init__ ["self", "start", "lost"] (defScope s_Table___init__) := ⟨rfl, rfl, rfl, by decide +kernel, rfl, by decide +kernel, by decide +kernel⟩
theorem bn_Table___init__ : XT.Bnd "__init__" "Table.__init__" s_Table___init__ ["self", "start", "lost"] := fun _ _ _ _ _ _ us hl => match us, hl with | [_, _, _], _ => rfl

abbrev s_Table_start : Stmt := inClass (top 15) 1
abbrev N_Table_start : List Str := ["self"]
theorem sc_Table_start : FnScope N_Table_start ["self"] (defScope s_Table_start) := ⟨rfl, rfl, rfl, by decide +kernel, rfl, by decide +kernel, by decide +kernel⟩
theorem bn_Table_start : XT.Bnd "start" "Table.start" s_Table_start ["self"] := fun _ _ _ _ _ _ us hl => match us, hl with | [_], _ => rfl

abbrev s_Table_lost : Stmt := inClass (top 15) 2
abbrev N_Table_lost : List Str := ["self"]
theorem sc_Table_lost : FnScope N_Table_lost ["self"] (defScope s_Table_lost) := ⟨rfl, rfl, rfl, by decide +kernel, rfl, by decide +kernel, by decide +kernel⟩
theorem bn_Table_lost : XT.Bnd "lost" "Table.lost" s_Table_lost ["self"] := fun _ _ _ _ _ _ us hl => match us, hl with | [_], _ => rfl

abbrev s_Table_growth : Stmt := inClass (top 15) 3
abbrev N_Table_growth : List Str := ["self"]
theorem sc_Table_growth : FnScope N_Table_growth ["self"] (defScope s_Table_growth) := ⟨rfl, rfl, rfl, by decide +kernel, rfl, by decide +kernel, by decide +kernel⟩
theorem bn_Table_growth : XT.Bnd "growth" "Table.growth" s_Table_growth ["self"] := fun _ _ _ _ _ _ us hl => match us, hl with | [_], _ => rfl

abbrev s_Table_least : Stmt := inClass (top 15) 4
abbrev N_Table_least : List Str := ["self", "count"]
theorem sc_Table_least : FnScope N_Table_least ["self", "count"] (defScope s_Table_least) := ⟨rfl, rfl, rfl, by decide +kernel, rfl, by decide +kernel, by decide +kernel⟩
theorem bn_Table_least : XT.Bnd "least" "Table.least" s_Table_least ["self", "count"] := fun _ _ _ _ _ _ us hl => match us, hl with | [_, _], _ => rfl

abbrev s_Table___call__ : Stmt := inClass (top 15) 5
abbrev N_Table___call__ : List Str := ["self", "count"]
theorem sc_Table___call__ : FnScope N_Table___call__ ["self", "count"] (defScope s_Table___call__) := ⟨rfl, rfl, rfl, by decide +kernel, rfl, by decide +kernel, by decide +kernel⟩
theorem bn_Table___call__ : XT.Bnd "__call__" "Table.__call__" s_Table___call__ ["self", "count"] := fun _ _ _ _ _ _ us hl => match us, hl with | [_, _], _ => rfl

abbrev s_Table___eq__ : Stmt := inClass (top 15) 6
abbrev N_Table___eq__ : List Str := ["self", "other"]
theorem sc_Table___eq__ : FnScope N_Table___eq__ ["self", "other"] (defScope s_Table___eq__) := ⟨rfl, rfl, rfl, by decide +kernel, rfl, by decide +kernel, by decide +kernel⟩
theorem bn_Table___eq__ : XT.Bnd "__eq__" "Table.__eq__" s_Table___eq__ ["self", "other"] := fun _ _ _ _ _ _ us hl => match us, hl with | [_, _], _ => rfl

abbrev s_Table___bool__ : Stmt := inClass (top 15) 7
abbrev N_Table___bool__ : List Str := ["self"]
theorem sc_Table___bool__ : FnScope N_Table___bool__ ["self"] (defScope s_Table___bool__) := ⟨rfl, rfl, rfl, by decide +kernel, rfl, by decide +kernel, by decide +kernel⟩
theorem bn_Table___bool__ : XT.Bnd "__bool__" "Table.__bool__" s_Table___bool__ ["self"] := fun _ _ _ _ _ _ us hl => match us, hl with | [_], _ => rfl

abbrev s_law_pool : Stmt := top 17
abbrev N_law_pool : List Str := ["_law_script", "_law_k", "_law_cell", "_law_mixed"]
theorem sc_law_pool : FnScope N_law_pool ["_law_script", "_law_k"] (defScope s_law_pool) := ⟨rfl, rfl, rfl, by decide +kernel, rfl, by decide +kernel, by decide +kernel⟩
theorem bn_law_pool : XT.Bnd "_law_pool" "_law_pool" s_law_pool ["_law_script", "_law_k"] := fun _ _ _ _ _ _ us hl => match us, hl with | [_, _], _ => rfl

abbrev s_law_take : Stmt := top 18
abbrev N_law_take : List Str := ["_law_pool_here", "_law_many", "_law_found"]
theorem sc_law_take : FnScope N_law_take ["_law_pool_here", "_law_many"] (defScope s_law_take) := ⟨rfl, rfl, rfl, by decide +kernel, rfl, by decide +kernel, by decide +kernel⟩
theorem bn_law_take : XT.Bnd "_law_take" "_law_take" s_law_take ["_law_pool_here", "_law_many"] := fun _ _ _ _ _ _ us hl => match us, hl with | [_, _], _ => rfl

abbrev s_law_lost : Stmt := top 19
abbrev N_law_lost : List Str := ["_law_pool_here", "_law_found", "_law_last", "_law_turn"]
theorem sc_law_lost : FnScope N_law_lost ["_law_pool_here"] (defScope s_law_lost) := ⟨rfl, rfl, rfl, by decide +kernel, rfl, by decide +kernel, by decide +kernel⟩
theorem bn_law_lost : XT.Bnd "_law_lost" "_law_lost" s_law_lost ["_law_pool_here"] := fun _ _ _ _ _ _ us hl => match us, hl with | [_], _ => rfl

abbrev s_law_caught : Stmt := top 20
abbrev N_law_caught : List Str := ["_law_way", "_law_one", "_law_two", "_law_made", "e"]
theorem sc_law_caught : FnScope N_law_caught ["_law_way", "_law_one", "_law_two"] (defScope s_law_caught) := ⟨rfl, rfl, rfl, by decide +kernel, rfl, by decide +kernel, by decide +kernel⟩
theorem bn_law_caught : XT.Bnd "_law_caught" "_law_caught" s_law_caught ["_law_way", "_law_one", "_law_two"] := fun _ _ _ _ _ _ us hl => match us, hl with | [_, _, _], _ => rfl

abbrev s_law_counts_right : Stmt := top 21
abbrev N_law_counts_right : List Str := ["_law_table", "_law_start", "_law_lost_here", "_law_count", "_law_base", "_law_due", "_law_rank", "_law_least"]
theorem sc_law_counts_right : FnScope N_law_counts_right ["_law_table", "_law_start", "_law_lost_here"] (defScope s_law_counts_right) := ⟨rfl, rfl, rfl, by decide +kernel, rfl, by decide +kernel, by decide +kernel⟩
theorem bn_law_counts_right : XT.Bnd "_law_counts_right" "_law_counts_right" s_law_counts_right ["_law_table", "_law_start", "_law_lost_here"] := fun _ _ _ _ _ _ us hl => match us, hl with | [_, _, _], _ => rfl

abbrev s_law : Stmt := top 22
abbrev N_law : List Str := ["_law_script", "_law_k", "_law_pool_here", "_law_start", "_law_lost_here", "_law_table", "_law_other", "_law_is_same", "_law_odd"]
theorem sc_law : FnScope N_law ["_law_script"] (defScope s_law) := ⟨rfl, rfl, rfl, by decide +kernel, rfl, by decide +kernel, by decide +kernel⟩
theorem bn_law : XT.Bnd "law" "law" s_law ["_law_script"] := fun _ _ _ _ _ _ us hl => match us, hl with | [_], _ => rfl

structure Ads where
  is_integer : Addr
  is_count : Addr
  is_rank : Addr
  is_number_list : Addr
  is_ascending : Addr
  is_rank_list : Addr
  InvalidTable___init__ : Addr
  InvalidNumber___init__ : Addr
  how_many_up_to : Addr
  mapped : Addr
  kept_rank : Addr
  Table___init__ : Addr
  Table_start : Addr
  Table_lost : Addr
  Table_growth : Addr
  Table_least : Addr
  Table___call__ : Addr
  Table___eq__ : Addr
  Table___bool__ : Addr
  law_pool : Addr
  law_take : Addr
  law_lost : Addr
  law_caught : Addr
  law_counts_right : Addr
  law : Addr
  Table : Addr
  RankError : Addr
  InvalidTable : Addr
  InvalidNumber : Addr
  P_start : Addr
  P_lost : Addr
  P_growth : Addr

structure Txt (K : PySem.W.Frag) (mg : Str → Option Value) (a : Ads) : Prop where
  F_is_integer : ∃ fd, Fun K "is_integer" "is_integer" s_is_integer a.is_integer fd
  g_is_integer : mg "is_integer" = some (.ref a.is_integer)
  k_is_integer : PySem.W.keepIn K (.ref a.is_integer) = true
  F_is_count : ∃ fd, Fun K "is_count" "is_count" s_is_count a.is_count fd
  g_is_count : mg "is_count" = some (.ref a.is_count)
  k_is_count : PySem.W.keepIn K (.ref a.is_count) = true
  F_is_rank : ∃ fd, Fun K "is_rank" "is_rank" s_is_rank a.is_rank fd
  g_is_rank : mg "is_rank" = some (.ref a.is_rank)
  k_is_rank : PySem.W.keepIn K (.ref a.is_rank) = true
  F_is_number_list : ∃ fd, Fun K "is_number_list" "is_number_list" s_is_number_list a.is_number_list fd
  g_is_number_list : mg "is_number_list" = some (.ref a.is_number_list)
  k_is_number_list : PySem.W.keepIn K (.ref a.is_number_list) = true
  F_is_ascending : ∃ fd, Fun K "is_ascending" "is_ascending" s_is_ascending a.is_ascending fd
  g_is_ascending : mg "is_ascending" = some (.ref a.is_ascending)
  k_is_ascending : PySem.W.keepIn K (.ref a.is_ascending) = true
  F_is_rank_list : ∃ fd, Fun K "is_rank_list" "is_rank_list" s_is_rank_list a.is_rank_list fd
  g_is_rank_list : mg "is_rank_list" = some (.ref a.is_rank_list)
  k_is_rank_list : PySem.W.keepIn K (.ref a.is_rank_list) = true
  F_InvalidTable___init__ : ∃ fd, Fun K "__init__" "InvalidTable.__init__" s_InvalidTable___init__ a.InvalidTable___init__ fd
  F_InvalidNumber___init__ : ∃ fd, Fun K "__init__" "InvalidNumber.__init__" s_InvalidNumber___init__ a.InvalidNumber___init__ fd
  F_how_many_up_to : ∃ fd, Fun K "how_many_up_to" "how_many_up_to" s_how_many_up_to a.how_many_up_to fd
  g_how_many_up_to : mg "how_many_up_to" = some (.ref a.how_many_up_to)
  k_how_many_up_to : PySem.W.keepIn K (.ref a.how_many_up_to) = true
  F_mapped : ∃ fd, Fun K "mapped" "mapped" s_mapped a.mapped fd
  g_mapped : mg "mapped" = some (.ref a.mapped)
  k_mapped : PySem.W.keepIn K (.ref a.mapped) = true
  F_kept_rank : ∃ fd, Fun K "kept_rank" "kept_rank" s_kept_rank a.kept_rank fd
  g_kept_rank : mg "kept_rank" = some (.ref a.kept_rank)
  k_kept_rank : PySem.W.keepIn K (.ref a.kept_rank) = true
  F_Table___init__ : ∃ fd, Fun K "__init__" "Table.__init__" s_Table___init__ a.Table___init__ fd
  F_Table_start : ∃ fd, Fun K "start" "Table.start" s_Table_start a.Table_start fd
  F_Table_lost : ∃ fd, Fun K "lost" "Table.lost" s_Table_lost a.Table_lost fd
  F_Table_growth : ∃ fd, Fun K "growth" "Table.growth" s_Table_growth a.Table_growth fd
  F_Table_least : ∃ fd, Fun K "least" "Table.least" s_Table_least a.Table_least fd
  F_Table___call__ : ∃ fd, Fun K "__call__" "Table.__call__" s_Table___call__ a.Table___call__ fd
  F_Table___eq__ : ∃ fd, Fun K "__eq__" "Table.__eq__" s_Table___eq__ a.Table___eq__ fd
  F_Table___bool__ : ∃ fd, Fun K "__bool__" "Table.__bool__" s_Table___bool__ a.Table___bool__ fd
  F_law_pool : ∃ fd, Fun K "_law_pool" "_law_pool" s_law_pool a.law_pool fd
  g_law_pool : mg "_law_pool" = some (.ref a.law_pool)
  k_law_pool : PySem.W.keepIn K (.ref a.law_pool) = true
  F_law_take : ∃ fd, Fun K "_law_take" "_law_take" s_law_take a.law_take fd
  g_law_take : mg "_law_take" = some (.ref a.law_take)
  k_law_take : PySem.W.keepIn K (.ref a.law_take) = true
  F_law_lost : ∃ fd, Fun K "_law_lost" "_law_lost" s_law_lost a.law_lost fd
  g_law_lost : mg "_law_lost" = some (.ref a.law_lost)
  k_law_lost : PySem.W.keepIn K (.ref a.law_lost) = true
  F_law_caught : ∃ fd, Fun K "_law_caught" "_law_caught" s_law_caught a.law_caught fd
  g_law_caught : mg "_law_caught" = some (.ref a.law_caught)
  k_law_caught : PySem.W.keepIn K (.ref a.law_caught) = true
  F_law_counts_right : ∃ fd, Fun K "_law_counts_right" "_law_counts_right" s_law_counts_right a.law_counts_right fd
  g_law_counts_right : mg "_law_counts_right" = some (.ref a.law_counts_right)
  k_law_counts_right : PySem.W.keepIn K (.ref a.law_counts_right) = true
  F_law : ∃ fd, Fun K "law" "law" s_law a.law fd
  g_law : mg "law" = some (.ref a.law)
  k_law : PySem.W.keepIn K (.ref a.law) = true
  b_repr : mg "repr" = none
  b_type : mg "type" = none
  b_int : mg "int" = none
  b_list : mg "list" = none
  b_tuple : mg "tuple" = none
  b_all : mg "all" = none
  b_zip : mg "zip" = none
  b_len : mg "len" = none
  b_enumerate : mg "enumerate" = none
  b_sorted : mg "sorted" = none
  b_bool : mg "bool" = none
  b_isinstance : mg "isinstance" = none
  b_abs : mg "abs" = none
  b_max : mg "max" = none
  b_min : mg "min" = none
  b_range : mg "range" = none
  cl : Cls K a.Table
  g_Table : mg "Table" = some (.ref a.Table)
  M_Table : L2.Mk K a.Table a.Table___init__
  n_start : NoAttr K a.Table "_start"
  n_lost : NoAttr K a.Table "_lost"
  p_start : PropOf K a.Table "start" a.P_start a.Table_start
  p_lost : PropOf K a.Table "lost" a.P_lost a.Table_lost
  p_growth : PropOf K a.Table "growth" a.P_growth a.Table_growth
  m_least : Meth K a.Table "least" a.Table_least
  callO : StX.CallO K a.Table a.Table___call__
  eqA : PySem.W.findIn K (.ref a.Table) "__eq__" = some (some (.ref a.Table___eq__))
  eqF : PySem.W.isFn K (.ref a.Table___eq__) = true
  neA : PySem.W.findIn K (.ref a.Table) "__ne__" = some (some (.builtin "object.__ne__"))
  sub : PySem.W.subIn K (.ref a.Table) (.type "object") = some true
  sf : PySem.W.selfFirst K a.Table = true
  boolA : PySem.W.findIn K (.ref a.Table) "__bool__" = some (some (.ref a.Table___bool__))
  boolF : PySem.W.isFn K (.ref a.Table___bool__) = true
  isi : C8.InsC K a.Table
  ty_Table : PySem.W.typeIn K (.ref a.Table) = some (.type "type")
  st_t : PySem.W.subIn K (.type "tuple") (.ref a.Table) = some false
  st_n : PySem.W.subIn K (.type "NoneType") (.ref a.Table) = some false
  kt_t : PySem.W.kitOne K (.type "tuple") (.ref a.Table) = some false
  kt_n : PySem.W.kitOne K (.type "NoneType") (.ref a.Table) = some false
  g_RankError : mg "RankError" = some (.ref a.RankError)
  g_InvalidTable : mg "InvalidTable" = some (.ref a.InvalidTable)
  g_InvalidNumber : mg "InvalidNumber" = some (.ref a.InvalidNumber)
  e_T : ErrC K a.InvalidTable a.InvalidTable___init__ "value"
  e_N : ErrC K a.InvalidNumber a.InvalidNumber___init__ "value"
  x_TT : PySem.W.exmOne K (.ref a.InvalidTable) (.ref a.InvalidTable) = some true
  x_NT : PySem.W.exmOne K (.ref a.InvalidNumber) (.ref a.InvalidTable) = some false
  x_NN : PySem.W.exmOne K (.ref a.InvalidNumber) (.ref a.InvalidNumber) = some true
  r_T : PySem.W.kitOne K (.ref a.InvalidTable) (.ref a.RankError) = some true
  r_N : PySem.W.kitOne K (.ref a.InvalidNumber) (.ref a.RankError) = some true


def cntV : V → Bool
  | .int i => decide (0 ≤ i)
  | _ => false
def rnkV : V → Bool
  | .int i => decide (0 < i)
  | _ => false
def spInt (K : PySem.W.Frag) : Sp := fun vs H Q _ => ∃ x, vs = [x] ∧ KV K H x ∧ Q (.bl (isI x)) H
def spCount (K : PySem.W.Frag) : Sp := fun vs H Q _ => ∃ x, vs = [x] ∧ KV K H x ∧ Q (.bl (cntV x)) H
def spRank (K : PySem.W.Frag) : Sp := fun vs H Q _ => ∃ x, vs = [x] ∧ KV K H x ∧ Q (.bl (rnkV x)) H
/-- a list or a tuple of values of known kinds -/
def Sq (K : PySem.W.Frag) (H : Hp) (x : V) (xs : List V) : Prop := ∃ p, x = .ref p ∧ (SqL K H p xs ∨ SqT K H p xs) ∧ (∀ y ∈ xs, KV K H y) ∧ xs.length ≤ 100000
/-- a value of another kind -/
def Od (K : PySem.W.Frag) (H : Hp) (x : V) : Prop := ∃ n, TyB K H x n ∧ tyN n = true ∧ n ≠ "list" ∧ n ≠ "tuple"
/-- a check of lists: what it says of a list's items -/
def spChk (K : PySem.W.Frag) (f : List V → Bool) : Sp := fun vs H Q _ => ∃ x, vs = [x] ∧ ((∃ xs, Sq K H x xs ∧ ∀ H', Same H H' → Q (.bl (f xs)) H') ∨ (Od K H x ∧ ∀ H', Same H H' → Q (.bl false) H'))
def numsV (xs : List V) : Bool := xs.all isI
section
variable {P : Program} {w : World} {K : PySem.W.Frag} {mg : Str → Option Value} {base : Heap} {a : Ads}

theorem ok_is_integer (T : Txt K mg a) : FnR P w K mg base CX0 1 a.is_integer (spInt K) := by
  obtain ⟨fd, F⟩ := T.F_is_integer
  refine XT.okR F sc_is_integer bn_is_integer (fun vs H Q E h => ?_) (fun cdv A outer s H vs Q E hr h => ?_)
  · obtain ⟨x, rfl, _⟩ := h
    rfl
  · obtain ⟨x, rfl, ⟨n, ht, hn⟩, q⟩ := h
    refine ⟨_, (pss_one (ps_ret (pe_cmpR op_eqTy (pe_callTy (typeK K) (by rfl) T.b_type (by decide +kernel) (pa_cons (pv 0) pa_nil)) (pe_bltn (v := .ty "int") (u := .type "int") (by rfl) T.b_int (by decide +kernel) rfl) (nomark _)))), ?_⟩
    refine ⟨x, rfl, x, n, rfl, ht, n, "int", rfl, rfl, hn, by decide +kernel, ?_⟩
    rw [tyB_isI ht]
    exact q

theorem ok_is_count (T : Txt K mg a) : FnR P w K mg base CX0 2 a.is_count (spCount K) := by
  obtain ⟨fd, F⟩ := T.F_is_count
  refine XT.okR F sc_is_count bn_is_count (fun vs H Q E h => ?_) (fun cdv A outer s H vs Q E hr h => ?_)
  · obtain ⟨x, rfl, _⟩ := h
    rfl
  · obtain ⟨x, rfl, hk, q⟩ := h
    have G_is_integer := ok_is_integer (P := P) (w := w) (base := base) T
    refine ⟨_, (pss_one (ps_ret (pe_and (pe_callR G_is_integer (hr.mono (by decide)) rfl T.g_is_integer T.k_is_integer pass0 (pa_cons (pv 0) pa_nil)) (pe_one (pe_cmpR op_ge (pv 0) pe_int (nomark _)))))), ?_⟩
    refine ⟨x, rfl, x, rfl, hk, _, rfl, ?_⟩
    cases x with
    | int i => exact iteT ⟨_, rfl, _, _, rfl, rfl, q⟩
    | _ => exact iteF q

theorem ok_is_rank (T : Txt K mg a) : FnR P w K mg base CX0 2 a.is_rank (spRank K) := by
  obtain ⟨fd, F⟩ := T.F_is_rank
  refine XT.okR F sc_is_rank bn_is_rank (fun vs H Q E h => ?_) (fun cdv A outer s H vs Q E hr h => ?_)
  · obtain ⟨x, rfl, _⟩ := h
    rfl
  · obtain ⟨x, rfl, hk, q⟩ := h
    have G_is_integer := ok_is_integer (P := P) (w := w) (base := base) T
    refine ⟨_, (pss_one (ps_ret (pe_and (pe_callR G_is_integer (hr.mono (by decide)) rfl T.g_is_integer T.k_is_integer pass0 (pa_cons (pv 0) pa_nil)) (pe_one (pe_cmpR op_gt (pv 0) pe_int (nomark _)))))), ?_⟩
    refine ⟨x, rfl, x, rfl, hk, _, rfl, ?_⟩
    cases x with
    | int i => exact iteT ⟨_, rfl, _, _, rfl, rfl, q⟩
    | _ => exact iteF q

theorem iteH {c : Bool} {A B : Prop} (h : c = true) (x : A) : if c = true then A else B := by
  rw [if_pos h]
  exact x
theorem iteN {c : Bool} {A B : Prop} (h : c = false) (x : B) : if c = true then A else B := by
  rw [h]
  exact iteF x
theorem all_map_bl (f : V → Bool) (xs : List V) : ((xs.map f).all id) = xs.all f := by
  rw [List.all_map]
  rfl
theorem in_lt {n : String} (h1 : n ≠ "list") (h2 : n ≠ "tuple") : (["list", "tuple"].any fun m => decide (m = n)) = false := by
  simp [Ne.symm h1, Ne.symm h2]
theorem line_ge : (100000 : Nat) ≤ sizeLine := by rw [sizeLine_eq]; decide
theorem ok_is_number_list (T : Txt K mg a) : FnR P w K mg base CX0 2 a.is_number_list (spChk K numsV) := by
  obtain ⟨fd, F⟩ := T.F_is_number_list
  refine XT.okR F sc_is_number_list bn_is_number_list (fun vs H Q E h => ?_) (fun cdv A outer s H vs Q E hr h => ?_)
  · obtain ⟨x, rfl, _⟩ := h
    rfl
  · obtain ⟨x, rfl, hq⟩ := h
    have G_is_integer := ok_is_integer (P := P) (w := w) (base := base) T
    rcases hq with ⟨xs, ⟨p, rfl, hS, kv, hl⟩, q0⟩ | ⟨⟨n, ht, hn, n1, n2⟩, q0⟩
    · rcases hS with hS | hS
      · refine ⟨_, (pss_one (ps_ret (pe_and (pe_cmpR (inTyK K) (pe_callTy (typeK K) (by rfl) T.b_type (by decide +kernel) (pa_cons (pv 0) pa_nil)) (pe_tup (pa_cons (pe_bltn (v := .ty "list") (u := .type "list") (by rfl) T.b_list (by decide +kernel) rfl) (pa_cons (pe_bltn (v := .ty "tuple") (u := .type "tuple") (by rfl) T.b_tuple (by decide +kernel) rfl) pa_nil))) (by rfl)) (pe_one (pe_callB (allK K rfl) (by rfl) T.b_all (by decide +kernel) (pa_cons (pe_lc (own := [("number", 1)])  rfl sc_is_number_list.nd (pi_list (pv 0)) (blkOk_by (N := N_is_number_list) (sc := defScope s_is_number_list) (by decide +kernel)) (fun _ _ _ _ _ => by exact (pg_name (i := 1) sc_is_number_list.nd rfl (Or.inl rfl))) (fun _ _ _ _ _ => by exact pts_nil) (fun _ _ _ _ _ => by exact (pe_callR G_is_integer (hr.mono (by decide)) rfl T.g_is_integer T.k_is_integer pass0 (pa_cons (pv 1) pa_nil)))) pa_nil)))))), ?_⟩
        have hS1 : ∀ q o, H q = Option.none → SqL K (upd H q o) p xs := fun q o hq => Same.seq (same_new hq) hS
        refine ⟨_, rfl, _, "list", rfl, TyB.lst hS, by decide, fun q hq => ⟨_, q, ["list", "tuple"], rfl, rfl, SqT.of upd_same, by decide +kernel, by decide +kernel, _, rfl, iteH (by decide +kernel) ?_⟩⟩
        refine ⟨_, rfl, p, rfl, ⟨xs, hS1 _ _ hq⟩, fun D hD => lcM (stat_list (hS1 _ _ hq)) hD (fun i => .bl (isI (xs.getD i .non))) (Nat.le_trans hl line_ge) ?_ ?_⟩
        · intro i y H2 R hi s px k
          refine ⟨rfl, y, rfl, y, rfl, (kv y (List.mem_of_getElem? px)).same ((same_new hq).trans s), ?_⟩
          have := k _ (Same.refl _)
          rw [getD_of px] at this
          exact this
        · intro H2 s hL
          rw [range_map (fun y => V.bl (isI y)) .non xs] at hL
          refine ⟨D, xs.map isI, rfl, SqL.of (by rw [hL, List.map_map]; rfl), ?_⟩
          rw [all_map_bl]
          exact q0 _ ((same_new hq).trans s)
      · refine ⟨_, (pss_one (ps_ret (pe_and (pe_cmpR (inTyK K) (pe_callTy (typeK K) (by rfl) T.b_type (by decide +kernel) (pa_cons (pv 0) pa_nil)) (pe_tup (pa_cons (pe_bltn (v := .ty "list") (u := .type "list") (by rfl) T.b_list (by decide +kernel) rfl) (pa_cons (pe_bltn (v := .ty "tuple") (u := .type "tuple") (by rfl) T.b_tuple (by decide +kernel) rfl) pa_nil))) (by rfl)) (pe_one (pe_callB (allK K rfl) (by rfl) T.b_all (by decide +kernel) (pa_cons (pe_lc (own := [("number", 1)])  rfl sc_is_number_list.nd (pi_tup (pv 0)) (blkOk_by (N := N_is_number_list) (sc := defScope s_is_number_list) (by decide +kernel)) (fun _ _ _ _ _ => by exact (pg_name (i := 1) sc_is_number_list.nd rfl (Or.inl rfl))) (fun _ _ _ _ _ => by exact pts_nil) (fun _ _ _ _ _ => by exact (pe_callR G_is_integer (hr.mono (by decide)) rfl T.g_is_integer T.k_is_integer pass0 (pa_cons (pv 1) pa_nil)))) pa_nil)))))), ?_⟩
        have hS1 : ∀ q o, H q = Option.none → SqT K (upd H q o) p xs := fun q o hq => same_seqT (same_new hq) hS
        refine ⟨_, rfl, _, "tuple", rfl, TyB.tup hS, by decide, fun q hq => ⟨_, q, ["list", "tuple"], rfl, rfl, SqT.of upd_same, by decide +kernel, by decide +kernel, _, rfl, iteH (by decide +kernel) ?_⟩⟩
        refine ⟨_, rfl, p, rfl, ⟨xs, hS1 _ _ hq⟩, fun D hD => lcM (stat_tup (hS1 _ _ hq)) hD (fun i => .bl (isI (xs.getD i .non))) (Nat.le_trans hl line_ge) ?_ ?_⟩
        · intro i y H2 R hi s px k
          refine ⟨rfl, y, rfl, y, rfl, (kv y (List.mem_of_getElem? px)).same ((same_new hq).trans s), ?_⟩
          have := k _ (Same.refl _)
          rw [getD_of px] at this
          exact this
        · intro H2 s hL
          rw [range_map (fun y => V.bl (isI y)) .non xs] at hL
          refine ⟨D, xs.map isI, rfl, SqL.of (by rw [hL, List.map_map]; rfl), ?_⟩
          rw [all_map_bl]
          exact q0 _ ((same_new hq).trans s)
    · refine ⟨_, (pss_one (ps_ret (pe_and (pe_cmpR (inTyK K) (pe_callTy (typeK K) (by rfl) T.b_type (by decide +kernel) (pa_cons (pv 0) pa_nil)) (pe_tup (pa_cons (pe_bltn (v := .ty "list") (u := .type "list") (by rfl) T.b_list (by decide +kernel) rfl) (pa_cons (pe_bltn (v := .ty "tuple") (u := .type "tuple") (by rfl) T.b_tuple (by decide +kernel) rfl) pa_nil))) (by rfl)) (pe_one (pe_callB (allK K rfl) (by rfl) T.b_all (by decide +kernel) (pa_cons (pe_lc (own := [("number", 1)])  rfl sc_is_number_list.nd (pi_list (pv 0)) (blkOk_by (N := N_is_number_list) (sc := defScope s_is_number_list) (by decide +kernel)) (fun _ _ _ _ _ => by exact (pg_name (i := 1) sc_is_number_list.nd rfl (Or.inl rfl))) (fun _ _ _ _ _ => by exact pts_nil) (fun _ _ _ _ _ => by exact (pe_callR G_is_integer (hr.mono (by decide)) rfl T.g_is_integer T.k_is_integer pass0 (pa_cons (pv 1) pa_nil)))) pa_nil)))))), ?_⟩
      exact ⟨_, rfl, _, n, rfl, ht, by decide, fun q hq => ⟨_, q, ["list", "tuple"], rfl, rfl, SqT.of upd_same, hn, by decide +kernel, _, rfl, iteN (in_lt n1 n2) (q0 _ (same_new hq))⟩⟩

def vi : V → Int
  | .int i => i
  | _ => 0
theorem nums_map {xs : List V} (h : numsV xs = true) : xs = (xs.map vi).map V.int := by
  unfold numsV at h
  rw [List.all_eq_true] at h
  rw [List.map_map]
  conv => lhs; rw [← List.map_id xs]
  apply List.map_congr_left
  intro x hx
  have := h x hx
  cases x with
  | int i => rfl
  | _ => exact absurd this Bool.false_ne_true
theorem nums_of (L : List Int) : numsV (L.map V.int) = true := by
  unfold numsV
  rw [List.all_map]
  exact List.all_eq_true.mpr fun x _ => rfl
theorem vi_map (L : List Int) : (L.map V.int).map vi = L := by
  rw [List.map_map]
  exact List.map_id L
def ascV (xs : List V) : Bool := numsV xs && decide (Tbl.Asc (xs.map vi))
theorem cut1 (xs : List V) : cutV xs (some 1) Option.none = xs.drop 1 := by
  unfold cutV
  have e : HT.sIx xs.length 0 (some 1) = min 1 xs.length := HT.sIx_nat xs.length 0 1
  rw [e, HT.sIx_none]
  cases xs with
  | nil => rfl
  | cons x xs => simp
theorem asc_all (L : List Int) : ((List.range (min L.length (L.drop 1).length)).map fun i => decide (L.getD i 0 < L.getD (i + 1) 0)).all id = decide (Tbl.Asc L) := by
  rw [Bool.eq_iff_iff, decide_eq_true_eq, Tbl.asc_adj, List.all_eq_true]
  constructor
  · intro h i hi
    have := h (decide (L.getD i 0 < L.getD (i + 1) 0)) (List.mem_map.mpr ⟨i, List.mem_range.mpr (by simp; omega), rfl⟩)
    simpa [List.getD, hi, Nat.lt_of_succ_lt hi] using this
  · intro h b hb
    obtain ⟨i, hi, rfl⟩ := List.mem_map.mp hb
    have hi' : i + 1 < L.length := by have := List.mem_range.mp hi; simp at this; omega
    simpa [List.getD, hi', Nat.lt_of_succ_lt hi'] using h i hi' 
theorem ok_is_ascending (T : Txt K mg a) : FnR P w K mg base CX0 3 a.is_ascending (spChk K ascV) := by
  obtain ⟨fd, F⟩ := T.F_is_ascending
  refine XT.okR F sc_is_ascending bn_is_ascending (fun vs H Q E h => ?_) (fun cdv A outer s H vs Q E hr h => ?_)
  · obtain ⟨x, rfl, _⟩ := h
    rfl
  · obtain ⟨x, rfl, hq⟩ := h
    have G_is_number_list := ok_is_number_list (P := P) (w := w) (base := base) T
    rcases hq with ⟨xs, ⟨p, rfl, hS, kv, hl⟩, q0⟩ | ⟨od, q0⟩
    · have hA : True := trivial
      rcases hS with hS | hS
      · refine ⟨_, (pss_one (ps_ret (pe_and (pe_callR G_is_number_list (hr.mono (by decide)) rfl T.g_is_number_list T.k_is_number_list pass0 (pa_cons (pv 0) pa_nil)) (pe_one (pe_callB (allK K rfl) (by rfl) T.b_all (by decide +kernel) (pa_cons (pe_lc (own := [("low", 1), ("high", 2)])  rfl sc_is_ascending.nd (RZ.pi_zipA (by rfl) T.b_zip (pa_cons (pv 0) (pa_cons (pe_slice (slLK K) (pv 0) (po_some pe_int) po_none) pa_nil))) (blkOk_by (N := N_is_ascending) (sc := defScope s_is_ascending) (by decide +kernel)) (fun _ _ _ _ _ => by exact (tupK K (n := 2) (by rfl) (pgs_cons (pg_name (i := 1) sc_is_ascending.nd rfl (Or.inl rfl)) (pgs_cons (pg_name (i := 2) sc_is_ascending.nd rfl (Or.inl rfl)) pgs_nil)))) (fun _ _ _ _ _ => by exact pts_nil) (fun _ _ _ _ _ => by exact (pe_cmpR op_lt (pv 1) (pv 2) (nomark _)))) pa_nil)))))), ?_⟩
        refine ⟨_, rfl, .ref p, rfl, .inl ⟨xs, ⟨p, rfl, .inl hS, kv, hl⟩, fun H1 s1 => ⟨_, rfl, ?_⟩⟩⟩
        cases hn : numsV xs with
        | false => exact iteN rfl (by have := q0 _ s1; unfold ascV at this; rwa [hn] at this)
        | true =>
          refine iteH rfl ?_
          obtain ⟨L, rfl⟩ : ∃ L : List Int, xs = L.map V.int := ⟨_, nums_map hn⟩
          have hS1 := s1.seq hS
          refine ⟨_, rfl, _, rfl, _, rfl, p, _, rfl, hS1, fun z hz => ?_⟩
          rw [cut1, ← List.map_drop]
          have hS2 : SqL K (upd H1 z (.lst ((L.drop 1).map V.int))) p (L.map V.int) := Same.seq (same_new hz) hS1
          have hS3 : SqL K (upd H1 z (.lst ((L.drop 1).map V.int))) z ((L.drop 1).map V.int) := SqL.of upd_same
          refine ⟨p, z, _, _, rfl, .inl ⟨hS2, hS3, fun D hD => lcM (stat_zip hS2 hS3) hD (fun i => .bl (decide (L.getD i 0 < L.getD (i + 1) 0))) (Nat.le_trans (Nat.min_le_left _ _) (Nat.le_trans hl line_ge)) ?_ ?_⟩⟩
          · rintro i v H3 R hi s3 ⟨U, x, y, rfl, hU, px, py⟩ k
            refine ⟨U, [x, y], rfl, SqT.of hU, rfl, x, [y], rfl, y, [], rfl, rfl, rfl, ?_⟩
            rw [List.getElem?_map] at px
            rw [List.getElem?_map] at py
            obtain ⟨i1, h1, rfl⟩ := Option.map_eq_some_iff.mp px
            obtain ⟨i2, h2, rfl⟩ := Option.map_eq_some_iff.mp py
            refine ⟨_, rfl, _, rfl, i1, i2, rfl, rfl, ?_⟩
            have hk := k _ (Same.refl _)
            have e1 : L.getD i 0 = i1 := by simp [List.getD, h1]
            have e2 : L.getD (i + 1) 0 = i2 := by
              rw [List.getElem?_drop] at h2
              simp [List.getD, Nat.add_comm i 1, h2]
            rw [e1, e2] at hk
            exact hk
          · intro H3 s3 hL
            have e0 : min (L.map V.int).length ((L.drop 1).map V.int).length = min L.length (L.drop 1).length := by rw [List.length_map, List.length_map]
            rw [e0] at hL
            refine ⟨D, (List.range (min L.length (L.drop 1).length)).map fun i => decide (L.getD i 0 < L.getD (i + 1) 0), rfl, SqL.of (by rw [hL, List.map_map]; rfl), ?_⟩
            rw [asc_all]
            have := q0 _ ((s1.trans (same_new hz)).trans s3)
            unfold ascV at this
            rw [hn, Bool.true_and, vi_map] at this
            exact this
      · refine ⟨_, (pss_one (ps_ret (pe_and (pe_callR G_is_number_list (hr.mono (by decide)) rfl T.g_is_number_list T.k_is_number_list pass0 (pa_cons (pv 0) pa_nil)) (pe_one (pe_callB (allK K rfl) (by rfl) T.b_all (by decide +kernel) (pa_cons (pe_lc (own := [("low", 1), ("high", 2)])  rfl sc_is_ascending.nd (RZ.pi_zipA (by rfl) T.b_zip (pa_cons (pv 0) (pa_cons (pe_slice (slTK K) (pv 0) (po_some pe_int) po_none) pa_nil))) (blkOk_by (N := N_is_ascending) (sc := defScope s_is_ascending) (by decide +kernel)) (fun _ _ _ _ _ => by exact (tupK K (n := 2) (by rfl) (pgs_cons (pg_name (i := 1) sc_is_ascending.nd rfl (Or.inl rfl)) (pgs_cons (pg_name (i := 2) sc_is_ascending.nd rfl (Or.inl rfl)) pgs_nil)))) (fun _ _ _ _ _ => by exact pts_nil) (fun _ _ _ _ _ => by exact (pe_cmpR op_lt (pv 1) (pv 2) (nomark _)))) pa_nil)))))), ?_⟩
        refine ⟨_, rfl, .ref p, rfl, .inl ⟨xs, ⟨p, rfl, .inr hS, kv, hl⟩, fun H1 s1 => ⟨_, rfl, ?_⟩⟩⟩
        cases hn : numsV xs with
        | false => exact iteN rfl (by have := q0 _ s1; unfold ascV at this; rwa [hn] at this)
        | true =>
          refine iteH rfl ?_
          obtain ⟨L, rfl⟩ : ∃ L : List Int, xs = L.map V.int := ⟨_, nums_map hn⟩
          have hS1 := same_seqT s1 hS
          refine ⟨_, rfl, _, rfl, _, rfl, p, _, rfl, hS1, fun hw => ?_, fun hw z hz => ?_⟩
          · have e : L = [] := by
              have h1 := hw.1
              have e1 : HT.sIx (L.map V.int).length 0 (some 1) = min 1 (L.map V.int).length := HT.sIx_nat _ 0 1
              rw [e1, List.length_map] at h1
              exact List.length_eq_zero_iff.mp (by omega)
            have hS3 : SqT K H1 p ((L.drop 1).map V.int) := by rw [e]; rw [e] at hS1; exact hS1
            refine ⟨p, p, _, _, rfl, .inr ⟨hS1, hS3, fun D hD => lcM (stat_zipT hS1 hS3) hD (fun i => .bl (decide (L.getD i 0 < L.getD (i + 1) 0))) (Nat.le_trans (Nat.min_le_left _ _) (Nat.le_trans hl line_ge)) ?_ ?_⟩⟩
            · rintro i v H3 R hi s3 ⟨U, x, y, rfl, hU, px, py⟩ k
              refine ⟨U, [x, y], rfl, SqT.of hU, rfl, x, [y], rfl, y, [], rfl, rfl, rfl, ?_⟩
              rw [List.getElem?_map] at px
              rw [List.getElem?_map] at py
              obtain ⟨i1, h1, rfl⟩ := Option.map_eq_some_iff.mp px
              obtain ⟨i2, h2, rfl⟩ := Option.map_eq_some_iff.mp py
              refine ⟨_, rfl, _, rfl, i1, i2, rfl, rfl, ?_⟩
              have hk := k _ (Same.refl _)
              have e1 : L.getD i 0 = i1 := by simp [List.getD, h1]
              have e2 : L.getD (i + 1) 0 = i2 := by
                rw [List.getElem?_drop] at h2
                simp [List.getD, Nat.add_comm i 1, h2]
              rw [e1, e2] at hk
              exact hk
            · intro H3 s3 hL
              have e0 : min (L.map V.int).length ((L.drop 1).map V.int).length = min L.length (L.drop 1).length := by rw [List.length_map, List.length_map]
              rw [e0] at hL
              refine ⟨D, (List.range (min L.length (L.drop 1).length)).map fun i => decide (L.getD i 0 < L.getD (i + 1) 0), rfl, SqL.of (by rw [hL, List.map_map]; rfl), ?_⟩
              rw [asc_all]
              have := q0 _ ((s1).trans s3)
              unfold ascV at this
              rw [hn, Bool.true_and, vi_map] at this
              exact this
          · rw [cut1, ← List.map_drop]
            have hS2 : SqT K (upd H1 z (.tup ((L.drop 1).map V.int))) p (L.map V.int) := same_seqT (same_new hz) hS1
            have hS3 : SqT K (upd H1 z (.tup ((L.drop 1).map V.int))) z ((L.drop 1).map V.int) := SqT.of upd_same
            refine ⟨p, z, _, _, rfl, .inr ⟨hS2, hS3, fun D hD => lcM (stat_zipT hS2 hS3) hD (fun i => .bl (decide (L.getD i 0 < L.getD (i + 1) 0))) (Nat.le_trans (Nat.min_le_left _ _) (Nat.le_trans hl line_ge)) ?_ ?_⟩⟩
            · rintro i v H3 R hi s3 ⟨U, x, y, rfl, hU, px, py⟩ k
              refine ⟨U, [x, y], rfl, SqT.of hU, rfl, x, [y], rfl, y, [], rfl, rfl, rfl, ?_⟩
              rw [List.getElem?_map] at px
              rw [List.getElem?_map] at py
              obtain ⟨i1, h1, rfl⟩ := Option.map_eq_some_iff.mp px
              obtain ⟨i2, h2, rfl⟩ := Option.map_eq_some_iff.mp py
              refine ⟨_, rfl, _, rfl, i1, i2, rfl, rfl, ?_⟩
              have hk := k _ (Same.refl _)
              have e1 : L.getD i 0 = i1 := by simp [List.getD, h1]
              have e2 : L.getD (i + 1) 0 = i2 := by
                rw [List.getElem?_drop] at h2
                simp [List.getD, Nat.add_comm i 1, h2]
              rw [e1, e2] at hk
              exact hk
            · intro H3 s3 hL
              have e0 : min (L.map V.int).length ((L.drop 1).map V.int).length = min L.length (L.drop 1).length := by rw [List.length_map, List.length_map]
              rw [e0] at hL
              refine ⟨D, (List.range (min L.length (L.drop 1).length)).map fun i => decide (L.getD i 0 < L.getD (i + 1) 0), rfl, SqL.of (by rw [hL, List.map_map]; rfl), ?_⟩
              rw [asc_all]
              have := q0 _ ((s1.trans (same_new hz)).trans s3)
              unfold ascV at this
              rw [hn, Bool.true_and, vi_map] at this
              exact this
    · refine ⟨_, (pss_one (ps_ret (pe_and (pe_callR G_is_number_list (hr.mono (by decide)) rfl T.g_is_number_list T.k_is_number_list pass0 (pa_cons (pv 0) pa_nil)) (pe_one (pe_callB (allK K rfl) (by rfl) T.b_all (by decide +kernel) (pa_cons (pe_lc (own := [("low", 1), ("high", 2)])  rfl sc_is_ascending.nd (RZ.pi_zipA (by rfl) T.b_zip (pa_cons (pv 0) (pa_cons (pe_slice (slLK K) (pv 0) (po_some pe_int) po_none) pa_nil))) (blkOk_by (N := N_is_ascending) (sc := defScope s_is_ascending) (by decide +kernel)) (fun _ _ _ _ _ => by exact (tupK K (n := 2) (by rfl) (pgs_cons (pg_name (i := 1) sc_is_ascending.nd rfl (Or.inl rfl)) (pgs_cons (pg_name (i := 2) sc_is_ascending.nd rfl (Or.inl rfl)) pgs_nil)))) (fun _ _ _ _ _ => by exact pts_nil) (fun _ _ _ _ _ => by exact (pe_cmpR op_lt (pv 1) (pv 2) (nomark _)))) pa_nil)))))), ?_⟩
      exact ⟨_, rfl, x, rfl, .inr ⟨od, fun H1 s1 => ⟨_, rfl, iteN rfl (q0 _ s1)⟩⟩⟩

def rnkL (xs : List V) : Bool := ascV xs && xs.all rnkV
theorem ok_is_rank_list (T : Txt K mg a) : FnR P w K mg base CX0 4 a.is_rank_list (spChk K rnkL) := by
  obtain ⟨fd, F⟩ := T.F_is_rank_list
  refine XT.okR F sc_is_rank_list bn_is_rank_list (fun vs H Q E h => ?_) (fun cdv A outer s H vs Q E hr h => ?_)
  · obtain ⟨x, rfl, _⟩ := h
    rfl
  · obtain ⟨x, rfl, hq⟩ := h
    have G_is_ascending := ok_is_ascending (P := P) (w := w) (base := base) T
    have G_is_rank := ok_is_rank (P := P) (w := w) (base := base) T
    rcases hq with ⟨xs, ⟨p, rfl, hS, kv, hl⟩, q0⟩ | ⟨od, q0⟩
    · rcases hS with hS | hS
      · refine ⟨_, (pss_one (ps_ret (pe_and (pe_callR G_is_ascending (hr.mono (by decide)) rfl T.g_is_ascending T.k_is_ascending pass0 (pa_cons (pv 0) pa_nil)) (pe_one (pe_callB (allK K rfl) (by rfl) T.b_all (by decide +kernel) (pa_cons (pe_lc (own := [("number", 1)])  rfl sc_is_rank_list.nd (pi_list (pv 0)) (blkOk_by (N := N_is_rank_list) (sc := defScope s_is_rank_list) (by decide +kernel)) (fun _ _ _ _ _ => by exact (pg_name (i := 1) sc_is_rank_list.nd rfl (Or.inl rfl))) (fun _ _ _ _ _ => by exact pts_nil) (fun _ _ _ _ _ => by exact (pe_callR G_is_rank (hr.mono (by decide)) rfl T.g_is_rank T.k_is_rank pass0 (pa_cons (pv 1) pa_nil)))) pa_nil)))))), ?_⟩
        refine ⟨_, rfl, .ref p, rfl, .inl ⟨xs, ⟨p, rfl, .inl hS, kv, hl⟩, fun H1 s1 => ⟨_, rfl, ?_⟩⟩⟩
        cases hn : ascV xs with
        | false => exact iteN rfl (by have := q0 _ s1; unfold rnkL at this; rwa [hn] at this)
        | true =>
          refine iteH rfl ?_
          have hS1 := s1.seq hS
          refine ⟨_, rfl, p, rfl, ⟨xs, hS1⟩, fun D hD => lcM (stat_list hS1) hD (fun i => .bl (rnkV (xs.getD i .non))) (Nat.le_trans hl line_ge) ?_ ?_⟩
          · intro i y H2 R hi s px k
            refine ⟨rfl, y, rfl, y, rfl, (kv y (List.mem_of_getElem? px)).same (s1.trans s), ?_⟩
            have := k _ (Same.refl _)
            rw [getD_of px] at this
            exact this
          · intro H2 s hL
            rw [range_map (fun y => V.bl (rnkV y)) .non xs] at hL
            refine ⟨D, xs.map rnkV, rfl, SqL.of (by rw [hL, List.map_map]; rfl), ?_⟩
            rw [all_map_bl]
            have := q0 _ (s1.trans s)
            unfold rnkL at this
            rw [hn, Bool.true_and] at this
            exact this
      · refine ⟨_, (pss_one (ps_ret (pe_and (pe_callR G_is_ascending (hr.mono (by decide)) rfl T.g_is_ascending T.k_is_ascending pass0 (pa_cons (pv 0) pa_nil)) (pe_one (pe_callB (allK K rfl) (by rfl) T.b_all (by decide +kernel) (pa_cons (pe_lc (own := [("number", 1)])  rfl sc_is_rank_list.nd (pi_tup (pv 0)) (blkOk_by (N := N_is_rank_list) (sc := defScope s_is_rank_list) (by decide +kernel)) (fun _ _ _ _ _ => by exact (pg_name (i := 1) sc_is_rank_list.nd rfl (Or.inl rfl))) (fun _ _ _ _ _ => by exact pts_nil) (fun _ _ _ _ _ => by exact (pe_callR G_is_rank (hr.mono (by decide)) rfl T.g_is_rank T.k_is_rank pass0 (pa_cons (pv 1) pa_nil)))) pa_nil)))))), ?_⟩
        refine ⟨_, rfl, .ref p, rfl, .inl ⟨xs, ⟨p, rfl, .inr hS, kv, hl⟩, fun H1 s1 => ⟨_, rfl, ?_⟩⟩⟩
        cases hn : ascV xs with
        | false => exact iteN rfl (by have := q0 _ s1; unfold rnkL at this; rwa [hn] at this)
        | true =>
          refine iteH rfl ?_
          have hS1 := same_seqT s1 hS
          refine ⟨_, rfl, p, rfl, ⟨xs, hS1⟩, fun D hD => lcM (stat_tup hS1) hD (fun i => .bl (rnkV (xs.getD i .non))) (Nat.le_trans hl line_ge) ?_ ?_⟩
          · intro i y H2 R hi s px k
            refine ⟨rfl, y, rfl, y, rfl, (kv y (List.mem_of_getElem? px)).same (s1.trans s), ?_⟩
            have := k _ (Same.refl _)
            rw [getD_of px] at this
            exact this
          · intro H2 s hL
            rw [range_map (fun y => V.bl (rnkV y)) .non xs] at hL
            refine ⟨D, xs.map rnkV, rfl, SqL.of (by rw [hL, List.map_map]; rfl), ?_⟩
            rw [all_map_bl]
            have := q0 _ (s1.trans s)
            unfold rnkL at this
            rw [hn, Bool.true_and] at this
            exact this
    · refine ⟨_, (pss_one (ps_ret (pe_and (pe_callR G_is_ascending (hr.mono (by decide)) rfl T.g_is_ascending T.k_is_ascending pass0 (pa_cons (pv 0) pa_nil)) (pe_one (pe_callB (allK K rfl) (by rfl) T.b_all (by decide +kernel) (pa_cons (pe_lc (own := [("number", 1)])  rfl sc_is_rank_list.nd (pi_list (pv 0)) (blkOk_by (N := N_is_rank_list) (sc := defScope s_is_rank_list) (by decide +kernel)) (fun _ _ _ _ _ => by exact (pg_name (i := 1) sc_is_rank_list.nd rfl (Or.inl rfl))) (fun _ _ _ _ _ => by exact pts_nil) (fun _ _ _ _ _ => by exact (pe_callR G_is_rank (hr.mono (by decide)) rfl T.g_is_rank T.k_is_rank pass0 (pa_cons (pv 1) pa_nil)))) pa_nil)))))), ?_⟩
      exact ⟨_, rfl, x, rfl, .inr ⟨od, fun H1 s1 => ⟨_, rfl, iteN rfl (q0 _ s1)⟩⟩⟩

theorem rnkL_of {L : List Int} (h1 : Tbl.Asc L) (h2 : Tbl.Pos L) : rnkL (L.map V.int) = true := by
  unfold rnkL ascV
  rw [nums_of, vi_map, decide_eq_true h1, List.all_map, Bool.true_and, Bool.true_and]
  exact List.all_eq_true.mpr fun x hx => decide_eq_true (by have := h2 x hx; omega)
end
end K05
namespace K05
open PySem L2 XT
section
variable {P : Program} {w : World} {K : PySem.W.Frag} {mg : Str → Option Value} {base : Heap} {a : Ads}

/-- numbers in ascending order, as a list or a tuple -/
def spHow (K : PySem.W.Frag) : Sp := fun vs H Q _ => ∃ (p : Addr) (lim : Int) (B : List Int), vs = [.ref p, .int lim] ∧ (SqL K H p (B.map V.int) ∨ SqT K H p (B.map V.int)) ∧ Tbl.Up B ∧ Q (.int (Tbl.cnt B lim)) H
def muHow : L2.St → Nat := fun σ => match σ with
  | [_, _, some (.int lo), some (.int hi), _] => (hi - lo).toNat
  | _ => 0
def InvHow (p : Addr) (lim : Int) (B : List Int) (H0 : Hp) (σ : L2.St) (H : Hp) : Prop := ∃ (lo hi : Nat) (m : Option V), H = H0 ∧ σ = [some (.ref p), some (.int lim), some (.int lo), some (.int hi), m] ∧ lo ≤ hi ∧ hi ≤ B.length ∧
  (∀ j, (h : j < B.length) → j < lo → B[j] ≤ lim) ∧ ∀ j, (h : j < B.length) → hi ≤ j → lim < B[j]
theorem ok_how_many_up_to (T : Txt K mg a) : FnR P w K mg base CX0 1 a.how_many_up_to (spHow K) := by
  obtain ⟨fd, F⟩ := T.F_how_many_up_to
  refine XT.okR F sc_how_many_up_to bn_how_many_up_to (fun vs H Q E h => ?_) (fun cdv A outer s H vs Q E hr h => ?_)
  · obtain ⟨p, lim, B, rfl, _⟩ := h
    rfl
  · obtain ⟨p, lim, B, rfl, hS, hu, q⟩ := h
    rcases hS with hS | hS
    · refine ⟨_, (pss_cons (ps_par (i := 2) (j := 3) (by rfl) sc_how_many_up_to.nd rfl rfl (by decide) rfl rfl (pa_cons pe_int (pa_cons (pe_callB (lenK K) (by rfl) T.b_len (by decide +kernel) (pa_cons (pv 0) pa_nil)) pa_nil)) (by rfl))
            (pss_cons (ps_while PassesOwn.never (pt_cmpR op_lt (pv 2) (pv 3) (nomark _))
              (pss_cons (ps_set (i := 4) sc_how_many_up_to.nd rfl (Or.inl rfl) (pe_op op_fdiv (pe_op op_add (pv 2) (pv 3)) pe_int))
            (pss_one (ps_if (pt_cmpR op_le (pe_ix (ixLK K) (pv 0) (pv 4) (fun _ _ => rfl)) (pv 1) (nomark _)) (pss_one (ps_set (i := 2) sc_how_many_up_to.nd rfl (Or.inl rfl) (pe_op op_add (pv 4) pe_int))) (pss_one (ps_set (i := 3) sc_how_many_up_to.nd rfl (Or.inl rfl) (pv 4)))))))
            (pss_one (ps_ret (pv 2))))), ?_⟩
      refine ⟨_, rfl, p, _, rfl, .inl hS, _, _, rfl, ?_⟩
      refine while_by (InvHow p lim B H) (fun σ _ => muHow σ) ⟨0, B.length, Option.none, rfl, ?_, Nat.zero_le _, Nat.le_refl _, fun j h h2 => absurd h2 (Nat.not_lt_zero _), fun j h h2 => absurd h (by omega)⟩ ?_ ?_
      · show _ = [some (V.ref p), some (V.int lim), some (V.int ((0 : Nat) : Int)), some (V.int (B.length : Int)), Option.none]
        rw [List.length_map]
        rfl
      · rintro σ H1 ⟨lo, hi, m, rfl, rfl, h1, h2, h3, h4⟩
        refine ⟨_, rfl, _, rfl, _, _, rfl, rfl, _, rfl, ite2 (fun hlt => ?_) (fun hge => ?_)⟩
        · have hlt' : lo < hi := by have := of_decide_eq_true hlt; omega
          have em : ((lo : Int) + (hi : Int)) / 2 = (((lo + hi) / 2 : Nat) : Int) := by omega
          have hm : (lo + hi) / 2 < B.length := by omega
          have hg : (B.map V.int)[(lo + hi) / 2]? = some (V.int B[(lo + hi) / 2]) := by simp [hm]
          refine ⟨_, rfl, _, rfl, _, _, rfl, rfl, _, _, rfl, rfl, ⟨by decide, by decide⟩, ?_⟩
          refine ⟨_, rfl, _, rfl, p, _, _, _, rfl, rfl, hS, at_of em hg, _, rfl, _, _, rfl, rfl, _, rfl, ite2 (fun hle => ?_) (fun hgt => ?_)⟩
          · have hle' := of_decide_eq_true hle
            refine ⟨_, rfl, _, _, rfl, rfl, ⟨⟨(lo + hi) / 2 + 1, hi, some (V.int (((lo : Int) + (hi : Int)) / 2)), rfl, ?_, by omega, h2, fun j hj hlt2 => ?_, h4⟩, ?_⟩⟩
            · show [some (V.ref p), some (V.int lim), some (V.int (((lo : Int) + (hi : Int)) / 2 + 1)), some (V.int (hi : Int)), some (V.int (((lo : Int) + (hi : Int)) / 2))] = _
              rw [em]
              try rfl
            · exact Int.le_trans (Tbl.up_get hu hj hm (by omega)) hle'
            · show ((hi : Int) - (((lo : Int) + (hi : Int)) / 2 + 1)).toNat < ((hi : Int) - (lo : Int)).toNat
              omega
          · have hgt' : ¬ B[(lo + hi) / 2] ≤ lim := fun z => hgt (decide_eq_true z)
            refine ⟨_, rfl, ⟨⟨lo, (lo + hi) / 2, some (V.int (((lo : Int) + (hi : Int)) / 2)), rfl, ?_, by omega, by omega, h3, fun j hj hle2 => ?_⟩, ?_⟩⟩
            · show [some (V.ref p), some (V.int lim), some (V.int (lo : Int)), some (V.int (((lo : Int) + (hi : Int)) / 2)), some (V.int (((lo : Int) + (hi : Int)) / 2))] = _
              rw [em]
              try rfl
            · have := Tbl.up_get hu hm hj hle2
              omega
            · show ((((lo : Int) + (hi : Int)) / 2) - (lo : Int)).toNat < ((hi : Int) - (lo : Int)).toNat
              omega
        · have hge' : ¬ ((lo : Int) < (hi : Int)) := fun z => hge (decide_eq_true z)
          have e : lo = hi := by omega
          subst e
          refine ⟨_, rfl, ?_⟩
          have := Tbl.cnt_split h2 h3 h4
          rw [this] at q
          exact q
      · rintro σ H1 Q1 Q2 hq ⟨x, hx, y, hy, i, j, e1, e2, k, e3, z⟩
        exact ⟨x, hx, y, hy, i, j, e1, e2, k, e3, hq _ _ z⟩
    · refine ⟨_, (pss_cons (ps_par (i := 2) (j := 3) (by rfl) sc_how_many_up_to.nd rfl rfl (by decide) rfl rfl (pa_cons pe_int (pa_cons (pe_callB (lenK K) (by rfl) T.b_len (by decide +kernel) (pa_cons (pv 0) pa_nil)) pa_nil)) (by rfl))
            (pss_cons (ps_while PassesOwn.never (pt_cmpR op_lt (pv 2) (pv 3) (nomark _))
              (pss_cons (ps_set (i := 4) sc_how_many_up_to.nd rfl (Or.inl rfl) (pe_op op_fdiv (pe_op op_add (pv 2) (pv 3)) pe_int))
            (pss_one (ps_if (pt_cmpR op_le (pe_ix (ixTK K) (pv 0) (pv 4) (fun _ _ => rfl)) (pv 1) (nomark _)) (pss_one (ps_set (i := 2) sc_how_many_up_to.nd rfl (Or.inl rfl) (pe_op op_add (pv 4) pe_int))) (pss_one (ps_set (i := 3) sc_how_many_up_to.nd rfl (Or.inl rfl) (pv 4)))))))
            (pss_one (ps_ret (pv 2))))), ?_⟩
      refine ⟨_, rfl, p, _, rfl, .inr hS, _, _, rfl, ?_⟩
      refine while_by (InvHow p lim B H) (fun σ _ => muHow σ) ⟨0, B.length, Option.none, rfl, ?_, Nat.zero_le _, Nat.le_refl _, fun j h h2 => absurd h2 (Nat.not_lt_zero _), fun j h h2 => absurd h (by omega)⟩ ?_ ?_
      · show _ = [some (V.ref p), some (V.int lim), some (V.int ((0 : Nat) : Int)), some (V.int (B.length : Int)), Option.none]
        rw [List.length_map]
        rfl
      · rintro σ H1 ⟨lo, hi, m, rfl, rfl, h1, h2, h3, h4⟩
        refine ⟨_, rfl, _, rfl, _, _, rfl, rfl, _, rfl, ite2 (fun hlt => ?_) (fun hge => ?_)⟩
        · have hlt' : lo < hi := by have := of_decide_eq_true hlt; omega
          have em : ((lo : Int) + (hi : Int)) / 2 = (((lo + hi) / 2 : Nat) : Int) := by omega
          have hm : (lo + hi) / 2 < B.length := by omega
          have hg : (B.map V.int)[(lo + hi) / 2]? = some (V.int B[(lo + hi) / 2]) := by simp [hm]
          refine ⟨_, rfl, _, rfl, _, _, rfl, rfl, _, _, rfl, rfl, ⟨by decide, by decide⟩, ?_⟩
          refine ⟨_, rfl, _, rfl, p, _, _, _, rfl, rfl, hS, at_of em hg, _, rfl, _, _, rfl, rfl, _, rfl, ite2 (fun hle => ?_) (fun hgt => ?_)⟩
          · have hle' := of_decide_eq_true hle
            refine ⟨_, rfl, _, _, rfl, rfl, ⟨⟨(lo + hi) / 2 + 1, hi, some (V.int (((lo : Int) + (hi : Int)) / 2)), rfl, ?_, by omega, h2, fun j hj hlt2 => ?_, h4⟩, ?_⟩⟩
            · show [some (V.ref p), some (V.int lim), some (V.int (((lo : Int) + (hi : Int)) / 2 + 1)), some (V.int (hi : Int)), some (V.int (((lo : Int) + (hi : Int)) / 2))] = _
              rw [em]
              try rfl
            · exact Int.le_trans (Tbl.up_get hu hj hm (by omega)) hle'
            · show ((hi : Int) - (((lo : Int) + (hi : Int)) / 2 + 1)).toNat < ((hi : Int) - (lo : Int)).toNat
              omega
          · have hgt' : ¬ B[(lo + hi) / 2] ≤ lim := fun z => hgt (decide_eq_true z)
            refine ⟨_, rfl, ⟨⟨lo, (lo + hi) / 2, some (V.int (((lo : Int) + (hi : Int)) / 2)), rfl, ?_, by omega, by omega, h3, fun j hj hle2 => ?_⟩, ?_⟩⟩
            · show [some (V.ref p), some (V.int lim), some (V.int (lo : Int)), some (V.int (((lo : Int) + (hi : Int)) / 2)), some (V.int (((lo : Int) + (hi : Int)) / 2))] = _
              rw [em]
              try rfl
            · have := Tbl.up_get hu hm hj hle2
              omega
            · show ((((lo : Int) + (hi : Int)) / 2) - (lo : Int)).toNat < ((hi : Int) - (lo : Int)).toNat
              omega
        · have hge' : ¬ ((lo : Int) < (hi : Int)) := fun z => hge (decide_eq_true z)
          have e : lo = hi := by omega
          subst e
          refine ⟨_, rfl, ?_⟩
          have := Tbl.cnt_split h2 h3 h4
          rw [this] at q
          exact q
      · rintro σ H1 Q1 Q2 hq ⟨x, hx, y, hy, i, j, e1, e2, k, e3, z⟩
        exact ⟨x, hx, y, hy, i, j, e1, e2, k, e3, hq _ _ z⟩

def spMapped (K : PySem.W.Frag) : Sp := fun vs H Q _ => ∃ (s c : Int) (p : Addr) (L : List Int), vs = [.int s, .ref p, .int c] ∧ SqT K H p (L.map V.int) ∧ Tbl.Up L ∧ Q (.int (Tbl.mp s L c)) H
theorem ok_mapped (T : Txt K mg a) : FnR P w K mg base CX0 2 a.mapped (spMapped K) := by
  obtain ⟨fd, F⟩ := T.F_mapped
  refine XT.okR F sc_mapped bn_mapped (fun vs H Q E h => ?_) (fun cdv A outer s H vs Q E hr h => ?_)
  · obtain ⟨z, c, p, L, rfl, _⟩ := h
    rfl
  · obtain ⟨z, c, p, L, rfl, hS, hu, q⟩ := h
    have G_how_many_up_to := ok_how_many_up_to (P := P) (w := w) (base := base) T
    refine ⟨_, (pss_one (ps_ret (pe_op op_sub (pe_op op_add (pv 0) (pv 2)) (pe_callR G_how_many_up_to (hr.mono (by decide)) rfl T.g_how_many_up_to T.k_how_many_up_to pass0 (pa_cons (pv 1) (pa_cons (pv 2) pa_nil)))))), ?_⟩
    exact ⟨_, rfl, _, rfl, _, _, rfl, rfl, _, rfl, _, rfl, p, c, L, rfl, .inr hS, hu, _, _, rfl, rfl, q⟩

end
end K05
namespace K05
open PySem L2 XT
section
variable {P : Program} {w : World} {K : PySem.W.Frag} {mg : Str → Option Value} {base : Heap} {a : Ads}

theorem bnds_get (L : List Int) : ∀ (i j : Nat) (h : j < L.length) (h2 : j < (Tbl.bnds i L).length), (Tbl.bnds i L)[j] = L[j] - ((i + j : Nat) : Int) := by
  induction L with
  | nil => intro i j h; cases h
  | cons x L ih =>
    intro i j h h2
    cases j with
    | zero => rfl
    | succ j =>
      show (Tbl.bnds (i + 1) L)[j]'(by rw [Tbl.bnds_length]; simpa using h) = L[j]'(by simpa using h) - ((i + (j + 1) : Nat) : Int)
      rw [ih (i + 1) j (by simpa using h)]
      omega
def spKr (K : PySem.W.Frag) : Sp := fun vs H Q _ => ∃ (p : Addr) (lim : Int) (B : List Int), vs = [.ref p, .int lim] ∧ (SqL K H p (B.map V.int) ∨ SqT K H p (B.map V.int)) ∧ Tbl.Asc B ∧ Q (.int (Tbl.kr B lim)) H
theorem ok_kept_rank (T : Txt K mg a) : FnR P w K mg base CX0 1 a.kept_rank (spKr K) := by
  obtain ⟨fd, F⟩ := T.F_kept_rank
  refine XT.okR F sc_kept_rank bn_kept_rank (fun vs H Q E h => ?_) (fun cdv A outer s H vs Q E hr h => ?_)
  · obtain ⟨p, lim, B, rfl, _⟩ := h
    rfl
  · obtain ⟨p, lim, B, rfl, hS, ha, q⟩ := h
    rcases hS with hS | hS
    · refine ⟨_, (pss_cons (ps_par (i := 2) (j := 3) (by rfl) sc_kept_rank.nd rfl rfl (by decide) rfl rfl (pa_cons pe_int (pa_cons (pe_callB (lenK K) (by rfl) T.b_len (by decide +kernel) (pa_cons (pv 0) pa_nil)) pa_nil)) (by rfl))
            (pss_cons (ps_while PassesOwn.never (pt_cmpR op_lt (pv 2) (pv 3) (nomark _))
              (pss_cons (ps_set (i := 4) sc_kept_rank.nd rfl (Or.inl rfl) (pe_op op_fdiv (pe_op op_add (pv 2) (pv 3)) pe_int))
            (pss_one (ps_if (pt_cmpR op_le (pe_op op_sub (pe_ix (ixLK K) (pv 0) (pv 4) (fun _ _ => rfl)) (pv 4)) (pv 1) (nomark _)) (pss_one (ps_set (i := 2) sc_kept_rank.nd rfl (Or.inl rfl) (pe_op op_add (pv 4) pe_int))) (pss_one (ps_set (i := 3) sc_kept_rank.nd rfl (Or.inl rfl) (pv 4)))))))
            (pss_one (ps_ret (pe_op op_add (pv 1) (pv 2)))))), ?_⟩
      have hbl : (Tbl.bnds 0 B).length = B.length := Tbl.bnds_length B 0
      have hu := Tbl.bnds_up (i := 0) ha
      refine ⟨_, rfl, p, _, rfl, .inl hS, _, _, rfl, ?_⟩
      refine while_by (InvHow p lim (Tbl.bnds 0 B) H) (fun σ _ => muHow σ) ⟨0, (Tbl.bnds 0 B).length, Option.none, rfl, ?_, Nat.zero_le _, Nat.le_refl _, fun j h h2 => absurd h2 (Nat.not_lt_zero _), fun j h h2 => absurd h (by omega)⟩ ?_ ?_
      · show _ = [some (V.ref p), some (V.int lim), some (V.int ((0 : Nat) : Int)), some (V.int ((Tbl.bnds 0 B).length : Int)), Option.none]
        rw [List.length_map, hbl]
        rfl
      · rintro σ H1 ⟨lo, hi, m, rfl, rfl, h1, h2, h3, h4⟩
        refine ⟨_, rfl, _, rfl, _, _, rfl, rfl, _, rfl, ite2 (fun hlt => ?_) (fun hge => ?_)⟩
        · have hlt' : lo < hi := by have := of_decide_eq_true hlt; omega
          have em : ((lo : Int) + (hi : Int)) / 2 = (((lo + hi) / 2 : Nat) : Int) := by omega
          have hm : (lo + hi) / 2 < (Tbl.bnds 0 B).length := by omega
          have hm0 : (lo + hi) / 2 < B.length := by omega
          have hg : (B.map V.int)[(lo + hi) / 2]? = some (V.int B[(lo + hi) / 2]) := by simp [hm0]
          have hgb := bnds_get B 0 ((lo + hi) / 2) hm0 hm
          rw [Nat.zero_add] at hgb
          refine ⟨_, rfl, _, rfl, _, _, rfl, rfl, _, _, rfl, rfl, ⟨by decide, by decide⟩, ?_⟩
          refine ⟨_, rfl, _, rfl, p, _, _, _, rfl, rfl, hS, at_of em hg, _, rfl, _, _, rfl, rfl, _, rfl, _, _, rfl, rfl, _, rfl, ite2 (fun hle => ?_) (fun hgt => ?_)⟩
          · have hle' : (Tbl.bnds 0 B)[(lo + hi) / 2] ≤ lim := by have := of_decide_eq_true hle; rw [hgb]; omega
            refine ⟨_, rfl, _, _, rfl, rfl, ⟨⟨(lo + hi) / 2 + 1, hi, some (V.int (((lo : Int) + (hi : Int)) / 2)), rfl, ?_, by omega, h2, fun j hj hlt2 => ?_, h4⟩, ?_⟩⟩
            · show [some (V.ref p), some (V.int lim), some (V.int (((lo : Int) + (hi : Int)) / 2 + 1)), some (V.int (hi : Int)), some (V.int (((lo : Int) + (hi : Int)) / 2))] = _
              rw [em]
              try rfl
            · exact Int.le_trans (Tbl.up_get hu hj hm (by omega)) hle'
            · show ((hi : Int) - (((lo : Int) + (hi : Int)) / 2 + 1)).toNat < ((hi : Int) - (lo : Int)).toNat
              omega
          · have hgt' : lim < (Tbl.bnds 0 B)[(lo + hi) / 2] := by
              have := of_decide_eq_false ((Bool.not_eq_true _).mp hgt)
              rw [hgb]
              omega
            refine ⟨_, rfl, ⟨⟨lo, (lo + hi) / 2, some (V.int (((lo : Int) + (hi : Int)) / 2)), rfl, ?_, by omega, by omega, h3, fun j hj hle2 => ?_⟩, ?_⟩⟩
            · show [some (V.ref p), some (V.int lim), some (V.int (lo : Int)), some (V.int (((lo : Int) + (hi : Int)) / 2)), some (V.int (((lo : Int) + (hi : Int)) / 2))] = _
              rw [em]
              try rfl
            · have := Tbl.up_get hu hm hj hle2
              omega
            · show ((((lo : Int) + (hi : Int)) / 2) - (lo : Int)).toNat < ((hi : Int) - (lo : Int)).toNat
              omega
        · have hge' : ¬ ((lo : Int) < (hi : Int)) := fun z => hge (decide_eq_true z)
          have e : lo = hi := by omega
          subst e
          refine ⟨_, rfl, _, rfl, _, _, rfl, rfl, ?_⟩
          have := Tbl.cnt_split h2 h3 h4
          unfold Tbl.kr at q
          rw [this] at q
          exact q
      · rintro σ H1 Q1 Q2 hq ⟨x, hx, y, hy, i, j, e1, e2, k, e3, z⟩
        exact ⟨x, hx, y, hy, i, j, e1, e2, k, e3, hq _ _ z⟩
    · refine ⟨_, (pss_cons (ps_par (i := 2) (j := 3) (by rfl) sc_kept_rank.nd rfl rfl (by decide) rfl rfl (pa_cons pe_int (pa_cons (pe_callB (lenK K) (by rfl) T.b_len (by decide +kernel) (pa_cons (pv 0) pa_nil)) pa_nil)) (by rfl))
            (pss_cons (ps_while PassesOwn.never (pt_cmpR op_lt (pv 2) (pv 3) (nomark _))
              (pss_cons (ps_set (i := 4) sc_kept_rank.nd rfl (Or.inl rfl) (pe_op op_fdiv (pe_op op_add (pv 2) (pv 3)) pe_int))
            (pss_one (ps_if (pt_cmpR op_le (pe_op op_sub (pe_ix (ixTK K) (pv 0) (pv 4) (fun _ _ => rfl)) (pv 4)) (pv 1) (nomark _)) (pss_one (ps_set (i := 2) sc_kept_rank.nd rfl (Or.inl rfl) (pe_op op_add (pv 4) pe_int))) (pss_one (ps_set (i := 3) sc_kept_rank.nd rfl (Or.inl rfl) (pv 4)))))))
            (pss_one (ps_ret (pe_op op_add (pv 1) (pv 2)))))), ?_⟩
      have hbl : (Tbl.bnds 0 B).length = B.length := Tbl.bnds_length B 0
      have hu := Tbl.bnds_up (i := 0) ha
      refine ⟨_, rfl, p, _, rfl, .inr hS, _, _, rfl, ?_⟩
      refine while_by (InvHow p lim (Tbl.bnds 0 B) H) (fun σ _ => muHow σ) ⟨0, (Tbl.bnds 0 B).length, Option.none, rfl, ?_, Nat.zero_le _, Nat.le_refl _, fun j h h2 => absurd h2 (Nat.not_lt_zero _), fun j h h2 => absurd h (by omega)⟩ ?_ ?_
      · show _ = [some (V.ref p), some (V.int lim), some (V.int ((0 : Nat) : Int)), some (V.int ((Tbl.bnds 0 B).length : Int)), Option.none]
        rw [List.length_map, hbl]
        rfl
      · rintro σ H1 ⟨lo, hi, m, rfl, rfl, h1, h2, h3, h4⟩
        refine ⟨_, rfl, _, rfl, _, _, rfl, rfl, _, rfl, ite2 (fun hlt => ?_) (fun hge => ?_)⟩
        · have hlt' : lo < hi := by have := of_decide_eq_true hlt; omega
          have em : ((lo : Int) + (hi : Int)) / 2 = (((lo + hi) / 2 : Nat) : Int) := by omega
          have hm : (lo + hi) / 2 < (Tbl.bnds 0 B).length := by omega
          have hm0 : (lo + hi) / 2 < B.length := by omega
          have hg : (B.map V.int)[(lo + hi) / 2]? = some (V.int B[(lo + hi) / 2]) := by simp [hm0]
          have hgb := bnds_get B 0 ((lo + hi) / 2) hm0 hm
          rw [Nat.zero_add] at hgb
          refine ⟨_, rfl, _, rfl, _, _, rfl, rfl, _, _, rfl, rfl, ⟨by decide, by decide⟩, ?_⟩
          refine ⟨_, rfl, _, rfl, p, _, _, _, rfl, rfl, hS, at_of em hg, _, rfl, _, _, rfl, rfl, _, rfl, _, _, rfl, rfl, _, rfl, ite2 (fun hle => ?_) (fun hgt => ?_)⟩
          · have hle' : (Tbl.bnds 0 B)[(lo + hi) / 2] ≤ lim := by have := of_decide_eq_true hle; rw [hgb]; omega
            refine ⟨_, rfl, _, _, rfl, rfl, ⟨⟨(lo + hi) / 2 + 1, hi, some (V.int (((lo : Int) + (hi : Int)) / 2)), rfl, ?_, by omega, h2, fun j hj hlt2 => ?_, h4⟩, ?_⟩⟩
            · show [some (V.ref p), some (V.int lim), some (V.int (((lo : Int) + (hi : Int)) / 2 + 1)), some (V.int (hi : Int)), some (V.int (((lo : Int) + (hi : Int)) / 2))] = _
              rw [em]
              try rfl
            · exact Int.le_trans (Tbl.up_get hu hj hm (by omega)) hle'
            · show ((hi : Int) - (((lo : Int) + (hi : Int)) / 2 + 1)).toNat < ((hi : Int) - (lo : Int)).toNat
              omega
          · have hgt' : lim < (Tbl.bnds 0 B)[(lo + hi) / 2] := by
              have := of_decide_eq_false ((Bool.not_eq_true _).mp hgt)
              rw [hgb]
              omega
            refine ⟨_, rfl, ⟨⟨lo, (lo + hi) / 2, some (V.int (((lo : Int) + (hi : Int)) / 2)), rfl, ?_, by omega, by omega, h3, fun j hj hle2 => ?_⟩, ?_⟩⟩
            · show [some (V.ref p), some (V.int lim), some (V.int (lo : Int)), some (V.int (((lo : Int) + (hi : Int)) / 2)), some (V.int (((lo : Int) + (hi : Int)) / 2))] = _
              rw [em]
              try rfl
            · have := Tbl.up_get hu hm hj hle2
              omega
            · show ((((lo : Int) + (hi : Int)) / 2) - (lo : Int)).toNat < ((hi : Int) - (lo : Int)).toNat
              omega
        · have hge' : ¬ ((lo : Int) < (hi : Int)) := fun z => hge (decide_eq_true z)
          have e : lo = hi := by omega
          subst e
          refine ⟨_, rfl, _, rfl, _, _, rfl, rfl, ?_⟩
          have := Tbl.cnt_split h2 h3 h4
          unfold Tbl.kr at q
          rw [this] at q
          exact q
      · rintro σ H1 Q1 Q2 hq ⟨x, hx, y, hy, i, j, e1, e2, k, e3, z⟩
        exact ⟨x, hx, y, hy, i, j, e1, e2, k, e3, hq _ _ z⟩

end
end K05
namespace K05
open PySem L2 XT
section
variable {P : Program} {w : World} {K : PySem.W.Frag} {mg : Str → Option Value} {base : Heap} {a : Ads}

theorem ne_ls : ¬ (("_lost" : Str) = "_start") := by decide +kernel
theorem ne_sl : ¬ (("_start" : Str) = "_lost") := by decide +kernel
def flds (s : Int) (la : Addr) : List (Str × V) := putF "_lost" (.ref la) (putF "_start" (.int s) [])
theorem flds_start (s : Int) (la : Addr) : (flds s la).lookup ("_start" : Str) = some (.int s) := by
  unfold flds
  rw [lookup_putF, if_neg ne_sl, lookup_putF, if_pos rfl]
theorem flds_lost (s : Int) (la : Addr) : (flds s la).lookup ("_lost" : Str) = some (.ref la) := by
  unfold flds
  rw [lookup_putF, if_pos rfl]
theorem flds_no (s : Int) (la : Addr) {m : Str} (h1 : ¬ m = "_lost") (h2 : ¬ m = "_start") : (flds s la).lookup m = none := by
  unfold flds
  rw [lookup_putF, if_neg h1, lookup_putF, if_neg h2]
  all_goals rfl
/-- a table stands at t -/
def TabAt (K : PySem.W.Frag) (C : Addr) (H : Hp) (t : Addr) (s : Int) (L : List Int) : Prop := ∃ dx la, H t = some (.ins C dx (flds s la)) ∧ SqT K H la (L.map V.int) ∧ Tbl.Ok s L ∧ L.length ≤ 100000
theorem TabAt.same {K : PySem.W.Frag} {C : Addr} {H H' : Hp} {t : Addr} {s : Int} {L : List Int} (h : TabAt K C H t s L) (e : Same H H') : TabAt K C H' t s L :=
  let ⟨dx, la, a, b, c⟩ := h
  ⟨dx, la, e _ _ a, same_seqT e b, c⟩
theorem TabAt.insA {K : PySem.W.Frag} {C : Addr} {H : Hp} {t : Addr} {s : Int} {L : List Int} (h : TabAt K C H t s L) : InsA H t C := let ⟨dx, la, a, _⟩ := h; ⟨dx, _, a⟩
theorem TabAt.insC {X : Cx} {K : PySem.W.Frag} {C : Addr} {H : Hp} {t : Addr} {s : Int} {L : List Int} (h : TabAt K C H t s L) : StX.InsC X H t C := let ⟨dx, la, a, _⟩ := h; .inr ⟨dx, _, a⟩
def spTab0 (K : PySem.W.Frag) (C : Addr) : Sp := fun vs H Q _ => ∃ (t dx l : Addr) (s : Int) (L : List Int), vs = [.ref t, .int s, .ref l] ∧ H t = some (.ins C dx []) ∧ (SqL K H l (L.map V.int) ∨ SqT K H l (L.map V.int)) ∧ Tbl.Ok s L ∧ L.length ≤ 100000 ∧
  ∀ H', TabAt K C H' t s L → (∀ b o, H b = some o → b ≠ t → H' b = some o) → Q .non H'
/-- a table made -/
theorem tab_made {K : PySem.W.Frag} {C : Addr} {H1 : Hp} {l : Addr} {s : Int} {L : List Int} {Q : VK} {E : XK} (hS : SqL K H1 l (L.map V.int) ∨ SqT K H1 l (L.map V.int)) (ok : Tbl.Ok s L) (hl : L.length ≤ 100000)
    (k : ∀ t H', Same H1 H' → H1 t = Option.none → TabAt K C H' t s L → Q (.ref t) H') :
    ∀ x dx, H1 x = Option.none → H1 dx = Option.none → dx ≠ x → spTab0 K C [.ref x, .int s, .ref l] (upd (upd H1 dx (.own x)) x (.ins C dx [])) (fun v H2 => v = .non ∧ Q (.ref x) H2) E := by
  intro x dx nx ndx ne
  have s1 : Same H1 (upd (upd H1 dx (.own x)) x (.ins C dx [])) := same_upd (same_new ndx) nx
  refine ⟨x, dx, l, s, L, rfl, upd_same, hS.imp (fun h => s1.seq h) (fun h => same_seqT s1 h), ok, hl, fun H' T kp => ⟨rfl, k x H' (fun b o e => ?_) nx T⟩⟩
  exact kp b o (s1 b o e) (fun q => by rw [q, nx] at e; cases e)
def spGet (K : PySem.W.Frag) (C : Addr) (f : Int → List Int → Int) : Sp := fun vs H Q _ => ∃ t s L, vs = [.ref t] ∧ TabAt K C H t s L ∧ Q (.int (f s L)) H
def spLost (K : PySem.W.Frag) (C : Addr) : Sp := fun vs H Q _ => ∃ t s L, vs = [.ref t] ∧ TabAt K C H t s L ∧ ∀ p, SqT K H p (L.map V.int) → Q (.ref p) H
def spLeast (K : PySem.W.Frag) (C : Addr) : Sp := fun vs H Q _ => ∃ t s L c, vs = [.ref t, .int c] ∧ TabAt K C H t s L ∧ 0 ≤ c ∧ ∀ H', Same H H' → Q (.int (Tbl.lst s L c)) H'
def spCallT (K : PySem.W.Frag) (C : Addr) : Sp := fun vs H Q _ => ∃ t s L c, vs = [.ref t, .int c] ∧ TabAt K C H t s L ∧ 0 ≤ c ∧ Q (.int (Tbl.mp s L c)) H
def spEqT (K : PySem.W.Frag) (C : Addr) : Sp := fun vs H Q _ => ∃ t u s L s' L', vs = [.ref t, .ref u] ∧ TabAt K C H t s L ∧ TabAt K C H u s' L' ∧ Q (.bl (decide (s = s' ∧ L = L'))) H
def spBoolT (K : PySem.W.Frag) (C : Addr) : Sp := fun vs H Q _ => ∃ t s L, vs = [.ref t] ∧ TabAt K C H t s L ∧ Q (.bl (decide (¬ (s = 0 ∧ L = [])))) H
theorem ok_Table___init__ (T : Txt K mg a) : FnR P w K mg base CX0 5 a.Table___init__ (spTab0 K a.Table) := by
  obtain ⟨fd, F⟩ := T.F_Table___init__
  refine XT.okR F sc_Table___init__ bn_Table___init__ (fun vs H Q E h => ?_) (fun cdv A outer s H vs Q E hr h => ?_)
  · obtain ⟨t, dx, l, z, L, rfl, _⟩ := h
    rfl
  · obtain ⟨t, dx, l, z, L, rfl, ht, hS, ok, hl, k⟩ := h
    have G_is_count := ok_is_count (P := P) (w := w) (base := base) T
    have G_is_rank_list := ok_is_rank_list (P := P) (w := w) (base := base) T
    refine ⟨_, (pss_cons (ps_if (PW.pt (pw_or (pt_not (pt_val (pe_callR G_is_count (hr.mono (by decide)) rfl T.g_is_count T.k_is_count pass0 (pa_cons (pv 1) pa_nil)))) (pw_or1 (pt_not (pt_val (pe_callR G_is_rank_list (hr.mono (by decide)) rfl T.g_is_rank_list T.k_is_rank_list pass0 (pa_cons (pv 2) pa_nil))))))) (pss_one ps_never) pss_nil)
      (pss_cons (ps_fld (pv 0) (pv 1) rfl)
      (pss_one (ps_fld (pv 0) (pe_callTy (tupleK K) (by rfl) T.b_tuple (by decide +kernel) (pa_cons (pv 2) pa_nil)) rfl)))), ?_⟩
    have kv : ∀ y ∈ L.map V.int, XT.KV K H y := fun y hy => by
      obtain ⟨i, _, rfl⟩ := List.mem_map.mp hy
      exact kv_int i
    refine ⟨_, rfl, _, rfl, kv_int z, _, rfl, iteN (by simp [cntV, ok.s0]) ?_⟩
    refine ⟨_, rfl, _, rfl, .inl ⟨L.map V.int, ⟨l, rfl, hS, kv, by rw [List.length_map]; exact hl⟩, fun H1 s1 => ⟨_, rfl, iteN (by rw [rnkL_of ok.asc ok.pos]; rfl) ?_⟩⟩⟩
    refine ⟨_, rfl, _, rfl, t, a.Table, dx, _, rfl, s1 _ _ ht, T.cl, T.n_start, (by show 0 < 1000; decide), ?_⟩
    have hto : ∀ b o, H b = some o → b ≠ t → (upd H1 t (.ins a.Table dx (putF "_start" (.int z) []))) b = some o := fun b o e hb => by
      rw [upd_ne hb]
      exact s1 b o e
    rcases hS with hS | hS
    · have hS2 : SqL K (upd H1 t (.ins a.Table dx (putF "_start" (.int z) []))) l (L.map V.int) := by
        rcases hS with (e | ⟨o, e⟩) | e
        · exact .inl (.inl (hto _ _ e (fun q => by rw [q, ht] at e; cases e)))
        · exact .inl (.inr ⟨o, hto _ _ e (fun q => by rw [q, ht] at e; cases e)⟩)
        · exact .inr e
      refine ⟨_, rfl, l, _, rfl, .inl ⟨hS2, fun q hq => ?_⟩⟩
      have nt : t ≠ q := fun z => by rw [← z, upd_same] at hq; cases hq
      refine ⟨_, rfl, t, a.Table, dx, _, rfl, by rw [upd_ne nt, upd_same], T.cl, T.n_lost, (by show 1 < 1000; decide), ?_⟩
      refine k _ ⟨dx, q, upd_same, SqT.of (by rw [upd_ne (Ne.symm nt), upd_same]), ok, hl⟩ fun b o e hb => ?_
      have nq : b ≠ q := fun z => by
        have := hto b o e hb
        rw [z, hq] at this
        cases this
      rw [upd_ne hb, upd_ne nq]
      exact hto b o e hb
    · have hS2 : SqT K (upd H1 t (.ins a.Table dx (putF "_start" (.int z) []))) l (L.map V.int) := by
        rcases hS with (e | ⟨o, e⟩) | e
        · exact .inl (.inl (hto _ _ e (fun q => by rw [q, ht] at e; cases e)))
        · exact .inl (.inr ⟨o, hto _ _ e (fun q => by rw [q, ht] at e; cases e)⟩)
        · exact .inr e
      refine ⟨_, rfl, l, _, rfl, .inr ⟨hS2, ?_⟩⟩
      refine ⟨_, rfl, t, a.Table, dx, _, rfl, upd_same, T.cl, T.n_lost, (by show 1 < 1000; decide), ?_⟩
      have hu : upd (upd H1 t (.ins a.Table dx (putF "_start" (.int z) []))) t (.ins a.Table dx (putF "_lost" (.ref l) (putF "_start" (.int z) []))) = upd H1 t (.ins a.Table dx (flds z l)) := upd_upd
      refine k _ ⟨dx, l, upd_same, ?_, ok, hl⟩ fun b o e hb => ?_
      · rcases hS with (e | ⟨o, e⟩) | e
        · exact .inl (.inl (by rw [upd_ne (fun q => by rw [q, ht] at e; cases e)]; exact hto _ _ e (fun q => by rw [q, ht] at e; cases e)))
        · exact .inl (.inr ⟨o, by rw [upd_ne (fun q => by rw [q, ht] at e; cases e)]; exact hto _ _ e (fun q => by rw [q, ht] at e; cases e)⟩)
        · exact .inr e
      · rw [upd_ne hb]
        exact hto b o e hb

theorem ok_Table_start (T : Txt K mg a) : FnR P w K mg base CX0 1 a.Table_start (spGet K a.Table (fun s _ => s)) := by
  obtain ⟨fd, F⟩ := T.F_Table_start
  refine XT.okR F sc_Table_start bn_Table_start (fun vs H Q E h => ?_) (fun cdv A outer s H vs Q E hr h => ?_)
  · obtain ⟨t, z, L, rfl, _⟩ := h
    rfl
  · obtain ⟨t, z, L, rfl, ⟨dx, la, ht, hS, ok, hl⟩, q⟩ := h
    exact ⟨_, (pss_one (ps_ret (fldK K (pv 0) rfl))), _, rfl, t, a.Table, dx, _, _, rfl, ht, T.cl, T.n_start, flds_start _ _, q⟩

theorem ok_Table_lost (T : Txt K mg a) : FnR P w K mg base CX0 1 a.Table_lost (spLost K a.Table) := by
  obtain ⟨fd, F⟩ := T.F_Table_lost
  refine XT.okR F sc_Table_lost bn_Table_lost (fun vs H Q E h => ?_) (fun cdv A outer s H vs Q E hr h => ?_)
  · obtain ⟨t, z, L, rfl, _⟩ := h
    rfl
  · obtain ⟨t, z, L, rfl, ⟨dx, la, ht, hS, ok, hl⟩, q⟩ := h
    exact ⟨_, (pss_one (ps_ret (fldK K (pv 0) rfl))), _, rfl, t, a.Table, dx, _, _, rfl, ht, T.cl, T.n_lost, flds_lost _ _, q la hS⟩

theorem ok_Table_growth (T : Txt K mg a) : FnR P w K mg base CX0 1 a.Table_growth (spGet K a.Table (fun s L => s - L.length)) := by
  obtain ⟨fd, F⟩ := T.F_Table_growth
  refine XT.okR F sc_Table_growth bn_Table_growth (fun vs H Q E h => ?_) (fun cdv A outer s H vs Q E hr h => ?_)
  · obtain ⟨t, z, L, rfl, _⟩ := h
    rfl
  · obtain ⟨t, z, L, rfl, ⟨dx, la, ht, hS, ok, hl⟩, q⟩ := h
    refine ⟨_, (pss_one (ps_ret (pe_op op_sub (fldK K (pv 0) rfl) (pe_callB (lenK K) (by rfl) T.b_len (by decide +kernel) (pa_cons (fldK K (pv 0) rfl) pa_nil))))), _, rfl, t, a.Table, dx, _, _, rfl, ht, T.cl, T.n_start, flds_start _ _, _, rfl, t, a.Table, dx, _, _, rfl, ht, T.cl, T.n_lost, flds_lost _ _, la, _, rfl, .inr hS, _, _, rfl, rfl, ?_⟩
    rw [List.length_map]
    exact q

theorem ok_Table_least (T : Txt K mg a) : FnR P w K mg base CX0 3 a.Table_least (spLeast K a.Table) := by
  obtain ⟨fd, F⟩ := T.F_Table_least
  refine XT.okR F sc_Table_least bn_Table_least (fun vs H Q E h => ?_) (fun cdv A outer s H vs Q E hr h => ?_)
  · obtain ⟨t, z, L, c, rfl, _⟩ := h
    rfl
  · obtain ⟨t, z, L, c, rfl, ⟨dx, la, ht, hS, ok, hl⟩, hc, q⟩ := h
    have G_is_count := ok_is_count (P := P) (w := w) (base := base) T
    have G_kept_rank := ok_kept_rank (P := P) (w := w) (base := base) T
    refine ⟨_, (pss_cons (ps_if (pt_not (pt_val (pe_callR G_is_count (hr.mono (by decide)) rfl T.g_is_count T.k_is_count pass0 (pa_cons (pv 1) pa_nil)))) (pss_one ps_never) pss_nil)
      (pss_cons (ps_if (pt_cmpR op_le (pv 1) (fldK K (pv 0) rfl) (nomark _)) (pss_one (ps_ret pe_int)) pss_nil)
      (pss_one (ps_ret (pe_callR G_kept_rank (hr.mono (by decide)) rfl T.g_kept_rank T.k_kept_rank pass0 (pa_cons (fldK K (pv 0) rfl) (pa_cons (pe_op op_sub (pv 1) (fldK K (pv 0) rfl)) pa_nil))))))), ?_⟩
    refine ⟨_, rfl, _, rfl, kv_int c, _, rfl, iteN (by simp [cntV, hc]) ?_⟩
    refine ⟨_, rfl, _, rfl, t, a.Table, dx, _, _, rfl, ht, T.cl, T.n_start, flds_start _ _, _, _, rfl, rfl, _, rfl, ite2 (fun h1 => ?_) (fun h1 => ?_)⟩
    · have := q H (Same.refl H)
      unfold Tbl.lst at this
      rw [if_pos (of_decide_eq_true h1)] at this
      exact this
    · have h1' : ¬ c ≤ z := fun x => h1 (decide_eq_true x)
      refine ⟨_, rfl, t, a.Table, dx, _, _, rfl, ht, T.cl, T.n_lost, flds_lost _ _, _, rfl, _, rfl, t, a.Table, dx, _, _, rfl, ht, T.cl, T.n_start, flds_start _ _, _, _, rfl, rfl, la, c - z, L, rfl, .inr hS, ok.asc, ?_⟩
      have := q H (Same.refl H)
      unfold Tbl.lst at this
      rw [if_neg h1'] at this
      exact this

theorem ok_Table___call__ (T : Txt K mg a) : FnR P w K mg base CX0 3 a.Table___call__ (spCallT K a.Table) := by
  obtain ⟨fd, F⟩ := T.F_Table___call__
  refine XT.okR F sc_Table___call__ bn_Table___call__ (fun vs H Q E h => ?_) (fun cdv A outer s H vs Q E hr h => ?_)
  · obtain ⟨t, z, L, c, rfl, _⟩ := h
    rfl
  · obtain ⟨t, z, L, c, rfl, ⟨dx, la, ht, hS, ok, hl⟩, hc, q⟩ := h
    have G_is_count := ok_is_count (P := P) (w := w) (base := base) T
    have G_mapped := ok_mapped (P := P) (w := w) (base := base) T
    refine ⟨_, (pss_cons (ps_if (pt_not (pt_val (pe_callR G_is_count (hr.mono (by decide)) rfl T.g_is_count T.k_is_count pass0 (pa_cons (pv 1) pa_nil)))) (pss_one ps_never) pss_nil)
      (pss_one (ps_ret (pe_callR G_mapped (hr.mono (by decide)) rfl T.g_mapped T.k_mapped pass0 (pa_cons (fldK K (pv 0) rfl) (pa_cons (fldK K (pv 0) rfl) (pa_cons (pv 1) pa_nil))))))), ?_⟩
    refine ⟨_, rfl, _, rfl, kv_int c, _, rfl, iteN (by simp [cntV, hc]) ?_⟩
    exact ⟨_, rfl, t, a.Table, dx, _, _, rfl, ht, T.cl, T.n_start, flds_start _ _, _, rfl, t, a.Table, dx, _, _, rfl, ht, T.cl, T.n_lost, flds_lost _ _, _, rfl, z, c, la, L, rfl, hS, Tbl.asc_up ok.asc, q⟩

theorem ok_Table___eq__ (T : Txt K mg a) : FnR P w K mg base CX0 1 a.Table___eq__ (spEqT K a.Table) := by
  obtain ⟨fd, F⟩ := T.F_Table___eq__
  refine XT.okR F sc_Table___eq__ bn_Table___eq__ (fun vs H Q E h => ?_) (fun cdv A outer s H vs Q E hr h => ?_)
  · obtain ⟨t, u, z, L, z2, L2, rfl, _⟩ := h
    rfl
  · obtain ⟨t, u, z, L, z2, L2, rfl, ⟨dx, la, ht, hS, ok, hl⟩, ⟨dy, lb, hu, hS2, ok2, hl2⟩, q⟩ := h
    refine ⟨_, (pss_one (ps_ret (pe_and (pe_callB (C8.call_isC T.isi) (by rfl) T.b_isinstance (by decide +kernel) (pa_cons (pv 1) (pa_cons (pe_glob (v := .ref a.Table) (by rfl) T.g_Table rfl) pa_nil))) (pe_and (pe_cmpR op_eq (fldK K (pv 0) rfl) (fldK K (pv 1) rfl) (nomark _)) (pe_one (pe_cmpR (eqDK K hr.units) (fldK K (pv 0) rfl) (fldK K (pv 1) rfl) (nomark _))))))), ?_⟩
    refine ⟨_, rfl, u, dy, _, rfl, hu, _, rfl, iteT ?_⟩
    refine ⟨_, rfl, t, a.Table, dx, _, _, rfl, ht, T.cl, T.n_start, flds_start _ _, _, rfl, u, a.Table, dy, _, _, rfl, hu, T.cl, T.n_start, flds_start _ _, rfl, _, rfl, ite2 (fun h1 => ?_) (fun h1 => ?_)⟩
    · have e : z = z2 := by have := of_decide_eq_true h1; injection this
      refine ⟨_, rfl, t, a.Table, dx, _, _, rfl, ht, T.cl, T.n_lost, flds_lost _ _, _, rfl, u, a.Table, dy, _, _, rfl, hu, T.cl, T.n_lost, flds_lost _ _, _, _, dp_tup hS, dp_tup hS2, shaped_tup _, shaped_tup _, ?_⟩
      rw [eqv_tups]
      have e2 : decide (L = L2) = decide (z = z2 ∧ L = L2) := by simp [e]
      rw [e2]
      exact q
    · have e : ¬ z = z2 := fun x => h1 (by rw [x]; exact decide_eq_true rfl)
      have e2 : decide (z = z2 ∧ L = L2) = false := by simp [e]
      rw [e2] at q
      exact q

theorem ok_Table___bool__ (T : Txt K mg a) : FnR P w K mg base CX0 1 a.Table___bool__ (spBoolT K a.Table) := by
  obtain ⟨fd, F⟩ := T.F_Table___bool__
  refine XT.okR F sc_Table___bool__ bn_Table___bool__ (fun vs H Q E h => ?_) (fun cdv A outer s H vs Q E hr h => ?_)
  · obtain ⟨t, z, L, rfl, _⟩ := h
    rfl
  · obtain ⟨t, z, L, rfl, ⟨dx, la, ht, hS, ok, hl⟩, q⟩ := h
    refine ⟨_, (pss_one (ps_ret (pe_or (pe_callTy call_bool1 (by rfl) T.b_bool (by decide +kernel) (pa_cons (fldK K (pv 0) rfl) pa_nil)) (pe_one (pe_callTy (boolT K) (by rfl) T.b_bool (by decide +kernel) (pa_cons (fldK K (pv 0) rfl) pa_nil)))))), ?_⟩
    refine ⟨_, rfl, t, a.Table, dx, _, _, rfl, ht, T.cl, T.n_start, flds_start _ _, .inl ⟨z, rfl, _, rfl, ite2 (fun h1 => ?_) (fun h1 => ?_)⟩⟩
    · have e : z ≠ 0 := by simpa using h1
      have e2 : decide (¬ (z = 0 ∧ L = [])) = true := by simp [e]
      rw [e2] at q
      exact q
    · have e : z = 0 := by simpa using h1
      refine ⟨_, rfl, t, a.Table, dx, _, _, rfl, ht, T.cl, T.n_lost, flds_lost _ _, la, _, rfl, hS, ?_⟩
      have e2 : (!(L.map V.int).isEmpty) = decide (¬ (z = 0 ∧ L = [])) := by cases L <;> simp [e]
      rw [e2]
      exact q

end
end K05
namespace K05
open PySem L2 XT
section
variable {P : Program} {w : World} {K : PySem.W.Frag} {mg : Str → Option Value} {base : Heap} {a : Ads}

local macro_rules | `(tactic| walk_at "rside") => `(tactic| first | (show (0 : Int) < _; first | decide | omega) | (exact ⟨by first | decide | omega, by first | decide | omega⟩) | (exact Or.inl ⟨by omega, by omega⟩) | (exact Or.inr ⟨by omega, by omega⟩) | (exact ⟨by decide, by decide, by decide⟩))
local macro_rules | `(tactic| walk_at "rd1") => `(tactic| first | (refine ⟨_, rfl, ?_⟩) | (refine ⟨_, _, rfl, rfl, (by walk_at "rside"), ?_⟩) | (refine ⟨_, _, rfl, rfl, ?_⟩))
local macro_rules | `(tactic| walk_at "rd") => `(tactic| repeat (walk_at "rd1"))

/-- the law's pool: two numbers -/
def PoolAt (H : Hp) (p : Addr) : Prop := ∃ x y : Int, H p = some (.lst [.int x, .int y]) ∧ 0 ≤ x ∧ 0 ≤ y ∧ y < 2147483648
/-- all stays but what stands at p -/
def But (p : Addr) (H H' : Hp) : Prop := ∀ b o, b ≠ p → H b = some o → H' b = some o
theorem But.refl (p : Addr) (H : Hp) : But p H H := fun _ _ _ h => h
theorem But.trans {p : Addr} {H H1 H2 : Hp} (a : But p H H1) (b : But p H1 H2) : But p H H2 := fun c o n h => b c o n (a c o n h)
theorem but_same {p : Addr} {H H' : Hp} (h : Same H H') : But p H H' := fun b o _ e => h b o e
theorem but_upd {p : Addr} {H : Hp} {o : HO} : But p H (upd H p o) := fun b u n e => by
  rw [upd_ne n]
  exact e
/-- what is apart from p stays -/
theorem but_to {p : Addr} {H0 H H' : Hp} (s : Same H0 H) (n : H0 p = Option.none) (b : But p H H') : Same H0 H' := fun c o e => b c o (fun z => by rw [z, n] at e; cases e) (s c o e)
def spPool (K : PySem.W.Frag) : Sp := fun vs H Q _ => ∃ (sc : Addr) (ns : List Int) (k : Int), vs = [.ref sc, .int k] ∧ SqL K H sc (ns.map V.int) ∧ 0 ≤ k ∧ k ≤ 1000 ∧ ∀ p H', Same H H' → H p = Option.none → PoolAt H' p → Q (.ref p) H'
def spTake : Sp := fun vs H Q _ => ∃ (p : Addr) (m : Int), vs = [.ref p, .int m] ∧ PoolAt H p ∧ 0 < m ∧ m < 1000 ∧ ∀ r H', 0 ≤ r → r < m → But p H H' → PoolAt H' p → Q (.int r) H'
theorem ok_law_pool (T : Txt K mg a) : FnR P w K mg base CX0 1 a.law_pool (spPool K) := by
  obtain ⟨fd, F⟩ := T.F_law_pool
  refine XT.okR F sc_law_pool bn_law_pool (fun vs H Q E h => ?_) (fun cdv A outer s H vs Q E hr h => ?_)
  · obtain ⟨sc, ns, k, rfl, _⟩ := h
    rfl
  · obtain ⟨sc, ns, k, rfl, hS, k0, k1, q⟩ := h
    refine ⟨_, (pss_cons (ps_set (i := 2) sc_law_pool.nd rfl (Or.inl rfl) pe_int)
      (pss_cons (ps_if (pt_cmpR op_lt (pv 1) (pe_callB (lenK K) (by rfl) T.b_len (by decide +kernel) (pa_cons (pv 0) pa_nil)) (nomark _)) (pss_one (ps_set (i := 2) sc_law_pool.nd rfl (Or.inl rfl) (pe_callB call_abs (by rfl) T.b_abs (by decide +kernel) (pa_cons (pe_ix (ixLK K) (pv 0) (pv 1) (fun _ _ => rfl)) pa_nil)))) pss_nil)
      (pss_cons (ps_set (i := 3) sc_law_pool.nd rfl (Or.inl rfl) (pe_op op_mod (pe_op op_mul (pe_op op_add (pe_op op_add (pe_op op_add (pe_op op_mod (pv 2) pe_int) (pe_op op_mul (pe_op op_mul pe_int (pv 1)) (pv 1))) (pe_op op_mul pe_int (pv 1))) pe_int) pe_int) pe_int))
      (pss_one (ps_ret (pe_lst (pa_cons (pe_op op_mul (pv 2) (pe_callTy call_int1 (by rfl) T.b_int (by decide +kernel) (pa_cons (pe_cmpR op_ge (pv 2) (pe_op op_pow pe_int pe_int) (nomark _)) pa_nil))) (pa_cons (pe_op op_mod (pe_op op_mul (pv 3) (pv 3)) pe_int) pa_nil)))))))), ?_⟩
    refine ⟨_, rfl, _, rfl, sc, _, rfl, .inl hS, _, _, rfl, rfl, _, rfl, ite2 (fun h1 => ?_) (fun h1 => ?_)⟩
    · have h1' : k < ((ns.map V.int).length : Int) := of_decide_eq_true h1
      rw [List.length_map] at h1'
      obtain ⟨j, rfl⟩ : ∃ j : Nat, k = (j : Int) := ⟨k.toNat, by omega⟩
      have hj : j < ns.length := by omega
      have hg : (ns.map V.int)[j]? = some (V.int ns[j]) := by simp [hj]
      refine ⟨_, rfl, _, rfl, sc, _, _, _, rfl, rfl, hS, atI_nat hg, _, rfl, ?_⟩
      have hc : 0 ≤ (if ns[j] < 0 then -ns[j] else ns[j]) := by split <;> omega
      generalize (if ns[j] < 0 then -ns[j] else ns[j]) = c at hc ⊢
      walk_at "rd"
      refine .inr ⟨_, rfl, ?_⟩
      refine ⟨_, _, rfl, rfl, .inr (by split <;> omega), ?_⟩
      have hm : ∀ z : Int, 0 ≤ z % 2147483647 ∧ z % 2147483647 < 2147483647 := fun z => ⟨Int.emod_nonneg _ (by decide), Int.emod_lt_of_pos _ (by decide)⟩
      refine ⟨_, rfl, _, rfl, _, _, rfl, rfl, .inl ⟨by have := hm ((c % 2147483629 + 7919 * (j : Int) * (j : Int) + 31 * (j : Int) + 17) * 48271); omega, by have := hm ((c % 2147483629 + 7919 * (j : Int) * (j : Int) + 31 * (j : Int) + 17) * 48271); omega⟩, ?_⟩
      refine ⟨_, _, rfl, rfl, (by show (0 : Int) < _; decide), ?_⟩
      refine ⟨by show 2 ≤ sizeLine; decide, fun p hp => q p _ (same_new hp) hp ⟨_, _, upd_same, ?_, Int.emod_nonneg _ (by decide), Int.lt_trans (Int.emod_lt_of_pos _ (by decide)) (by decide)⟩⟩
      split <;> omega
    · walk_at "rd"
      refine .inr ⟨_, rfl, ?_⟩
      refine ⟨_, _, rfl, rfl, .inr (by split <;> omega), ?_⟩
      have hm : ∀ z : Int, 0 ≤ z % 2147483647 ∧ z % 2147483647 < 2147483647 := fun z => ⟨Int.emod_nonneg _ (by decide), Int.emod_lt_of_pos _ (by decide)⟩
      refine ⟨_, rfl, _, rfl, _, _, rfl, rfl, .inl ⟨by have := hm (((0 : Int) % 2147483629 + 7919 * k * k + 31 * k + 17) * 48271); omega, by have := hm (((0 : Int) % 2147483629 + 7919 * k * k + 31 * k + 17) * 48271); omega⟩, ?_⟩
      refine ⟨_, _, rfl, rfl, (by show (0 : Int) < _; decide), ?_⟩
      refine ⟨by show 2 ≤ sizeLine; decide, fun p hp => q p _ (same_new hp) hp ⟨_, _, upd_same, ?_, Int.emod_nonneg _ (by decide), Int.lt_trans (Int.emod_lt_of_pos _ (by decide)) (by decide)⟩⟩
      exact Int.le_of_eq (Int.zero_mul _).symm

theorem ok_law_take (T : Txt K mg a) : FnR P w K mg base CX0 1 a.law_take (spTake) := by
  obtain ⟨fd, F⟩ := T.F_law_take
  refine XT.okR F sc_law_take bn_law_take (fun vs H Q E h => ?_) (fun cdv A outer s H vs Q E hr h => ?_)
  · obtain ⟨p, m, rfl, _⟩ := h
    rfl
  · obtain ⟨p, m, rfl, ⟨x, y, hp, hx, hy, hy2⟩, hm0, hm1, k⟩ := h
    refine ⟨_, (pss_cons (ps_if (pt_cmpR op_gt (pe_ix (ixLK K) (pv 0) pe_int (fun _ _ => rfl)) pe_int (nomark _)) (pss_cons (ps_set (i := 2) sc_law_take.nd rfl (Or.inl rfl) (pe_op op_mod (pe_ix (ixLK K) (pv 0) pe_int (fun _ _ => rfl)) (pv 1)))
      (pss_cons (ps_asg (pe_op op_fdiv (pe_ix (ixLK K) (pv 0) pe_int (fun _ _ => rfl)) (pv 1)) (pg_sub (pv 0) pe_int set_list))
      (pss_one (ps_ret (pv 2))))) pss_nil)
      (pss_cons (ps_asg (pe_op op_mod (pe_op op_add (pe_op op_mul (pe_ix (ixLK K) (pv 0) pe_int (fun _ _ => rfl)) pe_int) pe_int) pe_int) (pg_sub (pv 0) pe_int set_list))
      (pss_one (ps_ret (pe_op op_mod (pe_op op_fdiv (pe_op op_mod (pe_op op_mul (pe_ix (ixLK K) (pv 0) pe_int (fun _ _ => rfl)) (pe_ix (ixLK K) (pv 0) pe_int (fun _ _ => rfl))) pe_int) pe_int) (pv 1)))))), ?_⟩
    have g0 : ([V.int x, V.int y] : List V)[0]? = some (V.int x) := rfl
    have g1 : ([V.int x, V.int y] : List V)[1]? = some (V.int y) := rfl
    refine ⟨_, rfl, p, _, 0, _, rfl, rfl, SqL.of hp, atI_nat (j := 0) g0, _, _, rfl, rfl, _, rfl, ite2 (fun h1 => ?_) (fun h1 => ?_)⟩
    · have h1' := of_decide_eq_true h1
      refine ⟨_, rfl, p, _, 0, _, rfl, rfl, SqL.of hp, atI_nat (j := 0) g0, _, rfl, _, _, rfl, rfl, hm0, ?_⟩
      refine ⟨_, rfl, p, _, 0, _, rfl, rfl, SqL.of hp, atI_nat (j := 0) g0, _, rfl, _, _, rfl, rfl, ⟨hm0, by omega⟩, ?_⟩
      refine ⟨_, rfl, p, _, 0, 0, rfl, rfl, hp, rfl, ?_⟩
      refine ⟨_, rfl, k _ _ (Int.emod_nonneg _ (by omega)) (Int.emod_lt_of_pos _ hm0) but_upd ⟨x / m, y, upd_same, Int.ediv_nonneg hx (by omega), hy, hy2⟩⟩
    · refine ⟨_, rfl, p, _, 1, _, rfl, rfl, SqL.of hp, atI_nat (j := 1) g1, _, _, rfl, rfl, .inr ⟨by decide, by decide⟩, _, _, rfl, rfl, _, _, rfl, rfl, (by show (0 : Int) < _; decide), ?_⟩
      refine ⟨_, rfl, p, _, 1, 1, rfl, rfl, hp, rfl, ?_⟩
      have hz0 : 0 ≤ (y * 48271 + 12345) % 2147483647 := Int.emod_nonneg _ (by decide)
      have hz1 : (y * 48271 + 12345) % 2147483647 < 2147483647 := Int.emod_lt_of_pos _ (by decide)
      have g2 : ([V.int x, V.int ((y * 48271 + 12345) % 2147483647)] : List V)[1]? = some (V.int ((y * 48271 + 12345) % 2147483647)) := rfl
      have hs : (upd H p (.lst ([V.int x, V.int y].set 1 (V.int ((y * 48271 + 12345) % 2147483647))))) p = some (.lst [V.int x, V.int ((y * 48271 + 12345) % 2147483647)]) := upd_same
      refine ⟨_, rfl, p, _, 1, _, rfl, rfl, SqL.of hs, atI_nat (j := 1) g2, _, rfl, p, _, 1, _, rfl, rfl, SqL.of hs, atI_nat (j := 1) g2, _, _, rfl, rfl, .inl ⟨by omega, by omega⟩, _, _, rfl, rfl, (by show (0 : Int) < _; decide), _, _, rfl, rfl, ⟨by decide, by decide⟩, _, rfl, _, _, rfl, rfl, hm0, ?_⟩
      exact k _ _ (Int.emod_nonneg _ (by omega)) (Int.emod_lt_of_pos _ hm0) but_upd ⟨x, _, hs, hx, hz0, by omega⟩

end
end K05
namespace K05
open PySem L2 XT
section
variable {P : Program} {w : World} {K : PySem.W.Frag} {mg : Str → Option Value} {base : Heap} {a : Ads}

local macro_rules | `(tactic| walk_at "rside") => `(tactic| first | (show (0 : Int) < _; first | decide | omega) | (exact ⟨by first | decide | omega, by first | decide | omega⟩) | (exact Or.inl ⟨by omega, by omega⟩) | (exact Or.inr ⟨by omega, by omega⟩) | (exact ⟨by decide, by decide, by decide⟩))
local macro_rules | `(tactic| walk_at "rd1") => `(tactic| first | (refine ⟨_, rfl, ?_⟩) | (refine ⟨_, _, rfl, rfl, (by walk_at "rside"), ?_⟩) | (refine ⟨_, _, rfl, rfl, ?_⟩))
local macro_rules | `(tactic| walk_at "rd") => `(tactic| repeat (walk_at "rd1"))

theorem pool_but {H H' : Hp} {p q : Addr} {o : HO} (h : PoolAt H p) (n : H q = Option.none) (e : H' = upd H q o) : PoolAt H' p := by
  obtain ⟨x, y, a, b⟩ := h
  have : p ≠ q := fun z => by rw [z, n] at a; cases a
  exact ⟨x, y, by rw [e, upd_ne this]; exact a, b⟩
theorem pool_same {H H' : Hp} {p : Addr} (h : PoolAt H p) (e : Same H H') : PoolAt H' p := let ⟨x, y, a, b⟩ := h; ⟨x, y, e _ _ a, b⟩
theorem pool_ne {H : Hp} {p q : Addr} (h : PoolAt H p) (n : H q = Option.none) : q ≠ p := fun z => by
  obtain ⟨x, y, a, _⟩ := h
  rw [z, a] at n
  cases n
theorem pick2 {r u v : Int} (h0 : 0 ≤ r) (h1 : r < 2) (hu : 0 ≤ u) (hv : 0 ≤ v) : ∃ z, atI ([V.int u, V.int v] : List V) r = some (.int z) ∧ 0 ≤ z := by
  have : r = 0 ∨ r = 1 := by omega
  rcases this with rfl | rfl
  · exact ⟨u, rfl, hu⟩
  · exact ⟨v, rfl, hv⟩
theorem pick5 {r u v x y z : Int} (h0 : 0 ≤ r) (h1 : r < 5) (hu : 0 ≤ u) (hv : 0 ≤ v) (hx : 0 ≤ x) (hy : 0 ≤ y) (hz : 0 ≤ z) : ∃ q, atI ([V.int u, V.int v, V.int x, V.int y, V.int z] : List V) r = some (.int q) ∧ 0 ≤ q := by
  have : r = 0 ∨ r = 1 ∨ r = 2 ∨ r = 3 ∨ r = 4 := by omega
  rcases this with rfl | rfl | rfl | rfl | rfl
  · exact ⟨u, rfl, hu⟩
  · exact ⟨v, rfl, hv⟩
  · exact ⟨x, rfl, hx⟩
  · exact ⟨y, rfl, hy⟩
  · exact ⟨z, rfl, hz⟩

theorem asc_snoc {L : List Int} {x : Int} (h : Tbl.Asc L) (k : ∀ y ∈ L, y < x) : Tbl.Asc (L ++ [x]) := List.pairwise_append.mpr ⟨h, List.pairwise_singleton _ _, fun a ha b hb => by rw [List.mem_singleton.mp hb]; exact k a ha⟩
theorem ten60 : (0 : Int) ≤ 10 ^ (60 : Int).toNat := by decide
theorem ten60b : (10 : Int) ^ (60 : Int).toNat ≤ 10 ^ 60 := by decide
/-- the law's lost ranks -/
structure Lo (L : List Int) : Prop where
  asc : Tbl.Asc L
  pos : Tbl.Pos L
  len : L.length ≤ 8
  sm : ∀ x ∈ L, x ≤ 10 ^ 60 + 40
def spLo (K : PySem.W.Frag) : Sp := fun vs H Q _ => ∃ p, vs = [.ref p] ∧ PoolAt H p ∧ ∀ l L H', But p H H' → PoolAt H' p → H l = Option.none → H' l = some (.lst (L.map V.int)) → Lo L → Q (.ref l) H'
def InvLo (p l : Addr) (H0 : Hp) (i : Nat) (σ : L2.St) (H : Hp) : Prop := ∃ (L : List Int) (last : Int) (tv : Option V), σ = [some (.ref p), some (.ref l), some (.int last), tv] ∧ H l = some (.lst (L.map V.int)) ∧ PoolAt H p ∧ But p H0 H ∧ L.length = i ∧
  Tbl.Asc L ∧ Tbl.Pos L ∧ (∀ x ∈ L, x ≤ last) ∧ 0 ≤ last ∧ last ≤ 10 ^ 60 + 4 * (i : Int)
theorem ok_law_lost (T : Txt K mg a) : FnR P w K mg base CX0 2 a.law_lost (spLo K) := by
  obtain ⟨fd, F⟩ := T.F_law_lost
  refine XT.okR F sc_law_lost bn_law_lost (fun vs H Q E h => ?_) (fun cdv A outer s H vs Q E hr h => ?_)
  · obtain ⟨p, rfl, _⟩ := h
    rfl
  · obtain ⟨p, rfl, hp, k⟩ := h
    have G_law_take := ok_law_take (P := P) (w := w) (base := base) T
    refine ⟨_, (pss_cons (ps_par (i := 1) (j := 2) (by rfl) sc_law_lost.nd rfl rfl (by decide) rfl rfl (pa_cons (pe_lst pa_nil) (pa_cons (pe_op op_mul (pe_ix (ixLK K) (pe_lst (pa_cons pe_int (pa_cons (pe_op op_pow pe_int pe_int) pa_nil))) (pe_callR G_law_take (hr.mono (by decide)) rfl T.g_law_take T.k_law_take pass0 (pa_cons (pv 0) (pa_cons pe_int pa_nil))) (fun _ _ => rfl)) (pe_callR G_law_take (hr.mono (by decide)) rfl T.g_law_take T.k_law_take pass0 (pa_cons (pv 0) (pa_cons pe_int pa_nil)))) pa_nil)) (by rfl))
      (pss_cons (ps_for PassesOwn.never rfl (pi_rng1 (by rfl) T.b_range (pa_cons (pe_callR G_law_take (hr.mono (by decide)) rfl T.g_law_take T.k_law_take pass0 (pa_cons (pv 0) (pa_cons pe_int pa_nil))) pa_nil)) (pg_name (i := 3) sc_law_lost.nd rfl (Or.inl rfl))
        (pss_cons (ps_set (i := 2) sc_law_lost.nd rfl (Or.inl rfl) (pe_op op_add (pe_op op_add (pv 2) pe_int) (pe_callR G_law_take (hr.mono (by decide)) rfl T.g_law_take T.k_law_take pass0 (pa_cons (pv 0) (pa_cons pe_int pa_nil)))))
      (pss_one (ps_expr (bmK K (pe_bm PySem.F.plainAttrs_list PySem.F.slot_list_append PySem.F.type_list_append mt_append (pv 1) (pa_cons (pv 2) pa_nil)))))))
      (pss_one (ps_ret (pv 1))))), ?_⟩
    refine ⟨Nat.zero_le _, fun l hl => ?_⟩
    have nlp := pool_ne hp hl
    have b1 : But p H (upd H l (.lst [])) := but_same (same_new hl)
    have hp1 : PoolAt (upd H l (.lst [])) p := pool_but hp hl rfl
    refine ⟨_, _, rfl, rfl, ⟨by decide, by decide, by decide⟩, by show 2 ≤ sizeLine; decide, fun d hd => ?_⟩
    have ndp := pool_ne hp1 hd
    have ndl : d ≠ l := fun z => by rw [z, upd_same] at hd; cases hd
    have hp2 := pool_but (o := .lst [V.int 0, V.int (10 ^ (60 : Int).toNat)]) hp1 hd rfl
    refine ⟨_, rfl, p, 2, rfl, hp2, by decide, by decide, fun r1 H1 r10 r11 b2 hp3 => ?_⟩
    have pk : ∃ z, atI ([V.int 0, V.int (10 ^ (60 : Int).toNat)] : List V) r1 = some (.int z) ∧ 0 ≤ z ∧ z ≤ 10 ^ 60 := by
      have : r1 = 0 ∨ r1 = 1 := by omega
      rcases this with rfl | rfl
      · exact ⟨0, rfl, Int.le_refl 0, by decide⟩
      · exact ⟨_, rfl, ten60, ten60b⟩
    obtain ⟨v1, e1, v10, v11⟩ := pk
    refine ⟨d, _, r1, .int v1, rfl, rfl, SqL.of (b2 _ _ ndp upd_same), e1, ?_⟩
    refine ⟨_, rfl, p, 2, rfl, hp3, by decide, by decide, fun r2 H2 r20 r21 b3 hp4 => ?_⟩
    refine ⟨_, _, rfl, rfl, .inr ⟨by omega, by omega⟩, _, _, rfl, ?_⟩
    have hb4 : But p H H2 := ((b1.trans (but_same (same_new hd))).trans b2).trans b3
    have hl4 : H2 l = some (.lst []) := b3 _ _ nlp (b2 _ _ nlp (by rw [upd_ne (Ne.symm ndl), upd_same]))
    have v12 : v1 * r2 ≤ 10 ^ 60 := by
      have : r2 = 0 ∨ r2 = 1 := by omega
      rcases this with rfl | rfl
      · rw [Int.mul_zero]; decide
      · rw [Int.mul_one]; exact v11
    refine ⟨_, rfl, p, 9, rfl, hp4, by decide, by decide, fun r3 H3 r30 r31 b5 hp5 => ⟨_, rfl, ?_⟩⟩
    refine for_range (lo := 0) (n := r3.toNat) (InvLo p l H) ⟨[], v1 * r2, Option.none, rfl, b5 _ _ nlp hl4, hp5, hb4.trans b5, rfl, List.Pairwise.nil, (fun _ h => by cases h), (fun _ h => by cases h), Int.mul_nonneg v10 r20, by simpa using v12⟩ ?_ ?_
    · rintro i σ H4 hi ⟨L, last, tv, rfl, hL, hpp, bb, hlen, ha, hpos, hle, h0, h1⟩
      refine ⟨_, rfl, _, _, rfl, rfl, _, rfl, p, 4, rfl, hpp, by decide, by decide, fun r4 H5 r40 r41 b6 hp6 => ?_⟩
      refine ⟨_, _, rfl, rfl, ?_⟩
      have hL5 := b6 _ _ nlp hL
      refine ⟨_, rfl, .inl ⟨rfl, _, SqL.of hL5⟩, _, rfl, l, _, _, rfl, rfl, hL5, Nat.lt_of_lt_of_le (by rw [List.length_map]; omega) line_ge, ?_⟩
      refine ⟨L ++ [last + 1 + r4], last + 1 + r4, _, rfl, ?_, ?_, ?_, ?_, ?_, ?_, ?_, ?_, ?_⟩
      · rw [upd_same, List.map_append]
        rfl
      · obtain ⟨x, y, e, rest⟩ := hp6
        exact ⟨x, y, by rw [upd_ne (Ne.symm nlp)]; exact e, rest⟩
      · intro b o nb e
        have nbl : b ≠ l := fun z => by rw [z, hl] at e; cases e
        rw [upd_ne nbl]
        exact b6 _ _ nb (bb _ _ nb e)
      · rw [List.length_append, hlen]
        rfl
      · exact asc_snoc ha fun y hy => by have := hle y hy; omega
      · intro x hx
        rcases List.mem_append.mp hx with hx | hx
        · exact hpos x hx
        · rw [List.mem_singleton.mp hx]; omega
      · intro x hx
        rcases List.mem_append.mp hx with hx | hx
        · have := hle x hx; omega
        · rw [List.mem_singleton.mp hx]; omega
      · omega
      · have : ((i + 1 : Nat) : Int) = (i : Int) + 1 := by omega
        rw [this]
        generalize (10 : Int) ^ 60 = T at h1 ⊢
        omega
    · rintro σ H4 ⟨L, last, tv, rfl, hL, hpp, bb, hlen, ha, hpos, hle, h0, h1⟩
      refine ⟨_, rfl, k l L H4 bb hpp hl hL ⟨ha, hpos, by omega, fun x hx => ?_⟩⟩
      have := hle x hx
      generalize (10 : Int) ^ 60 = T at h1 ⊢
      omega

end
end K05
namespace K05
open PySem L2 XT
section
variable {P : Program} {w : World} {K : PySem.W.Frag} {mg : Str → Option Value} {base : Heap} {a : Ads}

local macro_rules | `(tactic| walk_at "rside") => `(tactic| first | (show (0 : Int) < _; first | decide | omega) | (exact ⟨by first | decide | omega, by first | decide | omega⟩) | (exact Or.inl ⟨by omega, by omega⟩) | (exact Or.inr ⟨by omega, by omega⟩) | (exact ⟨by decide, by decide, by decide⟩))
local macro_rules | `(tactic| walk_at "rd1") => `(tactic| first | (refine ⟨_, rfl, ?_⟩) | (refine ⟨_, _, rfl, rfl, (by walk_at "rside"), ?_⟩) | (refine ⟨_, _, rfl, rfl, ?_⟩))
local macro_rules | `(tactic| walk_at "rd") => `(tactic| repeat (walk_at "rd1"))

theorem okE_InvalidTable (T : Txt K mg a) (e : ErrC K a.InvalidTable a.InvalidTable___init__ "value") {fd : FuncData} (F : Fun K "__init__" "InvalidTable.__init__" s_InvalidTable___init__ a.InvalidTable___init__ fd) : FnOk P w K mg base CX0 1 a.InvalidTable___init__ fd ["self", "value"] (spErr "value" a.InvalidTable) := by
  refine F.ok sc_InvalidTable___init__ (fun vs H Q E h => ?_) (fun cdv A outer s H vs Q E hr h => ?_)
  · obtain ⟨x, v, rfl, _⟩ := h
    rfl
  · obtain ⟨x, v, rfl, hx, q⟩ := h
    exact ⟨_, (pss_one (ps_ost (pv 0) (pv 1))), _, rfl, _, rfl, x, a.InvalidTable, rfl, e.oex, e.no, .inl ⟨hx, fun dx hn hne => q dx hn hne⟩⟩
theorem okE_InvalidNumber (T : Txt K mg a) (e : ErrC K a.InvalidNumber a.InvalidNumber___init__ "value") {fd : FuncData} (F : Fun K "__init__" "InvalidNumber.__init__" s_InvalidNumber___init__ a.InvalidNumber___init__ fd) : FnOk P w K mg base CX0 1 a.InvalidNumber___init__ fd ["self", "value"] (spErr "value" a.InvalidNumber) := by
  refine F.ok sc_InvalidNumber___init__ (fun vs H Q E h => ?_) (fun cdv A outer s H vs Q E hr h => ?_)
  · obtain ⟨x, v, rfl, _⟩ := h
    rfl
  · obtain ⟨x, v, rfl, hx, q⟩ := h
    exact ⟨_, (pss_one (ps_ost (pv 0) (pv 1))), _, rfl, _, rfl, x, a.InvalidNumber, rfl, e.oex, e.no, .inl ⟨hx, fun dx hn hne => q dx hn hne⟩⟩
/-- a table that cannot be made -/
def spTabBad (K : PySem.W.Frag) (CT : Addr) : Sp := fun vs H _ E => ∃ (t : Addr) (x y : V), vs = [.ref t, x, y] ∧ KV K H x ∧ (cntV x = false ∨ (cntV x = true ∧ ((∃ xs, Sq K H y xs ∧ rnkL xs = false) ∨ Od K H y))) ∧
  ∀ p d H', Same H H' → H p = Option.none → H d = Option.none → H' p = some (.tup [x, y]) → H' d = some (.xd [("value", .ref p)]) → E (.ref CT) (some d) H'
/-- a count that is none -/
def spNumBad (K : PySem.W.Frag) (CN : Addr) (k : V → Hp → Prop) : Sp := fun vs H _ E => ∃ (x c : V), vs = [x, c] ∧ k x H ∧ KV K H c ∧ cntV c = false ∧ ∀ d, H d = Option.none → E (.ref CN) (some d) (upd H d (.xd [("value", c)]))
theorem okX_Table_init (T : Txt K mg a) : FnR P w K mg base (L2.CX P w) 5 a.Table___init__ (spTabBad K a.InvalidTable) := by
  obtain ⟨fd, F⟩ := T.F_Table___init__
  obtain ⟨fdE, FE⟩ := T.F_InvalidTable___init__
  have GE_T := okE_InvalidTable (P := P) (w := w) (base := base) T T.e_T FE
  have BE_T := FE.binds bn_InvalidTable___init__
  refine XT.okX F sc_Table___init__ bn_Table___init__ (fun vs H Q E h => ?_) (fun cdv A outer s H vs Q E hr h => ?_)
  · obtain ⟨t, x, y, rfl, _⟩ := h
    rfl
  · obtain ⟨t, x, y, rfl, kx, bad, k⟩ := h
    have G_is_count := ok_is_count (P := P) (w := w) (base := base) T
    have G_is_rank_list := ok_is_rank_list (P := P) (w := w) (base := base) T
    refine ⟨_, (pss_cons (ps_if (PW.pt (pw_or (pt_not (pt_val (pe_callR G_is_count (hr.mono (by decide)) rfl T.g_is_count T.k_is_count pass0 (pa_cons (pv 1) pa_nil)))) (pw_or1 (pt_not (pt_val (pe_callR G_is_rank_list (hr.mono (by decide)) rfl T.g_is_rank_list T.k_is_rank_list pass0 (pa_cons (pv 2) pa_nil))))))) (pss_one (ps_raiseE T.e_T GE_T BE_T (hr.mono (by decide)) T.g_InvalidTable rfl (takes_of rfl rfl rfl rfl) (pe_tup (pa_cons (pv 1) (pa_cons (pv 2) pa_nil))))) pss_nil)
      (pss_cons (ps_fld (pv 0) (pv 1) rfl)
      (pss_one (ps_fld (pv 0) (pe_callTy (tupleK K) (by rfl) T.b_tuple (by decide +kernel) (pa_cons (pv 2) pa_nil)) rfl)))), ?_⟩
    have fin : ∀ {σ : L2.St} {H1 : Hp}, Same H H1 → σ[1]? = some (some x) → σ[2]? = some (some y) → tErr a.InvalidTable "value" (tTup (tCons (tVar 1) (tCons (tVar 2) tNil))) σ H1 (fun cls d H' => E cls d H') := by
      intro σ H1 s1 e1 e2
      refine ⟨x, e1, y, e2, by show 2 ≤ sizeLine; exact Nat.le_trans (by decide) line_ge, fun p hp => err_rd fun d hd => ?_⟩
      have nd : d ≠ p := fun z => by rw [z, upd_same] at hd; cases hd
      have s2 : Same H (upd (upd H1 p (.tup [x, y])) d (.xd [("value", .ref p)])) := (s1.trans (same_new hp)).trans (same_new hd)
      exact k p d _ s2 (s1.free hp) (s1.free (by rw [upd_ne nd] at hd; exact hd)) (by rw [upd_ne (Ne.symm nd), upd_same]) upd_same
    refine ⟨_, rfl, _, rfl, kx, _, rfl, ?_⟩
    rcases bad with b | ⟨b, bad⟩
    · refine iteH (by rw [b]; rfl) ?_
      exact fin (Same.refl H) rfl rfl
    · refine iteN (by rw [b]; rfl) ?_
      rcases bad with ⟨xs, hS, hr2⟩ | od
      · refine ⟨_, rfl, _, rfl, .inl ⟨xs, hS, fun H1 s1 => ⟨_, rfl, iteH (by rw [hr2]; rfl) ?_⟩⟩⟩
        exact fin s1 rfl rfl
      · refine ⟨_, rfl, _, rfl, .inr ⟨od, fun H1 s1 => ⟨_, rfl, iteH rfl ?_⟩⟩⟩
        exact fin s1 rfl rfl

theorem okX_Table_call (T : Txt K mg a) : FnR P w K mg base (L2.CX P w) 4 a.Table___call__ (spNumBad K a.InvalidNumber (fun _ _ => True)) := by
  obtain ⟨fd, F⟩ := T.F_Table___call__
  obtain ⟨fdE, FE⟩ := T.F_InvalidNumber___init__
  have GE_N := okE_InvalidNumber (P := P) (w := w) (base := base) T T.e_N FE
  have BE_N := FE.binds bn_InvalidNumber___init__
  refine XT.okX F sc_Table___call__ bn_Table___call__ (fun vs H Q E h => ?_) (fun cdv A outer s H vs Q E hr h => ?_)
  · obtain ⟨x, c, rfl, _⟩ := h
    rfl
  · obtain ⟨x, c, rfl, _, kc, b, k⟩ := h
    have G_is_count := ok_is_count (P := P) (w := w) (base := base) T
    have G_mapped := ok_mapped (P := P) (w := w) (base := base) T
    refine ⟨_, (pss_cons (ps_if (pt_not (pt_val (pe_callR G_is_count (hr.mono (by decide)) rfl T.g_is_count T.k_is_count pass0 (pa_cons (pv 1) pa_nil)))) (pss_one (ps_raiseE T.e_N GE_N BE_N (hr.mono (by decide)) T.g_InvalidNumber rfl (takes_of rfl rfl rfl rfl) (pv 1))) pss_nil)
      (pss_one (ps_ret (pe_callR G_mapped (hr.mono (by decide)) rfl T.g_mapped T.k_mapped pass0 (pa_cons (fldK K (pv 0) rfl) (pa_cons (fldK K (pv 0) rfl) (pa_cons (pv 1) pa_nil))))))), ?_⟩
    refine ⟨_, rfl, _, rfl, kc, _, rfl, iteH (by rw [b]; rfl) ?_⟩
    exact ⟨c, rfl, err_rd fun d hd => k d hd⟩

theorem okX_Table_least (T : Txt K mg a) : FnR P w K mg base (L2.CX P w) 4 a.Table_least (spNumBad K a.InvalidNumber (fun _ _ => True)) := by
  obtain ⟨fd, F⟩ := T.F_Table_least
  obtain ⟨fdE, FE⟩ := T.F_InvalidNumber___init__
  have GE_N := okE_InvalidNumber (P := P) (w := w) (base := base) T T.e_N FE
  have BE_N := FE.binds bn_InvalidNumber___init__
  refine XT.okX F sc_Table_least bn_Table_least (fun vs H Q E h => ?_) (fun cdv A outer s H vs Q E hr h => ?_)
  · obtain ⟨x, c, rfl, _⟩ := h
    rfl
  · obtain ⟨x, c, rfl, _, kc, b, k⟩ := h
    have G_is_count := ok_is_count (P := P) (w := w) (base := base) T
    have G_kept_rank := ok_kept_rank (P := P) (w := w) (base := base) T
    refine ⟨_, (pss_cons (ps_if (pt_not (pt_val (pe_callR G_is_count (hr.mono (by decide)) rfl T.g_is_count T.k_is_count pass0 (pa_cons (pv 1) pa_nil)))) (pss_one (ps_raiseE T.e_N GE_N BE_N (hr.mono (by decide)) T.g_InvalidNumber rfl (takes_of rfl rfl rfl rfl) (pv 1))) pss_nil)
      (pss_cons (ps_if (pt_cmpR op_le (pv 1) (fldK K (pv 0) rfl) (nomark _)) (pss_one (ps_ret pe_int)) pss_nil)
      (pss_one (ps_ret (pe_callR G_kept_rank (hr.mono (by decide)) rfl T.g_kept_rank T.k_kept_rank pass0 (pa_cons (fldK K (pv 0) rfl) (pa_cons (pe_op op_sub (pv 1) (fldK K (pv 0) rfl)) pa_nil))))))), ?_⟩
    refine ⟨_, rfl, _, rfl, kc, _, rfl, iteH (by rw [b]; rfl) ?_⟩
    exact ⟨c, rfl, err_rd fun d hd => k d hd⟩

end
end K05
namespace K05
open PySem L2 XT
section
variable {P : Program} {w : World} {K : PySem.W.Frag} {mg : Str → Option Value} {base : Heap} {a : Ads}

local macro_rules | `(tactic| walk_at "rside") => `(tactic| first | (show (0 : Int) < _; first | decide | omega) | (exact ⟨by first | decide | omega, by first | decide | omega⟩) | (exact Or.inl ⟨by omega, by omega⟩) | (exact Or.inr ⟨by omega, by omega⟩) | (exact ⟨by decide, by decide, by decide⟩))
local macro_rules | `(tactic| walk_at "rd1") => `(tactic| first | (refine ⟨_, rfl, ?_⟩) | (refine ⟨_, _, rfl, rfl, (by walk_at "rside"), ?_⟩) | (refine ⟨_, _, rfl, rfl, ?_⟩))
local macro_rules | `(tactic| walk_at "rd") => `(tactic| repeat (walk_at "rd1"))

/-- Table(..), at its best and at its worst -/
theorem okU_Table_init (T : Txt K mg a) : FnR P w K mg base (L2.CX P w) 5 a.Table___init__ (fun vs H Q E => spTab0 K a.Table vs H Q E ∨ spTabBad K a.InvalidTable vs H Q E) := fnR_or (fnR_lift (ok_Table___init__ T)) (okX_Table_init T)
theorem okU_Table_call (T : Txt K mg a) : FnR P w K mg base (L2.CX P w) 4 a.Table___call__ (fun vs H Q E => spCallT K a.Table vs H Q E ∨ spNumBad K a.InvalidNumber (fun _ _ => True) vs H Q E) := fnR_or (fnR_lift ((ok_Table___call__ T).mono (by decide))) (okX_Table_call T)
theorem okU_Table_least (T : Txt K mg a) : FnR P w K mg base (L2.CX P w) 4 a.Table_least (fun vs H Q E => spLeast K a.Table vs H Q E ∨ spNumBad K a.InvalidNumber (fun _ _ => True) vs H Q E) := fnR_or (fnR_lift ((ok_Table_least T).mono (by decide))) (okX_Table_least T)
/-- a table asked for: made, or refused with its arguments; a count asked for that is none -/
def spCaught (K : PySem.W.Frag) (C : Addr) : Sp := fun vs H Q _ => ∃ (way : Int) (one two : V), vs = [.int way, one, two] ∧
  ((way = 0 ∧ ∃ (s : Int) (l : Addr) (L : List Int), one = .int s ∧ two = .ref l ∧ (SqL K H l (L.map V.int) ∨ SqT K H l (L.map V.int)) ∧ Tbl.Ok s L ∧ L.length ≤ 100000 ∧
      ∀ r p H', Same H H' → H r = Option.none → H' r = some (.lst [.str "table", .int s, .ref p]) → SqT K H' p (L.map V.int) → Q (.ref r) H') ∨
   (way = 0 ∧ ∃ d, Okd d ∧ KV K H one ∧ (cntV one = false ∨ (cntV one = true ∧ ((∃ xs, Sq K H two xs ∧ rnkL xs = false) ∨ Od K H two))) ∧ (∀ p H', Same H H' → H' p = some (.tup [one, two]) → Rd K H' (.ref p) d) ∧
      ∀ r H', Same H H' → H r = Option.none → H' r = some (.lst [.str "invalid", .str d.shown, .bl true]) → Q (.ref r) H') ∨
   ((way = 1 ∨ way = 2) ∧ ∃ t s L d, one = .ref t ∧ TabAt K C H t s L ∧ Okd d ∧ KV K H two ∧ cntV two = false ∧ Rd K H two d ∧
      ∀ r H', Same H H' → H r = Option.none → H' r = some (.lst [.str "number", .str d.shown, .bl true]) → Q (.ref r) H'))
/-- what the two clauses do -/
abbrev WLd (K : PySem.W.Frag) (a : Ads) : List (Value × Nat × (Addr → Value → Option Addr → TS)) := [(.ref a.InvalidTable, 4, (fun ea cls d => tRet (tLst (tCons (tC (V.str "invalid")) (tCons (tCB (rReprD K) (tCons (tXf ea cls d a.InvalidTable "value" (tVar 4)) tNil)) (tCons (tCB (rIsED K a.InvalidTable ea cls d) (tCons (tVar 4) (tCons (tC (V.ref a.RankError)) tNil))) tNil)))))), (.ref a.InvalidNumber, 4, (fun ea cls d => tRet (tLst (tCons (tC (V.str "number")) (tCons (tCB (rReprD K) (tCons (tXf ea cls d a.InvalidNumber "value" (tVar 4)) tNil)) (tCons (tCB (rIsED K a.InvalidNumber ea cls d) (tCons (tVar 4) (tCons (tC (V.ref a.RankError)) tNil))) tNil))))))]
theorem ok_law_caught (T : Txt K mg a) : FnG P w K mg base CX0 7 a.law_caught (spCaught K a.Table) := by
  obtain ⟨fd, F⟩ := T.F_law_caught
  have G_U := okU_Table_init (P := P) (w := w) (base := base) T
  have G_C := okU_Table_call (P := P) (w := w) (base := base) T
  have G_L := okU_Table_least (P := P) (w := w) (base := base) T
  have G_start := ok_Table_start (P := P) (w := w) (base := base) T
  have G_lost := ok_Table_lost (P := P) (w := w) (base := base) T
  refine XT.okGX F sc_law_caught bn_law_caught (fun vs H Q E h => ?_) (fun cdv A outer s H vs Q E hg hr h => ?_)
  · obtain ⟨way, one, two, rfl, _⟩ := h
    rfl
  · obtain ⟨way, one, two, rfl, h⟩ := h
    refine ⟨_, (pss_one (ps_try_asL rfl rfl sc_law_caught.nd takes0 (fun W pn xe tk po => (pss_cons (ps_if (pt_cmpR op_eq (pv 0) pe_int (nomark _)) (pss_cons (ps_set (i := 3) sc_law_caught.nd rfl (Or.inl rfl) (StX.pe_makeR T.M_Table G_U (hr.mono (by decide)) rfl T.g_Table (passAll tk 5 rfl) (pa_cons (pv 1) (pa_cons (pv 2) pa_nil))))
      (pss_one (ps_ret (pe_lst (pa_cons pe_str (pa_cons (pe_propR (pv 3) T.cl T.p_start G_start (hr.mono (by decide)) pass0 rfl) (pa_cons (pe_propR (pv 3) T.cl T.p_lost G_lost (hr.mono (by decide)) pass0 rfl) pa_nil))))))) pss_nil)
      (pss_one (ps_ret (pe_lst (pa_cons pe_str (pa_cons (pe_ifExp (pt_cmpR op_eq (pv 0) pe_int (nomark _)) (pe_callI (pv 1) T.callO G_C (hr.mono (by decide)) (passAll tk 5 rfl) (pa_cons (pv 2) pa_nil)) (pe_methR (pv 1) T.cl T.m_least G_L (hr.mono (by decide)) (passAll tk 5 rfl) (pa_cons (pv 2) pa_nil))) pa_nil)))))))
      (AsOk.cons (i := 4) ⟨by rfl, by decide, .inl T.g_InvalidTable⟩ rfl rfl (fun ea oe cls d pn hz hf => (pss_one (ps_ret (pe_lst (pa_cons pe_str (pa_cons (pe_callB (reprKx K hg hr.units) (by rfl) T.b_repr (by decide +kernel) (pa_cons (pe_xf T.e_T.xf T.e_T.no hz hf (pv 4)) pa_nil)) (pa_cons (pe_callB (isEKx K T.e_T.exc hz hf) (by rfl) T.b_isinstance (by decide +kernel) (pa_cons (pv 4) (pa_cons (pe_glob (v := .ref a.RankError) (by rfl) T.g_RankError rfl) pa_nil))) pa_nil)))))))
      (AsOk.cons (i := 4) ⟨by rfl, by decide, .inl T.g_InvalidNumber⟩ rfl rfl (fun ea oe cls d pn hz hf => (pss_one (ps_ret (pe_lst (pa_cons pe_str (pa_cons (pe_callB (reprKx K hg hr.units) (by rfl) T.b_repr (by decide +kernel) (pa_cons (pe_xf T.e_N.xf T.e_N.no hz hf (pv 4)) pa_nil)) (pa_cons (pe_callB (isEKx K T.e_N.exc hz hf) (by rfl) T.b_isinstance (by decide +kernel) (pa_cons (pv 4) (pa_cons (pe_glob (v := .ref a.RankError) (by rfl) T.g_RankError rfl) pa_nil))) pa_nil))))))) AsOk.nil)))), ?_⟩
    rcases h with ⟨rfl, z, l, L, rfl, rfl, hS, ok, hl, k⟩ | ⟨rfl, D, od, kx, bad, rd, k⟩ | ⟨hw, t, z, L, D, rfl, tt, od, kc, hc, rd, k⟩
    · refine ⟨_, rfl, rfl, _, rfl, iteH rfl ?_⟩
      refine ⟨_, rfl, _, rfl, fun t dx nx ndx ne => ?_⟩
      have s0 : Same H (upd (upd H dx (.own t)) t (.ins a.Table dx [])) := same_upd (same_new ndx) nx
      refine .inl ⟨t, dx, l, z, L, rfl, upd_same, hS.imp (fun h => s0.seq h) (fun h => same_seqT s0 h), ok, hl, fun H1 tb kp => ⟨rfl, ?_⟩⟩
      have s1 : Same H H1 := fun b o e => kp b o (s0 b o e) (fun q => by rw [q, nx] at e; cases e)
      obtain ⟨dy, fy, ty⟩ := tb.insA
      refine ⟨_, rfl, t, dy, fy, rfl, ty, t, z, L, rfl, tb, _, rfl, t, dy, fy, rfl, ty, t, z, L, rfl, tb, fun p hp => ?_⟩
      exact ⟨by show 3 ≤ sizeLine; exact Nat.le_trans (by decide) line_ge, fun r hr => k r p _ (s1.trans (same_new hr)) (s1.free hr) upd_same (same_seqT (same_new hr) hp)⟩
    · refine ⟨_, rfl, rfl, _, rfl, iteH rfl ?_⟩
      refine ⟨_, rfl, _, rfl, fun x dx nx ndx ne => .inr ?_⟩
      have s1 : Same H (upd (upd H dx (.own x)) x (.ins a.Table dx [])) := same_upd (same_new ndx) nx
      refine ⟨x, one, two, rfl, kx.same s1, ?_, fun p d H1 s2 np nd hp hd σ hσ => ?_⟩
      · rcases bad with b | ⟨b, ⟨xs, ⟨q, e1, e2, e3, e4⟩, e5⟩ | ⟨n, e1, e2, e3⟩⟩
        · exact .inl b
        · exact .inr ⟨b, .inl ⟨xs, ⟨q, e1, e2.imp (fun h => s1.seq h) (fun h => same_seqT s1 h), fun y hy => (e3 y hy).same s1, e4⟩, e5⟩⟩
        · exact .inr ⟨b, .inr ⟨n, same_tyB s1 e1, e2, e3⟩⟩
      · refine ⟨true, T.x_TT, fun _ ea hea => ?_, fun q => Bool.noConfusion q⟩
        have he : (σ.set 4 (some (V.ref ea)))[4]? = some (some (V.ref ea)) := by simp [hσ]
        refine ⟨_, he, rfl, rfl, d, _, _, rfl, hd, rfl, _, D, rfl, rd p H1 (s1.trans s2) hp, od.pl, od.dp, od.sz, ?_⟩
        refine ⟨_, he, _, _, true, d, _, rfl, rfl, (fun u r => r), rfl, hd, T.r_T, ?_⟩
        exact ⟨by show 3 ≤ sizeLine; exact Nat.le_trans (by decide) line_ge, fun r hr => k r _ ((s1.trans s2).trans (same_new hr)) ((s1.trans s2).free hr) upd_same⟩
    · have go : ∀ (σ : L2.St) (d : Addr), σ.length = 5 → H d = Option.none → wAsL K (fun _ _ _ _ => False) { nx := fun _ H' => Q V.non H', rt := Q } (WLd K a) (.ref a.InvalidNumber) (some d) σ (upd H d (.xd [("value", two)])) := by
        intro σ d hσ hd
        refine ⟨false, T.x_NT, (fun q => Bool.noConfusion q), fun _ => ⟨true, T.x_NN, fun _ ea hea => ?_, fun q => Bool.noConfusion q⟩⟩
        have he : (σ.set 4 (some (V.ref ea)))[4]? = some (some (V.ref ea)) := by simp [hσ]
        refine ⟨_, he, rfl, rfl, d, _, _, rfl, upd_same, rfl, _, D, rfl, rd_same (same_new hd) rd, od.pl, od.dp, od.sz, ?_⟩
        refine ⟨_, he, _, _, true, d, _, rfl, rfl, (fun u r => r), rfl, upd_same, T.r_N, ?_⟩
        exact ⟨by show 3 ≤ sizeLine; exact Nat.le_trans (by decide) line_ge, fun r hr => k r _ ((same_new hd).trans (same_new hr)) ((same_new hd).free hr) upd_same⟩
      have insA := tt.insA
      obtain ⟨dx, fs, ht⟩ := id insA
      have hl : fs.lookup ("least" : Str) = Option.none := by
        obtain ⟨dy, la, h, _⟩ := id tt
        rw [h] at ht
        injection ht with ht
        injection ht with _ _ ht
        subst ht
        exact flds_no _ _ (by decide +kernel) (by decide +kernel)
      rcases hw with rfl | rfl
      · refine ⟨_, rfl, rfl, _, rfl, iteN rfl ?_⟩
        refine ⟨_, rfl, rfl, _, rfl, iteH rfl ?_⟩
        exact ⟨_, rfl, t, rfl, _, rfl, insA, .inr ⟨_, two, rfl, trivial, kc, hc, fun d hd σ hσ => go σ d hσ hd⟩⟩
      · refine ⟨_, rfl, rfl, _, rfl, iteN rfl ?_⟩
        refine ⟨_, rfl, rfl, _, rfl, iteN rfl ?_⟩
        exact ⟨_, rfl, t, dx, fs, rfl, ht, hl, _, rfl, .inr ⟨_, two, rfl, trivial, kc, hc, fun d hd σ hσ => go σ d hσ hd⟩⟩
end
end K05
namespace K05
open PySem L2 XT
section
variable {P : Program} {w : World} {K : PySem.W.Frag} {mg : Str → Option Value} {base : Heap} {a : Ads}

local macro_rules | `(tactic| walk_at "rside") => `(tactic| first | (show (0 : Int) < _; first | decide | omega) | (exact ⟨by first | decide | omega, by first | decide | omega⟩) | (exact Or.inl ⟨by omega, by omega⟩) | (exact Or.inr ⟨by omega, by omega⟩) | (exact ⟨by decide, by decide, by decide⟩))
local macro_rules | `(tactic| walk_at "rd1") => `(tactic| first | (refine ⟨_, rfl, ?_⟩) | (refine ⟨_, _, rfl, rfl, (by walk_at "rside"), ?_⟩) | (refine ⟨_, _, rfl, rfl, ?_⟩))
local macro_rules | `(tactic| walk_at "rd") => `(tactic| repeat (walk_at "rd1"))

theorem flat_ints (L : List Int) : (L.map V.int).all flatV = true := by
  rw [List.all_map]
  exact List.all_eq_true.mpr fun _ _ => rfl
theorem outs_none (n : Nat) : outs (fun _ => Option.none) n = [] := by
  unfold outs
  induction n with
  | zero => rfl
  | succ n ih => rw [List.range_succ, List.filterMap_append, ih]; rfl

theorem tab_ins {K : PySem.W.Frag} {C : Addr} {H : Hp} {t : Addr} {s : Int} {L : List Int} (h : TabAt K C H t s L) : ∃ dx la, H t = some (.ins C dx (flds s la)) := let ⟨dx, la, a, _⟩ := h; ⟨dx, la, a⟩
theorem least_no (s : Int) (la : Addr) : (flds s la).lookup ("least" : Str) = none := flds_no _ _ (by decide +kernel) (by decide +kernel)
theorem cmp_same {x y : Int} (e : x = y) : (!decide (V.int x = V.int y)) = false := by
  rw [e, decide_eq_true rfl]
  rfl
theorem filt_len (c : Int) (L : List Int) : ((L.map V.int).filterMap fun v => if vi v ≤ c then some v else Option.none).length = L.countP fun x => decide (x ≤ c) := by
  induction L with
  | nil => rfl
  | cons x L ih =>
    rw [List.map_cons, List.filterMap_cons, List.countP_cons]
    by_cases h : x ≤ c
    · have e : (if vi (V.int x) ≤ c then some (V.int x) else Option.none) = some (V.int x) := if_pos h
      rw [e, List.length_cons, ih, if_pos (decide_eq_true h)]
    · have e : (if vi (V.int x) ≤ c then some (V.int x) else Option.none) = Option.none := if_neg h
      rw [e, ih, if_neg (by simpa using h)]
      rfl
def spRight (K : PySem.W.Frag) (C : Addr) : Sp := fun vs H Q _ => ∃ t s L l, vs = [.ref t, .int s, .ref l] ∧ TabAt K C H t s L ∧ H l = some (.lst (L.map V.int)) ∧ L.length ≤ 100 ∧ ∀ H', Same H H' → Q (.bl true) H'
theorem ok_law_counts_right (T : Txt K mg a) : FnR P w K mg base CX0 9 a.law_counts_right (spRight K a.Table) := by
  obtain ⟨fd, F⟩ := T.F_law_counts_right
  refine XT.okR F sc_law_counts_right bn_law_counts_right (fun vs H Q E h => ?_) (fun cdv A outer s H vs Q E hr h => ?_)
  · obtain ⟨t, z, L, l, rfl, _⟩ := h
    rfl
  · obtain ⟨t, z, L, l, rfl, tt0, hL0, hl, k⟩ := h
    have G_least := ok_Table_least (P := P) (w := w) (base := base) T
    have G_call := ok_Table___call__ (P := P) (w := w) (base := base) T
    refine ⟨_, (pss_cons (ps_if (pt_cmpR (neDK K hr.units) (pe_lc (own := [("_law_count", 3)])  rfl sc_law_counts_right.nd (pi_list (pe_lst (pa_cons pe_int (pa_cons (pe_op op_fdiv (pv 1) pe_int) (pa_cons (pv 1) pa_nil))))) (blkOk_by (N := N_law_counts_right) (sc := defScope s_law_counts_right) (by decide +kernel)) (fun _ _ _ _ _ => by exact (pg_name (i := 3) sc_law_counts_right.nd rfl (Or.inl rfl))) (fun _ _ _ _ _ => by exact pts_one (pt_cmpR op_ne (pe_methR (pv 0) T.cl T.m_least G_least (hr.mono (by decide)) pass0 (pa_cons (pv 3) pa_nil)) pe_int (nomark _))) (fun _ _ _ _ _ => by exact (pv 3))) (pe_lst pa_nil) (nomark _)) (pss_one (ps_ret pe_bl)) pss_nil)
      (pss_cons (ps_for PassesOwn.never rfl (pi_list (pe_op op_cat (pe_op op_cat (pe_lst (pa_cons pe_int pa_nil)) (pe_slice (slLK K) (pv 2) po_none (po_some pe_int))) (pe_slice (slLK K) (pv 2) (po_some (pe_un un_neg pe_int)) po_none))) (pg_name (i := 4) sc_law_counts_right.nd rfl (Or.inl rfl))
        (pss_one (ps_for PassesOwn.never rfl (pi_rng2 (by rfl) T.b_range (pa_cons (pe_callB (call_max2 rfl) (by rfl) T.b_max (by decide +kernel) (pa_cons pe_int (pa_cons (pe_op op_sub (pv 4) pe_int) pa_nil))) (pa_cons (pe_op op_add (pv 4) pe_int) pa_nil))) (pg_name (i := 3) sc_law_counts_right.nd rfl (Or.inr rfl))
        (pss_cons (ps_set (i := 5) sc_law_counts_right.nd rfl (Or.inl rfl) (pe_op op_sub (pe_op op_add (pv 1) (pv 3)) (pe_callB (lenK K) (by rfl) T.b_len (by decide +kernel) (pa_cons (pe_lc (own := [("_law_rank", 6)])  rfl sc_law_counts_right.nd (pi_list (pv 2)) (blkOk_by (N := N_law_counts_right) (sc := defScope s_law_counts_right) (by decide +kernel)) (fun _ _ _ _ _ => by exact (pg_name (i := 6) sc_law_counts_right.nd rfl (Or.inl rfl))) (fun _ _ _ _ _ => by exact pts_one (pt_cmpR op_le (pv 6) (pv 3) (nomark _))) (fun _ _ _ _ _ => by exact (pv 6))) pa_nil))))
      (pss_cons (ps_if (pt_cmpR op_ne (StX.pe_callO (pv 0) T.callO G_call (hr.mono (by decide)) pass0 (pa_cons (pv 3) pa_nil)) (pv 5) (nomark _)) (pss_one (ps_ret pe_bl)) pss_nil)
      (pss_cons (ps_set (i := 7) sc_law_counts_right.nd rfl (Or.inl rfl) (pe_methR (pv 0) T.cl T.m_least G_least (hr.mono (by decide)) pass0 (pa_cons (pv 5) pa_nil)))
      (pss_one (ps_if (PW.pt (pw_or (pt_cmpR op_lt (StX.pe_callO (pv 0) T.callO G_call (hr.mono (by decide)) pass0 (pa_cons (pv 7) pa_nil)) (pv 5) (nomark _)) (pw_or (PW.pt (pw_and (pt_cmpR op_gt (pv 7) pe_int (nomark _)) (pw_and1 (pt_cmpR op_ge (StX.pe_callO (pv 0) T.callO G_call (hr.mono (by decide)) pass0 (pa_cons (pe_op op_sub (pv 7) pe_int) pa_nil)) (pv 5) (nomark _))))) (pw_or1 (pt_cmpR op_gt (pv 7) (pv 3) (nomark _)))))) (pss_one (ps_ret pe_bl)) pss_nil))))))))
      (pss_one (ps_ret pe_bl)))), ?_⟩
    have ok : Tbl.Ok z L := let ⟨_, _, _, _, o, _⟩ := tt0; o
    obtain ⟨dx, la, ht⟩ := tab_ins tt0
    refine ⟨_, rfl, _, _, rfl, rfl, ⟨by decide, by have := ok.s0; omega⟩, _, rfl, by show 3 ≤ sizeLine; exact Nat.le_trans (by decide) line_ge, fun p hp => ?_⟩
    have s1 : Same H (upd H p (.lst [V.int 0, V.int (z / 2), V.int z])) := same_new hp
    refine ⟨p, rfl, ⟨_, SqL.of upd_same⟩, fun D hD => lcG (stat_list (xs := [V.int 0, V.int (z / 2), V.int z]) (SqL.of upd_same)) hD (fun _ => Option.none) (by show 3 ≤ sizeLine; exact Nat.le_trans (by decide) line_ge) ?_ ?_⟩
    · intro i x H2 R hi s px kk
      have hz := ok.s0
      obtain ⟨c, rfl, c0, c1⟩ : ∃ c, x = V.int c ∧ 0 ≤ c ∧ c ≤ z := by
        have hm := List.mem_of_getElem? px
        simp only [List.mem_cons, List.not_mem_nil, or_false] at hm
        rcases hm with rfl | rfl | rfl
        · exact ⟨0, rfl, Int.le_refl 0, hz⟩
        · exact ⟨z / 2, rfl, by omega, by omega⟩
        · exact ⟨z, rfl, hz, Int.le_refl z⟩
      refine ⟨rfl, _, rfl, t, dx, _, rfl, s _ _ (s1 _ _ ht), least_no _ _, _, rfl, t, z, L, c, rfl, (tt0.same s1).same s, c0, fun H5 s5 => ⟨rfl, _, rfl, ?_⟩⟩
      have e : Tbl.lst z L c = 0 := by
        unfold Tbl.lst
        rw [if_pos c1]
      exact iteN (cmp_same e) (kk H5 s5)
    intro H2 s2 hD2
    rw [outs_none] at hD2
    refine ⟨Nat.zero_le _, fun p7 hp7 => ?_⟩
    have s3 := (s1.trans s2).trans (same_new (o := .lst []) hp7)
    refine ⟨_, _, dp_lst (L := []) (SqL.of (same_new hp7 _ _ hD2)), dp_lst (L := []) (SqL.of upd_same), shaped_lst _, shaped_lst _, _, rfl, ?_⟩
    have e6 : (!PyData.eqv (.list (([] : List Int).map PyData.int)) (.list (([] : List Int).map PyData.int))) = false := by rw [eqv_lsts]; rfl
    refine iteN e6 ?_
    generalize hH3 : upd H2 p7 (.lst []) = H3 at s3
    -- the bases
    refine ⟨by show 1 ≤ sizeLine; exact Nat.le_trans (by decide) line_ge, fun p1 hp1 => ?_⟩
    have s4 : Same H3 (upd H3 p1 (.lst [V.int 0])) := same_new hp1
    refine ⟨_, rfl, _, rfl, l, _, rfl, SqL.of (s4 _ _ (s3 _ _ hL0)), fun p2 hp2 => ?_⟩
    have s5 := s4.trans (same_new (o := .lst (cutV (L.map V.int) Option.none (some 1))) hp2)
    refine ⟨p1, p2, _, _, rfl, rfl, same_new hp2 _ _ upd_same, upd_same, ?_, fun p3 hp3 => ?_⟩
    · have := cutV_length (L.map V.int) Option.none (some 1)
      rw [List.length_map] at this
      exact Nat.le_trans (show 1 + (cutV (L.map V.int) Option.none (some 1)).length ≤ 100000 by omega) line_ge
    generalize hU : [V.int 0] ++ cutV (L.map V.int) Option.none (some 1) = U at hp3 ⊢
    have hUl : U.length ≤ 101 := by
      have := cutV_length (L.map V.int) Option.none (some 1)
      rw [List.length_map] at this
      rw [← hU, List.length_append]
      simp only [List.length_cons, List.length_nil]
      omega
    have s6 := s5.trans (same_new (o := .lst U) hp3)
    refine ⟨_, rfl, _, rfl, _, rfl, l, _, rfl, SqL.of (s6 _ _ (s3 _ _ hL0)), fun p4 hp4 => ?_⟩
    have s7 := s6.trans (same_new (o := .lst (cutV (L.map V.int) (some (-1)) Option.none)) hp4)
    refine ⟨p3, p4, _, _, rfl, rfl, same_new hp4 _ _ upd_same, upd_same, ?_, fun p5 hp5 => ?_⟩
    · have := cutV_length (L.map V.int) (some (-1)) Option.none
      rw [List.length_map] at this
      exact Nat.le_trans (show U.length + (cutV (L.map V.int) (some (-1)) Option.none).length ≤ 100000 by omega) line_ge
    generalize hW : U ++ cutV (L.map V.int) (some (-1)) Option.none = W at hp5 ⊢
    have s8 := s7.trans (same_new (o := .lst W) hp5)
    have hWi : ∀ x ∈ W, ∃ b, x = V.int b := by
      have hc : ∀ lo hi, ∀ x ∈ cutV (L.map V.int) lo hi, ∃ b, x = V.int b := fun lo hi x hx => by
        unfold cutV at hx
        obtain ⟨b, _, e⟩ := List.mem_map.mp (List.mem_of_mem_drop (List.mem_of_mem_take hx))
        exact ⟨b, e.symm⟩
      intro x hx
      rw [← hW, ← hU] at hx
      rcases List.mem_append.mp hx with hx | hx
      · rcases List.mem_append.mp hx with hx | hx
        · exact ⟨0, List.mem_singleton.mp hx⟩
        · exact hc _ _ x hx
      · exact hc _ _ x hx
    generalize hH5 : upd (upd (upd (upd (upd H3 p1 (.lst [V.int 0])) p2 (.lst (cutV (L.map V.int) Option.none (some 1)))) p3 (.lst U)) p4 (.lst (cutV (L.map V.int) (some (-1)) Option.none))) p5 (.lst W) = H5 at s8 ⊢
    have h55 : H5 p5 = some (.lst W) := by rw [← hH5, upd_same]
    have s9 := s3.trans s8
    refine ⟨p5, rfl, ⟨_, SqL.of h55⟩, for_list (K := K) (a := p5) (xs := W) (fun i σ H' => ∃ cv bv dv lv, σ = [some (.ref t), some (.int z), some (.ref l), cv, bv, dv, Option.none, lv] ∧ Same H5 H') ⟨_, _, _, _, rfl, Same.refl _⟩ (fun i σ H' _ ⟨_, _, _, _, _, s⟩ => s.seq (SqL.of h55)) ?_ ?_⟩
    · rintro i x σ H7 hx ⟨cv, bv, dv, lv, rfl, s10⟩
      obtain ⟨b, rfl⟩ := hWi x (List.mem_of_getElem? hx)
      refine ⟨_, rfl, _, _, rfl, rfl, 0, b - 3, rfl, _, rfl, _, _, rfl, rfl, _, _, rfl, for_range (fun i σ H' => ∃ cv dv lv, σ = [some (.ref t), some (.int z), some (.ref l), cv, some (.int b), dv, Option.none, lv] ∧ Same H5 H') ⟨cv, dv, lv, rfl, s10⟩ ?_ ?_⟩
      · rintro j σ H8 hj ⟨cv, dv, lv, rfl, s11⟩
        have hc : 0 ≤ (if b - 3 > 0 then b - 3 else 0) + (j : Int) := by split <;> omega
        generalize (if b - 3 > 0 then b - 3 else 0) + (j : Int) = c at hc ⊢
        have s12 := s9.trans s11
        have hLs := s12 _ _ hL0
        refine ⟨_, rfl, _, rfl, _, _, rfl, rfl, _, rfl, l, rfl, ⟨_, SqL.of hLs⟩, fun D2 hD2 => lcG (stat_list (SqL.of hLs)) hD2 (fun i => ((L.map V.int)[i]?).bind fun v => if vi v ≤ c then some v else Option.none) (by rw [List.length_map]; exact Nat.le_trans (show L.length ≤ 100000 by omega) line_ge) ?_ ?_⟩
        · intro i x H9 R hi s px kk
          rw [List.getElem?_map] at px
          obtain ⟨y, hy, rfl⟩ := Option.map_eq_some_iff.mp px
          have hk := kk H9 (Same.refl H9)
          rw [List.getElem?_map, hy] at hk
          have hk' : R (if y ≤ c then some (V.int y) else Option.none) H9 := hk
          refine ⟨rfl, _, rfl, _, rfl, _, _, rfl, rfl, _, rfl, ite2 (fun h1 => ?_) (fun h1 => ?_)⟩
          · rw [if_pos (of_decide_eq_true h1)] at hk'
            exact ⟨_, rfl, hk'⟩
          · rw [if_neg (fun x => h1 (decide_eq_true x))] at hk'
            exact hk'
        intro H9 s13 hD9
        rw [outs_list] at hD9
        have s14 := s12.trans s13
        refine ⟨D2, _, rfl, .inl (SqL.of hD9), _, _, rfl, rfl, ?_⟩
        have ed : z + c - ((((L.map V.int).filterMap fun v => if vi v ≤ c then some v else Option.none).length : Nat) : Int) = Tbl.mp z L c := by
          unfold Tbl.mp Tbl.cnt
          rw [filt_len]
        show gName 5 (V.int (z + c - ((((L.map V.int).filterMap fun v => if vi v ≤ c then some v else Option.none).length : Nat) : Int))) _ _ _
        rw [ed]
        have hd0 := ok.mp_nn hc
        generalize hdue : Tbl.mp z L c = due at hd0 ⊢
        refine ⟨_, rfl, t, rfl, _, rfl, (tt0.same s14).insC, t, z, L, c, rfl, tt0.same s14, hc, _, rfl, rfl, _, rfl, iteN (cmp_same hdue) ?_⟩
        refine ⟨_, rfl, t, dx, _, rfl, s14 _ _ ht, least_no _ _, _, rfl, t, z, L, due, rfl, tt0.same s14, hd0, fun HA sA => ?_⟩
        have s15 := s14.trans sA
        have t15 := tt0.same s15
        have g := fun {q : Int} (hq : 0 ≤ q) => Tbl.lst_gal (k := due) ok hq
        have hl0 : 0 ≤ Tbl.lst z L due := Tbl.lst_nn _
        generalize Tbl.lst z L due = le at g hl0 ⊢
        have e1 : due ≤ Tbl.mp z L le := (g hl0).mp (Int.le_refl _)
        have e2 : le ≤ c := (g hc).mpr (by rw [hdue]; exact Int.le_refl _)
        refine ⟨_, rfl, t, rfl, _, rfl, t15.insC, t, z, L, le, rfl, t15, hl0, _, rfl, _, _, rfl, rfl, _, rfl, iteN (decide_eq_false (by omega)) ?_⟩
        have last : ∀ {H' : Hp} {R : Prop}, (¬ (le > c) → R) → R := fun h => h (by omega)
        refine ⟨_, rfl, _, _, rfl, rfl, _, rfl, ite2 (fun h1 => ?_) (fun h1 => ?_)⟩
        · have h1' := of_decide_eq_true h1
          have e3 : ¬ due ≤ Tbl.mp z L (le - 1) := fun h => by
            have := (g (by omega)).mpr h
            omega
          refine ⟨_, rfl, t, rfl, _, rfl, _, _, rfl, rfl, t15.insC, t, z, L, le - 1, rfl, t15, by omega, _, rfl, _, _, rfl, rfl, _, rfl, iteN (decide_eq_false e3) ?_⟩
          exact ⟨_, rfl, _, rfl, _, _, rfl, rfl, _, rfl, iteN (decide_eq_false (by omega)) ⟨_, _, _, rfl, s11.trans (s13.trans sA)⟩⟩
        · refine iteN rfl ?_
          exact ⟨_, rfl, _, rfl, _, _, rfl, rfl, _, rfl, iteN (decide_eq_false (by omega)) ⟨_, _, _, rfl, s11.trans (s13.trans sA)⟩⟩
      · rintro σ H8 ⟨cv, dv, lv, rfl, s11⟩
        exact ⟨_, _, _, _, rfl, s11⟩
    rintro σ H7 ⟨cv, bv, dv, lv, rfl, s10⟩
    exact k H7 (s9.trans s10)

end
end K05
namespace K05
open PySem L2 XT
section
variable {P : Program} {w : World} {K : PySem.W.Frag} {mg : Str → Option Value} {base : Heap} {a : Ads}

local macro_rules | `(tactic| walk_at "rside") => `(tactic| first | (show (0 : Int) < _; first | decide | omega) | (exact ⟨by first | decide | omega, by first | decide | omega⟩) | (exact Or.inl ⟨by omega, by omega⟩) | (exact Or.inr ⟨by omega, by omega⟩) | (exact ⟨by decide, by decide, by decide⟩))
local macro_rules | `(tactic| walk_at "rd1") => `(tactic| first | (refine ⟨_, rfl, ?_⟩) | (refine ⟨_, _, rfl, rfl, (by walk_at "rside"), ?_⟩) | (refine ⟨_, _, rfl, rfl, ?_⟩))
local macro_rules | `(tactic| walk_at "rd") => `(tactic| repeat (walk_at "rd1"))

/-- == of a table and something that is none -/
def spEqO (K : PySem.W.Frag) (C : Addr) : Sp := fun vs H Q _ => ∃ (t : Addr) (y : V) (ty : Value), vs = [.ref t, y] ∧ TyX K H y ty ∧ PySem.W.kitOne K ty (.ref C) = some false ∧ Q (.bl false) H
theorem ok_Table_eqO (T : Txt K mg a) : FnR P w K mg base CX0 1 a.Table___eq__ (spEqO K a.Table) := by
  obtain ⟨fd, F⟩ := T.F_Table___eq__
  refine XT.okR F sc_Table___eq__ bn_Table___eq__ (fun vs H Q E h => ?_) (fun cdv A outer s H vs Q E hr h => ?_)
  · obtain ⟨t, y, ty, rfl, _⟩ := h
    rfl
  · obtain ⟨t, y, ty, rfl, hy, hk, q⟩ := h
    refine ⟨_, (pss_one (ps_ret (pe_and (pe_callB call_isi (by rfl) T.b_isinstance (by decide +kernel) (pa_cons (pv 1) (pa_cons (pe_glob (v := .ref a.Table) (by rfl) T.g_Table rfl) pa_nil))) (pe_and (pe_cmpR op_eq (fldK K (pv 0) rfl) (fldK K (pv 1) rfl) (nomark _)) (pe_one (pe_cmpR (eqDK K hr.units) (fldK K (pv 0) rfl) (fldK K (pv 1) rfl) (nomark _))))))), ?_⟩
    exact ⟨_, rfl, y, .ref a.Table, ty, .ref a.Table, false, rfl, .own _, hy, hk, _, rfl, iteN rfl q⟩
end
end K05
namespace K05
open PySem L2 XT
section
variable {P : Program} {w : World} {K : PySem.W.Frag} {mg : Str → Option Value} {base : Heap} {a : Ads}

local macro_rules | `(tactic| walk_at "rside") => `(tactic| first | (show (0 : Int) < _; first | decide | omega) | (exact ⟨by first | decide | omega, by first | decide | omega⟩) | (exact Or.inl ⟨by omega, by omega⟩) | (exact Or.inr ⟨by omega, by omega⟩) | (exact ⟨by decide, by decide, by decide⟩))
local macro_rules | `(tactic| walk_at "rd1") => `(tactic| first | (refine ⟨_, rfl, ?_⟩) | (refine ⟨_, _, rfl, rfl, (by walk_at "rside"), ?_⟩) | (refine ⟨_, _, rfl, rfl, ?_⟩))
local macro_rules | `(tactic| walk_at "rd") => `(tactic| repeat (walk_at "rd1"))

theorem ten40 : (0 : Int) ≤ 10 ^ (40 : Int).toNat := by decide
theorem ten40b : (10 : Int) ^ (40 : Int).toNat ≤ 10 ^ 40 := by decide
theorem pick4 {r u : Int} (h0 : 0 ≤ r) (h1 : r < 4) (hu : 0 ≤ u) (hu4 : u < 4) : ∃ q, atI ([V.int u, V.int 40, V.int (10 ^ (40 : Int).toNat), V.int 1] : List V) r = some (.int q) ∧ 0 ≤ q ∧ q ≤ 10 ^ 40 := by
  have : r = 0 ∨ r = 1 ∨ r = 2 ∨ r = 3 := by omega
  rcases this with rfl | rfl | rfl | rfl
  · exact ⟨u, rfl, hu, by omega⟩
  · exact ⟨40, rfl, by decide, by decide⟩
  · exact ⟨_, rfl, ten40, ten40b⟩
  · exact ⟨1, rfl, by decide, by decide⟩
theorem lo_small {L : List Int} (lo : Lo L) : ∀ x ∈ L, x.natAbs < 2 ^ 1920 := fun x hx => by
  have h1 := lo.sm x hx
  have h2 := lo.pos x hx
  have h3 : (10 : Int) ^ 60 + 40 < 2 ^ 1920 := by decide +kernel
  have h4 : ((2 : Int) ^ 1920) = ((2 ^ 1920 : Nat) : Int) := by norm_cast
  rw [h4] at h3
  generalize (2 : Nat) ^ 1920 = M at h3 ⊢
  generalize (10 : Int) ^ 60 = N at h1 h3
  omega
/-- an odd argument, as data -/
structure OddV (K : PySem.W.Frag) (H : Hp) (x : V) (d : PyData) : Prop where
  kv : KV K H x
  cn : cntV x = false
  dp : Dp K H x d
  nd : d.hasDict = false
  pl : plainD d = true
  de : d.depth ≤ 10
  sz : sc d ≤ 100000
  tx : txD d = true
theorem OddV.same {K : PySem.W.Frag} {H H' : Hp} {x : V} {d : PyData} (h : OddV K H x d) (s : Same H H') : OddV K H' x d := ⟨h.kv.same s, h.cn, dp_same s d x h.dp, h.nd, h.pl, h.de, h.sz, h.tx⟩
theorem OddV.ok {K : PySem.W.Frag} {H : Hp} {x : V} {d : PyData} (h : OddV K H x d) : Okd d := ⟨h.pl, by have := h.de; omega, by have := h.sz; omega⟩
theorem OddV.pair {K : PySem.W.Frag} {H : Hp} {x : V} {d : PyData} {L : List Int} (h : OddV K H x d) (lo : Lo L) : Okd (.tuple [d, .list (L.map PyData.int)]) ∧ txD (.tuple [d, .list (L.map PyData.int)]) = true ∧ (PyData.tuple [d, .list (L.map PyData.int)]).hasDict = false := by
  have hd := h.de
  have hz := h.sz
  have hl := lo.len
  refine ⟨⟨?_, ?_, ?_⟩, ?_, ?_⟩
  · simp [plainD, plainAll, h.pl, plainAll_ints (lo_small lo)]
  · simp [PyData.depth, PyData.depthAll, depth_ints]
    omega
  · simp [sc, scAll, scAll_ints]
    omega
  · simp [txD, txAll, h.tx, txAll_ints]
  · have : PyData.hasDictAll (L.map PyData.int) = false := PyData.hasDictAll_of_canLayAll _ (canLay_ints L)
    simp [PyData.hasDict, PyData.hasDictAll, h.nd, this]
/-- odd lost ranks, as data -/
structure OddL (K : PySem.W.Frag) (H : Hp) (x : V) (d : PyData) : Prop where
  bad : (∃ xs, Sq K H x xs ∧ rnkL xs = false) ∨ Od K H x
  dp : (Dp K H x d ∧ d.hasDict = false) ∨ ∃ a, x = .ref a ∧ H a = some (.dK []) ∧ d = .dict []
  pl : plainD d = true
  de : d.depth ≤ 10
  sz : sc d ≤ 100000
  tx : txD d = true
theorem OddL.same {K : PySem.W.Frag} {H H' : Hp} {x : V} {d : PyData} (h : OddL K H x d) (s : Same H H') : OddL K H' x d := by
  refine ⟨?_, ?_, h.pl, h.de, h.sz, h.tx⟩
  · rcases h.bad with ⟨xs, ⟨q, e1, e2, e3, e4⟩, e5⟩ | ⟨n, e1, e2, e3⟩
    · exact .inl ⟨xs, ⟨q, e1, e2.imp (fun h => s.seq h) (fun h => same_seqT s h), fun y hy => (e3 y hy).same s, e4⟩, e5⟩
    · exact .inr ⟨n, same_tyB s e1, e2, e3⟩
  · rcases h.dp with ⟨h, n⟩ | ⟨a, e1, e2, e3⟩
    · exact .inl ⟨dp_same s d x h, n⟩
    · exact .inr ⟨a, e1, s _ _ e2, e3⟩
theorem OddL.pair {K : PySem.W.Frag} {H : Hp} {x : V} {d : PyData} {v : Int} (h : OddL K H x d) (hv : v.natAbs < 2 ^ 1920) : Okd (.tuple [.int v, d]) ∧ txD (.tuple [.int v, d]) = true := by
  have hd := h.de
  have hz := h.sz
  refine ⟨⟨?_, ?_, ?_⟩, ?_⟩
  · simp [plainD, plainAll, h.pl]
    exact log2_lt_of hv
  · simp [PyData.depth, PyData.depthAll]
    omega
  · simp [sc, scAll]
    omega
  · simp [txD, txAll, h.tx]
theorem OddL.rd {K : PySem.W.Frag} {H H' : Hp} {x : V} {d : PyData} {v : Int} {q : Addr} (h : OddL K H x d) (s : Same H H') (hq : H' q = some (.tup [.int v, x])) : Rd K H' (.ref q) (.tuple [.int v, d]) := by
  rcases h.dp with ⟨h, n⟩ | ⟨a, e1, e2, e3⟩
  · exact .inl ⟨.tup (SqT.of hq) (.cons (.int v) (.cons (dp_same s d x h) .nil)), by simp [PyData.hasDict, PyData.hasDictAll, n]⟩
  · subst e1 e3
    exact .inr (.inr ⟨q, a, v, rfl, SqT.of hq, s _ _ e2, rfl⟩)
theorem v_small {v : Int} (h0 : 0 ≤ v) (h1 : v ≤ 10 ^ 40) : v.natAbs < 2 ^ 1920 := by
  have h3 : (10 : Int) ^ 40 < 2 ^ 1920 := by decide +kernel
  have h4 : ((2 : Int) ^ 1920) = ((2 ^ 1920 : Nat) : Int) := by norm_cast
  rw [h4] at h3
  generalize (2 : Nat) ^ 1920 = M at h3 ⊢
  generalize (10 : Int) ^ 40 = N at h1 h3
  omega
theorem od_l {K : PySem.W.Frag} {H : Hp} {a : Addr} (xs : List V) (h : H a = some (.lst xs)) (k : ∀ y ∈ xs, KV K H y) (hl : xs.length ≤ 100000) (r : rnkL xs = false) : (∃ ys, Sq K H (.ref a) ys ∧ rnkL ys = false) ∨ Od K H (.ref a) := .inl ⟨xs, ⟨a, rfl, .inl (SqL.of h), k, hl⟩, r⟩
theorem kv_bl {K : PySem.W.Frag} {H : Hp} (b : Bool) : KV K H (.bl b) := ⟨"bool", .bl b, by decide +kernel⟩
theorem kv_non {K : PySem.W.Frag} {H : Hp} : KV K H .non := ⟨"NoneType", .non, by decide +kernel⟩
def spLaw (K : PySem.W.Frag) : Sp := fun vs H Q _ => ∃ (sc : Addr) (ns : List Int), vs = [.ref sc] ∧ SqL K H sc (ns.map V.int) ∧ ns.length ≤ 63 ∧ ∀ H', Q (.bl true) H'
theorem ok_law (T : Txt K mg a) {fd : FuncData} (F : Fun K "law" "law" s_law a.law fd) : FnG P w K mg base CX0 12 a.law (spLaw K) := by
  refine XT.okGX F sc_law bn_law (fun vs H Q E h => ?_) (fun cdv A outer s H vs Q E hg hr h => ?_)
  · obtain ⟨sc, ns, rfl, _⟩ := h
    rfl
  · obtain ⟨sc, ns, rfl, hS, hn, k⟩ := h
    have G_law_pool := ok_law_pool (P := P) (w := w) (base := base) T
    have G_law_take := ok_law_take (P := P) (w := w) (base := base) T
    have G_law_lost := ok_law_lost (P := P) (w := w) (base := base) T
    have G_law_counts_right := ok_law_counts_right (P := P) (w := w) (base := base) T
    have G_caught := ok_law_caught (P := P) (w := w) (base := base) T
    have G_Table_init := ok_Table___init__ (P := P) (w := w) (base := base) T
    have G_eq := ok_Table___eq__ (P := P) (w := w) (base := base) T
    have G_eqO := ok_Table_eqO (P := P) (w := w) (base := base) T
    have G_bool := ok_Table___bool__ (P := P) (w := w) (base := base) T
    have G_start := ok_Table_start (P := P) (w := w) (base := base) T
    have G_lost := ok_Table_lost (P := P) (w := w) (base := base) T
    have G_growth := ok_Table_growth (P := P) (w := w) (base := base) T
    refine ⟨_, PSs.nox ((pss_cons (ps_for PassesOwn.never rfl (pi_rng1 (by rfl) T.b_range (pa_cons (pe_callB (call_max2 rfl) (by rfl) T.b_max (by decide +kernel) (pa_cons pe_int (pa_cons (pe_callB (call_min2 rfl) (by rfl) T.b_min (by decide +kernel) (pa_cons pe_int (pa_cons (pe_callB (lenK K) (by rfl) T.b_len (by decide +kernel) (pa_cons (pv 0) pa_nil)) pa_nil))) pa_nil))) pa_nil)) (pg_name (i := 1) sc_law.nd rfl (Or.inl rfl))
        (pss_cons (ps_set (i := 2) sc_law.nd rfl (Or.inl rfl) (pe_callR G_law_pool (hr.mono (by decide)) rfl T.g_law_pool T.k_law_pool pass0 (pa_cons (pv 0) (pa_cons (pv 1) pa_nil))))
      (pss_cons (ps_par (i := 3) (j := 4) (by rfl) sc_law.nd rfl rfl (by decide) rfl rfl (pa_cons (pe_ix (ixLK K) (pe_lst (pa_cons (pe_callR G_law_take (hr.mono (by decide)) rfl T.g_law_take T.k_law_take pass0 (pa_cons (pv 2) (pa_cons pe_int pa_nil))) (pa_cons pe_int (pa_cons (pe_op op_pow pe_int pe_int) (pa_cons pe_int pa_nil))))) (pe_callR G_law_take (hr.mono (by decide)) rfl T.g_law_take T.k_law_take pass0 (pa_cons (pv 2) (pa_cons pe_int pa_nil))) (fun _ _ => rfl)) (pa_cons (pe_callR G_law_lost (hr.mono (by decide)) rfl T.g_law_lost T.k_law_lost pass0 (pa_cons (pv 2) pa_nil)) pa_nil)) (by rfl))
      (pss_cons (ps_set (i := 5) sc_law.nd rfl (Or.inl rfl) (StX.pe_makeR T.M_Table G_Table_init (hr.mono (by decide)) rfl T.g_Table pass0 (pa_cons (pv 3) (pa_cons (pv 4) pa_nil))))
      (pss_cons (ps_if (pt_cmpR (neDK K hr.units) (pe_lst (pa_cons (pe_propR (pv 5) T.cl T.p_start G_start (hr.mono (by decide)) pass0 rfl) (pa_cons (pe_propR (pv 5) T.cl T.p_lost G_lost (hr.mono (by decide)) pass0 rfl) (pa_cons (pe_propR (pv 5) T.cl T.p_growth G_growth (hr.mono (by decide)) pass0 rfl) pa_nil)))) (pe_lst (pa_cons (pv 3) (pa_cons (pe_callTy (tupleK K) (by rfl) T.b_tuple (by decide +kernel) (pa_cons (pv 4) pa_nil)) (pa_cons (pe_op op_sub (pv 3) (pe_callB (lenK K) (by rfl) T.b_len (by decide +kernel) (pa_cons (pv 4) pa_nil))) pa_nil)))) (nomark _)) (pss_one (ps_ret pe_bl)) pss_nil)
      (pss_cons (ps_if (PW.pt (pw_or (pt_cmpR op_ne (pe_notO (pv 5) T.boolA T.boolF G_bool (hr.mono (by decide)) pass0) (pe_and (pe_cmpR op_eq (pv 3) pe_int (nomark _)) (pe_one (pe_cmpR (eqDK K hr.units) (pv 4) (pe_lst pa_nil) (nomark _)))) (nomark _)) (pw_or1 (pt_not (pt_val (pe_callR G_law_counts_right (hr.mono (by decide)) rfl T.g_law_counts_right T.k_law_counts_right pass0 (pa_cons (pv 5) (pa_cons (pv 3) (pa_cons (pv 4) pa_nil))))))))) (pss_one (ps_ret pe_bl)) pss_nil)
      (pss_cons (ps_for PassesOwn.never rfl (pi_list (pe_lst (pa_cons (StX.pe_makeR T.M_Table G_Table_init (hr.mono (by decide)) rfl T.g_Table pass0 (pa_cons (pv 3) (pa_cons (pe_callTy (tupleK K) (by rfl) T.b_tuple (by decide +kernel) (pa_cons (pv 4) pa_nil)) pa_nil))) (pa_cons (StX.pe_makeR T.M_Table G_Table_init (hr.mono (by decide)) rfl T.g_Table pass0 (pa_cons (pe_op op_add (pv 3) pe_int) (pa_cons (pv 4) pa_nil))) (pa_cons (StX.pe_makeR T.M_Table G_Table_init (hr.mono (by decide)) rfl T.g_Table pass0 (pa_cons (pv 3) (pa_cons (pe_op op_cat (pv 4) (pe_lst (pa_cons (pe_op op_pow pe_int pe_int) pa_nil))) pa_nil))) pa_nil))))) (pg_name (i := 6) sc_law.nd rfl (Or.inl rfl))
        (pss_cons (ps_set (i := 7) sc_law.nd rfl (Or.inl rfl) (pe_and (pe_cmpR op_eq (pe_propR (pv 6) T.cl T.p_start G_start (hr.mono (by decide)) pass0 rfl) (pv 3) (nomark _)) (pe_one (pe_cmpR (eqDK K hr.units) (pe_propR (pv 6) T.cl T.p_lost G_lost (hr.mono (by decide)) pass0 rfl) (pe_callTy (tupleK K) (by rfl) T.b_tuple (by decide +kernel) (pa_cons (pv 4) pa_nil)) (nomark _)))))
      (pss_one (ps_if (PW.pt (pw_or (pt_cmpR op_ne (pe_cmpR (op_ownE T.eqA T.eqF G_eq (hr.mono (by decide)) pass0) (pv 5) (pv 6) (nomark _)) (pv 7) (nomark _)) (pw_or1 (pt_cmpR op_eq (pe_cmpR (op_ownN T.neA T.sub T.eqA T.eqF G_eq (hr.mono (by decide)) pass0) (pv 5) (pv 6) (nomark _)) (pv 7) (nomark _))))) (pss_one (ps_ret pe_bl)) pss_nil))))
      (pss_cons (ps_for PassesOwn.never rfl (pi_list (pe_lst (pa_cons (pe_un un_neg pe_int) (pa_cons pe_bl (pa_cons pe_non (pa_cons pe_str (pa_cons (pe_lst (pa_cons pe_int pa_nil)) pa_nil))))))) (pg_name (i := 8) sc_law.nd rfl (Or.inl rfl))
        (pss_cons (ps_if (pt_cmpR (neDK K hr.units) (pe_callG G_caught hg (hr.mono (by decide)) rfl T.g_law_caught T.k_law_caught pass0 (pa_cons pe_int (pa_cons (pv 8) (pa_cons (pv 4) pa_nil)))) (pe_lst (pa_cons pe_str (pa_cons (pe_callB (reprKx K hg hr.units) (by rfl) T.b_repr (by decide +kernel) (pa_cons (pe_tup (pa_cons (pv 8) (pa_cons (pv 4) pa_nil))) pa_nil)) (pa_cons pe_bl pa_nil)))) (nomark _)) (pss_one (ps_ret pe_bl)) pss_nil)
      (pss_one (ps_if (pt_cmpR (neDK K hr.units) (pe_lst (pa_cons (pe_callG G_caught hg (hr.mono (by decide)) rfl T.g_law_caught T.k_law_caught pass0 (pa_cons pe_int (pa_cons (pv 5) (pa_cons (pv 8) pa_nil)))) (pa_cons (pe_callG G_caught hg (hr.mono (by decide)) rfl T.g_law_caught T.k_law_caught pass0 (pa_cons pe_int (pa_cons (pv 5) (pa_cons (pv 8) pa_nil)))) pa_nil))) (pe_op op_rep (pe_lst (pa_cons (pe_lst (pa_cons pe_str (pa_cons (pe_callB (reprKx K hg hr.units) (by rfl) T.b_repr (by decide +kernel) (pa_cons (pv 8) pa_nil)) (pa_cons pe_bl pa_nil)))) pa_nil)) pe_int) (nomark _)) (pss_one (ps_ret pe_bl)) pss_nil))))
      (pss_cons (ps_for PassesOwn.never rfl (pi_list (pe_lst (pa_cons pe_non (pa_cons pe_str (pa_cons pe_int (pa_cons (pe_lst (pa_cons pe_int pa_nil)) (pa_cons (pe_lst (pa_cons (pe_un un_neg pe_int) pa_nil)) (pa_cons (pe_lst (pa_cons pe_int (pa_cons pe_int pa_nil))) (pa_cons (pe_lst (pa_cons pe_int (pa_cons pe_int pa_nil))) (pa_cons (pe_lst (pa_cons pe_bl pa_nil)) (pa_cons (pe_lst (pa_cons pe_int (pa_cons pe_non pa_nil))) (pa_cons pe_dnewK (pa_cons (pe_tup (pa_cons pe_int (pa_cons pe_int (pa_cons pe_int pa_nil)))) pa_nil))))))))))))) (pg_name (i := 8) sc_law.nd rfl (Or.inl rfl))
        (pss_one (ps_if (pt_cmpR (neDK K hr.units) (pe_callG G_caught hg (hr.mono (by decide)) rfl T.g_law_caught T.k_law_caught pass0 (pa_cons pe_int (pa_cons (pv 3) (pa_cons (pv 8) pa_nil)))) (pe_lst (pa_cons pe_str (pa_cons (pe_callB (reprKx K hg hr.units) (by rfl) T.b_repr (by decide +kernel) (pa_cons (pe_tup (pa_cons (pv 3) (pa_cons (pv 8) pa_nil))) pa_nil)) (pa_cons pe_bl pa_nil)))) (nomark _)) (pss_one (ps_ret pe_bl)) pss_nil)))
      (pss_one (ps_if (PW.pt (pw_or (pt_cmpR (op_ownEoK K T.eqA T.eqF G_eqO (hr.mono (by decide)) pass0) (pv 5) (pe_tup (pa_cons (pv 3) (pa_cons (pv 4) pa_nil))) (nomark _)) (pw_or (pt_cmpR (op_ownEoK K T.eqA T.eqF G_eqO (hr.mono (by decide)) pass0) (pv 5) pe_non (nomark _)) (pw_or1 (pt_cmpR (neDK K hr.units) (pe_callG G_caught hg (hr.mono (by decide)) rfl T.g_law_caught T.k_law_caught pass0 (pa_cons pe_int (pa_cons (pv 3) (pa_cons (pv 4) pa_nil)))) (pe_lst (pa_cons pe_str (pa_cons (pv 3) (pa_cons (pe_callTy (tupleK K) (by rfl) T.b_tuple (by decide +kernel) (pa_cons (pv 4) pa_nil)) pa_nil)))) (nomark _)))))) (pss_one (ps_ret pe_bl)) pss_nil)))))))))))
      (pss_one (ps_ret (pe_and (pe_cmpR op_isBl (pe_callTy (call_boolO T.boolA T.boolF G_bool (hr.mono (by decide)) pass0) (by rfl) T.b_bool (by decide +kernel) (pa_cons (StX.pe_makeR T.M_Table G_Table_init (hr.mono (by decide)) rfl T.g_Table pass0 (pa_cons pe_int (pa_cons (pe_tup pa_nil) pa_nil))) pa_nil)) pe_bl (nomark _)) (pe_one (pe_cmpR op_isBl (pe_callTy (call_boolO T.boolA T.boolF G_bool (hr.mono (by decide)) pass0) (by rfl) T.b_bool (by decide +kernel) (pa_cons (StX.pe_makeR T.M_Table G_Table_init (hr.mono (by decide)) rfl T.g_Table pass0 (pa_cons pe_int (pa_cons (pe_lst (pa_cons (pe_op op_pow pe_int pe_int) pa_nil)) pa_nil))) pa_nil)) pe_bl (nomark _)))))))), ?_⟩
    refine ⟨_, rfl, sc, _, rfl, .inl hS, 10, _, rfl, 1, _, rfl, _, rfl, ?_⟩
    refine for_range (lo := 0) (fun i σ H' => ∃ o1 o2 o3 o4 o5 o6 o7 o8, σ = [some (.ref sc), o1, o2, o3, o4, o5, o6, o7, o8] ∧ Same H H') ⟨_, _, _, _, _, _, _, _, rfl, Same.refl _⟩ ?_ ?_
    · rintro i σ H2 hi ⟨o1, o2, o3, o4, o5, o6, o7, o8, rfl, s2⟩
      have hi2 : i ≤ 1000 := by
        rw [List.length_map] at hi
        have : (if (if (ns.length : Int) < 10 then (ns.length : Int) else 10) > 1 then (if (ns.length : Int) < 10 then (ns.length : Int) else 10) else 1) ≤ 63 := by split <;> (try split) <;> omega
        omega
      refine ⟨_, rfl, _, rfl, sc, ns, (0 : Int) + i, rfl, s2.seq hS, by omega, by omega, fun p H3 s3 n3 hp => ?_⟩
      refine ⟨_, rfl, p, 4, rfl, hp, by decide, by decide, fun r1 H4 r10 r11 b4 hp4 => ?_⟩
      refine ⟨_, _, rfl, rfl, ⟨by decide, by decide, by decide⟩, by show 4 ≤ sizeLine; decide, fun d hd => ?_⟩
      have nd := pool_ne hp4 hd
      have hp5 := pool_but (o := .lst [V.int r1, V.int 40, V.int (10 ^ (40 : Int).toNat), V.int 1]) hp4 hd rfl
      refine ⟨_, rfl, p, 4, rfl, hp5, by decide, by decide, fun r2 H5 r20 r21 b5 hp6 => ?_⟩
      obtain ⟨v, e2, v0, v1⟩ := pick4 r20 r21 r10 r11
      refine ⟨d, _, r2, .int v, rfl, rfl, SqL.of (b5 _ _ nd upd_same), e2, ?_⟩
      refine ⟨_, rfl, p, rfl, hp6, fun l L H6 b6 hp7 nl hL lo => ?_⟩
      have s26 : Same H H6 := s2.trans (but_to s3 n3 (((b4.trans (but_same (same_new hd))).trans b5).trans b6))
      have ok : Tbl.Ok v L := ⟨v0, lo.asc, lo.pos⟩
      have hl8 := lo.len
      -- the table
      refine ⟨_, _, rfl, _, rfl, _, rfl, fun t dx nx ndx ne => ?_⟩
      have s0 : Same H6 (upd (upd H6 dx (.own t)) t (.ins a.Table dx [])) := same_upd (same_new ndx) nx
      refine ⟨t, dx, l, v, L, rfl, upd_same, .inl (SqL.of (s0 _ _ hL)), ok, by omega, fun H7 tb kp => ⟨rfl, ?_⟩⟩
      have s7 : Same H6 H7 := fun b o e => kp b o (s0 b o e) (fun q => by rw [q, nx] at e; cases e)
      have s27 : Same H H7 := s26.trans s7
      have hL7 := s7 _ _ hL
      obtain ⟨dt, ft, ht⟩ := id tb.insA
      refine ⟨_, rfl, t, dt, ft, rfl, ht, t, v, L, rfl, tb, _, rfl, t, dt, ft, rfl, ht, t, v, L, rfl, tb, fun q1 hq1 => ⟨_, rfl, t, dt, ft, rfl, ht, t, v, L, rfl, tb, by show 3 ≤ sizeLine; decide, fun p1 hp1 => ?_⟩⟩
      have s8 : Same H7 (upd H7 p1 (.lst [V.int v, V.ref q1, V.int (v - L.length)])) := same_new hp1
      have e3 : v - ((L.map V.int).length : Int) = v - (L.length : Int) := by rw [List.length_map]
      refine ⟨_, rfl, _, rfl, l, _, rfl, .inl ⟨SqL.of (s8 _ _ hL7), fun q2 hq2 => ?_⟩⟩
      have s9 := s8.trans (same_new (o := .tup (L.map V.int)) hq2)
      refine ⟨_, rfl, _, rfl, l, _, rfl, .inl (SqL.of (s9 _ _ hL7)), _, _, rfl, rfl, by show 3 ≤ sizeLine; decide, fun p2 hp2 => ?_⟩
      have s10 := s9.trans (same_new (o := .lst [V.int v, V.ref q2, V.int (v - ((L.map V.int).length : Int))]) hp2)
      have hq1' : SqT K H7 q1 (L.map V.int) := hq1
      have p1at := (same_new (o := .lst [V.int v, V.ref q2, V.int (v - ((L.map V.int).length : Int))]) hp2) _ _ ((same_new (o := .tup (L.map V.int)) hq2) _ _ (upd_same (H := H7) (a := p1) (o := .lst [V.int v, V.ref q1, V.int (v - (L.length : Int))])))
      have q2at := (same_new (o := .lst [V.int v, V.ref q2, V.int (v - ((L.map V.int).length : Int))]) hp2) _ _ (upd_same (H := upd H7 p1 (.lst [V.int v, V.ref q1, V.int (v - (L.length : Int))])) (a := q2) (o := .tup (L.map V.int)))
      refine ⟨.list [.int v, .tuple (L.map PyData.int), .int (v - (L.length : Int))], .list [.int v, .tuple (L.map PyData.int), .int (v - ((L.map V.int).length : Int))], .lst (SqL.of p1at) (.cons (.int v) (.cons (dp_tup (same_seqT s10 hq1')) (.cons (.int _) .nil))),
        .lst (SqL.of upd_same) (.cons (.int v) (.cons (dp_tup (SqT.of q2at)) (.cons (.int _) .nil))), sh_three _ _ _, sh_three _ _ _, _, rfl, iteN (by rw [e3]; exact ne_self (sh_three _ _ _)) ?_⟩
      generalize upd (upd (upd H7 p1 (.lst [V.int v, V.ref q1, V.int (v - (L.length : Int))])) q2 (.tup (L.map V.int))) p2 (.lst [V.int v, V.ref q2, V.int (v - ((L.map V.int).length : Int))]) = H10 at s10
      dsimp only [tNext]
      refine seq_cut (fun H' => Same H10 H') (fun N cont => ?_) (fun H11 s11 => ?_)
      · have tb10 := tb.same s10
        have hL10 := s10 _ _ hL7
        have right : ∀ H', Same H10 H' → (Same H10 H' ∧ TabAt K a.Table H' t v L ∧ H' l = some (.lst (L.map V.int))) := fun H' s' => ⟨s', tb10.same s', s' _ _ hL10⟩
        refine ⟨_, rfl, t, rfl, tb10.insA, t, v, L, rfl, tb10, _, rfl, _, rfl, rfl, _, rfl, ite2 (fun hz => ?_) (fun hz => ?_)⟩
        · have hz' : v = 0 := by simpa using hz
          refine ⟨_, rfl, Nat.zero_le _, fun p3 hp3 => ?_⟩
          obtain ⟨r1, r2, r3⟩ := right _ (same_new (o := .lst []) hp3)
          refine ⟨.list (L.map PyData.int), .list (([] : List Int).map PyData.int), dp_lst (SqL.of r3), dp_lst (L := []) (SqL.of upd_same), shaped_lst _, shaped_lst _, rfl, _, rfl, iteN (by rw [eqv_lsts]; simp [hz']) ?_⟩
          exact ⟨_, rfl, _, rfl, _, rfl, t, v, L, l, rfl, r2, r3, by omega, fun H' s' => ⟨_, rfl, iteN rfl (cont _ (r1.trans s'))⟩⟩
        · have hz' : ¬ v = 0 := by simpa using hz
          refine ⟨rfl, _, rfl, iteN (by simp [hz']) ?_⟩
          exact ⟨_, rfl, _, rfl, _, rfl, t, v, L, l, rfl, tb10, hL10, by omega, fun H' s' => ⟨_, rfl, iteN rfl (cont _ s')⟩⟩
      have s11' : Same H7 H11 := s10.trans s11
      have tb11 := tb.same s11'
      have hL11 := s11' _ _ hL7
      show tSeq _ _ _ _ _
      refine seq_cut2 (fun σ' H' => ∃ o6 o7 o8, σ' = [some (.ref sc), some (.int (0 + (i : Int))), some (.ref p), some (.int v), some (.ref l), some (.ref t), o6, o7, o8] ∧ Same H11 H') (fun N cont => ?_) (fun σ H12 h12 => ?_)
      · refine ⟨_, rfl, _, rfl, l, _, rfl, .inl ⟨SqL.of hL11, fun qa hqa => ?_⟩⟩
        have sA := same_new (o := .tup (L.map V.int)) hqa
        intro t1 da na nda nea
        have s1 := sA.trans (same_upd (o := .ins a.Table da []) (same_new (o := .own t1) nda) na)
        refine ⟨t1, da, qa, v, L, rfl, upd_same, .inr (SqT.of ((same_upd (o := .ins a.Table da []) (same_new (o := .own t1) nda) na) _ _ upd_same)), ok, by omega, fun Ha tba kpa => ⟨rfl, ?_⟩⟩
        have sa : Same H11 Ha := fun b o e => kpa b o (s1 b o e) (fun q => by have := sA b o e; rw [q, na] at this; cases this)
        refine ⟨_, rfl, _, _, rfl, rfl, _, rfl, fun t2 db nb ndb neb => ?_⟩
        have s2' := same_upd (o := .ins a.Table db []) (same_new (o := .own t2) ndb) nb
        refine ⟨t2, db, l, v + 1, L, rfl, upd_same, .inl (SqL.of (s2' _ _ (sa _ _ hL11))), ⟨by omega, ok.asc, ok.pos⟩, by omega, fun Hb tbb kpb => ⟨rfl, ?_⟩⟩
        have sb : Same Ha Hb := fun b o e => kpb b o (s2' b o e) (fun q => by rw [q, nb] at e; cases e)
        refine ⟨_, rfl, _, rfl, _, _, rfl, rfl, ⟨by decide, by decide, by decide⟩, by show 1 ≤ sizeLine; decide, fun pc hpc => ?_⟩
        have sc1 := same_new (o := .lst [V.int (10 ^ (64 : Int).toNat)]) hpc
        refine ⟨l, pc, _, _, rfl, rfl, sc1 _ _ (sb _ _ (sa _ _ hL11)), upd_same, ?_, fun pd hpd => ?_⟩
        · rw [List.length_map]
          exact Nat.le_trans (show L.length + 1 ≤ 100000 by omega) line_ge
        have sd1 := sc1.trans (same_new (o := .lst (L.map V.int ++ [V.int (10 ^ (64 : Int).toNat)])) hpd)
        intro t3 dc nc ndc nec
        have s3' := same_upd (o := .ins a.Table dc []) (same_new (o := .own t3) ndc) nc
        have okd : Tbl.Ok v (L ++ [10 ^ (64 : Int).toNat]) := by
          refine ⟨v0, asc_snoc lo.asc fun y hy => ?_, fun x hx => ?_⟩
          · have := lo.sm y hy
            exact Int.lt_of_le_of_lt this (by decide)
          · rcases List.mem_append.mp hx with hx | hx
            · exact lo.pos x hx
            · rw [List.mem_singleton.mp hx]
              decide
        have emap : L.map V.int ++ [V.int (10 ^ (64 : Int).toNat)] = (L ++ [10 ^ (64 : Int).toNat]).map V.int := by rw [List.map_append]; rfl
        refine ⟨t3, dc, pd, v, L ++ [10 ^ (64 : Int).toNat], rfl, upd_same, .inl (SqL.of (by rw [← emap]; exact s3' _ _ upd_same)), okd, by rw [List.length_append]; show L.length + 1 ≤ 100000; omega, fun Hc tbc kpc => ⟨rfl, ?_⟩⟩
        have sc2 : Same Hb Hc := fun b o e => kpc b o (s3' b o (sd1 b o e)) (fun q => by have := sd1 b o e; rw [q, nc] at this; cases this)
        refine ⟨by show 3 ≤ sizeLine; decide, fun pe hpe => ?_⟩
        have se := same_new (o := .lst [V.ref t1, V.ref t2, V.ref t3]) hpe
        have sall : Same H11 (upd Hc pe (.lst [V.ref t1, V.ref t2, V.ref t3])) := ((sa.trans sb).trans sc2).trans se
        have u1 : ∀ x ∈ [V.ref t1, V.ref t2, V.ref t3], ∃ t' s' L', x = V.ref t' ∧ TabAt K a.Table (upd Hc pe (.lst [V.ref t1, V.ref t2, V.ref t3])) t' s' L' := by
          intro x hx
          simp only [List.mem_cons, List.not_mem_nil, or_false] at hx
          rcases hx with rfl | rfl | rfl
          · exact ⟨_, _, _, rfl, ((tba.same sb).same sc2).same se⟩
          · exact ⟨_, _, _, rfl, (tbb.same sc2).same se⟩
          · exact ⟨_, _, _, rfl, tbc.same se⟩
        have hpeL : (upd Hc pe (.lst [V.ref t1, V.ref t2, V.ref t3])) pe = some (.lst [V.ref t1, V.ref t2, V.ref t3]) := upd_same
        generalize upd Hc pe (.lst [V.ref t1, V.ref t2, V.ref t3]) = He at sall u1 hpeL
        generalize [V.ref t1, V.ref t2, V.ref t3] = ts at u1 hpeL
        refine ⟨pe, rfl, ⟨_, SqL.of hpeL⟩, for_list (K := K) (a := pe) (xs := ts) (fun _ σ H' => ∃ o6 o7 o8, σ = [some (.ref sc), some (.int (0 + (i : Int))), some (.ref p), some (.int v), some (.ref l), some (.ref t), o6, o7, o8] ∧ Same He H') ⟨_, _, _, rfl, Same.refl _⟩ (fun _ σ H' _ ⟨_, _, _, _, s⟩ => s.seq (SqL.of hpeL)) ?_ ?_⟩
        · rintro j x σ Hx hx ⟨o6, o7, o8, rfl, sx⟩
          obtain ⟨t', s', L', rfl, tb'0⟩ := u1 x (List.mem_of_getElem? hx)
          have tb' := tb'0.same sx
          have tbx := tb11.same (sall.trans sx)
          have hLx := (sall.trans sx) _ _ hL11
          obtain ⟨dt', ft', ht'⟩ := id tb'.insA
          show tSeq _ _ _ _ _
          refine seq_cut2 (fun σ' H' => σ' = [some (.ref sc), some (.int (0 + (i : Int))), some (.ref p), some (.int v), some (.ref l), some (.ref t), some (.ref t'), some (.bl (decide (v = s' ∧ L = L'))), o8] ∧ Same Hx H') (fun N2 cont2 => ?_) (fun σ2 Hy hy => ?_)
          · refine ⟨_, rfl, t', dt', ft', rfl, ht', t', s', L', rfl, tb', _, rfl, rfl, _, rfl, ite2 (fun hz => ?_) (fun hz => ?_)⟩
            · have hz' : s' = v := by simpa using hz
              refine ⟨_, rfl, t', dt', ft', rfl, ht', t', s', L', rfl, tb', fun q hq => ⟨_, rfl, l, _, rfl, .inl ⟨SqL.of hLx, fun q2 hq2 => ?_⟩⟩⟩
              have sq := same_new (o := .tup (L.map V.int)) hq2
              refine ⟨.tuple (L'.map PyData.int), .tuple (L.map PyData.int), dp_tup (same_seqT sq hq), dp_tup (SqT.of upd_same), shaped_tup _, shaped_tup _, ?_⟩
              refine cont2 _ _ ⟨?_, sq⟩
              rw [eqv_tups]
              have : decide (L' = L) = decide (v = s' ∧ L = L') := by simp [hz', eq_comm]
              rw [this]
              rfl
            · have hz' : ¬ s' = v := by simpa using hz
              refine cont2 _ _ ⟨?_, Same.refl _⟩
              have : decide (v = s' ∧ L = L') = false := by simp [Ne.symm hz']
              rw [this]
              rfl
          · obtain ⟨rfl, sy⟩ := hy
            have tby := tbx.same sy
            have tb'y := tb'.same sy
            refine ⟨_, rfl, _, rfl, t, t', rfl, rfl, tby.insA, tb'y.insA, t, t', v, L, s', L', rfl, tby, tb'y, _, rfl, rfl, _, rfl, iteN (by simp) ?_⟩
            refine ⟨_, rfl, _, rfl, t, t', rfl, rfl, tby.insA, tb'y.insA, t, t', v, L, s', L', rfl, tby, tb'y, _, rfl, _, rfl, rfl, _, rfl, iteN (by cases decide (v = s' ∧ L = L') <;> rfl) ?_⟩
            exact ⟨_, _, _, rfl, sx.trans sy⟩
        · rintro σ Hx ⟨o6, o7, o8, rfl, sx⟩
          exact cont _ _ ⟨_, _, _, rfl, sall.trans sx⟩
      obtain ⟨o6, o7, o8', rfl, s12⟩ := h12
      have s12' : Same H7 H12 := s11'.trans s12
      have tb12 := tb.same s12'
      have hL12 := s12' _ _ hL7
      show tSeq _ _ _ _ _
      refine seq_cut2 (fun σ' H' => ∃ o8, σ' = [some (.ref sc), some (.int (0 + (i : Int))), some (.ref p), some (.int v), some (.ref l), some (.ref t), o6, o7, o8] ∧ Same H12 H') (fun N cont => ?_) (fun σ H13 h13 => ?_)
      · refine ⟨_, rfl, by show 1 ≤ sizeLine; decide, fun z0 hz0 => ⟨by show 5 ≤ sizeLine; decide, fun pl hpl => ?_⟩⟩
        have s1 := (same_new (o := .lst [V.int 0]) hz0).trans (same_new (o := .lst [V.int (-1), V.bl true, V.non, V.str "0", V.ref z0]) hpl)
        have hz1 := (same_new (o := .lst [V.int (-1), V.bl true, V.non, V.str "0", V.ref z0]) hpl) _ _ (upd_same (H := H12) (a := z0) (o := .lst [V.int 0]))
        have hpl1 : (upd (upd H12 z0 (.lst [V.int 0])) pl (.lst [V.int (-1), V.bl true, V.non, V.str "0", V.ref z0])) pl = some (.lst [V.int (-1), V.bl true, V.non, V.str "0", V.ref z0]) := upd_same
        have odds : ∀ x ∈ [V.int (-1), V.bl true, V.non, V.str "0", V.ref z0], ∃ d, OddV K (upd (upd H12 z0 (.lst [V.int 0])) pl (.lst [V.int (-1), V.bl true, V.non, V.str "0", V.ref z0])) x d := by
          intro x hx
          simp only [List.mem_cons, List.not_mem_nil, or_false] at hx
          rcases hx with rfl | rfl | rfl | rfl | rfl
          · exact ⟨.int (-1), ⟨"int", .int _, by decide +kernel⟩, rfl, .int _, rfl, by decide +kernel, by decide +kernel, by decide +kernel, by decide +kernel⟩
          · exact ⟨.bool true, ⟨"bool", .bl _, by decide +kernel⟩, rfl, .bl _, rfl, by decide +kernel, by decide +kernel, by decide +kernel, by decide +kernel⟩
          · exact ⟨.none, ⟨"NoneType", .non, by decide +kernel⟩, rfl, .non, rfl, by decide +kernel, by decide +kernel, by decide +kernel, by decide +kernel⟩
          · exact ⟨.str "0", ⟨"str", .str _, by decide +kernel⟩, rfl, .str _, rfl, by decide +kernel, by decide +kernel, by decide +kernel, by decide +kernel⟩
          · exact ⟨.list [.int 0], ⟨"list", .lst (SqL.of hz1), by decide +kernel⟩, rfl, dp_lst (L := [0]) (SqL.of hz1), rfl, by decide +kernel, by decide +kernel, by decide +kernel, by decide +kernel⟩
        generalize upd (upd H12 z0 (.lst [V.int 0])) pl (.lst [V.int (-1), V.bl true, V.non, V.str "0", V.ref z0]) = Hl at s1 hpl1 odds
        generalize [V.int (-1), V.bl true, V.non, V.str "0", V.ref z0] = xs at hpl1 odds
        refine ⟨pl, rfl, ⟨_, SqL.of hpl1⟩, for_list (K := K) (a := pl) (xs := xs) (fun _ σ H' => ∃ o8, σ = [some (.ref sc), some (.int (0 + (i : Int))), some (.ref p), some (.int v), some (.ref l), some (.ref t), o6, o7, o8] ∧ Same Hl H') ⟨_, rfl, Same.refl _⟩ (fun _ σ H' _ ⟨_, _, s⟩ => s.seq (SqL.of hpl1)) ?_ ?_⟩
        · rintro j x σ Hx hx ⟨o8, rfl, sx⟩
          obtain ⟨dx, od0⟩ := odds x (List.mem_of_getElem? hx)
          have od := od0.same sx
          have tbx := tb12.same (s1.trans sx)
          have hLx := (s1.trans sx) _ _ hL12
          obtain ⟨okp, txp, ndp⟩ := od.pair lo
          show tSeq _ _ _ _ _
          refine seq_cut (fun H' => Same Hx H') (fun N2 cont2 => ?_) (fun Hy sy => ?_)
          · have rdp : ∀ q H', Same Hx H' → H' q = some (.tup [x, .ref l]) → Rd K H' (.ref q) (.tuple [dx, .list (L.map PyData.int)]) := fun q H' s' hq =>
              .inl ⟨.tup (SqT.of hq) (.cons (dp_same s' _ _ od.dp) (.cons (dp_lst (SqL.of (s' _ _ hLx))) .nil)), ndp⟩
            refine ⟨_, rfl, _, rfl, 0, x, .ref l, rfl, .inr (.inl ⟨rfl, _, okp, od.kv, .inl od.cn, rdp, fun r Ha sa nr hr => ?_⟩)⟩
            refine ⟨_, rfl, _, rfl, by show 2 ≤ sizeLine; decide, fun q hq => ?_⟩
            have sq := same_new (o := .tup [x, V.ref l]) hq
            refine ⟨_, _, rfl, rdp q _ (sa.trans sq) upd_same, okp.pl, okp.dp, okp.sz, by show 3 ≤ sizeLine; decide, fun p2 hp2 => ?_⟩
            have sp2 := same_new (o := .lst [V.str "invalid", V.str (PyData.tuple [dx, .list (L.map PyData.int)]).shown, V.bl true]) hp2
            refine ⟨_, _, dp_told (sp2 _ _ (sq _ _ hr)), dp_told upd_same, sh_told (ok_of _) (ok_shown _ txp) true, sh_told (ok_of _) (ok_shown _ txp) true, _, rfl, iteN (ne_self (sh_told (ok_of _) (ok_shown _ txp) true)) ?_⟩
            exact cont2 _ ((sa.trans sq).trans sp2)
          · have ody := od.same sy
            have tby := tbx.same sy
            refine ⟨_, rfl, _, rfl, 1, .ref t, x, rfl, .inr (.inr ⟨.inl rfl, t, v, L, dx, rfl, tby, ody.ok, ody.kv, ody.cn, .inl ⟨ody.dp, ody.nd⟩, fun r1 Ha sa n1 h1 => ?_⟩)⟩
            have oda := ody.same sa
            refine ⟨_, rfl, _, rfl, 2, .ref t, x, rfl, .inr (.inr ⟨.inr rfl, t, v, L, dx, rfl, tby.same sa, oda.ok, oda.kv, oda.cn, .inl ⟨oda.dp, oda.nd⟩, fun r2 Hb sb n2 h2 => ?_⟩)⟩
            have odb := oda.same sb
            refine ⟨by show 2 ≤ sizeLine; decide, fun p1 hp1 => ?_⟩
            have sp1 := same_new (o := .lst [V.ref r1, V.ref r2]) hp1
            refine ⟨_, rfl, _, _, rfl, .inl ⟨(odb.same sp1).dp, od.nd⟩, od.pl, od.ok.dp, od.ok.sz, by show 3 ≤ sizeLine; decide, fun p2 hp2 => ?_⟩
            have sp2 := same_new (o := .lst [V.str "number", V.str dx.shown, V.bl true]) hp2
            refine ⟨by show 1 ≤ sizeLine; decide, fun p3 hp3 => ?_⟩
            have sp3 := same_new (o := .lst [V.ref p2]) hp3
            refine ⟨p3, 2, _, rfl, rfl, upd_same, by decide, by decide, by show 1 * 2 ≤ sizeLine; decide, fun p4 hp4 => ?_⟩
            have sp4 := same_new (o := .lst [V.ref p2, V.ref p2]) hp4
            have s34 := sp3.trans sp4
            have s24 := sp2.trans s34
            have s14 := sp1.trans s24
            have e1 := dp_told (K := K) (s14 _ _ (sb _ _ h1))
            have e2 := dp_told (K := K) (s14 _ _ h2)
            have e3 := dp_told (K := K) (s34 _ _ (upd_same (H := upd Hb p1 (.lst [V.ref r1, V.ref r2])) (a := p2) (o := .lst [V.str "number", V.str dx.shown, V.bl true])))
            have tx := ok_shown dx od.tx
            refine ⟨.list [_, _], .list [_, _], .lst (SqL.of (s24 _ _ (upd_same (H := Hb) (a := p1) (o := .lst [V.ref r1, V.ref r2])))) (.cons e1 (.cons e2 .nil)), .lst (SqL.of upd_same) (.cons e3 (.cons e3 .nil)), sh_pair (ok_of _) tx true, sh_pair (ok_of _) tx true, _, rfl, iteN (ne_self (sh_pair (ok_of _) tx true)) ?_⟩
            exact ⟨_, rfl, (sx.trans sy).trans ((sa.trans sb).trans s14)⟩
        · rintro σ Hx ⟨o8, rfl, sx⟩
          exact cont _ _ ⟨_, rfl, s1.trans sx⟩
      obtain ⟨o8'', rfl, s13⟩ := h13
      have s13' : Same H7 H13 := s12'.trans s13
      have tb13 := tb.same s13'
      have hL13 := s13' _ _ hL7
      show tSeq _ _ _ _ _
      refine seq_cut2 (fun σ' H' => ∃ o8, σ' = [some (.ref sc), some (.int (0 + (i : Int))), some (.ref p), some (.int v), some (.ref l), some (.ref t), o6, o7, o8] ∧ Same H13 H') (fun N cont => ?_) (fun σ H14 h14 => ?_)
      · refine ⟨by show 1 ≤ sizeLine; decide, fun z1 h1 => ⟨_, rfl, by show 1 ≤ sizeLine; decide, fun z2 h2 => ⟨by show 2 ≤ sizeLine; decide, fun z3 h3 => ⟨by show 2 ≤ sizeLine; decide, fun z4 h4 => ⟨by show 1 ≤ sizeLine; decide, fun z5 h5 => ⟨by show 2 ≤ sizeLine; decide, fun z6 h6 => ?_⟩⟩⟩⟩⟩⟩
        refine fun z7 h7 => ⟨by show 3 ≤ sizeLine; decide, fun z8 h8 => ⟨by show 11 ≤ sizeLine; decide, fun pl hpl => ?_⟩⟩
        have e1 := same_new (o := .lst [V.int 0]) h1
        have e2 := same_new (o := .lst [V.int (-1)]) h2
        have e3 := same_new (o := .lst [V.int 2, V.int 2]) h3
        have e4 := same_new (o := .lst [V.int 3, V.int 2]) h4
        have e5 := same_new (o := .lst [V.bl true]) h5
        have e6 := same_new (o := .lst [V.int 1, V.non]) h6
        have e7 := same_new (o := .dK []) h7
        have e8 := same_new (o := .tup [V.int 1, V.int 3, V.int 2]) h8
        have e9 := same_new (o := .lst [V.non, V.str "1", V.int 5, V.ref z1, V.ref z2, V.ref z3, V.ref z4, V.ref z5, V.ref z6, V.ref z7, V.ref z8]) hpl
        have f8 := e9 _ _ upd_same
        have f7 := e9 _ _ (e8 _ _ upd_same)
        have f6 := e9 _ _ (e8 _ _ (e7 _ _ upd_same))
        have f5 := e9 _ _ (e8 _ _ (e7 _ _ (e6 _ _ upd_same)))
        have f4 := e9 _ _ (e8 _ _ (e7 _ _ (e6 _ _ (e5 _ _ upd_same))))
        have f3 := e9 _ _ (e8 _ _ (e7 _ _ (e6 _ _ (e5 _ _ (e4 _ _ upd_same)))))
        have f2 := e9 _ _ (e8 _ _ (e7 _ _ (e6 _ _ (e5 _ _ (e4 _ _ (e3 _ _ upd_same))))))
        have f1 := e9 _ _ (e8 _ _ (e7 _ _ (e6 _ _ (e5 _ _ (e4 _ _ (e3 _ _ (e2 _ _ upd_same)))))))
        have s1 := (((((((e1.trans e2).trans e3).trans e4).trans e5).trans e6).trans e7).trans e8).trans e9
        have hpl1 := @upd_same (upd (upd (upd (upd (upd (upd (upd (upd H13 z1 (.lst [V.int 0])) z2 (.lst [V.int (-1)])) z3 (.lst [V.int 2, V.int 2])) z4 (.lst [V.int 3, V.int 2])) z5 (.lst [V.bl true])) z6 (.lst [V.int 1, V.non])) z7 (.dK [])) z8 (.tup [V.int 1, V.int 3, V.int 2])) pl (.lst [V.non, V.str "1", V.int 5, V.ref z1, V.ref z2, V.ref z3, V.ref z4, V.ref z5, V.ref z6, V.ref z7, V.ref z8])
        generalize upd (upd (upd (upd (upd (upd (upd (upd (upd H13 z1 (.lst [V.int 0])) z2 (.lst [V.int (-1)])) z3 (.lst [V.int 2, V.int 2])) z4 (.lst [V.int 3, V.int 2])) z5 (.lst [V.bl true])) z6 (.lst [V.int 1, V.non])) z7 (.dK [])) z8 (.tup [V.int 1, V.int 3, V.int 2])) pl (.lst [V.non, V.str "1", V.int 5, V.ref z1, V.ref z2, V.ref z3, V.ref z4, V.ref z5, V.ref z6, V.ref z7, V.ref z8]) = Hl at s1 hpl1 f1 f2 f3 f4 f5 f6 f7 f8
        have odds : ∀ x ∈ [V.non, V.str "1", V.int 5, V.ref z1, V.ref z2, V.ref z3, V.ref z4, V.ref z5, V.ref z6, V.ref z7, V.ref z8], ∃ d, OddL K Hl x d := by
          intro x hx
          simp only [List.mem_cons, List.not_mem_nil, or_false] at hx
          rcases hx with rfl | rfl | rfl | rfl | rfl | rfl | rfl | rfl | rfl | rfl | rfl
          · exact ⟨.none, .inr ⟨"NoneType", .non, by decide +kernel, by decide, by decide⟩, .inl ⟨.non, rfl⟩, by decide +kernel, by decide +kernel, by decide +kernel, by decide +kernel⟩
          · exact ⟨.str "1", .inr ⟨"str", .str _, by decide +kernel, by decide, by decide⟩, .inl ⟨.str _, rfl⟩, by decide +kernel, by decide +kernel, by decide +kernel, by decide +kernel⟩
          · exact ⟨.int 5, .inr ⟨"int", .int _, by decide +kernel, by decide, by decide⟩, .inl ⟨.int _, rfl⟩, by decide +kernel, by decide +kernel, by decide +kernel, by decide +kernel⟩
          · exact ⟨.list [.int 0], od_l _ f1 (by simp [kv_int]) (by decide) (by decide +kernel), .inl ⟨dp_lst (L := [0]) (SqL.of f1), rfl⟩, by decide +kernel, by decide +kernel, by decide +kernel, by decide +kernel⟩
          · exact ⟨.list [.int (-1)], od_l _ f2 (by simp [kv_int]) (by decide) (by decide +kernel), .inl ⟨dp_lst (L := [-1]) (SqL.of f2), rfl⟩, by decide +kernel, by decide +kernel, by decide +kernel, by decide +kernel⟩
          · exact ⟨.list [.int 2, .int 2], od_l _ f3 (by simp [kv_int]) (by decide) (by decide +kernel), .inl ⟨dp_lst (L := [2, 2]) (SqL.of f3), rfl⟩, by decide +kernel, by decide +kernel, by decide +kernel, by decide +kernel⟩
          · exact ⟨.list [.int 3, .int 2], od_l _ f4 (by simp [kv_int]) (by decide) (by decide +kernel), .inl ⟨dp_lst (L := [3, 2]) (SqL.of f4), rfl⟩, by decide +kernel, by decide +kernel, by decide +kernel, by decide +kernel⟩
          · exact ⟨.list [.bool true], od_l _ f5 (by simp [kv_bl]) (by decide) (by decide +kernel), .inl ⟨.lst (SqL.of f5) (.cons (.bl true) .nil), rfl⟩, by decide +kernel, by decide +kernel, by decide +kernel, by decide +kernel⟩
          · exact ⟨.list [.int 1, .none], od_l _ f6 (by simp [kv_int, kv_non]) (by decide) (by decide +kernel), .inl ⟨.lst (SqL.of f6) (.cons (.int 1) (.cons .non .nil)), rfl⟩, by decide +kernel, by decide +kernel, by decide +kernel, by decide +kernel⟩
          · exact ⟨.dict [], .inr ⟨"dict", .dK f7, by decide +kernel, by decide, by decide⟩, .inr ⟨z7, rfl, f7, rfl⟩, by decide +kernel, by decide +kernel, by decide +kernel, by decide +kernel⟩
          · exact ⟨.tuple [.int 1, .int 3, .int 2], .inl ⟨[V.int 1, V.int 3, V.int 2], ⟨z8, rfl, .inr (SqT.of f8), by simp [kv_int], by decide⟩, by decide +kernel⟩, .inl ⟨dp_tup (L := [1, 3, 2]) (SqT.of f8), rfl⟩, by decide +kernel, by decide +kernel, by decide +kernel, by decide +kernel⟩
        generalize [V.non, V.str "1", V.int 5, V.ref z1, V.ref z2, V.ref z3, V.ref z4, V.ref z5, V.ref z6, V.ref z7, V.ref z8] = xs at hpl1 odds
        refine ⟨pl, rfl, ⟨_, SqL.of hpl1⟩, for_list (K := K) (a := pl) (xs := xs) (fun _ σ H' => ∃ o8, σ = [some (.ref sc), some (.int (0 + (i : Int))), some (.ref p), some (.int v), some (.ref l), some (.ref t), o6, o7, o8] ∧ Same Hl H') ⟨_, rfl, Same.refl _⟩ (fun _ σ H' _ ⟨_, _, s⟩ => s.seq (SqL.of hpl1)) ?_ ?_⟩
        · rintro j x σ Hx hx ⟨o8, rfl, sx⟩
          obtain ⟨dx, od0⟩ := odds x (List.mem_of_getElem? hx)
          have od := od0.same sx
          obtain ⟨okp, txp⟩ := od.pair (v_small v0 v1)
          refine ⟨_, rfl, _, rfl, 0, .int v, x, rfl, .inr (.inl ⟨rfl, _, okp, kv_int v, .inr ⟨decide_eq_true v0, od.bad⟩, fun q H' s' hq => od.rd s' hq, fun r Ha sa nr hr => ?_⟩)⟩
          refine ⟨_, rfl, _, rfl, by show 2 ≤ sizeLine; decide, fun q hq => ?_⟩
          have sq := same_new (o := .tup [V.int v, x]) hq
          refine ⟨_, _, rfl, od.rd (sa.trans sq) upd_same, okp.pl, okp.dp, okp.sz, by show 3 ≤ sizeLine; decide, fun p2 hp2 => ?_⟩
          have sp2 := same_new (o := .lst [V.str "invalid", V.str (PyData.tuple [.int v, dx]).shown, V.bl true]) hp2
          refine ⟨_, _, dp_told (sp2 _ _ (sq _ _ hr)), dp_told upd_same, sh_told (ok_of _) (ok_shown _ txp) true, sh_told (ok_of _) (ok_shown _ txp) true, _, rfl, iteN (ne_self (sh_told (ok_of _) (ok_shown _ txp) true)) ?_⟩
          exact ⟨_, rfl, sx.trans ((sa.trans sq).trans sp2)⟩
        · rintro σ Hx ⟨o8, rfl, sx⟩
          exact cont _ _ ⟨_, rfl, s1.trans sx⟩
      obtain ⟨o8'', rfl, s14⟩ := h14
      have s14' : Same H7 H14 := s13'.trans s14
      have tb14 := tb.same s14'
      have hL14 := s14' _ _ hL7
      -- compared with things of other kinds
      refine ⟨_, rfl, _, rfl, _, rfl, by show 2 ≤ sizeLine; decide, fun q hq => ?_⟩
      have sq := same_new (o := .tup [V.int v, V.ref l]) hq
      refine ⟨t, .type "tuple", rfl, (tb14.same sq).insA, .base (.tup upd_same), by simp [PySem.W.notFirst, T.st_t], t, .ref q, .type "tuple", rfl, .base (.tup upd_same), T.kt_t, _, rfl, iteN rfl ?_⟩
      refine ⟨_, rfl, t, .type "NoneType", rfl, (tb14.same sq).insA, .base .non, by simp [PySem.W.notFirst, T.st_n], t, .non, .type "NoneType", rfl, .base .non, T.kt_n, _, rfl, iteN rfl ?_⟩
      have hL15 := sq _ _ hL14
      refine ⟨_, rfl, _, rfl, 0, .int v, .ref l, rfl, .inl ⟨rfl, v, l, L, rfl, rfl, .inl (SqL.of hL15), ok, by omega, fun r q2 H16 s16 nr hr hq2 => ?_⟩⟩
      refine ⟨_, rfl, _, rfl, l, _, rfl, .inl ⟨SqL.of (s16 _ _ hL15), fun q3 hq3 => ?_⟩⟩
      have s17 := same_new (o := .tup (L.map V.int)) hq3
      refine ⟨by show 3 ≤ sizeLine; decide, fun p2 hp2 => ?_⟩
      have s18 := same_new (o := .lst [V.str "table", V.int v, V.ref q3]) hp2
      refine ⟨.list [.str "table", .int v, .tuple (L.map PyData.int)], .list [.str "table", .int v, .tuple (L.map PyData.int)], .lst (SqL.of (s18 _ _ (s17 _ _ hr))) (.cons (.str _) (.cons (.int v) (.cons (dp_tup (same_seqT (s17.trans s18) hq2)) .nil))),
        .lst (SqL.of upd_same) (.cons (.str _) (.cons (.int v) (.cons (dp_tup (SqT.of (s18 _ _ upd_same))) .nil))), sh_tab _ (ok_of _) _ _, sh_tab _ (ok_of _) _ _, _, rfl, iteN (ne_self (sh_tab _ (ok_of _) _ _)) ?_⟩
      exact ⟨_, _, _, _, _, _, _, _, rfl, s27.trans (s14'.trans (((sq.trans s16).trans s17).trans s18))⟩
    · rintro σ H2 ⟨o1, o2, o3, o4, o5, o6, o7, o8, rfl, s2⟩
      refine ⟨Nat.zero_le _, fun p hp => fun x dx nx ndx ne => ?_⟩
      refine ⟨x, dx, p, 0, [], rfl, upd_same, .inr (SqT.of ((same_upd (o := .ins a.Table dx []) (same_new (o := .own x) ndx) nx) _ _ upd_same)), ⟨by decide, List.Pairwise.nil, fun y hy => by cases hy⟩, by decide, fun H3 tb kp => ⟨rfl, ?_⟩⟩
      refine ⟨x, rfl, tb.insA, x, 0, [], rfl, tb, _, rfl, _, _, rfl, rfl, _, rfl, iteH (by decide) ?_⟩
      refine ⟨_, _, rfl, rfl, ⟨by decide, by decide, by decide⟩, by show 1 ≤ sizeLine; decide, fun p2 hp2 => fun x2 dx2 nx2 ndx2 ne2 => ?_⟩
      refine ⟨x2, dx2, p2, 0, [10 ^ (50 : Int).toNat], rfl, upd_same, .inl (SqL.of ((same_upd (o := .ins a.Table dx2 []) (same_new (o := .own x2) ndx2) nx2) _ _ upd_same)), ⟨by decide, by simp [Tbl.Asc], fun y hy => by rw [List.mem_singleton.mp hy]; decide⟩, by decide, fun H4 tb2 kp2 => ⟨rfl, ?_⟩⟩
      refine ⟨x2, rfl, tb2.insA, x2, 0, _, rfl, tb2, _, rfl, _, _, rfl, rfl, k _⟩
end
end K05
namespace K05
open PySem L2 XT
section
variable {P : Program} {w : World} {K : PySem.W.Frag} {mg : Str → Option Value} {base : Heap} {a : Ads}

theorem kit_self {a : Addr} : PySem.W.kitOne K (.ref a) (.ref a) = some true := by simp [PySem.W.kitOne]
theorem exm_of {D C : Addr} {b : Bool} (h1 : PySem.W.subIn K (.ref C) (.type "BaseException") = some true) (h2 : PySem.W.isClsIn K C = true) (h3 : PySem.W.typeIn K (.ref C) = some (.type "type")) (h4 : PySem.W.subIn K (.ref D) (.ref C) = some b) : PySem.W.exmOne K (.ref D) (.ref C) = some b := by
  have h2' : (PySem.W.clsIn K C).isSome = true := h2
  simp [PySem.W.exmOne, PySem.W.kitCls, h1, h2', h3, h4]
theorem all_mk {l : PySem.W.OpenLaw} {h : Heap} {fa : Addr} (X : K.In h) (G : h.Ns mainGlobals mg) (hfa : mg "law" = some (.ref fa)) {is_integer is_count is_rank is_number_list is_ascending is_rank_list InvalidTable___init__ InvalidNumber___init__ how_many_up_to mapped kept_rank Table___init__ Table_start Table_lost Table_growth Table_least Table___call__ Table___eq__ Table___bool__ law_pool law_take law_lost law_caught law_counts_right law InvalidTable RankError InvalidNumber Table P_start P_lost P_growth : Addr} {rest_start rest_lost rest_growth : List Value}
    {nm_InvalidTable q_InvalidTable : Str} {N_InvalidTable : Addr} {bs_InvalidTable : List Value} {sn_InvalidTable : List Str} {sub_InvalidTable : List Value} {ab_InvalidTable : Bool} {col_InvalidTable : Option Bool} {dd_InvalidTable : Option Addr} {e0_InvalidTable e1_InvalidTable e2_InvalidTable e3_InvalidTable e5_InvalidTable : Option Value}
    {nm_InvalidNumber q_InvalidNumber : Str} {N_InvalidNumber : Addr} {bs_InvalidNumber : List Value} {sn_InvalidNumber : List Str} {sub_InvalidNumber : List Value} {ab_InvalidNumber : Bool} {col_InvalidNumber : Option Bool} {dd_InvalidNumber : Option Addr} {e0_InvalidNumber e1_InvalidNumber e2_InvalidNumber e3_InvalidNumber e5_InvalidNumber : Option Value}
    {oc_is_integer kV_is_integer dc_is_integer pm_is_integer cd_is_integer ct_is_integer : Value} {od_is_integer an_is_integer : Option Addr} {sl_is_integer : Array (Option Value)}
    {oc_is_count kV_is_count dc_is_count pm_is_count cd_is_count ct_is_count : Value} {od_is_count an_is_count : Option Addr} {sl_is_count : Array (Option Value)}
    {oc_is_rank kV_is_rank dc_is_rank pm_is_rank cd_is_rank ct_is_rank : Value} {od_is_rank an_is_rank : Option Addr} {sl_is_rank : Array (Option Value)}
    {oc_is_number_list kV_is_number_list dc_is_number_list pm_is_number_list cd_is_number_list ct_is_number_list : Value} {od_is_number_list an_is_number_list : Option Addr} {sl_is_number_list : Array (Option Value)}
    {oc_is_ascending kV_is_ascending dc_is_ascending pm_is_ascending cd_is_ascending ct_is_ascending : Value} {od_is_ascending an_is_ascending : Option Addr} {sl_is_ascending : Array (Option Value)}
    {oc_is_rank_list kV_is_rank_list dc_is_rank_list pm_is_rank_list cd_is_rank_list ct_is_rank_list : Value} {od_is_rank_list an_is_rank_list : Option Addr} {sl_is_rank_list : Array (Option Value)}
    {oc_InvalidTable___init__ kV_InvalidTable___init__ dc_InvalidTable___init__ pm_InvalidTable___init__ cd_InvalidTable___init__ ct_InvalidTable___init__ : Value} {od_InvalidTable___init__ an_InvalidTable___init__ : Option Addr} {sl_InvalidTable___init__ : Array (Option Value)}
    {oc_InvalidNumber___init__ kV_InvalidNumber___init__ dc_InvalidNumber___init__ pm_InvalidNumber___init__ cd_InvalidNumber___init__ ct_InvalidNumber___init__ : Value} {od_InvalidNumber___init__ an_InvalidNumber___init__ : Option Addr} {sl_InvalidNumber___init__ : Array (Option Value)}
    {oc_how_many_up_to kV_how_many_up_to dc_how_many_up_to pm_how_many_up_to cd_how_many_up_to ct_how_many_up_to : Value} {od_how_many_up_to an_how_many_up_to : Option Addr} {sl_how_many_up_to : Array (Option Value)}
    {oc_mapped kV_mapped dc_mapped pm_mapped cd_mapped ct_mapped : Value} {od_mapped an_mapped : Option Addr} {sl_mapped : Array (Option Value)}
    {oc_kept_rank kV_kept_rank dc_kept_rank pm_kept_rank cd_kept_rank ct_kept_rank : Value} {od_kept_rank an_kept_rank : Option Addr} {sl_kept_rank : Array (Option Value)}
    {oc_Table___init__ kV_Table___init__ dc_Table___init__ pm_Table___init__ cd_Table___init__ ct_Table___init__ : Value} {od_Table___init__ an_Table___init__ : Option Addr} {sl_Table___init__ : Array (Option Value)}
    {oc_Table_start kV_Table_start dc_Table_start pm_Table_start cd_Table_start ct_Table_start : Value} {od_Table_start an_Table_start : Option Addr} {sl_Table_start : Array (Option Value)}
    {oc_Table_lost kV_Table_lost dc_Table_lost pm_Table_lost cd_Table_lost ct_Table_lost : Value} {od_Table_lost an_Table_lost : Option Addr} {sl_Table_lost : Array (Option Value)}
    {oc_Table_growth kV_Table_growth dc_Table_growth pm_Table_growth cd_Table_growth ct_Table_growth : Value} {od_Table_growth an_Table_growth : Option Addr} {sl_Table_growth : Array (Option Value)}
    {oc_Table_least kV_Table_least dc_Table_least pm_Table_least cd_Table_least ct_Table_least : Value} {od_Table_least an_Table_least : Option Addr} {sl_Table_least : Array (Option Value)}
    {oc_Table___call__ kV_Table___call__ dc_Table___call__ pm_Table___call__ cd_Table___call__ ct_Table___call__ : Value} {od_Table___call__ an_Table___call__ : Option Addr} {sl_Table___call__ : Array (Option Value)}
    {oc_Table___eq__ kV_Table___eq__ dc_Table___eq__ pm_Table___eq__ cd_Table___eq__ ct_Table___eq__ : Value} {od_Table___eq__ an_Table___eq__ : Option Addr} {sl_Table___eq__ : Array (Option Value)}
    {oc_Table___bool__ kV_Table___bool__ dc_Table___bool__ pm_Table___bool__ cd_Table___bool__ ct_Table___bool__ : Value} {od_Table___bool__ an_Table___bool__ : Option Addr} {sl_Table___bool__ : Array (Option Value)}
    {oc_law_pool kV_law_pool dc_law_pool pm_law_pool cd_law_pool ct_law_pool : Value} {od_law_pool an_law_pool : Option Addr} {sl_law_pool : Array (Option Value)}
    {oc_law_take kV_law_take dc_law_take pm_law_take cd_law_take ct_law_take : Value} {od_law_take an_law_take : Option Addr} {sl_law_take : Array (Option Value)}
    {oc_law_lost kV_law_lost dc_law_lost pm_law_lost cd_law_lost ct_law_lost : Value} {od_law_lost an_law_lost : Option Addr} {sl_law_lost : Array (Option Value)}
    {oc_law_caught kV_law_caught dc_law_caught pm_law_caught cd_law_caught ct_law_caught : Value} {od_law_caught an_law_caught : Option Addr} {sl_law_caught : Array (Option Value)}
    {oc_law_counts_right kV_law_counts_right dc_law_counts_right pm_law_counts_right cd_law_counts_right ct_law_counts_right : Value} {od_law_counts_right an_law_counts_right : Option Addr} {sl_law_counts_right : Array (Option Value)}
    {oc_law kV_law dc_law pm_law cd_law ct_law : Value} {od_law an_law : Option Addr} {sl_law : Array (Option Value)}
    (a_is_integer : PySem.W.nsIn K mainGlobals "is_integer" = some (some (.ref is_integer)))
    (a_is_count : PySem.W.nsIn K mainGlobals "is_count" = some (some (.ref is_count)))
    (a_is_rank : PySem.W.nsIn K mainGlobals "is_rank" = some (some (.ref is_rank)))
    (a_is_number_list : PySem.W.nsIn K mainGlobals "is_number_list" = some (some (.ref is_number_list)))
    (a_is_ascending : PySem.W.nsIn K mainGlobals "is_ascending" = some (some (.ref is_ascending)))
    (a_is_rank_list : PySem.W.nsIn K mainGlobals "is_rank_list" = some (some (.ref is_rank_list)))
    (a_how_many_up_to : PySem.W.nsIn K mainGlobals "how_many_up_to" = some (some (.ref how_many_up_to)))
    (a_mapped : PySem.W.nsIn K mainGlobals "mapped" = some (some (.ref mapped)))
    (a_kept_rank : PySem.W.nsIn K mainGlobals "kept_rank" = some (some (.ref kept_rank)))
    (a_law_pool : PySem.W.nsIn K mainGlobals "_law_pool" = some (some (.ref law_pool)))
    (a_law_take : PySem.W.nsIn K mainGlobals "_law_take" = some (some (.ref law_take)))
    (a_law_lost : PySem.W.nsIn K mainGlobals "_law_lost" = some (some (.ref law_lost)))
    (a_law_caught : PySem.W.nsIn K mainGlobals "_law_caught" = some (some (.ref law_caught)))
    (a_law_counts_right : PySem.W.nsIn K mainGlobals "_law_counts_right" = some (some (.ref law_counts_right)))
    (a_law : PySem.W.nsIn K mainGlobals "law" = some (some (.ref law)))
    (a_InvalidTable : PySem.W.nsIn K mainGlobals "InvalidTable" = some (some (.ref InvalidTable)))
    (a_RankError : PySem.W.nsIn K mainGlobals "RankError" = some (some (.ref RankError)))
    (a_InvalidNumber : PySem.W.nsIn K mainGlobals "InvalidNumber" = some (some (.ref InvalidNumber)))
    (a_Table : PySem.W.nsIn K mainGlobals "Table" = some (some (.ref Table)))
    (at_Table___init__ : PySem.W.findIn K (.ref Table) "__init__" = some (some (.ref Table___init__)))
    (f_Table___init__ : PySem.W.isFn K (.ref Table___init__) = true)
    (at_Table_least : PySem.W.findIn K (.ref Table) "least" = some (some (.ref Table_least)))
    (f_Table_least : PySem.W.isFn K (.ref Table_least) = true)
    (at_Table___call__ : PySem.W.findIn K (.ref Table) "__call__" = some (some (.ref Table___call__)))
    (f_Table___call__ : PySem.W.isFn K (.ref Table___call__) = true)
    (at_Table___eq__ : PySem.W.findIn K (.ref Table) "__eq__" = some (some (.ref Table___eq__)))
    (f_Table___eq__ : PySem.W.isFn K (.ref Table___eq__) = true)
    (at_Table___bool__ : PySem.W.findIn K (.ref Table) "__bool__" = some (some (.ref Table___bool__)))
    (f_Table___bool__ : PySem.W.isFn K (.ref Table___bool__) = true)
    (at_start : PySem.W.findIn K (.ref Table) "start" = some (some (.ref P_start)))
    (rec_start : PySem.W.recIn K P_start "property" = some (.ref Table_start :: rest_start))
    (get_start : PySem.W.specialIn K (.ref P_start) "__get__" = some (some (.builtin "property.__get__")))
    (tak_start : PySem.W.takesIn K (.ref P_start) = some true)
    (at_lost : PySem.W.findIn K (.ref Table) "lost" = some (some (.ref P_lost)))
    (rec_lost : PySem.W.recIn K P_lost "property" = some (.ref Table_lost :: rest_lost))
    (get_lost : PySem.W.specialIn K (.ref P_lost) "__get__" = some (some (.builtin "property.__get__")))
    (tak_lost : PySem.W.takesIn K (.ref P_lost) = some true)
    (at_growth : PySem.W.findIn K (.ref Table) "growth" = some (some (.ref P_growth)))
    (rec_growth : PySem.W.recIn K P_growth "property" = some (.ref Table_growth :: rest_growth))
    (get_growth : PySem.W.specialIn K (.ref P_growth) "__get__" = some (some (.builtin "property.__get__")))
    (tak_growth : PySem.W.takesIn K (.ref P_growth) = some true)
    (z_repr : PySem.W.nsIn K mainGlobals "repr" = some none)
    (z_type : PySem.W.nsIn K mainGlobals "type" = some none)
    (z_int : PySem.W.nsIn K mainGlobals "int" = some none)
    (z_list : PySem.W.nsIn K mainGlobals "list" = some none)
    (z_tuple : PySem.W.nsIn K mainGlobals "tuple" = some none)
    (z_all : PySem.W.nsIn K mainGlobals "all" = some none)
    (z_zip : PySem.W.nsIn K mainGlobals "zip" = some none)
    (z_len : PySem.W.nsIn K mainGlobals "len" = some none)
    (z_enumerate : PySem.W.nsIn K mainGlobals "enumerate" = some none)
    (z_sorted : PySem.W.nsIn K mainGlobals "sorted" = some none)
    (z_bool : PySem.W.nsIn K mainGlobals "bool" = some none)
    (z_isinstance : PySem.W.nsIn K mainGlobals "isinstance" = some none)
    (z_abs : PySem.W.nsIn K mainGlobals "abs" = some none)
    (z_max : PySem.W.nsIn K mainGlobals "max" = some none)
    (z_min : PySem.W.nsIn K mainGlobals "min" = some none)
    (z_range : PySem.W.nsIn K mainGlobals "range" = some none)
    (xl_InvalidTable : K.lookup InvalidTable = some (excClassObj nm_InvalidTable q_InvalidTable InvalidTable N_InvalidTable bs_InvalidTable [.ref RankError, .type "ValueError", .type "Exception", .type "BaseException", .type "object"] true sn_InvalidTable sub_InvalidTable ab_InvalidTable col_InvalidTable dd_InvalidTable e0_InvalidTable e1_InvalidTable e2_InvalidTable e3_InvalidTable e5_InvalidTable "ValueError.__new__"))
    (sa_InvalidTable : PySem.W.findIn K (.ref InvalidTable) "__setattr__" = some (some (.builtin "object.__setattr__")))
    (ex_InvalidTable : PySem.W.subIn K (.ref InvalidTable) (.type "BaseException") = some true)
    (ty_InvalidTable : PySem.W.typeIn K (.ref InvalidTable) = some (.type "type"))
    (kc_InvalidTable : PySem.W.keepIn K (.ref InvalidTable) = true)
    (in_InvalidTable : PySem.W.findIn K (.ref InvalidTable) "__init__" = some (some (.ref InvalidTable___init__)))
    (ti_InvalidTable : PySem.W.typeIn K (.ref InvalidTable___init__) = some (.type "function"))
    (no_InvalidTable : PySem.W.findIn K (.ref InvalidTable) "value" = some none)
    (ga_InvalidTable : PySem.W.findIn K (.ref InvalidTable) "__getattribute__" = some (some (.builtin "BaseException.__getattribute__")))
    (gg_InvalidTable : PySem.W.findIn K (.ref InvalidTable) "__getattr__" = some none)
    (hd_InvalidTable : PySem.W.hasDictIn K InvalidTable = true)
    (ha_InvalidTable : PySem.W.findIn K (.ref InvalidTable) "__class__" = some (some (.builtin "object.__class__")))
    (hm_InvalidTable : PySem.W.mroIn K InvalidTable (.type "object") = some true)
    (ic_InvalidTable : PySem.W.isClsIn K InvalidTable = true)
    (xl_InvalidNumber : K.lookup InvalidNumber = some (excClassObj nm_InvalidNumber q_InvalidNumber InvalidNumber N_InvalidNumber bs_InvalidNumber [.ref RankError, .type "ValueError", .type "Exception", .type "BaseException", .type "object"] true sn_InvalidNumber sub_InvalidNumber ab_InvalidNumber col_InvalidNumber dd_InvalidNumber e0_InvalidNumber e1_InvalidNumber e2_InvalidNumber e3_InvalidNumber e5_InvalidNumber "ValueError.__new__"))
    (sa_InvalidNumber : PySem.W.findIn K (.ref InvalidNumber) "__setattr__" = some (some (.builtin "object.__setattr__")))
    (ex_InvalidNumber : PySem.W.subIn K (.ref InvalidNumber) (.type "BaseException") = some true)
    (ty_InvalidNumber : PySem.W.typeIn K (.ref InvalidNumber) = some (.type "type"))
    (kc_InvalidNumber : PySem.W.keepIn K (.ref InvalidNumber) = true)
    (in_InvalidNumber : PySem.W.findIn K (.ref InvalidNumber) "__init__" = some (some (.ref InvalidNumber___init__)))
    (ti_InvalidNumber : PySem.W.typeIn K (.ref InvalidNumber___init__) = some (.type "function"))
    (no_InvalidNumber : PySem.W.findIn K (.ref InvalidNumber) "value" = some none)
    (ga_InvalidNumber : PySem.W.findIn K (.ref InvalidNumber) "__getattribute__" = some (some (.builtin "BaseException.__getattribute__")))
    (gg_InvalidNumber : PySem.W.findIn K (.ref InvalidNumber) "__getattr__" = some none)
    (hd_InvalidNumber : PySem.W.hasDictIn K InvalidNumber = true)
    (ha_InvalidNumber : PySem.W.findIn K (.ref InvalidNumber) "__class__" = some (some (.builtin "object.__class__")))
    (hm_InvalidNumber : PySem.W.mroIn K InvalidNumber (.type "object") = some true)
    (ic_InvalidNumber : PySem.W.isClsIn K InvalidNumber = true)
    (l_is_integer : K.lookup is_integer = some ⟨oc_is_integer, od_is_integer, .func (PySem.W.fnOf "is_integer" "is_integer" (defArgs s_is_integer) (defBody s_is_integer) (defScope s_is_integer) .none kV_is_integer dc_is_integer pm_is_integer an_is_integer cd_is_integer ct_is_integer), sl_is_integer⟩)
    (c_is_integer : PySem.W.codeIn K cd_is_integer "is_integer" = true)
    (k_is_integer : PySem.W.keepIn K (.ref is_integer) = true)
    (l_is_count : K.lookup is_count = some ⟨oc_is_count, od_is_count, .func (PySem.W.fnOf "is_count" "is_count" (defArgs s_is_count) (defBody s_is_count) (defScope s_is_count) .none kV_is_count dc_is_count pm_is_count an_is_count cd_is_count ct_is_count), sl_is_count⟩)
    (c_is_count : PySem.W.codeIn K cd_is_count "is_count" = true)
    (k_is_count : PySem.W.keepIn K (.ref is_count) = true)
    (l_is_rank : K.lookup is_rank = some ⟨oc_is_rank, od_is_rank, .func (PySem.W.fnOf "is_rank" "is_rank" (defArgs s_is_rank) (defBody s_is_rank) (defScope s_is_rank) .none kV_is_rank dc_is_rank pm_is_rank an_is_rank cd_is_rank ct_is_rank), sl_is_rank⟩)
    (c_is_rank : PySem.W.codeIn K cd_is_rank "is_rank" = true)
    (k_is_rank : PySem.W.keepIn K (.ref is_rank) = true)
    (l_is_number_list : K.lookup is_number_list = some ⟨oc_is_number_list, od_is_number_list, .func (PySem.W.fnOf "is_number_list" "is_number_list" (defArgs s_is_number_list) (defBody s_is_number_list) (defScope s_is_number_list) .none kV_is_number_list dc_is_number_list pm_is_number_list an_is_number_list cd_is_number_list ct_is_number_list), sl_is_number_list⟩)
    (c_is_number_list : PySem.W.codeIn K cd_is_number_list "is_number_list" = true)
    (k_is_number_list : PySem.W.keepIn K (.ref is_number_list) = true)
    (l_is_ascending : K.lookup is_ascending = some ⟨oc_is_ascending, od_is_ascending, .func (PySem.W.fnOf "is_ascending" "is_ascending" (defArgs s_is_ascending) (defBody s_is_ascending) (defScope s_is_ascending) .none kV_is_ascending dc_is_ascending pm_is_ascending an_is_ascending cd_is_ascending ct_is_ascending), sl_is_ascending⟩)
    (c_is_ascending : PySem.W.codeIn K cd_is_ascending "is_ascending" = true)
    (k_is_ascending : PySem.W.keepIn K (.ref is_ascending) = true)
    (l_is_rank_list : K.lookup is_rank_list = some ⟨oc_is_rank_list, od_is_rank_list, .func (PySem.W.fnOf "is_rank_list" "is_rank_list" (defArgs s_is_rank_list) (defBody s_is_rank_list) (defScope s_is_rank_list) .none kV_is_rank_list dc_is_rank_list pm_is_rank_list an_is_rank_list cd_is_rank_list ct_is_rank_list), sl_is_rank_list⟩)
    (c_is_rank_list : PySem.W.codeIn K cd_is_rank_list "is_rank_list" = true)
    (k_is_rank_list : PySem.W.keepIn K (.ref is_rank_list) = true)
    (l_InvalidTable___init__ : K.lookup InvalidTable___init__ = some ⟨oc_InvalidTable___init__, od_InvalidTable___init__, .func (PySem.W.fnOf "__init__" "InvalidTable.__init__" (defArgs s_InvalidTable___init__) (defBody s_InvalidTable___init__) (defScope s_InvalidTable___init__) .none kV_InvalidTable___init__ dc_InvalidTable___init__ pm_InvalidTable___init__ an_InvalidTable___init__ cd_InvalidTable___init__ ct_InvalidTable___init__), sl_InvalidTable___init__⟩)
    (c_InvalidTable___init__ : PySem.W.codeIn K cd_InvalidTable___init__ "InvalidTable.__init__" = true)
    (k_InvalidTable___init__ : PySem.W.keepIn K (.ref InvalidTable___init__) = true)
    (l_InvalidNumber___init__ : K.lookup InvalidNumber___init__ = some ⟨oc_InvalidNumber___init__, od_InvalidNumber___init__, .func (PySem.W.fnOf "__init__" "InvalidNumber.__init__" (defArgs s_InvalidNumber___init__) (defBody s_InvalidNumber___init__) (defScope s_InvalidNumber___init__) .none kV_InvalidNumber___init__ dc_InvalidNumber___init__ pm_InvalidNumber___init__ an_InvalidNumber___init__ cd_InvalidNumber___init__ ct_InvalidNumber___init__), sl_InvalidNumber___init__⟩)
    (c_InvalidNumber___init__ : PySem.W.codeIn K cd_InvalidNumber___init__ "InvalidNumber.__init__" = true)
    (k_InvalidNumber___init__ : PySem.W.keepIn K (.ref InvalidNumber___init__) = true)
    (l_how_many_up_to : K.lookup how_many_up_to = some ⟨oc_how_many_up_to, od_how_many_up_to, .func (PySem.W.fnOf "how_many_up_to" "how_many_up_to" (defArgs s_how_many_up_to) (defBody s_how_many_up_to) (defScope s_how_many_up_to) .none kV_how_many_up_to dc_how_many_up_to pm_how_many_up_to an_how_many_up_to cd_how_many_up_to ct_how_many_up_to), sl_how_many_up_to⟩)
    (c_how_many_up_to : PySem.W.codeIn K cd_how_many_up_to "how_many_up_to" = true)
    (k_how_many_up_to : PySem.W.keepIn K (.ref how_many_up_to) = true)
    (l_mapped : K.lookup mapped = some ⟨oc_mapped, od_mapped, .func (PySem.W.fnOf "mapped" "mapped" (defArgs s_mapped) (defBody s_mapped) (defScope s_mapped) .none kV_mapped dc_mapped pm_mapped an_mapped cd_mapped ct_mapped), sl_mapped⟩)
    (c_mapped : PySem.W.codeIn K cd_mapped "mapped" = true)
    (k_mapped : PySem.W.keepIn K (.ref mapped) = true)
    (l_kept_rank : K.lookup kept_rank = some ⟨oc_kept_rank, od_kept_rank, .func (PySem.W.fnOf "kept_rank" "kept_rank" (defArgs s_kept_rank) (defBody s_kept_rank) (defScope s_kept_rank) .none kV_kept_rank dc_kept_rank pm_kept_rank an_kept_rank cd_kept_rank ct_kept_rank), sl_kept_rank⟩)
    (c_kept_rank : PySem.W.codeIn K cd_kept_rank "kept_rank" = true)
    (k_kept_rank : PySem.W.keepIn K (.ref kept_rank) = true)
    (l_Table___init__ : K.lookup Table___init__ = some ⟨oc_Table___init__, od_Table___init__, .func (PySem.W.fnOf "__init__" "Table.__init__" (defArgs s_Table___init__) (defBody s_Table___init__) (defScope s_Table___init__) .none kV_Table___init__ dc_Table___init__ pm_Table___init__ an_Table___init__ cd_Table___init__ ct_Table___init__), sl_Table___init__⟩)
    (c_Table___init__ : PySem.W.codeIn K cd_Table___init__ "Table.__init__" = true)
    (k_Table___init__ : PySem.W.keepIn K (.ref Table___init__) = true)
    (l_Table_start : K.lookup Table_start = some ⟨oc_Table_start, od_Table_start, .func (PySem.W.fnOf "start" "Table.start" (defArgs s_Table_start) (defBody s_Table_start) (defScope s_Table_start) .none kV_Table_start dc_Table_start pm_Table_start an_Table_start cd_Table_start ct_Table_start), sl_Table_start⟩)
    (c_Table_start : PySem.W.codeIn K cd_Table_start "Table.start" = true)
    (k_Table_start : PySem.W.keepIn K (.ref Table_start) = true)
    (l_Table_lost : K.lookup Table_lost = some ⟨oc_Table_lost, od_Table_lost, .func (PySem.W.fnOf "lost" "Table.lost" (defArgs s_Table_lost) (defBody s_Table_lost) (defScope s_Table_lost) .none kV_Table_lost dc_Table_lost pm_Table_lost an_Table_lost cd_Table_lost ct_Table_lost), sl_Table_lost⟩)
    (c_Table_lost : PySem.W.codeIn K cd_Table_lost "Table.lost" = true)
    (k_Table_lost : PySem.W.keepIn K (.ref Table_lost) = true)
    (l_Table_growth : K.lookup Table_growth = some ⟨oc_Table_growth, od_Table_growth, .func (PySem.W.fnOf "growth" "Table.growth" (defArgs s_Table_growth) (defBody s_Table_growth) (defScope s_Table_growth) .none kV_Table_growth dc_Table_growth pm_Table_growth an_Table_growth cd_Table_growth ct_Table_growth), sl_Table_growth⟩)
    (c_Table_growth : PySem.W.codeIn K cd_Table_growth "Table.growth" = true)
    (k_Table_growth : PySem.W.keepIn K (.ref Table_growth) = true)
    (l_Table_least : K.lookup Table_least = some ⟨oc_Table_least, od_Table_least, .func (PySem.W.fnOf "least" "Table.least" (defArgs s_Table_least) (defBody s_Table_least) (defScope s_Table_least) .none kV_Table_least dc_Table_least pm_Table_least an_Table_least cd_Table_least ct_Table_least), sl_Table_least⟩)
    (c_Table_least : PySem.W.codeIn K cd_Table_least "Table.least" = true)
    (k_Table_least : PySem.W.keepIn K (.ref Table_least) = true)
    (l_Table___call__ : K.lookup Table___call__ = some ⟨oc_Table___call__, od_Table___call__, .func (PySem.W.fnOf "__call__" "Table.__call__" (defArgs s_Table___call__) (defBody s_Table___call__) (defScope s_Table___call__) .none kV_Table___call__ dc_Table___call__ pm_Table___call__ an_Table___call__ cd_Table___call__ ct_Table___call__), sl_Table___call__⟩)
    (c_Table___call__ : PySem.W.codeIn K cd_Table___call__ "Table.__call__" = true)
    (k_Table___call__ : PySem.W.keepIn K (.ref Table___call__) = true)
    (l_Table___eq__ : K.lookup Table___eq__ = some ⟨oc_Table___eq__, od_Table___eq__, .func (PySem.W.fnOf "__eq__" "Table.__eq__" (defArgs s_Table___eq__) (defBody s_Table___eq__) (defScope s_Table___eq__) .none kV_Table___eq__ dc_Table___eq__ pm_Table___eq__ an_Table___eq__ cd_Table___eq__ ct_Table___eq__), sl_Table___eq__⟩)
    (c_Table___eq__ : PySem.W.codeIn K cd_Table___eq__ "Table.__eq__" = true)
    (k_Table___eq__ : PySem.W.keepIn K (.ref Table___eq__) = true)
    (l_Table___bool__ : K.lookup Table___bool__ = some ⟨oc_Table___bool__, od_Table___bool__, .func (PySem.W.fnOf "__bool__" "Table.__bool__" (defArgs s_Table___bool__) (defBody s_Table___bool__) (defScope s_Table___bool__) .none kV_Table___bool__ dc_Table___bool__ pm_Table___bool__ an_Table___bool__ cd_Table___bool__ ct_Table___bool__), sl_Table___bool__⟩)
    (c_Table___bool__ : PySem.W.codeIn K cd_Table___bool__ "Table.__bool__" = true)
    (k_Table___bool__ : PySem.W.keepIn K (.ref Table___bool__) = true)
    (l_law_pool : K.lookup law_pool = some ⟨oc_law_pool, od_law_pool, .func (PySem.W.fnOf "_law_pool" "_law_pool" (defArgs s_law_pool) (defBody s_law_pool) (defScope s_law_pool) .none kV_law_pool dc_law_pool pm_law_pool an_law_pool cd_law_pool ct_law_pool), sl_law_pool⟩)
    (c_law_pool : PySem.W.codeIn K cd_law_pool "_law_pool" = true)
    (k_law_pool : PySem.W.keepIn K (.ref law_pool) = true)
    (l_law_take : K.lookup law_take = some ⟨oc_law_take, od_law_take, .func (PySem.W.fnOf "_law_take" "_law_take" (defArgs s_law_take) (defBody s_law_take) (defScope s_law_take) .none kV_law_take dc_law_take pm_law_take an_law_take cd_law_take ct_law_take), sl_law_take⟩)
    (c_law_take : PySem.W.codeIn K cd_law_take "_law_take" = true)
    (k_law_take : PySem.W.keepIn K (.ref law_take) = true)
    (l_law_lost : K.lookup law_lost = some ⟨oc_law_lost, od_law_lost, .func (PySem.W.fnOf "_law_lost" "_law_lost" (defArgs s_law_lost) (defBody s_law_lost) (defScope s_law_lost) .none kV_law_lost dc_law_lost pm_law_lost an_law_lost cd_law_lost ct_law_lost), sl_law_lost⟩)
    (c_law_lost : PySem.W.codeIn K cd_law_lost "_law_lost" = true)
    (k_law_lost : PySem.W.keepIn K (.ref law_lost) = true)
    (l_law_caught : K.lookup law_caught = some ⟨oc_law_caught, od_law_caught, .func (PySem.W.fnOf "_law_caught" "_law_caught" (defArgs s_law_caught) (defBody s_law_caught) (defScope s_law_caught) .none kV_law_caught dc_law_caught pm_law_caught an_law_caught cd_law_caught ct_law_caught), sl_law_caught⟩)
    (c_law_caught : PySem.W.codeIn K cd_law_caught "_law_caught" = true)
    (k_law_caught : PySem.W.keepIn K (.ref law_caught) = true)
    (l_law_counts_right : K.lookup law_counts_right = some ⟨oc_law_counts_right, od_law_counts_right, .func (PySem.W.fnOf "_law_counts_right" "_law_counts_right" (defArgs s_law_counts_right) (defBody s_law_counts_right) (defScope s_law_counts_right) .none kV_law_counts_right dc_law_counts_right pm_law_counts_right an_law_counts_right cd_law_counts_right ct_law_counts_right), sl_law_counts_right⟩)
    (c_law_counts_right : PySem.W.codeIn K cd_law_counts_right "_law_counts_right" = true)
    (k_law_counts_right : PySem.W.keepIn K (.ref law_counts_right) = true)
    (l_law : K.lookup law = some ⟨oc_law, od_law, .func (PySem.W.fnOf "law" "law" (defArgs s_law) (defBody s_law) (defScope s_law) .none kV_law dc_law pm_law an_law cd_law ct_law), sl_law⟩)
    (c_law : PySem.W.codeIn K cd_law "law" = true)
    (k_law : PySem.W.keepIn K (.ref law) = true)
    (hn : PySem.W.specialIn K (.builtin "object.__class__") "__get__" = some (some (.builtin "getset_descriptor.__get__")))
    (htk : PySem.W.takesIn K (.builtin "object.__class__") = some true)
    (pg_Table : PySem.W.plainGet K Table Str.empty = true)
    (hd_Table : PySem.W.hasDictIn K Table = true)
    (po_Table : PySem.W.plainOver K Table = true)
    (sa_Table : PySem.W.findIn K (.ref Table) "__setattr__" = some (some (.builtin "object.__setattr__")))
    (mkI_Table : PySem.W.makesIn K Table = true)
    (kc_Table : PySem.W.keepIn K (.ref Table) = true)
    (ha_Table : PySem.W.findIn K (.ref Table) "__class__" = some (some (.builtin "object.__class__")))
    (hm_Table : PySem.W.mroIn K Table (.type "object") = some true)
    (ic_Table : PySem.W.isClsIn K Table = true)
    (ty_Table : PySem.W.typeIn K (.ref Table) = some (.type "type"))
    (n_start_Table : PySem.W.findIn K (.ref Table) "_start" = some none)
    (n_lost_Table : PySem.W.findIn K (.ref Table) "_lost" = some none)
    (fi : PySem.W.fnIn K Table___call__ = true)
    (neA : PySem.W.findIn K (.ref Table) "__ne__" = some (some (.builtin "object.__ne__")))
    (sub : PySem.W.subIn K (.ref Table) (.type "object") = some true)
    (sf : PySem.W.selfFirst K Table = true)
    (st_t : PySem.W.subIn K (.type "tuple") (.ref Table) = some false)
    (st_n : PySem.W.subIn K (.type "NoneType") (.ref Table) = some false)
    (s_TT : PySem.W.subIn K (.ref InvalidTable) (.ref InvalidTable) = some true)
    (s_NT : PySem.W.subIn K (.ref InvalidNumber) (.ref InvalidTable) = some false)
    (s_NN : PySem.W.subIn K (.ref InvalidNumber) (.ref InvalidNumber) = some true)
    (s_TR : PySem.W.subIn K (.ref InvalidTable) (.ref RankError) = some true)
    (s_NR : PySem.W.subIn K (.ref InvalidNumber) (.ref RankError) = some true)
    (ic_R : PySem.W.isClsIn K RankError = true)
    (ty_R : PySem.W.typeIn K (.ref RankError) = some (.type "type")) :
    ∀ base : Heap, K.In base → base.Ns mainGlobals mg → FnG l.prog w K mg base CX0 12 fa (spLaw K) := by
  have e := hfa.symm.trans (PySem.W.mg_of X G a_law)
  cases e
  have T : Txt K mg { is_integer := is_integer, is_count := is_count, is_rank := is_rank, is_number_list := is_number_list, is_ascending := is_ascending, is_rank_list := is_rank_list, InvalidTable___init__ := InvalidTable___init__, InvalidNumber___init__ := InvalidNumber___init__, how_many_up_to := how_many_up_to, mapped := mapped, kept_rank := kept_rank, Table___init__ := Table___init__, Table_start := Table_start, Table_lost := Table_lost, Table_growth := Table_growth, Table_least := Table_least, Table___call__ := Table___call__, Table___eq__ := Table___eq__, Table___bool__ := Table___bool__, law_pool := law_pool, law_take := law_take, law_lost := law_lost, law_caught := law_caught, law_counts_right := law_counts_right, law := fa, InvalidTable := InvalidTable, RankError := RankError, InvalidNumber := InvalidNumber, Table := Table, P_start := P_start, P_lost := P_lost, P_growth := P_growth } :=
    { g_is_integer := PySem.W.mg_of X G a_is_integer,
      k_is_integer := k_is_integer,
      F_is_integer := ⟨_, fun_mk (st := s_is_integer) l_is_integer c_is_integer k_is_integer⟩,
      g_is_count := PySem.W.mg_of X G a_is_count,
      k_is_count := k_is_count,
      F_is_count := ⟨_, fun_mk (st := s_is_count) l_is_count c_is_count k_is_count⟩,
      g_is_rank := PySem.W.mg_of X G a_is_rank,
      k_is_rank := k_is_rank,
      F_is_rank := ⟨_, fun_mk (st := s_is_rank) l_is_rank c_is_rank k_is_rank⟩,
      g_is_number_list := PySem.W.mg_of X G a_is_number_list,
      k_is_number_list := k_is_number_list,
      F_is_number_list := ⟨_, fun_mk (st := s_is_number_list) l_is_number_list c_is_number_list k_is_number_list⟩,
      g_is_ascending := PySem.W.mg_of X G a_is_ascending,
      k_is_ascending := k_is_ascending,
      F_is_ascending := ⟨_, fun_mk (st := s_is_ascending) l_is_ascending c_is_ascending k_is_ascending⟩,
      g_is_rank_list := PySem.W.mg_of X G a_is_rank_list,
      k_is_rank_list := k_is_rank_list,
      F_is_rank_list := ⟨_, fun_mk (st := s_is_rank_list) l_is_rank_list c_is_rank_list k_is_rank_list⟩,
      F_InvalidTable___init__ := ⟨_, fun_mk (st := s_InvalidTable___init__) l_InvalidTable___init__ c_InvalidTable___init__ k_InvalidTable___init__⟩,
      F_InvalidNumber___init__ := ⟨_, fun_mk (st := s_InvalidNumber___init__) l_InvalidNumber___init__ c_InvalidNumber___init__ k_InvalidNumber___init__⟩,
      g_how_many_up_to := PySem.W.mg_of X G a_how_many_up_to,
      k_how_many_up_to := k_how_many_up_to,
      F_how_many_up_to := ⟨_, fun_mk (st := s_how_many_up_to) l_how_many_up_to c_how_many_up_to k_how_many_up_to⟩,
      g_mapped := PySem.W.mg_of X G a_mapped,
      k_mapped := k_mapped,
      F_mapped := ⟨_, fun_mk (st := s_mapped) l_mapped c_mapped k_mapped⟩,
      g_kept_rank := PySem.W.mg_of X G a_kept_rank,
      k_kept_rank := k_kept_rank,
      F_kept_rank := ⟨_, fun_mk (st := s_kept_rank) l_kept_rank c_kept_rank k_kept_rank⟩,
      F_Table___init__ := ⟨_, fun_mk (st := s_Table___init__) l_Table___init__ c_Table___init__ k_Table___init__⟩,
      F_Table_start := ⟨_, fun_mk (st := s_Table_start) l_Table_start c_Table_start k_Table_start⟩,
      F_Table_lost := ⟨_, fun_mk (st := s_Table_lost) l_Table_lost c_Table_lost k_Table_lost⟩,
      F_Table_growth := ⟨_, fun_mk (st := s_Table_growth) l_Table_growth c_Table_growth k_Table_growth⟩,
      F_Table_least := ⟨_, fun_mk (st := s_Table_least) l_Table_least c_Table_least k_Table_least⟩,
      F_Table___call__ := ⟨_, fun_mk (st := s_Table___call__) l_Table___call__ c_Table___call__ k_Table___call__⟩,
      F_Table___eq__ := ⟨_, fun_mk (st := s_Table___eq__) l_Table___eq__ c_Table___eq__ k_Table___eq__⟩,
      F_Table___bool__ := ⟨_, fun_mk (st := s_Table___bool__) l_Table___bool__ c_Table___bool__ k_Table___bool__⟩,
      g_law_pool := PySem.W.mg_of X G a_law_pool,
      k_law_pool := k_law_pool,
      F_law_pool := ⟨_, fun_mk (st := s_law_pool) l_law_pool c_law_pool k_law_pool⟩,
      g_law_take := PySem.W.mg_of X G a_law_take,
      k_law_take := k_law_take,
      F_law_take := ⟨_, fun_mk (st := s_law_take) l_law_take c_law_take k_law_take⟩,
      g_law_lost := PySem.W.mg_of X G a_law_lost,
      k_law_lost := k_law_lost,
      F_law_lost := ⟨_, fun_mk (st := s_law_lost) l_law_lost c_law_lost k_law_lost⟩,
      g_law_caught := PySem.W.mg_of X G a_law_caught,
      k_law_caught := k_law_caught,
      F_law_caught := ⟨_, fun_mk (st := s_law_caught) l_law_caught c_law_caught k_law_caught⟩,
      g_law_counts_right := PySem.W.mg_of X G a_law_counts_right,
      k_law_counts_right := k_law_counts_right,
      F_law_counts_right := ⟨_, fun_mk (st := s_law_counts_right) l_law_counts_right c_law_counts_right k_law_counts_right⟩,
      g_law := PySem.W.mg_of X G a_law,
      k_law := k_law,
      F_law := ⟨_, fun_mk (st := s_law) l_law c_law k_law⟩,
      g_InvalidTable := PySem.W.mg_of X G a_InvalidTable,
      g_RankError := PySem.W.mg_of X G a_RankError,
      g_InvalidNumber := PySem.W.mg_of X G a_InvalidNumber,
      g_Table := PySem.W.mg_of X G a_Table,
      p_start := ⟨at_start, get_start, tak_start, ⟨_, rec_start⟩⟩,
      p_lost := ⟨at_lost, get_lost, tak_lost, ⟨_, rec_lost⟩⟩,
      p_growth := ⟨at_growth, get_growth, tak_growth, ⟨_, rec_growth⟩⟩,
      b_repr := PySem.W.mg_none_of X G z_repr,
      b_type := PySem.W.mg_none_of X G z_type,
      b_int := PySem.W.mg_none_of X G z_int,
      b_list := PySem.W.mg_none_of X G z_list,
      b_tuple := PySem.W.mg_none_of X G z_tuple,
      b_all := PySem.W.mg_none_of X G z_all,
      b_zip := PySem.W.mg_none_of X G z_zip,
      b_len := PySem.W.mg_none_of X G z_len,
      b_enumerate := PySem.W.mg_none_of X G z_enumerate,
      b_sorted := PySem.W.mg_none_of X G z_sorted,
      b_bool := PySem.W.mg_none_of X G z_bool,
      b_isinstance := PySem.W.mg_none_of X G z_isinstance,
      b_abs := PySem.W.mg_none_of X G z_abs,
      b_max := PySem.W.mg_none_of X G z_max,
      b_min := PySem.W.mg_none_of X G z_min,
      b_range := PySem.W.mg_none_of X G z_range,
      cl := ⟨pg_Table, hd_Table, po_Table, sa_Table⟩,
      M_Table := ⟨mkI_Table, at_Table___init__, f_Table___init__, kc_Table⟩,
      n_start := n_start_Table,
      n_lost := n_lost_Table,
      m_least := ⟨at_Table_least, f_Table_least, k_Table_least⟩,
      callO := ⟨at_Table___call__, f_Table___call__, fi⟩,
      eqA := at_Table___eq__,
      eqF := f_Table___eq__,
      neA := neA,
      sub := sub,
      sf := sf,
      boolA := at_Table___bool__,
      boolF := f_Table___bool__,
      isi := ⟨⟨pg_Table, hd_Table, po_Table, sa_Table⟩, ha_Table, hn, htk, hm_Table, kit_self⟩,
      ty_Table := ty_Table,
      st_t := st_t,
      st_n := st_n,
      kt_t := kit_other ic_Table ty_Table st_t,
      kt_n := kit_other ic_Table ty_Table st_n,
      e_T := ⟨⟨⟨_, _, _, _, _, _, _, _, _, _, _, _, _, _, _, xl_InvalidTable, show PySem.HandSPX.refsVE [.type "ValueError", .type "Exception", .type "BaseException", .type "object"] = true by decide +kernel⟩, sa_InvalidTable, ex_InvalidTable, ty_InvalidTable, kc_InvalidTable⟩, in_InvalidTable, ti_InvalidTable, no_InvalidTable, ga_InvalidTable, gg_InvalidTable, hd_InvalidTable, ha_InvalidTable, hn, htk, hm_InvalidTable⟩,
      e_N := ⟨⟨⟨_, _, _, _, _, _, _, _, _, _, _, _, _, _, _, xl_InvalidNumber, show PySem.HandSPX.refsVE [.type "ValueError", .type "Exception", .type "BaseException", .type "object"] = true by decide +kernel⟩, sa_InvalidNumber, ex_InvalidNumber, ty_InvalidNumber, kc_InvalidNumber⟩, in_InvalidNumber, ti_InvalidNumber, no_InvalidNumber, ga_InvalidNumber, gg_InvalidNumber, hd_InvalidNumber, ha_InvalidNumber, hn, htk, hm_InvalidNumber⟩,
      x_TT := exm_of ex_InvalidTable ic_InvalidTable ty_InvalidTable s_TT,
      x_NT := exm_of ex_InvalidTable ic_InvalidTable ty_InvalidTable s_NT,
      x_NN := exm_of ex_InvalidNumber ic_InvalidNumber ty_InvalidNumber s_NN,
      r_T := kit_sub ic_R ty_R s_TR,
      r_N := kit_sub ic_R ty_R s_NR }
  exact fun base _ _ => ok_law T (fun_mk (st := s_law) l_law c_law k_law)
theorem walk {l : PySem.W.OpenLaw} {q : Program} {loose : List Str} {XP : (Str → Option Value) → Heap → Prop} {YP : World → Heap → Prop} {d : DefRec} {K : Params → PySem.W.Frag} (hn : l.most = some 63) (hdf : d.params.defaults = [])
    (hY : ∀ (w : World) (h : Heap), YP w h → (K w.params).In h)
    (F : ∀ (w : World) (mg : Str → Option Value) (fa : Addr) (h : Heap), (K w.params).In h → h.Ns mainGlobals mg → mg d.name = some (.ref fa) →
      ∀ base : Heap, (K w.params).In base → base.Ns mainGlobals mg → FnG l.prog w (K w.params) mg base CX0 12 fa (spLaw (K w.params))) :
    PySem.W.WalkO q loose XP YP l.row.toRowW d [] (fun f vs => PySem.call f vs) :=
  walkG (n := 63) (k := 12) (CX := fun _ => CX0) (sp := fun w => spLaw (K w.params)) hn (by decide) hdf ⟨rfl, by decide, by decide⟩ hY F (fun _ _ a ns hl _ hS => ⟨a, ns, rfl, hS, hl, fun _ => rfl⟩) fun _ _ _ _ _ z => z
end
end K05
open PySem PySem.W PyProof.Rows
set_option maxRecDepth 100000 in
set_option maxHeartbeats 0 in
theorem PySem.Challenge.cw_rankeffect_k05_tables_of_counts_holds : PySem.Challenge.rw_rankeffect_k05_tables_of_counts.Holds := by
  w_on; o_law; k_head; (case hw => w_witness2)
  k_fill
  refine K05.walk (l := PySem.Challenge.rw_rankeffect_k05_tables_of_counts) rfl rfl (fun w h Y => PySem.W.kIn_of Y) ?F
  case F =>
    intro w mg fa h KX G hmg
    refine' K05.all_mk KX G hmg ?a_is_integer ?a_is_count ?a_is_rank ?a_is_number_list ?a_is_ascending ?a_is_rank_list ?a_how_many_up_to ?a_mapped ?a_kept_rank ?a_law_pool ?a_law_take ?a_law_lost ?a_law_caught ?a_law_counts_right ?a_law ?a_InvalidTable ?a_RankError ?a_InvalidNumber ?a_Table ?at_Table___init__ ?f_Table___init__ ?at_Table_least ?f_Table_least ?at_Table___call__ ?f_Table___call__ ?at_Table___eq__ ?f_Table___eq__ ?at_Table___bool__ ?f_Table___bool__ ?at_start ?rec_start ?get_start ?tak_start ?at_lost ?rec_lost ?get_lost ?tak_lost ?at_growth ?rec_growth ?get_growth ?tak_growth ?z_repr ?z_type ?z_int ?z_list ?z_tuple ?z_all ?z_zip ?z_len ?z_enumerate ?z_sorted ?z_bool ?z_isinstance ?z_abs ?z_max ?z_min ?z_range ?xl_InvalidTable ?sa_InvalidTable ?ex_InvalidTable ?ty_InvalidTable ?kc_InvalidTable ?in_InvalidTable ?ti_InvalidTable ?no_InvalidTable ?ga_InvalidTable ?gg_InvalidTable ?hd_InvalidTable ?ha_InvalidTable ?hm_InvalidTable ?ic_InvalidTable ?xl_InvalidNumber ?sa_InvalidNumber ?ex_InvalidNumber ?ty_InvalidNumber ?kc_InvalidNumber ?in_InvalidNumber ?ti_InvalidNumber ?no_InvalidNumber ?ga_InvalidNumber ?gg_InvalidNumber ?hd_InvalidNumber ?ha_InvalidNumber ?hm_InvalidNumber ?ic_InvalidNumber ?l_is_integer ?c_is_integer ?k_is_integer ?l_is_count ?c_is_count ?k_is_count ?l_is_rank ?c_is_rank ?k_is_rank ?l_is_number_list ?c_is_number_list ?k_is_number_list ?l_is_ascending ?c_is_ascending ?k_is_ascending ?l_is_rank_list ?c_is_rank_list ?k_is_rank_list ?l_InvalidTable___init__ ?c_InvalidTable___init__ ?k_InvalidTable___init__ ?l_InvalidNumber___init__ ?c_InvalidNumber___init__ ?k_InvalidNumber___init__ ?l_how_many_up_to ?c_how_many_up_to ?k_how_many_up_to ?l_mapped ?c_mapped ?k_mapped ?l_kept_rank ?c_kept_rank ?k_kept_rank ?l_Table___init__ ?c_Table___init__ ?k_Table___init__ ?l_Table_start ?c_Table_start ?k_Table_start ?l_Table_lost ?c_Table_lost ?k_Table_lost ?l_Table_growth ?c_Table_growth ?k_Table_growth ?l_Table_least ?c_Table_least ?k_Table_least ?l_Table___call__ ?c_Table___call__ ?k_Table___call__ ?l_Table___eq__ ?c_Table___eq__ ?k_Table___eq__ ?l_Table___bool__ ?c_Table___bool__ ?k_Table___bool__ ?l_law_pool ?c_law_pool ?k_law_pool ?l_law_take ?c_law_take ?k_law_take ?l_law_lost ?c_law_lost ?k_law_lost ?l_law_caught ?c_law_caught ?k_law_caught ?l_law_counts_right ?c_law_counts_right ?k_law_counts_right ?l_law ?c_law ?k_law ?hn ?htk ?pg_Table ?hd_Table ?po_Table ?sa_Table ?mkI_Table ?kc_Table ?ha_Table ?hm_Table ?ic_Table ?ty_Table ?n_start_Table ?n_lost_Table ?fi ?neA ?sub ?sf ?st_t ?st_n ?s_TT ?s_NT ?s_NN ?s_TR ?s_NR ?ic_R ?ty_R
    (case a_is_integer => first | k_is | rfl)
    (case a_is_count => first | k_is | rfl)
    (case a_is_rank => first | k_is | rfl)
    (case a_is_number_list => first | k_is | rfl)
    (case a_is_ascending => first | k_is | rfl)
    (case a_is_rank_list => first | k_is | rfl)
    (case a_how_many_up_to => first | k_is | rfl)
    (case a_mapped => first | k_is | rfl)
    (case a_kept_rank => first | k_is | rfl)
    (case a_law_pool => first | k_is | rfl)
    (case a_law_take => first | k_is | rfl)
    (case a_law_lost => first | k_is | rfl)
    (case a_law_caught => first | k_is | rfl)
    (case a_law_counts_right => first | k_is | rfl)
    (case a_law => first | k_is | rfl)
    (case a_InvalidTable => first | k_is | rfl)
    (case a_RankError => first | k_is | rfl)
    (case a_InvalidNumber => first | k_is | rfl)
    (case a_Table => first | k_is | rfl)
    (case at_Table___init__ => first | k_is | rfl)
    (case f_Table___init__ => first | k_is | rfl)
    (case at_Table_least => first | k_is | rfl)
    (case f_Table_least => first | k_is | rfl)
    (case at_Table___call__ => first | k_is | rfl)
    (case f_Table___call__ => first | k_is | rfl)
    (case at_Table___eq__ => first | k_is | rfl)
    (case f_Table___eq__ => first | k_is | rfl)
    (case at_Table___bool__ => first | k_is | rfl)
    (case f_Table___bool__ => first | k_is | rfl)
    (case at_start => first | k_is | rfl)
    (case rec_start => first | k_is | rfl)
    (case get_start => first | k_is | rfl)
    (case tak_start => first | k_is | rfl)
    (case at_lost => first | k_is | rfl)
    (case rec_lost => first | k_is | rfl)
    (case get_lost => first | k_is | rfl)
    (case tak_lost => first | k_is | rfl)
    (case at_growth => first | k_is | rfl)
    (case rec_growth => first | k_is | rfl)
    (case get_growth => first | k_is | rfl)
    (case tak_growth => first | k_is | rfl)
    (case z_repr => first | k_is | rfl)
    (case z_type => first | k_is | rfl)
    (case z_int => first | k_is | rfl)
    (case z_list => first | k_is | rfl)
    (case z_tuple => first | k_is | rfl)
    (case z_all => first | k_is | rfl)
    (case z_zip => first | k_is | rfl)
    (case z_len => first | k_is | rfl)
    (case z_enumerate => first | k_is | rfl)
    (case z_sorted => first | k_is | rfl)
    (case z_bool => first | k_is | rfl)
    (case z_isinstance => first | k_is | rfl)
    (case z_abs => first | k_is | rfl)
    (case z_max => first | k_is | rfl)
    (case z_min => first | k_is | rfl)
    (case z_range => first | k_is | rfl)
    (case xl_InvalidTable => first | k_is | rfl)
    (case sa_InvalidTable => first | k_is | rfl)
    (case ex_InvalidTable => first | k_is | rfl)
    (case ty_InvalidTable => first | k_is | rfl)
    (case kc_InvalidTable => first | k_is | rfl)
    (case in_InvalidTable => first | k_is | rfl)
    (case ti_InvalidTable => first | k_is | rfl)
    (case no_InvalidTable => first | k_is | rfl)
    (case ga_InvalidTable => first | k_is | rfl)
    (case gg_InvalidTable => first | k_is | rfl)
    (case hd_InvalidTable => first | k_is | rfl)
    (case ha_InvalidTable => first | k_is | rfl)
    (case hm_InvalidTable => first | k_is | rfl)
    (case ic_InvalidTable => first | k_is | rfl)
    (case xl_InvalidNumber => first | k_is | rfl)
    (case sa_InvalidNumber => first | k_is | rfl)
    (case ex_InvalidNumber => first | k_is | rfl)
    (case ty_InvalidNumber => first | k_is | rfl)
    (case kc_InvalidNumber => first | k_is | rfl)
    (case in_InvalidNumber => first | k_is | rfl)
    (case ti_InvalidNumber => first | k_is | rfl)
    (case no_InvalidNumber => first | k_is | rfl)
    (case ga_InvalidNumber => first | k_is | rfl)
    (case gg_InvalidNumber => first | k_is | rfl)
    (case hd_InvalidNumber => first | k_is | rfl)
    (case ha_InvalidNumber => first | k_is | rfl)
    (case hm_InvalidNumber => first | k_is | rfl)
    (case ic_InvalidNumber => first | k_is | rfl)
    (case l_is_integer => first | k_is | rfl)
    (case c_is_integer => first | k_is | rfl)
    (case k_is_integer => first | k_is | rfl)
    (case l_is_count => first | k_is | rfl)
    (case c_is_count => first | k_is | rfl)
    (case k_is_count => first | k_is | rfl)
    (case l_is_rank => first | k_is | rfl)
    (case c_is_rank => first | k_is | rfl)
    (case k_is_rank => first | k_is | rfl)
    (case l_is_number_list => first | k_is | rfl)
    (case c_is_number_list => first | k_is | rfl)
    (case k_is_number_list => first | k_is | rfl)
    (case l_is_ascending => first | k_is | rfl)
    (case c_is_ascending => first | k_is | rfl)
    (case k_is_ascending => first | k_is | rfl)
    (case l_is_rank_list => first | k_is | rfl)
    (case c_is_rank_list => first | k_is | rfl)
    (case k_is_rank_list => first | k_is | rfl)
    (case l_InvalidTable___init__ => first | k_is | rfl)
    (case c_InvalidTable___init__ => first | k_is | rfl)
    (case k_InvalidTable___init__ => first | k_is | rfl)
    (case l_InvalidNumber___init__ => first | k_is | rfl)
    (case c_InvalidNumber___init__ => first | k_is | rfl)
    (case k_InvalidNumber___init__ => first | k_is | rfl)
    (case l_how_many_up_to => first | k_is | rfl)
    (case c_how_many_up_to => first | k_is | rfl)
    (case k_how_many_up_to => first | k_is | rfl)
    (case l_mapped => first | k_is | rfl)
    (case c_mapped => first | k_is | rfl)
    (case k_mapped => first | k_is | rfl)
    (case l_kept_rank => first | k_is | rfl)
    (case c_kept_rank => first | k_is | rfl)
    (case k_kept_rank => first | k_is | rfl)
    (case l_Table___init__ => first | k_is | rfl)
    (case c_Table___init__ => first | k_is | rfl)
    (case k_Table___init__ => first | k_is | rfl)
    (case l_Table_start => first | k_is | rfl)
    (case c_Table_start => first | k_is | rfl)
    (case k_Table_start => first | k_is | rfl)
    (case l_Table_lost => first | k_is | rfl)
    (case c_Table_lost => first | k_is | rfl)
    (case k_Table_lost => first | k_is | rfl)
    (case l_Table_growth => first | k_is | rfl)
    (case c_Table_growth => first | k_is | rfl)
    (case k_Table_growth => first | k_is | rfl)
    (case l_Table_least => first | k_is | rfl)
    (case c_Table_least => first | k_is | rfl)
    (case k_Table_least => first | k_is | rfl)
    (case l_Table___call__ => first | k_is | rfl)
    (case c_Table___call__ => first | k_is | rfl)
    (case k_Table___call__ => first | k_is | rfl)
    (case l_Table___eq__ => first | k_is | rfl)
    (case c_Table___eq__ => first | k_is | rfl)
    (case k_Table___eq__ => first | k_is | rfl)
    (case l_Table___bool__ => first | k_is | rfl)
    (case c_Table___bool__ => first | k_is | rfl)
    (case k_Table___bool__ => first | k_is | rfl)
    (case l_law_pool => first | k_is | rfl)
    (case c_law_pool => first | k_is | rfl)
    (case k_law_pool => first | k_is | rfl)
    (case l_law_take => first | k_is | rfl)
    (case c_law_take => first | k_is | rfl)
    (case k_law_take => first | k_is | rfl)
    (case l_law_lost => first | k_is | rfl)
    (case c_law_lost => first | k_is | rfl)
    (case k_law_lost => first | k_is | rfl)
    (case l_law_caught => first | k_is | rfl)
    (case c_law_caught => first | k_is | rfl)
    (case k_law_caught => first | k_is | rfl)
    (case l_law_counts_right => first | k_is | rfl)
    (case c_law_counts_right => first | k_is | rfl)
    (case k_law_counts_right => first | k_is | rfl)
    (case l_law => first | k_is | rfl)
    (case c_law => first | k_is | rfl)
    (case k_law => first | k_is | rfl)
    (case hn => first | k_is | rfl)
    (case htk => first | k_is | rfl)
    (case pg_Table => first | k_is | rfl)
    (case hd_Table => first | k_is | rfl)
    (case po_Table => first | k_is | rfl)
    (case sa_Table => first | k_is | rfl)
    (case mkI_Table => first | k_is | rfl)
    (case kc_Table => first | k_is | rfl)
    (case ha_Table => first | k_is | rfl)
    (case hm_Table => first | k_is | rfl)
    (case ic_Table => first | k_is | rfl)
    (case ty_Table => first | k_is | rfl)
    (case n_start_Table => first | k_is | rfl)
    (case n_lost_Table => first | k_is | rfl)
    (case fi => first | k_is | rfl)
    (case neA => first | k_is | rfl)
    (case sub => first | k_is | rfl)
    (case sf => first | k_is | rfl)
    (case st_t => first | k_is | rfl)
    (case st_n => first | k_is | rfl)
    (case s_TT => first | k_is | rfl)
    (case s_NT => first | k_is | rfl)
    (case s_NN => first | k_is | rfl)
    (case s_TR => first | k_is | rfl)
    (case s_NR => first | k_is | rfl)
    (case ic_R => first | k_is | rfl)
    (case ty_R => first | k_is | rfl)
