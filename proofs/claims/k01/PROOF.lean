import PyProof.Rows.All
import Wide.All
import OpenK.AllK
import Wide.FinOn
import HandS.Base
import HandS.Call
import HandS.List
import HandS.Comp
import HandS.Ends
import KE.KRevSl
import HandS.ForMost
import HandS.EndBits
import HandS.IsInst
import HandS.Wide
import HandS.Gcd
import HandS.Style
import HandS.TupAny
import HandS.Evl
import PySem.Challenge.RW_seenposts_k01_seen_places
set_option Elab.async false
set_option linter.all false
set_option maxRecDepth 100000
set_option maxHeartbeats 4000000
/-! rules of our own -/
namespace HT
open PySem PySem.W PySem.Calls PyProof.Rows
section
variable {prog : Program} {w : World} {A : Around} {E : Value → Shared → Prop} {s : Shared}
theorem adjust_rev (n : Nat) : Builtin.Slice.sliceAdjust none none (-1) (n : Int) = ((n : Int) - 1, -1) := by
  unfold Builtin.Slice.sliceAdjust
  rfl
theorem places_rev (n : Nat) : Builtin.Slice.slicePlaces ((n : Int) - 1) (-1) (-1) = n := by
  unfold Builtin.Slice.slicePlaces
  have h1 : ¬ ((-1 : Int) > 0) := by decide
  have e1 : (- -1 : Int) = 1 := by decide
  simp only [h1, if_false, e1, Int.ediv_one]
  split <;> omega
theorem sliceApplied_rev {sl : Addr} {vs : Value} {n : Nat} {Q : Int × Int × Nat → Shared → Prop} (hs : s.heap.IsSliceOf sl .none .none vs) (ps : IsPart vs (some (-1)))
    (h : Q ((n : Int) - 1, -1, n) s) : wpAny (model prog w) A (Builtin.Slice.sliceApplied (.ref sl) (pure (n : Int))) Q E s := by
  obtain ⟨os, hos, hcs, hds⟩ := id hs
  unfold Builtin.Slice.sliceApplied Builtin.Slice.sliceFields
  refine wpAny_bind (wpAny_bind (wpAny_field hos hds (x := .none) rfl (wpAny_bind (wpAny_field hos hds (x := .none) rfl (wpAny_bind (wpAny_field hos hds (x := vs) rfl (wpAny_pure ?_)))))))
  refine wpAny_bind (slicePart_ ps ?_)
  show wpAny _ _ (if ((-1 : Int) == 0) = true then _ else _) _ _ s
  rw [if_neg (by decide)]
  refine wpAny_bind (slicePart_none (wpAny_bind (slicePart_none (wpAny_bind (wpAny_pure ?_)))))
  show wpAny _ _ (match Builtin.Slice.sliceAdjust none none (-1) (n : Int) with | (lo, hi) => pure (lo, (-1 : Int), Builtin.Slice.slicePlaces lo hi (-1))) _ _ s
  rw [adjust_rev n]
  show wpAny _ _ (pure ((n : Int) - 1, (-1 : Int), Builtin.Slice.slicePlaces ((n : Int) - 1) (-1) (-1))) _ _ s
  rw [places_rev]
  exact wpAny_pure h
theorem fm_congr {α β : Type} {f g : α → Option β} : ∀ (l : List α), (∀ a ∈ l, f a = g a) → l.filterMap f = l.filterMap g
  | [], _ => rfl
  | a :: r, h => by
    rw [List.filterMap_cons, List.filterMap_cons, h a List.mem_cons_self, fm_congr r fun b hb => h b (List.mem_cons_of_mem _ hb)]
theorem pick_rev (xs : Array Value) : ((List.range xs.size).filterMap fun (m : Nat) => xs[((xs.size : Int) - 1 + (m : Int) * (-1)).toNat]?).toArray = xs.toList.reverse.toArray := by
  rw [← krv_pick xs]
  unfold slicePick
  rw [krv_bounds]
  show _ = ((sliceRange ((xs.size : Int) - 1) (-1) (-1)).filterMap (xs[·]?)).toArray
  rw [krv_sliceRange, List.filterMap_map]
  refine congrArg List.toArray (fm_congr _ fun m hm => ?_)
  have := List.mem_range.mp hm
  show xs[((xs.size : Int) - 1 + (m : Int) * (-1)).toNat]? = xs[xs.size - 1 - m]?
  have e : ((xs.size : Int) - 1 + (m : Int) * (-1)).toNat = xs.size - 1 - m := by omega
  rw [e]
theorem getItem_tuple_rev {t sl : Addr} {items : Array Value} {vs : Value} {Q : Value → Shared → Prop} (ht : IsTup s.heap t items) (hs : s.heap.IsSliceOf sl .none .none vs) (ps : IsPart vs (some (-1)))
    (h : Q (.ref s.heap.objs.size) { s with heap := s.heap.push { cls := .type "tuple", data := .seq items.toList.reverse.toArray } })
    (hsz : items.size ≤ sizeLine) : wpAny (model prog w) A (getItem (.ref t) (.ref sl)) Q E s := by
  have htake : sizeOk (.seq items.toList.reverse.toArray) := by
    show items.toList.reverse.toArray.size ≤ sizeLine
    rw [List.size_toArray, List.length_reverse, Array.length_toList]
    exact hsz
  obtain ⟨os, hos, hcs, hds⟩ := id hs
  have hTs : s.TypeIs (.ref sl) "slice" := ⟨os, hos, hcs⟩
  unfold getItem
  try with_reducible refine wpAny_holding ?_
  first | refine wpAny_bind (wpAny_pure ?_) | skip
  refine wpAny_bind (wpAny_sequenceKey ht.typeIs (by decide) ?_)
  refine wpAny_bind (wpAny_callSpecial?_slot (name := Str.ofString "__getitem__") ht.typeIs PyProof.Rows.slot_tuple_getitem
    (wpAny_call_entry PyProof.Rows.slot_tuple_getitem ht.typeIs entry_tuple_getitem ?_ (args_tuple_getitem _ _)))
  show wpAny _ _ (Builtin.Tuple.tupleItemsOf (.ref t) >>= _) _ _ s
  refine wpAny_bind (tupleItemsOf_ ht ?_)
  refine wpAny_bind (wpAny_typeOf hTs ?_)
  rw [if_pos (by decide)]
  refine wpAny_bind (sliceApplied_rev hs ps ?_)
  have hno : ¬ ((((items.size : Int) - 1) == 0 && (-1 : Int) == 1 && items.size == items.size) = true) := by
    intro q
    rw [Bool.and_eq_true, Bool.and_eq_true] at q
    exact absurd q.1.2 (by decide)
  show wpAny _ _ (if (((items.size : Int) - 1) == 0 && (-1 : Int) == 1 && items.size == items.size) = true then _ else _) _ _ s
  rw [if_neg hno, pick_rev]
  first
    | exact wpAny_bind (m := Builtin.Tuple.tupleExact _) (wpAny_newObj_type (wpAny_pure ⟨_, rfl, wpAny_pure h⟩) htake)
    | exact wpAny_bind (m := Builtin.Tuple.tupleExact _) (wpAny_newObj_type (wpAny_bind (wpAny_pure (wpAny_pure ⟨_, rfl, wpAny_pure h⟩))) htake)
    | exact wpAny_bind (wpAny_bind (m := Builtin.Tuple.tupleExact _) (wpAny_newObj_type (wpAny_pure (wpAny_pure ⟨_, rfl, wpAny_pure h⟩)) htake))
    | exact wpAny_bind (wpAny_bind (m := Builtin.Tuple.tupleExact _) (wpAny_newObj_type (wpAny_pure ⟨_, rfl, wpAny_pure h⟩) htake))
end
end HT
namespace L2
open PySem PySem.Spec PyProof.Rows
section
variable {X : Cx}
/-- t[::-1] of a tuple -/
def tRevT (K : PySem.W.Frag) (te : TE) : TE := fun σ H Q => te σ H fun x H1 => ∃ a xs, x = .ref a ∧ SqT K H1 a xs ∧ ∀ p, H1 p = none → Q (.ref p) (upd H1 p (.tup xs.reverse))
theorem pe_revT {e : Expr} {te : TE} {k : Nat} {p1 p2 p3 pos : Pos} (he : PE X e te) : PE X (.Subscript e (.Slice none none (some (.UnaryOp .USub (.Constant (.int 1) k p1) p2)) p3) pos) (tRevT X.K te) := by
  refine ⟨fun pins s σ H Q I h => ?_⟩
  refine Subscript_ (thn (he.run pins s σ H _ I h) fun v s1 ⟨x, H1, I1, r1, q1⟩ => ?_)
  obtain ⟨a, xs, ex, hx, q⟩ := q1
  subst ex
  cases r1
  have hst : PO X (some (.UnaryOp .USub (.Constant (.int 1) k p1) p2)) (tPart (tUn (rU fun i => .int (-i)) (tC (.int 1)))) := po_some (pe_un un_neg pe_int)
  refine wpAny_Slice (thn (po_none.run pins s1 σ H1 (fun o H2 => o = none ∧ H2 = H1) I1 ⟨rfl, rfl⟩) fun vl s2 ⟨l, H2, I2, pl, el, e2⟩ => ?_)
  subst el e2
  refine thn (po_none.run pins s2 σ H2 (fun o H3 => o = none ∧ H3 = H2) I2 ⟨rfl, rfl⟩) fun vu s3 ⟨u, H3, I3, pu, eu, e3⟩ => ?_
  subst eu e3
  refine thn (hst.run pins s3 σ H3 (fun o H4 => o = some (-1) ∧ H4 = H3) I3 ⟨1, rfl, -1, rfl, rfl, rfl⟩) fun vs s4 ⟨o, H4, I4, ps, eo, e4⟩ => ?_
  subst eo e4
  have I5 : Inv X pins σ H4 { s4 with heap := s4.heap.push { cls := .type "slice", data := .fields #[vl, vu, vs] } } := I4.kept (t' := s4.toks) fun b ob q => Heap.get?_push_of_some _ q
  obtain ⟨its, r, ht, hz⟩ := I5.tuple hx
  have hlen := r.length
  show wpAny (model X.prog X.w) X.A (subscriptTail e (.Slice none none (some (.UnaryOp .USub (.Constant (.int 1) k p1) p2)) p3) (.ref a) (.ref s4.heap.objs.size)) (EP X pins σ Q) X.xe { s4 with heap := s4.heap.push { cls := .type "slice", data := .fields #[vl, vu, vs] } }
  refine tail_any (ops := [.ref a, .ref s4.heap.objs.size]) ht.typeIs (PyProof.Rows.slot_tuple_getitem.lookup) ?_ (by with_unfolding_all rfl)
  cases pl
  cases pu
  refine HT.getItem_tuple_rev ht (Heap.IsSliceOf.new _ .none .none vs) ps ?_ (by rw [List.size_toArray, ← hlen]; exact hz)
  have e : (its.toArray.toList.reverse.toArray) = its.reverse.toArray := by simp
  rw [e]
  refine ⟨.ref _, _, I5.laid (t' := s4.toks) (o := .tup xs.reverse) (fun b ob q => Heap.get?_push_of_some _ q) (Nat.le_refl _) ?_, rfl, q _ (I5.hok.fresh (Nat.le_refl _))⟩
  exact ⟨by rw [List.length_reverse]; exact hz, _, r.reverse, IsTup.new _ _⟩
/-- f(k = v, ..): keywords alone -/
theorem pe_callK0 {CX : CXT} {k : Nat} {f : Addr} {fd : FuncData} {ps ks : List Str} {sp : Sp} {E : XK} {x : Str} {p pos : Pos} {kws : List Keyword} {tk : TA} {g : List Value → List Value → List Value} {gV : List V → List V → List V}
    (F : FnOk X.prog X.w X.K X.mg X.base CX k f fd ps sp) (hr : Room k X.A) (hg : Gl X x) (hm : X.mg x = some (.ref f)) (hk : PySem.W.keepIn X.K (.ref f) = true) (hb : KBinds X.K fd ps ks g gV) (hx : Passes CX X E)
    (hkw : PK X kws tk) (hall : (backToKw pos (keywordEach kws X.env)).all (·.1.isSome) = true := by rfl) (hks : (backToKw pos (keywordEach kws X.env)).filterMap (·.1) = ks := by rfl)
    (hdb : (x == ("__debug__" : Str)) = false := by decide)
    (hpl : ((backTo pos (starEach [] X.env)).any (·.1) || (backToKw pos (keywordEach kws X.env)).any (·.1.isNone)) = false := by rfl) :
    PE X (.Call (.Name x p) [] kws pos) (tCallK sp gV E tNil tk) := by
  refine ⟨fun pins s σ H Q I h => ?_⟩
  refine wpAny_Call_Name_kw (ld_glob I hg hm ?_ hdb)
  refine PySem.W.callWith_KW0 (h₀ := X.base) I.ok.mod.kin hk hall ?_ hpl
  refine thn (hkw.run pos pins s σ H _ I h) fun ws s2 ⟨zs, H2, I2, rz, q2⟩ => ⟨I2.kIn, ?_⟩
  rw [hks]
  exact run_fnk F hr hb hx I2 .nil rz q2
end
end L2

/-! readings, step by step -/
namespace L2
open PySem PySem.Spec PyProof.Rows
section
variable {σ : St} {H : Hp} {Q : VK} {v x y : V} {te ta tb : TE} {tA tB' : TA} {t u : TT} {D : Ends} {t1 t2 : TS} {i : Nat} {a b : Int}
theorem r_var (h : σ[i]? = some (some v)) (k : Q v H) : tVar i σ H Q := ⟨v, h, k⟩
theorem r_c (k : Q v H) : tC v σ H Q := k
theorem r_op {r : R2} (k : ta σ H fun x H1 => tb σ H1 fun y H2 => r x y H2 Q) : tOp r ta tb σ H Q := k
theorem r_un {r : V → Hp → VK → Prop} (k : ta σ H fun x H1 => r x H1 Q) : tUn r ta σ H Q := k
theorem r_cb {r : List V → Hp → VK → Prop} (k : tA σ H fun vs H1 => r vs H1 Q) : tCB r tA σ H Q := k
theorem r_call {sp : Sp} {dvs : List V} {E : XK} (k : tA σ H fun vs H1 => sp (vs ++ dvs) H1 Q E) : tCall sp dvs E tA σ H Q := k
theorem r_cons {QA : List V → Hp → Prop} (k : ta σ H fun x H1 => tA σ H1 fun xs H2 => QA (x :: xs) H2) : tCons ta tA σ H QA := k
theorem r_nil {QA : List V → Hp → Prop} (k : QA [] H) : tNil σ H QA := k
theorem r_tup (k : tA σ H fun xs H1 => xs.length ≤ sizeLine ∧ ∀ p, H1 p = none → Q (.ref p) (upd H1 p (.tup xs))) : tTup tA σ H Q := k
theorem r_lst (k : tA σ H fun xs H1 => xs.length ≤ sizeLine ∧ ∀ p, H1 p = none → Q (.ref p) (upd H1 p (.lst xs))) : tLst tA σ H Q := k
theorem r_I0 {g : Int → Int → V} (k : Q (g a b) H) : rI0 g (.int a) (.int b) H Q := ⟨a, b, rfl, rfl, k⟩
theorem r_I {C : Int → Int → Prop} {g : Int → Int → V} (c : C a b) (k : Q (g a b) H) : rI C g (.int a) (.int b) H Q := ⟨a, b, rfl, rfl, c, k⟩
theorem r_eq (c : scal x y = true) (k : Q (.bl (decide (x = y))) H) : rEq x y H Q := ⟨c, k⟩
theorem r_ne (c : scal x y = true) (k : Q (.bl (!decide (x = y))) H) : rNe x y H Q := ⟨c, k⟩
theorem r_eqI (k : Q (.bl (a == b)) H) : rEq (.int a) (.int b) H Q := ⟨rfl, by rw [dec_int]; exact k⟩
theorem r_neI (k : Q (.bl (!(a == b))) H) : rNe (.int a) (.int b) H Q := ⟨rfl, by rw [dec_int]; exact k⟩
theorem r_eqB {a b : Bool} (k : Q (.bl (a == b)) H) : rEq (.bl a) (.bl b) H Q := ⟨rfl, by rw [dec_bl]; exact k⟩
theorem r_test {Qb : Bool → Hp → Prop} (k : te σ H fun x H' => ∃ k, x = .bl k ∧ Qb k H') : tTest te σ H Qb := k
theorem r_B {Qb : Bool → Hp → Prop} (k : te σ H fun x H' => ∃ k, x = .bl k ∧ Qb k H') : tB te σ H Qb := k
theorem r_not {Qb : Bool → Hp → Prop} (k : t σ H fun c H1 => Qb (!c) H1) : tNot t σ H Qb := k
theorem r_and {Qb : Bool → Hp → Prop} (k : t σ H fun c H1 => if c = true then u σ H1 Qb else Qb false H1) : tAnd t u σ H Qb := k
theorem r_or {Qb : Bool → Hp → Prop} (k : t σ H fun c H1 => if c = true then Qb true H1 else u σ H1 Qb) : tOr t u σ H Qb := k
theorem r_andV (k : ta σ H fun x H1 => ∃ c, x = .bl c ∧ if c = true then tb σ H1 Q else Q (.bl false) H1) : tAndV ta tb σ H Q := k
theorem r_orV (k : ta σ H fun x H1 => ∃ c, x = .bl c ∧ if c = true then Q (.bl true) H1 else tb σ H1 Q) : tOrV ta tb σ H Q := k
theorem r_notV (k : ta σ H fun x H1 => ∃ c, x = .bl c ∧ Q (.bl (!c)) H1) : tNotV ta σ H Q := k
theorem r_if (k : t σ H fun c H1 => if c = true then ta σ H1 Q else tb σ H1 Q) : tIf t ta tb σ H Q := k
theorem r_seqAsg (k : te σ H fun x H1 => t2 D (σ.set i (some x)) H1) : tSeq (tAsg te (gName i)) t2 D σ H := k
theorem r_asg (k : te σ H fun x H1 => D.nx (σ.set i (some x)) H1) : tAsg te (gName i) D σ H := k
theorem r_seqSub {to ti : TE} {ts : TSet} (k : te σ H fun x H1 => to σ H1 fun o H2 => ti σ H2 fun j H3 => ts o j x H3 fun H4 => t2 D σ H4) : tSeq (tAsg te (gSub to ti ts)) t2 D σ H := k
theorem r_sub {to ti : TE} {ts : TSet} (k : te σ H fun x H1 => to σ H1 fun o H2 => ti σ H2 fun j H3 => ts o j x H3 fun H4 => D.nx σ H4) : tAsg te (gSub to ti ts) D σ H := k
theorem r_seqPar {j : Nat} (k : tA σ H fun vs H1 => ∃ v w, vs = [v, w] ∧ t2 D ((σ.set i (some v)).set j (some w)) H1) : tSeq (tPar i j tA) t2 D σ H := k
theorem r_par {j : Nat} (k : tA σ H fun vs H1 => ∃ v w, vs = [v, w] ∧ D.nx ((σ.set i (some v)).set j (some w)) H1) : tPar i j tA D σ H := k
theorem r_ret (k : te σ H D.rt) : tRet te D σ H := k
theorem r_seqDrop (k : te σ H fun _ H1 => t2 D σ H1) : tSeq (tDrop te) t2 D σ H := k
theorem r_drop (k : te σ H fun _ H1 => D.nx σ H1) : tDrop te D σ H := k
theorem r_seqIf {c : TT} {t3 : TS} (k : c σ H fun b H1 => if b = true then t1 { D with nx := t3 D } σ H1 else t2 { D with nx := t3 D } σ H1) : tSeq (tIfS c t1 t2) t3 D σ H := k
theorem r_ifS {c : TT} (k : c σ H fun b H1 => if b = true then t1 D σ H1 else t2 D σ H1) : tIfS c t1 t2 D σ H := k
theorem r_gname {QG : St → Hp → Prop} (k : QG (σ.set i (some v)) H) : gName i v σ H QG := k
theorem r_cutIf {c : TT} {t3 : TS} (M : St → Hp → Prop) (k : c σ H fun b H1 => if b = true then t1 { D with nx := M } σ H1 else t2 { D with nx := M } σ H1) (k2 : ∀ σ' H', M σ' H' → t3 D σ' H') : Evl.tCut (tIfS c t1 t2) t3 D σ H := ⟨M, k, k2⟩
theorem r_yes {Qb : Bool → Hp → Prop} (k : Qb true H) : tYes σ H Qb := k
theorem r_callK {sp : Sp} {gV : List V → List V → List V} {E : XK} {tk : TA} (k : tA σ H fun vs H1 => tk σ H1 fun zs H2 => sp (gV vs zs) H2 Q E) : tCallK sp gV E tA tk σ H Q := k
theorem r_sl {r : V → Option Int → Option Int → Hp → VK → Prop} {tl th : TO} (k : te σ H fun x H1 => tl σ H1 fun l H2 => th σ H2 fun u H3 => r x l u H3 Q) : tSl r te tl th σ H Q := k
theorem r_nopart {QO : Option Int → Hp → Prop} (k : QO none H) : tNoPart σ H QO := k
theorem r_part {QO : Option Int → Hp → Prop} (k : te σ H fun x H1 => ∃ i, x = .int i ∧ QO (some i) H1) : tPart te σ H QO := k
theorem r_bm {K : PySem.W.Frag} {T : String} {r : V → List V → Hp → VK → Prop} (k : te σ H fun x H1 => tyV K T x H1 ∧ tA σ H1 fun xs H2 => r x xs H2 Q) : tBM K T r te tA σ H Q := k
theorem r_bm0 {K : PySem.W.Frag} {T : String} {r : V → List V → Hp → VK → Prop} (k : te σ H fun x H1 => tyV K T x H1 ∧ r x [] H1 Q) : tBM0 K T r te σ H Q := k
theorem r_gtup {K : PySem.W.Frag} {n : Nat} {g : TGs} {a : Addr} {xs : List V} {QG : St → Hp → Prop} (h : SqT K H a xs) (hn : xs.length = n) (k : g xs σ H QG) : gTup K n g (.ref a) σ H QG := ⟨a, xs, rfl, h, hn, k⟩
theorem r_gcons {g : TG} {u : TGs} {xs : List V} {QG : St → Hp → Prop} (k : g v σ H fun σ' H' => u xs σ' H' QG) : gCons g u (v :: xs) σ H QG := ⟨v, xs, rfl, k⟩
theorem r_gnil {QG : St → Hp → Prop} (k : QG σ H) : gNil [] σ H QG := ⟨rfl, k⟩
theorem r_gsub {to ti : TE} {ts : TSet} {QG : St → Hp → Prop} (k : to σ H fun o H1 => ti σ H1 fun j H2 => ts o j v H2 fun H3 => QG σ H3) : gSub to ti ts v σ H QG := k
theorem r_seqAsgG {g : TG} (k : te σ H fun x H1 => g x σ H1 (t2 D)) : tSeq (tAsg te g) t2 D σ H := k
theorem r_asgG {g : TG} (k : te σ H fun x H1 => g x σ H1 D.nx) : tAsg te g D σ H := k
theorem r_next (k : D.nx σ H) : tNext D σ H := k
theorem r_ixL {K : PySem.W.Frag} {p : Addr} {xs : List V} (h : SqL K H p xs) (ha : atI xs a = some v) (k : Q v H) : rIxL K (.ref p) (.int a) H Q := ⟨p, xs, a, v, rfl, rfl, h, ha, k⟩
theorem r_ixT {K : PySem.W.Frag} {p : Addr} {xs : List V} (h : SqT K H p xs) (ha : atI xs a = some v) (k : Q v H) : rIxT K (.ref p) (.int a) H Q := ⟨p, xs, a, v, rfl, rfl, h, ha, k⟩
theorem r_setL {p : Addr} {xs : List V} {j : Nat} {Qh : Hp → Prop} (h : H p = some (.lst xs)) (hj : ixN xs.length a = some j) (k : Qh (upd H p (.lst (xs.set j v)))) : rSetL (.ref p) (.int a) v H Qh := ⟨p, xs, a, j, rfl, rfl, h, hj, k⟩
theorem Same.new {H H1 : Hp} {p : Addr} {o : HO} (e : Same H H1) (np : H1 p = none) : Same H (upd H1 p o) := fun b u h => by
  have h1 := e b u h
  rw [upd_ne (ne_of_none h1 np)]
  exact h1
theorem Same.new0 {H : Hp} {p : Addr} {o : HO} (np : H p = none) : Same H (upd H p o) := (Same.refl H).new np
theorem Same.tup {K : PySem.W.Frag} {H H' : Hp} {a : Addr} {xs : List V} (e : Same H H') (h : SqT K H a xs) : SqT K H' a xs := by
  rcases h with (h | ⟨o, h⟩) | h
  · exact .inl (.inl (e _ _ h))
  · exact .inl (.inr ⟨o, e _ _ h⟩)
  · exact .inr h
end

theorem iteFb {b : Bool} {A B : Prop} (e : b = false) (h : B) : if b = true then A else B := by
  subst e
  exact iteF h
theorem iteTb {b : Bool} {A B : Prop} (e : b = true) (h : A) : if b = true then A else B := by
  subst e
  exact iteT h
/-- a tuple of whole numbers stands at t -/
def TupI (H : Hp) (t : Addr) (ns : List Int) : Prop := H t = some (.tup (ns.map V.int))
theorem TupI.same {H H' : Hp} {t : Addr} {ns : List Int} (h : TupI H t ns) (e : Same H H') : TupI H' t ns := e _ _ h
theorem TupI.sq {K : PySem.W.Frag} {H : Hp} {t : Addr} {ns : List Int} (h : TupI H t ns) : SqT K H t (ns.map V.int) := SqT.of h
theorem TupI.new {H : Hp} {t : Addr} {ns : List Int} {xs : List V} (e : xs = ns.map V.int) : TupI (upd H t (.tup xs)) t ns := by
  unfold TupI
  rw [upd_same, e]
/-- a list of whole numbers stands at l -/
def LstI (H : Hp) (t : Addr) (ns : List Int) : Prop := H t = some (.lst (ns.map V.int))
theorem dpAll_ints {K : PySem.W.Frag} {H : Hp} : ∀ ns : List Int, DpAll K H (ns.map V.int) (ns.map PyData.int)
  | [] => .nil
  | n :: r => .cons (.int n) (dpAll_ints r)
theorem canLay_ints : ∀ ns : List Int, PyData.canLayAll0 (ns.map PyData.int) = true
  | [] => rfl
  | n :: r => canLay_ints r
theorem depth_ints : ∀ ns : List Int, PyData.depthAll (ns.map PyData.int) = 0
  | [] => rfl
  | n :: r => by
    show max 0 (PyData.depthAll (r.map PyData.int)) = 0
    rw [depth_ints r]
    rfl
theorem shaped_tup (ns : List Int) : SeqAt.shaped (.tuple (ns.map PyData.int)) = true := by
  unfold SeqAt.shaped
  show (PyData.canLayAll0 (ns.map PyData.int) && decide (PyData.depthAll (ns.map PyData.int) + 1 ≤ 64)) = true
  rw [canLay_ints, depth_ints]
  rfl
theorem shaped_lst (ns : List Int) : SeqAt.shaped (.list (ns.map PyData.int)) = true := shaped_tup ns
theorem eqD_tup {K : PySem.W.Frag} {H : Hp} {a b : Addr} {ns ms : List Int} {Q : VK} (ha : SqT K H a (ns.map V.int)) (hb : SqT K H b (ms.map V.int)) (k : Q (.bl (decide (ns = ms))) H) : rEqD K (.ref a) (.ref b) H Q :=
  ⟨_, _, .tup ha (dpAll_ints ns), .tup hb (dpAll_ints ms), shaped_tup ns, shaped_tup ms, by
    show Q (.bl (PyData.eqvAll (ns.map PyData.int) (ms.map PyData.int))) H
    rw [PySem.W.ked_eqvAll]
    exact k⟩
theorem neD_tup {K : PySem.W.Frag} {H : Hp} {a b : Addr} {ns ms : List Int} {Q : VK} (ha : SqT K H a (ns.map V.int)) (hb : SqT K H b (ms.map V.int)) (k : Q (.bl (!decide (ns = ms))) H) : rNeD K (.ref a) (.ref b) H Q :=
  ⟨_, _, .tup ha (dpAll_ints ns), .tup hb (dpAll_ints ms), shaped_tup ns, shaped_tup ms, by
    show Q (.bl (!PyData.eqvAll (ns.map PyData.int) (ms.map PyData.int))) H
    rw [PySem.W.ked_eqvAll]
    exact k⟩
theorem eqD_lst {K : PySem.W.Frag} {H : Hp} {a b : Addr} {ns ms : List Int} {Q : VK} (ha : SqL K H a (ns.map V.int)) (hb : SqL K H b (ms.map V.int)) (k : Q (.bl (decide (ns = ms))) H) : rEqD K (.ref a) (.ref b) H Q :=
  ⟨_, _, .lst ha (dpAll_ints ns), .lst hb (dpAll_ints ms), shaped_lst ns, shaped_lst ms, by
    show Q (.bl (PyData.eqvAll (ns.map PyData.int) (ms.map PyData.int))) H
    rw [PySem.W.ked_eqvAll]
    exact k⟩
theorem neD_lst {K : PySem.W.Frag} {H : Hp} {a b : Addr} {ns ms : List Int} {Q : VK} (ha : SqL K H a (ns.map V.int)) (hb : SqL K H b (ms.map V.int)) (k : Q (.bl (!decide (ns = ms))) H) : rNeD K (.ref a) (.ref b) H Q :=
  ⟨_, _, .lst ha (dpAll_ints ns), .lst hb (dpAll_ints ms), shaped_lst ns, shaped_lst ms, by
    show Q (.bl (!PyData.eqvAll (ns.map PyData.int) (ms.map PyData.int))) H
    rw [PySem.W.ked_eqvAll]
    exact k⟩

/-- l + m, lists that are read (the script too) -/
def rCatR (K : PySem.W.Frag) : R2 := fun x y H Q => ∃ l b xs zs, x = .ref l ∧ y = .ref b ∧ SqL K H l xs ∧ SqL K H b zs ∧ xs.length + zs.length ≤ sizeLine ∧ ∀ p, H p = none → Q (.ref p) (upd H p (.lst (xs ++ zs)))
theorem op_catR {X : Cx} : OpR X (binaryOp .Add) (rCatR X.K) := by
  intro pins s σ H x y v u Q I rx ry h
  obtain ⟨l, b, xs, zs, rfl, rfl, hL, hB, hz, q⟩ := h
  cases rx
  cases ry
  obtain ⟨us, r1, p1, _⟩ := I.list hL
  obtain ⟨ws, r2, p2, _⟩ := I.list hB
  obtain ⟨⟨c1, d1, e1, sl1⟩, n1, g1, k1, z1, q1⟩ := p1
  obtain ⟨⟨c2, d2, e2, sl2⟩, n2, g2, k2, z2, q2⟩ := p2
  dsimp only at k1 z1 q1 k2 z2 q2
  subst k1 z1 q1 k2 z2 q2
  have hl1 := r1.length
  have hl2 := r2.length
  refine concat_meets ⟨_, g1, rfl⟩ ⟨_, g2, rfl⟩ noFill_list_add seq_list_add PySem.F.slot_list_add PySem.F.entry_list_add (PySem.F.args_list_add_2 _ _) (list_addW l b us.toArray ws.toArray n1 n2 none none sl1 sl2 (by rw [List.size_toArray, List.size_toArray]; omega)) ⟨g1, g2, ?_⟩
  have ea : us.toArray ++ ws.toArray = (us ++ ws).toArray := by simp
  rw [ea]
  exact ⟨.ref _, _, I.lnew (t' := s.toks) (r1.append r2) (by rw [List.length_append]; omega), rfl, q _ I.fresh⟩

/-! ### the springs of the laws -/
def MM : Int := 618970019642690137449562111
/-- a spring stands at p -/
def Spr (H : Hp) (p : Addr) : Prop := ∃ a b c : Int, H p = some (.lst [.int a, .int b, .int c]) ∧ 0 ≤ b ∧ b < MM
/-- all but p is as it was -/
def But (p : Addr) (H H' : Hp) : Prop := ∀ b o, b ≠ p → H b = some o → H' b = some o
theorem But.refl (p : Addr) (H : Hp) : But p H H := fun _ _ _ h => h
theorem But.trans {p : Addr} {H H1 H2 : Hp} (a : But p H H1) (b : But p H1 H2) : But p H H2 := fun c o n h => b c o n (a c o n h)
theorem But.new {p q : Addr} {H H1 : Hp} {o : HO} (a : But p H H1) (nq : H1 q = none) : But p H (upd H1 q o) := fun c u n h => by
  have h1 := a c u n h
  rw [upd_ne (ne_of_none h1 nq)]
  exact h1
theorem But.mut {p : Addr} {H H1 : Hp} {o : HO} (a : But p H H1) : But p H (upd H1 p o) := fun c u n h => by
  rw [upd_ne n]
  exact a c u n h
theorem But.same {p : Addr} {H H1 H2 : Hp} (a : But p H H1) (b : Same H1 H2) : But p H H2 := fun c u n h => b c u (a c u n h)
theorem Same.but {p : Addr} {H H1 : Hp} (a : Same H H1) : But p H H1 := fun c u _ h => a c u h
theorem But.free {p q : Addr} {H H1 : Hp} (a : But p H H1) (h : H1 q = none) (n : q ≠ p) : H q = none := by
  cases e : H q with
  | none => rfl
  | some o =>
    rw [a q o n e] at h
    cases h
/-- a spring that was made on the way -/
theorem But.of_new {p : Addr} {H H1 H2 : Hp} (np : H p = none) (s : Same H H1) (a : But p H1 H2) : Same H H2 := fun b o h => a b o (ne_of_none h np) (s b o h)
theorem Spr.same {p : Addr} {H H1 : Hp} (s : Same H H1) (h : Spr H p) : Spr H1 p := by
  obtain ⟨a, b, c, e, r⟩ := h
  exact ⟨a, b, c, s _ _ e, r⟩
theorem Spr.ne {p q : Addr} {H : Hp} (h : Spr H p) (n : H q = none) : p ≠ q := by
  obtain ⟨a, b, c, e, r⟩ := h
  exact ne_of_none e n
theorem Spr.new {p q : Addr} {H : Hp} {o : HO} (h : Spr H p) (n : H q = none) : Spr (upd H q o) p := h.same (Same.new0 n)
theorem Spr.put {H : Hp} {p D : Addr} {o : HO} (h : Spr H p) (n : D ≠ p) : Spr (upd H D o) p := by
  obtain ⟨x1, x2, x3, e1, e2⟩ := h
  exact ⟨x1, x2, x3, by rw [upd_ne (Ne.symm n)]; exact e1, e2⟩
theorem Spr.here {p : Addr} {H : Hp} (h : Spr H p) : ∃ o, H p = some o := by
  obtain ⟨a, b, c, e, r⟩ := h
  exact ⟨_, e⟩

def spSpring : Sp := fun vs H Q _ => ∃ c k : Int, vs = [.int c, .int k] ∧ ∀ p H', H p = none → Same H H' → Spr H' p → Q (.ref p) H'
def spSip : Sp := fun vs H Q _ => ∃ (p : Addr) (m : Int), vs = [.ref p, .int m] ∧ Spr H p ∧ 1 ≤ m ∧ m < 2 ^ 250 ∧ ∀ r H', 0 ≤ r → r < m → But p H H' → Spr H' p → Q (.int r) H'
def spFar : Sp := fun vs H Q _ => ∃ (p : Addr) (w : Int), vs = [.ref p, .int w] ∧ Spr H p ∧ 1 ≤ w ∧ w < 2 ^ 250 ∧ ∀ r H', -w < r → r < w → But p H H' → Spr H' p → Q (.int r) H'
def spTruth : Sp := fun vs H Q _ => ∃ a b : Bool, vs = [.bl a, .bl b] ∧ Q (.bl (a == b)) H
def spLaw (K : PySem.W.Frag) : Sp := fun vs H Q _ => ∃ (a : Addr) (ns : List Int), vs = [.ref a] ∧ SqL K H a (ns.map V.int) ∧ ns.length ≤ 63 ∧ (∀ z ∈ ns, Builtin.Int.intBits z ≤ 1048576) ∧ ∀ H', Q (.bl true) H'

theorem cut_ints (ns : List Int) (k : Nat) : cutV (ns.map V.int) none (some (k : Int)) = (ns.take k).map V.int := by
  unfold cutV
  rw [HT.sIx_none, HT.sIx_nat, List.drop_zero, List.length_map, Nat.sub_zero, ← List.map_take]
  congr 1
  rw [List.take_eq_take_iff]
  omega
/-- the cells of a script: the first k, or a 0 -/
def cells (ns : List Int) (k : Nat) : List Int := ns.take k ++ List.replicate (if ns.length = 0 then 1 else 0) 0
theorem cells_len {ns : List Int} (h : ns.length ≤ 63) (k : Nat) : (cells ns k).length ≤ 64 := by
  unfold cells
  rw [List.length_append, List.length_take, List.length_replicate]
  split <;> omega
theorem cells_v (ns : List Int) (k : Nat) : (ns.take k).map V.int ++ (List.replicate ((if ns.length = 0 then (1 : Int) else 0).toNat) [V.int 0]).flatten = (cells ns k).map V.int := by
  unfold cells
  rw [List.map_append]
  congr 1
  split <;> rfl
/-- keywords alone -/
def kwG {α : Type} : List α → List α → List α
  | [], ws => ws
  | _ :: _, _ => []
theorem kwG_rel {vs : List V} {us : List Value} {zs : List V} {ws : List Value} (h : Vals vs us) (k : Vals zs ws) : Vals (kwG vs zs) (kwG us ws) := by
  cases h with
  | nil => exact k
  | cons _ _ => exact .nil
/-! ### greatest common divisors -/
def gcdL : List Int → Nat
  | [] => 0
  | a :: r => Nat.gcd a.natAbs (gcdL r)
theorem gcdL_foldl : ∀ (l : List Int) (g : Nat), l.foldl (fun g a => Nat.gcd g a.natAbs) g = Nat.gcd g (gcdL l)
  | [], g => (Nat.gcd_zero_right g).symm
  | a :: r, g => by
    rw [List.foldl_cons, gcdL_foldl r, gcdL, Nat.gcd_assoc]
theorem gcdL_append : ∀ (l r : List Int), gcdL (l ++ r) = Nat.gcd (gcdL l) (gcdL r)
  | [], r => (Nat.gcd_zero_left _).symm
  | a :: l, r => by rw [List.cons_append, gcdL, gcdL, gcdL_append l r, Nat.gcd_assoc]
theorem gcdL_one (a : Int) : gcdL [a] = a.natAbs := Nat.gcd_zero_right _
theorem gcdL_reverse : ∀ l : List Int, gcdL l.reverse = gcdL l
  | [] => rfl
  | a :: r => by rw [List.reverse_cons, gcdL_append, gcdL_one, gcdL_reverse r, gcdL, Nat.gcd_comm]
theorem gcdL_neg : ∀ l : List Int, gcdL (l.map fun a => 0 - a) = gcdL l
  | [] => rfl
  | a :: r => by
    rw [List.map_cons, gcdL, gcdL, gcdL_neg r]
    have e : (0 - a).natAbs = a.natAbs := by omega
    rw [e]
theorem gcdL_mul : ∀ (l : List Int) (k : Int), gcdL (l.map fun a => a * k) = gcdL l * k.natAbs
  | [], k => (Nat.zero_mul _).symm
  | a :: r, k => by rw [List.map_cons, gcdL, gcdL, gcdL_mul r, Int.natAbs_mul, Nat.gcd_mul_right]
theorem gcdL_dvd : ∀ (l : List Int) (a : Int), a ∈ l → ((gcdL l : Nat) : Int) ∣ a
  | b :: r, a, h => by
    rcases List.mem_cons.mp h with e | e
    · subst e
      exact Int.ofNat_dvd_left.mpr (Nat.gcd_dvd_left _ _)
    · exact Int.dvd_trans (Int.ofNat_dvd.mpr (Nat.gcd_dvd_right _ _)) (gcdL_dvd r a e)
theorem dvd_gcdL {d : Nat} : ∀ (l : List Int), (∀ a ∈ l, (d : Int) ∣ a) → d ∣ gcdL l
  | [], _ => Nat.dvd_zero d
  | a :: r, h => Nat.dvd_gcd (Int.ofNat_dvd_left.mp (h a List.mem_cons_self)) (dvd_gcdL r fun b hb => h b (List.mem_cons_of_mem _ hb))
theorem gcdL_lt {B : Nat} (hB : 0 < B) : ∀ (l : List Int), (∀ a ∈ l, a.natAbs < B) → gcdL l < B
  | [], _ => hB
  | a :: r, h => by
    have h1 := h a List.mem_cons_self
    have h2 := gcdL_lt hB r fun b hb => h b (List.mem_cons_of_mem _ hb)
    rw [gcdL]
    by_cases e : a.natAbs = 0
    · rw [e, Nat.gcd_zero_left]
      exact h2
    · exact Nat.lt_of_le_of_lt (Nat.gcd_le_left _ (Nat.pos_of_ne_zero e)) h1
theorem gcdL_zero {l : List Int} (h : gcdL l = 0) : ∀ a ∈ l, a = 0 := fun a ha => by
  have q := gcdL_dvd l a ha
  rw [h] at q
  exact Int.zero_dvd.mp q
theorem gcdL_of_zero : ∀ {l : List Int}, (∀ a ∈ l, a = 0) → gcdL l = 0
  | [], _ => rfl
  | a :: r, h => by
    rw [gcdL, h a List.mem_cons_self, gcdL_of_zero fun b hb => h b (List.mem_cons_of_mem _ hb)]
    rfl
/-- the seen place ahead -/
def firstL (l : List Int) : List Int := if gcdL l = 0 then l else l.map fun a => a / ((gcdL l : Nat) : Int)
theorem firstL_len (l : List Int) : (firstL l).length = l.length := by
  unfold firstL
  split
  · rfl
  · exact List.length_map _
theorem firstL_back {l : List Int} : (firstL l).map (fun a => a * ((gcdL l : Nat) : Int)) = if gcdL l = 0 then l.map (fun _ => 0) else l := by
  unfold firstL
  split
  · rename_i h
    rw [h]
    exact List.map_congr_left fun a _ => Int.mul_zero a
  · rw [List.map_map]
    conv => rhs; rw [← List.map_id l]
    exact List.map_congr_left fun a ha => Int.ediv_mul_cancel (gcdL_dvd l a ha)
theorem firstL_gcd {l : List Int} (h : gcdL l ≠ 0) : gcdL (firstL l) = 1 := by
  have e := firstL_back (l := l)
  rw [if_neg h] at e
  have q := gcdL_mul (firstL l) ((gcdL l : Nat) : Int)
  rw [e, Int.natAbs_natCast] at q
  have : 1 * gcdL l = gcdL (firstL l) * gcdL l := by rw [Nat.one_mul]; exact q
  exact (Nat.eq_of_mul_eq_mul_right (Nat.pos_of_ne_zero h) this).symm
theorem gcdL_same {l m : List Int} (h : ∀ d : Nat, (∀ a ∈ l, (d : Int) ∣ a) ↔ ∀ a ∈ m, (d : Int) ∣ a) : gcdL l = gcdL m := by
  refine Nat.dvd_antisymm ?_ ?_
  · exact dvd_gcdL m ((h _).mp (gcdL_dvd l))
  · exact dvd_gcdL l ((h _).mpr (gcdL_dvd m))
theorem all_set {P : Int → Prop} {l : List Int} {i : Nat} {z : Int} (h : ∀ j a, j ≠ i → l[j]? = some a → P a) (hz : P z) : ∀ a ∈ l.set i z, P a := by
  intro a ha
  obtain ⟨j, hj⟩ := List.getElem?_of_mem ha
  by_cases e : j = i
  · subst e
    have hl := (List.getElem?_eq_some_iff.mp hj).1
    rw [List.length_set] at hl
    rw [List.getElem?_set_self hl] at hj
    cases hj
    exact hz
  · rw [List.getElem?_set_ne (Ne.symm e)] at hj
    exact h j a e hj
theorem set_other {l : List Int} {i j : Nat} {z a : Int} (n : j ≠ i) (h : l[j]? = some a) : a ∈ l.set i z :=
  List.mem_of_getElem? (i := j) (by rw [List.getElem?_set_ne (Ne.symm n)]; exact h)
theorem set_here {l : List Int} {i : Nat} {z a : Int} (h : l[i]? = some a) : z ∈ l.set i z :=
  List.mem_of_getElem? (i := i) (List.getElem?_set_self (List.getElem?_eq_some_iff.mp h).1)
/-- a multiple of another coordinate added -/
theorem gcdL_shear {l : List Int} {i j : Nat} {x y k : Int} (n : j ≠ i) (hx : l[i]? = some x) (hy : l[j]? = some y) : gcdL (l.set i (x + k * y)) = gcdL l := by
  refine gcdL_same fun d => ⟨fun h a ha => ?_, fun h => all_set (fun m a _ hm => h a (List.mem_of_getElem? hm)) (Int.dvd_add (h x (List.mem_of_getElem? hx)) (Int.dvd_trans (h y (List.mem_of_getElem? hy)) (Int.dvd_mul_left _ _)))⟩
  obtain ⟨m, hm⟩ := List.getElem?_of_mem ha
  by_cases e : m = i
  · subst e
    rw [hx] at hm
    cases hm
    have h1 := h _ (set_here (z := x + k * y) hx)
    have h2 := Int.dvd_trans (h y (set_other n hy)) (Int.dvd_mul_left k y)
    have h3 := Int.dvd_sub h1 h2
    rwa [Int.add_sub_cancel] at h3
  · exact h a (set_other e hm)
/-- two coordinates exchanged, one with its sign turned -/
theorem gcdL_swap {l : List Int} {i j : Nat} {x y : Int} (n : j ≠ i) (hx : l[i]? = some x) (hy : l[j]? = some y) : gcdL ((l.set i y).set j (0 - x)) = gcdL l := by
  have hx' : (0 - x) ∈ (l.set i y).set j (0 - x) := set_here (a := y) (by rw [List.getElem?_set_ne (Ne.symm n)]; exact hy)
  have hy' : y ∈ (l.set i y).set j (0 - x) := set_other (j := i) (Ne.symm n) (List.getElem?_set_self (List.getElem?_eq_some_iff.mp hx).1)
  refine gcdL_same fun d => ⟨fun h a ha => ?_, fun h => all_set (fun m a hm hma => ?_) (Int.dvd_sub (Int.dvd_zero _) (h x (List.mem_of_getElem? hx)))⟩
  · obtain ⟨m, hm⟩ := List.getElem?_of_mem ha
    by_cases e : m = i
    · subst e
      rw [hx] at hm
      cases hm
      have h1 := Int.dvd_sub (Int.dvd_zero (d : Int)) (h _ hx')
      have e2 : 0 - (0 - x) = x := by omega
      rwa [e2] at h1
    · by_cases e2 : m = j
      · subst e2
        rw [hy] at hm
        cases hm
        exact h _ hy'
      · exact h a (set_other e2 (by rw [List.getElem?_set_ne (Ne.symm e)]; exact hm))
  · by_cases e : m = i
    · subst e
      rw [List.getElem?_set_self (List.getElem?_eq_some_iff.mp hx).1] at hma
      cases hma
      exact h y (List.mem_of_getElem? hy)
    · rw [List.getElem?_set_ne (Ne.symm e)] at hma
      exact h a (List.mem_of_getElem? hma)
theorem take_more {α : Type} : ∀ {l : List α} {i : Nat} {x : α}, l[i]? = some x → l.take (i + 1) = l.take i ++ [x]
  | [], i, x, h => by simp at h
  | a :: l, 0, x, h => by
    have e : a = x := Option.some.inj h
    subst e
    rfl
  | a :: l, i + 1, x, h => by
    have ih := take_more (l := l) (i := i) (x := x) h
    show a :: l.take (i + 1) = a :: l.take i ++ [x]
    rw [ih]
    rfl
theorem ints_at {ns : List Int} {i : Nat} {x : V} (h : (ns.map V.int)[i]? = some x) : ∃ z, ns[i]? = some z ∧ x = V.int z := by
  rw [List.getElem?_map] at h
  cases e : ns[i]? with
  | none =>
    rw [e] at h
    cases h
  | some z =>
    rw [e] at h
    exact ⟨z, rfl, (Option.some.inj h).symm⟩
theorem at_int {ns : List Int} {i : Int} (h0 : 0 ≤ i) (h1 : i < (ns.length : Int)) : ∃ x, ns[i.toNat]? = some x ∧ atI (ns.map V.int) i = some (.int x) := by
  have hi : i.toNat < ns.length := by omega
  refine ⟨ns[i.toNat], List.getElem?_eq_getElem hi, ?_⟩
  have e : i = ((i.toNat : Nat) : Int) := (Int.toNat_of_nonneg h0).symm
  exact at_of e (by rw [List.getElem?_map, List.getElem?_eq_getElem hi]; rfl)
theorem ix_int {ns : List Int} {i : Int} (h0 : 0 ≤ i) (h1 : i < (ns.length : Int)) : ixN (ns.map V.int).length i = some i.toNat := by
  rw [List.length_map]
  unfold ixN
  rw [if_pos h0, if_pos h1]
theorem rep_ints (n : Nat) : (List.replicate ((n : Int)).toNat [V.int 0]).flatten = (List.replicate n (0 : Int)).map V.int := by
  rw [Int.toNat_natCast]
  induction n with
  | zero => rfl
  | succ n ih => rw [List.replicate_succ, List.replicate_succ, List.flatten_cons, List.map_cons, ih]; rfl
theorem Spr.tupNe {H : Hp} {p t : Addr} {ns : List Int} (h : Spr H p) (ht : TupI H t ns) : t ≠ p := fun e => by
  obtain ⟨x1, x2, x3, e1, _⟩ := h
  unfold TupI at ht
  rw [e, e1] at ht
  cases ht
end L2

namespace K01
open PySem L2
def top (i : Nat) : Stmt := PySem.Challenge.pw_seenposts_k01_seen_places.main.body.getD i (.Pass ⟨0, 0, 0, 0⟩)
abbrev s_init : Stmt := inClass (top 4) 0
theorem sc_init : FnScope ["self", "value"] ["self", "value"] (defScope s_init) := ⟨rfl, rfl, rfl, by decide +kernel, rfl, by decide +kernel, by decide +kernel⟩
abbrev s_common_divisor : Stmt := top 2
abbrev N_common_divisor : List Str := ["place", "found", "number"]
theorem sc_common_divisor : FnScope N_common_divisor ["place"] (defScope s_common_divisor) := ⟨rfl, rfl, rfl, by decide +kernel, rfl, by decide +kernel, by decide +kernel⟩
abbrev s_divisor_of : Stmt := top 7
abbrev N_divisor_of : List Str := ["place"]
theorem sc_divisor_of : FnScope N_divisor_of ["place"] (defScope s_divisor_of) := ⟨rfl, rfl, rfl, by decide +kernel, rfl, by decide +kernel, by decide +kernel⟩
abbrev s_is_seen : Stmt := top 8
abbrev N_is_seen : List Str := ["place"]
theorem sc_is_seen : FnScope N_is_seen ["place"] (defScope s_is_seen) := ⟨rfl, rfl, rfl, by decide +kernel, rfl, by decide +kernel, by decide +kernel⟩
abbrev s_law_spring : Stmt := top 10
abbrev N_law_spring : List Str := ["_law_cell", "_law_k", "_law_state"]
theorem sc_law_spring : FnScope N_law_spring ["_law_cell", "_law_k"] (defScope s_law_spring) := ⟨rfl, rfl, rfl, by decide +kernel, rfl, by decide +kernel, by decide +kernel⟩
abbrev s_law_sip : Stmt := top 11
abbrev N_law_sip : List Str := ["_law_spring_here", "_law_many", "_law_mixed", "_law_found"]
theorem sc_law_sip : FnScope N_law_sip ["_law_spring_here", "_law_many"] (defScope s_law_sip) := ⟨rfl, rfl, rfl, by decide +kernel, rfl, by decide +kernel, by decide +kernel⟩
abbrev s_law_far : Stmt := top 12
abbrev N_law_far : List Str := ["_law_spring_here", "_law_wide", "_law_found", "_law_piece"]
theorem sc_law_far : FnScope N_law_far ["_law_spring_here", "_law_wide"] (defScope s_law_far) := ⟨rfl, rfl, rfl, by decide +kernel, rfl, by decide +kernel, by decide +kernel⟩
abbrev s_law_gcd : Stmt := top 13
abbrev N_law_gcd : List Str := ["_law_values", "_law_found", "_law_value", "_law_other"]
theorem sc_law_gcd : FnScope N_law_gcd ["_law_values"] (defScope s_law_gcd) := ⟨rfl, rfl, rfl, by decide +kernel, rfl, by decide +kernel, by decide +kernel⟩
abbrev s_law_truth : Stmt := top 14
abbrev N_law_truth : List Str := ["_law_found", "_law_due"]
theorem sc_law_truth : FnScope N_law_truth ["_law_found", "_law_due"] (defScope s_law_truth) := ⟨rfl, rfl, rfl, by decide +kernel, rfl, by decide +kernel, by decide +kernel⟩
abbrev s_law_spot : Stmt := top 15
abbrev N_law_spot : List Str := ["_law_spring_here", "_law_size", "_law_wide", "_law_factor", "_law_values", "_law_blank", "_law_k"]
theorem sc_law_spot : FnScope N_law_spot ["_law_spring_here", "_law_size"] (defScope s_law_spot) := ⟨rfl, rfl, rfl, by decide +kernel, rfl, by decide +kernel, by decide +kernel⟩
abbrev s_law_right : Stmt := top 16
abbrev N_law_right : List Str := ["_law_spring_here", "_law_flat", "_law_deep", "_law_spot_here", "_law_due", "_law_value"]
theorem sc_law_right : FnScope N_law_right ["_law_spring_here"] (defScope s_law_right) := ⟨rfl, rfl, rfl, by decide +kernel, rfl, by decide +kernel, by decide +kernel⟩
abbrev s_law : Stmt := top 17
abbrev N_law : List Str := ["_law_script", "_law_cells", "_law_k"]
theorem sc_law : FnScope N_law ["_law_script"] (defScope s_law) := ⟨rfl, rfl, rfl, by decide +kernel, rfl, by decide +kernel, by decide +kernel⟩
structure Ad where
  a_common_divisor : Addr
  f_common_divisor : FuncData
  a_divisor_of : Addr
  f_divisor_of : FuncData
  a_is_seen : Addr
  f_is_seen : FuncData
  a_law_spring : Addr
  f_law_spring : FuncData
  a_law_sip : Addr
  f_law_sip : FuncData
  a_law_far : Addr
  f_law_far : FuncData
  a_law_gcd : Addr
  f_law_gcd : FuncData
  a_law_truth : Addr
  f_law_truth : FuncData
  a_law_spot : Addr
  f_law_spot : FuncData
  a_law_right : Addr
  f_law_right : FuncData
  a_law : Addr
  f_law : FuncData
structure Txt (K : PySem.W.Frag) (mg : Str → Option Value) (A : Ad) : Prop where
  g_common_divisor : mg "common_divisor" = some (.ref A.a_common_divisor)
  k_common_divisor : PySem.W.keepIn K (.ref A.a_common_divisor) = true
  F_common_divisor : Fun K "common_divisor" "common_divisor" s_common_divisor A.a_common_divisor A.f_common_divisor
  b_common_divisor : Binds K A.f_common_divisor ["place"] []
  g_divisor_of : mg "divisor_of" = some (.ref A.a_divisor_of)
  k_divisor_of : PySem.W.keepIn K (.ref A.a_divisor_of) = true
  F_divisor_of : Fun K "divisor_of" "divisor_of" s_divisor_of A.a_divisor_of A.f_divisor_of
  b_divisor_of : Binds K A.f_divisor_of ["place"] []
  g_is_seen : mg "is_seen" = some (.ref A.a_is_seen)
  k_is_seen : PySem.W.keepIn K (.ref A.a_is_seen) = true
  F_is_seen : Fun K "is_seen" "is_seen" s_is_seen A.a_is_seen A.f_is_seen
  b_is_seen : Binds K A.f_is_seen ["place"] []
  g_law_spring : mg "_law_spring" = some (.ref A.a_law_spring)
  k_law_spring : PySem.W.keepIn K (.ref A.a_law_spring) = true
  F_law_spring : Fun K "_law_spring" "_law_spring" s_law_spring A.a_law_spring A.f_law_spring
  b_law_spring : Binds K A.f_law_spring ["_law_cell", "_law_k"] []
  g_law_sip : mg "_law_sip" = some (.ref A.a_law_sip)
  k_law_sip : PySem.W.keepIn K (.ref A.a_law_sip) = true
  F_law_sip : Fun K "_law_sip" "_law_sip" s_law_sip A.a_law_sip A.f_law_sip
  b_law_sip : Binds K A.f_law_sip ["_law_spring_here", "_law_many"] []
  g_law_far : mg "_law_far" = some (.ref A.a_law_far)
  k_law_far : PySem.W.keepIn K (.ref A.a_law_far) = true
  F_law_far : Fun K "_law_far" "_law_far" s_law_far A.a_law_far A.f_law_far
  b_law_far : Binds K A.f_law_far ["_law_spring_here", "_law_wide"] []
  g_law_gcd : mg "_law_gcd" = some (.ref A.a_law_gcd)
  k_law_gcd : PySem.W.keepIn K (.ref A.a_law_gcd) = true
  F_law_gcd : Fun K "_law_gcd" "_law_gcd" s_law_gcd A.a_law_gcd A.f_law_gcd
  b_law_gcd : Binds K A.f_law_gcd ["_law_values"] []
  g_law_truth : mg "_law_truth" = some (.ref A.a_law_truth)
  k_law_truth : PySem.W.keepIn K (.ref A.a_law_truth) = true
  F_law_truth : Fun K "_law_truth" "_law_truth" s_law_truth A.a_law_truth A.f_law_truth
  b_law_truth : Binds K A.f_law_truth ["_law_found", "_law_due"] []
  g_law_spot : mg "_law_spot" = some (.ref A.a_law_spot)
  k_law_spot : PySem.W.keepIn K (.ref A.a_law_spot) = true
  F_law_spot : Fun K "_law_spot" "_law_spot" s_law_spot A.a_law_spot A.f_law_spot
  b_law_spot : Binds K A.f_law_spot ["_law_spring_here", "_law_size"] []
  g_law_right : mg "_law_right" = some (.ref A.a_law_right)
  k_law_right : PySem.W.keepIn K (.ref A.a_law_right) = true
  F_law_right : Fun K "_law_right" "_law_right" s_law_right A.a_law_right A.f_law_right
  b_law_right : Binds K A.f_law_right ["_law_spring_here"] []
  g_law : mg "law" = some (.ref A.a_law)
  k_law : PySem.W.keepIn K (.ref A.a_law) = true
  F_law : Fun K "law" "law" s_law A.a_law A.f_law
  b_law : Binds K A.f_law ["_law_script"] []
  kb_is_seen : KBinds K A.f_is_seen ["place"] ["place"] kwG kwG
  n_bool : mg "bool" = none
  m_gcd : mg "gcd" = some (.builtin "math.gcd")
  n_int : mg "int" = none
  n_isinstance : mg "isinstance" = none
  n_len : mg "len" = none
  n_max : mg "max" = none
  n_range : mg "range" = none
  n_tuple : mg "tuple" = none
def spGcd (K : PySem.W.Frag) : Sp := fun vs H Q _ => ∃ (t : Addr) (ns : List Int), vs = [.ref t] ∧ SqT K H t (ns.map V.int) ∧ Q (.int (gcdL ns : Nat)) H
def spDiv (K : PySem.W.Frag) : Sp := fun vs H Q _ => ∃ (t : Addr) (ns : List Int), vs = [.ref t] ∧ SqT K H t (ns.map V.int) ∧ (ns.length = 2 ∨ ns.length = 3) ∧ ∀ H', Same H H' → Q (.int (gcdL ns : Nat)) H'
def spSeen (K : PySem.W.Frag) : Sp := fun vs H Q _ => ∃ (t : Addr) (ns : List Int), vs = [.ref t] ∧ SqT K H t (ns.map V.int) ∧ (ns.length = 2 ∨ ns.length = 3) ∧ ∀ H', Same H H' → Q (.bl (((gcdL ns : Nat) : Int) == 1)) H'
def spSpot : Sp := fun vs H Q _ => ∃ (p : Addr) (n : Nat), vs = [.ref p, .int (n : Int)] ∧ Spr H p ∧ (n = 2 ∨ n = 3) ∧ ∀ (t : Addr) (ns : List Int) (H' : Hp), But p H H' → Spr H' p → H t = none → TupI H' t ns → ns.length = n → (∀ a ∈ ns, a.natAbs < 2 ^ 250) → Q (.ref t) H'

local macro_rules | `(tactic| walk_at "rc") => `(tactic| first | done | decide | omega | exact Or.inl ⟨by omega, by omega⟩ | exact Or.inr ⟨by omega, by omega⟩ | exact ⟨by omega, by omega⟩ | exact ⟨by omega, by omega, by decide⟩ | exact ⟨by decide, by decide, by decide⟩)
local macro_rules | `(tactic| walk_at "rd1") => `(tactic| first
  | (with_reducible refine L2.r_op ?_)
  | (with_reducible refine L2.r_c ?_)
  | ((with_reducible show L2.tVar _ _ _ _); (refine L2.r_var rfl ?_))
  | (with_reducible refine L2.r_I0 ?_)
  | ((with_reducible show L2.rI _ _ _ _ _ _); (refine L2.r_I (by walk_at "rc") ?_))
  | (with_reducible refine L2.r_cons ?_)
  | (with_reducible refine L2.r_nil ?_)
  | (with_reducible refine L2.r_cb ?_)
  | (with_reducible refine L2.r_call ?_)
  | (with_reducible refine L2.r_lst ?_)
  | (with_reducible refine L2.r_tup ?_)
  | (with_reducible refine L2.r_eqI ?_)
  | (with_reducible refine L2.r_neI ?_)
  | (with_reducible refine L2.r_eqB ?_)
  | (with_reducible refine L2.r_test ?_)
  | (with_reducible refine L2.r_B ?_)
  | (with_reducible refine L2.r_not ?_)
  | (with_reducible refine L2.r_and ?_)
  | (with_reducible refine L2.r_or ?_)
  | (with_reducible refine L2.r_andV ?_)
  | (with_reducible refine L2.r_orV ?_)
  | (with_reducible refine L2.r_notV ?_)
  | (with_reducible refine L2.r_if ?_)
  | (with_reducible refine L2.r_seqAsg ?_)
  | (with_reducible refine L2.r_asg ?_)
  | (with_reducible refine L2.r_seqSub ?_)
  | (with_reducible refine L2.r_sub ?_)
  | (with_reducible refine L2.r_seqPar ?_)
  | (with_reducible refine L2.r_par ?_)
  | (with_reducible refine L2.r_ret ?_)
  | (with_reducible refine L2.r_gcons ?_)
  | (with_reducible refine L2.r_gnil ?_)
  | (with_reducible refine L2.r_gsub ?_)
  | (with_reducible refine L2.r_bm ?_)
  | (with_reducible refine L2.r_bm0 ?_)
  | (with_reducible refine L2.r_sl ?_)
  | (with_reducible refine L2.r_nopart ?_)
  | (with_reducible refine L2.r_part ?_)
  | (with_reducible refine L2.r_callK ?_)
  | (with_reducible refine L2.r_yes ?_)
  | (with_reducible refine L2.r_gname ?_)
  | (with_reducible refine L2.r_seqDrop ?_)
  | (with_reducible refine L2.r_drop ?_)
  | (with_reducible refine L2.r_seqIf ?_)
  | (with_reducible refine L2.r_ifS ?_)
  | (with_reducible refine L2.r_next ?_)
  | (with_reducible refine L2.r_un ?_)
  | (with_reducible refine L2.r_seqAsgG ?_)
  | (with_reducible refine L2.r_asgG ?_))
local macro_rules | `(tactic| walk_at "rd") => `(tactic| repeat' (walk_at "rd1"))

section
variable {P : Program} {w : World} {K : PySem.W.Frag} {mg : Str → Option Value} {base : Heap} {A : Ad}

/-! _law_spring -/
theorem ok_law_spring (T : Txt K mg A) : FnOk P w K mg base CX0 1 A.a_law_spring A.f_law_spring ["_law_cell", "_law_k"] spSpring := by
  refine T.F_law_spring.ok sc_law_spring (fun vs H Q E h => ?_) (fun cdv A' outer s H vs Q E hr h => ⟨_, (pss_cons (ps_set (i := 2) sc_law_spring.nd rfl (Or.inl rfl) (pe_op op_mod (pe_callTy call_int1 (by rfl) T.n_int (by decide +kernel) (pa_cons (pe_op op_add (pe_op op_add (pe_op op_mul (pv 0) pe_int) (pe_op op_mul pe_int (pv 1))) pe_int) pa_nil)) pe_int))
    (pss_one (ps_ret (pe_lst (pa_cons (pe_callB (call_max2 rfl) (by rfl) T.n_max (by decide +kernel) (pa_cons pe_int (pa_cons (pe_op op_sub (pv 0) (pe_op op_pow pe_int pe_int)) pa_nil))) (pa_cons (pv 2) (pa_cons (pv 1) pa_nil))))))), ?_⟩)
  · obtain ⟨c, k, rfl, _⟩ := h
    rfl
  · obtain ⟨c, k, rfl, q⟩ := h
    walk_at "rd"
    refine Or.inl ⟨_, rfl, ?_⟩
    walk_at "rd"
    refine ⟨_, _, rfl, ?_⟩
    walk_at "rd"
    refine ⟨by show 3 ≤ sizeLine; decide, fun p hp => q p _ hp (Same.new0 hp) ⟨_, _, _, upd_same, ?_, ?_⟩⟩
    · exact Int.emod_nonneg _ (by decide)
    · exact Int.emod_lt_of_pos _ (by decide)


/-! _law_sip -/
theorem ok_law_sip (T : Txt K mg A) : FnOk P w K mg base CX0 1 A.a_law_sip A.f_law_sip ["_law_spring_here", "_law_many"] spSip := by
  refine T.F_law_sip.ok sc_law_sip (fun vs H Q E h => ?_) (fun cdv A' outer s H vs Q E hr h => ⟨_, (pss_cons (ps_if (pt_cmpR op_gt (pe_ix ix_list (pv 0) pe_int (fun _ _ => rfl)) pe_int (nomark _)) (pss_cons (ps_set (i := 3) sc_law_sip.nd rfl (Or.inl rfl) (pe_op op_mod (pe_callTy call_int1 (by rfl) T.n_int (by decide +kernel) (pa_cons (pe_ix ix_list (pv 0) pe_int (fun _ _ => rfl)) pa_nil)) (pv 1)))
    (pss_cons (ps_asg (pe_op op_fdivW (pe_ix ix_list (pv 0) pe_int (fun _ _ => rfl)) (pv 1)) (pg_sub (pv 0) pe_int set_list))
    (pss_one (ps_ret (pv 3))))) pss_nil)
    (pss_cons (ps_asg (pe_op op_add (pe_ix ix_list (pv 0) pe_int (fun _ _ => rfl)) pe_int) (pg_sub (pv 0) pe_int set_list))
    (pss_cons (ps_set (i := 2) sc_law_sip.nd rfl (Or.inl rfl) (pe_op op_add (pe_op op_add (pe_op op_mulW (pe_ix ix_list (pv 0) pe_int (fun _ _ => rfl)) (pe_op op_add (pe_ix ix_list (pv 0) pe_int (fun _ _ => rfl)) pe_int)) (pe_op op_mul pe_int (pe_ix ix_list (pv 0) pe_int (fun _ _ => rfl)))) pe_int))
    (pss_cons (ps_asg (pe_op op_mod (pe_callTy call_int1 (by rfl) T.n_int (by decide +kernel) (pa_cons (pv 2) pa_nil)) pe_int) (pg_sub (pv 0) pe_int set_list))
    (pss_one (ps_ret (pe_op op_mod (pe_callTy call_int1 (by rfl) T.n_int (by decide +kernel) (pa_cons (pe_op op_fdiv (pe_ix ix_list (pv 0) pe_int (fun _ _ => rfl)) pe_int) pa_nil)) (pv 1)))))))), ?_⟩)
  · obtain ⟨p, m, rfl, _⟩ := h
    rfl
  · obtain ⟨p, m, rfl, ⟨a, b, c, hp, hb0, hb1⟩, hm, hm2, q⟩ := h
    have i0 : ∀ x y z : V, atI [x, y, z] 0 = some x := fun _ _ _ => rfl
    have i1 : ∀ x y z : V, atI [x, y, z] 1 = some y := fun _ _ _ => rfl
    have i2 : ∀ x y z : V, atI [x, y, z] 2 = some z := fun _ _ _ => rfl
    have n0 : ∀ x y z : V, ixN [x, y, z].length 0 = some 0 := fun _ _ _ => rfl
    have n1 : ∀ x y z : V, ixN [x, y, z].length 1 = some 1 := fun _ _ _ => rfl
    have n2 : ∀ x y z : V, ixN [x, y, z].length 2 = some 2 := fun _ _ _ => rfl
    walk_at "rd"
    refine r_ixL (SqL.of hp) (i0 _ _ _) ?_
    walk_at "rd"
    refine ⟨_, rfl, ite2 (fun _ => ?_) (fun _ => ?_)⟩
    · walk_at "rd"
      refine r_ixL (SqL.of hp) (i0 _ _ _) ?_
      walk_at "rd"
      refine Or.inl ⟨_, rfl, ?_⟩
      walk_at "rd"
      refine r_ixL (SqL.of hp) (i0 _ _ _) ?_
      walk_at "rd"
      refine r_I (wide_div (b := 250) (by omega) (by omega) (by decide) (by decide)) ?_
      walk_at "rd"
      refine r_setL hp (n0 _ _ _) ?_
      walk_at "rd"
      exact q _ _ (Int.emod_nonneg _ (by omega)) (Int.emod_lt_of_pos _ (by omega)) ((But.refl _ _).mut) ⟨_, _, _, upd_same, hb0, hb1⟩
    · walk_at "rd"
      dsimp only
      walk_at "rd"
      refine r_ixL (SqL.of hp) (i2 _ _ _) ?_
      walk_at "rd"
      refine r_setL hp (n2 _ _ _) ?_
      walk_at "rd"
      refine r_ixL (SqL.of upd_same) (i1 _ _ _) ?_
      walk_at "rd"
      refine r_ixL (SqL.of upd_same) (i1 _ _ _) ?_
      walk_at "rd"
      refine r_I (wide_mul (a := 100) (b := 100) (by unfold MM at hb1; omega) (by unfold MM at hb1; omega) (by decide) (by decide) (by decide)) ?_
      walk_at "rd"
      refine r_ixL (SqL.of upd_same) (i2 _ _ _) ?_
      walk_at "rd"
      refine Or.inl ⟨_, rfl, ?_⟩
      walk_at "rd"
      refine r_setL upd_same (n1 _ _ _) ?_
      walk_at "rd"
      refine r_ixL (SqL.of upd_same) (i1 _ _ _) ?_
      walk_at "rd"
      refine Or.inl ⟨_, rfl, ?_⟩
      walk_at "rd"
      exact q _ _ (Int.emod_nonneg _ (by omega)) (Int.emod_lt_of_pos _ (by omega)) ((But.refl _ _).mut.mut) ⟨_, _, _, upd_same, Int.emod_nonneg _ (by decide), Int.emod_lt_of_pos _ (by decide)⟩


/-! _law_far -/
theorem ok_law_far (T : Txt K mg A) : FnOk P w K mg base CX0 2 A.a_law_far A.f_law_far ["_law_spring_here", "_law_wide"] spFar := by
  refine T.F_law_far.ok sc_law_far (fun vs H Q E h => ?_) (fun cdv A' outer s H vs Q E hr h => ⟨_, (pss_cons (ps_set (i := 2) sc_law_far.nd rfl (Or.inl rfl) pe_int)
    (pss_cons (ps_for PassesOwn.never rfl (pi_range1 rfl T.n_range (pa_cons pe_int pa_nil)) (pg_name (i := 3) sc_law_far.nd rfl (Or.inl rfl))
      (pss_one (ps_set (i := 2) sc_law_far.nd rfl (Or.inl rfl) (pe_op op_add (pe_op op_mulW (pv 2) (pe_op op_pow pe_int pe_int)) (pe_call (ok_law_sip T) (hr.mono (by decide)) rfl T.g_law_sip T.k_law_sip T.b_law_sip .nil pass0 (pa_cons (pv 0) (pa_cons (pe_op op_pow pe_int pe_int) pa_nil)))))))
    (pss_one (ps_ret (pe_op op_add (pe_op op_sub (pe_op op_mod (pe_callTy call_int1 (by rfl) T.n_int (by decide +kernel) (pa_cons (pv 2) pa_nil)) (pe_op op_sub (pe_op op_mul pe_int (pv 1)) pe_int)) (pv 1)) pe_int))))), ?_⟩)
  · obtain ⟨p, m, rfl, _⟩ := h
    rfl
  · obtain ⟨p, m, rfl, hS, hm, hm2, q⟩ := h
    walk_at "rd"
    refine ⟨3, rfl, by decide, by decide, for_range (n := 3) (fun i σ H' => ∃ (f : Int) (v : Option V), σ = [some (.ref p), some (.int m), some (.int f), v] ∧ 0 ≤ f ∧ f < 10 ^ (21 * i) ∧ But p H H' ∧ Spr H' p)
      ⟨0, none, rfl, Int.le_refl _, by decide, But.refl _ _, hS⟩ ?_ ?_⟩
    · rintro i σ H' hi ⟨f, v, rfl, f0, f1, hB, hS'⟩
      walk_at "rd"
      have hf : f < 10 ^ 63 := Int.lt_of_lt_of_le f1 (by
        have e : i = 0 ∨ i = 1 ∨ i = 2 := by omega
        rcases e with e | e | e <;> subst e <;> decide)
      have hf2 : f.natAbs < 2 ^ 250 := by omega
      refine r_I (wide_mul (a := 250) (b := 250) hf2 ?_ (by decide) (by decide) (by decide)) ?_
      · decide
      walk_at "rd"
      refine ⟨p, _, rfl, hS', by decide, by decide, fun r H2 r0 r1 hB2 hS2 => ?_⟩
      walk_at "rd"
      refine ⟨_, _, rfl, ?_, ?_, hB.trans hB2, hS2⟩
      · have r0' : (0 : Int) ≤ r := r0
        have : (0 : Int) ≤ f * 10 ^ (Int.toNat 21) := Int.mul_nonneg f0 (by decide)
        first | omega | (show (0 : Int) ≤ f * _ + r; exact Int.add_nonneg (Int.mul_nonneg f0 (by decide)) r0)
      · have e : i = 0 ∨ i = 1 ∨ i = 2 := by omega
        rcases e with e | e | e <;> subst e
        · have f1' : f < 10 ^ 0 := f1
          show f * 10 ^ 21 + r < 10 ^ 21
          have r1' : r < 10 ^ 21 := r1
          omega
        · have f1' : f < 10 ^ 21 := f1
          show f * 10 ^ 21 + r < 10 ^ 42
          have r1' : r < 10 ^ 21 := r1
          omega
        · have f1' : f < 10 ^ 42 := f1
          show f * 10 ^ 21 + r < 10 ^ 63
          have r1' : r < 10 ^ 21 := r1
          omega
    · rintro σ H' ⟨f, v, rfl, f0, f1, hB, hS'⟩
      dsimp only
      walk_at "rd"
      refine Or.inl ⟨_, rfl, ?_⟩
      walk_at "rd"
      refine q _ _ ?_ ?_ hB hS'
      · have h1 := Int.emod_nonneg f (b := 2 * m - 1) (by omega)
        omega
      · have h1 := Int.emod_lt_of_pos f (b := 2 * m - 1) (by omega)
        omega


/-! _law_truth -/
theorem ok_law_truth (T : Txt K mg A) : FnOk P w K mg base CX0 1 A.a_law_truth A.f_law_truth ["_law_found", "_law_due"] spTruth := by
  refine T.F_law_truth.ok sc_law_truth (fun vs H Q E h => ?_) (fun cdv A' outer s H vs Q E hr h => ⟨_, (pss_one (ps_ret (pe_and (pe_callB call_isi (by rfl) T.n_isinstance (by decide +kernel) (pa_cons (pv 0) (pa_cons (pe_bltn (v := .ty "bool") (u := .type "bool") (by rfl) T.n_bool (by decide +kernel) rfl) pa_nil))) (pe_one (pe_cmpR op_eq (pv 0) (pv 1) (nomark _)))))), ?_⟩)
  · obtain ⟨p, m, rfl, _⟩ := h
    rfl
  · obtain ⟨a, b, rfl, q⟩ := h
    walk_at "rd"
    refine ⟨_, _, _, _, true, rfl, .ty "bool", .base (.bl a), kit_ty (by decide +kernel), ?_⟩
    refine ⟨_, rfl, iteT ?_⟩
    walk_at "rd"
    exact q


/-! _law_gcd -/
theorem ok_law_gcd (T : Txt K mg A) : FnOk P w K mg base CX0 1 A.a_law_gcd A.f_law_gcd ["_law_values"] (spGcd K) := by
  refine T.F_law_gcd.ok sc_law_gcd (fun vs H Q E h => ?_) (fun cdv A' outer s H vs Q E hr h => ⟨_, (pss_cons (ps_set (i := 1) sc_law_gcd.nd rfl (Or.inl rfl) pe_int)
    (pss_cons (ps_for PassesOwn.never rfl (pi_tup (pv 0)) (pg_name (i := 2) sc_law_gcd.nd rfl (Or.inl rfl))
      (pss_cons (ps_set (i := 3) sc_law_gcd.nd rfl (Or.inl rfl) (pe_callB (call_max2 rfl) (by rfl) T.n_max (by decide +kernel) (pa_cons (pv 2) (pa_cons (pe_op op_sub pe_int (pv 2)) pa_nil))))
    (pss_one (ps_while PassesOwn.never (pt_cmpR op_gt (pv 3) pe_int (nomark _)) (pss_one (ps_par (i := 1) (j := 3) (by rfl) sc_law_gcd.nd rfl rfl (by decide) rfl rfl (pa_cons (pv 3) (pa_cons (pe_op op_mod (pe_callTy call_int1 (by rfl) T.n_int (by decide +kernel) (pa_cons (pv 1) pa_nil)) (pv 3)) pa_nil)) (by rfl)))))))
    (pss_one (ps_ret (pv 1))))), ?_⟩)
  · obtain ⟨p, ns, rfl, _⟩ := h
    rfl
  · obtain ⟨t, ns, rfl, hT, q⟩ := h
    walk_at "rd"
    refine ⟨_, rfl, t, rfl, ⟨_, hT⟩, for_tup (K := K) (a := t) (xs := ns.map V.int) (fun i σ H' => ∃ (v u : Option V), σ = [some (.ref t), some (.int (gcdL (ns.take i) : Nat)), v, u] ∧ H' = H)
      ⟨none, none, rfl, rfl⟩ (fun i σ H' _ ⟨_, _, _, e⟩ => e ▸ hT) ?_ ?_⟩
    · rintro i x σ H' hi ⟨v, u, rfl, rfl⟩
      obtain ⟨z, hz, rfl⟩ := ints_at hi
      walk_at "rd"
      refine ⟨_, _, rfl, ?_⟩
      have e0 : (if 0 - z > z then 0 - z else z) = ((z.natAbs : Nat) : Int) := by split <;> omega
      rw [e0]
      refine while_by (fun σ2 H2 => ∃ (f o : Nat), σ2 = [some (.ref t), some (.int (f : Int)), some (.int z), some (.int (o : Int))] ∧ H2 = H' ∧ Nat.gcd f o = gcdL (ns.take (i + 1)))
        (fun σ2 _ => match σ2 with | [_, _, _, some (.int o)] => o.toNat | _ => 0) ⟨gcdL (ns.take i), z.natAbs, rfl, rfl, ?_⟩ ?_ ?_
      · rw [take_more hz, gcdL_append, gcdL_one]
      · rintro σ2 H2 ⟨f, o, rfl, rfl, hg⟩
        walk_at "rd"
        refine ⟨_, rfl, ite2 (fun hc => ?_) (fun hc => ?_)⟩
        · have hc' : (0 : Int) < (o : Int) := of_decide_eq_true hc
          walk_at "rd"
          refine Or.inl ⟨_, rfl, ?_⟩
          walk_at "rd"
          refine ⟨_, _, rfl, ⟨o, f % o, ?_, rfl, ?_⟩, ?_⟩
          · show [some (V.ref t), some (V.int (o : Int)), some (V.int z), some (V.int ((f : Int) % (o : Int)))] = _
            rw [← Int.natCast_emod]
          · rw [← hg, Nat.gcd_comm f o, Nat.gcd_rec o f, Nat.gcd_comm]
          · show ((f : Int) % (o : Int)).toNat < ((o : Nat) : Int).toNat
            have h1 := Int.emod_nonneg (f : Int) (b := (o : Int)) (by omega)
            have h2 := Int.emod_lt_of_pos (f : Int) (b := (o : Int)) (by omega)
            omega
        · have hc' : ¬ (0 : Int) < (o : Int) := fun z => hc (decide_eq_true z)
          have e : o = 0 := by omega
          subst e
          rw [Nat.gcd_zero_right] at hg
          exact ⟨_, _, by rw [← hg], rfl⟩
      · intro σ2 H2 Q1 Q2 hQ h
        obtain ⟨v1, e1, h⟩ := h
        exact ⟨v1, e1, by
          obtain ⟨i1, j1, a1, b1, k1, a2, c1⟩ := h
          exact ⟨i1, j1, a1, b1, k1, a2, hQ _ _ c1⟩⟩
    · rintro σ H' ⟨v, u, rfl, rfl⟩
      rw [List.length_map, List.take_length]
      dsimp only
      walk_at "rd"
      exact q


/-! _law_spot -/
theorem ok_law_spot (T : Txt K mg A) : FnOk P w K mg base CX0 3 A.a_law_spot A.f_law_spot ["_law_spring_here", "_law_size"] spSpot := by
  refine T.F_law_spot.ok sc_law_spot (fun vs H Q E h => ?_) (fun cdv A' outer s H vs Q E hr h => ⟨_, (pss_cons (ps_set (i := 2) sc_law_spot.nd rfl (Or.inr rfl) (pe_ix ix_list (pe_lst (pa_cons pe_int (pa_cons pe_int (pa_cons pe_int (pa_cons (pe_op op_pow pe_int pe_int) (pa_cons (pe_op op_pow pe_int pe_int) (pa_cons (pe_op op_pow pe_int pe_int) pa_nil))))))) (pe_call (ok_law_sip T) (hr.mono (by decide)) rfl T.g_law_sip T.k_law_sip T.b_law_sip .nil pass0 (pa_cons (pv 0) (pa_cons pe_int pa_nil))) (fun _ _ => rfl)))
    (pss_cons (ps_set (i := 3) sc_law_spot.nd rfl (Or.inr rfl) (pe_ix ix_list (pe_lst (pa_cons pe_int (pa_cons (pe_op op_add pe_int (pe_call (ok_law_sip T) (hr.mono (by decide)) rfl T.g_law_sip T.k_law_sip T.b_law_sip .nil pass0 (pa_cons (pv 0) (pa_cons pe_int pa_nil)))) (pa_cons (pe_op op_add pe_int (pe_call (ok_law_sip T) (hr.mono (by decide)) rfl T.g_law_sip T.k_law_sip T.b_law_sip .nil pass0 (pa_cons (pv 0) (pa_cons (pe_op op_pow pe_int pe_int) pa_nil)))) pa_nil)))) (pe_call (ok_law_sip T) (hr.mono (by decide)) rfl T.g_law_sip T.k_law_sip T.b_law_sip .nil pass0 (pa_cons (pv 0) (pa_cons pe_int pa_nil))) (fun _ _ => rfl)))
    (Evl.pss_cut (ps_if (pt_cmpR op_eq (pv 2) (pe_op op_pow pe_int pe_int) (nomark _)) (pss_one (ps_set (i := 3) sc_law_spot.nd rfl (Or.inr rfl) pe_int)) pss_nil)
    (pss_cons (ps_setLc (i := 4) (own := [("_law_k", 6)]) (g := gName 6) rfl sc_law_spot.nd rfl rfl (sw_true rfl rfl rfl (by decide +kernel)) (pi_range1 rfl T.n_range (pa_cons (pv 1) pa_nil)) (blkOk_by (own := [("_law_k", 6)]) (N := N_law_spot) (sc := defScope s_law_spot) (by decide +kernel)) (fun _ _ _ _ _ => pg_name (i := 6) sc_law_spot.nd rfl (Or.inl rfl)) (fun _ _ _ _ _ => pts_nil) (fun _ _ _ _ _ => (pe_op op_mul (pv 3) (pe_call (ok_law_far T) (hr.mono (by decide)) rfl T.g_law_far T.k_law_far T.b_law_far .nil pass0 (pa_cons (pv 0) (pa_cons (pv 2) pa_nil))))))
    (pss_cons (ps_set (i := 5) sc_law_spot.nd rfl (Or.inl rfl) (pe_call (ok_law_sip T) (hr.mono (by decide)) rfl T.g_law_sip T.k_law_sip T.b_law_sip .nil pass0 (pa_cons (pv 0) (pa_cons pe_int pa_nil))))
    (Evl.pss_cut (ps_if (pt_cmpR op_lt (pv 5) (pv 1) (nomark _)) (pss_one (ps_asg pe_int (pg_sub (pv 4) (pv 5) set_list))) pss_nil)
    (Evl.pss_cut (ps_if (pt_cmpR op_eq (pv 5) pe_int (nomark _)) (pss_one (ps_set (i := 4) sc_law_spot.nd rfl (Or.inl rfl) (pe_op op_rep (pe_lst (pa_cons pe_int pa_nil)) (pv 1)))) pss_nil)
    (pss_one (ps_ret (pe_callTy call_tuple_of (by rfl) T.n_tuple (by decide +kernel) (pa_cons (pv 4) pa_nil))))))))))), ?_⟩)
  · obtain ⟨p, m, rfl, _⟩ := h
    rfl
  · obtain ⟨p, n, rfl, hS, hn, q⟩ := h
    have hn1 : (n : Int) ≤ 3 := by omega
    walk_at "rd"
    refine ⟨by show 6 ≤ sizeLine; decide, fun l nl => ?_⟩
    walk_at "rd"
    refine ⟨p, _, rfl, hS.new nl, by decide, by decide, fun r1 H1 r10 r11 hB1 hS1 => ?_⟩
    have hl1 := hB1 l _ (hS.ne nl).symm upd_same
    have b1 : But p H H1 := (Same.new0 nl).but.trans hB1
    obtain ⟨wd, hw0, hw1, hw⟩ : ∃ wd : Int, 1 ≤ wd ∧ wd ≤ 10 ^ 60 ∧ atI [V.int 2, .int 7, .int 41, .int (10 ^ Int.toNat 9), .int (10 ^ Int.toNat 30), .int (10 ^ Int.toNat 60)] r1 = some (.int wd) := by
      have e : r1 = 0 ∨ r1 = 1 ∨ r1 = 2 ∨ r1 = 3 ∨ r1 = 4 ∨ r1 = 5 := by omega
      rcases e with e | e | e | e | e | e <;> subst e <;> exact ⟨_, by decide, by decide, rfl⟩
    refine r_ixL (SqL.of hl1) hw ?_
    walk_at "rd"
    refine ⟨p, _, rfl, hS1, by decide, by decide, fun r2 H2 r20 r21 hB2 hS2 => ?_⟩
    walk_at "rd"
    refine ⟨p, _, rfl, hS2, by decide, by decide, fun r3 H3 r30 r31 hB3 hS3 => ?_⟩
    walk_at "rd"
    refine ⟨by show 3 ≤ sizeLine; decide, fun l2 nl2 => ?_⟩
    walk_at "rd"
    refine ⟨p, _, rfl, hS3.new nl2, by decide, by decide, fun r4 H4 r40 r41 hB4 hS4 => ?_⟩
    have hl2 := hB4 l2 _ (hS3.ne nl2).symm upd_same
    have b4 : But p H H4 := ((b1.trans hB2).trans hB3).trans ((Same.new0 nl2).but.trans hB4)
    obtain ⟨fa, hf0, hf1, hf⟩ : ∃ fa : Int, 1 ≤ fa ∧ fa ≤ 10 ^ 9 + 10 ∧ atI [V.int 1, .int (2 + r2), .int (1 + r3)] r4 = some (.int fa) := by
      have e : r4 = 0 ∨ r4 = 1 ∨ r4 = 2 := by omega
      rcases e with e | e | e <;> subst e
      · exact ⟨_, by decide, by decide, rfl⟩
      · exact ⟨2 + r2, by omega, by omega, rfl⟩
      · have r31' : r3 < 10 ^ 9 := r31
        exact ⟨1 + r3, by omega, by omega, rfl⟩
    refine r_ixL (SqL.of hl2) hf ?_
    walk_at "rd"

    -- the factor is 1 where the width is the greatest
    refine r_cutIf (fun σ' H' => ∃ fb : Int, 1 ≤ fb ∧ fb ≤ 10 ^ 9 + 10 ∧ σ' = [some (.ref p), some (.int (n : Int)), some (.int wd), some (.int fb), none, none, none] ∧ H' = H4) ?_ ?_
    · walk_at "rd"
      refine ⟨_, rfl, ite2 (fun hc => ?_) (fun hc => ?_)⟩
      · walk_at "rd"
        exact ⟨1, by decide, by decide, rfl, rfl⟩
      · walk_at "rd"
        exact ⟨fa, hf0, hf1, rfl, rfl⟩
    · rintro σ' H' ⟨fb, g0, g1, rfl, rfl⟩
      walk_at "rd"
      refine ⟨_, rfl, (n : Int), rfl, by omega, by omega, fun D nD => lc_range (n := n) (fun i H5 => ∃ ms : List Int, (ms.length = i ∧ ∀ a ∈ ms, a.natAbs < 2 ^ 250) ∧ H5 D = some (.lst (ms.map V.int)) ∧ But p H H5 ∧ Spr H5 p)
        ⟨[], ⟨rfl, fun _ z => nomatch z⟩, upd_same, b4.new nD, hS4.new nD⟩ ?_ ?_⟩
      · rintro i H5 hi ⟨ms, ⟨rfl, hb⟩, hD, hB5, hS5⟩
        walk_at "rd"
        refine ⟨rfl, ?_⟩
        walk_at "rd"
        refine iteT ?_
        walk_at "rd"
        refine ⟨p, wd, rfl, hS5, hw0, by omega, fun r H6 r0 r1 hB6 hS6 => ?_⟩
        walk_at "rd"
        have nDp : D ≠ p := (hS4.ne nD).symm
        refine ⟨_, hB6 D _ nDp hD, by rw [List.length_map]; exact Nat.lt_of_lt_of_le hi (Nat.le_trans (by omega) (by decide : 3 ≤ sizeLine)), ms ++ [fb * r], ⟨by rw [List.length_append]; rfl, fun a ha => ?_⟩, ?_, ?_, ?_⟩
        · rcases List.mem_append.mp ha with e | e
          · exact hb a e
          · rw [List.mem_singleton.mp e]
            exact Nat.lt_of_lt_of_le (wide_lt (a := 40) (b := 200) (by omega) (by omega)) (by decide)
        · rw [upd_same, List.map_append]
          rfl
        · intro b o hb h
          have h2 := hB6 b o hb (hB5 b o hb h)
          have nb : b ≠ D := fun e => by
            subst e
            rw [b4.free nD hb] at h
            cases h
          rw [upd_ne nb]
          exact h2
        · obtain ⟨x1, x2, x3, e1, e2⟩ := hS6
          exact ⟨x1, x2, x3, by rw [upd_ne nDp.symm]; exact e1, e2⟩
      · rintro H5 ⟨ms, ⟨hl, hb⟩, hD, hB5, hS5⟩
        have nDp : D ≠ p := (hS4.ne nD).symm
        have nD0 : H D = none := b4.free nD nDp
        walk_at "rd"
        refine ⟨p, _, rfl, hS5, by decide, by decide, fun bl H6 bl0 bl1 hB6 hS6 => ?_⟩
        have hD6 := hB6 D _ nDp hD
        walk_at "rd"
        refine r_cutIf (fun σ' H' => ∃ ms : List Int, (ms.length = n ∧ ∀ a ∈ ms, a.natAbs < 2 ^ 250) ∧ σ' = [some (.ref p), some (.int (n : Int)), some (.int wd), some (.int fb), some (.ref D), some (.int bl), none] ∧ H' D = some (.lst (ms.map V.int)) ∧ But p H H' ∧ Spr H' p) ?_ ?_
        · walk_at "rd"
          refine ⟨_, rfl, ite2 (fun hc => ?_) (fun hc => ?_)⟩
          · have hc' : bl < (n : Int) := of_decide_eq_true hc
            have hbn : bl = ((bl.toNat : Nat) : Int) := (Int.toNat_of_nonneg bl0).symm
            walk_at "rd"
            refine r_setL hD6 (j := bl.toNat) ?_ ?_
            · rw [List.length_map, hl]
              unfold ixN
              rw [if_pos bl0, if_pos hc']
            · refine ⟨ms.set bl.toNat 0, ⟨by rw [List.length_set]; exact hl, fun a ha => ?_⟩, rfl, ?_, ?_, ?_⟩
              · rcases List.mem_or_eq_of_mem_set ha with e | e
                · exact hb a e
                · rw [e]
                  decide
              · rw [upd_same, List.map_set]
              · intro b o hb h
                have h2 := hB6 b o hb (hB5 b o hb h)
                have nb : b ≠ D := fun e => by
                  subst e
                  rw [nD0] at h
                  cases h
                rw [upd_ne nb]
                exact h2
              · obtain ⟨x1, x2, x3, e1, e2⟩ := hS6
                exact ⟨x1, x2, x3, by rw [upd_ne nDp.symm]; exact e1, e2⟩
          · walk_at "rd"
            exact ⟨ms, ⟨hl, hb⟩, rfl, hD6, hB5.trans hB6, hS6⟩
        · rintro σ' H7 ⟨ms, ⟨hl, hb⟩, rfl, hD7, hB7, hS7⟩
          walk_at "rd"
          refine r_cutIf (fun σ' H' => ∃ (D2 : Addr) (ms : List Int), (ms.length = n ∧ ∀ a ∈ ms, a.natAbs < 2 ^ 250) ∧ σ' = [some (.ref p), some (.int (n : Int)), some (.int wd), some (.int fb), some (.ref D2), some (.int bl), none] ∧ H' D2 = some (.lst (ms.map V.int)) ∧ But p H H' ∧ Spr H' p) ?_ ?_
          · walk_at "rd"
            refine ⟨_, rfl, ite2 (fun hc => ?_) (fun hc => ?_)⟩
            · walk_at "rd"
              refine ⟨by show 1 ≤ sizeLine; decide, fun l3 nl3 => ?_⟩
              walk_at "rd"
              refine ⟨l3, (n : Int), _, rfl, rfl, upd_same, by omega, by omega, ?_, fun l4 nl4 => ?_⟩
              · show 1 * n ≤ sizeLine
                exact Nat.le_trans (by omega) (by decide : 3 ≤ sizeLine)
              · walk_at "rd"
                refine ⟨l4, List.replicate n 0, ⟨List.length_replicate, fun a ha => by rw [List.eq_of_mem_replicate ha]; decide⟩, rfl, ?_, (hB7.new nl3).new nl4, (hS7.new nl3).new nl4⟩
                rw [upd_same]
                rcases hn with e | e <;> subst e <;> rfl
            · walk_at "rd"
              exact ⟨D, ms, ⟨hl, hb⟩, rfl, hD7, hB7, hS7⟩
          · rintro σ' H8 ⟨D2, ms, ⟨hl, hb⟩, rfl, hD8, hB8, hS8⟩
            walk_at "rd"
            refine ⟨_, _, rfl, .inl ⟨SqL.of hD8, fun t nt => ?_⟩⟩
            exact q t ms _ (hB8.new nt) (hS8.new nt) (hB8.free nt (hS8.ne nt).symm) upd_same hl hb


/-! common_divisor, divisor_of -/
theorem ok_common_divisor (T : Txt K mg A) : FnOk P w K mg base CX0 1 A.a_common_divisor A.f_common_divisor ["place"] (spGcd K) := by
  refine T.F_common_divisor.ok sc_common_divisor (fun vs H Q E h => ?_) (fun cdv A' outer s H vs Q E hr h => ⟨_, (pss_cons (ps_set (i := 1) sc_common_divisor.nd rfl (Or.inl rfl) pe_int)
    (pss_cons (ps_for PassesOwn.never rfl (pi_tup (pv 0)) (pg_name (i := 2) sc_common_divisor.nd rfl (Or.inl rfl))
      (pss_one (ps_set (i := 1) sc_common_divisor.nd rfl (Or.inl rfl) (pe_callBfun cr_gcd rfl T.m_gcd (pa_cons (pv 1) (pa_cons (pv 2) pa_nil))))))
    (pss_one (ps_ret (pv 1))))), ?_⟩)
  · obtain ⟨p, ns, rfl, _⟩ := h
    rfl
  · obtain ⟨t, ns, rfl, hT, q⟩ := h
    walk_at "rd"
    refine ⟨_, rfl, t, rfl, ⟨_, hT⟩, for_tup (K := K) (a := t) (xs := ns.map V.int) (fun i σ H' => ∃ (v : Option V), σ = [some (.ref t), some (.int (gcdL (ns.take i) : Nat)), v] ∧ H' = H)
      ⟨none, rfl, rfl⟩ (fun i σ H' _ ⟨_, _, e⟩ => e ▸ hT) ?_ ?_⟩
    · rintro i x σ H' hi ⟨v, rfl, rfl⟩
      obtain ⟨z, hz, rfl⟩ := ints_at hi
      walk_at "rd"
      refine ⟨_, _, rfl, some (.int z), ?_, rfl⟩
      rw [take_more hz, gcdL_append, gcdL_one]
      rfl
    · rintro σ H' ⟨v, rfl, rfl⟩
      rw [List.length_map, List.take_length]
      dsimp only
      walk_at "rd"
      exact q


theorem ok_divisor_of (T : Txt K mg A) : FnOk P w K mg base CX0 2 A.a_divisor_of A.f_divisor_of ["place"] (spDiv K) := by
  refine T.F_divisor_of.ok sc_divisor_of (fun vs H Q E h => ?_) (fun cdv A' outer s H vs Q E hr h => ⟨_, (pss_cons (ps_if (pt_cmpR op_notIn_seq (pe_callB call_len_seq (by rfl) T.n_len (by decide +kernel) (pa_cons (pv 0) pa_nil)) (pe_tup (pa_cons pe_int (pa_cons pe_int pa_nil))) (by rfl)) (pss_one ps_never) pss_nil)
    (pss_one (ps_ret (pe_call (ok_common_divisor T) (hr.mono (by decide)) rfl T.g_common_divisor T.k_common_divisor T.b_common_divisor .nil pass0 (pa_cons (pv 0) pa_nil))))), ?_⟩)
  · obtain ⟨p, ns, rfl, _⟩ := h
    rfl
  · obtain ⟨t, ns, rfl, hT, hl, q⟩ := h
    walk_at "rd"
    refine ⟨t, _, rfl, .inr hT, ?_⟩
    walk_at "rd"
    refine ⟨by show 2 ≤ sizeLine; decide, fun t2 nt2 => ?_⟩
    refine ⟨t2, _, rfl, .inr (SqT.of upd_same), rfl, rfl, _, rfl, ?_⟩
    have e : (if true = true then !inV (.int ((ns.map V.int).length : Nat)) [.int 2, .int 3] else inV (.int ((ns.map V.int).length : Nat)) [.int 2, .int 3]) = false := by
      rw [List.length_map]
      rcases hl with e | e <;> rw [e] <;> rfl
    refine (if_neg (by rw [e]; exact Bool.false_ne_true)).mpr ?_
    walk_at "rd"
    dsimp only
    walk_at "rd"
    exact ⟨t, ns, rfl, (Same.new0 nt2).tup hT, q _ (Same.new0 nt2)⟩


theorem ok_is_seen (T : Txt K mg A) : FnOk P w K mg base CX0 3 A.a_is_seen A.f_is_seen ["place"] (spSeen K) := by
  refine T.F_is_seen.ok sc_is_seen (fun vs H Q E h => ?_) (fun cdv A' outer s H vs Q E hr h => ⟨_, (pss_one (ps_ret (pe_cmpR op_eq (pe_call (ok_divisor_of T) (hr.mono (by decide)) rfl T.g_divisor_of T.k_divisor_of T.b_divisor_of .nil pass0 (pa_cons (pv 0) pa_nil)) pe_int (nomark _)))), ?_⟩)
  · obtain ⟨p, ns, rfl, _⟩ := h
    rfl
  · obtain ⟨t, ns, rfl, hT, hl, q⟩ := h
    walk_at "rd"
    refine ⟨t, ns, rfl, hT, hl, fun H' e => ?_⟩
    walk_at "rd"
    exact q _ e

def spRight : Sp := fun vs H Q _ => ∃ (p : Addr), vs = [.ref p] ∧ Spr H p ∧ ∀ H', But p H H' → Q (.bl true) H'
theorem ok_law_right (T : Txt K mg A) : FnOk P w K mg base CX0 4 A.a_law_right A.f_law_right ["_law_spring_here"] spRight := by
  refine T.F_law_right.ok sc_law_right (fun vs H Q E h => ?_) (fun cdv A' outer s H vs Q E hr h => ⟨_, (pss_cons (ps_set (i := 1) sc_law_right.nd rfl (Or.inl rfl) (pe_call (ok_law_spot T) (hr.mono (by decide)) rfl T.g_law_spot T.k_law_spot T.b_law_spot .nil pass0 (pa_cons (pv 0) (pa_cons pe_int pa_nil))))
    (pss_cons (ps_set (i := 2) sc_law_right.nd rfl (Or.inl rfl) (pe_call (ok_law_spot T) (hr.mono (by decide)) rfl T.g_law_spot T.k_law_spot T.b_law_spot .nil pass0 (pa_cons (pv 0) (pa_cons pe_int pa_nil))))
    (pss_cons (ps_for PassesOwn.never rfl (pi_list (pe_lst (pa_cons (pv 1) (pa_cons (pv 2) (pa_cons (pv 1) pa_nil))))) (pg_name (i := 3) sc_law_right.nd rfl (Or.inl rfl))
      (pss_cons (ps_set (i := 4) sc_law_right.nd rfl (Or.inl rfl) (pe_cmpR op_eq (pe_call (ok_law_gcd T) (hr.mono (by decide)) rfl T.g_law_gcd T.k_law_gcd T.b_law_gcd .nil pass0 (pa_cons (pv 3) pa_nil)) pe_int (nomark _)))
    (pss_cons (ps_if (PW.pt (pw_or (pt_not (pt_val (pe_call (ok_law_truth T) (hr.mono (by decide)) rfl T.g_law_truth T.k_law_truth T.b_law_truth .nil pass0 (pa_cons (pe_call (ok_is_seen T) (hr.mono (by decide)) rfl T.g_is_seen T.k_is_seen T.b_is_seen .nil pass0 (pa_cons (pv 3) pa_nil)) (pa_cons (pv 4) pa_nil))))) (pw_or1 (pt_not (pt_val (pe_call (ok_law_truth T) (hr.mono (by decide)) rfl T.g_law_truth T.k_law_truth T.b_law_truth .nil pass0 (pa_cons (pe_call (ok_is_seen T) (hr.mono (by decide)) rfl T.g_is_seen T.k_is_seen T.b_is_seen .nil pass0 (pa_cons (pe_callTy call_tuple_of (by rfl) T.n_tuple (by decide +kernel) (pa_cons (pe_lc (own := [("_law_value", 5)]) (g := gName 5) rfl sc_law_right.nd (pi_tup (pv 3)) (blkOk_by (own := [("_law_value", 5)]) (N := N_law_right) (sc := defScope s_law_right) (by decide +kernel)) (fun _ _ _ _ _ => pg_name (i := 5) sc_law_right.nd rfl (Or.inl rfl)) (fun _ _ _ _ _ => pts_nil) (fun _ _ _ _ _ => (pe_op op_sub pe_int (pv 5)))) pa_nil)) pa_nil)) (pa_cons (pv 4) pa_nil)))))))) (pss_one (ps_ret pe_bl)) pss_nil)
    (pss_one (ps_if (PW.pt (pw_or (pt_not (pt_val (pe_call (ok_law_truth T) (hr.mono (by decide)) rfl T.g_law_truth T.k_law_truth T.b_law_truth .nil pass0 (pa_cons (pe_call (ok_is_seen T) (hr.mono (by decide)) rfl T.g_is_seen T.k_is_seen T.b_is_seen .nil pass0 (pa_cons (pe_revT (pv 3)) pa_nil)) (pa_cons (pv 4) pa_nil))))) (pw_or1 (pt_not (pt_val (pe_call (ok_law_truth T) (hr.mono (by decide)) rfl T.g_law_truth T.k_law_truth T.b_law_truth .nil pass0 (pa_cons (pe_callK0 (ok_is_seen T) (hr.mono (by decide)) rfl T.g_is_seen T.k_is_seen T.kb_is_seen pass0 (pk_cons (pv 3) pk_nil)) (pa_cons (pv 4) pa_nil)))))))) (pss_one (ps_ret pe_bl)) pss_nil)))))
    (pss_one (ps_ret (pe_and (pe_call (ok_law_truth T) (hr.mono (by decide)) rfl T.g_law_truth T.k_law_truth T.b_law_truth .nil pass0 (pa_cons (pe_call (ok_is_seen T) (hr.mono (by decide)) rfl T.g_is_seen T.k_is_seen T.b_is_seen .nil pass0 (pa_cons (pe_tup (pa_cons pe_int (pa_cons pe_int pa_nil))) pa_nil)) (pa_cons pe_bl pa_nil))) (pe_one (pe_call (ok_law_truth T) (hr.mono (by decide)) rfl T.g_law_truth T.k_law_truth T.b_law_truth .nil pass0 (pa_cons (pe_call (ok_is_seen T) (hr.mono (by decide)) rfl T.g_is_seen T.k_is_seen T.b_is_seen .nil pass0 (pa_cons (pe_tup (pa_cons pe_int (pa_cons pe_int (pa_cons (pe_op op_sub pe_int pe_int) pa_nil)))) pa_nil)) (pa_cons pe_bl pa_nil)))))))))), ?_⟩)
  · obtain ⟨p, rfl, _⟩ := h
    rfl
  · obtain ⟨p, rfl, hS, q⟩ := h
    walk_at "rd"
    refine ⟨p, 2, rfl, hS, .inl rfl, fun t1 ns1 H1 hB1 hS1 nt1 ht1 hl1 _ => ?_⟩
    walk_at "rd"
    refine ⟨p, 3, rfl, hS1, .inr rfl, fun t2 ns2 H2 hB2 hS2 nt2 ht2 hl2 _ => ?_⟩
    have ht1' := hB2 t1 _ (hS.ne nt1).symm ht1
    have hB := hB1.trans hB2
    walk_at "rd"
    refine ⟨_, rfl, _, rfl, _, rfl, ⟨by show 3 ≤ sizeLine; decide, fun l nl => ?_⟩⟩
    refine ⟨l, rfl, ⟨_, SqL.of upd_same⟩, for_list (K := K) (a := l) (xs := [.ref t1, .ref t2, .ref t1]) (fun i σ H' => ∃ (v u : Option V), σ = [some (.ref p), some (.ref t1), some (.ref t2), v, u, none] ∧ H' t1 = some (.tup (ns1.map V.int)) ∧ H' t2 = some (.tup (ns2.map V.int)) ∧ H' l = some (.lst [.ref t1, .ref t2, .ref t1]) ∧ But p H H')
      ⟨none, none, rfl, (Same.new0 nl) _ _ ht1', (Same.new0 nl) _ _ ht2, upd_same, hB.new nl⟩ (fun i σ H' _ ⟨_, _, _, _, _, e, _⟩ => SqL.of e) ?_ ?_⟩
    · rintro i x σ H' hi ⟨v, u, rfl, h1, h2, h3, hB3⟩
      obtain ⟨t, ns, rfl, ht, hl⟩ : ∃ (t : Addr) (ns : List Int), x = .ref t ∧ H' t = some (.tup (ns.map V.int)) ∧ (ns.length = 2 ∨ ns.length = 3) := by
        match i, hi with
        | 0, hi => exact ⟨t1, ns1, (Option.some.inj hi).symm, h1, .inl hl1⟩
        | 1, hi => exact ⟨t2, ns2, (Option.some.inj hi).symm, h2, .inr hl2⟩
        | 2, hi => exact ⟨t1, ns1, (Option.some.inj hi).symm, h1, .inl hl1⟩
      walk_at "rd"
      refine ⟨t, ns, rfl, SqT.of ht, ?_⟩
      walk_at "rd"
      -- the place itself
      refine ⟨t, ns, rfl, SqT.of ht, hl, fun H4 s4 => ?_⟩
      walk_at "rd"
      refine ⟨_, _, rfl, _, rfl, ?_⟩
      refine (if_neg (by rw [beq_self_eq_true]; exact Bool.false_ne_true)).mpr ?_
      walk_at "rd"
      -- its negative
      have ht4 := s4 _ _ ht
      refine ⟨_, rfl, t, rfl, ⟨_, SqT.of ht4⟩, fun D nD => lc_tup (K := K) (a := t) (xs := ns.map V.int) (fun i H5 => Same H4 H5 ∧ H4 D = none ∧ H5 D = some (.lst ((ns.take i).map fun a => V.int (0 - a))))
        ⟨Same.new0 nD, nD, upd_same⟩ (fun i H5 _ ⟨e, _, _⟩ => SqT.of (e _ _ ht4)) ?_ ?_⟩
      · rintro i x H5 hi ⟨s5, _, hD⟩
        obtain ⟨z, hz, rfl⟩ := ints_at hi
        walk_at "rd"
        refine ⟨rfl, ?_⟩
        walk_at "rd"
        refine iteT ?_
        walk_at "rd"
        have hil : i < ns.length := (List.getElem?_eq_some_iff.mp hz).1
        refine ⟨_, hD, ?_, fun b o h => ?_, nD, ?_⟩
        · rw [List.length_map, List.length_take]
          exact Nat.lt_of_lt_of_le (by omega) (by decide : 3 ≤ sizeLine)
        · rw [upd_ne (ne_of_none h nD)]
          exact s5 b o h
        · rw [upd_same, take_more hz, List.map_append]
          rfl
      · rintro H5 ⟨s5, _, hD⟩
        rw [List.length_map, List.take_length] at hD
        walk_at "rd"
        refine ⟨_, _, rfl, .inl ⟨SqL.of hD, fun tn ntn => ?_⟩⟩
        walk_at "rd"
        refine ⟨tn, ns.map fun a => 0 - a, rfl, SqT.of (by rw [upd_same, List.map_map]; rfl), by rw [List.length_map]; exact hl, fun H6 s6 => ?_⟩
        walk_at "rd"
        refine ⟨_, _, rfl, _, rfl, ?_⟩
        rw [gcdL_neg]
        refine (if_neg (by rw [beq_self_eq_true]; exact Bool.false_ne_true)).mpr ?_
        walk_at "rd"
        dsimp only
        have s46 : Same H4 H6 := (s5.new ntn).trans s6
        have ht6 := s46 _ _ ht4
        walk_at "rd"
        -- turned round
        refine ⟨_, rfl, t, _, rfl, SqT.of ht6, fun tr ntr => ?_⟩
        walk_at "rd"
        refine ⟨tr, ns.reverse, rfl, SqT.of (by rw [upd_same, List.map_reverse]), by rw [List.length_reverse]; exact hl, fun H7 s7 => ?_⟩
        walk_at "rd"
        refine ⟨_, _, rfl, _, rfl, ?_⟩
        rw [gcdL_reverse]
        refine (if_neg (by rw [beq_self_eq_true]; exact Bool.false_ne_true)).mpr ?_
        walk_at "rd"
        have s67 : Same H6 H7 := (Same.new0 ntr).trans s7
        -- by name
        refine ⟨t, ns, rfl, SqT.of (s67 _ _ ht6), hl, fun H8 s8 => ?_⟩
        walk_at "rd"
        refine ⟨_, _, rfl, _, rfl, ?_⟩
        refine (if_neg (by rw [beq_self_eq_true]; exact Bool.false_ne_true)).mpr ?_
        walk_at "rd"
        have s8' : Same H' H8 := ((s4.trans s46).trans s67).trans s8
        exact ⟨_, _, rfl, s8' _ _ h1, s8' _ _ h2, s8' _ _ h3, hB3.same s8'⟩
    · rintro σ H' ⟨v, u, rfl, h1, h2, h3, hB3⟩
      dsimp only
      walk_at "rd"
      refine ⟨by show 2 ≤ sizeLine; decide, fun ta na => ?_⟩
      walk_at "rd"
      refine ⟨ta, [0, 0], rfl, SqT.of upd_same, .inl rfl, fun H4 s4 => ?_⟩
      walk_at "rd"
      refine ⟨_, _, rfl, _, rfl, iteT ?_⟩
      walk_at "rd"
      refine ⟨by show 3 ≤ sizeLine; decide, fun tb nb => ?_⟩
      walk_at "rd"
      refine ⟨tb, [0, 0, -1], rfl, SqT.of upd_same, .inr rfl, fun H5 s5 => ?_⟩
      walk_at "rd"
      exact ⟨_, _, rfl, q _ (hB3.same (((Same.new0 na).trans s4).trans ((Same.new0 nb).trans s5)))⟩

/-! law: the cells, one by one -/
theorem ok_law (T : Txt K mg A) : FnOk P w K mg base CX0 5 A.a_law A.f_law ["_law_script"] (spLaw K) := by
  refine T.F_law.ok sc_law (fun vs H Q E h => ?_) (fun cdv A' outer s H vs Q E hr h => ⟨_, (pss_cons (ps_set (i := 1) sc_law.nd rfl (Or.inl rfl) (pe_op op_cat (pe_slice sl_list (pv 0) po_none (po_some pe_int)) (pe_op op_rep (pe_lst (pa_cons pe_int pa_nil)) (pe_callTy call_int1 (by rfl) T.n_int (by decide +kernel) (pa_cons (pe_cmpR op_eq (pe_callB call_len_seq (by rfl) T.n_len (by decide +kernel) (pa_cons (pv 0) pa_nil)) pe_int (nomark _)) pa_nil)))))
    (pss_cons (ps_for PassesOwn.never rfl (pi_range1 rfl T.n_range (pa_cons (pe_callB call_len_seq (by rfl) T.n_len (by decide +kernel) (pa_cons (pv 1) pa_nil)) pa_nil)) (pg_name (i := 2) sc_law.nd rfl (Or.inl rfl))
      (pss_one (ps_if (pt_not (pt_val (pe_call (ok_law_right T) (hr.mono (by decide)) rfl T.g_law_right T.k_law_right T.b_law_right .nil pass0 (pa_cons (pe_call (ok_law_spring T) (hr.mono (by decide)) rfl T.g_law_spring T.k_law_spring T.b_law_spring .nil pass0 (pa_cons (pe_ix ix_list (pv 1) (pv 2) (fun _ _ => rfl)) (pa_cons (pv 2) pa_nil))) pa_nil)))) (pss_one (ps_ret pe_bl)) pss_nil)))
    (pss_one (ps_ret pe_bl)))), ?_⟩)
  · obtain ⟨p, ns, rfl, _⟩ := h
    rfl
  · obtain ⟨a, ns, rfl, hS, hlen, hbits, q⟩ := h
    walk_at "rd"
    refine ⟨_, rfl, a, _, rfl, hS, fun l1 n1 => ?_⟩
    rw [show cutV (ns.map V.int) none (some 24) = (ns.take 24).map V.int from cut_ints ns 24]
    have hS1 := (Same.new0 n1 (o := .lst ((ns.take 24).map V.int))).seq hS
    walk_at "rd"
    refine ⟨by show 1 ≤ sizeLine; decide, fun l2 n2 => ?_⟩
    have hS2 := (Same.new0 n2 (o := .lst [V.int 0])).seq hS1
    walk_at "rd"
    refine ⟨a, _, rfl, .inl hS2, ?_⟩
    walk_at "rd"
    refine .inr ⟨_, rfl, ?_⟩
    have ez : (if (((List.map V.int ns).length : Nat) : Int) == 0 then (1 : Int) else 0) = if ns.length = 0 then (1 : Int) else 0 := by
      rw [List.length_map]
      by_cases h : ns.length = 0
      · rw [if_pos h, h]
        rfl
      · rw [if_neg h, if_neg (by simpa using h)]
    rw [ez]
    refine ⟨l2, _, _, rfl, rfl, upd_same, by split <;> omega, by split <;> omega, by split <;> decide, fun l3 n3 => ?_⟩
    have h13 := (Same.new0 n3 (o := .lst (List.replicate ((if ns.length = 0 then (1 : Int) else 0).toNat) [V.int 0]).flatten)) l1 _ ((Same.new0 n2 (o := .lst [V.int 0])) l1 _ upd_same)
    refine ⟨l1, l3, _, _, rfl, rfl, h13, upd_same, ?_, fun D nD => ?_⟩
    · rw [List.length_map, List.length_take]
      refine Nat.le_trans ?_ (by decide : 100 ≤ sizeLine)
      have : (List.replicate ((if ns.length = 0 then (1 : Int) else 0).toNat) [V.int 0]).flatten.length ≤ 1 := by split <;> decide
      omega
    rw [cells_v ns 24]
    have hcl := cells_len hlen 24
    walk_at "rd"
    refine ⟨_, rfl, D, _, rfl, .inl (SqL.of upd_same), ?_⟩
    rw [List.length_map]
    refine ⟨_, rfl, by omega, by omega, for_range (n := (cells ns 24).length) (fun i σ H' => ∃ v : Option V, σ = [some (.ref a), some (.ref D), v] ∧ H' D = some (.lst ((cells ns 24).map V.int))) ⟨none, rfl, upd_same⟩ ?_ ?_⟩
    · rintro i σ H' hi ⟨v, rfl, hD⟩
      walk_at "rd"
      have ha : atI ((cells ns 24).map V.int) (0 + (i : Int)) = some (.int (cells ns 24)[i]) := by
        rw [Int.zero_add]
        exact atI_nat (by rw [List.getElem?_map, List.getElem?_eq_getElem hi]; rfl)
      refine r_ixL (SqL.of hD) ha ?_
      walk_at "rd"
      refine ⟨_, _, rfl, fun p H1 np s1 hS1 => ?_⟩
      walk_at "rd"
      refine ⟨p, rfl, hS1, fun H2 hB => ⟨_, rfl, iteF ?_⟩⟩
      walk_at "rd"
      exact ⟨_, rfl, But.of_new np s1 hB _ _ hD⟩
    · rintro σ H' ⟨v, rfl, hD⟩
      dsimp only
      walk_at "rd"
      exact q _

end
theorem all_mk {l : PySem.W.OpenLaw} {w : World} {K : PySem.W.Frag} {h : Heap} {mg : Str → Option Value} {fa : Addr} (X : K.In h) (G : h.Ns mainGlobals mg) (hfa : mg "law" = some (.ref fa))
    {od0 an0 : Option Addr} {sl0 : Array (Option Value)} {oc0 kV0 dc0 pm0 cd0 ct0 : Value} {f0 : Addr}
    (a0 : PySem.W.nsIn K mainGlobals "common_divisor" = some (some (.ref f0)))
    (l0 : K.lookup f0 = some ⟨oc0, od0, .func (PySem.W.fnOf "common_divisor" "common_divisor" (defArgs s_common_divisor) (defBody s_common_divisor) (defScope s_common_divisor) .none kV0 dc0 pm0 an0 cd0 ct0), sl0⟩)
    (c0 : PySem.W.codeIn K cd0 "common_divisor" = true)
    (k0 : PySem.W.keepIn K (.ref f0) = true)
    {od1 an1 : Option Addr} {sl1 : Array (Option Value)} {oc1 kV1 dc1 pm1 cd1 ct1 : Value} {f1 : Addr}
    (a1 : PySem.W.nsIn K mainGlobals "divisor_of" = some (some (.ref f1)))
    (l1 : K.lookup f1 = some ⟨oc1, od1, .func (PySem.W.fnOf "divisor_of" "divisor_of" (defArgs s_divisor_of) (defBody s_divisor_of) (defScope s_divisor_of) .none kV1 dc1 pm1 an1 cd1 ct1), sl1⟩)
    (c1 : PySem.W.codeIn K cd1 "divisor_of" = true)
    (k1 : PySem.W.keepIn K (.ref f1) = true)
    {od2 an2 : Option Addr} {sl2 : Array (Option Value)} {oc2 kV2 dc2 pm2 cd2 ct2 : Value} {f2 : Addr}
    (a2 : PySem.W.nsIn K mainGlobals "is_seen" = some (some (.ref f2)))
    (l2 : K.lookup f2 = some ⟨oc2, od2, .func (PySem.W.fnOf "is_seen" "is_seen" (defArgs s_is_seen) (defBody s_is_seen) (defScope s_is_seen) .none kV2 dc2 pm2 an2 cd2 ct2), sl2⟩)
    (c2 : PySem.W.codeIn K cd2 "is_seen" = true)
    (k2 : PySem.W.keepIn K (.ref f2) = true)
    {od3 an3 : Option Addr} {sl3 : Array (Option Value)} {oc3 kV3 dc3 pm3 cd3 ct3 : Value} {f3 : Addr}
    (a3 : PySem.W.nsIn K mainGlobals "_law_spring" = some (some (.ref f3)))
    (l3 : K.lookup f3 = some ⟨oc3, od3, .func (PySem.W.fnOf "_law_spring" "_law_spring" (defArgs s_law_spring) (defBody s_law_spring) (defScope s_law_spring) .none kV3 dc3 pm3 an3 cd3 ct3), sl3⟩)
    (c3 : PySem.W.codeIn K cd3 "_law_spring" = true)
    (k3 : PySem.W.keepIn K (.ref f3) = true)
    {od4 an4 : Option Addr} {sl4 : Array (Option Value)} {oc4 kV4 dc4 pm4 cd4 ct4 : Value} {f4 : Addr}
    (a4 : PySem.W.nsIn K mainGlobals "_law_sip" = some (some (.ref f4)))
    (l4 : K.lookup f4 = some ⟨oc4, od4, .func (PySem.W.fnOf "_law_sip" "_law_sip" (defArgs s_law_sip) (defBody s_law_sip) (defScope s_law_sip) .none kV4 dc4 pm4 an4 cd4 ct4), sl4⟩)
    (c4 : PySem.W.codeIn K cd4 "_law_sip" = true)
    (k4 : PySem.W.keepIn K (.ref f4) = true)
    {od5 an5 : Option Addr} {sl5 : Array (Option Value)} {oc5 kV5 dc5 pm5 cd5 ct5 : Value} {f5 : Addr}
    (a5 : PySem.W.nsIn K mainGlobals "_law_far" = some (some (.ref f5)))
    (l5 : K.lookup f5 = some ⟨oc5, od5, .func (PySem.W.fnOf "_law_far" "_law_far" (defArgs s_law_far) (defBody s_law_far) (defScope s_law_far) .none kV5 dc5 pm5 an5 cd5 ct5), sl5⟩)
    (c5 : PySem.W.codeIn K cd5 "_law_far" = true)
    (k5 : PySem.W.keepIn K (.ref f5) = true)
    {od6 an6 : Option Addr} {sl6 : Array (Option Value)} {oc6 kV6 dc6 pm6 cd6 ct6 : Value} {f6 : Addr}
    (a6 : PySem.W.nsIn K mainGlobals "_law_gcd" = some (some (.ref f6)))
    (l6 : K.lookup f6 = some ⟨oc6, od6, .func (PySem.W.fnOf "_law_gcd" "_law_gcd" (defArgs s_law_gcd) (defBody s_law_gcd) (defScope s_law_gcd) .none kV6 dc6 pm6 an6 cd6 ct6), sl6⟩)
    (c6 : PySem.W.codeIn K cd6 "_law_gcd" = true)
    (k6 : PySem.W.keepIn K (.ref f6) = true)
    {od7 an7 : Option Addr} {sl7 : Array (Option Value)} {oc7 kV7 dc7 pm7 cd7 ct7 : Value} {f7 : Addr}
    (a7 : PySem.W.nsIn K mainGlobals "_law_truth" = some (some (.ref f7)))
    (l7 : K.lookup f7 = some ⟨oc7, od7, .func (PySem.W.fnOf "_law_truth" "_law_truth" (defArgs s_law_truth) (defBody s_law_truth) (defScope s_law_truth) .none kV7 dc7 pm7 an7 cd7 ct7), sl7⟩)
    (c7 : PySem.W.codeIn K cd7 "_law_truth" = true)
    (k7 : PySem.W.keepIn K (.ref f7) = true)
    {od8 an8 : Option Addr} {sl8 : Array (Option Value)} {oc8 kV8 dc8 pm8 cd8 ct8 : Value} {f8 : Addr}
    (a8 : PySem.W.nsIn K mainGlobals "_law_spot" = some (some (.ref f8)))
    (l8 : K.lookup f8 = some ⟨oc8, od8, .func (PySem.W.fnOf "_law_spot" "_law_spot" (defArgs s_law_spot) (defBody s_law_spot) (defScope s_law_spot) .none kV8 dc8 pm8 an8 cd8 ct8), sl8⟩)
    (c8 : PySem.W.codeIn K cd8 "_law_spot" = true)
    (k8 : PySem.W.keepIn K (.ref f8) = true)
    {od9 an9 : Option Addr} {sl9 : Array (Option Value)} {oc9 kV9 dc9 pm9 cd9 ct9 : Value} {f9 : Addr}
    (a9 : PySem.W.nsIn K mainGlobals "_law_right" = some (some (.ref f9)))
    (l9 : K.lookup f9 = some ⟨oc9, od9, .func (PySem.W.fnOf "_law_right" "_law_right" (defArgs s_law_right) (defBody s_law_right) (defScope s_law_right) .none kV9 dc9 pm9 an9 cd9 ct9), sl9⟩)
    (c9 : PySem.W.codeIn K cd9 "_law_right" = true)
    (k9 : PySem.W.keepIn K (.ref f9) = true)
    {od10 an10 : Option Addr} {sl10 : Array (Option Value)} {oc10 kV10 dc10 pm10 cd10 ct10 : Value} {f10 : Addr}
    (a10 : PySem.W.nsIn K mainGlobals "law" = some (some (.ref f10)))
    (l10 : K.lookup f10 = some ⟨oc10, od10, .func (PySem.W.fnOf "law" "law" (defArgs s_law) (defBody s_law) (defScope s_law) .none kV10 dc10 pm10 an10 cd10 ct10), sl10⟩)
    (c10 : PySem.W.codeIn K cd10 "law" = true)
    (k10 : PySem.W.keepIn K (.ref f10) = true)
    (z_bool : PySem.W.nsIn K mainGlobals "bool" = some none)
    (z_gcd : PySem.W.nsIn K mainGlobals "gcd" = some (some (.builtin "math.gcd")))
    (z_int : PySem.W.nsIn K mainGlobals "int" = some none)
    (z_isinstance : PySem.W.nsIn K mainGlobals "isinstance" = some none)
    (z_len : PySem.W.nsIn K mainGlobals "len" = some none)
    (z_max : PySem.W.nsIn K mainGlobals "max" = some none)
    (z_range : PySem.W.nsIn K mainGlobals "range" = some none)
    (z_tuple : PySem.W.nsIn K mainGlobals "tuple" = some none)
    : ∃ fd : FuncData, (∀ (s : Shared) (v : Value), BindsTo s fd ⟨[v], []⟩ [("_law_script", v)]) ∧ ∀ base : Heap, K.In base → base.Ns mainGlobals mg → FnOk l.prog w K mg base CX0 5 fa fd ["_law_script"] (spLaw K) := by
  have e := hfa.symm.trans (PySem.W.mg_of X G a10)
  cases e
  have F0 := fun_mk (st := s_common_divisor) l0 c0 k0
  have b0 := F0.binds (ps := ["place"]) fun _ _ _ _ _ _ us hl => match us, hl with | [_], _ => rfl
  have F1 := fun_mk (st := s_divisor_of) l1 c1 k1
  have b1 := F1.binds (ps := ["place"]) fun _ _ _ _ _ _ us hl => match us, hl with | [_], _ => rfl
  have F2 := fun_mk (st := s_is_seen) l2 c2 k2
  have b2 := F2.binds (ps := ["place"]) fun _ _ _ _ _ _ us hl => match us, hl with | [_], _ => rfl
  have F3 := fun_mk (st := s_law_spring) l3 c3 k3
  have b3 := F3.binds (ps := ["_law_cell", "_law_k"]) fun _ _ _ _ _ _ us hl => match us, hl with | [_, _], _ => rfl
  have F4 := fun_mk (st := s_law_sip) l4 c4 k4
  have b4 := F4.binds (ps := ["_law_spring_here", "_law_many"]) fun _ _ _ _ _ _ us hl => match us, hl with | [_, _], _ => rfl
  have F5 := fun_mk (st := s_law_far) l5 c5 k5
  have b5 := F5.binds (ps := ["_law_spring_here", "_law_wide"]) fun _ _ _ _ _ _ us hl => match us, hl with | [_, _], _ => rfl
  have F6 := fun_mk (st := s_law_gcd) l6 c6 k6
  have b6 := F6.binds (ps := ["_law_values"]) fun _ _ _ _ _ _ us hl => match us, hl with | [_], _ => rfl
  have F7 := fun_mk (st := s_law_truth) l7 c7 k7
  have b7 := F7.binds (ps := ["_law_found", "_law_due"]) fun _ _ _ _ _ _ us hl => match us, hl with | [_, _], _ => rfl
  have F8 := fun_mk (st := s_law_spot) l8 c8 k8
  have b8 := F8.binds (ps := ["_law_spring_here", "_law_size"]) fun _ _ _ _ _ _ us hl => match us, hl with | [_, _], _ => rfl
  have F9 := fun_mk (st := s_law_right) l9 c9 k9
  have b9 := F9.binds (ps := ["_law_spring_here"]) fun _ _ _ _ _ _ us hl => match us, hl with | [_], _ => rfl
  have F10 := fun_mk (st := s_law) l10 c10 k10
  have b10 := F10.binds (ps := ["_law_script"]) fun _ _ _ _ _ _ us hl => match us, hl with | [_], _ => rfl
  have kb_is_seen : KBinds K (PySem.W.fnOf "is_seen" "is_seen" (defArgs s_is_seen) (defBody s_is_seen) (defScope s_is_seen) .none kV2 dc2 pm2 an2 cd2 ct2) ["place"] ["place"] kwG kwG := ⟨fun _ us ws _ hl => match us, ws, hl with | [], [_], _ => .of_eq rfl, fun h k => kwG_rel h k⟩
  let A : Ad := { a_common_divisor := f0, f_common_divisor := PySem.W.fnOf "common_divisor" "common_divisor" (defArgs s_common_divisor) (defBody s_common_divisor) (defScope s_common_divisor) .none kV0 dc0 pm0 an0 cd0 ct0, a_divisor_of := f1, f_divisor_of := PySem.W.fnOf "divisor_of" "divisor_of" (defArgs s_divisor_of) (defBody s_divisor_of) (defScope s_divisor_of) .none kV1 dc1 pm1 an1 cd1 ct1, a_is_seen := f2, f_is_seen := PySem.W.fnOf "is_seen" "is_seen" (defArgs s_is_seen) (defBody s_is_seen) (defScope s_is_seen) .none kV2 dc2 pm2 an2 cd2 ct2, a_law_spring := f3, f_law_spring := PySem.W.fnOf "_law_spring" "_law_spring" (defArgs s_law_spring) (defBody s_law_spring) (defScope s_law_spring) .none kV3 dc3 pm3 an3 cd3 ct3, a_law_sip := f4, f_law_sip := PySem.W.fnOf "_law_sip" "_law_sip" (defArgs s_law_sip) (defBody s_law_sip) (defScope s_law_sip) .none kV4 dc4 pm4 an4 cd4 ct4, a_law_far := f5, f_law_far := PySem.W.fnOf "_law_far" "_law_far" (defArgs s_law_far) (defBody s_law_far) (defScope s_law_far) .none kV5 dc5 pm5 an5 cd5 ct5, a_law_gcd := f6, f_law_gcd := PySem.W.fnOf "_law_gcd" "_law_gcd" (defArgs s_law_gcd) (defBody s_law_gcd) (defScope s_law_gcd) .none kV6 dc6 pm6 an6 cd6 ct6, a_law_truth := f7, f_law_truth := PySem.W.fnOf "_law_truth" "_law_truth" (defArgs s_law_truth) (defBody s_law_truth) (defScope s_law_truth) .none kV7 dc7 pm7 an7 cd7 ct7, a_law_spot := f8, f_law_spot := PySem.W.fnOf "_law_spot" "_law_spot" (defArgs s_law_spot) (defBody s_law_spot) (defScope s_law_spot) .none kV8 dc8 pm8 an8 cd8 ct8, a_law_right := f9, f_law_right := PySem.W.fnOf "_law_right" "_law_right" (defArgs s_law_right) (defBody s_law_right) (defScope s_law_right) .none kV9 dc9 pm9 an9 cd9 ct9, a_law := fa, f_law := PySem.W.fnOf "law" "law" (defArgs s_law) (defBody s_law) (defScope s_law) .none kV10 dc10 pm10 an10 cd10 ct10 }
  have T : Txt K mg A := {
    g_common_divisor := PySem.W.mg_of X G a0, k_common_divisor := k0, F_common_divisor := F0, b_common_divisor := b0,
    g_divisor_of := PySem.W.mg_of X G a1, k_divisor_of := k1, F_divisor_of := F1, b_divisor_of := b1,
    g_is_seen := PySem.W.mg_of X G a2, k_is_seen := k2, F_is_seen := F2, b_is_seen := b2,
    g_law_spring := PySem.W.mg_of X G a3, k_law_spring := k3, F_law_spring := F3, b_law_spring := b3,
    g_law_sip := PySem.W.mg_of X G a4, k_law_sip := k4, F_law_sip := F4, b_law_sip := b4,
    g_law_far := PySem.W.mg_of X G a5, k_law_far := k5, F_law_far := F5, b_law_far := b5,
    g_law_gcd := PySem.W.mg_of X G a6, k_law_gcd := k6, F_law_gcd := F6, b_law_gcd := b6,
    g_law_truth := PySem.W.mg_of X G a7, k_law_truth := k7, F_law_truth := F7, b_law_truth := b7,
    g_law_spot := PySem.W.mg_of X G a8, k_law_spot := k8, F_law_spot := F8, b_law_spot := b8,
    g_law_right := PySem.W.mg_of X G a9, k_law_right := k9, F_law_right := F9, b_law_right := b9,
    g_law := PySem.W.mg_of X G a10, k_law := k10, F_law := F10, b_law := b10,
    kb_is_seen := kb_is_seen,
    n_bool := PySem.W.mg_none_of X G z_bool,
    m_gcd := PySem.W.mg_of X G z_gcd,
    n_int := PySem.W.mg_none_of X G z_int,
    n_isinstance := PySem.W.mg_none_of X G z_isinstance,
    n_len := PySem.W.mg_none_of X G z_len,
    n_max := PySem.W.mg_none_of X G z_max,
    n_range := PySem.W.mg_none_of X G z_range,
    n_tuple := PySem.W.mg_none_of X G z_tuple }
  exact ⟨A.f_law, fun s v => .of_eq rfl, fun base _ _ => ok_law T⟩
theorem walk {l : PySem.W.OpenLaw} {q : Program} {loose : List Str} {XP : (Str → Option Value) → Heap → Prop} {YP : World → Heap → Prop} {d : DefRec} {K : Params → PySem.W.Frag} (hn : l.most = some 63) (hdf : d.params.defaults = [])
    (hY : ∀ (w : World) (h : Heap), YP w h → (K w.params).In h)
    (F : ∀ (w : World) (mg : Str → Option Value) (fa : Addr) (h : Heap), (K w.params).In h → h.Ns mainGlobals mg → mg d.name = some (.ref fa) →
      ∃ fd : FuncData, (∀ (s : Shared) (u : Value), BindsTo s fd ⟨[u], []⟩ [("_law_script", u)]) ∧ ∀ base : Heap, (K w.params).In base → base.Ns mainGlobals mg → FnOk l.prog w (K w.params) mg base CX0 5 fa fd ["_law_script"] (spLaw (K w.params))) :
    PySem.W.WalkO q loose XP YP l.row.toRowW d [] (fun f vs => PySem.call f vs) :=
  L2.walk_ofB (n := 63) (k := 5) (x := "_law_script") (CX := fun _ => CX0) (sp := fun w => spLaw (K w.params)) hn (by decide) hdf ⟨rfl, by decide, by decide⟩ hY F (fun _ _ a ns hl hb _ hS => ⟨a, ns, rfl, hS, hl, hb, fun _ => rfl⟩) fun _ _ _ _ _ z => z
end K01
open PySem PySem.W PyProof.Rows
set_option maxRecDepth 100000 in
set_option maxHeartbeats 0 in
theorem PySem.Challenge.cw_seenposts_k01_seen_places_holds : PySem.Challenge.rw_seenposts_k01_seen_places.Holds := by
  w_on; o_law; k_head; (case hw => w_witness2)
  k_fill
  refine K01.walk (l := PySem.Challenge.rw_seenposts_k01_seen_places) rfl rfl (fun w h Y => PySem.W.kIn_of Y) ?F
  case F =>
    intro w mg fa h KX G hmg
    refine' K01.all_mk KX G hmg ?a0 ?l0 ?c0 ?k0 ?a1 ?l1 ?c1 ?k1 ?a2 ?l2 ?c2 ?k2 ?a3 ?l3 ?c3 ?k3 ?a4 ?l4 ?c4 ?k4 ?a5 ?l5 ?c5 ?k5 ?a6 ?l6 ?c6 ?k6 ?a7 ?l7 ?c7 ?k7 ?a8 ?l8 ?c8 ?k8 ?a9 ?l9 ?c9 ?k9 ?a10 ?l10 ?c10 ?k10 ?z_bool ?z_gcd ?z_int ?z_isinstance ?z_len ?z_max ?z_range ?z_tuple
    (case a0 => k_is)
    (case l0 => k_is)
    (case c0 => k_is)
    (case k0 => k_is)
    (case a1 => k_is)
    (case l1 => k_is)
    (case c1 => k_is)
    (case k1 => k_is)
    (case a2 => k_is)
    (case l2 => k_is)
    (case c2 => k_is)
    (case k2 => k_is)
    (case a3 => k_is)
    (case l3 => k_is)
    (case c3 => k_is)
    (case k3 => k_is)
    (case a4 => k_is)
    (case l4 => k_is)
    (case c4 => k_is)
    (case k4 => k_is)
    (case a5 => k_is)
    (case l5 => k_is)
    (case c5 => k_is)
    (case k5 => k_is)
    (case a6 => k_is)
    (case l6 => k_is)
    (case c6 => k_is)
    (case k6 => k_is)
    (case a7 => k_is)
    (case l7 => k_is)
    (case c7 => k_is)
    (case k7 => k_is)
    (case a8 => k_is)
    (case l8 => k_is)
    (case c8 => k_is)
    (case k8 => k_is)
    (case a9 => k_is)
    (case l9 => k_is)
    (case c9 => k_is)
    (case k9 => k_is)
    (case a10 => k_is)
    (case l10 => k_is)
    (case c10 => k_is)
    (case k10 => k_is)
    (case z_bool => k_is)
    (case z_gcd => k_is)
    (case z_int => k_is)
    (case z_isinstance => k_is)
    (case z_len => k_is)
    (case z_max => k_is)
    (case z_range => k_is)
    (case z_tuple => k_is)
#print axioms PySem.Challenge.cw_seenposts_k01_seen_places_holds

