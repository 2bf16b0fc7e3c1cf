import PyProof.Rows.All
import Wide.All
import OpenK.AllK
import Wide.FinOn
import HandS.Base
import HandS.Call
import HandS.List
import HandS.Comp
import HandS.Ends
import KE.KRevSl
import HandS.ForMost
import HandS.EndBits
import HandS.IsInst
import HandS.Wide
import HandS.Gcd
import HandS.Style
import HandS.TupAny
import HandS.Evl
import PySem.Challenge.RW_seenposts_k02_posts_between
set_option Elab.async false
set_option linter.all false
set_option maxRecDepth 100000
set_option maxHeartbeats 4000000
/-! rules of our own -/
namespace HT
open PySem PySem.W PySem.Calls PyProof.Rows
section
variable {prog : Program} {w : World} {A : Around} {E : Value → Shared → Prop} {s : Shared}
theorem adjust_rev (n : Nat) : Builtin.Slice.sliceAdjust none none (-1) (n : Int) = ((n : Int) - 1, -1) := by
  unfold Builtin.Slice.sliceAdjust
  rfl
theorem places_rev (n : Nat) : Builtin.Slice.slicePlaces ((n : Int) - 1) (-1) (-1) = n := by
  unfold Builtin.Slice.slicePlaces
  have h1 : ¬ ((-1 : Int) > 0) := by decide
  have e1 : (- -1 : Int) = 1 := by decide
  simp only [h1, if_false, e1, Int.ediv_one]
  split <;> omega
theorem sliceApplied_rev {sl : Addr} {vs : Value} {n : Nat} {Q : Int × Int × Nat → Shared → Prop} (hs : s.heap.IsSliceOf sl .none .none vs) (ps : IsPart vs (some (-1)))
    (h : Q ((n : Int) - 1, -1, n) s) : wpAny (model prog w) A (Builtin.Slice.sliceApplied (.ref sl) (pure (n : Int))) Q E s := by
  obtain ⟨os, hos, hcs, hds⟩ := id hs
  unfold Builtin.Slice.sliceApplied Builtin.Slice.sliceFields
  refine wpAny_bind (wpAny_bind (wpAny_field hos hds (x := .none) rfl (wpAny_bind (wpAny_field hos hds (x := .none) rfl (wpAny_bind (wpAny_field hos hds (x := vs) rfl (wpAny_pure ?_)))))))
  refine wpAny_bind (slicePart_ ps ?_)
  show wpAny _ _ (if ((-1 : Int) == 0) = true then _ else _) _ _ s
  rw [if_neg (by decide)]
  refine wpAny_bind (slicePart_none (wpAny_bind (slicePart_none (wpAny_bind (wpAny_pure ?_)))))
  show wpAny _ _ (match Builtin.Slice.sliceAdjust none none (-1) (n : Int) with | (lo, hi) => pure (lo, (-1 : Int), Builtin.Slice.slicePlaces lo hi (-1))) _ _ s
  rw [adjust_rev n]
  show wpAny _ _ (pure ((n : Int) - 1, (-1 : Int), Builtin.Slice.slicePlaces ((n : Int) - 1) (-1) (-1))) _ _ s
  rw [places_rev]
  exact wpAny_pure h
theorem fm_congr {α β : Type} {f g : α → Option β} : ∀ (l : List α), (∀ a ∈ l, f a = g a) → l.filterMap f = l.filterMap g
  | [], _ => rfl
  | a :: r, h => by
    rw [List.filterMap_cons, List.filterMap_cons, h a List.mem_cons_self, fm_congr r fun b hb => h b (List.mem_cons_of_mem _ hb)]
theorem pick_rev (xs : Array Value) : ((List.range xs.size).filterMap fun (m : Nat) => xs[((xs.size : Int) - 1 + (m : Int) * (-1)).toNat]?).toArray = xs.toList.reverse.toArray := by
  rw [← krv_pick xs]
  unfold slicePick
  rw [krv_bounds]
  show _ = ((sliceRange ((xs.size : Int) - 1) (-1) (-1)).filterMap (xs[·]?)).toArray
  rw [krv_sliceRange, List.filterMap_map]
  refine congrArg List.toArray (fm_congr _ fun m hm => ?_)
  have := List.mem_range.mp hm
  show xs[((xs.size : Int) - 1 + (m : Int) * (-1)).toNat]? = xs[xs.size - 1 - m]?
  have e : ((xs.size : Int) - 1 + (m : Int) * (-1)).toNat = xs.size - 1 - m := by omega
  rw [e]
theorem getItem_tuple_rev {t sl : Addr} {items : Array Value} {vs : Value} {Q : Value → Shared → Prop} (ht : IsTup s.heap t items) (hs : s.heap.IsSliceOf sl .none .none vs) (ps : IsPart vs (some (-1)))
    (h : Q (.ref s.heap.objs.size) { s with heap := s.heap.push { cls := .type "tuple", data := .seq items.toList.reverse.toArray } })
    (hsz : items.size ≤ sizeLine) : wpAny (model prog w) A (getItem (.ref t) (.ref sl)) Q E s := by
  have htake : sizeOk (.seq items.toList.reverse.toArray) := by
    show items.toList.reverse.toArray.size ≤ sizeLine
    rw [List.size_toArray, List.length_reverse, Array.length_toList]
    exact hsz
  obtain ⟨os, hos, hcs, hds⟩ := id hs
  have hTs : s.TypeIs (.ref sl) "slice" := ⟨os, hos, hcs⟩
  unfold getItem
  try with_reducible refine wpAny_holding ?_
  first | refine wpAny_bind (wpAny_pure ?_) | skip
  refine wpAny_bind (wpAny_sequenceKey ht.typeIs (by decide) ?_)
  refine wpAny_bind (wpAny_callSpecial?_slot (name := Str.ofString "__getitem__") ht.typeIs PyProof.Rows.slot_tuple_getitem
    (wpAny_call_entry PyProof.Rows.slot_tuple_getitem ht.typeIs entry_tuple_getitem ?_ (args_tuple_getitem _ _)))
  show wpAny _ _ (Builtin.Tuple.tupleItemsOf (.ref t) >>= _) _ _ s
  refine wpAny_bind (tupleItemsOf_ ht ?_)
  refine wpAny_bind (wpAny_typeOf hTs ?_)
  rw [if_pos (by decide)]
  refine wpAny_bind (sliceApplied_rev hs ps ?_)
  have hno : ¬ ((((items.size : Int) - 1) == 0 && (-1 : Int) == 1 && items.size == items.size) = true) := by
    intro q
    rw [Bool.and_eq_true, Bool.and_eq_true] at q
    exact absurd q.1.2 (by decide)
  show wpAny _ _ (if (((items.size : Int) - 1) == 0 && (-1 : Int) == 1 && items.size == items.size) = true then _ else _) _ _ s
  rw [if_neg hno, pick_rev]
  first
    | exact wpAny_bind (m := Builtin.Tuple.tupleExact _) (wpAny_newObj_type (wpAny_pure ⟨_, rfl, wpAny_pure h⟩) htake)
    | exact wpAny_bind (m := Builtin.Tuple.tupleExact _) (wpAny_newObj_type (wpAny_bind (wpAny_pure (wpAny_pure ⟨_, rfl, wpAny_pure h⟩))) htake)
    | exact wpAny_bind (wpAny_bind (m := Builtin.Tuple.tupleExact _) (wpAny_newObj_type (wpAny_pure (wpAny_pure ⟨_, rfl, wpAny_pure h⟩)) htake))
    | exact wpAny_bind (wpAny_bind (m := Builtin.Tuple.tupleExact _) (wpAny_newObj_type (wpAny_pure ⟨_, rfl, wpAny_pure h⟩) htake))
end
end HT
namespace L2
open PySem PySem.Spec PyProof.Rows
section
variable {X : Cx}
/-- t[::-1] of a tuple -/
def tRevT (K : PySem.W.Frag) (te : TE) : TE := fun σ H Q => te σ H fun x H1 => ∃ a xs, x = .ref a ∧ SqT K H1 a xs ∧ ∀ p, H1 p = none → Q (.ref p) (upd H1 p (.tup xs.reverse))
theorem pe_revT {e : Expr} {te : TE} {k : Nat} {p1 p2 p3 pos : Pos} (he : PE X e te) : PE X (.Subscript e (.Slice none none (some (.UnaryOp .USub (.Constant (.int 1) k p1) p2)) p3) pos) (tRevT X.K te) := by
  refine ⟨fun pins s σ H Q I h => ?_⟩
  refine Subscript_ (thn (he.run pins s σ H _ I h) fun v s1 ⟨x, H1, I1, r1, q1⟩ => ?_)
  obtain ⟨a, xs, ex, hx, q⟩ := q1
  subst ex
  cases r1
  have hst : PO X (some (.UnaryOp .USub (.Constant (.int 1) k p1) p2)) (tPart (tUn (rU fun i => .int (-i)) (tC (.int 1)))) := po_some (pe_un un_neg pe_int)
  refine wpAny_Slice (thn (po_none.run pins s1 σ H1 (fun o H2 => o = none ∧ H2 = H1) I1 ⟨rfl, rfl⟩) fun vl s2 ⟨l, H2, I2, pl, el, e2⟩ => ?_)
  subst el e2
  refine thn (po_none.run pins s2 σ H2 (fun o H3 => o = none ∧ H3 = H2) I2 ⟨rfl, rfl⟩) fun vu s3 ⟨u, H3, I3, pu, eu, e3⟩ => ?_
  subst eu e3
  refine thn (hst.run pins s3 σ H3 (fun o H4 => o = some (-1) ∧ H4 = H3) I3 ⟨1, rfl, -1, rfl, rfl, rfl⟩) fun vs s4 ⟨o, H4, I4, ps, eo, e4⟩ => ?_
  subst eo e4
  have I5 : Inv X pins σ H4 { s4 with heap := s4.heap.push { cls := .type "slice", data := .fields #[vl, vu, vs] } } := I4.kept (t' := s4.toks) fun b ob q => Heap.get?_push_of_some _ q
  obtain ⟨its, r, ht, hz⟩ := I5.tuple hx
  have hlen := r.length
  show wpAny (model X.prog X.w) X.A (subscriptTail e (.Slice none none (some (.UnaryOp .USub (.Constant (.int 1) k p1) p2)) p3) (.ref a) (.ref s4.heap.objs.size)) (EP X pins σ Q) X.xe { s4 with heap := s4.heap.push { cls := .type "slice", data := .fields #[vl, vu, vs] } }
  refine tail_any (ops := [.ref a, .ref s4.heap.objs.size]) ht.typeIs (PyProof.Rows.slot_tuple_getitem.lookup) ?_ (by with_unfolding_all rfl)
  cases pl
  cases pu
  refine HT.getItem_tuple_rev ht (Heap.IsSliceOf.new _ .none .none vs) ps ?_ (by rw [List.size_toArray, ← hlen]; exact hz)
  have e : (its.toArray.toList.reverse.toArray) = its.reverse.toArray := by simp
  rw [e]
  refine ⟨.ref _, _, I5.laid (t' := s4.toks) (o := .tup xs.reverse) (fun b ob q => Heap.get?_push_of_some _ q) (Nat.le_refl _) ?_, rfl, q _ (I5.hok.fresh (Nat.le_refl _))⟩
  exact ⟨by rw [List.length_reverse]; exact hz, _, r.reverse, IsTup.new _ _⟩
/-- f(k = v, ..): keywords alone -/
theorem pe_callK0 {CX : CXT} {k : Nat} {f : Addr} {fd : FuncData} {ps ks : List Str} {sp : Sp} {E : XK} {x : Str} {p pos : Pos} {kws : List Keyword} {tk : TA} {g : List Value → List Value → List Value} {gV : List V → List V → List V}
    (F : FnOk X.prog X.w X.K X.mg X.base CX k f fd ps sp) (hr : Room k X.A) (hg : Gl X x) (hm : X.mg x = some (.ref f)) (hk : PySem.W.keepIn X.K (.ref f) = true) (hb : KBinds X.K fd ps ks g gV) (hx : Passes CX X E)
    (hkw : PK X kws tk) (hall : (backToKw pos (keywordEach kws X.env)).all (·.1.isSome) = true := by rfl) (hks : (backToKw pos (keywordEach kws X.env)).filterMap (·.1) = ks := by rfl)
    (hdb : (x == ("__debug__" : Str)) = false := by decide)
    (hpl : ((backTo pos (starEach [] X.env)).any (·.1) || (backToKw pos (keywordEach kws X.env)).any (·.1.isNone)) = false := by rfl) :
    PE X (.Call (.Name x p) [] kws pos) (tCallK sp gV E tNil tk) := by
  refine ⟨fun pins s σ H Q I h => ?_⟩
  refine wpAny_Call_Name_kw (ld_glob I hg hm ?_ hdb)
  refine PySem.W.callWith_KW0 (h₀ := X.base) I.ok.mod.kin hk hall ?_ hpl
  refine thn (hkw.run pos pins s σ H _ I h) fun ws s2 ⟨zs, H2, I2, rz, q2⟩ => ⟨I2.kIn, ?_⟩
  rw [hks]
  exact run_fnk F hr hb hx I2 .nil rz q2
end
end L2

/-! readings, step by step -/
namespace L2
open PySem PySem.Spec PyProof.Rows
section
variable {σ : St} {H : Hp} {Q : VK} {v x y : V} {te ta tb : TE} {tA tB' : TA} {t u : TT} {D : Ends} {t1 t2 : TS} {i : Nat} {a b : Int}
theorem r_var (h : σ[i]? = some (some v)) (k : Q v H) : tVar i σ H Q := ⟨v, h, k⟩
theorem r_c (k : Q v H) : tC v σ H Q := k
theorem r_op {r : R2} (k : ta σ H fun x H1 => tb σ H1 fun y H2 => r x y H2 Q) : tOp r ta tb σ H Q := k
theorem r_un {r : V → Hp → VK → Prop} (k : ta σ H fun x H1 => r x H1 Q) : tUn r ta σ H Q := k
theorem r_cb {r : List V → Hp → VK → Prop} (k : tA σ H fun vs H1 => r vs H1 Q) : tCB r tA σ H Q := k
theorem r_call {sp : Sp} {dvs : List V} {E : XK} (k : tA σ H fun vs H1 => sp (vs ++ dvs) H1 Q E) : tCall sp dvs E tA σ H Q := k
theorem r_cons {QA : List V → Hp → Prop} (k : ta σ H fun x H1 => tA σ H1 fun xs H2 => QA (x :: xs) H2) : tCons ta tA σ H QA := k
theorem r_nil {QA : List V → Hp → Prop} (k : QA [] H) : tNil σ H QA := k
theorem r_tup (k : tA σ H fun xs H1 => xs.length ≤ sizeLine ∧ ∀ p, H1 p = none → Q (.ref p) (upd H1 p (.tup xs))) : tTup tA σ H Q := k
theorem r_lst (k : tA σ H fun xs H1 => xs.length ≤ sizeLine ∧ ∀ p, H1 p = none → Q (.ref p) (upd H1 p (.lst xs))) : tLst tA σ H Q := k
theorem r_I0 {g : Int → Int → V} (k : Q (g a b) H) : rI0 g (.int a) (.int b) H Q := ⟨a, b, rfl, rfl, k⟩
theorem r_I {C : Int → Int → Prop} {g : Int → Int → V} (c : C a b) (k : Q (g a b) H) : rI C g (.int a) (.int b) H Q := ⟨a, b, rfl, rfl, c, k⟩
theorem r_eq (c : scal x y = true) (k : Q (.bl (decide (x = y))) H) : rEq x y H Q := ⟨c, k⟩
theorem r_ne (c : scal x y = true) (k : Q (.bl (!decide (x = y))) H) : rNe x y H Q := ⟨c, k⟩
theorem r_eqI (k : Q (.bl (a == b)) H) : rEq (.int a) (.int b) H Q := ⟨rfl, by rw [dec_int]; exact k⟩
theorem r_neI (k : Q (.bl (!(a == b))) H) : rNe (.int a) (.int b) H Q := ⟨rfl, by rw [dec_int]; exact k⟩
theorem r_eqB {a b : Bool} (k : Q (.bl (a == b)) H) : rEq (.bl a) (.bl b) H Q := ⟨rfl, by rw [dec_bl]; exact k⟩
theorem r_test {Qb : Bool → Hp → Prop} (k : te σ H fun x H' => ∃ k, x = .bl k ∧ Qb k H') : tTest te σ H Qb := k
theorem r_B {Qb : Bool → Hp → Prop} (k : te σ H fun x H' => ∃ k, x = .bl k ∧ Qb k H') : tB te σ H Qb := k
theorem r_not {Qb : Bool → Hp → Prop} (k : t σ H fun c H1 => Qb (!c) H1) : tNot t σ H Qb := k
theorem r_and {Qb : Bool → Hp → Prop} (k : t σ H fun c H1 => if c = true then u σ H1 Qb else Qb false H1) : tAnd t u σ H Qb := k
theorem r_or {Qb : Bool → Hp → Prop} (k : t σ H fun c H1 => if c = true then Qb true H1 else u σ H1 Qb) : tOr t u σ H Qb := k
theorem r_andV (k : ta σ H fun x H1 => ∃ c, x = .bl c ∧ if c = true then tb σ H1 Q else Q (.bl false) H1) : tAndV ta tb σ H Q := k
theorem r_orV (k : ta σ H fun x H1 => ∃ c, x = .bl c ∧ if c = true then Q (.bl true) H1 else tb σ H1 Q) : tOrV ta tb σ H Q := k
theorem r_notV (k : ta σ H fun x H1 => ∃ c, x = .bl c ∧ Q (.bl (!c)) H1) : tNotV ta σ H Q := k
theorem r_if (k : t σ H fun c H1 => if c = true then ta σ H1 Q else tb σ H1 Q) : tIf t ta tb σ H Q := k
theorem r_seqAsg (k : te σ H fun x H1 => t2 D (σ.set i (some x)) H1) : tSeq (tAsg te (gName i)) t2 D σ H := k
theorem r_asg (k : te σ H fun x H1 => D.nx (σ.set i (some x)) H1) : tAsg te (gName i) D σ H := k
theorem r_seqSub {to ti : TE} {ts : TSet} (k : te σ H fun x H1 => to σ H1 fun o H2 => ti σ H2 fun j H3 => ts o j x H3 fun H4 => t2 D σ H4) : tSeq (tAsg te (gSub to ti ts)) t2 D σ H := k
theorem r_sub {to ti : TE} {ts : TSet} (k : te σ H fun x H1 => to σ H1 fun o H2 => ti σ H2 fun j H3 => ts o j x H3 fun H4 => D.nx σ H4) : tAsg te (gSub to ti ts) D σ H := k
theorem r_seqPar {j : Nat} (k : tA σ H fun vs H1 => ∃ v w, vs = [v, w] ∧ t2 D ((σ.set i (some v)).set j (some w)) H1) : tSeq (tPar i j tA) t2 D σ H := k
theorem r_par {j : Nat} (k : tA σ H fun vs H1 => ∃ v w, vs = [v, w] ∧ D.nx ((σ.set i (some v)).set j (some w)) H1) : tPar i j tA D σ H := k
theorem r_ret (k : te σ H D.rt) : tRet te D σ H := k
theorem r_seqDrop (k : te σ H fun _ H1 => t2 D σ H1) : tSeq (tDrop te) t2 D σ H := k
theorem r_drop (k : te σ H fun _ H1 => D.nx σ H1) : tDrop te D σ H := k
theorem r_seqIf {c : TT} {t3 : TS} (k : c σ H fun b H1 => if b = true then t1 { D with nx := t3 D } σ H1 else t2 { D with nx := t3 D } σ H1) : tSeq (tIfS c t1 t2) t3 D σ H := k
theorem r_ifS {c : TT} (k : c σ H fun b H1 => if b = true then t1 D σ H1 else t2 D σ H1) : tIfS c t1 t2 D σ H := k
theorem r_gname {QG : St → Hp → Prop} (k : QG (σ.set i (some v)) H) : gName i v σ H QG := k
theorem r_cutIf {c : TT} {t3 : TS} (M : St → Hp → Prop) (k : c σ H fun b H1 => if b = true then t1 { D with nx := M } σ H1 else t2 { D with nx := M } σ H1) (k2 : ∀ σ' H', M σ' H' → t3 D σ' H') : Evl.tCut (tIfS c t1 t2) t3 D σ H := ⟨M, k, k2⟩
theorem r_yes {Qb : Bool → Hp → Prop} (k : Qb true H) : tYes σ H Qb := k
theorem r_callK {sp : Sp} {gV : List V → List V → List V} {E : XK} {tk : TA} (k : tA σ H fun vs H1 => tk σ H1 fun zs H2 => sp (gV vs zs) H2 Q E) : tCallK sp gV E tA tk σ H Q := k
theorem r_sl {r : V → Option Int → Option Int → Hp → VK → Prop} {tl th : TO} (k : te σ H fun x H1 => tl σ H1 fun l H2 => th σ H2 fun u H3 => r x l u H3 Q) : tSl r te tl th σ H Q := k
theorem r_nopart {QO : Option Int → Hp → Prop} (k : QO none H) : tNoPart σ H QO := k
theorem r_part {QO : Option Int → Hp → Prop} (k : te σ H fun x H1 => ∃ i, x = .int i ∧ QO (some i) H1) : tPart te σ H QO := k
theorem r_bm {K : PySem.W.Frag} {T : String} {r : V → List V → Hp → VK → Prop} (k : te σ H fun x H1 => tyV K T x H1 ∧ tA σ H1 fun xs H2 => r x xs H2 Q) : tBM K T r te tA σ H Q := k
theorem r_bm0 {K : PySem.W.Frag} {T : String} {r : V → List V → Hp → VK → Prop} (k : te σ H fun x H1 => tyV K T x H1 ∧ r x [] H1 Q) : tBM0 K T r te σ H Q := k
theorem r_gtup {K : PySem.W.Frag} {n : Nat} {g : TGs} {a : Addr} {xs : List V} {QG : St → Hp → Prop} (h : SqT K H a xs) (hn : xs.length = n) (k : g xs σ H QG) : gTup K n g (.ref a) σ H QG := ⟨a, xs, rfl, h, hn, k⟩
theorem r_gcons {g : TG} {u : TGs} {xs : List V} {QG : St → Hp → Prop} (k : g v σ H fun σ' H' => u xs σ' H' QG) : gCons g u (v :: xs) σ H QG := ⟨v, xs, rfl, k⟩
theorem r_gnil {QG : St → Hp → Prop} (k : QG σ H) : gNil [] σ H QG := ⟨rfl, k⟩
theorem r_gsub {to ti : TE} {ts : TSet} {QG : St → Hp → Prop} (k : to σ H fun o H1 => ti σ H1 fun j H2 => ts o j v H2 fun H3 => QG σ H3) : gSub to ti ts v σ H QG := k
theorem r_seqAsgG {g : TG} (k : te σ H fun x H1 => g x σ H1 (t2 D)) : tSeq (tAsg te g) t2 D σ H := k
theorem r_asgG {g : TG} (k : te σ H fun x H1 => g x σ H1 D.nx) : tAsg te g D σ H := k
theorem r_next (k : D.nx σ H) : tNext D σ H := k
theorem r_ixL {K : PySem.W.Frag} {p : Addr} {xs : List V} (h : SqL K H p xs) (ha : atI xs a = some v) (k : Q v H) : rIxL K (.ref p) (.int a) H Q := ⟨p, xs, a, v, rfl, rfl, h, ha, k⟩
theorem r_ixT {K : PySem.W.Frag} {p : Addr} {xs : List V} (h : SqT K H p xs) (ha : atI xs a = some v) (k : Q v H) : rIxT K (.ref p) (.int a) H Q := ⟨p, xs, a, v, rfl, rfl, h, ha, k⟩
theorem r_setL {p : Addr} {xs : List V} {j : Nat} {Qh : Hp → Prop} (h : H p = some (.lst xs)) (hj : ixN xs.length a = some j) (k : Qh (upd H p (.lst (xs.set j v)))) : rSetL (.ref p) (.int a) v H Qh := ⟨p, xs, a, j, rfl, rfl, h, hj, k⟩
theorem Same.new {H H1 : Hp} {p : Addr} {o : HO} (e : Same H H1) (np : H1 p = none) : Same H (upd H1 p o) := fun b u h => by
  have h1 := e b u h
  rw [upd_ne (ne_of_none h1 np)]
  exact h1
theorem Same.new0 {H : Hp} {p : Addr} {o : HO} (np : H p = none) : Same H (upd H p o) := (Same.refl H).new np
theorem Same.tup {K : PySem.W.Frag} {H H' : Hp} {a : Addr} {xs : List V} (e : Same H H') (h : SqT K H a xs) : SqT K H' a xs := by
  rcases h with (h | ⟨o, h⟩) | h
  · exact .inl (.inl (e _ _ h))
  · exact .inl (.inr ⟨o, e _ _ h⟩)
  · exact .inr h
end

theorem iteFb {b : Bool} {A B : Prop} (e : b = false) (h : B) : if b = true then A else B := by
  subst e
  exact iteF h
theorem iteTb {b : Bool} {A B : Prop} (e : b = true) (h : A) : if b = true then A else B := by
  subst e
  exact iteT h
/-- a tuple of whole numbers stands at t -/
def TupI (H : Hp) (t : Addr) (ns : List Int) : Prop := H t = some (.tup (ns.map V.int))
theorem TupI.same {H H' : Hp} {t : Addr} {ns : List Int} (h : TupI H t ns) (e : Same H H') : TupI H' t ns := e _ _ h
theorem TupI.sq {K : PySem.W.Frag} {H : Hp} {t : Addr} {ns : List Int} (h : TupI H t ns) : SqT K H t (ns.map V.int) := SqT.of h
theorem TupI.new {H : Hp} {t : Addr} {ns : List Int} {xs : List V} (e : xs = ns.map V.int) : TupI (upd H t (.tup xs)) t ns := by
  unfold TupI
  rw [upd_same, e]
/-- a list of whole numbers stands at l -/
def LstI (H : Hp) (t : Addr) (ns : List Int) : Prop := H t = some (.lst (ns.map V.int))
theorem dpAll_ints {K : PySem.W.Frag} {H : Hp} : ∀ ns : List Int, DpAll K H (ns.map V.int) (ns.map PyData.int)
  | [] => .nil
  | n :: r => .cons (.int n) (dpAll_ints r)
theorem canLay_ints : ∀ ns : List Int, PyData.canLayAll0 (ns.map PyData.int) = true
  | [] => rfl
  | n :: r => canLay_ints r
theorem depth_ints : ∀ ns : List Int, PyData.depthAll (ns.map PyData.int) = 0
  | [] => rfl
  | n :: r => by
    show max 0 (PyData.depthAll (r.map PyData.int)) = 0
    rw [depth_ints r]
    rfl
theorem shaped_tup (ns : List Int) : SeqAt.shaped (.tuple (ns.map PyData.int)) = true := by
  unfold SeqAt.shaped
  show (PyData.canLayAll0 (ns.map PyData.int) && decide (PyData.depthAll (ns.map PyData.int) + 1 ≤ 64)) = true
  rw [canLay_ints, depth_ints]
  rfl
theorem shaped_lst (ns : List Int) : SeqAt.shaped (.list (ns.map PyData.int)) = true := shaped_tup ns
theorem eqD_tup {K : PySem.W.Frag} {H : Hp} {a b : Addr} {ns ms : List Int} {Q : VK} (ha : SqT K H a (ns.map V.int)) (hb : SqT K H b (ms.map V.int)) (k : Q (.bl (decide (ns = ms))) H) : rEqD K (.ref a) (.ref b) H Q :=
  ⟨_, _, .tup ha (dpAll_ints ns), .tup hb (dpAll_ints ms), shaped_tup ns, shaped_tup ms, by
    show Q (.bl (PyData.eqvAll (ns.map PyData.int) (ms.map PyData.int))) H
    rw [PySem.W.ked_eqvAll]
    exact k⟩
theorem neD_tup {K : PySem.W.Frag} {H : Hp} {a b : Addr} {ns ms : List Int} {Q : VK} (ha : SqT K H a (ns.map V.int)) (hb : SqT K H b (ms.map V.int)) (k : Q (.bl (!decide (ns = ms))) H) : rNeD K (.ref a) (.ref b) H Q :=
  ⟨_, _, .tup ha (dpAll_ints ns), .tup hb (dpAll_ints ms), shaped_tup ns, shaped_tup ms, by
    show Q (.bl (!PyData.eqvAll (ns.map PyData.int) (ms.map PyData.int))) H
    rw [PySem.W.ked_eqvAll]
    exact k⟩
theorem eqD_lst {K : PySem.W.Frag} {H : Hp} {a b : Addr} {ns ms : List Int} {Q : VK} (ha : SqL K H a (ns.map V.int)) (hb : SqL K H b (ms.map V.int)) (k : Q (.bl (decide (ns = ms))) H) : rEqD K (.ref a) (.ref b) H Q :=
  ⟨_, _, .lst ha (dpAll_ints ns), .lst hb (dpAll_ints ms), shaped_lst ns, shaped_lst ms, by
    show Q (.bl (PyData.eqvAll (ns.map PyData.int) (ms.map PyData.int))) H
    rw [PySem.W.ked_eqvAll]
    exact k⟩
theorem neD_lst {K : PySem.W.Frag} {H : Hp} {a b : Addr} {ns ms : List Int} {Q : VK} (ha : SqL K H a (ns.map V.int)) (hb : SqL K H b (ms.map V.int)) (k : Q (.bl (!decide (ns = ms))) H) : rNeD K (.ref a) (.ref b) H Q :=
  ⟨_, _, .lst ha (dpAll_ints ns), .lst hb (dpAll_ints ms), shaped_lst ns, shaped_lst ms, by
    show Q (.bl (!PyData.eqvAll (ns.map PyData.int) (ms.map PyData.int))) H
    rw [PySem.W.ked_eqvAll]
    exact k⟩

/-- l + m, lists that are read (the script too) -/
def rCatR (K : PySem.W.Frag) : R2 := fun x y H Q => ∃ l b xs zs, x = .ref l ∧ y = .ref b ∧ SqL K H l xs ∧ SqL K H b zs ∧ xs.length + zs.length ≤ sizeLine ∧ ∀ p, H p = none → Q (.ref p) (upd H p (.lst (xs ++ zs)))
theorem op_catR {X : Cx} : OpR X (binaryOp .Add) (rCatR X.K) := by
  intro pins s σ H x y v u Q I rx ry h
  obtain ⟨l, b, xs, zs, rfl, rfl, hL, hB, hz, q⟩ := h
  cases rx
  cases ry
  obtain ⟨us, r1, p1, _⟩ := I.list hL
  obtain ⟨ws, r2, p2, _⟩ := I.list hB
  obtain ⟨⟨c1, d1, e1, sl1⟩, n1, g1, k1, z1, q1⟩ := p1
  obtain ⟨⟨c2, d2, e2, sl2⟩, n2, g2, k2, z2, q2⟩ := p2
  dsimp only at k1 z1 q1 k2 z2 q2
  subst k1 z1 q1 k2 z2 q2
  have hl1 := r1.length
  have hl2 := r2.length
  refine concat_meets ⟨_, g1, rfl⟩ ⟨_, g2, rfl⟩ noFill_list_add seq_list_add PySem.F.slot_list_add PySem.F.entry_list_add (PySem.F.args_list_add_2 _ _) (list_addW l b us.toArray ws.toArray n1 n2 none none sl1 sl2 (by rw [List.size_toArray, List.size_toArray]; omega)) ⟨g1, g2, ?_⟩
  have ea : us.toArray ++ ws.toArray = (us ++ ws).toArray := by simp
  rw [ea]
  exact ⟨.ref _, _, I.lnew (t' := s.toks) (r1.append r2) (by rw [List.length_append]; omega), rfl, q _ I.fresh⟩

/-! ### the springs of the laws -/
def MM : Int := 618970019642690137449562111
/-- a spring stands at p -/
def Spr (H : Hp) (p : Addr) : Prop := ∃ a b c : Int, H p = some (.lst [.int a, .int b, .int c]) ∧ 0 ≤ b ∧ b < MM
/-- all but p is as it was -/
def But (p : Addr) (H H' : Hp) : Prop := ∀ b o, b ≠ p → H b = some o → H' b = some o
theorem But.refl (p : Addr) (H : Hp) : But p H H := fun _ _ _ h => h
theorem But.trans {p : Addr} {H H1 H2 : Hp} (a : But p H H1) (b : But p H1 H2) : But p H H2 := fun c o n h => b c o n (a c o n h)
theorem But.new {p q : Addr} {H H1 : Hp} {o : HO} (a : But p H H1) (nq : H1 q = none) : But p H (upd H1 q o) := fun c u n h => by
  have h1 := a c u n h
  rw [upd_ne (ne_of_none h1 nq)]
  exact h1
theorem But.mut {p : Addr} {H H1 : Hp} {o : HO} (a : But p H H1) : But p H (upd H1 p o) := fun c u n h => by
  rw [upd_ne n]
  exact a c u n h
theorem But.same {p : Addr} {H H1 H2 : Hp} (a : But p H H1) (b : Same H1 H2) : But p H H2 := fun c u n h => b c u (a c u n h)
theorem Same.but {p : Addr} {H H1 : Hp} (a : Same H H1) : But p H H1 := fun c u _ h => a c u h
theorem But.free {p q : Addr} {H H1 : Hp} (a : But p H H1) (h : H1 q = none) (n : q ≠ p) : H q = none := by
  cases e : H q with
  | none => rfl
  | some o =>
    rw [a q o n e] at h
    cases h
/-- a spring that was made on the way -/
theorem But.of_new {p : Addr} {H H1 H2 : Hp} (np : H p = none) (s : Same H H1) (a : But p H1 H2) : Same H H2 := fun b o h => a b o (ne_of_none h np) (s b o h)
theorem Spr.same {p : Addr} {H H1 : Hp} (s : Same H H1) (h : Spr H p) : Spr H1 p := by
  obtain ⟨a, b, c, e, r⟩ := h
  exact ⟨a, b, c, s _ _ e, r⟩
theorem Spr.ne {p q : Addr} {H : Hp} (h : Spr H p) (n : H q = none) : p ≠ q := by
  obtain ⟨a, b, c, e, r⟩ := h
  exact ne_of_none e n
theorem Spr.new {p q : Addr} {H : Hp} {o : HO} (h : Spr H p) (n : H q = none) : Spr (upd H q o) p := h.same (Same.new0 n)
theorem Spr.put {H : Hp} {p D : Addr} {o : HO} (h : Spr H p) (n : D ≠ p) : Spr (upd H D o) p := by
  obtain ⟨x1, x2, x3, e1, e2⟩ := h
  exact ⟨x1, x2, x3, by rw [upd_ne (Ne.symm n)]; exact e1, e2⟩
theorem Spr.here {p : Addr} {H : Hp} (h : Spr H p) : ∃ o, H p = some o := by
  obtain ⟨a, b, c, e, r⟩ := h
  exact ⟨_, e⟩

def spSpring : Sp := fun vs H Q _ => ∃ c k : Int, vs = [.int c, .int k] ∧ ∀ p H', H p = none → Same H H' → Spr H' p → Q (.ref p) H'
def spSip : Sp := fun vs H Q _ => ∃ (p : Addr) (m : Int), vs = [.ref p, .int m] ∧ Spr H p ∧ 1 ≤ m ∧ m < 2 ^ 250 ∧ ∀ r H', 0 ≤ r → r < m → But p H H' → Spr H' p → Q (.int r) H'
def spFar : Sp := fun vs H Q _ => ∃ (p : Addr) (w : Int), vs = [.ref p, .int w] ∧ Spr H p ∧ 1 ≤ w ∧ w < 2 ^ 250 ∧ ∀ r H', -w < r → r < w → But p H H' → Spr H' p → Q (.int r) H'
def spTruth : Sp := fun vs H Q _ => ∃ a b : Bool, vs = [.bl a, .bl b] ∧ Q (.bl (a == b)) H
def spLaw (K : PySem.W.Frag) : Sp := fun vs H Q _ => ∃ (a : Addr) (ns : List Int), vs = [.ref a] ∧ SqL K H a (ns.map V.int) ∧ ns.length ≤ 63 ∧ (∀ z ∈ ns, Builtin.Int.intBits z ≤ 1048576) ∧ ∀ H', Q (.bl true) H'

theorem cut_ints (ns : List Int) (k : Nat) : cutV (ns.map V.int) none (some (k : Int)) = (ns.take k).map V.int := by
  unfold cutV
  rw [HT.sIx_none, HT.sIx_nat, List.drop_zero, List.length_map, Nat.sub_zero, ← List.map_take]
  congr 1
  rw [List.take_eq_take_iff]
  omega
/-- the cells of a script: the first k, or a 0 -/
def cells (ns : List Int) (k : Nat) : List Int := ns.take k ++ List.replicate (if ns.length = 0 then 1 else 0) 0
theorem cells_len {ns : List Int} (h : ns.length ≤ 63) (k : Nat) : (cells ns k).length ≤ 64 := by
  unfold cells
  rw [List.length_append, List.length_take, List.length_replicate]
  split <;> omega
theorem cells_v (ns : List Int) (k : Nat) : (ns.take k).map V.int ++ (List.replicate ((if ns.length = 0 then (1 : Int) else 0).toNat) [V.int 0]).flatten = (cells ns k).map V.int := by
  unfold cells
  rw [List.map_append]
  congr 1
  split <;> rfl
/-- keywords alone -/
def kwG {α : Type} : List α → List α → List α
  | [], ws => ws
  | _ :: _, _ => []
theorem kwG_rel {vs : List V} {us : List Value} {zs : List V} {ws : List Value} (h : Vals vs us) (k : Vals zs ws) : Vals (kwG vs zs) (kwG us ws) := by
  cases h with
  | nil => exact k
  | cons _ _ => exact .nil
/-! ### greatest common divisors -/
def gcdL : List Int → Nat
  | [] => 0
  | a :: r => Nat.gcd a.natAbs (gcdL r)
theorem gcdL_foldl : ∀ (l : List Int) (g : Nat), l.foldl (fun g a => Nat.gcd g a.natAbs) g = Nat.gcd g (gcdL l)
  | [], g => (Nat.gcd_zero_right g).symm
  | a :: r, g => by
    rw [List.foldl_cons, gcdL_foldl r, gcdL, Nat.gcd_assoc]
theorem gcdL_append : ∀ (l r : List Int), gcdL (l ++ r) = Nat.gcd (gcdL l) (gcdL r)
  | [], r => (Nat.gcd_zero_left _).symm
  | a :: l, r => by rw [List.cons_append, gcdL, gcdL, gcdL_append l r, Nat.gcd_assoc]
theorem gcdL_one (a : Int) : gcdL [a] = a.natAbs := Nat.gcd_zero_right _
theorem gcdL_reverse : ∀ l : List Int, gcdL l.reverse = gcdL l
  | [] => rfl
  | a :: r => by rw [List.reverse_cons, gcdL_append, gcdL_one, gcdL_reverse r, gcdL, Nat.gcd_comm]
theorem gcdL_neg : ∀ l : List Int, gcdL (l.map fun a => 0 - a) = gcdL l
  | [] => rfl
  | a :: r => by
    rw [List.map_cons, gcdL, gcdL, gcdL_neg r]
    have e : (0 - a).natAbs = a.natAbs := by omega
    rw [e]
theorem gcdL_mul : ∀ (l : List Int) (k : Int), gcdL (l.map fun a => a * k) = gcdL l * k.natAbs
  | [], k => (Nat.zero_mul _).symm
  | a :: r, k => by rw [List.map_cons, gcdL, gcdL, gcdL_mul r, Int.natAbs_mul, Nat.gcd_mul_right]
theorem gcdL_dvd : ∀ (l : List Int) (a : Int), a ∈ l → ((gcdL l : Nat) : Int) ∣ a
  | b :: r, a, h => by
    rcases List.mem_cons.mp h with e | e
    · subst e
      exact Int.ofNat_dvd_left.mpr (Nat.gcd_dvd_left _ _)
    · exact Int.dvd_trans (Int.ofNat_dvd.mpr (Nat.gcd_dvd_right _ _)) (gcdL_dvd r a e)
theorem dvd_gcdL {d : Nat} : ∀ (l : List Int), (∀ a ∈ l, (d : Int) ∣ a) → d ∣ gcdL l
  | [], _ => Nat.dvd_zero d
  | a :: r, h => Nat.dvd_gcd (Int.ofNat_dvd_left.mp (h a List.mem_cons_self)) (dvd_gcdL r fun b hb => h b (List.mem_cons_of_mem _ hb))
theorem gcdL_lt {B : Nat} (hB : 0 < B) : ∀ (l : List Int), (∀ a ∈ l, a.natAbs < B) → gcdL l < B
  | [], _ => hB
  | a :: r, h => by
    have h1 := h a List.mem_cons_self
    have h2 := gcdL_lt hB r fun b hb => h b (List.mem_cons_of_mem _ hb)
    rw [gcdL]
    by_cases e : a.natAbs = 0
    · rw [e, Nat.gcd_zero_left]
      exact h2
    · exact Nat.lt_of_le_of_lt (Nat.gcd_le_left _ (Nat.pos_of_ne_zero e)) h1
theorem gcdL_zero {l : List Int} (h : gcdL l = 0) : ∀ a ∈ l, a = 0 := fun a ha => by
  have q := gcdL_dvd l a ha
  rw [h] at q
  exact Int.zero_dvd.mp q
theorem gcdL_of_zero : ∀ {l : List Int}, (∀ a ∈ l, a = 0) → gcdL l = 0
  | [], _ => rfl
  | a :: r, h => by
    rw [gcdL, h a List.mem_cons_self, gcdL_of_zero fun b hb => h b (List.mem_cons_of_mem _ hb)]
    rfl
/-- the seen place ahead -/
def firstL (l : List Int) : List Int := if gcdL l = 0 then l else l.map fun a => a / ((gcdL l : Nat) : Int)
theorem firstL_len (l : List Int) : (firstL l).length = l.length := by
  unfold firstL
  split
  · rfl
  · exact List.length_map _
theorem firstL_back {l : List Int} : (firstL l).map (fun a => a * ((gcdL l : Nat) : Int)) = if gcdL l = 0 then l.map (fun _ => 0) else l := by
  unfold firstL
  split
  · rename_i h
    rw [h]
    exact List.map_congr_left fun a _ => Int.mul_zero a
  · rw [List.map_map]
    conv => rhs; rw [← List.map_id l]
    exact List.map_congr_left fun a ha => Int.ediv_mul_cancel (gcdL_dvd l a ha)
theorem firstL_gcd {l : List Int} (h : gcdL l ≠ 0) : gcdL (firstL l) = 1 := by
  have e := firstL_back (l := l)
  rw [if_neg h] at e
  have q := gcdL_mul (firstL l) ((gcdL l : Nat) : Int)
  rw [e, Int.natAbs_natCast] at q
  have : 1 * gcdL l = gcdL (firstL l) * gcdL l := by rw [Nat.one_mul]; exact q
  exact (Nat.eq_of_mul_eq_mul_right (Nat.pos_of_ne_zero h) this).symm
theorem gcdL_same {l m : List Int} (h : ∀ d : Nat, (∀ a ∈ l, (d : Int) ∣ a) ↔ ∀ a ∈ m, (d : Int) ∣ a) : gcdL l = gcdL m := by
  refine Nat.dvd_antisymm ?_ ?_
  · exact dvd_gcdL m ((h _).mp (gcdL_dvd l))
  · exact dvd_gcdL l ((h _).mpr (gcdL_dvd m))
theorem all_set {P : Int → Prop} {l : List Int} {i : Nat} {z : Int} (h : ∀ j a, j ≠ i → l[j]? = some a → P a) (hz : P z) : ∀ a ∈ l.set i z, P a := by
  intro a ha
  obtain ⟨j, hj⟩ := List.getElem?_of_mem ha
  by_cases e : j = i
  · subst e
    have hl := (List.getElem?_eq_some_iff.mp hj).1
    rw [List.length_set] at hl
    rw [List.getElem?_set_self hl] at hj
    cases hj
    exact hz
  · rw [List.getElem?_set_ne (Ne.symm e)] at hj
    exact h j a e hj
theorem set_other {l : List Int} {i j : Nat} {z a : Int} (n : j ≠ i) (h : l[j]? = some a) : a ∈ l.set i z :=
  List.mem_of_getElem? (i := j) (by rw [List.getElem?_set_ne (Ne.symm n)]; exact h)
theorem set_here {l : List Int} {i : Nat} {z a : Int} (h : l[i]? = some a) : z ∈ l.set i z :=
  List.mem_of_getElem? (i := i) (List.getElem?_set_self (List.getElem?_eq_some_iff.mp h).1)
/-- a multiple of another coordinate added -/
theorem gcdL_shear {l : List Int} {i j : Nat} {x y k : Int} (n : j ≠ i) (hx : l[i]? = some x) (hy : l[j]? = some y) : gcdL (l.set i (x + k * y)) = gcdL l := by
  refine gcdL_same fun d => ⟨fun h a ha => ?_, fun h => all_set (fun m a _ hm => h a (List.mem_of_getElem? hm)) (Int.dvd_add (h x (List.mem_of_getElem? hx)) (Int.dvd_trans (h y (List.mem_of_getElem? hy)) (Int.dvd_mul_left _ _)))⟩
  obtain ⟨m, hm⟩ := List.getElem?_of_mem ha
  by_cases e : m = i
  · subst e
    rw [hx] at hm
    cases hm
    have h1 := h _ (set_here (z := x + k * y) hx)
    have h2 := Int.dvd_trans (h y (set_other n hy)) (Int.dvd_mul_left k y)
    have h3 := Int.dvd_sub h1 h2
    rwa [Int.add_sub_cancel] at h3
  · exact h a (set_other e hm)
/-- two coordinates exchanged, one with its sign turned -/
theorem gcdL_swap {l : List Int} {i j : Nat} {x y : Int} (n : j ≠ i) (hx : l[i]? = some x) (hy : l[j]? = some y) : gcdL ((l.set i y).set j (0 - x)) = gcdL l := by
  have hx' : (0 - x) ∈ (l.set i y).set j (0 - x) := set_here (a := y) (by rw [List.getElem?_set_ne (Ne.symm n)]; exact hy)
  have hy' : y ∈ (l.set i y).set j (0 - x) := set_other (j := i) (Ne.symm n) (List.getElem?_set_self (List.getElem?_eq_some_iff.mp hx).1)
  refine gcdL_same fun d => ⟨fun h a ha => ?_, fun h => all_set (fun m a hm hma => ?_) (Int.dvd_sub (Int.dvd_zero _) (h x (List.mem_of_getElem? hx)))⟩
  · obtain ⟨m, hm⟩ := List.getElem?_of_mem ha
    by_cases e : m = i
    · subst e
      rw [hx] at hm
      cases hm
      have h1 := Int.dvd_sub (Int.dvd_zero (d : Int)) (h _ hx')
      have e2 : 0 - (0 - x) = x := by omega
      rwa [e2] at h1
    · by_cases e2 : m = j
      · subst e2
        rw [hy] at hm
        cases hm
        exact h _ hy'
      · exact h a (set_other e2 (by rw [List.getElem?_set_ne (Ne.symm e)]; exact hm))
  · by_cases e : m = i
    · subst e
      rw [List.getElem?_set_self (List.getElem?_eq_some_iff.mp hx).1] at hma
      cases hma
      exact h y (List.mem_of_getElem? hy)
    · rw [List.getElem?_set_ne (Ne.symm e)] at hma
      exact h a (List.mem_of_getElem? hma)
theorem take_more {α : Type} : ∀ {l : List α} {i : Nat} {x : α}, l[i]? = some x → l.take (i + 1) = l.take i ++ [x]
  | [], i, x, h => by simp at h
  | a :: l, 0, x, h => by
    have e : a = x := Option.some.inj h
    subst e
    rfl
  | a :: l, i + 1, x, h => by
    have ih := take_more (l := l) (i := i) (x := x) h
    show a :: l.take (i + 1) = a :: l.take i ++ [x]
    rw [ih]
    rfl
theorem ints_at {ns : List Int} {i : Nat} {x : V} (h : (ns.map V.int)[i]? = some x) : ∃ z, ns[i]? = some z ∧ x = V.int z := by
  rw [List.getElem?_map] at h
  cases e : ns[i]? with
  | none =>
    rw [e] at h
    cases h
  | some z =>
    rw [e] at h
    exact ⟨z, rfl, (Option.some.inj h).symm⟩
theorem at_int {ns : List Int} {i : Int} (h0 : 0 ≤ i) (h1 : i < (ns.length : Int)) : ∃ x, ns[i.toNat]? = some x ∧ atI (ns.map V.int) i = some (.int x) := by
  have hi : i.toNat < ns.length := by omega
  refine ⟨ns[i.toNat], List.getElem?_eq_getElem hi, ?_⟩
  have e : i = ((i.toNat : Nat) : Int) := (Int.toNat_of_nonneg h0).symm
  exact at_of e (by rw [List.getElem?_map, List.getElem?_eq_getElem hi]; rfl)
theorem ix_int {ns : List Int} {i : Int} (h0 : 0 ≤ i) (h1 : i < (ns.length : Int)) : ixN (ns.map V.int).length i = some i.toNat := by
  rw [List.length_map]
  unfold ixN
  rw [if_pos h0, if_pos h1]
theorem rep_ints (n : Nat) : (List.replicate ((n : Int)).toNat [V.int 0]).flatten = (List.replicate n (0 : Int)).map V.int := by
  rw [Int.toNat_natCast]
  induction n with
  | zero => rfl
  | succ n ih => rw [List.replicate_succ, List.replicate_succ, List.flatten_cons, List.map_cons, ih]; rfl
theorem Spr.tupNe {H : Hp} {p t : Addr} {ns : List Int} (h : Spr H p) (ht : TupI H t ns) : t ≠ p := fun e => by
  obtain ⟨x1, x2, x3, e1, _⟩ := h
  unfold TupI at ht
  rw [e, e1] at ht
  cases ht
end L2

namespace K02
open PySem L2
def top (i : Nat) : Stmt := PySem.Challenge.pw_seenposts_k02_posts_between.main.body.getD i (.Pass ⟨0, 0, 0, 0⟩)
abbrev s_init : Stmt := inClass (top 4) 0
theorem sc_init : FnScope ["self", "value"] ["self", "value"] (defScope s_init) := ⟨rfl, rfl, rfl, by decide +kernel, rfl, by decide +kernel, by decide +kernel⟩
abbrev s_common_divisor : Stmt := top 2
abbrev N_common_divisor : List Str := ["place", "found", "number"]
theorem sc_common_divisor : FnScope N_common_divisor ["place"] (defScope s_common_divisor) := ⟨rfl, rfl, rfl, by decide +kernel, rfl, by decide +kernel, by decide +kernel⟩
abbrev s_divisor_of : Stmt := top 7
abbrev N_divisor_of : List Str := ["place"]
theorem sc_divisor_of : FnScope N_divisor_of ["place"] (defScope s_divisor_of) := ⟨rfl, rfl, rfl, by decide +kernel, rfl, by decide +kernel, by decide +kernel⟩
abbrev s_between : Stmt := top 8
abbrev N_between : List Str := ["place"]
theorem sc_between : FnScope N_between ["place"] (defScope s_between) := ⟨rfl, rfl, rfl, by decide +kernel, rfl, by decide +kernel, by decide +kernel⟩
abbrev s_first_post : Stmt := top 9
abbrev N_first_post : List Str := ["place", "divisor", "number"]
theorem sc_first_post : FnScope N_first_post ["place"] (defScope s_first_post) := ⟨rfl, rfl, rfl, by decide +kernel, rfl, by decide +kernel, by decide +kernel⟩
abbrev s_law_spring : Stmt := top 11
abbrev N_law_spring : List Str := ["_law_cell", "_law_k", "_law_state"]
theorem sc_law_spring : FnScope N_law_spring ["_law_cell", "_law_k"] (defScope s_law_spring) := ⟨rfl, rfl, rfl, by decide +kernel, rfl, by decide +kernel, by decide +kernel⟩
abbrev s_law_sip : Stmt := top 12
abbrev N_law_sip : List Str := ["_law_spring_here", "_law_many", "_law_mixed", "_law_found"]
theorem sc_law_sip : FnScope N_law_sip ["_law_spring_here", "_law_many"] (defScope s_law_sip) := ⟨rfl, rfl, rfl, by decide +kernel, rfl, by decide +kernel, by decide +kernel⟩
abbrev s_law_far : Stmt := top 13
abbrev N_law_far : List Str := ["_law_spring_here", "_law_wide", "_law_found", "_law_piece"]
theorem sc_law_far : FnScope N_law_far ["_law_spring_here", "_law_wide"] (defScope s_law_far) := ⟨rfl, rfl, rfl, by decide +kernel, rfl, by decide +kernel, by decide +kernel⟩
abbrev s_law_gcd : Stmt := top 14
abbrev N_law_gcd : List Str := ["_law_values", "_law_found", "_law_value", "_law_other"]
theorem sc_law_gcd : FnScope N_law_gcd ["_law_values"] (defScope s_law_gcd) := ⟨rfl, rfl, rfl, by decide +kernel, rfl, by decide +kernel, by decide +kernel⟩
abbrev s_law_whole : Stmt := top 15
abbrev N_law_whole : List Str := ["_law_found"]
theorem sc_law_whole : FnScope N_law_whole ["_law_found"] (defScope s_law_whole) := ⟨rfl, rfl, rfl, by decide +kernel, rfl, by decide +kernel, by decide +kernel⟩
abbrev s_law_is_spot : Stmt := top 17
abbrev N_law_is_spot : List Str := ["_law_found", "_law_due", "_law_k"]
theorem sc_law_is_spot : FnScope N_law_is_spot ["_law_found", "_law_due"] (defScope s_law_is_spot) := ⟨rfl, rfl, rfl, by decide +kernel, rfl, by decide +kernel, by decide +kernel⟩
abbrev s_law_spot : Stmt := top 18
abbrev N_law_spot : List Str := ["_law_spring_here", "_law_size", "_law_wide", "_law_factor", "_law_values", "_law_blank", "_law_k"]
theorem sc_law_spot : FnScope N_law_spot ["_law_spring_here", "_law_size"] (defScope s_law_spot) := ⟨rfl, rfl, rfl, by decide +kernel, rfl, by decide +kernel, by decide +kernel⟩
abbrev s_law_near : Stmt := top 19
abbrev N_law_near : List Str := ["_law_spring_here", "_law_size", "_law_factor", "_law_k"]
theorem sc_law_near : FnScope N_law_near ["_law_spring_here", "_law_size"] (defScope s_law_near) := ⟨rfl, rfl, rfl, by decide +kernel, rfl, by decide +kernel, by decide +kernel⟩
abbrev s_law_walk : Stmt := top 20
abbrev N_law_walk : List Str := ["_law_spot_here", "_law_steps", "_law_found", "_law_step", "_law_value"]
theorem sc_law_walk : FnScope N_law_walk ["_law_spot_here"] (defScope s_law_walk) := ⟨rfl, rfl, rfl, by decide +kernel, rfl, by decide +kernel, by decide +kernel⟩
abbrev s_law_near_right : Stmt := top 21
abbrev N_law_near_right : List Str := ["_law_spot_here", "_law_row", "_law_many"]
theorem sc_law_near_right : FnScope N_law_near_right ["_law_spot_here"] (defScope s_law_near_right) := ⟨rfl, rfl, rfl, by decide +kernel, rfl, by decide +kernel, by decide +kernel⟩
abbrev s_law_far_right : Stmt := top 22
abbrev N_law_far_right : List Str := ["_law_spot_here", "_law_many", "_law_first", "_law_value"]
theorem sc_law_far_right : FnScope N_law_far_right ["_law_spot_here"] (defScope s_law_far_right) := ⟨rfl, rfl, rfl, by decide +kernel, rfl, by decide +kernel, by decide +kernel⟩
abbrev s_law_right : Stmt := top 23
abbrev N_law_right : List Str := ["_law_spring_here", "_law_size", "_law_spot_here", "_law_away"]
theorem sc_law_right : FnScope N_law_right ["_law_spring_here"] (defScope s_law_right) := ⟨rfl, rfl, rfl, by decide +kernel, rfl, by decide +kernel, by decide +kernel⟩
abbrev s_law : Stmt := top 24
abbrev N_law : List Str := ["_law_script", "_law_cells", "_law_k"]
theorem sc_law : FnScope N_law ["_law_script"] (defScope s_law) := ⟨rfl, rfl, rfl, by decide +kernel, rfl, by decide +kernel, by decide +kernel⟩
structure Ad where
  a_common_divisor : Addr
  f_common_divisor : FuncData
  a_divisor_of : Addr
  f_divisor_of : FuncData
  a_between : Addr
  f_between : FuncData
  a_first_post : Addr
  f_first_post : FuncData
  a_law_spring : Addr
  f_law_spring : FuncData
  a_law_sip : Addr
  f_law_sip : FuncData
  a_law_far : Addr
  f_law_far : FuncData
  a_law_gcd : Addr
  f_law_gcd : FuncData
  a_law_whole : Addr
  f_law_whole : FuncData
  a_law_is_spot : Addr
  f_law_is_spot : FuncData
  a_law_spot : Addr
  f_law_spot : FuncData
  a_law_near : Addr
  f_law_near : FuncData
  a_law_walk : Addr
  f_law_walk : FuncData
  a_law_near_right : Addr
  f_law_near_right : FuncData
  a_law_far_right : Addr
  f_law_far_right : FuncData
  a_law_right : Addr
  f_law_right : FuncData
  a_law : Addr
  f_law : FuncData
structure Txt (K : PySem.W.Frag) (mg : Str → Option Value) (A : Ad) : Prop where
  g_common_divisor : mg "common_divisor" = some (.ref A.a_common_divisor)
  k_common_divisor : PySem.W.keepIn K (.ref A.a_common_divisor) = true
  F_common_divisor : Fun K "common_divisor" "common_divisor" s_common_divisor A.a_common_divisor A.f_common_divisor
  b_common_divisor : Binds K A.f_common_divisor ["place"] []
  g_divisor_of : mg "divisor_of" = some (.ref A.a_divisor_of)
  k_divisor_of : PySem.W.keepIn K (.ref A.a_divisor_of) = true
  F_divisor_of : Fun K "divisor_of" "divisor_of" s_divisor_of A.a_divisor_of A.f_divisor_of
  b_divisor_of : Binds K A.f_divisor_of ["place"] []
  g_between : mg "between" = some (.ref A.a_between)
  k_between : PySem.W.keepIn K (.ref A.a_between) = true
  F_between : Fun K "between" "between" s_between A.a_between A.f_between
  b_between : Binds K A.f_between ["place"] []
  g_first_post : mg "first_post" = some (.ref A.a_first_post)
  k_first_post : PySem.W.keepIn K (.ref A.a_first_post) = true
  F_first_post : Fun K "first_post" "first_post" s_first_post A.a_first_post A.f_first_post
  b_first_post : Binds K A.f_first_post ["place"] []
  g_law_spring : mg "_law_spring" = some (.ref A.a_law_spring)
  k_law_spring : PySem.W.keepIn K (.ref A.a_law_spring) = true
  F_law_spring : Fun K "_law_spring" "_law_spring" s_law_spring A.a_law_spring A.f_law_spring
  b_law_spring : Binds K A.f_law_spring ["_law_cell", "_law_k"] []
  g_law_sip : mg "_law_sip" = some (.ref A.a_law_sip)
  k_law_sip : PySem.W.keepIn K (.ref A.a_law_sip) = true
  F_law_sip : Fun K "_law_sip" "_law_sip" s_law_sip A.a_law_sip A.f_law_sip
  b_law_sip : Binds K A.f_law_sip ["_law_spring_here", "_law_many"] []
  g_law_far : mg "_law_far" = some (.ref A.a_law_far)
  k_law_far : PySem.W.keepIn K (.ref A.a_law_far) = true
  F_law_far : Fun K "_law_far" "_law_far" s_law_far A.a_law_far A.f_law_far
  b_law_far : Binds K A.f_law_far ["_law_spring_here", "_law_wide"] []
  g_law_gcd : mg "_law_gcd" = some (.ref A.a_law_gcd)
  k_law_gcd : PySem.W.keepIn K (.ref A.a_law_gcd) = true
  F_law_gcd : Fun K "_law_gcd" "_law_gcd" s_law_gcd A.a_law_gcd A.f_law_gcd
  b_law_gcd : Binds K A.f_law_gcd ["_law_values"] []
  g_law_whole : mg "_law_whole" = some (.ref A.a_law_whole)
  k_law_whole : PySem.W.keepIn K (.ref A.a_law_whole) = true
  F_law_whole : Fun K "_law_whole" "_law_whole" s_law_whole A.a_law_whole A.f_law_whole
  b_law_whole : Binds K A.f_law_whole ["_law_found"] []
  g_law_is_spot : mg "_law_is_spot" = some (.ref A.a_law_is_spot)
  k_law_is_spot : PySem.W.keepIn K (.ref A.a_law_is_spot) = true
  F_law_is_spot : Fun K "_law_is_spot" "_law_is_spot" s_law_is_spot A.a_law_is_spot A.f_law_is_spot
  b_law_is_spot : Binds K A.f_law_is_spot ["_law_found", "_law_due"] []
  g_law_spot : mg "_law_spot" = some (.ref A.a_law_spot)
  k_law_spot : PySem.W.keepIn K (.ref A.a_law_spot) = true
  F_law_spot : Fun K "_law_spot" "_law_spot" s_law_spot A.a_law_spot A.f_law_spot
  b_law_spot : Binds K A.f_law_spot ["_law_spring_here", "_law_size"] []
  g_law_near : mg "_law_near" = some (.ref A.a_law_near)
  k_law_near : PySem.W.keepIn K (.ref A.a_law_near) = true
  F_law_near : Fun K "_law_near" "_law_near" s_law_near A.a_law_near A.f_law_near
  b_law_near : Binds K A.f_law_near ["_law_spring_here", "_law_size"] []
  g_law_walk : mg "_law_walk" = some (.ref A.a_law_walk)
  k_law_walk : PySem.W.keepIn K (.ref A.a_law_walk) = true
  F_law_walk : Fun K "_law_walk" "_law_walk" s_law_walk A.a_law_walk A.f_law_walk
  b_law_walk : Binds K A.f_law_walk ["_law_spot_here"] []
  g_law_near_right : mg "_law_near_right" = some (.ref A.a_law_near_right)
  k_law_near_right : PySem.W.keepIn K (.ref A.a_law_near_right) = true
  F_law_near_right : Fun K "_law_near_right" "_law_near_right" s_law_near_right A.a_law_near_right A.f_law_near_right
  b_law_near_right : Binds K A.f_law_near_right ["_law_spot_here"] []
  g_law_far_right : mg "_law_far_right" = some (.ref A.a_law_far_right)
  k_law_far_right : PySem.W.keepIn K (.ref A.a_law_far_right) = true
  F_law_far_right : Fun K "_law_far_right" "_law_far_right" s_law_far_right A.a_law_far_right A.f_law_far_right
  b_law_far_right : Binds K A.f_law_far_right ["_law_spot_here"] []
  g_law_right : mg "_law_right" = some (.ref A.a_law_right)
  k_law_right : PySem.W.keepIn K (.ref A.a_law_right) = true
  F_law_right : Fun K "_law_right" "_law_right" s_law_right A.a_law_right A.f_law_right
  b_law_right : Binds K A.f_law_right ["_law_spring_here"] []
  g_law : mg "law" = some (.ref A.a_law)
  k_law : PySem.W.keepIn K (.ref A.a_law) = true
  F_law : Fun K "law" "law" s_law A.a_law A.f_law
  b_law : Binds K A.f_law ["_law_script"] []
  kb_between : KBinds K A.f_between ["place"] ["place"] kwG kwG
  kb_first_post : KBinds K A.f_first_post ["place"] ["place"] kwG kwG
  n_bool : mg "bool" = none
  m_gcd : mg "gcd" = some (.builtin "math.gcd")
  n_int : mg "int" = none
  n_isinstance : mg "isinstance" = none
  n_len : mg "len" = none
  n_max : mg "max" = none
  n_range : mg "range" = none
  n_tuple : mg "tuple" = none
def spSpot : Sp := fun vs H Q _ => ∃ (p : Addr) (n : Nat), vs = [.ref p, .int (n : Int)] ∧ Spr H p ∧ (n = 2 ∨ n = 3) ∧ ∀ (t : Addr) (ns : List Int) (H' : Hp), But p H H' → Spr H' p → H t = none → TupI H' t ns → ns.length = n → (∀ a ∈ ns, a.natAbs < 2 ^ 250) → Q (.ref t) H'

def spGcd (K : PySem.W.Frag) : Sp := fun vs H Q _ => ∃ (t : Addr) (ns : List Int), vs = [.ref t] ∧ SqT K H t (ns.map V.int) ∧ Q (.int (gcdL ns : Nat)) H
def spDiv (K : PySem.W.Frag) : Sp := fun vs H Q _ => ∃ (t : Addr) (ns : List Int), vs = [.ref t] ∧ SqT K H t (ns.map V.int) ∧ (ns.length = 2 ∨ ns.length = 3) ∧ ∀ H', Same H H' → Q (.int (gcdL ns : Nat)) H'
def spSeen (K : PySem.W.Frag) : Sp := fun vs H Q _ => ∃ (t : Addr) (ns : List Int), vs = [.ref t] ∧ SqT K H t (ns.map V.int) ∧ (ns.length = 2 ∨ ns.length = 3) ∧ ∀ H', Same H H' → Q (.bl (((gcdL ns : Nat) : Int) == 1)) H'
def spBetween (K : PySem.W.Frag) : Sp := fun vs H Q _ => ∃ (t : Addr) (ns : List Int), vs = [.ref t] ∧ SqT K H t (ns.map V.int) ∧ (ns.length = 2 ∨ ns.length = 3) ∧ ∀ H', Same H H' → Q (.int ((gcdL ns - 1 : Nat) : Int)) H'
def spFirst : Sp := fun vs H Q _ => ∃ (t : Addr) (ns : List Int), vs = [.ref t] ∧ TupI H t ns ∧ (ns.length = 2 ∨ ns.length = 3) ∧ (∀ a ∈ ns, a.natAbs < 2 ^ 250) ∧ ∀ t' H', Same H H' → TupI H' t' (firstL ns) → Q (.ref t') H'
def spWhole : Sp := fun vs H Q _ => ∃ i : Int, vs = [.int i] ∧ Q (.bl true) H
def spIsSpot : Sp := fun vs H Q _ => ∃ (a b : Addr) (ns : List Int), vs = [.ref a, .ref b] ∧ TupI H a ns ∧ TupI H b ns ∧ ns.length ≤ 1000 ∧ Q (.bl true) H
def spRight : Sp := fun vs H Q _ => ∃ (p : Addr), vs = [.ref p] ∧ Spr H p ∧ ∀ H', But p H H' → Q (.bl true) H'

local macro_rules | `(tactic| walk_at "rc") => `(tactic| first | done | decide | omega | exact Or.inl ⟨by omega, by omega⟩ | exact Or.inr ⟨by omega, by omega⟩ | exact ⟨by omega, by omega⟩ | exact ⟨by omega, by omega, by decide⟩ | exact ⟨by decide, by decide, by decide⟩)
local macro_rules | `(tactic| walk_at "rd1") => `(tactic| first
  | (with_reducible refine L2.r_op ?_)
  | (with_reducible refine L2.r_c ?_)
  | ((with_reducible show L2.tVar _ _ _ _); (refine L2.r_var rfl ?_))
  | (with_reducible refine L2.r_I0 ?_)
  | ((with_reducible show L2.rI _ _ _ _ _ _); (refine L2.r_I (by walk_at "rc") ?_))
  | (with_reducible refine L2.r_cons ?_)
  | (with_reducible refine L2.r_nil ?_)
  | (with_reducible refine L2.r_cb ?_)
  | (with_reducible refine L2.r_call ?_)
  | (with_reducible refine L2.r_lst ?_)
  | (with_reducible refine L2.r_tup ?_)
  | (with_reducible refine L2.r_eqI ?_)
  | (with_reducible refine L2.r_neI ?_)
  | (with_reducible refine L2.r_eqB ?_)
  | (with_reducible refine L2.r_test ?_)
  | (with_reducible refine L2.r_B ?_)
  | (with_reducible refine L2.r_not ?_)
  | (with_reducible refine L2.r_and ?_)
  | (with_reducible refine L2.r_or ?_)
  | (with_reducible refine L2.r_andV ?_)
  | (with_reducible refine L2.r_orV ?_)
  | (with_reducible refine L2.r_notV ?_)
  | (with_reducible refine L2.r_if ?_)
  | (with_reducible refine L2.r_seqAsg ?_)
  | (with_reducible refine L2.r_asg ?_)
  | (with_reducible refine L2.r_seqSub ?_)
  | (with_reducible refine L2.r_sub ?_)
  | (with_reducible refine L2.r_seqPar ?_)
  | (with_reducible refine L2.r_par ?_)
  | (with_reducible refine L2.r_ret ?_)
  | (with_reducible refine L2.r_gcons ?_)
  | (with_reducible refine L2.r_gnil ?_)
  | (with_reducible refine L2.r_gsub ?_)
  | (with_reducible refine L2.r_bm ?_)
  | (with_reducible refine L2.r_bm0 ?_)
  | (with_reducible refine L2.r_sl ?_)
  | (with_reducible refine L2.r_nopart ?_)
  | (with_reducible refine L2.r_part ?_)
  | (with_reducible refine L2.r_callK ?_)
  | (with_reducible refine L2.r_yes ?_)
  | (with_reducible refine L2.r_gname ?_)
  | (with_reducible refine L2.r_seqDrop ?_)
  | (with_reducible refine L2.r_drop ?_)
  | (with_reducible refine L2.r_seqIf ?_)
  | (with_reducible refine L2.r_ifS ?_)
  | (with_reducible refine L2.r_next ?_)
  | (with_reducible refine L2.r_un ?_)
  | (with_reducible refine L2.r_seqAsgG ?_)
  | (with_reducible refine L2.r_asgG ?_))
local macro_rules | `(tactic| walk_at "rd") => `(tactic| repeat' (walk_at "rd1"))

section
variable {P : Program} {w : World} {K : PySem.W.Frag} {mg : Str → Option Value} {base : Heap} {A : Ad}

/-! _law_spring -/
theorem ok_law_spring (T : Txt K mg A) : FnOk P w K mg base CX0 1 A.a_law_spring A.f_law_spring ["_law_cell", "_law_k"] spSpring := by
  refine T.F_law_spring.ok sc_law_spring (fun vs H Q E h => ?_) (fun cdv A' outer s H vs Q E hr h => ⟨_, (pss_cons (ps_set (i := 2) sc_law_spring.nd rfl (Or.inl rfl) (pe_op op_mod (pe_callTy call_int1 (by rfl) T.n_int (by decide +kernel) (pa_cons (pe_op op_add (pe_op op_add (pe_op op_mul (pv 0) pe_int) (pe_op op_mul pe_int (pv 1))) pe_int) pa_nil)) pe_int))
    (pss_one (ps_ret (pe_lst (pa_cons (pe_callB (call_max2 rfl) (by rfl) T.n_max (by decide +kernel) (pa_cons pe_int (pa_cons (pe_op op_sub (pv 0) (pe_op op_pow pe_int pe_int)) pa_nil))) (pa_cons (pv 2) (pa_cons (pv 1) pa_nil))))))), ?_⟩)
  · obtain ⟨c, k, rfl, _⟩ := h
    rfl
  · obtain ⟨c, k, rfl, q⟩ := h
    walk_at "rd"
    refine Or.inl ⟨_, rfl, ?_⟩
    walk_at "rd"
    refine ⟨_, _, rfl, ?_⟩
    walk_at "rd"
    refine ⟨by show 3 ≤ sizeLine; decide, fun p hp => q p _ hp (Same.new0 hp) ⟨_, _, _, upd_same, ?_, ?_⟩⟩
    · exact Int.emod_nonneg _ (by decide)
    · exact Int.emod_lt_of_pos _ (by decide)


/-! _law_sip -/
theorem ok_law_sip (T : Txt K mg A) : FnOk P w K mg base CX0 1 A.a_law_sip A.f_law_sip ["_law_spring_here", "_law_many"] spSip := by
  refine T.F_law_sip.ok sc_law_sip (fun vs H Q E h => ?_) (fun cdv A' outer s H vs Q E hr h => ⟨_, (pss_cons (ps_if (pt_cmpR op_gt (pe_ix ix_list (pv 0) pe_int (fun _ _ => rfl)) pe_int (nomark _)) (pss_cons (ps_set (i := 3) sc_law_sip.nd rfl (Or.inl rfl) (pe_op op_mod (pe_callTy call_int1 (by rfl) T.n_int (by decide +kernel) (pa_cons (pe_ix ix_list (pv 0) pe_int (fun _ _ => rfl)) pa_nil)) (pv 1)))
    (pss_cons (ps_asg (pe_op op_fdivW (pe_ix ix_list (pv 0) pe_int (fun _ _ => rfl)) (pv 1)) (pg_sub (pv 0) pe_int set_list))
    (pss_one (ps_ret (pv 3))))) pss_nil)
    (pss_cons (ps_asg (pe_op op_add (pe_ix ix_list (pv 0) pe_int (fun _ _ => rfl)) pe_int) (pg_sub (pv 0) pe_int set_list))
    (pss_cons (ps_set (i := 2) sc_law_sip.nd rfl (Or.inl rfl) (pe_op op_add (pe_op op_add (pe_op op_mulW (pe_ix ix_list (pv 0) pe_int (fun _ _ => rfl)) (pe_op op_add (pe_ix ix_list (pv 0) pe_int (fun _ _ => rfl)) pe_int)) (pe_op op_mul pe_int (pe_ix ix_list (pv 0) pe_int (fun _ _ => rfl)))) pe_int))
    (pss_cons (ps_asg (pe_op op_mod (pe_callTy call_int1 (by rfl) T.n_int (by decide +kernel) (pa_cons (pv 2) pa_nil)) pe_int) (pg_sub (pv 0) pe_int set_list))
    (pss_one (ps_ret (pe_op op_mod (pe_callTy call_int1 (by rfl) T.n_int (by decide +kernel) (pa_cons (pe_op op_fdiv (pe_ix ix_list (pv 0) pe_int (fun _ _ => rfl)) pe_int) pa_nil)) (pv 1)))))))), ?_⟩)
  · obtain ⟨p, m, rfl, _⟩ := h
    rfl
  · obtain ⟨p, m, rfl, ⟨a, b, c, hp, hb0, hb1⟩, hm, hm2, q⟩ := h
    have i0 : ∀ x y z : V, atI [x, y, z] 0 = some x := fun _ _ _ => rfl
    have i1 : ∀ x y z : V, atI [x, y, z] 1 = some y := fun _ _ _ => rfl
    have i2 : ∀ x y z : V, atI [x, y, z] 2 = some z := fun _ _ _ => rfl
    have n0 : ∀ x y z : V, ixN [x, y, z].length 0 = some 0 := fun _ _ _ => rfl
    have n1 : ∀ x y z : V, ixN [x, y, z].length 1 = some 1 := fun _ _ _ => rfl
    have n2 : ∀ x y z : V, ixN [x, y, z].length 2 = some 2 := fun _ _ _ => rfl
    walk_at "rd"
    refine r_ixL (SqL.of hp) (i0 _ _ _) ?_
    walk_at "rd"
    refine ⟨_, rfl, ite2 (fun _ => ?_) (fun _ => ?_)⟩
    · walk_at "rd"
      refine r_ixL (SqL.of hp) (i0 _ _ _) ?_
      walk_at "rd"
      refine Or.inl ⟨_, rfl, ?_⟩
      walk_at "rd"
      refine r_ixL (SqL.of hp) (i0 _ _ _) ?_
      walk_at "rd"
      refine r_I (wide_div (b := 250) (by omega) (by omega) (by decide) (by decide)) ?_
      walk_at "rd"
      refine r_setL hp (n0 _ _ _) ?_
      walk_at "rd"
      exact q _ _ (Int.emod_nonneg _ (by omega)) (Int.emod_lt_of_pos _ (by omega)) ((But.refl _ _).mut) ⟨_, _, _, upd_same, hb0, hb1⟩
    · walk_at "rd"
      dsimp only
      walk_at "rd"
      refine r_ixL (SqL.of hp) (i2 _ _ _) ?_
      walk_at "rd"
      refine r_setL hp (n2 _ _ _) ?_
      walk_at "rd"
      refine r_ixL (SqL.of upd_same) (i1 _ _ _) ?_
      walk_at "rd"
      refine r_ixL (SqL.of upd_same) (i1 _ _ _) ?_
      walk_at "rd"
      refine r_I (wide_mul (a := 100) (b := 100) (by unfold MM at hb1; omega) (by unfold MM at hb1; omega) (by decide) (by decide) (by decide)) ?_
      walk_at "rd"
      refine r_ixL (SqL.of upd_same) (i2 _ _ _) ?_
      walk_at "rd"
      refine Or.inl ⟨_, rfl, ?_⟩
      walk_at "rd"
      refine r_setL upd_same (n1 _ _ _) ?_
      walk_at "rd"
      refine r_ixL (SqL.of upd_same) (i1 _ _ _) ?_
      walk_at "rd"
      refine Or.inl ⟨_, rfl, ?_⟩
      walk_at "rd"
      exact q _ _ (Int.emod_nonneg _ (by omega)) (Int.emod_lt_of_pos _ (by omega)) ((But.refl _ _).mut.mut) ⟨_, _, _, upd_same, Int.emod_nonneg _ (by decide), Int.emod_lt_of_pos _ (by decide)⟩


/-! _law_far -/
theorem ok_law_far (T : Txt K mg A) : FnOk P w K mg base CX0 2 A.a_law_far A.f_law_far ["_law_spring_here", "_law_wide"] spFar := by
  refine T.F_law_far.ok sc_law_far (fun vs H Q E h => ?_) (fun cdv A' outer s H vs Q E hr h => ⟨_, (pss_cons (ps_set (i := 2) sc_law_far.nd rfl (Or.inl rfl) pe_int)
    (pss_cons (ps_for PassesOwn.never rfl (pi_range1 rfl T.n_range (pa_cons pe_int pa_nil)) (pg_name (i := 3) sc_law_far.nd rfl (Or.inl rfl))
      (pss_one (ps_set (i := 2) sc_law_far.nd rfl (Or.inl rfl) (pe_op op_add (pe_op op_mulW (pv 2) (pe_op op_pow pe_int pe_int)) (pe_call (ok_law_sip T) (hr.mono (by decide)) rfl T.g_law_sip T.k_law_sip T.b_law_sip .nil pass0 (pa_cons (pv 0) (pa_cons (pe_op op_pow pe_int pe_int) pa_nil)))))))
    (pss_one (ps_ret (pe_op op_add (pe_op op_sub (pe_op op_mod (pe_callTy call_int1 (by rfl) T.n_int (by decide +kernel) (pa_cons (pv 2) pa_nil)) (pe_op op_sub (pe_op op_mul pe_int (pv 1)) pe_int)) (pv 1)) pe_int))))), ?_⟩)
  · obtain ⟨p, m, rfl, _⟩ := h
    rfl
  · obtain ⟨p, m, rfl, hS, hm, hm2, q⟩ := h
    walk_at "rd"
    refine ⟨3, rfl, by decide, by decide, for_range (n := 3) (fun i σ H' => ∃ (f : Int) (v : Option V), σ = [some (.ref p), some (.int m), some (.int f), v] ∧ 0 ≤ f ∧ f < 10 ^ (21 * i) ∧ But p H H' ∧ Spr H' p)
      ⟨0, none, rfl, Int.le_refl _, by decide, But.refl _ _, hS⟩ ?_ ?_⟩
    · rintro i σ H' hi ⟨f, v, rfl, f0, f1, hB, hS'⟩
      walk_at "rd"
      have hf : f < 10 ^ 63 := Int.lt_of_lt_of_le f1 (by
        have e : i = 0 ∨ i = 1 ∨ i = 2 := by omega
        rcases e with e | e | e <;> subst e <;> decide)
      have hf2 : f.natAbs < 2 ^ 250 := by omega
      refine r_I (wide_mul (a := 250) (b := 250) hf2 ?_ (by decide) (by decide) (by decide)) ?_
      · decide
      walk_at "rd"
      refine ⟨p, _, rfl, hS', by decide, by decide, fun r H2 r0 r1 hB2 hS2 => ?_⟩
      walk_at "rd"
      refine ⟨_, _, rfl, ?_, ?_, hB.trans hB2, hS2⟩
      · have r0' : (0 : Int) ≤ r := r0
        have : (0 : Int) ≤ f * 10 ^ (Int.toNat 21) := Int.mul_nonneg f0 (by decide)
        first | omega | (show (0 : Int) ≤ f * _ + r; exact Int.add_nonneg (Int.mul_nonneg f0 (by decide)) r0)
      · have e : i = 0 ∨ i = 1 ∨ i = 2 := by omega
        rcases e with e | e | e <;> subst e
        · have f1' : f < 10 ^ 0 := f1
          show f * 10 ^ 21 + r < 10 ^ 21
          have r1' : r < 10 ^ 21 := r1
          omega
        · have f1' : f < 10 ^ 21 := f1
          show f * 10 ^ 21 + r < 10 ^ 42
          have r1' : r < 10 ^ 21 := r1
          omega
        · have f1' : f < 10 ^ 42 := f1
          show f * 10 ^ 21 + r < 10 ^ 63
          have r1' : r < 10 ^ 21 := r1
          omega
    · rintro σ H' ⟨f, v, rfl, f0, f1, hB, hS'⟩
      dsimp only
      walk_at "rd"
      refine Or.inl ⟨_, rfl, ?_⟩
      walk_at "rd"
      refine q _ _ ?_ ?_ hB hS'
      · have h1 := Int.emod_nonneg f (b := 2 * m - 1) (by omega)
        omega
      · have h1 := Int.emod_lt_of_pos f (b := 2 * m - 1) (by omega)
        omega


/-! _law_gcd -/
theorem ok_law_gcd (T : Txt K mg A) : FnOk P w K mg base CX0 1 A.a_law_gcd A.f_law_gcd ["_law_values"] (spGcd K) := by
  refine T.F_law_gcd.ok sc_law_gcd (fun vs H Q E h => ?_) (fun cdv A' outer s H vs Q E hr h => ⟨_, (pss_cons (ps_set (i := 1) sc_law_gcd.nd rfl (Or.inl rfl) pe_int)
    (pss_cons (ps_for PassesOwn.never rfl (pi_tup (pv 0)) (pg_name (i := 2) sc_law_gcd.nd rfl (Or.inl rfl))
      (pss_cons (ps_set (i := 3) sc_law_gcd.nd rfl (Or.inl rfl) (pe_callB (call_max2 rfl) (by rfl) T.n_max (by decide +kernel) (pa_cons (pv 2) (pa_cons (pe_op op_sub pe_int (pv 2)) pa_nil))))
    (pss_one (ps_while PassesOwn.never (pt_cmpR op_gt (pv 3) pe_int (nomark _)) (pss_one (ps_par (i := 1) (j := 3) (by rfl) sc_law_gcd.nd rfl rfl (by decide) rfl rfl (pa_cons (pv 3) (pa_cons (pe_op op_mod (pe_callTy call_int1 (by rfl) T.n_int (by decide +kernel) (pa_cons (pv 1) pa_nil)) (pv 3)) pa_nil)) (by rfl)))))))
    (pss_one (ps_ret (pv 1))))), ?_⟩)
  · obtain ⟨p, ns, rfl, _⟩ := h
    rfl
  · obtain ⟨t, ns, rfl, hT, q⟩ := h
    walk_at "rd"
    refine ⟨_, rfl, t, rfl, ⟨_, hT⟩, for_tup (K := K) (a := t) (xs := ns.map V.int) (fun i σ H' => ∃ (v u : Option V), σ = [some (.ref t), some (.int (gcdL (ns.take i) : Nat)), v, u] ∧ H' = H)
      ⟨none, none, rfl, rfl⟩ (fun i σ H' _ ⟨_, _, _, e⟩ => e ▸ hT) ?_ ?_⟩
    · rintro i x σ H' hi ⟨v, u, rfl, rfl⟩
      obtain ⟨z, hz, rfl⟩ := ints_at hi
      walk_at "rd"
      refine ⟨_, _, rfl, ?_⟩
      have e0 : (if 0 - z > z then 0 - z else z) = ((z.natAbs : Nat) : Int) := by split <;> omega
      rw [e0]
      refine while_by (fun σ2 H2 => ∃ (f o : Nat), σ2 = [some (.ref t), some (.int (f : Int)), some (.int z), some (.int (o : Int))] ∧ H2 = H' ∧ Nat.gcd f o = gcdL (ns.take (i + 1)))
        (fun σ2 _ => match σ2 with | [_, _, _, some (.int o)] => o.toNat | _ => 0) ⟨gcdL (ns.take i), z.natAbs, rfl, rfl, ?_⟩ ?_ ?_
      · rw [take_more hz, gcdL_append, gcdL_one]
      · rintro σ2 H2 ⟨f, o, rfl, rfl, hg⟩
        walk_at "rd"
        refine ⟨_, rfl, ite2 (fun hc => ?_) (fun hc => ?_)⟩
        · have hc' : (0 : Int) < (o : Int) := of_decide_eq_true hc
          walk_at "rd"
          refine Or.inl ⟨_, rfl, ?_⟩
          walk_at "rd"
          refine ⟨_, _, rfl, ⟨o, f % o, ?_, rfl, ?_⟩, ?_⟩
          · show [some (V.ref t), some (V.int (o : Int)), some (V.int z), some (V.int ((f : Int) % (o : Int)))] = _
            rw [← Int.natCast_emod]
          · rw [← hg, Nat.gcd_comm f o, Nat.gcd_rec o f, Nat.gcd_comm]
          · show ((f : Int) % (o : Int)).toNat < ((o : Nat) : Int).toNat
            have h1 := Int.emod_nonneg (f : Int) (b := (o : Int)) (by omega)
            have h2 := Int.emod_lt_of_pos (f : Int) (b := (o : Int)) (by omega)
            omega
        · have hc' : ¬ (0 : Int) < (o : Int) := fun z => hc (decide_eq_true z)
          have e : o = 0 := by omega
          subst e
          rw [Nat.gcd_zero_right] at hg
          exact ⟨_, _, by rw [← hg], rfl⟩
      · intro σ2 H2 Q1 Q2 hQ h
        obtain ⟨v1, e1, h⟩ := h
        exact ⟨v1, e1, by
          obtain ⟨i1, j1, a1, b1, k1, a2, c1⟩ := h
          exact ⟨i1, j1, a1, b1, k1, a2, hQ _ _ c1⟩⟩
    · rintro σ H' ⟨v, u, rfl, rfl⟩
      rw [List.length_map, List.take_length]
      dsimp only
      walk_at "rd"
      exact q


/-! _law_spot -/
theorem ok_law_spot (T : Txt K mg A) : FnOk P w K mg base CX0 3 A.a_law_spot A.f_law_spot ["_law_spring_here", "_law_size"] spSpot := by
  refine T.F_law_spot.ok sc_law_spot (fun vs H Q E h => ?_) (fun cdv A' outer s H vs Q E hr h => ⟨_, (pss_cons (ps_set (i := 2) sc_law_spot.nd rfl (Or.inr rfl) (pe_ix ix_list (pe_lst (pa_cons pe_int (pa_cons pe_int (pa_cons pe_int (pa_cons (pe_op op_pow pe_int pe_int) (pa_cons (pe_op op_pow pe_int pe_int) (pa_cons (pe_op op_pow pe_int pe_int) pa_nil))))))) (pe_call (ok_law_sip T) (hr.mono (by decide)) rfl T.g_law_sip T.k_law_sip T.b_law_sip .nil pass0 (pa_cons (pv 0) (pa_cons pe_int pa_nil))) (fun _ _ => rfl)))
    (pss_cons (ps_set (i := 3) sc_law_spot.nd rfl (Or.inr rfl) (pe_ix ix_list (pe_lst (pa_cons pe_int (pa_cons (pe_op op_add pe_int (pe_call (ok_law_sip T) (hr.mono (by decide)) rfl T.g_law_sip T.k_law_sip T.b_law_sip .nil pass0 (pa_cons (pv 0) (pa_cons pe_int pa_nil)))) (pa_cons (pe_op op_add pe_int (pe_call (ok_law_sip T) (hr.mono (by decide)) rfl T.g_law_sip T.k_law_sip T.b_law_sip .nil pass0 (pa_cons (pv 0) (pa_cons (pe_op op_pow pe_int pe_int) pa_nil)))) pa_nil)))) (pe_call (ok_law_sip T) (hr.mono (by decide)) rfl T.g_law_sip T.k_law_sip T.b_law_sip .nil pass0 (pa_cons (pv 0) (pa_cons pe_int pa_nil))) (fun _ _ => rfl)))
    (Evl.pss_cut (ps_if (pt_cmpR op_eq (pv 2) (pe_op op_pow pe_int pe_int) (nomark _)) (pss_one (ps_set (i := 3) sc_law_spot.nd rfl (Or.inr rfl) pe_int)) pss_nil)
    (pss_cons (ps_setLc (i := 4) (own := [("_law_k", 6)]) (g := gName 6) rfl sc_law_spot.nd rfl rfl (sw_true rfl rfl rfl (by decide +kernel)) (pi_range1 rfl T.n_range (pa_cons (pv 1) pa_nil)) (blkOk_by (own := [("_law_k", 6)]) (N := N_law_spot) (sc := defScope s_law_spot) (by decide +kernel)) (fun _ _ _ _ _ => pg_name (i := 6) sc_law_spot.nd rfl (Or.inl rfl)) (fun _ _ _ _ _ => pts_nil) (fun _ _ _ _ _ => (pe_op op_mul (pv 3) (pe_call (ok_law_far T) (hr.mono (by decide)) rfl T.g_law_far T.k_law_far T.b_law_far .nil pass0 (pa_cons (pv 0) (pa_cons (pv 2) pa_nil))))))
    (pss_cons (ps_set (i := 5) sc_law_spot.nd rfl (Or.inl rfl) (pe_call (ok_law_sip T) (hr.mono (by decide)) rfl T.g_law_sip T.k_law_sip T.b_law_sip .nil pass0 (pa_cons (pv 0) (pa_cons pe_int pa_nil))))
    (Evl.pss_cut (ps_if (pt_cmpR op_lt (pv 5) (pv 1) (nomark _)) (pss_one (ps_asg pe_int (pg_sub (pv 4) (pv 5) set_list))) pss_nil)
    (Evl.pss_cut (ps_if (pt_cmpR op_eq (pv 5) pe_int (nomark _)) (pss_one (ps_set (i := 4) sc_law_spot.nd rfl (Or.inl rfl) (pe_op op_rep (pe_lst (pa_cons pe_int pa_nil)) (pv 1)))) pss_nil)
    (pss_one (ps_ret (pe_callTy call_tuple_of (by rfl) T.n_tuple (by decide +kernel) (pa_cons (pv 4) pa_nil))))))))))), ?_⟩)
  · obtain ⟨p, m, rfl, _⟩ := h
    rfl
  · obtain ⟨p, n, rfl, hS, hn, q⟩ := h
    have hn1 : (n : Int) ≤ 3 := by omega
    walk_at "rd"
    refine ⟨by show 6 ≤ sizeLine; decide, fun l nl => ?_⟩
    walk_at "rd"
    refine ⟨p, _, rfl, hS.new nl, by decide, by decide, fun r1 H1 r10 r11 hB1 hS1 => ?_⟩
    have hl1 := hB1 l _ (hS.ne nl).symm upd_same
    have b1 : But p H H1 := (Same.new0 nl).but.trans hB1
    obtain ⟨wd, hw0, hw1, hw⟩ : ∃ wd : Int, 1 ≤ wd ∧ wd ≤ 10 ^ 60 ∧ atI [V.int 2, .int 7, .int 41, .int (10 ^ Int.toNat 9), .int (10 ^ Int.toNat 30), .int (10 ^ Int.toNat 60)] r1 = some (.int wd) := by
      have e : r1 = 0 ∨ r1 = 1 ∨ r1 = 2 ∨ r1 = 3 ∨ r1 = 4 ∨ r1 = 5 := by omega
      rcases e with e | e | e | e | e | e <;> subst e <;> exact ⟨_, by decide, by decide, rfl⟩
    refine r_ixL (SqL.of hl1) hw ?_
    walk_at "rd"
    refine ⟨p, _, rfl, hS1, by decide, by decide, fun r2 H2 r20 r21 hB2 hS2 => ?_⟩
    walk_at "rd"
    refine ⟨p, _, rfl, hS2, by decide, by decide, fun r3 H3 r30 r31 hB3 hS3 => ?_⟩
    walk_at "rd"
    refine ⟨by show 3 ≤ sizeLine; decide, fun l2 nl2 => ?_⟩
    walk_at "rd"
    refine ⟨p, _, rfl, hS3.new nl2, by decide, by decide, fun r4 H4 r40 r41 hB4 hS4 => ?_⟩
    have hl2 := hB4 l2 _ (hS3.ne nl2).symm upd_same
    have b4 : But p H H4 := ((b1.trans hB2).trans hB3).trans ((Same.new0 nl2).but.trans hB4)
    obtain ⟨fa, hf0, hf1, hf⟩ : ∃ fa : Int, 1 ≤ fa ∧ fa ≤ 10 ^ 9 + 10 ∧ atI [V.int 1, .int (2 + r2), .int (1 + r3)] r4 = some (.int fa) := by
      have e : r4 = 0 ∨ r4 = 1 ∨ r4 = 2 := by omega
      rcases e with e | e | e <;> subst e
      · exact ⟨_, by decide, by decide, rfl⟩
      · exact ⟨2 + r2, by omega, by omega, rfl⟩
      · have r31' : r3 < 10 ^ 9 := r31
        exact ⟨1 + r3, by omega, by omega, rfl⟩
    refine r_ixL (SqL.of hl2) hf ?_
    walk_at "rd"

    -- the factor is 1 where the width is the greatest
    refine r_cutIf (fun σ' H' => ∃ fb : Int, 1 ≤ fb ∧ fb ≤ 10 ^ 9 + 10 ∧ σ' = [some (.ref p), some (.int (n : Int)), some (.int wd), some (.int fb), none, none, none] ∧ H' = H4) ?_ ?_
    · walk_at "rd"
      refine ⟨_, rfl, ite2 (fun hc => ?_) (fun hc => ?_)⟩
      · walk_at "rd"
        exact ⟨1, by decide, by decide, rfl, rfl⟩
      · walk_at "rd"
        exact ⟨fa, hf0, hf1, rfl, rfl⟩
    · rintro σ' H' ⟨fb, g0, g1, rfl, rfl⟩
      walk_at "rd"
      refine ⟨_, rfl, (n : Int), rfl, by omega, by omega, fun D nD => lc_range (n := n) (fun i H5 => ∃ ms : List Int, (ms.length = i ∧ ∀ a ∈ ms, a.natAbs < 2 ^ 250) ∧ H5 D = some (.lst (ms.map V.int)) ∧ But p H H5 ∧ Spr H5 p)
        ⟨[], ⟨rfl, fun _ z => nomatch z⟩, upd_same, b4.new nD, hS4.new nD⟩ ?_ ?_⟩
      · rintro i H5 hi ⟨ms, ⟨rfl, hb⟩, hD, hB5, hS5⟩
        walk_at "rd"
        refine ⟨rfl, ?_⟩
        walk_at "rd"
        refine iteT ?_
        walk_at "rd"
        refine ⟨p, wd, rfl, hS5, hw0, by omega, fun r H6 r0 r1 hB6 hS6 => ?_⟩
        walk_at "rd"
        have nDp : D ≠ p := (hS4.ne nD).symm
        refine ⟨_, hB6 D _ nDp hD, by rw [List.length_map]; exact Nat.lt_of_lt_of_le hi (Nat.le_trans (by omega) (by decide : 3 ≤ sizeLine)), ms ++ [fb * r], ⟨by rw [List.length_append]; rfl, fun a ha => ?_⟩, ?_, ?_, ?_⟩
        · rcases List.mem_append.mp ha with e | e
          · exact hb a e
          · rw [List.mem_singleton.mp e]
            exact Nat.lt_of_lt_of_le (wide_lt (a := 40) (b := 200) (by omega) (by omega)) (by decide)
        · rw [upd_same, List.map_append]
          rfl
        · intro b o hb h
          have h2 := hB6 b o hb (hB5 b o hb h)
          have nb : b ≠ D := fun e => by
            subst e
            rw [b4.free nD hb] at h
            cases h
          rw [upd_ne nb]
          exact h2
        · obtain ⟨x1, x2, x3, e1, e2⟩ := hS6
          exact ⟨x1, x2, x3, by rw [upd_ne nDp.symm]; exact e1, e2⟩
      · rintro H5 ⟨ms, ⟨hl, hb⟩, hD, hB5, hS5⟩
        have nDp : D ≠ p := (hS4.ne nD).symm
        have nD0 : H D = none := b4.free nD nDp
        walk_at "rd"
        refine ⟨p, _, rfl, hS5, by decide, by decide, fun bl H6 bl0 bl1 hB6 hS6 => ?_⟩
        have hD6 := hB6 D _ nDp hD
        walk_at "rd"
        refine r_cutIf (fun σ' H' => ∃ ms : List Int, (ms.length = n ∧ ∀ a ∈ ms, a.natAbs < 2 ^ 250) ∧ σ' = [some (.ref p), some (.int (n : Int)), some (.int wd), some (.int fb), some (.ref D), some (.int bl), none] ∧ H' D = some (.lst (ms.map V.int)) ∧ But p H H' ∧ Spr H' p) ?_ ?_
        · walk_at "rd"
          refine ⟨_, rfl, ite2 (fun hc => ?_) (fun hc => ?_)⟩
          · have hc' : bl < (n : Int) := of_decide_eq_true hc
            have hbn : bl = ((bl.toNat : Nat) : Int) := (Int.toNat_of_nonneg bl0).symm
            walk_at "rd"
            refine r_setL hD6 (j := bl.toNat) ?_ ?_
            · rw [List.length_map, hl]
              unfold ixN
              rw [if_pos bl0, if_pos hc']
            · refine ⟨ms.set bl.toNat 0, ⟨by rw [List.length_set]; exact hl, fun a ha => ?_⟩, rfl, ?_, ?_, ?_⟩
              · rcases List.mem_or_eq_of_mem_set ha with e | e
                · exact hb a e
                · rw [e]
                  decide
              · rw [upd_same, List.map_set]
              · intro b o hb h
                have h2 := hB6 b o hb (hB5 b o hb h)
                have nb : b ≠ D := fun e => by
                  subst e
                  rw [nD0] at h
                  cases h
                rw [upd_ne nb]
                exact h2
              · obtain ⟨x1, x2, x3, e1, e2⟩ := hS6
                exact ⟨x1, x2, x3, by rw [upd_ne nDp.symm]; exact e1, e2⟩
          · walk_at "rd"
            exact ⟨ms, ⟨hl, hb⟩, rfl, hD6, hB5.trans hB6, hS6⟩
        · rintro σ' H7 ⟨ms, ⟨hl, hb⟩, rfl, hD7, hB7, hS7⟩
          walk_at "rd"
          refine r_cutIf (fun σ' H' => ∃ (D2 : Addr) (ms : List Int), (ms.length = n ∧ ∀ a ∈ ms, a.natAbs < 2 ^ 250) ∧ σ' = [some (.ref p), some (.int (n : Int)), some (.int wd), some (.int fb), some (.ref D2), some (.int bl), none] ∧ H' D2 = some (.lst (ms.map V.int)) ∧ But p H H' ∧ Spr H' p) ?_ ?_
          · walk_at "rd"
            refine ⟨_, rfl, ite2 (fun hc => ?_) (fun hc => ?_)⟩
            · walk_at "rd"
              refine ⟨by show 1 ≤ sizeLine; decide, fun l3 nl3 => ?_⟩
              walk_at "rd"
              refine ⟨l3, (n : Int), _, rfl, rfl, upd_same, by omega, by omega, ?_, fun l4 nl4 => ?_⟩
              · show 1 * n ≤ sizeLine
                exact Nat.le_trans (by omega) (by decide : 3 ≤ sizeLine)
              · walk_at "rd"
                refine ⟨l4, List.replicate n 0, ⟨List.length_replicate, fun a ha => by rw [List.eq_of_mem_replicate ha]; decide⟩, rfl, ?_, (hB7.new nl3).new nl4, (hS7.new nl3).new nl4⟩
                rw [upd_same]
                rcases hn with e | e <;> subst e <;> rfl
            · walk_at "rd"
              exact ⟨D, ms, ⟨hl, hb⟩, rfl, hD7, hB7, hS7⟩
          · rintro σ' H8 ⟨D2, ms, ⟨hl, hb⟩, rfl, hD8, hB8, hS8⟩
            walk_at "rd"
            refine ⟨_, _, rfl, .inl ⟨SqL.of hD8, fun t nt => ?_⟩⟩
            exact q t ms _ (hB8.new nt) (hS8.new nt) (hB8.free nt (hS8.ne nt).symm) upd_same hl hb


/-! common_divisor, divisor_of -/
theorem ok_common_divisor (T : Txt K mg A) : FnOk P w K mg base CX0 1 A.a_common_divisor A.f_common_divisor ["place"] (spGcd K) := by
  refine T.F_common_divisor.ok sc_common_divisor (fun vs H Q E h => ?_) (fun cdv A' outer s H vs Q E hr h => ⟨_, (pss_cons (ps_set (i := 1) sc_common_divisor.nd rfl (Or.inl rfl) pe_int)
    (pss_cons (ps_for PassesOwn.never rfl (pi_tup (pv 0)) (pg_name (i := 2) sc_common_divisor.nd rfl (Or.inl rfl))
      (pss_one (ps_set (i := 1) sc_common_divisor.nd rfl (Or.inl rfl) (pe_callBfun cr_gcd rfl T.m_gcd (pa_cons (pv 1) (pa_cons (pv 2) pa_nil))))))
    (pss_one (ps_ret (pv 1))))), ?_⟩)
  · obtain ⟨p, ns, rfl, _⟩ := h
    rfl
  · obtain ⟨t, ns, rfl, hT, q⟩ := h
    walk_at "rd"
    refine ⟨_, rfl, t, rfl, ⟨_, hT⟩, for_tup (K := K) (a := t) (xs := ns.map V.int) (fun i σ H' => ∃ (v : Option V), σ = [some (.ref t), some (.int (gcdL (ns.take i) : Nat)), v] ∧ H' = H)
      ⟨none, rfl, rfl⟩ (fun i σ H' _ ⟨_, _, e⟩ => e ▸ hT) ?_ ?_⟩
    · rintro i x σ H' hi ⟨v, rfl, rfl⟩
      obtain ⟨z, hz, rfl⟩ := ints_at hi
      walk_at "rd"
      refine ⟨_, _, rfl, some (.int z), ?_, rfl⟩
      rw [take_more hz, gcdL_append, gcdL_one]
      rfl
    · rintro σ H' ⟨v, rfl, rfl⟩
      rw [List.length_map, List.take_length]
      dsimp only
      walk_at "rd"
      exact q


theorem ok_divisor_of (T : Txt K mg A) : FnOk P w K mg base CX0 2 A.a_divisor_of A.f_divisor_of ["place"] (spDiv K) := by
  refine T.F_divisor_of.ok sc_divisor_of (fun vs H Q E h => ?_) (fun cdv A' outer s H vs Q E hr h => ⟨_, (pss_cons (ps_if (pt_cmpR op_notIn_seq (pe_callB call_len_seq (by rfl) T.n_len (by decide +kernel) (pa_cons (pv 0) pa_nil)) (pe_tup (pa_cons pe_int (pa_cons pe_int pa_nil))) (by rfl)) (pss_one ps_never) pss_nil)
    (pss_one (ps_ret (pe_call (ok_common_divisor T) (hr.mono (by decide)) rfl T.g_common_divisor T.k_common_divisor T.b_common_divisor .nil pass0 (pa_cons (pv 0) pa_nil))))), ?_⟩)
  · obtain ⟨p, ns, rfl, _⟩ := h
    rfl
  · obtain ⟨t, ns, rfl, hT, hl, q⟩ := h
    walk_at "rd"
    refine ⟨t, _, rfl, .inr hT, ?_⟩
    walk_at "rd"
    refine ⟨by show 2 ≤ sizeLine; decide, fun t2 nt2 => ?_⟩
    refine ⟨t2, _, rfl, .inr (SqT.of upd_same), rfl, rfl, _, rfl, ?_⟩
    have e : (if true = true then !inV (.int ((ns.map V.int).length : Nat)) [.int 2, .int 3] else inV (.int ((ns.map V.int).length : Nat)) [.int 2, .int 3]) = false := by
      rw [List.length_map]
      rcases hl with e | e <;> rw [e] <;> rfl
    refine (if_neg (by rw [e]; exact Bool.false_ne_true)).mpr ?_
    walk_at "rd"
    dsimp only
    walk_at "rd"
    exact ⟨t, ns, rfl, (Same.new0 nt2).tup hT, q _ (Same.new0 nt2)⟩


/-! between, first_post -/
theorem ok_between (T : Txt K mg A) : FnOk P w K mg base CX0 3 A.a_between A.f_between ["place"] (spBetween K) := by
  refine T.F_between.ok sc_between (fun vs H Q E h => ?_) (fun cdv A' outer s H vs Q E hr h => ⟨_, (pss_one (ps_ret (pe_callB (call_max2 rfl) (by rfl) T.n_max (by decide +kernel) (pa_cons pe_int (pa_cons (pe_op op_sub (pe_call (ok_divisor_of T) (hr.mono (by decide)) rfl T.g_divisor_of T.k_divisor_of T.b_divisor_of .nil pass0 (pa_cons (pv 0) pa_nil)) pe_int) pa_nil))))), ?_⟩)
  · obtain ⟨p, ns, rfl, _⟩ := h
    rfl
  · obtain ⟨t, ns, rfl, hT, hl, q⟩ := h
    walk_at "rd"
    refine ⟨t, ns, rfl, hT, hl, fun H' e => ?_⟩
    walk_at "rd"
    refine ⟨_, _, rfl, ?_⟩
    have e2 : (if ((gcdL ns : Nat) : Int) - 1 > 0 then ((gcdL ns : Nat) : Int) - 1 else 0) = ((gcdL ns - 1 : Nat) : Int) := by split <;> omega
    rw [e2]
    exact q _ e


theorem ok_first_post (T : Txt K mg A) : FnOk P w K mg base CX0 3 A.a_first_post A.f_first_post ["place"] spFirst := by
  refine T.F_first_post.ok sc_first_post (fun vs H Q E h => ?_) (fun cdv A' outer s H vs Q E hr h => ⟨_, (pss_cons (ps_set (i := 1) sc_first_post.nd rfl (Or.inr rfl) (pe_call (ok_divisor_of T) (hr.mono (by decide)) rfl T.g_divisor_of T.k_divisor_of T.b_divisor_of .nil pass0 (pa_cons (pv 0) pa_nil)))
    (pss_cons (ps_if (pt_cmpR op_eq (pv 1) pe_int (nomark _)) (pss_one (ps_ret (pv 0))) pss_nil)
    (pss_one (ps_ret (pe_callTy call_tuple_of (by rfl) T.n_tuple (by decide +kernel) (pa_cons (pe_lc (own := [("number", 2)]) (g := gName 2) rfl sc_first_post.nd (pi_tup (pv 0)) (blkOk_by (own := [("number", 2)]) (N := N_first_post) (sc := defScope s_first_post) (by decide +kernel)) (fun _ _ _ _ _ => pg_name (i := 2) sc_first_post.nd rfl (Or.inl rfl)) (fun _ _ _ _ _ => pts_nil) (fun _ _ _ _ _ => (pe_op op_fdivW (pv 2) (pv 1)))) pa_nil)))))), ?_⟩)
  · obtain ⟨p, ns, rfl, _⟩ := h
    rfl
  · obtain ⟨t, ns, rfl, hT, hl, hb, q⟩ := h
    have hg := gcdL_lt (by decide : 0 < 2 ^ 250) ns hb
    walk_at "rd"
    refine ⟨t, ns, rfl, SqT.of hT, hl, fun H' e => ?_⟩
    walk_at "rd"
    refine ⟨_, rfl, ite2 (fun hc => ?_) (fun hc => ?_)⟩
    · have h0 : gcdL ns = 0 := by simpa using hc
      walk_at "rd"
      refine q t _ e ?_
      unfold firstL
      rw [if_pos h0]
      exact e _ _ hT
    · have h0 : gcdL ns ≠ 0 := fun z => hc (by rw [z]; rfl)
      walk_at "rd"
      dsimp only
      walk_at "rd"
      have hT' := e _ _ hT
      refine ⟨_, rfl, t, rfl, ⟨_, SqT.of hT'⟩, fun D nD => lc_tup (K := K) (a := t) (xs := ns.map V.int) (fun i H5 => Same H' H5 ∧ H5 D = some (.lst ((ns.take i).map fun a => V.int (a / ((gcdL ns : Nat) : Int)))))
        ⟨Same.new0 nD, upd_same⟩ (fun i H5 _ ⟨e, _⟩ => SqT.of (e _ _ hT')) ?_ ?_⟩
      · rintro i x H5 hi ⟨s5, hD⟩
        obtain ⟨z, hz, rfl⟩ := ints_at hi
        walk_at "rd"
        refine ⟨rfl, ?_⟩
        walk_at "rd"
        refine iteT ?_
        walk_at "rd"
        refine r_I (wide_div (b := 250) (by omega) (by omega) (by decide) (by decide)) ?_
        have hil : i < ns.length := (List.getElem?_eq_some_iff.mp hz).1
        refine ⟨_, hD, ?_, fun b o h => ?_, ?_⟩
        · rw [List.length_map, List.length_take]
          exact Nat.lt_of_lt_of_le (by omega) (by decide : 3 ≤ sizeLine)
        · rw [upd_ne (ne_of_none h nD)]
          exact s5 b o h
        · rw [upd_same, take_more hz, List.map_append]
          rfl
      · rintro H5 ⟨s5, hD⟩
        rw [List.length_map, List.take_length] at hD
        refine ⟨_, _, rfl, .inl ⟨SqL.of hD, fun tn ntn => ?_⟩⟩
        refine q tn _ ((e.trans s5).new ntn) (TupI.new ?_)
        unfold firstL
        rw [if_neg h0, List.map_map]
        rfl


theorem ok_law_whole (T : Txt K mg A) : FnOk P w K mg base CX0 1 A.a_law_whole A.f_law_whole ["_law_found"] spWhole := by
  refine T.F_law_whole.ok sc_law_whole (fun vs H Q E h => ?_) (fun cdv A' outer s H vs Q E hr h => ⟨_, (pss_one (ps_ret (pe_and (pe_callB call_isi (by rfl) T.n_isinstance (by decide +kernel) (pa_cons (pv 0) (pa_cons (pe_bltn (v := .ty "int") (u := .type "int") (by rfl) T.n_int (by decide +kernel) rfl) pa_nil))) (pe_one (pe_not (pe_callB call_isi (by rfl) T.n_isinstance (by decide +kernel) (pa_cons (pv 0) (pa_cons (pe_bltn (v := .ty "bool") (u := .type "bool") (by rfl) T.n_bool (by decide +kernel) rfl) pa_nil)))))))), ?_⟩)
  · obtain ⟨i, rfl, _⟩ := h
    rfl
  · obtain ⟨i, rfl, q⟩ := h
    walk_at "rd"
    refine ⟨_, _, _, _, true, rfl, .ty "int", .base (.int i), kit_ty (by decide +kernel), ?_⟩
    refine ⟨_, rfl, iteT ?_⟩
    walk_at "rd"
    refine ⟨_, _, _, _, false, rfl, .ty "bool", .base (.int i), kit_ty (by decide +kernel), ?_⟩
    exact ⟨_, rfl, q⟩


theorem ok_law_is_spot (T : Txt K mg A) : FnOk P w K mg base CX0 2 A.a_law_is_spot A.f_law_is_spot ["_law_found", "_law_due"] spIsSpot := by
  refine T.F_law_is_spot.ok sc_law_is_spot (fun vs H Q E h => ?_) (fun cdv A' outer s H vs Q E hr h => ⟨_, (pss_cons (ps_if (PW.pt (pw_or (pt_not (pt_val (pe_callB call_isi (by rfl) T.n_isinstance (by decide +kernel) (pa_cons (pv 0) (pa_cons (pe_bltn (v := .ty "tuple") (u := .type "tuple") (by rfl) T.n_tuple (by decide +kernel) rfl) pa_nil))))) (pw_or1 (pt_cmpR op_ne (pe_callB call_len_seq (by rfl) T.n_len (by decide +kernel) (pa_cons (pv 0) pa_nil)) (pe_callB call_len_seq (by rfl) T.n_len (by decide +kernel) (pa_cons (pv 1) pa_nil)) (nomark _))))) (pss_one (ps_ret pe_bl)) pss_nil)
    (pss_cons (ps_for PassesOwn.never rfl (pi_range1 rfl T.n_range (pa_cons (pe_callB call_len_seq (by rfl) T.n_len (by decide +kernel) (pa_cons (pv 1) pa_nil)) pa_nil)) (pg_name (i := 2) sc_law_is_spot.nd rfl (Or.inl rfl))
      (pss_one (ps_if (PW.pt (pw_or (pt_not (pt_val (pe_call (ok_law_whole T) (hr.mono (by decide)) rfl T.g_law_whole T.k_law_whole T.b_law_whole .nil pass0 (pa_cons (pe_ix ix_tup (pv 0) (pv 2) (fun _ _ => rfl)) pa_nil)))) (pw_or1 (pt_cmpR op_ne (pe_ix ix_tup (pv 0) (pv 2) (fun _ _ => rfl)) (pe_ix ix_tup (pv 1) (pv 2) (fun _ _ => rfl)) (nomark _))))) (pss_one (ps_ret pe_bl)) pss_nil)))
    (pss_one (ps_ret pe_bl)))), ?_⟩)
  · obtain ⟨a, b, ns, rfl, _⟩ := h
    rfl
  · obtain ⟨a, b, ns, rfl, ha, hb, hl, q⟩ := h
    walk_at "rd"
    refine ⟨_, _, _, _, true, rfl, .ty "tuple", .base (.tup ha), kit_ty (by decide +kernel), ?_⟩
    refine ⟨_, rfl, iteFb rfl ?_⟩
    walk_at "rd"
    refine ⟨a, _, rfl, .inr (SqT.of ha), ?_⟩
    walk_at "rd"
    refine ⟨b, _, rfl, .inr (SqT.of hb), ?_⟩
    walk_at "rd"
    refine ⟨_, rfl, iteFb (by rw [beq_self_eq_true]; rfl) ?_⟩
    walk_at "rd"
    dsimp only
    refine ⟨_, rfl, b, _, rfl, .inr (SqT.of hb), ?_⟩
    rw [List.length_map]
    refine ⟨_, rfl, by omega, by omega, for_range (n := ns.length) (fun i σ H' => ∃ v : Option V, σ = [some (.ref a), some (.ref b), v] ∧ H' = H) ⟨none, rfl, rfl⟩ ?_ ?_⟩
    · rintro i σ H' hi ⟨v, rfl, rfl⟩
      have hat : atI (ns.map V.int) (0 + (i : Int)) = some (.int ns[i]) := by
        rw [Int.zero_add]
        exact atI_nat (by rw [List.getElem?_map, List.getElem?_eq_getElem hi]; rfl)
      walk_at "rd"
      refine r_ixT (SqT.of ha) hat ?_
      walk_at "rd"
      refine ⟨_, rfl, ⟨_, rfl, iteFb rfl ?_⟩⟩
      walk_at "rd"
      refine r_ixT (SqT.of ha) hat ?_
      walk_at "rd"
      refine r_ixT (SqT.of hb) hat ?_
      walk_at "rd"
      refine ⟨_, rfl, iteFb (by rw [beq_self_eq_true]; rfl) ?_⟩
      walk_at "rd"
      exact ⟨_, rfl, rfl⟩
    · rintro σ H' ⟨v, rfl, rfl⟩
      dsimp only
      walk_at "rd"
      exact q

/-! the near places -/
def spNear : Sp := fun vs H Q _ => ∃ (p : Addr) (n : Nat), vs = [.ref p, .int (n : Int)] ∧ Spr H p ∧ (n = 2 ∨ n = 3) ∧ ∀ (t : Addr) (ns : List Int) (H' : Hp), But p H H' → Spr H' p → H t = none → TupI H' t ns → ns.length = n → (∀ a ∈ ns, a.natAbs ≤ 100) → Q (.ref t) H'
theorem ok_law_near (T : Txt K mg A) : FnOk P w K mg base CX0 2 A.a_law_near A.f_law_near ["_law_spring_here", "_law_size"] spNear := by
  refine T.F_law_near.ok sc_law_near (fun vs H Q E h => ?_) (fun cdv A' outer s H vs Q E hr h => ⟨_, (pss_cons (ps_set (i := 2) sc_law_near.nd rfl (Or.inr rfl) (pe_ix ix_list (pe_lst (pa_cons pe_int (pa_cons pe_int (pa_cons pe_int (pa_cons pe_int (pa_cons pe_int (pa_cons pe_int pa_nil))))))) (pe_call (ok_law_sip T) (hr.mono (by decide)) rfl T.g_law_sip T.k_law_sip T.b_law_sip .nil pass0 (pa_cons (pv 0) (pa_cons pe_int pa_nil))) (fun _ _ => rfl)))
    (pss_one (ps_ret (pe_callTy call_tuple_of (by rfl) T.n_tuple (by decide +kernel) (pa_cons (pe_lc (own := [("_law_k", 3)]) (g := gName 3) rfl sc_law_near.nd (pi_range1 rfl T.n_range (pa_cons (pv 1) pa_nil)) (blkOk_by (own := [("_law_k", 3)]) (N := N_law_near) (sc := defScope s_law_near) (by decide +kernel)) (fun _ _ _ _ _ => pg_name (i := 3) sc_law_near.nd rfl (Or.inl rfl)) (fun _ _ _ _ _ => pts_nil) (fun _ _ _ _ _ => (pe_op op_mul (pv 2) (pe_op op_sub (pe_call (ok_law_sip T) (hr.mono (by decide)) rfl T.g_law_sip T.k_law_sip T.b_law_sip .nil pass0 (pa_cons (pv 0) (pa_cons (pe_op op_add (pe_op op_mul pe_int (pe_op op_fdiv pe_int (pv 2))) pe_int) pa_nil))) (pe_op op_fdiv pe_int (pv 2)))))) pa_nil))))), ?_⟩)
  · obtain ⟨p, m, rfl, _⟩ := h
    rfl
  · obtain ⟨p, n, rfl, hS, hn, q⟩ := h
    walk_at "rd"
    refine ⟨by show 6 ≤ sizeLine; decide, fun l nl => ?_⟩
    walk_at "rd"
    refine ⟨p, _, rfl, hS.new nl, by decide, by decide, fun r1 H1 r10 r11 hB1 hS1 => ?_⟩
    have hl1 := hB1 l _ (hS.ne nl).symm upd_same
    have b1 : But p H H1 := (Same.new0 nl).but.trans hB1
    obtain ⟨f, hf, hw⟩ : ∃ f : Int, (f = 1 ∨ f = 2 ∨ f = 3 ∨ f = 4) ∧ atI [V.int 1, .int 1, .int 1, .int 2, .int 3, .int 4] r1 = some (.int f) := by
      have e : r1 = 0 ∨ r1 = 1 ∨ r1 = 2 ∨ r1 = 3 ∨ r1 = 4 ∨ r1 = 5 := by omega
      rcases e with e | e | e | e | e | e <;> subst e <;> exact ⟨_, by decide, rfl⟩
    refine r_ixL (SqL.of hl1) hw ?_
    have hf0 : 0 < f ∧ f ≤ 4 := by omega
    walk_at "rd"
    refine ⟨_, rfl, (n : Int), rfl, by omega, by omega, fun D nD => lc_range (n := n) (fun i H5 => ∃ ms : List Int, (ms.length = i ∧ ∀ a ∈ ms, a.natAbs ≤ 100) ∧ H5 D = some (.lst (ms.map V.int)) ∧ But p H H5 ∧ Spr H5 p)
      ⟨[], ⟨rfl, fun _ z => nomatch z⟩, upd_same, b1.new nD, hS1.new nD⟩ ?_ ?_⟩
    · rintro i H5 hi ⟨ms, ⟨rfl, hb⟩, hD, hB5, hS5⟩
      walk_at "rd"
      refine ⟨rfl, ?_⟩
      walk_at "rd"
      refine iteT ?_
      walk_at "rd"
      have hq : 24 / f = 24 ∨ 24 / f = 12 ∨ 24 / f = 8 ∨ 24 / f = 6 := by
        rcases hf with e | e | e | e <;> subst e <;> decide
      refine ⟨p, _, rfl, hS5, by omega, by omega, fun r H6 r0 r1 hB6 hS6 => ?_⟩
      walk_at "rd"
      have nDp : D ≠ p := (hS1.ne nD).symm
      refine ⟨_, hB6 D _ nDp hD, by rw [List.length_map]; exact Nat.lt_of_lt_of_le hi (Nat.le_trans (by omega) (by decide : 3 ≤ sizeLine)), ms ++ [f * (r - 24 / f)], ⟨by rw [List.length_append]; rfl, fun a ha => ?_⟩, ?_, ?_, ?_⟩
      · rcases List.mem_append.mp ha with e | e
        · exact hb a e
        · rw [List.mem_singleton.mp e]
          rcases hf with e | e | e | e <;> subst e <;> omega
      · rw [upd_same, List.map_append]
        rfl
      · intro b o hb h
        have h2 := hB6 b o hb (hB5 b o hb h)
        have nb : b ≠ D := fun e => by
          subst e
          rw [b1.free nD hb] at h
          cases h
        rw [upd_ne nb]
        exact h2
      · obtain ⟨x1, x2, x3, e1, e2⟩ := hS6
        exact ⟨x1, x2, x3, by rw [upd_ne nDp.symm]; exact e1, e2⟩
    · rintro H5 ⟨ms, ⟨hl, hb⟩, hD, hB5, hS5⟩
      refine ⟨_, _, rfl, .inl ⟨SqL.of hD, fun t nt => ?_⟩⟩
      exact q t ms _ (hB5.new nt) (hS5.new nt) (hB5.free nt (hS5.ne nt).symm) upd_same hl hb

/-! the walk: how often a step of the greatest coordinate lands on whole numbers -/
theorem walk_iff {l : List Int} {M s : Nat} (hM : 0 < M) (hin : (M : Int) ∈ l ∨ -(M : Int) ∈ l) : (∀ v ∈ l, (v * (s : Int)) % (M : Int) = 0) ↔ (M / gcdL l) ∣ s := by
  have gM : gcdL l ∣ M := by
    rcases hin with h | h
    · exact Int.ofNat_dvd.mp (gcdL_dvd l _ h)
    · exact Int.ofNat_dvd.mp (Int.dvd_neg.mp (gcdL_dvd l _ h))
  have g0 : 0 < gcdL l := Nat.pos_of_dvd_of_pos gM hM
  have e1 : (∀ v ∈ l, (v * (s : Int)) % (M : Int) = 0) ↔ M ∣ gcdL l * s := by
    have e2 := gcdL_mul l (s : Int)
    rw [Int.natAbs_natCast] at e2
    rw [← e2]
    constructor
    · intro h
      refine dvd_gcdL _ fun a ha => ?_
      obtain ⟨v, hv, rfl⟩ := List.mem_map.mp ha
      exact Int.dvd_of_emod_eq_zero (h v hv)
    · intro h v hv
      refine Int.emod_eq_zero_of_dvd (Int.dvd_trans (Int.ofNat_dvd.mpr h) (gcdL_dvd _ _ (List.mem_map.mpr ⟨v, hv, rfl⟩)))
  rw [e1]
  obtain ⟨q, hq⟩ := gM
  rw [hq, Nat.mul_div_cancel_left q g0]
  exact Nat.mul_dvd_mul_iff_left g0
theorem div_succ (i q : Nat) (hq : 0 < q) : (i + 1) / q = i / q + if q ∣ i + 1 then 1 else 0 := by
  have h1 := Nat.div_add_mod i q
  have h2 := Nat.mod_lt i hq
  split
  · rename_i h
    obtain ⟨k, hk⟩ := h
    rw [hk, Nat.mul_div_cancel_left k hq]
    have hk0 : 0 < k := Nat.pos_of_ne_zero fun z => by rw [z, Nat.mul_zero] at hk; omega
    have e : i = q * (k - 1) + (q - 1) := by
      obtain ⟨j, rfl⟩ : ∃ j, k = j + 1 := ⟨k - 1, by omega⟩
      rw [Nat.mul_add, Nat.mul_one] at hk
      rw [Nat.add_sub_cancel]
      omega
    rw [e, Nat.mul_add_div hq, Nat.div_eq_of_lt (by omega)]
    omega
  · rename_i h
    have h3 : i % q + 1 < q := by
      refine Nat.lt_of_le_of_ne h2 fun e => h ⟨i / q + 1, ?_⟩
      rw [Nat.mul_add, Nat.mul_one]
      omega
    have e : i + 1 = q * (i / q) + (i % q + 1) := by omega
    rw [e, Nat.mul_add_div hq, Nat.div_eq_of_lt h3]
theorem walk_place {l : List Int} {M : Nat} (hM : 0 < M) (gM : gcdL l ∣ M) {v : Int} (hv : v ∈ l) : v * ((M / gcdL l : Nat) : Int) / (M : Int) = v / ((gcdL l : Nat) : Int) := by
  have g0 : 0 < gcdL l := Nat.pos_of_dvd_of_pos gM hM
  obtain ⟨q, hq⟩ := gM
  have q0 : 0 < q := Nat.pos_of_ne_zero fun z => by rw [z, Nat.mul_zero] at hq; omega
  rw [hq, Nat.mul_div_cancel_left q g0, Int.natCast_mul, Int.mul_ediv_mul_of_pos_left _ _ (by omega)]
/-- the greatest size of a coordinate, and that it stands in the list -/
def spWalk : Sp := fun vs H Q _ => ∃ (t : Addr) (ns : List Int), vs = [.ref t] ∧ TupI H t ns ∧ (ns.length = 2 ∨ ns.length = 3) ∧ (∀ a ∈ ns, a.natAbs ≤ 100) ∧
  ∀ (l : Addr) (rs : List V) (H' : Hp), Same H H' → H' l = some (.lst rs) → rs.length = gcdL ns → (∀ x, rs[0]? = some x → ∃ t', x = .ref t' ∧ TupI H' t' (firstL ns)) → Q (.ref l) H'
theorem ok_law_walk (T : Txt K mg A) : FnOk P w K mg base CX0 1 A.a_law_walk A.f_law_walk ["_law_spot_here"] spWalk := by
  refine T.F_law_walk.ok sc_law_walk (fun vs H Q E h => ?_) (fun cdv A' outer s H vs Q E hr h => ⟨_, (pss_cons (ps_set (i := 1) sc_law_walk.nd rfl (Or.inr rfl) (pe_callB (cr_max rfl) (by rfl) T.n_max (by decide +kernel) (pa_cons (pe_lc (own := [("_law_value", 4)]) (g := gName 4) rfl sc_law_walk.nd (pi_tup (pv 0)) (blkOk_by (own := [("_law_value", 4)]) (N := N_law_walk) (sc := defScope s_law_walk) (by decide +kernel)) (fun _ _ _ _ _ => pg_name (i := 4) sc_law_walk.nd rfl (Or.inl rfl)) (fun _ _ _ _ _ => pts_nil) (fun _ _ _ _ _ => (pe_callB (call_max2 rfl) (by rfl) T.n_max (by decide +kernel) (pa_cons (pv 4) (pa_cons (pe_op op_sub pe_int (pv 4)) pa_nil))))) pa_nil)))
    (pss_cons (ps_set (i := 2) sc_law_walk.nd rfl (Or.inl rfl) (pe_lst pa_nil))
    (pss_cons (ps_for PassesOwn.never rfl (pi_range2 rfl T.n_range (pa_cons pe_int (pa_cons (pe_op op_add (pv 1) pe_int) pa_nil))) (pg_name (i := 3) sc_law_walk.nd rfl (Or.inr rfl))
      (pss_one (ps_if (pt_cmpR (op_eqD hr.units) (pe_lc (own := [("_law_value", 4)]) (g := gName 4) rfl sc_law_walk.nd (pi_tup (pv 0)) (blkOk_by (own := [("_law_value", 4)]) (N := N_law_walk) (sc := defScope s_law_walk) (by decide +kernel)) (fun _ _ _ _ _ => pg_name (i := 4) sc_law_walk.nd rfl (Or.inl rfl)) (fun _ _ _ _ _ => (pts_one (pt_cmpR op_ne (pe_op op_mod (pe_callTy call_int1 (by rfl) T.n_int (by decide +kernel) (pa_cons (pe_op op_mul (pv 4) (pv 3)) pa_nil)) (pv 1)) pe_int (nomark _)))) (fun _ _ _ _ _ => (pv 4))) (pe_lst pa_nil) (nomark _)) (pss_one (ps_expr (pe_bm PySem.F.plainAttrs_list PySem.F.slot_list_append PySem.F.type_list_append mt_append (pv 2) (pa_cons (pe_callTy call_tuple_of (by rfl) T.n_tuple (by decide +kernel) (pa_cons (pe_lc (own := [("_law_value", 4)]) (g := gName 4) rfl sc_law_walk.nd (pi_tup (pv 0)) (blkOk_by (own := [("_law_value", 4)]) (N := N_law_walk) (sc := defScope s_law_walk) (by decide +kernel)) (fun _ _ _ _ _ => pg_name (i := 4) sc_law_walk.nd rfl (Or.inl rfl)) (fun _ _ _ _ _ => pts_nil) (fun _ _ _ _ _ => (pe_op op_fdiv (pe_op op_mul (pv 4) (pv 3)) (pv 1)))) pa_nil)) pa_nil)))) pss_nil)))
    (pss_one (ps_ret (pv 2)))))), ?_⟩)
  · obtain ⟨p, m, rfl, _⟩ := h
    rfl
  · obtain ⟨t, ns, rfl, hT, hn, hb, q⟩ := h
    walk_at "rd"
    refine ⟨_, rfl, t, rfl, ⟨_, SqT.of hT⟩, fun D nD => lc_tup (K := K) (a := t) (xs := ns.map V.int) (fun i H5 => Same H H5 ∧ H5 D = some (.lst ((ns.take i).map fun a => V.int ((a.natAbs : Nat) : Int))))
      ⟨Same.new0 nD, upd_same⟩ (fun i H5 _ ⟨e, _⟩ => SqT.of (e _ _ hT)) ?_ ?_⟩
    · rintro i x H5 hi ⟨s5, hD⟩
      obtain ⟨z, hz, rfl⟩ := ints_at hi
      walk_at "rd"
      refine ⟨rfl, ?_⟩
      walk_at "rd"
      refine iteT ?_
      walk_at "rd"
      have e0 : (if 0 - z > z then 0 - z else z) = ((z.natAbs : Nat) : Int) := by split <;> omega
      refine ⟨_, _, rfl, ?_⟩
      rw [e0]
      have hil : i < ns.length := (List.getElem?_eq_some_iff.mp hz).1
      refine ⟨_, hD, ?_, fun b o h => ?_, ?_⟩
      · rw [List.length_map, List.length_take]
        exact Nat.lt_of_lt_of_le (by omega) (by decide : 3 ≤ sizeLine)
      · rw [upd_ne (ne_of_none h nD)]
        exact s5 b o h
      · rw [upd_same, take_more hz, List.map_append]
        rfl
    · rintro H5 ⟨s5, hD⟩
      rw [List.length_map, List.take_length] at hD
      have hD' : H5 D = some (.lst ((ns.map fun a => ((a.natAbs : Nat) : Int)).map V.int)) := by rw [hD, List.map_map]; rfl
      refine ⟨D, _, rfl, SqL.of hD', by rw [List.length_map]; omega, fun m hm hle => ?_⟩
      obtain ⟨v0, hv0, em⟩ := List.mem_map.mp hm
      obtain ⟨M, rfl⟩ : ∃ M : Nat, m = (M : Int) := ⟨_, em.symm⟩
      have hM100 : M ≤ 100 := by have := hb v0 hv0; omega
      have hin : (M : Int) ∈ ns ∨ -(M : Int) ∈ ns := by
        have e : v0 = (M : Int) ∨ v0 = -(M : Int) := by omega
        rcases e with e | e
        · exact .inl (e ▸ hv0)
        · exact .inr (e ▸ hv0)
      have gM : gcdL ns ∣ M := by
        rcases hin with h | h
        · exact Int.ofNat_dvd.mp (gcdL_dvd ns _ h)
        · exact Int.ofNat_dvd.mp (Int.dvd_neg.mp (gcdL_dvd ns _ h))
      have hT5 := s5 _ _ hT
      walk_at "rd"
      refine ⟨by show 0 ≤ sizeLine; decide, fun R nR => ?_⟩
      walk_at "rd"
      refine ⟨_, rfl, _, _, rfl, rfl, 1, (M : Int) + 1, rfl, ⟨by omega, by omega, by omega, by omega⟩, ?_⟩
      have en : ((M : Int) + 1 - 1).toNat = M := by omega
      rw [en]
      refine for_range (lo := 1) (n := M) (fun i σ H' => ∃ (v : Option V) (rs : List V), σ = [some (.ref t), some (.int (M : Int)), some (.ref R), v, none] ∧ Same H5 H' ∧ H' R = some (.lst rs) ∧ rs.length = i / (M / gcdL ns) ∧ (∀ x, rs[0]? = some x → ∃ t', x = .ref t' ∧ TupI H' t' (firstL ns)))
        ⟨none, [], rfl, Same.new0 nR, upd_same, (Nat.zero_div _).symm, fun x z => nomatch z⟩ ?_ ?_
      · rintro i σ H' hi ⟨v, rs, rfl, s6, hR, hrl, hr0⟩
        have hM : 0 < M := by omega
        have hg0 : gcdL ns ≠ 0 := Nat.ne_of_gt (Nat.pos_of_dvd_of_pos gM hM)
        have hq0 : 0 < M / gcdL ns := Nat.div_pos (Nat.le_of_dvd hM gM) (Nat.pos_of_ne_zero hg0)
        have hT6 := s6 _ _ hT5
        walk_at "rd"
        -- the coordinates that are not divided
        refine ⟨_, rfl, t, rfl, ⟨_, SqT.of hT6⟩, fun D2 nD2 => lc_tup (K := K) (a := t) (xs := ns.map V.int) (fun j H7 => Same H' H7 ∧ H7 D2 = some (.lst (((ns.take j).filter fun a => !((a * (1 + (i : Int))) % (M : Int) == 0)).map V.int)))
          ⟨Same.new0 nD2, upd_same⟩ (fun j H7 _ ⟨e, _⟩ => SqT.of (e _ _ hT6)) ?_ ?_⟩
        · rintro j x H7 hj ⟨s7, hD2⟩
          obtain ⟨z, hz, rfl⟩ := ints_at hj
          have hzb := hb z (List.mem_of_getElem? hz)
          walk_at "rd"
          refine ⟨rfl, ?_⟩
          walk_at "rd"
          refine .inl ⟨_, rfl, ?_⟩
          walk_at "rd"
          refine ⟨_, rfl, ?_⟩
          have hjl : j < ns.length := (List.getElem?_eq_some_iff.mp hz).1
          refine ite2 (fun hc => ?_) (fun hc => ?_)
          · walk_at "rd"
            refine ⟨_, hD2, ?_, fun b o h => ?_, ?_⟩
            · rw [List.length_map]
              refine Nat.lt_of_le_of_lt (List.length_filter_le _ _) ?_
              rw [List.length_take]
              exact Nat.lt_of_lt_of_le (by omega) (by decide : 3 ≤ sizeLine)
            · rw [upd_ne (ne_of_none h nD2)]
              exact s7 b o h
            · rw [upd_same, take_more hz, List.filter_append, List.filter_cons, if_pos hc, List.map_append]
              rfl
          · refine ⟨s7, ?_⟩
            rw [hD2, take_more hz, List.filter_append, List.filter_cons, if_neg hc, List.filter_nil, List.append_nil]
        · rintro H7 ⟨s7, hD2⟩
          rw [List.length_map, List.take_length] at hD2
          walk_at "rd"
          refine ⟨by show 0 ≤ sizeLine; decide, fun l0 nl0 => ?_⟩
          refine eqD_lst (ns := ns.filter fun a => !((a * (1 + (i : Int))) % (M : Int) == 0)) (ms := []) (SqL.of (Same.new0 nl0 _ _ hD2)) (SqL.of upd_same) ?_
          have s8 : Same H' (upd H7 l0 (.lst [])) := s7.new nl0
          have hT8 := s8 _ _ hT6
          have hR8 := s8 _ _ hR
          have key : (ns.filter (fun a => !((a * (1 + (i : Int))) % (M : Int) == 0)) = []) ↔ (M / gcdL ns) ∣ (i + 1) := by
            rw [← walk_iff hM hin, List.filter_eq_nil_iff]
            refine forall_congr' fun a => forall_congr' fun _ => ?_
            have e : (1 + (i : Int)) = ((i + 1 : Nat) : Int) := by omega
            rw [e]
            simp
          refine ⟨_, rfl, ite2 (fun hc => ?_) (fun hc => ?_)⟩
          · have hd := key.mp (of_decide_eq_true hc)
            walk_at "rd"
            refine ⟨.inl ⟨rfl, _, SqL.of hR8⟩, ?_⟩
            walk_at "rd"
            refine ⟨_, rfl, t, rfl, ⟨_, SqT.of hT8⟩, fun D3 nD3 => lc_tup (K := K) (a := t) (xs := ns.map V.int) (fun j H9 => Same (upd H7 l0 (.lst [])) H9 ∧ H9 D3 = some (.lst ((ns.take j).map fun a => V.int (a * (1 + (i : Int)) / (M : Int)))))
              ⟨Same.new0 nD3, upd_same⟩ (fun j H9 _ ⟨e, _⟩ => SqT.of (e _ _ hT8)) ?_ ?_⟩
            · rintro j x H9 hj ⟨s9, hD3⟩
              obtain ⟨z, hz, rfl⟩ := ints_at hj
              have hzb := hb z (List.mem_of_getElem? hz)
              walk_at "rd"
              refine ⟨rfl, ?_⟩
              walk_at "rd"
              refine iteT ?_
              walk_at "rd"
              have hjl : j < ns.length := (List.getElem?_eq_some_iff.mp hz).1
              refine ⟨_, hD3, ?_, fun b o h => ?_, ?_⟩
              · rw [List.length_map, List.length_take]
                exact Nat.lt_of_lt_of_le (by omega) (by decide : 3 ≤ sizeLine)
              · rw [upd_ne (ne_of_none h nD3)]
                exact s9 b o h
              · rw [upd_same, take_more hz, List.map_append]
                rfl
            · rintro H9 ⟨s9, hD3⟩
              rw [List.length_map, List.take_length] at hD3
              refine ⟨_, _, rfl, .inl ⟨SqL.of hD3, fun t3 nt3 => ?_⟩⟩
              walk_at "rd"
              have s10 := s9.new nt3 (o := .tup (ns.map fun a => V.int (a * (1 + (i : Int)) / (M : Int))))
              have hR9 := s10 _ _ hR8
              have hlen : rs.length ≤ 100 := by rw [hrl]; exact Nat.le_trans (Nat.div_le_self _ _) (by omega)
              refine ⟨R, rs, _, rfl, rfl, hR9, Nat.lt_of_le_of_lt hlen (by decide), ?_⟩
              have nRH : ∀ b o, H5 b = some o → b ≠ R := fun b o h => ne_of_none h nR
              have sAll : Same H' (upd H9 t3 (.tup (ns.map fun a => V.int (a * (1 + (i : Int)) / (M : Int))))) := s8.trans s10
              refine ⟨_, rs ++ [.ref t3], rfl, fun b o h => ?_, upd_same, ?_, ?_⟩
              · rw [upd_ne (nRH b o h)]
                exact sAll _ _ (s6 _ _ h)
              · rw [List.length_append, hrl, div_succ _ _ hq0, if_pos hd]
                rfl
              · intro x hx
                have nt3R : t3 ≠ R := fun e => by
                  have h1 := s9 _ _ hR8
                  rw [← e, nt3] at h1
                  cases h1
                cases hrs : rs with
                | nil =>
                  rw [hrs] at hx hrl
                  have ex : V.ref t3 = x := Option.some.inj hx
                  refine ⟨t3, ex.symm, ?_⟩
                  unfold TupI
                  rw [upd_ne nt3R, upd_same]
                  have hi0 : i / (M / gcdL ns) = 0 := hrl.symm
                  have hilt : i < M / gcdL ns := (Nat.div_eq_zero_iff_lt hq0).mp hi0
                  have hi1 : i + 1 = M / gcdL ns := by
                    have := Nat.le_of_dvd (by omega) hd
                    omega
                  unfold firstL
                  rw [if_neg hg0, List.map_map]
                  refine congrArg some (congrArg HO.tup (List.map_congr_left fun a ha => ?_))
                  have e : (1 + (i : Int)) = ((M / gcdL ns : Nat) : Int) := by omega
                  rw [e, walk_place hM gM ha]
                  rfl
                | cons y ys =>
                  rw [hrs] at hx
                  have ex : y = x := Option.some.inj hx
                  obtain ⟨t', e1, e2⟩ := hr0 x (by rw [hrs, ← ex]; rfl)
                  refine ⟨t', e1, ?_⟩
                  have e3 := sAll _ _ e2
                  have nt' : t' ≠ R := fun e => by
                    rw [e] at e2
                    unfold TupI at e2
                    rw [hR] at e2
                    cases e2
                  unfold TupI
                  rw [upd_ne nt']
                  exact e3
          · have hd : ¬ (M / gcdL ns) ∣ (i + 1) := fun z => hc (decide_eq_true (key.mpr z))
            walk_at "rd"
            refine ⟨_, rs, rfl, s6.trans s8, hR8, ?_, fun x hx => ?_⟩
            · rw [div_succ _ _ hq0, if_neg hd]
              exact hrl
            · obtain ⟨t', e1, e2⟩ := hr0 x hx
              exact ⟨t', e1, e2.same s8⟩
      · rintro σ H' ⟨v, rs, rfl, s6, hR, hrl, hr0⟩
        dsimp only
        walk_at "rd"
        refine q R rs H' (s5.trans s6) hR ?_ hr0
        by_cases hM : M = 0
        · have hz : gcdL ns = 0 := by
            refine gcdL_of_zero fun a ha => ?_
            have h1 := hle _ (List.mem_map.mpr ⟨a, ha, rfl⟩)
            omega
          rw [hrl, hM, hz]
        · rw [hrl]
          have h0 : 0 < M := Nat.pos_of_ne_zero hM
          have g0 : 0 < gcdL ns := Nat.pos_of_dvd_of_pos gM h0
          obtain ⟨k, hk⟩ := gM
          have k0 : 0 < k := Nat.pos_of_ne_zero fun z => by rw [z, Nat.mul_zero] at hk; omega
          rw [hk, Nat.mul_div_cancel_left k g0, Nat.mul_div_cancel _ k0]
def spNearRight : Sp := fun vs H Q _ => ∃ (t : Addr) (ns : List Int), vs = [.ref t] ∧ TupI H t ns ∧ (ns.length = 2 ∨ ns.length = 3) ∧ (∀ a ∈ ns, a.natAbs ≤ 100) ∧ ∀ H', Same H H' → Q (.bl true) H'
theorem ok_law_near_right (T : Txt K mg A) : FnOk P w K mg base CX0 4 A.a_law_near_right A.f_law_near_right ["_law_spot_here"] spNearRight := by
  refine T.F_law_near_right.ok sc_law_near_right (fun vs H Q E h => ?_) (fun cdv A' outer s H vs Q E hr h => ⟨_, (pss_cons (ps_set (i := 1) sc_law_near_right.nd rfl (Or.inl rfl) (pe_call (ok_law_walk T) (hr.mono (by decide)) rfl T.g_law_walk T.k_law_walk T.b_law_walk .nil pass0 (pa_cons (pv 0) pa_nil)))
    (pss_cons (ps_set (i := 2) sc_law_near_right.nd rfl (Or.inl rfl) (pe_call (ok_between T) (hr.mono (by decide)) rfl T.g_between T.k_between T.b_between .nil pass0 (pa_cons (pv 0) pa_nil)))
    (pss_cons (ps_if (PW.pt (pw_or (pt_not (pt_val (pe_call (ok_law_whole T) (hr.mono (by decide)) rfl T.g_law_whole T.k_law_whole T.b_law_whole .nil pass0 (pa_cons (pv 2) pa_nil)))) (pw_or1 (pt_cmpR op_ne (pv 2) (pe_callB (call_max2 rfl) (by rfl) T.n_max (by decide +kernel) (pa_cons pe_int (pa_cons (pe_op op_sub (pe_callB call_len_seq (by rfl) T.n_len (by decide +kernel) (pa_cons (pv 1) pa_nil)) pe_int) pa_nil))) (nomark _))))) (pss_one (ps_ret pe_bl)) pss_nil)
    (pss_one (ps_ret (pe_call (ok_law_is_spot T) (hr.mono (by decide)) rfl T.g_law_is_spot T.k_law_is_spot T.b_law_is_spot .nil pass0 (pa_cons (pe_call (ok_first_post T) (hr.mono (by decide)) rfl T.g_first_post T.k_first_post T.b_first_post .nil pass0 (pa_cons (pv 0) pa_nil)) (pa_cons (pe_ix ix_list (pe_op op_cat (pv 1) (pe_lst (pa_cons (pv 0) pa_nil))) pe_int (fun _ _ => rfl)) pa_nil)))))))), ?_⟩)
  · obtain ⟨p, m, rfl, _⟩ := h
    rfl
  · obtain ⟨t, ns, rfl, hT, hn, hb, q⟩ := h
    have hb' : ∀ a ∈ ns, a.natAbs < 2 ^ 250 := fun a ha => Nat.lt_of_le_of_lt (hb a ha) (by decide)
    walk_at "rd"
    refine ⟨t, ns, rfl, hT, hn, hb, fun l rs H1 s1 hl hrl hr0 => ?_⟩
    walk_at "rd"
    have hT1 := hT.same s1
    refine ⟨t, ns, rfl, hT1.sq, hn, fun H2 s2 => ?_⟩
    walk_at "rd"
    refine ⟨_, rfl, _, rfl, iteFb rfl ?_⟩
    walk_at "rd"
    have hl2 := s2 _ _ hl
    refine ⟨l, _, rfl, .inl (SqL.of hl2), ?_⟩
    walk_at "rd"
    refine ⟨_, _, rfl, ?_⟩
    have e2 : (if ((rs.length : Nat) : Int) - 1 > 0 then ((rs.length : Nat) : Int) - 1 else 0) = ((gcdL ns - 1 : Nat) : Int) := by rw [hrl]; split <;> omega
    rw [e2]
    walk_at "rd"
    refine ⟨_, rfl, iteFb (by rw [beq_self_eq_true]; rfl) ?_⟩
    walk_at "rd"
    dsimp only
    walk_at "rd"
    have hT2 := hT1.same s2
    refine ⟨t, ns, rfl, hT2, hn, hb', fun t1 H3 s3 h1 => ?_⟩
    walk_at "rd"
    refine ⟨by show 1 ≤ sizeLine; decide, fun l1 n1 => ?_⟩
    have hl3 := (Same.new0 n1 (o := .lst [.ref t])) _ _ (s3 _ _ hl2)
    have hg100 : gcdL ns ≤ 100 := Nat.le_of_lt_succ (gcdL_lt (by decide : 0 < 101) ns fun a ha => Nat.lt_succ_of_le (hb a ha))
    refine ⟨l, l1, rs, _, rfl, rfl, hl3, upd_same, by rw [hrl]; exact Nat.le_trans (Nat.add_le_add hg100 (Nat.le_refl 1)) (by decide), fun l2 n2 => ?_⟩
    walk_at "rd"
    have s5 : Same H3 (upd (upd H3 l1 (.lst [.ref t])) l2 (.lst (rs ++ [.ref t]))) := (Same.new0 n1).new n2
    have sA : Same H (upd (upd H3 l1 (.lst [.ref t])) l2 (.lst (rs ++ [.ref t]))) := (s1.trans s2).trans (s3.trans s5)
    obtain ⟨t', e1, e3⟩ : ∃ t', atI (rs ++ [V.ref t]) 0 = some (V.ref t') ∧ TupI (upd (upd H3 l1 (.lst [.ref t])) l2 (.lst (rs ++ [.ref t]))) t' (firstL ns) := by
      cases hrs : rs with
      | nil =>
        rw [hrs] at hrl
        refine ⟨t, rfl, ?_⟩
        have e : firstL ns = ns := by unfold firstL; exact if_pos (show gcdL ns = 0 from hrl.symm)
        rw [e]
        rw [hrs] at sA
        exact hT.same sA
      | cons x r =>
        obtain ⟨t', e1, e2⟩ := hr0 x (by rw [hrs]; rfl)
        rw [e1]
        rw [hrs, e1] at s5
        exact ⟨t', at_of (j := 0) rfl rfl, (e2.same (s2.trans s3)).same s5⟩
    refine r_ixL (SqL.of upd_same) e1 ?_
    walk_at "rd"
    refine ⟨t1, t', firstL ns, rfl, h1.same s5, e3, by rw [firstL_len]; omega, ?_⟩
    exact q _ sA
def spFarRight : Sp := fun vs H Q _ => ∃ (t : Addr) (ns : List Int), vs = [.ref t] ∧ TupI H t ns ∧ (ns.length = 2 ∨ ns.length = 3) ∧ (∀ a ∈ ns, a.natAbs < 2 ^ 250) ∧ ∀ H', Same H H' → Q (.bl true) H'
theorem far_eq {ns : List Int} (h : gcdL ns ≠ 0) : (firstL ns).map (fun a => (((gcdL ns - 1 : Nat) : Int) + 1) * a) = ns := by
  have e := firstL_back (l := ns)
  rw [if_neg h] at e
  have e2 : (((gcdL ns - 1 : Nat) : Int) + 1) = ((gcdL ns : Nat) : Int) := by omega
  rw [e2]
  conv => rhs; rw [← e]
  exact List.map_congr_left fun a _ => Int.mul_comm _ _
theorem zeros_iff {ns : List Int} : ns = List.replicate ns.length 0 ↔ gcdL ns = 0 := by
  constructor
  · intro h
    refine gcdL_of_zero fun a ha => ?_
    rw [h] at ha
    exact List.eq_of_mem_replicate ha
  · intro h
    exact List.eq_replicate_iff.mpr ⟨rfl, gcdL_zero h⟩
theorem ok_law_far_right (T : Txt K mg A) : FnOk P w K mg base CX0 4 A.a_law_far_right A.f_law_far_right ["_law_spot_here"] spFarRight := by
  refine T.F_law_far_right.ok sc_law_far_right (fun vs H Q E h => ?_) (fun cdv A' outer s H vs Q E hr h => ⟨_, (pss_cons (ps_set (i := 1) sc_law_far_right.nd rfl (Or.inr rfl) (pe_call (ok_between T) (hr.mono (by decide)) rfl T.g_between T.k_between T.b_between .nil pass0 (pa_cons (pv 0) pa_nil)))
    (pss_cons (ps_set (i := 2) sc_law_far_right.nd rfl (Or.inl rfl) (pe_call (ok_first_post T) (hr.mono (by decide)) rfl T.g_first_post T.k_first_post T.b_first_post .nil pass0 (pa_cons (pv 0) pa_nil)))
    (pss_cons (ps_if (PW.pt (pw_or (pt_not (pt_val (pe_call (ok_law_whole T) (hr.mono (by decide)) rfl T.g_law_whole T.k_law_whole T.b_law_whole .nil pass0 (pa_cons (pv 1) pa_nil)))) (pw_or (pt_cmpR op_lt (pv 1) pe_int (nomark _)) (pw_or (pt_not (pt_val (pe_callB call_isi (by rfl) T.n_isinstance (by decide +kernel) (pa_cons (pv 2) (pa_cons (pe_bltn (v := .ty "tuple") (u := .type "tuple") (by rfl) T.n_tuple (by decide +kernel) rfl) pa_nil))))) (pw_or1 (pt_cmpR op_ne (pe_callB call_len_seq (by rfl) T.n_len (by decide +kernel) (pa_cons (pv 2) pa_nil)) (pe_callB call_len_seq (by rfl) T.n_len (by decide +kernel) (pa_cons (pv 0) pa_nil)) (nomark _))))))) (pss_one (ps_ret pe_bl)) pss_nil)
    (pss_cons (ps_if (pt_cmpR (op_neD hr.units) (pe_lc (own := [("_law_value", 3)]) (g := gName 3) rfl sc_law_far_right.nd (pi_tup (pv 2)) (blkOk_by (own := [("_law_value", 3)]) (N := N_law_far_right) (sc := defScope s_law_far_right) (by decide +kernel)) (fun _ _ _ _ _ => pg_name (i := 3) sc_law_far_right.nd rfl (Or.inl rfl)) (fun _ _ _ _ _ => (pts_one (pt_not (pt_val (pe_call (ok_law_whole T) (hr.mono (by decide)) rfl T.g_law_whole T.k_law_whole T.b_law_whole .nil pass0 (pa_cons (pv 3) pa_nil)))))) (fun _ _ _ _ _ => (pv 3))) (pe_lst pa_nil) (nomark _)) (pss_one (ps_ret pe_bl)) pss_nil)
    (pss_cons (ps_if (pt_cmpR (op_eqD hr.units) (pv 0) (pe_callTy call_tuple_of (by rfl) T.n_tuple (by decide +kernel) (pa_cons (pe_op op_rep (pe_lst (pa_cons pe_int pa_nil)) (pe_callB call_len_seq (by rfl) T.n_len (by decide +kernel) (pa_cons (pv 0) pa_nil))) pa_nil)) (nomark _)) (pss_one (ps_ret (pe_and (pe_cmpR op_eq (pv 1) pe_int (nomark _)) (pe_one (pe_cmpR (op_eqD hr.units) (pv 2) (pv 0) (nomark _)))))) pss_nil)
    (pss_one (ps_ret (pe_and (pe_cmpR op_eq (pe_call (ok_law_gcd T) (hr.mono (by decide)) rfl T.g_law_gcd T.k_law_gcd T.b_law_gcd .nil pass0 (pa_cons (pv 2) pa_nil)) pe_int (nomark _)) (pe_one (pe_cmpR (op_eqD hr.units) (pe_callTy call_tuple_of (by rfl) T.n_tuple (by decide +kernel) (pa_cons (pe_lc (own := [("_law_value", 3)]) (g := gName 3) rfl sc_law_far_right.nd (pi_tup (pv 2)) (blkOk_by (own := [("_law_value", 3)]) (N := N_law_far_right) (sc := defScope s_law_far_right) (by decide +kernel)) (fun _ _ _ _ _ => pg_name (i := 3) sc_law_far_right.nd rfl (Or.inl rfl)) (fun _ _ _ _ _ => pts_nil) (fun _ _ _ _ _ => (pe_op op_mulW (pe_op op_add (pv 1) pe_int) (pv 3)))) pa_nil)) (pv 0) (nomark _))))))))))), ?_⟩)
  · obtain ⟨p, m, rfl, _⟩ := h
    rfl
  · obtain ⟨t, ns, rfl, hT, hn, hb, q⟩ := h
    have hg := gcdL_lt (by decide : 0 < 2 ^ 250) ns hb
    have hfl := firstL_len ns
    have hfb : ∀ a ∈ firstL ns, a.natAbs < 2 ^ 250 := by
      unfold firstL
      split
      · exact hb
      · intro a ha
        obtain ⟨v, hv, rfl⟩ := List.mem_map.mp ha
        exact Nat.lt_of_le_of_lt (Int.natAbs_ediv_le_natAbs v _) (hb v hv)
    walk_at "rd"
    refine ⟨t, ns, rfl, hT.sq, hn, fun H1 s1 => ?_⟩
    walk_at "rd"
    refine ⟨t, ns, rfl, hT.same s1, hn, hb, fun f H2 s2 hF => ?_⟩
    have hT2 := hT.same (s1.trans s2)
    walk_at "rd"
    refine ⟨_, rfl, _, rfl, iteFb rfl ?_⟩
    walk_at "rd"
    refine ⟨_, rfl, iteFb (decide_eq_false (by omega)) ?_⟩
    walk_at "rd"
    refine ⟨_, _, _, _, true, rfl, .ty "tuple", .base (.tup hF), kit_ty (by decide +kernel), ?_⟩
    refine ⟨_, rfl, iteFb rfl ?_⟩
    walk_at "rd"
    refine ⟨f, _, rfl, .inr hF.sq, ?_⟩
    walk_at "rd"
    refine ⟨t, _, rfl, .inr hT2.sq, ?_⟩
    walk_at "rd"
    refine ⟨_, rfl, iteFb (by rw [List.length_map, List.length_map, hfl, beq_self_eq_true]; rfl) ?_⟩
    walk_at "rd"
    dsimp only
    -- all of the first one's coordinates are whole numbers
    refine ⟨_, rfl, f, rfl, ⟨_, hF.sq⟩, fun D nD => lc_tup (K := K) (a := f) (xs := (firstL ns).map V.int) (fun j H7 => Same H2 H7 ∧ H7 D = some (.lst []))
      ⟨Same.new0 nD, upd_same⟩ (fun j H7 _ ⟨e, _⟩ => (hF.same e).sq) ?_ ?_⟩
    · rintro j x H7 hj ⟨s7, hD⟩
      obtain ⟨z, hz, rfl⟩ := ints_at hj
      walk_at "rd"
      refine ⟨rfl, ?_⟩
      walk_at "rd"
      refine ⟨_, rfl, _, rfl, iteFb rfl ?_⟩
      exact ⟨s7, hD⟩
    · rintro H7 ⟨s7, hD⟩
      walk_at "rd"
      refine ⟨by show 0 ≤ sizeLine; decide, fun l0 nl0 => ?_⟩
      refine neD_lst (ns := []) (ms := []) (SqL.of (Same.new0 nl0 _ _ hD)) (SqL.of upd_same) ?_
      refine ⟨_, rfl, iteFb rfl ?_⟩
      walk_at "rd"
      dsimp only
      have s8 : Same H2 (upd H7 l0 (.lst [])) := s7.new nl0
      have hT8 := hT2.same s8
      have hF8 := hF.same s8
      -- the place of the eye?
      walk_at "rd"
      refine ⟨by show 1 ≤ sizeLine; decide, fun l1 n1 => ?_⟩
      walk_at "rd"
      have s9 := s8.new n1 (o := .lst [V.int 0])
      refine ⟨t, _, rfl, .inr (hT2.same s9).sq, ?_⟩
      rw [List.length_map]
      refine ⟨l1, _, _, rfl, rfl, upd_same, by omega, by omega, ?_, fun l2 n2 => ?_⟩
      · rw [Int.toNat_natCast]
        exact Nat.le_trans (show 1 * ns.length ≤ 3 by omega) (by decide)
      rw [rep_ints]
      refine ⟨l2, _, rfl, .inl ⟨SqL.of upd_same, fun tz ntz => ?_⟩⟩
      have s10 := (s9.new n2 (o := .lst ((List.replicate ns.length 0).map V.int))).new ntz (o := .tup ((List.replicate ns.length 0).map V.int))
      have hT10 := hT2.same s10
      have hF10 := hF.same s10
      refine eqD_tup hT10.sq (SqT.of upd_same) ?_
      refine ⟨_, rfl, ite2 (fun hc => ?_) (fun hc => ?_)⟩
      · have hz : gcdL ns = 0 := zeros_iff.mp (of_decide_eq_true hc)
        walk_at "rd"
        refine ⟨_, rfl, iteTb (by rw [hz]; rfl) ?_⟩
        walk_at "rd"
        refine eqD_tup hF10.sq hT10.sq ?_
        have e : firstL ns = ns := by unfold firstL; rw [if_pos hz]
        rw [decide_eq_true e]
        exact q _ ((s1.trans s2).trans s10)
      · have hz : gcdL ns ≠ 0 := fun z => hc (decide_eq_true (zeros_iff.mpr z))
        walk_at "rd"
        dsimp only
        walk_at "rd"
        refine ⟨f, firstL ns, rfl, hF10.sq, ?_⟩
        walk_at "rd"
        refine ⟨_, rfl, iteTb (by rw [firstL_gcd hz]; rfl) ?_⟩
        walk_at "rd"
        refine ⟨_, rfl, f, rfl, ⟨_, hF10.sq⟩, fun D2 nD2 => lc_tup (K := K) (a := f) (xs := (firstL ns).map V.int) (fun j H11 => Same (upd (upd (upd (upd H7 l0 (.lst [])) l1 (.lst [V.int 0])) l2 (.lst ((List.replicate ns.length 0).map V.int))) tz (.tup ((List.replicate ns.length 0).map V.int))) H11 ∧ H11 D2 = some (.lst (((firstL ns).take j).map fun a => V.int ((((gcdL ns - 1 : Nat) : Int) + 1) * a))))
          ⟨Same.new0 nD2, upd_same⟩ (fun j H11 _ ⟨e, _⟩ => (hF10.same e).sq) ?_ ?_⟩
        · rintro j x H11 hj ⟨s11, hD2⟩
          obtain ⟨z, hz, rfl⟩ := ints_at hj
          walk_at "rd"
          refine ⟨rfl, ?_⟩
          walk_at "rd"
          refine iteT ?_
          walk_at "rd"
          refine r_I (wide_mul (a := 250) (b := 250) (by omega) (hfb z (List.mem_of_getElem? hz)) (by decide) (by decide) (by decide)) ?_
          have hjl : j < (firstL ns).length := (List.getElem?_eq_some_iff.mp hz).1
          refine ⟨_, hD2, ?_, fun b o h => ?_, ?_⟩
          · rw [List.length_map, List.length_take]
            exact Nat.lt_of_lt_of_le (by omega) (by decide : 3 ≤ sizeLine)
          · rw [upd_ne (ne_of_none h nD2)]
            exact s11 b o h
          · rw [upd_same, take_more hz, List.map_append]
            rfl
        · rintro H11 ⟨s11, hD2⟩
          rw [List.length_map, List.take_length] at hD2
          refine ⟨_, _, rfl, .inl ⟨SqL.of hD2, fun t3 nt3 => ?_⟩⟩
          walk_at "rd"
          have s12 := s11.new nt3 (o := .tup ((firstL ns).map fun a => V.int ((((gcdL ns - 1 : Nat) : Int) + 1) * a)))
          refine eqD_tup (ns := (firstL ns).map fun a => (((gcdL ns - 1 : Nat) : Int) + 1) * a) (SqT.of (by rw [upd_same, List.map_map]; rfl)) (hT10.same s12).sq ?_
          rw [decide_eq_true (far_eq hz)]
          exact q _ (((s1.trans s2).trans s10).trans s12)
theorem ok_law_right (T : Txt K mg A) : FnOk P w K mg base CX0 5 A.a_law_right A.f_law_right ["_law_spring_here"] spRight := by
  refine T.F_law_right.ok sc_law_right (fun vs H Q E h => ?_) (fun cdv A' outer s H vs Q E hr h => ⟨_, (pss_cons (ps_for PassesOwn.never rfl (pi_list (pe_lst (pa_cons pe_int (pa_cons pe_int pa_nil)))) (pg_name (i := 1) sc_law_right.nd rfl (Or.inl rfl))
      (pss_cons (ps_set (i := 2) sc_law_right.nd rfl (Or.inl rfl) (pe_call (ok_law_near T) (hr.mono (by decide)) rfl T.g_law_near T.k_law_near T.b_law_near .nil pass0 (pa_cons (pv 0) (pa_cons (pv 1) pa_nil))))
    (pss_cons (ps_set (i := 3) sc_law_right.nd rfl (Or.inl rfl) (pe_call (ok_law_spot T) (hr.mono (by decide)) rfl T.g_law_spot T.k_law_spot T.b_law_spot .nil pass0 (pa_cons (pv 0) (pa_cons (pv 1) pa_nil))))
    (pss_cons (ps_if (PW.pt (pw_or (pt_not (pt_val (pe_call (ok_law_near_right T) (hr.mono (by decide)) rfl T.g_law_near_right T.k_law_near_right T.b_law_near_right .nil pass0 (pa_cons (pv 2) pa_nil)))) (pw_or (pt_not (pt_val (pe_call (ok_law_far_right T) (hr.mono (by decide)) rfl T.g_law_far_right T.k_law_far_right T.b_law_far_right .nil pass0 (pa_cons (pv 3) pa_nil)))) (pw_or1 (pt_not (pt_val (pe_call (ok_law_near_right T) (hr.mono (by decide)) rfl T.g_law_near_right T.k_law_near_right T.b_law_near_right .nil pass0 (pa_cons (pv 2) pa_nil)))))))) (pss_one (ps_ret pe_bl)) pss_nil)
    (pss_cons (ps_if (PW.pt (pw_or (pt_not (pt_val (pe_call (ok_law_is_spot T) (hr.mono (by decide)) rfl T.g_law_is_spot T.k_law_is_spot T.b_law_is_spot .nil pass0 (pa_cons (pe_callK0 (ok_first_post T) (hr.mono (by decide)) rfl T.g_first_post T.k_first_post T.kb_first_post pass0 (pk_cons (pv 2) pk_nil)) (pa_cons (pe_call (ok_first_post T) (hr.mono (by decide)) rfl T.g_first_post T.k_first_post T.b_first_post .nil pass0 (pa_cons (pv 2) pa_nil)) pa_nil))))) (pw_or1 (pt_cmpR op_ne (pe_callK0 (ok_between T) (hr.mono (by decide)) rfl T.g_between T.k_between T.kb_between pass0 (pk_cons (pv 3) pk_nil)) (pe_call (ok_between T) (hr.mono (by decide)) rfl T.g_between T.k_between T.b_between .nil pass0 (pa_cons (pv 3) pa_nil)) (nomark _))))) (pss_one (ps_ret pe_bl)) pss_nil)
    (pss_one (ps_if (pt_not (pt_val (pe_call (ok_law_near_right T) (hr.mono (by decide)) rfl T.g_law_near_right T.k_law_near_right T.b_law_near_right .nil pass0 (pa_cons (pe_callTy call_tuple_of (by rfl) T.n_tuple (by decide +kernel) (pa_cons (pe_op op_rep (pe_lst (pa_cons pe_int pa_nil)) (pv 1)) pa_nil)) pa_nil)))) (pss_one (ps_ret pe_bl)) pss_nil)))))))
    (pss_one (ps_ret pe_bl))), ?_⟩)
  · obtain ⟨p, rfl, _⟩ := h
    rfl
  · obtain ⟨p, rfl, hS, q⟩ := h
    walk_at "rd"
    refine ⟨by show 2 ≤ sizeLine; decide, fun l nl => ?_⟩
    refine ⟨l, rfl, ⟨_, SqL.of upd_same⟩, for_list (K := K) (a := l) (xs := [.int 2, .int 3]) (fun i σ H' => ∃ (v u x : Option V), σ = [some (.ref p), v, u, x] ∧ H' l = some (.lst [.int 2, .int 3]) ∧ But p H H' ∧ Spr H' p)
      ⟨none, none, none, rfl, upd_same, (Same.new0 nl).but, hS.new nl⟩ (fun i σ H' _ ⟨_, _, _, _, e, _⟩ => SqL.of e) ?_ ?_⟩
    · rintro i x σ H' hi ⟨v, u, y, rfl, hl, hB, hS'⟩
      obtain ⟨n, rfl, hn⟩ : ∃ n : Nat, x = .int (n : Int) ∧ (n = 2 ∨ n = 3) := by
        match i, hi with
        | 0, hi => exact ⟨2, (Option.some.inj hi).symm, .inl rfl⟩
        | 1, hi => exact ⟨3, (Option.some.inj hi).symm, .inr rfl⟩
      have nlp : l ≠ p := (hS.ne nl).symm
      walk_at "rd"
      refine ⟨p, n, rfl, hS', hn, fun t1 ns1 H1 hB1 hS1 nt1 ht1 hl1 hb1 => ?_⟩
      walk_at "rd"
      refine ⟨p, n, rfl, hS1, hn, fun t2 ns2 H2 hB2 hS2 nt2 ht2 hl2 hb2 => ?_⟩
      have ht1' : TupI H2 t1 ns1 := hB2 t1 _ (hS'.ne nt1).symm ht1
      have hBa := (hB.trans hB1).trans hB2
      have hla := hB2 l _ nlp (hB1 l _ nlp hl)
      have hn1 : ns1.length = 2 ∨ ns1.length = 3 := by rw [hl1]; exact hn
      have hn2 : ns2.length = 2 ∨ ns2.length = 3 := by rw [hl2]; exact hn
      walk_at "rd"
      refine ⟨t1, ns1, rfl, ht1', hn1, hb1, fun H3 s3 => ?_⟩
      refine ⟨_, rfl, iteFb rfl ?_⟩
      walk_at "rd"
      refine ⟨t2, ns2, rfl, ht2.same s3, hn2, hb2, fun H4 s4 => ?_⟩
      refine ⟨_, rfl, iteFb rfl ?_⟩
      walk_at "rd"
      have ht14 := ht1'.same (s3.trans s4)
      have ht24 := ht2.same (s3.trans s4)
      refine ⟨t1, ns1, rfl, ht14, hn1, hb1, fun H5 s5 => ?_⟩
      refine ⟨_, rfl, iteFb rfl ?_⟩
      walk_at "rd"
      dsimp only
      have hb1' : ∀ a ∈ ns1, a.natAbs < 2 ^ 250 := fun a ha => Nat.lt_of_le_of_lt (hb1 a ha) (by decide)
      walk_at "rd"
      refine ⟨t1, ns1, rfl, ht14.same s5, hn1, hb1', fun f1 H6 s6 hf1 => ?_⟩
      walk_at "rd"
      refine ⟨t1, ns1, rfl, (ht14.same s5).same s6, hn1, hb1', fun f2 H7 s7 hf2 => ?_⟩
      walk_at "rd"
      refine ⟨f1, f2, _, rfl, hf1.same s7, hf2, by rw [firstL_len]; omega, ?_⟩
      refine ⟨_, rfl, iteFb rfl ?_⟩
      walk_at "rd"
      have s47 := (s5.trans s6).trans s7
      refine ⟨t2, ns2, rfl, (ht24.same s47).sq, hn2, fun H8 s8 => ?_⟩
      walk_at "rd"
      refine ⟨t2, ns2, rfl, ((ht24.same s47).same s8).sq, hn2, fun H9 s9 => ?_⟩
      walk_at "rd"
      refine ⟨_, rfl, iteFb (by rw [beq_self_eq_true]; rfl) ?_⟩
      walk_at "rd"
      dsimp only
      walk_at "rd"
      refine ⟨by show 1 ≤ sizeLine; decide, fun lz nz => ?_⟩
      walk_at "rd"
      refine ⟨lz, _, _, rfl, rfl, upd_same, by omega, by omega, ?_, fun l2 n2 => ?_⟩
      · rw [Int.toNat_natCast]
        exact Nat.le_trans (show 1 * n ≤ 3 by omega) (by decide)
      rw [rep_ints]
      refine ⟨l2, _, rfl, .inl ⟨SqL.of upd_same, fun tz ntz => ?_⟩⟩
      walk_at "rd"
      refine ⟨tz, List.replicate n 0, rfl, upd_same, by rw [List.length_replicate]; exact hn, fun a ha => by rw [List.eq_of_mem_replicate ha]; decide, fun H10 s10 => ?_⟩
      refine ⟨_, rfl, iteFb rfl ?_⟩
      walk_at "rd"
      have sZ : Same H2 H10 := (((s3.trans s4).trans s47).trans (s8.trans s9)).trans ((((Same.new0 nz).new n2).new ntz).trans s10)
      exact ⟨_, _, _, rfl, sZ _ _ hla, hBa.same sZ, hS2.same sZ⟩
    · rintro σ H' ⟨v, u, y, rfl, hl, hB, hS'⟩
      dsimp only
      walk_at "rd"
      exact q _ hB

/-! law: the cells, one by one -/
theorem ok_law (T : Txt K mg A) : FnOk P w K mg base CX0 6 A.a_law A.f_law ["_law_script"] (spLaw K) := by
  refine T.F_law.ok sc_law (fun vs H Q E h => ?_) (fun cdv A' outer s H vs Q E hr h => ⟨_, (pss_cons (ps_set (i := 1) sc_law.nd rfl (Or.inl rfl) (pe_op op_cat (pe_slice sl_list (pv 0) po_none (po_some pe_int)) (pe_op op_rep (pe_lst (pa_cons pe_int pa_nil)) (pe_callTy call_int1 (by rfl) T.n_int (by decide +kernel) (pa_cons (pe_cmpR op_eq (pe_callB call_len_seq (by rfl) T.n_len (by decide +kernel) (pa_cons (pv 0) pa_nil)) pe_int (nomark _)) pa_nil)))))
    (pss_cons (ps_for PassesOwn.never rfl (pi_range1 rfl T.n_range (pa_cons (pe_callB call_len_seq (by rfl) T.n_len (by decide +kernel) (pa_cons (pv 1) pa_nil)) pa_nil)) (pg_name (i := 2) sc_law.nd rfl (Or.inl rfl))
      (pss_one (ps_if (pt_not (pt_val (pe_call (ok_law_right T) (hr.mono (by decide)) rfl T.g_law_right T.k_law_right T.b_law_right .nil pass0 (pa_cons (pe_call (ok_law_spring T) (hr.mono (by decide)) rfl T.g_law_spring T.k_law_spring T.b_law_spring .nil pass0 (pa_cons (pe_ix ix_list (pv 1) (pv 2) (fun _ _ => rfl)) (pa_cons (pv 2) pa_nil))) pa_nil)))) (pss_one (ps_ret pe_bl)) pss_nil)))
    (pss_one (ps_ret pe_bl)))), ?_⟩)
  · obtain ⟨p, ns, rfl, _⟩ := h
    rfl
  · obtain ⟨a, ns, rfl, hS, hlen, hbits, q⟩ := h
    walk_at "rd"
    refine ⟨_, rfl, a, _, rfl, hS, fun l1 n1 => ?_⟩
    rw [show cutV (ns.map V.int) none (some 16) = (ns.take 16).map V.int from cut_ints ns 16]
    have hS1 := (Same.new0 n1 (o := .lst ((ns.take 16).map V.int))).seq hS
    walk_at "rd"
    refine ⟨by show 1 ≤ sizeLine; decide, fun l2 n2 => ?_⟩
    have hS2 := (Same.new0 n2 (o := .lst [V.int 0])).seq hS1
    walk_at "rd"
    refine ⟨a, _, rfl, .inl hS2, ?_⟩
    walk_at "rd"
    refine .inr ⟨_, rfl, ?_⟩
    have ez : (if (((List.map V.int ns).length : Nat) : Int) == 0 then (1 : Int) else 0) = if ns.length = 0 then (1 : Int) else 0 := by
      rw [List.length_map]
      by_cases h : ns.length = 0
      · rw [if_pos h, h]
        rfl
      · rw [if_neg h, if_neg (by simpa using h)]
    rw [ez]
    refine ⟨l2, _, _, rfl, rfl, upd_same, by split <;> omega, by split <;> omega, by split <;> decide, fun l3 n3 => ?_⟩
    have h13 := (Same.new0 n3 (o := .lst (List.replicate ((if ns.length = 0 then (1 : Int) else 0).toNat) [V.int 0]).flatten)) l1 _ ((Same.new0 n2 (o := .lst [V.int 0])) l1 _ upd_same)
    refine ⟨l1, l3, _, _, rfl, rfl, h13, upd_same, ?_, fun D nD => ?_⟩
    · rw [List.length_map, List.length_take]
      refine Nat.le_trans ?_ (by decide : 100 ≤ sizeLine)
      have : (List.replicate ((if ns.length = 0 then (1 : Int) else 0).toNat) [V.int 0]).flatten.length ≤ 1 := by split <;> decide
      omega
    rw [cells_v ns 16]
    have hcl := cells_len hlen 16
    walk_at "rd"
    refine ⟨_, rfl, D, _, rfl, .inl (SqL.of upd_same), ?_⟩
    rw [List.length_map]
    refine ⟨_, rfl, by omega, by omega, for_range (n := (cells ns 16).length) (fun i σ H' => ∃ v : Option V, σ = [some (.ref a), some (.ref D), v] ∧ H' D = some (.lst ((cells ns 16).map V.int))) ⟨none, rfl, upd_same⟩ ?_ ?_⟩
    · rintro i σ H' hi ⟨v, rfl, hD⟩
      walk_at "rd"
      have ha : atI ((cells ns 16).map V.int) (0 + (i : Int)) = some (.int (cells ns 16)[i]) := by
        rw [Int.zero_add]
        exact atI_nat (by rw [List.getElem?_map, List.getElem?_eq_getElem hi]; rfl)
      refine r_ixL (SqL.of hD) ha ?_
      walk_at "rd"
      refine ⟨_, _, rfl, fun p H1 np s1 hS1 => ?_⟩
      walk_at "rd"
      refine ⟨p, rfl, hS1, fun H2 hB => ⟨_, rfl, iteF ?_⟩⟩
      walk_at "rd"
      exact ⟨_, rfl, But.of_new np s1 hB _ _ hD⟩
    · rintro σ H' ⟨v, rfl, hD⟩
      dsimp only
      walk_at "rd"
      exact q _

end
theorem all_mk {l : PySem.W.OpenLaw} {w : World} {K : PySem.W.Frag} {h : Heap} {mg : Str → Option Value} {fa : Addr} (X : K.In h) (G : h.Ns mainGlobals mg) (hfa : mg "law" = some (.ref fa))
    {od0 an0 : Option Addr} {sl0 : Array (Option Value)} {oc0 kV0 dc0 pm0 cd0 ct0 : Value} {f0 : Addr}
    (a0 : PySem.W.nsIn K mainGlobals "common_divisor" = some (some (.ref f0)))
    (l0 : K.lookup f0 = some ⟨oc0, od0, .func (PySem.W.fnOf "common_divisor" "common_divisor" (defArgs s_common_divisor) (defBody s_common_divisor) (defScope s_common_divisor) .none kV0 dc0 pm0 an0 cd0 ct0), sl0⟩)
    (c0 : PySem.W.codeIn K cd0 "common_divisor" = true)
    (k0 : PySem.W.keepIn K (.ref f0) = true)
    {od1 an1 : Option Addr} {sl1 : Array (Option Value)} {oc1 kV1 dc1 pm1 cd1 ct1 : Value} {f1 : Addr}
    (a1 : PySem.W.nsIn K mainGlobals "divisor_of" = some (some (.ref f1)))
    (l1 : K.lookup f1 = some ⟨oc1, od1, .func (PySem.W.fnOf "divisor_of" "divisor_of" (defArgs s_divisor_of) (defBody s_divisor_of) (defScope s_divisor_of) .none kV1 dc1 pm1 an1 cd1 ct1), sl1⟩)
    (c1 : PySem.W.codeIn K cd1 "divisor_of" = true)
    (k1 : PySem.W.keepIn K (.ref f1) = true)
    {od2 an2 : Option Addr} {sl2 : Array (Option Value)} {oc2 kV2 dc2 pm2 cd2 ct2 : Value} {f2 : Addr}
    (a2 : PySem.W.nsIn K mainGlobals "between" = some (some (.ref f2)))
    (l2 : K.lookup f2 = some ⟨oc2, od2, .func (PySem.W.fnOf "between" "between" (defArgs s_between) (defBody s_between) (defScope s_between) .none kV2 dc2 pm2 an2 cd2 ct2), sl2⟩)
    (c2 : PySem.W.codeIn K cd2 "between" = true)
    (k2 : PySem.W.keepIn K (.ref f2) = true)
    {od3 an3 : Option Addr} {sl3 : Array (Option Value)} {oc3 kV3 dc3 pm3 cd3 ct3 : Value} {f3 : Addr}
    (a3 : PySem.W.nsIn K mainGlobals "first_post" = some (some (.ref f3)))
    (l3 : K.lookup f3 = some ⟨oc3, od3, .func (PySem.W.fnOf "first_post" "first_post" (defArgs s_first_post) (defBody s_first_post) (defScope s_first_post) .none kV3 dc3 pm3 an3 cd3 ct3), sl3⟩)
    (c3 : PySem.W.codeIn K cd3 "first_post" = true)
    (k3 : PySem.W.keepIn K (.ref f3) = true)
    {od4 an4 : Option Addr} {sl4 : Array (Option Value)} {oc4 kV4 dc4 pm4 cd4 ct4 : Value} {f4 : Addr}
    (a4 : PySem.W.nsIn K mainGlobals "_law_spring" = some (some (.ref f4)))
    (l4 : K.lookup f4 = some ⟨oc4, od4, .func (PySem.W.fnOf "_law_spring" "_law_spring" (defArgs s_law_spring) (defBody s_law_spring) (defScope s_law_spring) .none kV4 dc4 pm4 an4 cd4 ct4), sl4⟩)
    (c4 : PySem.W.codeIn K cd4 "_law_spring" = true)
    (k4 : PySem.W.keepIn K (.ref f4) = true)
    {od5 an5 : Option Addr} {sl5 : Array (Option Value)} {oc5 kV5 dc5 pm5 cd5 ct5 : Value} {f5 : Addr}
    (a5 : PySem.W.nsIn K mainGlobals "_law_sip" = some (some (.ref f5)))
    (l5 : K.lookup f5 = some ⟨oc5, od5, .func (PySem.W.fnOf "_law_sip" "_law_sip" (defArgs s_law_sip) (defBody s_law_sip) (defScope s_law_sip) .none kV5 dc5 pm5 an5 cd5 ct5), sl5⟩)
    (c5 : PySem.W.codeIn K cd5 "_law_sip" = true)
    (k5 : PySem.W.keepIn K (.ref f5) = true)
    {od6 an6 : Option Addr} {sl6 : Array (Option Value)} {oc6 kV6 dc6 pm6 cd6 ct6 : Value} {f6 : Addr}
    (a6 : PySem.W.nsIn K mainGlobals "_law_far" = some (some (.ref f6)))
    (l6 : K.lookup f6 = some ⟨oc6, od6, .func (PySem.W.fnOf "_law_far" "_law_far" (defArgs s_law_far) (defBody s_law_far) (defScope s_law_far) .none kV6 dc6 pm6 an6 cd6 ct6), sl6⟩)
    (c6 : PySem.W.codeIn K cd6 "_law_far" = true)
    (k6 : PySem.W.keepIn K (.ref f6) = true)
    {od7 an7 : Option Addr} {sl7 : Array (Option Value)} {oc7 kV7 dc7 pm7 cd7 ct7 : Value} {f7 : Addr}
    (a7 : PySem.W.nsIn K mainGlobals "_law_gcd" = some (some (.ref f7)))
    (l7 : K.lookup f7 = some ⟨oc7, od7, .func (PySem.W.fnOf "_law_gcd" "_law_gcd" (defArgs s_law_gcd) (defBody s_law_gcd) (defScope s_law_gcd) .none kV7 dc7 pm7 an7 cd7 ct7), sl7⟩)
    (c7 : PySem.W.codeIn K cd7 "_law_gcd" = true)
    (k7 : PySem.W.keepIn K (.ref f7) = true)
    {od8 an8 : Option Addr} {sl8 : Array (Option Value)} {oc8 kV8 dc8 pm8 cd8 ct8 : Value} {f8 : Addr}
    (a8 : PySem.W.nsIn K mainGlobals "_law_whole" = some (some (.ref f8)))
    (l8 : K.lookup f8 = some ⟨oc8, od8, .func (PySem.W.fnOf "_law_whole" "_law_whole" (defArgs s_law_whole) (defBody s_law_whole) (defScope s_law_whole) .none kV8 dc8 pm8 an8 cd8 ct8), sl8⟩)
    (c8 : PySem.W.codeIn K cd8 "_law_whole" = true)
    (k8 : PySem.W.keepIn K (.ref f8) = true)
    {od9 an9 : Option Addr} {sl9 : Array (Option Value)} {oc9 kV9 dc9 pm9 cd9 ct9 : Value} {f9 : Addr}
    (a9 : PySem.W.nsIn K mainGlobals "_law_is_spot" = some (some (.ref f9)))
    (l9 : K.lookup f9 = some ⟨oc9, od9, .func (PySem.W.fnOf "_law_is_spot" "_law_is_spot" (defArgs s_law_is_spot) (defBody s_law_is_spot) (defScope s_law_is_spot) .none kV9 dc9 pm9 an9 cd9 ct9), sl9⟩)
    (c9 : PySem.W.codeIn K cd9 "_law_is_spot" = true)
    (k9 : PySem.W.keepIn K (.ref f9) = true)
    {od10 an10 : Option Addr} {sl10 : Array (Option Value)} {oc10 kV10 dc10 pm10 cd10 ct10 : Value} {f10 : Addr}
    (a10 : PySem.W.nsIn K mainGlobals "_law_spot" = some (some (.ref f10)))
    (l10 : K.lookup f10 = some ⟨oc10, od10, .func (PySem.W.fnOf "_law_spot" "_law_spot" (defArgs s_law_spot) (defBody s_law_spot) (defScope s_law_spot) .none kV10 dc10 pm10 an10 cd10 ct10), sl10⟩)
    (c10 : PySem.W.codeIn K cd10 "_law_spot" = true)
    (k10 : PySem.W.keepIn K (.ref f10) = true)
    {od11 an11 : Option Addr} {sl11 : Array (Option Value)} {oc11 kV11 dc11 pm11 cd11 ct11 : Value} {f11 : Addr}
    (a11 : PySem.W.nsIn K mainGlobals "_law_near" = some (some (.ref f11)))
    (l11 : K.lookup f11 = some ⟨oc11, od11, .func (PySem.W.fnOf "_law_near" "_law_near" (defArgs s_law_near) (defBody s_law_near) (defScope s_law_near) .none kV11 dc11 pm11 an11 cd11 ct11), sl11⟩)
    (c11 : PySem.W.codeIn K cd11 "_law_near" = true)
    (k11 : PySem.W.keepIn K (.ref f11) = true)
    {od12 an12 : Option Addr} {sl12 : Array (Option Value)} {oc12 kV12 dc12 pm12 cd12 ct12 : Value} {f12 : Addr}
    (a12 : PySem.W.nsIn K mainGlobals "_law_walk" = some (some (.ref f12)))
    (l12 : K.lookup f12 = some ⟨oc12, od12, .func (PySem.W.fnOf "_law_walk" "_law_walk" (defArgs s_law_walk) (defBody s_law_walk) (defScope s_law_walk) .none kV12 dc12 pm12 an12 cd12 ct12), sl12⟩)
    (c12 : PySem.W.codeIn K cd12 "_law_walk" = true)
    (k12 : PySem.W.keepIn K (.ref f12) = true)
    {od13 an13 : Option Addr} {sl13 : Array (Option Value)} {oc13 kV13 dc13 pm13 cd13 ct13 : Value} {f13 : Addr}
    (a13 : PySem.W.nsIn K mainGlobals "_law_near_right" = some (some (.ref f13)))
    (l13 : K.lookup f13 = some ⟨oc13, od13, .func (PySem.W.fnOf "_law_near_right" "_law_near_right" (defArgs s_law_near_right) (defBody s_law_near_right) (defScope s_law_near_right) .none kV13 dc13 pm13 an13 cd13 ct13), sl13⟩)
    (c13 : PySem.W.codeIn K cd13 "_law_near_right" = true)
    (k13 : PySem.W.keepIn K (.ref f13) = true)
    {od14 an14 : Option Addr} {sl14 : Array (Option Value)} {oc14 kV14 dc14 pm14 cd14 ct14 : Value} {f14 : Addr}
    (a14 : PySem.W.nsIn K mainGlobals "_law_far_right" = some (some (.ref f14)))
    (l14 : K.lookup f14 = some ⟨oc14, od14, .func (PySem.W.fnOf "_law_far_right" "_law_far_right" (defArgs s_law_far_right) (defBody s_law_far_right) (defScope s_law_far_right) .none kV14 dc14 pm14 an14 cd14 ct14), sl14⟩)
    (c14 : PySem.W.codeIn K cd14 "_law_far_right" = true)
    (k14 : PySem.W.keepIn K (.ref f14) = true)
    {od15 an15 : Option Addr} {sl15 : Array (Option Value)} {oc15 kV15 dc15 pm15 cd15 ct15 : Value} {f15 : Addr}
    (a15 : PySem.W.nsIn K mainGlobals "_law_right" = some (some (.ref f15)))
    (l15 : K.lookup f15 = some ⟨oc15, od15, .func (PySem.W.fnOf "_law_right" "_law_right" (defArgs s_law_right) (defBody s_law_right) (defScope s_law_right) .none kV15 dc15 pm15 an15 cd15 ct15), sl15⟩)
    (c15 : PySem.W.codeIn K cd15 "_law_right" = true)
    (k15 : PySem.W.keepIn K (.ref f15) = true)
    {od16 an16 : Option Addr} {sl16 : Array (Option Value)} {oc16 kV16 dc16 pm16 cd16 ct16 : Value} {f16 : Addr}
    (a16 : PySem.W.nsIn K mainGlobals "law" = some (some (.ref f16)))
    (l16 : K.lookup f16 = some ⟨oc16, od16, .func (PySem.W.fnOf "law" "law" (defArgs s_law) (defBody s_law) (defScope s_law) .none kV16 dc16 pm16 an16 cd16 ct16), sl16⟩)
    (c16 : PySem.W.codeIn K cd16 "law" = true)
    (k16 : PySem.W.keepIn K (.ref f16) = true)
    (z_bool : PySem.W.nsIn K mainGlobals "bool" = some none)
    (z_gcd : PySem.W.nsIn K mainGlobals "gcd" = some (some (.builtin "math.gcd")))
    (z_int : PySem.W.nsIn K mainGlobals "int" = some none)
    (z_isinstance : PySem.W.nsIn K mainGlobals "isinstance" = some none)
    (z_len : PySem.W.nsIn K mainGlobals "len" = some none)
    (z_max : PySem.W.nsIn K mainGlobals "max" = some none)
    (z_range : PySem.W.nsIn K mainGlobals "range" = some none)
    (z_tuple : PySem.W.nsIn K mainGlobals "tuple" = some none)
    : ∃ fd : FuncData, (∀ (s : Shared) (v : Value), BindsTo s fd ⟨[v], []⟩ [("_law_script", v)]) ∧ ∀ base : Heap, K.In base → base.Ns mainGlobals mg → FnOk l.prog w K mg base CX0 6 fa fd ["_law_script"] (spLaw K) := by
  have e := hfa.symm.trans (PySem.W.mg_of X G a16)
  cases e
  have F0 := fun_mk (st := s_common_divisor) l0 c0 k0
  have b0 := F0.binds (ps := ["place"]) fun _ _ _ _ _ _ us hl => match us, hl with | [_], _ => rfl
  have F1 := fun_mk (st := s_divisor_of) l1 c1 k1
  have b1 := F1.binds (ps := ["place"]) fun _ _ _ _ _ _ us hl => match us, hl with | [_], _ => rfl
  have F2 := fun_mk (st := s_between) l2 c2 k2
  have b2 := F2.binds (ps := ["place"]) fun _ _ _ _ _ _ us hl => match us, hl with | [_], _ => rfl
  have F3 := fun_mk (st := s_first_post) l3 c3 k3
  have b3 := F3.binds (ps := ["place"]) fun _ _ _ _ _ _ us hl => match us, hl with | [_], _ => rfl
  have F4 := fun_mk (st := s_law_spring) l4 c4 k4
  have b4 := F4.binds (ps := ["_law_cell", "_law_k"]) fun _ _ _ _ _ _ us hl => match us, hl with | [_, _], _ => rfl
  have F5 := fun_mk (st := s_law_sip) l5 c5 k5
  have b5 := F5.binds (ps := ["_law_spring_here", "_law_many"]) fun _ _ _ _ _ _ us hl => match us, hl with | [_, _], _ => rfl
  have F6 := fun_mk (st := s_law_far) l6 c6 k6
  have b6 := F6.binds (ps := ["_law_spring_here", "_law_wide"]) fun _ _ _ _ _ _ us hl => match us, hl with | [_, _], _ => rfl
  have F7 := fun_mk (st := s_law_gcd) l7 c7 k7
  have b7 := F7.binds (ps := ["_law_values"]) fun _ _ _ _ _ _ us hl => match us, hl with | [_], _ => rfl
  have F8 := fun_mk (st := s_law_whole) l8 c8 k8
  have b8 := F8.binds (ps := ["_law_found"]) fun _ _ _ _ _ _ us hl => match us, hl with | [_], _ => rfl
  have F9 := fun_mk (st := s_law_is_spot) l9 c9 k9
  have b9 := F9.binds (ps := ["_law_found", "_law_due"]) fun _ _ _ _ _ _ us hl => match us, hl with | [_, _], _ => rfl
  have F10 := fun_mk (st := s_law_spot) l10 c10 k10
  have b10 := F10.binds (ps := ["_law_spring_here", "_law_size"]) fun _ _ _ _ _ _ us hl => match us, hl with | [_, _], _ => rfl
  have F11 := fun_mk (st := s_law_near) l11 c11 k11
  have b11 := F11.binds (ps := ["_law_spring_here", "_law_size"]) fun _ _ _ _ _ _ us hl => match us, hl with | [_, _], _ => rfl
  have F12 := fun_mk (st := s_law_walk) l12 c12 k12
  have b12 := F12.binds (ps := ["_law_spot_here"]) fun _ _ _ _ _ _ us hl => match us, hl with | [_], _ => rfl
  have F13 := fun_mk (st := s_law_near_right) l13 c13 k13
  have b13 := F13.binds (ps := ["_law_spot_here"]) fun _ _ _ _ _ _ us hl => match us, hl with | [_], _ => rfl
  have F14 := fun_mk (st := s_law_far_right) l14 c14 k14
  have b14 := F14.binds (ps := ["_law_spot_here"]) fun _ _ _ _ _ _ us hl => match us, hl with | [_], _ => rfl
  have F15 := fun_mk (st := s_law_right) l15 c15 k15
  have b15 := F15.binds (ps := ["_law_spring_here"]) fun _ _ _ _ _ _ us hl => match us, hl with | [_], _ => rfl
  have F16 := fun_mk (st := s_law) l16 c16 k16
  have b16 := F16.binds (ps := ["_law_script"]) fun _ _ _ _ _ _ us hl => match us, hl with | [_], _ => rfl
  have kb_between : KBinds K (PySem.W.fnOf "between" "between" (defArgs s_between) (defBody s_between) (defScope s_between) .none kV2 dc2 pm2 an2 cd2 ct2) ["place"] ["place"] kwG kwG := ⟨fun _ us ws _ hl => match us, ws, hl with | [], [_], _ => .of_eq rfl, fun h k => kwG_rel h k⟩
  have kb_first_post : KBinds K (PySem.W.fnOf "first_post" "first_post" (defArgs s_first_post) (defBody s_first_post) (defScope s_first_post) .none kV3 dc3 pm3 an3 cd3 ct3) ["place"] ["place"] kwG kwG := ⟨fun _ us ws _ hl => match us, ws, hl with | [], [_], _ => .of_eq rfl, fun h k => kwG_rel h k⟩
  let A : Ad := { a_common_divisor := f0, f_common_divisor := PySem.W.fnOf "common_divisor" "common_divisor" (defArgs s_common_divisor) (defBody s_common_divisor) (defScope s_common_divisor) .none kV0 dc0 pm0 an0 cd0 ct0, a_divisor_of := f1, f_divisor_of := PySem.W.fnOf "divisor_of" "divisor_of" (defArgs s_divisor_of) (defBody s_divisor_of) (defScope s_divisor_of) .none kV1 dc1 pm1 an1 cd1 ct1, a_between := f2, f_between := PySem.W.fnOf "between" "between" (defArgs s_between) (defBody s_between) (defScope s_between) .none kV2 dc2 pm2 an2 cd2 ct2, a_first_post := f3, f_first_post := PySem.W.fnOf "first_post" "first_post" (defArgs s_first_post) (defBody s_first_post) (defScope s_first_post) .none kV3 dc3 pm3 an3 cd3 ct3, a_law_spring := f4, f_law_spring := PySem.W.fnOf "_law_spring" "_law_spring" (defArgs s_law_spring) (defBody s_law_spring) (defScope s_law_spring) .none kV4 dc4 pm4 an4 cd4 ct4, a_law_sip := f5, f_law_sip := PySem.W.fnOf "_law_sip" "_law_sip" (defArgs s_law_sip) (defBody s_law_sip) (defScope s_law_sip) .none kV5 dc5 pm5 an5 cd5 ct5, a_law_far := f6, f_law_far := PySem.W.fnOf "_law_far" "_law_far" (defArgs s_law_far) (defBody s_law_far) (defScope s_law_far) .none kV6 dc6 pm6 an6 cd6 ct6, a_law_gcd := f7, f_law_gcd := PySem.W.fnOf "_law_gcd" "_law_gcd" (defArgs s_law_gcd) (defBody s_law_gcd) (defScope s_law_gcd) .none kV7 dc7 pm7 an7 cd7 ct7, a_law_whole := f8, f_law_whole := PySem.W.fnOf "_law_whole" "_law_whole" (defArgs s_law_whole) (defBody s_law_whole) (defScope s_law_whole) .none kV8 dc8 pm8 an8 cd8 ct8, a_law_is_spot := f9, f_law_is_spot := PySem.W.fnOf "_law_is_spot" "_law_is_spot" (defArgs s_law_is_spot) (defBody s_law_is_spot) (defScope s_law_is_spot) .none kV9 dc9 pm9 an9 cd9 ct9, a_law_spot := f10, f_law_spot := PySem.W.fnOf "_law_spot" "_law_spot" (defArgs s_law_spot) (defBody s_law_spot) (defScope s_law_spot) .none kV10 dc10 pm10 an10 cd10 ct10, a_law_near := f11, f_law_near := PySem.W.fnOf "_law_near" "_law_near" (defArgs s_law_near) (defBody s_law_near) (defScope s_law_near) .none kV11 dc11 pm11 an11 cd11 ct11, a_law_walk := f12, f_law_walk := PySem.W.fnOf "_law_walk" "_law_walk" (defArgs s_law_walk) (defBody s_law_walk) (defScope s_law_walk) .none kV12 dc12 pm12 an12 cd12 ct12, a_law_near_right := f13, f_law_near_right := PySem.W.fnOf "_law_near_right" "_law_near_right" (defArgs s_law_near_right) (defBody s_law_near_right) (defScope s_law_near_right) .none kV13 dc13 pm13 an13 cd13 ct13, a_law_far_right := f14, f_law_far_right := PySem.W.fnOf "_law_far_right" "_law_far_right" (defArgs s_law_far_right) (defBody s_law_far_right) (defScope s_law_far_right) .none kV14 dc14 pm14 an14 cd14 ct14, a_law_right := f15, f_law_right := PySem.W.fnOf "_law_right" "_law_right" (defArgs s_law_right) (defBody s_law_right) (defScope s_law_right) .none kV15 dc15 pm15 an15 cd15 ct15, a_law := fa, f_law := PySem.W.fnOf "law" "law" (defArgs s_law) (defBody s_law) (defScope s_law) .none kV16 dc16 pm16 an16 cd16 ct16 }
  have T : Txt K mg A := {
    g_common_divisor := PySem.W.mg_of X G a0, k_common_divisor := k0, F_common_divisor := F0, b_common_divisor := b0,
    g_divisor_of := PySem.W.mg_of X G a1, k_divisor_of := k1, F_divisor_of := F1, b_divisor_of := b1,
    g_between := PySem.W.mg_of X G a2, k_between := k2, F_between := F2, b_between := b2,
    g_first_post := PySem.W.mg_of X G a3, k_first_post := k3, F_first_post := F3, b_first_post := b3,
    g_law_spring := PySem.W.mg_of X G a4, k_law_spring := k4, F_law_spring := F4, b_law_spring := b4,
    g_law_sip := PySem.W.mg_of X G a5, k_law_sip := k5, F_law_sip := F5, b_law_sip := b5,
    g_law_far := PySem.W.mg_of X G a6, k_law_far := k6, F_law_far := F6, b_law_far := b6,
    g_law_gcd := PySem.W.mg_of X G a7, k_law_gcd := k7, F_law_gcd := F7, b_law_gcd := b7,
    g_law_whole := PySem.W.mg_of X G a8, k_law_whole := k8, F_law_whole := F8, b_law_whole := b8,
    g_law_is_spot := PySem.W.mg_of X G a9, k_law_is_spot := k9, F_law_is_spot := F9, b_law_is_spot := b9,
    g_law_spot := PySem.W.mg_of X G a10, k_law_spot := k10, F_law_spot := F10, b_law_spot := b10,
    g_law_near := PySem.W.mg_of X G a11, k_law_near := k11, F_law_near := F11, b_law_near := b11,
    g_law_walk := PySem.W.mg_of X G a12, k_law_walk := k12, F_law_walk := F12, b_law_walk := b12,
    g_law_near_right := PySem.W.mg_of X G a13, k_law_near_right := k13, F_law_near_right := F13, b_law_near_right := b13,
    g_law_far_right := PySem.W.mg_of X G a14, k_law_far_right := k14, F_law_far_right := F14, b_law_far_right := b14,
    g_law_right := PySem.W.mg_of X G a15, k_law_right := k15, F_law_right := F15, b_law_right := b15,
    g_law := PySem.W.mg_of X G a16, k_law := k16, F_law := F16, b_law := b16,
    kb_between := kb_between,
    kb_first_post := kb_first_post,
    n_bool := PySem.W.mg_none_of X G z_bool,
    m_gcd := PySem.W.mg_of X G z_gcd,
    n_int := PySem.W.mg_none_of X G z_int,
    n_isinstance := PySem.W.mg_none_of X G z_isinstance,
    n_len := PySem.W.mg_none_of X G z_len,
    n_max := PySem.W.mg_none_of X G z_max,
    n_range := PySem.W.mg_none_of X G z_range,
    n_tuple := PySem.W.mg_none_of X G z_tuple }
  exact ⟨A.f_law, fun s v => .of_eq rfl, fun base _ _ => ok_law T⟩
theorem walk {l : PySem.W.OpenLaw} {q : Program} {loose : List Str} {XP : (Str → Option Value) → Heap → Prop} {YP : World → Heap → Prop} {d : DefRec} {K : Params → PySem.W.Frag} (hn : l.most = some 63) (hdf : d.params.defaults = [])
    (hY : ∀ (w : World) (h : Heap), YP w h → (K w.params).In h)
    (F : ∀ (w : World) (mg : Str → Option Value) (fa : Addr) (h : Heap), (K w.params).In h → h.Ns mainGlobals mg → mg d.name = some (.ref fa) →
      ∃ fd : FuncData, (∀ (s : Shared) (u : Value), BindsTo s fd ⟨[u], []⟩ [("_law_script", u)]) ∧ ∀ base : Heap, (K w.params).In base → base.Ns mainGlobals mg → FnOk l.prog w (K w.params) mg base CX0 6 fa fd ["_law_script"] (spLaw (K w.params))) :
    PySem.W.WalkO q loose XP YP l.row.toRowW d [] (fun f vs => PySem.call f vs) :=
  L2.walk_ofB (n := 63) (k := 6) (x := "_law_script") (CX := fun _ => CX0) (sp := fun w => spLaw (K w.params)) hn (by decide) hdf ⟨rfl, by decide, by decide⟩ hY F (fun _ _ a ns hl hb _ hS => ⟨a, ns, rfl, hS, hl, hb, fun _ => rfl⟩) fun _ _ _ _ _ z => z
end K02
open PySem PySem.W PyProof.Rows
set_option maxRecDepth 100000 in
set_option maxHeartbeats 0 in
theorem PySem.Challenge.cw_seenposts_k02_posts_between_holds : PySem.Challenge.rw_seenposts_k02_posts_between.Holds := by
  w_on; o_law; k_head; (case hw => w_witness2)
  k_fill
  refine K02.walk (l := PySem.Challenge.rw_seenposts_k02_posts_between) rfl rfl (fun w h Y => PySem.W.kIn_of Y) ?F
  case F =>
    intro w mg fa h KX G hmg
    refine' K02.all_mk KX G hmg ?a0 ?l0 ?c0 ?k0 ?a1 ?l1 ?c1 ?k1 ?a2 ?l2 ?c2 ?k2 ?a3 ?l3 ?c3 ?k3 ?a4 ?l4 ?c4 ?k4 ?a5 ?l5 ?c5 ?k5 ?a6 ?l6 ?c6 ?k6 ?a7 ?l7 ?c7 ?k7 ?a8 ?l8 ?c8 ?k8 ?a9 ?l9 ?c9 ?k9 ?a10 ?l10 ?c10 ?k10 ?a11 ?l11 ?c11 ?k11 ?a12 ?l12 ?c12 ?k12 ?a13 ?l13 ?c13 ?k13 ?a14 ?l14 ?c14 ?k14 ?a15 ?l15 ?c15 ?k15 ?a16 ?l16 ?c16 ?k16 ?z_bool ?z_gcd ?z_int ?z_isinstance ?z_len ?z_max ?z_range ?z_tuple
    (case a0 => k_is)
    (case l0 => k_is)
    (case c0 => k_is)
    (case k0 => k_is)
    (case a1 => k_is)
    (case l1 => k_is)
    (case c1 => k_is)
    (case k1 => k_is)
    (case a2 => k_is)
    (case l2 => k_is)
    (case c2 => k_is)
    (case k2 => k_is)
    (case a3 => k_is)
    (case l3 => k_is)
    (case c3 => k_is)
    (case k3 => k_is)
    (case a4 => k_is)
    (case l4 => k_is)
    (case c4 => k_is)
    (case k4 => k_is)
    (case a5 => k_is)
    (case l5 => k_is)
    (case c5 => k_is)
    (case k5 => k_is)
    (case a6 => k_is)
    (case l6 => k_is)
    (case c6 => k_is)
    (case k6 => k_is)
    (case a7 => k_is)
    (case l7 => k_is)
    (case c7 => k_is)
    (case k7 => k_is)
    (case a8 => k_is)
    (case l8 => k_is)
    (case c8 => k_is)
    (case k8 => k_is)
    (case a9 => k_is)
    (case l9 => k_is)
    (case c9 => k_is)
    (case k9 => k_is)
    (case a10 => k_is)
    (case l10 => k_is)
    (case c10 => k_is)
    (case k10 => k_is)
    (case a11 => k_is)
    (case l11 => k_is)
    (case c11 => k_is)
    (case k11 => k_is)
    (case a12 => k_is)
    (case l12 => k_is)
    (case c12 => k_is)
    (case k12 => k_is)
    (case a13 => k_is)
    (case l13 => k_is)
    (case c13 => k_is)
    (case k13 => k_is)
    (case a14 => k_is)
    (case l14 => k_is)
    (case c14 => k_is)
    (case k14 => k_is)
    (case a15 => k_is)
    (case l15 => k_is)
    (case c15 => k_is)
    (case k15 => k_is)
    (case a16 => k_is)
    (case l16 => k_is)
    (case c16 => k_is)
    (case k16 => k_is)
    (case z_bool => k_is)
    (case z_gcd => k_is)
    (case z_int => k_is)
    (case z_isinstance => k_is)
    (case z_len => k_is)
    (case z_max => k_is)
    (case z_range => k_is)
    (case z_tuple => k_is)
#print axioms PySem.Challenge.cw_seenposts_k02_posts_between_holds

