import PyProof.Rows.All
import Wide.All
import OpenK.AllK
import Wide.FinOn
import HandS.Base
import HandS.Call
import HandS.List
import HandS.Comp
import HandS.Ends
import KE.KRevSl
import HandS.ForMost
import HandS.EndBits
import HandS.IsInst
import HandS.Wide
import HandS.Gcd
import HandS.Style
import HandS.TupAny
import HandS.Evl
import PySem.Challenge.RW_seenposts_k05_whole_posts_in_a_row
set_option Elab.async false
set_option linter.all false
set_option maxRecDepth 100000
set_option maxHeartbeats 4000000
/-! rules of our own -/
namespace HT
open PySem PySem.W PySem.Calls PyProof.Rows
section
variable {prog : Program} {w : World} {A : Around} {E : Value → Shared → Prop} {s : Shared}
theorem adjust_rev (n : Nat) : Builtin.Slice.sliceAdjust none none (-1) (n : Int) = ((n : Int) - 1, -1) := by
  unfold Builtin.Slice.sliceAdjust
  rfl
theorem places_rev (n : Nat) : Builtin.Slice.slicePlaces ((n : Int) - 1) (-1) (-1) = n := by
  unfold Builtin.Slice.slicePlaces
  have h1 : ¬ ((-1 : Int) > 0) := by decide
  have e1 : (- -1 : Int) = 1 := by decide
  simp only [h1, if_false, e1, Int.ediv_one]
  split <;> omega
theorem sliceApplied_rev {sl : Addr} {vs : Value} {n : Nat} {Q : Int × Int × Nat → Shared → Prop} (hs : s.heap.IsSliceOf sl .none .none vs) (ps : IsPart vs (some (-1)))
    (h : Q ((n : Int) - 1, -1, n) s) : wpAny (model prog w) A (Builtin.Slice.sliceApplied (.ref sl) (pure (n : Int))) Q E s := by
  obtain ⟨os, hos, hcs, hds⟩ := id hs
  unfold Builtin.Slice.sliceApplied Builtin.Slice.sliceFields
  refine wpAny_bind (wpAny_bind (wpAny_field hos hds (x := .none) rfl (wpAny_bind (wpAny_field hos hds (x := .none) rfl (wpAny_bind (wpAny_field hos hds (x := vs) rfl (wpAny_pure ?_)))))))
  refine wpAny_bind (slicePart_ ps ?_)
  show wpAny _ _ (if ((-1 : Int) == 0) = true then _ else _) _ _ s
  rw [if_neg (by decide)]
  refine wpAny_bind (slicePart_none (wpAny_bind (slicePart_none (wpAny_bind (wpAny_pure ?_)))))
  show wpAny _ _ (match Builtin.Slice.sliceAdjust none none (-1) (n : Int) with | (lo, hi) => pure (lo, (-1 : Int), Builtin.Slice.slicePlaces lo hi (-1))) _ _ s
  rw [adjust_rev n]
  show wpAny _ _ (pure ((n : Int) - 1, (-1 : Int), Builtin.Slice.slicePlaces ((n : Int) - 1) (-1) (-1))) _ _ s
  rw [places_rev]
  exact wpAny_pure h
theorem fm_congr {α β : Type} {f g : α → Option β} : ∀ (l : List α), (∀ a ∈ l, f a = g a) → l.filterMap f = l.filterMap g
  | [], _ => rfl
  | a :: r, h => by
    rw [List.filterMap_cons, List.filterMap_cons, h a List.mem_cons_self, fm_congr r fun b hb => h b (List.mem_cons_of_mem _ hb)]
theorem pick_rev (xs : Array Value) : ((List.range xs.size).filterMap fun (m : Nat) => xs[((xs.size : Int) - 1 + (m : Int) * (-1)).toNat]?).toArray = xs.toList.reverse.toArray := by
  rw [← krv_pick xs]
  unfold slicePick
  rw [krv_bounds]
  show _ = ((sliceRange ((xs.size : Int) - 1) (-1) (-1)).filterMap (xs[·]?)).toArray
  rw [krv_sliceRange, List.filterMap_map]
  refine congrArg List.toArray (fm_congr _ fun m hm => ?_)
  have := List.mem_range.mp hm
  show xs[((xs.size : Int) - 1 + (m : Int) * (-1)).toNat]? = xs[xs.size - 1 - m]?
  have e : ((xs.size : Int) - 1 + (m : Int) * (-1)).toNat = xs.size - 1 - m := by omega
  rw [e]
theorem getItem_tuple_rev {t sl : Addr} {items : Array Value} {vs : Value} {Q : Value → Shared → Prop} (ht : IsTup s.heap t items) (hs : s.heap.IsSliceOf sl .none .none vs) (ps : IsPart vs (some (-1)))
    (h : Q (.ref s.heap.objs.size) { s with heap := s.heap.push { cls := .type "tuple", data := .seq items.toList.reverse.toArray } })
    (hsz : items.size ≤ sizeLine) : wpAny (model prog w) A (getItem (.ref t) (.ref sl)) Q E s := by
  have htake : sizeOk (.seq items.toList.reverse.toArray) := by
    show items.toList.reverse.toArray.size ≤ sizeLine
    rw [List.size_toArray, List.length_reverse, Array.length_toList]
    exact hsz
  obtain ⟨os, hos, hcs, hds⟩ := id hs
  have hTs : s.TypeIs (.ref sl) "slice" := ⟨os, hos, hcs⟩
  unfold getItem
  try with_reducible refine wpAny_holding ?_
  first | refine wpAny_bind (wpAny_pure ?_) | skip
  refine wpAny_bind (wpAny_sequenceKey ht.typeIs (by decide) ?_)
  refine wpAny_bind (wpAny_callSpecial?_slot (name := Str.ofString "__getitem__") ht.typeIs PyProof.Rows.slot_tuple_getitem
    (wpAny_call_entry PyProof.Rows.slot_tuple_getitem ht.typeIs entry_tuple_getitem ?_ (args_tuple_getitem _ _)))
  show wpAny _ _ (Builtin.Tuple.tupleItemsOf (.ref t) >>= _) _ _ s
  refine wpAny_bind (tupleItemsOf_ ht ?_)
  refine wpAny_bind (wpAny_typeOf hTs ?_)
  rw [if_pos (by decide)]
  refine wpAny_bind (sliceApplied_rev hs ps ?_)
  have hno : ¬ ((((items.size : Int) - 1) == 0 && (-1 : Int) == 1 && items.size == items.size) = true) := by
    intro q
    rw [Bool.and_eq_true, Bool.and_eq_true] at q
    exact absurd q.1.2 (by decide)
  show wpAny _ _ (if (((items.size : Int) - 1) == 0 && (-1 : Int) == 1 && items.size == items.size) = true then _ else _) _ _ s
  rw [if_neg hno, pick_rev]
  first
    | exact wpAny_bind (m := Builtin.Tuple.tupleExact _) (wpAny_newObj_type (wpAny_pure ⟨_, rfl, wpAny_pure h⟩) htake)
    | exact wpAny_bind (m := Builtin.Tuple.tupleExact _) (wpAny_newObj_type (wpAny_bind (wpAny_pure (wpAny_pure ⟨_, rfl, wpAny_pure h⟩))) htake)
    | exact wpAny_bind (wpAny_bind (m := Builtin.Tuple.tupleExact _) (wpAny_newObj_type (wpAny_pure (wpAny_pure ⟨_, rfl, wpAny_pure h⟩)) htake))
    | exact wpAny_bind (wpAny_bind (m := Builtin.Tuple.tupleExact _) (wpAny_newObj_type (wpAny_pure ⟨_, rfl, wpAny_pure h⟩) htake))
end
end HT
namespace L2
open PySem PySem.Spec PyProof.Rows
section
variable {X : Cx}
/-- t[::-1] of a tuple -/
def tRevT (K : PySem.W.Frag) (te : TE) : TE := fun σ H Q => te σ H fun x H1 => ∃ a xs, x = .ref a ∧ SqT K H1 a xs ∧ ∀ p, H1 p = none → Q (.ref p) (upd H1 p (.tup xs.reverse))
theorem pe_revT {e : Expr} {te : TE} {k : Nat} {p1 p2 p3 pos : Pos} (he : PE X e te) : PE X (.Subscript e (.Slice none none (some (.UnaryOp .USub (.Constant (.int 1) k p1) p2)) p3) pos) (tRevT X.K te) := by
  refine ⟨fun pins s σ H Q I h => ?_⟩
  refine Subscript_ (thn (he.run pins s σ H _ I h) fun v s1 ⟨x, H1, I1, r1, q1⟩ => ?_)
  obtain ⟨a, xs, ex, hx, q⟩ := q1
  subst ex
  cases r1
  have hst : PO X (some (.UnaryOp .USub (.Constant (.int 1) k p1) p2)) (tPart (tUn (rU fun i => .int (-i)) (tC (.int 1)))) := po_some (pe_un un_neg pe_int)
  refine wpAny_Slice (thn (po_none.run pins s1 σ H1 (fun o H2 => o = none ∧ H2 = H1) I1 ⟨rfl, rfl⟩) fun vl s2 ⟨l, H2, I2, pl, el, e2⟩ => ?_)
  subst el e2
  refine thn (po_none.run pins s2 σ H2 (fun o H3 => o = none ∧ H3 = H2) I2 ⟨rfl, rfl⟩) fun vu s3 ⟨u, H3, I3, pu, eu, e3⟩ => ?_
  subst eu e3
  refine thn (hst.run pins s3 σ H3 (fun o H4 => o = some (-1) ∧ H4 = H3) I3 ⟨1, rfl, -1, rfl, rfl, rfl⟩) fun vs s4 ⟨o, H4, I4, ps, eo, e4⟩ => ?_
  subst eo e4
  have I5 : Inv X pins σ H4 { s4 with heap := s4.heap.push { cls := .type "slice", data := .fields #[vl, vu, vs] } } := I4.kept (t' := s4.toks) fun b ob q => Heap.get?_push_of_some _ q
  obtain ⟨its, r, ht, hz⟩ := I5.tuple hx
  have hlen := r.length
  show wpAny (model X.prog X.w) X.A (subscriptTail e (.Slice none none (some (.UnaryOp .USub (.Constant (.int 1) k p1) p2)) p3) (.ref a) (.ref s4.heap.objs.size)) (EP X pins σ Q) X.xe { s4 with heap := s4.heap.push { cls := .type "slice", data := .fields #[vl, vu, vs] } }
  refine tail_any (ops := [.ref a, .ref s4.heap.objs.size]) ht.typeIs (PyProof.Rows.slot_tuple_getitem.lookup) ?_ (by with_unfolding_all rfl)
  cases pl
  cases pu
  refine HT.getItem_tuple_rev ht (Heap.IsSliceOf.new _ .none .none vs) ps ?_ (by rw [List.size_toArray, ← hlen]; exact hz)
  have e : (its.toArray.toList.reverse.toArray) = its.reverse.toArray := by simp
  rw [e]
  refine ⟨.ref _, _, I5.laid (t' := s4.toks) (o := .tup xs.reverse) (fun b ob q => Heap.get?_push_of_some _ q) (Nat.le_refl _) ?_, rfl, q _ (I5.hok.fresh (Nat.le_refl _))⟩
  exact ⟨by rw [List.length_reverse]; exact hz, _, r.reverse, IsTup.new _ _⟩
/-- f(k = v, ..): keywords alone -/
theorem pe_callK0 {CX : CXT} {k : Nat} {f : Addr} {fd : FuncData} {ps ks : List Str} {sp : Sp} {E : XK} {x : Str} {p pos : Pos} {kws : List Keyword} {tk : TA} {g : List Value → List Value → List Value} {gV : List V → List V → List V}
    (F : FnOk X.prog X.w X.K X.mg X.base CX k f fd ps sp) (hr : Room k X.A) (hg : Gl X x) (hm : X.mg x = some (.ref f)) (hk : PySem.W.keepIn X.K (.ref f) = true) (hb : KBinds X.K fd ps ks g gV) (hx : Passes CX X E)
    (hkw : PK X kws tk) (hall : (backToKw pos (keywordEach kws X.env)).all (·.1.isSome) = true := by rfl) (hks : (backToKw pos (keywordEach kws X.env)).filterMap (·.1) = ks := by rfl)
    (hdb : (x == ("__debug__" : Str)) = false := by decide)
    (hpl : ((backTo pos (starEach [] X.env)).any (·.1) || (backToKw pos (keywordEach kws X.env)).any (·.1.isNone)) = false := by rfl) :
    PE X (.Call (.Name x p) [] kws pos) (tCallK sp gV E tNil tk) := by
  refine ⟨fun pins s σ H Q I h => ?_⟩
  refine wpAny_Call_Name_kw (ld_glob I hg hm ?_ hdb)
  refine PySem.W.callWith_KW0 (h₀ := X.base) I.ok.mod.kin hk hall ?_ hpl
  refine thn (hkw.run pos pins s σ H _ I h) fun ws s2 ⟨zs, H2, I2, rz, q2⟩ => ⟨I2.kIn, ?_⟩
  rw [hks]
  exact run_fnk F hr hb hx I2 .nil rz q2
end
end L2

/-! readings, step by step -/
namespace L2
open PySem PySem.Spec PyProof.Rows
section
variable {σ : St} {H : Hp} {Q : VK} {v x y : V} {te ta tb : TE} {tA tB' : TA} {t u : TT} {D : Ends} {t1 t2 : TS} {i : Nat} {a b : Int}
theorem r_var (h : σ[i]? = some (some v)) (k : Q v H) : tVar i σ H Q := ⟨v, h, k⟩
theorem r_c (k : Q v H) : tC v σ H Q := k
theorem r_op {r : R2} (k : ta σ H fun x H1 => tb σ H1 fun y H2 => r x y H2 Q) : tOp r ta tb σ H Q := k
theorem r_un {r : V → Hp → VK → Prop} (k : ta σ H fun x H1 => r x H1 Q) : tUn r ta σ H Q := k
theorem r_cb {r : List V → Hp → VK → Prop} (k : tA σ H fun vs H1 => r vs H1 Q) : tCB r tA σ H Q := k
theorem r_call {sp : Sp} {dvs : List V} {E : XK} (k : tA σ H fun vs H1 => sp (vs ++ dvs) H1 Q E) : tCall sp dvs E tA σ H Q := k
theorem r_cons {QA : List V → Hp → Prop} (k : ta σ H fun x H1 => tA σ H1 fun xs H2 => QA (x :: xs) H2) : tCons ta tA σ H QA := k
theorem r_nil {QA : List V → Hp → Prop} (k : QA [] H) : tNil σ H QA := k
theorem r_tup (k : tA σ H fun xs H1 => xs.length ≤ sizeLine ∧ ∀ p, H1 p = none → Q (.ref p) (upd H1 p (.tup xs))) : tTup tA σ H Q := k
theorem r_lst (k : tA σ H fun xs H1 => xs.length ≤ sizeLine ∧ ∀ p, H1 p = none → Q (.ref p) (upd H1 p (.lst xs))) : tLst tA σ H Q := k
theorem r_I0 {g : Int → Int → V} (k : Q (g a b) H) : rI0 g (.int a) (.int b) H Q := ⟨a, b, rfl, rfl, k⟩
theorem r_I {C : Int → Int → Prop} {g : Int → Int → V} (c : C a b) (k : Q (g a b) H) : rI C g (.int a) (.int b) H Q := ⟨a, b, rfl, rfl, c, k⟩
theorem r_eq (c : scal x y = true) (k : Q (.bl (decide (x = y))) H) : rEq x y H Q := ⟨c, k⟩
theorem r_ne (c : scal x y = true) (k : Q (.bl (!decide (x = y))) H) : rNe x y H Q := ⟨c, k⟩
theorem r_eqI (k : Q (.bl (a == b)) H) : rEq (.int a) (.int b) H Q := ⟨rfl, by rw [dec_int]; exact k⟩
theorem r_neI (k : Q (.bl (!(a == b))) H) : rNe (.int a) (.int b) H Q := ⟨rfl, by rw [dec_int]; exact k⟩
theorem r_eqB {a b : Bool} (k : Q (.bl (a == b)) H) : rEq (.bl a) (.bl b) H Q := ⟨rfl, by rw [dec_bl]; exact k⟩
theorem r_test {Qb : Bool → Hp → Prop} (k : te σ H fun x H' => ∃ k, x = .bl k ∧ Qb k H') : tTest te σ H Qb := k
theorem r_B {Qb : Bool → Hp → Prop} (k : te σ H fun x H' => ∃ k, x = .bl k ∧ Qb k H') : tB te σ H Qb := k
theorem r_not {Qb : Bool → Hp → Prop} (k : t σ H fun c H1 => Qb (!c) H1) : tNot t σ H Qb := k
theorem r_and {Qb : Bool → Hp → Prop} (k : t σ H fun c H1 => if c = true then u σ H1 Qb else Qb false H1) : tAnd t u σ H Qb := k
theorem r_or {Qb : Bool → Hp → Prop} (k : t σ H fun c H1 => if c = true then Qb true H1 else u σ H1 Qb) : tOr t u σ H Qb := k
theorem r_andV (k : ta σ H fun x H1 => ∃ c, x = .bl c ∧ if c = true then tb σ H1 Q else Q (.bl false) H1) : tAndV ta tb σ H Q := k
theorem r_orV (k : ta σ H fun x H1 => ∃ c, x = .bl c ∧ if c = true then Q (.bl true) H1 else tb σ H1 Q) : tOrV ta tb σ H Q := k
theorem r_notV (k : ta σ H fun x H1 => ∃ c, x = .bl c ∧ Q (.bl (!c)) H1) : tNotV ta σ H Q := k
theorem r_if (k : t σ H fun c H1 => if c = true then ta σ H1 Q else tb σ H1 Q) : tIf t ta tb σ H Q := k
theorem r_seqAsg (k : te σ H fun x H1 => t2 D (σ.set i (some x)) H1) : tSeq (tAsg te (gName i)) t2 D σ H := k
theorem r_asg (k : te σ H fun x H1 => D.nx (σ.set i (some x)) H1) : tAsg te (gName i) D σ H := k
theorem r_seqSub {to ti : TE} {ts : TSet} (k : te σ H fun x H1 => to σ H1 fun o H2 => ti σ H2 fun j H3 => ts o j x H3 fun H4 => t2 D σ H4) : tSeq (tAsg te (gSub to ti ts)) t2 D σ H := k
theorem r_sub {to ti : TE} {ts : TSet} (k : te σ H fun x H1 => to σ H1 fun o H2 => ti σ H2 fun j H3 => ts o j x H3 fun H4 => D.nx σ H4) : tAsg te (gSub to ti ts) D σ H := k
theorem r_seqPar {j : Nat} (k : tA σ H fun vs H1 => ∃ v w, vs = [v, w] ∧ t2 D ((σ.set i (some v)).set j (some w)) H1) : tSeq (tPar i j tA) t2 D σ H := k
theorem r_par {j : Nat} (k : tA σ H fun vs H1 => ∃ v w, vs = [v, w] ∧ D.nx ((σ.set i (some v)).set j (some w)) H1) : tPar i j tA D σ H := k
theorem r_ret (k : te σ H D.rt) : tRet te D σ H := k
theorem r_seqDrop (k : te σ H fun _ H1 => t2 D σ H1) : tSeq (tDrop te) t2 D σ H := k
theorem r_drop (k : te σ H fun _ H1 => D.nx σ H1) : tDrop te D σ H := k
theorem r_seqIf {c : TT} {t3 : TS} (k : c σ H fun b H1 => if b = true then t1 { D with nx := t3 D } σ H1 else t2 { D with nx := t3 D } σ H1) : tSeq (tIfS c t1 t2) t3 D σ H := k
theorem r_ifS {c : TT} (k : c σ H fun b H1 => if b = true then t1 D σ H1 else t2 D σ H1) : tIfS c t1 t2 D σ H := k
theorem r_gname {QG : St → Hp → Prop} (k : QG (σ.set i (some v)) H) : gName i v σ H QG := k
theorem r_cutIf {c : TT} {t3 : TS} (M : St → Hp → Prop) (k : c σ H fun b H1 => if b = true then t1 { D with nx := M } σ H1 else t2 { D with nx := M } σ H1) (k2 : ∀ σ' H', M σ' H' → t3 D σ' H') : Evl.tCut (tIfS c t1 t2) t3 D σ H := ⟨M, k, k2⟩
theorem r_yes {Qb : Bool → Hp → Prop} (k : Qb true H) : tYes σ H Qb := k
theorem r_callK {sp : Sp} {gV : List V → List V → List V} {E : XK} {tk : TA} (k : tA σ H fun vs H1 => tk σ H1 fun zs H2 => sp (gV vs zs) H2 Q E) : tCallK sp gV E tA tk σ H Q := k
theorem r_sl {r : V → Option Int → Option Int → Hp → VK → Prop} {tl th : TO} (k : te σ H fun x H1 => tl σ H1 fun l H2 => th σ H2 fun u H3 => r x l u H3 Q) : tSl r te tl th σ H Q := k
theorem r_nopart {QO : Option Int → Hp → Prop} (k : QO none H) : tNoPart σ H QO := k
theorem r_part {QO : Option Int → Hp → Prop} (k : te σ H fun x H1 => ∃ i, x = .int i ∧ QO (some i) H1) : tPart te σ H QO := k
theorem r_bm {K : PySem.W.Frag} {T : String} {r : V → List V → Hp → VK → Prop} (k : te σ H fun x H1 => tyV K T x H1 ∧ tA σ H1 fun xs H2 => r x xs H2 Q) : tBM K T r te tA σ H Q := k
theorem r_bm0 {K : PySem.W.Frag} {T : String} {r : V → List V → Hp → VK → Prop} (k : te σ H fun x H1 => tyV K T x H1 ∧ r x [] H1 Q) : tBM0 K T r te σ H Q := k
theorem r_gtup {K : PySem.W.Frag} {n : Nat} {g : TGs} {a : Addr} {xs : List V} {QG : St → Hp → Prop} (h : SqT K H a xs) (hn : xs.length = n) (k : g xs σ H QG) : gTup K n g (.ref a) σ H QG := ⟨a, xs, rfl, h, hn, k⟩
theorem r_gcons {g : TG} {u : TGs} {xs : List V} {QG : St → Hp → Prop} (k : g v σ H fun σ' H' => u xs σ' H' QG) : gCons g u (v :: xs) σ H QG := ⟨v, xs, rfl, k⟩
theorem r_gnil {QG : St → Hp → Prop} (k : QG σ H) : gNil [] σ H QG := ⟨rfl, k⟩
theorem r_gsub {to ti : TE} {ts : TSet} {QG : St → Hp → Prop} (k : to σ H fun o H1 => ti σ H1 fun j H2 => ts o j v H2 fun H3 => QG σ H3) : gSub to ti ts v σ H QG := k
theorem r_seqAsgG {g : TG} (k : te σ H fun x H1 => g x σ H1 (t2 D)) : tSeq (tAsg te g) t2 D σ H := k
theorem r_asgG {g : TG} (k : te σ H fun x H1 => g x σ H1 D.nx) : tAsg te g D σ H := k
theorem r_next (k : D.nx σ H) : tNext D σ H := k
theorem r_ixL {K : PySem.W.Frag} {p : Addr} {xs : List V} (h : SqL K H p xs) (ha : atI xs a = some v) (k : Q v H) : rIxL K (.ref p) (.int a) H Q := ⟨p, xs, a, v, rfl, rfl, h, ha, k⟩
theorem r_ixT {K : PySem.W.Frag} {p : Addr} {xs : List V} (h : SqT K H p xs) (ha : atI xs a = some v) (k : Q v H) : rIxT K (.ref p) (.int a) H Q := ⟨p, xs, a, v, rfl, rfl, h, ha, k⟩
theorem r_setL {p : Addr} {xs : List V} {j : Nat} {Qh : Hp → Prop} (h : H p = some (.lst xs)) (hj : ixN xs.length a = some j) (k : Qh (upd H p (.lst (xs.set j v)))) : rSetL (.ref p) (.int a) v H Qh := ⟨p, xs, a, j, rfl, rfl, h, hj, k⟩
theorem Same.new {H H1 : Hp} {p : Addr} {o : HO} (e : Same H H1) (np : H1 p = none) : Same H (upd H1 p o) := fun b u h => by
  have h1 := e b u h
  rw [upd_ne (ne_of_none h1 np)]
  exact h1
theorem Same.new0 {H : Hp} {p : Addr} {o : HO} (np : H p = none) : Same H (upd H p o) := (Same.refl H).new np
theorem Same.tup {K : PySem.W.Frag} {H H' : Hp} {a : Addr} {xs : List V} (e : Same H H') (h : SqT K H a xs) : SqT K H' a xs := by
  rcases h with (h | ⟨o, h⟩) | h
  · exact .inl (.inl (e _ _ h))
  · exact .inl (.inr ⟨o, e _ _ h⟩)
  · exact .inr h
end

theorem iteFb {b : Bool} {A B : Prop} (e : b = false) (h : B) : if b = true then A else B := by
  subst e
  exact iteF h
theorem iteTb {b : Bool} {A B : Prop} (e : b = true) (h : A) : if b = true then A else B := by
  subst e
  exact iteT h
/-- a tuple of whole numbers stands at t -/
def TupI (H : Hp) (t : Addr) (ns : List Int) : Prop := H t = some (.tup (ns.map V.int))
theorem TupI.same {H H' : Hp} {t : Addr} {ns : List Int} (h : TupI H t ns) (e : Same H H') : TupI H' t ns := e _ _ h
theorem TupI.sq {K : PySem.W.Frag} {H : Hp} {t : Addr} {ns : List Int} (h : TupI H t ns) : SqT K H t (ns.map V.int) := SqT.of h
theorem TupI.new {H : Hp} {t : Addr} {ns : List Int} {xs : List V} (e : xs = ns.map V.int) : TupI (upd H t (.tup xs)) t ns := by
  unfold TupI
  rw [upd_same, e]
/-- a list of whole numbers stands at l -/
def LstI (H : Hp) (t : Addr) (ns : List Int) : Prop := H t = some (.lst (ns.map V.int))
theorem dpAll_ints {K : PySem.W.Frag} {H : Hp} : ∀ ns : List Int, DpAll K H (ns.map V.int) (ns.map PyData.int)
  | [] => .nil
  | n :: r => .cons (.int n) (dpAll_ints r)
theorem canLay_ints : ∀ ns : List Int, PyData.canLayAll0 (ns.map PyData.int) = true
  | [] => rfl
  | n :: r => canLay_ints r
theorem depth_ints : ∀ ns : List Int, PyData.depthAll (ns.map PyData.int) = 0
  | [] => rfl
  | n :: r => by
    show max 0 (PyData.depthAll (r.map PyData.int)) = 0
    rw [depth_ints r]
    rfl
theorem shaped_tup (ns : List Int) : SeqAt.shaped (.tuple (ns.map PyData.int)) = true := by
  unfold SeqAt.shaped
  show (PyData.canLayAll0 (ns.map PyData.int) && decide (PyData.depthAll (ns.map PyData.int) + 1 ≤ 64)) = true
  rw [canLay_ints, depth_ints]
  rfl
theorem shaped_lst (ns : List Int) : SeqAt.shaped (.list (ns.map PyData.int)) = true := shaped_tup ns
theorem eqD_tup {K : PySem.W.Frag} {H : Hp} {a b : Addr} {ns ms : List Int} {Q : VK} (ha : SqT K H a (ns.map V.int)) (hb : SqT K H b (ms.map V.int)) (k : Q (.bl (decide (ns = ms))) H) : rEqD K (.ref a) (.ref b) H Q :=
  ⟨_, _, .tup ha (dpAll_ints ns), .tup hb (dpAll_ints ms), shaped_tup ns, shaped_tup ms, by
    show Q (.bl (PyData.eqvAll (ns.map PyData.int) (ms.map PyData.int))) H
    rw [PySem.W.ked_eqvAll]
    exact k⟩
theorem neD_tup {K : PySem.W.Frag} {H : Hp} {a b : Addr} {ns ms : List Int} {Q : VK} (ha : SqT K H a (ns.map V.int)) (hb : SqT K H b (ms.map V.int)) (k : Q (.bl (!decide (ns = ms))) H) : rNeD K (.ref a) (.ref b) H Q :=
  ⟨_, _, .tup ha (dpAll_ints ns), .tup hb (dpAll_ints ms), shaped_tup ns, shaped_tup ms, by
    show Q (.bl (!PyData.eqvAll (ns.map PyData.int) (ms.map PyData.int))) H
    rw [PySem.W.ked_eqvAll]
    exact k⟩
theorem eqD_lst {K : PySem.W.Frag} {H : Hp} {a b : Addr} {ns ms : List Int} {Q : VK} (ha : SqL K H a (ns.map V.int)) (hb : SqL K H b (ms.map V.int)) (k : Q (.bl (decide (ns = ms))) H) : rEqD K (.ref a) (.ref b) H Q :=
  ⟨_, _, .lst ha (dpAll_ints ns), .lst hb (dpAll_ints ms), shaped_lst ns, shaped_lst ms, by
    show Q (.bl (PyData.eqvAll (ns.map PyData.int) (ms.map PyData.int))) H
    rw [PySem.W.ked_eqvAll]
    exact k⟩
theorem neD_lst {K : PySem.W.Frag} {H : Hp} {a b : Addr} {ns ms : List Int} {Q : VK} (ha : SqL K H a (ns.map V.int)) (hb : SqL K H b (ms.map V.int)) (k : Q (.bl (!decide (ns = ms))) H) : rNeD K (.ref a) (.ref b) H Q :=
  ⟨_, _, .lst ha (dpAll_ints ns), .lst hb (dpAll_ints ms), shaped_lst ns, shaped_lst ms, by
    show Q (.bl (!PyData.eqvAll (ns.map PyData.int) (ms.map PyData.int))) H
    rw [PySem.W.ked_eqvAll]
    exact k⟩

/-- l + m, lists that are read (the script too) -/
def rCatR (K : PySem.W.Frag) : R2 := fun x y H Q => ∃ l b xs zs, x = .ref l ∧ y = .ref b ∧ SqL K H l xs ∧ SqL K H b zs ∧ xs.length + zs.length ≤ sizeLine ∧ ∀ p, H p = none → Q (.ref p) (upd H p (.lst (xs ++ zs)))
theorem op_catR {X : Cx} : OpR X (binaryOp .Add) (rCatR X.K) := by
  intro pins s σ H x y v u Q I rx ry h
  obtain ⟨l, b, xs, zs, rfl, rfl, hL, hB, hz, q⟩ := h
  cases rx
  cases ry
  obtain ⟨us, r1, p1, _⟩ := I.list hL
  obtain ⟨ws, r2, p2, _⟩ := I.list hB
  obtain ⟨⟨c1, d1, e1, sl1⟩, n1, g1, k1, z1, q1⟩ := p1
  obtain ⟨⟨c2, d2, e2, sl2⟩, n2, g2, k2, z2, q2⟩ := p2
  dsimp only at k1 z1 q1 k2 z2 q2
  subst k1 z1 q1 k2 z2 q2
  have hl1 := r1.length
  have hl2 := r2.length
  refine concat_meets ⟨_, g1, rfl⟩ ⟨_, g2, rfl⟩ noFill_list_add seq_list_add PySem.F.slot_list_add PySem.F.entry_list_add (PySem.F.args_list_add_2 _ _) (list_addW l b us.toArray ws.toArray n1 n2 none none sl1 sl2 (by rw [List.size_toArray, List.size_toArray]; omega)) ⟨g1, g2, ?_⟩
  have ea : us.toArray ++ ws.toArray = (us ++ ws).toArray := by simp
  rw [ea]
  exact ⟨.ref _, _, I.lnew (t' := s.toks) (r1.append r2) (by rw [List.length_append]; omega), rfl, q _ I.fresh⟩

/-! ### the springs of the laws -/
def MM : Int := 618970019642690137449562111
/-- a spring stands at p -/
def Spr (H : Hp) (p : Addr) : Prop := ∃ a b c : Int, H p = some (.lst [.int a, .int b, .int c]) ∧ 0 ≤ b ∧ b < MM
/-- all but p is as it was -/
def But (p : Addr) (H H' : Hp) : Prop := ∀ b o, b ≠ p → H b = some o → H' b = some o
theorem But.refl (p : Addr) (H : Hp) : But p H H := fun _ _ _ h => h
theorem But.trans {p : Addr} {H H1 H2 : Hp} (a : But p H H1) (b : But p H1 H2) : But p H H2 := fun c o n h => b c o n (a c o n h)
theorem But.new {p q : Addr} {H H1 : Hp} {o : HO} (a : But p H H1) (nq : H1 q = none) : But p H (upd H1 q o) := fun c u n h => by
  have h1 := a c u n h
  rw [upd_ne (ne_of_none h1 nq)]
  exact h1
theorem But.mut {p : Addr} {H H1 : Hp} {o : HO} (a : But p H H1) : But p H (upd H1 p o) := fun c u n h => by
  rw [upd_ne n]
  exact a c u n h
theorem But.same {p : Addr} {H H1 H2 : Hp} (a : But p H H1) (b : Same H1 H2) : But p H H2 := fun c u n h => b c u (a c u n h)
theorem Same.but {p : Addr} {H H1 : Hp} (a : Same H H1) : But p H H1 := fun c u _ h => a c u h
theorem But.free {p q : Addr} {H H1 : Hp} (a : But p H H1) (h : H1 q = none) (n : q ≠ p) : H q = none := by
  cases e : H q with
  | none => rfl
  | some o =>
    rw [a q o n e] at h
    cases h
/-- a spring that was made on the way -/
theorem But.of_new {p : Addr} {H H1 H2 : Hp} (np : H p = none) (s : Same H H1) (a : But p H1 H2) : Same H H2 := fun b o h => a b o (ne_of_none h np) (s b o h)
theorem Spr.same {p : Addr} {H H1 : Hp} (s : Same H H1) (h : Spr H p) : Spr H1 p := by
  obtain ⟨a, b, c, e, r⟩ := h
  exact ⟨a, b, c, s _ _ e, r⟩
theorem Spr.ne {p q : Addr} {H : Hp} (h : Spr H p) (n : H q = none) : p ≠ q := by
  obtain ⟨a, b, c, e, r⟩ := h
  exact ne_of_none e n
theorem Spr.new {p q : Addr} {H : Hp} {o : HO} (h : Spr H p) (n : H q = none) : Spr (upd H q o) p := h.same (Same.new0 n)
theorem Spr.put {H : Hp} {p D : Addr} {o : HO} (h : Spr H p) (n : D ≠ p) : Spr (upd H D o) p := by
  obtain ⟨x1, x2, x3, e1, e2⟩ := h
  exact ⟨x1, x2, x3, by rw [upd_ne (Ne.symm n)]; exact e1, e2⟩
theorem Spr.here {p : Addr} {H : Hp} (h : Spr H p) : ∃ o, H p = some o := by
  obtain ⟨a, b, c, e, r⟩ := h
  exact ⟨_, e⟩

def spSpring : Sp := fun vs H Q _ => ∃ c k : Int, vs = [.int c, .int k] ∧ ∀ p H', H p = none → Same H H' → Spr H' p → Q (.ref p) H'
def spSip : Sp := fun vs H Q _ => ∃ (p : Addr) (m : Int), vs = [.ref p, .int m] ∧ Spr H p ∧ 1 ≤ m ∧ m < 2 ^ 250 ∧ ∀ r H', 0 ≤ r → r < m → But p H H' → Spr H' p → Q (.int r) H'
def spFar : Sp := fun vs H Q _ => ∃ (p : Addr) (w : Int), vs = [.ref p, .int w] ∧ Spr H p ∧ 1 ≤ w ∧ w < 2 ^ 250 ∧ ∀ r H', -w < r → r < w → But p H H' → Spr H' p → Q (.int r) H'
def spTruth : Sp := fun vs H Q _ => ∃ a b : Bool, vs = [.bl a, .bl b] ∧ Q (.bl (a == b)) H
def spLaw (K : PySem.W.Frag) : Sp := fun vs H Q _ => ∃ (a : Addr) (ns : List Int), vs = [.ref a] ∧ SqL K H a (ns.map V.int) ∧ ns.length ≤ 63 ∧ (∀ z ∈ ns, Builtin.Int.intBits z ≤ 1048576) ∧ ∀ H', Q (.bl true) H'

theorem cut_ints (ns : List Int) (k : Nat) : cutV (ns.map V.int) none (some (k : Int)) = (ns.take k).map V.int := by
  unfold cutV
  rw [HT.sIx_none, HT.sIx_nat, List.drop_zero, List.length_map, Nat.sub_zero, ← List.map_take]
  congr 1
  rw [List.take_eq_take_iff]
  omega
/-- the cells of a script: the first k, or a 0 -/
def cells (ns : List Int) (k : Nat) : List Int := ns.take k ++ List.replicate (if ns.length = 0 then 1 else 0) 0
theorem cells_len {ns : List Int} (h : ns.length ≤ 63) (k : Nat) : (cells ns k).length ≤ 64 := by
  unfold cells
  rw [List.length_append, List.length_take, List.length_replicate]
  split <;> omega
theorem cells_v (ns : List Int) (k : Nat) : (ns.take k).map V.int ++ (List.replicate ((if ns.length = 0 then (1 : Int) else 0).toNat) [V.int 0]).flatten = (cells ns k).map V.int := by
  unfold cells
  rw [List.map_append]
  congr 1
  split <;> rfl
/-- keywords alone -/
def kwG {α : Type} : List α → List α → List α
  | [], ws => ws
  | _ :: _, _ => []
theorem kwG_rel {vs : List V} {us : List Value} {zs : List V} {ws : List Value} (h : Vals vs us) (k : Vals zs ws) : Vals (kwG vs zs) (kwG us ws) := by
  cases h with
  | nil => exact k
  | cons _ _ => exact .nil
/-! ### greatest common divisors -/
def gcdL : List Int → Nat
  | [] => 0
  | a :: r => Nat.gcd a.natAbs (gcdL r)
theorem gcdL_foldl : ∀ (l : List Int) (g : Nat), l.foldl (fun g a => Nat.gcd g a.natAbs) g = Nat.gcd g (gcdL l)
  | [], g => (Nat.gcd_zero_right g).symm
  | a :: r, g => by
    rw [List.foldl_cons, gcdL_foldl r, gcdL, Nat.gcd_assoc]
theorem gcdL_append : ∀ (l r : List Int), gcdL (l ++ r) = Nat.gcd (gcdL l) (gcdL r)
  | [], r => (Nat.gcd_zero_left _).symm
  | a :: l, r => by rw [List.cons_append, gcdL, gcdL, gcdL_append l r, Nat.gcd_assoc]
theorem gcdL_one (a : Int) : gcdL [a] = a.natAbs := Nat.gcd_zero_right _
theorem gcdL_reverse : ∀ l : List Int, gcdL l.reverse = gcdL l
  | [] => rfl
  | a :: r => by rw [List.reverse_cons, gcdL_append, gcdL_one, gcdL_reverse r, gcdL, Nat.gcd_comm]
theorem gcdL_neg : ∀ l : List Int, gcdL (l.map fun a => 0 - a) = gcdL l
  | [] => rfl
  | a :: r => by
    rw [List.map_cons, gcdL, gcdL, gcdL_neg r]
    have e : (0 - a).natAbs = a.natAbs := by omega
    rw [e]
theorem gcdL_mul : ∀ (l : List Int) (k : Int), gcdL (l.map fun a => a * k) = gcdL l * k.natAbs
  | [], k => (Nat.zero_mul _).symm
  | a :: r, k => by rw [List.map_cons, gcdL, gcdL, gcdL_mul r, Int.natAbs_mul, Nat.gcd_mul_right]
theorem gcdL_dvd : ∀ (l : List Int) (a : Int), a ∈ l → ((gcdL l : Nat) : Int) ∣ a
  | b :: r, a, h => by
    rcases List.mem_cons.mp h with e | e
    · subst e
      exact Int.ofNat_dvd_left.mpr (Nat.gcd_dvd_left _ _)
    · exact Int.dvd_trans (Int.ofNat_dvd.mpr (Nat.gcd_dvd_right _ _)) (gcdL_dvd r a e)
theorem dvd_gcdL {d : Nat} : ∀ (l : List Int), (∀ a ∈ l, (d : Int) ∣ a) → d ∣ gcdL l
  | [], _ => Nat.dvd_zero d
  | a :: r, h => Nat.dvd_gcd (Int.ofNat_dvd_left.mp (h a List.mem_cons_self)) (dvd_gcdL r fun b hb => h b (List.mem_cons_of_mem _ hb))
theorem gcdL_lt {B : Nat} (hB : 0 < B) : ∀ (l : List Int), (∀ a ∈ l, a.natAbs < B) → gcdL l < B
  | [], _ => hB
  | a :: r, h => by
    have h1 := h a List.mem_cons_self
    have h2 := gcdL_lt hB r fun b hb => h b (List.mem_cons_of_mem _ hb)
    rw [gcdL]
    by_cases e : a.natAbs = 0
    · rw [e, Nat.gcd_zero_left]
      exact h2
    · exact Nat.lt_of_le_of_lt (Nat.gcd_le_left _ (Nat.pos_of_ne_zero e)) h1
theorem gcdL_zero {l : List Int} (h : gcdL l = 0) : ∀ a ∈ l, a = 0 := fun a ha => by
  have q := gcdL_dvd l a ha
  rw [h] at q
  exact Int.zero_dvd.mp q
theorem gcdL_of_zero : ∀ {l : List Int}, (∀ a ∈ l, a = 0) → gcdL l = 0
  | [], _ => rfl
  | a :: r, h => by
    rw [gcdL, h a List.mem_cons_self, gcdL_of_zero fun b hb => h b (List.mem_cons_of_mem _ hb)]
    rfl
/-- the seen place ahead -/
def firstL (l : List Int) : List Int := if gcdL l = 0 then l else l.map fun a => a / ((gcdL l : Nat) : Int)
theorem firstL_len (l : List Int) : (firstL l).length = l.length := by
  unfold firstL
  split
  · rfl
  · exact List.length_map _
theorem firstL_back {l : List Int} : (firstL l).map (fun a => a * ((gcdL l : Nat) : Int)) = if gcdL l = 0 then l.map (fun _ => 0) else l := by
  unfold firstL
  split
  · rename_i h
    rw [h]
    exact List.map_congr_left fun a _ => Int.mul_zero a
  · rw [List.map_map]
    conv => rhs; rw [← List.map_id l]
    exact List.map_congr_left fun a ha => Int.ediv_mul_cancel (gcdL_dvd l a ha)
theorem firstL_gcd {l : List Int} (h : gcdL l ≠ 0) : gcdL (firstL l) = 1 := by
  have e := firstL_back (l := l)
  rw [if_neg h] at e
  have q := gcdL_mul (firstL l) ((gcdL l : Nat) : Int)
  rw [e, Int.natAbs_natCast] at q
  have : 1 * gcdL l = gcdL (firstL l) * gcdL l := by rw [Nat.one_mul]; exact q
  exact (Nat.eq_of_mul_eq_mul_right (Nat.pos_of_ne_zero h) this).symm
theorem gcdL_same {l m : List Int} (h : ∀ d : Nat, (∀ a ∈ l, (d : Int) ∣ a) ↔ ∀ a ∈ m, (d : Int) ∣ a) : gcdL l = gcdL m := by
  refine Nat.dvd_antisymm ?_ ?_
  · exact dvd_gcdL m ((h _).mp (gcdL_dvd l))
  · exact dvd_gcdL l ((h _).mpr (gcdL_dvd m))
theorem all_set {P : Int → Prop} {l : List Int} {i : Nat} {z : Int} (h : ∀ j a, j ≠ i → l[j]? = some a → P a) (hz : P z) : ∀ a ∈ l.set i z, P a := by
  intro a ha
  obtain ⟨j, hj⟩ := List.getElem?_of_mem ha
  by_cases e : j = i
  · subst e
    have hl := (List.getElem?_eq_some_iff.mp hj).1
    rw [List.length_set] at hl
    rw [List.getElem?_set_self hl] at hj
    cases hj
    exact hz
  · rw [List.getElem?_set_ne (Ne.symm e)] at hj
    exact h j a e hj
theorem set_other {l : List Int} {i j : Nat} {z a : Int} (n : j ≠ i) (h : l[j]? = some a) : a ∈ l.set i z :=
  List.mem_of_getElem? (i := j) (by rw [List.getElem?_set_ne (Ne.symm n)]; exact h)
theorem set_here {l : List Int} {i : Nat} {z a : Int} (h : l[i]? = some a) : z ∈ l.set i z :=
  List.mem_of_getElem? (i := i) (List.getElem?_set_self (List.getElem?_eq_some_iff.mp h).1)
/-- a multiple of another coordinate added -/
theorem gcdL_shear {l : List Int} {i j : Nat} {x y k : Int} (n : j ≠ i) (hx : l[i]? = some x) (hy : l[j]? = some y) : gcdL (l.set i (x + k * y)) = gcdL l := by
  refine gcdL_same fun d => ⟨fun h a ha => ?_, fun h => all_set (fun m a _ hm => h a (List.mem_of_getElem? hm)) (Int.dvd_add (h x (List.mem_of_getElem? hx)) (Int.dvd_trans (h y (List.mem_of_getElem? hy)) (Int.dvd_mul_left _ _)))⟩
  obtain ⟨m, hm⟩ := List.getElem?_of_mem ha
  by_cases e : m = i
  · subst e
    rw [hx] at hm
    cases hm
    have h1 := h _ (set_here (z := x + k * y) hx)
    have h2 := Int.dvd_trans (h y (set_other n hy)) (Int.dvd_mul_left k y)
    have h3 := Int.dvd_sub h1 h2
    rwa [Int.add_sub_cancel] at h3
  · exact h a (set_other e hm)
/-- two coordinates exchanged, one with its sign turned -/
theorem gcdL_swap {l : List Int} {i j : Nat} {x y : Int} (n : j ≠ i) (hx : l[i]? = some x) (hy : l[j]? = some y) : gcdL ((l.set i y).set j (0 - x)) = gcdL l := by
  have hx' : (0 - x) ∈ (l.set i y).set j (0 - x) := set_here (a := y) (by rw [List.getElem?_set_ne (Ne.symm n)]; exact hy)
  have hy' : y ∈ (l.set i y).set j (0 - x) := set_other (j := i) (Ne.symm n) (List.getElem?_set_self (List.getElem?_eq_some_iff.mp hx).1)
  refine gcdL_same fun d => ⟨fun h a ha => ?_, fun h => all_set (fun m a hm hma => ?_) (Int.dvd_sub (Int.dvd_zero _) (h x (List.mem_of_getElem? hx)))⟩
  · obtain ⟨m, hm⟩ := List.getElem?_of_mem ha
    by_cases e : m = i
    · subst e
      rw [hx] at hm
      cases hm
      have h1 := Int.dvd_sub (Int.dvd_zero (d : Int)) (h _ hx')
      have e2 : 0 - (0 - x) = x := by omega
      rwa [e2] at h1
    · by_cases e2 : m = j
      · subst e2
        rw [hy] at hm
        cases hm
        exact h _ hy'
      · exact h a (set_other e2 (by rw [List.getElem?_set_ne (Ne.symm e)]; exact hm))
  · by_cases e : m = i
    · subst e
      rw [List.getElem?_set_self (List.getElem?_eq_some_iff.mp hx).1] at hma
      cases hma
      exact h y (List.mem_of_getElem? hy)
    · rw [List.getElem?_set_ne (Ne.symm e)] at hma
      exact h a (List.mem_of_getElem? hma)
theorem take_more {α : Type} : ∀ {l : List α} {i : Nat} {x : α}, l[i]? = some x → l.take (i + 1) = l.take i ++ [x]
  | [], i, x, h => by simp at h
  | a :: l, 0, x, h => by
    have e : a = x := Option.some.inj h
    subst e
    rfl
  | a :: l, i + 1, x, h => by
    have ih := take_more (l := l) (i := i) (x := x) h
    show a :: l.take (i + 1) = a :: l.take i ++ [x]
    rw [ih]
    rfl
theorem ints_at {ns : List Int} {i : Nat} {x : V} (h : (ns.map V.int)[i]? = some x) : ∃ z, ns[i]? = some z ∧ x = V.int z := by
  rw [List.getElem?_map] at h
  cases e : ns[i]? with
  | none =>
    rw [e] at h
    cases h
  | some z =>
    rw [e] at h
    exact ⟨z, rfl, (Option.some.inj h).symm⟩
theorem at_int {ns : List Int} {i : Int} (h0 : 0 ≤ i) (h1 : i < (ns.length : Int)) : ∃ x, ns[i.toNat]? = some x ∧ atI (ns.map V.int) i = some (.int x) := by
  have hi : i.toNat < ns.length := by omega
  refine ⟨ns[i.toNat], List.getElem?_eq_getElem hi, ?_⟩
  have e : i = ((i.toNat : Nat) : Int) := (Int.toNat_of_nonneg h0).symm
  exact at_of e (by rw [List.getElem?_map, List.getElem?_eq_getElem hi]; rfl)
theorem ix_int {ns : List Int} {i : Int} (h0 : 0 ≤ i) (h1 : i < (ns.length : Int)) : ixN (ns.map V.int).length i = some i.toNat := by
  rw [List.length_map]
  unfold ixN
  rw [if_pos h0, if_pos h1]
theorem rep_ints (n : Nat) : (List.replicate ((n : Int)).toNat [V.int 0]).flatten = (List.replicate n (0 : Int)).map V.int := by
  rw [Int.toNat_natCast]
  induction n with
  | zero => rfl
  | succ n ih => rw [List.replicate_succ, List.replicate_succ, List.flatten_cons, List.map_cons, ih]; rfl
theorem Spr.tupNe {H : Hp} {p t : Addr} {ns : List Int} (h : Spr H p) (ht : TupI H t ns) : t ≠ p := fun e => by
  obtain ⟨x1, x2, x3, e1, _⟩ := h
  unfold TupI at ht
  rw [e, e1] at ht
  cases ht
end L2

namespace K05
open PySem L2
def top (i : Nat) : Stmt := PySem.Challenge.pw_seenposts_k05_whole_posts_in_a_row.main.body.getD i (.Pass ⟨0, 0, 0, 0⟩)
abbrev s_init : Stmt := inClass (top 4) 0
theorem sc_init : FnScope ["self", "value"] ["self", "value"] (defScope s_init) := ⟨rfl, rfl, rfl, by decide +kernel, rfl, by decide +kernel, by decide +kernel⟩
abbrev s_common_divisor : Stmt := top 2
abbrev N_common_divisor : List Str := ["place", "found", "number"]
theorem sc_common_divisor : FnScope N_common_divisor ["place"] (defScope s_common_divisor) := ⟨rfl, rfl, rfl, by decide +kernel, rfl, by decide +kernel, by decide +kernel⟩
abbrev s_divisor_of : Stmt := top 8
abbrev N_divisor_of : List Str := ["place"]
theorem sc_divisor_of : FnScope N_divisor_of ["place"] (defScope s_divisor_of) := ⟨rfl, rfl, rfl, by decide +kernel, rfl, by decide +kernel, by decide +kernel⟩
abbrev s_is_seen : Stmt := top 9
abbrev N_is_seen : List Str := ["place"]
theorem sc_is_seen : FnScope N_is_seen ["place"] (defScope s_is_seen) := ⟨rfl, rfl, rfl, by decide +kernel, rfl, by decide +kernel, by decide +kernel⟩
abbrev s_between : Stmt := top 10
abbrev N_between : List Str := ["place"]
theorem sc_between : FnScope N_between ["place"] (defScope s_between) := ⟨rfl, rfl, rfl, by decide +kernel, rfl, by decide +kernel, by decide +kernel⟩
abbrev s_first_post : Stmt := top 11
abbrev N_first_post : List Str := ["place", "divisor", "number"]
theorem sc_first_post : FnScope N_first_post ["place"] (defScope s_first_post) := ⟨rfl, rfl, rfl, by decide +kernel, rfl, by decide +kernel, by decide +kernel⟩
abbrev s_remainders : Stmt := top 12
abbrev N_remainders : List Str := ["place", "divisor", "number"]
theorem sc_remainders : FnScope N_remainders ["place", "divisor"] (defScope s_remainders) := ⟨rfl, rfl, rfl, by decide +kernel, rfl, by decide +kernel, by decide +kernel⟩
abbrev s_law_spring : Stmt := top 14
abbrev N_law_spring : List Str := ["_law_cell", "_law_k", "_law_state"]
theorem sc_law_spring : FnScope N_law_spring ["_law_cell", "_law_k"] (defScope s_law_spring) := ⟨rfl, rfl, rfl, by decide +kernel, rfl, by decide +kernel, by decide +kernel⟩
abbrev s_law_sip : Stmt := top 15
abbrev N_law_sip : List Str := ["_law_spring_here", "_law_many", "_law_mixed", "_law_found"]
theorem sc_law_sip : FnScope N_law_sip ["_law_spring_here", "_law_many"] (defScope s_law_sip) := ⟨rfl, rfl, rfl, by decide +kernel, rfl, by decide +kernel, by decide +kernel⟩
abbrev s_law_whole : Stmt := top 16
abbrev N_law_whole : List Str := ["_law_found"]
theorem sc_law_whole : FnScope N_law_whole ["_law_found"] (defScope s_law_whole) := ⟨rfl, rfl, rfl, by decide +kernel, rfl, by decide +kernel, by decide +kernel⟩
abbrev s_law_truth : Stmt := top 17
abbrev N_law_truth : List Str := ["_law_found", "_law_due"]
theorem sc_law_truth : FnScope N_law_truth ["_law_found", "_law_due"] (defScope s_law_truth) := ⟨rfl, rfl, rfl, by decide +kernel, rfl, by decide +kernel, by decide +kernel⟩
abbrev s_law_is_spot : Stmt := top 18
abbrev N_law_is_spot : List Str := ["_law_found", "_law_due", "_law_k"]
theorem sc_law_is_spot : FnScope N_law_is_spot ["_law_found", "_law_due"] (defScope s_law_is_spot) := ⟨rfl, rfl, rfl, by decide +kernel, rfl, by decide +kernel, by decide +kernel⟩
abbrev s_law_step : Stmt := top 19
abbrev N_law_step : List Str := ["_law_spring_here", "_law_spot", "_law_values", "_law_into", "_law_out", "_law_times", "_law_value"]
theorem sc_law_step : FnScope N_law_step ["_law_spring_here", "_law_spot"] (defScope s_law_step) := ⟨rfl, rfl, rfl, by decide +kernel, rfl, by decide +kernel, by decide +kernel⟩
abbrev s_law_row_right : Stmt := top 20
abbrev N_law_row_right : List Str := ["_law_spot", "_law_by", "_law_more", "_law_sign", "_law_away", "_law_due", "_law_value"]
theorem sc_law_row_right : FnScope N_law_row_right ["_law_spot", "_law_by", "_law_more"] (defScope s_law_row_right) := ⟨rfl, rfl, rfl, by decide +kernel, rfl, by decide +kernel, by decide +kernel⟩
abbrev s_law : Stmt := top 21
abbrev N_law : List Str := ["_law_script", "_law_flat", "_law_deep", "_law_k", "_law_spring_here", "_law_by", "_law_more"]
theorem sc_law : FnScope N_law ["_law_script"] (defScope s_law) := ⟨rfl, rfl, rfl, by decide +kernel, rfl, by decide +kernel, by decide +kernel⟩
structure Ad where
  a_common_divisor : Addr
  f_common_divisor : FuncData
  a_divisor_of : Addr
  f_divisor_of : FuncData
  a_is_seen : Addr
  f_is_seen : FuncData
  a_between : Addr
  f_between : FuncData
  a_first_post : Addr
  f_first_post : FuncData
  a_remainders : Addr
  f_remainders : FuncData
  a_law_spring : Addr
  f_law_spring : FuncData
  a_law_sip : Addr
  f_law_sip : FuncData
  a_law_whole : Addr
  f_law_whole : FuncData
  a_law_truth : Addr
  f_law_truth : FuncData
  a_law_is_spot : Addr
  f_law_is_spot : FuncData
  a_law_step : Addr
  f_law_step : FuncData
  a_law_row_right : Addr
  f_law_row_right : FuncData
  a_law : Addr
  f_law : FuncData
structure Txt (K : PySem.W.Frag) (mg : Str → Option Value) (A : Ad) : Prop where
  g_common_divisor : mg "common_divisor" = some (.ref A.a_common_divisor)
  k_common_divisor : PySem.W.keepIn K (.ref A.a_common_divisor) = true
  F_common_divisor : Fun K "common_divisor" "common_divisor" s_common_divisor A.a_common_divisor A.f_common_divisor
  b_common_divisor : Binds K A.f_common_divisor ["place"] []
  g_divisor_of : mg "divisor_of" = some (.ref A.a_divisor_of)
  k_divisor_of : PySem.W.keepIn K (.ref A.a_divisor_of) = true
  F_divisor_of : Fun K "divisor_of" "divisor_of" s_divisor_of A.a_divisor_of A.f_divisor_of
  b_divisor_of : Binds K A.f_divisor_of ["place"] []
  g_is_seen : mg "is_seen" = some (.ref A.a_is_seen)
  k_is_seen : PySem.W.keepIn K (.ref A.a_is_seen) = true
  F_is_seen : Fun K "is_seen" "is_seen" s_is_seen A.a_is_seen A.f_is_seen
  b_is_seen : Binds K A.f_is_seen ["place"] []
  g_between : mg "between" = some (.ref A.a_between)
  k_between : PySem.W.keepIn K (.ref A.a_between) = true
  F_between : Fun K "between" "between" s_between A.a_between A.f_between
  b_between : Binds K A.f_between ["place"] []
  g_first_post : mg "first_post" = some (.ref A.a_first_post)
  k_first_post : PySem.W.keepIn K (.ref A.a_first_post) = true
  F_first_post : Fun K "first_post" "first_post" s_first_post A.a_first_post A.f_first_post
  b_first_post : Binds K A.f_first_post ["place"] []
  g_remainders : mg "remainders" = some (.ref A.a_remainders)
  k_remainders : PySem.W.keepIn K (.ref A.a_remainders) = true
  F_remainders : Fun K "remainders" "remainders" s_remainders A.a_remainders A.f_remainders
  b_remainders : Binds K A.f_remainders ["place", "divisor"] []
  g_law_spring : mg "_law_spring" = some (.ref A.a_law_spring)
  k_law_spring : PySem.W.keepIn K (.ref A.a_law_spring) = true
  F_law_spring : Fun K "_law_spring" "_law_spring" s_law_spring A.a_law_spring A.f_law_spring
  b_law_spring : Binds K A.f_law_spring ["_law_cell", "_law_k"] []
  g_law_sip : mg "_law_sip" = some (.ref A.a_law_sip)
  k_law_sip : PySem.W.keepIn K (.ref A.a_law_sip) = true
  F_law_sip : Fun K "_law_sip" "_law_sip" s_law_sip A.a_law_sip A.f_law_sip
  b_law_sip : Binds K A.f_law_sip ["_law_spring_here", "_law_many"] []
  g_law_whole : mg "_law_whole" = some (.ref A.a_law_whole)
  k_law_whole : PySem.W.keepIn K (.ref A.a_law_whole) = true
  F_law_whole : Fun K "_law_whole" "_law_whole" s_law_whole A.a_law_whole A.f_law_whole
  b_law_whole : Binds K A.f_law_whole ["_law_found"] []
  g_law_truth : mg "_law_truth" = some (.ref A.a_law_truth)
  k_law_truth : PySem.W.keepIn K (.ref A.a_law_truth) = true
  F_law_truth : Fun K "_law_truth" "_law_truth" s_law_truth A.a_law_truth A.f_law_truth
  b_law_truth : Binds K A.f_law_truth ["_law_found", "_law_due"] []
  g_law_is_spot : mg "_law_is_spot" = some (.ref A.a_law_is_spot)
  k_law_is_spot : PySem.W.keepIn K (.ref A.a_law_is_spot) = true
  F_law_is_spot : Fun K "_law_is_spot" "_law_is_spot" s_law_is_spot A.a_law_is_spot A.f_law_is_spot
  b_law_is_spot : Binds K A.f_law_is_spot ["_law_found", "_law_due"] []
  g_law_step : mg "_law_step" = some (.ref A.a_law_step)
  k_law_step : PySem.W.keepIn K (.ref A.a_law_step) = true
  F_law_step : Fun K "_law_step" "_law_step" s_law_step A.a_law_step A.f_law_step
  b_law_step : Binds K A.f_law_step ["_law_spring_here", "_law_spot"] []
  g_law_row_right : mg "_law_row_right" = some (.ref A.a_law_row_right)
  k_law_row_right : PySem.W.keepIn K (.ref A.a_law_row_right) = true
  F_law_row_right : Fun K "_law_row_right" "_law_row_right" s_law_row_right A.a_law_row_right A.f_law_row_right
  b_law_row_right : Binds K A.f_law_row_right ["_law_spot", "_law_by", "_law_more"] []
  g_law : mg "law" = some (.ref A.a_law)
  k_law : PySem.W.keepIn K (.ref A.a_law) = true
  F_law : Fun K "law" "law" s_law A.a_law A.f_law
  b_law : Binds K A.f_law ["_law_script"] []
  n_bool : mg "bool" = none
  m_gcd : mg "gcd" = some (.builtin "math.gcd")
  n_int : mg "int" = none
  n_isinstance : mg "isinstance" = none
  n_len : mg "len" = none
  n_list : mg "list" = none
  n_max : mg "max" = none
  n_min : mg "min" = none
  n_range : mg "range" = none
  n_tuple : mg "tuple" = none
def spGcd (K : PySem.W.Frag) : Sp := fun vs H Q _ => ∃ (t : Addr) (ns : List Int), vs = [.ref t] ∧ SqT K H t (ns.map V.int) ∧ Q (.int (gcdL ns : Nat)) H
def spDiv (K : PySem.W.Frag) : Sp := fun vs H Q _ => ∃ (t : Addr) (ns : List Int), vs = [.ref t] ∧ SqT K H t (ns.map V.int) ∧ (ns.length = 2 ∨ ns.length = 3) ∧ ∀ H', Same H H' → Q (.int (gcdL ns : Nat)) H'
def spSeen (K : PySem.W.Frag) : Sp := fun vs H Q _ => ∃ (t : Addr) (ns : List Int), vs = [.ref t] ∧ SqT K H t (ns.map V.int) ∧ (ns.length = 2 ∨ ns.length = 3) ∧ ∀ H', Same H H' → Q (.bl (((gcdL ns : Nat) : Int) == 1)) H'
def spBetween (K : PySem.W.Frag) : Sp := fun vs H Q _ => ∃ (t : Addr) (ns : List Int), vs = [.ref t] ∧ SqT K H t (ns.map V.int) ∧ (ns.length = 2 ∨ ns.length = 3) ∧ ∀ H', Same H H' → Q (.int ((gcdL ns - 1 : Nat) : Int)) H'
def spFirst : Sp := fun vs H Q _ => ∃ (t : Addr) (ns : List Int), vs = [.ref t] ∧ TupI H t ns ∧ (ns.length = 2 ∨ ns.length = 3) ∧ (∀ a ∈ ns, a.natAbs < 2 ^ 250) ∧ ∀ t' H', Same H H' → TupI H' t' (firstL ns) → Q (.ref t') H'
def spWhole : Sp := fun vs H Q _ => ∃ i : Int, vs = [.int i] ∧ Q (.bl true) H
def spIsSpot : Sp := fun vs H Q _ => ∃ (a b : Addr) (ns : List Int), vs = [.ref a, .ref b] ∧ TupI H a ns ∧ TupI H b ns ∧ ns.length ≤ 1000 ∧ Q (.bl true) H
def spRight : Sp := fun vs H Q _ => ∃ (p : Addr), vs = [.ref p] ∧ Spr H p ∧ ∀ H', But p H H' → Q (.bl true) H'

def spRem : Sp := fun vs H Q _ => ∃ (t : Addr) (ns : List Int) (d : Int), vs = [.ref t, .int d] ∧ TupI H t ns ∧ (ns.length = 2 ∨ ns.length = 3) ∧ 2 ≤ d ∧ ∀ t' H', Same H H' → TupI H' t' (ns.map fun a => a % d) → Q (.ref t') H'

local macro_rules | `(tactic| walk_at "rc") => `(tactic| first | done | decide | omega | exact Or.inl ⟨by omega, by omega⟩ | exact Or.inr ⟨by omega, by omega⟩ | exact ⟨by omega, by omega⟩ | exact ⟨by omega, by omega, by decide⟩ | exact ⟨by decide, by decide, by decide⟩)
local macro_rules | `(tactic| walk_at "rd1") => `(tactic| first
  | (with_reducible refine L2.r_op ?_)
  | (with_reducible refine L2.r_c ?_)
  | ((with_reducible show L2.tVar _ _ _ _); (refine L2.r_var rfl ?_))
  | (with_reducible refine L2.r_I0 ?_)
  | ((with_reducible show L2.rI _ _ _ _ _ _); (refine L2.r_I (by walk_at "rc") ?_))
  | (with_reducible refine L2.r_cons ?_)
  | (with_reducible refine L2.r_nil ?_)
  | (with_reducible refine L2.r_cb ?_)
  | (with_reducible refine L2.r_call ?_)
  | (with_reducible refine L2.r_lst ?_)
  | (with_reducible refine L2.r_tup ?_)
  | (with_reducible refine L2.r_eqI ?_)
  | (with_reducible refine L2.r_neI ?_)
  | (with_reducible refine L2.r_eqB ?_)
  | (with_reducible refine L2.r_test ?_)
  | (with_reducible refine L2.r_B ?_)
  | (with_reducible refine L2.r_not ?_)
  | (with_reducible refine L2.r_and ?_)
  | (with_reducible refine L2.r_or ?_)
  | (with_reducible refine L2.r_andV ?_)
  | (with_reducible refine L2.r_orV ?_)
  | (with_reducible refine L2.r_notV ?_)
  | (with_reducible refine L2.r_if ?_)
  | (with_reducible refine L2.r_seqAsg ?_)
  | (with_reducible refine L2.r_asg ?_)
  | (with_reducible refine L2.r_seqSub ?_)
  | (with_reducible refine L2.r_sub ?_)
  | (with_reducible refine L2.r_seqPar ?_)
  | (with_reducible refine L2.r_par ?_)
  | (with_reducible refine L2.r_ret ?_)
  | (with_reducible refine L2.r_gcons ?_)
  | (with_reducible refine L2.r_gnil ?_)
  | (with_reducible refine L2.r_gsub ?_)
  | (with_reducible refine L2.r_bm ?_)
  | (with_reducible refine L2.r_bm0 ?_)
  | (with_reducible refine L2.r_sl ?_)
  | (with_reducible refine L2.r_nopart ?_)
  | (with_reducible refine L2.r_part ?_)
  | (with_reducible refine L2.r_callK ?_)
  | (with_reducible refine L2.r_yes ?_)
  | (with_reducible refine L2.r_gname ?_)
  | (with_reducible refine L2.r_seqDrop ?_)
  | (with_reducible refine L2.r_drop ?_)
  | (with_reducible refine L2.r_seqIf ?_)
  | (with_reducible refine L2.r_ifS ?_)
  | (with_reducible refine L2.r_next ?_)
  | (with_reducible refine L2.r_un ?_)
  | (with_reducible refine L2.r_seqAsgG ?_)
  | (with_reducible refine L2.r_asgG ?_))
local macro_rules | `(tactic| walk_at "rd") => `(tactic| repeat' (walk_at "rd1"))

section
variable {P : Program} {w : World} {K : PySem.W.Frag} {mg : Str → Option Value} {base : Heap} {A : Ad}

/-! _law_spring -/
theorem ok_law_spring (T : Txt K mg A) : FnOk P w K mg base CX0 1 A.a_law_spring A.f_law_spring ["_law_cell", "_law_k"] spSpring := by
  refine T.F_law_spring.ok sc_law_spring (fun vs H Q E h => ?_) (fun cdv A' outer s H vs Q E hr h => ⟨_, (pss_cons (ps_set (i := 2) sc_law_spring.nd rfl (Or.inl rfl) (pe_op op_mod (pe_callTy call_int1 (by rfl) T.n_int (by decide +kernel) (pa_cons (pe_op op_add (pe_op op_add (pe_op op_mul (pv 0) pe_int) (pe_op op_mul pe_int (pv 1))) pe_int) pa_nil)) pe_int))
    (pss_one (ps_ret (pe_lst (pa_cons (pe_callB (call_max2 rfl) (by rfl) T.n_max (by decide +kernel) (pa_cons pe_int (pa_cons (pe_op op_sub (pv 0) (pe_op op_pow pe_int pe_int)) pa_nil))) (pa_cons (pv 2) (pa_cons (pv 1) pa_nil))))))), ?_⟩)
  · obtain ⟨c, k, rfl, _⟩ := h
    rfl
  · obtain ⟨c, k, rfl, q⟩ := h
    walk_at "rd"
    refine Or.inl ⟨_, rfl, ?_⟩
    walk_at "rd"
    refine ⟨_, _, rfl, ?_⟩
    walk_at "rd"
    refine ⟨by show 3 ≤ sizeLine; decide, fun p hp => q p _ hp (Same.new0 hp) ⟨_, _, _, upd_same, ?_, ?_⟩⟩
    · exact Int.emod_nonneg _ (by decide)
    · exact Int.emod_lt_of_pos _ (by decide)


/-! _law_sip -/
theorem ok_law_sip (T : Txt K mg A) : FnOk P w K mg base CX0 1 A.a_law_sip A.f_law_sip ["_law_spring_here", "_law_many"] spSip := by
  refine T.F_law_sip.ok sc_law_sip (fun vs H Q E h => ?_) (fun cdv A' outer s H vs Q E hr h => ⟨_, (pss_cons (ps_if (pt_cmpR op_gt (pe_ix ix_list (pv 0) pe_int (fun _ _ => rfl)) pe_int (nomark _)) (pss_cons (ps_set (i := 3) sc_law_sip.nd rfl (Or.inl rfl) (pe_op op_mod (pe_callTy call_int1 (by rfl) T.n_int (by decide +kernel) (pa_cons (pe_ix ix_list (pv 0) pe_int (fun _ _ => rfl)) pa_nil)) (pv 1)))
    (pss_cons (ps_asg (pe_op op_fdivW (pe_ix ix_list (pv 0) pe_int (fun _ _ => rfl)) (pv 1)) (pg_sub (pv 0) pe_int set_list))
    (pss_one (ps_ret (pv 3))))) pss_nil)
    (pss_cons (ps_asg (pe_op op_add (pe_ix ix_list (pv 0) pe_int (fun _ _ => rfl)) pe_int) (pg_sub (pv 0) pe_int set_list))
    (pss_cons (ps_set (i := 2) sc_law_sip.nd rfl (Or.inl rfl) (pe_op op_add (pe_op op_add (pe_op op_mulW (pe_ix ix_list (pv 0) pe_int (fun _ _ => rfl)) (pe_op op_add (pe_ix ix_list (pv 0) pe_int (fun _ _ => rfl)) pe_int)) (pe_op op_mul pe_int (pe_ix ix_list (pv 0) pe_int (fun _ _ => rfl)))) pe_int))
    (pss_cons (ps_asg (pe_op op_mod (pe_callTy call_int1 (by rfl) T.n_int (by decide +kernel) (pa_cons (pv 2) pa_nil)) pe_int) (pg_sub (pv 0) pe_int set_list))
    (pss_one (ps_ret (pe_op op_mod (pe_callTy call_int1 (by rfl) T.n_int (by decide +kernel) (pa_cons (pe_op op_fdiv (pe_ix ix_list (pv 0) pe_int (fun _ _ => rfl)) pe_int) pa_nil)) (pv 1)))))))), ?_⟩)
  · obtain ⟨p, m, rfl, _⟩ := h
    rfl
  · obtain ⟨p, m, rfl, ⟨a, b, c, hp, hb0, hb1⟩, hm, hm2, q⟩ := h
    have i0 : ∀ x y z : V, atI [x, y, z] 0 = some x := fun _ _ _ => rfl
    have i1 : ∀ x y z : V, atI [x, y, z] 1 = some y := fun _ _ _ => rfl
    have i2 : ∀ x y z : V, atI [x, y, z] 2 = some z := fun _ _ _ => rfl
    have n0 : ∀ x y z : V, ixN [x, y, z].length 0 = some 0 := fun _ _ _ => rfl
    have n1 : ∀ x y z : V, ixN [x, y, z].length 1 = some 1 := fun _ _ _ => rfl
    have n2 : ∀ x y z : V, ixN [x, y, z].length 2 = some 2 := fun _ _ _ => rfl
    walk_at "rd"
    refine r_ixL (SqL.of hp) (i0 _ _ _) ?_
    walk_at "rd"
    refine ⟨_, rfl, ite2 (fun _ => ?_) (fun _ => ?_)⟩
    · walk_at "rd"
      refine r_ixL (SqL.of hp) (i0 _ _ _) ?_
      walk_at "rd"
      refine Or.inl ⟨_, rfl, ?_⟩
      walk_at "rd"
      refine r_ixL (SqL.of hp) (i0 _ _ _) ?_
      walk_at "rd"
      refine r_I (wide_div (b := 250) (by omega) (by omega) (by decide) (by decide)) ?_
      walk_at "rd"
      refine r_setL hp (n0 _ _ _) ?_
      walk_at "rd"
      exact q _ _ (Int.emod_nonneg _ (by omega)) (Int.emod_lt_of_pos _ (by omega)) ((But.refl _ _).mut) ⟨_, _, _, upd_same, hb0, hb1⟩
    · walk_at "rd"
      dsimp only
      walk_at "rd"
      refine r_ixL (SqL.of hp) (i2 _ _ _) ?_
      walk_at "rd"
      refine r_setL hp (n2 _ _ _) ?_
      walk_at "rd"
      refine r_ixL (SqL.of upd_same) (i1 _ _ _) ?_
      walk_at "rd"
      refine r_ixL (SqL.of upd_same) (i1 _ _ _) ?_
      walk_at "rd"
      refine r_I (wide_mul (a := 100) (b := 100) (by unfold MM at hb1; omega) (by unfold MM at hb1; omega) (by decide) (by decide) (by decide)) ?_
      walk_at "rd"
      refine r_ixL (SqL.of upd_same) (i2 _ _ _) ?_
      walk_at "rd"
      refine Or.inl ⟨_, rfl, ?_⟩
      walk_at "rd"
      refine r_setL upd_same (n1 _ _ _) ?_
      walk_at "rd"
      refine r_ixL (SqL.of upd_same) (i1 _ _ _) ?_
      walk_at "rd"
      refine Or.inl ⟨_, rfl, ?_⟩
      walk_at "rd"
      exact q _ _ (Int.emod_nonneg _ (by omega)) (Int.emod_lt_of_pos _ (by omega)) ((But.refl _ _).mut.mut) ⟨_, _, _, upd_same, Int.emod_nonneg _ (by decide), Int.emod_lt_of_pos _ (by decide)⟩


/-! _law_truth -/
theorem ok_law_truth (T : Txt K mg A) : FnOk P w K mg base CX0 1 A.a_law_truth A.f_law_truth ["_law_found", "_law_due"] spTruth := by
  refine T.F_law_truth.ok sc_law_truth (fun vs H Q E h => ?_) (fun cdv A' outer s H vs Q E hr h => ⟨_, (pss_one (ps_ret (pe_and (pe_callB call_isi (by rfl) T.n_isinstance (by decide +kernel) (pa_cons (pv 0) (pa_cons (pe_bltn (v := .ty "bool") (u := .type "bool") (by rfl) T.n_bool (by decide +kernel) rfl) pa_nil))) (pe_one (pe_cmpR op_eq (pv 0) (pv 1) (nomark _)))))), ?_⟩)
  · obtain ⟨p, m, rfl, _⟩ := h
    rfl
  · obtain ⟨a, b, rfl, q⟩ := h
    walk_at "rd"
    refine ⟨_, _, _, _, true, rfl, .ty "bool", .base (.bl a), kit_ty (by decide +kernel), ?_⟩
    refine ⟨_, rfl, iteT ?_⟩
    walk_at "rd"
    exact q


/-! common_divisor, divisor_of -/
theorem ok_common_divisor (T : Txt K mg A) : FnOk P w K mg base CX0 1 A.a_common_divisor A.f_common_divisor ["place"] (spGcd K) := by
  refine T.F_common_divisor.ok sc_common_divisor (fun vs H Q E h => ?_) (fun cdv A' outer s H vs Q E hr h => ⟨_, (pss_cons (ps_set (i := 1) sc_common_divisor.nd rfl (Or.inl rfl) pe_int)
    (pss_cons (ps_for PassesOwn.never rfl (pi_tup (pv 0)) (pg_name (i := 2) sc_common_divisor.nd rfl (Or.inl rfl))
      (pss_one (ps_set (i := 1) sc_common_divisor.nd rfl (Or.inl rfl) (pe_callBfun cr_gcd rfl T.m_gcd (pa_cons (pv 1) (pa_cons (pv 2) pa_nil))))))
    (pss_one (ps_ret (pv 1))))), ?_⟩)
  · obtain ⟨p, ns, rfl, _⟩ := h
    rfl
  · obtain ⟨t, ns, rfl, hT, q⟩ := h
    walk_at "rd"
    refine ⟨_, rfl, t, rfl, ⟨_, hT⟩, for_tup (K := K) (a := t) (xs := ns.map V.int) (fun i σ H' => ∃ (v : Option V), σ = [some (.ref t), some (.int (gcdL (ns.take i) : Nat)), v] ∧ H' = H)
      ⟨none, rfl, rfl⟩ (fun i σ H' _ ⟨_, _, e⟩ => e ▸ hT) ?_ ?_⟩
    · rintro i x σ H' hi ⟨v, rfl, rfl⟩
      obtain ⟨z, hz, rfl⟩ := ints_at hi
      walk_at "rd"
      refine ⟨_, _, rfl, some (.int z), ?_, rfl⟩
      rw [take_more hz, gcdL_append, gcdL_one]
      rfl
    · rintro σ H' ⟨v, rfl, rfl⟩
      rw [List.length_map, List.take_length]
      dsimp only
      walk_at "rd"
      exact q


theorem ok_divisor_of (T : Txt K mg A) : FnOk P w K mg base CX0 2 A.a_divisor_of A.f_divisor_of ["place"] (spDiv K) := by
  refine T.F_divisor_of.ok sc_divisor_of (fun vs H Q E h => ?_) (fun cdv A' outer s H vs Q E hr h => ⟨_, (pss_cons (ps_if (pt_cmpR op_notIn_seq (pe_callB call_len_seq (by rfl) T.n_len (by decide +kernel) (pa_cons (pv 0) pa_nil)) (pe_tup (pa_cons pe_int (pa_cons pe_int pa_nil))) (by rfl)) (pss_one ps_never) pss_nil)
    (pss_one (ps_ret (pe_call (ok_common_divisor T) (hr.mono (by decide)) rfl T.g_common_divisor T.k_common_divisor T.b_common_divisor .nil pass0 (pa_cons (pv 0) pa_nil))))), ?_⟩)
  · obtain ⟨p, ns, rfl, _⟩ := h
    rfl
  · obtain ⟨t, ns, rfl, hT, hl, q⟩ := h
    walk_at "rd"
    refine ⟨t, _, rfl, .inr hT, ?_⟩
    walk_at "rd"
    refine ⟨by show 2 ≤ sizeLine; decide, fun t2 nt2 => ?_⟩
    refine ⟨t2, _, rfl, .inr (SqT.of upd_same), rfl, rfl, _, rfl, ?_⟩
    have e : (if true = true then !inV (.int ((ns.map V.int).length : Nat)) [.int 2, .int 3] else inV (.int ((ns.map V.int).length : Nat)) [.int 2, .int 3]) = false := by
      rw [List.length_map]
      rcases hl with e | e <;> rw [e] <;> rfl
    refine (if_neg (by rw [e]; exact Bool.false_ne_true)).mpr ?_
    walk_at "rd"
    dsimp only
    walk_at "rd"
    exact ⟨t, ns, rfl, (Same.new0 nt2).tup hT, q _ (Same.new0 nt2)⟩


theorem ok_is_seen (T : Txt K mg A) : FnOk P w K mg base CX0 3 A.a_is_seen A.f_is_seen ["place"] (spSeen K) := by
  refine T.F_is_seen.ok sc_is_seen (fun vs H Q E h => ?_) (fun cdv A' outer s H vs Q E hr h => ⟨_, (pss_one (ps_ret (pe_cmpR op_eq (pe_call (ok_divisor_of T) (hr.mono (by decide)) rfl T.g_divisor_of T.k_divisor_of T.b_divisor_of .nil pass0 (pa_cons (pv 0) pa_nil)) pe_int (nomark _)))), ?_⟩)
  · obtain ⟨p, ns, rfl, _⟩ := h
    rfl
  · obtain ⟨t, ns, rfl, hT, hl, q⟩ := h
    walk_at "rd"
    refine ⟨t, ns, rfl, hT, hl, fun H' e => ?_⟩
    walk_at "rd"
    exact q _ e


/-! between, first_post -/
theorem ok_between (T : Txt K mg A) : FnOk P w K mg base CX0 3 A.a_between A.f_between ["place"] (spBetween K) := by
  refine T.F_between.ok sc_between (fun vs H Q E h => ?_) (fun cdv A' outer s H vs Q E hr h => ⟨_, (pss_one (ps_ret (pe_callB (call_max2 rfl) (by rfl) T.n_max (by decide +kernel) (pa_cons pe_int (pa_cons (pe_op op_sub (pe_call (ok_divisor_of T) (hr.mono (by decide)) rfl T.g_divisor_of T.k_divisor_of T.b_divisor_of .nil pass0 (pa_cons (pv 0) pa_nil)) pe_int) pa_nil))))), ?_⟩)
  · obtain ⟨p, ns, rfl, _⟩ := h
    rfl
  · obtain ⟨t, ns, rfl, hT, hl, q⟩ := h
    walk_at "rd"
    refine ⟨t, ns, rfl, hT, hl, fun H' e => ?_⟩
    walk_at "rd"
    refine ⟨_, _, rfl, ?_⟩
    have e2 : (if ((gcdL ns : Nat) : Int) - 1 > 0 then ((gcdL ns : Nat) : Int) - 1 else 0) = ((gcdL ns - 1 : Nat) : Int) := by split <;> omega
    rw [e2]
    exact q _ e


theorem ok_first_post (T : Txt K mg A) : FnOk P w K mg base CX0 3 A.a_first_post A.f_first_post ["place"] spFirst := by
  refine T.F_first_post.ok sc_first_post (fun vs H Q E h => ?_) (fun cdv A' outer s H vs Q E hr h => ⟨_, (pss_cons (ps_set (i := 1) sc_first_post.nd rfl (Or.inr rfl) (pe_call (ok_divisor_of T) (hr.mono (by decide)) rfl T.g_divisor_of T.k_divisor_of T.b_divisor_of .nil pass0 (pa_cons (pv 0) pa_nil)))
    (pss_cons (ps_if (pt_cmpR op_eq (pv 1) pe_int (nomark _)) (pss_one (ps_ret (pv 0))) pss_nil)
    (pss_one (ps_ret (pe_callTy call_tuple_of (by rfl) T.n_tuple (by decide +kernel) (pa_cons (pe_lc (own := [("number", 2)]) (g := gName 2) rfl sc_first_post.nd (pi_tup (pv 0)) (blkOk_by (own := [("number", 2)]) (N := N_first_post) (sc := defScope s_first_post) (by decide +kernel)) (fun _ _ _ _ _ => pg_name (i := 2) sc_first_post.nd rfl (Or.inl rfl)) (fun _ _ _ _ _ => pts_nil) (fun _ _ _ _ _ => (pe_op op_fdivW (pv 2) (pv 1)))) pa_nil)))))), ?_⟩)
  · obtain ⟨p, ns, rfl, _⟩ := h
    rfl
  · obtain ⟨t, ns, rfl, hT, hl, hb, q⟩ := h
    have hg := gcdL_lt (by decide : 0 < 2 ^ 250) ns hb
    walk_at "rd"
    refine ⟨t, ns, rfl, SqT.of hT, hl, fun H' e => ?_⟩
    walk_at "rd"
    refine ⟨_, rfl, ite2 (fun hc => ?_) (fun hc => ?_)⟩
    · have h0 : gcdL ns = 0 := by simpa using hc
      walk_at "rd"
      refine q t _ e ?_
      unfold firstL
      rw [if_pos h0]
      exact e _ _ hT
    · have h0 : gcdL ns ≠ 0 := fun z => hc (by rw [z]; rfl)
      walk_at "rd"
      dsimp only
      walk_at "rd"
      have hT' := e _ _ hT
      refine ⟨_, rfl, t, rfl, ⟨_, SqT.of hT'⟩, fun D nD => lc_tup (K := K) (a := t) (xs := ns.map V.int) (fun i H5 => Same H' H5 ∧ H5 D = some (.lst ((ns.take i).map fun a => V.int (a / ((gcdL ns : Nat) : Int)))))
        ⟨Same.new0 nD, upd_same⟩ (fun i H5 _ ⟨e, _⟩ => SqT.of (e _ _ hT')) ?_ ?_⟩
      · rintro i x H5 hi ⟨s5, hD⟩
        obtain ⟨z, hz, rfl⟩ := ints_at hi
        walk_at "rd"
        refine ⟨rfl, ?_⟩
        walk_at "rd"
        refine iteT ?_
        walk_at "rd"
        refine r_I (wide_div (b := 250) (by omega) (by omega) (by decide) (by decide)) ?_
        have hil : i < ns.length := (List.getElem?_eq_some_iff.mp hz).1
        refine ⟨_, hD, ?_, fun b o h => ?_, ?_⟩
        · rw [List.length_map, List.length_take]
          exact Nat.lt_of_lt_of_le (by omega) (by decide : 3 ≤ sizeLine)
        · rw [upd_ne (ne_of_none h nD)]
          exact s5 b o h
        · rw [upd_same, take_more hz, List.map_append]
          rfl
      · rintro H5 ⟨s5, hD⟩
        rw [List.length_map, List.take_length] at hD
        refine ⟨_, _, rfl, .inl ⟨SqL.of hD, fun tn ntn => ?_⟩⟩
        refine q tn _ ((e.trans s5).new ntn) (TupI.new ?_)
        unfold firstL
        rw [if_neg h0, List.map_map]
        rfl


/-! remainders, where nothing is raised -/
theorem ok_remainders (T : Txt K mg A) : FnOk P w K mg base CX0 1 A.a_remainders A.f_remainders ["place", "divisor"] spRem := by
  refine T.F_remainders.ok sc_remainders (fun vs H Q E h => ?_) (fun cdv A' outer s H vs Q E hr h => ⟨_, (pss_cons (ps_if (pt_cmpR op_notIn_seq (pe_callB call_len_seq (by rfl) T.n_len (by decide +kernel) (pa_cons (pv 0) pa_nil)) (pe_tup (pa_cons pe_int (pa_cons pe_int pa_nil))) (by rfl)) (pss_one ps_never) pss_nil)
    (pss_cons (ps_if (pt_cmpR op_lt (pv 1) pe_int (nomark _)) (pss_one ps_never) pss_nil)
    (pss_one (ps_ret (pe_callTy call_tuple_of (by rfl) T.n_tuple (by decide +kernel) (pa_cons (pe_lc (own := [("number", 2)]) (g := gName 2) rfl sc_remainders.nd (pi_tup (pv 0)) (blkOk_by (own := [("number", 2)]) (N := N_remainders) (sc := defScope s_remainders) (by decide +kernel)) (fun _ _ _ _ _ => pg_name (i := 2) sc_remainders.nd rfl (Or.inl rfl)) (fun _ _ _ _ _ => pts_nil) (fun _ _ _ _ _ => (pe_op op_mod (pv 2) (pv 1)))) pa_nil)))))), ?_⟩)
  · obtain ⟨p, ns, d, rfl, _⟩ := h
    rfl
  · obtain ⟨t, ns, d, rfl, hT, hl, hd, q⟩ := h
    walk_at "rd"
    refine ⟨t, _, rfl, .inr hT.sq, ?_⟩
    walk_at "rd"
    refine ⟨by show 2 ≤ sizeLine; decide, fun t2 nt2 => ?_⟩
    refine ⟨t2, _, rfl, .inr (SqT.of upd_same), rfl, rfl, _, rfl, iteFb ?_ ?_⟩
    · rw [List.length_map]
      rcases hl with e | e <;> rw [e] <;> rfl
    have s1 : Same H (upd H t2 (.tup [.int 2, .int 3])) := Same.new0 nt2
    have hT1 := hT.same s1
    walk_at "rd"
    dsimp only
    walk_at "rd"
    refine ⟨_, rfl, iteFb (decide_eq_false (by omega)) ?_⟩
    walk_at "rd"
    dsimp only
    walk_at "rd"
    refine ⟨_, rfl, t, rfl, ⟨_, hT1.sq⟩, fun D nD => lc_tup (K := K) (a := t) (xs := ns.map V.int) (fun i H5 => Same H H5 ∧ (upd H t2 (.tup [.int 2, .int 3])) D = none ∧ H5 D = some (.lst ((ns.take i).map fun a => V.int (a % d))))
      ⟨s1.new nD, nD, upd_same⟩ (fun i H5 _ ⟨e, _, _⟩ => (hT.same e).sq) ?_ ?_⟩
    · rintro i x H5 hi ⟨s5, _, hD⟩
      obtain ⟨z, hz, rfl⟩ := ints_at hi
      walk_at "rd"
      refine ⟨rfl, ?_⟩
      walk_at "rd"
      refine iteT ?_
      walk_at "rd"
      have hil : i < ns.length := (List.getElem?_eq_some_iff.mp hz).1
      refine ⟨_, hD, ?_, fun b o h => ?_, nD, ?_⟩
      · rw [List.length_map, List.length_take]
        exact Nat.lt_of_lt_of_le (by omega) (by decide : 3 ≤ sizeLine)
      · rw [upd_ne (ne_of_none (s1 b o h) nD)]
        exact s5 b o h
      · rw [upd_same, take_more hz, List.map_append]
        rfl
    · rintro H5 ⟨s5, _, hD⟩
      rw [List.length_map, List.take_length] at hD
      refine ⟨_, _, rfl, .inl ⟨SqL.of hD, fun tn ntn => ?_⟩⟩
      exact q tn _ (s5.new ntn) (TupI.new (by rw [List.map_map]; rfl))


theorem ok_law_whole (T : Txt K mg A) : FnOk P w K mg base CX0 1 A.a_law_whole A.f_law_whole ["_law_found"] spWhole := by
  refine T.F_law_whole.ok sc_law_whole (fun vs H Q E h => ?_) (fun cdv A' outer s H vs Q E hr h => ⟨_, (pss_one (ps_ret (pe_and (pe_callB call_isi (by rfl) T.n_isinstance (by decide +kernel) (pa_cons (pv 0) (pa_cons (pe_bltn (v := .ty "int") (u := .type "int") (by rfl) T.n_int (by decide +kernel) rfl) pa_nil))) (pe_one (pe_not (pe_callB call_isi (by rfl) T.n_isinstance (by decide +kernel) (pa_cons (pv 0) (pa_cons (pe_bltn (v := .ty "bool") (u := .type "bool") (by rfl) T.n_bool (by decide +kernel) rfl) pa_nil)))))))), ?_⟩)
  · obtain ⟨i, rfl, _⟩ := h
    rfl
  · obtain ⟨i, rfl, q⟩ := h
    walk_at "rd"
    refine ⟨_, _, _, _, true, rfl, .ty "int", .base (.int i), kit_ty (by decide +kernel), ?_⟩
    refine ⟨_, rfl, iteT ?_⟩
    walk_at "rd"
    refine ⟨_, _, _, _, false, rfl, .ty "bool", .base (.int i), kit_ty (by decide +kernel), ?_⟩
    exact ⟨_, rfl, q⟩


theorem ok_law_is_spot (T : Txt K mg A) : FnOk P w K mg base CX0 2 A.a_law_is_spot A.f_law_is_spot ["_law_found", "_law_due"] spIsSpot := by
  refine T.F_law_is_spot.ok sc_law_is_spot (fun vs H Q E h => ?_) (fun cdv A' outer s H vs Q E hr h => ⟨_, (pss_cons (ps_if (PW.pt (pw_or (pt_not (pt_val (pe_callB call_isi (by rfl) T.n_isinstance (by decide +kernel) (pa_cons (pv 0) (pa_cons (pe_bltn (v := .ty "tuple") (u := .type "tuple") (by rfl) T.n_tuple (by decide +kernel) rfl) pa_nil))))) (pw_or1 (pt_cmpR op_ne (pe_callB call_len_seq (by rfl) T.n_len (by decide +kernel) (pa_cons (pv 0) pa_nil)) (pe_callB call_len_seq (by rfl) T.n_len (by decide +kernel) (pa_cons (pv 1) pa_nil)) (nomark _))))) (pss_one (ps_ret pe_bl)) pss_nil)
    (pss_cons (ps_for PassesOwn.never rfl (pi_range1 rfl T.n_range (pa_cons (pe_callB call_len_seq (by rfl) T.n_len (by decide +kernel) (pa_cons (pv 1) pa_nil)) pa_nil)) (pg_name (i := 2) sc_law_is_spot.nd rfl (Or.inl rfl))
      (pss_one (ps_if (PW.pt (pw_or (pt_not (pt_val (pe_call (ok_law_whole T) (hr.mono (by decide)) rfl T.g_law_whole T.k_law_whole T.b_law_whole .nil pass0 (pa_cons (pe_ix ix_tup (pv 0) (pv 2) (fun _ _ => rfl)) pa_nil)))) (pw_or1 (pt_cmpR op_ne (pe_ix ix_tup (pv 0) (pv 2) (fun _ _ => rfl)) (pe_ix ix_tup (pv 1) (pv 2) (fun _ _ => rfl)) (nomark _))))) (pss_one (ps_ret pe_bl)) pss_nil)))
    (pss_one (ps_ret pe_bl)))), ?_⟩)
  · obtain ⟨a, b, ns, rfl, _⟩ := h
    rfl
  · obtain ⟨a, b, ns, rfl, ha, hb, hl, q⟩ := h
    walk_at "rd"
    refine ⟨_, _, _, _, true, rfl, .ty "tuple", .base (.tup ha), kit_ty (by decide +kernel), ?_⟩
    refine ⟨_, rfl, iteFb rfl ?_⟩
    walk_at "rd"
    refine ⟨a, _, rfl, .inr (SqT.of ha), ?_⟩
    walk_at "rd"
    refine ⟨b, _, rfl, .inr (SqT.of hb), ?_⟩
    walk_at "rd"
    refine ⟨_, rfl, iteFb (by rw [beq_self_eq_true]; rfl) ?_⟩
    walk_at "rd"
    dsimp only
    refine ⟨_, rfl, b, _, rfl, .inr (SqT.of hb), ?_⟩
    rw [List.length_map]
    refine ⟨_, rfl, by omega, by omega, for_range (n := ns.length) (fun i σ H' => ∃ v : Option V, σ = [some (.ref a), some (.ref b), v] ∧ H' = H) ⟨none, rfl, rfl⟩ ?_ ?_⟩
    · rintro i σ H' hi ⟨v, rfl, rfl⟩
      have hat : atI (ns.map V.int) (0 + (i : Int)) = some (.int ns[i]) := by
        rw [Int.zero_add]
        exact atI_nat (by rw [List.getElem?_map, List.getElem?_eq_getElem hi]; rfl)
      walk_at "rd"
      refine r_ixT (SqT.of ha) hat ?_
      walk_at "rd"
      refine ⟨_, rfl, ⟨_, rfl, iteFb rfl ?_⟩⟩
      walk_at "rd"
      refine r_ixT (SqT.of ha) hat ?_
      walk_at "rd"
      refine r_ixT (SqT.of hb) hat ?_
      walk_at "rd"
      refine ⟨_, rfl, iteFb (by rw [beq_self_eq_true]; rfl) ?_⟩
      walk_at "rd"
      exact ⟨_, rfl, rfl⟩
    · rintro σ H' ⟨v, rfl, rfl⟩
      dsimp only
      walk_at "rd"
      exact q

/-! a step -/
def Good (ns : List Int) : Prop := (ns.length = 2 ∨ ns.length = 3) ∧ (∀ a ∈ ns, a.natAbs < 10 ^ 29) ∧ gcdL ns = 1
def spStep : Sp := fun vs H Q _ => ∃ (p t : Addr) (ns : List Int), vs = [.ref p, .ref t] ∧ Spr H p ∧ TupI H t ns ∧ Good ns ∧ ∀ (t' : Addr) (ms : List Int) (H' : Hp), But p H H' → Spr H' p → TupI H' t' ms → Good ms → ms.length = ns.length → Q (.ref t') H'
theorem ok_law_step (T : Txt K mg A) : FnOk P w K mg base CX0 2 A.a_law_step A.f_law_step ["_law_spring_here", "_law_spot"] spStep := by
  refine T.F_law_step.ok sc_law_step (fun vs H Q E h => ?_) (fun cdv A' outer s H vs Q E hr h => ⟨_, (pss_cons (ps_set (i := 2) sc_law_step.nd rfl (Or.inl rfl) (pe_callTy call_list_of (by rfl) T.n_list (by decide +kernel) (pa_cons (pv 1) pa_nil)))
    (pss_cons (ps_set (i := 3) sc_law_step.nd rfl (Or.inl rfl) (pe_call (ok_law_sip T) (hr.mono (by decide)) rfl T.g_law_sip T.k_law_sip T.b_law_sip .nil pass0 (pa_cons (pv 0) (pa_cons (pe_callB call_len_seq (by rfl) T.n_len (by decide +kernel) (pa_cons (pv 2) pa_nil)) pa_nil))))
    (pss_cons (ps_set (i := 4) sc_law_step.nd rfl (Or.inl rfl) (pe_op op_mod (pe_op op_add (pe_op op_add (pv 3) pe_int) (pe_call (ok_law_sip T) (hr.mono (by decide)) rfl T.g_law_sip T.k_law_sip T.b_law_sip .nil pass0 (pa_cons (pv 0) (pa_cons (pe_op op_sub (pe_callB call_len_seq (by rfl) T.n_len (by decide +kernel) (pa_cons (pv 2) pa_nil)) pe_int) pa_nil)))) (pe_callB call_len_seq (by rfl) T.n_len (by decide +kernel) (pa_cons (pv 2) pa_nil))))
    (pss_cons (ps_set (i := 5) sc_law_step.nd rfl (Or.inl rfl) (pe_ix ix_list (pe_lst (pa_cons (pe_op op_sub (pe_call (ok_law_sip T) (hr.mono (by decide)) rfl T.g_law_sip T.k_law_sip T.b_law_sip .nil pass0 (pa_cons (pv 0) (pa_cons pe_int pa_nil))) pe_int) (pa_cons (pe_op op_add (pe_op op_sub (pe_call (ok_law_sip T) (hr.mono (by decide)) rfl T.g_law_sip T.k_law_sip T.b_law_sip .nil pass0 (pa_cons (pv 0) (pa_cons (pe_op op_sub (pe_op op_mul pe_int (pe_op op_pow pe_int pe_int)) pe_int) pa_nil))) (pe_op op_pow pe_int pe_int)) pe_int) pa_nil))) (pe_call (ok_law_sip T) (hr.mono (by decide)) rfl T.g_law_sip T.k_law_sip T.b_law_sip .nil pass0 (pa_cons (pv 0) (pa_cons pe_int pa_nil))) (fun _ _ => rfl)))
    (pss_cons (ps_if (pt_cmpR op_eq (pe_call (ok_law_sip T) (hr.mono (by decide)) rfl T.g_law_sip T.k_law_sip T.b_law_sip .nil pass0 (pa_cons (pv 0) (pa_cons pe_int pa_nil))) pe_int (nomark _)) (pss_cons (ps_asg (pe_tup (pa_cons (pe_ix ix_list (pv 2) (pv 4) (fun _ _ => rfl)) (pa_cons (pe_op op_sub pe_int (pe_ix ix_list (pv 2) (pv 3) (fun _ _ => rfl))) pa_nil))) (pg_tup rfl (pgs_cons (pg_sub (pv 2) (pv 3) set_list) (pgs_cons (pg_sub (pv 2) (pv 4) set_list) pgs_nil))))
    (pss_one (ps_ret (pe_callTy call_tuple_of (by rfl) T.n_tuple (by decide +kernel) (pa_cons (pv 2) pa_nil))))) pss_nil)
    (pss_cons (ps_set (i := 6) sc_law_step.nd rfl (Or.inl rfl) (pe_op op_add (pe_ix ix_list (pv 2) (pv 3) (fun _ _ => rfl)) (pe_op op_mul (pv 5) (pe_ix ix_list (pv 2) (pv 4) (fun _ _ => rfl)))))
    (Evl.pss_cut (ps_if (pt_cmpR op_lt (pe_callB (call_max2 rfl) (by rfl) T.n_max (by decide +kernel) (pa_cons (pv 6) (pa_cons (pe_op op_sub pe_int (pv 6)) pa_nil))) (pe_op op_pow pe_int pe_int) (nomark _)) (pss_one (ps_asg (pv 6) (pg_sub (pv 2) (pv 3) set_list))) pss_nil)
    (pss_one (ps_ret (pe_callTy call_tuple_of (by rfl) T.n_tuple (by decide +kernel) (pa_cons (pv 2) pa_nil))))))))))), ?_⟩)
  · obtain ⟨p, t, ns, rfl, _⟩ := h
    rfl
  · obtain ⟨p, t, ns, rfl, hS, hT, ⟨hn, hb, hg⟩, q⟩ := h
    walk_at "rd"
    refine ⟨t, _, rfl, .inr hT.sq, fun D nD => ?_⟩
    have nDp : D ≠ p := (hS.ne nD).symm
    have b1 : But p H (upd H D (.lst (ns.map V.int))) := (Same.new0 nD).but
    walk_at "rd"
    refine ⟨D, _, rfl, .inl (SqL.of upd_same), ?_⟩
    rw [List.length_map]
    refine ⟨p, _, rfl, hS.new nD, by omega, by omega, fun r1 H1 r10 r11 hB1 hS1 => ?_⟩
    have hD1 := hB1 D _ nDp upd_same
    walk_at "rd"
    refine ⟨D, _, rfl, .inl (SqL.of hD1), ?_⟩
    rw [List.length_map]
    walk_at "rd"
    refine ⟨p, _, rfl, hS1, by omega, by omega, fun r2 H2 r20 r21 hB2 hS2 => ?_⟩
    have hD2 := hB2 D _ nDp hD1
    walk_at "rd"
    refine ⟨D, _, rfl, .inl (SqL.of hD2), ?_⟩
    rw [List.length_map]
    refine r_I (by omega) ?_
    have ho0 : 0 ≤ (r1 + 1 + r2) % (ns.length : Int) := Int.emod_nonneg _ (by omega)
    have ho1 : (r1 + 1 + r2) % (ns.length : Int) < (ns.length : Int) := Int.emod_lt_of_pos _ (by omega)
    have hon : (r1 + 1 + r2) % (ns.length : Int) ≠ r1 := by
      rcases hn with e | e <;> rw [e] at r11 r21 ⊢ <;> omega
    generalize (r1 + 1 + r2) % (ns.length : Int) = o at ho0 ho1 hon
    obtain ⟨x, hx, hxa⟩ := at_int (ns := ns) r10 r11
    obtain ⟨y, hy, hya⟩ := at_int (ns := ns) ho0 ho1
    have hne : o.toNat ≠ r1.toNat := by omega
    have hxb := hb x (List.mem_of_getElem? hx)
    have hyb := hb y (List.mem_of_getElem? hy)
    have nD0 : H D = none := nD
    walk_at "rd"
    refine ⟨p, _, rfl, hS2, by decide, by decide, fun r3 H3 r30 r31 hB3 hS3 => ?_⟩
    walk_at "rd"
    refine ⟨p, _, rfl, hS3, by decide, by decide, fun r4 H4 r40 r41 hB4 hS4 => ?_⟩
    walk_at "rd"
    refine ⟨by show 2 ≤ sizeLine; decide, fun l nl => ?_⟩
    walk_at "rd"
    refine ⟨p, _, rfl, hS4.new nl, by decide, by decide, fun r5 H5 r50 r51 hB5 hS5 => ?_⟩
    have hl5 := hB5 l _ (hS4.ne nl).symm upd_same
    obtain ⟨k, hk0, hk1, hka⟩ : ∃ k : Int, -(2 ^ 64) < k ∧ k < 2 ^ 64 ∧ atI [V.int (r3 - 9), .int (r4 - 10 ^ Int.toNat 6 + 1)] r5 = some (.int k) := by
      have e : r5 = 0 ∨ r5 = 1 := by omega
      have e6 : (10 : Int) ^ Int.toNat 6 = 1000000 := by decide
      rw [e6] at r41 ⊢
      rcases e with e | e <;> subst e
      · exact ⟨r3 - 9, by omega, by omega, rfl⟩
      · exact ⟨r4 - 1000000 + 1, by omega, by omega, rfl⟩
    refine r_ixL (SqL.of hl5) hka ?_
    walk_at "rd"
    refine ⟨p, _, rfl, hS5, by decide, by decide, fun r6 H6 r60 r61 hB6 hS6 => ?_⟩
    have bA : But p H H6 := (((((b1.trans hB1).trans hB2).trans hB3).trans hB4).trans ((Same.new0 nl).but.trans hB5)).trans hB6
    have hD4 := hB4 D _ nDp (hB3 D _ nDp hD2)
    have hD6 := hB6 D _ nDp (hB5 D _ nDp ((Same.new0 nl) _ _ hD4))
    have bD : ∀ (o : HO), But p H (upd H6 D o) := fun o b u hb h => by
      have nb : b ≠ D := fun e => by
        subst e
        rw [nD0] at h
        cases h
      rw [upd_ne nb]
      exact bA b u hb h
    walk_at "rd"
    refine ⟨_, rfl, ite2 (fun hc => ?_) (fun hc => ?_)⟩
    · -- two coordinates exchanged
      walk_at "rd"
      refine r_ixL (SqL.of hD6) hya ?_
      walk_at "rd"
      refine r_ixL (SqL.of hD6) hxa ?_
      walk_at "rd"
      refine ⟨by show 2 ≤ sizeLine; decide, fun tp np => ?_⟩
      have hDt := (Same.new0 np (o := .tup [V.int y, V.int (0 - x)])) _ _ hD6
      refine r_gtup (SqT.of upd_same) rfl ?_
      walk_at "rd"
      refine r_setL hDt (ix_int r10 r11) ?_
      walk_at "rd"
      refine r_setL upd_same (j := o.toNat) ?_ ?_
      · rw [List.length_set]
        exact ix_int ho0 ho1
      walk_at "rd"
      have ntD : D ≠ tp := ne_of_none hD6 np
      refine ⟨D, _, rfl, .inl ⟨SqL.of upd_same, fun t' nt' => ?_⟩⟩
      refine q t' ((ns.set r1.toNat y).set o.toNat (0 - x)) _ ?_ ?_ (TupI.new ?_) ⟨?_, ?_, ?_⟩ ?_
      · refine But.new (fun b u hb h => ?_) nt'
        have nb : b ≠ D := fun e => by
          subst e
          rw [nD0] at h
          cases h
        have h6 := bA b u hb h
        rw [upd_ne nb, upd_ne nb, upd_ne (ne_of_none h6 np)]
        exact h6
      · exact (((hS6.new np).put nDp).put nDp).new nt'
      · rw [List.map_set, List.map_set]
      · rw [List.length_set, List.length_set]
        exact hn
      · intro a ha
        rcases List.mem_or_eq_of_mem_set ha with e | e
        · rcases List.mem_or_eq_of_mem_set e with e | e
          · exact hb a e
          · rw [e]
            exact hyb
        · rw [e]
          omega
      · rw [gcdL_swap hne hx hy]
        exact hg
      · rw [List.length_set, List.length_set]
    · -- a multiple added
      walk_at "rd"
      (try dsimp only)
      walk_at "rd"
      refine r_ixL (SqL.of hD6) hxa ?_
      walk_at "rd"
      refine r_ixL (SqL.of hD6) hya ?_
      refine r_I (.inl ⟨hk0, hk1⟩) ?_
      walk_at "rd"
      refine r_cutIf (fun σ' H' => ∃ (u1 u2 u3 : Option V) (ms : List Int), σ' = [some (.ref p), some (.ref t), some (.ref D), some (.int r1), u1, u2, u3] ∧ H' D = some (.lst (ms.map V.int)) ∧ Good ms ∧ ms.length = ns.length ∧ But p H H' ∧ Spr H' p) ?_ ?_
      · walk_at "rd"
        refine ⟨_, _, rfl, ?_⟩
        walk_at "rd"
        refine ⟨_, rfl, ite2 (fun hc => ?_) (fun hc => ?_)⟩
        · have hlt := of_decide_eq_true hc
          walk_at "rd"
          refine r_setL hD6 (ix_int r10 r11) ?_
          refine ⟨_, _, _, ns.set r1.toNat (x + k * y), rfl, by rw [upd_same, List.map_set], ⟨by rw [List.length_set]; exact hn, fun a ha => ?_, by rw [gcdL_shear hne hx hy]; exact hg⟩, by rw [List.length_set], bD _, hS6.put nDp⟩
          rcases List.mem_or_eq_of_mem_set ha with e | e
          · exact hb a e
          · rw [e]
            have e29 : (10 : Int) ^ Int.toNat 29 = 100000000000000000000000000000 := by decide
            rw [e29] at hlt
            generalize x + k * y = z at hlt ⊢
            split at hlt <;> omega
        · walk_at "rd"
          exact ⟨_, _, _, ns, rfl, hD6, ⟨hn, hb, hg⟩, rfl, bA, hS6⟩
      · rintro σ' H7 ⟨u1, u2, u3, ms, rfl, hD7, hG, hml, hB7, hS7⟩
        walk_at "rd"
        refine ⟨D, _, rfl, .inl ⟨SqL.of hD7, fun t' nt' => ?_⟩⟩
        exact q t' ms _ (hB7.new nt') (hS7.new nt') upd_same hG hml
/-! one row of places -/
theorem firstL_one {ns : List Int} (h : gcdL ns = 1) : firstL ns = ns := by
  unfold firstL
  rw [if_neg (by omega), h]
  conv => rhs; rw [← List.map_id ns]
  exact List.map_congr_left fun a _ => Int.ediv_one a
theorem gcdL_times {ns : List Int} {k : Int} (h : gcdL ns = 1) : gcdL (ns.map fun a => k * a) = k.natAbs := by
  have e := gcdL_mul ns k
  rw [h, Nat.one_mul] at e
  rw [← e]
  exact congrArg gcdL (List.map_congr_left fun a _ => Int.mul_comm _ _)
theorem firstL_times {ns : List Int} {s m : Int} (h : gcdL ns = 1) (hm : 0 < m) (hs : s = 1 ∨ s = -1) : firstL (ns.map fun a => s * m * a) = ns.map fun a => s * a := by
  have hg : gcdL (ns.map fun a => s * m * a) = m.natAbs := by
    rw [gcdL_times h, Int.natAbs_mul]
    rcases hs with e | e <;> subst e <;> exact Nat.one_mul _
  unfold firstL
  rw [if_neg (by omega), hg, List.map_map]
  refine List.map_congr_left fun a _ => ?_
  have e : ((m.natAbs : Nat) : Int) = m := by omega
  show s * m * a / ((m.natAbs : Nat) : Int) = s * a
  rw [e, Int.mul_assoc, Int.mul_comm m a, ← Int.mul_assoc]
  exact Int.mul_ediv_cancel _ (by omega)
def spRowRight : Sp := fun vs H Q _ => ∃ (t : Addr) (ns : List Int) (by' more : Int), vs = [.ref t, .int by', .int more] ∧ TupI H t ns ∧ Good ns ∧ 1 ≤ by' ∧ by' ≤ 10 ^ 16 ∧ 1 ≤ more ∧ more ≤ 10 ^ 16 ∧ ∀ H', Same H H' → Q (.bl true) H'
theorem ok_law_row_right (T : Txt K mg A) : FnOk P w K mg base CX0 4 A.a_law_row_right A.f_law_row_right ["_law_spot", "_law_by", "_law_more"] spRowRight := by
  refine T.F_law_row_right.ok sc_law_row_right (fun vs H Q E h => ?_) (fun cdv A' outer s H vs Q E hr h => ⟨_, (pss_cons (ps_if (PW.pt (pw_or (pt_not (pt_val (pe_call (ok_law_truth T) (hr.mono (by decide)) rfl T.g_law_truth T.k_law_truth T.b_law_truth .nil pass0 (pa_cons (pe_call (ok_is_seen T) (hr.mono (by decide)) rfl T.g_is_seen T.k_is_seen T.b_is_seen .nil pass0 (pa_cons (pv 0) pa_nil)) (pa_cons pe_bl pa_nil))))) (pw_or (pt_cmpR op_ne (pe_call (ok_between T) (hr.mono (by decide)) rfl T.g_between T.k_between T.b_between .nil pass0 (pa_cons (pv 0) pa_nil)) pe_int (nomark _)) (pw_or1 (pt_not (pt_val (pe_call (ok_law_is_spot T) (hr.mono (by decide)) rfl T.g_law_is_spot T.k_law_is_spot T.b_law_is_spot .nil pass0 (pa_cons (pe_call (ok_first_post T) (hr.mono (by decide)) rfl T.g_first_post T.k_first_post T.b_first_post .nil pass0 (pa_cons (pv 0) pa_nil)) (pa_cons (pv 0) pa_nil))))))))) (pss_one (ps_ret pe_bl)) pss_nil)
    (pss_cons (ps_for PassesOwn.never rfl (pi_list (pe_lst (pa_cons pe_int (pa_cons (pe_op op_sub pe_int pe_int) pa_nil)))) (pg_name (i := 3) sc_law_row_right.nd rfl (Or.inr rfl))
      (pss_cons (ps_set (i := 4) sc_law_row_right.nd rfl (Or.inl rfl) (pe_callTy call_tuple_of (by rfl) T.n_tuple (by decide +kernel) (pa_cons (pe_lc (own := [("_law_value", 6)]) (g := gName 6) rfl sc_law_row_right.nd (pi_tup (pv 0)) (blkOk_by (own := [("_law_value", 6)]) (N := N_law_row_right) (sc := defScope s_law_row_right) (by decide +kernel)) (fun _ _ _ _ _ => pg_name (i := 6) sc_law_row_right.nd rfl (Or.inl rfl)) (fun _ _ _ _ _ => pts_nil) (fun _ _ _ _ _ => (pe_op op_mulW (pe_op op_mul (pe_op op_mul (pv 3) (pv 1)) (pv 2)) (pv 6)))) pa_nil)))
    (pss_cons (ps_set (i := 5) sc_law_row_right.nd rfl (Or.inl rfl) (pe_callTy call_tuple_of (by rfl) T.n_tuple (by decide +kernel) (pa_cons (pe_lc (own := [("_law_value", 6)]) (g := gName 6) rfl sc_law_row_right.nd (pi_tup (pv 0)) (blkOk_by (own := [("_law_value", 6)]) (N := N_law_row_right) (sc := defScope s_law_row_right) (by decide +kernel)) (fun _ _ _ _ _ => pg_name (i := 6) sc_law_row_right.nd rfl (Or.inl rfl)) (fun _ _ _ _ _ => pts_nil) (fun _ _ _ _ _ => (pe_op op_mul (pv 3) (pv 6)))) pa_nil)))
    (pss_cons (ps_if (PW.pt (pw_or (pt_not (pt_val (pe_call (ok_law_truth T) (hr.mono (by decide)) rfl T.g_law_truth T.k_law_truth T.b_law_truth .nil pass0 (pa_cons (pe_call (ok_is_seen T) (hr.mono (by decide)) rfl T.g_is_seen T.k_is_seen T.b_is_seen .nil pass0 (pa_cons (pv 4) pa_nil)) (pa_cons (pe_cmpR op_eq (pe_op op_mul (pv 1) (pv 2)) pe_int (nomark _)) pa_nil))))) (pw_or1 (pt_not (pt_val (pe_call (ok_law_whole T) (hr.mono (by decide)) rfl T.g_law_whole T.k_law_whole T.b_law_whole .nil pass0 (pa_cons (pe_call (ok_between T) (hr.mono (by decide)) rfl T.g_between T.k_between T.b_between .nil pass0 (pa_cons (pv 4) pa_nil)) pa_nil))))))) (pss_one (ps_ret pe_bl)) pss_nil)
    (pss_cons (ps_if (PW.pt (pw_or (pt_cmpR op_ne (pe_call (ok_between T) (hr.mono (by decide)) rfl T.g_between T.k_between T.b_between .nil pass0 (pa_cons (pv 4) pa_nil)) (pe_op op_sub (pe_op op_mul (pv 1) (pv 2)) pe_int) (nomark _)) (pw_or1 (pt_not (pt_val (pe_call (ok_law_is_spot T) (hr.mono (by decide)) rfl T.g_law_is_spot T.k_law_is_spot T.b_law_is_spot .nil pass0 (pa_cons (pe_call (ok_first_post T) (hr.mono (by decide)) rfl T.g_first_post T.k_first_post T.b_first_post .nil pass0 (pa_cons (pv 4) pa_nil)) (pa_cons (pv 5) pa_nil)))))))) (pss_one (ps_ret pe_bl)) pss_nil)
    (pss_one (ps_if (PW.pt (pw_and (pt_cmpR op_gt (pv 1) pe_int (nomark _)) (pw_and1 (pt_not (pt_val (pe_call (ok_law_is_spot T) (hr.mono (by decide)) rfl T.g_law_is_spot T.k_law_is_spot T.b_law_is_spot .nil pass0 (pa_cons (pe_call (ok_remainders T) (hr.mono (by decide)) rfl T.g_remainders T.k_remainders T.b_remainders .nil pass0 (pa_cons (pv 4) (pa_cons (pv 1) pa_nil))) (pa_cons (pe_callTy call_tuple_of (by rfl) T.n_tuple (by decide +kernel) (pa_cons (pe_op op_rep (pe_lst (pa_cons pe_int pa_nil)) (pe_callB call_len_seq (by rfl) T.n_len (by decide +kernel) (pa_cons (pv 0) pa_nil))) pa_nil)) pa_nil)))))))) (pss_one (ps_ret pe_bl)) pss_nil)))))))
    (pss_one (ps_ret (pe_cmpR (op_neD hr.units) (pe_call (ok_remainders T) (hr.mono (by decide)) rfl T.g_remainders T.k_remainders T.b_remainders .nil pass0 (pa_cons (pv 0) (pa_cons (pe_op op_add (pv 1) pe_int) pa_nil))) (pe_callTy call_tuple_of (by rfl) T.n_tuple (by decide +kernel) (pa_cons (pe_op op_rep (pe_lst (pa_cons pe_int pa_nil)) (pe_callB call_len_seq (by rfl) T.n_len (by decide +kernel) (pa_cons (pv 0) pa_nil))) pa_nil)) (nomark _)))))), ?_⟩)
  · obtain ⟨t, ns, b, m, rfl, _⟩ := h
    rfl
  · obtain ⟨t, ns, b, m, rfl, hT, ⟨hn, hb, hg⟩, b1, b2, m1, m2, q⟩ := h
    have hb' : ∀ a ∈ ns, a.natAbs < 2 ^ 250 := fun a ha => Nat.lt_of_lt_of_le (hb a ha) (by decide)
    walk_at "rd"
    refine ⟨t, ns, rfl, hT.sq, hn, fun H1 s1 => ?_⟩
    walk_at "rd"
    refine ⟨_, _, rfl, _, rfl, iteFb (by rw [hg]; rfl) ?_⟩
    walk_at "rd"
    refine ⟨t, ns, rfl, (hT.same s1).sq, hn, fun H2 s2 => ?_⟩
    walk_at "rd"
    refine ⟨_, rfl, iteFb (by rw [hg]; rfl) ?_⟩
    walk_at "rd"
    refine ⟨t, ns, rfl, (hT.same s1).same s2, hn, hb', fun f H3 s3 hF => ?_⟩
    rw [firstL_one hg] at hF
    have s03 := (s1.trans s2).trans s3
    walk_at "rd"
    refine ⟨f, t, ns, rfl, hF, hT.same s03, by omega, ?_⟩
    refine ⟨_, rfl, iteFb rfl ?_⟩
    walk_at "rd"
    (try dsimp only)
    walk_at "rd"
    -- both signs
    refine ⟨_, _, rfl, rfl, by show 2 ≤ sizeLine; decide, fun l nl => ?_⟩
    refine ⟨l, rfl, ⟨_, SqL.of upd_same⟩, for_list (K := K) (a := l) (xs := [.int 1, .int (0 - 1)]) (fun i σ H' => ∃ (u1 u2 u3 : Option V), σ = [some (.ref t), some (.int b), some (.int m), u1, u2, u3, none] ∧ Same H H' ∧ H' l = some (.lst [.int 1, .int (0 - 1)]))
      ⟨none, none, none, rfl, s03.new nl, upd_same⟩ (fun i σ H' _ ⟨_, _, _, _, _, e⟩ => SqL.of e) ?_ ?_⟩
    · rintro i x σ H' hi ⟨u1, u2, u3, rfl, sH, hl⟩
      obtain ⟨sg, rfl, hsg⟩ : ∃ sg : Int, x = .int sg ∧ (sg = 1 ∨ sg = -1) := by
        match i, hi with
        | 0, hi => exact ⟨1, (Option.some.inj hi).symm, .inl rfl⟩
        | 1, hi => exact ⟨0 - 1, (Option.some.inj hi).symm, .inr rfl⟩
      have hTa := hT.same sH
      have hbm0 : 0 < b * m := Int.mul_pos (by omega) (by omega)
      have hbm : (b * m).natAbs < 2 ^ 160 := wide_lt (a := 80) (b := 80) (by omega) (by omega)
      have hsbm : (sg * b * m).natAbs < 2 ^ 170 := by
        rw [Int.mul_assoc]
        exact Nat.lt_of_lt_of_le (wide_lt (a := 10) (b := 160) (by omega) hbm) (by decide)
      walk_at "rd"
      -- the place times the factor
      refine ⟨_, rfl, t, rfl, ⟨_, hTa.sq⟩, fun D nD => lc_tup (K := K) (a := t) (xs := ns.map V.int) (fun j H5 => Same H' H5 ∧ H5 D = some (.lst ((ns.take j).map fun a => V.int (sg * b * m * a))))
        ⟨Same.new0 nD, upd_same⟩ (fun j H5 _ ⟨e, _⟩ => (hTa.same e).sq) ?_ ?_⟩
      · rintro j x H5 hj ⟨s5, hD⟩
        obtain ⟨z, hz, rfl⟩ := ints_at hj
        walk_at "rd"
        refine ⟨rfl, ?_⟩
        walk_at "rd"
        refine iteT ?_
        walk_at "rd"
        refine r_I (wide_mul (a := 170) (b := 250) hsbm (hb' z (List.mem_of_getElem? hz)) (by decide) (by decide) (by decide)) ?_
        have hjl : j < ns.length := (List.getElem?_eq_some_iff.mp hz).1
        refine ⟨_, hD, ?_, fun b o h => ?_, ?_⟩
        · rw [List.length_map, List.length_take]
          exact Nat.lt_of_lt_of_le (by omega) (by decide : 3 ≤ sizeLine)
        · rw [upd_ne (ne_of_none h nD)]
          exact s5 b o h
        · rw [upd_same, take_more hz, List.map_append]
          rfl
      · rintro H5 ⟨s5, hD⟩
        rw [List.length_map, List.take_length] at hD
        refine ⟨_, _, rfl, .inl ⟨SqL.of hD, fun ta nta => ?_⟩⟩
        have hA : TupI (upd H5 ta (.tup (ns.map fun a => V.int (sg * b * m * a)))) ta (ns.map fun a => sg * (b * m) * a) := by
          unfold TupI
          rw [upd_same, List.map_map]
          exact congrArg some (congrArg HO.tup (List.map_congr_left fun a _ => by rw [Int.mul_assoc sg b m]; rfl))
        have s6 := s5.new nta (o := .tup (ns.map fun a => V.int (sg * b * m * a)))
        have hTb := hTa.same s6
        walk_at "rd"
        -- the sign alone
        refine ⟨_, rfl, t, rfl, ⟨_, hTb.sq⟩, fun D2 nD2 => lc_tup (K := K) (a := t) (xs := ns.map V.int) (fun j H7 => Same (upd H5 ta (.tup (ns.map fun a => V.int (sg * b * m * a)))) H7 ∧ H7 D2 = some (.lst ((ns.take j).map fun a => V.int (sg * a))))
          ⟨Same.new0 nD2, upd_same⟩ (fun j H7 _ ⟨e, _⟩ => (hTb.same e).sq) ?_ ?_⟩
        · rintro j x H7 hj ⟨s7, hD2⟩
          obtain ⟨z, hz, rfl⟩ := ints_at hj
          walk_at "rd"
          refine ⟨rfl, ?_⟩
          walk_at "rd"
          refine iteT ?_
          walk_at "rd"
          have hjl : j < ns.length := (List.getElem?_eq_some_iff.mp hz).1
          refine ⟨_, hD2, ?_, fun b o h => ?_, ?_⟩
          · rw [List.length_map, List.length_take]
            exact Nat.lt_of_lt_of_le (by omega) (by decide : 3 ≤ sizeLine)
          · rw [upd_ne (ne_of_none h nD2)]
            exact s7 b o h
          · rw [upd_same, take_more hz, List.map_append]
            rfl
        · rintro H7 ⟨s7, hD2⟩
          rw [List.length_map, List.take_length] at hD2
          refine ⟨_, _, rfl, .inl ⟨SqL.of hD2, fun td ntd => ?_⟩⟩
          have hDu : TupI (upd H7 td (.tup (ns.map fun a => V.int (sg * a)))) td (ns.map fun a => sg * a) := TupI.new (by rw [List.map_map]; rfl)
          have s8 := s7.new ntd (o := .tup (ns.map fun a => V.int (sg * a)))
          have hA8 := hA.same s8
          have hla : (ns.map fun a => sg * (b * m) * a).length = 2 ∨ (ns.map fun a => sg * (b * m) * a).length = 3 := by rw [List.length_map]; exact hn
          have hga : gcdL (ns.map fun a => sg * (b * m) * a) = (b * m).natAbs := by
            rw [gcdL_times hg, Int.natAbs_mul]
            rcases hsg with e | e <;> subst e <;> exact Nat.one_mul _
          have hgi : ((gcdL (ns.map fun a => sg * (b * m) * a) : Nat) : Int) = b * m := by rw [hga]; omega
          have hba : ∀ a ∈ ns.map fun a => sg * (b * m) * a, a.natAbs < 2 ^ 250 := by
            intro a ha
            obtain ⟨v, hv, rfl⟩ := List.mem_map.mp ha
            refine Nat.lt_of_lt_of_le (wide_lt (a := 140) (b := 100) ?_ ?_) (by decide)
            · rw [Int.natAbs_mul]
              have h1 : sg.natAbs = 1 := by omega
              have h2 : (b * m).natAbs < 2 ^ (60 + 60) := wide_lt (a := 60) (b := 60) (by omega) (by omega)
              rw [h1, Nat.one_mul]
              exact Nat.lt_of_lt_of_le h2 (by decide)
            · exact Nat.lt_of_lt_of_le (hb v hv) (by decide)
          walk_at "rd"
          refine ⟨ta, _, rfl, hA8.sq, hla, fun H9 s9 => ?_⟩
          walk_at "rd"
          refine ⟨_, _, rfl, _, rfl, iteFb (by rw [hgi, beq_self_eq_true]; rfl) ?_⟩
          walk_at "rd"
          refine ⟨ta, _, rfl, (hA8.same s9).sq, hla, fun H10 s10 => ?_⟩
          walk_at "rd"
          refine ⟨_, rfl, _, rfl, iteFb rfl ?_⟩
          walk_at "rd"
          (try dsimp only)
          walk_at "rd"
          have hA10 := (hA8.same s9).same s10
          refine ⟨ta, _, rfl, hA10.sq, hla, fun H11 s11 => ?_⟩
          walk_at "rd"
          have e1 : ((gcdL (ns.map fun a => sg * (b * m) * a) - 1 : Nat) : Int) = b * m - 1 := by omega
          refine ⟨_, rfl, iteFb (by rw [e1, beq_self_eq_true]; rfl) ?_⟩
          walk_at "rd"
          refine ⟨ta, _, rfl, hA10.same s11, hla, hba, fun f2 H12 s12 hF2 => ?_⟩
          rw [firstL_times hg hbm0 hsg] at hF2
          walk_at "rd"
          have s8c := ((s9.trans s10).trans s11).trans s12
          refine ⟨f2, td, _, rfl, hF2, hDu.same s8c, by rw [List.length_map]; omega, ?_⟩
          refine ⟨_, rfl, iteFb rfl ?_⟩
          walk_at "rd"
          (try dsimp only)
          walk_at "rd"
          have sTop : Same H' H12 := (s6.trans s8).trans s8c
          refine ⟨_, rfl, ite2 (fun hc => ?_) (fun hc => ?_)⟩
          · have hb2 : 1 < b := of_decide_eq_true hc
            walk_at "rd"
            refine ⟨ta, _, b, rfl, (hA10.same s11).same s12, hla, by omega, fun tr H13 s13 hR => ?_⟩
            have ez : ((ns.map fun a => sg * (b * m) * a).map fun a => a % b) = List.replicate ns.length 0 := by
              rw [List.map_map]
              refine List.eq_replicate_iff.mpr ⟨by rw [List.length_map], fun a ha => ?_⟩
              obtain ⟨v, _, rfl⟩ := List.mem_map.mp ha
              refine Int.emod_eq_zero_of_dvd ⟨sg * m * v, ?_⟩
              show sg * (b * m) * v = b * (sg * m * v)
              rw [Int.mul_left_comm sg b m, Int.mul_assoc b]
            rw [ez] at hR
            walk_at "rd"
            refine ⟨by show 1 ≤ sizeLine; decide, fun l1 n1 => ?_⟩
            walk_at "rd"
            have s14 := s13.new n1 (o := .lst [V.int 0])
            refine ⟨t, _, rfl, .inr (hTa.same (sTop.trans s14)).sq, ?_⟩
            rw [List.length_map]
            refine ⟨l1, _, _, rfl, rfl, upd_same, by omega, by omega, ?_, fun l2 n2 => ?_⟩
            · rw [Int.toNat_natCast]
              exact Nat.le_trans (show 1 * ns.length ≤ 3 by omega) (by decide)
            rw [rep_ints]
            refine ⟨l2, _, rfl, .inl ⟨SqL.of upd_same, fun tz ntz => ?_⟩⟩
            walk_at "rd"
            have s16 := ((Same.new0 n1 (o := .lst [V.int 0])).new n2 (o := .lst ((List.replicate ns.length 0).map V.int))).new ntz (o := .tup ((List.replicate ns.length 0).map V.int))
            refine ⟨tr, tz, _, rfl, hR.same s16, upd_same, by rw [List.length_replicate]; omega, ?_⟩
            refine ⟨_, rfl, iteFb rfl ?_⟩
            walk_at "rd"
            have sE := (sTop.trans s13).trans s16
            exact ⟨_, _, _, rfl, sH.trans sE, sE _ _ hl⟩
          · walk_at "rd"
            refine iteF ?_
            walk_at "rd"
            exact ⟨_, _, _, rfl, sH.trans sTop, sTop _ _ hl⟩
    · rintro σ H' ⟨u1, u2, u3, rfl, sH, hl⟩
      (try dsimp only)
      have hTa := hT.same sH
      walk_at "rd"
      refine ⟨t, ns, b + 1, rfl, hTa, hn, by omega, fun tr H1 s1 hR => ?_⟩
      walk_at "rd"
      refine ⟨by show 1 ≤ sizeLine; decide, fun l1 n1 => ?_⟩
      walk_at "rd"
      refine ⟨t, _, rfl, .inr (hTa.same (s1.new n1)).sq, ?_⟩
      rw [List.length_map]
      refine ⟨l1, _, _, rfl, rfl, upd_same, by omega, by omega, ?_, fun l2 n2 => ?_⟩
      · rw [Int.toNat_natCast]
        exact Nat.le_trans (show 1 * ns.length ≤ 3 by omega) (by decide)
      rw [rep_ints]
      refine ⟨l2, _, rfl, .inl ⟨SqL.of upd_same, fun tz ntz => ?_⟩⟩
      have s16 := ((Same.new0 n1 (o := .lst [V.int 0])).new n2 (o := .lst ((List.replicate ns.length 0).map V.int))).new ntz (o := .tup ((List.replicate ns.length 0).map V.int))
      refine neD_tup (hR.same s16).sq (SqT.of upd_same) ?_
      have hne : ¬ (ns.map fun a => a % (b + 1)) = List.replicate ns.length 0 := by
        intro h
        have hd : (b + 1).natAbs ∣ gcdL ns := by
          refine dvd_gcdL ns fun a ha => ?_
          have h1 : a % (b + 1) ∈ List.replicate ns.length (0 : Int) := by
            rw [← h]
            exact List.mem_map.mpr ⟨a, ha, rfl⟩
          have h2 := List.eq_of_mem_replicate h1
          have e : (((b + 1).natAbs : Nat) : Int) = b + 1 := by omega
          rw [e]
          exact Int.dvd_of_emod_eq_zero h2
        rw [hg] at hd
        have := Nat.le_of_dvd (by decide) hd
        omega
      rw [decide_eq_false hne]
      exact q _ ((sH.trans s1).trans s16)
theorem ok_law (T : Txt K mg A) : FnOk P w K mg base CX0 5 A.a_law A.f_law ["_law_script"] (spLaw K) := by
  refine T.F_law.ok sc_law (fun vs H Q E h => ?_) (fun cdv A' outer s H vs Q E hr h => ⟨_, (pss_cons (ps_set (i := 1) sc_law.nd rfl (Or.inl rfl) (pe_tup (pa_cons pe_int (pa_cons pe_int pa_nil))))
    (pss_cons (ps_set (i := 2) sc_law.nd rfl (Or.inl rfl) (pe_tup (pa_cons pe_int (pa_cons pe_int (pa_cons pe_int pa_nil)))))
    (pss_cons (ps_for PassesOwn.never rfl (pi_range1 rfl T.n_range (pa_cons (pe_callB (call_max2 rfl) (by rfl) T.n_max (by decide +kernel) (pa_cons pe_int (pa_cons (pe_callB (call_min2 rfl) (by rfl) T.n_min (by decide +kernel) (pa_cons (pe_callB call_len_seq (by rfl) T.n_len (by decide +kernel) (pa_cons (pv 0) pa_nil)) (pa_cons pe_int pa_nil))) pa_nil))) pa_nil)) (pg_name (i := 3) sc_law.nd rfl (Or.inl rfl))
      (pss_cons (ps_set (i := 4) sc_law.nd rfl (Or.inl rfl) (pe_call (ok_law_spring T) (hr.mono (by decide)) rfl T.g_law_spring T.k_law_spring T.b_law_spring .nil pass0 (pa_cons (pe_ix ix_list (pe_op op_catR (pv 0) (pe_lst (pa_cons pe_int pa_nil))) (pe_callB (call_min2 rfl) (by rfl) T.n_min (by decide +kernel) (pa_cons (pv 3) (pa_cons (pe_callB call_len_seq (by rfl) T.n_len (by decide +kernel) (pa_cons (pv 0) pa_nil)) pa_nil))) (fun _ _ => rfl)) (pa_cons (pv 3) pa_nil))))
    (pss_cons (ps_set (i := 5) sc_law.nd rfl (Or.inl rfl) (pe_ix ix_list (pe_lst (pa_cons (pe_op op_add pe_int (pe_call (ok_law_sip T) (hr.mono (by decide)) rfl T.g_law_sip T.k_law_sip T.b_law_sip .nil pass0 (pa_cons (pv 4) (pa_cons pe_int pa_nil)))) (pa_cons (pe_op op_add pe_int (pe_call (ok_law_sip T) (hr.mono (by decide)) rfl T.g_law_sip T.k_law_sip T.b_law_sip .nil pass0 (pa_cons (pv 4) (pa_cons (pe_op op_pow pe_int pe_int) pa_nil)))) pa_nil))) (pe_call (ok_law_sip T) (hr.mono (by decide)) rfl T.g_law_sip T.k_law_sip T.b_law_sip .nil pass0 (pa_cons (pv 4) (pa_cons pe_int pa_nil))) (fun _ _ => rfl)))
    (pss_cons (ps_set (i := 6) sc_law.nd rfl (Or.inl rfl) (pe_ix ix_list (pe_lst (pa_cons pe_int (pa_cons (pe_op op_add pe_int (pe_call (ok_law_sip T) (hr.mono (by decide)) rfl T.g_law_sip T.k_law_sip T.b_law_sip .nil pass0 (pa_cons (pv 4) (pa_cons (pe_op op_pow pe_int pe_int) pa_nil)))) pa_nil))) (pe_call (ok_law_sip T) (hr.mono (by decide)) rfl T.g_law_sip T.k_law_sip T.b_law_sip .nil pass0 (pa_cons (pv 4) (pa_cons pe_int pa_nil))) (fun _ _ => rfl)))
    (pss_cons (ps_set (i := 1) sc_law.nd rfl (Or.inl rfl) (pe_call (ok_law_step T) (hr.mono (by decide)) rfl T.g_law_step T.k_law_step T.b_law_step .nil pass0 (pa_cons (pv 4) (pa_cons (pv 1) pa_nil))))
    (pss_cons (ps_set (i := 2) sc_law.nd rfl (Or.inl rfl) (pe_call (ok_law_step T) (hr.mono (by decide)) rfl T.g_law_step T.k_law_step T.b_law_step .nil pass0 (pa_cons (pv 4) (pa_cons (pv 2) pa_nil))))
    (pss_one (ps_if (PW.pt (pw_or (pt_not (pt_val (pe_call (ok_law_row_right T) (hr.mono (by decide)) rfl T.g_law_row_right T.k_law_row_right T.b_law_row_right .nil pass0 (pa_cons (pv 1) (pa_cons (pv 5) (pa_cons (pv 6) pa_nil)))))) (pw_or1 (pt_not (pt_val (pe_call (ok_law_row_right T) (hr.mono (by decide)) rfl T.g_law_row_right T.k_law_row_right T.b_law_row_right .nil pass0 (pa_cons (pv 2) (pa_cons (pv 5) (pa_cons (pv 6) pa_nil))))))))) (pss_one (ps_ret pe_bl)) pss_nil))))))))
    (pss_one (ps_ret pe_bl))))), ?_⟩)
  · obtain ⟨p, ns, rfl, _⟩ := h
    rfl
  · obtain ⟨a, ns, rfl, hS, hlen, hbits, q⟩ := h
    walk_at "rd"
    refine ⟨by show 2 ≤ sizeLine; decide, fun t1 n1 => ?_⟩
    walk_at "rd"
    refine ⟨by show 3 ≤ sizeLine; decide, fun t2 n2 => ?_⟩
    have s2 := (Same.new0 n1 (o := .tup [V.int 1, .int 0])).new n2 (o := .tup [V.int 0, .int 1, .int 0])
    walk_at "rd"
    refine ⟨_, rfl, a, _, rfl, .inl (s2.seq hS), ?_⟩
    rw [List.length_map]
    refine ⟨_, _, rfl, ?_⟩
    have em : (if (40 : Int) < (ns.length : Int) then (40 : Int) else (ns.length : Int)) = ((min ns.length 40 : Nat) : Int) := by split <;> omega
    rw [em]
    refine ⟨_, _, rfl, ?_⟩
    have eM : (if ((min ns.length 40 : Nat) : Int) > 1 then ((min ns.length 40 : Nat) : Int) else 1) = ((max 1 (min ns.length 40) : Nat) : Int) := by split <;> omega
    rw [eM]
    refine ⟨_, rfl, by omega, by omega, for_range (n := max 1 (min ns.length 40)) (fun i σ H' => ∃ (f d : Addr) (ms ps : List Int) (u1 u2 u3 u4 : Option V), σ = [some (.ref a), some (.ref f), some (.ref d), u1, u2, u3, u4] ∧ Same H H' ∧ TupI H' f ms ∧ Good ms ∧ TupI H' d ps ∧ Good ps)
      ⟨t1, t2, [1, 0], [0, 1, 0], none, none, none, none, rfl, s2, (Same.new0 n2) _ _ upd_same, ⟨.inl rfl, by decide, rfl⟩, upd_same, ⟨.inr rfl, by decide, rfl⟩⟩ ?_ ?_⟩
    · rintro i σ H' hi ⟨f, d, ms, ps, u1, u2, u3, u4, rfl, sH, hf, gf, hd, gd⟩
      walk_at "rd"
      refine ⟨by show 1 ≤ sizeLine; decide, fun l1 nl1 => ?_⟩
      have sa := sH.new nl1 (o := .lst [V.int 0])
      refine ⟨a, l1, _, _, rfl, rfl, sa.seq hS, SqL.of upd_same, ?_, fun l2 nl2 => ?_⟩
      · rw [List.length_map]
        exact Nat.le_trans (show ns.length + 1 ≤ 64 by omega) (by decide)
      walk_at "rd"
      have sb := sa.new nl2 (o := .lst (ns.map V.int ++ [V.int 0]))
      refine ⟨a, _, rfl, .inl (sb.seq hS), ?_⟩
      rw [List.length_map]
      refine ⟨_, _, rfl, ?_⟩
      have e0 : (if (ns.length : Int) < 0 + (i : Int) then (ns.length : Int) else 0 + (i : Int)) = ((min i ns.length : Nat) : Int) := by split <;> omega
      rw [e0]
      have hat : ∃ c, atI (ns.map V.int ++ [V.int 0]) ((min i ns.length : Nat) : Int) = some (.int c) := by
        have hl : min i ns.length < (ns ++ [0]).length := by rw [List.length_append, List.length_singleton]; omega
        refine ⟨(ns ++ [0])[min i ns.length], ?_⟩
        have e : ns.map V.int ++ [V.int 0] = (ns ++ [0]).map V.int := by rw [List.map_append]; rfl
        rw [e]
        exact atI_nat (by rw [List.getElem?_map, List.getElem?_eq_getElem hl]; rfl)
      obtain ⟨c, hc⟩ := hat
      refine r_ixL (SqL.of upd_same) hc ?_
      walk_at "rd"
      refine ⟨_, _, rfl, fun p H1 np s1 hS1 => ?_⟩
      have sHb : Same H' (upd (upd H' l1 (.lst [V.int 0])) l2 (.lst (ns.map V.int ++ [V.int 0]))) := (Same.new0 nl1).new nl2
      walk_at "rd"
      refine ⟨p, _, rfl, hS1, by decide, by decide, fun r1 H2 r10 r11 hB2 hS2 => ?_⟩
      walk_at "rd"
      refine ⟨p, _, rfl, hS2, by decide, by decide, fun r2 H3 r20 r21 hB3 hS3 => ?_⟩
      walk_at "rd"
      refine ⟨by show 2 ≤ sizeLine; decide, fun l3 nl3 => ?_⟩
      walk_at "rd"
      refine ⟨p, _, rfl, hS3.new nl3, by decide, by decide, fun r3 H4 r30 r31 hB4 hS4 => ?_⟩
      have hl4 := hB4 l3 _ (hS3.ne nl3).symm upd_same
      have e15 : (10 : Int) ^ Int.toNat 15 = 1000000000000000 := by decide
      rw [e15] at r21
      obtain ⟨b, hb1, hb2, hba⟩ : ∃ b : Int, 1 ≤ b ∧ b ≤ 10 ^ 16 ∧ atI [V.int (1 + r1), .int (1 + r2)] r3 = some (.int b) := by
        have e : r3 = 0 ∨ r3 = 1 := by omega
        rcases e with e | e <;> subst e
        · exact ⟨1 + r1, by omega, by omega, rfl⟩
        · exact ⟨1 + r2, by omega, by omega, rfl⟩
      refine r_ixL (SqL.of hl4) hba ?_
      walk_at "rd"
      refine ⟨p, _, rfl, hS4, by decide, by decide, fun r4 H5 r40 r41 hB5 hS5 => ?_⟩
      walk_at "rd"
      refine ⟨by show 2 ≤ sizeLine; decide, fun l4 nl4 => ?_⟩
      walk_at "rd"
      refine ⟨p, _, rfl, hS5.new nl4, by decide, by decide, fun r5 H6 r50 r51 hB6 hS6 => ?_⟩
      have hl6 := hB6 l4 _ (hS5.ne nl4).symm upd_same
      rw [e15] at r41
      obtain ⟨m, hm1, hm2, hma⟩ : ∃ m : Int, 1 ≤ m ∧ m ≤ 10 ^ 16 ∧ atI [V.int 1, .int (1 + r4)] r5 = some (.int m) := by
        have e : r5 = 0 ∨ r5 = 1 := by omega
        rcases e with e | e <;> subst e
        · exact ⟨1, by omega, by decide, rfl⟩
        · exact ⟨1 + r4, by omega, by omega, rfl⟩
      refine r_ixL (SqL.of hl6) hma ?_
      have bp : But p H1 H6 := (((hB2.trans hB3).trans ((Same.new0 nl3).but.trans hB4)).trans hB5).trans ((Same.new0 nl4).but.trans hB6)
      have s6 : Same H' H6 := sHb.trans (But.of_new np s1 bp)
      walk_at "rd"
      refine ⟨p, f, ms, rfl, hS6, hf.same s6, gf, fun f2 ms2 H7 hB7 hS7 hf2 gf2 _ => ?_⟩
      have s7 : Same H' H7 := sHb.trans (But.of_new np s1 (bp.trans hB7))
      walk_at "rd"
      refine ⟨p, d, ps, rfl, hS7, hd.same s7, gd, fun d2 ps2 H8 hB8 hS8 hd2 gd2 _ => ?_⟩
      have s8 : Same H' H8 := sHb.trans (But.of_new np s1 ((bp.trans hB7).trans hB8))
      have nf2p : f2 ≠ p := by
        obtain ⟨x1, x2, x3, e1, _⟩ := hS7
        exact fun e => by
          unfold TupI at hf2
          rw [e, e1] at hf2
          cases hf2
      have hf28 : TupI H8 f2 ms2 := hB8 _ _ nf2p hf2
      walk_at "rd"
      refine ⟨f2, ms2, b, m, rfl, hf28, gf2, hb1, hb2, hm1, hm2, fun H9 s9 => ?_⟩
      refine ⟨_, rfl, iteFb rfl ?_⟩
      walk_at "rd"
      refine ⟨d2, ps2, b, m, rfl, hd2.same s9, gd2, hb1, hb2, hm1, hm2, fun H10 s10 => ?_⟩
      refine ⟨_, rfl, iteFb rfl ?_⟩
      walk_at "rd"
      have s910 := s9.trans s10
      exact ⟨f2, d2, ms2, ps2, _, _, _, _, rfl, (sH.trans s8).trans s910, hf28.same s910, gf2, hd2.same s910, gd2⟩
    · rintro σ H' ⟨f, d, ms, ps, u1, u2, u3, u4, rfl, sH, hf, gf, hd, gd⟩
      (try dsimp only)
      walk_at "rd"
      exact q _
end
theorem all_mk {l : PySem.W.OpenLaw} {w : World} {K : PySem.W.Frag} {h : Heap} {mg : Str → Option Value} {fa : Addr} (X : K.In h) (G : h.Ns mainGlobals mg) (hfa : mg "law" = some (.ref fa))
    {od0 an0 : Option Addr} {sl0 : Array (Option Value)} {oc0 kV0 dc0 pm0 cd0 ct0 : Value} {f0 : Addr}
    (a0 : PySem.W.nsIn K mainGlobals "common_divisor" = some (some (.ref f0)))
    (l0 : K.lookup f0 = some ⟨oc0, od0, .func (PySem.W.fnOf "common_divisor" "common_divisor" (defArgs s_common_divisor) (defBody s_common_divisor) (defScope s_common_divisor) .none kV0 dc0 pm0 an0 cd0 ct0), sl0⟩)
    (c0 : PySem.W.codeIn K cd0 "common_divisor" = true)
    (k0 : PySem.W.keepIn K (.ref f0) = true)
    {od1 an1 : Option Addr} {sl1 : Array (Option Value)} {oc1 kV1 dc1 pm1 cd1 ct1 : Value} {f1 : Addr}
    (a1 : PySem.W.nsIn K mainGlobals "divisor_of" = some (some (.ref f1)))
    (l1 : K.lookup f1 = some ⟨oc1, od1, .func (PySem.W.fnOf "divisor_of" "divisor_of" (defArgs s_divisor_of) (defBody s_divisor_of) (defScope s_divisor_of) .none kV1 dc1 pm1 an1 cd1 ct1), sl1⟩)
    (c1 : PySem.W.codeIn K cd1 "divisor_of" = true)
    (k1 : PySem.W.keepIn K (.ref f1) = true)
    {od2 an2 : Option Addr} {sl2 : Array (Option Value)} {oc2 kV2 dc2 pm2 cd2 ct2 : Value} {f2 : Addr}
    (a2 : PySem.W.nsIn K mainGlobals "is_seen" = some (some (.ref f2)))
    (l2 : K.lookup f2 = some ⟨oc2, od2, .func (PySem.W.fnOf "is_seen" "is_seen" (defArgs s_is_seen) (defBody s_is_seen) (defScope s_is_seen) .none kV2 dc2 pm2 an2 cd2 ct2), sl2⟩)
    (c2 : PySem.W.codeIn K cd2 "is_seen" = true)
    (k2 : PySem.W.keepIn K (.ref f2) = true)
    {od3 an3 : Option Addr} {sl3 : Array (Option Value)} {oc3 kV3 dc3 pm3 cd3 ct3 : Value} {f3 : Addr}
    (a3 : PySem.W.nsIn K mainGlobals "between" = some (some (.ref f3)))
    (l3 : K.lookup f3 = some ⟨oc3, od3, .func (PySem.W.fnOf "between" "between" (defArgs s_between) (defBody s_between) (defScope s_between) .none kV3 dc3 pm3 an3 cd3 ct3), sl3⟩)
    (c3 : PySem.W.codeIn K cd3 "between" = true)
    (k3 : PySem.W.keepIn K (.ref f3) = true)
    {od4 an4 : Option Addr} {sl4 : Array (Option Value)} {oc4 kV4 dc4 pm4 cd4 ct4 : Value} {f4 : Addr}
    (a4 : PySem.W.nsIn K mainGlobals "first_post" = some (some (.ref f4)))
    (l4 : K.lookup f4 = some ⟨oc4, od4, .func (PySem.W.fnOf "first_post" "first_post" (defArgs s_first_post) (defBody s_first_post) (defScope s_first_post) .none kV4 dc4 pm4 an4 cd4 ct4), sl4⟩)
    (c4 : PySem.W.codeIn K cd4 "first_post" = true)
    (k4 : PySem.W.keepIn K (.ref f4) = true)
    {od5 an5 : Option Addr} {sl5 : Array (Option Value)} {oc5 kV5 dc5 pm5 cd5 ct5 : Value} {f5 : Addr}
    (a5 : PySem.W.nsIn K mainGlobals "remainders" = some (some (.ref f5)))
    (l5 : K.lookup f5 = some ⟨oc5, od5, .func (PySem.W.fnOf "remainders" "remainders" (defArgs s_remainders) (defBody s_remainders) (defScope s_remainders) .none kV5 dc5 pm5 an5 cd5 ct5), sl5⟩)
    (c5 : PySem.W.codeIn K cd5 "remainders" = true)
    (k5 : PySem.W.keepIn K (.ref f5) = true)
    {od6 an6 : Option Addr} {sl6 : Array (Option Value)} {oc6 kV6 dc6 pm6 cd6 ct6 : Value} {f6 : Addr}
    (a6 : PySem.W.nsIn K mainGlobals "_law_spring" = some (some (.ref f6)))
    (l6 : K.lookup f6 = some ⟨oc6, od6, .func (PySem.W.fnOf "_law_spring" "_law_spring" (defArgs s_law_spring) (defBody s_law_spring) (defScope s_law_spring) .none kV6 dc6 pm6 an6 cd6 ct6), sl6⟩)
    (c6 : PySem.W.codeIn K cd6 "_law_spring" = true)
    (k6 : PySem.W.keepIn K (.ref f6) = true)
    {od7 an7 : Option Addr} {sl7 : Array (Option Value)} {oc7 kV7 dc7 pm7 cd7 ct7 : Value} {f7 : Addr}
    (a7 : PySem.W.nsIn K mainGlobals "_law_sip" = some (some (.ref f7)))
    (l7 : K.lookup f7 = some ⟨oc7, od7, .func (PySem.W.fnOf "_law_sip" "_law_sip" (defArgs s_law_sip) (defBody s_law_sip) (defScope s_law_sip) .none kV7 dc7 pm7 an7 cd7 ct7), sl7⟩)
    (c7 : PySem.W.codeIn K cd7 "_law_sip" = true)
    (k7 : PySem.W.keepIn K (.ref f7) = true)
    {od8 an8 : Option Addr} {sl8 : Array (Option Value)} {oc8 kV8 dc8 pm8 cd8 ct8 : Value} {f8 : Addr}
    (a8 : PySem.W.nsIn K mainGlobals "_law_whole" = some (some (.ref f8)))
    (l8 : K.lookup f8 = some ⟨oc8, od8, .func (PySem.W.fnOf "_law_whole" "_law_whole" (defArgs s_law_whole) (defBody s_law_whole) (defScope s_law_whole) .none kV8 dc8 pm8 an8 cd8 ct8), sl8⟩)
    (c8 : PySem.W.codeIn K cd8 "_law_whole" = true)
    (k8 : PySem.W.keepIn K (.ref f8) = true)
    {od9 an9 : Option Addr} {sl9 : Array (Option Value)} {oc9 kV9 dc9 pm9 cd9 ct9 : Value} {f9 : Addr}
    (a9 : PySem.W.nsIn K mainGlobals "_law_truth" = some (some (.ref f9)))
    (l9 : K.lookup f9 = some ⟨oc9, od9, .func (PySem.W.fnOf "_law_truth" "_law_truth" (defArgs s_law_truth) (defBody s_law_truth) (defScope s_law_truth) .none kV9 dc9 pm9 an9 cd9 ct9), sl9⟩)
    (c9 : PySem.W.codeIn K cd9 "_law_truth" = true)
    (k9 : PySem.W.keepIn K (.ref f9) = true)
    {od10 an10 : Option Addr} {sl10 : Array (Option Value)} {oc10 kV10 dc10 pm10 cd10 ct10 : Value} {f10 : Addr}
    (a10 : PySem.W.nsIn K mainGlobals "_law_is_spot" = some (some (.ref f10)))
    (l10 : K.lookup f10 = some ⟨oc10, od10, .func (PySem.W.fnOf "_law_is_spot" "_law_is_spot" (defArgs s_law_is_spot) (defBody s_law_is_spot) (defScope s_law_is_spot) .none kV10 dc10 pm10 an10 cd10 ct10), sl10⟩)
    (c10 : PySem.W.codeIn K cd10 "_law_is_spot" = true)
    (k10 : PySem.W.keepIn K (.ref f10) = true)
    {od11 an11 : Option Addr} {sl11 : Array (Option Value)} {oc11 kV11 dc11 pm11 cd11 ct11 : Value} {f11 : Addr}
    (a11 : PySem.W.nsIn K mainGlobals "_law_step" = some (some (.ref f11)))
    (l11 : K.lookup f11 = some ⟨oc11, od11, .func (PySem.W.fnOf "_law_step" "_law_step" (defArgs s_law_step) (defBody s_law_step) (defScope s_law_step) .none kV11 dc11 pm11 an11 cd11 ct11), sl11⟩)
    (c11 : PySem.W.codeIn K cd11 "_law_step" = true)
    (k11 : PySem.W.keepIn K (.ref f11) = true)
    {od12 an12 : Option Addr} {sl12 : Array (Option Value)} {oc12 kV12 dc12 pm12 cd12 ct12 : Value} {f12 : Addr}
    (a12 : PySem.W.nsIn K mainGlobals "_law_row_right" = some (some (.ref f12)))
    (l12 : K.lookup f12 = some ⟨oc12, od12, .func (PySem.W.fnOf "_law_row_right" "_law_row_right" (defArgs s_law_row_right) (defBody s_law_row_right) (defScope s_law_row_right) .none kV12 dc12 pm12 an12 cd12 ct12), sl12⟩)
    (c12 : PySem.W.codeIn K cd12 "_law_row_right" = true)
    (k12 : PySem.W.keepIn K (.ref f12) = true)
    {od13 an13 : Option Addr} {sl13 : Array (Option Value)} {oc13 kV13 dc13 pm13 cd13 ct13 : Value} {f13 : Addr}
    (a13 : PySem.W.nsIn K mainGlobals "law" = some (some (.ref f13)))
    (l13 : K.lookup f13 = some ⟨oc13, od13, .func (PySem.W.fnOf "law" "law" (defArgs s_law) (defBody s_law) (defScope s_law) .none kV13 dc13 pm13 an13 cd13 ct13), sl13⟩)
    (c13 : PySem.W.codeIn K cd13 "law" = true)
    (k13 : PySem.W.keepIn K (.ref f13) = true)
    (z_bool : PySem.W.nsIn K mainGlobals "bool" = some none)
    (z_gcd : PySem.W.nsIn K mainGlobals "gcd" = some (some (.builtin "math.gcd")))
    (z_int : PySem.W.nsIn K mainGlobals "int" = some none)
    (z_isinstance : PySem.W.nsIn K mainGlobals "isinstance" = some none)
    (z_len : PySem.W.nsIn K mainGlobals "len" = some none)
    (z_list : PySem.W.nsIn K mainGlobals "list" = some none)
    (z_max : PySem.W.nsIn K mainGlobals "max" = some none)
    (z_min : PySem.W.nsIn K mainGlobals "min" = some none)
    (z_range : PySem.W.nsIn K mainGlobals "range" = some none)
    (z_tuple : PySem.W.nsIn K mainGlobals "tuple" = some none)
    : ∃ fd : FuncData, (∀ (s : Shared) (v : Value), BindsTo s fd ⟨[v], []⟩ [("_law_script", v)]) ∧ ∀ base : Heap, K.In base → base.Ns mainGlobals mg → FnOk l.prog w K mg base CX0 5 fa fd ["_law_script"] (spLaw K) := by
  have e := hfa.symm.trans (PySem.W.mg_of X G a13)
  cases e
  have F0 := fun_mk (st := s_common_divisor) l0 c0 k0
  have b0 := F0.binds (ps := ["place"]) fun _ _ _ _ _ _ us hl => match us, hl with | [_], _ => rfl
  have F1 := fun_mk (st := s_divisor_of) l1 c1 k1
  have b1 := F1.binds (ps := ["place"]) fun _ _ _ _ _ _ us hl => match us, hl with | [_], _ => rfl
  have F2 := fun_mk (st := s_is_seen) l2 c2 k2
  have b2 := F2.binds (ps := ["place"]) fun _ _ _ _ _ _ us hl => match us, hl with | [_], _ => rfl
  have F3 := fun_mk (st := s_between) l3 c3 k3
  have b3 := F3.binds (ps := ["place"]) fun _ _ _ _ _ _ us hl => match us, hl with | [_], _ => rfl
  have F4 := fun_mk (st := s_first_post) l4 c4 k4
  have b4 := F4.binds (ps := ["place"]) fun _ _ _ _ _ _ us hl => match us, hl with | [_], _ => rfl
  have F5 := fun_mk (st := s_remainders) l5 c5 k5
  have b5 := F5.binds (ps := ["place", "divisor"]) fun _ _ _ _ _ _ us hl => match us, hl with | [_, _], _ => rfl
  have F6 := fun_mk (st := s_law_spring) l6 c6 k6
  have b6 := F6.binds (ps := ["_law_cell", "_law_k"]) fun _ _ _ _ _ _ us hl => match us, hl with | [_, _], _ => rfl
  have F7 := fun_mk (st := s_law_sip) l7 c7 k7
  have b7 := F7.binds (ps := ["_law_spring_here", "_law_many"]) fun _ _ _ _ _ _ us hl => match us, hl with | [_, _], _ => rfl
  have F8 := fun_mk (st := s_law_whole) l8 c8 k8
  have b8 := F8.binds (ps := ["_law_found"]) fun _ _ _ _ _ _ us hl => match us, hl with | [_], _ => rfl
  have F9 := fun_mk (st := s_law_truth) l9 c9 k9
  have b9 := F9.binds (ps := ["_law_found", "_law_due"]) fun _ _ _ _ _ _ us hl => match us, hl with | [_, _], _ => rfl
  have F10 := fun_mk (st := s_law_is_spot) l10 c10 k10
  have b10 := F10.binds (ps := ["_law_found", "_law_due"]) fun _ _ _ _ _ _ us hl => match us, hl with | [_, _], _ => rfl
  have F11 := fun_mk (st := s_law_step) l11 c11 k11
  have b11 := F11.binds (ps := ["_law_spring_here", "_law_spot"]) fun _ _ _ _ _ _ us hl => match us, hl with | [_, _], _ => rfl
  have F12 := fun_mk (st := s_law_row_right) l12 c12 k12
  have b12 := F12.binds (ps := ["_law_spot", "_law_by", "_law_more"]) fun _ _ _ _ _ _ us hl => match us, hl with | [_, _, _], _ => rfl
  have F13 := fun_mk (st := s_law) l13 c13 k13
  have b13 := F13.binds (ps := ["_law_script"]) fun _ _ _ _ _ _ us hl => match us, hl with | [_], _ => rfl
  let A : Ad := { a_common_divisor := f0, f_common_divisor := PySem.W.fnOf "common_divisor" "common_divisor" (defArgs s_common_divisor) (defBody s_common_divisor) (defScope s_common_divisor) .none kV0 dc0 pm0 an0 cd0 ct0, a_divisor_of := f1, f_divisor_of := PySem.W.fnOf "divisor_of" "divisor_of" (defArgs s_divisor_of) (defBody s_divisor_of) (defScope s_divisor_of) .none kV1 dc1 pm1 an1 cd1 ct1, a_is_seen := f2, f_is_seen := PySem.W.fnOf "is_seen" "is_seen" (defArgs s_is_seen) (defBody s_is_seen) (defScope s_is_seen) .none kV2 dc2 pm2 an2 cd2 ct2, a_between := f3, f_between := PySem.W.fnOf "between" "between" (defArgs s_between) (defBody s_between) (defScope s_between) .none kV3 dc3 pm3 an3 cd3 ct3, a_first_post := f4, f_first_post := PySem.W.fnOf "first_post" "first_post" (defArgs s_first_post) (defBody s_first_post) (defScope s_first_post) .none kV4 dc4 pm4 an4 cd4 ct4, a_remainders := f5, f_remainders := PySem.W.fnOf "remainders" "remainders" (defArgs s_remainders) (defBody s_remainders) (defScope s_remainders) .none kV5 dc5 pm5 an5 cd5 ct5, a_law_spring := f6, f_law_spring := PySem.W.fnOf "_law_spring" "_law_spring" (defArgs s_law_spring) (defBody s_law_spring) (defScope s_law_spring) .none kV6 dc6 pm6 an6 cd6 ct6, a_law_sip := f7, f_law_sip := PySem.W.fnOf "_law_sip" "_law_sip" (defArgs s_law_sip) (defBody s_law_sip) (defScope s_law_sip) .none kV7 dc7 pm7 an7 cd7 ct7, a_law_whole := f8, f_law_whole := PySem.W.fnOf "_law_whole" "_law_whole" (defArgs s_law_whole) (defBody s_law_whole) (defScope s_law_whole) .none kV8 dc8 pm8 an8 cd8 ct8, a_law_truth := f9, f_law_truth := PySem.W.fnOf "_law_truth" "_law_truth" (defArgs s_law_truth) (defBody s_law_truth) (defScope s_law_truth) .none kV9 dc9 pm9 an9 cd9 ct9, a_law_is_spot := f10, f_law_is_spot := PySem.W.fnOf "_law_is_spot" "_law_is_spot" (defArgs s_law_is_spot) (defBody s_law_is_spot) (defScope s_law_is_spot) .none kV10 dc10 pm10 an10 cd10 ct10, a_law_step := f11, f_law_step := PySem.W.fnOf "_law_step" "_law_step" (defArgs s_law_step) (defBody s_law_step) (defScope s_law_step) .none kV11 dc11 pm11 an11 cd11 ct11, a_law_row_right := f12, f_law_row_right := PySem.W.fnOf "_law_row_right" "_law_row_right" (defArgs s_law_row_right) (defBody s_law_row_right) (defScope s_law_row_right) .none kV12 dc12 pm12 an12 cd12 ct12, a_law := fa, f_law := PySem.W.fnOf "law" "law" (defArgs s_law) (defBody s_law) (defScope s_law) .none kV13 dc13 pm13 an13 cd13 ct13 }
  have T : Txt K mg A := {
    g_common_divisor := PySem.W.mg_of X G a0, k_common_divisor := k0, F_common_divisor := F0, b_common_divisor := b0,
    g_divisor_of := PySem.W.mg_of X G a1, k_divisor_of := k1, F_divisor_of := F1, b_divisor_of := b1,
    g_is_seen := PySem.W.mg_of X G a2, k_is_seen := k2, F_is_seen := F2, b_is_seen := b2,
    g_between := PySem.W.mg_of X G a3, k_between := k3, F_between := F3, b_between := b3,
    g_first_post := PySem.W.mg_of X G a4, k_first_post := k4, F_first_post := F4, b_first_post := b4,
    g_remainders := PySem.W.mg_of X G a5, k_remainders := k5, F_remainders := F5, b_remainders := b5,
    g_law_spring := PySem.W.mg_of X G a6, k_law_spring := k6, F_law_spring := F6, b_law_spring := b6,
    g_law_sip := PySem.W.mg_of X G a7, k_law_sip := k7, F_law_sip := F7, b_law_sip := b7,
    g_law_whole := PySem.W.mg_of X G a8, k_law_whole := k8, F_law_whole := F8, b_law_whole := b8,
    g_law_truth := PySem.W.mg_of X G a9, k_law_truth := k9, F_law_truth := F9, b_law_truth := b9,
    g_law_is_spot := PySem.W.mg_of X G a10, k_law_is_spot := k10, F_law_is_spot := F10, b_law_is_spot := b10,
    g_law_step := PySem.W.mg_of X G a11, k_law_step := k11, F_law_step := F11, b_law_step := b11,
    g_law_row_right := PySem.W.mg_of X G a12, k_law_row_right := k12, F_law_row_right := F12, b_law_row_right := b12,
    g_law := PySem.W.mg_of X G a13, k_law := k13, F_law := F13, b_law := b13,
    n_bool := PySem.W.mg_none_of X G z_bool,
    m_gcd := PySem.W.mg_of X G z_gcd,
    n_int := PySem.W.mg_none_of X G z_int,
    n_isinstance := PySem.W.mg_none_of X G z_isinstance,
    n_len := PySem.W.mg_none_of X G z_len,
    n_list := PySem.W.mg_none_of X G z_list,
    n_max := PySem.W.mg_none_of X G z_max,
    n_min := PySem.W.mg_none_of X G z_min,
    n_range := PySem.W.mg_none_of X G z_range,
    n_tuple := PySem.W.mg_none_of X G z_tuple }
  exact ⟨A.f_law, fun s v => .of_eq rfl, fun base _ _ => ok_law T⟩
theorem walk {l : PySem.W.OpenLaw} {q : Program} {loose : List Str} {XP : (Str → Option Value) → Heap → Prop} {YP : World → Heap → Prop} {d : DefRec} {K : Params → PySem.W.Frag} (hn : l.most = some 63) (hdf : d.params.defaults = [])
    (hY : ∀ (w : World) (h : Heap), YP w h → (K w.params).In h)
    (F : ∀ (w : World) (mg : Str → Option Value) (fa : Addr) (h : Heap), (K w.params).In h → h.Ns mainGlobals mg → mg d.name = some (.ref fa) →
      ∃ fd : FuncData, (∀ (s : Shared) (u : Value), BindsTo s fd ⟨[u], []⟩ [("_law_script", u)]) ∧ ∀ base : Heap, (K w.params).In base → base.Ns mainGlobals mg → FnOk l.prog w (K w.params) mg base CX0 5 fa fd ["_law_script"] (spLaw (K w.params))) :
    PySem.W.WalkO q loose XP YP l.row.toRowW d [] (fun f vs => PySem.call f vs) :=
  L2.walk_ofB (n := 63) (k := 5) (x := "_law_script") (CX := fun _ => CX0) (sp := fun w => spLaw (K w.params)) hn (by decide) hdf ⟨rfl, by decide, by decide⟩ hY F (fun _ _ a ns hl hb _ hS => ⟨a, ns, rfl, hS, hl, hb, fun _ => rfl⟩) fun _ _ _ _ _ z => z
end K05
open PySem PySem.W PyProof.Rows
set_option maxRecDepth 100000 in
set_option maxHeartbeats 0 in
theorem PySem.Challenge.cw_seenposts_k05_whole_posts_in_a_row_holds : PySem.Challenge.rw_seenposts_k05_whole_posts_in_a_row.Holds := by
  w_on; o_law; k_head; (case hw => w_witness2)
  k_fill
  refine K05.walk (l := PySem.Challenge.rw_seenposts_k05_whole_posts_in_a_row) rfl rfl (fun w h Y => PySem.W.kIn_of Y) ?F
  case F =>
    intro w mg fa h KX G hmg
    refine' K05.all_mk KX G hmg ?a0 ?l0 ?c0 ?k0 ?a1 ?l1 ?c1 ?k1 ?a2 ?l2 ?c2 ?k2 ?a3 ?l3 ?c3 ?k3 ?a4 ?l4 ?c4 ?k4 ?a5 ?l5 ?c5 ?k5 ?a6 ?l6 ?c6 ?k6 ?a7 ?l7 ?c7 ?k7 ?a8 ?l8 ?c8 ?k8 ?a9 ?l9 ?c9 ?k9 ?a10 ?l10 ?c10 ?k10 ?a11 ?l11 ?c11 ?k11 ?a12 ?l12 ?c12 ?k12 ?a13 ?l13 ?c13 ?k13 ?z_bool ?z_gcd ?z_int ?z_isinstance ?z_len ?z_list ?z_max ?z_min ?z_range ?z_tuple
    (case a0 => k_is)
    (case l0 => k_is)
    (case c0 => k_is)
    (case k0 => k_is)
    (case a1 => k_is)
    (case l1 => k_is)
    (case c1 => k_is)
    (case k1 => k_is)
    (case a2 => k_is)
    (case l2 => k_is)
    (case c2 => k_is)
    (case k2 => k_is)
    (case a3 => k_is)
    (case l3 => k_is)
    (case c3 => k_is)
    (case k3 => k_is)
    (case a4 => k_is)
    (case l4 => k_is)
    (case c4 => k_is)
    (case k4 => k_is)
    (case a5 => k_is)
    (case l5 => k_is)
    (case c5 => k_is)
    (case k5 => k_is)
    (case a6 => k_is)
    (case l6 => k_is)
    (case c6 => k_is)
    (case k6 => k_is)
    (case a7 => k_is)
    (case l7 => k_is)
    (case c7 => k_is)
    (case k7 => k_is)
    (case a8 => k_is)
    (case l8 => k_is)
    (case c8 => k_is)
    (case k8 => k_is)
    (case a9 => k_is)
    (case l9 => k_is)
    (case c9 => k_is)
    (case k9 => k_is)
    (case a10 => k_is)
    (case l10 => k_is)
    (case c10 => k_is)
    (case k10 => k_is)
    (case a11 => k_is)
    (case l11 => k_is)
    (case c11 => k_is)
    (case k11 => k_is)
    (case a12 => k_is)
    (case l12 => k_is)
    (case c12 => k_is)
    (case k12 => k_is)
    (case a13 => k_is)
    (case l13 => k_is)
    (case c13 => k_is)
    (case k13 => k_is)
    (case z_bool => k_is)
    (case z_gcd => k_is)
    (case z_int => k_is)
    (case z_isinstance => k_is)
    (case z_len => k_is)
    (case z_list => k_is)
    (case z_max => k_is)
    (case z_min => k_is)
    (case z_range => k_is)
    (case z_tuple => k_is)
#print axioms PySem.Challenge.cw_seenposts_k05_whole_posts_in_a_row_holds

