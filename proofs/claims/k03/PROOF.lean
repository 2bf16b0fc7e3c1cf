import PyProof.Rows.All
import Wide.All
import OpenK.AllK
import Wide.FinOn
import HandS.Base
import HandS.Call
import HandS.List
import HandS.Comp
import HandS.Ends
import KE.KRevSl
import HandS.ForMost
import HandS.EndBits
import HandS.IsInst
import HandS.Wide
import HandS.Gcd
import HandS.Style
import HandS.TupAny
import HandS.Evl
import KE.KIsAll
import KE.KTryMore
import HandS.ForExc
import HandS.ExcValue
import HandS.ExcInit
import HandS.ExcIs
import HandS.ExcField
import HandS.RaiseMore
import PySem.Challenge.RW_seenposts_k03_remainders_of_places
set_option Elab.async false
set_option linter.all false
set_option maxRecDepth 100000
set_option maxHeartbeats 4000000
/-! rules of our own -/
namespace HT
open PySem PySem.W PySem.Calls PyProof.Rows
section
variable {prog : Program} {w : World} {A : Around} {E : Value → Shared → Prop} {s : Shared}
theorem adjust_rev (n : Nat) : Builtin.Slice.sliceAdjust none none (-1) (n : Int) = ((n : Int) - 1, -1) := by
  unfold Builtin.Slice.sliceAdjust
  rfl
theorem places_rev (n : Nat) : Builtin.Slice.slicePlaces ((n : Int) - 1) (-1) (-1) = n := by
  unfold Builtin.Slice.slicePlaces
  have h1 : ¬ ((-1 : Int) > 0) := by decide
  have e1 : (- -1 : Int) = 1 := by decide
  simp only [h1, if_false, e1, Int.ediv_one]
  split <;> omega
theorem sliceApplied_rev {sl : Addr} {vs : Value} {n : Nat} {Q : Int × Int × Nat → Shared → Prop} (hs : s.heap.IsSliceOf sl .none .none vs) (ps : IsPart vs (some (-1)))
    (h : Q ((n : Int) - 1, -1, n) s) : wpAny (model prog w) A (Builtin.Slice.sliceApplied (.ref sl) (pure (n : Int))) Q E s := by
  obtain ⟨os, hos, hcs, hds⟩ := id hs
  unfold Builtin.Slice.sliceApplied Builtin.Slice.sliceFields
  refine wpAny_bind (wpAny_bind (wpAny_field hos hds (x := .none) rfl (wpAny_bind (wpAny_field hos hds (x := .none) rfl (wpAny_bind (wpAny_field hos hds (x := vs) rfl (wpAny_pure ?_)))))))
  refine wpAny_bind (slicePart_ ps ?_)
  show wpAny _ _ (if ((-1 : Int) == 0) = true then _ else _) _ _ s
  rw [if_neg (by decide)]
  refine wpAny_bind (slicePart_none (wpAny_bind (slicePart_none (wpAny_bind (wpAny_pure ?_)))))
  show wpAny _ _ (match Builtin.Slice.sliceAdjust none none (-1) (n : Int) with | (lo, hi) => pure (lo, (-1 : Int), Builtin.Slice.slicePlaces lo hi (-1))) _ _ s
  rw [adjust_rev n]
  show wpAny _ _ (pure ((n : Int) - 1, (-1 : Int), Builtin.Slice.slicePlaces ((n : Int) - 1) (-1) (-1))) _ _ s
  rw [places_rev]
  exact wpAny_pure h
theorem fm_congr {α β : Type} {f g : α → Option β} : ∀ (l : List α), (∀ a ∈ l, f a = g a) → l.filterMap f = l.filterMap g
  | [], _ => rfl
  | a :: r, h => by
    rw [List.filterMap_cons, List.filterMap_cons, h a List.mem_cons_self, fm_congr r fun b hb => h b (List.mem_cons_of_mem _ hb)]
theorem pick_rev (xs : Array Value) : ((List.range xs.size).filterMap fun (m : Nat) => xs[((xs.size : Int) - 1 + (m : Int) * (-1)).toNat]?).toArray = xs.toList.reverse.toArray := by
  rw [← krv_pick xs]
  unfold slicePick
  rw [krv_bounds]
  show _ = ((sliceRange ((xs.size : Int) - 1) (-1) (-1)).filterMap (xs[·]?)).toArray
  rw [krv_sliceRange, List.filterMap_map]
  refine congrArg List.toArray (fm_congr _ fun m hm => ?_)
  have := List.mem_range.mp hm
  show xs[((xs.size : Int) - 1 + (m : Int) * (-1)).toNat]? = xs[xs.size - 1 - m]?
  have e : ((xs.size : Int) - 1 + (m : Int) * (-1)).toNat = xs.size - 1 - m := by omega
  rw [e]
theorem getItem_tuple_rev {t sl : Addr} {items : Array Value} {vs : Value} {Q : Value → Shared → Prop} (ht : IsTup s.heap t items) (hs : s.heap.IsSliceOf sl .none .none vs) (ps : IsPart vs (some (-1)))
    (h : Q (.ref s.heap.objs.size) { s with heap := s.heap.push { cls := .type "tuple", data := .seq items.toList.reverse.toArray } })
    (hsz : items.size ≤ sizeLine) : wpAny (model prog w) A (getItem (.ref t) (.ref sl)) Q E s := by
  have htake : sizeOk (.seq items.toList.reverse.toArray) := by
    show items.toList.reverse.toArray.size ≤ sizeLine
    rw [List.size_toArray, List.length_reverse, Array.length_toList]
    exact hsz
  obtain ⟨os, hos, hcs, hds⟩ := id hs
  have hTs : s.TypeIs (.ref sl) "slice" := ⟨os, hos, hcs⟩
  unfold getItem
  try with_reducible refine wpAny_holding ?_
  first | refine wpAny_bind (wpAny_pure ?_) | skip
  refine wpAny_bind (wpAny_sequenceKey ht.typeIs (by decide) ?_)
  refine wpAny_bind (wpAny_callSpecial?_slot (name := Str.ofString "__getitem__") ht.typeIs PyProof.Rows.slot_tuple_getitem
    (wpAny_call_entry PyProof.Rows.slot_tuple_getitem ht.typeIs entry_tuple_getitem ?_ (args_tuple_getitem _ _)))
  show wpAny _ _ (Builtin.Tuple.tupleItemsOf (.ref t) >>= _) _ _ s
  refine wpAny_bind (tupleItemsOf_ ht ?_)
  refine wpAny_bind (wpAny_typeOf hTs ?_)
  rw [if_pos (by decide)]
  refine wpAny_bind (sliceApplied_rev hs ps ?_)
  have hno : ¬ ((((items.size : Int) - 1) == 0 && (-1 : Int) == 1 && items.size == items.size) = true) := by
    intro q
    rw [Bool.and_eq_true, Bool.and_eq_true] at q
    exact absurd q.1.2 (by decide)
  show wpAny _ _ (if (((items.size : Int) - 1) == 0 && (-1 : Int) == 1 && items.size == items.size) = true then _ else _) _ _ s
  rw [if_neg hno, pick_rev]
  first
    | exact wpAny_bind (m := Builtin.Tuple.tupleExact _) (wpAny_newObj_type (wpAny_pure ⟨_, rfl, wpAny_pure h⟩) htake)
    | exact wpAny_bind (m := Builtin.Tuple.tupleExact _) (wpAny_newObj_type (wpAny_bind (wpAny_pure (wpAny_pure ⟨_, rfl, wpAny_pure h⟩))) htake)
    | exact wpAny_bind (wpAny_bind (m := Builtin.Tuple.tupleExact _) (wpAny_newObj_type (wpAny_pure (wpAny_pure ⟨_, rfl, wpAny_pure h⟩)) htake))
    | exact wpAny_bind (wpAny_bind (m := Builtin.Tuple.tupleExact _) (wpAny_newObj_type (wpAny_pure ⟨_, rfl, wpAny_pure h⟩) htake))
end
end HT
namespace L2
open PySem PySem.Spec PyProof.Rows
section
variable {X : Cx}
/-- t[::-1] of a tuple -/
def tRevT (K : PySem.W.Frag) (te : TE) : TE := fun σ H Q => te σ H fun x H1 => ∃ a xs, x = .ref a ∧ SqT K H1 a xs ∧ ∀ p, H1 p = none → Q (.ref p) (upd H1 p (.tup xs.reverse))
theorem pe_revT {e : Expr} {te : TE} {k : Nat} {p1 p2 p3 pos : Pos} (he : PE X e te) : PE X (.Subscript e (.Slice none none (some (.UnaryOp .USub (.Constant (.int 1) k p1) p2)) p3) pos) (tRevT X.K te) := by
  refine ⟨fun pins s σ H Q I h => ?_⟩
  refine Subscript_ (thn (he.run pins s σ H _ I h) fun v s1 ⟨x, H1, I1, r1, q1⟩ => ?_)
  obtain ⟨a, xs, ex, hx, q⟩ := q1
  subst ex
  cases r1
  have hst : PO X (some (.UnaryOp .USub (.Constant (.int 1) k p1) p2)) (tPart (tUn (rU fun i => .int (-i)) (tC (.int 1)))) := po_some (pe_un un_neg pe_int)
  refine wpAny_Slice (thn (po_none.run pins s1 σ H1 (fun o H2 => o = none ∧ H2 = H1) I1 ⟨rfl, rfl⟩) fun vl s2 ⟨l, H2, I2, pl, el, e2⟩ => ?_)
  subst el e2
  refine thn (po_none.run pins s2 σ H2 (fun o H3 => o = none ∧ H3 = H2) I2 ⟨rfl, rfl⟩) fun vu s3 ⟨u, H3, I3, pu, eu, e3⟩ => ?_
  subst eu e3
  refine thn (hst.run pins s3 σ H3 (fun o H4 => o = some (-1) ∧ H4 = H3) I3 ⟨1, rfl, -1, rfl, rfl, rfl⟩) fun vs s4 ⟨o, H4, I4, ps, eo, e4⟩ => ?_
  subst eo e4
  have I5 : Inv X pins σ H4 { s4 with heap := s4.heap.push { cls := .type "slice", data := .fields #[vl, vu, vs] } } := I4.kept (t' := s4.toks) fun b ob q => Heap.get?_push_of_some _ q
  obtain ⟨its, r, ht, hz⟩ := I5.tuple hx
  have hlen := r.length
  show wpAny (model X.prog X.w) X.A (subscriptTail e (.Slice none none (some (.UnaryOp .USub (.Constant (.int 1) k p1) p2)) p3) (.ref a) (.ref s4.heap.objs.size)) (EP X pins σ Q) X.xe { s4 with heap := s4.heap.push { cls := .type "slice", data := .fields #[vl, vu, vs] } }
  refine tail_any (ops := [.ref a, .ref s4.heap.objs.size]) ht.typeIs (PyProof.Rows.slot_tuple_getitem.lookup) ?_ (by with_unfolding_all rfl)
  cases pl
  cases pu
  refine HT.getItem_tuple_rev ht (Heap.IsSliceOf.new _ .none .none vs) ps ?_ (by rw [List.size_toArray, ← hlen]; exact hz)
  have e : (its.toArray.toList.reverse.toArray) = its.reverse.toArray := by simp
  rw [e]
  refine ⟨.ref _, _, I5.laid (t' := s4.toks) (o := .tup xs.reverse) (fun b ob q => Heap.get?_push_of_some _ q) (Nat.le_refl _) ?_, rfl, q _ (I5.hok.fresh (Nat.le_refl _))⟩
  exact ⟨by rw [List.length_reverse]; exact hz, _, r.reverse, IsTup.new _ _⟩
/-- f(k = v, ..): keywords alone -/
theorem pe_callK0 {CX : CXT} {k : Nat} {f : Addr} {fd : FuncData} {ps ks : List Str} {sp : Sp} {E : XK} {x : Str} {p pos : Pos} {kws : List Keyword} {tk : TA} {g : List Value → List Value → List Value} {gV : List V → List V → List V}
    (F : FnOk X.prog X.w X.K X.mg X.base CX k f fd ps sp) (hr : Room k X.A) (hg : Gl X x) (hm : X.mg x = some (.ref f)) (hk : PySem.W.keepIn X.K (.ref f) = true) (hb : KBinds X.K fd ps ks g gV) (hx : Passes CX X E)
    (hkw : PK X kws tk) (hall : (backToKw pos (keywordEach kws X.env)).all (·.1.isSome) = true := by rfl) (hks : (backToKw pos (keywordEach kws X.env)).filterMap (·.1) = ks := by rfl)
    (hdb : (x == ("__debug__" : Str)) = false := by decide)
    (hpl : ((backTo pos (starEach [] X.env)).any (·.1) || (backToKw pos (keywordEach kws X.env)).any (·.1.isNone)) = false := by rfl) :
    PE X (.Call (.Name x p) [] kws pos) (tCallK sp gV E tNil tk) := by
  refine ⟨fun pins s σ H Q I h => ?_⟩
  refine wpAny_Call_Name_kw (ld_glob I hg hm ?_ hdb)
  refine PySem.W.callWith_KW0 (h₀ := X.base) I.ok.mod.kin hk hall ?_ hpl
  refine thn (hkw.run pos pins s σ H _ I h) fun ws s2 ⟨zs, H2, I2, rz, q2⟩ => ⟨I2.kIn, ?_⟩
  rw [hks]
  exact run_fnk F hr hb hx I2 .nil rz q2
end
end L2

/-! readings, step by step -/
namespace L2
open PySem PySem.Spec PyProof.Rows
section
variable {σ : St} {H : Hp} {Q : VK} {v x y : V} {te ta tb : TE} {tA tB' : TA} {t u : TT} {D : Ends} {t1 t2 : TS} {i : Nat} {a b : Int}
theorem r_var (h : σ[i]? = some (some v)) (k : Q v H) : tVar i σ H Q := ⟨v, h, k⟩
theorem r_c (k : Q v H) : tC v σ H Q := k
theorem r_op {r : R2} (k : ta σ H fun x H1 => tb σ H1 fun y H2 => r x y H2 Q) : tOp r ta tb σ H Q := k
theorem r_un {r : V → Hp → VK → Prop} (k : ta σ H fun x H1 => r x H1 Q) : tUn r ta σ H Q := k
theorem r_cb {r : List V → Hp → VK → Prop} (k : tA σ H fun vs H1 => r vs H1 Q) : tCB r tA σ H Q := k
theorem r_call {sp : Sp} {dvs : List V} {E : XK} (k : tA σ H fun vs H1 => sp (vs ++ dvs) H1 Q E) : tCall sp dvs E tA σ H Q := k
theorem r_cons {QA : List V → Hp → Prop} (k : ta σ H fun x H1 => tA σ H1 fun xs H2 => QA (x :: xs) H2) : tCons ta tA σ H QA := k
theorem r_nil {QA : List V → Hp → Prop} (k : QA [] H) : tNil σ H QA := k
theorem r_tup (k : tA σ H fun xs H1 => xs.length ≤ sizeLine ∧ ∀ p, H1 p = none → Q (.ref p) (upd H1 p (.tup xs))) : tTup tA σ H Q := k
theorem r_lst (k : tA σ H fun xs H1 => xs.length ≤ sizeLine ∧ ∀ p, H1 p = none → Q (.ref p) (upd H1 p (.lst xs))) : tLst tA σ H Q := k
theorem r_I0 {g : Int → Int → V} (k : Q (g a b) H) : rI0 g (.int a) (.int b) H Q := ⟨a, b, rfl, rfl, k⟩
theorem r_I {C : Int → Int → Prop} {g : Int → Int → V} (c : C a b) (k : Q (g a b) H) : rI C g (.int a) (.int b) H Q := ⟨a, b, rfl, rfl, c, k⟩
theorem r_eq (c : scal x y = true) (k : Q (.bl (decide (x = y))) H) : rEq x y H Q := ⟨c, k⟩
theorem r_ne (c : scal x y = true) (k : Q (.bl (!decide (x = y))) H) : rNe x y H Q := ⟨c, k⟩
theorem r_eqI (k : Q (.bl (a == b)) H) : rEq (.int a) (.int b) H Q := ⟨rfl, by rw [dec_int]; exact k⟩
theorem r_neI (k : Q (.bl (!(a == b))) H) : rNe (.int a) (.int b) H Q := ⟨rfl, by rw [dec_int]; exact k⟩
theorem r_eqB {a b : Bool} (k : Q (.bl (a == b)) H) : rEq (.bl a) (.bl b) H Q := ⟨rfl, by rw [dec_bl]; exact k⟩
theorem r_test {Qb : Bool → Hp → Prop} (k : te σ H fun x H' => ∃ k, x = .bl k ∧ Qb k H') : tTest te σ H Qb := k
theorem r_B {Qb : Bool → Hp → Prop} (k : te σ H fun x H' => ∃ k, x = .bl k ∧ Qb k H') : tB te σ H Qb := k
theorem r_not {Qb : Bool → Hp → Prop} (k : t σ H fun c H1 => Qb (!c) H1) : tNot t σ H Qb := k
theorem r_and {Qb : Bool → Hp → Prop} (k : t σ H fun c H1 => if c = true then u σ H1 Qb else Qb false H1) : tAnd t u σ H Qb := k
theorem r_or {Qb : Bool → Hp → Prop} (k : t σ H fun c H1 => if c = true then Qb true H1 else u σ H1 Qb) : tOr t u σ H Qb := k
theorem r_andV (k : ta σ H fun x H1 => ∃ c, x = .bl c ∧ if c = true then tb σ H1 Q else Q (.bl false) H1) : tAndV ta tb σ H Q := k
theorem r_orV (k : ta σ H fun x H1 => ∃ c, x = .bl c ∧ if c = true then Q (.bl true) H1 else tb σ H1 Q) : tOrV ta tb σ H Q := k
theorem r_notV (k : ta σ H fun x H1 => ∃ c, x = .bl c ∧ Q (.bl (!c)) H1) : tNotV ta σ H Q := k
theorem r_if (k : t σ H fun c H1 => if c = true then ta σ H1 Q else tb σ H1 Q) : tIf t ta tb σ H Q := k
theorem r_seqAsg (k : te σ H fun x H1 => t2 D (σ.set i (some x)) H1) : tSeq (tAsg te (gName i)) t2 D σ H := k
theorem r_asg (k : te σ H fun x H1 => D.nx (σ.set i (some x)) H1) : tAsg te (gName i) D σ H := k
theorem r_seqSub {to ti : TE} {ts : TSet} (k : te σ H fun x H1 => to σ H1 fun o H2 => ti σ H2 fun j H3 => ts o j x H3 fun H4 => t2 D σ H4) : tSeq (tAsg te (gSub to ti ts)) t2 D σ H := k
theorem r_sub {to ti : TE} {ts : TSet} (k : te σ H fun x H1 => to σ H1 fun o H2 => ti σ H2 fun j H3 => ts o j x H3 fun H4 => D.nx σ H4) : tAsg te (gSub to ti ts) D σ H := k
theorem r_seqPar {j : Nat} (k : tA σ H fun vs H1 => ∃ v w, vs = [v, w] ∧ t2 D ((σ.set i (some v)).set j (some w)) H1) : tSeq (tPar i j tA) t2 D σ H := k
theorem r_par {j : Nat} (k : tA σ H fun vs H1 => ∃ v w, vs = [v, w] ∧ D.nx ((σ.set i (some v)).set j (some w)) H1) : tPar i j tA D σ H := k
theorem r_ret (k : te σ H D.rt) : tRet te D σ H := k
theorem r_seqDrop (k : te σ H fun _ H1 => t2 D σ H1) : tSeq (tDrop te) t2 D σ H := k
theorem r_drop (k : te σ H fun _ H1 => D.nx σ H1) : tDrop te D σ H := k
theorem r_seqIf {c : TT} {t3 : TS} (k : c σ H fun b H1 => if b = true then t1 { D with nx := t3 D } σ H1 else t2 { D with nx := t3 D } σ H1) : tSeq (tIfS c t1 t2) t3 D σ H := k
theorem r_ifS {c : TT} (k : c σ H fun b H1 => if b = true then t1 D σ H1 else t2 D σ H1) : tIfS c t1 t2 D σ H := k
theorem r_gname {QG : St → Hp → Prop} (k : QG (σ.set i (some v)) H) : gName i v σ H QG := k
theorem r_cutIf {c : TT} {t3 : TS} (M : St → Hp → Prop) (k : c σ H fun b H1 => if b = true then t1 { D with nx := M } σ H1 else t2 { D with nx := M } σ H1) (k2 : ∀ σ' H', M σ' H' → t3 D σ' H') : Evl.tCut (tIfS c t1 t2) t3 D σ H := ⟨M, k, k2⟩
theorem r_yes {Qb : Bool → Hp → Prop} (k : Qb true H) : tYes σ H Qb := k
theorem r_callK {sp : Sp} {gV : List V → List V → List V} {E : XK} {tk : TA} (k : tA σ H fun vs H1 => tk σ H1 fun zs H2 => sp (gV vs zs) H2 Q E) : tCallK sp gV E tA tk σ H Q := k
theorem r_sl {r : V → Option Int → Option Int → Hp → VK → Prop} {tl th : TO} (k : te σ H fun x H1 => tl σ H1 fun l H2 => th σ H2 fun u H3 => r x l u H3 Q) : tSl r te tl th σ H Q := k
theorem r_nopart {QO : Option Int → Hp → Prop} (k : QO none H) : tNoPart σ H QO := k
theorem r_part {QO : Option Int → Hp → Prop} (k : te σ H fun x H1 => ∃ i, x = .int i ∧ QO (some i) H1) : tPart te σ H QO := k
theorem r_bm {K : PySem.W.Frag} {T : String} {r : V → List V → Hp → VK → Prop} (k : te σ H fun x H1 => tyV K T x H1 ∧ tA σ H1 fun xs H2 => r x xs H2 Q) : tBM K T r te tA σ H Q := k
theorem r_bm0 {K : PySem.W.Frag} {T : String} {r : V → List V → Hp → VK → Prop} (k : te σ H fun x H1 => tyV K T x H1 ∧ r x [] H1 Q) : tBM0 K T r te σ H Q := k
theorem r_gtup {K : PySem.W.Frag} {n : Nat} {g : TGs} {a : Addr} {xs : List V} {QG : St → Hp → Prop} (h : SqT K H a xs) (hn : xs.length = n) (k : g xs σ H QG) : gTup K n g (.ref a) σ H QG := ⟨a, xs, rfl, h, hn, k⟩
theorem r_gcons {g : TG} {u : TGs} {xs : List V} {QG : St → Hp → Prop} (k : g v σ H fun σ' H' => u xs σ' H' QG) : gCons g u (v :: xs) σ H QG := ⟨v, xs, rfl, k⟩
theorem r_gnil {QG : St → Hp → Prop} (k : QG σ H) : gNil [] σ H QG := ⟨rfl, k⟩
theorem r_gsub {to ti : TE} {ts : TSet} {QG : St → Hp → Prop} (k : to σ H fun o H1 => ti σ H1 fun j H2 => ts o j v H2 fun H3 => QG σ H3) : gSub to ti ts v σ H QG := k
theorem r_seqAsgG {g : TG} (k : te σ H fun x H1 => g x σ H1 (t2 D)) : tSeq (tAsg te g) t2 D σ H := k
theorem r_asgG {g : TG} (k : te σ H fun x H1 => g x σ H1 D.nx) : tAsg te g D σ H := k
theorem r_next (k : D.nx σ H) : tNext D σ H := k
theorem r_ixL {K : PySem.W.Frag} {p : Addr} {xs : List V} (h : SqL K H p xs) (ha : atI xs a = some v) (k : Q v H) : rIxL K (.ref p) (.int a) H Q := ⟨p, xs, a, v, rfl, rfl, h, ha, k⟩
theorem r_ixT {K : PySem.W.Frag} {p : Addr} {xs : List V} (h : SqT K H p xs) (ha : atI xs a = some v) (k : Q v H) : rIxT K (.ref p) (.int a) H Q := ⟨p, xs, a, v, rfl, rfl, h, ha, k⟩
theorem r_setL {p : Addr} {xs : List V} {j : Nat} {Qh : Hp → Prop} (h : H p = some (.lst xs)) (hj : ixN xs.length a = some j) (k : Qh (upd H p (.lst (xs.set j v)))) : rSetL (.ref p) (.int a) v H Qh := ⟨p, xs, a, j, rfl, rfl, h, hj, k⟩
theorem Same.new {H H1 : Hp} {p : Addr} {o : HO} (e : Same H H1) (np : H1 p = none) : Same H (upd H1 p o) := fun b u h => by
  have h1 := e b u h
  rw [upd_ne (ne_of_none h1 np)]
  exact h1
theorem Same.new0 {H : Hp} {p : Addr} {o : HO} (np : H p = none) : Same H (upd H p o) := (Same.refl H).new np
theorem Same.tup {K : PySem.W.Frag} {H H' : Hp} {a : Addr} {xs : List V} (e : Same H H') (h : SqT K H a xs) : SqT K H' a xs := by
  rcases h with (h | ⟨o, h⟩) | h
  · exact .inl (.inl (e _ _ h))
  · exact .inl (.inr ⟨o, e _ _ h⟩)
  · exact .inr h
end

theorem iteFb {b : Bool} {A B : Prop} (e : b = false) (h : B) : if b = true then A else B := by
  subst e
  exact iteF h
theorem iteTb {b : Bool} {A B : Prop} (e : b = true) (h : A) : if b = true then A else B := by
  subst e
  exact iteT h
/-- a tuple of whole numbers stands at t -/
def TupI (H : Hp) (t : Addr) (ns : List Int) : Prop := H t = some (.tup (ns.map V.int))
theorem TupI.same {H H' : Hp} {t : Addr} {ns : List Int} (h : TupI H t ns) (e : Same H H') : TupI H' t ns := e _ _ h
theorem TupI.sq {K : PySem.W.Frag} {H : Hp} {t : Addr} {ns : List Int} (h : TupI H t ns) : SqT K H t (ns.map V.int) := SqT.of h
theorem TupI.new {H : Hp} {t : Addr} {ns : List Int} {xs : List V} (e : xs = ns.map V.int) : TupI (upd H t (.tup xs)) t ns := by
  unfold TupI
  rw [upd_same, e]
/-- a list of whole numbers stands at l -/
def LstI (H : Hp) (t : Addr) (ns : List Int) : Prop := H t = some (.lst (ns.map V.int))
theorem dpAll_ints {K : PySem.W.Frag} {H : Hp} : ∀ ns : List Int, DpAll K H (ns.map V.int) (ns.map PyData.int)
  | [] => .nil
  | n :: r => .cons (.int n) (dpAll_ints r)
theorem canLay_ints : ∀ ns : List Int, PyData.canLayAll0 (ns.map PyData.int) = true
  | [] => rfl
  | n :: r => canLay_ints r
theorem depth_ints : ∀ ns : List Int, PyData.depthAll (ns.map PyData.int) = 0
  | [] => rfl
  | n :: r => by
    show max 0 (PyData.depthAll (r.map PyData.int)) = 0
    rw [depth_ints r]
    rfl
theorem shaped_tup (ns : List Int) : SeqAt.shaped (.tuple (ns.map PyData.int)) = true := by
  unfold SeqAt.shaped
  show (PyData.canLayAll0 (ns.map PyData.int) && decide (PyData.depthAll (ns.map PyData.int) + 1 ≤ 64)) = true
  rw [canLay_ints, depth_ints]
  rfl
theorem shaped_lst (ns : List Int) : SeqAt.shaped (.list (ns.map PyData.int)) = true := shaped_tup ns
theorem eqD_tup {K : PySem.W.Frag} {H : Hp} {a b : Addr} {ns ms : List Int} {Q : VK} (ha : SqT K H a (ns.map V.int)) (hb : SqT K H b (ms.map V.int)) (k : Q (.bl (decide (ns = ms))) H) : rEqD K (.ref a) (.ref b) H Q :=
  ⟨_, _, .tup ha (dpAll_ints ns), .tup hb (dpAll_ints ms), shaped_tup ns, shaped_tup ms, by
    show Q (.bl (PyData.eqvAll (ns.map PyData.int) (ms.map PyData.int))) H
    rw [PySem.W.ked_eqvAll]
    exact k⟩
theorem neD_tup {K : PySem.W.Frag} {H : Hp} {a b : Addr} {ns ms : List Int} {Q : VK} (ha : SqT K H a (ns.map V.int)) (hb : SqT K H b (ms.map V.int)) (k : Q (.bl (!decide (ns = ms))) H) : rNeD K (.ref a) (.ref b) H Q :=
  ⟨_, _, .tup ha (dpAll_ints ns), .tup hb (dpAll_ints ms), shaped_tup ns, shaped_tup ms, by
    show Q (.bl (!PyData.eqvAll (ns.map PyData.int) (ms.map PyData.int))) H
    rw [PySem.W.ked_eqvAll]
    exact k⟩
theorem eqD_lst {K : PySem.W.Frag} {H : Hp} {a b : Addr} {ns ms : List Int} {Q : VK} (ha : SqL K H a (ns.map V.int)) (hb : SqL K H b (ms.map V.int)) (k : Q (.bl (decide (ns = ms))) H) : rEqD K (.ref a) (.ref b) H Q :=
  ⟨_, _, .lst ha (dpAll_ints ns), .lst hb (dpAll_ints ms), shaped_lst ns, shaped_lst ms, by
    show Q (.bl (PyData.eqvAll (ns.map PyData.int) (ms.map PyData.int))) H
    rw [PySem.W.ked_eqvAll]
    exact k⟩
theorem neD_lst {K : PySem.W.Frag} {H : Hp} {a b : Addr} {ns ms : List Int} {Q : VK} (ha : SqL K H a (ns.map V.int)) (hb : SqL K H b (ms.map V.int)) (k : Q (.bl (!decide (ns = ms))) H) : rNeD K (.ref a) (.ref b) H Q :=
  ⟨_, _, .lst ha (dpAll_ints ns), .lst hb (dpAll_ints ms), shaped_lst ns, shaped_lst ms, by
    show Q (.bl (!PyData.eqvAll (ns.map PyData.int) (ms.map PyData.int))) H
    rw [PySem.W.ked_eqvAll]
    exact k⟩

/-- l + m, lists that are read (the script too) -/
def rCatR (K : PySem.W.Frag) : R2 := fun x y H Q => ∃ l b xs zs, x = .ref l ∧ y = .ref b ∧ SqL K H l xs ∧ SqL K H b zs ∧ xs.length + zs.length ≤ sizeLine ∧ ∀ p, H p = none → Q (.ref p) (upd H p (.lst (xs ++ zs)))
theorem op_catR {X : Cx} : OpR X (binaryOp .Add) (rCatR X.K) := by
  intro pins s σ H x y v u Q I rx ry h
  obtain ⟨l, b, xs, zs, rfl, rfl, hL, hB, hz, q⟩ := h
  cases rx
  cases ry
  obtain ⟨us, r1, p1, _⟩ := I.list hL
  obtain ⟨ws, r2, p2, _⟩ := I.list hB
  obtain ⟨⟨c1, d1, e1, sl1⟩, n1, g1, k1, z1, q1⟩ := p1
  obtain ⟨⟨c2, d2, e2, sl2⟩, n2, g2, k2, z2, q2⟩ := p2
  dsimp only at k1 z1 q1 k2 z2 q2
  subst k1 z1 q1 k2 z2 q2
  have hl1 := r1.length
  have hl2 := r2.length
  refine concat_meets ⟨_, g1, rfl⟩ ⟨_, g2, rfl⟩ noFill_list_add seq_list_add PySem.F.slot_list_add PySem.F.entry_list_add (PySem.F.args_list_add_2 _ _) (list_addW l b us.toArray ws.toArray n1 n2 none none sl1 sl2 (by rw [List.size_toArray, List.size_toArray]; omega)) ⟨g1, g2, ?_⟩
  have ea : us.toArray ++ ws.toArray = (us ++ ws).toArray := by simp
  rw [ea]
  exact ⟨.ref _, _, I.lnew (t' := s.toks) (r1.append r2) (by rw [List.length_append]; omega), rfl, q _ I.fresh⟩

/-! ### the springs of the laws -/
def MM : Int := 618970019642690137449562111
/-- a spring stands at p -/
def Spr (H : Hp) (p : Addr) : Prop := ∃ a b c : Int, H p = some (.lst [.int a, .int b, .int c]) ∧ 0 ≤ b ∧ b < MM
/-- all but p is as it was -/
def But (p : Addr) (H H' : Hp) : Prop := ∀ b o, b ≠ p → H b = some o → H' b = some o
theorem But.refl (p : Addr) (H : Hp) : But p H H := fun _ _ _ h => h
theorem But.trans {p : Addr} {H H1 H2 : Hp} (a : But p H H1) (b : But p H1 H2) : But p H H2 := fun c o n h => b c o n (a c o n h)
theorem But.new {p q : Addr} {H H1 : Hp} {o : HO} (a : But p H H1) (nq : H1 q = none) : But p H (upd H1 q o) := fun c u n h => by
  have h1 := a c u n h
  rw [upd_ne (ne_of_none h1 nq)]
  exact h1
theorem But.mut {p : Addr} {H H1 : Hp} {o : HO} (a : But p H H1) : But p H (upd H1 p o) := fun c u n h => by
  rw [upd_ne n]
  exact a c u n h
theorem But.same {p : Addr} {H H1 H2 : Hp} (a : But p H H1) (b : Same H1 H2) : But p H H2 := fun c u n h => b c u (a c u n h)
theorem Same.but {p : Addr} {H H1 : Hp} (a : Same H H1) : But p H H1 := fun c u _ h => a c u h
theorem But.free {p q : Addr} {H H1 : Hp} (a : But p H H1) (h : H1 q = none) (n : q ≠ p) : H q = none := by
  cases e : H q with
  | none => rfl
  | some o =>
    rw [a q o n e] at h
    cases h
/-- a spring that was made on the way -/
theorem But.of_new {p : Addr} {H H1 H2 : Hp} (np : H p = none) (s : Same H H1) (a : But p H1 H2) : Same H H2 := fun b o h => a b o (ne_of_none h np) (s b o h)
theorem Spr.same {p : Addr} {H H1 : Hp} (s : Same H H1) (h : Spr H p) : Spr H1 p := by
  obtain ⟨a, b, c, e, r⟩ := h
  exact ⟨a, b, c, s _ _ e, r⟩
theorem Spr.ne {p q : Addr} {H : Hp} (h : Spr H p) (n : H q = none) : p ≠ q := by
  obtain ⟨a, b, c, e, r⟩ := h
  exact ne_of_none e n
theorem Spr.new {p q : Addr} {H : Hp} {o : HO} (h : Spr H p) (n : H q = none) : Spr (upd H q o) p := h.same (Same.new0 n)
theorem Spr.put {H : Hp} {p D : Addr} {o : HO} (h : Spr H p) (n : D ≠ p) : Spr (upd H D o) p := by
  obtain ⟨x1, x2, x3, e1, e2⟩ := h
  exact ⟨x1, x2, x3, by rw [upd_ne (Ne.symm n)]; exact e1, e2⟩
theorem Spr.here {p : Addr} {H : Hp} (h : Spr H p) : ∃ o, H p = some o := by
  obtain ⟨a, b, c, e, r⟩ := h
  exact ⟨_, e⟩

def spSpring : Sp := fun vs H Q _ => ∃ c k : Int, vs = [.int c, .int k] ∧ ∀ p H', H p = none → Same H H' → Spr H' p → Q (.ref p) H'
def spSip : Sp := fun vs H Q _ => ∃ (p : Addr) (m : Int), vs = [.ref p, .int m] ∧ Spr H p ∧ 1 ≤ m ∧ m < 2 ^ 250 ∧ ∀ r H', 0 ≤ r → r < m → But p H H' → Spr H' p → Q (.int r) H'
def spFar : Sp := fun vs H Q _ => ∃ (p : Addr) (w : Int), vs = [.ref p, .int w] ∧ Spr H p ∧ 1 ≤ w ∧ w < 2 ^ 250 ∧ ∀ r H', -w < r → r < w → But p H H' → Spr H' p → Q (.int r) H'
def spTruth : Sp := fun vs H Q _ => ∃ a b : Bool, vs = [.bl a, .bl b] ∧ Q (.bl (a == b)) H
def spLaw (K : PySem.W.Frag) : Sp := fun vs H Q _ => ∃ (a : Addr) (ns : List Int), vs = [.ref a] ∧ SqL K H a (ns.map V.int) ∧ ns.length ≤ 63 ∧ (∀ z ∈ ns, Builtin.Int.intBits z ≤ 1048576) ∧ ∀ H', Q (.bl true) H'

theorem cut_ints (ns : List Int) (k : Nat) : cutV (ns.map V.int) none (some (k : Int)) = (ns.take k).map V.int := by
  unfold cutV
  rw [HT.sIx_none, HT.sIx_nat, List.drop_zero, List.length_map, Nat.sub_zero, ← List.map_take]
  congr 1
  rw [List.take_eq_take_iff]
  omega
/-- the cells of a script: the first k, or a 0 -/
def cells (ns : List Int) (k : Nat) : List Int := ns.take k ++ List.replicate (if ns.length = 0 then 1 else 0) 0
theorem cells_len {ns : List Int} (h : ns.length ≤ 63) (k : Nat) : (cells ns k).length ≤ 64 := by
  unfold cells
  rw [List.length_append, List.length_take, List.length_replicate]
  split <;> omega
theorem cells_v (ns : List Int) (k : Nat) : (ns.take k).map V.int ++ (List.replicate ((if ns.length = 0 then (1 : Int) else 0).toNat) [V.int 0]).flatten = (cells ns k).map V.int := by
  unfold cells
  rw [List.map_append]
  congr 1
  split <;> rfl
/-- keywords alone -/
def kwG {α : Type} : List α → List α → List α
  | [], ws => ws
  | _ :: _, _ => []
theorem kwG_rel {vs : List V} {us : List Value} {zs : List V} {ws : List Value} (h : Vals vs us) (k : Vals zs ws) : Vals (kwG vs zs) (kwG us ws) := by
  cases h with
  | nil => exact k
  | cons _ _ => exact .nil
/-! ### greatest common divisors -/
def gcdL : List Int → Nat
  | [] => 0
  | a :: r => Nat.gcd a.natAbs (gcdL r)
theorem gcdL_foldl : ∀ (l : List Int) (g : Nat), l.foldl (fun g a => Nat.gcd g a.natAbs) g = Nat.gcd g (gcdL l)
  | [], g => (Nat.gcd_zero_right g).symm
  | a :: r, g => by
    rw [List.foldl_cons, gcdL_foldl r, gcdL, Nat.gcd_assoc]
theorem gcdL_append : ∀ (l r : List Int), gcdL (l ++ r) = Nat.gcd (gcdL l) (gcdL r)
  | [], r => (Nat.gcd_zero_left _).symm
  | a :: l, r => by rw [List.cons_append, gcdL, gcdL, gcdL_append l r, Nat.gcd_assoc]
theorem gcdL_one (a : Int) : gcdL [a] = a.natAbs := Nat.gcd_zero_right _
theorem gcdL_reverse : ∀ l : List Int, gcdL l.reverse = gcdL l
  | [] => rfl
  | a :: r => by rw [List.reverse_cons, gcdL_append, gcdL_one, gcdL_reverse r, gcdL, Nat.gcd_comm]
theorem gcdL_neg : ∀ l : List Int, gcdL (l.map fun a => 0 - a) = gcdL l
  | [] => rfl
  | a :: r => by
    rw [List.map_cons, gcdL, gcdL, gcdL_neg r]
    have e : (0 - a).natAbs = a.natAbs := by omega
    rw [e]
theorem gcdL_mul : ∀ (l : List Int) (k : Int), gcdL (l.map fun a => a * k) = gcdL l * k.natAbs
  | [], k => (Nat.zero_mul _).symm
  | a :: r, k => by rw [List.map_cons, gcdL, gcdL, gcdL_mul r, Int.natAbs_mul, Nat.gcd_mul_right]
theorem gcdL_dvd : ∀ (l : List Int) (a : Int), a ∈ l → ((gcdL l : Nat) : Int) ∣ a
  | b :: r, a, h => by
    rcases List.mem_cons.mp h with e | e
    · subst e
      exact Int.ofNat_dvd_left.mpr (Nat.gcd_dvd_left _ _)
    · exact Int.dvd_trans (Int.ofNat_dvd.mpr (Nat.gcd_dvd_right _ _)) (gcdL_dvd r a e)
theorem dvd_gcdL {d : Nat} : ∀ (l : List Int), (∀ a ∈ l, (d : Int) ∣ a) → d ∣ gcdL l
  | [], _ => Nat.dvd_zero d
  | a :: r, h => Nat.dvd_gcd (Int.ofNat_dvd_left.mp (h a List.mem_cons_self)) (dvd_gcdL r fun b hb => h b (List.mem_cons_of_mem _ hb))
theorem gcdL_lt {B : Nat} (hB : 0 < B) : ∀ (l : List Int), (∀ a ∈ l, a.natAbs < B) → gcdL l < B
  | [], _ => hB
  | a :: r, h => by
    have h1 := h a List.mem_cons_self
    have h2 := gcdL_lt hB r fun b hb => h b (List.mem_cons_of_mem _ hb)
    rw [gcdL]
    by_cases e : a.natAbs = 0
    · rw [e, Nat.gcd_zero_left]
      exact h2
    · exact Nat.lt_of_le_of_lt (Nat.gcd_le_left _ (Nat.pos_of_ne_zero e)) h1
theorem gcdL_zero {l : List Int} (h : gcdL l = 0) : ∀ a ∈ l, a = 0 := fun a ha => by
  have q := gcdL_dvd l a ha
  rw [h] at q
  exact Int.zero_dvd.mp q
theorem gcdL_of_zero : ∀ {l : List Int}, (∀ a ∈ l, a = 0) → gcdL l = 0
  | [], _ => rfl
  | a :: r, h => by
    rw [gcdL, h a List.mem_cons_self, gcdL_of_zero fun b hb => h b (List.mem_cons_of_mem _ hb)]
    rfl
/-- the seen place ahead -/
def firstL (l : List Int) : List Int := if gcdL l = 0 then l else l.map fun a => a / ((gcdL l : Nat) : Int)
theorem firstL_len (l : List Int) : (firstL l).length = l.length := by
  unfold firstL
  split
  · rfl
  · exact List.length_map _
theorem firstL_back {l : List Int} : (firstL l).map (fun a => a * ((gcdL l : Nat) : Int)) = if gcdL l = 0 then l.map (fun _ => 0) else l := by
  unfold firstL
  split
  · rename_i h
    rw [h]
    exact List.map_congr_left fun a _ => Int.mul_zero a
  · rw [List.map_map]
    conv => rhs; rw [← List.map_id l]
    exact List.map_congr_left fun a ha => Int.ediv_mul_cancel (gcdL_dvd l a ha)
theorem firstL_gcd {l : List Int} (h : gcdL l ≠ 0) : gcdL (firstL l) = 1 := by
  have e := firstL_back (l := l)
  rw [if_neg h] at e
  have q := gcdL_mul (firstL l) ((gcdL l : Nat) : Int)
  rw [e, Int.natAbs_natCast] at q
  have : 1 * gcdL l = gcdL (firstL l) * gcdL l := by rw [Nat.one_mul]; exact q
  exact (Nat.eq_of_mul_eq_mul_right (Nat.pos_of_ne_zero h) this).symm
theorem gcdL_same {l m : List Int} (h : ∀ d : Nat, (∀ a ∈ l, (d : Int) ∣ a) ↔ ∀ a ∈ m, (d : Int) ∣ a) : gcdL l = gcdL m := by
  refine Nat.dvd_antisymm ?_ ?_
  · exact dvd_gcdL m ((h _).mp (gcdL_dvd l))
  · exact dvd_gcdL l ((h _).mpr (gcdL_dvd m))
theorem all_set {P : Int → Prop} {l : List Int} {i : Nat} {z : Int} (h : ∀ j a, j ≠ i → l[j]? = some a → P a) (hz : P z) : ∀ a ∈ l.set i z, P a := by
  intro a ha
  obtain ⟨j, hj⟩ := List.getElem?_of_mem ha
  by_cases e : j = i
  · subst e
    have hl := (List.getElem?_eq_some_iff.mp hj).1
    rw [List.length_set] at hl
    rw [List.getElem?_set_self hl] at hj
    cases hj
    exact hz
  · rw [List.getElem?_set_ne (Ne.symm e)] at hj
    exact h j a e hj
theorem set_other {l : List Int} {i j : Nat} {z a : Int} (n : j ≠ i) (h : l[j]? = some a) : a ∈ l.set i z :=
  List.mem_of_getElem? (i := j) (by rw [List.getElem?_set_ne (Ne.symm n)]; exact h)
theorem set_here {l : List Int} {i : Nat} {z a : Int} (h : l[i]? = some a) : z ∈ l.set i z :=
  List.mem_of_getElem? (i := i) (List.getElem?_set_self (List.getElem?_eq_some_iff.mp h).1)
/-- a multiple of another coordinate added -/
theorem gcdL_shear {l : List Int} {i j : Nat} {x y k : Int} (n : j ≠ i) (hx : l[i]? = some x) (hy : l[j]? = some y) : gcdL (l.set i (x + k * y)) = gcdL l := by
  refine gcdL_same fun d => ⟨fun h a ha => ?_, fun h => all_set (fun m a _ hm => h a (List.mem_of_getElem? hm)) (Int.dvd_add (h x (List.mem_of_getElem? hx)) (Int.dvd_trans (h y (List.mem_of_getElem? hy)) (Int.dvd_mul_left _ _)))⟩
  obtain ⟨m, hm⟩ := List.getElem?_of_mem ha
  by_cases e : m = i
  · subst e
    rw [hx] at hm
    cases hm
    have h1 := h _ (set_here (z := x + k * y) hx)
    have h2 := Int.dvd_trans (h y (set_other n hy)) (Int.dvd_mul_left k y)
    have h3 := Int.dvd_sub h1 h2
    rwa [Int.add_sub_cancel] at h3
  · exact h a (set_other e hm)
/-- two coordinates exchanged, one with its sign turned -/
theorem gcdL_swap {l : List Int} {i j : Nat} {x y : Int} (n : j ≠ i) (hx : l[i]? = some x) (hy : l[j]? = some y) : gcdL ((l.set i y).set j (0 - x)) = gcdL l := by
  have hx' : (0 - x) ∈ (l.set i y).set j (0 - x) := set_here (a := y) (by rw [List.getElem?_set_ne (Ne.symm n)]; exact hy)
  have hy' : y ∈ (l.set i y).set j (0 - x) := set_other (j := i) (Ne.symm n) (List.getElem?_set_self (List.getElem?_eq_some_iff.mp hx).1)
  refine gcdL_same fun d => ⟨fun h a ha => ?_, fun h => all_set (fun m a hm hma => ?_) (Int.dvd_sub (Int.dvd_zero _) (h x (List.mem_of_getElem? hx)))⟩
  · obtain ⟨m, hm⟩ := List.getElem?_of_mem ha
    by_cases e : m = i
    · subst e
      rw [hx] at hm
      cases hm
      have h1 := Int.dvd_sub (Int.dvd_zero (d : Int)) (h _ hx')
      have e2 : 0 - (0 - x) = x := by omega
      rwa [e2] at h1
    · by_cases e2 : m = j
      · subst e2
        rw [hy] at hm
        cases hm
        exact h _ hy'
      · exact h a (set_other e2 (by rw [List.getElem?_set_ne (Ne.symm e)]; exact hm))
  · by_cases e : m = i
    · subst e
      rw [List.getElem?_set_self (List.getElem?_eq_some_iff.mp hx).1] at hma
      cases hma
      exact h y (List.mem_of_getElem? hy)
    · rw [List.getElem?_set_ne (Ne.symm e)] at hma
      exact h a (List.mem_of_getElem? hma)
theorem take_more {α : Type} : ∀ {l : List α} {i : Nat} {x : α}, l[i]? = some x → l.take (i + 1) = l.take i ++ [x]
  | [], i, x, h => by simp at h
  | a :: l, 0, x, h => by
    have e : a = x := Option.some.inj h
    subst e
    rfl
  | a :: l, i + 1, x, h => by
    have ih := take_more (l := l) (i := i) (x := x) h
    show a :: l.take (i + 1) = a :: l.take i ++ [x]
    rw [ih]
    rfl
theorem ints_at {ns : List Int} {i : Nat} {x : V} (h : (ns.map V.int)[i]? = some x) : ∃ z, ns[i]? = some z ∧ x = V.int z := by
  rw [List.getElem?_map] at h
  cases e : ns[i]? with
  | none =>
    rw [e] at h
    cases h
  | some z =>
    rw [e] at h
    exact ⟨z, rfl, (Option.some.inj h).symm⟩
theorem at_int {ns : List Int} {i : Int} (h0 : 0 ≤ i) (h1 : i < (ns.length : Int)) : ∃ x, ns[i.toNat]? = some x ∧ atI (ns.map V.int) i = some (.int x) := by
  have hi : i.toNat < ns.length := by omega
  refine ⟨ns[i.toNat], List.getElem?_eq_getElem hi, ?_⟩
  have e : i = ((i.toNat : Nat) : Int) := (Int.toNat_of_nonneg h0).symm
  exact at_of e (by rw [List.getElem?_map, List.getElem?_eq_getElem hi]; rfl)
theorem ix_int {ns : List Int} {i : Int} (h0 : 0 ≤ i) (h1 : i < (ns.length : Int)) : ixN (ns.map V.int).length i = some i.toNat := by
  rw [List.length_map]
  unfold ixN
  rw [if_pos h0, if_pos h1]
theorem rep_ints (n : Nat) : (List.replicate ((n : Int)).toNat [V.int 0]).flatten = (List.replicate n (0 : Int)).map V.int := by
  rw [Int.toNat_natCast]
  induction n with
  | zero => rfl
  | succ n ih => rw [List.replicate_succ, List.replicate_succ, List.flatten_cons, List.map_cons, ih]; rfl
theorem Spr.tupNe {H : Hp} {p t : Addr} {ns : List Int} (h : Spr H p) (ht : TupI H t ns) : t ≠ p := fun e => by
  obtain ⟨x1, x2, x3, e1, _⟩ := h
  unfold TupI at ht
  rw [e, e1] at ht
  cases ht
end L2

/-! errors that are caught, kept and asked -/
namespace L2
open PySem PySem.Spec PyProof.Rows
/-- a caught error at a: its class, its own dict -/
def exK (cls : Value) (d : Option Addr) (a : Addr) : HO := .ext fun h => ∃ (oe : Obj) (vs : Array Value), h.get? a = some oe ∧ Zc cls d oe ∧ oe.data = .fields vs
theorem exK_ok {P : Program} {w : World} {H : Hp} {h : Heap} {a : Addr} {cls : Value} {d : Option Addr} {oe : Obj} {vs : Array Value} (e : h.get? a = some oe) (z : Zc cls d oe) (dd : oe.data = .fields vs) : ObjOk P w H h a (exK cls d a) :=
  ⟨⟨oe, vs, e, z, dd⟩, ⟨oe, e⟩, fun _ _ ⟨o, v, q, r⟩ k => ⟨o, v, k o q, r⟩⟩
section
variable {X : Cx} {pins : List (Addr × Obj)} {σ : St} {H : Hp} {s : Shared}
theorem Inv.track {a : Addr} {o : HO} {oe : Obj} {vs : Array Value} (I : Inv X pins σ H s) (ha : H a = none) (h0 : X.s_0.heap.get? a = none) (ho : s.heap.get? a = some oe) (hd : oe.data = .fields vs) (nL : a ≠ X.env.locals)
    (np : ∀ p ∈ X.pn ++ pins, p.1 ≠ a) (new : ObjOk X.prog X.w (upd H a o) s.heap a o) : Inv X pins σ (upd H a o) s where
  ok := I.ok
  os := I.os
  bare := I.bare
  base := {
    keep := fun b u e n hf hx => I.base.keep b u e n hf hx
    slot := fun b u e n hf hx => I.base.slot b u e n hf hx
    free := fun b u e n hx => by
      have nb : b ≠ a := fun z => by
        rw [z, h0] at e
        cases e
      rw [upd_ne nb]
      exact I.base.free b u e n hx
    there := fun b u e hx => I.base.there b u e hx
    tups := fun b xs e => by
      have q := I.base.tups b xs e
      rw [upd_ne (ne_of_none q ha)]
      exact q
    frzs := fun b u v e => by
      have q := I.base.frzs b u v e
      rw [upd_ne (ne_of_none q ha)]
      exact q
    tbls := fun b ps e => by
      obtain ⟨m, q⟩ := I.base.tbls b ps e
      exact ⟨m, by rw [upd_ne (ne_of_none q ha)]; exact q⟩ }
  loc := I.loc
  cell := I.cell
  free := by
    rw [upd_ne (Ne.symm nL)]
    exact I.free
  freeC := fun x c e => by
    have nc : c ≠ a := fun z => by
      obtain ⟨v, oc, q, qd⟩ := I.cell x c e
      rw [z, ho] at q
      cases q
      rw [hd] at qd
      cases qd
    rw [upd_ne nc]
    exact I.freeC x c e
  pin := fun p hp => by
    obtain ⟨q1, q2, q3, q4, q5⟩ := I.pin p hp
    exact ⟨q1, by rw [upd_ne (np p hp)]; exact q2, q3, q4, q5⟩
  hok := HOk.laidN I.hok (fun _ _ q => q) ha new
  len := I.len
end
/-- except c as n: the suite goes on, and the error is known behind it, too -/
def wKeep (K : PySem.W.Frag) (c : Value) (i : Nat) (ts : Addr → Value → Option Addr → TS) (Wout : WX) (D : Ends) : WX := fun cls d σ H =>
  ∃ b, PySem.W.exmOne K cls c = some b ∧ (b = true → ∀ a, H a = none → ts a cls d { nx := fun σ' H' => H' a = none → D.nx (σ'.set i none) (upd H' a (exK cls d a)), rt := fun _ _ => False, bk := fun _ _ => False, ct := fun _ _ => False } (σ.set i (some (.ref a))) H) ∧
    (b = false → Wout cls d σ H)
section
variable {X : Cx} {x n : Str} {c : Value} {i : Nat} {body suite : List Stmt} {b₀ : Stmt} {np pos pos' : Pos} {tb : WX → TS} {ts : Addr → Value → Option Addr → TS} {Wout : WX}
theorem ps_try_keep (hex : X.ex = []) (hs : X.stack = X.env :: X.outer) (hf : X.env.frame = some X.env.locals) (hN : X.N.Nodup) (hi : X.N[i]? = some n) (hln : X.env.kindOf n = some .local) (hc : Names X x c) (tk : Takes X Wout)
    (hb : ∀ (W : WX) (pn : List (Addr × Obj)) (xe : Value → Shared → Prop), Takes (X.tr pn xe) W → PassesOwn (model X.prog X.w) X.A X.env xe → PSs (X.tr pn xe) body (tb W))
    (hsu : ∀ (a : Addr) (oe : Obj) (cls : Value) (d : Option Addr) (pn : List (Addr × Obj)), Zc cls d oe → (∃ vs, oe.data = .fields vs) → PSs (X.suite a ((a, oe) :: pn)) (b₀ :: suite) (ts a cls d)) :
    PS X (.Try body [.ExceptHandler (some (.Name x np)) (some n) (b₀ :: suite) pos'] [] [] pos) (fun D σ H => tb (wKeep X.K c i ts Wout D) D σ H) := by
  refine ⟨fun pins s σ H D I h => ?_⟩
  have ok := I.ok
  have hfr : X.A.frames = some (X.env :: X.outer) := by rw [ok.frames, hs]
  have hloc : Loc X.env.scope n := .inl hln
  refine wpAny_Try_except ?_
  refine wpAny_mono ((hb (wKeep X.K c i ts Wout D) (X.pn ++ pins) (fun e s₁ => wpAny (model X.prog X.w) X.A (noteFrame e X.env) (fun _ s₂ => wpAny (model X.prog X.w) X.A (setFlight e none) (fun _ s₃ =>
    wpAny (model X.prog X.w) X.A (handleBy e X.env [.ExceptHandler (some (.Name x np)) (some n) (b₀ :: suite) pos']) (SP X pins D) X.xe s₃) X.xe s₂) X.xe s₁) (fun u s' xx => ?_) PassesOwn.looking).run [] s σ H D (I.toTry _) h) (fun f s1 hsp => ?_) (fun e s1 he => he)
  · obtain ⟨a, B, sI, pins', σ', H', cls, d, rfl, J', nb, up, sky, na, os, ag, b, hb1, hyes, hno⟩ := xx
    have J : Inv X pins σ' H' sI := J'.ofTry ok
    have sky' : Sky B (X.env :: X.outer) a (Zc cls d) X.env.locals s'.heap := by rw [← hs]; exact sky
    show wpAny (model X.prog X.w) X.A (noteFrame (.ref a) X.env) _ _ _
    refine Sky.land Zc.steady hfr hf sky' fun h3 fl3 up3 => ?_
    have J3 : Inv X pins σ' H' { s' with heap := h3 } := J.landed nb fl3.1 (up.trans up3) os ag
    obtain ⟨oe3, vs3, he3, hz3, hd3⟩ := fl3.there
    have notFr : ∀ {h : Heap} {o : Obj} {vs : Array Value}, h.FunFrames B (X.env :: X.outer) → h.get? a = some o → o.data = .fields vs → a ∉ frs (X.env :: X.outer) := fun {h o vs} ff e dd hm => by
      obtain ⟨_, o', e', hnf⟩ := ff.mem hm
      rw [e] at e'; cases e'
      exact hnf _ dd
    have nfr := notFr fl3.2.2.1 he3 hd3
    have nL : a ≠ X.env.locals := fun z => nfr (List.mem_filterMap.mpr ⟨X.env, List.mem_cons_self, by rw [hf, z]⟩)
    have nF : a ∉ X.fs := fun hm => by
      obtain ⟨e, he, q⟩ := List.mem_filterMap.mp hm
      exact nfr (List.mem_filterMap.mpr ⟨e, List.mem_cons_of_mem _ he, q⟩)
    have newI : sI.heap.get? a = none := by
      cases e : sI.heap.get? a with
      | none => rfl
      | some o =>
        have q := nb a o e (by rw [hs]; exact nfr)
        rw [fl3.2.1] at q
        cases q
    have new0 : X.s_0.heap.get? a = none := by
      cases e : X.s_0.heap.get? a with
      | none => rfl
      | some o =>
        obtain ⟨o', q⟩ := J.base.there a o e (by rw [hex]; exact fun z => nomatch z)
        rw [newI] at q
        cases q
    have npin : ∀ p ∈ X.pn ++ pins, p.1 ≠ a := fun p hp z => by
      have q := (J.pin p hp).1
      rw [z, newI] at q
      cases q
    have S3 := J3.suite he3 hd3 na nL nF
    refine wpAny_handleBy_cons (codeAny_handlers_test ?_) (by intro q; cases q)
    have LT : PySem.W.Looks (model X.prog X.w) h3 (typeOf (.ref a)) cls := fun A Q E s k q => wpAny_typeOf_ref (k _ _ he3) (by rw [hz3.1]; exact q)
    have LM := PySem.W.exm_one (M := model X.prog X.w) (J3.kIn) LT hb1
    have test : ∀ {Q : Value → Shared → Prop} {E : Value → Shared → Prop}, Q c { s' with heap := h3 } → wpAny (model X.prog X.w) (X.A.mark (some (.ref a))) (eval (.Name x np) X.env) Q E { s' with heap := h3 } := fun {Q E} q => by
      obtain ⟨hg, hdbg, hm | ⟨hm, hv, hnn⟩⟩ := hc
      · exact ld_glob (X := X.suite a ((a, oe3) :: (X.pn ++ pins))) S3 hg hm q hdbg
      · exact ld_blt (X := X.suite a ((a, oe3) :: (X.pn ++ pins))) S3 hg hm hv q hnn hdbg
    refine test (LM.here ?_)
    cases b with
    | true =>
      refine codeAny_handlers_suite_as ?_
      refine HandSPX.lands_againZ fl3 fun h4 fl4 up4 => ?_
      have J4 : Inv X pins σ' H' { s' with heap := h4 } := J.landed nb fl4.1 ((up.trans up3).trans up4) os ag
      obtain ⟨oe4, vs4, he4, hz4, hd4⟩ := fl4.there
      have S4 := J4.suite he4 hd4 na nL nF
      refine store_ok (X := X.suite a ((a, oe4) :: (X.pn ++ pins))) (v := .ref a) S4 hN hi hloc rfl (fun s5 S5 => ?_) (.inr hln)
      refine wpAny_mono ((hsu a oe4 cls d (X.pn ++ pins) hz4 ⟨_, hd4⟩).run [] s5 _ H' _ S5 (hyes rfl a na)) (fun f s6 hsp => ?_) (fun _ _ z => False.elim z)
      cases f with
      | next =>
        obtain ⟨σ6, H6, S6, q6⟩ := hsp
        have P6 := S6.pin (a, oe4) (List.mem_append_left _ List.mem_cons_self)
        have U6 := S6.unsuite ok
        have V6 : Inv X ((a, oe4) :: pins) σ6 H6 s6 := U6.pins_of fun p hp => by
          rcases List.mem_cons.mp hp with e | e
          · subst e
            exact ⟨P6.1, P6.2.1, P6.2.2.1, P6.2.2.2.1, P6.2.2.2.2⟩
          · exact U6.pin p (List.mem_append_right _ e)
        refine gone_ok V6 hN hi hln fun s7 J7 => ?_
        have P7 := J7.pin (a, oe4) (List.mem_append_right _ List.mem_cons_self)
        have J8 : Inv X pins (σ6.set i none) H6 s7 := J7.pins_of fun p hp => J7.pin p (List.mem_append_right _ (List.mem_cons_of_mem _ hp))
        exact ⟨_, _, J8.track P7.2.1 new0 P7.1 hd4 nL npin (exK_ok P7.1 hz4 hd4), q6 P6.2.1⟩
      | brk =>
        obtain ⟨σ6, H6, S6, q6⟩ := hsp
        exact q6.elim
      | cont =>
        obtain ⟨σ6, H6, S6, q6⟩ := hsp
        exact q6.elim
      | ret u =>
        obtain ⟨v6, σ6, H6, S6, r6, q6⟩ := hsp
        exact q6.elim
    | false =>
      show wpAny _ X.A (handleBy (.ref a) X.env []) _ _ _
      refine wpAny_handleBy_nil ?_
      obtain ⟨k1, k2, k3, oe, vs, T, oT, ts', he, hz, hd, h1, hr⟩ := id fl3
      unfold PySem.passOn
      refine wpAny_bind (wpAny_field he hd h1 ?_)
      rw [if_neg (show ¬ ((Value.ref T == Value.none) = true) from by simp)]
      have fin : wpAny (model X.prog X.w) X.A (setFlight (.ref a) X.env.frame) (fun _ s4 => wpAny (model X.prog X.w) X.A (throw (.ref a) : Sem Flow) (SP X pins D) X.xe s4) X.xe { s' with heap := h3 } := by
        rw [hf]
        refine HandSPX.setFlight_upZ fl3 fun h4 hh4 up4 => wpAny_throw (tk _ _ ?_)
        exact ⟨a, B, sI, pins, σ', H', cls, d, rfl, J, nb, (up.trans up3).trans up4, .inr (.inr (by rw [hs]; exact hh4)), na, os, ag, hno rfl⟩
      first
        | exact wpAny_bind (wpAny_pure (wpAny_bind fin))
        | exact wpAny_bind fin
  · cases f with
    | next =>
      obtain ⟨σ', H', J', q⟩ := hsp
      exact wpAny_execs_nil ⟨σ', H', J'.ofTry ok, q⟩
    | brk =>
      obtain ⟨σ', H', J', q⟩ := hsp
      exact ⟨σ', H', J'.ofTry ok, q⟩
    | cont =>
      obtain ⟨σ', H', J', q⟩ := hsp
      exact ⟨σ', H', J'.ofTry ok, q⟩
    | ret u =>
      obtain ⟨v, σ', H', J', r, q⟩ := hsp
      exact ⟨v, σ', H', J'.ofTry ok, r, q⟩
end
/-- e.f, e a kept error -/
def tXk (K : PySem.W.Frag) (f : Str) (te : TE) : TE := fun σ H Q => te σ H fun x H1 => ∃ (a C dd : Addr) (fs : List (Str × V)) (v : V), x = .ref a ∧ XfC K C ∧ PySem.W.findIn K (.ref C) f = some none ∧ H1 a = some (exK (.ref C) (some dd) a) ∧ H1 dd = some (.xd fs) ∧ fs.lookup f = some v ∧ Q v H1
theorem pe_xk {X : Cx} {e : Expr} {te : TE} {pos : Pos} {n : Str} (he : PE X e te) (hb : attributeBase e n X.env (eval e X.env) = eval e X.env := by rfl) : PE X (.Attribute e n pos) (tXk X.K n te) := by
  refine ⟨fun pins s σ H Q I h => ?_⟩
  refine attr_of hb (thn (he.run pins s σ H _ I h) fun u s1 hh => ?_)
  obtain ⟨x, H1, I1, rx, a, C, dd, fs, v, ex, T, hno, ea, ed, l, q⟩ := hh
  subst ex
  obtain rfl : u = Value.ref a := rx
  obtain ⟨⟨oe, vs, ha, hz, hd⟩, _, _⟩ := I1.hok a _ ea
  have hx : ObjOk X.prog X.w H1 s1.heap dd (.xd fs) := I1.hok dd _ ed
  obtain ⟨mA, hns, hr⟩ := hx
  obtain ⟨od, ho, hl⟩ := lookIn_ns hns
  obtain ⟨u, hu, ru⟩ := RelO.some_of (v := v) (o := mA n) (by rw [← l]; exact hr n)
  have J : PySem.W.InstAt s1.heap a oe C (some od) := ⟨ha, hz.1, by unfold PySem.W.notCls; rw [hd] <;> rfl, by rw [hz.2]; exact ho⟩
  exact HandSPX.exc_get I1.kIn J T.ga T.gg T.exC (PySem.W.findObj_own T.hdC hno rfl (by rw [hl, hu])) (handed_of ru) ⟨v, H1, I1.tok _, ru, q⟩
end L2
namespace PySem.W
open PySem PySem.Spec PySem.Calls PyProof.Rows
section
variable {prog : Program} {w : World} {A : Around} {E : Value → Shared → Prop} {s : Shared} {K : Frag} {x D : Addr} {ox od : Obj}
theorem kin_classK {Q : Option Value → Shared → Prop} (C : L2.ExcC K D) (X : K.In s.heap) (I : InstAt s.heap x ox D (some od)) (h : Q (some (.ref D)) { s with toks := s.toks + 1 }) : wpAny (model prog w) A (getAttr? (.ref x) "__class__") Q E s := by
  have hf : findObj K D (some od) "__class__" = some (.bind (.builtin "getset_descriptor.__get__") (.builtin "object.__class__")) := findObj_data (by obtain ⟨cd, hc, _⟩ := any_some C.hd; rw [hc]; rfl) C.ha C.hn C.ht
  obtain ⟨hp, g, d, t, os⟩ := s
  have L0 := I.type (M := model prog w)
  have L1 := looks_findIn (M := model prog w) X C.hg
  have L2 := looks_findIn (M := model prog w) X C.hk
  have L3 := looks_find (M := model prog w) X I hf
  have sub : Looks (model prog w) hp (isInstance (.ref x) (.type "BaseException")) true := L0.andThen (looks_subIn X C.hs)
  have hx0 : (false && onTheHeap (Value.builtin "BaseException.__getattribute__")) = false := rfl
  have hx2 : (Value.builtin "BaseException.__getattribute__" == Value.builtin "object.__getattribute__") = false := by decide +kernel
  have hx1 : (onTheHeap (Value.ref D) && Value.builtin "BaseException.__getattribute__" == Value.builtin "object.__getattribute__") = false := by rw [hx2]; rfl
  unfold getAttr? getAttrBy? getAttrBy
  refine wpAny_bind (wpAny_mkText (wpAny_bind (wpAny_attempt (wpAny_holding (wpAny_bind (L0.at (wpAny_bind (L1.at ?_))))))))
  show wpAny _ _ (if (onTheHeap (Value.ref D) && Value.builtin "BaseException.__getattribute__" == Value.builtin "object.__getattribute__") = true then _ else _) _ _ _
  rw [hx1, if_neg Bool.false_ne_true]
  unfold getAttrByItsOwn hookBefore
  refine wpAny_bind ?_
  rw [if_pos (show onTheHeap (Value.ref D) = true from rfl)]
  refine L2.at ?_
  refine wpAny_bind (wpAny_attempt (wpAny_holding ?_))
  unfold callGetattribute
  rw [hx0, if_neg Bool.false_ne_true]
  unfold boundAndCalled
  rw [PySem.F.excAttr_ValueError.ga.bind (.ref x)]
  refine wpAny_bind (wpAny_pure ?_)
  show wpAny _ _ (call (.builtin "BaseException.__getattribute__") [.ref x, .str "__class__" t]) _ _ _
  refine wpAny_call (codeAny_call_builtin PySem.F.excAttr_ValueError.ga.plain PySem.F.entry_bexc_ga ?_)
  refine @check_slot (model prog w) _ _ ⟨hp, g, d, t + 1, os⟩ "BaseException.__getattribute__" "BaseException" "__getattribute__" (.ref x) [.str "__class__" t] [] _ (by decide +kernel) (by decide +kernel) sub (PySem.F.args_bexc_ga (.ref x) (.str "__class__" t)) ?_
  unfold Builtin.«object.__getattribute__»
  refine wpAny_bind (wpAny_of_eq (a := ((Value.ref x : Value), [Value.str "__class__" t])) (by first | rfl | (simp only [slotArgs]; rfl)) ?_)
  refine wpAny_bind (wpAny_pure (wpAny_bind (L0.at (wpAny_bind (L3.at ?_)))))
  show wpAny _ _ (holding [Value.builtin "object.__class__"] (call (.builtin "getset_descriptor.__get__") [.builtin "object.__class__", .ref x, .ref D]) >>= ret) _ _ _
  refine wpAny_bind (wpAny_holding (wpAny_call (class_get (s := ⟨hp, g, d, t + 1, os⟩) (ox := ox) (od := some od) X I C.hm ?_)))
  refine wpAny_pure ?_
  show wpAny _ _ (handedOut (.ref D)) _ _ _
  rw [handedOut_of (v := .ref D) rfl]
  first
    | exact wpAny_pure (wpAny_pure h)
    | exact wpAny_pure h
    | exact wpAny_pure (wpAny_bind (wpAny_pure (wpAny_pure h)))
theorem kitx_K (C : L2.ExcC K D) : KitX K (.ref x) (.ref D) (fun h => InstAt h x ox D (some od)) where
  ty := fun _ _ _ I => I.type
  it := fun _ _ X _ => by
    obtain ⟨cdD, hcD, _⟩ := any_some C.hd
    unfold clsIn at hcD
    split at hcD
    · rename_i ho
      intro A' Q' E' s' k q
      unfold isType loadHead
      exact wpAny_bind (wpAny_loadPart (k _ _ (X _ _ ho)) (wpAny_pure q))
    · cases hcD
  ne := (handS_kitx_exc (x := x) (ox := ox) C.hg C.hk C.hs C.hd C.ha C.hn C.ht C.hm).ne
  ca := fun X I k => kin_classK C X I k
end
end PySem.W
namespace L2
open PySem PySem.Spec PyProof.Rows
theorem kit_same {K : PySem.W.Frag} {D : Addr} : PySem.W.kitOne K (.ref D) (.ref D) = some true := if_pos (beq_self_eq_true _)
theorem kit_ne {K : PySem.W.Frag} {D C : Addr} {b : Bool} (ne : (Value.ref D == Value.ref C) = false) (h1 : PySem.W.isClsIn K C = true) (h2 : PySem.W.typeIn K (.ref C) = some (.type "type")) (h3 : PySem.W.subIn K (.ref D) (.ref C) = some b) : PySem.W.kitOne K (.ref D) (.ref C) = some b := by
  unfold PySem.W.kitOne
  rw [ne, if_neg Bool.false_ne_true]
  have e : ((PySem.W.clsIn K C).isSome && PySem.W.typeIn K (.ref C) == some (.type "type")) = true := by
    have h1' : (PySem.W.clsIn K C).isSome = true := h1
    rw [h1', h2]
    rfl
  show (if ((PySem.W.clsIn K C).isSome && PySem.W.typeIn K (.ref C) == some (.type "type")) = true then PySem.W.subIn K (.ref D) (.ref C) else none) = some b
  rw [if_pos e]
  exact h3
/-- isinstance(e, c), e a kept error, c a class -/
def rIsK (K : PySem.W.Frag) : List V → Hp → VK → Prop := fun xs H Q => ∃ (a D dd : Addr) (fs : List (Str × V)) (c : V) (cv : Value) (b : Bool), xs = [.ref a, c] ∧ ClsV c cv ∧ ExcC K D ∧ H a = some (exK (.ref D) (some dd) a) ∧ H dd = some (.xd fs) ∧ PySem.W.kitOne K (.ref D) cv = some b ∧ Q (.bl b) H
theorem call_isK {X : Cx} : CallR X (.builtin "isinstance") (rIsK X.K) := by
  intro pins s σ H xs us Q I r h
  obtain ⟨a, D, dd, fs, c, cv, b, rfl, hcv, C, ea, ed, e, q⟩ := h
  obtain ⟨u1, u2, rfl, r1, r2⟩ := vals2 r
  have ec := hcv.eq r2
  subst ec
  cases (show u1 = Value.ref a from r1)
  obtain ⟨⟨oe, vs, ha, hz, hd⟩, _, _⟩ := I.hok a _ ea
  have hx : ObjOk X.prog X.w H s.heap dd (.xd fs) := I.hok dd _ ed
  obtain ⟨mA, hns, hr⟩ := hx
  obtain ⟨od, ho, hl⟩ := lookIn_ns hns
  have J : PySem.W.InstAt s.heap a oe D (some od) := ⟨ha, hz.1, by unfold PySem.W.notCls; rw [hd] <;> rfl, by rw [hz.2]; exact ho⟩
  exact PySem.W.kia_one (PySem.W.kitx_K C) I.kIn J e (fun z => nomatch z) fun tk => ⟨.bl b, H, I.kept (t' := tk) fun _ _ z => z, rfl, q⟩
end L2

namespace K03
open PySem L2
def top (i : Nat) : Stmt := PySem.Challenge.pw_seenposts_k03_remainders_of_places.main.body.getD i (.Pass ⟨0, 0, 0, 0⟩)
abbrev s_init : Stmt := inClass (top 1) 0
theorem sc_init : FnScope ["self", "value"] ["self", "value"] (defScope s_init) := ⟨rfl, rfl, rfl, by decide +kernel, rfl, by decide +kernel, by decide +kernel⟩
abbrev s_remainders : Stmt := top 11
abbrev N_remainders : List Str := ["place", "divisor", "number"]
theorem sc_remainders : FnScope N_remainders ["place", "divisor"] (defScope s_remainders) := ⟨rfl, rfl, rfl, by decide +kernel, rfl, by decide +kernel, by decide +kernel⟩
abbrev s_law_spring : Stmt := top 13
abbrev N_law_spring : List Str := ["_law_cell", "_law_k", "_law_state"]
theorem sc_law_spring : FnScope N_law_spring ["_law_cell", "_law_k"] (defScope s_law_spring) := ⟨rfl, rfl, rfl, by decide +kernel, rfl, by decide +kernel, by decide +kernel⟩
abbrev s_law_sip : Stmt := top 14
abbrev N_law_sip : List Str := ["_law_spring_here", "_law_many", "_law_mixed", "_law_found"]
theorem sc_law_sip : FnScope N_law_sip ["_law_spring_here", "_law_many"] (defScope s_law_sip) := ⟨rfl, rfl, rfl, by decide +kernel, rfl, by decide +kernel, by decide +kernel⟩
abbrev s_law_far : Stmt := top 15
abbrev N_law_far : List Str := ["_law_spring_here", "_law_wide", "_law_found", "_law_piece"]
theorem sc_law_far : FnScope N_law_far ["_law_spring_here", "_law_wide"] (defScope s_law_far) := ⟨rfl, rfl, rfl, by decide +kernel, rfl, by decide +kernel, by decide +kernel⟩
abbrev s_law_whole : Stmt := top 16
abbrev N_law_whole : List Str := ["_law_found"]
theorem sc_law_whole : FnScope N_law_whole ["_law_found"] (defScope s_law_whole) := ⟨rfl, rfl, rfl, by decide +kernel, rfl, by decide +kernel, by decide +kernel⟩
abbrev s_law_is_spot : Stmt := top 18
abbrev N_law_is_spot : List Str := ["_law_found", "_law_due", "_law_k"]
theorem sc_law_is_spot : FnScope N_law_is_spot ["_law_found", "_law_due"] (defScope s_law_is_spot) := ⟨rfl, rfl, rfl, by decide +kernel, rfl, by decide +kernel, by decide +kernel⟩
abbrev s_law_is_error : Stmt := top 19
abbrev N_law_is_error : List Str := ["_law_caught", "_law_kind", "_law_due", "_law_row", "_law_spot"]
theorem sc_law_is_error : FnScope N_law_is_error ["_law_caught", "_law_kind", "_law_due"] (defScope s_law_is_error) := ⟨rfl, rfl, rfl, by decide +kernel, rfl, by decide +kernel, by decide +kernel⟩
abbrev s_law_leaves : Stmt := top 20
abbrev N_law_leaves : List Str := ["_law_found", "_law_spot", "_law_by", "_law_k"]
theorem sc_law_leaves : FnScope N_law_leaves ["_law_found", "_law_spot", "_law_by"] (defScope s_law_leaves) := ⟨rfl, rfl, rfl, by decide +kernel, rfl, by decide +kernel, by decide +kernel⟩
abbrev s_law_error : Stmt := top 21
abbrev N_law_error : List Str := ["_law_spot", "_law_by", "_law_caught", "e"]
theorem sc_law_error : FnScope N_law_error ["_law_spot", "_law_by"] (defScope s_law_error) := ⟨rfl, rfl, rfl, by decide +kernel, rfl, by decide +kernel, by decide +kernel⟩
abbrev s_law_right : Stmt := top 22
abbrev N_law_right : List Str := ["_law_spring_here", "_law_size", "_law_wide", "_law_spot", "_law_by", "_law_away", "_law_bad", "_law_great", "_law_k", "_law_value"]
theorem sc_law_right : FnScope N_law_right ["_law_spring_here"] (defScope s_law_right) := ⟨rfl, rfl, rfl, by decide +kernel, rfl, by decide +kernel, by decide +kernel⟩
abbrev s_law : Stmt := top 23
abbrev N_law : List Str := ["_law_script", "_law_cells", "_law_k"]
theorem sc_law : FnScope N_law ["_law_script"] (defScope s_law) := ⟨rfl, rfl, rfl, by decide +kernel, rfl, by decide +kernel, by decide +kernel⟩
structure Ad where
  a_remainders : Addr
  f_remainders : FuncData
  a_law_spring : Addr
  f_law_spring : FuncData
  a_law_sip : Addr
  f_law_sip : FuncData
  a_law_far : Addr
  f_law_far : FuncData
  a_law_whole : Addr
  f_law_whole : FuncData
  a_law_is_spot : Addr
  f_law_is_spot : FuncData
  a_law_is_error : Addr
  f_law_is_error : FuncData
  a_law_leaves : Addr
  f_law_leaves : FuncData
  a_law_error : Addr
  f_law_error : FuncData
  a_law_right : Addr
  f_law_right : FuncData
  a_law : Addr
  f_law : FuncData
  a_init : Addr
  a_initF : FuncData
  a_cPostError : Addr
  a_cInvalidNumber : Addr
  a_cInvalidSize : Addr
  a_cInvalidPlace : Addr
  a_cDoublePlace : Addr
  a_cInvalidMatrix : Addr
  a_cConflict : Addr
  a_cInvalidWord : Addr
  a_cUnreadable : Addr
structure Txt (K : PySem.W.Frag) (mg : Str → Option Value) (A : Ad) : Prop where
  g_remainders : mg "remainders" = some (.ref A.a_remainders)
  k_remainders : PySem.W.keepIn K (.ref A.a_remainders) = true
  F_remainders : Fun K "remainders" "remainders" s_remainders A.a_remainders A.f_remainders
  b_remainders : Binds K A.f_remainders ["place", "divisor"] []
  g_law_spring : mg "_law_spring" = some (.ref A.a_law_spring)
  k_law_spring : PySem.W.keepIn K (.ref A.a_law_spring) = true
  F_law_spring : Fun K "_law_spring" "_law_spring" s_law_spring A.a_law_spring A.f_law_spring
  b_law_spring : Binds K A.f_law_spring ["_law_cell", "_law_k"] []
  g_law_sip : mg "_law_sip" = some (.ref A.a_law_sip)
  k_law_sip : PySem.W.keepIn K (.ref A.a_law_sip) = true
  F_law_sip : Fun K "_law_sip" "_law_sip" s_law_sip A.a_law_sip A.f_law_sip
  b_law_sip : Binds K A.f_law_sip ["_law_spring_here", "_law_many"] []
  g_law_far : mg "_law_far" = some (.ref A.a_law_far)
  k_law_far : PySem.W.keepIn K (.ref A.a_law_far) = true
  F_law_far : Fun K "_law_far" "_law_far" s_law_far A.a_law_far A.f_law_far
  b_law_far : Binds K A.f_law_far ["_law_spring_here", "_law_wide"] []
  g_law_whole : mg "_law_whole" = some (.ref A.a_law_whole)
  k_law_whole : PySem.W.keepIn K (.ref A.a_law_whole) = true
  F_law_whole : Fun K "_law_whole" "_law_whole" s_law_whole A.a_law_whole A.f_law_whole
  b_law_whole : Binds K A.f_law_whole ["_law_found"] []
  g_law_is_spot : mg "_law_is_spot" = some (.ref A.a_law_is_spot)
  k_law_is_spot : PySem.W.keepIn K (.ref A.a_law_is_spot) = true
  F_law_is_spot : Fun K "_law_is_spot" "_law_is_spot" s_law_is_spot A.a_law_is_spot A.f_law_is_spot
  b_law_is_spot : Binds K A.f_law_is_spot ["_law_found", "_law_due"] []
  g_law_is_error : mg "_law_is_error" = some (.ref A.a_law_is_error)
  k_law_is_error : PySem.W.keepIn K (.ref A.a_law_is_error) = true
  F_law_is_error : Fun K "_law_is_error" "_law_is_error" s_law_is_error A.a_law_is_error A.f_law_is_error
  b_law_is_error : Binds K A.f_law_is_error ["_law_caught", "_law_kind", "_law_due"] []
  g_law_leaves : mg "_law_leaves" = some (.ref A.a_law_leaves)
  k_law_leaves : PySem.W.keepIn K (.ref A.a_law_leaves) = true
  F_law_leaves : Fun K "_law_leaves" "_law_leaves" s_law_leaves A.a_law_leaves A.f_law_leaves
  b_law_leaves : Binds K A.f_law_leaves ["_law_found", "_law_spot", "_law_by"] []
  g_law_error : mg "_law_error" = some (.ref A.a_law_error)
  k_law_error : PySem.W.keepIn K (.ref A.a_law_error) = true
  F_law_error : Fun K "_law_error" "_law_error" s_law_error A.a_law_error A.f_law_error
  b_law_error : Binds K A.f_law_error ["_law_spot", "_law_by"] []
  g_law_right : mg "_law_right" = some (.ref A.a_law_right)
  k_law_right : PySem.W.keepIn K (.ref A.a_law_right) = true
  F_law_right : Fun K "_law_right" "_law_right" s_law_right A.a_law_right A.f_law_right
  b_law_right : Binds K A.f_law_right ["_law_spring_here"] []
  g_law : mg "law" = some (.ref A.a_law)
  k_law : PySem.W.keepIn K (.ref A.a_law) = true
  F_law : Fun K "law" "law" s_law A.a_law A.f_law
  b_law : Binds K A.f_law ["_law_script"] []
  kb_remainders : KBinds K A.f_remainders ["place", "divisor"] ["place", "divisor"] kwG kwG
  n_bool : mg "bool" = none
  n_int : mg "int" = none
  n_isinstance : mg "isinstance" = none
  n_len : mg "len" = none
  n_max : mg "max" = none
  n_range : mg "range" = none
  n_repr : mg "repr" = none
  n_tuple : mg "tuple" = none
  F_init : Fun K "__init__" "PostError.__init__" s_init A.a_init A.a_initF
  b_init : Binds K A.a_initF ["self", "value"] []
  t_init : PySem.W.typeIn K (.ref A.a_init) = some (.type "function")
  g_PostError : mg "PostError" = some (.ref A.a_cPostError)
  g_InvalidNumber : mg "InvalidNumber" = some (.ref A.a_cInvalidNumber)
  o_InvalidNumber : OexC K A.a_cInvalidNumber
  i_InvalidNumber : PySem.W.findIn K (.ref A.a_cInvalidNumber) "__init__" = some (some (.ref A.a_init))
  v_InvalidNumber : PySem.W.findIn K (.ref A.a_cInvalidNumber) "value" = some none
  x_InvalidNumber : XfC K A.a_cInvalidNumber
  e_InvalidNumber : ExcC K A.a_cInvalidNumber
  m_InvalidNumber : PySem.W.exmOne K (.ref A.a_cInvalidNumber) (.ref A.a_cPostError) = some true
  g_InvalidSize : mg "InvalidSize" = some (.ref A.a_cInvalidSize)
  g_InvalidPlace : mg "InvalidPlace" = some (.ref A.a_cInvalidPlace)
  g_DoublePlace : mg "DoublePlace" = some (.ref A.a_cDoublePlace)
  g_InvalidMatrix : mg "InvalidMatrix" = some (.ref A.a_cInvalidMatrix)
  g_Conflict : mg "Conflict" = some (.ref A.a_cConflict)
  g_InvalidWord : mg "InvalidWord" = some (.ref A.a_cInvalidWord)
  g_Unreadable : mg "Unreadable" = some (.ref A.a_cUnreadable)
  ktInvalidNumberInvalidSize : PySem.W.kitOne K (.ref A.a_cInvalidNumber) (.ref A.a_cInvalidSize) = some false
  ktInvalidNumberInvalidPlace : PySem.W.kitOne K (.ref A.a_cInvalidNumber) (.ref A.a_cInvalidPlace) = some false
  ktInvalidNumberDoublePlace : PySem.W.kitOne K (.ref A.a_cInvalidNumber) (.ref A.a_cDoublePlace) = some false
  ktInvalidNumberInvalidMatrix : PySem.W.kitOne K (.ref A.a_cInvalidNumber) (.ref A.a_cInvalidMatrix) = some false
  ktInvalidNumberInvalidNumber : PySem.W.kitOne K (.ref A.a_cInvalidNumber) (.ref A.a_cInvalidNumber) = some true
  ktInvalidNumberConflict : PySem.W.kitOne K (.ref A.a_cInvalidNumber) (.ref A.a_cConflict) = some false
  ktInvalidNumberInvalidWord : PySem.W.kitOne K (.ref A.a_cInvalidNumber) (.ref A.a_cInvalidWord) = some false
  ktInvalidNumberUnreadable : PySem.W.kitOne K (.ref A.a_cInvalidNumber) (.ref A.a_cUnreadable) = some false
def spGcd (K : PySem.W.Frag) : Sp := fun vs H Q _ => ∃ (t : Addr) (ns : List Int), vs = [.ref t] ∧ SqT K H t (ns.map V.int) ∧ Q (.int (gcdL ns : Nat)) H
def spDiv (K : PySem.W.Frag) : Sp := fun vs H Q _ => ∃ (t : Addr) (ns : List Int), vs = [.ref t] ∧ SqT K H t (ns.map V.int) ∧ (ns.length = 2 ∨ ns.length = 3) ∧ ∀ H', Same H H' → Q (.int (gcdL ns : Nat)) H'
def spSeen (K : PySem.W.Frag) : Sp := fun vs H Q _ => ∃ (t : Addr) (ns : List Int), vs = [.ref t] ∧ SqT K H t (ns.map V.int) ∧ (ns.length = 2 ∨ ns.length = 3) ∧ ∀ H', Same H H' → Q (.bl (((gcdL ns : Nat) : Int) == 1)) H'
def spBetween (K : PySem.W.Frag) : Sp := fun vs H Q _ => ∃ (t : Addr) (ns : List Int), vs = [.ref t] ∧ SqT K H t (ns.map V.int) ∧ (ns.length = 2 ∨ ns.length = 3) ∧ ∀ H', Same H H' → Q (.int ((gcdL ns - 1 : Nat) : Int)) H'
def spFirst : Sp := fun vs H Q _ => ∃ (t : Addr) (ns : List Int), vs = [.ref t] ∧ TupI H t ns ∧ (ns.length = 2 ∨ ns.length = 3) ∧ (∀ a ∈ ns, a.natAbs < 2 ^ 250) ∧ ∀ t' H', Same H H' → TupI H' t' (firstL ns) → Q (.ref t') H'
def spWhole : Sp := fun vs H Q _ => ∃ i : Int, vs = [.int i] ∧ Q (.bl true) H
def spIsSpot : Sp := fun vs H Q _ => ∃ (a b : Addr) (ns : List Int), vs = [.ref a, .ref b] ∧ TupI H a ns ∧ TupI H b ns ∧ ns.length ≤ 1000 ∧ Q (.bl true) H
def spRight : Sp := fun vs H Q _ => ∃ (p : Addr), vs = [.ref p] ∧ Spr H p ∧ ∀ H', But p H H' → Q (.bl true) H'

local macro_rules | `(tactic| walk_at "rc") => `(tactic| first | done | decide | omega | exact Or.inl ⟨by omega, by omega⟩ | exact Or.inr ⟨by omega, by omega⟩ | exact ⟨by omega, by omega⟩ | exact ⟨by omega, by omega, by decide⟩ | exact ⟨by decide, by decide, by decide⟩)
local macro_rules | `(tactic| walk_at "rd1") => `(tactic| first
  | (with_reducible refine L2.r_op ?_)
  | (with_reducible refine L2.r_c ?_)
  | ((with_reducible show L2.tVar _ _ _ _); (refine L2.r_var rfl ?_))
  | (with_reducible refine L2.r_I0 ?_)
  | ((with_reducible show L2.rI _ _ _ _ _ _); (refine L2.r_I (by walk_at "rc") ?_))
  | (with_reducible refine L2.r_cons ?_)
  | (with_reducible refine L2.r_nil ?_)
  | (with_reducible refine L2.r_cb ?_)
  | (with_reducible refine L2.r_call ?_)
  | (with_reducible refine L2.r_lst ?_)
  | (with_reducible refine L2.r_tup ?_)
  | (with_reducible refine L2.r_eqI ?_)
  | (with_reducible refine L2.r_neI ?_)
  | (with_reducible refine L2.r_eqB ?_)
  | (with_reducible refine L2.r_test ?_)
  | (with_reducible refine L2.r_B ?_)
  | (with_reducible refine L2.r_not ?_)
  | (with_reducible refine L2.r_and ?_)
  | (with_reducible refine L2.r_or ?_)
  | (with_reducible refine L2.r_andV ?_)
  | (with_reducible refine L2.r_orV ?_)
  | (with_reducible refine L2.r_notV ?_)
  | (with_reducible refine L2.r_if ?_)
  | (with_reducible refine L2.r_seqAsg ?_)
  | (with_reducible refine L2.r_asg ?_)
  | (with_reducible refine L2.r_seqSub ?_)
  | (with_reducible refine L2.r_sub ?_)
  | (with_reducible refine L2.r_seqPar ?_)
  | (with_reducible refine L2.r_par ?_)
  | (with_reducible refine L2.r_ret ?_)
  | (with_reducible refine L2.r_gcons ?_)
  | (with_reducible refine L2.r_gnil ?_)
  | (with_reducible refine L2.r_gsub ?_)
  | (with_reducible refine L2.r_bm ?_)
  | (with_reducible refine L2.r_bm0 ?_)
  | (with_reducible refine L2.r_sl ?_)
  | (with_reducible refine L2.r_nopart ?_)
  | (with_reducible refine L2.r_part ?_)
  | (with_reducible refine L2.r_callK ?_)
  | (with_reducible refine L2.r_yes ?_)
  | (with_reducible refine L2.r_gname ?_)
  | (with_reducible refine L2.r_seqDrop ?_)
  | (with_reducible refine L2.r_drop ?_)
  | (with_reducible refine L2.r_seqIf ?_)
  | (with_reducible refine L2.r_ifS ?_)
  | (with_reducible refine L2.r_next ?_)
  | (with_reducible refine L2.r_un ?_)
  | (with_reducible refine L2.r_seqAsgG ?_)
  | (with_reducible refine L2.r_asgG ?_))
local macro_rules | `(tactic| walk_at "rd") => `(tactic| repeat' (walk_at "rd1"))

section
variable {P : Program} {w : World} {K : PySem.W.Frag} {mg : Str → Option Value} {base : Heap} {A : Ad}

/-! _law_spring -/
theorem ok_law_spring (T : Txt K mg A) : FnOk P w K mg base CX0 1 A.a_law_spring A.f_law_spring ["_law_cell", "_law_k"] spSpring := by
  refine T.F_law_spring.ok sc_law_spring (fun vs H Q E h => ?_) (fun cdv A' outer s H vs Q E hr h => ⟨_, (pss_cons (ps_set (i := 2) sc_law_spring.nd rfl (Or.inl rfl) (pe_op op_mod (pe_callTy call_int1 (by rfl) T.n_int (by decide +kernel) (pa_cons (pe_op op_add (pe_op op_add (pe_op op_mul (pv 0) pe_int) (pe_op op_mul pe_int (pv 1))) pe_int) pa_nil)) pe_int))
    (pss_one (ps_ret (pe_lst (pa_cons (pe_callB (call_max2 rfl) (by rfl) T.n_max (by decide +kernel) (pa_cons pe_int (pa_cons (pe_op op_sub (pv 0) (pe_op op_pow pe_int pe_int)) pa_nil))) (pa_cons (pv 2) (pa_cons (pv 1) pa_nil))))))), ?_⟩)
  · obtain ⟨c, k, rfl, _⟩ := h
    rfl
  · obtain ⟨c, k, rfl, q⟩ := h
    walk_at "rd"
    refine Or.inl ⟨_, rfl, ?_⟩
    walk_at "rd"
    refine ⟨_, _, rfl, ?_⟩
    walk_at "rd"
    refine ⟨by show 3 ≤ sizeLine; decide, fun p hp => q p _ hp (Same.new0 hp) ⟨_, _, _, upd_same, ?_, ?_⟩⟩
    · exact Int.emod_nonneg _ (by decide)
    · exact Int.emod_lt_of_pos _ (by decide)


/-! _law_sip -/
theorem ok_law_sip (T : Txt K mg A) : FnOk P w K mg base CX0 1 A.a_law_sip A.f_law_sip ["_law_spring_here", "_law_many"] spSip := by
  refine T.F_law_sip.ok sc_law_sip (fun vs H Q E h => ?_) (fun cdv A' outer s H vs Q E hr h => ⟨_, (pss_cons (ps_if (pt_cmpR op_gt (pe_ix ix_list (pv 0) pe_int (fun _ _ => rfl)) pe_int (nomark _)) (pss_cons (ps_set (i := 3) sc_law_sip.nd rfl (Or.inl rfl) (pe_op op_mod (pe_callTy call_int1 (by rfl) T.n_int (by decide +kernel) (pa_cons (pe_ix ix_list (pv 0) pe_int (fun _ _ => rfl)) pa_nil)) (pv 1)))
    (pss_cons (ps_asg (pe_op op_fdivW (pe_ix ix_list (pv 0) pe_int (fun _ _ => rfl)) (pv 1)) (pg_sub (pv 0) pe_int set_list))
    (pss_one (ps_ret (pv 3))))) pss_nil)
    (pss_cons (ps_asg (pe_op op_add (pe_ix ix_list (pv 0) pe_int (fun _ _ => rfl)) pe_int) (pg_sub (pv 0) pe_int set_list))
    (pss_cons (ps_set (i := 2) sc_law_sip.nd rfl (Or.inl rfl) (pe_op op_add (pe_op op_add (pe_op op_mulW (pe_ix ix_list (pv 0) pe_int (fun _ _ => rfl)) (pe_op op_add (pe_ix ix_list (pv 0) pe_int (fun _ _ => rfl)) pe_int)) (pe_op op_mul pe_int (pe_ix ix_list (pv 0) pe_int (fun _ _ => rfl)))) pe_int))
    (pss_cons (ps_asg (pe_op op_mod (pe_callTy call_int1 (by rfl) T.n_int (by decide +kernel) (pa_cons (pv 2) pa_nil)) pe_int) (pg_sub (pv 0) pe_int set_list))
    (pss_one (ps_ret (pe_op op_mod (pe_callTy call_int1 (by rfl) T.n_int (by decide +kernel) (pa_cons (pe_op op_fdiv (pe_ix ix_list (pv 0) pe_int (fun _ _ => rfl)) pe_int) pa_nil)) (pv 1)))))))), ?_⟩)
  · obtain ⟨p, m, rfl, _⟩ := h
    rfl
  · obtain ⟨p, m, rfl, ⟨a, b, c, hp, hb0, hb1⟩, hm, hm2, q⟩ := h
    have i0 : ∀ x y z : V, atI [x, y, z] 0 = some x := fun _ _ _ => rfl
    have i1 : ∀ x y z : V, atI [x, y, z] 1 = some y := fun _ _ _ => rfl
    have i2 : ∀ x y z : V, atI [x, y, z] 2 = some z := fun _ _ _ => rfl
    have n0 : ∀ x y z : V, ixN [x, y, z].length 0 = some 0 := fun _ _ _ => rfl
    have n1 : ∀ x y z : V, ixN [x, y, z].length 1 = some 1 := fun _ _ _ => rfl
    have n2 : ∀ x y z : V, ixN [x, y, z].length 2 = some 2 := fun _ _ _ => rfl
    walk_at "rd"
    refine r_ixL (SqL.of hp) (i0 _ _ _) ?_
    walk_at "rd"
    refine ⟨_, rfl, ite2 (fun _ => ?_) (fun _ => ?_)⟩
    · walk_at "rd"
      refine r_ixL (SqL.of hp) (i0 _ _ _) ?_
      walk_at "rd"
      refine Or.inl ⟨_, rfl, ?_⟩
      walk_at "rd"
      refine r_ixL (SqL.of hp) (i0 _ _ _) ?_
      walk_at "rd"
      refine r_I (wide_div (b := 250) (by omega) (by omega) (by decide) (by decide)) ?_
      walk_at "rd"
      refine r_setL hp (n0 _ _ _) ?_
      walk_at "rd"
      exact q _ _ (Int.emod_nonneg _ (by omega)) (Int.emod_lt_of_pos _ (by omega)) ((But.refl _ _).mut) ⟨_, _, _, upd_same, hb0, hb1⟩
    · walk_at "rd"
      dsimp only
      walk_at "rd"
      refine r_ixL (SqL.of hp) (i2 _ _ _) ?_
      walk_at "rd"
      refine r_setL hp (n2 _ _ _) ?_
      walk_at "rd"
      refine r_ixL (SqL.of upd_same) (i1 _ _ _) ?_
      walk_at "rd"
      refine r_ixL (SqL.of upd_same) (i1 _ _ _) ?_
      walk_at "rd"
      refine r_I (wide_mul (a := 100) (b := 100) (by unfold MM at hb1; omega) (by unfold MM at hb1; omega) (by decide) (by decide) (by decide)) ?_
      walk_at "rd"
      refine r_ixL (SqL.of upd_same) (i2 _ _ _) ?_
      walk_at "rd"
      refine Or.inl ⟨_, rfl, ?_⟩
      walk_at "rd"
      refine r_setL upd_same (n1 _ _ _) ?_
      walk_at "rd"
      refine r_ixL (SqL.of upd_same) (i1 _ _ _) ?_
      walk_at "rd"
      refine Or.inl ⟨_, rfl, ?_⟩
      walk_at "rd"
      exact q _ _ (Int.emod_nonneg _ (by omega)) (Int.emod_lt_of_pos _ (by omega)) ((But.refl _ _).mut.mut) ⟨_, _, _, upd_same, Int.emod_nonneg _ (by decide), Int.emod_lt_of_pos _ (by decide)⟩


/-! _law_far -/
theorem ok_law_far (T : Txt K mg A) : FnOk P w K mg base CX0 2 A.a_law_far A.f_law_far ["_law_spring_here", "_law_wide"] spFar := by
  refine T.F_law_far.ok sc_law_far (fun vs H Q E h => ?_) (fun cdv A' outer s H vs Q E hr h => ⟨_, (pss_cons (ps_set (i := 2) sc_law_far.nd rfl (Or.inl rfl) pe_int)
    (pss_cons (ps_for PassesOwn.never rfl (pi_range1 rfl T.n_range (pa_cons pe_int pa_nil)) (pg_name (i := 3) sc_law_far.nd rfl (Or.inl rfl))
      (pss_one (ps_set (i := 2) sc_law_far.nd rfl (Or.inl rfl) (pe_op op_add (pe_op op_mulW (pv 2) (pe_op op_pow pe_int pe_int)) (pe_call (ok_law_sip T) (hr.mono (by decide)) rfl T.g_law_sip T.k_law_sip T.b_law_sip .nil pass0 (pa_cons (pv 0) (pa_cons (pe_op op_pow pe_int pe_int) pa_nil)))))))
    (pss_one (ps_ret (pe_op op_add (pe_op op_sub (pe_op op_mod (pe_callTy call_int1 (by rfl) T.n_int (by decide +kernel) (pa_cons (pv 2) pa_nil)) (pe_op op_sub (pe_op op_mul pe_int (pv 1)) pe_int)) (pv 1)) pe_int))))), ?_⟩)
  · obtain ⟨p, m, rfl, _⟩ := h
    rfl
  · obtain ⟨p, m, rfl, hS, hm, hm2, q⟩ := h
    walk_at "rd"
    refine ⟨3, rfl, by decide, by decide, for_range (n := 3) (fun i σ H' => ∃ (f : Int) (v : Option V), σ = [some (.ref p), some (.int m), some (.int f), v] ∧ 0 ≤ f ∧ f < 10 ^ (20 * i) ∧ But p H H' ∧ Spr H' p)
      ⟨0, none, rfl, Int.le_refl _, by decide, But.refl _ _, hS⟩ ?_ ?_⟩
    · rintro i σ H' hi ⟨f, v, rfl, f0, f1, hB, hS'⟩
      walk_at "rd"
      have hf : f < 10 ^ 60 := Int.lt_of_lt_of_le f1 (by
        have e : i = 0 ∨ i = 1 ∨ i = 2 := by omega
        rcases e with e | e | e <;> subst e <;> decide)
      have hf2 : f.natAbs < 2 ^ 250 := by omega
      refine r_I (wide_mul (a := 250) (b := 250) hf2 ?_ (by decide) (by decide) (by decide)) ?_
      · decide
      walk_at "rd"
      refine ⟨p, _, rfl, hS', by decide, by decide, fun r H2 r0 r1 hB2 hS2 => ?_⟩
      walk_at "rd"
      refine ⟨_, _, rfl, ?_, ?_, hB.trans hB2, hS2⟩
      · have r0' : (0 : Int) ≤ r := r0
        have : (0 : Int) ≤ f * 10 ^ (Int.toNat 20) := Int.mul_nonneg f0 (by decide)
        first | omega | (show (0 : Int) ≤ f * _ + r; exact Int.add_nonneg (Int.mul_nonneg f0 (by decide)) r0)
      · have e : i = 0 ∨ i = 1 ∨ i = 2 := by omega
        rcases e with e | e | e <;> subst e
        · have f1' : f < 10 ^ 0 := f1
          show f * 10 ^ 20 + r < 10 ^ 20
          have r1' : r < 10 ^ 20 := r1
          omega
        · have f1' : f < 10 ^ 20 := f1
          show f * 10 ^ 20 + r < 10 ^ 40
          have r1' : r < 10 ^ 20 := r1
          omega
        · have f1' : f < 10 ^ 40 := f1
          show f * 10 ^ 20 + r < 10 ^ 60
          have r1' : r < 10 ^ 20 := r1
          omega
    · rintro σ H' ⟨f, v, rfl, f0, f1, hB, hS'⟩
      dsimp only
      walk_at "rd"
      refine Or.inl ⟨_, rfl, ?_⟩
      walk_at "rd"
      refine q _ _ ?_ ?_ hB hS'
      · have h1 := Int.emod_nonneg f (b := 2 * m - 1) (by omega)
        omega
      · have h1 := Int.emod_lt_of_pos f (b := 2 * m - 1) (by omega)
        omega


theorem ok_law_whole (T : Txt K mg A) : FnOk P w K mg base CX0 1 A.a_law_whole A.f_law_whole ["_law_found"] spWhole := by
  refine T.F_law_whole.ok sc_law_whole (fun vs H Q E h => ?_) (fun cdv A' outer s H vs Q E hr h => ⟨_, (pss_one (ps_ret (pe_and (pe_callB call_isi (by rfl) T.n_isinstance (by decide +kernel) (pa_cons (pv 0) (pa_cons (pe_bltn (v := .ty "int") (u := .type "int") (by rfl) T.n_int (by decide +kernel) rfl) pa_nil))) (pe_one (pe_not (pe_callB call_isi (by rfl) T.n_isinstance (by decide +kernel) (pa_cons (pv 0) (pa_cons (pe_bltn (v := .ty "bool") (u := .type "bool") (by rfl) T.n_bool (by decide +kernel) rfl) pa_nil)))))))), ?_⟩)
  · obtain ⟨i, rfl, _⟩ := h
    rfl
  · obtain ⟨i, rfl, q⟩ := h
    walk_at "rd"
    refine ⟨_, _, _, _, true, rfl, .ty "int", .base (.int i), kit_ty (by decide +kernel), ?_⟩
    refine ⟨_, rfl, iteT ?_⟩
    walk_at "rd"
    refine ⟨_, _, _, _, false, rfl, .ty "bool", .base (.int i), kit_ty (by decide +kernel), ?_⟩
    exact ⟨_, rfl, q⟩


theorem ok_law_is_spot (T : Txt K mg A) : FnOk P w K mg base CX0 2 A.a_law_is_spot A.f_law_is_spot ["_law_found", "_law_due"] spIsSpot := by
  refine T.F_law_is_spot.ok sc_law_is_spot (fun vs H Q E h => ?_) (fun cdv A' outer s H vs Q E hr h => ⟨_, (pss_cons (ps_if (PW.pt (pw_or (pt_not (pt_val (pe_callB call_isi (by rfl) T.n_isinstance (by decide +kernel) (pa_cons (pv 0) (pa_cons (pe_bltn (v := .ty "tuple") (u := .type "tuple") (by rfl) T.n_tuple (by decide +kernel) rfl) pa_nil))))) (pw_or1 (pt_cmpR op_ne (pe_callB call_len_seq (by rfl) T.n_len (by decide +kernel) (pa_cons (pv 0) pa_nil)) (pe_callB call_len_seq (by rfl) T.n_len (by decide +kernel) (pa_cons (pv 1) pa_nil)) (nomark _))))) (pss_one (ps_ret pe_bl)) pss_nil)
    (pss_cons (ps_for PassesOwn.never rfl (pi_range1 rfl T.n_range (pa_cons (pe_callB call_len_seq (by rfl) T.n_len (by decide +kernel) (pa_cons (pv 1) pa_nil)) pa_nil)) (pg_name (i := 2) sc_law_is_spot.nd rfl (Or.inl rfl))
      (pss_one (ps_if (PW.pt (pw_or (pt_not (pt_val (pe_call (ok_law_whole T) (hr.mono (by decide)) rfl T.g_law_whole T.k_law_whole T.b_law_whole .nil pass0 (pa_cons (pe_ix ix_tup (pv 0) (pv 2) (fun _ _ => rfl)) pa_nil)))) (pw_or1 (pt_cmpR op_ne (pe_ix ix_tup (pv 0) (pv 2) (fun _ _ => rfl)) (pe_ix ix_tup (pv 1) (pv 2) (fun _ _ => rfl)) (nomark _))))) (pss_one (ps_ret pe_bl)) pss_nil)))
    (pss_one (ps_ret pe_bl)))), ?_⟩)
  · obtain ⟨a, b, ns, rfl, _⟩ := h
    rfl
  · obtain ⟨a, b, ns, rfl, ha, hb, hl, q⟩ := h
    walk_at "rd"
    refine ⟨_, _, _, _, true, rfl, .ty "tuple", .base (.tup ha), kit_ty (by decide +kernel), ?_⟩
    refine ⟨_, rfl, iteFb rfl ?_⟩
    walk_at "rd"
    refine ⟨a, _, rfl, .inr (SqT.of ha), ?_⟩
    walk_at "rd"
    refine ⟨b, _, rfl, .inr (SqT.of hb), ?_⟩
    walk_at "rd"
    refine ⟨_, rfl, iteFb (by rw [beq_self_eq_true]; rfl) ?_⟩
    walk_at "rd"
    dsimp only
    refine ⟨_, rfl, b, _, rfl, .inr (SqT.of hb), ?_⟩
    rw [List.length_map]
    refine ⟨_, rfl, by omega, by omega, for_range (n := ns.length) (fun i σ H' => ∃ v : Option V, σ = [some (.ref a), some (.ref b), v] ∧ H' = H) ⟨none, rfl, rfl⟩ ?_ ?_⟩
    · rintro i σ H' hi ⟨v, rfl, rfl⟩
      have hat : atI (ns.map V.int) (0 + (i : Int)) = some (.int ns[i]) := by
        rw [Int.zero_add]
        exact atI_nat (by rw [List.getElem?_map, List.getElem?_eq_getElem hi]; rfl)
      walk_at "rd"
      refine r_ixT (SqT.of ha) hat ?_
      walk_at "rd"
      refine ⟨_, rfl, ⟨_, rfl, iteFb rfl ?_⟩⟩
      walk_at "rd"
      refine r_ixT (SqT.of ha) hat ?_
      walk_at "rd"
      refine r_ixT (SqT.of hb) hat ?_
      walk_at "rd"
      refine ⟨_, rfl, iteFb (by rw [beq_self_eq_true]; rfl) ?_⟩
      walk_at "rd"
      exact ⟨_, rfl, rfl⟩
    · rintro σ H' ⟨v, rfl, rfl⟩
      dsimp only
      walk_at "rd"
      exact q


/-! the errors' __init__, and what is made of it -/
def spEInit (K : PySem.W.Frag) : Sp := fun vs H Q _ => ∃ (a C : Addr) (v : V), vs = [.ref a, v] ∧ OexC K C ∧ PySem.W.findIn K (.ref C) "value" = some none ∧ H a = some (exo a C none) ∧ ∀ dx, H dx = none → dx ≠ a → Q .non (upd (upd H dx (exd dx [("value", v)])) a (exo a C (some dx)))
theorem ok_init (T : Txt K mg A) : FnOk P w K mg base CX0 1 A.a_init A.a_initF ["self", "value"] (spEInit K) := by
  refine T.F_init.ok sc_init (fun vs H Q E h => ?_) (fun cdv A' outer s H vs Q E hr h => ⟨_, pss_one (ps_ost (pv 0) (pv 1)), ?_⟩)
  · obtain ⟨a, C, v, rfl, _⟩ := h
    rfl
  · obtain ⟨a, C, v, rfl, oC, nC, ha, q⟩ := h
    exact ⟨_, rfl, _, rfl, a, C, rfl, oC, nC, .inl ⟨ha, q⟩⟩
theorem mk_done {C a : Addr} {K : PySem.W.Frag} {H1 : Hp} {v : V} {Q : XK} (oC : OexC K C) (nC : PySem.W.findIn K (.ref C) "value" = some none) (na : H1 a = none) (q : ∀ dx H', Same H1 H' → H1 dx = none → H' dx = some (.xd [("value", v)]) → Q (.ref C) (some dx) H') :
    spEInit K [.ref a, v] (upd H1 a (exo a C none)) (fun u H2 => u = .non ∧ ∃ (d : Addr) (fs : List (Str × V)), H2 a = some (exo a C (some d)) ∧ H2 d = some (exd d fs) ∧ H1 d = none ∧ Q (.ref C) (some d) (upd (del H2 a) d (.xd fs))) (fun _ _ _ => False) := by
  refine ⟨a, C, v, rfl, oC, nC, upd_same, fun dx ndx nda => ⟨rfl, dx, _, upd_same, by rw [upd_ne nda, upd_same], ?_, ?_⟩⟩
  · rw [upd_ne nda] at ndx
    exact ndx
  · rw [upd_ne nda] at ndx
    refine q dx _ (fun b o h => ?_) ndx upd_same
    have n1 : b ≠ dx := ne_of_none h ndx
    have n2 : b ≠ a := ne_of_none h na
    rw [upd_ne n1, del_ne n2, upd_ne n2, upd_ne n1, upd_ne n2]
    exact h


/-! remainders -/
def spRemX (Cn : Addr) : Sp := fun vs H Q E => ∃ (t : Addr) (ns : List Int) (d : Int), vs = [.ref t, .int d] ∧ TupI H t ns ∧ (ns.length = 2 ∨ ns.length = 3) ∧ (2 ≤ d → ∀ t' H', Same H H' → TupI H' t' (ns.map fun a => a % d) → Q (.ref t') H') ∧
  (d < 2 → ∀ dd H', Same H H' → H' dd = some (.xd [("value", V.int d)]) → E (.ref Cn) (some dd) H')
theorem ok_remainders (T : Txt K mg A) : FnOk P w K mg base (L2.CX P w) 4 A.a_remainders A.f_remainders ["place", "divisor"] (spRemX A.a_cInvalidNumber) := by
  refine T.F_remainders.okX sc_remainders (fun vs H Q E h => ?_) (fun cdv A' outer s H vs Q E hr h => ⟨_, (pss_cons (ps_if (pt_cmpR op_notIn_seq (pe_callB call_len_seq (by rfl) T.n_len (by decide +kernel) (pa_cons (pv 0) pa_nil)) (pe_tup (pa_cons pe_int (pa_cons pe_int pa_nil))) (by rfl)) (pss_one ps_never) pss_nil)
    (pss_cons (ps_if (pt_cmpR op_lt (pv 1) pe_int (nomark _)) (pss_one (ps_raise rfl (takes_of rfl rfl rfl rfl) (pmk_oex T.o_InvalidNumber T.i_InvalidNumber T.t_init (ok_init T) (hr.mono (by decide)) T.b_init .nil pass0 rfl T.g_InvalidNumber (pa_cons (pv 1) pa_nil)))) pss_nil)
    (pss_one (ps_ret (pe_callTy call_tuple_of (by rfl) T.n_tuple (by decide +kernel) (pa_cons (pe_lc (own := [("number", 2)]) (g := gName 2) rfl sc_remainders.nd (pi_tup (pv 0)) (blkOk_by (own := [("number", 2)]) (N := N_remainders) (sc := defScope s_remainders) (by decide +kernel)) (fun _ _ _ _ _ => pg_name (i := 2) sc_remainders.nd rfl (Or.inl rfl)) (fun _ _ _ _ _ => pts_nil) (fun _ _ _ _ _ => (pe_op op_mod (pv 2) (pv 1)))) pa_nil)))))), ?_⟩)
  · obtain ⟨p, ns, d, rfl, _⟩ := h
    rfl
  · obtain ⟨t, ns, d, rfl, hT, hl, q, qE⟩ := h
    walk_at "rd"
    refine ⟨t, _, rfl, .inr hT.sq, ?_⟩
    walk_at "rd"
    refine ⟨by show 2 ≤ sizeLine; decide, fun t2 nt2 => ?_⟩
    refine ⟨t2, _, rfl, .inr (SqT.of upd_same), rfl, rfl, _, rfl, iteFb ?_ ?_⟩
    · rw [List.length_map]
      rcases hl with e | e <;> rw [e] <;> rfl
    have s1 : Same H (upd H t2 (.tup [.int 2, .int 3])) := Same.new0 nt2
    have hT1 := hT.same s1
    walk_at "rd"
    (try dsimp only)
    walk_at "rd"
    refine ⟨_, rfl, ite2 (fun hc => ?_) (fun hc => ?_)⟩
    · have hd : d < 2 := of_decide_eq_true hc
      refine ⟨_, rfl, by show 1 ≤ 1000; decide, fun a na => mk_done T.o_InvalidNumber T.v_InvalidNumber na fun dd H' sH nd hx => ?_⟩
      exact qE hd dd H' (s1.trans sH) hx
    have hd : 2 ≤ d := by
      have : ¬ d < 2 := fun z => hc (decide_eq_true z)
      omega
    walk_at "rd"
    (try dsimp only)
    walk_at "rd"
    refine ⟨_, rfl, t, rfl, ⟨_, hT1.sq⟩, fun D nD => lc_tup (K := K) (a := t) (xs := ns.map V.int) (fun i H5 => Same H H5 ∧ (upd H t2 (.tup [.int 2, .int 3])) D = none ∧ H5 D = some (.lst ((ns.take i).map fun a => V.int (a % d))))
      ⟨s1.new nD, nD, upd_same⟩ (fun i H5 _ ⟨e, _, _⟩ => (hT.same e).sq) ?_ ?_⟩
    · rintro i x H5 hi ⟨s5, _, hD⟩
      obtain ⟨z, hz, rfl⟩ := ints_at hi
      walk_at "rd"
      refine ⟨rfl, ?_⟩
      walk_at "rd"
      refine iteT ?_
      walk_at "rd"
      have hil : i < ns.length := (List.getElem?_eq_some_iff.mp hz).1
      refine ⟨_, hD, ?_, fun b o h => ?_, nD, ?_⟩
      · rw [List.length_map, List.length_take]
        exact Nat.lt_of_lt_of_le (by omega) (by decide : 3 ≤ sizeLine)
      · rw [upd_ne (ne_of_none (s1 b o h) nD)]
        exact s5 b o h
      · rw [upd_same, take_more hz, List.map_append]
        rfl
    · rintro H5 ⟨s5, _, hD⟩
      rw [List.length_map, List.take_length] at hD
      refine ⟨_, _, rfl, .inl ⟨SqL.of hD, fun tn ntn => ?_⟩⟩
      exact q hd tn _ (s5.new ntn) (TupI.new (by rw [List.map_map]; rfl))

def spError (Cn : Addr) : Sp := fun vs H Q _ => ∃ (t : Addr) (ns : List Int) (d : Int), vs = [.ref t, .int d] ∧ TupI H t ns ∧ (ns.length = 2 ∨ ns.length = 3) ∧ d < 2 ∧ ∀ a dd H', Same H H' → H' a = some (exK (.ref Cn) (some dd) a) → H' dd = some (.xd [("value", V.int d)]) → Q (.ref a) H'
theorem ok_law_error (T : Txt K mg A) : FnOk P w K mg base CX0 5 A.a_law_error A.f_law_error ["_law_spot", "_law_by"] (spError A.a_cInvalidNumber) := by
  refine T.F_law_error.ok sc_law_error (fun vs H Q E h => ?_) (fun cdv A' outer s H vs Q E hr h => ⟨_, (pss_cons (ps_set (i := 2) sc_law_error.nd rfl (Or.inl rfl) pe_non)
    (pss_cons (ps_try_keep (i := 3) (tb := (fun W => tDrop (tCallS (spRemX A.a_cInvalidNumber) (WE W) (tCons (tVar 0) (tCons (tVar 1) tNil))))) (ts := (fun _ _ _ => tAsg (tVar 3) (gName 2))) (Wout := fun _ _ _ _ => False) rfl rfl rfl sc_law_error.nd rfl rfl ⟨rfl, by decide, Or.inl T.g_PostError⟩ takes0 (fun W pn xe tk _ => (pss_one (ps_expr (pe_callS (ok_remainders T) (hr.mono (by decide)) rfl T.g_remainders T.k_remainders T.b_remainders (fun σ => passAt tk σ) (pa_cons (pv 0) (pa_cons (pv 1) pa_nil)))))) (fun a oe cls d pn hz hf => (pss_one (ps_set (i := 2) sc_law_error.nd rfl (Or.inl rfl) (pv 3)))))
    (pss_one (ps_ret (pv 2))))), ?_⟩)
  · obtain ⟨p, ns, d, rfl, _⟩ := h
    rfl
  · obtain ⟨t, ns, d, rfl, hT, hl, hd, q⟩ := h
    walk_at "rd"
    refine ⟨_, rfl, _, rfl, t, ns, d, rfl, hT, hl, fun z => absurd hd (by omega), fun _ dd H' sH hx => ?_⟩
    refine ⟨true, T.m_InvalidNumber, fun _ a na => ?_, fun z => Bool.noConfusion z⟩
    refine ⟨_, rfl, fun na' => ?_⟩
    refine ⟨_, rfl, ?_⟩
    exact q a dd _ (sH.new na) upd_same (by rw [upd_ne (ne_of_none hx na)]; exact hx)
theorem dpAll_bools {H : Hp} : ∀ bs : List Bool, DpAll K H (bs.map V.bl) (bs.map PyData.bool)
  | [] => .nil
  | b :: r => .cons (.bl b) (dpAll_bools r)
def spIsErr (Cn : Addr) : Sp := fun vs H Q _ => ∃ (a dd : Addr) (d : Int), vs = [.ref a, .int 4, .int d] ∧ H a = some (exK (.ref Cn) (some dd) a) ∧ H dd = some (.xd [("value", V.int d)]) ∧ d.natAbs.log2 < 1920 ∧ ∀ H', Same H H' → Q (.bl true) H'
theorem ok_law_is_error (T : Txt K mg A) : FnOk P w K mg base CX0 1 A.a_law_is_error A.f_law_is_error ["_law_caught", "_law_kind", "_law_due"] (spIsErr A.a_cInvalidNumber) := by
  refine T.F_law_is_error.ok sc_law_is_error (fun vs H Q E h => ?_) (fun cdv A' outer s H vs Q E hr h => ⟨_, (pss_cons (ps_if (PW.pt (pw_or (pt_cmpR op_isN (pv 0) pe_non (nomark _)) (pw_or1 (pt_cmpR op_ne (pe_callB SkE.call_repr_int (by rfl) T.n_repr (by decide +kernel) (pa_cons (pe_xk (pv 0)) pa_nil)) (pe_callB SkE.call_repr_int (by rfl) T.n_repr (by decide +kernel) (pa_cons (pv 2) pa_nil)) (nomark _))))) (pss_one (ps_ret pe_bl)) pss_nil)
    (pss_cons (ps_set (i := 3) sc_law_is_error.nd rfl (Or.inl rfl) (pe_lst (pa_cons (pe_callB call_isK (by rfl) T.n_isinstance (by decide +kernel) (pa_cons (pv 0) (pa_cons (pe_glob (v := .ref A.a_cInvalidSize) (u := .ref A.a_cInvalidSize) rfl T.g_InvalidSize rfl) pa_nil))) (pa_cons (pe_callB call_isK (by rfl) T.n_isinstance (by decide +kernel) (pa_cons (pv 0) (pa_cons (pe_glob (v := .ref A.a_cInvalidPlace) (u := .ref A.a_cInvalidPlace) rfl T.g_InvalidPlace rfl) pa_nil))) (pa_cons (pe_callB call_isK (by rfl) T.n_isinstance (by decide +kernel) (pa_cons (pv 0) (pa_cons (pe_glob (v := .ref A.a_cDoublePlace) (u := .ref A.a_cDoublePlace) rfl T.g_DoublePlace rfl) pa_nil))) pa_nil)))))
    (pss_cons (ps_set (i := 3) sc_law_is_error.nd rfl (Or.inl rfl) (pe_op op_cat (pv 3) (pe_lst (pa_cons (pe_callB call_isK (by rfl) T.n_isinstance (by decide +kernel) (pa_cons (pv 0) (pa_cons (pe_glob (v := .ref A.a_cInvalidMatrix) (u := .ref A.a_cInvalidMatrix) rfl T.g_InvalidMatrix rfl) pa_nil))) (pa_cons (pe_callB call_isK (by rfl) T.n_isinstance (by decide +kernel) (pa_cons (pv 0) (pa_cons (pe_glob (v := .ref A.a_cInvalidNumber) (u := .ref A.a_cInvalidNumber) rfl T.g_InvalidNumber rfl) pa_nil))) (pa_cons (pe_callB call_isK (by rfl) T.n_isinstance (by decide +kernel) (pa_cons (pv 0) (pa_cons (pe_glob (v := .ref A.a_cConflict) (u := .ref A.a_cConflict) rfl T.g_Conflict rfl) pa_nil))) pa_nil))))))
    (pss_cons (ps_set (i := 3) sc_law_is_error.nd rfl (Or.inl rfl) (pe_op op_cat (pv 3) (pe_lst (pa_cons (pe_callB call_isK (by rfl) T.n_isinstance (by decide +kernel) (pa_cons (pv 0) (pa_cons (pe_glob (v := .ref A.a_cInvalidWord) (u := .ref A.a_cInvalidWord) rfl T.g_InvalidWord rfl) pa_nil))) (pa_cons (pe_callB call_isK (by rfl) T.n_isinstance (by decide +kernel) (pa_cons (pv 0) (pa_cons (pe_glob (v := .ref A.a_cUnreadable) (u := .ref A.a_cUnreadable) rfl T.g_Unreadable rfl) pa_nil))) pa_nil)))))
    (pss_one (ps_ret (pe_cmpR (op_eqD hr.units) (pv 3) (pe_lc (own := [("_law_spot", 4)]) (g := gName 4) rfl sc_law_is_error.nd (pi_range1 rfl T.n_range (pa_cons pe_int pa_nil)) (blkOk_by (own := [("_law_spot", 4)]) (N := N_law_is_error) (sc := defScope s_law_is_error) (by decide +kernel)) (fun _ _ _ _ _ => pg_name (i := 4) sc_law_is_error.nd rfl (Or.inl rfl)) (fun _ _ _ _ _ => pts_nil) (fun _ _ _ _ _ => (pe_cmpR op_eq (pv 4) (pv 1) (nomark _)))) (nomark _)))))))), ?_⟩)
  · obtain ⟨a, dd, d, rfl, _⟩ := h
    rfl
  · obtain ⟨a, dd, d, rfl, ha, hx, hl, q⟩ := h
    walk_at "rd"
    refine ⟨rfl, _, rfl, iteFb (decide_eq_false (fun z => nomatch z)) ?_⟩
    walk_at "rd"
    refine ⟨_, rfl, a, _, dd, _, _, rfl, T.x_InvalidNumber, T.v_InvalidNumber, ha, hx, rfl, ?_⟩
    walk_at "rd"
    refine ⟨_, rfl, hl, ?_⟩
    walk_at "rd"
    refine ⟨_, rfl, hl, ?_⟩
    refine r_ne rfl ?_
    refine ⟨_, rfl, iteFb (by rw [decide_eq_true rfl]; rfl) ?_⟩
    walk_at "rd"
    (try dsimp only)
    walk_at "rd"
    have isi : ∀ {c : V} {cv : Value} {b : Bool} {H' : Hp} {Q' : VK}, Same H H' → ClsV c cv → PySem.W.kitOne K (.ref A.a_cInvalidNumber) cv = some b → Q' (.bl b) H' → rIsK K [.ref a, c] H' Q' := fun sH hc hk hq =>
      ⟨a, _, dd, _, _, _, _, rfl, hc, T.e_InvalidNumber, sH _ _ ha, sH _ _ hx, hk, hq⟩
    refine isi (Same.refl H) (.own _) T.ktInvalidNumberInvalidSize ?_
    walk_at "rd"
    refine isi (Same.refl H) (.own _) T.ktInvalidNumberInvalidPlace ?_
    walk_at "rd"
    refine isi (Same.refl H) (.own _) T.ktInvalidNumberDoublePlace ?_
    walk_at "rd"
    refine ⟨by show 3 ≤ sizeLine; decide, fun l1 n1 => ?_⟩
    have s1 := Same.new0 n1 (o := .lst [V.bl false, .bl false, .bl false])
    walk_at "rd"
    refine isi s1 (.own _) T.ktInvalidNumberInvalidMatrix ?_
    walk_at "rd"
    refine isi s1 (.own _) T.ktInvalidNumberInvalidNumber ?_
    walk_at "rd"
    refine isi s1 (.own _) T.ktInvalidNumberConflict ?_
    walk_at "rd"
    refine ⟨by show 3 ≤ sizeLine; decide, fun l2 n2 => ?_⟩
    have s2 := s1.new n2 (o := .lst [V.bl false, .bl true, .bl false])
    refine ⟨l1, l2, _, _, rfl, rfl, (Same.new0 n2) _ _ upd_same, upd_same, by show 6 ≤ sizeLine; decide, fun l3 n3 => ?_⟩
    have s3 := s2.new n3 (o := .lst ([V.bl false, .bl false, .bl false] ++ [V.bl false, .bl true, .bl false]))
    walk_at "rd"
    refine isi s3 (.own _) T.ktInvalidNumberInvalidWord ?_
    walk_at "rd"
    refine isi s3 (.own _) T.ktInvalidNumberUnreadable ?_
    walk_at "rd"
    refine ⟨by show 2 ≤ sizeLine; decide, fun l4 n4 => ?_⟩
    have s4 := s3.new n4 (o := .lst [V.bl false, .bl false])
    refine ⟨l3, l4, _, _, rfl, rfl, (Same.new0 n4) _ _ upd_same, upd_same, by show 8 ≤ sizeLine; decide, fun l5 n5 => ?_⟩
    have s5 := s4.new n5 (o := .lst (([V.bl false, .bl false, .bl false] ++ [V.bl false, .bl true, .bl false]) ++ [V.bl false, .bl false]))
    walk_at "rd"
    refine ⟨8, rfl, by decide, by decide, fun D nD => lc_range (n := 8) (fun i H5 => Same H H5 ∧ H5 l5 = some (.lst ([false, false, false, false, true, false, false, false].map V.bl)) ∧ H5 D = some (.lst (([false, false, false, false, true, false, false, false].take i).map V.bl)))
      ⟨s5.new nD, (Same.new0 nD) _ _ upd_same, upd_same⟩ ?_ ?_⟩
    · rintro i H5 hi ⟨sI, hl5, hD⟩
      walk_at "rd"
      refine ⟨rfl, ?_⟩
      walk_at "rd"
      refine iteT ?_
      walk_at "rd"
      have nH : ∀ b o, H b = some o → b ≠ D := fun b o h => ne_of_none (s5 _ _ h) nD
      have n5D : l5 ≠ D := ne_of_none (upd_same (H := _) (a := l5)) nD
      refine ⟨_, hD, ?_, fun b o h => ?_, ?_, ?_⟩
      · rw [List.length_map, List.length_take]
        exact Nat.lt_of_le_of_lt (Nat.min_le_left _ _) (Nat.lt_of_lt_of_le hi (by decide))
      · rw [upd_ne (nH b o h)]
        exact sI b o h
      · rw [upd_ne n5D]
        exact hl5
      · rw [upd_same]
        have e : i = 0 ∨ i = 1 ∨ i = 2 ∨ i = 3 ∨ i = 4 ∨ i = 5 ∨ i = 6 ∨ i = 7 := by omega
        rcases e with e | e | e | e | e | e | e | e <;> subst e <;> rfl
    · rintro H5 ⟨sI, hl5, hD⟩
      refine ⟨_, _, .lst (SqL.of hl5) (dpAll_bools _), .lst (SqL.of hD) (dpAll_bools _), by decide +kernel, by decide +kernel, ?_⟩
      have e : PyData.eqv (.list ([false, false, false, false, true, false, false, false].map PyData.bool)) (.list (([false, false, false, false, true, false, false, false].take 8).map PyData.bool)) = true := by decide +kernel
      rw [e]
      exact q _ sI
def spLeaves : Sp := fun vs H Q _ => ∃ (f t : Addr) (ns : List Int) (d : Int), vs = [.ref f, .ref t, .int d] ∧ TupI H f (ns.map fun a => a % d) ∧ TupI H t ns ∧ ns.length ≤ 1000 ∧ 2 ≤ d ∧ Q (.bl true) H
theorem ok_law_leaves (T : Txt K mg A) : FnOk P w K mg base CX0 2 A.a_law_leaves A.f_law_leaves ["_law_found", "_law_spot", "_law_by"] spLeaves := by
  refine T.F_law_leaves.ok sc_law_leaves (fun vs H Q E h => ?_) (fun cdv A' outer s H vs Q E hr h => ⟨_, (pss_cons (ps_if (PW.pt (pw_or (pt_not (pt_val (pe_callB call_isi (by rfl) T.n_isinstance (by decide +kernel) (pa_cons (pv 0) (pa_cons (pe_bltn (v := .ty "tuple") (u := .type "tuple") (by rfl) T.n_tuple (by decide +kernel) rfl) pa_nil))))) (pw_or1 (pt_cmpR op_ne (pe_callB call_len_seq (by rfl) T.n_len (by decide +kernel) (pa_cons (pv 0) pa_nil)) (pe_callB call_len_seq (by rfl) T.n_len (by decide +kernel) (pa_cons (pv 1) pa_nil)) (nomark _))))) (pss_one (ps_ret pe_bl)) pss_nil)
    (pss_cons (ps_for PassesOwn.never rfl (pi_range1 rfl T.n_range (pa_cons (pe_callB call_len_seq (by rfl) T.n_len (by decide +kernel) (pa_cons (pv 1) pa_nil)) pa_nil)) (pg_name (i := 3) sc_law_leaves.nd rfl (Or.inl rfl))
      (pss_cons (ps_if (PW.pt (pw_or (pt_not (pt_val (pe_call (ok_law_whole T) (hr.mono (by decide)) rfl T.g_law_whole T.k_law_whole T.b_law_whole .nil pass0 (pa_cons (pe_ix ix_tup (pv 0) (pv 3) (fun _ _ => rfl)) pa_nil)))) (pw_or1 (pt_not (PW.pt (pw_and (pt_cmpR op_le pe_int (pe_ix ix_tup (pv 0) (pv 3) (fun _ _ => rfl)) (nomark _)) (pw_and1 (pt_cmpR op_lt (pe_ix ix_tup (pv 0) (pv 3) (fun _ _ => rfl)) (pv 2) (nomark _))))))))) (pss_one (ps_ret pe_bl)) pss_nil)
    (pss_one (ps_if (pt_cmpR op_ne (pe_op op_mod (pe_callTy call_int1 (by rfl) T.n_int (by decide +kernel) (pa_cons (pe_op op_sub (pe_ix ix_tup (pv 1) (pv 3) (fun _ _ => rfl)) (pe_ix ix_tup (pv 0) (pv 3) (fun _ _ => rfl))) pa_nil)) (pv 2)) pe_int (nomark _)) (pss_one (ps_ret pe_bl)) pss_nil))))
    (pss_one (ps_ret pe_bl)))), ?_⟩)
  · obtain ⟨f, t, ns, d, rfl, _⟩ := h
    rfl
  · obtain ⟨f, t, ns, d, rfl, hF, hT, hl, hd, q⟩ := h
    walk_at "rd"
    refine ⟨_, _, _, _, true, rfl, .ty "tuple", .base (.tup hF), kit_ty (by decide +kernel), ?_⟩
    refine ⟨_, rfl, iteFb rfl ?_⟩
    walk_at "rd"
    refine ⟨f, _, rfl, .inr hF.sq, ?_⟩
    walk_at "rd"
    refine ⟨t, _, rfl, .inr hT.sq, ?_⟩
    walk_at "rd"
    refine ⟨_, rfl, iteFb (by rw [List.length_map, List.length_map, List.length_map, beq_self_eq_true]; rfl) ?_⟩
    walk_at "rd"
    (try dsimp only)
    refine ⟨_, rfl, t, _, rfl, .inr hT.sq, ?_⟩
    rw [List.length_map]
    refine ⟨_, rfl, by omega, by omega, for_range (n := ns.length) (fun i σ H' => ∃ v : Option V, σ = [some (.ref f), some (.ref t), some (.int d), v] ∧ H' = H) ⟨none, rfl, rfl⟩ ?_ ?_⟩
    · rintro i σ H' hi ⟨v, rfl, rfl⟩
      have hf : atI ((ns.map fun a => a % d).map V.int) (0 + (i : Int)) = some (.int (ns[i] % d)) := by
        rw [Int.zero_add]
        exact atI_nat (by rw [List.getElem?_map, List.getElem?_map, List.getElem?_eq_getElem hi]; rfl)
      have ht : atI (ns.map V.int) (0 + (i : Int)) = some (.int ns[i]) := by
        rw [Int.zero_add]
        exact atI_nat (by rw [List.getElem?_map, List.getElem?_eq_getElem hi]; rfl)
      have h0 : 0 ≤ ns[i] % d := Int.emod_nonneg _ (by omega)
      have h1 : ns[i] % d < d := Int.emod_lt_of_pos _ (by omega)
      walk_at "rd"
      refine r_ixT hF.sq hf ?_
      walk_at "rd"
      refine ⟨_, rfl, ⟨_, rfl, iteFb rfl ?_⟩⟩
      walk_at "rd"
      refine r_ixT hF.sq hf ?_
      walk_at "rd"
      refine ⟨_, rfl, iteTb (decide_eq_true h0) ?_⟩
      walk_at "rd"
      refine r_ixT hF.sq hf ?_
      walk_at "rd"
      refine ⟨_, rfl, iteFb (by rw [decide_eq_true h1]; rfl) ?_⟩
      walk_at "rd"
      (try dsimp only)
      walk_at "rd"
      refine r_ixT hT.sq ht ?_
      walk_at "rd"
      refine r_ixT hF.sq hf ?_
      walk_at "rd"
      refine .inl ⟨_, rfl, ?_⟩
      walk_at "rd"
      have e : (ns[i] - ns[i] % d) % d = 0 := by
        refine Int.emod_eq_zero_of_dvd ?_
        exact Int.dvd_self_sub_emod
      refine ⟨_, rfl, iteFb (by rw [e]; rfl) ?_⟩
      walk_at "rd"
      exact ⟨_, rfl, rfl⟩
    · rintro σ H' ⟨v, rfl, rfl⟩
      (try dsimp only)
      walk_at "rd"
      exact q
theorem ok_law_right (T : Txt K mg A) : FnOk P w K mg base CX0 6 A.a_law_right A.f_law_right ["_law_spring_here"] spRight := by
  refine T.F_law_right.ok sc_law_right (fun vs H Q E h => ?_) (fun cdv A' outer s H vs Q E hr h => ⟨_, (pss_cons (ps_set (i := 1) sc_law_right.nd rfl (Or.inl rfl) (pe_op op_add pe_int (pe_call (ok_law_sip T) (hr.mono (by decide)) rfl T.g_law_sip T.k_law_sip T.b_law_sip .nil pass0 (pa_cons (pv 0) (pa_cons pe_int pa_nil)))))
    (pss_cons (ps_set (i := 2) sc_law_right.nd rfl (Or.inr rfl) (pe_ix ix_list (pe_lst (pa_cons pe_int (pa_cons pe_int (pa_cons (pe_op op_pow pe_int pe_int) pa_nil)))) (pe_call (ok_law_sip T) (hr.mono (by decide)) rfl T.g_law_sip T.k_law_sip T.b_law_sip .nil pass0 (pa_cons (pv 0) (pa_cons pe_int pa_nil))) (fun _ _ => rfl)))
    (pss_cons (ps_set (i := 3) sc_law_right.nd rfl (Or.inl rfl) (pe_callTy call_tuple_of (by rfl) T.n_tuple (by decide +kernel) (pa_cons (pe_lc (own := [("_law_k", 8)]) (g := gName 8) rfl sc_law_right.nd (pi_range1 rfl T.n_range (pa_cons (pv 1) pa_nil)) (blkOk_by (own := [("_law_k", 8)]) (N := N_law_right) (sc := defScope s_law_right) (by decide +kernel)) (fun _ _ _ _ _ => pg_name (i := 8) sc_law_right.nd rfl (Or.inl rfl)) (fun _ _ _ _ _ => pts_nil) (fun _ _ _ _ _ => (pe_call (ok_law_far T) (hr.mono (by decide)) rfl T.g_law_far T.k_law_far T.b_law_far .nil pass0 (pa_cons (pv 0) (pa_cons (pv 2) pa_nil))))) pa_nil)))
    (pss_cons (ps_set (i := 4) sc_law_right.nd rfl (Or.inr rfl) (pe_lst (pa_cons (pe_op op_add pe_int (pe_call (ok_law_sip T) (hr.mono (by decide)) rfl T.g_law_sip T.k_law_sip T.b_law_sip .nil pass0 (pa_cons (pv 0) (pa_cons pe_int pa_nil)))) (pa_cons (pe_op op_add pe_int (pe_call (ok_law_sip T) (hr.mono (by decide)) rfl T.g_law_sip T.k_law_sip T.b_law_sip .nil pass0 (pa_cons (pv 0) (pa_cons (pe_op op_pow pe_int pe_int) pa_nil)))) (pa_cons (pe_op op_add (pe_op op_add pe_int (pe_call (ok_law_far T) (hr.mono (by decide)) rfl T.g_law_far T.k_law_far T.b_law_far .nil pass0 (pa_cons (pv 0) (pa_cons (pe_op op_pow pe_int pe_int) pa_nil)))) (pe_op op_pow pe_int pe_int)) pa_nil)))))
    (pss_cons (ps_set (i := 4) sc_law_right.nd rfl (Or.inr rfl) (pe_ix ix_list (pv 4) (pe_call (ok_law_sip T) (hr.mono (by decide)) rfl T.g_law_sip T.k_law_sip T.b_law_sip .nil pass0 (pa_cons (pv 0) (pa_cons pe_int pa_nil))) (fun _ _ => rfl)))
    (pss_cons (ps_set (i := 5) sc_law_right.nd rfl (Or.inl rfl) (pe_callTy call_tuple_of (by rfl) T.n_tuple (by decide +kernel) (pa_cons (pe_lc (own := [("_law_value", 9)]) (g := gName 9) rfl sc_law_right.nd (pi_tup (pv 3)) (blkOk_by (own := [("_law_value", 9)]) (N := N_law_right) (sc := defScope s_law_right) (by decide +kernel)) (fun _ _ _ _ _ => pg_name (i := 9) sc_law_right.nd rfl (Or.inl rfl)) (fun _ _ _ _ _ => pts_nil) (fun _ _ _ _ _ => (pe_op op_add (pv 9) (pe_op op_mul (pv 4) (pe_op op_sub (pe_call (ok_law_sip T) (hr.mono (by decide)) rfl T.g_law_sip T.k_law_sip T.b_law_sip .nil pass0 (pa_cons (pv 0) (pa_cons pe_int pa_nil))) pe_int))))) pa_nil)))
    (pss_cons (ps_if (PW.pt (pw_or (pt_not (pt_val (pe_call (ok_law_leaves T) (hr.mono (by decide)) rfl T.g_law_leaves T.k_law_leaves T.b_law_leaves .nil pass0 (pa_cons (pe_call (ok_remainders T) (hr.mono (by decide)) rfl T.g_remainders T.k_remainders T.b_remainders .nil passL (pa_cons (pv 3) (pa_cons (pv 4) pa_nil))) (pa_cons (pv 3) (pa_cons (pv 4) pa_nil)))))) (pw_or1 (pt_not (pt_val (pe_call (ok_law_is_spot T) (hr.mono (by decide)) rfl T.g_law_is_spot T.k_law_is_spot T.b_law_is_spot .nil pass0 (pa_cons (pe_call (ok_remainders T) (hr.mono (by decide)) rfl T.g_remainders T.k_remainders T.b_remainders .nil passL (pa_cons (pv 5) (pa_cons (pv 4) pa_nil))) (pa_cons (pe_call (ok_remainders T) (hr.mono (by decide)) rfl T.g_remainders T.k_remainders T.b_remainders .nil passL (pa_cons (pv 3) (pa_cons (pv 4) pa_nil))) pa_nil)))))))) (pss_one (ps_ret pe_bl)) pss_nil)
    (pss_cons (ps_set (i := 6) sc_law_right.nd rfl (Or.inl rfl) (pe_ix ix_list (pe_lst (pa_cons pe_int (pa_cons pe_int (pa_cons (pe_op op_sub pe_int pe_int) (pa_cons (pe_op op_sub (pe_op op_sub pe_int pe_int) (pe_call (ok_law_sip T) (hr.mono (by decide)) rfl T.g_law_sip T.k_law_sip T.b_law_sip .nil pass0 (pa_cons (pv 0) (pa_cons (pe_op op_pow pe_int pe_int) pa_nil)))) (pa_cons (pe_op op_sub pe_int (pe_op op_pow pe_int pe_int)) pa_nil)))))) (pe_call (ok_law_sip T) (hr.mono (by decide)) rfl T.g_law_sip T.k_law_sip T.b_law_sip .nil pass0 (pa_cons (pv 0) (pa_cons pe_int pa_nil))) (fun _ _ => rfl)))
    (pss_cons (ps_if (pt_not (pt_val (pe_call (ok_law_is_error T) (hr.mono (by decide)) rfl T.g_law_is_error T.k_law_is_error T.b_law_is_error .nil pass0 (pa_cons (pe_call (ok_law_error T) (hr.mono (by decide)) rfl T.g_law_error T.k_law_error T.b_law_error .nil pass0 (pa_cons (pv 3) (pa_cons (pv 6) pa_nil))) (pa_cons pe_int (pa_cons (pv 6) pa_nil)))))) (pss_one (ps_ret pe_bl)) pss_nil)
    (pss_cons (ps_set (i := 7) sc_law_right.nd rfl (Or.inl rfl) (pe_op op_add (pe_op op_add (pe_op op_pow pe_int pe_int) pe_int) (pe_call (ok_law_far T) (hr.mono (by decide)) rfl T.g_law_far T.k_law_far T.b_law_far .nil pass0 (pa_cons (pv 0) (pa_cons (pe_op op_pow pe_int pe_int) pa_nil)))))
    (pss_cons (ps_if (pt_not (pt_val (pe_call (ok_law_leaves T) (hr.mono (by decide)) rfl T.g_law_leaves T.k_law_leaves T.b_law_leaves .nil pass0 (pa_cons (pe_call (ok_remainders T) (hr.mono (by decide)) rfl T.g_remainders T.k_remainders T.b_remainders .nil passL (pa_cons (pv 3) (pa_cons (pv 7) pa_nil))) (pa_cons (pv 3) (pa_cons (pv 7) pa_nil)))))) (pss_one (ps_ret pe_bl)) pss_nil)
    (pss_one (ps_ret (pe_and (pe_call (ok_law_leaves T) (hr.mono (by decide)) rfl T.g_law_leaves T.k_law_leaves T.b_law_leaves .nil pass0 (pa_cons (pe_callK0 (ok_remainders T) (hr.mono (by decide)) rfl T.g_remainders T.k_remainders T.kb_remainders passL (pk_cons (pv 5) (pk_cons (pv 4) pk_nil))) (pa_cons (pv 5) (pa_cons (pv 4) pa_nil)))) (pe_one (pe_call (ok_law_leaves T) (hr.mono (by decide)) rfl T.g_law_leaves T.k_law_leaves T.b_law_leaves .nil pass0 (pa_cons (pe_call (ok_remainders T) (hr.mono (by decide)) rfl T.g_remainders T.k_remainders T.b_remainders .nil passL (pa_cons (pv 3) (pa_cons pe_int pa_nil))) (pa_cons (pv 3) (pa_cons pe_int pa_nil))))))))))))))))))), ?_⟩)
  · obtain ⟨p, rfl, _⟩ := h
    rfl
  · obtain ⟨p, rfl, hS, q⟩ := h
    walk_at "rd"
    refine ⟨p, _, rfl, hS, by decide, by decide, fun r1 H1 r10 r11 hB1 hS1 => ?_⟩
    obtain ⟨n, hn, hnn⟩ : ∃ n : Nat, 2 + r1 = (n : Int) ∧ (n = 2 ∨ n = 3) := ⟨(2 + r1).toNat, by omega, by omega⟩
    refine r_I0 ?_
    rw [hn]
    walk_at "rd"
    refine ⟨by show 3 ≤ sizeLine; decide, fun l1 n1 => ?_⟩
    walk_at "rd"
    refine ⟨p, _, rfl, hS1.new n1, by decide, by decide, fun r2 H2 r20 r21 hB2 hS2 => ?_⟩
    have hl1 := hB2 l1 _ (hS1.ne n1).symm upd_same
    obtain ⟨wd, hw0, hw1, hw⟩ : ∃ wd : Int, 1 ≤ wd ∧ wd ≤ 10 ^ 30 ∧ atI [V.int 2, .int 41, .int (10 ^ Int.toNat 30)] r2 = some (.int wd) := by
      have e : r2 = 0 ∨ r2 = 1 ∨ r2 = 2 := by omega
      rcases e with e | e | e <;> subst e <;> exact ⟨_, by decide, by decide, rfl⟩
    refine r_ixL (SqL.of hl1) hw ?_
    have b2 : But p H H2 := hB1.trans ((Same.new0 n1).but.trans hB2)
    walk_at "rd"
    -- the place
    refine ⟨_, rfl, (n : Int), rfl, by omega, by omega, fun D nD => lc_range (n := n) (fun i H5 => ∃ ms : List Int, ms.length = i ∧ H5 D = some (.lst (ms.map V.int)) ∧ But p H H5 ∧ Spr H5 p)
      ⟨[], rfl, upd_same, b2.new nD, hS2.new nD⟩ ?_ ?_⟩
    · rintro i H5 hi ⟨ms, rfl, hD, hB5, hS5⟩
      walk_at "rd"
      refine ⟨rfl, ?_⟩
      walk_at "rd"
      refine iteT ?_
      walk_at "rd"
      refine ⟨p, wd, rfl, hS5, hw0, by omega, fun r H6 r0 r1 hB6 hS6 => ?_⟩
      have nDp : D ≠ p := (hS2.ne nD).symm
      refine ⟨_, hB6 D _ nDp hD, by rw [List.length_map]; exact Nat.lt_of_lt_of_le hi (Nat.le_trans (by omega) (by decide : 3 ≤ sizeLine)), ms ++ [r], by rw [List.length_append]; rfl, ?_, ?_, hS6.put nDp⟩
      · rw [upd_same, List.map_append]
        rfl
      · intro b o hb h
        have h2 := hB6 b o hb (hB5 b o hb h)
        have nb : b ≠ D := fun e => by
          subst e
          rw [b2.free nD hb] at h
          cases h
        rw [upd_ne nb]
        exact h2
    · rintro H5 ⟨ns, hl, hD, hB5, hS5⟩
      refine ⟨_, _, rfl, .inl ⟨SqL.of hD, fun t nt => ?_⟩⟩
      have hT : TupI (upd H5 t (.tup (ns.map V.int))) t ns := TupI.new rfl
      have hS6 := hS5.new nt (o := .tup (ns.map V.int))
      have hB6 := hB5.new nt (o := .tup (ns.map V.int))
      have hln : ns.length = 2 ∨ ns.length = 3 := by rw [hl]; exact hnn
      generalize upd H5 t (.tup (ns.map V.int)) = H6 at hT hS6 hB6
      walk_at "rd"
      refine ⟨p, _, rfl, hS6, by decide, by decide, fun r3 H7 r30 r31 hB7 hS7 => ?_⟩
      walk_at "rd"
      refine ⟨p, _, rfl, hS7, by decide, by decide, fun r4 H8 r40 r41 hB8 hS8 => ?_⟩
      walk_at "rd"
      refine ⟨p, _, rfl, hS8, by decide, by decide, fun r5 H9 r50 r51 hB9 hS9 => ?_⟩
      walk_at "rd"
      refine ⟨by show 3 ≤ sizeLine; decide, fun l2 n2 => ?_⟩
      walk_at "rd"
      refine ⟨p, _, rfl, hS9.new n2, by decide, by decide, fun r6 H10 r60 r61 hB10 hS10 => ?_⟩
      have hl2 := hB10 l2 _ (hS9.ne n2).symm upd_same
      have e27 : (10 : Int) ^ Int.toNat 27 = 1000000000000000000000000000 := by decide
      obtain ⟨b, hb2, hba⟩ : ∃ b : Int, 2 ≤ b ∧ atI [V.int (2 + r3), .int (2 + r4), .int (2 + r5 + 10 ^ Int.toNat 27)] r6 = some (.int b) := by
        rw [e27] at r50 r51 ⊢
        have e : r6 = 0 ∨ r6 = 1 ∨ r6 = 2 := by omega
        rcases e with e | e | e <;> subst e
        · exact ⟨2 + r3, by omega, rfl⟩
        · exact ⟨2 + r4, by omega, rfl⟩
        · exact ⟨2 + r5 + 1000000000000000000000000000, by omega, rfl⟩
      refine r_ixL (SqL.of hl2) hba ?_
      have b10 : But p H6 H10 := ((hB7.trans hB8).trans hB9).trans ((Same.new0 n2).but.trans hB10)
      have hT10 : TupI H10 t ns := b10 t _ (hS6.tupNe hT) hT
      walk_at "rd"
      -- the shifted place
      refine ⟨_, rfl, t, rfl, ⟨_, hT10.sq⟩, fun D2 nD2 => lc_tup (K := K) (a := t) (xs := ns.map V.int) (fun i H11 => ∃ ms : List Int, ms.length = i ∧ (ms.map fun a => a % b) = ((ns.take i).map fun a => a % b) ∧ H11 D2 = some (.lst (ms.map V.int)) ∧ But p H10 H11 ∧ Spr H11 p)
        ⟨[], rfl, rfl, upd_same, (Same.new0 nD2).but, hS10.new nD2⟩ (fun i H11 _ ⟨_, _, _, _, e, _⟩ => SqT.of (e _ _ (hS10.tupNe hT10) hT10)) ?_ ?_⟩
      · rintro i x H11 hi ⟨ms, rfl, hmm, hD2, hB11, hS11⟩
        obtain ⟨z, hz, rfl⟩ := ints_at hi
        walk_at "rd"
        refine ⟨rfl, ?_⟩
        walk_at "rd"
        refine iteT ?_
        walk_at "rd"
        refine ⟨p, _, rfl, hS11, by decide, by decide, fun r H12 r0 r1 hB12 hS12 => ?_⟩
        walk_at "rd"
        have nDp : D2 ≠ p := (hS10.ne nD2).symm
        have hil : ms.length < ns.length := (List.getElem?_eq_some_iff.mp hz).1
        refine ⟨_, hB12 D2 _ nDp hD2, by rw [List.length_map]; exact Nat.lt_of_lt_of_le hil (Nat.le_trans (by omega) (by decide : 3 ≤ sizeLine)), ms ++ [z + b * (r - 1000)], by rw [List.length_append]; rfl, ?_, ?_, ?_, hS12.put nDp⟩
        · rw [List.map_append, hmm, take_more hz, List.map_append]
          refine congrArg _ (congrArg (fun x => [x]) ?_)
          exact Int.add_mul_emod_self_left _ _ _
        · rw [upd_same, List.map_append]
          rfl
        · intro c o hc h
          have h2 := hB12 c o hc (hB11 c o hc h)
          rw [upd_ne (ne_of_none h nD2)]
          exact h2
      · rintro H11 ⟨ms, hml, hmm, hD2, hB11, hS11⟩
        rw [List.length_map, List.take_length] at hmm
        rw [List.length_map] at hml
        refine ⟨_, _, rfl, .inl ⟨SqL.of hD2, fun ta nta => ?_⟩⟩
        have hA : TupI (upd H11 ta (.tup (ms.map V.int))) ta ms := TupI.new rfl
        have hT11 : TupI (upd H11 ta (.tup (ms.map V.int))) t ns := (Same.new0 nta) _ _ (hB11 t _ (hS10.tupNe hT10) hT10)
        have hS12 := hS11.new nta (o := .tup (ms.map V.int))
        have hB12 : But p H (upd H11 ta (.tup (ms.map V.int))) := ((hB6.trans b10).trans hB11).new nta
        have hlm : ms.length = 2 ∨ ms.length = 3 := by rw [hml]; exact hln
        generalize upd H11 ta (.tup (ms.map V.int)) = H12 at hA hT11 hS12 hB12
        walk_at "rd"
        refine ⟨t, ns, b, rfl, hT11, hln, fun _ f1 H13 s13 hf1 => ?_, fun z => absurd hb2 (by omega)⟩
        walk_at "rd"
        refine ⟨f1, t, ns, b, rfl, hf1, hT11.same s13, by omega, hb2, ?_⟩
        refine ⟨_, rfl, iteFb rfl ?_⟩
        walk_at "rd"
        refine ⟨ta, ms, b, rfl, hA.same s13, hlm, fun _ f2 H14 s14 hf2 => ?_, fun z => absurd hb2 (by omega)⟩
        walk_at "rd"
        refine ⟨t, ns, b, rfl, hT11.same (s13.trans s14), hln, fun _ f3 H15 s15 hf3 => ?_, fun z => absurd hb2 (by omega)⟩
        walk_at "rd"
        rw [hmm] at hf2
        refine ⟨f2, f3, _, rfl, hf2.same s15, hf3, by rw [List.length_map]; omega, ?_⟩
        refine ⟨_, rfl, iteFb rfl ?_⟩
        have s12 := (s13.trans s14).trans s15
        have hS15 := hS12.same s12
        walk_at "rd"
        (try dsimp only)
        walk_at "rd"
        -- a divisor that is none
        refine ⟨p, _, rfl, hS15, by decide, by decide, fun r7 H16 r70 r71 hB16 hS16 => ?_⟩
        walk_at "rd"
        refine ⟨by show 5 ≤ sizeLine; decide, fun l3 n3 => ?_⟩
        walk_at "rd"
        refine ⟨p, _, rfl, hS16.new n3, by decide, by decide, fun r8 H17 r80 r81 hB17 hS17 => ?_⟩
        have hl3 := hB17 l3 _ (hS16.ne n3).symm upd_same
        have e9 : (10 : Int) ^ Int.toNat 9 = 1000000000 := by decide
        have e59 : (10 : Int) ^ Int.toNat 59 = 100000000000000000000000000000000000000000000000000000000000 := by decide
        obtain ⟨d, hd2, hdl, hda⟩ : ∃ d : Int, d < 2 ∧ d.natAbs < 2 ^ 250 ∧ atI [V.int 1, .int 0, .int (0 - 1), .int (0 - 2 - r7), .int (0 - 10 ^ Int.toNat 59)] r8 = some (.int d) := by
          rw [e9] at r71
          rw [e59]
          have e : r8 = 0 ∨ r8 = 1 ∨ r8 = 2 ∨ r8 = 3 ∨ r8 = 4 := by omega
          rcases e with e | e | e | e | e <;> subst e
          · exact ⟨1, by decide, by decide, rfl⟩
          · exact ⟨0, by decide, by decide, rfl⟩
          · exact ⟨0 - 1, by decide, by decide, rfl⟩
          · exact ⟨0 - 2 - r7, by omega, by omega, rfl⟩
          · exact ⟨_, by decide, by decide, rfl⟩
        refine r_ixL (SqL.of hl3) hda ?_
        have b17 : But p H15 H17 := hB16.trans ((Same.new0 n3).but.trans hB17)
        have hT15 := hT11.same s12
        have hA15 := hA.same s12
        have hT17 : TupI H17 t ns := b17 t _ (hS15.tupNe hT15) hT15
        have hA17 : TupI H17 ta ms := b17 ta _ (hS15.tupNe hA15) hA15
        walk_at "rd"
        refine ⟨t, ns, d, rfl, hT17, hln, hd2, fun a dd H18 s18 ha hx => ?_⟩
        walk_at "rd"
        refine ⟨a, dd, d, rfl, ha, hx, Nat.lt_of_lt_of_le (PySem.Flt.log2_lt_of (by decide) hdl) (by decide), fun H19 s19 => ?_⟩
        refine ⟨_, rfl, iteFb rfl ?_⟩
        have s1719 := s18.trans s19
        have hS19 := hS17.same s1719
        have hT19 := hT17.same s1719
        have hA19 := hA17.same s1719
        walk_at "rd"
        (try dsimp only)
        walk_at "rd"
        -- a great divisor
        refine ⟨p, _, rfl, hS19, by decide, by decide, fun r9 H20 r90 r91 hB20 hS20 => ?_⟩
        rw [e59] at r90 r91
        have hT20 : TupI H20 t ns := hB20 t _ (hS19.tupNe hT19) hT19
        have hA20 : TupI H20 ta ms := hB20 ta _ (hS19.tupNe hA19) hA19
        walk_at "rd"
        rw [e59]
        have hg2 : 2 ≤ 100000000000000000000000000000000000000000000000000000000000 + 2 + r9 := by omega
        refine ⟨t, ns, _, rfl, hT20, hln, fun _ f4 H21 s21 hf4 => ?_, fun z => absurd hg2 (by omega)⟩
        walk_at "rd"
        refine ⟨f4, t, ns, _, rfl, hf4, hT20.same s21, by omega, hg2, ?_⟩
        refine ⟨_, rfl, iteFb rfl ?_⟩
        walk_at "rd"
        (try dsimp only)
        walk_at "rd"
        refine ⟨ta, ms, b, rfl, hA20.same s21, hlm, fun _ f5 H22 s22 hf5 => ?_, fun z => absurd hb2 (by omega)⟩
        walk_at "rd"
        refine ⟨f5, ta, ms, b, rfl, hf5, hA20.same (s21.trans s22), by omega, hb2, ?_⟩
        refine ⟨_, rfl, iteT ?_⟩
        walk_at "rd"
        refine ⟨t, ns, 2, rfl, hT20.same (s21.trans s22), hln, fun _ f6 H23 s23 hf6 => ?_, fun z => absurd z (by decide)⟩
        walk_at "rd"
        refine ⟨f6, t, ns, 2, rfl, hf6, hT20.same ((s21.trans s22).trans s23), by omega, by decide, ?_⟩
        exact q _ ((((hB12.same s12).trans b17).same s1719).trans hB20 |>.same ((s21.trans s22).trans s23))

/-! law: the cells, one by one -/
theorem ok_law (T : Txt K mg A) : FnOk P w K mg base CX0 7 A.a_law A.f_law ["_law_script"] (spLaw K) := by
  refine T.F_law.ok sc_law (fun vs H Q E h => ?_) (fun cdv A' outer s H vs Q E hr h => ⟨_, (pss_cons (ps_set (i := 1) sc_law.nd rfl (Or.inl rfl) (pe_op op_cat (pe_slice sl_list (pv 0) po_none (po_some pe_int)) (pe_op op_rep (pe_lst (pa_cons pe_int pa_nil)) (pe_callTy call_int1 (by rfl) T.n_int (by decide +kernel) (pa_cons (pe_cmpR op_eq (pe_callB call_len_seq (by rfl) T.n_len (by decide +kernel) (pa_cons (pv 0) pa_nil)) pe_int (nomark _)) pa_nil)))))
    (pss_cons (ps_for PassesOwn.never rfl (pi_range1 rfl T.n_range (pa_cons (pe_callB call_len_seq (by rfl) T.n_len (by decide +kernel) (pa_cons (pv 1) pa_nil)) pa_nil)) (pg_name (i := 2) sc_law.nd rfl (Or.inl rfl))
      (pss_one (ps_if (pt_not (pt_val (pe_call (ok_law_right T) (hr.mono (by decide)) rfl T.g_law_right T.k_law_right T.b_law_right .nil pass0 (pa_cons (pe_call (ok_law_spring T) (hr.mono (by decide)) rfl T.g_law_spring T.k_law_spring T.b_law_spring .nil pass0 (pa_cons (pe_ix ix_list (pv 1) (pv 2) (fun _ _ => rfl)) (pa_cons (pv 2) pa_nil))) pa_nil)))) (pss_one (ps_ret pe_bl)) pss_nil)))
    (pss_one (ps_ret pe_bl)))), ?_⟩)
  · obtain ⟨p, ns, rfl, _⟩ := h
    rfl
  · obtain ⟨a, ns, rfl, hS, hlen, hbits, q⟩ := h
    walk_at "rd"
    refine ⟨_, rfl, a, _, rfl, hS, fun l1 n1 => ?_⟩
    rw [show cutV (ns.map V.int) none (some 12) = (ns.take 12).map V.int from cut_ints ns 12]
    have hS1 := (Same.new0 n1 (o := .lst ((ns.take 12).map V.int))).seq hS
    walk_at "rd"
    refine ⟨by show 1 ≤ sizeLine; decide, fun l2 n2 => ?_⟩
    have hS2 := (Same.new0 n2 (o := .lst [V.int 0])).seq hS1
    walk_at "rd"
    refine ⟨a, _, rfl, .inl hS2, ?_⟩
    walk_at "rd"
    refine .inr ⟨_, rfl, ?_⟩
    have ez : (if (((List.map V.int ns).length : Nat) : Int) == 0 then (1 : Int) else 0) = if ns.length = 0 then (1 : Int) else 0 := by
      rw [List.length_map]
      by_cases h : ns.length = 0
      · rw [if_pos h, h]
        rfl
      · rw [if_neg h, if_neg (by simpa using h)]
    rw [ez]
    refine ⟨l2, _, _, rfl, rfl, upd_same, by split <;> omega, by split <;> omega, by split <;> decide, fun l3 n3 => ?_⟩
    have h13 := (Same.new0 n3 (o := .lst (List.replicate ((if ns.length = 0 then (1 : Int) else 0).toNat) [V.int 0]).flatten)) l1 _ ((Same.new0 n2 (o := .lst [V.int 0])) l1 _ upd_same)
    refine ⟨l1, l3, _, _, rfl, rfl, h13, upd_same, ?_, fun D nD => ?_⟩
    · rw [List.length_map, List.length_take]
      refine Nat.le_trans ?_ (by decide : 100 ≤ sizeLine)
      have : (List.replicate ((if ns.length = 0 then (1 : Int) else 0).toNat) [V.int 0]).flatten.length ≤ 1 := by split <;> decide
      omega
    rw [cells_v ns 12]
    have hcl := cells_len hlen 12
    walk_at "rd"
    refine ⟨_, rfl, D, _, rfl, .inl (SqL.of upd_same), ?_⟩
    rw [List.length_map]
    refine ⟨_, rfl, by omega, by omega, for_range (n := (cells ns 12).length) (fun i σ H' => ∃ v : Option V, σ = [some (.ref a), some (.ref D), v] ∧ H' D = some (.lst ((cells ns 12).map V.int))) ⟨none, rfl, upd_same⟩ ?_ ?_⟩
    · rintro i σ H' hi ⟨v, rfl, hD⟩
      walk_at "rd"
      have ha : atI ((cells ns 12).map V.int) (0 + (i : Int)) = some (.int (cells ns 12)[i]) := by
        rw [Int.zero_add]
        exact atI_nat (by rw [List.getElem?_map, List.getElem?_eq_getElem hi]; rfl)
      refine r_ixL (SqL.of hD) ha ?_
      walk_at "rd"
      refine ⟨_, _, rfl, fun p H1 np s1 hS1 => ?_⟩
      walk_at "rd"
      refine ⟨p, rfl, hS1, fun H2 hB => ⟨_, rfl, iteF ?_⟩⟩
      walk_at "rd"
      exact ⟨_, rfl, But.of_new np s1 hB _ _ hD⟩
    · rintro σ H' ⟨v, rfl, hD⟩
      dsimp only
      walk_at "rd"
      exact q _

end
theorem all_mk {l : PySem.W.OpenLaw} {w : World} {K : PySem.W.Frag} {h : Heap} {mg : Str → Option Value} {fa : Addr} (X : K.In h) (G : h.Ns mainGlobals mg) (hfa : mg "law" = some (.ref fa))
    {od0 an0 : Option Addr} {sl0 : Array (Option Value)} {oc0 kV0 dc0 pm0 cd0 ct0 : Value} {f0 : Addr}
    (a0 : PySem.W.nsIn K mainGlobals "remainders" = some (some (.ref f0)))
    (l0 : K.lookup f0 = some ⟨oc0, od0, .func (PySem.W.fnOf "remainders" "remainders" (defArgs s_remainders) (defBody s_remainders) (defScope s_remainders) .none kV0 dc0 pm0 an0 cd0 ct0), sl0⟩)
    (c0 : PySem.W.codeIn K cd0 "remainders" = true)
    (k0 : PySem.W.keepIn K (.ref f0) = true)
    {od1 an1 : Option Addr} {sl1 : Array (Option Value)} {oc1 kV1 dc1 pm1 cd1 ct1 : Value} {f1 : Addr}
    (a1 : PySem.W.nsIn K mainGlobals "_law_spring" = some (some (.ref f1)))
    (l1 : K.lookup f1 = some ⟨oc1, od1, .func (PySem.W.fnOf "_law_spring" "_law_spring" (defArgs s_law_spring) (defBody s_law_spring) (defScope s_law_spring) .none kV1 dc1 pm1 an1 cd1 ct1), sl1⟩)
    (c1 : PySem.W.codeIn K cd1 "_law_spring" = true)
    (k1 : PySem.W.keepIn K (.ref f1) = true)
    {od2 an2 : Option Addr} {sl2 : Array (Option Value)} {oc2 kV2 dc2 pm2 cd2 ct2 : Value} {f2 : Addr}
    (a2 : PySem.W.nsIn K mainGlobals "_law_sip" = some (some (.ref f2)))
    (l2 : K.lookup f2 = some ⟨oc2, od2, .func (PySem.W.fnOf "_law_sip" "_law_sip" (defArgs s_law_sip) (defBody s_law_sip) (defScope s_law_sip) .none kV2 dc2 pm2 an2 cd2 ct2), sl2⟩)
    (c2 : PySem.W.codeIn K cd2 "_law_sip" = true)
    (k2 : PySem.W.keepIn K (.ref f2) = true)
    {od3 an3 : Option Addr} {sl3 : Array (Option Value)} {oc3 kV3 dc3 pm3 cd3 ct3 : Value} {f3 : Addr}
    (a3 : PySem.W.nsIn K mainGlobals "_law_far" = some (some (.ref f3)))
    (l3 : K.lookup f3 = some ⟨oc3, od3, .func (PySem.W.fnOf "_law_far" "_law_far" (defArgs s_law_far) (defBody s_law_far) (defScope s_law_far) .none kV3 dc3 pm3 an3 cd3 ct3), sl3⟩)
    (c3 : PySem.W.codeIn K cd3 "_law_far" = true)
    (k3 : PySem.W.keepIn K (.ref f3) = true)
    {od4 an4 : Option Addr} {sl4 : Array (Option Value)} {oc4 kV4 dc4 pm4 cd4 ct4 : Value} {f4 : Addr}
    (a4 : PySem.W.nsIn K mainGlobals "_law_whole" = some (some (.ref f4)))
    (l4 : K.lookup f4 = some ⟨oc4, od4, .func (PySem.W.fnOf "_law_whole" "_law_whole" (defArgs s_law_whole) (defBody s_law_whole) (defScope s_law_whole) .none kV4 dc4 pm4 an4 cd4 ct4), sl4⟩)
    (c4 : PySem.W.codeIn K cd4 "_law_whole" = true)
    (k4 : PySem.W.keepIn K (.ref f4) = true)
    {od5 an5 : Option Addr} {sl5 : Array (Option Value)} {oc5 kV5 dc5 pm5 cd5 ct5 : Value} {f5 : Addr}
    (a5 : PySem.W.nsIn K mainGlobals "_law_is_spot" = some (some (.ref f5)))
    (l5 : K.lookup f5 = some ⟨oc5, od5, .func (PySem.W.fnOf "_law_is_spot" "_law_is_spot" (defArgs s_law_is_spot) (defBody s_law_is_spot) (defScope s_law_is_spot) .none kV5 dc5 pm5 an5 cd5 ct5), sl5⟩)
    (c5 : PySem.W.codeIn K cd5 "_law_is_spot" = true)
    (k5 : PySem.W.keepIn K (.ref f5) = true)
    {od6 an6 : Option Addr} {sl6 : Array (Option Value)} {oc6 kV6 dc6 pm6 cd6 ct6 : Value} {f6 : Addr}
    (a6 : PySem.W.nsIn K mainGlobals "_law_is_error" = some (some (.ref f6)))
    (l6 : K.lookup f6 = some ⟨oc6, od6, .func (PySem.W.fnOf "_law_is_error" "_law_is_error" (defArgs s_law_is_error) (defBody s_law_is_error) (defScope s_law_is_error) .none kV6 dc6 pm6 an6 cd6 ct6), sl6⟩)
    (c6 : PySem.W.codeIn K cd6 "_law_is_error" = true)
    (k6 : PySem.W.keepIn K (.ref f6) = true)
    {od7 an7 : Option Addr} {sl7 : Array (Option Value)} {oc7 kV7 dc7 pm7 cd7 ct7 : Value} {f7 : Addr}
    (a7 : PySem.W.nsIn K mainGlobals "_law_leaves" = some (some (.ref f7)))
    (l7 : K.lookup f7 = some ⟨oc7, od7, .func (PySem.W.fnOf "_law_leaves" "_law_leaves" (defArgs s_law_leaves) (defBody s_law_leaves) (defScope s_law_leaves) .none kV7 dc7 pm7 an7 cd7 ct7), sl7⟩)
    (c7 : PySem.W.codeIn K cd7 "_law_leaves" = true)
    (k7 : PySem.W.keepIn K (.ref f7) = true)
    {od8 an8 : Option Addr} {sl8 : Array (Option Value)} {oc8 kV8 dc8 pm8 cd8 ct8 : Value} {f8 : Addr}
    (a8 : PySem.W.nsIn K mainGlobals "_law_error" = some (some (.ref f8)))
    (l8 : K.lookup f8 = some ⟨oc8, od8, .func (PySem.W.fnOf "_law_error" "_law_error" (defArgs s_law_error) (defBody s_law_error) (defScope s_law_error) .none kV8 dc8 pm8 an8 cd8 ct8), sl8⟩)
    (c8 : PySem.W.codeIn K cd8 "_law_error" = true)
    (k8 : PySem.W.keepIn K (.ref f8) = true)
    {od9 an9 : Option Addr} {sl9 : Array (Option Value)} {oc9 kV9 dc9 pm9 cd9 ct9 : Value} {f9 : Addr}
    (a9 : PySem.W.nsIn K mainGlobals "_law_right" = some (some (.ref f9)))
    (l9 : K.lookup f9 = some ⟨oc9, od9, .func (PySem.W.fnOf "_law_right" "_law_right" (defArgs s_law_right) (defBody s_law_right) (defScope s_law_right) .none kV9 dc9 pm9 an9 cd9 ct9), sl9⟩)
    (c9 : PySem.W.codeIn K cd9 "_law_right" = true)
    (k9 : PySem.W.keepIn K (.ref f9) = true)
    {od10 an10 : Option Addr} {sl10 : Array (Option Value)} {oc10 kV10 dc10 pm10 cd10 ct10 : Value} {f10 : Addr}
    (a10 : PySem.W.nsIn K mainGlobals "law" = some (some (.ref f10)))
    (l10 : K.lookup f10 = some ⟨oc10, od10, .func (PySem.W.fnOf "law" "law" (defArgs s_law) (defBody s_law) (defScope s_law) .none kV10 dc10 pm10 an10 cd10 ct10), sl10⟩)
    (c10 : PySem.W.codeIn K cd10 "law" = true)
    (k10 : PySem.W.keepIn K (.ref f10) = true)
    (z_bool : PySem.W.nsIn K mainGlobals "bool" = some none)
    (z_int : PySem.W.nsIn K mainGlobals "int" = some none)
    (z_isinstance : PySem.W.nsIn K mainGlobals "isinstance" = some none)
    (z_len : PySem.W.nsIn K mainGlobals "len" = some none)
    (z_max : PySem.W.nsIn K mainGlobals "max" = some none)
    (z_range : PySem.W.nsIn K mainGlobals "range" = some none)
    (z_repr : PySem.W.nsIn K mainGlobals "repr" = some none)
    (z_tuple : PySem.W.nsIn K mainGlobals "tuple" = some none)
    {odI anI : Option Addr} {slI : Array (Option Value)} {ocI kVI dcI pmI cdI ctI : Value} {fI : Addr}
    (lI : K.lookup fI = some ⟨ocI, odI, .func (PySem.W.fnOf "__init__" "PostError.__init__" (defArgs s_init) (defBody s_init) (defScope s_init) .none kVI dcI pmI anI cdI ctI), slI⟩)
    (cI : PySem.W.codeIn K cdI "PostError.__init__" = true)
    (kI : PySem.W.keepIn K (.ref fI) = true)
    (tI : PySem.W.typeIn K (.ref fI) = some (.type "function"))
    (hnC : PySem.W.specialIn K (.builtin "object.__class__") "__get__" = some (some (.builtin "getset_descriptor.__get__")))
    (htC : PySem.W.takesIn K (.builtin "object.__class__") = some true)
    {cPostError : Addr}
    (aCPostError : PySem.W.nsIn K mainGlobals "PostError" = some (some (.ref cPostError)))
    (eCPostError : PySem.W.subIn K (.ref cPostError) (.type "BaseException") = some true)
    (tCPostError : PySem.W.typeIn K (.ref cPostError) = some (.type "type"))
    (hCPostError : PySem.W.hasDictIn K cPostError = true)
    {cInvalidNumber : Addr}
    (aCInvalidNumber : PySem.W.nsIn K mainGlobals "InvalidNumber" = some (some (.ref cInvalidNumber)))
    (eCInvalidNumber : PySem.W.subIn K (.ref cInvalidNumber) (.type "BaseException") = some true)
    (tCInvalidNumber : PySem.W.typeIn K (.ref cInvalidNumber) = some (.type "type"))
    (hCInvalidNumber : PySem.W.hasDictIn K cInvalidNumber = true)
    {nmInvalidNumber qInvalidNumber : Str} {NInvalidNumber : Addr} {bsInvalidNumber : List Value} {snInvalidNumber : List Str} {subInvalidNumber : List Value} {abInvalidNumber : Bool} {colInvalidNumber : Option Bool} {ddInvalidNumber : Option Addr} {m0InvalidNumber m1InvalidNumber m2InvalidNumber m3InvalidNumber m5InvalidNumber : Option Value}
    (xLInvalidNumber : K.lookup cInvalidNumber = some (excClassObj nmInvalidNumber qInvalidNumber cInvalidNumber NInvalidNumber bsInvalidNumber [.ref cPostError, .type "ValueError", .type "Exception", .type "BaseException", .type "object"] true snInvalidNumber subInvalidNumber abInvalidNumber colInvalidNumber ddInvalidNumber m0InvalidNumber m1InvalidNumber m2InvalidNumber m3InvalidNumber m5InvalidNumber "ValueError.__new__"))
    (saInvalidNumber : PySem.W.findIn K (.ref cInvalidNumber) "__setattr__" = some (some (.builtin "object.__setattr__")))
    (gaInvalidNumber : PySem.W.findIn K (.ref cInvalidNumber) "__getattribute__" = some (some (.builtin "BaseException.__getattribute__")))
    (ggInvalidNumber : PySem.W.findIn K (.ref cInvalidNumber) "__getattr__" = some none)
    (nvInvalidNumber : PySem.W.findIn K (.ref cInvalidNumber) "value" = some none)
    (iCInvalidNumber : PySem.W.findIn K (.ref cInvalidNumber) "__init__" = some (some (.ref fI)))
    (kCInvalidNumber : PySem.W.keepIn K (.ref cInvalidNumber) = true)
    (acInvalidNumber : PySem.W.findIn K (.ref cInvalidNumber) "__class__" = some (some (.builtin "object.__class__")))
    (omInvalidNumber : PySem.W.mroIn K cInvalidNumber (.type "object") = some true)
    (spInvalidNumber : PySem.W.subIn K (.ref cInvalidNumber) (.ref cPostError) = some true)
    {cInvalidSize : Addr}
    (aCInvalidSize : PySem.W.nsIn K mainGlobals "InvalidSize" = some (some (.ref cInvalidSize)))
    {cInvalidPlace : Addr}
    (aCInvalidPlace : PySem.W.nsIn K mainGlobals "InvalidPlace" = some (some (.ref cInvalidPlace)))
    {cDoublePlace : Addr}
    (aCDoublePlace : PySem.W.nsIn K mainGlobals "DoublePlace" = some (some (.ref cDoublePlace)))
    {cInvalidMatrix : Addr}
    (aCInvalidMatrix : PySem.W.nsIn K mainGlobals "InvalidMatrix" = some (some (.ref cInvalidMatrix)))
    {cConflict : Addr}
    (aCConflict : PySem.W.nsIn K mainGlobals "Conflict" = some (some (.ref cConflict)))
    {cInvalidWord : Addr}
    (aCInvalidWord : PySem.W.nsIn K mainGlobals "InvalidWord" = some (some (.ref cInvalidWord)))
    {cUnreadable : Addr}
    (aCUnreadable : PySem.W.nsIn K mainGlobals "Unreadable" = some (some (.ref cUnreadable)))
    (isCInvalidSize : PySem.W.isClsIn K cInvalidSize = true)
    (tyInvalidSize : PySem.W.typeIn K (.ref cInvalidSize) = some (.type "type"))
    (nektInvalidNumberInvalidSize : (Value.ref cInvalidNumber == Value.ref cInvalidSize) = false)
    (suktInvalidNumberInvalidSize : PySem.W.subIn K (.ref cInvalidNumber) (.ref cInvalidSize) = some false)
    (isCInvalidPlace : PySem.W.isClsIn K cInvalidPlace = true)
    (tyInvalidPlace : PySem.W.typeIn K (.ref cInvalidPlace) = some (.type "type"))
    (nektInvalidNumberInvalidPlace : (Value.ref cInvalidNumber == Value.ref cInvalidPlace) = false)
    (suktInvalidNumberInvalidPlace : PySem.W.subIn K (.ref cInvalidNumber) (.ref cInvalidPlace) = some false)
    (isCDoublePlace : PySem.W.isClsIn K cDoublePlace = true)
    (tyDoublePlace : PySem.W.typeIn K (.ref cDoublePlace) = some (.type "type"))
    (nektInvalidNumberDoublePlace : (Value.ref cInvalidNumber == Value.ref cDoublePlace) = false)
    (suktInvalidNumberDoublePlace : PySem.W.subIn K (.ref cInvalidNumber) (.ref cDoublePlace) = some false)
    (isCInvalidMatrix : PySem.W.isClsIn K cInvalidMatrix = true)
    (tyInvalidMatrix : PySem.W.typeIn K (.ref cInvalidMatrix) = some (.type "type"))
    (nektInvalidNumberInvalidMatrix : (Value.ref cInvalidNumber == Value.ref cInvalidMatrix) = false)
    (suktInvalidNumberInvalidMatrix : PySem.W.subIn K (.ref cInvalidNumber) (.ref cInvalidMatrix) = some false)
    (isCConflict : PySem.W.isClsIn K cConflict = true)
    (tyConflict : PySem.W.typeIn K (.ref cConflict) = some (.type "type"))
    (nektInvalidNumberConflict : (Value.ref cInvalidNumber == Value.ref cConflict) = false)
    (suktInvalidNumberConflict : PySem.W.subIn K (.ref cInvalidNumber) (.ref cConflict) = some false)
    (isCInvalidWord : PySem.W.isClsIn K cInvalidWord = true)
    (tyInvalidWord : PySem.W.typeIn K (.ref cInvalidWord) = some (.type "type"))
    (nektInvalidNumberInvalidWord : (Value.ref cInvalidNumber == Value.ref cInvalidWord) = false)
    (suktInvalidNumberInvalidWord : PySem.W.subIn K (.ref cInvalidNumber) (.ref cInvalidWord) = some false)
    (isCUnreadable : PySem.W.isClsIn K cUnreadable = true)
    (tyUnreadable : PySem.W.typeIn K (.ref cUnreadable) = some (.type "type"))
    (nektInvalidNumberUnreadable : (Value.ref cInvalidNumber == Value.ref cUnreadable) = false)
    (suktInvalidNumberUnreadable : PySem.W.subIn K (.ref cInvalidNumber) (.ref cUnreadable) = some false)
    : ∃ fd : FuncData, (∀ (s : Shared) (v : Value), BindsTo s fd ⟨[v], []⟩ [("_law_script", v)]) ∧ ∀ base : Heap, K.In base → base.Ns mainGlobals mg → FnOk l.prog w K mg base CX0 7 fa fd ["_law_script"] (spLaw K) := by
  have e := hfa.symm.trans (PySem.W.mg_of X G a10)
  cases e
  have F0 := fun_mk (st := s_remainders) l0 c0 k0
  have b0 := F0.binds (ps := ["place", "divisor"]) fun _ _ _ _ _ _ us hl => match us, hl with | [_, _], _ => rfl
  have F1 := fun_mk (st := s_law_spring) l1 c1 k1
  have b1 := F1.binds (ps := ["_law_cell", "_law_k"]) fun _ _ _ _ _ _ us hl => match us, hl with | [_, _], _ => rfl
  have F2 := fun_mk (st := s_law_sip) l2 c2 k2
  have b2 := F2.binds (ps := ["_law_spring_here", "_law_many"]) fun _ _ _ _ _ _ us hl => match us, hl with | [_, _], _ => rfl
  have F3 := fun_mk (st := s_law_far) l3 c3 k3
  have b3 := F3.binds (ps := ["_law_spring_here", "_law_wide"]) fun _ _ _ _ _ _ us hl => match us, hl with | [_, _], _ => rfl
  have F4 := fun_mk (st := s_law_whole) l4 c4 k4
  have b4 := F4.binds (ps := ["_law_found"]) fun _ _ _ _ _ _ us hl => match us, hl with | [_], _ => rfl
  have F5 := fun_mk (st := s_law_is_spot) l5 c5 k5
  have b5 := F5.binds (ps := ["_law_found", "_law_due"]) fun _ _ _ _ _ _ us hl => match us, hl with | [_, _], _ => rfl
  have F6 := fun_mk (st := s_law_is_error) l6 c6 k6
  have b6 := F6.binds (ps := ["_law_caught", "_law_kind", "_law_due"]) fun _ _ _ _ _ _ us hl => match us, hl with | [_, _, _], _ => rfl
  have F7 := fun_mk (st := s_law_leaves) l7 c7 k7
  have b7 := F7.binds (ps := ["_law_found", "_law_spot", "_law_by"]) fun _ _ _ _ _ _ us hl => match us, hl with | [_, _, _], _ => rfl
  have F8 := fun_mk (st := s_law_error) l8 c8 k8
  have b8 := F8.binds (ps := ["_law_spot", "_law_by"]) fun _ _ _ _ _ _ us hl => match us, hl with | [_, _], _ => rfl
  have F9 := fun_mk (st := s_law_right) l9 c9 k9
  have b9 := F9.binds (ps := ["_law_spring_here"]) fun _ _ _ _ _ _ us hl => match us, hl with | [_], _ => rfl
  have F10 := fun_mk (st := s_law) l10 c10 k10
  have b10 := F10.binds (ps := ["_law_script"]) fun _ _ _ _ _ _ us hl => match us, hl with | [_], _ => rfl
  have FI := fun_mk (st := s_init) lI cI kI
  have bI := FI.binds (ps := ["self", "value"]) fun _ _ _ _ _ _ us hl => match us, hl with | [_, _], _ => rfl
  have kb_remainders : KBinds K (PySem.W.fnOf "remainders" "remainders" (defArgs s_remainders) (defBody s_remainders) (defScope s_remainders) .none kV0 dc0 pm0 an0 cd0 ct0) ["place", "divisor"] ["place", "divisor"] kwG kwG := ⟨fun _ us ws _ hl => match us, ws, hl with | [], [_, _], _ => .of_eq rfl, fun h k => kwG_rel h k⟩
  let A : Ad := { a_remainders := f0, f_remainders := PySem.W.fnOf "remainders" "remainders" (defArgs s_remainders) (defBody s_remainders) (defScope s_remainders) .none kV0 dc0 pm0 an0 cd0 ct0, a_law_spring := f1, f_law_spring := PySem.W.fnOf "_law_spring" "_law_spring" (defArgs s_law_spring) (defBody s_law_spring) (defScope s_law_spring) .none kV1 dc1 pm1 an1 cd1 ct1, a_law_sip := f2, f_law_sip := PySem.W.fnOf "_law_sip" "_law_sip" (defArgs s_law_sip) (defBody s_law_sip) (defScope s_law_sip) .none kV2 dc2 pm2 an2 cd2 ct2, a_law_far := f3, f_law_far := PySem.W.fnOf "_law_far" "_law_far" (defArgs s_law_far) (defBody s_law_far) (defScope s_law_far) .none kV3 dc3 pm3 an3 cd3 ct3, a_law_whole := f4, f_law_whole := PySem.W.fnOf "_law_whole" "_law_whole" (defArgs s_law_whole) (defBody s_law_whole) (defScope s_law_whole) .none kV4 dc4 pm4 an4 cd4 ct4, a_law_is_spot := f5, f_law_is_spot := PySem.W.fnOf "_law_is_spot" "_law_is_spot" (defArgs s_law_is_spot) (defBody s_law_is_spot) (defScope s_law_is_spot) .none kV5 dc5 pm5 an5 cd5 ct5, a_law_is_error := f6, f_law_is_error := PySem.W.fnOf "_law_is_error" "_law_is_error" (defArgs s_law_is_error) (defBody s_law_is_error) (defScope s_law_is_error) .none kV6 dc6 pm6 an6 cd6 ct6, a_law_leaves := f7, f_law_leaves := PySem.W.fnOf "_law_leaves" "_law_leaves" (defArgs s_law_leaves) (defBody s_law_leaves) (defScope s_law_leaves) .none kV7 dc7 pm7 an7 cd7 ct7, a_law_error := f8, f_law_error := PySem.W.fnOf "_law_error" "_law_error" (defArgs s_law_error) (defBody s_law_error) (defScope s_law_error) .none kV8 dc8 pm8 an8 cd8 ct8, a_law_right := f9, f_law_right := PySem.W.fnOf "_law_right" "_law_right" (defArgs s_law_right) (defBody s_law_right) (defScope s_law_right) .none kV9 dc9 pm9 an9 cd9 ct9, a_law := fa, f_law := PySem.W.fnOf "law" "law" (defArgs s_law) (defBody s_law) (defScope s_law) .none kV10 dc10 pm10 an10 cd10 ct10, a_init := fI, a_initF := PySem.W.fnOf "__init__" "PostError.__init__" (defArgs s_init) (defBody s_init) (defScope s_init) .none kVI dcI pmI anI cdI ctI, a_cPostError := cPostError, a_cInvalidNumber := cInvalidNumber, a_cInvalidSize := cInvalidSize, a_cInvalidPlace := cInvalidPlace, a_cDoublePlace := cDoublePlace, a_cInvalidMatrix := cInvalidMatrix, a_cConflict := cConflict, a_cInvalidWord := cInvalidWord, a_cUnreadable := cUnreadable }
  have T : Txt K mg A := {
    g_remainders := PySem.W.mg_of X G a0, k_remainders := k0, F_remainders := F0, b_remainders := b0,
    g_law_spring := PySem.W.mg_of X G a1, k_law_spring := k1, F_law_spring := F1, b_law_spring := b1,
    g_law_sip := PySem.W.mg_of X G a2, k_law_sip := k2, F_law_sip := F2, b_law_sip := b2,
    g_law_far := PySem.W.mg_of X G a3, k_law_far := k3, F_law_far := F3, b_law_far := b3,
    g_law_whole := PySem.W.mg_of X G a4, k_law_whole := k4, F_law_whole := F4, b_law_whole := b4,
    g_law_is_spot := PySem.W.mg_of X G a5, k_law_is_spot := k5, F_law_is_spot := F5, b_law_is_spot := b5,
    g_law_is_error := PySem.W.mg_of X G a6, k_law_is_error := k6, F_law_is_error := F6, b_law_is_error := b6,
    g_law_leaves := PySem.W.mg_of X G a7, k_law_leaves := k7, F_law_leaves := F7, b_law_leaves := b7,
    g_law_error := PySem.W.mg_of X G a8, k_law_error := k8, F_law_error := F8, b_law_error := b8,
    g_law_right := PySem.W.mg_of X G a9, k_law_right := k9, F_law_right := F9, b_law_right := b9,
    g_law := PySem.W.mg_of X G a10, k_law := k10, F_law := F10, b_law := b10,
    kb_remainders := kb_remainders,
    n_bool := PySem.W.mg_none_of X G z_bool,
    n_int := PySem.W.mg_none_of X G z_int,
    n_isinstance := PySem.W.mg_none_of X G z_isinstance,
    n_len := PySem.W.mg_none_of X G z_len,
    n_max := PySem.W.mg_none_of X G z_max,
    n_range := PySem.W.mg_none_of X G z_range,
    n_repr := PySem.W.mg_none_of X G z_repr,
    n_tuple := PySem.W.mg_none_of X G z_tuple,
    F_init := FI,
    b_init := bI,
    t_init := tI,
    g_PostError := PySem.W.mg_of X G aCPostError,
    g_InvalidNumber := PySem.W.mg_of X G aCInvalidNumber,
    o_InvalidNumber := ⟨⟨_, _, _, _, _, _, _, _, _, _, _, _, _, _, _, xLInvalidNumber, by rfl⟩, saInvalidNumber, eCInvalidNumber, tCInvalidNumber, kCInvalidNumber⟩,
    i_InvalidNumber := iCInvalidNumber,
    v_InvalidNumber := nvInvalidNumber,
    x_InvalidNumber := ⟨gaInvalidNumber, ggInvalidNumber, eCInvalidNumber, hCInvalidNumber⟩,
    e_InvalidNumber := ⟨gaInvalidNumber, ggInvalidNumber, eCInvalidNumber, hCInvalidNumber, acInvalidNumber, hnC, htC, omInvalidNumber⟩,
    m_InvalidNumber := PySem.W.exm_ref eCPostError hCPostError tCPostError spInvalidNumber,
    g_InvalidSize := PySem.W.mg_of X G aCInvalidSize,
    g_InvalidPlace := PySem.W.mg_of X G aCInvalidPlace,
    g_DoublePlace := PySem.W.mg_of X G aCDoublePlace,
    g_InvalidMatrix := PySem.W.mg_of X G aCInvalidMatrix,
    g_Conflict := PySem.W.mg_of X G aCConflict,
    g_InvalidWord := PySem.W.mg_of X G aCInvalidWord,
    g_Unreadable := PySem.W.mg_of X G aCUnreadable,
    ktInvalidNumberInvalidSize := kit_ne nektInvalidNumberInvalidSize isCInvalidSize tyInvalidSize suktInvalidNumberInvalidSize,
    ktInvalidNumberInvalidPlace := kit_ne nektInvalidNumberInvalidPlace isCInvalidPlace tyInvalidPlace suktInvalidNumberInvalidPlace,
    ktInvalidNumberDoublePlace := kit_ne nektInvalidNumberDoublePlace isCDoublePlace tyDoublePlace suktInvalidNumberDoublePlace,
    ktInvalidNumberInvalidMatrix := kit_ne nektInvalidNumberInvalidMatrix isCInvalidMatrix tyInvalidMatrix suktInvalidNumberInvalidMatrix,
    ktInvalidNumberInvalidNumber := kit_same,
    ktInvalidNumberConflict := kit_ne nektInvalidNumberConflict isCConflict tyConflict suktInvalidNumberConflict,
    ktInvalidNumberInvalidWord := kit_ne nektInvalidNumberInvalidWord isCInvalidWord tyInvalidWord suktInvalidNumberInvalidWord,
    ktInvalidNumberUnreadable := kit_ne nektInvalidNumberUnreadable isCUnreadable tyUnreadable suktInvalidNumberUnreadable }
  exact ⟨A.f_law, fun s v => .of_eq rfl, fun base _ _ => ok_law T⟩
theorem walk {l : PySem.W.OpenLaw} {q : Program} {loose : List Str} {XP : (Str → Option Value) → Heap → Prop} {YP : World → Heap → Prop} {d : DefRec} {K : Params → PySem.W.Frag} (hn : l.most = some 63) (hdf : d.params.defaults = [])
    (hY : ∀ (w : World) (h : Heap), YP w h → (K w.params).In h)
    (F : ∀ (w : World) (mg : Str → Option Value) (fa : Addr) (h : Heap), (K w.params).In h → h.Ns mainGlobals mg → mg d.name = some (.ref fa) →
      ∃ fd : FuncData, (∀ (s : Shared) (u : Value), BindsTo s fd ⟨[u], []⟩ [("_law_script", u)]) ∧ ∀ base : Heap, (K w.params).In base → base.Ns mainGlobals mg → FnOk l.prog w (K w.params) mg base CX0 7 fa fd ["_law_script"] (spLaw (K w.params))) :
    PySem.W.WalkO q loose XP YP l.row.toRowW d [] (fun f vs => PySem.call f vs) :=
  L2.walk_ofB (n := 63) (k := 7) (x := "_law_script") (CX := fun _ => CX0) (sp := fun w => spLaw (K w.params)) hn (by decide) hdf ⟨rfl, by decide, by decide⟩ hY F (fun _ _ a ns hl hb _ hS => ⟨a, ns, rfl, hS, hl, hb, fun _ => rfl⟩) fun _ _ _ _ _ z => z
end K03
open PySem PySem.W PyProof.Rows
set_option maxRecDepth 100000 in
set_option maxHeartbeats 0 in
theorem PySem.Challenge.cw_seenposts_k03_remainders_of_places_holds : PySem.Challenge.rw_seenposts_k03_remainders_of_places.Holds := by
  w_on; o_law; k_head; (case hw => w_witness2)
  k_fill
  refine K03.walk (l := PySem.Challenge.rw_seenposts_k03_remainders_of_places) rfl rfl (fun w h Y => PySem.W.kIn_of Y) ?F
  case F =>
    intro w mg fa h KX G hmg
    refine' K03.all_mk KX G hmg ?a0 ?l0 ?c0 ?k0 ?a1 ?l1 ?c1 ?k1 ?a2 ?l2 ?c2 ?k2 ?a3 ?l3 ?c3 ?k3 ?a4 ?l4 ?c4 ?k4 ?a5 ?l5 ?c5 ?k5 ?a6 ?l6 ?c6 ?k6 ?a7 ?l7 ?c7 ?k7 ?a8 ?l8 ?c8 ?k8 ?a9 ?l9 ?c9 ?k9 ?a10 ?l10 ?c10 ?k10 ?z_bool ?z_int ?z_isinstance ?z_len ?z_max ?z_range ?z_repr ?z_tuple ?lI ?cI ?kI ?tI ?hnC ?htC ?aCPostError ?eCPostError ?tCPostError ?hCPostError ?aCInvalidNumber ?eCInvalidNumber ?tCInvalidNumber ?hCInvalidNumber ?xLInvalidNumber ?saInvalidNumber ?gaInvalidNumber ?ggInvalidNumber ?nvInvalidNumber ?iCInvalidNumber ?kCInvalidNumber ?acInvalidNumber ?omInvalidNumber ?spInvalidNumber ?aCInvalidSize ?aCInvalidPlace ?aCDoublePlace ?aCInvalidMatrix ?aCConflict ?aCInvalidWord ?aCUnreadable ?isCInvalidSize ?tyInvalidSize ?nektInvalidNumberInvalidSize ?suktInvalidNumberInvalidSize ?isCInvalidPlace ?tyInvalidPlace ?nektInvalidNumberInvalidPlace ?suktInvalidNumberInvalidPlace ?isCDoublePlace ?tyDoublePlace ?nektInvalidNumberDoublePlace ?suktInvalidNumberDoublePlace ?isCInvalidMatrix ?tyInvalidMatrix ?nektInvalidNumberInvalidMatrix ?suktInvalidNumberInvalidMatrix ?isCConflict ?tyConflict ?nektInvalidNumberConflict ?suktInvalidNumberConflict ?isCInvalidWord ?tyInvalidWord ?nektInvalidNumberInvalidWord ?suktInvalidNumberInvalidWord ?isCUnreadable ?tyUnreadable ?nektInvalidNumberUnreadable ?suktInvalidNumberUnreadable
    (case a0 => k_is)
    (case l0 => k_is)
    (case c0 => k_is)
    (case k0 => k_is)
    (case a1 => k_is)
    (case l1 => k_is)
    (case c1 => k_is)
    (case k1 => k_is)
    (case a2 => k_is)
    (case l2 => k_is)
    (case c2 => k_is)
    (case k2 => k_is)
    (case a3 => k_is)
    (case l3 => k_is)
    (case c3 => k_is)
    (case k3 => k_is)
    (case a4 => k_is)
    (case l4 => k_is)
    (case c4 => k_is)
    (case k4 => k_is)
    (case a5 => k_is)
    (case l5 => k_is)
    (case c5 => k_is)
    (case k5 => k_is)
    (case a6 => k_is)
    (case l6 => k_is)
    (case c6 => k_is)
    (case k6 => k_is)
    (case a7 => k_is)
    (case l7 => k_is)
    (case c7 => k_is)
    (case k7 => k_is)
    (case a8 => k_is)
    (case l8 => k_is)
    (case c8 => k_is)
    (case k8 => k_is)
    (case a9 => k_is)
    (case l9 => k_is)
    (case c9 => k_is)
    (case k9 => k_is)
    (case a10 => k_is)
    (case l10 => k_is)
    (case c10 => k_is)
    (case k10 => k_is)
    (case z_bool => k_is)
    (case z_int => k_is)
    (case z_isinstance => k_is)
    (case z_len => k_is)
    (case z_max => k_is)
    (case z_range => k_is)
    (case z_repr => k_is)
    (case z_tuple => k_is)
    (case aCPostError => k_is)
    (case eCPostError => k_is)
    (case tCPostError => k_is)
    (case hCPostError => k_is)
    (case aCInvalidNumber => k_is)
    (case eCInvalidNumber => k_is)
    (case tCInvalidNumber => k_is)
    (case hCInvalidNumber => k_is)
    (case xLInvalidNumber => k_is)
    (case saInvalidNumber => k_is)
    (case gaInvalidNumber => k_is)
    (case ggInvalidNumber => k_is)
    (case nvInvalidNumber => k_is)
    (case iCInvalidNumber => k_is)
    (case kCInvalidNumber => k_is)
    (case acInvalidNumber => k_is)
    (case omInvalidNumber => k_is)
    (case spInvalidNumber => k_is)
    (case aCInvalidSize => k_is)
    (case aCInvalidPlace => k_is)
    (case aCDoublePlace => k_is)
    (case aCInvalidMatrix => k_is)
    (case aCConflict => k_is)
    (case aCInvalidWord => k_is)
    (case aCUnreadable => k_is)
    (case lI => k_is)
    (case cI => k_is)
    (case kI => k_is)
    (case tI => k_is)
    (case hnC => k_is)
    (case htC => k_is)
    (case isCInvalidSize => k_is)
    (case tyInvalidSize => k_is)
    (case nektInvalidNumberInvalidSize => first | rfl | decide +kernel)
    (case suktInvalidNumberInvalidSize => k_is)
    (case isCInvalidPlace => k_is)
    (case tyInvalidPlace => k_is)
    (case nektInvalidNumberInvalidPlace => first | rfl | decide +kernel)
    (case suktInvalidNumberInvalidPlace => k_is)
    (case isCDoublePlace => k_is)
    (case tyDoublePlace => k_is)
    (case nektInvalidNumberDoublePlace => first | rfl | decide +kernel)
    (case suktInvalidNumberDoublePlace => k_is)
    (case isCInvalidMatrix => k_is)
    (case tyInvalidMatrix => k_is)
    (case nektInvalidNumberInvalidMatrix => first | rfl | decide +kernel)
    (case suktInvalidNumberInvalidMatrix => k_is)
    (case isCConflict => k_is)
    (case tyConflict => k_is)
    (case nektInvalidNumberConflict => first | rfl | decide +kernel)
    (case suktInvalidNumberConflict => k_is)
    (case isCInvalidWord => k_is)
    (case tyInvalidWord => k_is)
    (case nektInvalidNumberInvalidWord => first | rfl | decide +kernel)
    (case suktInvalidNumberInvalidWord => k_is)
    (case isCUnreadable => k_is)
    (case tyUnreadable => k_is)
    (case nektInvalidNumberUnreadable => first | rfl | decide +kernel)
    (case suktInvalidNumberUnreadable => k_is)
#print axioms PySem.Challenge.cw_seenposts_k03_remainders_of_places_holds

