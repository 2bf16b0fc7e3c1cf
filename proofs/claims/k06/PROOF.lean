import PyProof.Rows.All
import Wide.All
import OpenK.AllK
import Wide.FinOn
import HandS.Base
import HandS.Call
import HandS.List
import HandS.Comp
import HandS.Ends
import KE.KRevSl
import HandS.ForMost
import HandS.EndBits
import HandS.IsInst
import HandS.Wide
import HandS.Gcd
import HandS.Style
import HandS.TupAny
import HandS.Evl
import KE.KIsAll
import KE.KTryMore
import HandS.ForExc
import HandS.ExcValue
import HandS.ExcInit
import HandS.ExcIs
import HandS.ExcField
import HandS.RaiseMore
import KE.SortData
import HandS.Small
import HandS.OwnEq
import HandS.Property
import HandS.MakeKwOnly
import HandS.TupLen
import HandS.Dict
import HandS.More
import PySem.Challenge.RW_seenposts_k06_pictures_made
set_option Elab.async false
set_option linter.all false
set_option maxRecDepth 100000
set_option maxHeartbeats 4000000
/-! rules of our own -/
namespace HT
open PySem PySem.W PySem.Calls PyProof.Rows
section
variable {prog : Program} {w : World} {A : Around} {E : Value → Shared → Prop} {s : Shared}
theorem adjust_rev (n : Nat) : Builtin.Slice.sliceAdjust none none (-1) (n : Int) = ((n : Int) - 1, -1) := by
  unfold Builtin.Slice.sliceAdjust
  rfl
theorem places_rev (n : Nat) : Builtin.Slice.slicePlaces ((n : Int) - 1) (-1) (-1) = n := by
  unfold Builtin.Slice.slicePlaces
  have h1 : ¬ ((-1 : Int) > 0) := by decide
  have e1 : (- -1 : Int) = 1 := by decide
  simp only [h1, if_false, e1, Int.ediv_one]
  split <;> omega
theorem sliceApplied_rev {sl : Addr} {vs : Value} {n : Nat} {Q : Int × Int × Nat → Shared → Prop} (hs : s.heap.IsSliceOf sl .none .none vs) (ps : IsPart vs (some (-1)))
    (h : Q ((n : Int) - 1, -1, n) s) : wpAny (model prog w) A (Builtin.Slice.sliceApplied (.ref sl) (pure (n : Int))) Q E s := by
  obtain ⟨os, hos, hcs, hds⟩ := id hs
  unfold Builtin.Slice.sliceApplied Builtin.Slice.sliceFields
  refine wpAny_bind (wpAny_bind (wpAny_field hos hds (x := .none) rfl (wpAny_bind (wpAny_field hos hds (x := .none) rfl (wpAny_bind (wpAny_field hos hds (x := vs) rfl (wpAny_pure ?_)))))))
  refine wpAny_bind (slicePart_ ps ?_)
  show wpAny _ _ (if ((-1 : Int) == 0) = true then _ else _) _ _ s
  rw [if_neg (by decide)]
  refine wpAny_bind (slicePart_none (wpAny_bind (slicePart_none (wpAny_bind (wpAny_pure ?_)))))
  show wpAny _ _ (match Builtin.Slice.sliceAdjust none none (-1) (n : Int) with | (lo, hi) => pure (lo, (-1 : Int), Builtin.Slice.slicePlaces lo hi (-1))) _ _ s
  rw [adjust_rev n]
  show wpAny _ _ (pure ((n : Int) - 1, (-1 : Int), Builtin.Slice.slicePlaces ((n : Int) - 1) (-1) (-1))) _ _ s
  rw [places_rev]
  exact wpAny_pure h
theorem fm_congr {α β : Type} {f g : α → Option β} : ∀ (l : List α), (∀ a ∈ l, f a = g a) → l.filterMap f = l.filterMap g
  | [], _ => rfl
  | a :: r, h => by
    rw [List.filterMap_cons, List.filterMap_cons, h a List.mem_cons_self, fm_congr r fun b hb => h b (List.mem_cons_of_mem _ hb)]
theorem pick_rev (xs : Array Value) : ((List.range xs.size).filterMap fun (m : Nat) => xs[((xs.size : Int) - 1 + (m : Int) * (-1)).toNat]?).toArray = xs.toList.reverse.toArray := by
  rw [← krv_pick xs]
  unfold slicePick
  rw [krv_bounds]
  show _ = ((sliceRange ((xs.size : Int) - 1) (-1) (-1)).filterMap (xs[·]?)).toArray
  rw [krv_sliceRange, List.filterMap_map]
  refine congrArg List.toArray (fm_congr _ fun m hm => ?_)
  have := List.mem_range.mp hm
  show xs[((xs.size : Int) - 1 + (m : Int) * (-1)).toNat]? = xs[xs.size - 1 - m]?
  have e : ((xs.size : Int) - 1 + (m : Int) * (-1)).toNat = xs.size - 1 - m := by omega
  rw [e]
theorem getItem_tuple_rev {t sl : Addr} {items : Array Value} {vs : Value} {Q : Value → Shared → Prop} (ht : IsTup s.heap t items) (hs : s.heap.IsSliceOf sl .none .none vs) (ps : IsPart vs (some (-1)))
    (h : Q (.ref s.heap.objs.size) { s with heap := s.heap.push { cls := .type "tuple", data := .seq items.toList.reverse.toArray } })
    (hsz : items.size ≤ sizeLine) : wpAny (model prog w) A (getItem (.ref t) (.ref sl)) Q E s := by
  have htake : sizeOk (.seq items.toList.reverse.toArray) := by
    show items.toList.reverse.toArray.size ≤ sizeLine
    rw [List.size_toArray, List.length_reverse, Array.length_toList]
    exact hsz
  obtain ⟨os, hos, hcs, hds⟩ := id hs
  have hTs : s.TypeIs (.ref sl) "slice" := ⟨os, hos, hcs⟩
  unfold getItem
  try with_reducible refine wpAny_holding ?_
  first | refine wpAny_bind (wpAny_pure ?_) | skip
  refine wpAny_bind (wpAny_sequenceKey ht.typeIs (by decide) ?_)
  refine wpAny_bind (wpAny_callSpecial?_slot (name := Str.ofString "__getitem__") ht.typeIs PyProof.Rows.slot_tuple_getitem
    (wpAny_call_entry PyProof.Rows.slot_tuple_getitem ht.typeIs entry_tuple_getitem ?_ (args_tuple_getitem _ _)))
  show wpAny _ _ (Builtin.Tuple.tupleItemsOf (.ref t) >>= _) _ _ s
  refine wpAny_bind (tupleItemsOf_ ht ?_)
  refine wpAny_bind (wpAny_typeOf hTs ?_)
  rw [if_pos (by decide)]
  refine wpAny_bind (sliceApplied_rev hs ps ?_)
  have hno : ¬ ((((items.size : Int) - 1) == 0 && (-1 : Int) == 1 && items.size == items.size) = true) := by
    intro q
    rw [Bool.and_eq_true, Bool.and_eq_true] at q
    exact absurd q.1.2 (by decide)
  show wpAny _ _ (if (((items.size : Int) - 1) == 0 && (-1 : Int) == 1 && items.size == items.size) = true then _ else _) _ _ s
  rw [if_neg hno, pick_rev]
  first
    | exact wpAny_bind (m := Builtin.Tuple.tupleExact _) (wpAny_newObj_type (wpAny_pure ⟨_, rfl, wpAny_pure h⟩) htake)
    | exact wpAny_bind (m := Builtin.Tuple.tupleExact _) (wpAny_newObj_type (wpAny_bind (wpAny_pure (wpAny_pure ⟨_, rfl, wpAny_pure h⟩))) htake)
    | exact wpAny_bind (wpAny_bind (m := Builtin.Tuple.tupleExact _) (wpAny_newObj_type (wpAny_pure (wpAny_pure ⟨_, rfl, wpAny_pure h⟩)) htake))
    | exact wpAny_bind (wpAny_bind (m := Builtin.Tuple.tupleExact _) (wpAny_newObj_type (wpAny_pure ⟨_, rfl, wpAny_pure h⟩) htake))
end
end HT
namespace L2
open PySem PySem.Spec PyProof.Rows
section
variable {X : Cx}
/-- t[::-1] of a tuple -/
def tRevT (K : PySem.W.Frag) (te : TE) : TE := fun σ H Q => te σ H fun x H1 => ∃ a xs, x = .ref a ∧ SqT K H1 a xs ∧ ∀ p, H1 p = none → Q (.ref p) (upd H1 p (.tup xs.reverse))
theorem pe_revT {e : Expr} {te : TE} {k : Nat} {p1 p2 p3 pos : Pos} (he : PE X e te) : PE X (.Subscript e (.Slice none none (some (.UnaryOp .USub (.Constant (.int 1) k p1) p2)) p3) pos) (tRevT X.K te) := by
  refine ⟨fun pins s σ H Q I h => ?_⟩
  refine Subscript_ (thn (he.run pins s σ H _ I h) fun v s1 ⟨x, H1, I1, r1, q1⟩ => ?_)
  obtain ⟨a, xs, ex, hx, q⟩ := q1
  subst ex
  cases r1
  have hst : PO X (some (.UnaryOp .USub (.Constant (.int 1) k p1) p2)) (tPart (tUn (rU fun i => .int (-i)) (tC (.int 1)))) := po_some (pe_un un_neg pe_int)
  refine wpAny_Slice (thn (po_none.run pins s1 σ H1 (fun o H2 => o = none ∧ H2 = H1) I1 ⟨rfl, rfl⟩) fun vl s2 ⟨l, H2, I2, pl, el, e2⟩ => ?_)
  subst el e2
  refine thn (po_none.run pins s2 σ H2 (fun o H3 => o = none ∧ H3 = H2) I2 ⟨rfl, rfl⟩) fun vu s3 ⟨u, H3, I3, pu, eu, e3⟩ => ?_
  subst eu e3
  refine thn (hst.run pins s3 σ H3 (fun o H4 => o = some (-1) ∧ H4 = H3) I3 ⟨1, rfl, -1, rfl, rfl, rfl⟩) fun vs s4 ⟨o, H4, I4, ps, eo, e4⟩ => ?_
  subst eo e4
  have I5 : Inv X pins σ H4 { s4 with heap := s4.heap.push { cls := .type "slice", data := .fields #[vl, vu, vs] } } := I4.kept (t' := s4.toks) fun b ob q => Heap.get?_push_of_some _ q
  obtain ⟨its, r, ht, hz⟩ := I5.tuple hx
  have hlen := r.length
  show wpAny (model X.prog X.w) X.A (subscriptTail e (.Slice none none (some (.UnaryOp .USub (.Constant (.int 1) k p1) p2)) p3) (.ref a) (.ref s4.heap.objs.size)) (EP X pins σ Q) X.xe { s4 with heap := s4.heap.push { cls := .type "slice", data := .fields #[vl, vu, vs] } }
  refine tail_any (ops := [.ref a, .ref s4.heap.objs.size]) ht.typeIs (PyProof.Rows.slot_tuple_getitem.lookup) ?_ (by with_unfolding_all rfl)
  cases pl
  cases pu
  refine HT.getItem_tuple_rev ht (Heap.IsSliceOf.new _ .none .none vs) ps ?_ (by rw [List.size_toArray, ← hlen]; exact hz)
  have e : (its.toArray.toList.reverse.toArray) = its.reverse.toArray := by simp
  rw [e]
  refine ⟨.ref _, _, I5.laid (t' := s4.toks) (o := .tup xs.reverse) (fun b ob q => Heap.get?_push_of_some _ q) (Nat.le_refl _) ?_, rfl, q _ (I5.hok.fresh (Nat.le_refl _))⟩
  exact ⟨by rw [List.length_reverse]; exact hz, _, r.reverse, IsTup.new _ _⟩
/-- f(k = v, ..): keywords alone -/
theorem pe_callK0 {CX : CXT} {k : Nat} {f : Addr} {fd : FuncData} {ps ks : List Str} {sp : Sp} {E : XK} {x : Str} {p pos : Pos} {kws : List Keyword} {tk : TA} {g : List Value → List Value → List Value} {gV : List V → List V → List V}
    (F : FnOk X.prog X.w X.K X.mg X.base CX k f fd ps sp) (hr : Room k X.A) (hg : Gl X x) (hm : X.mg x = some (.ref f)) (hk : PySem.W.keepIn X.K (.ref f) = true) (hb : KBinds X.K fd ps ks g gV) (hx : Passes CX X E)
    (hkw : PK X kws tk) (hall : (backToKw pos (keywordEach kws X.env)).all (·.1.isSome) = true := by rfl) (hks : (backToKw pos (keywordEach kws X.env)).filterMap (·.1) = ks := by rfl)
    (hdb : (x == ("__debug__" : Str)) = false := by decide)
    (hpl : ((backTo pos (starEach [] X.env)).any (·.1) || (backToKw pos (keywordEach kws X.env)).any (·.1.isNone)) = false := by rfl) :
    PE X (.Call (.Name x p) [] kws pos) (tCallK sp gV E tNil tk) := by
  refine ⟨fun pins s σ H Q I h => ?_⟩
  refine wpAny_Call_Name_kw (ld_glob I hg hm ?_ hdb)
  refine PySem.W.callWith_KW0 (h₀ := X.base) I.ok.mod.kin hk hall ?_ hpl
  refine thn (hkw.run pos pins s σ H _ I h) fun ws s2 ⟨zs, H2, I2, rz, q2⟩ => ⟨I2.kIn, ?_⟩
  rw [hks]
  exact run_fnk F hr hb hx I2 .nil rz q2
end
end L2

/-! readings, step by step -/
namespace L2
open PySem PySem.Spec PyProof.Rows
section
variable {σ : St} {H : Hp} {Q : VK} {v x y : V} {te ta tb : TE} {tA tB' : TA} {t u : TT} {D : Ends} {t1 t2 : TS} {i : Nat} {a b : Int}
theorem r_var (h : σ[i]? = some (some v)) (k : Q v H) : tVar i σ H Q := ⟨v, h, k⟩
theorem r_c (k : Q v H) : tC v σ H Q := k
theorem r_op {r : R2} (k : ta σ H fun x H1 => tb σ H1 fun y H2 => r x y H2 Q) : tOp r ta tb σ H Q := k
theorem r_un {r : V → Hp → VK → Prop} (k : ta σ H fun x H1 => r x H1 Q) : tUn r ta σ H Q := k
theorem r_cb {r : List V → Hp → VK → Prop} (k : tA σ H fun vs H1 => r vs H1 Q) : tCB r tA σ H Q := k
theorem r_call {sp : Sp} {dvs : List V} {E : XK} (k : tA σ H fun vs H1 => sp (vs ++ dvs) H1 Q E) : tCall sp dvs E tA σ H Q := k
theorem r_cons {QA : List V → Hp → Prop} (k : ta σ H fun x H1 => tA σ H1 fun xs H2 => QA (x :: xs) H2) : tCons ta tA σ H QA := k
theorem r_nil {QA : List V → Hp → Prop} (k : QA [] H) : tNil σ H QA := k
theorem r_tup (k : tA σ H fun xs H1 => xs.length ≤ sizeLine ∧ ∀ p, H1 p = none → Q (.ref p) (upd H1 p (.tup xs))) : tTup tA σ H Q := k
theorem r_lst (k : tA σ H fun xs H1 => xs.length ≤ sizeLine ∧ ∀ p, H1 p = none → Q (.ref p) (upd H1 p (.lst xs))) : tLst tA σ H Q := k
theorem r_I0 {g : Int → Int → V} (k : Q (g a b) H) : rI0 g (.int a) (.int b) H Q := ⟨a, b, rfl, rfl, k⟩
theorem r_I {C : Int → Int → Prop} {g : Int → Int → V} (c : C a b) (k : Q (g a b) H) : rI C g (.int a) (.int b) H Q := ⟨a, b, rfl, rfl, c, k⟩
theorem r_eq (c : scal x y = true) (k : Q (.bl (decide (x = y))) H) : rEq x y H Q := ⟨c, k⟩
theorem r_ne (c : scal x y = true) (k : Q (.bl (!decide (x = y))) H) : rNe x y H Q := ⟨c, k⟩
theorem r_eqI (k : Q (.bl (a == b)) H) : rEq (.int a) (.int b) H Q := ⟨rfl, by rw [dec_int]; exact k⟩
theorem r_neI (k : Q (.bl (!(a == b))) H) : rNe (.int a) (.int b) H Q := ⟨rfl, by rw [dec_int]; exact k⟩
theorem r_eqB {a b : Bool} (k : Q (.bl (a == b)) H) : rEq (.bl a) (.bl b) H Q := ⟨rfl, by rw [dec_bl]; exact k⟩
theorem r_test {Qb : Bool → Hp → Prop} (k : te σ H fun x H' => ∃ k, x = .bl k ∧ Qb k H') : tTest te σ H Qb := k
theorem r_B {Qb : Bool → Hp → Prop} (k : te σ H fun x H' => ∃ k, x = .bl k ∧ Qb k H') : tB te σ H Qb := k
theorem r_not {Qb : Bool → Hp → Prop} (k : t σ H fun c H1 => Qb (!c) H1) : tNot t σ H Qb := k
theorem r_and {Qb : Bool → Hp → Prop} (k : t σ H fun c H1 => if c = true then u σ H1 Qb else Qb false H1) : tAnd t u σ H Qb := k
theorem r_or {Qb : Bool → Hp → Prop} (k : t σ H fun c H1 => if c = true then Qb true H1 else u σ H1 Qb) : tOr t u σ H Qb := k
theorem r_andV (k : ta σ H fun x H1 => ∃ c, x = .bl c ∧ if c = true then tb σ H1 Q else Q (.bl false) H1) : tAndV ta tb σ H Q := k
theorem r_orV (k : ta σ H fun x H1 => ∃ c, x = .bl c ∧ if c = true then Q (.bl true) H1 else tb σ H1 Q) : tOrV ta tb σ H Q := k
theorem r_notV (k : ta σ H fun x H1 => ∃ c, x = .bl c ∧ Q (.bl (!c)) H1) : tNotV ta σ H Q := k
theorem r_if (k : t σ H fun c H1 => if c = true then ta σ H1 Q else tb σ H1 Q) : tIf t ta tb σ H Q := k
theorem r_seqAsg (k : te σ H fun x H1 => t2 D (σ.set i (some x)) H1) : tSeq (tAsg te (gName i)) t2 D σ H := k
theorem r_asg (k : te σ H fun x H1 => D.nx (σ.set i (some x)) H1) : tAsg te (gName i) D σ H := k
theorem r_seqSub {to ti : TE} {ts : TSet} (k : te σ H fun x H1 => to σ H1 fun o H2 => ti σ H2 fun j H3 => ts o j x H3 fun H4 => t2 D σ H4) : tSeq (tAsg te (gSub to ti ts)) t2 D σ H := k
theorem r_sub {to ti : TE} {ts : TSet} (k : te σ H fun x H1 => to σ H1 fun o H2 => ti σ H2 fun j H3 => ts o j x H3 fun H4 => D.nx σ H4) : tAsg te (gSub to ti ts) D σ H := k
theorem r_seqPar {j : Nat} (k : tA σ H fun vs H1 => ∃ v w, vs = [v, w] ∧ t2 D ((σ.set i (some v)).set j (some w)) H1) : tSeq (tPar i j tA) t2 D σ H := k
theorem r_par {j : Nat} (k : tA σ H fun vs H1 => ∃ v w, vs = [v, w] ∧ D.nx ((σ.set i (some v)).set j (some w)) H1) : tPar i j tA D σ H := k
theorem r_ret (k : te σ H D.rt) : tRet te D σ H := k
theorem r_seqDrop (k : te σ H fun _ H1 => t2 D σ H1) : tSeq (tDrop te) t2 D σ H := k
theorem r_drop (k : te σ H fun _ H1 => D.nx σ H1) : tDrop te D σ H := k
theorem r_seqIf {c : TT} {t3 : TS} (k : c σ H fun b H1 => if b = true then t1 { D with nx := t3 D } σ H1 else t2 { D with nx := t3 D } σ H1) : tSeq (tIfS c t1 t2) t3 D σ H := k
theorem r_ifS {c : TT} (k : c σ H fun b H1 => if b = true then t1 D σ H1 else t2 D σ H1) : tIfS c t1 t2 D σ H := k
theorem r_gname {QG : St → Hp → Prop} (k : QG (σ.set i (some v)) H) : gName i v σ H QG := k
theorem r_cutIf {c : TT} {t3 : TS} (M : St → Hp → Prop) (k : c σ H fun b H1 => if b = true then t1 { D with nx := M } σ H1 else t2 { D with nx := M } σ H1) (k2 : ∀ σ' H', M σ' H' → t3 D σ' H') : Evl.tCut (tIfS c t1 t2) t3 D σ H := ⟨M, k, k2⟩
theorem r_yes {Qb : Bool → Hp → Prop} (k : Qb true H) : tYes σ H Qb := k
theorem r_callK {sp : Sp} {gV : List V → List V → List V} {E : XK} {tk : TA} (k : tA σ H fun vs H1 => tk σ H1 fun zs H2 => sp (gV vs zs) H2 Q E) : tCallK sp gV E tA tk σ H Q := k
theorem r_sl {r : V → Option Int → Option Int → Hp → VK → Prop} {tl th : TO} (k : te σ H fun x H1 => tl σ H1 fun l H2 => th σ H2 fun u H3 => r x l u H3 Q) : tSl r te tl th σ H Q := k
theorem r_nopart {QO : Option Int → Hp → Prop} (k : QO none H) : tNoPart σ H QO := k
theorem r_part {QO : Option Int → Hp → Prop} (k : te σ H fun x H1 => ∃ i, x = .int i ∧ QO (some i) H1) : tPart te σ H QO := k
theorem r_bm {K : PySem.W.Frag} {T : String} {r : V → List V → Hp → VK → Prop} (k : te σ H fun x H1 => tyV K T x H1 ∧ tA σ H1 fun xs H2 => r x xs H2 Q) : tBM K T r te tA σ H Q := k
theorem r_bm0 {K : PySem.W.Frag} {T : String} {r : V → List V → Hp → VK → Prop} (k : te σ H fun x H1 => tyV K T x H1 ∧ r x [] H1 Q) : tBM0 K T r te σ H Q := k
theorem r_gtup {K : PySem.W.Frag} {n : Nat} {g : TGs} {a : Addr} {xs : List V} {QG : St → Hp → Prop} (h : SqT K H a xs) (hn : xs.length = n) (k : g xs σ H QG) : gTup K n g (.ref a) σ H QG := ⟨a, xs, rfl, h, hn, k⟩
theorem r_gcons {g : TG} {u : TGs} {xs : List V} {QG : St → Hp → Prop} (k : g v σ H fun σ' H' => u xs σ' H' QG) : gCons g u (v :: xs) σ H QG := ⟨v, xs, rfl, k⟩
theorem r_gnil {QG : St → Hp → Prop} (k : QG σ H) : gNil [] σ H QG := ⟨rfl, k⟩
theorem r_gsub {to ti : TE} {ts : TSet} {QG : St → Hp → Prop} (k : to σ H fun o H1 => ti σ H1 fun j H2 => ts o j v H2 fun H3 => QG σ H3) : gSub to ti ts v σ H QG := k
theorem r_seqAsgG {g : TG} (k : te σ H fun x H1 => g x σ H1 (t2 D)) : tSeq (tAsg te g) t2 D σ H := k
theorem r_asgG {g : TG} (k : te σ H fun x H1 => g x σ H1 D.nx) : tAsg te g D σ H := k
theorem r_next (k : D.nx σ H) : tNext D σ H := k
theorem r_ixL {K : PySem.W.Frag} {p : Addr} {xs : List V} (h : SqL K H p xs) (ha : atI xs a = some v) (k : Q v H) : rIxL K (.ref p) (.int a) H Q := ⟨p, xs, a, v, rfl, rfl, h, ha, k⟩
theorem r_ixT {K : PySem.W.Frag} {p : Addr} {xs : List V} (h : SqT K H p xs) (ha : atI xs a = some v) (k : Q v H) : rIxT K (.ref p) (.int a) H Q := ⟨p, xs, a, v, rfl, rfl, h, ha, k⟩
theorem r_setL {p : Addr} {xs : List V} {j : Nat} {Qh : Hp → Prop} (h : H p = some (.lst xs)) (hj : ixN xs.length a = some j) (k : Qh (upd H p (.lst (xs.set j v)))) : rSetL (.ref p) (.int a) v H Qh := ⟨p, xs, a, j, rfl, rfl, h, hj, k⟩
theorem Same.new {H H1 : Hp} {p : Addr} {o : HO} (e : Same H H1) (np : H1 p = none) : Same H (upd H1 p o) := fun b u h => by
  have h1 := e b u h
  rw [upd_ne (ne_of_none h1 np)]
  exact h1
theorem Same.new0 {H : Hp} {p : Addr} {o : HO} (np : H p = none) : Same H (upd H p o) := (Same.refl H).new np
theorem Same.tup {K : PySem.W.Frag} {H H' : Hp} {a : Addr} {xs : List V} (e : Same H H') (h : SqT K H a xs) : SqT K H' a xs := by
  rcases h with (h | ⟨o, h⟩) | h
  · exact .inl (.inl (e _ _ h))
  · exact .inl (.inr ⟨o, e _ _ h⟩)
  · exact .inr h
end

theorem iteFb {b : Bool} {A B : Prop} (e : b = false) (h : B) : if b = true then A else B := by
  subst e
  exact iteF h
theorem iteTb {b : Bool} {A B : Prop} (e : b = true) (h : A) : if b = true then A else B := by
  subst e
  exact iteT h
/-- a tuple of whole numbers stands at t -/
def TupI (H : Hp) (t : Addr) (ns : List Int) : Prop := H t = some (.tup (ns.map V.int))
theorem TupI.same {H H' : Hp} {t : Addr} {ns : List Int} (h : TupI H t ns) (e : Same H H') : TupI H' t ns := e _ _ h
theorem TupI.sq {K : PySem.W.Frag} {H : Hp} {t : Addr} {ns : List Int} (h : TupI H t ns) : SqT K H t (ns.map V.int) := SqT.of h
theorem TupI.new {H : Hp} {t : Addr} {ns : List Int} {xs : List V} (e : xs = ns.map V.int) : TupI (upd H t (.tup xs)) t ns := by
  unfold TupI
  rw [upd_same, e]
/-- a list of whole numbers stands at l -/
def LstI (H : Hp) (t : Addr) (ns : List Int) : Prop := H t = some (.lst (ns.map V.int))
theorem dpAll_ints {K : PySem.W.Frag} {H : Hp} : ∀ ns : List Int, DpAll K H (ns.map V.int) (ns.map PyData.int)
  | [] => .nil
  | n :: r => .cons (.int n) (dpAll_ints r)
theorem canLay_ints : ∀ ns : List Int, PyData.canLayAll0 (ns.map PyData.int) = true
  | [] => rfl
  | n :: r => canLay_ints r
theorem depth_ints : ∀ ns : List Int, PyData.depthAll (ns.map PyData.int) = 0
  | [] => rfl
  | n :: r => by
    show max 0 (PyData.depthAll (r.map PyData.int)) = 0
    rw [depth_ints r]
    rfl
theorem shaped_tup (ns : List Int) : SeqAt.shaped (.tuple (ns.map PyData.int)) = true := by
  unfold SeqAt.shaped
  show (PyData.canLayAll0 (ns.map PyData.int) && decide (PyData.depthAll (ns.map PyData.int) + 1 ≤ 64)) = true
  rw [canLay_ints, depth_ints]
  rfl
theorem shaped_lst (ns : List Int) : SeqAt.shaped (.list (ns.map PyData.int)) = true := shaped_tup ns
theorem eqD_tup {K : PySem.W.Frag} {H : Hp} {a b : Addr} {ns ms : List Int} {Q : VK} (ha : SqT K H a (ns.map V.int)) (hb : SqT K H b (ms.map V.int)) (k : Q (.bl (decide (ns = ms))) H) : rEqD K (.ref a) (.ref b) H Q :=
  ⟨_, _, .tup ha (dpAll_ints ns), .tup hb (dpAll_ints ms), shaped_tup ns, shaped_tup ms, by
    show Q (.bl (PyData.eqvAll (ns.map PyData.int) (ms.map PyData.int))) H
    rw [PySem.W.ked_eqvAll]
    exact k⟩
theorem neD_tup {K : PySem.W.Frag} {H : Hp} {a b : Addr} {ns ms : List Int} {Q : VK} (ha : SqT K H a (ns.map V.int)) (hb : SqT K H b (ms.map V.int)) (k : Q (.bl (!decide (ns = ms))) H) : rNeD K (.ref a) (.ref b) H Q :=
  ⟨_, _, .tup ha (dpAll_ints ns), .tup hb (dpAll_ints ms), shaped_tup ns, shaped_tup ms, by
    show Q (.bl (!PyData.eqvAll (ns.map PyData.int) (ms.map PyData.int))) H
    rw [PySem.W.ked_eqvAll]
    exact k⟩
theorem eqD_lst {K : PySem.W.Frag} {H : Hp} {a b : Addr} {ns ms : List Int} {Q : VK} (ha : SqL K H a (ns.map V.int)) (hb : SqL K H b (ms.map V.int)) (k : Q (.bl (decide (ns = ms))) H) : rEqD K (.ref a) (.ref b) H Q :=
  ⟨_, _, .lst ha (dpAll_ints ns), .lst hb (dpAll_ints ms), shaped_lst ns, shaped_lst ms, by
    show Q (.bl (PyData.eqvAll (ns.map PyData.int) (ms.map PyData.int))) H
    rw [PySem.W.ked_eqvAll]
    exact k⟩
theorem neD_lst {K : PySem.W.Frag} {H : Hp} {a b : Addr} {ns ms : List Int} {Q : VK} (ha : SqL K H a (ns.map V.int)) (hb : SqL K H b (ms.map V.int)) (k : Q (.bl (!decide (ns = ms))) H) : rNeD K (.ref a) (.ref b) H Q :=
  ⟨_, _, .lst ha (dpAll_ints ns), .lst hb (dpAll_ints ms), shaped_lst ns, shaped_lst ms, by
    show Q (.bl (!PyData.eqvAll (ns.map PyData.int) (ms.map PyData.int))) H
    rw [PySem.W.ked_eqvAll]
    exact k⟩

/-- l + m, lists that are read (the script too) -/
def rCatR (K : PySem.W.Frag) : R2 := fun x y H Q => ∃ l b xs zs, x = .ref l ∧ y = .ref b ∧ SqL K H l xs ∧ SqL K H b zs ∧ xs.length + zs.length ≤ sizeLine ∧ ∀ p, H p = none → Q (.ref p) (upd H p (.lst (xs ++ zs)))
theorem op_catR {X : Cx} : OpR X (binaryOp .Add) (rCatR X.K) := by
  intro pins s σ H x y v u Q I rx ry h
  obtain ⟨l, b, xs, zs, rfl, rfl, hL, hB, hz, q⟩ := h
  cases rx
  cases ry
  obtain ⟨us, r1, p1, _⟩ := I.list hL
  obtain ⟨ws, r2, p2, _⟩ := I.list hB
  obtain ⟨⟨c1, d1, e1, sl1⟩, n1, g1, k1, z1, q1⟩ := p1
  obtain ⟨⟨c2, d2, e2, sl2⟩, n2, g2, k2, z2, q2⟩ := p2
  dsimp only at k1 z1 q1 k2 z2 q2
  subst k1 z1 q1 k2 z2 q2
  have hl1 := r1.length
  have hl2 := r2.length
  refine concat_meets ⟨_, g1, rfl⟩ ⟨_, g2, rfl⟩ noFill_list_add seq_list_add PySem.F.slot_list_add PySem.F.entry_list_add (PySem.F.args_list_add_2 _ _) (list_addW l b us.toArray ws.toArray n1 n2 none none sl1 sl2 (by rw [List.size_toArray, List.size_toArray]; omega)) ⟨g1, g2, ?_⟩
  have ea : us.toArray ++ ws.toArray = (us ++ ws).toArray := by simp
  rw [ea]
  exact ⟨.ref _, _, I.lnew (t' := s.toks) (r1.append r2) (by rw [List.length_append]; omega), rfl, q _ I.fresh⟩

/-! ### the springs of the laws -/
def MM : Int := 618970019642690137449562111
/-- a spring stands at p -/
def Spr (H : Hp) (p : Addr) : Prop := ∃ a b c : Int, H p = some (.lst [.int a, .int b, .int c]) ∧ 0 ≤ b ∧ b < MM
/-- all but p is as it was -/
def But (p : Addr) (H H' : Hp) : Prop := ∀ b o, b ≠ p → H b = some o → H' b = some o
theorem But.refl (p : Addr) (H : Hp) : But p H H := fun _ _ _ h => h
theorem But.trans {p : Addr} {H H1 H2 : Hp} (a : But p H H1) (b : But p H1 H2) : But p H H2 := fun c o n h => b c o n (a c o n h)
theorem But.new {p q : Addr} {H H1 : Hp} {o : HO} (a : But p H H1) (nq : H1 q = none) : But p H (upd H1 q o) := fun c u n h => by
  have h1 := a c u n h
  rw [upd_ne (ne_of_none h1 nq)]
  exact h1
theorem But.mut {p : Addr} {H H1 : Hp} {o : HO} (a : But p H H1) : But p H (upd H1 p o) := fun c u n h => by
  rw [upd_ne n]
  exact a c u n h
theorem But.same {p : Addr} {H H1 H2 : Hp} (a : But p H H1) (b : Same H1 H2) : But p H H2 := fun c u n h => b c u (a c u n h)
theorem Same.but {p : Addr} {H H1 : Hp} (a : Same H H1) : But p H H1 := fun c u _ h => a c u h
theorem But.free {p q : Addr} {H H1 : Hp} (a : But p H H1) (h : H1 q = none) (n : q ≠ p) : H q = none := by
  cases e : H q with
  | none => rfl
  | some o =>
    rw [a q o n e] at h
    cases h
/-- a spring that was made on the way -/
theorem But.of_new {p : Addr} {H H1 H2 : Hp} (np : H p = none) (s : Same H H1) (a : But p H1 H2) : Same H H2 := fun b o h => a b o (ne_of_none h np) (s b o h)
theorem Spr.same {p : Addr} {H H1 : Hp} (s : Same H H1) (h : Spr H p) : Spr H1 p := by
  obtain ⟨a, b, c, e, r⟩ := h
  exact ⟨a, b, c, s _ _ e, r⟩
theorem Spr.ne {p q : Addr} {H : Hp} (h : Spr H p) (n : H q = none) : p ≠ q := by
  obtain ⟨a, b, c, e, r⟩ := h
  exact ne_of_none e n
theorem Spr.new {p q : Addr} {H : Hp} {o : HO} (h : Spr H p) (n : H q = none) : Spr (upd H q o) p := h.same (Same.new0 n)
theorem Spr.put {H : Hp} {p D : Addr} {o : HO} (h : Spr H p) (n : D ≠ p) : Spr (upd H D o) p := by
  obtain ⟨x1, x2, x3, e1, e2⟩ := h
  exact ⟨x1, x2, x3, by rw [upd_ne (Ne.symm n)]; exact e1, e2⟩
theorem Spr.here {p : Addr} {H : Hp} (h : Spr H p) : ∃ o, H p = some o := by
  obtain ⟨a, b, c, e, r⟩ := h
  exact ⟨_, e⟩

def spSpring : Sp := fun vs H Q _ => ∃ c k : Int, vs = [.int c, .int k] ∧ ∀ p H', H p = none → Same H H' → Spr H' p → Q (.ref p) H'
def spSip : Sp := fun vs H Q _ => ∃ (p : Addr) (m : Int), vs = [.ref p, .int m] ∧ Spr H p ∧ 1 ≤ m ∧ m < 2 ^ 250 ∧ ∀ r H', 0 ≤ r → r < m → But p H H' → Spr H' p → Q (.int r) H'
def spFar : Sp := fun vs H Q _ => ∃ (p : Addr) (w : Int), vs = [.ref p, .int w] ∧ Spr H p ∧ 1 ≤ w ∧ w < 2 ^ 250 ∧ ∀ r H', -w < r → r < w → But p H H' → Spr H' p → Q (.int r) H'
def spTruth : Sp := fun vs H Q _ => ∃ a b : Bool, vs = [.bl a, .bl b] ∧ Q (.bl (a == b)) H
def spLaw (K : PySem.W.Frag) : Sp := fun vs H Q _ => ∃ (a : Addr) (ns : List Int), vs = [.ref a] ∧ SqL K H a (ns.map V.int) ∧ ns.length ≤ 63 ∧ (∀ z ∈ ns, Builtin.Int.intBits z ≤ 1048576) ∧ ∀ H', Q (.bl true) H'

theorem cut_ints (ns : List Int) (k : Nat) : cutV (ns.map V.int) none (some (k : Int)) = (ns.take k).map V.int := by
  unfold cutV
  rw [HT.sIx_none, HT.sIx_nat, List.drop_zero, List.length_map, Nat.sub_zero, ← List.map_take]
  congr 1
  rw [List.take_eq_take_iff]
  omega
/-- the cells of a script: the first k, or a 0 -/
def cells (ns : List Int) (k : Nat) : List Int := ns.take k ++ List.replicate (if ns.length = 0 then 1 else 0) 0
theorem cells_len {ns : List Int} (h : ns.length ≤ 63) (k : Nat) : (cells ns k).length ≤ 64 := by
  unfold cells
  rw [List.length_append, List.length_take, List.length_replicate]
  split <;> omega
theorem cells_v (ns : List Int) (k : Nat) : (ns.take k).map V.int ++ (List.replicate ((if ns.length = 0 then (1 : Int) else 0).toNat) [V.int 0]).flatten = (cells ns k).map V.int := by
  unfold cells
  rw [List.map_append]
  congr 1
  split <;> rfl
/-- keywords alone -/
def kwG {α : Type} : List α → List α → List α
  | [], ws => ws
  | _ :: _, _ => []
theorem kwG_rel {vs : List V} {us : List Value} {zs : List V} {ws : List Value} (h : Vals vs us) (k : Vals zs ws) : Vals (kwG vs zs) (kwG us ws) := by
  cases h with
  | nil => exact k
  | cons _ _ => exact .nil
/-! ### greatest common divisors -/
def gcdL : List Int → Nat
  | [] => 0
  | a :: r => Nat.gcd a.natAbs (gcdL r)
theorem gcdL_foldl : ∀ (l : List Int) (g : Nat), l.foldl (fun g a => Nat.gcd g a.natAbs) g = Nat.gcd g (gcdL l)
  | [], g => (Nat.gcd_zero_right g).symm
  | a :: r, g => by
    rw [List.foldl_cons, gcdL_foldl r, gcdL, Nat.gcd_assoc]
theorem gcdL_append : ∀ (l r : List Int), gcdL (l ++ r) = Nat.gcd (gcdL l) (gcdL r)
  | [], r => (Nat.gcd_zero_left _).symm
  | a :: l, r => by rw [List.cons_append, gcdL, gcdL, gcdL_append l r, Nat.gcd_assoc]
theorem gcdL_one (a : Int) : gcdL [a] = a.natAbs := Nat.gcd_zero_right _
theorem gcdL_reverse : ∀ l : List Int, gcdL l.reverse = gcdL l
  | [] => rfl
  | a :: r => by rw [List.reverse_cons, gcdL_append, gcdL_one, gcdL_reverse r, gcdL, Nat.gcd_comm]
theorem gcdL_neg : ∀ l : List Int, gcdL (l.map fun a => 0 - a) = gcdL l
  | [] => rfl
  | a :: r => by
    rw [List.map_cons, gcdL, gcdL, gcdL_neg r]
    have e : (0 - a).natAbs = a.natAbs := by omega
    rw [e]
theorem gcdL_mul : ∀ (l : List Int) (k : Int), gcdL (l.map fun a => a * k) = gcdL l * k.natAbs
  | [], k => (Nat.zero_mul _).symm
  | a :: r, k => by rw [List.map_cons, gcdL, gcdL, gcdL_mul r, Int.natAbs_mul, Nat.gcd_mul_right]
theorem gcdL_dvd : ∀ (l : List Int) (a : Int), a ∈ l → ((gcdL l : Nat) : Int) ∣ a
  | b :: r, a, h => by
    rcases List.mem_cons.mp h with e | e
    · subst e
      exact Int.ofNat_dvd_left.mpr (Nat.gcd_dvd_left _ _)
    · exact Int.dvd_trans (Int.ofNat_dvd.mpr (Nat.gcd_dvd_right _ _)) (gcdL_dvd r a e)
theorem dvd_gcdL {d : Nat} : ∀ (l : List Int), (∀ a ∈ l, (d : Int) ∣ a) → d ∣ gcdL l
  | [], _ => Nat.dvd_zero d
  | a :: r, h => Nat.dvd_gcd (Int.ofNat_dvd_left.mp (h a List.mem_cons_self)) (dvd_gcdL r fun b hb => h b (List.mem_cons_of_mem _ hb))
theorem gcdL_lt {B : Nat} (hB : 0 < B) : ∀ (l : List Int), (∀ a ∈ l, a.natAbs < B) → gcdL l < B
  | [], _ => hB
  | a :: r, h => by
    have h1 := h a List.mem_cons_self
    have h2 := gcdL_lt hB r fun b hb => h b (List.mem_cons_of_mem _ hb)
    rw [gcdL]
    by_cases e : a.natAbs = 0
    · rw [e, Nat.gcd_zero_left]
      exact h2
    · exact Nat.lt_of_le_of_lt (Nat.gcd_le_left _ (Nat.pos_of_ne_zero e)) h1
theorem gcdL_zero {l : List Int} (h : gcdL l = 0) : ∀ a ∈ l, a = 0 := fun a ha => by
  have q := gcdL_dvd l a ha
  rw [h] at q
  exact Int.zero_dvd.mp q
theorem gcdL_of_zero : ∀ {l : List Int}, (∀ a ∈ l, a = 0) → gcdL l = 0
  | [], _ => rfl
  | a :: r, h => by
    rw [gcdL, h a List.mem_cons_self, gcdL_of_zero fun b hb => h b (List.mem_cons_of_mem _ hb)]
    rfl
/-- the seen place ahead -/
def firstL (l : List Int) : List Int := if gcdL l = 0 then l else l.map fun a => a / ((gcdL l : Nat) : Int)
theorem firstL_len (l : List Int) : (firstL l).length = l.length := by
  unfold firstL
  split
  · rfl
  · exact List.length_map _
theorem firstL_back {l : List Int} : (firstL l).map (fun a => a * ((gcdL l : Nat) : Int)) = if gcdL l = 0 then l.map (fun _ => 0) else l := by
  unfold firstL
  split
  · rename_i h
    rw [h]
    exact List.map_congr_left fun a _ => Int.mul_zero a
  · rw [List.map_map]
    conv => rhs; rw [← List.map_id l]
    exact List.map_congr_left fun a ha => Int.ediv_mul_cancel (gcdL_dvd l a ha)
theorem firstL_gcd {l : List Int} (h : gcdL l ≠ 0) : gcdL (firstL l) = 1 := by
  have e := firstL_back (l := l)
  rw [if_neg h] at e
  have q := gcdL_mul (firstL l) ((gcdL l : Nat) : Int)
  rw [e, Int.natAbs_natCast] at q
  have : 1 * gcdL l = gcdL (firstL l) * gcdL l := by rw [Nat.one_mul]; exact q
  exact (Nat.eq_of_mul_eq_mul_right (Nat.pos_of_ne_zero h) this).symm
theorem gcdL_same {l m : List Int} (h : ∀ d : Nat, (∀ a ∈ l, (d : Int) ∣ a) ↔ ∀ a ∈ m, (d : Int) ∣ a) : gcdL l = gcdL m := by
  refine Nat.dvd_antisymm ?_ ?_
  · exact dvd_gcdL m ((h _).mp (gcdL_dvd l))
  · exact dvd_gcdL l ((h _).mpr (gcdL_dvd m))
theorem all_set {P : Int → Prop} {l : List Int} {i : Nat} {z : Int} (h : ∀ j a, j ≠ i → l[j]? = some a → P a) (hz : P z) : ∀ a ∈ l.set i z, P a := by
  intro a ha
  obtain ⟨j, hj⟩ := List.getElem?_of_mem ha
  by_cases e : j = i
  · subst e
    have hl := (List.getElem?_eq_some_iff.mp hj).1
    rw [List.length_set] at hl
    rw [List.getElem?_set_self hl] at hj
    cases hj
    exact hz
  · rw [List.getElem?_set_ne (Ne.symm e)] at hj
    exact h j a e hj
theorem set_other {l : List Int} {i j : Nat} {z a : Int} (n : j ≠ i) (h : l[j]? = some a) : a ∈ l.set i z :=
  List.mem_of_getElem? (i := j) (by rw [List.getElem?_set_ne (Ne.symm n)]; exact h)
theorem set_here {l : List Int} {i : Nat} {z a : Int} (h : l[i]? = some a) : z ∈ l.set i z :=
  List.mem_of_getElem? (i := i) (List.getElem?_set_self (List.getElem?_eq_some_iff.mp h).1)
/-- a multiple of another coordinate added -/
theorem gcdL_shear {l : List Int} {i j : Nat} {x y k : Int} (n : j ≠ i) (hx : l[i]? = some x) (hy : l[j]? = some y) : gcdL (l.set i (x + k * y)) = gcdL l := by
  refine gcdL_same fun d => ⟨fun h a ha => ?_, fun h => all_set (fun m a _ hm => h a (List.mem_of_getElem? hm)) (Int.dvd_add (h x (List.mem_of_getElem? hx)) (Int.dvd_trans (h y (List.mem_of_getElem? hy)) (Int.dvd_mul_left _ _)))⟩
  obtain ⟨m, hm⟩ := List.getElem?_of_mem ha
  by_cases e : m = i
  · subst e
    rw [hx] at hm
    cases hm
    have h1 := h _ (set_here (z := x + k * y) hx)
    have h2 := Int.dvd_trans (h y (set_other n hy)) (Int.dvd_mul_left k y)
    have h3 := Int.dvd_sub h1 h2
    rwa [Int.add_sub_cancel] at h3
  · exact h a (set_other e hm)
/-- two coordinates exchanged, one with its sign turned -/
theorem gcdL_swap {l : List Int} {i j : Nat} {x y : Int} (n : j ≠ i) (hx : l[i]? = some x) (hy : l[j]? = some y) : gcdL ((l.set i y).set j (0 - x)) = gcdL l := by
  have hx' : (0 - x) ∈ (l.set i y).set j (0 - x) := set_here (a := y) (by rw [List.getElem?_set_ne (Ne.symm n)]; exact hy)
  have hy' : y ∈ (l.set i y).set j (0 - x) := set_other (j := i) (Ne.symm n) (List.getElem?_set_self (List.getElem?_eq_some_iff.mp hx).1)
  refine gcdL_same fun d => ⟨fun h a ha => ?_, fun h => all_set (fun m a hm hma => ?_) (Int.dvd_sub (Int.dvd_zero _) (h x (List.mem_of_getElem? hx)))⟩
  · obtain ⟨m, hm⟩ := List.getElem?_of_mem ha
    by_cases e : m = i
    · subst e
      rw [hx] at hm
      cases hm
      have h1 := Int.dvd_sub (Int.dvd_zero (d : Int)) (h _ hx')
      have e2 : 0 - (0 - x) = x := by omega
      rwa [e2] at h1
    · by_cases e2 : m = j
      · subst e2
        rw [hy] at hm
        cases hm
        exact h _ hy'
      · exact h a (set_other e2 (by rw [List.getElem?_set_ne (Ne.symm e)]; exact hm))
  · by_cases e : m = i
    · subst e
      rw [List.getElem?_set_self (List.getElem?_eq_some_iff.mp hx).1] at hma
      cases hma
      exact h y (List.mem_of_getElem? hy)
    · rw [List.getElem?_set_ne (Ne.symm e)] at hma
      exact h a (List.mem_of_getElem? hma)
theorem take_more {α : Type} : ∀ {l : List α} {i : Nat} {x : α}, l[i]? = some x → l.take (i + 1) = l.take i ++ [x]
  | [], i, x, h => by simp at h
  | a :: l, 0, x, h => by
    have e : a = x := Option.some.inj h
    subst e
    rfl
  | a :: l, i + 1, x, h => by
    have ih := take_more (l := l) (i := i) (x := x) h
    show a :: l.take (i + 1) = a :: l.take i ++ [x]
    rw [ih]
    rfl
theorem ints_at {ns : List Int} {i : Nat} {x : V} (h : (ns.map V.int)[i]? = some x) : ∃ z, ns[i]? = some z ∧ x = V.int z := by
  rw [List.getElem?_map] at h
  cases e : ns[i]? with
  | none =>
    rw [e] at h
    cases h
  | some z =>
    rw [e] at h
    exact ⟨z, rfl, (Option.some.inj h).symm⟩
theorem at_int {ns : List Int} {i : Int} (h0 : 0 ≤ i) (h1 : i < (ns.length : Int)) : ∃ x, ns[i.toNat]? = some x ∧ atI (ns.map V.int) i = some (.int x) := by
  have hi : i.toNat < ns.length := by omega
  refine ⟨ns[i.toNat], List.getElem?_eq_getElem hi, ?_⟩
  have e : i = ((i.toNat : Nat) : Int) := (Int.toNat_of_nonneg h0).symm
  exact at_of e (by rw [List.getElem?_map, List.getElem?_eq_getElem hi]; rfl)
theorem ix_int {ns : List Int} {i : Int} (h0 : 0 ≤ i) (h1 : i < (ns.length : Int)) : ixN (ns.map V.int).length i = some i.toNat := by
  rw [List.length_map]
  unfold ixN
  rw [if_pos h0, if_pos h1]
theorem rep_ints (n : Nat) : (List.replicate ((n : Int)).toNat [V.int 0]).flatten = (List.replicate n (0 : Int)).map V.int := by
  rw [Int.toNat_natCast]
  induction n with
  | zero => rfl
  | succ n ih => rw [List.replicate_succ, List.replicate_succ, List.flatten_cons, List.map_cons, ih]; rfl
theorem Spr.tupNe {H : Hp} {p t : Addr} {ns : List Int} (h : Spr H p) (ht : TupI H t ns) : t ≠ p := fun e => by
  obtain ⟨x1, x2, x3, e1, _⟩ := h
  unfold TupI at ht
  rw [e, e1] at ht
  cases ht
end L2

/-! errors that are caught, kept and asked -/
namespace L2
open PySem PySem.Spec PyProof.Rows
/-- a caught error at a: its class, its own dict -/
def exK (cls : Value) (d : Option Addr) (a : Addr) : HO := .ext fun h => ∃ (oe : Obj) (vs : Array Value), h.get? a = some oe ∧ Zc cls d oe ∧ oe.data = .fields vs
theorem exK_ok {P : Program} {w : World} {H : Hp} {h : Heap} {a : Addr} {cls : Value} {d : Option Addr} {oe : Obj} {vs : Array Value} (e : h.get? a = some oe) (z : Zc cls d oe) (dd : oe.data = .fields vs) : ObjOk P w H h a (exK cls d a) :=
  ⟨⟨oe, vs, e, z, dd⟩, ⟨oe, e⟩, fun _ _ ⟨o, v, q, r⟩ k => ⟨o, v, k o q, r⟩⟩
section
variable {X : Cx} {pins : List (Addr × Obj)} {σ : St} {H : Hp} {s : Shared}
theorem Inv.track {a : Addr} {o : HO} {oe : Obj} {vs : Array Value} (I : Inv X pins σ H s) (ha : H a = none) (h0 : X.s_0.heap.get? a = none) (ho : s.heap.get? a = some oe) (hd : oe.data = .fields vs) (nL : a ≠ X.env.locals)
    (np : ∀ p ∈ X.pn ++ pins, p.1 ≠ a) (new : ObjOk X.prog X.w (upd H a o) s.heap a o) : Inv X pins σ (upd H a o) s where
  ok := I.ok
  os := I.os
  bare := I.bare
  base := {
    keep := fun b u e n hf hx => I.base.keep b u e n hf hx
    slot := fun b u e n hf hx => I.base.slot b u e n hf hx
    free := fun b u e n hx => by
      have nb : b ≠ a := fun z => by
        rw [z, h0] at e
        cases e
      rw [upd_ne nb]
      exact I.base.free b u e n hx
    there := fun b u e hx => I.base.there b u e hx
    tups := fun b xs e => by
      have q := I.base.tups b xs e
      rw [upd_ne (ne_of_none q ha)]
      exact q
    frzs := fun b u v e => by
      have q := I.base.frzs b u v e
      rw [upd_ne (ne_of_none q ha)]
      exact q
    tbls := fun b ps e => by
      obtain ⟨m, q⟩ := I.base.tbls b ps e
      exact ⟨m, by rw [upd_ne (ne_of_none q ha)]; exact q⟩ }
  loc := I.loc
  cell := I.cell
  free := by
    rw [upd_ne (Ne.symm nL)]
    exact I.free
  freeC := fun x c e => by
    have nc : c ≠ a := fun z => by
      obtain ⟨v, oc, q, qd⟩ := I.cell x c e
      rw [z, ho] at q
      cases q
      rw [hd] at qd
      cases qd
    rw [upd_ne nc]
    exact I.freeC x c e
  pin := fun p hp => by
    obtain ⟨q1, q2, q3, q4, q5⟩ := I.pin p hp
    exact ⟨q1, by rw [upd_ne (np p hp)]; exact q2, q3, q4, q5⟩
  hok := HOk.laidN I.hok (fun _ _ q => q) ha new
  len := I.len
end
/-- except c as n: the suite goes on, and the error is known behind it, too -/
def wKeep (K : PySem.W.Frag) (c : Value) (i : Nat) (ts : Addr → Value → Option Addr → TS) (Wout : WX) (D : Ends) : WX := fun cls d σ H =>
  ∃ b, PySem.W.exmOne K cls c = some b ∧ (b = true → ∀ a, H a = none → ts a cls d { nx := fun σ' H' => H' a = none → D.nx (σ'.set i none) (upd H' a (exK cls d a)), rt := fun _ _ => False, bk := fun _ _ => False, ct := fun _ _ => False } (σ.set i (some (.ref a))) H) ∧
    (b = false → Wout cls d σ H)
section
variable {X : Cx} {x n : Str} {c : Value} {i : Nat} {body suite : List Stmt} {b₀ : Stmt} {np pos pos' : Pos} {tb : WX → TS} {ts : Addr → Value → Option Addr → TS} {Wout : WX}
theorem ps_try_keep (hex : X.ex = []) (hs : X.stack = X.env :: X.outer) (hf : X.env.frame = some X.env.locals) (hN : X.N.Nodup) (hi : X.N[i]? = some n) (hln : X.env.kindOf n = some .local) (hc : Names X x c) (tk : Takes X Wout)
    (hb : ∀ (W : WX) (pn : List (Addr × Obj)) (xe : Value → Shared → Prop), Takes (X.tr pn xe) W → PassesOwn (model X.prog X.w) X.A X.env xe → PSs (X.tr pn xe) body (tb W))
    (hsu : ∀ (a : Addr) (oe : Obj) (cls : Value) (d : Option Addr) (pn : List (Addr × Obj)), Zc cls d oe → (∃ vs, oe.data = .fields vs) → PSs (X.suite a ((a, oe) :: pn)) (b₀ :: suite) (ts a cls d)) :
    PS X (.Try body [.ExceptHandler (some (.Name x np)) (some n) (b₀ :: suite) pos'] [] [] pos) (fun D σ H => tb (wKeep X.K c i ts Wout D) D σ H) := by
  refine ⟨fun pins s σ H D I h => ?_⟩
  have ok := I.ok
  have hfr : X.A.frames = some (X.env :: X.outer) := by rw [ok.frames, hs]
  have hloc : Loc X.env.scope n := .inl hln
  refine wpAny_Try_except ?_
  refine wpAny_mono ((hb (wKeep X.K c i ts Wout D) (X.pn ++ pins) (fun e s₁ => wpAny (model X.prog X.w) X.A (noteFrame e X.env) (fun _ s₂ => wpAny (model X.prog X.w) X.A (setFlight e none) (fun _ s₃ =>
    wpAny (model X.prog X.w) X.A (handleBy e X.env [.ExceptHandler (some (.Name x np)) (some n) (b₀ :: suite) pos']) (SP X pins D) X.xe s₃) X.xe s₂) X.xe s₁) (fun u s' xx => ?_) PassesOwn.looking).run [] s σ H D (I.toTry _) h) (fun f s1 hsp => ?_) (fun e s1 he => he)
  · obtain ⟨a, B, sI, pins', σ', H', cls, d, rfl, J', nb, up, sky, na, os, ag, b, hb1, hyes, hno⟩ := xx
    have J : Inv X pins σ' H' sI := J'.ofTry ok
    have sky' : Sky B (X.env :: X.outer) a (Zc cls d) X.env.locals s'.heap := by rw [← hs]; exact sky
    show wpAny (model X.prog X.w) X.A (noteFrame (.ref a) X.env) _ _ _
    refine Sky.land Zc.steady hfr hf sky' fun h3 fl3 up3 => ?_
    have J3 : Inv X pins σ' H' { s' with heap := h3 } := J.landed nb fl3.1 (up.trans up3) os ag
    obtain ⟨oe3, vs3, he3, hz3, hd3⟩ := fl3.there
    have notFr : ∀ {h : Heap} {o : Obj} {vs : Array Value}, h.FunFrames B (X.env :: X.outer) → h.get? a = some o → o.data = .fields vs → a ∉ frs (X.env :: X.outer) := fun {h o vs} ff e dd hm => by
      obtain ⟨_, o', e', hnf⟩ := ff.mem hm
      rw [e] at e'; cases e'
      exact hnf _ dd
    have nfr := notFr fl3.2.2.1 he3 hd3
    have nL : a ≠ X.env.locals := fun z => nfr (List.mem_filterMap.mpr ⟨X.env, List.mem_cons_self, by rw [hf, z]⟩)
    have nF : a ∉ X.fs := fun hm => by
      obtain ⟨e, he, q⟩ := List.mem_filterMap.mp hm
      exact nfr (List.mem_filterMap.mpr ⟨e, List.mem_cons_of_mem _ he, q⟩)
    have newI : sI.heap.get? a = none := by
      cases e : sI.heap.get? a with
      | none => rfl
      | some o =>
        have q := nb a o e (by rw [hs]; exact nfr)
        rw [fl3.2.1] at q
        cases q
    have new0 : X.s_0.heap.get? a = none := by
      cases e : X.s_0.heap.get? a with
      | none => rfl
      | some o =>
        obtain ⟨o', q⟩ := J.base.there a o e (by rw [hex]; exact fun z => nomatch z)
        rw [newI] at q
        cases q
    have npin : ∀ p ∈ X.pn ++ pins, p.1 ≠ a := fun p hp z => by
      have q := (J.pin p hp).1
      rw [z, newI] at q
      cases q
    have S3 := J3.suite he3 hd3 na nL nF
    refine wpAny_handleBy_cons (codeAny_handlers_test ?_) (by intro q; cases q)
    have LT : PySem.W.Looks (model X.prog X.w) h3 (typeOf (.ref a)) cls := fun A Q E s k q => wpAny_typeOf_ref (k _ _ he3) (by rw [hz3.1]; exact q)
    have LM := PySem.W.exm_one (M := model X.prog X.w) (J3.kIn) LT hb1
    have test : ∀ {Q : Value → Shared → Prop} {E : Value → Shared → Prop}, Q c { s' with heap := h3 } → wpAny (model X.prog X.w) (X.A.mark (some (.ref a))) (eval (.Name x np) X.env) Q E { s' with heap := h3 } := fun {Q E} q => by
      obtain ⟨hg, hdbg, hm | ⟨hm, hv, hnn⟩⟩ := hc
      · exact ld_glob (X := X.suite a ((a, oe3) :: (X.pn ++ pins))) S3 hg hm q hdbg
      · exact ld_blt (X := X.suite a ((a, oe3) :: (X.pn ++ pins))) S3 hg hm hv q hnn hdbg
    refine test (LM.here ?_)
    cases b with
    | true =>
      refine codeAny_handlers_suite_as ?_
      refine HandSPX.lands_againZ fl3 fun h4 fl4 up4 => ?_
      have J4 : Inv X pins σ' H' { s' with heap := h4 } := J.landed nb fl4.1 ((up.trans up3).trans up4) os ag
      obtain ⟨oe4, vs4, he4, hz4, hd4⟩ := fl4.there
      have S4 := J4.suite he4 hd4 na nL nF
      refine store_ok (X := X.suite a ((a, oe4) :: (X.pn ++ pins))) (v := .ref a) S4 hN hi hloc rfl (fun s5 S5 => ?_) (.inr hln)
      refine wpAny_mono ((hsu a oe4 cls d (X.pn ++ pins) hz4 ⟨_, hd4⟩).run [] s5 _ H' _ S5 (hyes rfl a na)) (fun f s6 hsp => ?_) (fun _ _ z => False.elim z)
      cases f with
      | next =>
        obtain ⟨σ6, H6, S6, q6⟩ := hsp
        have P6 := S6.pin (a, oe4) (List.mem_append_left _ List.mem_cons_self)
        have U6 := S6.unsuite ok
        have V6 : Inv X ((a, oe4) :: pins) σ6 H6 s6 := U6.pins_of fun p hp => by
          rcases List.mem_cons.mp hp with e | e
          · subst e
            exact ⟨P6.1, P6.2.1, P6.2.2.1, P6.2.2.2.1, P6.2.2.2.2⟩
          · exact U6.pin p (List.mem_append_right _ e)
        refine gone_ok V6 hN hi hln fun s7 J7 => ?_
        have P7 := J7.pin (a, oe4) (List.mem_append_right _ List.mem_cons_self)
        have J8 : Inv X pins (σ6.set i none) H6 s7 := J7.pins_of fun p hp => J7.pin p (List.mem_append_right _ (List.mem_cons_of_mem _ hp))
        exact ⟨_, _, J8.track P7.2.1 new0 P7.1 hd4 nL npin (exK_ok P7.1 hz4 hd4), q6 P6.2.1⟩
      | brk =>
        obtain ⟨σ6, H6, S6, q6⟩ := hsp
        exact q6.elim
      | cont =>
        obtain ⟨σ6, H6, S6, q6⟩ := hsp
        exact q6.elim
      | ret u =>
        obtain ⟨v6, σ6, H6, S6, r6, q6⟩ := hsp
        exact q6.elim
    | false =>
      show wpAny _ X.A (handleBy (.ref a) X.env []) _ _ _
      refine wpAny_handleBy_nil ?_
      obtain ⟨k1, k2, k3, oe, vs, T, oT, ts', he, hz, hd, h1, hr⟩ := id fl3
      unfold PySem.passOn
      refine wpAny_bind (wpAny_field he hd h1 ?_)
      rw [if_neg (show ¬ ((Value.ref T == Value.none) = true) from by simp)]
      have fin : wpAny (model X.prog X.w) X.A (setFlight (.ref a) X.env.frame) (fun _ s4 => wpAny (model X.prog X.w) X.A (throw (.ref a) : Sem Flow) (SP X pins D) X.xe s4) X.xe { s' with heap := h3 } := by
        rw [hf]
        refine HandSPX.setFlight_upZ fl3 fun h4 hh4 up4 => wpAny_throw (tk _ _ ?_)
        exact ⟨a, B, sI, pins, σ', H', cls, d, rfl, J, nb, (up.trans up3).trans up4, .inr (.inr (by rw [hs]; exact hh4)), na, os, ag, hno rfl⟩
      first
        | exact wpAny_bind (wpAny_pure (wpAny_bind fin))
        | exact wpAny_bind fin
  · cases f with
    | next =>
      obtain ⟨σ', H', J', q⟩ := hsp
      exact wpAny_execs_nil ⟨σ', H', J'.ofTry ok, q⟩
    | brk =>
      obtain ⟨σ', H', J', q⟩ := hsp
      exact ⟨σ', H', J'.ofTry ok, q⟩
    | cont =>
      obtain ⟨σ', H', J', q⟩ := hsp
      exact ⟨σ', H', J'.ofTry ok, q⟩
    | ret u =>
      obtain ⟨v, σ', H', J', r, q⟩ := hsp
      exact ⟨v, σ', H', J'.ofTry ok, r, q⟩
end
/-- e.f, e a kept error -/
def tXk (K : PySem.W.Frag) (f : Str) (te : TE) : TE := fun σ H Q => te σ H fun x H1 => ∃ (a C dd : Addr) (fs : List (Str × V)) (v : V), x = .ref a ∧ XfC K C ∧ PySem.W.findIn K (.ref C) f = some none ∧ H1 a = some (exK (.ref C) (some dd) a) ∧ H1 dd = some (.xd fs) ∧ fs.lookup f = some v ∧ Q v H1
theorem pe_xk {X : Cx} {e : Expr} {te : TE} {pos : Pos} {n : Str} (he : PE X e te) (hb : attributeBase e n X.env (eval e X.env) = eval e X.env := by rfl) : PE X (.Attribute e n pos) (tXk X.K n te) := by
  refine ⟨fun pins s σ H Q I h => ?_⟩
  refine attr_of hb (thn (he.run pins s σ H _ I h) fun u s1 hh => ?_)
  obtain ⟨x, H1, I1, rx, a, C, dd, fs, v, ex, T, hno, ea, ed, l, q⟩ := hh
  subst ex
  obtain rfl : u = Value.ref a := rx
  obtain ⟨⟨oe, vs, ha, hz, hd⟩, _, _⟩ := I1.hok a _ ea
  have hx : ObjOk X.prog X.w H1 s1.heap dd (.xd fs) := I1.hok dd _ ed
  obtain ⟨mA, hns, hr⟩ := hx
  obtain ⟨od, ho, hl⟩ := lookIn_ns hns
  obtain ⟨u, hu, ru⟩ := RelO.some_of (v := v) (o := mA n) (by rw [← l]; exact hr n)
  have J : PySem.W.InstAt s1.heap a oe C (some od) := ⟨ha, hz.1, by unfold PySem.W.notCls; rw [hd] <;> rfl, by rw [hz.2]; exact ho⟩
  exact HandSPX.exc_get I1.kIn J T.ga T.gg T.exC (PySem.W.findObj_own T.hdC hno rfl (by rw [hl, hu])) (handed_of ru) ⟨v, H1, I1.tok _, ru, q⟩
end L2
namespace PySem.W
open PySem PySem.Spec PySem.Calls PyProof.Rows
section
variable {prog : Program} {w : World} {A : Around} {E : Value → Shared → Prop} {s : Shared} {K : Frag} {x D : Addr} {ox od : Obj}
theorem kin_classK {Q : Option Value → Shared → Prop} (C : L2.ExcC K D) (X : K.In s.heap) (I : InstAt s.heap x ox D (some od)) (h : Q (some (.ref D)) { s with toks := s.toks + 1 }) : wpAny (model prog w) A (getAttr? (.ref x) "__class__") Q E s := by
  have hf : findObj K D (some od) "__class__" = some (.bind (.builtin "getset_descriptor.__get__") (.builtin "object.__class__")) := findObj_data (by obtain ⟨cd, hc, _⟩ := any_some C.hd; rw [hc]; rfl) C.ha C.hn C.ht
  obtain ⟨hp, g, d, t, os⟩ := s
  have L0 := I.type (M := model prog w)
  have L1 := looks_findIn (M := model prog w) X C.hg
  have L2 := looks_findIn (M := model prog w) X C.hk
  have L3 := looks_find (M := model prog w) X I hf
  have sub : Looks (model prog w) hp (isInstance (.ref x) (.type "BaseException")) true := L0.andThen (looks_subIn X C.hs)
  have hx0 : (false && onTheHeap (Value.builtin "BaseException.__getattribute__")) = false := rfl
  have hx2 : (Value.builtin "BaseException.__getattribute__" == Value.builtin "object.__getattribute__") = false := by decide +kernel
  have hx1 : (onTheHeap (Value.ref D) && Value.builtin "BaseException.__getattribute__" == Value.builtin "object.__getattribute__") = false := by rw [hx2]; rfl
  unfold getAttr? getAttrBy? getAttrBy
  refine wpAny_bind (wpAny_mkText (wpAny_bind (wpAny_attempt (wpAny_holding (wpAny_bind (L0.at (wpAny_bind (L1.at ?_))))))))
  show wpAny _ _ (if (onTheHeap (Value.ref D) && Value.builtin "BaseException.__getattribute__" == Value.builtin "object.__getattribute__") = true then _ else _) _ _ _
  rw [hx1, if_neg Bool.false_ne_true]
  unfold getAttrByItsOwn hookBefore
  refine wpAny_bind ?_
  rw [if_pos (show onTheHeap (Value.ref D) = true from rfl)]
  refine L2.at ?_
  refine wpAny_bind (wpAny_attempt (wpAny_holding ?_))
  unfold callGetattribute
  rw [hx0, if_neg Bool.false_ne_true]
  unfold boundAndCalled
  rw [PySem.F.excAttr_ValueError.ga.bind (.ref x)]
  refine wpAny_bind (wpAny_pure ?_)
  show wpAny _ _ (call (.builtin "BaseException.__getattribute__") [.ref x, .str "__class__" t]) _ _ _
  refine wpAny_call (codeAny_call_builtin PySem.F.excAttr_ValueError.ga.plain PySem.F.entry_bexc_ga ?_)
  refine @check_slot (model prog w) _ _ ⟨hp, g, d, t + 1, os⟩ "BaseException.__getattribute__" "BaseException" "__getattribute__" (.ref x) [.str "__class__" t] [] _ (by decide +kernel) (by decide +kernel) sub (PySem.F.args_bexc_ga (.ref x) (.str "__class__" t)) ?_
  unfold Builtin.«object.__getattribute__»
  refine wpAny_bind (wpAny_of_eq (a := ((Value.ref x : Value), [Value.str "__class__" t])) (by first | rfl | (simp only [slotArgs]; rfl)) ?_)
  refine wpAny_bind (wpAny_pure (wpAny_bind (L0.at (wpAny_bind (L3.at ?_)))))
  show wpAny _ _ (holding [Value.builtin "object.__class__"] (call (.builtin "getset_descriptor.__get__") [.builtin "object.__class__", .ref x, .ref D]) >>= ret) _ _ _
  refine wpAny_bind (wpAny_holding (wpAny_call (class_get (s := ⟨hp, g, d, t + 1, os⟩) (ox := ox) (od := some od) X I C.hm ?_)))
  refine wpAny_pure ?_
  show wpAny _ _ (handedOut (.ref D)) _ _ _
  rw [handedOut_of (v := .ref D) rfl]
  first
    | exact wpAny_pure (wpAny_pure h)
    | exact wpAny_pure h
    | exact wpAny_pure (wpAny_bind (wpAny_pure (wpAny_pure h)))
theorem kitx_K (C : L2.ExcC K D) : KitX K (.ref x) (.ref D) (fun h => InstAt h x ox D (some od)) where
  ty := fun _ _ _ I => I.type
  it := fun _ _ X _ => by
    obtain ⟨cdD, hcD, _⟩ := any_some C.hd
    unfold clsIn at hcD
    split at hcD
    · rename_i ho
      intro A' Q' E' s' k q
      unfold isType loadHead
      exact wpAny_bind (wpAny_loadPart (k _ _ (X _ _ ho)) (wpAny_pure q))
    · cases hcD
  ne := (handS_kitx_exc (x := x) (ox := ox) C.hg C.hk C.hs C.hd C.ha C.hn C.ht C.hm).ne
  ca := fun X I k => kin_classK C X I k
end
end PySem.W
namespace L2
open PySem PySem.Spec PyProof.Rows
theorem kit_same {K : PySem.W.Frag} {D : Addr} : PySem.W.kitOne K (.ref D) (.ref D) = some true := if_pos (beq_self_eq_true _)
theorem kit_ne {K : PySem.W.Frag} {D C : Addr} {b : Bool} (ne : (Value.ref D == Value.ref C) = false) (h1 : PySem.W.isClsIn K C = true) (h2 : PySem.W.typeIn K (.ref C) = some (.type "type")) (h3 : PySem.W.subIn K (.ref D) (.ref C) = some b) : PySem.W.kitOne K (.ref D) (.ref C) = some b := by
  unfold PySem.W.kitOne
  rw [ne, if_neg Bool.false_ne_true]
  have e : ((PySem.W.clsIn K C).isSome && PySem.W.typeIn K (.ref C) == some (.type "type")) = true := by
    have h1' : (PySem.W.clsIn K C).isSome = true := h1
    rw [h1', h2]
    rfl
  show (if ((PySem.W.clsIn K C).isSome && PySem.W.typeIn K (.ref C) == some (.type "type")) = true then PySem.W.subIn K (.ref D) (.ref C) else none) = some b
  rw [if_pos e]
  exact h3
/-- isinstance(e, c), e a kept error, c a class -/
def rIsK (K : PySem.W.Frag) : List V → Hp → VK → Prop := fun xs H Q => ∃ (a D dd : Addr) (fs : List (Str × V)) (c : V) (cv : Value) (b : Bool), xs = [.ref a, c] ∧ ClsV c cv ∧ ExcC K D ∧ H a = some (exK (.ref D) (some dd) a) ∧ H dd = some (.xd fs) ∧ PySem.W.kitOne K (.ref D) cv = some b ∧ Q (.bl b) H
theorem call_isK {X : Cx} : CallR X (.builtin "isinstance") (rIsK X.K) := by
  intro pins s σ H xs us Q I r h
  obtain ⟨a, D, dd, fs, c, cv, b, rfl, hcv, C, ea, ed, e, q⟩ := h
  obtain ⟨u1, u2, rfl, r1, r2⟩ := vals2 r
  have ec := hcv.eq r2
  subst ec
  cases (show u1 = Value.ref a from r1)
  obtain ⟨⟨oe, vs, ha, hz, hd⟩, _, _⟩ := I.hok a _ ea
  have hx : ObjOk X.prog X.w H s.heap dd (.xd fs) := I.hok dd _ ed
  obtain ⟨mA, hns, hr⟩ := hx
  obtain ⟨od, ho, hl⟩ := lookIn_ns hns
  have J : PySem.W.InstAt s.heap a oe D (some od) := ⟨ha, hz.1, by unfold PySem.W.notCls; rw [hd] <;> rfl, by rw [hz.2]; exact ho⟩
  exact PySem.W.kia_one (PySem.W.kitx_K C) I.kIn J e (fun z => nomatch z) fun tk => ⟨.bl b, H, I.kept (t' := tk) fun _ _ z => z, rfl, q⟩
end L2

/-! lists of places, dicts of places, own containers -/
namespace L2
open PySem PySem.Spec PyProof.Rows
/-! ### own containers -/
section
variable {X : Cx} {CX : CXT} {k : Nat} {C f : Addr} {fd : FuncData} {ps : List Str} {sp : Sp} {E : XK}
theorem run_own {A : Around} {pins : List (Addr × Obj)} {σ : St} {H : Hp} {s : Shared} {Q : VK} {us : List Value} {vs : List V} (F : FnOk X.prog X.w X.K X.mg X.base CX k f fd ps sp) (hr : Room k A) (hfr : A.frames = X.A.frames) (hb : Binds X.K fd ps []) (hx : Passes CX X E)
    (I : Inv X pins σ H s) (r : Vals vs us) (h : sp vs H Q E) : wpAny (model X.prog X.w) A (call (.ref f) us) (EP X pins σ Q) X.xe s := by
  have hl : us.length = ps.length := by rw [← r.length]; exact F.len _ _ _ _ h
  have e0 : Env0 X.prog X.w X.K X.mg X.base A X.stack s H := by
    have e := I.env0
    exact ⟨by rw [hfr]; exact e.frames, e.mod, e.bs, e.bsz, e.funs, e.frf, e.hok, e.bare⟩
  refine wpAny_call (codeAny_mono (F.run A X.stack s H ⟨us, []⟩ us vs Q E hr e0 (by
    have := hb s us I.kIn (by simpa using hl)
    simpa using this) r h) fun r s' hq => ?_)
  cases r with
  | error e => exact hx pins σ H s e s' I hq
  | ok fl =>
    cases fl with
    | ret u => exact I.after hq
    | next => exact False.elim hq
    | brk => exact False.elim hq
    | cont => exact False.elim hq
/-- y in x, the class's own __contains__ -/
def rInOwn (C : Addr) (sp : Sp) (E : XK) : R2 := fun y x H Q => ∃ a dx fs, x = .ref a ∧ H a = some (.ins C dx fs) ∧ sp [.ref a, y] H (fun v H' => ∃ b, v = .bl b ∧ Q (.bl b) H') E
theorem op_inOwn (F : FnOk X.prog X.w X.K X.mg X.base CX k f fd ps sp) (hr : Room k X.A) (hs : PySem.W.findIn X.K (.ref C) "__contains__" = some (some (.ref f))) (hf : PySem.W.isFn X.K (.ref f) = true) (hb : Binds X.K fd ps []) (hx : Passes CX X E) :
    OpR X (compareOp .In) (rInOwn C sp E) := by
  intro pins s σ H y x v u Q I ry rx h
  obtain ⟨a, dx, fs, rfl, ea, h⟩ := h
  cases rx
  obtain ⟨mA, J, _⟩ := ins_get I.hok ea
  obtain ⟨od, J, _⟩ := J.look
  obtain ⟨m, hF⟩ := I.fr
  have r2 : Vals [V.ref a, y] [Value.ref a, v] := .cons rfl (.cons ry .nil)
  refine PySem.W.in_K hF I.ok.mod.kin J hs hf (wpAny_mono (run_own F hr rfl hb hx I r2 h) (fun z s' q => ?_) fun _ _ e => e)
  obtain ⟨z', H', I', rz, b, rfl, q⟩ := q
  obtain rfl : z = .bool b := rz
  exact wpAny_truthy_bool ⟨.bl b, H', I', rfl, q⟩
/-- x op y of two of the class, by its own method -/
def rBinOwn (C : Addr) (sp : Sp) (E : XK) : R2 := fun x y H Q => ∃ a dx fs b dy gs, x = .ref a ∧ y = .ref b ∧ H a = some (.ins C dx fs) ∧ H b = some (.ins C dy gs) ∧ sp [.ref a, .ref b] H (fun v H' => (∃ c, v = .ref c) ∧ Q v H') E
theorem op_binOwn {op : Operator} (F : FnOk X.prog X.w X.K X.mg X.base CX k f fd ps sp) (hr : Room k X.A) (hc : PySem.W.selfFirst X.K C = true) (hs : PySem.W.findIn X.K (.ref C) (PySem.dunder op.info.2) = some (some (.ref f))) (hf : PySem.W.isFn X.K (.ref f) = true) (hb : Binds X.K fd ps []) (hx : Passes CX X E) :
    OpR X (binaryOp op) (rBinOwn C sp E) := by
  intro pins s σ H x y v u Q I rx ry h
  obtain ⟨a, dx, fs, b, dy, gs, rfl, rfl, ea, eb, h⟩ := h
  cases rx
  cases ry
  obtain ⟨mA, J, _⟩ := ins_get I.hok ea
  obtain ⟨od, J, _⟩ := J.look
  obtain ⟨mB, J', _⟩ := ins_get I.hok eb
  obtain ⟨od', J', _⟩ := J'.look
  obtain ⟨m, hF⟩ := I.fr
  have r2 : Vals [V.ref a, V.ref b] [Value.ref a, Value.ref b] := .cons rfl (.cons rfl .nil)
  refine PySem.W.binop_K hF I.ok.mod.kin J J'.type hc hs hf (wpAny_mono (run_own F hr rfl hb hx I r2 h) (fun z s' q => ?_) fun _ _ e => e)
  obtain ⟨z', H', I', rz, ⟨c, rfl⟩, q⟩ := q
  obtain rfl : z = .ref c := rz
  exact ⟨.ref c, H', I', rfl, q⟩
/-- x == y of two of the class, by its own __eq__ that gives a bool -/
def rEqOwn (C : Addr) (sp : Sp) (E : XK) : R2 := fun x y H Q => ∃ a dx fs b dy gs, x = .ref a ∧ y = .ref b ∧ H a = some (.ins C dx fs) ∧ H b = some (.ins C dy gs) ∧ sp [.ref a, .ref b] H (fun v H' => ∃ c, v = .bl c ∧ Q (.bl c) H') E
theorem op_eqOwn (F : FnOk X.prog X.w X.K X.mg X.base CX k f fd ps sp) (hr : Room k X.A) (hs : PySem.W.findIn X.K (.ref C) "__eq__" = some (some (.ref f))) (hf : PySem.W.isFn X.K (.ref f) = true) (hb : Binds X.K fd ps []) (hx : Passes CX X E) :
    OpR X (compareOp .Eq) (rEqOwn C sp E) := by
  intro pins s σ H x y v u Q I rx ry h
  obtain ⟨a, dx, fs, b, dy, gs, rfl, rfl, ea, eb, h⟩ := h
  cases rx
  cases ry
  obtain ⟨mA, J, _⟩ := ins_get I.hok ea
  obtain ⟨od, J, _⟩ := J.look
  obtain ⟨mB, J', _⟩ := ins_get I.hok eb
  obtain ⟨od', J', _⟩ := J'.look
  obtain ⟨m, hF⟩ := I.fr
  have r2 : Vals [V.ref a, V.ref b] [Value.ref a, Value.ref b] := .cons rfl (.cons rfl .nil)
  show wpAny (model X.prog X.w) X.A (richCompare .Eq (.ref a) (.ref b)) (EP X pins σ Q) X.xe s
  refine PySem.W.cmp_K (op := .Eq) (tb := .ref C) hr.units0 hF I.ok.mod.kin J J'.type (by simp [PySem.W.notFirst]) hs hf (wpAny_mono (run_own F hr rfl hb hx I r2 h) (fun z s' q => ?_) fun _ _ e => e)
  obtain ⟨z', H', I', rz, c, rfl, q⟩ := q
  obtain rfl : z = .bool c := rz
  exact ⟨.bl c, H', I', rfl, q⟩
/-- len(x), the class's own __len__ -/
def rLenOwn (C : Addr) (sp : Sp) (E : XK) : List V → Hp → VK → Prop := fun vs H Q => ∃ a dx fs, vs = [.ref a] ∧ H a = some (.ins C dx fs) ∧ sp [.ref a] H (fun v H' => ∃ n : Int, v = .int n ∧ 0 ≤ n ∧ n < 2 ^ 63 ∧ Q (.int n) H') E
theorem call_lenOwn (F : FnOk X.prog X.w X.K X.mg X.base CX k f fd ps sp) (hr : Room (k + 1) X.A) (hs : PySem.W.findIn X.K (.ref C) "__len__" = some (some (.ref f))) (hf : PySem.W.isFn X.K (.ref f) = true) (hb : Binds X.K fd ps []) (hx : Passes CX X E) :
    CallR X (.builtin "len") (rLenOwn C sp E) := by
  intro pins s σ H vs us Q I r h
  obtain ⟨a, dx, fs, rfl, ea, h⟩ := h
  obtain rfl := Vals.ref1 r
  obtain ⟨mA, J, _⟩ := ins_get I.hok ea
  obtain ⟨od, J, _⟩ := J.look
  obtain ⟨m, hF⟩ := I.fr
  have r1 : Vals [V.ref a] [Value.ref a] := .cons rfl .nil
  refine PySem.W.len_K hF I.ok.mod.kin J hs hf (wpAny_mono (run_own (A := X.A.in1) F hr.in1 rfl hb hx I r1 h) (fun z s' q => ?_) fun _ _ e => e)
  obtain ⟨z', H', I', rz, n, rfl, h0, h1, q⟩ := q
  obtain ⟨t, rfl⟩ : ∃ t, z = .int n t := rz
  exact ⟨⟨h0, h1⟩, .int n, H', I'.tok _, ⟨_, rfl⟩, q⟩
/-- y in d, d[y] of a dict, as operations -/
def rInDct : R2 := fun y x H Q => ∃ a o, x = .ref a ∧ DGet H a y o ∧ Q (.bl o.isSome) H
theorem op_inDct (hu : X.A.units + 64 < cLine) : OpR X (compareOp .In) rInDct := by
  intro pins s σ H y x v u Q I ry rx h
  obtain ⟨a, o, rfl, g, q⟩ := h
  cases rx
  exact d_in (by omega) I g ry fun s3 I3 => ⟨.bl o.isSome, H, I3, rfl, q⟩
def rNotInDct : R2 := fun y x H Q => ∃ a o, x = .ref a ∧ DGet H a y o ∧ Q (.bl (!o.isSome)) H
theorem op_notInDct (hu : X.A.units + 64 < cLine) : OpR X (compareOp .NotIn) rNotInDct := by
  intro pins s σ H y x v u Q I ry rx h
  obtain ⟨a, o, rfl, g, q⟩ := h
  cases rx
  exact d_notIn (by omega) I g ry fun s3 I3 => ⟨.bl (!o.isSome), H, I3, rfl, q⟩
end

/-! ### lists of places -/
abbrev kI (ns : List Int) : List Key := ns.map Sum.inl
theorem kI_v (ns : List Int) : (kI ns).map kV = ns.map V.int := by
  rw [List.map_map]
  rfl
theorem kI_inj : ∀ {a b : List Int}, kI a = kI b → a = b
  | [], [], _ => rfl
  | [], _ :: _, e => nomatch e
  | _ :: _, [], e => nomatch e
  | x :: xs, y :: ys, e => by
    injection e with e1 e2
    rw [Sum.inl.inj e1, kI_inj e2]
theorem TupI.key {H : Hp} {t : Addr} {ns : List Int} (h : TupI H t ns) : H t = some (.tup ((kI ns).map kV)) := by rw [kI_v]; exact h
/-- the list at a holds the places ss -/
def TsI (H : Hp) (ts : List Addr) (ss : List (List Int)) : Prop := Paired (TupI H) ts ss
theorem TsI.same {H H' : Hp} {ts : List Addr} {ss : List (List Int)} (h : TsI H ts ss) (e : Same H H') : TsI H' ts ss := Paired.mapP h fun _ _ z => z.same e
def LT (H : Hp) (a : Addr) (ss : List (List Int)) : Prop := ∃ ts, H a = some (.lst (ts.map V.ref)) ∧ TsI H ts ss
theorem LT.same {H H' : Hp} {a : Addr} {ss : List (List Int)} (h : LT H a ss) (e : Same H H') : LT H' a ss := let ⟨ts, h1, h2⟩ := h; ⟨ts, e _ _ h1, h2.same e⟩

/-! ### sorted -/
abbrev tleI : List Int → List Int → Bool := PySem.W.dataLe false fun s => PyData.tuple (s.map PyData.int)
/-- the places in ascending order -/
def srt (ss : List (List Int)) : List (List Int) := ss.mergeSort tleI
theorem srt_len (ss : List (List Int)) : (srt ss).length = ss.length := List.length_mergeSort ..
theorem srt_perm (ss : List (List Int)) : (srt ss).Perm ss := List.mergeSort_perm ..
theorem readsAll_ints {h : Heap} : ∀ {ns : List Int} {us : List Value}, Vals (ns.map V.int) us → ReadsAll h us (ns.map PyData.int) []
  | [], _, r => by rw [List.map_nil] at r; cases r; exact .nil
  | n :: ns, _, r => by
    rw [List.map_cons] at r
    cases r with
    | cons e t =>
      obtain ⟨tk, rfl⟩ : ∃ tk, _ = Value.int n tk := e
      exact .cons (as := []) (.int n tk) (readsAll_ints t)
theorem alike_ints : ∀ a b : List Int, PySem.W.alikeAll (a.map PyData.int) (b.map PyData.int) = true
  | [], _ => by simp [PySem.W.alikeAll]
  | _ :: _, [] => by simp [PySem.W.alikeAll]
  | x :: xs, y :: ys => by
    rw [List.map_cons, List.map_cons, PySem.W.alikeAll, alike_ints xs ys]
    simp [PySem.W.alike]
def rSortedTI (K : PySem.W.Frag) : List V → Hp → VK → Prop := fun vs H Q => ∃ (a : Addr) (ts : List Addr) (ss : List (List Int)), vs = [.ref a] ∧ SqL K H a (ts.map V.ref) ∧ TsI H ts ss ∧ (∀ s ∈ ss, s ≠ []) ∧
  ∀ (ts' : List Addr) (p : Addr), TsI H ts' (srt ss) → H p = none → Q (.ref p) (upd H p (.lst (ts'.map V.ref)))
theorem each_of_ts {X : Cx} {pins : List (Addr × Obj)} {σ : St} {H : Hp} {s : Shared} (I : Inv X pins σ H s) : ∀ {ts : List Addr} {ss : List (List Int)}, TsI H ts ss →
    PySem.W.EachIs (fun v b => ∃ t, v = Value.ref t ∧ TupI H t b) (ts.map Value.ref) ss ∧ PySem.W.EachIs (fun v (b : List Int) => ∃ as, Reads s.heap v (.tuple (b.map PyData.int)) as) (ts.map Value.ref) ss := by
  intro ts ss h
  unfold TsI at h
  induction h with
  | nil => exact ⟨.nil, .nil⟩
  | @cons t b ts ss h _ ih =>
    refine ⟨.cons ⟨t, rfl, h⟩ ih.1, .cons ?_ ih.2⟩
    obtain ⟨_, its, r, o, h1, h2, n, h3⟩ := (show ObjOk X.prog X.w H s.heap t (.tup (b.map V.int)) from I.hok t _ h)
    exact ⟨[], .tuple h1 h2 h3 (by simpa using readsAll_ints r)⟩
theorem ts_of_each {H : Hp} : ∀ {out : List Value} {ss : List (List Int)}, PySem.W.EachIs (fun v b => ∃ t, v = Value.ref t ∧ TupI H t b) out ss → ∃ ts, out = ts.map Value.ref ∧ TsI H ts ss
  | _, _, .nil => ⟨[], rfl, .nil⟩
  | _, _, .cons ⟨t, e, h⟩ r => by
    obtain ⟨ts, e2, h2⟩ := ts_of_each r
    exact ⟨t :: ts, by rw [e, e2]; rfl, .cons h h2⟩
theorem valsRefs : ∀ ts : List Addr, Vals (ts.map V.ref) (ts.map Value.ref)
  | [] => .nil
  | t :: ts => .cons rfl (valsRefs ts)
theorem cr_sortedTI {X : Cx} (hu : X.A.units + 64 < cLine) : CallR X (.builtin "sorted") (rSortedTI X.K) := by
  intro pins s σ H vs us Q I r h
  obtain ⟨a, ts, ss, rfl, hs, hT, hne, q⟩ := h
  obtain ⟨its, rv, hl, hz⟩ := I.list hs
  obtain rfl := refs_at rv
  rw [Vals.ref1 r]
  obtain ⟨e1, e2⟩ := each_of_ts I hT
  have hlen : ts.length = ss.length := Paired.length hT
  refine PySem.W.sorted_data (enc := fun b : List Int => PyData.tuple (b.map PyData.int)) hl.isList e1 e2 ?_ ?_ (by rw [← hlen, ← List.length_map (f := V.ref)]; exact hz) (fun b _ => ?_) fun out hL eo => ?_
  · refine PySem.W.AllAlike.of fun b b' => ?_
    rw [PySem.W.alike]
    exact alike_ints b b'
  · refine .inl fun d hd => ?_
    obtain ⟨b, hb, rfl⟩ := List.mem_map.mp hd
    cases b with
    | nil => exact absurd rfl (hne _ hb)
    | cons x xs => exact ⟨_, _, rfl⟩
  · have e : (PyData.tuple (b.map PyData.int)).depth ≤ 1 := by
      show PyData.depthAll _ + 1 ≤ 1
      rw [depth_ints]
      exact Nat.le_refl _
    omega
  · obtain ⟨ts', rfl, hT'⟩ := ts_of_each eo
    obtain ⟨ep, he'⟩ := PyProof.Rows.sortedAll_at s.heap (ts.map Value.ref) (ts'.map Value.ref).toArray
    have hl2 : (ts'.map V.ref).length ≤ sizeLine := by
      rw [List.length_map, ← List.length_map (f := Value.ref), hL, ← hlen, ← List.length_map (f := V.ref)]
      exact hz
    exact ⟨.ref _, upd H (s.heap.objs.size + 1) (.lst (ts'.map V.ref)), I.laid (t' := s.toks) (fun _ _ => PyProof.Rows.sortedAll_old) (Nat.le_succ _) ⟨hl2, ts'.map Value.ref, ep, valsRefs ts', he'⟩, rfl, q _ _ hT' (I.hok.fresh (Nat.le_succ _))⟩
end L2

namespace L2
open PySem PySem.Spec PyProof.Rows
def kwM {α : Type} (xs ys : List α) : List α := xs ++ ys
theorem kwM_rel {vs : List V} {us : List Value} {zs : List V} {ws : List Value} (h : Vals vs us) (k : Vals zs ws) : Vals (kwM vs zs) (kwM us ws) := h.append k
/-! ### pictures -/
def wk (ss : List (List Int)) (word : Str) : List (List Key × V) := ss.map fun s => (kI s, V.str word)
theorem wk_snoc (ss : List (List Int)) (s : List Int) (word : Str) : wk (ss ++ [s]) word = wk ss word ++ [(kI s, V.str word)] := List.map_append ..
theorem valV_app (k : List Key) : ∀ l1 l2 : List (List Key × V), valV (l1 ++ l2) k = (valV l1 k).or (valV l2 k)
  | [], l2 => rfl
  | q :: l1, l2 => by
    by_cases e : q.1 = k
    · rw [List.cons_append, valV_pos e, valV_pos e]
      rfl
    · rw [List.cons_append, valV_neg e, valV_neg e]
      exact valV_app k l1 l2
theorem valV_wk (word : Str) (s : List Int) : ∀ ss : List (List Int), valV (wk ss word) (kI s) = if s ∈ ss then some (V.str word) else none
  | [] => rfl
  | t :: ss => by
    show valV ((kI t, V.str word) :: wk ss word) (kI s) = _
    by_cases e : t = s
    · subst e
      rw [valV_pos rfl, if_pos List.mem_cons_self]
    · rw [valV_neg (fun z => e (kI_inj z)), valV_wk word s ss]
      by_cases h : s ∈ ss
      · rw [if_pos h, if_pos (List.mem_cons_of_mem _ h)]
      · rw [if_neg h, if_neg fun z => (List.mem_cons.mp z).elim (fun q => e q.symm) h]
theorem valV_words (a b : Str) (s : List Int) (lit dim : List (List Int)) : valV (wk lit a ++ wk dim b) (kI s) = if s ∈ lit then some (V.str a) else if s ∈ dim then some (V.str b) else none := by
  rw [valV_app, valV_wk, valV_wk]
  by_cases h : s ∈ lit
  · rw [if_pos h, if_pos h]
    rfl
  · rw [if_neg h, if_neg h]
    rfl
theorem some_words (a b : Str) (s : List Int) (lit dim : List (List Int)) : (valV (wk lit a ++ wk dim b) (kI s)).isSome = decide (s ∈ lit ++ dim) := by
  rw [valV_words]
  by_cases h : s ∈ lit
  · rw [if_pos h, decide_eq_true (List.mem_append.mpr (.inl h))]
    rfl
  · by_cases h2 : s ∈ dim
    · rw [if_neg h, if_pos h2, decide_eq_true (List.mem_append.mpr (.inr h2))]
      rfl
    · rw [if_neg h, if_neg h2, decide_eq_false fun z => (List.mem_append.mp z).elim h h2]
      rfl
def pflds (n : Int) (w a b : Addr) : List (Str × V) := [("_words", .ref w), ("_size", .int n), ("_seen", .ref a), ("_hidden", .ref b)]
/-- the places of a picture -/
structure Wf (n : Int) (lit dim : List (List Int)) : Prop where
  size : n = 2 ∨ n = 3
  each : ∀ s ∈ lit ++ dim, (s.length : Int) = n
  nd : (lit ++ dim).Nodup
  few : (lit ++ dim).length ≤ 100000
theorem Wf.ne {n : Int} {lit dim : List (List Int)} (h : Wf n lit dim) : ∀ s ∈ lit ++ dim, s ≠ [] := fun s hs e => by
  have h1 := h.each s hs
  have h2 := h.size
  rw [e] at h1
  have h3 : (0 : Int) = n := h1
  omega
/-- a picture at p, made behind H0 -/
def Pic (C : Addr) (H0 H : Hp) (p : Addr) (n : Int) (lit dim : List (List Int)) : Prop :=
  Wf n lit dim ∧ ∃ dx w a b, H p = some (.ins C dx (pflds n w a b)) ∧ H w = some (.dT (wk lit "seen" ++ wk dim "hidden")) ∧ LT H a (srt lit) ∧ LT H b (srt dim) ∧ H0 p = none ∧ H0 w = none ∧ H0 a = none ∧ H0 b = none
section
variable {C : Addr} {H0 H H' : Hp} {p : Addr} {n : Int} {lit dim : List (List Int)}
theorem Pic.same (h : Pic C H0 H p n lit dim) (e : Same H H') : Pic C H0 H' p n lit dim :=
  let ⟨hw, dx, w, a, b, h1, h2, h3, h4, h5⟩ := h; ⟨hw, dx, w, a, b, e _ _ h1, e _ _ h2, h3.same e, h4.same e, h5⟩
theorem Pic.old {G : Hp} (h : Pic C H0 H p n lit dim) (e : Same G H0) : Pic C G H p n lit dim :=
  let ⟨hw, dx, w, a, b, h1, h2, h3, h4, h5, h6, h7, h8⟩ := h; ⟨hw, dx, w, a, b, h1, h2, h3, h4, e.free h5, e.free h6, e.free h7, e.free h8⟩
/-- a list that is older than the picture is changed -/
theorem TupI.put {t D : Addr} {ns : List Int} {xs : List V} {o : HO} (h : TupI H t ns) (hD : H D = some (.lst xs)) : TupI (upd H D o) t ns := by
  have e : t ≠ D := fun z => by
    subst z
    have := hD.symm.trans h
    injection this with this
    injection this
  exact (upd_ne e).trans h
theorem TsI.put {D : Addr} {ts : List Addr} {ss : List (List Int)} {xs : List V} {o : HO} (h : TsI H ts ss) (hD : H D = some (.lst xs)) : TsI (upd H D o) ts ss := Paired.mapP h fun _ _ z => z.put hD
theorem LT.put {a D : Addr} {ss : List (List Int)} {xs : List V} {o : HO} (h : LT H a ss) (hD : H D = some (.lst xs)) (n : a ≠ D) : LT (upd H D o) a ss := let ⟨ts, h1, h2⟩ := h; ⟨ts, (upd_ne n).trans h1, h2.put hD⟩
theorem Pic.put {D : Addr} {xs : List V} {o o0 : HO} (h : Pic C H0 H p n lit dim) (h0 : H0 D = some o0) (hD : H D = some (.lst xs)) : Pic C H0 (upd H D o) p n lit dim := by
  obtain ⟨hw, dx, w, a, b, h1, h2, h3, h4, h5, h6, h7, h8⟩ := h
  have q : ∀ {x : Addr}, H0 x = none → x ≠ D := fun hx z => by
    rw [z, h0] at hx
    cases hx
  exact ⟨hw, dx, w, a, b, (upd_ne (q h5)).trans h1, (upd_ne (q h6)).trans h2, h3.put hD (q h7), h4.put hD (q h8), h5, h6, h7, h8⟩
end
end L2

namespace L2
open PySem PySem.Spec PyProof.Rows
theorem pairGet {α β : Type} {F : α → β → Prop} {l1 : List α} {l2 : List β} (h : Paired F l1 l2) : ∀ {i : Nat} {x : α}, l1[i]? = some x → ∃ y, l2[i]? = some y ∧ F x y := by
  induction h with
  | nil => intro i x h; simp at h
  | @cons a b as bs h t ih =>
    intro i x hx
    cases i with
    | zero =>
      rw [List.getElem?_cons_zero] at hx
      obtain rfl := Option.some.inj hx
      exact ⟨b, List.getElem?_cons_zero, h⟩
    | succ i =>
      rw [List.getElem?_cons_succ] at hx ⊢
      exact ih hx
theorem ts_at {H : Hp} {ts : List Addr} {ss : List (List Int)} (h : TsI H ts ss) {i : Nat} {x : V} (hx : (ts.map V.ref)[i]? = some x) : ∃ t s, x = .ref t ∧ TupI H t s ∧ ss[i]? = some s := by
  rw [List.getElem?_map] at hx
  cases e : ts[i]? with
  | none => rw [e] at hx; cases hx
  | some t =>
    rw [e] at hx
    obtain ⟨s, h1, h2⟩ := pairGet h e
    exact ⟨t, s, (Option.some.inj hx).symm, h2, h1⟩
theorem ts_len {H : Hp} {ts : List Addr} {ss : List (List Int)} (h : TsI H ts ss) : (ts.map V.ref).length = ss.length := (List.length_map ..).trans (Paired.length h)
/-- a name's list in a dict of words grows by the next place -/
theorem put_next {kvs : List (List Key × V)} {ss : List (List Int)} {i : Nat} {s : List Int} {word : Str} (hs : ss[i]? = some s) (nd : ss.Nodup) (hn : ∀ s ∈ ss, valV kvs (kI s) = none) :
    valV (kvs ++ wk (ss.take i) word) (kI s) = none ∧ putK (kvs ++ wk (ss.take i) word) (kI s) (V.str word) = kvs ++ wk (ss.take (i + 1)) word := by
  have h1 : valV (kvs ++ wk (ss.take i) word) (kI s) = none := by
    rw [valV_app, hn s (List.mem_of_getElem? hs), valV_wk, if_neg]
    · rfl
    · intro hm
      obtain ⟨j, hj⟩ := List.mem_iff_getElem?.mp hm
      have hji : j < i := by
        have h := (List.getElem?_eq_some_iff.mp hj).1
        rw [List.length_take] at h
        omega
      rw [List.getElem?_take_of_lt hji] at hj
      have hl : j < ss.length := (List.getElem?_eq_some_iff.mp hj).1
      have := (List.getElem?_inj hl nd).mp (hj.trans hs.symm)
      omega
  refine ⟨h1, ?_⟩
  rw [putK_new _ h1, take_more hs, wk_snoc, List.append_assoc]
end L2

namespace L2
open PySem PySem.Spec PyProof.Rows
section
variable {σ : St} {H : Hp} {Q : VK} {ta tv te : TE} {f : Str} {D : Ends} {t2 : TS} {K : PySem.W.Frag}
theorem r_seqFld (k : tv σ H fun y H1 => ta σ H1 fun x H2 => ∃ a C dx fs, x = .ref a ∧ H2 a = some (.ins C dx fs) ∧ Cls K C ∧ NoAttr K C f ∧ fs.length < 1000 ∧ t2 D σ (upd H2 a (.ins C dx (putF f y fs)))) : tSeq (sFld K ta tv f) t2 D σ H := k
theorem r_fldS (k : tv σ H fun y H1 => ta σ H1 fun x H2 => ∃ a C dx fs, x = .ref a ∧ H2 a = some (.ins C dx fs) ∧ Cls K C ∧ NoAttr K C f ∧ fs.length < 1000 ∧ D.nx σ (upd H2 a (.ins C dx (putF f y fs)))) : sFld K ta tv f D σ H := k
theorem r_fld (k : te σ H fun x H1 => ∃ a C dx fs v, x = .ref a ∧ H1 a = some (.ins C dx fs) ∧ Cls K C ∧ NoAttr K C f ∧ fs.lookup f = some v ∧ Q v H1) : tFld K te f σ H Q := k
theorem r_prop {C : Addr} {sp : Sp} {dvs : List V} {E : XK} (k : te σ H fun x H1 => ∃ a dx fs, x = .ref a ∧ H1 a = some (.ins C dx fs) ∧ sp (.ref a :: dvs) H1 Q E) : tProp C sp dvs E te σ H Q := k
end
section
variable {H H' : Hp} {p a dx C : Addr} {fs : List (Str × V)} {K : PySem.W.Frag} {xs : List V}
theorem SqL.but (h : SqL K H a xs) (hp : H p = some (.ins C dx fs)) (e : But p H H') : SqL K H' a xs := by
  have n : ∀ u, H a = some u → (∀ C dx fs, u ≠ .ins C dx fs) → a ≠ p := fun u hu hn z => by
    rw [z, hp] at hu
    exact hn _ _ _ (Option.some.inj hu).symm
  rcases h with (h | ⟨o, h⟩) | h
  · exact .inl (.inl (e _ _ (n _ h fun _ _ _ q => nomatch q) h))
  · exact .inl (.inr ⟨o, e _ _ (n _ h fun _ _ _ q => nomatch q) h⟩)
  · exact .inr h
theorem TupI.but {t : Addr} {ns : List Int} (h : TupI H t ns) (hp : H p = some (.ins C dx fs)) (e : But p H H') : TupI H' t ns := e _ _ (fun z => by
  have h' : H t = _ := h
  rw [z, hp] at h'
  injection h' with h'
  injection h') h
theorem TsI.but {ts : List Addr} {ss : List (List Int)} (h : TsI H ts ss) (hp : H p = some (.ins C dx fs)) (e : But p H H') : TsI H' ts ss := Paired.mapP h fun _ _ z => z.but hp e
end
theorem kW1 : ¬ (("_words" : Str) = "_size") := by decide +kernel
theorem kW2 : ¬ (("_words" : Str) = "_seen") := by decide +kernel
theorem kW3 : ¬ (("_words" : Str) = "_hidden") := by decide +kernel
theorem kS2 : ¬ (("_size" : Str) = "_seen") := by decide +kernel
theorem kS3 : ¬ (("_size" : Str) = "_hidden") := by decide +kernel
theorem kE3 : ¬ (("_seen" : Str) = "_hidden") := by decide +kernel
theorem pflds_put (n : Int) (w a b : Addr) : putF "_hidden" (.ref b) (putF "_seen" (.ref a) (putF "_size" (.int n) (putF "_words" (.ref w) []))) = pflds n w a b := by
  simp only [putF, if_neg kW1, if_neg kW2, if_neg kW3, if_neg kS2, if_neg kS3, if_neg kE3]
  rfl
theorem bne_str {x y : Str} (h : ¬ x = y) : (y == x) = false := beq_eq_false_iff_ne.mpr fun e => h e.symm
theorem pf_words (n : Int) (w a b : Addr) : (pflds n w a b).lookup ("_words" : Str) = some (V.ref w) := by
  rw [← pflds_put, lookup_putF, if_neg kW3, lookup_putF, if_neg kW2, lookup_putF, if_neg kW1, lookup_putF, if_pos rfl]
theorem pf_size (n : Int) (w a b : Addr) : (pflds n w a b).lookup ("_size" : Str) = some (V.int n) := by
  rw [← pflds_put, lookup_putF, if_neg kS3, lookup_putF, if_neg kS2, lookup_putF, if_pos rfl]
theorem pf_seen (n : Int) (w a b : Addr) : (pflds n w a b).lookup ("_seen" : Str) = some (V.ref a) := by
  rw [← pflds_put, lookup_putF, if_neg kE3, lookup_putF, if_pos rfl]
theorem pf_hidden (n : Int) (w a b : Addr) : (pflds n w a b).lookup ("_hidden" : Str) = some (V.ref b) := by
  rw [← pflds_put, lookup_putF, if_pos rfl]
end L2

namespace L2
open PySem PySem.Spec PyProof.Rows
theorem But.putN {p D : Addr} {H H1 : Hp} {o : HO} (a : But p H H1) (n : H D = none) : But p H (upd H1 D o) := fun c u hc h => by
  rw [upd_ne (ne_of_none h n)]
  exact a c u hc h
/-- places as keys of one value -/
def wv (ss : List (List Int)) (v : V) : List (List Key × V) := ss.map fun s => (kI s, v)
theorem valV_wv (v : V) (s : List Int) : ∀ ss : List (List Int), valV (wv ss v) (kI s) = if s ∈ ss then some v else none
  | [] => rfl
  | t :: ss => by
    show valV ((kI t, v) :: wv ss v) (kI s) = _
    by_cases e : t = s
    · subst e
      rw [valV_pos rfl, if_pos List.mem_cons_self]
    · rw [valV_neg (fun z => e (kI_inj z)), valV_wv v s ss]
      by_cases h : s ∈ ss
      · rw [if_pos h, if_pos (List.mem_cons_of_mem _ h)]
      · rw [if_neg h, if_neg fun z => (List.mem_cons.mp z).elim (fun q => e q.symm) h]
theorem some_wv (v : V) (s : List Int) (ss : List (List Int)) : (valV (wv ss v) (kI s)).isSome = decide (s ∈ ss) := by
  rw [valV_wv]
  by_cases h : s ∈ ss
  · rw [if_pos h, decide_eq_true h]
    rfl
  · rw [if_neg h, decide_eq_false h]
    rfl
theorem put_wv {ss : List (List Int)} {s : List Int} (v : V) (h : s ∉ ss) : putK (wv ss v) (kI s) v = wv (ss ++ [s]) v := by
  rw [putK_new _ (by rw [valV_wv, if_neg h])]
  unfold wv
  rw [List.map_append]
  rfl
theorem nodup_take_next {ss : List (List Int)} {i : Nat} {s : List Int} (hs : ss[i]? = some s) (nd : ss.Nodup) : s ∉ ss.take i := fun hm => by
  obtain ⟨j, hj⟩ := List.mem_iff_getElem?.mp hm
  have hji : j < i := by
    have h := (List.getElem?_eq_some_iff.mp hj).1
    rw [List.length_take] at h
    omega
  rw [List.getElem?_take_of_lt hji] at hj
  have hl : j < ss.length := (List.getElem?_eq_some_iff.mp hj).1
  have := (List.getElem?_inj hl nd).mp (hj.trans hs.symm)
  omega
theorem TsI.but' {p : Addr} {H H' : Hp} {ts : List Addr} {ss : List (List Int)} (h : TsI H ts ss) (hp : Spr H p) (e : But p H H') : TsI H' ts ss := Paired.mapP h fun _ _ z => e _ _ (hp.tupNe z) z
/-- what stands while places are drawn -/
structure SpI (H H' : Hp) (p B S d F : Addr) (bs cs : List Int) (sh ss : List (List Int)) (ts : List Addr) : Prop where
  but : But p H H'
  spr : Spr H' p
  b : H' B = some (.lst (bs.map V.int))
  s : H' S = some (.lst (cs.map V.int))
  d : H' d = some (.dT (wv (sh ++ ss) (.bl true)))
  f : H' F = some (.lst (ts.map V.ref))
  tt : TsI H' ts ss
theorem SpI.to {H H' H2 : Hp} {p B S d F : Addr} {bs cs : List Int} {sh ss : List (List Int)} {ts : List Addr} (h : SpI H H' p B S d F bs cs sh ss ts) (e : But p H' H2) (hs : Spr H2 p) (nB : B ≠ p) (nS : S ≠ p) (nF : F ≠ p) : SpI H H2 p B S d F bs cs sh ss ts :=
  ⟨h.but.trans e, hs, e _ _ nB h.b, e _ _ nS h.s, e _ _ (fun z => by
    obtain ⟨x, y, z', h1, _⟩ := h.spr
    have h2 := h.d
    rw [z, h1] at h2
    injection h2 with h2
    injection h2) h.d, e _ _ nF h.f, h.tt.but' h.spr e⟩
theorem SpI.same {H H' H2 : Hp} {p B S d F : Addr} {bs cs : List Int} {sh ss : List (List Int)} {ts : List Addr} (h : SpI H H' p B S d F bs cs sh ss ts) (e : Same H' H2) : SpI H H2 p B S d F bs cs sh ss ts :=
  ⟨h.but.same e, h.spr.same e, e _ _ h.b, e _ _ h.s, e _ _ h.d, e _ _ h.f, h.tt.same e⟩
end L2

namespace L2
open PySem PySem.Spec PyProof.Rows
/-- another list is changed -/
theorem SpI.put {H H' : Hp} {p B S d F D : Addr} {bs cs : List Int} {sh ss : List (List Int)} {ts : List Addr} {xs : List V} {o : HO} (h : SpI H H' p B S d F bs cs sh ss ts) (hD : H' D = some (.lst xs)) (n1 : D ≠ p) (n2 : D ≠ B) (n3 : D ≠ S) (n4 : D ≠ F) (hH : H D = none) : SpI H (upd H' D o) p B S d F bs cs sh ss ts :=
  ⟨h.but.putN hH, h.spr.put n1, (upd_ne n2.symm).trans h.b, (upd_ne n3.symm).trans h.s, (upd_ne fun z => by
    have h2 := h.d
    rw [z, hD] at h2
    injection h2 with h2
    injection h2).trans h.d, (upd_ne n4.symm).trans h.f, h.tt.put hD⟩
end L2

namespace L2
open PySem PySem.Spec PyProof.Rows
/-! tuples cut and joined -/
def cutI (ns : List Int) (lo hi : Option Int) : List Int := (ns.drop (HT.sIx ns.length 0 lo)).take (HT.sIx ns.length ns.length hi - HT.sIx ns.length 0 lo)
theorem cutI_v (ns : List Int) (lo hi : Option Int) : cutV (ns.map V.int) lo hi = (cutI ns lo hi).map V.int := by
  unfold cutV cutI
  rw [List.length_map, ← List.map_drop, ← List.map_take]
theorem cutI_mem {ns : List Int} {lo hi : Option Int} {a : Int} (h : a ∈ cutI ns lo hi) : a ∈ ns := List.mem_of_mem_drop (List.mem_of_mem_take h)
theorem slA_tup {K : PySem.W.Frag} {H : Hp} {a : Addr} {ns : List Int} {lo hi : Option Int} {Q : VK} (h : TupI H a ns) (q : ∀ r H', Same H H' → TupI H' r (cutI ns lo hi) → Q (.ref r) H') : rSlA K (.ref a) lo hi H Q := by
  refine ⟨a, _, rfl, h.sq, fun e => ?_, fun _ p np => ?_⟩
  · refine q a H (Same.refl H) ?_
    rw [List.length_map] at e
    have e2 : cutI ns lo hi = ns := by
      unfold cutI
      rw [e.1, e.2, List.drop_zero, Nat.sub_zero, List.take_length]
    rw [e2]
    exact h
  · refine q p _ (Same.new0 np) ?_
    unfold TupI
    rw [upd_same, cutI_v]
theorem catA_tup {K : PySem.W.Frag} {H : Hp} {a b : Addr} {ns ms : List Int} {Q : VK} (ha : TupI H a ns) (hb : TupI H b ms) (hl : ns.length + ms.length ≤ 1000) (q : ∀ r H', Same H H' → TupI H' r (ns ++ ms) → Q (.ref r) H') : rCatA K (.ref a) (.ref b) H Q := by
  refine ⟨a, b, _, _, rfl, rfl, ha.sq, hb.sq, ?_, fun e => ?_, fun _ e => ?_, fun _ _ p np => ?_⟩
  · rw [List.length_map, List.length_map]
    exact Nat.le_trans hl (by decide)
  · have e' : ns = [] := List.map_eq_nil_iff.mp e
    subst e'
    exact q b H (Same.refl H) hb
  · have e' : ms = [] := List.map_eq_nil_iff.mp e
    subst e'
    refine q a H (Same.refl H) ?_
    rw [List.append_nil]
    exact ha
  · refine q p _ (Same.new0 np) ?_
    unfold TupI
    rw [upd_same, List.map_append]

theorem Same.putN {H H1 : Hp} {D : Addr} {o : HO} (e : Same H H1) (n : H D = none) : Same H (upd H1 D o) := fun b u h => by
  rw [upd_ne (ne_of_none h n)]
  exact e b u h
/-- every entry is a place of ss -/
def AllIn (H : Hp) (xs : List V) (ss : List (List Int)) : Prop := ∀ x ∈ xs, ∃ t s, x = V.ref t ∧ TupI H t s ∧ s ∈ ss
theorem AllIn.of {H : Hp} {ts : List Addr} {ss : List (List Int)} (h : TsI H ts ss) : AllIn H (ts.map V.ref) ss := fun x hx => by
  obtain ⟨i, hi⟩ := List.mem_iff_getElem?.mp hx
  obtain ⟨t, s, e, h1, h2⟩ := ts_at h hi
  exact ⟨t, s, e, h1, List.mem_of_getElem? h2⟩
theorem AllIn.cut {H : Hp} {xs : List V} {ss : List (List Int)} (h : AllIn H xs ss) (lo hi : Option Int) : AllIn H (cutV xs lo hi) ss := fun x hx => h x (List.mem_of_mem_drop (List.mem_of_mem_take hx))
theorem AllIn.app {H : Hp} {xs ys : List V} {ss : List (List Int)} (h : AllIn H xs ss) (k : AllIn H ys ss) : AllIn H (xs ++ ys) ss := fun x hx => (List.mem_append.mp hx).elim (h x) (k x)
theorem AllIn.more {H : Hp} {xs : List V} {ss tt : List (List Int)} (h : AllIn H xs ss) (k : ∀ s ∈ ss, s ∈ tt) : AllIn H xs tt := fun x hx => let ⟨t, s, a, b, c⟩ := h x hx; ⟨t, s, a, b, k s c⟩
theorem AllIn.same {H H' : Hp} {xs : List V} {ss : List (List Int)} (h : AllIn H xs ss) (e : Same H H') : AllIn H' xs ss := fun x hx => let ⟨t, s, a, b, c⟩ := h x hx; ⟨t, s, a, b.same e, c⟩
theorem TsI.app {H : Hp} {ts us : List Addr} {ss tt : List (List Int)} (h : TsI H ts ss) (k : TsI H us tt) : TsI H (ts ++ us) (ss ++ tt) := by
  unfold TsI at h
  induction h with
  | nil => exact k
  | cons a b ih => exact .cons a ih
end L2

namespace L2
open PySem PySem.Spec PyProof.Rows
theorem r_forL {K : PySem.W.Frag} {td : TE} {g : TG} {tb : TS} {D : Ends} {σ : St} {H : Hp} (k : td σ H fun v H1 => tFor (iList K (tC v)) g tb D σ H1) : tFor (iList K td) g tb D σ H := k
theorem r_seqForL {K : PySem.W.Frag} {td : TE} {g : TG} {tb t2 : TS} {D : Ends} {σ : St} {H : Hp} (k : td σ H fun v H1 => tSeq (tFor (iList K (tC v)) g tb) t2 D σ H1) : tSeq (tFor (iList K td) g tb) t2 D σ H := k
end L2

namespace L2
open PySem PySem.Spec PyProof.Rows
/-! ### nested lists of places, compared -/
abbrev pd (s : List Int) : PyData := .tuple (s.map PyData.int)
theorem dpAll_places {K : PySem.W.Frag} {H : Hp} {ts : List Addr} {ss : List (List Int)} (h : TsI H ts ss) : DpAll K H (ts.map V.ref) (ss.map pd) := by
  unfold TsI at h
  induction h with
  | nil => exact .nil
  | cons a b ih => exact .cons (.tup (TupI.sq a) (dpAll_ints _)) ih
theorem dp_places {K : PySem.W.Frag} {H : Hp} {a : Addr} {ss : List (List Int)} (h : LT H a ss) : Dp K H (.ref a) (.list (ss.map pd)) := let ⟨_, h1, h2⟩ := h; .lst (SqL.of h1) (dpAll_places h2)
theorem canLay_places : ∀ ss : List (List Int), PyData.canLayAll0 (ss.map pd) = true
  | [] => rfl
  | s :: r => by
    show (PyData.canLayAll0 (s.map PyData.int) && PyData.canLayAll0 (r.map pd)) = true
    rw [canLay_ints, canLay_places r]
    rfl
theorem depth_places : ∀ ss : List (List Int), PyData.depthAll (ss.map pd) ≤ 1
  | [] => Nat.zero_le _
  | s :: r => by
    show max (PyData.depthAll (s.map PyData.int) + 1) (PyData.depthAll (r.map pd)) ≤ 1
    rw [depth_ints]
    exact Nat.max_le.mpr ⟨Nat.le_refl _, depth_places r⟩
/-- [a, b] != [c, d], lists of the same places -/
theorem ne_pairs {K : PySem.W.Frag} {H : Hp} {x y a b c d : Addr} {ss tt : List (List Int)} {Q : VK} (hx : H x = some (.lst [.ref a, .ref b])) (hy : H y = some (.lst [.ref c, .ref d])) (ha : LT H a ss) (hb : LT H b tt) (hc : LT H c ss) (hd : LT H d tt) (q : Q (.bl false) H) : rNeD K (.ref x) (.ref y) H Q := by
  have hl : PyData.canLayAll0 [.list (ss.map pd), .list (tt.map pd)] = true := by
    show (PyData.canLayAll0 (ss.map pd) && (PyData.canLayAll0 (tt.map pd) && true)) = true
    rw [canLay_places, canLay_places]
    rfl
  have hs : SeqAt.shaped (.list [.list (ss.map pd), .list (tt.map pd)]) = true := by
    unfold SeqAt.shaped
    show (PyData.canLayAll0 [.list (ss.map pd), .list (tt.map pd)] && decide (max (PyData.depthAll (ss.map pd) + 1) (max (PyData.depthAll (tt.map pd) + 1) 0) + 1 ≤ 64)) = true
    rw [hl]
    have h1 := depth_places ss
    have h2 := depth_places tt
    rw [decide_eq_true (by omega)]
    rfl
  refine ⟨_, _, .lst (SqL.of hx) (.cons (dp_places ha) (.cons (dp_places hb) .nil)), .lst (SqL.of hy) (.cons (dp_places hc) (.cons (dp_places hd) .nil)), hs, hs, ?_⟩
  have e : PyData.eqv (.list [.list (ss.map pd), .list (tt.map pd)]) (.list [.list (ss.map pd), .list (tt.map pd)]) = true := SeqAt.eqv_refl _ hl
  rw [e]
  exact q
/-! ### all but some objects -/
def Exc (ls : List Addr) (H H' : Hp) : Prop := ∀ b o, b ∉ ls → H b = some o → H' b = some o
section
variable {ls : List Addr} {H H1 H2 H0 : Hp} {C p D a : Addr} {n : Int} {lit dim ss : List (List Int)} {o : HO}
theorem Same.exc (e : Same H H1) : Exc ls H H1 := fun b o _ h => e b o h
theorem Exc.trans (e : Exc ls H H1) (k : Exc ls H1 H2) : Exc ls H H2 := fun b o n h => k b o n (e b o n h)
theorem Exc.same (e : Exc ls H H1) (k : Same H1 H2) : Exc ls H H2 := fun b o n h => k b o (e b o n h)
theorem Exc.put (e : Exc ls H H1) (hD : D ∈ ls) : Exc ls H (upd H1 D o) := fun b u n h => by
  rw [upd_ne (fun z : b = D => n (by rw [z]; exact hD))]
  exact e b u n h
theorem Exc.mono {ms : List Addr} (e : Exc ls H H1) (k : ∀ x ∈ ls, x ∈ ms) : Exc ms H H1 := fun b o n h => e b o (fun z => n (k b z)) h
/-- the objects that may change are lists -/
def AreL (ls : List Addr) (H : Hp) : Prop := ∀ x ∈ ls, ∃ xs, H x = some (.lst xs)
theorem Exc.tup {t : Addr} {ns : List Int} (e : Exc ls H H1) (hl : AreL ls H) (h : TupI H t ns) : TupI H1 t ns := e _ _ (fun z => by
  obtain ⟨xs, hx⟩ := hl _ z
  have h' : _ = _ := h
  rw [hx] at h'
  injection h' with h'
  injection h') h
theorem Exc.ts {ts : List Addr} (e : Exc ls H H1) (hl : AreL ls H) (h : TsI H ts ss) : TsI H1 ts ss := Paired.mapP h fun _ _ z => e.tup hl z
theorem Exc.lt (e : Exc ls H H1) (hl : AreL ls H) (n : a ∉ ls) (h : LT H a ss) : LT H1 a ss := let ⟨ts, h1, h2⟩ := h; ⟨ts, e _ _ n h1, e.ts hl h2⟩
theorem Exc.pic (e : Exc ls H H1) (hl : AreL ls H) (h0 : ∀ x ∈ ls, ∃ o, H0 x = some o) (h : Pic C H0 H p n lit dim) : Pic C H0 H1 p n lit dim := by
  obtain ⟨hw, dx, w, a, b, h1, h2, h3, h4, h5, h6, h7, h8⟩ := h
  have q : ∀ {x : Addr}, H0 x = none → x ∉ ls := fun hx z => by
    obtain ⟨o, ho⟩ := h0 _ z
    rw [ho] at hx
    cases hx
  exact ⟨hw, dx, w, a, b, e _ _ (q h5) h1, e _ _ (q h6) h2, e.lt hl (q h7) h3, e.lt hl (q h8) h4, h5, h6, h7, h8⟩
end
end L2

namespace L2
open PySem PySem.Spec PyProof.Rows
theorem r_make {C : Addr} {sp : Sp} {dvs : List V} {E : XK} {t : TA} {σ : St} {H : Hp} {Q : VK} (k : t σ H fun vs H1 => ∀ x dx, H1 x = none → H1 dx = none → dx ≠ x → sp (.ref x :: (vs ++ dvs)) (upd (upd H1 dx (.own x)) x (.ins C dx [])) (fun v H2 => v = .non ∧ Q (.ref x) H2) E) : tMake C sp dvs E t σ H Q := k
theorem r_makeK {C : Addr} {n m : Nat} {sp : Sp} {gV : List V → List V → List V} {E : XK} {t tk : TA} {σ : St} {H : Hp} {Q : VK} (k : t σ H fun vs H1 => tk σ H1 fun zs H2 => vs.length = n ∧ zs.length = m ∧ ∀ x dx, H2 x = none → H2 dx = none → dx ≠ x →
  sp (gV (.ref x :: vs) zs) (upd (upd H2 dx (.own x)) x (.ins C dx [])) (fun v H3 => v = .non ∧ Q (.ref x) H3) E) : tMakeK C n m sp gV E t tk σ H Q := k
/-- lists that are not too long -/
def Ls (ls : List Addr) (H : Hp) (m : Nat) : Prop := ∀ x ∈ ls, ∃ ys, H x = some (.lst ys) ∧ ys.length ≤ m
theorem Ls.same {ls : List Addr} {H H' : Hp} {m : Nat} (h : Ls ls H m) (e : Same H H') : Ls ls H' m := fun x hx => let ⟨ys, a, b⟩ := h x hx; ⟨ys, e _ _ a, b⟩
theorem Ls.put {ls : List Addr} {H : Hp} {D : Addr} {m m' : Nat} {zs : List V} (h : Ls ls H m) (hz : zs.length ≤ m') (hm : m ≤ m') : Ls ls (upd H D (.lst zs)) m' := fun x hx => by
  by_cases e : x = D
  · exact ⟨zs, by rw [e, upd_same], hz⟩
  · obtain ⟨ys, a, b⟩ := h x hx
    exact ⟨ys, (upd_ne e).trans a, Nat.le_trans b hm⟩
theorem Ls.areL {ls : List Addr} {H : Hp} {m : Nat} (h : Ls ls H m) : AreL ls H := fun x hx => let ⟨ys, a, _⟩ := h x hx; ⟨ys, a⟩
theorem AreL.same {ls : List Addr} {H H' : Hp} (h : AreL ls H) (e : Same H H') : AreL ls H' := fun x hx => let ⟨ys, a⟩ := h x hx; ⟨ys, e _ _ a⟩
end L2

namespace K06
open PySem L2
def top (i : Nat) : Stmt := PySem.Challenge.pw_seenposts_k06_pictures_made.main.body.getD i (.Pass ⟨0, 0, 0, 0⟩)
abbrev s_init : Stmt := inClass (top 2) 0
theorem sc_init : FnScope ["self", "value"] ["self", "value"] (defScope s_init) := ⟨rfl, rfl, rfl, by decide +kernel, rfl, by decide +kernel, by decide +kernel⟩
abbrev s_words_of : Stmt := top 8
abbrev N_words_of : List Str := ["size", "seen", "hidden", "words", "places", "word", "place"]
theorem sc_words_of : FnScope N_words_of ["size", "seen", "hidden"] (defScope s_words_of) := ⟨rfl, rfl, rfl, by decide +kernel, rfl, by decide +kernel, by decide +kernel⟩
abbrev s_PictureUinitU : Stmt := inClass (top 9) 0
abbrev N_PictureUinitU : List Str := ["self", "size", "seen", "hidden"]
theorem sc_PictureUinitU : FnScope N_PictureUinitU ["self", "size", "seen", "hidden"] (defScope s_PictureUinitU) := ⟨rfl, rfl, rfl, by decide +kernel, rfl, by decide +kernel, by decide +kernel⟩
abbrev s_Picturesize : Stmt := inClass (top 9) 1
abbrev N_Picturesize : List Str := ["self"]
theorem sc_Picturesize : FnScope N_Picturesize ["self"] (defScope s_Picturesize) := ⟨rfl, rfl, rfl, by decide +kernel, rfl, by decide +kernel, by decide +kernel⟩
abbrev s_Pictureseen : Stmt := inClass (top 9) 2
abbrev N_Pictureseen : List Str := ["self"]
theorem sc_Pictureseen : FnScope N_Pictureseen ["self"] (defScope s_Pictureseen) := ⟨rfl, rfl, rfl, by decide +kernel, rfl, by decide +kernel, by decide +kernel⟩
abbrev s_Picturehidden : Stmt := inClass (top 9) 3
abbrev N_Picturehidden : List Str := ["self"]
theorem sc_Picturehidden : FnScope N_Picturehidden ["self"] (defScope s_Picturehidden) := ⟨rfl, rfl, rfl, by decide +kernel, rfl, by decide +kernel, by decide +kernel⟩
abbrev s_PictureUcontainsU : Stmt := inClass (top 9) 10
abbrev N_PictureUcontainsU : List Str := ["self", "x"]
theorem sc_PictureUcontainsU : FnScope N_PictureUcontainsU ["self", "x"] (defScope s_PictureUcontainsU) := ⟨rfl, rfl, rfl, by decide +kernel, rfl, by decide +kernel, by decide +kernel⟩
abbrev s_PictureUlenU : Stmt := inClass (top 9) 11
abbrev N_PictureUlenU : List Str := ["self"]
theorem sc_PictureUlenU : FnScope N_PictureUlenU ["self"] (defScope s_PictureUlenU) := ⟨rfl, rfl, rfl, by decide +kernel, rfl, by decide +kernel, by decide +kernel⟩
abbrev s_law_spring : Stmt := top 11
abbrev N_law_spring : List Str := ["_law_cell", "_law_k", "_law_state"]
theorem sc_law_spring : FnScope N_law_spring ["_law_cell", "_law_k"] (defScope s_law_spring) := ⟨rfl, rfl, rfl, by decide +kernel, rfl, by decide +kernel, by decide +kernel⟩
abbrev s_law_sip : Stmt := top 12
abbrev N_law_sip : List Str := ["_law_spring_here", "_law_many", "_law_mixed", "_law_found"]
theorem sc_law_sip : FnScope N_law_sip ["_law_spring_here", "_law_many"] (defScope s_law_sip) := ⟨rfl, rfl, rfl, by decide +kernel, rfl, by decide +kernel, by decide +kernel⟩
abbrev s_law_far : Stmt := top 13
abbrev N_law_far : List Str := ["_law_spring_here", "_law_wide", "_law_found", "_law_piece"]
theorem sc_law_far : FnScope N_law_far ["_law_spring_here", "_law_wide"] (defScope s_law_far) := ⟨rfl, rfl, rfl, by decide +kernel, rfl, by decide +kernel, by decide +kernel⟩
abbrev s_law_whole : Stmt := top 14
abbrev N_law_whole : List Str := ["_law_found"]
theorem sc_law_whole : FnScope N_law_whole ["_law_found"] (defScope s_law_whole) := ⟨rfl, rfl, rfl, by decide +kernel, rfl, by decide +kernel, by decide +kernel⟩
abbrev s_law_truth : Stmt := top 15
abbrev N_law_truth : List Str := ["_law_found", "_law_due"]
theorem sc_law_truth : FnScope N_law_truth ["_law_found", "_law_due"] (defScope s_law_truth) := ⟨rfl, rfl, rfl, by decide +kernel, rfl, by decide +kernel, by decide +kernel⟩
abbrev s_law_is_spot : Stmt := top 16
abbrev N_law_is_spot : List Str := ["_law_found", "_law_due", "_law_k"]
theorem sc_law_is_spot : FnScope N_law_is_spot ["_law_found", "_law_due"] (defScope s_law_is_spot) := ⟨rfl, rfl, rfl, by decide +kernel, rfl, by decide +kernel, by decide +kernel⟩
abbrev s_law_spots : Stmt := top 17
abbrev N_law_spots : List Str := ["_law_spring_here", "_law_axes", "_law_many", "_law_held", "_law_shape", "_law_wide", "_law_base", "_law_step", "_law_taken", "_law_spot", "_law_found", "_law_count", "_law_made", "_law_k"]
theorem sc_law_spots : FnScope N_law_spots ["_law_spring_here", "_law_axes", "_law_many", "_law_held"] (defScope s_law_spots) := ⟨rfl, rfl, rfl, by decide +kernel, rfl, by decide +kernel, by decide +kernel⟩
abbrev s_law_spots_are : Stmt := top 18
abbrev N_law_spots_are : List Str := ["_law_found", "_law_due", "_law_k"]
theorem sc_law_spots_are : FnScope N_law_spots_are ["_law_found", "_law_due"] (defScope s_law_spots_are) := ⟨rfl, rfl, rfl, by decide +kernel, rfl, by decide +kernel, by decide +kernel⟩
abbrev s_law_pictures : Stmt := top 19
abbrev N_law_pictures : List Str := ["_law_picture", "_law_axes", "_law_lit", "_law_dim", "_law_told", "_law_more"]
theorem sc_law_pictures : FnScope N_law_pictures ["_law_picture", "_law_axes", "_law_lit", "_law_dim"] (defScope s_law_pictures) := ⟨rfl, rfl, rfl, by decide +kernel, rfl, by decide +kernel, by decide +kernel⟩
abbrev s_law_parts : Stmt := top 20
abbrev N_law_parts : List Str := ["_law_spring_here", "_law_axes", "_law_many", "_law_lit"]
theorem sc_law_parts : FnScope N_law_parts ["_law_spring_here", "_law_axes"] (defScope s_law_parts) := ⟨rfl, rfl, rfl, by decide +kernel, rfl, by decide +kernel, by decide +kernel⟩
abbrev s_law_has : Stmt := top 21
abbrev N_law_has : List Str := ["_law_picture", "_law_lit", "_law_dim", "_law_told", "_law_spot", "_law_near"]
theorem sc_law_has : FnScope N_law_has ["_law_picture", "_law_lit", "_law_dim"] (defScope s_law_has) := ⟨rfl, rfl, rfl, by decide +kernel, rfl, by decide +kernel, by decide +kernel⟩
abbrev s_law_right : Stmt := top 22
abbrev N_law_right : List Str := ["_law_spring_here", "_law_flat", "_law_deep", "_law_lists", "_law_one", "_law_row", "_law_other", "_law_turn", "_law_bare"]
theorem sc_law_right : FnScope N_law_right ["_law_spring_here"] (defScope s_law_right) := ⟨rfl, rfl, rfl, by decide +kernel, rfl, by decide +kernel, by decide +kernel⟩
abbrev s_law : Stmt := top 23
abbrev N_law : List Str := ["_law_script", "_law_cells", "_law_k"]
theorem sc_law : FnScope N_law ["_law_script"] (defScope s_law) := ⟨rfl, rfl, rfl, by decide +kernel, rfl, by decide +kernel, by decide +kernel⟩
structure Ad where
  a_words_of : Addr
  f_words_of : FuncData
  a_PictureUinitU : Addr
  f_PictureUinitU : FuncData
  a_Picturesize : Addr
  f_Picturesize : FuncData
  p_Picturesize : Addr
  a_Pictureseen : Addr
  f_Pictureseen : FuncData
  p_Pictureseen : Addr
  a_Picturehidden : Addr
  f_Picturehidden : FuncData
  p_Picturehidden : Addr
  a_PictureUcontainsU : Addr
  f_PictureUcontainsU : FuncData
  a_PictureUlenU : Addr
  f_PictureUlenU : FuncData
  a_law_spring : Addr
  f_law_spring : FuncData
  a_law_sip : Addr
  f_law_sip : FuncData
  a_law_far : Addr
  f_law_far : FuncData
  a_law_whole : Addr
  f_law_whole : FuncData
  a_law_truth : Addr
  f_law_truth : FuncData
  a_law_is_spot : Addr
  f_law_is_spot : FuncData
  a_law_spots : Addr
  f_law_spots : FuncData
  a_law_spots_are : Addr
  f_law_spots_are : FuncData
  a_law_pictures : Addr
  f_law_pictures : FuncData
  a_law_parts : Addr
  f_law_parts : FuncData
  a_law_has : Addr
  f_law_has : FuncData
  a_law_right : Addr
  f_law_right : FuncData
  a_law : Addr
  f_law : FuncData
  a_cPicture : Addr
structure Txt (K : PySem.W.Frag) (mg : Str → Option Value) (A : Ad) : Prop where
  g_words_of : mg "words_of" = some (.ref A.a_words_of)
  k_words_of : PySem.W.keepIn K (.ref A.a_words_of) = true
  F_words_of : Fun K "words_of" "words_of" s_words_of A.a_words_of A.f_words_of
  b_words_of : Binds K A.f_words_of ["size", "seen", "hidden"] []
  at_PictureUinitU : PySem.W.findIn K (.ref A.a_cPicture) "__init__" = some (some (.ref A.a_PictureUinitU))
  fn_PictureUinitU : PySem.W.isFn K (.ref A.a_PictureUinitU) = true
  k_PictureUinitU : PySem.W.keepIn K (.ref A.a_PictureUinitU) = true
  F_PictureUinitU : Fun K "__init__" "Picture.__init__" s_PictureUinitU A.a_PictureUinitU A.f_PictureUinitU
  b_PictureUinitU : Binds K A.f_PictureUinitU ["self", "size", "seen", "hidden"] []
  pr_Picturesize : PropOf K A.a_cPicture "size" A.p_Picturesize A.a_Picturesize
  k_Picturesize : PySem.W.keepIn K (.ref A.a_Picturesize) = true
  F_Picturesize : Fun K "size" "Picture.size" s_Picturesize A.a_Picturesize A.f_Picturesize
  b_Picturesize : Binds K A.f_Picturesize ["self"] []
  pr_Pictureseen : PropOf K A.a_cPicture "seen" A.p_Pictureseen A.a_Pictureseen
  k_Pictureseen : PySem.W.keepIn K (.ref A.a_Pictureseen) = true
  F_Pictureseen : Fun K "seen" "Picture.seen" s_Pictureseen A.a_Pictureseen A.f_Pictureseen
  b_Pictureseen : Binds K A.f_Pictureseen ["self"] []
  pr_Picturehidden : PropOf K A.a_cPicture "hidden" A.p_Picturehidden A.a_Picturehidden
  k_Picturehidden : PySem.W.keepIn K (.ref A.a_Picturehidden) = true
  F_Picturehidden : Fun K "hidden" "Picture.hidden" s_Picturehidden A.a_Picturehidden A.f_Picturehidden
  b_Picturehidden : Binds K A.f_Picturehidden ["self"] []
  at_PictureUcontainsU : PySem.W.findIn K (.ref A.a_cPicture) "__contains__" = some (some (.ref A.a_PictureUcontainsU))
  fn_PictureUcontainsU : PySem.W.isFn K (.ref A.a_PictureUcontainsU) = true
  k_PictureUcontainsU : PySem.W.keepIn K (.ref A.a_PictureUcontainsU) = true
  F_PictureUcontainsU : Fun K "__contains__" "Picture.__contains__" s_PictureUcontainsU A.a_PictureUcontainsU A.f_PictureUcontainsU
  b_PictureUcontainsU : Binds K A.f_PictureUcontainsU ["self", "x"] []
  at_PictureUlenU : PySem.W.findIn K (.ref A.a_cPicture) "__len__" = some (some (.ref A.a_PictureUlenU))
  fn_PictureUlenU : PySem.W.isFn K (.ref A.a_PictureUlenU) = true
  k_PictureUlenU : PySem.W.keepIn K (.ref A.a_PictureUlenU) = true
  F_PictureUlenU : Fun K "__len__" "Picture.__len__" s_PictureUlenU A.a_PictureUlenU A.f_PictureUlenU
  b_PictureUlenU : Binds K A.f_PictureUlenU ["self"] []
  g_law_spring : mg "_law_spring" = some (.ref A.a_law_spring)
  k_law_spring : PySem.W.keepIn K (.ref A.a_law_spring) = true
  F_law_spring : Fun K "_law_spring" "_law_spring" s_law_spring A.a_law_spring A.f_law_spring
  b_law_spring : Binds K A.f_law_spring ["_law_cell", "_law_k"] []
  g_law_sip : mg "_law_sip" = some (.ref A.a_law_sip)
  k_law_sip : PySem.W.keepIn K (.ref A.a_law_sip) = true
  F_law_sip : Fun K "_law_sip" "_law_sip" s_law_sip A.a_law_sip A.f_law_sip
  b_law_sip : Binds K A.f_law_sip ["_law_spring_here", "_law_many"] []
  g_law_far : mg "_law_far" = some (.ref A.a_law_far)
  k_law_far : PySem.W.keepIn K (.ref A.a_law_far) = true
  F_law_far : Fun K "_law_far" "_law_far" s_law_far A.a_law_far A.f_law_far
  b_law_far : Binds K A.f_law_far ["_law_spring_here", "_law_wide"] []
  g_law_whole : mg "_law_whole" = some (.ref A.a_law_whole)
  k_law_whole : PySem.W.keepIn K (.ref A.a_law_whole) = true
  F_law_whole : Fun K "_law_whole" "_law_whole" s_law_whole A.a_law_whole A.f_law_whole
  b_law_whole : Binds K A.f_law_whole ["_law_found"] []
  g_law_truth : mg "_law_truth" = some (.ref A.a_law_truth)
  k_law_truth : PySem.W.keepIn K (.ref A.a_law_truth) = true
  F_law_truth : Fun K "_law_truth" "_law_truth" s_law_truth A.a_law_truth A.f_law_truth
  b_law_truth : Binds K A.f_law_truth ["_law_found", "_law_due"] []
  g_law_is_spot : mg "_law_is_spot" = some (.ref A.a_law_is_spot)
  k_law_is_spot : PySem.W.keepIn K (.ref A.a_law_is_spot) = true
  F_law_is_spot : Fun K "_law_is_spot" "_law_is_spot" s_law_is_spot A.a_law_is_spot A.f_law_is_spot
  b_law_is_spot : Binds K A.f_law_is_spot ["_law_found", "_law_due"] []
  g_law_spots : mg "_law_spots" = some (.ref A.a_law_spots)
  k_law_spots : PySem.W.keepIn K (.ref A.a_law_spots) = true
  F_law_spots : Fun K "_law_spots" "_law_spots" s_law_spots A.a_law_spots A.f_law_spots
  b_law_spots : Binds K A.f_law_spots ["_law_spring_here", "_law_axes", "_law_many", "_law_held"] []
  g_law_spots_are : mg "_law_spots_are" = some (.ref A.a_law_spots_are)
  k_law_spots_are : PySem.W.keepIn K (.ref A.a_law_spots_are) = true
  F_law_spots_are : Fun K "_law_spots_are" "_law_spots_are" s_law_spots_are A.a_law_spots_are A.f_law_spots_are
  b_law_spots_are : Binds K A.f_law_spots_are ["_law_found", "_law_due"] []
  g_law_pictures : mg "_law_pictures" = some (.ref A.a_law_pictures)
  k_law_pictures : PySem.W.keepIn K (.ref A.a_law_pictures) = true
  F_law_pictures : Fun K "_law_pictures" "_law_pictures" s_law_pictures A.a_law_pictures A.f_law_pictures
  b_law_pictures : Binds K A.f_law_pictures ["_law_picture", "_law_axes", "_law_lit", "_law_dim"] []
  g_law_parts : mg "_law_parts" = some (.ref A.a_law_parts)
  k_law_parts : PySem.W.keepIn K (.ref A.a_law_parts) = true
  F_law_parts : Fun K "_law_parts" "_law_parts" s_law_parts A.a_law_parts A.f_law_parts
  b_law_parts : Binds K A.f_law_parts ["_law_spring_here", "_law_axes"] []
  g_law_has : mg "_law_has" = some (.ref A.a_law_has)
  k_law_has : PySem.W.keepIn K (.ref A.a_law_has) = true
  F_law_has : Fun K "_law_has" "_law_has" s_law_has A.a_law_has A.f_law_has
  b_law_has : Binds K A.f_law_has ["_law_picture", "_law_lit", "_law_dim"] []
  g_law_right : mg "_law_right" = some (.ref A.a_law_right)
  k_law_right : PySem.W.keepIn K (.ref A.a_law_right) = true
  F_law_right : Fun K "_law_right" "_law_right" s_law_right A.a_law_right A.f_law_right
  b_law_right : Binds K A.f_law_right ["_law_spring_here"] []
  g_law : mg "law" = some (.ref A.a_law)
  k_law : PySem.W.keepIn K (.ref A.a_law) = true
  F_law : Fun K "law" "law" s_law A.a_law A.f_law
  b_law : Binds K A.f_law ["_law_script"] []
  kb_PictureUinitU : KBn K A.f_PictureUinitU ["self", "size", "seen", "hidden"] 1 ["size", "seen", "hidden"] kwM kwM
  n_bool : mg "bool" = none
  n_int : mg "int" = none
  n_isinstance : mg "isinstance" = none
  n_len : mg "len" = none
  n_list : mg "list" = none
  n_max : mg "max" = none
  n_range : mg "range" = none
  n_sorted : mg "sorted" = none
  n_tuple : mg "tuple" = none
  g_Picture : mg "Picture" = some (.ref A.a_cPicture)
  cl_Picture : Cls K A.a_cPicture
  mk_Picture : Mk K A.a_cPicture A.a_PictureUinitU
  ty_Picture : ∀ (H : Hp) (a dx : Addr) (fs : List (Str × V)), H a = some (.ins A.a_cPicture dx fs) → TyOf K H (.ref a) (.ref A.a_cPicture)
  ks_Picture : PySem.W.kitOne K (.ref A.a_cPicture) (.ref A.a_cPicture) = some true
  na_Picture_words : NoAttr K A.a_cPicture "_words"
  na_Picture_size : NoAttr K A.a_cPicture "_size"
  na_Picture_seen : NoAttr K A.a_cPicture "_seen"
  na_Picture_hidden : NoAttr K A.a_cPicture "_hidden"
def spWhole : Sp := fun vs H Q _ => ∃ i : Int, vs = [.int i] ∧ Q (.bl true) H
def spIsSpot : Sp := fun vs H Q _ => ∃ (a b : Addr) (ns : List Int), vs = [.ref a, .ref b] ∧ TupI H a ns ∧ TupI H b ns ∧ ns.length ≤ 1000 ∧ Q (.bl true) H
local macro_rules | `(tactic| walk_at "rc") => `(tactic| first | done | decide | omega | exact Or.inl ⟨by omega, by omega⟩ | exact Or.inr ⟨by omega, by omega⟩ | exact ⟨by omega, by omega⟩ | exact ⟨by omega, by omega, by decide⟩ | exact ⟨by decide, by decide, by decide⟩)
local macro_rules | `(tactic| walk_at "rd1") => `(tactic| first
  | (with_reducible refine L2.r_op ?_)
  | (with_reducible refine L2.r_c ?_)
  | ((with_reducible show L2.tVar _ _ _ _); (refine L2.r_var rfl ?_))
  | (with_reducible refine L2.r_I0 ?_)
  | ((with_reducible show L2.rI _ _ _ _ _ _); (refine L2.r_I (by walk_at "rc") ?_))
  | (with_reducible refine L2.r_cons ?_)
  | (with_reducible refine L2.r_nil ?_)
  | (with_reducible refine L2.r_cb ?_)
  | (with_reducible refine L2.r_call ?_)
  | (with_reducible refine L2.r_lst ?_)
  | (with_reducible refine L2.r_tup ?_)
  | (with_reducible refine L2.r_eqI ?_)
  | (with_reducible refine L2.r_neI ?_)
  | (with_reducible refine L2.r_eqB ?_)
  | (with_reducible refine L2.r_test ?_)
  | (with_reducible refine L2.r_B ?_)
  | (with_reducible refine L2.r_not ?_)
  | (with_reducible refine L2.r_and ?_)
  | (with_reducible refine L2.r_or ?_)
  | (with_reducible refine L2.r_andV ?_)
  | (with_reducible refine L2.r_orV ?_)
  | (with_reducible refine L2.r_notV ?_)
  | (with_reducible refine L2.r_if ?_)
  | (with_reducible refine L2.r_seqAsg ?_)
  | (with_reducible refine L2.r_asg ?_)
  | (with_reducible refine L2.r_seqSub ?_)
  | (with_reducible refine L2.r_sub ?_)
  | (with_reducible refine L2.r_seqPar ?_)
  | (with_reducible refine L2.r_par ?_)
  | (with_reducible refine L2.r_ret ?_)
  | (with_reducible refine L2.r_gcons ?_)
  | (with_reducible refine L2.r_gnil ?_)
  | (with_reducible refine L2.r_gsub ?_)
  | (with_reducible refine L2.r_bm ?_)
  | (with_reducible refine L2.r_bm0 ?_)
  | (with_reducible refine L2.r_sl ?_)
  | (with_reducible refine L2.r_nopart ?_)
  | (with_reducible refine L2.r_part ?_)
  | (with_reducible refine L2.r_callK ?_)
  | (with_reducible refine L2.r_yes ?_)
  | (with_reducible refine L2.r_gname ?_)
  | (with_reducible refine L2.r_seqDrop ?_)
  | (with_reducible refine L2.r_drop ?_)
  | (with_reducible refine L2.r_seqIf ?_)
  | (with_reducible refine L2.r_ifS ?_)
  | (with_reducible refine L2.r_next ?_)
  | (with_reducible refine L2.r_un ?_)
  | (with_reducible refine L2.r_seqAsgG ?_)
  | (with_reducible refine L2.r_asgG ?_))
local macro_rules | `(tactic| walk_at "rd") => `(tactic| repeat' (walk_at "rd1"))

local macro_rules | `(tactic| walk_at "rd1") => `(tactic| first
  | (with_reducible refine L2.r_seqFld ?_)
  | (with_reducible refine L2.r_fldS ?_)
  | (with_reducible refine L2.r_fld ?_)
  | (with_reducible refine L2.r_prop ?_))

section
variable {P : Program} {w : World} {K : PySem.W.Frag} {mg : Str → Option Value} {base : Heap} {A : Ad}

/-! _law_spring -/
theorem ok_law_spring (T : Txt K mg A) : FnOk P w K mg base CX0 1 A.a_law_spring A.f_law_spring ["_law_cell", "_law_k"] spSpring := by
  refine T.F_law_spring.ok sc_law_spring (fun vs H Q E h => ?_) (fun cdv A' outer s H vs Q E hr h => ⟨_, (pss_cons (ps_set (i := 2) sc_law_spring.nd rfl (Or.inl rfl) (pe_op op_mod (pe_callTy call_int1 (by rfl) T.n_int (by decide +kernel) (pa_cons (pe_op op_add (pe_op op_add (pe_op op_mul (pv 0) pe_int) (pe_op op_mul pe_int (pv 1))) pe_int) pa_nil)) pe_int))
    (pss_one (ps_ret (pe_lst (pa_cons (pe_callB (call_max2 rfl) (by rfl) T.n_max (by decide +kernel) (pa_cons pe_int (pa_cons (pe_op op_sub (pv 0) (pe_op op_pow pe_int pe_int)) pa_nil))) (pa_cons (pv 2) (pa_cons (pv 1) pa_nil))))))), ?_⟩)
  · obtain ⟨c, k, rfl, _⟩ := h
    rfl
  · obtain ⟨c, k, rfl, q⟩ := h
    walk_at "rd"
    refine Or.inl ⟨_, rfl, ?_⟩
    walk_at "rd"
    refine ⟨_, _, rfl, ?_⟩
    walk_at "rd"
    refine ⟨by show 3 ≤ sizeLine; decide, fun p hp => q p _ hp (Same.new0 hp) ⟨_, _, _, upd_same, ?_, ?_⟩⟩
    · exact Int.emod_nonneg _ (by decide)
    · exact Int.emod_lt_of_pos _ (by decide)


/-! _law_sip -/
theorem ok_law_sip (T : Txt K mg A) : FnOk P w K mg base CX0 1 A.a_law_sip A.f_law_sip ["_law_spring_here", "_law_many"] spSip := by
  refine T.F_law_sip.ok sc_law_sip (fun vs H Q E h => ?_) (fun cdv A' outer s H vs Q E hr h => ⟨_, (pss_cons (ps_if (pt_cmpR op_gt (pe_ix ix_list (pv 0) pe_int (fun _ _ => rfl)) pe_int (nomark _)) (pss_cons (ps_set (i := 3) sc_law_sip.nd rfl (Or.inl rfl) (pe_op op_mod (pe_callTy call_int1 (by rfl) T.n_int (by decide +kernel) (pa_cons (pe_ix ix_list (pv 0) pe_int (fun _ _ => rfl)) pa_nil)) (pv 1)))
    (pss_cons (ps_asg (pe_op op_fdivW (pe_ix ix_list (pv 0) pe_int (fun _ _ => rfl)) (pv 1)) (pg_sub (pv 0) pe_int set_list))
    (pss_one (ps_ret (pv 3))))) pss_nil)
    (pss_cons (ps_asg (pe_op op_add (pe_ix ix_list (pv 0) pe_int (fun _ _ => rfl)) pe_int) (pg_sub (pv 0) pe_int set_list))
    (pss_cons (ps_set (i := 2) sc_law_sip.nd rfl (Or.inl rfl) (pe_op op_add (pe_op op_add (pe_op op_mulW (pe_ix ix_list (pv 0) pe_int (fun _ _ => rfl)) (pe_op op_add (pe_ix ix_list (pv 0) pe_int (fun _ _ => rfl)) pe_int)) (pe_op op_mul pe_int (pe_ix ix_list (pv 0) pe_int (fun _ _ => rfl)))) pe_int))
    (pss_cons (ps_asg (pe_op op_mod (pe_callTy call_int1 (by rfl) T.n_int (by decide +kernel) (pa_cons (pv 2) pa_nil)) pe_int) (pg_sub (pv 0) pe_int set_list))
    (pss_one (ps_ret (pe_op op_mod (pe_callTy call_int1 (by rfl) T.n_int (by decide +kernel) (pa_cons (pe_op op_fdiv (pe_ix ix_list (pv 0) pe_int (fun _ _ => rfl)) pe_int) pa_nil)) (pv 1)))))))), ?_⟩)
  · obtain ⟨p, m, rfl, _⟩ := h
    rfl
  · obtain ⟨p, m, rfl, ⟨a, b, c, hp, hb0, hb1⟩, hm, hm2, q⟩ := h
    have i0 : ∀ x y z : V, atI [x, y, z] 0 = some x := fun _ _ _ => rfl
    have i1 : ∀ x y z : V, atI [x, y, z] 1 = some y := fun _ _ _ => rfl
    have i2 : ∀ x y z : V, atI [x, y, z] 2 = some z := fun _ _ _ => rfl
    have n0 : ∀ x y z : V, ixN [x, y, z].length 0 = some 0 := fun _ _ _ => rfl
    have n1 : ∀ x y z : V, ixN [x, y, z].length 1 = some 1 := fun _ _ _ => rfl
    have n2 : ∀ x y z : V, ixN [x, y, z].length 2 = some 2 := fun _ _ _ => rfl
    walk_at "rd"
    refine r_ixL (SqL.of hp) (i0 _ _ _) ?_
    walk_at "rd"
    refine ⟨_, rfl, ite2 (fun _ => ?_) (fun _ => ?_)⟩
    · walk_at "rd"
      refine r_ixL (SqL.of hp) (i0 _ _ _) ?_
      walk_at "rd"
      refine Or.inl ⟨_, rfl, ?_⟩
      walk_at "rd"
      refine r_ixL (SqL.of hp) (i0 _ _ _) ?_
      walk_at "rd"
      refine r_I (wide_div (b := 250) (by omega) (by omega) (by decide) (by decide)) ?_
      walk_at "rd"
      refine r_setL hp (n0 _ _ _) ?_
      walk_at "rd"
      exact q _ _ (Int.emod_nonneg _ (by omega)) (Int.emod_lt_of_pos _ (by omega)) ((But.refl _ _).mut) ⟨_, _, _, upd_same, hb0, hb1⟩
    · walk_at "rd"
      dsimp only
      walk_at "rd"
      refine r_ixL (SqL.of hp) (i2 _ _ _) ?_
      walk_at "rd"
      refine r_setL hp (n2 _ _ _) ?_
      walk_at "rd"
      refine r_ixL (SqL.of upd_same) (i1 _ _ _) ?_
      walk_at "rd"
      refine r_ixL (SqL.of upd_same) (i1 _ _ _) ?_
      walk_at "rd"
      refine r_I (wide_mul (a := 100) (b := 100) (by unfold MM at hb1; omega) (by unfold MM at hb1; omega) (by decide) (by decide) (by decide)) ?_
      walk_at "rd"
      refine r_ixL (SqL.of upd_same) (i2 _ _ _) ?_
      walk_at "rd"
      refine Or.inl ⟨_, rfl, ?_⟩
      walk_at "rd"
      refine r_setL upd_same (n1 _ _ _) ?_
      walk_at "rd"
      refine r_ixL (SqL.of upd_same) (i1 _ _ _) ?_
      walk_at "rd"
      refine Or.inl ⟨_, rfl, ?_⟩
      walk_at "rd"
      exact q _ _ (Int.emod_nonneg _ (by omega)) (Int.emod_lt_of_pos _ (by omega)) ((But.refl _ _).mut.mut) ⟨_, _, _, upd_same, Int.emod_nonneg _ (by decide), Int.emod_lt_of_pos _ (by decide)⟩


/-! _law_far -/
theorem ok_law_far (T : Txt K mg A) : FnOk P w K mg base CX0 2 A.a_law_far A.f_law_far ["_law_spring_here", "_law_wide"] spFar := by
  refine T.F_law_far.ok sc_law_far (fun vs H Q E h => ?_) (fun cdv A' outer s H vs Q E hr h => ⟨_, (pss_cons (ps_set (i := 2) sc_law_far.nd rfl (Or.inl rfl) pe_int)
    (pss_cons (ps_for PassesOwn.never rfl (pi_range1 rfl T.n_range (pa_cons pe_int pa_nil)) (pg_name (i := 3) sc_law_far.nd rfl (Or.inl rfl))
      (pss_one (ps_set (i := 2) sc_law_far.nd rfl (Or.inl rfl) (pe_op op_add (pe_op op_mulW (pv 2) (pe_op op_pow pe_int pe_int)) (pe_call (ok_law_sip T) (hr.mono (by decide)) rfl T.g_law_sip T.k_law_sip T.b_law_sip .nil pass0 (pa_cons (pv 0) (pa_cons (pe_op op_pow pe_int pe_int) pa_nil)))))))
    (pss_one (ps_ret (pe_op op_add (pe_op op_sub (pe_op op_mod (pe_callTy call_int1 (by rfl) T.n_int (by decide +kernel) (pa_cons (pv 2) pa_nil)) (pe_op op_sub (pe_op op_mul pe_int (pv 1)) pe_int)) (pv 1)) pe_int))))), ?_⟩)
  · obtain ⟨p, m, rfl, _⟩ := h
    rfl
  · obtain ⟨p, m, rfl, hS, hm, hm2, q⟩ := h
    walk_at "rd"
    refine ⟨3, rfl, by decide, by decide, for_range (n := 3) (fun i σ H' => ∃ (f : Int) (v : Option V), σ = [some (.ref p), some (.int m), some (.int f), v] ∧ 0 ≤ f ∧ f < 10 ^ (20 * i) ∧ But p H H' ∧ Spr H' p)
      ⟨0, none, rfl, Int.le_refl _, by decide, But.refl _ _, hS⟩ ?_ ?_⟩
    · rintro i σ H' hi ⟨f, v, rfl, f0, f1, hB, hS'⟩
      walk_at "rd"
      have hf : f < 10 ^ 60 := Int.lt_of_lt_of_le f1 (by
        have e : i = 0 ∨ i = 1 ∨ i = 2 := by omega
        rcases e with e | e | e <;> subst e <;> decide)
      have hf2 : f.natAbs < 2 ^ 250 := by omega
      refine r_I (wide_mul (a := 250) (b := 250) hf2 ?_ (by decide) (by decide) (by decide)) ?_
      · decide
      walk_at "rd"
      refine ⟨p, _, rfl, hS', by decide, by decide, fun r H2 r0 r1 hB2 hS2 => ?_⟩
      walk_at "rd"
      refine ⟨_, _, rfl, ?_, ?_, hB.trans hB2, hS2⟩
      · have r0' : (0 : Int) ≤ r := r0
        have : (0 : Int) ≤ f * 10 ^ (Int.toNat 20) := Int.mul_nonneg f0 (by decide)
        first | omega | (show (0 : Int) ≤ f * _ + r; exact Int.add_nonneg (Int.mul_nonneg f0 (by decide)) r0)
      · have e : i = 0 ∨ i = 1 ∨ i = 2 := by omega
        rcases e with e | e | e <;> subst e
        · have f1' : f < 10 ^ 0 := f1
          show f * 10 ^ 20 + r < 10 ^ 20
          have r1' : r < 10 ^ 20 := r1
          omega
        · have f1' : f < 10 ^ 20 := f1
          show f * 10 ^ 20 + r < 10 ^ 40
          have r1' : r < 10 ^ 20 := r1
          omega
        · have f1' : f < 10 ^ 40 := f1
          show f * 10 ^ 20 + r < 10 ^ 60
          have r1' : r < 10 ^ 20 := r1
          omega
    · rintro σ H' ⟨f, v, rfl, f0, f1, hB, hS'⟩
      dsimp only
      walk_at "rd"
      refine Or.inl ⟨_, rfl, ?_⟩
      walk_at "rd"
      refine q _ _ ?_ ?_ hB hS'
      · have h1 := Int.emod_nonneg f (b := 2 * m - 1) (by omega)
        omega
      · have h1 := Int.emod_lt_of_pos f (b := 2 * m - 1) (by omega)
        omega


/-! _law_truth -/
theorem ok_law_truth (T : Txt K mg A) : FnOk P w K mg base CX0 1 A.a_law_truth A.f_law_truth ["_law_found", "_law_due"] spTruth := by
  refine T.F_law_truth.ok sc_law_truth (fun vs H Q E h => ?_) (fun cdv A' outer s H vs Q E hr h => ⟨_, (pss_one (ps_ret (pe_and (pe_callB call_isi (by rfl) T.n_isinstance (by decide +kernel) (pa_cons (pv 0) (pa_cons (pe_bltn (v := .ty "bool") (u := .type "bool") (by rfl) T.n_bool (by decide +kernel) rfl) pa_nil))) (pe_one (pe_cmpR op_eq (pv 0) (pv 1) (nomark _)))))), ?_⟩)
  · obtain ⟨p, m, rfl, _⟩ := h
    rfl
  · obtain ⟨a, b, rfl, q⟩ := h
    walk_at "rd"
    refine ⟨_, _, _, _, true, rfl, .ty "bool", .base (.bl a), kit_ty (by decide +kernel), ?_⟩
    refine ⟨_, rfl, iteT ?_⟩
    walk_at "rd"
    exact q

def spWords (K : PySem.W.Frag) : Sp := fun vs H Q _ => ∃ (n : Int) (a b : Addr) (ta tb : List Addr) (lit dim : List (List Int)), vs = [.int n, .ref a, .ref b] ∧ SqL K H a (ta.map V.ref) ∧ TsI H ta lit ∧ SqL K H b (tb.map V.ref) ∧ TsI H tb dim ∧ Wf n lit dim ∧
  ∀ d H', H d = none → Same H H' → H' d = some (.dT (wk lit "seen" ++ wk dim "hidden")) → Q (.ref d) H'
theorem ok_words_of (T : Txt K mg A) : FnOk P w K mg base CX0 1 A.a_words_of A.f_words_of ["size", "seen", "hidden"] (spWords K) := by
  refine T.F_words_of.ok sc_words_of (fun vs H Q E h => ?_) (fun cdv A' outer s H vs Q E hr h => ⟨_, (pss_cons (ps_set (i := 3) sc_words_of.nd rfl (Or.inl rfl) pe_dnewT)
    (pss_cons (ps_for PassesOwn.never rfl (pi_tup (pe_tup (pa_cons (pe_tup (pa_cons (pv 1) (pa_cons pe_str pa_nil))) (pa_cons (pe_tup (pa_cons (pv 2) (pa_cons pe_str pa_nil))) pa_nil)))) (pg_tup rfl (pgs_cons (pg_name (i := 4) sc_words_of.nd rfl (Or.inl rfl)) (pgs_cons (pg_name (i := 5) sc_words_of.nd rfl (Or.inl rfl)) pgs_nil)))
      (pss_one (ps_for PassesOwn.never rfl (pi_list (pv 4)) (pg_name (i := 6) sc_words_of.nd rfl (Or.inl rfl))
      (pss_cons (ps_if (pt_cmpR op_ne (pe_callB call_len_seq (by rfl) T.n_len (by decide +kernel) (pa_cons (pv 6) pa_nil)) (pv 0) (nomark _)) (pss_one ps_never) pss_nil)
    (pss_cons (ps_if (pt_cmpR (op_inDct hr.units) (pv 6) (pv 3) (by rfl)) (pss_one ps_never) pss_nil)
    (pss_one (ps_asg (pv 5) (pg_sub (pv 3) (pv 6) (set_dict (hu_of hr))))))))))
    (pss_one (ps_ret (pv 3))))), ?_⟩)
  · obtain ⟨n, a, b, ta, tb, lit, dim, rfl, _⟩ := h
    rfl
  · obtain ⟨n, a, b, ta, tb, lit, dim, rfl, ha, hta, hb, htb, hw, q⟩ := h
    have hnd := List.nodup_append.mp hw.nd
    walk_at "rd"
    intro d nd
    walk_at "rd"
    refine ⟨_, rfl, by show 2 ≤ sizeLine; decide, fun t1 nt1 => ⟨_, rfl, by show 2 ≤ sizeLine; decide, fun t2 nt2 => ⟨by show 2 ≤ sizeLine; decide, fun t3 nt3 => ?_⟩⟩⟩
    have n1 := ne_of_none (upd_same (o := HO.dT []) (H := H) (a := d)) nt1
    have s0 : Same H (upd (upd (upd (upd H d (.dT [])) t1 (.tup [.ref a, .str "seen"])) t2 (.tup [.ref b, .str "hidden"])) t3 (.tup [.ref t1, .ref t2])) := (((Same.new0 nd).new nt1).new nt2).new nt3
    have e12 := ne_of_none (upd_same (o := HO.tup [.ref a, .str "seen"]) (H := upd H d (.dT [])) (a := t1)) nt2
    have e13 := ne_of_none ((upd_ne e12).trans (upd_same (o := HO.tup [.ref a, .str "seen"]) (H := upd H d (.dT [])) (a := t1))) nt3
    have e23 := ne_of_none (upd_same (o := HO.tup [.ref b, .str "hidden"]) (H := upd (upd H d (.dT [])) t1 (.tup [.ref a, .str "seen"])) (a := t2)) nt3
    have ed2 := ne_of_none ((upd_ne n1).trans (upd_same (o := HO.dT []) (H := H) (a := d))) nt2
    have ed3 := ne_of_none ((upd_ne ed2).trans ((upd_ne n1).trans (upd_same (o := HO.dT []) (H := H) (a := d)))) nt3
    refine ⟨t3, rfl, ⟨_, SqT.of upd_same⟩, for_tup (K := K) (a := t3) (xs := [.ref t1, .ref t2]) (fun i σ H' => ∃ (v4 v5 v6 : Option V), σ = [some (.int n), some (.ref a), some (.ref b), some (.ref d), v4, v5, v6] ∧ Same H H' ∧
        H' t1 = some (.tup [.ref a, .str "seen"]) ∧ H' t2 = some (.tup [.ref b, .str "hidden"]) ∧ H' t3 = some (.tup [.ref t1, .ref t2]) ∧ H' d = some (.dT (wk (if 0 < i then lit else []) "seen" ++ wk (if 1 < i then dim else []) "hidden")))
      ⟨none, none, none, rfl, s0, ?_, ?_, upd_same, ?_⟩ (fun i σ H' _ ⟨_, _, _, _, _, _, _, e, _⟩ => SqT.of e) ?_ ?_⟩
    · rw [upd_ne e13, upd_ne e12, upd_same]
    · rw [upd_ne e23, upd_same]
    · rw [upd_ne ed3, upd_ne ed2, upd_ne n1, upd_same]
      rfl
    · rintro i x σ H' hi ⟨v4, v5, v6, rfl, s1, h1, h2, h3, hd⟩
      -- the two turns are one
      obtain ⟨tq, c, tc, sc, wd, kvs, rfl, hq, hc, htc, hkd, hn, hnc, hce, hfew, hend⟩ : ∃ (tq c : Addr) (tc : List Addr) (sc : List (List Int)) (wd : Str) (kvs : List (List Key × V)), x = .ref tq ∧ H' tq = some (.tup [.ref c, .str wd]) ∧ SqL K H c (tc.map V.ref) ∧ TsI H tc sc ∧ H' d = some (.dT kvs) ∧ (∀ s ∈ sc, valV kvs (kI s) = none) ∧ sc.Nodup ∧ (∀ s ∈ sc, (s.length : Int) = n) ∧ kvs.length + sc.length ≤ 100000 ∧
          kvs ++ wk sc wd = wk (if 0 < i + 1 then lit else []) "seen" ++ wk (if 1 < i + 1 then dim else []) "hidden" := by
        have hf := hw.few
        rw [List.length_append] at hf
        match i, hi with
        | 0, hi =>
          refine ⟨t1, a, ta, lit, "seen", [], (Option.some.inj hi).symm, h1, ha, hta, hd, fun _ _ => rfl, hnd.1, fun s hs => hw.each s (List.mem_append.mpr (.inl hs)), by rw [List.length_nil]; omega, ?_⟩
          rw [if_pos (by omega), if_neg (by omega)]
          exact (List.append_nil _).symm
        | 1, hi =>
          refine ⟨t2, b, tb, dim, "hidden", wk lit "seen", (Option.some.inj hi).symm, h2, hb, htb, by rw [hd, if_pos (by omega), if_neg (by omega)]; exact congrArg (fun z => some (HO.dT z)) (List.append_nil _), fun s hs => ?_, hnd.2.1, fun s hs => hw.each s (List.mem_append.mpr (.inr hs)), by show (lit.map _).length + _ ≤ _; rw [List.length_map]; omega, ?_⟩
          · rw [valV_wk, if_neg fun z => hnd.2.2 s z s hs rfl]
          · rw [if_pos (by omega), if_pos (by omega)]
      refine r_gtup (SqT.of hq) rfl ?_
      walk_at "rd"
      refine ⟨_, rfl, c, rfl, ⟨_, s1.seq hc⟩, for_list (K := K) (a := c) (xs := tc.map V.ref) (fun j σ H2 => ∃ v6 : Option V, σ = [some (.int n), some (.ref a), some (.ref b), some (.ref d), some (.ref c), some (.str wd), v6] ∧ But d H' H2 ∧ H2 d = some (.dT (kvs ++ wk (sc.take j) wd)))
        ⟨_, rfl, But.refl _ _, by rw [hkd]; exact congrArg (fun z => some (HO.dT z)) (List.append_nil _).symm⟩ (fun j σ H2 _ ⟨_, _, e, _⟩ => (But.of_new nd s1 e).seq hc) ?_ ?_⟩
      · rintro j y σ H2 hj ⟨v6, rfl, hB, hd2⟩
        obtain ⟨t, s, rfl, hts, hsj⟩ := ts_at htc hj
        have s2 := But.of_new nd s1 hB
        have hts2 := hts.same s2
        obtain ⟨g1, g2⟩ := put_next (word := wd) hsj hnc hn
        walk_at "rd"
        refine ⟨t, _, rfl, .inr hts2.sq, ?_⟩
        walk_at "rd"
        refine ⟨_, rfl, iteFb (by rw [List.length_map, hce s (List.mem_of_getElem? hsj), beq_self_eq_true]; rfl) ?_⟩
        walk_at "rd"
        refine ⟨d, _, rfl, DGet.t (k := kI s) hd2 hts2.key, _, rfl, ?_⟩
        rw [g1]
        refine iteFb rfl ?_
        walk_at "rd"
        have hz : (kvs ++ wk (sc.take j) wd).length < sizeLine := by
          have h1 : (wk (sc.take j) wd).length ≤ sc.length := by
            show (List.map _ _).length ≤ _
            rw [List.length_map, List.length_take]
            omega
          rw [List.length_append, sizeLine_eq]
          omega
        refine ⟨d, _, rfl, DPut.t (k := kI s) hd2 hts2.key hz, ?_⟩
        exact ⟨_, rfl, hB.mut, by rw [g2]; exact upd_same⟩
      · rintro σ H2 ⟨v6', rfl, hB, hd2⟩
        have hdt : ∀ {t : Addr} {xs : List V}, H' t = some (.tup xs) → t ≠ d := fun h z => by
          rw [z, hkd] at h
          injection h with h
          injection h
        refine ⟨_, _, _, rfl, But.of_new nd s1 hB, hB _ _ (hdt h1) h1, hB _ _ (hdt h2) h2, hB _ _ (hdt h3) h3, ?_⟩
        rw [hd2, ts_len htc, List.take_length, hend]
    · rintro σ H' ⟨v4, v5, v6, rfl, s1, _, _, _, hd⟩
      dsimp only
      walk_at "rd"
      exact q d _ nd s1 hd

/-! the class -/
def spInit (C : Addr) (K : PySem.W.Frag) : Sp := fun vs H Q _ => ∃ (p dx : Addr) (n : Int) (a b : Addr) (ta tb : List Addr) (lit dim : List (List Int)), vs = [.ref p, .int n, .ref a, .ref b] ∧ H p = some (.ins C dx []) ∧ SqL K H a (ta.map V.ref) ∧ TsI H ta lit ∧ SqL K H b (tb.map V.ref) ∧ TsI H tb dim ∧ Wf n lit dim ∧
  ∀ H', (∀ x o, x ≠ p → H x = some o → H' x = some o) → (Wf n lit dim → ∃ w a b, H' p = some (.ins C dx (pflds n w a b)) ∧ H' w = some (.dT (wk lit "seen" ++ wk dim "hidden")) ∧ LT H' a (srt lit) ∧ LT H' b (srt dim) ∧ H w = none ∧ H a = none ∧ H b = none) → Q .non H'
theorem in_size {n : Int} (h : n = 2 ∨ n = 3) : (if true = true then !inV (.int n) [.int 2, .int 3] else inV (.int n) [.int 2, .int 3]) = false := by
  rcases h with e | e <;> rw [e] <;> rfl
theorem ok_PictureUinitU (T : Txt K mg A) : FnOk P w K mg base CX0 2 A.a_PictureUinitU A.f_PictureUinitU ["self", "size", "seen", "hidden"] (spInit A.a_cPicture K) := by
  refine T.F_PictureUinitU.ok sc_PictureUinitU (fun vs H Q E h => ?_) (fun cdv A' outer s H vs Q E hr h => ⟨_, (pss_cons (ps_if (pt_cmpR op_notIn_seq (pv 1) (pe_tup (pa_cons pe_int (pa_cons pe_int pa_nil))) (by rfl)) (pss_one ps_never) pss_nil)
    (pss_cons (ps_fld (pv 0) (pe_call (ok_words_of T) (hr.mono (by decide)) rfl T.g_words_of T.k_words_of T.b_words_of .nil pass0 (pa_cons (pv 1) (pa_cons (pv 2) (pa_cons (pv 3) pa_nil)))) rfl)
    (pss_cons (ps_fld (pv 0) (pv 1) rfl)
    (pss_cons (ps_fld (pv 0) (pe_callB (cr_sortedTI hr.units) (by rfl) T.n_sorted (by decide +kernel) (pa_cons (pv 2) pa_nil)) rfl)
    (pss_one (ps_fld (pv 0) (pe_callB (cr_sortedTI hr.units) (by rfl) T.n_sorted (by decide +kernel) (pa_cons (pv 3) pa_nil)) rfl)))))), ?_⟩)
  · obtain ⟨p, dx, n, a, b, ta, tb, lit, dim, rfl, _⟩ := h
    rfl
  · obtain ⟨p, dx, n, a, b, ta, tb, lit, dim, rfl, hp, ha, hta, hb, htb, hw, q⟩ := h
    walk_at "rd"
    refine ⟨by show 2 ≤ sizeLine; decide, fun t2 nt2 => ?_⟩
    have s1 : Same H (upd H t2 (.tup [.int 2, .int 3])) := Same.new0 nt2
    refine ⟨t2, _, rfl, .inr (SqT.of upd_same), rfl, rfl, _, rfl, ?_⟩
    refine iteFb (in_size hw.size) ?_
    walk_at "rd"
    (try dsimp only)
    walk_at "rd"
    refine ⟨n, a, b, ta, tb, lit, dim, rfl, s1.seq ha, hta.same s1, s1.seq hb, htb.same s1, hw, fun d H2 nd s2 hd => ?_⟩
    have hp2 := s2 _ _ (s1 _ _ hp)
    have s12 := s1.trans s2
    walk_at "rd"
    refine ⟨p, _, dx, _, rfl, hp2, T.cl_Picture, T.na_Picture_words, by show 0 < 1000; decide, ?_⟩
    walk_at "rd"
    refine ⟨p, _, dx, _, rfl, upd_same, T.cl_Picture, T.na_Picture_size, by show 1 < 1000; decide, ?_⟩
    have b4 : But p H (upd (upd H2 p (.ins A.a_cPicture dx (putF "_words" (.ref d) []))) p (.ins A.a_cPicture dx (putF "_size" (.int n) (putF "_words" (.ref d) [])))) := (s12.but.mut).mut
    walk_at "rd"
    refine ⟨a, ta, lit, rfl, ha.but hp b4, hta.but hp b4, fun s hs => hw.ne s (List.mem_append.mpr (.inl hs)), fun ts' D1 hT1 nD1 => ?_⟩
    walk_at "rd"
    have eD1 := ne_of_none upd_same nD1
    refine ⟨p, _, dx, _, rfl, (upd_ne eD1).trans upd_same, T.cl_Picture, T.na_Picture_seen, by show 2 < 1000; decide, ?_⟩
    have b45 := b4.new (o := .lst (ts'.map V.ref)) nD1
    have b5 := b45.mut (o := .ins A.a_cPicture dx (putF "_seen" (.ref D1) (putF "_size" (.int n) (putF "_words" (.ref d) []))))
    walk_at "rd"
    refine ⟨b, tb, dim, rfl, hb.but hp b5, htb.but hp b5, fun s hs => hw.ne s (List.mem_append.mpr (.inr hs)), fun ts2 D2 hT2 nD2 => ?_⟩
    walk_at "rd"
    have eD2 := ne_of_none upd_same nD2
    refine ⟨p, _, dx, _, rfl, (upd_ne eD2).trans upd_same, T.cl_Picture, T.na_Picture_hidden, by show 3 < 1000; decide, ?_⟩
    have b56 := b5.new (o := .lst (ts2.map V.ref)) nD2
    have b6 := b56.mut (o := .ins A.a_cPicture dx (putF "_hidden" (.ref D2) (putF "_seen" (.ref D1) (putF "_size" (.int n) (putF "_words" (.ref d) [])))))
    have c2 : But p H2 (upd (upd H2 p (.ins A.a_cPicture dx (putF "_words" (.ref d) []))) p (.ins A.a_cPicture dx (putF "_size" (.int n) (putF "_words" (.ref d) [])))) := ((But.refl _ _).mut).mut
    have hp4 : (upd (upd H2 p (.ins A.a_cPicture dx (putF "_words" (.ref d) []))) p (.ins A.a_cPicture dx (putF "_size" (.int n) (putF "_words" (.ref d) [])))) p = some (.ins A.a_cPicture dx (putF "_size" (.int n) (putF "_words" (.ref d) []))) := upd_same
    refine q _ b6 fun _ => ⟨d, D1, D2, upd_same.trans (congrArg (fun z => some (HO.ins _ _ z)) (pflds_put ..)), ?_, ⟨ts', ?_, ?_⟩, ⟨ts2, ?_, ?_⟩, s1.free nd, b4.free nD1 eD1.symm, b5.free nD2 eD2.symm⟩
    · refine ((((c2.new nD1).mut).new nD2).mut) d _ (fun z => ?_) hd
      rw [z, hp2] at hd
      injection hd with hd
      injection hd
    · exact ((((But.refl _ _).mut).new nD2).mut) D1 _ eD1.symm upd_same
    · exact hT1.but hp4 (((((But.refl _ _).new nD1).mut).new nD2).mut)
    · exact (upd_ne eD2.symm).trans upd_same
    · exact hT2.but ((upd_same : upd _ p _ p = some (HO.ins A.a_cPicture dx _))) (((But.refl _ _).new nD2).mut)
/-! what is asked of a picture -/
def spSize (C : Addr) : Sp := fun vs H Q _ => ∃ (p : Addr) (n : Int) (lit dim : List (List Int)) (H0 : Hp), vs = [.ref p] ∧ Pic C H0 H p n lit dim ∧ Q (.int n) H
def spPlaces (C : Addr) (sn : Bool) : Sp := fun vs H Q _ => ∃ (p : Addr) (n : Int) (lit dim : List (List Int)) (H0 : Hp), vs = [.ref p] ∧ Pic C H0 H p n lit dim ∧ ∀ D H', H D = none → Same H H' → LT H' D (srt (if sn then lit else dim)) → Q (.ref D) H'
def spHas (C : Addr) : Sp := fun vs H Q _ => ∃ (p t : Addr) (s : List Int) (n : Int) (lit dim : List (List Int)) (H0 : Hp), vs = [.ref p, .ref t] ∧ TupI H t s ∧ Pic C H0 H p n lit dim ∧ Q (.bl (decide (s ∈ lit ++ dim))) H
def spLen (C : Addr) : Sp := fun vs H Q _ => ∃ (p : Addr) (n : Int) (lit dim : List (List Int)) (H0 : Hp), vs = [.ref p] ∧ Pic C H0 H p n lit dim ∧ Q (.int ((lit ++ dim).length : Nat)) H
theorem ok_Picturesize (T : Txt K mg A) : FnOk P w K mg base CX0 1 A.a_Picturesize A.f_Picturesize ["self"] (spSize A.a_cPicture) := by
  refine T.F_Picturesize.ok sc_Picturesize (fun vs H Q E h => ?_) (fun cdv A' outer s H vs Q E hr h => ⟨_, (pss_one (ps_ret (pe_fld (pv 0) rfl))), ?_⟩)
  · obtain ⟨p, n, lit, dim, H0, rfl, _⟩ := h
    rfl
  · obtain ⟨p, n, lit, dim, H0, rfl, ⟨hw, dx, w, a, b, hp, hd, hl, hm, _⟩, q⟩ := h
    walk_at "rd"
    exact ⟨p, _, dx, _, _, rfl, hp, T.cl_Picture, T.na_Picture_size, pf_size .., q⟩
theorem ok_Pictureseen (T : Txt K mg A) : FnOk P w K mg base CX0 1 A.a_Pictureseen A.f_Pictureseen ["self"] (spPlaces A.a_cPicture true) := by
  refine T.F_Pictureseen.ok sc_Pictureseen (fun vs H Q E h => ?_) (fun cdv A' outer s H vs Q E hr h => ⟨_, (pss_one (ps_ret (pe_callTy call_list_of (by rfl) T.n_list (by decide +kernel) (pa_cons (pe_fld (pv 0) rfl) pa_nil)))), ?_⟩)
  · obtain ⟨p, n, lit, dim, H0, rfl, _⟩ := h
    rfl
  · obtain ⟨p, n, lit, dim, H0, rfl, ⟨hw, dx, w, a, b, hp, hd, ⟨ts, h1, h2⟩, hm, _⟩, q⟩ := h
    walk_at "rd"
    refine ⟨p, _, dx, _, _, rfl, hp, T.cl_Picture, T.na_Picture_seen, pf_seen .., ?_⟩
    walk_at "rd"
    refine ⟨a, _, rfl, .inl (SqL.of h1), fun l nl => ?_⟩
    exact q l _ nl (Same.new0 nl) ⟨ts, upd_same, h2.same (Same.new0 nl)⟩
theorem ok_Picturehidden (T : Txt K mg A) : FnOk P w K mg base CX0 1 A.a_Picturehidden A.f_Picturehidden ["self"] (spPlaces A.a_cPicture false) := by
  refine T.F_Picturehidden.ok sc_Picturehidden (fun vs H Q E h => ?_) (fun cdv A' outer s H vs Q E hr h => ⟨_, (pss_one (ps_ret (pe_callTy call_list_of (by rfl) T.n_list (by decide +kernel) (pa_cons (pe_fld (pv 0) rfl) pa_nil)))), ?_⟩)
  · obtain ⟨p, n, lit, dim, H0, rfl, _⟩ := h
    rfl
  · obtain ⟨p, n, lit, dim, H0, rfl, ⟨hw, dx, w, a, b, hp, hd, hl, ⟨ts, h1, h2⟩, _⟩, q⟩ := h
    walk_at "rd"
    refine ⟨p, _, dx, _, _, rfl, hp, T.cl_Picture, T.na_Picture_hidden, pf_hidden .., ?_⟩
    walk_at "rd"
    refine ⟨b, _, rfl, .inl (SqL.of h1), fun l nl => ?_⟩
    exact q l _ nl (Same.new0 nl) ⟨ts, upd_same, h2.same (Same.new0 nl)⟩
theorem ok_PictureUcontainsU (T : Txt K mg A) : FnOk P w K mg base CX0 1 A.a_PictureUcontainsU A.f_PictureUcontainsU ["self", "x"] (spHas A.a_cPicture) := by
  refine T.F_PictureUcontainsU.ok sc_PictureUcontainsU (fun vs H Q E h => ?_) (fun cdv A' outer s H vs Q E hr h => ⟨_, (pss_one (ps_ret (pe_cmpR (op_inDct hr.units) (pv 1) (pe_fld (pv 0) rfl) (by rfl)))), ?_⟩)
  · obtain ⟨p, t, s, n, lit, dim, H0, rfl, _⟩ := h
    rfl
  · obtain ⟨p, t, s, n, lit, dim, H0, rfl, ht, ⟨hw, dx, w, a, b, hp, hd, _⟩, q⟩ := h
    walk_at "rd"
    refine ⟨p, _, dx, _, _, rfl, hp, T.cl_Picture, T.na_Picture_words, pf_words .., ?_⟩
    refine ⟨w, _, rfl, DGet.t (k := kI s) hd ht.key, ?_⟩
    rw [some_words]
    exact q
theorem ok_PictureUlenU (T : Txt K mg A) : FnOk P w K mg base CX0 1 A.a_PictureUlenU A.f_PictureUlenU ["self"] (spLen A.a_cPicture) := by
  refine T.F_PictureUlenU.ok sc_PictureUlenU (fun vs H Q E h => ?_) (fun cdv A' outer s H vs Q E hr h => ⟨_, (pss_one (ps_ret (pe_callB call_len_dT (by rfl) T.n_len (by decide +kernel) (pa_cons (pe_fld (pv 0) rfl) pa_nil)))), ?_⟩)
  · obtain ⟨p, n, lit, dim, H0, rfl, _⟩ := h
    rfl
  · obtain ⟨p, n, lit, dim, H0, rfl, ⟨hw, dx, w, a, b, hp, hd, _⟩, q⟩ := h
    walk_at "rd"
    refine ⟨p, _, dx, _, _, rfl, hp, T.cl_Picture, T.na_Picture_words, pf_words .., ?_⟩
    walk_at "rd"
    refine ⟨w, _, rfl, hd, ?_⟩
    have e : (wk lit "seen" ++ wk dim "hidden").length = (lit ++ dim).length := by
      rw [List.length_append, List.length_append]
      show (lit.map _).length + (dim.map _).length = _
      rw [List.length_map, List.length_map]
    rw [e]
    exact q

/-! _law_spots -/
def spSpots : Sp := fun vs H Q _ => ∃ (p h : Addr) (n m : Nat) (sh : List (List Int)), vs = [.ref p, .int (n : Int), .int (m : Int), .ref h] ∧ Spr H p ∧ (n = 2 ∨ n = 3) ∧ m ≤ 1000 ∧ h ≠ p ∧ LT H h sh ∧ sh.Nodup ∧ sh.length ≤ 1000 ∧
  ∀ D H' ss, H D = none → But p H H' → Spr H' p → LT H' D ss → (∀ s ∈ ss, s.length = n) → ss.Nodup → (∀ s ∈ ss, s ∉ sh) → ss.length ≤ m → Q (.ref D) H'
theorem ok_law_spots (T : Txt K mg A) : FnOk P w K mg base CX0 3 A.a_law_spots A.f_law_spots ["_law_spring_here", "_law_axes", "_law_many", "_law_held"] spSpots := by
  refine T.F_law_spots.ok sc_law_spots (fun vs H Q E h => ?_) (fun cdv A' outer s H vs Q E hr h => ⟨_, (pss_cons (ps_set (i := 4) sc_law_spots.nd rfl (Or.inl rfl) (pe_call (ok_law_sip T) (hr.mono (by decide)) rfl T.g_law_sip T.k_law_sip T.b_law_sip .nil pass0 (pa_cons (pv 0) (pa_cons pe_int pa_nil))))
    (pss_cons (ps_set (i := 5) sc_law_spots.nd rfl (Or.inr rfl) (pe_ix ix_list (pe_lst (pa_cons pe_int (pa_cons pe_int (pa_cons pe_int (pa_cons (pe_op op_pow pe_int pe_int) pa_nil))))) (pv 4) (fun _ _ => rfl)))
    (pss_cons (ps_set (i := 6) sc_law_spots.nd rfl (Or.inr rfl) (pe_lc (own := [("_law_k", 13)]) (g := gName 13) rfl sc_law_spots.nd (pi_range1 rfl T.n_range (pa_cons (pv 1) pa_nil)) (blkOk_by (own := [("_law_k", 13)]) (N := N_law_spots) (sc := defScope s_law_spots) (by decide +kernel)) (fun _ _ _ _ _ => pg_name (i := 13) sc_law_spots.nd rfl (Or.inl rfl)) (fun _ _ _ _ _ => pts_nil) (fun _ _ _ _ _ => (pe_call (ok_law_far T) (hr.mono (by decide)) rfl T.g_law_far T.k_law_far T.b_law_far .nil pass0 (pa_cons (pv 0) (pa_cons (pv 5) pa_nil))))))
    (pss_cons (ps_set (i := 7) sc_law_spots.nd rfl (Or.inr rfl) (pe_lc (own := [("_law_k", 13)]) (g := gName 13) rfl sc_law_spots.nd (pi_range1 rfl T.n_range (pa_cons (pv 1) pa_nil)) (blkOk_by (own := [("_law_k", 13)]) (N := N_law_spots) (sc := defScope s_law_spots) (by decide +kernel)) (fun _ _ _ _ _ => pg_name (i := 13) sc_law_spots.nd rfl (Or.inl rfl)) (fun _ _ _ _ _ => pts_nil) (fun _ _ _ _ _ => (pe_op op_sub (pe_call (ok_law_sip T) (hr.mono (by decide)) rfl T.g_law_sip T.k_law_sip T.b_law_sip .nil pass0 (pa_cons (pv 0) (pa_cons pe_int pa_nil))) pe_int))))
    (pss_cons (ps_set (i := 8) sc_law_spots.nd rfl (Or.inl rfl) pe_dnewT)
    (pss_cons (ps_for PassesOwn.never rfl (pi_list (pv 3)) (pg_name (i := 9) sc_law_spots.nd rfl (Or.inl rfl))
      (pss_one (ps_asg pe_bl (pg_sub (pv 8) (pv 9) (set_dict (hu_of hr))))))
    (pss_cons (ps_set (i := 10) sc_law_spots.nd rfl (Or.inl rfl) (pe_lst pa_nil))
    (pss_cons (ps_for PassesOwn.never rfl (pi_range1 rfl T.n_range (pa_cons (pv 2) pa_nil)) (pg_name (i := 11) sc_law_spots.nd rfl (Or.inr rfl))
      (pss_cons (ps_set (i := 12) sc_law_spots.nd rfl (Or.inl rfl) (pe_callTy call_tuple_of (by rfl) T.n_tuple (by decide +kernel) (pa_cons (pe_lc (own := [("_law_k", 13)]) (g := gName 13) rfl sc_law_spots.nd (pi_range1 rfl T.n_range (pa_cons (pv 1) pa_nil)) (blkOk_by (own := [("_law_k", 13)]) (N := N_law_spots) (sc := defScope s_law_spots) (by decide +kernel)) (fun _ _ _ _ _ => pg_name (i := 13) sc_law_spots.nd rfl (Or.inl rfl)) (fun _ _ _ _ _ => pts_nil) (fun _ _ _ _ _ => (pe_op op_add (pe_ix (show IxR _ (rIxL K) from ix_list) (pv 6) (pv 13) (fun _ _ => rfl)) (pe_op op_mul (pe_ix (show IxR _ (rIxL K) from ix_list) (pv 7) (pv 13) (fun _ _ => rfl)) (pv 11))))) pa_nil)))
    (Evl.pss_cut (ps_if (PW.pt (pw_and (pt_cmpR op_lt (pv 4) pe_int (nomark _)) (pw_and1 (pt_cmpR op_lt (pv 2) pe_int (nomark _))))) (pss_one (ps_set (i := 12) sc_law_spots.nd rfl (Or.inl rfl) (pe_callTy call_tuple_of (by rfl) T.n_tuple (by decide +kernel) (pa_cons (pe_lc (own := [("_law_k", 13)]) (g := gName 13) rfl sc_law_spots.nd (pi_range1 rfl T.n_range (pa_cons (pv 1) pa_nil)) (blkOk_by (own := [("_law_k", 13)]) (N := N_law_spots) (sc := defScope s_law_spots) (by decide +kernel)) (fun _ _ _ _ _ => pg_name (i := 13) sc_law_spots.nd rfl (Or.inl rfl)) (fun _ _ _ _ _ => pts_nil) (fun _ _ _ _ _ => (pe_op op_add (pe_op op_sub (pe_call (ok_law_sip T) (hr.mono (by decide)) rfl T.g_law_sip T.k_law_sip T.b_law_sip .nil pass0 (pa_cons (pv 0) (pa_cons (pe_op op_sub (pe_op op_mul pe_int (pv 5)) pe_int) pa_nil))) (pv 5)) pe_int))) pa_nil)))) pss_nil)
    (pss_one (ps_if (pt_cmpR (op_notInDct hr.units) (pv 12) (pv 8) (by rfl)) (pss_cons (ps_asg pe_bl (pg_sub (pv 8) (pv 12) (set_dict (hu_of hr))))
    (pss_one (ps_expr (pe_bm PySem.F.plainAttrs_list PySem.F.slot_list_append PySem.F.type_list_append mt_append (pv 10) (pa_cons (pv 12) pa_nil))))) pss_nil)))))
    (pss_one (ps_ret (pv 10))))))))))), ?_⟩)
  · obtain ⟨p, h, n, m, sh, rfl, _⟩ := h
    rfl
  · obtain ⟨p, h, n, m, sh, rfl, hS, hn, hm, nhp, ⟨th, hh, hth⟩, hnd, hsl, q⟩ := h
    walk_at "rd"
    refine ⟨p, _, rfl, hS, by decide, by decide, fun r1 H1 r10 r11 hB1 hS1 => ?_⟩
    walk_at "rd"
    refine ⟨by show 4 ≤ sizeLine; decide, fun l nl => ?_⟩
    obtain ⟨wd, hw0, hw1, hw⟩ : ∃ wd : Int, 1 ≤ wd ∧ wd ≤ 10 ^ 39 ∧ atI [V.int 2, .int 4, .int 41, .int (10 ^ Int.toNat 39)] r1 = some (.int wd) := by
      have e : r1 = 0 ∨ r1 = 1 ∨ r1 = 2 ∨ r1 = 3 := by omega
      rcases e with e | e | e | e <;> subst e <;> exact ⟨_, by decide, by decide, rfl⟩
    walk_at "rd"
    refine r_ixL (SqL.of upd_same) hw ?_
    walk_at "rd"
    have hS1' := hS1.new (o := .lst [.int 2, .int 4, .int 41, .int (10 ^ Int.toNat 39)]) nl
    have b1 := hB1.new (o := .lst [.int 2, .int 4, .int 41, .int (10 ^ Int.toNat 39)]) nl
    -- base
    refine ⟨_, rfl, (n : Int), rfl, by omega, by omega, fun B nB => lc_range (n := n) (fun i H5 => ∃ ms : List Int, ms.length = i ∧ H5 B = some (.lst (ms.map V.int)) ∧ But p H H5 ∧ Spr H5 p)
      ⟨[], rfl, upd_same, b1.new nB, hS1'.new nB⟩ ?_ ?_⟩
    · rintro i H5 hi ⟨ms, rfl, hD, hB5, hS5⟩
      have nBp : B ≠ p := (hS1'.ne nB).symm
      walk_at "rd"
      refine ⟨rfl, ?_⟩
      walk_at "rd"
      refine iteT ?_
      walk_at "rd"
      refine ⟨p, wd, rfl, hS5, hw0, by omega, fun r H6 r0 r1 hB6 hS6 => ?_⟩
      walk_at "rd"
      refine ⟨_, hB6 B _ nBp hD, by rw [List.length_map]; exact Nat.lt_of_lt_of_le hi (Nat.le_trans (by omega) (by decide : 3 ≤ sizeLine)), ms ++ [r], by rw [List.length_append]; rfl, ?_, (hB5.trans hB6).putN (b1.free nB nBp), hS6.put nBp⟩
      rw [upd_same, List.map_append]
      rfl
    rintro H2 ⟨bs, hbl, hb2, hB2, hS2⟩
    have nBp : B ≠ p := (hS1'.ne nB).symm
    walk_at "rd"
    -- step
    refine ⟨_, rfl, (n : Int), rfl, by omega, by omega, fun S nS => lc_range (n := n) (fun i H5 => ∃ ms : List Int, ms.length = i ∧ H5 S = some (.lst (ms.map V.int)) ∧ H5 B = some (.lst (bs.map V.int)) ∧ But p H H5 ∧ Spr H5 p)
      ⟨[], rfl, upd_same, (Same.new0 nS) _ _ hb2, hB2.new nS, hS2.new nS⟩ ?_ ?_⟩
    · rintro i H5 hi ⟨ms, rfl, hD, hb5, hB5, hS5⟩
      have nSp : S ≠ p := (hS2.ne nS).symm
      walk_at "rd"
      refine ⟨rfl, ?_⟩
      walk_at "rd"
      refine iteT ?_
      walk_at "rd"
      refine ⟨p, 7, rfl, hS5, by decide, by decide, fun r H6 r0 r1 hB6 hS6 => ?_⟩
      walk_at "rd"
      refine ⟨_, hB6 S _ nSp hD, by rw [List.length_map]; exact Nat.lt_of_lt_of_le hi (Nat.le_trans (by omega) (by decide : 3 ≤ sizeLine)), ms ++ [r - 3], by rw [List.length_append]; rfl, ?_, ?_, (hB5.trans hB6).putN (hB2.free nS nSp), hS6.put nSp⟩
      · rw [upd_same, List.map_append]
        rfl
      · rw [upd_ne (ne_of_none hb2 nS)]
        exact hB6 B _ nBp hb5
    rintro H3 ⟨cs, hcl, hs3, hb3, hB3, hS3⟩
    have nSp : S ≠ p := (hS2.ne nS).symm
    walk_at "rd"
    intro d nd
    have ndp : d ≠ p := (hS3.ne nd).symm
    walk_at "rd"
    -- the places that are held
    have hh3 := hB3 _ _ nhp hh
    refine ⟨_, rfl, h, rfl, ⟨_, SqL.of ((Same.new0 nd) _ _ hh3)⟩, for_list (K := K) (a := h) (xs := th.map V.ref) (fun i σ H' => ∃ v9 : Option V, σ = [some (.ref p), some (.int (n : Int)), some (.int (m : Int)), some (.ref h), some (.int r1), some (.int wd), some (.ref B), some (.ref S), some (.ref d), v9, none, none, none, none] ∧ But d H3 H' ∧ H' d = some (.dT (wv (sh.take i) (.bl true))))
      ⟨none, rfl, (Same.new0 nd).but, upd_same⟩ (fun i σ H' _ ⟨_, _, e, _⟩ => SqL.of (e _ _ (ne_of_none hh3 nd) hh3)) ?_ ?_⟩
    · rintro i x σ H' hi ⟨v9, rfl, hBd, hd⟩
      obtain ⟨t, s, rfl, hts, hsi⟩ := ts_at hth hi
      have hts3 : TupI H3 t s := hB3 _ _ (hS.tupNe hts) hts
      have hts' : TupI H' t s := hBd _ _ (ne_of_none hts3 nd) hts3
      walk_at "rd"
      have hz : (wv (sh.take i) (V.bl true)).length < sizeLine := by
        show (List.map _ _).length < _
        rw [List.length_map, List.length_take, sizeLine_eq]
        omega
      refine ⟨d, _, rfl, DPut.t (k := kI s) hd hts'.key hz, _, rfl, hBd.mut, ?_⟩
      rw [upd_same, put_wv _ (nodup_take_next hsi hnd), take_more hsi]
    rintro σ H' ⟨v9, rfl, hBd, hd⟩
    rw [ts_len hth, List.take_length] at hd
    dsimp only
    have s34 := But.of_new nd (Same.refl H3) hBd
    walk_at "rd"
    refine ⟨by decide, fun F nF => ?_⟩
    walk_at "rd"
    have hS4 := hS3.same s34
    have nFp : F ≠ p := (hS4.ne nF).symm
    have nBF : B ≠ F := ne_of_none (s34 _ _ hb3) nF
    have nSF : S ≠ F := ne_of_none (s34 _ _ hs3) nF
    have I0 : SpI H (upd H' F (.lst [])) p B S d F bs cs sh [] [] := ⟨(hB3.same s34).new nF, hS4.new nF, (Same.new0 nF) _ _ (s34 _ _ hb3), (Same.new0 nF) _ _ (s34 _ _ hs3), (Same.new0 nF) _ _ (by rw [List.append_nil]; exact hd), upd_same, .nil⟩
    refine ⟨_, rfl, (m : Int), rfl, by omega, by omega, for_range (n := m) (fun i σ H5 => ∃ (v9 v11 v12 : Option V) (ts : List Addr) (ss : List (List Int)), σ = [some (.ref p), some (.int (n : Int)), some (.int (m : Int)), some (.ref h), some (.int r1), some (.int wd), some (.ref B), some (.ref S), some (.ref d), v9, some (.ref F), v11, v12, none] ∧
        SpI H H5 p B S d F bs cs sh ss ts ∧ (∀ s ∈ ss, s.length = n) ∧ ss.Nodup ∧ (∀ s ∈ ss, s ∉ sh) ∧ ss.length ≤ i)
      ⟨v9, none, none, [], [], rfl, I0, (fun _ z => nomatch z), List.nodup_nil, (fun _ z => nomatch z), Nat.le_refl _⟩ ?_ ?_⟩
    · rintro i σ H5 hi ⟨v9, v11, v12, ts, ss, rfl, I5, hln, hsn, hsd, hsl5⟩
      walk_at "rd"
      have nin : ∀ {H5 : Hp} {ts : List Addr} {ss : List (List Int)}, SpI H H5 p B S d F bs cs sh ss ts → True := fun _ => True.intro
      refine ⟨_, rfl, (n : Int), rfl, by omega, by omega, fun D nD => lc_range (n := n) (fun j H6 => ∃ ms : List Int, ms.length = j ∧ H6 D = some (.lst (ms.map V.int)) ∧ Same H5 H6)
        ⟨[], rfl, upd_same, Same.new0 nD⟩ ?_ ?_⟩
      · rintro j H6 hj ⟨ms, rfl, hD, s6⟩
        obtain ⟨x, hx, ex⟩ := at_int (ns := bs) (i := 0 + ((ms.length : Nat) : Int)) (by omega) (by rw [hbl]; omega)
        obtain ⟨y, hy, ey⟩ := at_int (ns := cs) (i := 0 + ((ms.length : Nat) : Int)) (by omega) (by rw [hcl]; omega)
        walk_at "rd"
        refine ⟨rfl, ?_⟩
        walk_at "rd"
        refine iteT ?_
        walk_at "rd"
        refine r_ixL (SqL.of (s6 _ _ I5.b)) ex ?_
        walk_at "rd"
        refine r_ixL (SqL.of (s6 _ _ I5.s)) ey ?_
        walk_at "rd"
        walk_at "rd"
        refine ⟨_, hD, by rw [List.length_map]; exact Nat.lt_of_lt_of_le hj (Nat.le_trans (by omega) (by decide : 3 ≤ sizeLine)), ms ++ [x + y * (0 + (i : Int))], by rw [List.length_append]; rfl, ?_, fun b o hb => ?_⟩
        · rw [upd_same, List.map_append]
          rfl
        · rw [upd_ne (ne_of_none hb nD)]
          exact s6 b o hb
      rintro H6 ⟨ms, hml, hD, s6⟩
      walk_at "rd"
      refine ⟨D, _, rfl, .inl ⟨SqL.of hD, fun t nt => ?_⟩⟩
      have I6 := (I5.same s6).same (Same.new0 nt (o := .tup (ms.map V.int)))
      walk_at "rd"
      -- another one for near places
      refine r_cutIf (fun σ' H7 => ∃ (t : Addr) (ms : List Int), σ' = [some (.ref p), some (.int (n : Int)), some (.int (m : Int)), some (.ref h), some (.int r1), some (.int wd), some (.ref B), some (.ref S), some (.ref d), v9, some (.ref F), some (.int (0 + (i : Int))), some (.ref t), none] ∧ SpI H H7 p B S d F bs cs sh ss ts ∧ TupI H7 t ms ∧ ms.length = n) ?_ ?_
      · walk_at "rd"
        refine ⟨_, rfl, ite2 (fun _ => ?_) (fun _ => ?_)⟩
        · walk_at "rd"
          refine ⟨_, rfl, ite2 (fun _ => ?_) (fun _ => ?_)⟩
          · walk_at "rd"
            refine ⟨_, rfl, (n : Int), rfl, by omega, by omega, fun D2 nD2 => lc_range (n := n) (fun j H7 => ∃ ms : List Int, ms.length = j ∧ H7 D2 = some (.lst (ms.map V.int)) ∧ SpI H H7 p B S d F bs cs sh ss ts)
              ⟨[], rfl, upd_same, I6.same (Same.new0 nD2)⟩ ?_ ?_⟩
            · rintro j H7 hj ⟨ms2, rfl, hD2, I7⟩
              have nDp : D2 ≠ p := (I6.spr.ne nD2).symm
              walk_at "rd"
              refine ⟨rfl, ?_⟩
              walk_at "rd"
              refine iteT ?_
              walk_at "rd"
              walk_at "rd"
              refine ⟨p, 2 * wd - 1, rfl, I7.spr, by omega, by omega, fun r H8 r0 r1' hB8 hS8 => ?_⟩
              walk_at "rd"
              have I8 := I7.to hB8 hS8 nBp nSp nFp
              refine ⟨_, hB8 D2 _ nDp hD2, by rw [List.length_map]; exact Nat.lt_of_lt_of_le hj (Nat.le_trans (by omega) (by decide : 3 ≤ sizeLine)), ms2 ++ [r - wd + 1], by rw [List.length_append]; rfl, ?_, ?_⟩
              · rw [upd_same, List.map_append]
                rfl
              · exact I8.put (hB8 D2 _ nDp hD2) nDp (fun z => ne_of_none I6.b nD2 z.symm) (fun z => ne_of_none I6.s nD2 z.symm) (fun z => ne_of_none I6.f nD2 z.symm) (I6.but.free nD2 nDp)
            rintro H7 ⟨ms2, hml2, hD2, I7⟩
            walk_at "rd"
            refine ⟨D2, _, rfl, .inl ⟨SqL.of hD2, fun t2 nt2 => ?_⟩⟩
            exact ⟨t2, ms2, rfl, I7.same (Same.new0 nt2), upd_same, hml2⟩
          · walk_at "rd"
            exact ⟨t, ms, rfl, I6, upd_same, hml⟩
        · walk_at "rd"
          refine iteF ?_
          walk_at "rd"
          exact ⟨t, ms, rfl, I6, upd_same, hml⟩
      · rintro σ' H7 ⟨t, ms, rfl, I7, ht, hml⟩
        dsimp only
        walk_at "rd"
        refine ⟨d, _, rfl, DGet.t (k := kI ms) I7.d ht.key, _, rfl, ?_⟩
        rw [some_wv]
        refine ite2 (fun hc => ?_) (fun hc => ?_)
        · have hnot : ms ∉ sh ++ ss := fun z => by
            rw [decide_eq_true z] at hc
            exact absurd hc (by decide)
          walk_at "rd"
          have hz : (wv (sh ++ ss) (V.bl true)).length < sizeLine := by
            show (List.map _ _).length < _
            rw [List.length_map, List.length_append, sizeLine_eq]
            omega
          refine ⟨d, _, rfl, DPut.t (k := kI ms) I7.d ht.key hz, ?_⟩
          rw [put_wv _ hnot]
          have edF : d ≠ F := fun z => by
            have h1 := I7.d
            rw [z, I7.f] at h1
            injection h1 with h1
            injection h1
          have edB : d ≠ B := fun z => by
            have h1 := I7.d
            rw [z, I7.b] at h1
            injection h1 with h1
            injection h1
          have edS : d ≠ S := fun z => by
            have h1 := I7.d
            rw [z, I7.s] at h1
            injection h1 with h1
            injection h1
          have etd : ∀ {H : Hp} {t : Addr} {ns : List Int} {kvs : List (List Key × V)}, H d = some (.dT kvs) → TupI H t ns → t ≠ d := fun h1 h2 z => by
            have h2' : _ = _ := h2
            rw [z, h1] at h2'
            injection h2' with h2'
            injection h2'
          walk_at "rd"
          refine ⟨.inl ⟨rfl, _, SqL.of ((upd_ne edF.symm).trans I7.f)⟩, ?_⟩
          walk_at "rd"
          have htl : ts.length = ss.length := Paired.length I7.tt
          refine ⟨F, ts.map V.ref, .ref t, rfl, rfl, (upd_ne edF.symm).trans I7.f, by rw [List.length_map, htl, sizeLine_eq]; omega, ?_⟩
          refine ⟨_, _, _, ts ++ [t], ss ++ [ms], rfl, ⟨?_, ?_, ?_, ?_, ?_, ?_, ?_⟩, fun s hs => ?_, ?_, fun s hs => ?_, by rw [List.length_append]; show ss.length + 1 ≤ i + 1; omega⟩
          · have hd0 : H d = none := hB3.free nd ndp
            have hF0 : H F = none := (hB3.same s34).free nF nFp
            exact (I7.but.putN hd0).putN hF0
          · exact (I7.spr.put ndp).put nFp
          · exact (upd_ne nBF).trans ((upd_ne edB.symm).trans I7.b)
          · exact (upd_ne nSF).trans ((upd_ne edS.symm).trans I7.s)
          · rw [upd_ne edF, upd_same, List.append_assoc]
          · rw [upd_same, List.map_append]
            rfl
          · have keep : ∀ {t : Addr} {ns : List Int}, TupI H7 t ns → TupI (upd (upd H7 d (.dT (wv (sh ++ ss ++ [ms]) (.bl true)))) F (.lst (ts.map V.ref ++ [V.ref t]))) t ns := fun {t ns} z =>
              TupI.put (xs := ts.map V.ref) ((upd_ne (etd I7.d z)).trans z) ((upd_ne edF.symm).trans I7.f)
            refine Paired.snoc (Paired.mapP I7.tt fun x y z => ?_) ?_
            · exact TupI.put (xs := ts.map V.ref) ((upd_ne (etd I7.d z)).trans z) ((upd_ne edF.symm).trans I7.f)
            · exact TupI.put (xs := ts.map V.ref) ((upd_ne (etd I7.d ht)).trans ht) ((upd_ne edF.symm).trans I7.f)
          · rcases List.mem_append.mp hs with e | e
            · exact hln s e
            · rw [List.mem_singleton.mp e]
              exact hml
          · refine List.nodup_append.mpr ⟨hsn, List.pairwise_singleton _ _, fun a ha b hb e => ?_⟩
            rw [List.mem_singleton.mp hb] at e
            exact hnot (List.mem_append.mpr (.inr (e ▸ ha)))
          · rcases List.mem_append.mp hs with e | e
            · exact hsd s e
            · rw [List.mem_singleton.mp e]
              exact fun z => hnot (List.mem_append.mpr (.inl z))
        · walk_at "rd"
          exact ⟨_, _, _, ts, ss, rfl, I7, hln, hsn, hsd, Nat.le_succ_of_le hsl5⟩
    · rintro σ H5 ⟨v9, v11, v12, ts, ss, rfl, I5, hln, hsn, hsd, hsl5⟩
      dsimp only
      walk_at "rd"
      have hF0 : H F = none := (hB3.same s34).free nF nFp
      exact q F H5 ss hF0 I5.but I5.spr ⟨ts, I5.f, I5.tt⟩ hln hsn hsd hsl5


theorem ok_law_whole (T : Txt K mg A) : FnOk P w K mg base CX0 1 A.a_law_whole A.f_law_whole ["_law_found"] spWhole := by
  refine T.F_law_whole.ok sc_law_whole (fun vs H Q E h => ?_) (fun cdv A' outer s H vs Q E hr h => ⟨_, (pss_one (ps_ret (pe_and (pe_callB call_isi (by rfl) T.n_isinstance (by decide +kernel) (pa_cons (pv 0) (pa_cons (pe_bltn (v := .ty "int") (u := .type "int") (by rfl) T.n_int (by decide +kernel) rfl) pa_nil))) (pe_one (pe_not (pe_callB call_isi (by rfl) T.n_isinstance (by decide +kernel) (pa_cons (pv 0) (pa_cons (pe_bltn (v := .ty "bool") (u := .type "bool") (by rfl) T.n_bool (by decide +kernel) rfl) pa_nil)))))))), ?_⟩)
  · obtain ⟨i, rfl, _⟩ := h
    rfl
  · obtain ⟨i, rfl, q⟩ := h
    walk_at "rd"
    refine ⟨_, _, _, _, true, rfl, .ty "int", .base (.int i), kit_ty (by decide +kernel), ?_⟩
    refine ⟨_, rfl, iteT ?_⟩
    walk_at "rd"
    refine ⟨_, _, _, _, false, rfl, .ty "bool", .base (.int i), kit_ty (by decide +kernel), ?_⟩
    exact ⟨_, rfl, q⟩


theorem ok_law_is_spot (T : Txt K mg A) : FnOk P w K mg base CX0 2 A.a_law_is_spot A.f_law_is_spot ["_law_found", "_law_due"] spIsSpot := by
  refine T.F_law_is_spot.ok sc_law_is_spot (fun vs H Q E h => ?_) (fun cdv A' outer s H vs Q E hr h => ⟨_, (pss_cons (ps_if (PW.pt (pw_or (pt_not (pt_val (pe_callB call_isi (by rfl) T.n_isinstance (by decide +kernel) (pa_cons (pv 0) (pa_cons (pe_bltn (v := .ty "tuple") (u := .type "tuple") (by rfl) T.n_tuple (by decide +kernel) rfl) pa_nil))))) (pw_or1 (pt_cmpR op_ne (pe_callB call_len_seq (by rfl) T.n_len (by decide +kernel) (pa_cons (pv 0) pa_nil)) (pe_callB call_len_seq (by rfl) T.n_len (by decide +kernel) (pa_cons (pv 1) pa_nil)) (nomark _))))) (pss_one (ps_ret pe_bl)) pss_nil)
    (pss_cons (ps_for PassesOwn.never rfl (pi_range1 rfl T.n_range (pa_cons (pe_callB call_len_seq (by rfl) T.n_len (by decide +kernel) (pa_cons (pv 1) pa_nil)) pa_nil)) (pg_name (i := 2) sc_law_is_spot.nd rfl (Or.inl rfl))
      (pss_one (ps_if (PW.pt (pw_or (pt_not (pt_val (pe_call (ok_law_whole T) (hr.mono (by decide)) rfl T.g_law_whole T.k_law_whole T.b_law_whole .nil pass0 (pa_cons (pe_ix ix_tup (pv 0) (pv 2) (fun _ _ => rfl)) pa_nil)))) (pw_or1 (pt_cmpR op_ne (pe_ix ix_tup (pv 0) (pv 2) (fun _ _ => rfl)) (pe_ix ix_tup (pv 1) (pv 2) (fun _ _ => rfl)) (nomark _))))) (pss_one (ps_ret pe_bl)) pss_nil)))
    (pss_one (ps_ret pe_bl)))), ?_⟩)
  · obtain ⟨a, b, ns, rfl, _⟩ := h
    rfl
  · obtain ⟨a, b, ns, rfl, ha, hb, hl, q⟩ := h
    walk_at "rd"
    refine ⟨_, _, _, _, true, rfl, .ty "tuple", .base (.tup ha), kit_ty (by decide +kernel), ?_⟩
    refine ⟨_, rfl, iteFb rfl ?_⟩
    walk_at "rd"
    refine ⟨a, _, rfl, .inr (SqT.of ha), ?_⟩
    walk_at "rd"
    refine ⟨b, _, rfl, .inr (SqT.of hb), ?_⟩
    walk_at "rd"
    refine ⟨_, rfl, iteFb (by rw [beq_self_eq_true]; rfl) ?_⟩
    walk_at "rd"
    dsimp only
    refine ⟨_, rfl, b, _, rfl, .inr (SqT.of hb), ?_⟩
    rw [List.length_map]
    refine ⟨_, rfl, by omega, by omega, for_range (n := ns.length) (fun i σ H' => ∃ v : Option V, σ = [some (.ref a), some (.ref b), v] ∧ H' = H) ⟨none, rfl, rfl⟩ ?_ ?_⟩
    · rintro i σ H' hi ⟨v, rfl, rfl⟩
      have hat : atI (ns.map V.int) (0 + (i : Int)) = some (.int ns[i]) := by
        rw [Int.zero_add]
        exact atI_nat (by rw [List.getElem?_map, List.getElem?_eq_getElem hi]; rfl)
      walk_at "rd"
      refine r_ixT (SqT.of ha) hat ?_
      walk_at "rd"
      refine ⟨_, rfl, ⟨_, rfl, iteFb rfl ?_⟩⟩
      walk_at "rd"
      refine r_ixT (SqT.of ha) hat ?_
      walk_at "rd"
      refine r_ixT (SqT.of hb) hat ?_
      walk_at "rd"
      refine ⟨_, rfl, iteFb (by rw [beq_self_eq_true]; rfl) ?_⟩
      walk_at "rd"
      exact ⟨_, rfl, rfl⟩
    · rintro σ H' ⟨v, rfl, rfl⟩
      dsimp only
      walk_at "rd"
      exact q

def spSpotsAre : Sp := fun vs H Q _ => ∃ (a b : Addr) (ss : List (List Int)), vs = [.ref a, .ref b] ∧ LT H a ss ∧ LT H b ss ∧ ss.length ≤ 100000 ∧ (∀ s ∈ ss, s.length ≤ 1000) ∧ Q (.bl true) H
theorem ok_law_spots_are (T : Txt K mg A) : FnOk P w K mg base CX0 3 A.a_law_spots_are A.f_law_spots_are ["_law_found", "_law_due"] spSpotsAre := by
  refine T.F_law_spots_are.ok sc_law_spots_are (fun vs H Q E h => ?_) (fun cdv A' outer s H vs Q E hr h => ⟨_, (pss_cons (ps_if (PW.pt (pw_or (pt_not (pt_val (pe_callB call_isi (by rfl) T.n_isinstance (by decide +kernel) (pa_cons (pv 0) (pa_cons (pe_bltn (v := .ty "list") (u := .type "list") (by rfl) T.n_list (by decide +kernel) rfl) pa_nil))))) (pw_or1 (pt_cmpR op_ne (pe_callB call_len_seq (by rfl) T.n_len (by decide +kernel) (pa_cons (pv 0) pa_nil)) (pe_callB call_len_seq (by rfl) T.n_len (by decide +kernel) (pa_cons (pv 1) pa_nil)) (nomark _))))) (pss_one (ps_ret pe_bl)) pss_nil)
    (pss_cons (ps_for PassesOwn.never rfl (pi_range1 rfl T.n_range (pa_cons (pe_callB call_len_seq (by rfl) T.n_len (by decide +kernel) (pa_cons (pv 1) pa_nil)) pa_nil)) (pg_name (i := 2) sc_law_spots_are.nd rfl (Or.inl rfl))
      (pss_one (ps_if (pt_not (pt_val (pe_call (ok_law_is_spot T) (hr.mono (by decide)) rfl T.g_law_is_spot T.k_law_is_spot T.b_law_is_spot .nil pass0 (pa_cons (pe_ix ix_list (pv 0) (pv 2) (fun _ _ => rfl)) (pa_cons (pe_ix ix_list (pv 1) (pv 2) (fun _ _ => rfl)) pa_nil))))) (pss_one (ps_ret pe_bl)) pss_nil)))
    (pss_one (ps_ret pe_bl)))), ?_⟩)
  · obtain ⟨a, b, ss, rfl, _⟩ := h
    rfl
  · obtain ⟨a, b, ss, rfl, ⟨ta, ha, hta⟩, ⟨tb, hb, htb⟩, hl, hle, q⟩ := h
    have la := ts_len hta
    have lb := ts_len htb
    walk_at "rd"
    refine ⟨_, _, _, _, true, rfl, .ty "list", .base (.lst ha), kit_ty (by decide +kernel), ?_⟩
    refine ⟨_, rfl, iteFb rfl ?_⟩
    walk_at "rd"
    refine ⟨a, _, rfl, .inl (SqL.of ha), ?_⟩
    walk_at "rd"
    refine ⟨b, _, rfl, .inl (SqL.of hb), ?_⟩
    walk_at "rd"
    refine ⟨_, rfl, iteFb (by rw [la, lb, beq_self_eq_true]; rfl) ?_⟩
    walk_at "rd"
    dsimp only
    refine ⟨_, rfl, b, _, rfl, .inl (SqL.of hb), ?_⟩
    rw [lb]
    refine ⟨_, rfl, by omega, by omega, for_range (n := ss.length) (fun i σ H' => ∃ v : Option V, σ = [some (.ref a), some (.ref b), v] ∧ H' = H) ⟨none, rfl, rfl⟩ ?_ ?_⟩
    · rintro i σ H' hi ⟨v, rfl, rfl⟩
      obtain ⟨x, hx⟩ : ∃ x, (ta.map V.ref)[i]? = some x := ⟨_, List.getElem?_eq_getElem (by rw [la]; exact hi)⟩
      obtain ⟨y, hy⟩ : ∃ y, (tb.map V.ref)[i]? = some y := ⟨_, List.getElem?_eq_getElem (by rw [lb]; exact hi)⟩
      obtain ⟨t, s1, rfl, h1, e1⟩ := ts_at hta hx
      obtain ⟨u, s2, rfl, h2, e2⟩ := ts_at htb hy
      obtain rfl : s1 = s2 := Option.some.inj (e1.symm.trans e2)
      have ax : atI (ta.map V.ref) (0 + (i : Int)) = some (.ref t) := by
        rw [Int.zero_add]
        exact atI_nat hx
      have ay : atI (tb.map V.ref) (0 + (i : Int)) = some (.ref u) := by
        rw [Int.zero_add]
        exact atI_nat hy
      walk_at "rd"
      refine r_ixL (SqL.of ha) ax ?_
      walk_at "rd"
      refine r_ixL (SqL.of hb) ay ?_
      walk_at "rd"
      refine ⟨t, u, s1, rfl, h1, h2, hle _ (List.mem_of_getElem? e1), ?_⟩
      refine ⟨_, rfl, iteFb rfl ?_⟩
      walk_at "rd"
      exact ⟨_, rfl, rfl⟩
    · rintro σ H' ⟨v, rfl, rfl⟩
      dsimp only
      walk_at "rd"
      exact q
theorem wf3 {n : Int} {lit dim : List (List Int)} (h : Wf n lit dim) {s : List Int} (hs : s ∈ lit ++ dim) : s.length ≤ 1000 := by
  have h1 := h.each s hs
  have h2 := h.size
  omega
def spPictures (C : Addr) : Sp := fun vs H Q _ => ∃ (p : Addr) (n : Int) (a b : Addr) (lit dim : List (List Int)) (H0 : Hp), vs = [.ref p, .int n, .ref a, .ref b] ∧ Pic C H0 H p n lit dim ∧ LT H a lit ∧ LT H b dim ∧ ∀ H', Same H H' → Q (.bl true) H'
theorem ok_law_pictures (T : Txt K mg A) : FnOk P w K mg base CX0 4 A.a_law_pictures A.f_law_pictures ["_law_picture", "_law_axes", "_law_lit", "_law_dim"] (spPictures A.a_cPicture) := by
  refine T.F_law_pictures.ok sc_law_pictures (fun vs H Q E h => ?_) (fun cdv A' outer s H vs Q E hr h => ⟨_, (pss_cons (ps_if (PW.pt (pw_or (pt_not (pt_val (pe_callB call_isi (by rfl) T.n_isinstance (by decide +kernel) (pa_cons (pv 0) (pa_cons (pe_glob (v := .ref A.a_cPicture) (u := .ref A.a_cPicture) rfl T.g_Picture rfl) pa_nil))))) (pw_or (pt_not (pt_val (pe_call (ok_law_whole T) (hr.mono (by decide)) rfl T.g_law_whole T.k_law_whole T.b_law_whole .nil pass0 (pa_cons (pe_prop (pv 0) T.cl_Picture T.pr_Picturesize (ok_Picturesize T) (hr.mono (by decide)) T.b_Picturesize .nil pass0 rfl) pa_nil)))) (pw_or1 (pt_cmpR op_ne (pe_prop (pv 0) T.cl_Picture T.pr_Picturesize (ok_Picturesize T) (hr.mono (by decide)) T.b_Picturesize .nil pass0 rfl) (pv 1) (nomark _)))))) (pss_one (ps_ret pe_bl)) pss_nil)
    (pss_cons (ps_set (i := 4) sc_law_pictures.nd rfl (Or.inl rfl) (pe_prop (pv 0) T.cl_Picture T.pr_Pictureseen (ok_Pictureseen T) (hr.mono (by decide)) T.b_Pictureseen .nil pass0 rfl))
    (pss_cons (ps_set (i := 5) sc_law_pictures.nd rfl (Or.inl rfl) (pe_prop (pv 0) T.cl_Picture T.pr_Picturehidden (ok_Picturehidden T) (hr.mono (by decide)) T.b_Picturehidden .nil pass0 rfl))
    (pss_cons (ps_if (PW.pt (pw_or (pt_not (pt_val (pe_call (ok_law_spots_are T) (hr.mono (by decide)) rfl T.g_law_spots_are T.k_law_spots_are T.b_law_spots_are .nil pass0 (pa_cons (pv 4) (pa_cons (pe_callB (cr_sortedTI hr.units) (by rfl) T.n_sorted (by decide +kernel) (pa_cons (pv 2) pa_nil)) pa_nil))))) (pw_or1 (pt_not (pt_val (pe_call (ok_law_spots_are T) (hr.mono (by decide)) rfl T.g_law_spots_are T.k_law_spots_are T.b_law_spots_are .nil pass0 (pa_cons (pv 5) (pa_cons (pe_callB (cr_sortedTI hr.units) (by rfl) T.n_sorted (by decide +kernel) (pa_cons (pv 3) pa_nil)) pa_nil)))))))) (pss_one (ps_ret pe_bl)) pss_nil)
    (pss_cons (ps_expr (pe_bm PySem.F.plainAttrs_list PySem.F.slot_list_append PySem.F.type_list_append mt_append (pv 4) (pa_cons (pe_tup (pa_cons pe_int (pa_cons pe_int pa_nil))) pa_nil)))
    (pss_cons (ps_expr (pe_bm0 PySem.F.plainAttrs_list PySem.F.slot_list_clear PySem.F.type_list_clear mt_clear (pv 5)))
    (pss_cons (ps_if (PW.pt (pw_or (pt_not (pt_val (pe_call (ok_law_spots_are T) (hr.mono (by decide)) rfl T.g_law_spots_are T.k_law_spots_are T.b_law_spots_are .nil pass0 (pa_cons (pe_prop (pv 0) T.cl_Picture T.pr_Pictureseen (ok_Pictureseen T) (hr.mono (by decide)) T.b_Pictureseen .nil pass0 rfl) (pa_cons (pe_callB (cr_sortedTI hr.units) (by rfl) T.n_sorted (by decide +kernel) (pa_cons (pv 2) pa_nil)) pa_nil))))) (pw_or1 (pt_not (pt_val (pe_call (ok_law_spots_are T) (hr.mono (by decide)) rfl T.g_law_spots_are T.k_law_spots_are T.b_law_spots_are .nil pass0 (pa_cons (pe_prop (pv 0) T.cl_Picture T.pr_Picturehidden (ok_Picturehidden T) (hr.mono (by decide)) T.b_Picturehidden .nil pass0 rfl) (pa_cons (pe_callB (cr_sortedTI hr.units) (by rfl) T.n_sorted (by decide +kernel) (pa_cons (pv 3) pa_nil)) pa_nil)))))))) (pss_one (ps_ret pe_bl)) pss_nil)
    (pss_one (ps_ret (pe_and (pe_call (ok_law_whole T) (hr.mono (by decide)) rfl T.g_law_whole T.k_law_whole T.b_law_whole .nil pass0 (pa_cons (pe_callB (call_lenOwn (ok_PictureUlenU T) (hr.mono (by decide)) T.at_PictureUlenU T.fn_PictureUlenU T.b_PictureUlenU pass0) (by rfl) T.n_len (by decide +kernel) (pa_cons (pv 0) pa_nil)) pa_nil)) (pe_one (pe_cmpR op_eq (pe_callB (call_lenOwn (ok_PictureUlenU T) (hr.mono (by decide)) T.at_PictureUlenU T.fn_PictureUlenU T.b_PictureUlenU pass0) (by rfl) T.n_len (by decide +kernel) (pa_cons (pv 0) pa_nil)) (pe_op op_add (pe_callB call_len_seq (by rfl) T.n_len (by decide +kernel) (pa_cons (pv 2) pa_nil)) (pe_callB call_len_seq (by rfl) T.n_len (by decide +kernel) (pa_cons (pv 3) pa_nil))) (nomark _))))))))))))), ?_⟩)
  · obtain ⟨p, n, a, b, lit, dim, H0, rfl, _⟩ := h
    rfl
  · obtain ⟨p, n, a, b, lit, dim, H0, rfl, hP, ⟨ta, ha, hta⟩, ⟨tb, hb, htb⟩, q⟩ := h
    obtain ⟨hw, dx, w, a', b', hp, _⟩ := id hP
    have hw1 : ∀ s ∈ lit, s ≠ [] := fun s hs => hw.ne s (List.mem_append.mpr (.inl hs))
    have hw2 : ∀ s ∈ dim, s ≠ [] := fun s hs => hw.ne s (List.mem_append.mpr (.inr hs))
    have f1 : (srt lit).length ≤ 100000 := by
      have h := hw.few
      rw [List.length_append] at h
      rw [srt_len]
      omega
    have f2 : (srt dim).length ≤ 100000 := by
      have h := hw.few
      rw [List.length_append] at h
      rw [srt_len]
      omega
    have g1 : ∀ s ∈ srt lit, s.length ≤ 1000 := fun s hs => wf3 hw (List.mem_append.mpr (.inl ((srt_perm lit).mem_iff.mp hs)))
    have g2 : ∀ s ∈ srt dim, s.length ≤ 1000 := fun s hs => wf3 hw (List.mem_append.mpr (.inr ((srt_perm dim).mem_iff.mp hs)))
    walk_at "rd"
    refine ⟨_, _, _, _, true, rfl, .own _, .base (T.ty_Picture _ _ _ _ hp), T.ks_Picture, ?_⟩
    refine ⟨_, rfl, iteFb rfl ?_⟩
    walk_at "rd"
    refine ⟨p, dx, _, rfl, hp, p, n, lit, dim, H0, rfl, hP, ?_⟩
    walk_at "rd"
    refine ⟨n, rfl, _, rfl, iteFb rfl ?_⟩
    walk_at "rd"
    refine ⟨p, dx, _, rfl, hp, p, n, lit, dim, H0, rfl, hP, ?_⟩
    walk_at "rd"
    refine ⟨_, rfl, iteFb (by rw [beq_self_eq_true]; rfl) ?_⟩
    walk_at "rd"
    (try dsimp only)
    walk_at "rd"
    refine ⟨p, dx, _, rfl, hp, p, n, lit, dim, H0, rfl, hP, fun D1 H1 nD1 s1 hD1 => ?_⟩
    walk_at "rd"
    refine ⟨p, dx, _, rfl, s1 _ _ hp, p, n, lit, dim, H0, rfl, hP.same s1, fun D2 H2 nD2 s2 hD2 => ?_⟩
    have s02 := s1.trans s2
    walk_at "rd"
    refine ⟨a, ta, lit, rfl, SqL.of (s02 _ _ ha), hta.same s02, hw1, fun ts3 S1 hS1 nS1 => ?_⟩
    walk_at "rd"
    have s3 : Same H2 (upd H2 S1 (.lst (ts3.map V.ref))) := Same.new0 nS1
    refine ⟨D1, S1, srt lit, rfl, (hD1.same s2).same s3, ⟨ts3, upd_same, hS1.same s3⟩, f1, g1, ?_⟩
    refine ⟨_, rfl, iteFb rfl ?_⟩
    walk_at "rd"
    have s03 := s02.trans s3
    refine ⟨b, tb, dim, rfl, SqL.of (s03 _ _ hb), htb.same s03, hw2, fun ts4 S2 hS2 nS2 => ?_⟩
    walk_at "rd"
    have s4 := Same.new0 (o := .lst (ts4.map V.ref)) nS2
    refine ⟨D2, S2, srt dim, rfl, (hD2.same s3).same s4, ⟨ts4, upd_same, hS2.same s4⟩, f2, g2, ?_⟩
    refine ⟨_, rfl, iteFb rfl ?_⟩
    walk_at "rd"
    (try dsimp only)
    walk_at "rd"
    obtain ⟨u1, hd1, _⟩ := hD1
    obtain ⟨u2, hd2, _⟩ := hD2
    have ed12 : D1 ≠ D2 := ne_of_none hd1 nD2
    have s24 := s3.trans s4
    refine ⟨.inl ⟨rfl, _, SqL.of (s24 _ _ (s2 _ _ hd1))⟩, ?_⟩
    walk_at "rd"
    refine ⟨by show 2 ≤ sizeLine; decide, fun t7 nt7 => ?_⟩
    have s5 := s24.new (o := .tup [.int 7, .int 7]) nt7
    have lu1 : (u1.map V.ref).length < sizeLine := by
      rw [ts_len ‹TsI H1 u1 _›, sizeLine_eq]
      exact Nat.lt_of_le_of_lt f1 (by decide)
    refine ⟨D1, u1.map V.ref, .ref t7, rfl, rfl, s5 _ _ (s2 _ _ hd1), lu1, ?_⟩
    have s06 := (s02.trans s5).putN (o := .lst (u1.map V.ref ++ [.ref t7])) nD1
    walk_at "rd"
    have hd26 := (upd_ne (o := HO.lst (u1.map V.ref ++ [V.ref t7])) ed12.symm).trans (s5 _ _ hd2)
    refine ⟨.inl ⟨rfl, _, SqL.of hd26⟩, D2, _, rfl, rfl, hd26, ?_⟩
    have s7 := s06.putN (o := .lst []) (s1.free nD2)
    walk_at "rd"
    refine ⟨p, dx, _, rfl, s7 _ _ hp, p, n, lit, dim, H0, rfl, hP.same s7, fun D3 H8 nD3 s8 hD3 => ?_⟩
    have s08 := s7.trans s8
    walk_at "rd"
    refine ⟨a, ta, lit, rfl, SqL.of (s08 _ _ ha), hta.same s08, hw1, fun ts5 S3 hS3 nS3 => ?_⟩
    walk_at "rd"
    have s9 := Same.new0 (o := .lst (ts5.map V.ref)) nS3
    refine ⟨D3, S3, srt lit, rfl, hD3.same s9, ⟨ts5, upd_same, hS3.same s9⟩, f1, g1, ?_⟩
    refine ⟨_, rfl, iteFb rfl ?_⟩
    have s09 := s08.trans s9
    walk_at "rd"
    refine ⟨p, dx, _, rfl, s09 _ _ hp, p, n, lit, dim, H0, rfl, hP.same s09, fun D4 H10 nD4 s10 hD4 => ?_⟩
    have s010 := s09.trans s10
    walk_at "rd"
    refine ⟨b, tb, dim, rfl, SqL.of (s010 _ _ hb), htb.same s010, hw2, fun ts6 S4 hS4 nS4 => ?_⟩
    walk_at "rd"
    have s11 := Same.new0 (o := .lst (ts6.map V.ref)) nS4
    refine ⟨D4, S4, srt dim, rfl, hD4.same s11, ⟨ts6, upd_same, hS4.same s11⟩, f2, g2, ?_⟩
    refine ⟨_, rfl, iteFb rfl ?_⟩
    have s011 := s010.trans s11
    walk_at "rd"
    (try dsimp only)
    walk_at "rd"
    have hfew : (((lit ++ dim).length : Nat) : Int) < 2 ^ 63 := by
      have h := hw.few
      omega
    refine ⟨p, dx, _, rfl, s011 _ _ hp, p, n, lit, dim, H0, rfl, hP.same s011, _, rfl, by omega, hfew, ?_⟩
    walk_at "rd"
    refine ⟨_, rfl, _, rfl, iteT ?_⟩
    walk_at "rd"
    refine ⟨p, dx, _, rfl, s011 _ _ hp, p, n, lit, dim, H0, rfl, hP.same s011, _, rfl, by omega, hfew, ?_⟩
    walk_at "rd"
    refine ⟨a, _, rfl, .inl (SqL.of (s011 _ _ ha)), ?_⟩
    walk_at "rd"
    refine ⟨b, _, rfl, .inl (SqL.of (s011 _ _ hb)), ?_⟩
    walk_at "rd"
    have e : ((((lit ++ dim).length : Nat) : Int) == (((ta.map V.ref).length : Nat) : Int) + (((tb.map V.ref).length : Nat) : Int)) = true := by
      rw [ts_len hta, ts_len htb, List.length_append]
      exact beq_iff_eq.mpr (by omega)
    rw [e]
    exact q _ s011
/-! the lists of a picture -/
def spParts : Sp := fun vs H Q _ => ∃ (p : Addr) (n : Nat), vs = [.ref p, .int (n : Int)] ∧ Spr H p ∧ (n = 2 ∨ n = 3) ∧
  ∀ t a b lit dim H', But p H H' → Spr H' p → H' t = some (.tup [.ref a, .ref b]) → LT H' a lit → LT H' b dim → H a = none → H b = none → Wf (n : Int) lit dim → Q (.ref t) H'
theorem ok_law_parts (T : Txt K mg A) : FnOk P w K mg base CX0 4 A.a_law_parts A.f_law_parts ["_law_spring_here", "_law_axes"] spParts := by
  refine T.F_law_parts.ok sc_law_parts (fun vs H Q E h => ?_) (fun cdv A' outer s H vs Q E hr h => ⟨_, (pss_cons (ps_set (i := 2) sc_law_parts.nd rfl (Or.inl rfl) (pe_lst (pa_cons (pe_call (ok_law_sip T) (hr.mono (by decide)) rfl T.g_law_sip T.k_law_sip T.b_law_sip .nil pass0 (pa_cons (pv 0) (pa_cons pe_int pa_nil))) (pa_cons (pe_call (ok_law_sip T) (hr.mono (by decide)) rfl T.g_law_sip T.k_law_sip T.b_law_sip .nil pass0 (pa_cons (pv 0) (pa_cons pe_int pa_nil))) pa_nil))))
    (Evl.pss_cut (ps_if (pt_cmpR op_eq (pe_call (ok_law_sip T) (hr.mono (by decide)) rfl T.g_law_sip T.k_law_sip T.b_law_sip .nil pass0 (pa_cons (pv 0) (pa_cons pe_int pa_nil))) pe_int (nomark _)) (pss_one (ps_set (i := 2) sc_law_parts.nd rfl (Or.inl rfl) (pe_lst (pa_cons (pe_call (ok_law_sip T) (hr.mono (by decide)) rfl T.g_law_sip T.k_law_sip T.b_law_sip .nil pass0 (pa_cons (pv 0) (pa_cons pe_int pa_nil))) (pa_cons (pe_call (ok_law_sip T) (hr.mono (by decide)) rfl T.g_law_sip T.k_law_sip T.b_law_sip .nil pass0 (pa_cons (pv 0) (pa_cons pe_int pa_nil))) pa_nil))))) pss_nil)
    (pss_cons (ps_set (i := 3) sc_law_parts.nd rfl (Or.inl rfl) (pe_call (ok_law_spots T) (hr.mono (by decide)) rfl T.g_law_spots T.k_law_spots T.b_law_spots .nil pass0 (pa_cons (pv 0) (pa_cons (pv 1) (pa_cons (pe_ix ix_list (pv 2) pe_int (fun _ _ => rfl)) (pa_cons (pe_lst pa_nil) pa_nil))))))
    (pss_one (ps_ret (pe_tup (pa_cons (pv 3) (pa_cons (pe_call (ok_law_spots T) (hr.mono (by decide)) rfl T.g_law_spots T.k_law_spots T.b_law_spots .nil pass0 (pa_cons (pv 0) (pa_cons (pv 1) (pa_cons (pe_ix ix_list (pv 2) pe_int (fun _ _ => rfl)) (pa_cons (pv 3) pa_nil))))) pa_nil)))))))), ?_⟩)
  · obtain ⟨p, n, rfl, _⟩ := h
    rfl
  · obtain ⟨p, n, rfl, hS, hn, q⟩ := h
    walk_at "rd"
    refine ⟨p, _, rfl, hS, by decide, by decide, fun r1 H1 r10 r11 hB1 hS1 => ?_⟩
    walk_at "rd"
    refine ⟨p, _, rfl, hS1, by decide, by decide, fun r2 H2 r20 r21 hB2 hS2 => ?_⟩
    walk_at "rd"
    refine ⟨by show 2 ≤ sizeLine; decide, fun L nL => ?_⟩
    walk_at "rd"
    refine r_cutIf (fun σ' H' => ∃ (L : Addr) (m1 m2 : Nat), m1 ≤ 1000 ∧ m2 ≤ 1000 ∧ σ' = [some (.ref p), some (.int (n : Int)), some (.ref L), none] ∧ H' L = some (.lst [.int (m1 : Int), .int (m2 : Int)]) ∧ L ≠ p ∧ But p H H' ∧ Spr H' p) ?_ ?_
    · walk_at "rd"
      have hB3 := (hB1.trans hB2).new (o := .lst [.int r1, .int r2]) nL
      have hS3 := hS2.new (o := .lst [.int r1, .int r2]) nL
      have nLp : L ≠ p := (hS2.ne nL).symm
      refine ⟨p, _, rfl, hS3, by decide, by decide, fun r3 H3 r30 r31 hB4 hS4 => ?_⟩
      walk_at "rd"
      refine ⟨_, rfl, ite2 (fun _ => ?_) (fun _ => ?_)⟩
      · walk_at "rd"
        refine ⟨p, _, rfl, hS4, by decide, by decide, fun r4 H4 r40 r41 hB5 hS5 => ?_⟩
        walk_at "rd"
        refine ⟨p, _, rfl, hS5, by decide, by decide, fun r5 H5 r50 r51 hB6 hS6 => ?_⟩
        walk_at "rd"
        refine ⟨by show 2 ≤ sizeLine; decide, fun L2 nL2 => ?_⟩
        refine ⟨L2, r4.toNat, r5.toNat, by omega, by omega, rfl, ?_, (hS6.ne nL2).symm, (((hB3.trans hB4).trans hB5).trans hB6).new nL2, hS6.new nL2⟩
        rw [upd_same, Int.toNat_of_nonneg r40, Int.toNat_of_nonneg r50]
      · walk_at "rd"
        refine ⟨L, r1.toNat, r2.toNat, by omega, by omega, rfl, ?_, nLp, hB3.trans hB4, hS4⟩
        rw [hB4 L _ nLp upd_same, Int.toNat_of_nonneg r10, Int.toNat_of_nonneg r20]
    · rintro σ' H3 ⟨L, m1, m2, hm1, hm2, rfl, hL, nLp, hB3, hS3⟩
      dsimp only
      walk_at "rd"
      refine r_ixL (SqL.of hL) (rfl : atI [V.int (m1 : Int), V.int (m2 : Int)] 0 = some (V.int (m1 : Int))) ?_
      walk_at "rd"
      refine ⟨by decide, fun E0 nE0 => ?_⟩
      walk_at "rd"
      refine ⟨p, E0, n, m1, [], rfl, hS3.new nE0, hn, hm1, (hS3.ne nE0).symm, ⟨[], upd_same, .nil⟩, List.nodup_nil, by decide, fun D1 H4 lit nD1 hB4 hS4 hD1 hl1 hn1 _ hc1 => ?_⟩
      have hS3' := hS3.new (o := .lst []) nE0
      have nD1p : D1 ≠ p := (hS3'.ne nD1).symm
      have hB04 : But p H H4 := (hB3.new nE0).trans hB4
      walk_at "rd"
      refine r_ixL (SqL.of (hB4 _ _ nLp ((Same.new0 nE0) _ _ hL))) (rfl : atI [V.int (m1 : Int), V.int (m2 : Int)] 1 = some (V.int (m2 : Int))) ?_
      walk_at "rd"
      refine ⟨p, D1, n, m2, lit, rfl, hS4, hn, hm2, nD1p, hD1, hn1, Nat.le_trans hc1 hm1, fun D2 H5 dim nD2 hB5 hS5 hD2 hl2 hn2 hd2 hc2 => ?_⟩
      have nD2p : D2 ≠ p := (hS4.ne nD2).symm
      walk_at "rd"
      refine ⟨by show 2 ≤ sizeLine; decide, fun t nt => ?_⟩
      have hB05 := hB04.trans hB5
      obtain ⟨u1, hu1, hv1⟩ := hD1
      have sN := Same.new0 (o := .tup [.ref D1, .ref D2]) nt
      refine q t D1 D2 lit dim _ (hB05.new nt) (hS5.new nt) upd_same ⟨u1, sN _ _ (hB5 _ _ nD1p hu1), (hv1.but' hS4 hB5).same sN⟩ (hD2.same sN) ((hB3.new nE0).free nD1 nD1p) (hB04.free nD2 nD2p) ⟨by omega, fun s hs => ?_, ?_, ?_⟩
      · rcases List.mem_append.mp hs with e | e
        · rw [hl1 s e]
        · rw [hl2 s e]
      · exact List.nodup_append.mpr ⟨hn1, hn2, fun x hx y hy e => hd2 y hy (e ▸ hx)⟩
      · rw [List.length_append]
        omega

/-! in, asked of many places -/
theorem at_last {s : List Int} (h : s.length = 2 ∨ s.length = 3) : ∃ x, atI (s.map V.int) (-1) = some (.int x) := by
  match s, h with
  | [a, b], _ => exact ⟨b, rfl⟩
  | [a, b, c], _ => exact ⟨c, rfl⟩
theorem at_first {s : List Int} (h : s.length = 2 ∨ s.length = 3) : ∃ x, atI (s.map V.int) 0 = some (.int x) := by
  match s, h with
  | [a, b], _ => exact ⟨a, rfl⟩
  | [a, b, c], _ => exact ⟨a, rfl⟩
theorem cutI_len {ns : List Int} {lo hi : Option Int} : (cutI ns lo hi).length ≤ ns.length := by
  unfold cutI
  rw [List.length_take, List.length_drop]
  omega
def spHasAll (C : Addr) : Sp := fun vs H Q _ => ∃ (p : Addr) (n : Int) (a b : Addr) (lit dim : List (List Int)) (H0 : Hp), vs = [.ref p, .ref a, .ref b] ∧ Pic C H0 H p n lit dim ∧ LT H a lit ∧ LT H b dim ∧ ∀ H', Same H H' → Q (.bl true) H'
theorem ok_law_has (T : Txt K mg A) : FnOk P w K mg base CX0 2 A.a_law_has A.f_law_has ["_law_picture", "_law_lit", "_law_dim"] (spHasAll A.a_cPicture) := by
  refine T.F_law_has.ok sc_law_has (fun vs H Q E h => ?_) (fun cdv A' outer s H vs Q E hr h => ⟨_, (pss_cons (ps_set (i := 3) sc_law_has.nd rfl (Or.inl rfl) pe_dnewT)
    (pss_cons (ps_for PassesOwn.never rfl (pi_list (pe_op op_cat (pv 1) (pv 2))) (pg_name (i := 4) sc_law_has.nd rfl (Or.inl rfl))
      (pss_one (ps_asg pe_bl (pg_sub (pv 3) (pv 4) (set_dict (hu_of hr))))))
    (pss_cons (ps_for PassesOwn.never rfl (pi_list (pe_op op_cat (pe_op op_cat (pe_op op_cat (pe_slice sl_list (pv 1) po_none (po_some pe_int)) (pe_slice sl_list (pv 1) (po_some (pe_un un_neg pe_int)) po_none)) (pe_slice sl_list (pv 2) po_none (po_some pe_int))) (pe_slice sl_list (pv 2) (po_some (pe_un un_neg pe_int)) po_none))) (pg_name (i := 4) sc_law_has.nd rfl (Or.inl rfl))
      (pss_cons (ps_if (pt_not (pt_val (pe_call (ok_law_truth T) (hr.mono (by decide)) rfl T.g_law_truth T.k_law_truth T.b_law_truth .nil pass0 (pa_cons (pe_cmpR (op_inOwn (ok_PictureUcontainsU T) (hr.mono (by decide)) T.at_PictureUcontainsU T.fn_PictureUcontainsU T.b_PictureUcontainsU pass0) (pv 4) (pv 0) (by rfl)) (pa_cons pe_bl pa_nil))))) (pss_one (ps_ret pe_bl)) pss_nil)
    (pss_one (ps_for PassesOwn.never rfl (pi_list (pe_lst (pa_cons (pe_op op_catA (pe_tup (pa_cons (pe_op op_add (pe_ix ix_tup (pv 4) pe_int (fun _ _ => rfl)) pe_int) pa_nil)) (pe_slice sl_tupA (pv 4) (po_some pe_int) po_none)) (pa_cons (pe_op op_catA (pe_slice sl_tupA (pv 4) po_none (po_some (pe_un un_neg pe_int))) (pe_tup (pa_cons (pe_op op_sub (pe_ix ix_tup (pv 4) (pe_un un_neg pe_int) (fun _ _ => rfl)) pe_int) pa_nil))) (pa_cons (pe_revT (pv 4)) pa_nil))))) (pg_name (i := 5) sc_law_has.nd rfl (Or.inl rfl))
      (pss_one (ps_if (pt_not (pt_val (pe_call (ok_law_truth T) (hr.mono (by decide)) rfl T.g_law_truth T.k_law_truth T.b_law_truth .nil pass0 (pa_cons (pe_cmpR (op_inOwn (ok_PictureUcontainsU T) (hr.mono (by decide)) T.at_PictureUcontainsU T.fn_PictureUcontainsU T.b_PictureUcontainsU pass0) (pv 5) (pv 0) (by rfl)) (pa_cons (pe_cmpR (op_inDct hr.units) (pv 5) (pv 3) (by rfl)) pa_nil))))) (pss_one (ps_ret pe_bl)) pss_nil))))))
    (pss_one (ps_ret pe_bl))))), ?_⟩)
  · obtain ⟨p, n, a, b, lit, dim, H0, rfl, _⟩ := h
    rfl
  · obtain ⟨p, n, a, b, lit, dim, H0, rfl, hP, ⟨ta, ha, hta⟩, ⟨tb, hb, htb⟩, q⟩ := h
    obtain ⟨hw, dx, w, a', b', hp, _⟩ := id hP
    have hfew := hw.few
    have hfew' := hfew
    rw [List.length_append] at hfew'
    have hall := TsI.app hta htb
    have la := ts_len hta
    have lb := ts_len htb
    walk_at "rd"
    intro d nd
    walk_at "rd"
    show tOp _ _ _ _ _ _
    walk_at "rd"
    have s1 := Same.new0 (o := .dT []) nd
    refine ⟨a, b, _, _, rfl, rfl, s1 _ _ ha, s1 _ _ hb, by rw [la, lb, sizeLine_eq]; omega, fun L nL => ?_⟩
    have s2 := s1.new (o := .lst (ta.map V.ref ++ tb.map V.ref)) nL
    have edL := ne_of_none (upd_same (H := H) (a := d) (o := .dT [])) nL
    have nL0 := s1.free nL
    refine ⟨L, rfl, ⟨_, SqL.of upd_same⟩, for_list (K := K) (a := L) (xs := (ta ++ tb).map V.ref) (fun i σ H' => ∃ v4 : Option V, σ = [some (.ref p), some (.ref a), some (.ref b), some (.ref d), v4, none] ∧ Same H H' ∧ H' L = some (.lst ((ta ++ tb).map V.ref)) ∧ H' d = some (.dT (wv ((lit ++ dim).take i) (.bl true))))
      ⟨none, rfl, s2, by rw [upd_same, List.map_append], (upd_ne edL).trans upd_same⟩ (fun i σ H' _ ⟨_, _, _, e, _⟩ => SqL.of e) ?_ ?_⟩
    · rintro i x σ H' hi ⟨v4, rfl, sH, hL, hd⟩
      obtain ⟨t, s, rfl, hts, hsi⟩ := ts_at hall hi
      have hts' := hts.same sH
      walk_at "rd"
      have hz : (wv ((lit ++ dim).take i) (V.bl true)).length < sizeLine := by
        show (List.map _ _).length < _
        rw [List.length_map, List.length_take, sizeLine_eq]
        omega
      refine ⟨d, _, rfl, DPut.t (k := kI s) hd hts'.key hz, _, rfl, sH.putN nd, (upd_ne edL.symm).trans hL, ?_⟩
      rw [upd_same, put_wv _ (nodup_take_next hsi hw.nd), take_more hsi]
    rintro σ H3 ⟨v4, rfl, s3, hL, hd⟩
    rw [ts_len hall, List.take_length] at hd
    dsimp only
    clear hL
    -- the places that are asked
    walk_at "rd"
    show tOp _ _ _ _ _ _
    walk_at "rd"
    refine ⟨_, rfl, a, _, rfl, SqL.of (s3 _ _ ha), fun L1 nL1 => ?_⟩
    have k1 := s3.new (o := .lst (cutV (ta.map V.ref) none (some 5))) nL1
    walk_at "rd"
    refine ⟨_, rfl, _, rfl, a, _, rfl, SqL.of (k1 _ _ ha), fun L2 nL2 => ?_⟩
    have m2 := Same.new0 (o := .lst (cutV (ta.map V.ref) (some (-3)) none)) nL2
    have k2 := k1.trans m2
    walk_at "rd"
    have z1 := cutV_length (ta.map V.ref) none (some 5)
    have z2 := cutV_length (ta.map V.ref) (some (-3)) none
    have z3 := cutV_length (tb.map V.ref) none (some 5)
    have z4 := cutV_length (tb.map V.ref) (some (-3)) none
    refine ⟨L1, L2, _, _, rfl, rfl, m2 _ _ upd_same, upd_same, by rw [sizeLine_eq]; omega, fun L3 nL3 => ?_⟩
    have k3 := k2.new (o := .lst (cutV (ta.map V.ref) none (some 5) ++ cutV (ta.map V.ref) (some (-3)) none)) nL3
    walk_at "rd"
    refine ⟨_, rfl, b, _, rfl, SqL.of (k3 _ _ hb), fun L4 nL4 => ?_⟩
    have m4 := Same.new0 (o := .lst (cutV (tb.map V.ref) none (some 5))) nL4
    have k4 := k3.trans m4
    walk_at "rd"
    refine ⟨L3, L4, _, _, rfl, rfl, m4 _ _ upd_same, upd_same, by rw [List.length_append, sizeLine_eq]; omega, fun L5 nL5 => ?_⟩
    have k5 := k4.new (o := .lst ((cutV (ta.map V.ref) none (some 5) ++ cutV (ta.map V.ref) (some (-3)) none) ++ cutV (tb.map V.ref) none (some 5))) nL5
    walk_at "rd"
    refine ⟨_, rfl, _, rfl, b, _, rfl, SqL.of (k5 _ _ hb), fun L6 nL6 => ?_⟩
    have m6 := Same.new0 (o := .lst (cutV (tb.map V.ref) (some (-3)) none)) nL6
    have k6 := k5.trans m6
    walk_at "rd"
    refine ⟨L5, L6, _, _, rfl, rfl, m6 _ _ upd_same, upd_same, by rw [List.length_append, List.length_append, sizeLine_eq]; omega, fun L7 nL7 => ?_⟩
    have k7 := k6.new (o := .lst (((cutV (ta.map V.ref) none (some 5) ++ cutV (ta.map V.ref) (some (-3)) none) ++ cutV (tb.map V.ref) none (some 5)) ++ cutV (tb.map V.ref) (some (-3)) none)) nL7
    have ia := (AllIn.of hta).more (tt := lit ++ dim) fun s hs => List.mem_append.mpr (.inl hs)
    have ib := (AllIn.of htb).more (tt := lit ++ dim) fun s hs => List.mem_append.mpr (.inr hs)
    have hin := (((ia.cut none (some 5)).app (ia.cut (some (-3)) none)).app (ib.cut none (some 5))).app (ib.cut (some (-3)) none)
    -- the table is not one of the new lists
    have hd7 : upd (upd (upd (upd (upd (upd (upd H3 L1 (.lst (cutV (ta.map V.ref) none (some 5)))) L2 (.lst (cutV (ta.map V.ref) (some (-3)) none))) L3 (.lst (cutV (ta.map V.ref) none (some 5) ++ cutV (ta.map V.ref) (some (-3)) none))) L4 (.lst (cutV (tb.map V.ref) none (some 5)))) L5 (.lst ((cutV (ta.map V.ref) none (some 5) ++ cutV (ta.map V.ref) (some (-3)) none) ++ cutV (tb.map V.ref) none (some 5)))) L6 (.lst (cutV (tb.map V.ref) (some (-3)) none))) L7 (.lst (((cutV (ta.map V.ref) none (some 5) ++ cutV (ta.map V.ref) (some (-3)) none) ++ cutV (tb.map V.ref) none (some 5)) ++ cutV (tb.map V.ref) (some (-3)) none)) d = some (.dT (wv (lit ++ dim) (.bl true))) :=
      ((((((((Same.new0 nL1).trans m2).new nL3).trans m4).new nL5).trans m6).new nL7) _ _ hd)
    generalize (((cutV (ta.map V.ref) none (some 5) ++ cutV (ta.map V.ref) (some (-3)) none) ++ cutV (tb.map V.ref) none (some 5)) ++ cutV (tb.map V.ref) (some (-3)) none) = xs at hin k7 hd7 ⊢
    refine ⟨L7, rfl, ⟨_, SqL.of upd_same⟩, ?_⟩
    have hL7 : ∀ G : Hp, upd G L7 (.lst xs) L7 = some (.lst xs) := fun G => upd_same
    generalize hH4 : upd _ L7 (HO.lst xs) = H4 at k7 hd7 ⊢
    have hL4 : H4 L7 = some (.lst xs) := by rw [← hH4]; exact hL7 _
    refine for_list (K := K) (a := L7) (xs := xs) (fun i σ H' => ∃ v4 v5 : Option V, σ = [some (.ref p), some (.ref a), some (.ref b), some (.ref d), v4, v5] ∧ Same H4 H')
      ⟨v4, none, rfl, Same.refl _⟩ (fun i σ H' _ ⟨_, _, _, e⟩ => SqL.of (e _ _ hL4)) ?_ ?_
    · rintro i x σ H' hi ⟨v4, v5, rfl, sH⟩
      obtain ⟨t, s, rfl, hts, hsm⟩ := hin x (List.mem_of_getElem? hi)
      have k0 := k7.trans sH
      have hts' := hts.same k0
      have hls : s.length = 2 ∨ s.length = 3 := by
        have h1 := hw.each s hsm
        have h2 := hw.size
        omega
      obtain ⟨x0, e0⟩ := at_first hls
      obtain ⟨x9, e9⟩ := at_last hls
      walk_at "rd"
      refine ⟨p, dx, _, rfl, k0 _ _ hp, p, t, s, n, lit, dim, H0, rfl, hts', hP.same k0, _, rfl, ?_⟩
      walk_at "rd"
      refine ⟨_, _, rfl, ?_⟩
      refine ⟨_, rfl, iteFb (by rw [decide_eq_true hsm]; rfl) ?_⟩
      walk_at "rd"
      (try dsimp only)
      refine r_forL ?_
      walk_at "rd"
      refine r_ixT hts'.sq e0 ?_
      walk_at "rd"
      refine ⟨by show 1 ≤ sizeLine; decide, fun q1 nq1 => ?_⟩
      have s1' := Same.new0 (o := .tup [.int (x0 + 1)]) nq1
      have hq1 : TupI (upd H' q1 (.tup [.int (x0 + 1)])) q1 [x0 + 1] := upd_same
      walk_at "rd"
      refine ⟨_, rfl, ?_⟩
      walk_at "rd"
      refine slA_tup (hts'.same s1') fun c1 H10 s10 hc1 => ?_
      walk_at "rd"
      have lc1 : (cutI s (some 1) none).length ≤ 3 := Nat.le_trans cutI_len (by omega)
      refine catA_tup (hq1.same s10) hc1 (by rw [List.length_singleton]; omega) fun g1 H11 s11 hg1 => ?_
      have f11 := (s1'.trans s10).trans s11
      walk_at "rd"
      refine ⟨_, rfl, _, rfl, slA_tup (hts'.same f11) fun c2 H12 s12 hc2 => ?_⟩
      have f12 := f11.trans s12
      walk_at "rd"
      refine ⟨_, rfl, r_ixT (hts'.same f12).sq e9 ?_⟩
      walk_at "rd"
      refine ⟨by show 1 ≤ sizeLine; decide, fun q2 nq2 => ?_⟩
      have s13 := Same.new0 (o := .tup [.int (x9 - 1)]) nq2
      have hq2 : TupI (upd H12 q2 (.tup [.int (x9 - 1)])) q2 [x9 - 1] := upd_same
      have f13 := f12.trans s13
      walk_at "rd"
      have lc2 : (cutI s none (some (-1))).length ≤ 3 := Nat.le_trans cutI_len (by omega)
      refine catA_tup (hc2.same s13) hq2 (by rw [List.length_singleton]; omega) fun g2 H14 s14 hg2 => ?_
      have f14 := f13.trans s14
      walk_at "rd"
      refine ⟨_, rfl, t, _, rfl, (hts'.same f14).sq, fun g3 ng3 => ?_⟩
      have s15 := Same.new0 (o := .tup (s.map V.int).reverse) ng3
      have hg3 : TupI (upd H14 g3 (.tup (s.map V.int).reverse)) g3 s.reverse := by
        unfold TupI
        rw [upd_same, List.map_reverse]
      have f15 := f14.trans s15
      walk_at "rd"
      refine ⟨by show 3 ≤ sizeLine; decide, fun L8 nL8 => ?_⟩
      have s16 := Same.new0 (o := .lst [.ref g1, .ref g2, .ref g3]) nL8
      have f16 := f15.trans s16
      have G1 := (((hg1.same s12).same s13).same s14)
      refine ⟨L8, rfl, ⟨_, SqL.of upd_same⟩, ?_⟩
      have near : ∀ x ∈ [V.ref g1, V.ref g2, V.ref g3], ∃ t ms, x = V.ref t ∧ TupI (upd (upd H14 g3 (.tup (s.map V.int).reverse)) L8 (.lst [.ref g1, .ref g2, .ref g3])) t ms := by
        intro x hx
        rcases List.mem_cons.mp hx with e | hx
        · exact ⟨g1, _, e, (G1.same s15).same s16⟩
        · rcases List.mem_cons.mp hx with e | hx
          · exact ⟨g2, _, e, (hg2.same s15).same s16⟩
          · exact ⟨g3, _, List.mem_singleton.mp hx, hg3.same s16⟩
      have hL8 : (upd (upd H14 g3 (.tup (s.map V.int).reverse)) L8 (.lst [.ref g1, .ref g2, .ref g3])) L8 = some (.lst [.ref g1, .ref g2, .ref g3]) := upd_same
      generalize upd (upd H14 g3 (HO.tup (s.map V.int).reverse)) L8 (HO.lst [V.ref g1, V.ref g2, V.ref g3]) = H17 at f16 near hL8 ⊢
      refine for_list (K := K) (a := L8) (xs := [.ref g1, .ref g2, .ref g3]) (fun i σ H' => ∃ v5 : Option V, σ = [some (.ref p), some (.ref a), some (.ref b), some (.ref d), some (.ref t), v5] ∧ Same H17 H')
        ⟨v5, rfl, Same.refl _⟩ (fun i σ H' _ ⟨_, _, e⟩ => SqL.of (e _ _ hL8)) ?_ ?_
      · rintro j y σ H18 hj ⟨v5', rfl, s18⟩
        obtain ⟨u, ms, rfl, hu⟩ := near y (List.mem_of_getElem? hj)
        have hu' := hu.same s18
        have k8 := (k0.trans f16).trans s18
        have hd8 := s18 _ _ (f16 _ _ (sH _ _ hd7))
        walk_at "rd"
        refine ⟨p, dx, _, rfl, k8 _ _ hp, p, u, ms, n, lit, dim, H0, rfl, hu', hP.same k8, _, rfl, ?_⟩
        walk_at "rd"
        refine ⟨d, _, rfl, DGet.t (k := kI ms) hd8 hu'.key, ?_⟩
        rw [some_wv]
        walk_at "rd"
        refine ⟨_, _, rfl, ?_⟩
        refine ⟨_, rfl, iteFb (by rw [beq_self_eq_true]; rfl) ?_⟩
        walk_at "rd"
        exact ⟨_, rfl, s18⟩
      · rintro σ H18 ⟨v5', rfl, s18⟩
        exact ⟨_, _, rfl, (sH.trans f16).trans s18⟩
    · rintro σ H' ⟨v4, v5, rfl, sH⟩
      dsimp only
      walk_at "rd"
      exact q _ (k7.trans sH)

/-! a new picture -/
theorem make_pic {C : Addr} {K : PySem.W.Frag} {H : Hp} {n : Int} {a b x dx : Addr} {ta tb : List Addr} {lit dim : List (List Int)} {R : Hp → Prop} {E : XK} (nx : H x = none) (ndx : H dx = none) (ha : SqL K H a (ta.map V.ref)) (hta : TsI H ta lit) (hb : SqL K H b (tb.map V.ref)) (htb : TsI H tb dim) (hw : Wf n lit dim)
    (k : ∀ H', Same H H' → Pic C H H' x n lit dim → R H') : spInit C K [.ref x, .int n, .ref a, .ref b] (upd (upd H dx (.own x)) x (.ins C dx [])) (fun v H2 => v = .non ∧ R H2) E := by
  have sG : Same H (upd (upd H dx (.own x)) x (.ins C dx [])) := (Same.new0 ndx).putN nx
  refine ⟨x, dx, n, a, b, ta, tb, lit, dim, rfl, upd_same, sG.seq ha, hta.same sG, sG.seq hb, htb.same sG, hw, fun H' hB hk => ⟨rfl, ?_⟩⟩
  obtain ⟨w, a', b', h1, h2, h3, h4, h5, h6, h7⟩ := hk hw
  exact k H' (fun c o h => hB c o (ne_of_none h nx) (sG c o h)) ⟨hw, dx, w, a', b', h1, h2, h3, h4, nx, sG.free h5, sG.free h6, sG.free h7⟩
def spRight : Sp := fun vs H Q _ => ∃ (p : Addr), vs = [.ref p] ∧ Spr H p ∧ ∀ H', But p H H' → Q (.bl true) H'
theorem ok_law_right (T : Txt K mg A) : FnOk P w K mg base CX0 5 A.a_law_right A.f_law_right ["_law_spring_here"] spRight := by
  refine T.F_law_right.ok sc_law_right (fun vs H Q E h => ?_) (fun cdv A' outer s H vs Q E hr h => ⟨_, (pss_cons (ps_set (i := 1) sc_law_right.nd rfl (Or.inl rfl) (pe_call (ok_law_parts T) (hr.mono (by decide)) rfl T.g_law_parts T.k_law_parts T.b_law_parts .nil pass0 (pa_cons (pv 0) (pa_cons pe_int pa_nil))))
    (pss_cons (ps_set (i := 2) sc_law_right.nd rfl (Or.inl rfl) (pe_call (ok_law_parts T) (hr.mono (by decide)) rfl T.g_law_parts T.k_law_parts T.b_law_parts .nil pass0 (pa_cons (pv 0) (pa_cons pe_int pa_nil))))
    (pss_cons (ps_set (i := 3) sc_law_right.nd rfl (Or.inl rfl) (pe_lst (pa_cons (pe_callTy call_list_of (by rfl) T.n_list (by decide +kernel) (pa_cons (pe_ix ix_tup (pv 1) pe_int (fun _ _ => rfl)) pa_nil)) (pa_cons (pe_callTy call_list_of (by rfl) T.n_list (by decide +kernel) (pa_cons (pe_ix ix_tup (pv 1) pe_int (fun _ _ => rfl)) pa_nil)) (pa_cons (pe_callTy call_list_of (by rfl) T.n_list (by decide +kernel) (pa_cons (pe_ix ix_tup (pv 2) pe_int (fun _ _ => rfl)) pa_nil)) (pa_cons (pe_callTy call_list_of (by rfl) T.n_list (by decide +kernel) (pa_cons (pe_ix ix_tup (pv 2) pe_int (fun _ _ => rfl)) pa_nil)) pa_nil))))))
    (pss_cons (ps_set (i := 4) sc_law_right.nd rfl (Or.inl rfl) (pe_make T.mk_Picture (ok_PictureUinitU T) (hr.mono (by decide)) rfl T.g_Picture T.b_PictureUinitU .nil pass0 (pa_cons pe_int (pa_cons (pe_ix ix_list (pv 3) pe_int (fun _ _ => rfl)) (pa_cons (pe_ix ix_list (pv 3) pe_int (fun _ _ => rfl)) pa_nil)))))
    (pss_cons (ps_if (pt_cmpR (op_neD hr.units) (pe_slice sl_list (pv 3) po_none (po_some pe_int)) (pe_lst (pa_cons (pe_ix ix_tup (pv 1) pe_int (fun _ _ => rfl)) (pa_cons (pe_ix ix_tup (pv 1) pe_int (fun _ _ => rfl)) pa_nil))) (nomark _)) (pss_one (ps_ret pe_bl)) pss_nil)
    (pss_cons (ps_for PassesOwn.never rfl (pi_list (pe_slice sl_list (pv 3) po_none (po_some pe_int))) (pg_name (i := 5) sc_law_right.nd rfl (Or.inl rfl))
      (pss_cons (ps_expr (pe_bm PySem.F.plainAttrs_list PySem.F.slot_list_append PySem.F.type_list_append mt_append (pv 5) (pa_cons (pe_tup (pa_cons pe_int (pa_cons pe_int pa_nil))) pa_nil)))
    (pss_one (ps_expr (pe_bm PySem.F.plainAttrs_list PySem.F.slot_list_insert PySem.F.type_list_insert mt_insert (pv 5) (pa_cons pe_int (pa_cons (pe_tup (pa_cons pe_int (pa_cons (pe_op op_sub pe_int pe_int) pa_nil))) pa_nil)))))))
    (pss_cons (ps_set (i := 6) sc_law_right.nd rfl (Or.inl rfl) (pe_makeK0 T.mk_Picture (ok_PictureUinitU T) (hr.mono (by decide)) rfl T.g_Picture T.kb_PictureUinitU pass0 (pk_cons pe_int (pk_cons (pe_ix ix_list (pv 3) pe_int (fun _ _ => rfl)) (pk_cons (pe_ix ix_list (pv 3) pe_int (fun _ _ => rfl)) pk_nil)))))
    (pss_cons (ps_if (pt_cmpR (op_neD hr.units) (pe_slice sl_list (pv 3) (po_some pe_int) po_none) (pe_lst (pa_cons (pe_ix ix_tup (pv 2) pe_int (fun _ _ => rfl)) (pa_cons (pe_ix ix_tup (pv 2) pe_int (fun _ _ => rfl)) pa_nil))) (nomark _)) (pss_one (ps_ret pe_bl)) pss_nil)
    (pss_cons (ps_expr (pe_bm0 PySem.F.plainAttrs_list PySem.F.slot_list_clear PySem.F.type_list_clear mt_clear (pe_ix ix_list (pv 3) pe_int (fun _ _ => rfl))))
    (pss_cons (ps_expr (pe_bm0 PySem.F.plainAttrs_list PySem.F.slot_list_reverse PySem.F.type_list_reverse mt_reverse (pe_ix ix_list (pv 3) pe_int (fun _ _ => rfl))))
    (pss_cons (ps_for PassesOwn.never rfl (pi_range1 rfl T.n_range (pa_cons pe_int pa_nil)) (pg_name (i := 7) sc_law_right.nd rfl (Or.inl rfl))
      (pss_cons (ps_if (PW.pt (pw_or (pt_not (pt_val (pe_call (ok_law_pictures T) (hr.mono (by decide)) rfl T.g_law_pictures T.k_law_pictures T.b_law_pictures .nil pass0 (pa_cons (pv 4) (pa_cons pe_int (pa_cons (pe_ix ix_tup (pv 1) pe_int (fun _ _ => rfl)) (pa_cons (pe_ix ix_tup (pv 1) pe_int (fun _ _ => rfl)) pa_nil))))))) (pw_or1 (pt_not (pt_val (pe_call (ok_law_pictures T) (hr.mono (by decide)) rfl T.g_law_pictures T.k_law_pictures T.b_law_pictures .nil pass0 (pa_cons (pv 6) (pa_cons pe_int (pa_cons (pe_ix ix_tup (pv 2) pe_int (fun _ _ => rfl)) (pa_cons (pe_ix ix_tup (pv 2) pe_int (fun _ _ => rfl)) pa_nil)))))))))) (pss_one (ps_ret pe_bl)) pss_nil)
    (pss_one (ps_if (PW.pt (pw_or (pt_not (pt_val (pe_call (ok_law_has T) (hr.mono (by decide)) rfl T.g_law_has T.k_law_has T.b_law_has .nil pass0 (pa_cons (pv 4) (pa_cons (pe_ix ix_tup (pv 1) pe_int (fun _ _ => rfl)) (pa_cons (pe_ix ix_tup (pv 1) pe_int (fun _ _ => rfl)) pa_nil)))))) (pw_or1 (pt_not (pt_val (pe_call (ok_law_has T) (hr.mono (by decide)) rfl T.g_law_has T.k_law_has T.b_law_has .nil pass0 (pa_cons (pv 6) (pa_cons (pe_ix ix_tup (pv 2) pe_int (fun _ _ => rfl)) (pa_cons (pe_ix ix_tup (pv 2) pe_int (fun _ _ => rfl)) pa_nil))))))))) (pss_one (ps_ret pe_bl)) pss_nil))))
    (pss_cons (ps_set (i := 8) sc_law_right.nd rfl (Or.inl rfl) (pe_make T.mk_Picture (ok_PictureUinitU T) (hr.mono (by decide)) rfl T.g_Picture T.b_PictureUinitU .nil pass0 (pa_cons pe_int (pa_cons (pe_lst pa_nil) (pa_cons (pe_lst pa_nil) pa_nil)))))
    (pss_one (ps_ret (pe_and (pe_call (ok_law_pictures T) (hr.mono (by decide)) rfl T.g_law_pictures T.k_law_pictures T.b_law_pictures .nil pass0 (pa_cons (pv 8) (pa_cons pe_int (pa_cons (pe_lst pa_nil) (pa_cons (pe_lst pa_nil) pa_nil))))) (pe_one (pe_call (ok_law_truth T) (hr.mono (by decide)) rfl T.g_law_truth T.k_law_truth T.b_law_truth .nil pass0 (pa_cons (pe_cmpR (op_inOwn (ok_PictureUcontainsU T) (hr.mono (by decide)) T.at_PictureUcontainsU T.fn_PictureUcontainsU T.b_PictureUcontainsU pass0) (pe_tup (pa_cons pe_int (pa_cons pe_int (pa_cons pe_int pa_nil)))) (pv 8) (by rfl)) (pa_cons pe_bl pa_nil))))))))))))))))))), ?_⟩)
  · obtain ⟨p, rfl, _⟩ := h
    rfl
  · obtain ⟨p, rfl, hS, q⟩ := h
    walk_at "rd"
    refine ⟨p, 2, rfl, hS, .inl rfl, fun t1 F0 F1 lit1 dim1 H1 hB1 hS1 ht1 hF0 hF1 nF0 nF1 hw1 => ?_⟩
    have nF0p := (hS.ne nF0).symm
    have nF1p := (hS.ne nF1).symm
    walk_at "rd"
    refine ⟨p, 3, rfl, hS1, .inr rfl, fun t2 D0 D1 lit2 dim2 H2 hB2 hS2 ht2 hD0 hD1 nD0 nD1 hw2 => ?_⟩
    have et1 : t1 ≠ p := fun z => by
      obtain ⟨x, y, z', h1, _⟩ := hS1
      rw [z, h1] at ht1
      injection ht1 with ht1
      injection ht1
    have ht1' := hB2 _ _ et1 ht1
    have ltB : ∀ {a : Addr} {ss : List (List Int)}, a ≠ p → LT H1 a ss → LT H2 a ss := fun n ⟨ts, h1, h2⟩ => ⟨ts, hB2 _ _ n h1, h2.but' hS1 hB2⟩
    have hF0' := ltB nF0p hF0
    have hF1' := ltB nF1p hF1
    have b02 := hB1.trans hB2
    clear hF0 hF1 hB1 hB2 ht1 ltB
    obtain ⟨f0, e0, v0⟩ := hF0'
    obtain ⟨f1, e1, v1⟩ := hF1'
    obtain ⟨g0, e2, v2⟩ := hD0
    obtain ⟨g1, e3, v3⟩ := hD1
    walk_at "rd"
    refine r_ixT (SqT.of ht1') (rfl : atI [V.ref F0, V.ref F1] 0 = some (V.ref F0)) ?_
    walk_at "rd"
    refine ⟨F0, _, rfl, .inl (SqL.of e0), fun l0 nl0 => ?_⟩
    have c0 := Same.new0 (o := .lst (f0.map V.ref)) nl0
    walk_at "rd"
    refine r_ixT (SqT.of (c0 _ _ ht1')) (rfl : atI [V.ref F0, V.ref F1] 1 = some (V.ref F1)) ?_
    walk_at "rd"
    refine ⟨F1, _, rfl, .inl (SqL.of (c0 _ _ e1)), fun l1 nl1 => ?_⟩
    have m1 := Same.new0 (o := .lst (f1.map V.ref)) nl1
    have c1 := c0.trans m1
    walk_at "rd"
    refine r_ixT (SqT.of (c1 _ _ ht2)) (rfl : atI [V.ref D0, V.ref D1] 0 = some (V.ref D0)) ?_
    walk_at "rd"
    refine ⟨D0, _, rfl, .inl (SqL.of (c1 _ _ e2)), fun l2 nl2 => ?_⟩
    have m2 := Same.new0 (o := .lst (g0.map V.ref)) nl2
    have c2 := c1.trans m2
    walk_at "rd"
    refine r_ixT (SqT.of (c2 _ _ ht2)) (rfl : atI [V.ref D0, V.ref D1] 1 = some (V.ref D1)) ?_
    walk_at "rd"
    refine ⟨D1, _, rfl, .inl (SqL.of (c2 _ _ e3)), fun l3 nl3 => ?_⟩
    have m3 := Same.new0 (o := .lst (g1.map V.ref)) nl3
    have c3 := c2.trans m3
    walk_at "rd"
    refine ⟨by show 4 ≤ sizeLine; decide, fun LL nLL => ?_⟩
    have m4 := Same.new0 (o := .lst [.ref l0, .ref l1, .ref l2, .ref l3]) nLL
    have c4 := c3.trans m4
    have hl0 := m4 _ _ (m3 _ _ (m2 _ _ (m1 _ _ (upd_same (H := H2) (a := l0) (o := .lst (f0.map V.ref))))))
    have hl1 := m4 _ _ (m3 _ _ (m2 _ _ (upd_same (H := upd H2 l0 (.lst (f0.map V.ref))) (a := l1) (o := .lst (f1.map V.ref)))))
    have hl2 := m4 _ _ (m3 _ _ (upd_same (H := upd (upd H2 l0 (.lst (f0.map V.ref))) l1 (.lst (f1.map V.ref))) (a := l2) (o := .lst (g0.map V.ref))))
    have hl3 := m4 _ _ (upd_same (H := upd (upd (upd H2 l0 (.lst (f0.map V.ref))) l1 (.lst (f1.map V.ref))) l2 (.lst (g0.map V.ref))) (a := l3) (o := .lst (g1.map V.ref)))
    have hLL := upd_same (H := upd (upd (upd (upd H2 l0 (.lst (f0.map V.ref))) l1 (.lst (f1.map V.ref))) l2 (.lst (g0.map V.ref))) l3 (.lst (g1.map V.ref))) (a := LL) (o := .lst [.ref l0, .ref l1, .ref l2, .ref l3])
    -- the addresses differ
    have nl0' : H2 l0 = none := nl0
    have nl1' : H2 l1 = none := c0.free nl1
    have nl2' : H2 l2 = none := c1.free nl2
    have nl3' : H2 l3 = none := c2.free nl3
    have d01 : l0 ≠ l1 := ne_of_none upd_same nl1
    have d02 : l0 ≠ l2 := ne_of_none (m1 _ _ upd_same) nl2
    have d03 : l0 ≠ l3 := ne_of_none (m2 _ _ (m1 _ _ upd_same)) nl3
    have d12 : l1 ≠ l2 := ne_of_none upd_same nl2
    have d13 : l1 ≠ l3 := ne_of_none (m2 _ _ upd_same) nl3
    have d23 : l2 ≠ l3 := ne_of_none upd_same nl3
    have dL : ∀ {x : Addr} {o : HO}, upd (upd (upd (upd H2 l0 (.lst (f0.map V.ref))) l1 (.lst (f1.map V.ref))) l2 (.lst (g0.map V.ref))) l3 (.lst (g1.map V.ref)) x = some o → LL ≠ x := fun h z => by
      rw [← z, nLL] at h
      cases h
    have dL0 : LL ≠ l0 := dL (m3 _ _ (m2 _ _ (m1 _ _ upd_same)))
    have dL1 : LL ≠ l1 := dL (m3 _ _ (m2 _ _ upd_same))
    have dL2 : LL ≠ l2 := dL (m3 _ _ upd_same)
    have dL3 : LL ≠ l3 := dL upd_same
    have w0 := v0.same c4
    have w1 := v1.same c4
    have w2 := v2.same c4
    have w3 := v3.same c4
    have old : ∀ {x : Addr} {o : HO}, H2 x = some o → x ∉ [l0, l1, l2, l3] := fun {x o} h z => by
      simp only [List.mem_cons, List.not_mem_nil, or_false] at z
      rcases z with z | z | z | z <;> rw [z] at h
      · rw [nl0'] at h; cases h
      · rw [nl1'] at h; cases h
      · rw [nl2'] at h; cases h
      · rw [nl3'] at h; cases h
    have o0 := old e0
    have o1 := old e1
    have o2 := old e2
    have o3 := old e3
    have ot1 := old ht1'
    have ot2 := old ht2
    have oLL : LL ∉ [l0, l1, l2, l3] := by
      simp only [List.mem_cons, List.not_mem_nil, or_false]
      rintro (z | z | z | z)
      · exact dL0 z
      · exact dL1 z
      · exact dL2 z
      · exact dL3 z
    have x0 := c4 _ _ e0
    have x1 := c4 _ _ e1
    have x2 := c4 _ _ e2
    have x3 := c4 _ _ e3
    have xt1 := c4 _ _ ht1'
    have xt2 := c4 _ _ ht2
    generalize hG4 : upd (upd (upd (upd (upd H2 l0 (HO.lst (f0.map V.ref))) l1 (HO.lst (f1.map V.ref))) l2 (HO.lst (g0.map V.ref))) l3 (HO.lst (g1.map V.ref))) LL (HO.lst [V.ref l0, V.ref l1, V.ref l2, V.ref l3]) = H4 at *
    have areL : AreL [l0, l1, l2, l3] H4 := fun x hx => by
      simp only [List.mem_cons, List.not_mem_nil, or_false] at hx
      rcases hx with z | z | z | z <;> rw [z]
      · exact ⟨_, hl0⟩
      · exact ⟨_, hl1⟩
      · exact ⟨_, hl2⟩
      · exact ⟨_, hl3⟩
    clear hG4 nl0 nl1 nl2 nl3 nLL c0 c1 c2 c3 m1 m2 m3 m4 dL
    have hw1' : Wf 2 lit1 dim1 := hw1
    have hw2' : Wf 3 lit2 dim2 := hw2
    walk_at "rd"
    refine r_make ?_
    walk_at "rd"
    refine r_ixL (SqL.of hLL) (rfl : atI [V.ref l0, V.ref l1, V.ref l2, V.ref l3] 0 = some (V.ref l0)) ?_
    walk_at "rd"
    refine r_ixL (SqL.of hLL) (rfl : atI [V.ref l0, V.ref l1, V.ref l2, V.ref l3] 1 = some (V.ref l1)) ?_
    walk_at "rd"
    intro p1 dx1 nx1 ndx1 _
    refine make_pic (ta := f0) (tb := f1) nx1 ndx1 (SqL.of hl0) w0 (SqL.of hl1) w1 hw1' fun H5 s5 hP1 => ?_
    walk_at "rd"
    refine ⟨_, rfl, LL, _, rfl, SqL.of (s5 _ _ hLL), fun L1 nL1 => ?_⟩
    rw [show cutV [V.ref l0, V.ref l1, V.ref l2, V.ref l3] none (some 2) = [V.ref l0, V.ref l1] from rfl]
    have a1 := Same.new0 (o := .lst [.ref l0, .ref l1]) nL1
    walk_at "rd"
    have b1 := s5.trans a1
    refine r_ixT (SqT.of (b1 _ _ xt1)) (rfl : atI [V.ref F0, V.ref F1] 0 = some (V.ref F0)) ?_
    walk_at "rd"
    refine r_ixT (SqT.of (b1 _ _ xt1)) (rfl : atI [V.ref F0, V.ref F1] 1 = some (V.ref F1)) ?_
    walk_at "rd"
    refine ⟨by show 2 ≤ sizeLine; decide, fun L2 nL2 => ?_⟩
    have a2 := Same.new0 (o := .lst [.ref F0, .ref F1]) nL2
    have b2 := b1.trans a2
    refine ne_pairs (x := L1) (y := L2) (a2 _ _ upd_same) upd_same ⟨f0, b2 _ _ hl0, w0.same b2⟩ ⟨f1, b2 _ _ hl1, w1.same b2⟩ ⟨f0, b2 _ _ x0, w0.same b2⟩ ⟨f1, b2 _ _ x1, w1.same b2⟩ ?_
    refine ⟨_, rfl, iteF ?_⟩
    walk_at "rd"
    (try dsimp only)
    -- the lists that were handed in change
    refine r_seqForL ?_
    walk_at "rd"
    refine ⟨_, rfl, LL, _, rfl, SqL.of (b2 _ _ hLL), fun L3 nL3 => ?_⟩
    rw [show cutV [V.ref l0, V.ref l1, V.ref l2, V.ref l3] none (some 2) = [V.ref l0, V.ref l1] from rfl]
    have a3 := Same.new0 (o := .lst [.ref l0, .ref l1]) nL3
    have b3 := b2.trans a3
    have t53 := (a1.trans a2).trans a3
    have n3 : ∀ {x : Addr} {o : HO}, H4 x = some o → L3 ≠ x := fun h z => by
      have h' := b2 _ _ h
      rw [← z, nL3] at h'
      cases h'
    have hL3 : upd (upd (upd H5 L1 (.lst [.ref l0, .ref l1])) L2 (.lst [.ref F0, .ref F1])) L3 (.lst [.ref l0, .ref l1]) L3 = some (.lst [.ref l0, .ref l1]) := upd_same
    have oL3 : L3 ∉ [l0, l1] := by
      simp only [List.mem_cons, List.not_mem_nil, or_false]
      rintro (z | z)
      · exact n3 hl0 z
      · exact n3 hl1 z
    refine ⟨L3, rfl, ⟨_, SqL.of upd_same⟩, ?_⟩
    have few1 := hw1.few
    rw [List.length_append] at few1
    have ls3 : Ls [l0, l1] (upd (upd (upd H5 L1 (.lst [.ref l0, .ref l1])) L2 (.lst [.ref F0, .ref F1])) L3 (.lst [.ref l0, .ref l1])) 100000 := fun x hx => by
      simp only [List.mem_cons, List.not_mem_nil, or_false] at hx
      rcases hx with z | z <;> rw [z]
      · exact ⟨_, b3 _ _ hl0, by rw [ts_len w0]; omega⟩
      · exact ⟨_, b3 _ _ hl1, by rw [ts_len w1]; omega⟩
    generalize upd (upd (upd H5 L1 (HO.lst [V.ref l0, V.ref l1])) L2 (HO.lst [V.ref F0, V.ref F1])) L3 (HO.lst [V.ref l0, V.ref l1]) = H8 at b3 t53 hL3 ls3 ⊢
    refine for_list (K := K) (a := L3) (xs := [.ref l0, .ref l1]) (fun i σ H' => ∃ v5 : Option V, σ = [some (.ref p), some (.ref t1), some (.ref t2), some (.ref LL), some (.ref p1), v5, none, none, none] ∧ Exc [l0, l1] H8 H' ∧ Ls [l0, l1] H' (100000 + 2 * i))
      ⟨none, rfl, (Same.refl _).exc, ls3⟩ (fun i σ H' _ ⟨_, _, e, _⟩ => SqL.of (e _ _ oL3 hL3)) ?_ ?_
    · rintro i x σ H' hi ⟨v5, rfl, eX, hLs⟩
      have hil : i < 2 := (List.getElem?_eq_some_iff.mp hi).1
      obtain ⟨l, rfl, hl⟩ : ∃ l, x = .ref l ∧ l ∈ [l0, l1] := by
        have hx := List.mem_of_getElem? hi
        simp only [List.mem_cons, List.not_mem_nil, or_false] at hx
        rcases hx with z | z
        · exact ⟨l0, z, by simp⟩
        · exact ⟨l1, z, by simp⟩
      obtain ⟨ys, hys, hyl⟩ := hLs l hl
      walk_at "rd"
      refine ⟨.inl ⟨rfl, _, SqL.of hys⟩, ?_⟩
      walk_at "rd"
      refine ⟨by show 2 ≤ sizeLine; decide, fun q1 nq1 => ?_⟩
      have r1 := Same.new0 (o := .tup [.int 50, .int 50]) nq1
      refine ⟨l, ys, .ref q1, rfl, rfl, r1 _ _ hys, by rw [sizeLine_eq]; omega, ?_⟩
      have y1 : (ys ++ [V.ref q1]).length ≤ 100000 + 2 * i + 1 := by
        rw [List.length_append]
        exact Nat.succ_le_succ hyl
      have ls1 := (hLs.same r1).put (D := l) y1 (Nat.le_succ _)
      have ex1 := (eX.same r1).put (o := .lst (ys ++ [.ref q1])) hl
      walk_at "rd"
      refine ⟨.inl ⟨rfl, _, SqL.of upd_same⟩, ?_⟩
      walk_at "rd"
      refine ⟨by show 2 ≤ sizeLine; decide, fun q2 nq2 => ?_⟩
      have r2 := Same.new0 (o := .tup [.int 3, .int (0 - 50)]) nq2
      refine ⟨l, ys ++ [.ref q1], 0, .ref q2, rfl, rfl, r2 _ _ upd_same, by rw [sizeLine_eq]; omega, by decide, by decide, ?_⟩
      have y2 : ((ys ++ [V.ref q1]).take (Int.toNat 0) ++ [V.ref q2] ++ (ys ++ [V.ref q1]).drop (Int.toNat 0)).length ≤ 100000 + 2 * (i + 1) := by
        show ([V.ref q2] ++ (ys ++ [V.ref q1])).length ≤ _
        rw [List.length_append]
        show 1 + _ ≤ _
        omega
      exact ⟨_, rfl, (ex1.same r2).put hl, (ls1.same r2).put (D := l) y2 (by omega)⟩
    rintro σ H9 ⟨v5, rfl, eX, hLs⟩
    dsimp only
    have e59 : Exc [l0, l1] H5 H9 := t53.exc.trans eX
    have areL5 := areL.same s5
    have areL2 : AreL [l0, l1] H5 := fun x hx => areL5 x (by simp only [List.mem_cons, List.not_mem_nil, or_false] at hx ⊢; rcases hx with z | z <;> simp [z])
    have in2 : ∀ {x : Addr}, x ∉ [l0, l1, l2, l3] → x ∉ [l0, l1] := fun h z => h (by simp only [List.mem_cons, List.not_mem_nil, or_false] at z ⊢; rcases z with z | z <;> simp [z])
    have nl2 : l2 ∉ [l0, l1] := by
      simp only [List.mem_cons, List.not_mem_nil, or_false]
      rintro (z | z)
      · exact d02 z.symm
      · exact d12 z.symm
    have nl3 : l3 ∉ [l0, l1] := by
      simp only [List.mem_cons, List.not_mem_nil, or_false]
      rintro (z | z)
      · exact d03 z.symm
      · exact d13 z.symm
    have hLL9 := e59 _ _ (in2 oLL) (s5 _ _ hLL)
    have hl29 := e59 _ _ nl2 (s5 _ _ hl2)
    have hl39 := e59 _ _ nl3 (s5 _ _ hl3)
    have w29 := e59.ts areL2 (w2.same s5)
    have w39 := e59.ts areL2 (w3.same s5)
    walk_at "rd"
    refine r_makeK ?_
    walk_at "rd"
    refine r_ixL (SqL.of hLL9) (rfl : atI [V.ref l0, V.ref l1, V.ref l2, V.ref l3] 2 = some (V.ref l2)) ?_
    walk_at "rd"
    refine r_ixL (SqL.of hLL9) (rfl : atI [V.ref l0, V.ref l1, V.ref l2, V.ref l3] 3 = some (V.ref l3)) ?_
    walk_at "rd"
    refine ⟨rfl, rfl, fun p2 dx2 nx2 ndx2 _ => ?_⟩
    refine make_pic (ta := g0) (tb := g1) nx2 ndx2 (SqL.of hl29) w29 (SqL.of hl39) w39 hw2' fun H10 s10 hP2 => ?_
    walk_at "rd"
    refine ⟨_, rfl, ?_⟩
    walk_at "rd"
    have y10 : ∀ {x : Addr} {o : HO}, x ∉ [l0, l1, l2, l3] → H4 x = some o → H10 x = some o := fun n h => s10 _ _ (e59 _ _ (in2 n) (s5 _ _ h))
    refine ⟨LL, _, rfl, SqL.of (y10 oLL hLL), fun L4 nL4 => ?_⟩
    rw [show cutV [V.ref l0, V.ref l1, V.ref l2, V.ref l3] (some 2) none = [V.ref l2, V.ref l3] from rfl]
    have a4 := Same.new0 (o := .lst [.ref l2, .ref l3]) nL4
    walk_at "rd"
    refine r_ixT (SqT.of (a4 _ _ (y10 ot2 xt2))) (rfl : atI [V.ref D0, V.ref D1] 0 = some (V.ref D0)) ?_
    walk_at "rd"
    refine r_ixT (SqT.of (a4 _ _ (y10 ot2 xt2))) (rfl : atI [V.ref D0, V.ref D1] 1 = some (V.ref D1)) ?_
    walk_at "rd"
    refine ⟨by show 2 ≤ sizeLine; decide, fun L5 nL5 => ?_⟩
    have a5 := Same.new0 (o := .lst [.ref D0, .ref D1]) nL5
    have b5 := a4.trans a5
    have w2b := (w29.same s10).same b5
    have w3b := (w39.same s10).same b5
    have hl2b := b5 _ _ (s10 _ _ hl29)
    have hl3b := b5 _ _ (s10 _ _ hl39)
    refine ne_pairs (x := L4) (y := L5) (a5 _ _ upd_same) upd_same ⟨g0, hl2b, w2b⟩ ⟨g1, hl3b, w3b⟩ ⟨g0, b5 _ _ (y10 o2 x2), w2b⟩ ⟨g1, b5 _ _ (y10 o3 x3), w3b⟩ ?_
    refine ⟨_, rfl, iteF ?_⟩
    have hLLb := b5 _ _ (y10 oLL hLL)
    generalize upd (upd H10 L4 (HO.lst [V.ref l2, V.ref l3])) L5 (HO.lst [V.ref D0, V.ref D1]) = H12 at b5 hl2b hl3b hLLb ⊢
    clear w2b w3b a4 a5
    walk_at "rd"
    (try dsimp only)
    walk_at "rd"
    refine r_ixL (SqL.of hLLb) (rfl : atI [V.ref l0, V.ref l1, V.ref l2, V.ref l3] 2 = some (V.ref l2)) ?_
    refine ⟨.inl ⟨rfl, _, SqL.of hl2b⟩, l2, _, rfl, rfl, hl2b, ?_⟩
    walk_at "rd"
    refine r_ixL (SqL.of ((upd_ne dL2).trans hLLb)) (rfl : atI [V.ref l0, V.ref l1, V.ref l2, V.ref l3] 3 = some (V.ref l3)) ?_
    have hl3c : upd H12 l2 (.lst []) l3 = some (.lst (g1.map V.ref)) := (upd_ne d23.symm).trans hl3b
    refine ⟨.inl ⟨rfl, _, SqL.of hl3c⟩, l3, _, rfl, rfl, hl3c, ?_⟩
    have z2 : Exc [l2, l3] H10 (upd (upd H12 l2 (.lst [])) l3 (.lst (g1.map V.ref).reverse)) := (b5.exc.put (by simp)).put (by simp)
    generalize upd (upd H12 l2 (HO.lst [])) l3 (HO.lst (g1.map V.ref).reverse) = H14 at z2 ⊢
    have z5 : Exc [l0, l1, l2, l3] H5 H14 := ((e59.mono (ms := [l0, l1, l2, l3]) fun x hx => by simp only [List.mem_cons, List.not_mem_nil, or_false] at hx ⊢; rcases hx with z | z <;> simp [z]).same s10).trans (z2.mono fun x hx => by simp only [List.mem_cons, List.not_mem_nil, or_false] at hx ⊢; rcases hx with z | z <;> simp [z])
    have P1 := z5.pic areL5 (fun x hx => let ⟨xs, h⟩ := areL x hx; ⟨_, h⟩) hP1
    have areL10 : AreL [l2, l3] H10 := fun x hx => by
      simp only [List.mem_cons, List.not_mem_nil, or_false] at hx
      rcases hx with z | z <;> rw [z]
      · exact ⟨_, s10 _ _ hl29⟩
      · exact ⟨_, s10 _ _ hl39⟩
    have P2 := z2.pic areL10 (fun x hx => by
      simp only [List.mem_cons, List.not_mem_nil, or_false] at hx
      rcases hx with z | z <;> rw [z]
      · exact ⟨_, hl29⟩
      · exact ⟨_, hl39⟩) hP2
    have Y0 : LT H14 F0 lit1 := z5.lt areL5 o0 ⟨f0, s5 _ _ x0, w0.same s5⟩
    have Y1 : LT H14 F1 dim1 := z5.lt areL5 o1 ⟨f1, s5 _ _ x1, w1.same s5⟩
    have Y2 : LT H14 D0 lit2 := z5.lt areL5 o2 ⟨g0, s5 _ _ x2, w2.same s5⟩
    have Y3 : LT H14 D1 dim2 := z5.lt areL5 o3 ⟨g1, s5 _ _ x3, w3.same s5⟩
    have T1 := z5 _ _ ot1 (s5 _ _ xt1)
    have T2 := z5 _ _ ot2 (s5 _ _ xt2)
    have bF : But p H H14 := fun b o nb h => z5 _ _ (old (b02 _ _ nb h)) (s5 _ _ (c4 _ _ (b02 _ _ nb h)))
    clear z5 z2 hl2b hl3b hLLb hl3c b5 areL10 y10
    walk_at "rd"
    (try dsimp only)
    walk_at "rd"
    refine ⟨2, rfl, by decide, by decide, for_range (n := 2) (fun i σ H' => ∃ v7 : Option V, σ = [some (.ref p), some (.ref t1), some (.ref t2), some (.ref LL), some (.ref p1), v5, some (.ref p2), v7, none] ∧ Same H14 H')
      ⟨none, rfl, Same.refl _⟩ ?_ ?_⟩
    · rintro i σ H' hi ⟨v7, rfl, k0⟩
      walk_at "rd"
      refine r_ixT (SqT.of (k0 _ _ T1)) (rfl : atI [V.ref F0, V.ref F1] 0 = some (V.ref F0)) ?_
      walk_at "rd"
      refine r_ixT (SqT.of (k0 _ _ T1)) (rfl : atI [V.ref F0, V.ref F1] 1 = some (V.ref F1)) ?_
      walk_at "rd"
      refine ⟨p1, 2, F0, F1, lit1, dim1, H4, rfl, P1.same k0, Y0.same k0, Y1.same k0, fun Ha sa => ?_⟩
      refine ⟨_, rfl, iteFb rfl ?_⟩
      have k1 := k0.trans sa
      walk_at "rd"
      refine r_ixT (SqT.of (k1 _ _ T2)) (rfl : atI [V.ref D0, V.ref D1] 0 = some (V.ref D0)) ?_
      walk_at "rd"
      refine r_ixT (SqT.of (k1 _ _ T2)) (rfl : atI [V.ref D0, V.ref D1] 1 = some (V.ref D1)) ?_
      walk_at "rd"
      refine ⟨p2, 3, D0, D1, lit2, dim2, H9, rfl, P2.same k1, Y2.same k1, Y3.same k1, fun Hb sb => ?_⟩
      refine ⟨_, rfl, iteFb rfl ?_⟩
      have k2 := k1.trans sb
      walk_at "rd"
      (try dsimp only)
      walk_at "rd"
      refine r_ixT (SqT.of (k2 _ _ T1)) (rfl : atI [V.ref F0, V.ref F1] 0 = some (V.ref F0)) ?_
      walk_at "rd"
      refine r_ixT (SqT.of (k2 _ _ T1)) (rfl : atI [V.ref F0, V.ref F1] 1 = some (V.ref F1)) ?_
      walk_at "rd"
      refine ⟨p1, 2, F0, F1, lit1, dim1, H4, rfl, P1.same k2, Y0.same k2, Y1.same k2, fun Hc sc => ?_⟩
      refine ⟨_, rfl, iteFb rfl ?_⟩
      have k3 := k2.trans sc
      walk_at "rd"
      refine r_ixT (SqT.of (k3 _ _ T2)) (rfl : atI [V.ref D0, V.ref D1] 0 = some (V.ref D0)) ?_
      walk_at "rd"
      refine r_ixT (SqT.of (k3 _ _ T2)) (rfl : atI [V.ref D0, V.ref D1] 1 = some (V.ref D1)) ?_
      walk_at "rd"
      refine ⟨p2, 3, D0, D1, lit2, dim2, H9, rfl, P2.same k3, Y2.same k3, Y3.same k3, fun Hd sd => ?_⟩
      refine ⟨_, rfl, iteFb rfl ?_⟩
      walk_at "rd"
      exact ⟨_, rfl, k3.trans sd⟩
    rintro σ H' ⟨v7, rfl, k0⟩
    dsimp only
    walk_at "rd"
    refine r_make ?_
    walk_at "rd"
    refine ⟨by decide, fun E1 nE1 => ?_⟩
    have z1 := Same.new0 (o := .lst []) nE1
    walk_at "rd"
    refine ⟨by decide, fun E2 nE2 => ?_⟩
    have z2 := Same.new0 (o := .lst []) nE2
    walk_at "rd"
    intro p3 dx3 nx3 ndx3 _
    have hE1 := z2 _ _ (upd_same (H := H') (a := E1) (o := .lst []))
    have hE2 := upd_same (H := upd H' E1 (.lst [])) (a := E2) (o := .lst [])
    refine make_pic (ta := []) (tb := []) (lit := []) (dim := []) nx3 ndx3 (SqL.of hE1) .nil (SqL.of hE2) .nil ⟨.inr rfl, (fun _ z => nomatch z), List.nodup_nil, Nat.zero_le _⟩ fun H20 s20 hP3 => ?_
    have k20 := ((k0.trans z1).trans z2).trans s20
    walk_at "rd"
    refine ⟨by decide, fun E3 nE3 => ?_⟩
    have z3 := Same.new0 (o := .lst []) nE3
    walk_at "rd"
    refine ⟨by decide, fun E4 nE4 => ?_⟩
    have z4 := Same.new0 (o := .lst []) nE4
    walk_at "rd"
    have hE3 := z4 _ _ (upd_same (H := H20) (a := E3) (o := .lst []))
    have hE4 := upd_same (H := upd H20 E3 (.lst [])) (a := E4) (o := .lst [])
    refine ⟨p3, 3, E3, E4, [], [], _, rfl, hP3.same (z3.trans z4), ⟨[], hE3, .nil⟩, ⟨[], hE4, .nil⟩, fun H23 s23 => ?_⟩
    refine ⟨_, rfl, iteT ?_⟩
    walk_at "rd"
    refine ⟨by show 3 ≤ sizeLine; decide, fun t0 nt0 => ?_⟩
    have z5 := Same.new0 (o := .tup [.int 0, .int 0, .int 0]) nt0
    have k23 := (((z3.trans z4).trans s23).trans z5)
    have P3 := hP3.same k23
    obtain ⟨_, dx', w', a', b', hp3, _⟩ := id P3
    walk_at "rd"
    refine ⟨p3, dx', _, rfl, hp3, p3, t0, [0, 0, 0], 3, [], [], _, rfl, upd_same, P3, _, rfl, ?_⟩
    walk_at "rd"
    refine ⟨_, _, rfl, ?_⟩
    have e : (decide (([0, 0, 0] : List Int) ∈ ([] ++ [] : List (List Int))) == false) = true := by decide
    rw [e]
    exact q _ (bF.same (k20.trans k23))


/-! law: the cells, one by one -/
theorem ok_law (T : Txt K mg A) : FnOk P w K mg base CX0 6 A.a_law A.f_law ["_law_script"] (spLaw K) := by
  refine T.F_law.ok sc_law (fun vs H Q E h => ?_) (fun cdv A' outer s H vs Q E hr h => ⟨_, (pss_cons (ps_set (i := 1) sc_law.nd rfl (Or.inl rfl) (pe_op op_cat (pe_slice sl_list (pv 0) po_none (po_some pe_int)) (pe_op op_rep (pe_lst (pa_cons pe_int pa_nil)) (pe_callTy call_int1 (by rfl) T.n_int (by decide +kernel) (pa_cons (pe_cmpR op_eq (pe_callB call_len_seq (by rfl) T.n_len (by decide +kernel) (pa_cons (pv 0) pa_nil)) pe_int (nomark _)) pa_nil)))))
    (pss_cons (ps_for PassesOwn.never rfl (pi_range1 rfl T.n_range (pa_cons (pe_callB call_len_seq (by rfl) T.n_len (by decide +kernel) (pa_cons (pv 1) pa_nil)) pa_nil)) (pg_name (i := 2) sc_law.nd rfl (Or.inl rfl))
      (pss_one (ps_if (pt_not (pt_val (pe_call (ok_law_right T) (hr.mono (by decide)) rfl T.g_law_right T.k_law_right T.b_law_right .nil pass0 (pa_cons (pe_call (ok_law_spring T) (hr.mono (by decide)) rfl T.g_law_spring T.k_law_spring T.b_law_spring .nil pass0 (pa_cons (pe_ix ix_list (pv 1) (pv 2) (fun _ _ => rfl)) (pa_cons (pv 2) pa_nil))) pa_nil)))) (pss_one (ps_ret pe_bl)) pss_nil)))
    (pss_one (ps_ret pe_bl)))), ?_⟩)
  · obtain ⟨p, ns, rfl, _⟩ := h
    rfl
  · obtain ⟨a, ns, rfl, hS, hlen, hbits, q⟩ := h
    walk_at "rd"
    refine ⟨_, rfl, a, _, rfl, hS, fun l1 n1 => ?_⟩
    rw [show cutV (ns.map V.int) none (some 6) = (ns.take 6).map V.int from cut_ints ns 6]
    have hS1 := (Same.new0 n1 (o := .lst ((ns.take 6).map V.int))).seq hS
    walk_at "rd"
    refine ⟨by show 1 ≤ sizeLine; decide, fun l2 n2 => ?_⟩
    have hS2 := (Same.new0 n2 (o := .lst [V.int 0])).seq hS1
    walk_at "rd"
    refine ⟨a, _, rfl, .inl hS2, ?_⟩
    walk_at "rd"
    refine .inr ⟨_, rfl, ?_⟩
    have ez : (if (((List.map V.int ns).length : Nat) : Int) == 0 then (1 : Int) else 0) = if ns.length = 0 then (1 : Int) else 0 := by
      rw [List.length_map]
      by_cases h : ns.length = 0
      · rw [if_pos h, h]
        rfl
      · rw [if_neg h, if_neg (by simpa using h)]
    rw [ez]
    refine ⟨l2, _, _, rfl, rfl, upd_same, by split <;> omega, by split <;> omega, by split <;> decide, fun l3 n3 => ?_⟩
    have h13 := (Same.new0 n3 (o := .lst (List.replicate ((if ns.length = 0 then (1 : Int) else 0).toNat) [V.int 0]).flatten)) l1 _ ((Same.new0 n2 (o := .lst [V.int 0])) l1 _ upd_same)
    refine ⟨l1, l3, _, _, rfl, rfl, h13, upd_same, ?_, fun D nD => ?_⟩
    · rw [List.length_map, List.length_take]
      refine Nat.le_trans ?_ (by decide : 100 ≤ sizeLine)
      have : (List.replicate ((if ns.length = 0 then (1 : Int) else 0).toNat) [V.int 0]).flatten.length ≤ 1 := by split <;> decide
      omega
    rw [cells_v ns 6]
    have hcl := cells_len hlen 6
    walk_at "rd"
    refine ⟨_, rfl, D, _, rfl, .inl (SqL.of upd_same), ?_⟩
    rw [List.length_map]
    refine ⟨_, rfl, by omega, by omega, for_range (n := (cells ns 6).length) (fun i σ H' => ∃ v : Option V, σ = [some (.ref a), some (.ref D), v] ∧ H' D = some (.lst ((cells ns 6).map V.int))) ⟨none, rfl, upd_same⟩ ?_ ?_⟩
    · rintro i σ H' hi ⟨v, rfl, hD⟩
      walk_at "rd"
      have ha : atI ((cells ns 6).map V.int) (0 + (i : Int)) = some (.int (cells ns 6)[i]) := by
        rw [Int.zero_add]
        exact atI_nat (by rw [List.getElem?_map, List.getElem?_eq_getElem hi]; rfl)
      refine r_ixL (SqL.of hD) ha ?_
      walk_at "rd"
      refine ⟨_, _, rfl, fun p H1 np s1 hS1 => ?_⟩
      walk_at "rd"
      refine ⟨p, rfl, hS1, fun H2 hB => ⟨_, rfl, iteF ?_⟩⟩
      walk_at "rd"
      exact ⟨_, rfl, But.of_new np s1 hB _ _ hD⟩
    · rintro σ H' ⟨v, rfl, hD⟩
      dsimp only
      walk_at "rd"
      exact q _

end
theorem all_mk {l : PySem.W.OpenLaw} {w : World} {K : PySem.W.Frag} {h : Heap} {mg : Str → Option Value} {fa : Addr} (X : K.In h) (G : h.Ns mainGlobals mg) (hfa : mg "law" = some (.ref fa))
    {cPicture : Addr}
    (aCPicture : PySem.W.nsIn K mainGlobals "Picture" = some (some (.ref cPicture)))
    (pgPicture : PySem.W.plainGet K cPicture Str.empty = true)
    (hdPicture : PySem.W.hasDictIn K cPicture = true)
    (poPicture : PySem.W.plainOver K cPicture = true)
    (saPicture : PySem.W.findIn K (.ref cPicture) "__setattr__" = some (some (.builtin "object.__setattr__")))
    (mkPicture : PySem.W.makesIn K cPicture = true)
    (kcPicture : PySem.W.keepIn K (.ref cPicture) = true)
    (haPicture : PySem.W.findIn K (.ref cPicture) "__class__" = some (some (.builtin "object.__class__")))
    (hnPicture : PySem.W.specialIn K (.builtin "object.__class__") "__get__" = some (some (.builtin "getset_descriptor.__get__")))
    (htPicture : PySem.W.takesIn K (.builtin "object.__class__") = some true)
    (hmPicture : PySem.W.mroIn K cPicture (.type "object") = some true)
    (naPicture_words : PySem.W.findIn K (.ref cPicture) "_words" = some none)
    (naPicture_size : PySem.W.findIn K (.ref cPicture) "_size" = some none)
    (naPicture_seen : PySem.W.findIn K (.ref cPicture) "_seen" = some none)
    (naPicture_hidden : PySem.W.findIn K (.ref cPicture) "_hidden" = some none)
    {od0 an0 : Option Addr} {sl0 : Array (Option Value)} {oc0 kV0 dc0 pm0 cd0 ct0 : Value} {f0 : Addr}
    (a0 : PySem.W.nsIn K mainGlobals "words_of" = some (some (.ref f0)))
    (l0 : K.lookup f0 = some ⟨oc0, od0, .func (PySem.W.fnOf "words_of" "words_of" (defArgs s_words_of) (defBody s_words_of) (defScope s_words_of) .none kV0 dc0 pm0 an0 cd0 ct0), sl0⟩)
    (c0 : PySem.W.codeIn K cd0 "words_of" = true)
    (k0 : PySem.W.keepIn K (.ref f0) = true)
    {od1 an1 : Option Addr} {sl1 : Array (Option Value)} {oc1 kV1 dc1 pm1 cd1 ct1 : Value} {f1 : Addr}
    (a1 : PySem.W.findIn K (.ref cPicture) "__init__" = some (some (.ref f1)))
    (i1 : PySem.W.isFn K (.ref f1) = true)
    (l1 : K.lookup f1 = some ⟨oc1, od1, .func (PySem.W.fnOf "__init__" "Picture.__init__" (defArgs s_PictureUinitU) (defBody s_PictureUinitU) (defScope s_PictureUinitU) .none kV1 dc1 pm1 an1 cd1 ct1), sl1⟩)
    (c1 : PySem.W.codeIn K cd1 "Picture.__init__" = true)
    (k1 : PySem.W.keepIn K (.ref f1) = true)
    {od2 an2 : Option Addr} {sl2 : Array (Option Value)} {oc2 kV2 dc2 pm2 cd2 ct2 : Value} {f2 : Addr}
    {p2 : Addr} {re2 : List Value}
    (a2 : PySem.W.findIn K (.ref cPicture) "size" = some (some (.ref p2)))
    (i2 : PySem.W.recIn K p2 "property" = some (.ref f2 :: re2))
    (y2 : PySem.W.specialIn K (.ref p2) "__get__" = some (some (.builtin "property.__get__")))
    (t2 : PySem.W.takesIn K (.ref p2) = some true)
    (l2 : K.lookup f2 = some ⟨oc2, od2, .func (PySem.W.fnOf "size" "Picture.size" (defArgs s_Picturesize) (defBody s_Picturesize) (defScope s_Picturesize) .none kV2 dc2 pm2 an2 cd2 ct2), sl2⟩)
    (c2 : PySem.W.codeIn K cd2 "Picture.size" = true)
    (k2 : PySem.W.keepIn K (.ref f2) = true)
    {od3 an3 : Option Addr} {sl3 : Array (Option Value)} {oc3 kV3 dc3 pm3 cd3 ct3 : Value} {f3 : Addr}
    {p3 : Addr} {re3 : List Value}
    (a3 : PySem.W.findIn K (.ref cPicture) "seen" = some (some (.ref p3)))
    (i3 : PySem.W.recIn K p3 "property" = some (.ref f3 :: re3))
    (y3 : PySem.W.specialIn K (.ref p3) "__get__" = some (some (.builtin "property.__get__")))
    (t3 : PySem.W.takesIn K (.ref p3) = some true)
    (l3 : K.lookup f3 = some ⟨oc3, od3, .func (PySem.W.fnOf "seen" "Picture.seen" (defArgs s_Pictureseen) (defBody s_Pictureseen) (defScope s_Pictureseen) .none kV3 dc3 pm3 an3 cd3 ct3), sl3⟩)
    (c3 : PySem.W.codeIn K cd3 "Picture.seen" = true)
    (k3 : PySem.W.keepIn K (.ref f3) = true)
    {od4 an4 : Option Addr} {sl4 : Array (Option Value)} {oc4 kV4 dc4 pm4 cd4 ct4 : Value} {f4 : Addr}
    {p4 : Addr} {re4 : List Value}
    (a4 : PySem.W.findIn K (.ref cPicture) "hidden" = some (some (.ref p4)))
    (i4 : PySem.W.recIn K p4 "property" = some (.ref f4 :: re4))
    (y4 : PySem.W.specialIn K (.ref p4) "__get__" = some (some (.builtin "property.__get__")))
    (t4 : PySem.W.takesIn K (.ref p4) = some true)
    (l4 : K.lookup f4 = some ⟨oc4, od4, .func (PySem.W.fnOf "hidden" "Picture.hidden" (defArgs s_Picturehidden) (defBody s_Picturehidden) (defScope s_Picturehidden) .none kV4 dc4 pm4 an4 cd4 ct4), sl4⟩)
    (c4 : PySem.W.codeIn K cd4 "Picture.hidden" = true)
    (k4 : PySem.W.keepIn K (.ref f4) = true)
    {od5 an5 : Option Addr} {sl5 : Array (Option Value)} {oc5 kV5 dc5 pm5 cd5 ct5 : Value} {f5 : Addr}
    (a5 : PySem.W.findIn K (.ref cPicture) "__contains__" = some (some (.ref f5)))
    (i5 : PySem.W.isFn K (.ref f5) = true)
    (l5 : K.lookup f5 = some ⟨oc5, od5, .func (PySem.W.fnOf "__contains__" "Picture.__contains__" (defArgs s_PictureUcontainsU) (defBody s_PictureUcontainsU) (defScope s_PictureUcontainsU) .none kV5 dc5 pm5 an5 cd5 ct5), sl5⟩)
    (c5 : PySem.W.codeIn K cd5 "Picture.__contains__" = true)
    (k5 : PySem.W.keepIn K (.ref f5) = true)
    {od6 an6 : Option Addr} {sl6 : Array (Option Value)} {oc6 kV6 dc6 pm6 cd6 ct6 : Value} {f6 : Addr}
    (a6 : PySem.W.findIn K (.ref cPicture) "__len__" = some (some (.ref f6)))
    (i6 : PySem.W.isFn K (.ref f6) = true)
    (l6 : K.lookup f6 = some ⟨oc6, od6, .func (PySem.W.fnOf "__len__" "Picture.__len__" (defArgs s_PictureUlenU) (defBody s_PictureUlenU) (defScope s_PictureUlenU) .none kV6 dc6 pm6 an6 cd6 ct6), sl6⟩)
    (c6 : PySem.W.codeIn K cd6 "Picture.__len__" = true)
    (k6 : PySem.W.keepIn K (.ref f6) = true)
    {od7 an7 : Option Addr} {sl7 : Array (Option Value)} {oc7 kV7 dc7 pm7 cd7 ct7 : Value} {f7 : Addr}
    (a7 : PySem.W.nsIn K mainGlobals "_law_spring" = some (some (.ref f7)))
    (l7 : K.lookup f7 = some ⟨oc7, od7, .func (PySem.W.fnOf "_law_spring" "_law_spring" (defArgs s_law_spring) (defBody s_law_spring) (defScope s_law_spring) .none kV7 dc7 pm7 an7 cd7 ct7), sl7⟩)
    (c7 : PySem.W.codeIn K cd7 "_law_spring" = true)
    (k7 : PySem.W.keepIn K (.ref f7) = true)
    {od8 an8 : Option Addr} {sl8 : Array (Option Value)} {oc8 kV8 dc8 pm8 cd8 ct8 : Value} {f8 : Addr}
    (a8 : PySem.W.nsIn K mainGlobals "_law_sip" = some (some (.ref f8)))
    (l8 : K.lookup f8 = some ⟨oc8, od8, .func (PySem.W.fnOf "_law_sip" "_law_sip" (defArgs s_law_sip) (defBody s_law_sip) (defScope s_law_sip) .none kV8 dc8 pm8 an8 cd8 ct8), sl8⟩)
    (c8 : PySem.W.codeIn K cd8 "_law_sip" = true)
    (k8 : PySem.W.keepIn K (.ref f8) = true)
    {od9 an9 : Option Addr} {sl9 : Array (Option Value)} {oc9 kV9 dc9 pm9 cd9 ct9 : Value} {f9 : Addr}
    (a9 : PySem.W.nsIn K mainGlobals "_law_far" = some (some (.ref f9)))
    (l9 : K.lookup f9 = some ⟨oc9, od9, .func (PySem.W.fnOf "_law_far" "_law_far" (defArgs s_law_far) (defBody s_law_far) (defScope s_law_far) .none kV9 dc9 pm9 an9 cd9 ct9), sl9⟩)
    (c9 : PySem.W.codeIn K cd9 "_law_far" = true)
    (k9 : PySem.W.keepIn K (.ref f9) = true)
    {od10 an10 : Option Addr} {sl10 : Array (Option Value)} {oc10 kV10 dc10 pm10 cd10 ct10 : Value} {f10 : Addr}
    (a10 : PySem.W.nsIn K mainGlobals "_law_whole" = some (some (.ref f10)))
    (l10 : K.lookup f10 = some ⟨oc10, od10, .func (PySem.W.fnOf "_law_whole" "_law_whole" (defArgs s_law_whole) (defBody s_law_whole) (defScope s_law_whole) .none kV10 dc10 pm10 an10 cd10 ct10), sl10⟩)
    (c10 : PySem.W.codeIn K cd10 "_law_whole" = true)
    (k10 : PySem.W.keepIn K (.ref f10) = true)
    {od11 an11 : Option Addr} {sl11 : Array (Option Value)} {oc11 kV11 dc11 pm11 cd11 ct11 : Value} {f11 : Addr}
    (a11 : PySem.W.nsIn K mainGlobals "_law_truth" = some (some (.ref f11)))
    (l11 : K.lookup f11 = some ⟨oc11, od11, .func (PySem.W.fnOf "_law_truth" "_law_truth" (defArgs s_law_truth) (defBody s_law_truth) (defScope s_law_truth) .none kV11 dc11 pm11 an11 cd11 ct11), sl11⟩)
    (c11 : PySem.W.codeIn K cd11 "_law_truth" = true)
    (k11 : PySem.W.keepIn K (.ref f11) = true)
    {od12 an12 : Option Addr} {sl12 : Array (Option Value)} {oc12 kV12 dc12 pm12 cd12 ct12 : Value} {f12 : Addr}
    (a12 : PySem.W.nsIn K mainGlobals "_law_is_spot" = some (some (.ref f12)))
    (l12 : K.lookup f12 = some ⟨oc12, od12, .func (PySem.W.fnOf "_law_is_spot" "_law_is_spot" (defArgs s_law_is_spot) (defBody s_law_is_spot) (defScope s_law_is_spot) .none kV12 dc12 pm12 an12 cd12 ct12), sl12⟩)
    (c12 : PySem.W.codeIn K cd12 "_law_is_spot" = true)
    (k12 : PySem.W.keepIn K (.ref f12) = true)
    {od13 an13 : Option Addr} {sl13 : Array (Option Value)} {oc13 kV13 dc13 pm13 cd13 ct13 : Value} {f13 : Addr}
    (a13 : PySem.W.nsIn K mainGlobals "_law_spots" = some (some (.ref f13)))
    (l13 : K.lookup f13 = some ⟨oc13, od13, .func (PySem.W.fnOf "_law_spots" "_law_spots" (defArgs s_law_spots) (defBody s_law_spots) (defScope s_law_spots) .none kV13 dc13 pm13 an13 cd13 ct13), sl13⟩)
    (c13 : PySem.W.codeIn K cd13 "_law_spots" = true)
    (k13 : PySem.W.keepIn K (.ref f13) = true)
    {od14 an14 : Option Addr} {sl14 : Array (Option Value)} {oc14 kV14 dc14 pm14 cd14 ct14 : Value} {f14 : Addr}
    (a14 : PySem.W.nsIn K mainGlobals "_law_spots_are" = some (some (.ref f14)))
    (l14 : K.lookup f14 = some ⟨oc14, od14, .func (PySem.W.fnOf "_law_spots_are" "_law_spots_are" (defArgs s_law_spots_are) (defBody s_law_spots_are) (defScope s_law_spots_are) .none kV14 dc14 pm14 an14 cd14 ct14), sl14⟩)
    (c14 : PySem.W.codeIn K cd14 "_law_spots_are" = true)
    (k14 : PySem.W.keepIn K (.ref f14) = true)
    {od15 an15 : Option Addr} {sl15 : Array (Option Value)} {oc15 kV15 dc15 pm15 cd15 ct15 : Value} {f15 : Addr}
    (a15 : PySem.W.nsIn K mainGlobals "_law_pictures" = some (some (.ref f15)))
    (l15 : K.lookup f15 = some ⟨oc15, od15, .func (PySem.W.fnOf "_law_pictures" "_law_pictures" (defArgs s_law_pictures) (defBody s_law_pictures) (defScope s_law_pictures) .none kV15 dc15 pm15 an15 cd15 ct15), sl15⟩)
    (c15 : PySem.W.codeIn K cd15 "_law_pictures" = true)
    (k15 : PySem.W.keepIn K (.ref f15) = true)
    {od16 an16 : Option Addr} {sl16 : Array (Option Value)} {oc16 kV16 dc16 pm16 cd16 ct16 : Value} {f16 : Addr}
    (a16 : PySem.W.nsIn K mainGlobals "_law_parts" = some (some (.ref f16)))
    (l16 : K.lookup f16 = some ⟨oc16, od16, .func (PySem.W.fnOf "_law_parts" "_law_parts" (defArgs s_law_parts) (defBody s_law_parts) (defScope s_law_parts) .none kV16 dc16 pm16 an16 cd16 ct16), sl16⟩)
    (c16 : PySem.W.codeIn K cd16 "_law_parts" = true)
    (k16 : PySem.W.keepIn K (.ref f16) = true)
    {od17 an17 : Option Addr} {sl17 : Array (Option Value)} {oc17 kV17 dc17 pm17 cd17 ct17 : Value} {f17 : Addr}
    (a17 : PySem.W.nsIn K mainGlobals "_law_has" = some (some (.ref f17)))
    (l17 : K.lookup f17 = some ⟨oc17, od17, .func (PySem.W.fnOf "_law_has" "_law_has" (defArgs s_law_has) (defBody s_law_has) (defScope s_law_has) .none kV17 dc17 pm17 an17 cd17 ct17), sl17⟩)
    (c17 : PySem.W.codeIn K cd17 "_law_has" = true)
    (k17 : PySem.W.keepIn K (.ref f17) = true)
    {od18 an18 : Option Addr} {sl18 : Array (Option Value)} {oc18 kV18 dc18 pm18 cd18 ct18 : Value} {f18 : Addr}
    (a18 : PySem.W.nsIn K mainGlobals "_law_right" = some (some (.ref f18)))
    (l18 : K.lookup f18 = some ⟨oc18, od18, .func (PySem.W.fnOf "_law_right" "_law_right" (defArgs s_law_right) (defBody s_law_right) (defScope s_law_right) .none kV18 dc18 pm18 an18 cd18 ct18), sl18⟩)
    (c18 : PySem.W.codeIn K cd18 "_law_right" = true)
    (k18 : PySem.W.keepIn K (.ref f18) = true)
    {od19 an19 : Option Addr} {sl19 : Array (Option Value)} {oc19 kV19 dc19 pm19 cd19 ct19 : Value} {f19 : Addr}
    (a19 : PySem.W.nsIn K mainGlobals "law" = some (some (.ref f19)))
    (l19 : K.lookup f19 = some ⟨oc19, od19, .func (PySem.W.fnOf "law" "law" (defArgs s_law) (defBody s_law) (defScope s_law) .none kV19 dc19 pm19 an19 cd19 ct19), sl19⟩)
    (c19 : PySem.W.codeIn K cd19 "law" = true)
    (k19 : PySem.W.keepIn K (.ref f19) = true)
    (z_bool : PySem.W.nsIn K mainGlobals "bool" = some none)
    (z_int : PySem.W.nsIn K mainGlobals "int" = some none)
    (z_isinstance : PySem.W.nsIn K mainGlobals "isinstance" = some none)
    (z_len : PySem.W.nsIn K mainGlobals "len" = some none)
    (z_list : PySem.W.nsIn K mainGlobals "list" = some none)
    (z_max : PySem.W.nsIn K mainGlobals "max" = some none)
    (z_range : PySem.W.nsIn K mainGlobals "range" = some none)
    (z_sorted : PySem.W.nsIn K mainGlobals "sorted" = some none)
    (z_tuple : PySem.W.nsIn K mainGlobals "tuple" = some none)
    : ∃ fd : FuncData, (∀ (s : Shared) (v : Value), BindsTo s fd ⟨[v], []⟩ [("_law_script", v)]) ∧ ∀ base : Heap, K.In base → base.Ns mainGlobals mg → FnOk l.prog w K mg base CX0 6 fa fd ["_law_script"] (spLaw K) := by
  have e := hfa.symm.trans (PySem.W.mg_of X G a19)
  cases e
  have F0 := fun_mk (st := s_words_of) l0 c0 k0
  have b0 := F0.binds (ps := ["size", "seen", "hidden"]) fun _ _ _ _ _ _ us hl => match us, hl with | [_, _, _], _ => rfl
  have F1 := fun_mk (st := s_PictureUinitU) l1 c1 k1
  have b1 := F1.binds (ps := ["self", "size", "seen", "hidden"]) fun _ _ _ _ _ _ us hl => match us, hl with | [_, _, _, _], _ => rfl
  have F2 := fun_mk (st := s_Picturesize) l2 c2 k2
  have b2 := F2.binds (ps := ["self"]) fun _ _ _ _ _ _ us hl => match us, hl with | [_], _ => rfl
  have F3 := fun_mk (st := s_Pictureseen) l3 c3 k3
  have b3 := F3.binds (ps := ["self"]) fun _ _ _ _ _ _ us hl => match us, hl with | [_], _ => rfl
  have F4 := fun_mk (st := s_Picturehidden) l4 c4 k4
  have b4 := F4.binds (ps := ["self"]) fun _ _ _ _ _ _ us hl => match us, hl with | [_], _ => rfl
  have F5 := fun_mk (st := s_PictureUcontainsU) l5 c5 k5
  have b5 := F5.binds (ps := ["self", "x"]) fun _ _ _ _ _ _ us hl => match us, hl with | [_, _], _ => rfl
  have F6 := fun_mk (st := s_PictureUlenU) l6 c6 k6
  have b6 := F6.binds (ps := ["self"]) fun _ _ _ _ _ _ us hl => match us, hl with | [_], _ => rfl
  have F7 := fun_mk (st := s_law_spring) l7 c7 k7
  have b7 := F7.binds (ps := ["_law_cell", "_law_k"]) fun _ _ _ _ _ _ us hl => match us, hl with | [_, _], _ => rfl
  have F8 := fun_mk (st := s_law_sip) l8 c8 k8
  have b8 := F8.binds (ps := ["_law_spring_here", "_law_many"]) fun _ _ _ _ _ _ us hl => match us, hl with | [_, _], _ => rfl
  have F9 := fun_mk (st := s_law_far) l9 c9 k9
  have b9 := F9.binds (ps := ["_law_spring_here", "_law_wide"]) fun _ _ _ _ _ _ us hl => match us, hl with | [_, _], _ => rfl
  have F10 := fun_mk (st := s_law_whole) l10 c10 k10
  have b10 := F10.binds (ps := ["_law_found"]) fun _ _ _ _ _ _ us hl => match us, hl with | [_], _ => rfl
  have F11 := fun_mk (st := s_law_truth) l11 c11 k11
  have b11 := F11.binds (ps := ["_law_found", "_law_due"]) fun _ _ _ _ _ _ us hl => match us, hl with | [_, _], _ => rfl
  have F12 := fun_mk (st := s_law_is_spot) l12 c12 k12
  have b12 := F12.binds (ps := ["_law_found", "_law_due"]) fun _ _ _ _ _ _ us hl => match us, hl with | [_, _], _ => rfl
  have F13 := fun_mk (st := s_law_spots) l13 c13 k13
  have b13 := F13.binds (ps := ["_law_spring_here", "_law_axes", "_law_many", "_law_held"]) fun _ _ _ _ _ _ us hl => match us, hl with | [_, _, _, _], _ => rfl
  have F14 := fun_mk (st := s_law_spots_are) l14 c14 k14
  have b14 := F14.binds (ps := ["_law_found", "_law_due"]) fun _ _ _ _ _ _ us hl => match us, hl with | [_, _], _ => rfl
  have F15 := fun_mk (st := s_law_pictures) l15 c15 k15
  have b15 := F15.binds (ps := ["_law_picture", "_law_axes", "_law_lit", "_law_dim"]) fun _ _ _ _ _ _ us hl => match us, hl with | [_, _, _, _], _ => rfl
  have F16 := fun_mk (st := s_law_parts) l16 c16 k16
  have b16 := F16.binds (ps := ["_law_spring_here", "_law_axes"]) fun _ _ _ _ _ _ us hl => match us, hl with | [_, _], _ => rfl
  have F17 := fun_mk (st := s_law_has) l17 c17 k17
  have b17 := F17.binds (ps := ["_law_picture", "_law_lit", "_law_dim"]) fun _ _ _ _ _ _ us hl => match us, hl with | [_, _, _], _ => rfl
  have F18 := fun_mk (st := s_law_right) l18 c18 k18
  have b18 := F18.binds (ps := ["_law_spring_here"]) fun _ _ _ _ _ _ us hl => match us, hl with | [_], _ => rfl
  have F19 := fun_mk (st := s_law) l19 c19 k19
  have b19 := F19.binds (ps := ["_law_script"]) fun _ _ _ _ _ _ us hl => match us, hl with | [_], _ => rfl
  have kb_PictureUinitU : KBn K (PySem.W.fnOf "__init__" "Picture.__init__" (defArgs s_PictureUinitU) (defBody s_PictureUinitU) (defScope s_PictureUinitU) .none kV1 dc1 pm1 an1 cd1 ct1) ["self", "size", "seen", "hidden"] 1 ["size", "seen", "hidden"] kwM kwM := ⟨fun _ us ws _ h1 hl => match us, ws, h1, hl with | [_], [_, _, _], _, _ => .of_eq rfl, fun h k => kwM_rel h k⟩
  let A : Ad := { a_words_of := f0, f_words_of := PySem.W.fnOf "words_of" "words_of" (defArgs s_words_of) (defBody s_words_of) (defScope s_words_of) .none kV0 dc0 pm0 an0 cd0 ct0, a_PictureUinitU := f1, f_PictureUinitU := PySem.W.fnOf "__init__" "Picture.__init__" (defArgs s_PictureUinitU) (defBody s_PictureUinitU) (defScope s_PictureUinitU) .none kV1 dc1 pm1 an1 cd1 ct1, a_Picturesize := f2, f_Picturesize := PySem.W.fnOf "size" "Picture.size" (defArgs s_Picturesize) (defBody s_Picturesize) (defScope s_Picturesize) .none kV2 dc2 pm2 an2 cd2 ct2, p_Picturesize := p2, a_Pictureseen := f3, f_Pictureseen := PySem.W.fnOf "seen" "Picture.seen" (defArgs s_Pictureseen) (defBody s_Pictureseen) (defScope s_Pictureseen) .none kV3 dc3 pm3 an3 cd3 ct3, p_Pictureseen := p3, a_Picturehidden := f4, f_Picturehidden := PySem.W.fnOf "hidden" "Picture.hidden" (defArgs s_Picturehidden) (defBody s_Picturehidden) (defScope s_Picturehidden) .none kV4 dc4 pm4 an4 cd4 ct4, p_Picturehidden := p4, a_PictureUcontainsU := f5, f_PictureUcontainsU := PySem.W.fnOf "__contains__" "Picture.__contains__" (defArgs s_PictureUcontainsU) (defBody s_PictureUcontainsU) (defScope s_PictureUcontainsU) .none kV5 dc5 pm5 an5 cd5 ct5, a_PictureUlenU := f6, f_PictureUlenU := PySem.W.fnOf "__len__" "Picture.__len__" (defArgs s_PictureUlenU) (defBody s_PictureUlenU) (defScope s_PictureUlenU) .none kV6 dc6 pm6 an6 cd6 ct6, a_law_spring := f7, f_law_spring := PySem.W.fnOf "_law_spring" "_law_spring" (defArgs s_law_spring) (defBody s_law_spring) (defScope s_law_spring) .none kV7 dc7 pm7 an7 cd7 ct7, a_law_sip := f8, f_law_sip := PySem.W.fnOf "_law_sip" "_law_sip" (defArgs s_law_sip) (defBody s_law_sip) (defScope s_law_sip) .none kV8 dc8 pm8 an8 cd8 ct8, a_law_far := f9, f_law_far := PySem.W.fnOf "_law_far" "_law_far" (defArgs s_law_far) (defBody s_law_far) (defScope s_law_far) .none kV9 dc9 pm9 an9 cd9 ct9, a_law_whole := f10, f_law_whole := PySem.W.fnOf "_law_whole" "_law_whole" (defArgs s_law_whole) (defBody s_law_whole) (defScope s_law_whole) .none kV10 dc10 pm10 an10 cd10 ct10, a_law_truth := f11, f_law_truth := PySem.W.fnOf "_law_truth" "_law_truth" (defArgs s_law_truth) (defBody s_law_truth) (defScope s_law_truth) .none kV11 dc11 pm11 an11 cd11 ct11, a_law_is_spot := f12, f_law_is_spot := PySem.W.fnOf "_law_is_spot" "_law_is_spot" (defArgs s_law_is_spot) (defBody s_law_is_spot) (defScope s_law_is_spot) .none kV12 dc12 pm12 an12 cd12 ct12, a_law_spots := f13, f_law_spots := PySem.W.fnOf "_law_spots" "_law_spots" (defArgs s_law_spots) (defBody s_law_spots) (defScope s_law_spots) .none kV13 dc13 pm13 an13 cd13 ct13, a_law_spots_are := f14, f_law_spots_are := PySem.W.fnOf "_law_spots_are" "_law_spots_are" (defArgs s_law_spots_are) (defBody s_law_spots_are) (defScope s_law_spots_are) .none kV14 dc14 pm14 an14 cd14 ct14, a_law_pictures := f15, f_law_pictures := PySem.W.fnOf "_law_pictures" "_law_pictures" (defArgs s_law_pictures) (defBody s_law_pictures) (defScope s_law_pictures) .none kV15 dc15 pm15 an15 cd15 ct15, a_law_parts := f16, f_law_parts := PySem.W.fnOf "_law_parts" "_law_parts" (defArgs s_law_parts) (defBody s_law_parts) (defScope s_law_parts) .none kV16 dc16 pm16 an16 cd16 ct16, a_law_has := f17, f_law_has := PySem.W.fnOf "_law_has" "_law_has" (defArgs s_law_has) (defBody s_law_has) (defScope s_law_has) .none kV17 dc17 pm17 an17 cd17 ct17, a_law_right := f18, f_law_right := PySem.W.fnOf "_law_right" "_law_right" (defArgs s_law_right) (defBody s_law_right) (defScope s_law_right) .none kV18 dc18 pm18 an18 cd18 ct18, a_law := fa, f_law := PySem.W.fnOf "law" "law" (defArgs s_law) (defBody s_law) (defScope s_law) .none kV19 dc19 pm19 an19 cd19 ct19, a_cPicture := cPicture }
  have T : Txt K mg A := {
    g_words_of := PySem.W.mg_of X G a0, k_words_of := k0, F_words_of := F0, b_words_of := b0,
    at_PictureUinitU := a1, fn_PictureUinitU := i1, k_PictureUinitU := k1, F_PictureUinitU := F1, b_PictureUinitU := b1,
    pr_Picturesize := ⟨a2, y2, t2, _, i2⟩, k_Picturesize := k2, F_Picturesize := F2, b_Picturesize := b2,
    pr_Pictureseen := ⟨a3, y3, t3, _, i3⟩, k_Pictureseen := k3, F_Pictureseen := F3, b_Pictureseen := b3,
    pr_Picturehidden := ⟨a4, y4, t4, _, i4⟩, k_Picturehidden := k4, F_Picturehidden := F4, b_Picturehidden := b4,
    at_PictureUcontainsU := a5, fn_PictureUcontainsU := i5, k_PictureUcontainsU := k5, F_PictureUcontainsU := F5, b_PictureUcontainsU := b5,
    at_PictureUlenU := a6, fn_PictureUlenU := i6, k_PictureUlenU := k6, F_PictureUlenU := F6, b_PictureUlenU := b6,
    g_law_spring := PySem.W.mg_of X G a7, k_law_spring := k7, F_law_spring := F7, b_law_spring := b7,
    g_law_sip := PySem.W.mg_of X G a8, k_law_sip := k8, F_law_sip := F8, b_law_sip := b8,
    g_law_far := PySem.W.mg_of X G a9, k_law_far := k9, F_law_far := F9, b_law_far := b9,
    g_law_whole := PySem.W.mg_of X G a10, k_law_whole := k10, F_law_whole := F10, b_law_whole := b10,
    g_law_truth := PySem.W.mg_of X G a11, k_law_truth := k11, F_law_truth := F11, b_law_truth := b11,
    g_law_is_spot := PySem.W.mg_of X G a12, k_law_is_spot := k12, F_law_is_spot := F12, b_law_is_spot := b12,
    g_law_spots := PySem.W.mg_of X G a13, k_law_spots := k13, F_law_spots := F13, b_law_spots := b13,
    g_law_spots_are := PySem.W.mg_of X G a14, k_law_spots_are := k14, F_law_spots_are := F14, b_law_spots_are := b14,
    g_law_pictures := PySem.W.mg_of X G a15, k_law_pictures := k15, F_law_pictures := F15, b_law_pictures := b15,
    g_law_parts := PySem.W.mg_of X G a16, k_law_parts := k16, F_law_parts := F16, b_law_parts := b16,
    g_law_has := PySem.W.mg_of X G a17, k_law_has := k17, F_law_has := F17, b_law_has := b17,
    g_law_right := PySem.W.mg_of X G a18, k_law_right := k18, F_law_right := F18, b_law_right := b18,
    g_law := PySem.W.mg_of X G a19, k_law := k19, F_law := F19, b_law := b19,
    kb_PictureUinitU := kb_PictureUinitU,
    n_bool := PySem.W.mg_none_of X G z_bool,
    n_int := PySem.W.mg_none_of X G z_int,
    n_isinstance := PySem.W.mg_none_of X G z_isinstance,
    n_len := PySem.W.mg_none_of X G z_len,
    n_list := PySem.W.mg_none_of X G z_list,
    n_max := PySem.W.mg_none_of X G z_max,
    n_range := PySem.W.mg_none_of X G z_range,
    n_sorted := PySem.W.mg_none_of X G z_sorted,
    n_tuple := PySem.W.mg_none_of X G z_tuple,
    g_Picture := PySem.W.mg_of X G aCPicture,
    cl_Picture := ⟨pgPicture, hdPicture, poPicture, saPicture⟩,
    mk_Picture := ⟨mkPicture, a1, i1, kcPicture⟩,
    ty_Picture := fun H a dx fs e => .ins e ⟨pgPicture, hdPicture, poPicture, saPicture⟩ haPicture hnPicture htPicture hmPicture,
    ks_Picture := kit_same,
    na_Picture_words := naPicture_words,
    na_Picture_size := naPicture_size,
    na_Picture_seen := naPicture_seen,
    na_Picture_hidden := naPicture_hidden }
  exact ⟨A.f_law, fun s v => .of_eq rfl, fun base _ _ => ok_law T⟩
theorem walk {l : PySem.W.OpenLaw} {q : Program} {loose : List Str} {XP : (Str → Option Value) → Heap → Prop} {YP : World → Heap → Prop} {d : DefRec} {K : Params → PySem.W.Frag} (hn : l.most = some 63) (hdf : d.params.defaults = [])
    (hY : ∀ (w : World) (h : Heap), YP w h → (K w.params).In h)
    (F : ∀ (w : World) (mg : Str → Option Value) (fa : Addr) (h : Heap), (K w.params).In h → h.Ns mainGlobals mg → mg d.name = some (.ref fa) →
      ∃ fd : FuncData, (∀ (s : Shared) (u : Value), BindsTo s fd ⟨[u], []⟩ [("_law_script", u)]) ∧ ∀ base : Heap, (K w.params).In base → base.Ns mainGlobals mg → FnOk l.prog w (K w.params) mg base CX0 6 fa fd ["_law_script"] (spLaw (K w.params))) :
    PySem.W.WalkO q loose XP YP l.row.toRowW d [] (fun f vs => PySem.call f vs) :=
  L2.walk_ofB (n := 63) (k := 6) (x := "_law_script") (CX := fun _ => CX0) (sp := fun w => spLaw (K w.params)) hn (by decide) hdf ⟨rfl, by decide, by decide⟩ hY F (fun _ _ a ns hl hb _ hS => ⟨a, ns, rfl, hS, hl, hb, fun _ => rfl⟩) fun _ _ _ _ _ z => z
end K06
open PySem PySem.W PyProof.Rows
set_option maxRecDepth 100000 in
set_option maxHeartbeats 0 in
theorem PySem.Challenge.cw_seenposts_k06_pictures_made_holds : PySem.Challenge.rw_seenposts_k06_pictures_made.Holds := by
  w_on; o_law; k_head; (case hw => w_witness2)
  k_fill
  refine K06.walk (l := PySem.Challenge.rw_seenposts_k06_pictures_made) rfl rfl (fun w h Y => PySem.W.kIn_of Y) ?F
  case F =>
    intro w mg fa h KX G hmg
    refine' K06.all_mk KX G hmg ?aCPicture ?pgPicture ?hdPicture ?poPicture ?saPicture ?mkPicture ?kcPicture ?haPicture ?hnPicture ?htPicture ?hmPicture ?naPicture_words ?naPicture_size ?naPicture_seen ?naPicture_hidden ?a0 ?l0 ?c0 ?k0 ?a1 ?i1 ?l1 ?c1 ?k1 ?a2 ?i2 ?y2 ?t2 ?l2 ?c2 ?k2 ?a3 ?i3 ?y3 ?t3 ?l3 ?c3 ?k3 ?a4 ?i4 ?y4 ?t4 ?l4 ?c4 ?k4 ?a5 ?i5 ?l5 ?c5 ?k5 ?a6 ?i6 ?l6 ?c6 ?k6 ?a7 ?l7 ?c7 ?k7 ?a8 ?l8 ?c8 ?k8 ?a9 ?l9 ?c9 ?k9 ?a10 ?l10 ?c10 ?k10 ?a11 ?l11 ?c11 ?k11 ?a12 ?l12 ?c12 ?k12 ?a13 ?l13 ?c13 ?k13 ?a14 ?l14 ?c14 ?k14 ?a15 ?l15 ?c15 ?k15 ?a16 ?l16 ?c16 ?k16 ?a17 ?l17 ?c17 ?k17 ?a18 ?l18 ?c18 ?k18 ?a19 ?l19 ?c19 ?k19 ?z_bool ?z_int ?z_isinstance ?z_len ?z_list ?z_max ?z_range ?z_sorted ?z_tuple
    (case aCPicture => k_is)
    (case pgPicture => k_is)
    (case hdPicture => k_is)
    (case poPicture => k_is)
    (case saPicture => k_is)
    (case mkPicture => k_is)
    (case kcPicture => k_is)
    (case haPicture => k_is)
    (case hnPicture => k_is)
    (case htPicture => k_is)
    (case hmPicture => k_is)
    (case naPicture_words => k_is)
    (case naPicture_size => k_is)
    (case naPicture_seen => k_is)
    (case naPicture_hidden => k_is)
    (case a0 => k_is)
    (case l0 => k_is)
    (case c0 => k_is)
    (case k0 => k_is)
    (case a1 => k_is)
    (case i1 => k_is)
    (case l1 => k_is)
    (case c1 => k_is)
    (case k1 => k_is)
    (case a2 => k_is)
    (case i2 => k_is)
    (case y2 => k_is)
    (case t2 => k_is)
    (case l2 => k_is)
    (case c2 => k_is)
    (case k2 => k_is)
    (case a3 => k_is)
    (case i3 => k_is)
    (case y3 => k_is)
    (case t3 => k_is)
    (case l3 => k_is)
    (case c3 => k_is)
    (case k3 => k_is)
    (case a4 => k_is)
    (case i4 => k_is)
    (case y4 => k_is)
    (case t4 => k_is)
    (case l4 => k_is)
    (case c4 => k_is)
    (case k4 => k_is)
    (case a5 => k_is)
    (case i5 => k_is)
    (case l5 => k_is)
    (case c5 => k_is)
    (case k5 => k_is)
    (case a6 => k_is)
    (case i6 => k_is)
    (case l6 => k_is)
    (case c6 => k_is)
    (case k6 => k_is)
    (case a7 => k_is)
    (case l7 => k_is)
    (case c7 => k_is)
    (case k7 => k_is)
    (case a8 => k_is)
    (case l8 => k_is)
    (case c8 => k_is)
    (case k8 => k_is)
    (case a9 => k_is)
    (case l9 => k_is)
    (case c9 => k_is)
    (case k9 => k_is)
    (case a10 => k_is)
    (case l10 => k_is)
    (case c10 => k_is)
    (case k10 => k_is)
    (case a11 => k_is)
    (case l11 => k_is)
    (case c11 => k_is)
    (case k11 => k_is)
    (case a12 => k_is)
    (case l12 => k_is)
    (case c12 => k_is)
    (case k12 => k_is)
    (case a13 => k_is)
    (case l13 => k_is)
    (case c13 => k_is)
    (case k13 => k_is)
    (case a14 => k_is)
    (case l14 => k_is)
    (case c14 => k_is)
    (case k14 => k_is)
    (case a15 => k_is)
    (case l15 => k_is)
    (case c15 => k_is)
    (case k15 => k_is)
    (case a16 => k_is)
    (case l16 => k_is)
    (case c16 => k_is)
    (case k16 => k_is)
    (case a17 => k_is)
    (case l17 => k_is)
    (case c17 => k_is)
    (case k17 => k_is)
    (case a18 => k_is)
    (case l18 => k_is)
    (case c18 => k_is)
    (case k18 => k_is)
    (case a19 => k_is)
    (case l19 => k_is)
    (case c19 => k_is)
    (case k19 => k_is)
    (case z_bool => k_is)
    (case z_int => k_is)
    (case z_isinstance => k_is)
    (case z_len => k_is)
    (case z_list => k_is)
    (case z_max => k_is)
    (case z_range => k_is)
    (case z_sorted => k_is)
    (case z_tuple => k_is)
#print axioms PySem.Challenge.cw_seenposts_k06_pictures_made_holds

