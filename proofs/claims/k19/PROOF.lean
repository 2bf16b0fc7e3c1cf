import PyProof.Rows.All
import Wide.All
import OpenK.AllK
import Wide.FinOn
import HandS.Base
import HandS.Call
import HandS.List
import HandS.Comp
import HandS.Ends
import KE.KRevSl
import HandS.ForMost
import HandS.EndBits
import HandS.IsInst
import HandS.Wide
import HandS.Gcd
import HandS.Style
import HandS.TupAny
import HandS.Evl
import KE.KIsAll
import KE.KTryMore
import HandS.ForExc
import HandS.ExcValue
import HandS.ExcInit
import HandS.ExcIs
import HandS.ExcField
import HandS.RaiseMore
import PyProof.ReprRoads
import HandS.FStrTup
import KE.SortData
import HandS.Small
import HandS.OwnEq
import HandS.Property
import HandS.MakeKwOnly
import HandS.TupLen
import HandS.Dict
import HandS.More
import HandS.DictEq
import HandS.DictComp
import HandS.Zip
import HandS.Deep
import HandS.TupLe
import HandS.TupMul
import PySem.Challenge.RW_seenposts_k19_shown_as_told
set_option Elab.async false
set_option linter.all false
set_option maxRecDepth 100000
set_option maxHeartbeats 4000000
/-! rules of our own -/
namespace HT
open PySem PySem.W PySem.Calls PyProof.Rows
section
variable {prog : Program} {w : World} {A : Around} {E : Value → Shared → Prop} {s : Shared}
theorem adjust_rev (n : Nat) : Builtin.Slice.sliceAdjust none none (-1) (n : Int) = ((n : Int) - 1, -1) := by
  unfold Builtin.Slice.sliceAdjust
  rfl
theorem places_rev (n : Nat) : Builtin.Slice.slicePlaces ((n : Int) - 1) (-1) (-1) = n := by
  unfold Builtin.Slice.slicePlaces
  have h1 : ¬ ((-1 : Int) > 0) := by decide
  have e1 : (- -1 : Int) = 1 := by decide
  simp only [h1, if_false, e1, Int.ediv_one]
  split <;> omega
theorem sliceApplied_rev {sl : Addr} {vs : Value} {n : Nat} {Q : Int × Int × Nat → Shared → Prop} (hs : s.heap.IsSliceOf sl .none .none vs) (ps : IsPart vs (some (-1)))
    (h : Q ((n : Int) - 1, -1, n) s) : wpAny (model prog w) A (Builtin.Slice.sliceApplied (.ref sl) (pure (n : Int))) Q E s := by
  obtain ⟨os, hos, hcs, hds⟩ := id hs
  unfold Builtin.Slice.sliceApplied Builtin.Slice.sliceFields
  refine wpAny_bind (wpAny_bind (wpAny_field hos hds (x := .none) rfl (wpAny_bind (wpAny_field hos hds (x := .none) rfl (wpAny_bind (wpAny_field hos hds (x := vs) rfl (wpAny_pure ?_)))))))
  refine wpAny_bind (slicePart_ ps ?_)
  show wpAny _ _ (if ((-1 : Int) == 0) = true then _ else _) _ _ s
  rw [if_neg (by decide)]
  refine wpAny_bind (slicePart_none (wpAny_bind (slicePart_none (wpAny_bind (wpAny_pure ?_)))))
  show wpAny _ _ (match Builtin.Slice.sliceAdjust none none (-1) (n : Int) with | (lo, hi) => pure (lo, (-1 : Int), Builtin.Slice.slicePlaces lo hi (-1))) _ _ s
  rw [adjust_rev n]
  show wpAny _ _ (pure ((n : Int) - 1, (-1 : Int), Builtin.Slice.slicePlaces ((n : Int) - 1) (-1) (-1))) _ _ s
  rw [places_rev]
  exact wpAny_pure h
theorem fm_congr {α β : Type} {f g : α → Option β} : ∀ (l : List α), (∀ a ∈ l, f a = g a) → l.filterMap f = l.filterMap g
  | [], _ => rfl
  | a :: r, h => by
    rw [List.filterMap_cons, List.filterMap_cons, h a List.mem_cons_self, fm_congr r fun b hb => h b (List.mem_cons_of_mem _ hb)]
theorem pick_rev (xs : Array Value) : ((List.range xs.size).filterMap fun (m : Nat) => xs[((xs.size : Int) - 1 + (m : Int) * (-1)).toNat]?).toArray = xs.toList.reverse.toArray := by
  rw [← krv_pick xs]
  unfold slicePick
  rw [krv_bounds]
  show _ = ((sliceRange ((xs.size : Int) - 1) (-1) (-1)).filterMap (xs[·]?)).toArray
  rw [krv_sliceRange, List.filterMap_map]
  refine congrArg List.toArray (fm_congr _ fun m hm => ?_)
  have := List.mem_range.mp hm
  show xs[((xs.size : Int) - 1 + (m : Int) * (-1)).toNat]? = xs[xs.size - 1 - m]?
  have e : ((xs.size : Int) - 1 + (m : Int) * (-1)).toNat = xs.size - 1 - m := by omega
  rw [e]
theorem getItem_tuple_rev {t sl : Addr} {items : Array Value} {vs : Value} {Q : Value → Shared → Prop} (ht : IsTup s.heap t items) (hs : s.heap.IsSliceOf sl .none .none vs) (ps : IsPart vs (some (-1)))
    (h : Q (.ref s.heap.objs.size) { s with heap := s.heap.push { cls := .type "tuple", data := .seq items.toList.reverse.toArray } })
    (hsz : items.size ≤ sizeLine) : wpAny (model prog w) A (getItem (.ref t) (.ref sl)) Q E s := by
  have htake : sizeOk (.seq items.toList.reverse.toArray) := by
    show items.toList.reverse.toArray.size ≤ sizeLine
    rw [List.size_toArray, List.length_reverse, Array.length_toList]
    exact hsz
  obtain ⟨os, hos, hcs, hds⟩ := id hs
  have hTs : s.TypeIs (.ref sl) "slice" := ⟨os, hos, hcs⟩
  unfold getItem
  try with_reducible refine wpAny_holding ?_
  first | refine wpAny_bind (wpAny_pure ?_) | skip
  refine wpAny_bind (wpAny_sequenceKey ht.typeIs (by decide) ?_)
  refine wpAny_bind (wpAny_callSpecial?_slot (name := Str.ofString "__getitem__") ht.typeIs PyProof.Rows.slot_tuple_getitem
    (wpAny_call_entry PyProof.Rows.slot_tuple_getitem ht.typeIs entry_tuple_getitem ?_ (args_tuple_getitem _ _)))
  show wpAny _ _ (Builtin.Tuple.tupleItemsOf (.ref t) >>= _) _ _ s
  refine wpAny_bind (tupleItemsOf_ ht ?_)
  refine wpAny_bind (wpAny_typeOf hTs ?_)
  rw [if_pos (by decide)]
  refine wpAny_bind (sliceApplied_rev hs ps ?_)
  have hno : ¬ ((((items.size : Int) - 1) == 0 && (-1 : Int) == 1 && items.size == items.size) = true) := by
    intro q
    rw [Bool.and_eq_true, Bool.and_eq_true] at q
    exact absurd q.1.2 (by decide)
  show wpAny _ _ (if (((items.size : Int) - 1) == 0 && (-1 : Int) == 1 && items.size == items.size) = true then _ else _) _ _ s
  rw [if_neg hno, pick_rev]
  first
    | exact wpAny_bind (m := Builtin.Tuple.tupleExact _) (wpAny_newObj_type (wpAny_pure ⟨_, rfl, wpAny_pure h⟩) htake)
    | exact wpAny_bind (m := Builtin.Tuple.tupleExact _) (wpAny_newObj_type (wpAny_bind (wpAny_pure (wpAny_pure ⟨_, rfl, wpAny_pure h⟩))) htake)
    | exact wpAny_bind (wpAny_bind (m := Builtin.Tuple.tupleExact _) (wpAny_newObj_type (wpAny_pure (wpAny_pure ⟨_, rfl, wpAny_pure h⟩)) htake))
    | exact wpAny_bind (wpAny_bind (m := Builtin.Tuple.tupleExact _) (wpAny_newObj_type (wpAny_pure ⟨_, rfl, wpAny_pure h⟩) htake))
end
end HT
namespace L2
open PySem PySem.Spec PyProof.Rows
section
variable {X : Cx}
/-- t[::-1] of a tuple -/
def tRevT (K : PySem.W.Frag) (te : TE) : TE := fun σ H Q => te σ H fun x H1 => ∃ a xs, x = .ref a ∧ SqT K H1 a xs ∧ ∀ p, H1 p = none → Q (.ref p) (upd H1 p (.tup xs.reverse))
theorem pe_revT {e : Expr} {te : TE} {k : Nat} {p1 p2 p3 pos : Pos} (he : PE X e te) : PE X (.Subscript e (.Slice none none (some (.UnaryOp .USub (.Constant (.int 1) k p1) p2)) p3) pos) (tRevT X.K te) := by
  refine ⟨fun pins s σ H Q I h => ?_⟩
  refine Subscript_ (thn (he.run pins s σ H _ I h) fun v s1 ⟨x, H1, I1, r1, q1⟩ => ?_)
  obtain ⟨a, xs, ex, hx, q⟩ := q1
  subst ex
  cases r1
  have hst : PO X (some (.UnaryOp .USub (.Constant (.int 1) k p1) p2)) (tPart (tUn (rU fun i => .int (-i)) (tC (.int 1)))) := po_some (pe_un un_neg pe_int)
  refine wpAny_Slice (thn (po_none.run pins s1 σ H1 (fun o H2 => o = none ∧ H2 = H1) I1 ⟨rfl, rfl⟩) fun vl s2 ⟨l, H2, I2, pl, el, e2⟩ => ?_)
  subst el e2
  refine thn (po_none.run pins s2 σ H2 (fun o H3 => o = none ∧ H3 = H2) I2 ⟨rfl, rfl⟩) fun vu s3 ⟨u, H3, I3, pu, eu, e3⟩ => ?_
  subst eu e3
  refine thn (hst.run pins s3 σ H3 (fun o H4 => o = some (-1) ∧ H4 = H3) I3 ⟨1, rfl, -1, rfl, rfl, rfl⟩) fun vs s4 ⟨o, H4, I4, ps, eo, e4⟩ => ?_
  subst eo e4
  have I5 : Inv X pins σ H4 { s4 with heap := s4.heap.push { cls := .type "slice", data := .fields #[vl, vu, vs] } } := I4.kept (t' := s4.toks) fun b ob q => Heap.get?_push_of_some _ q
  obtain ⟨its, r, ht, hz⟩ := I5.tuple hx
  have hlen := r.length
  show wpAny (model X.prog X.w) X.A (subscriptTail e (.Slice none none (some (.UnaryOp .USub (.Constant (.int 1) k p1) p2)) p3) (.ref a) (.ref s4.heap.objs.size)) (EP X pins σ Q) X.xe { s4 with heap := s4.heap.push { cls := .type "slice", data := .fields #[vl, vu, vs] } }
  refine tail_any (ops := [.ref a, .ref s4.heap.objs.size]) ht.typeIs (PyProof.Rows.slot_tuple_getitem.lookup) ?_ (by with_unfolding_all rfl)
  cases pl
  cases pu
  refine HT.getItem_tuple_rev ht (Heap.IsSliceOf.new _ .none .none vs) ps ?_ (by rw [List.size_toArray, ← hlen]; exact hz)
  have e : (its.toArray.toList.reverse.toArray) = its.reverse.toArray := by simp
  rw [e]
  refine ⟨.ref _, _, I5.laid (t' := s4.toks) (o := .tup xs.reverse) (fun b ob q => Heap.get?_push_of_some _ q) (Nat.le_refl _) ?_, rfl, q _ (I5.hok.fresh (Nat.le_refl _))⟩
  exact ⟨by rw [List.length_reverse]; exact hz, _, r.reverse, IsTup.new _ _⟩
/-- f(k = v, ..): keywords alone -/
theorem pe_callK0 {CX : CXT} {k : Nat} {f : Addr} {fd : FuncData} {ps ks : List Str} {sp : Sp} {E : XK} {x : Str} {p pos : Pos} {kws : List Keyword} {tk : TA} {g : List Value → List Value → List Value} {gV : List V → List V → List V}
    (F : FnOk X.prog X.w X.K X.mg X.base CX k f fd ps sp) (hr : Room k X.A) (hg : Gl X x) (hm : X.mg x = some (.ref f)) (hk : PySem.W.keepIn X.K (.ref f) = true) (hb : KBinds X.K fd ps ks g gV) (hx : Passes CX X E)
    (hkw : PK X kws tk) (hall : (backToKw pos (keywordEach kws X.env)).all (·.1.isSome) = true := by rfl) (hks : (backToKw pos (keywordEach kws X.env)).filterMap (·.1) = ks := by rfl)
    (hdb : (x == ("__debug__" : Str)) = false := by decide)
    (hpl : ((backTo pos (starEach [] X.env)).any (·.1) || (backToKw pos (keywordEach kws X.env)).any (·.1.isNone)) = false := by rfl) :
    PE X (.Call (.Name x p) [] kws pos) (tCallK sp gV E tNil tk) := by
  refine ⟨fun pins s σ H Q I h => ?_⟩
  refine wpAny_Call_Name_kw (ld_glob I hg hm ?_ hdb)
  refine PySem.W.callWith_KW0 (h₀ := X.base) I.ok.mod.kin hk hall ?_ hpl
  refine thn (hkw.run pos pins s σ H _ I h) fun ws s2 ⟨zs, H2, I2, rz, q2⟩ => ⟨I2.kIn, ?_⟩
  rw [hks]
  exact run_fnk F hr hb hx I2 .nil rz q2
end
end L2

/-! readings, step by step -/
namespace L2
open PySem PySem.Spec PyProof.Rows
section
variable {σ : St} {H : Hp} {Q : VK} {v x y : V} {te ta tb : TE} {tA tB' : TA} {t u : TT} {D : Ends} {t1 t2 : TS} {i : Nat} {a b : Int}
theorem r_var (h : σ[i]? = some (some v)) (k : Q v H) : tVar i σ H Q := ⟨v, h, k⟩
theorem r_c (k : Q v H) : tC v σ H Q := k
theorem r_op {r : R2} (k : ta σ H fun x H1 => tb σ H1 fun y H2 => r x y H2 Q) : tOp r ta tb σ H Q := k
theorem r_un {r : V → Hp → VK → Prop} (k : ta σ H fun x H1 => r x H1 Q) : tUn r ta σ H Q := k
theorem r_cb {r : List V → Hp → VK → Prop} (k : tA σ H fun vs H1 => r vs H1 Q) : tCB r tA σ H Q := k
theorem r_call {sp : Sp} {dvs : List V} {E : XK} (k : tA σ H fun vs H1 => sp (vs ++ dvs) H1 Q E) : tCall sp dvs E tA σ H Q := k
theorem r_cons {QA : List V → Hp → Prop} (k : ta σ H fun x H1 => tA σ H1 fun xs H2 => QA (x :: xs) H2) : tCons ta tA σ H QA := k
theorem r_nil {QA : List V → Hp → Prop} (k : QA [] H) : tNil σ H QA := k
theorem r_tup (k : tA σ H fun xs H1 => xs.length ≤ sizeLine ∧ ∀ p, H1 p = none → Q (.ref p) (upd H1 p (.tup xs))) : tTup tA σ H Q := k
theorem r_lst (k : tA σ H fun xs H1 => xs.length ≤ sizeLine ∧ ∀ p, H1 p = none → Q (.ref p) (upd H1 p (.lst xs))) : tLst tA σ H Q := k
theorem r_I0 {g : Int → Int → V} (k : Q (g a b) H) : rI0 g (.int a) (.int b) H Q := ⟨a, b, rfl, rfl, k⟩
theorem r_I {C : Int → Int → Prop} {g : Int → Int → V} (c : C a b) (k : Q (g a b) H) : rI C g (.int a) (.int b) H Q := ⟨a, b, rfl, rfl, c, k⟩
theorem r_eq (c : scal x y = true) (k : Q (.bl (decide (x = y))) H) : rEq x y H Q := ⟨c, k⟩
theorem r_ne (c : scal x y = true) (k : Q (.bl (!decide (x = y))) H) : rNe x y H Q := ⟨c, k⟩
theorem r_eqI (k : Q (.bl (a == b)) H) : rEq (.int a) (.int b) H Q := ⟨rfl, by rw [dec_int]; exact k⟩
theorem r_neI (k : Q (.bl (!(a == b))) H) : rNe (.int a) (.int b) H Q := ⟨rfl, by rw [dec_int]; exact k⟩
theorem r_eqB {a b : Bool} (k : Q (.bl (a == b)) H) : rEq (.bl a) (.bl b) H Q := ⟨rfl, by rw [dec_bl]; exact k⟩
theorem r_test {Qb : Bool → Hp → Prop} (k : te σ H fun x H' => ∃ k, x = .bl k ∧ Qb k H') : tTest te σ H Qb := k
theorem r_B {Qb : Bool → Hp → Prop} (k : te σ H fun x H' => ∃ k, x = .bl k ∧ Qb k H') : tB te σ H Qb := k
theorem r_not {Qb : Bool → Hp → Prop} (k : t σ H fun c H1 => Qb (!c) H1) : tNot t σ H Qb := k
theorem r_and {Qb : Bool → Hp → Prop} (k : t σ H fun c H1 => if c = true then u σ H1 Qb else Qb false H1) : tAnd t u σ H Qb := k
theorem r_or {Qb : Bool → Hp → Prop} (k : t σ H fun c H1 => if c = true then Qb true H1 else u σ H1 Qb) : tOr t u σ H Qb := k
theorem r_andV (k : ta σ H fun x H1 => ∃ c, x = .bl c ∧ if c = true then tb σ H1 Q else Q (.bl false) H1) : tAndV ta tb σ H Q := k
theorem r_orV (k : ta σ H fun x H1 => ∃ c, x = .bl c ∧ if c = true then Q (.bl true) H1 else tb σ H1 Q) : tOrV ta tb σ H Q := k
theorem r_notV (k : ta σ H fun x H1 => ∃ c, x = .bl c ∧ Q (.bl (!c)) H1) : tNotV ta σ H Q := k
theorem r_if (k : t σ H fun c H1 => if c = true then ta σ H1 Q else tb σ H1 Q) : tIf t ta tb σ H Q := k
theorem r_seqAsg (k : te σ H fun x H1 => t2 D (σ.set i (some x)) H1) : tSeq (tAsg te (gName i)) t2 D σ H := k
theorem r_asg (k : te σ H fun x H1 => D.nx (σ.set i (some x)) H1) : tAsg te (gName i) D σ H := k
theorem r_seqSub {to ti : TE} {ts : TSet} (k : te σ H fun x H1 => to σ H1 fun o H2 => ti σ H2 fun j H3 => ts o j x H3 fun H4 => t2 D σ H4) : tSeq (tAsg te (gSub to ti ts)) t2 D σ H := k
theorem r_sub {to ti : TE} {ts : TSet} (k : te σ H fun x H1 => to σ H1 fun o H2 => ti σ H2 fun j H3 => ts o j x H3 fun H4 => D.nx σ H4) : tAsg te (gSub to ti ts) D σ H := k
theorem r_seqPar {j : Nat} (k : tA σ H fun vs H1 => ∃ v w, vs = [v, w] ∧ t2 D ((σ.set i (some v)).set j (some w)) H1) : tSeq (tPar i j tA) t2 D σ H := k
theorem r_par {j : Nat} (k : tA σ H fun vs H1 => ∃ v w, vs = [v, w] ∧ D.nx ((σ.set i (some v)).set j (some w)) H1) : tPar i j tA D σ H := k
theorem r_ret (k : te σ H D.rt) : tRet te D σ H := k
theorem r_seqDrop (k : te σ H fun _ H1 => t2 D σ H1) : tSeq (tDrop te) t2 D σ H := k
theorem r_drop (k : te σ H fun _ H1 => D.nx σ H1) : tDrop te D σ H := k
theorem r_seqIf {c : TT} {t3 : TS} (k : c σ H fun b H1 => if b = true then t1 { D with nx := t3 D } σ H1 else t2 { D with nx := t3 D } σ H1) : tSeq (tIfS c t1 t2) t3 D σ H := k
theorem r_ifS {c : TT} (k : c σ H fun b H1 => if b = true then t1 D σ H1 else t2 D σ H1) : tIfS c t1 t2 D σ H := k
theorem r_gname {QG : St → Hp → Prop} (k : QG (σ.set i (some v)) H) : gName i v σ H QG := k
theorem r_cutIf {c : TT} {t3 : TS} (M : St → Hp → Prop) (k : c σ H fun b H1 => if b = true then t1 { D with nx := M } σ H1 else t2 { D with nx := M } σ H1) (k2 : ∀ σ' H', M σ' H' → t3 D σ' H') : Evl.tCut (tIfS c t1 t2) t3 D σ H := ⟨M, k, k2⟩
theorem r_yes {Qb : Bool → Hp → Prop} (k : Qb true H) : tYes σ H Qb := k
theorem r_callK {sp : Sp} {gV : List V → List V → List V} {E : XK} {tk : TA} (k : tA σ H fun vs H1 => tk σ H1 fun zs H2 => sp (gV vs zs) H2 Q E) : tCallK sp gV E tA tk σ H Q := k
theorem r_sl {r : V → Option Int → Option Int → Hp → VK → Prop} {tl th : TO} (k : te σ H fun x H1 => tl σ H1 fun l H2 => th σ H2 fun u H3 => r x l u H3 Q) : tSl r te tl th σ H Q := k
theorem r_nopart {QO : Option Int → Hp → Prop} (k : QO none H) : tNoPart σ H QO := k
theorem r_part {QO : Option Int → Hp → Prop} (k : te σ H fun x H1 => ∃ i, x = .int i ∧ QO (some i) H1) : tPart te σ H QO := k
theorem r_bm {K : PySem.W.Frag} {T : String} {r : V → List V → Hp → VK → Prop} (k : te σ H fun x H1 => tyV K T x H1 ∧ tA σ H1 fun xs H2 => r x xs H2 Q) : tBM K T r te tA σ H Q := k
theorem r_bm0 {K : PySem.W.Frag} {T : String} {r : V → List V → Hp → VK → Prop} (k : te σ H fun x H1 => tyV K T x H1 ∧ r x [] H1 Q) : tBM0 K T r te σ H Q := k
theorem r_gtup {K : PySem.W.Frag} {n : Nat} {g : TGs} {a : Addr} {xs : List V} {QG : St → Hp → Prop} (h : SqT K H a xs) (hn : xs.length = n) (k : g xs σ H QG) : gTup K n g (.ref a) σ H QG := ⟨a, xs, rfl, h, hn, k⟩
theorem r_gcons {g : TG} {u : TGs} {xs : List V} {QG : St → Hp → Prop} (k : g v σ H fun σ' H' => u xs σ' H' QG) : gCons g u (v :: xs) σ H QG := ⟨v, xs, rfl, k⟩
theorem r_gnil {QG : St → Hp → Prop} (k : QG σ H) : gNil [] σ H QG := ⟨rfl, k⟩
theorem r_gsub {to ti : TE} {ts : TSet} {QG : St → Hp → Prop} (k : to σ H fun o H1 => ti σ H1 fun j H2 => ts o j v H2 fun H3 => QG σ H3) : gSub to ti ts v σ H QG := k
theorem r_seqAsgG {g : TG} (k : te σ H fun x H1 => g x σ H1 (t2 D)) : tSeq (tAsg te g) t2 D σ H := k
theorem r_asgG {g : TG} (k : te σ H fun x H1 => g x σ H1 D.nx) : tAsg te g D σ H := k
theorem r_next (k : D.nx σ H) : tNext D σ H := k
theorem r_ixL {K : PySem.W.Frag} {p : Addr} {xs : List V} (h : SqL K H p xs) (ha : atI xs a = some v) (k : Q v H) : rIxL K (.ref p) (.int a) H Q := ⟨p, xs, a, v, rfl, rfl, h, ha, k⟩
theorem r_ixT {K : PySem.W.Frag} {p : Addr} {xs : List V} (h : SqT K H p xs) (ha : atI xs a = some v) (k : Q v H) : rIxT K (.ref p) (.int a) H Q := ⟨p, xs, a, v, rfl, rfl, h, ha, k⟩
theorem r_setL {p : Addr} {xs : List V} {j : Nat} {Qh : Hp → Prop} (h : H p = some (.lst xs)) (hj : ixN xs.length a = some j) (k : Qh (upd H p (.lst (xs.set j v)))) : rSetL (.ref p) (.int a) v H Qh := ⟨p, xs, a, j, rfl, rfl, h, hj, k⟩
theorem Same.new {H H1 : Hp} {p : Addr} {o : HO} (e : Same H H1) (np : H1 p = none) : Same H (upd H1 p o) := fun b u h => by
  have h1 := e b u h
  rw [upd_ne (ne_of_none h1 np)]
  exact h1
theorem Same.new0 {H : Hp} {p : Addr} {o : HO} (np : H p = none) : Same H (upd H p o) := (Same.refl H).new np
theorem Same.tup {K : PySem.W.Frag} {H H' : Hp} {a : Addr} {xs : List V} (e : Same H H') (h : SqT K H a xs) : SqT K H' a xs := by
  rcases h with (h | ⟨o, h⟩) | h
  · exact .inl (.inl (e _ _ h))
  · exact .inl (.inr ⟨o, e _ _ h⟩)
  · exact .inr h
end

theorem iteFb {b : Bool} {A B : Prop} (e : b = false) (h : B) : if b = true then A else B := by
  subst e
  exact iteF h
theorem iteTb {b : Bool} {A B : Prop} (e : b = true) (h : A) : if b = true then A else B := by
  subst e
  exact iteT h
/-- a tuple of whole numbers stands at t -/
def TupI (H : Hp) (t : Addr) (ns : List Int) : Prop := H t = some (.tup (ns.map V.int))
theorem TupI.same {H H' : Hp} {t : Addr} {ns : List Int} (h : TupI H t ns) (e : Same H H') : TupI H' t ns := e _ _ h
theorem TupI.sq {K : PySem.W.Frag} {H : Hp} {t : Addr} {ns : List Int} (h : TupI H t ns) : SqT K H t (ns.map V.int) := SqT.of h
theorem TupI.new {H : Hp} {t : Addr} {ns : List Int} {xs : List V} (e : xs = ns.map V.int) : TupI (upd H t (.tup xs)) t ns := by
  unfold TupI
  rw [upd_same, e]
/-- a list of whole numbers stands at l -/
def LstI (H : Hp) (t : Addr) (ns : List Int) : Prop := H t = some (.lst (ns.map V.int))
theorem dpAll_ints {K : PySem.W.Frag} {H : Hp} : ∀ ns : List Int, DpAll K H (ns.map V.int) (ns.map PyData.int)
  | [] => .nil
  | n :: r => .cons (.int n) (dpAll_ints r)
theorem canLay_ints : ∀ ns : List Int, PyData.canLayAll0 (ns.map PyData.int) = true
  | [] => rfl
  | n :: r => canLay_ints r
theorem depth_ints : ∀ ns : List Int, PyData.depthAll (ns.map PyData.int) = 0
  | [] => rfl
  | n :: r => by
    show max 0 (PyData.depthAll (r.map PyData.int)) = 0
    rw [depth_ints r]
    rfl
theorem shaped_tup (ns : List Int) : SeqAt.shaped (.tuple (ns.map PyData.int)) = true := by
  unfold SeqAt.shaped
  show (PyData.canLayAll0 (ns.map PyData.int) && decide (PyData.depthAll (ns.map PyData.int) + 1 ≤ 64)) = true
  rw [canLay_ints, depth_ints]
  rfl
theorem shaped_lst (ns : List Int) : SeqAt.shaped (.list (ns.map PyData.int)) = true := shaped_tup ns
theorem eqD_tup {K : PySem.W.Frag} {H : Hp} {a b : Addr} {ns ms : List Int} {Q : VK} (ha : SqT K H a (ns.map V.int)) (hb : SqT K H b (ms.map V.int)) (k : Q (.bl (decide (ns = ms))) H) : rEqD K (.ref a) (.ref b) H Q :=
  ⟨_, _, .tup ha (dpAll_ints ns), .tup hb (dpAll_ints ms), shaped_tup ns, shaped_tup ms, by
    show Q (.bl (PyData.eqvAll (ns.map PyData.int) (ms.map PyData.int))) H
    rw [PySem.W.ked_eqvAll]
    exact k⟩
theorem neD_tup {K : PySem.W.Frag} {H : Hp} {a b : Addr} {ns ms : List Int} {Q : VK} (ha : SqT K H a (ns.map V.int)) (hb : SqT K H b (ms.map V.int)) (k : Q (.bl (!decide (ns = ms))) H) : rNeD K (.ref a) (.ref b) H Q :=
  ⟨_, _, .tup ha (dpAll_ints ns), .tup hb (dpAll_ints ms), shaped_tup ns, shaped_tup ms, by
    show Q (.bl (!PyData.eqvAll (ns.map PyData.int) (ms.map PyData.int))) H
    rw [PySem.W.ked_eqvAll]
    exact k⟩
theorem eqD_lst {K : PySem.W.Frag} {H : Hp} {a b : Addr} {ns ms : List Int} {Q : VK} (ha : SqL K H a (ns.map V.int)) (hb : SqL K H b (ms.map V.int)) (k : Q (.bl (decide (ns = ms))) H) : rEqD K (.ref a) (.ref b) H Q :=
  ⟨_, _, .lst ha (dpAll_ints ns), .lst hb (dpAll_ints ms), shaped_lst ns, shaped_lst ms, by
    show Q (.bl (PyData.eqvAll (ns.map PyData.int) (ms.map PyData.int))) H
    rw [PySem.W.ked_eqvAll]
    exact k⟩
theorem neD_lst {K : PySem.W.Frag} {H : Hp} {a b : Addr} {ns ms : List Int} {Q : VK} (ha : SqL K H a (ns.map V.int)) (hb : SqL K H b (ms.map V.int)) (k : Q (.bl (!decide (ns = ms))) H) : rNeD K (.ref a) (.ref b) H Q :=
  ⟨_, _, .lst ha (dpAll_ints ns), .lst hb (dpAll_ints ms), shaped_lst ns, shaped_lst ms, by
    show Q (.bl (!PyData.eqvAll (ns.map PyData.int) (ms.map PyData.int))) H
    rw [PySem.W.ked_eqvAll]
    exact k⟩

/-- l + m, lists that are read (the script too) -/
def rCatR (K : PySem.W.Frag) : R2 := fun x y H Q => ∃ l b xs zs, x = .ref l ∧ y = .ref b ∧ SqL K H l xs ∧ SqL K H b zs ∧ xs.length + zs.length ≤ sizeLine ∧ ∀ p, H p = none → Q (.ref p) (upd H p (.lst (xs ++ zs)))
theorem op_catR {X : Cx} : OpR X (binaryOp .Add) (rCatR X.K) := by
  intro pins s σ H x y v u Q I rx ry h
  obtain ⟨l, b, xs, zs, rfl, rfl, hL, hB, hz, q⟩ := h
  cases rx
  cases ry
  obtain ⟨us, r1, p1, _⟩ := I.list hL
  obtain ⟨ws, r2, p2, _⟩ := I.list hB
  obtain ⟨⟨c1, d1, e1, sl1⟩, n1, g1, k1, z1, q1⟩ := p1
  obtain ⟨⟨c2, d2, e2, sl2⟩, n2, g2, k2, z2, q2⟩ := p2
  dsimp only at k1 z1 q1 k2 z2 q2
  subst k1 z1 q1 k2 z2 q2
  have hl1 := r1.length
  have hl2 := r2.length
  refine concat_meets ⟨_, g1, rfl⟩ ⟨_, g2, rfl⟩ noFill_list_add seq_list_add PySem.F.slot_list_add PySem.F.entry_list_add (PySem.F.args_list_add_2 _ _) (list_addW l b us.toArray ws.toArray n1 n2 none none sl1 sl2 (by rw [List.size_toArray, List.size_toArray]; omega)) ⟨g1, g2, ?_⟩
  have ea : us.toArray ++ ws.toArray = (us ++ ws).toArray := by simp
  rw [ea]
  exact ⟨.ref _, _, I.lnew (t' := s.toks) (r1.append r2) (by rw [List.length_append]; omega), rfl, q _ I.fresh⟩

/-! ### the springs of the laws -/
def MM : Int := 618970019642690137449562111
/-- a spring stands at p -/
def Spr (H : Hp) (p : Addr) : Prop := ∃ a b c : Int, H p = some (.lst [.int a, .int b, .int c]) ∧ 0 ≤ b ∧ b < MM
/-- all but p is as it was -/
def But (p : Addr) (H H' : Hp) : Prop := ∀ b o, b ≠ p → H b = some o → H' b = some o
theorem But.refl (p : Addr) (H : Hp) : But p H H := fun _ _ _ h => h
theorem But.trans {p : Addr} {H H1 H2 : Hp} (a : But p H H1) (b : But p H1 H2) : But p H H2 := fun c o n h => b c o n (a c o n h)
theorem But.new {p q : Addr} {H H1 : Hp} {o : HO} (a : But p H H1) (nq : H1 q = none) : But p H (upd H1 q o) := fun c u n h => by
  have h1 := a c u n h
  rw [upd_ne (ne_of_none h1 nq)]
  exact h1
theorem But.mut {p : Addr} {H H1 : Hp} {o : HO} (a : But p H H1) : But p H (upd H1 p o) := fun c u n h => by
  rw [upd_ne n]
  exact a c u n h
theorem But.same {p : Addr} {H H1 H2 : Hp} (a : But p H H1) (b : Same H1 H2) : But p H H2 := fun c u n h => b c u (a c u n h)
theorem Same.but {p : Addr} {H H1 : Hp} (a : Same H H1) : But p H H1 := fun c u _ h => a c u h
theorem But.free {p q : Addr} {H H1 : Hp} (a : But p H H1) (h : H1 q = none) (n : q ≠ p) : H q = none := by
  cases e : H q with
  | none => rfl
  | some o =>
    rw [a q o n e] at h
    cases h
/-- a spring that was made on the way -/
theorem But.of_new {p : Addr} {H H1 H2 : Hp} (np : H p = none) (s : Same H H1) (a : But p H1 H2) : Same H H2 := fun b o h => a b o (ne_of_none h np) (s b o h)
theorem Spr.same {p : Addr} {H H1 : Hp} (s : Same H H1) (h : Spr H p) : Spr H1 p := by
  obtain ⟨a, b, c, e, r⟩ := h
  exact ⟨a, b, c, s _ _ e, r⟩
theorem Spr.ne {p q : Addr} {H : Hp} (h : Spr H p) (n : H q = none) : p ≠ q := by
  obtain ⟨a, b, c, e, r⟩ := h
  exact ne_of_none e n
theorem Spr.new {p q : Addr} {H : Hp} {o : HO} (h : Spr H p) (n : H q = none) : Spr (upd H q o) p := h.same (Same.new0 n)
theorem Spr.put {H : Hp} {p D : Addr} {o : HO} (h : Spr H p) (n : D ≠ p) : Spr (upd H D o) p := by
  obtain ⟨x1, x2, x3, e1, e2⟩ := h
  exact ⟨x1, x2, x3, by rw [upd_ne (Ne.symm n)]; exact e1, e2⟩
theorem Spr.here {p : Addr} {H : Hp} (h : Spr H p) : ∃ o, H p = some o := by
  obtain ⟨a, b, c, e, r⟩ := h
  exact ⟨_, e⟩

def spSpring : Sp := fun vs H Q _ => ∃ c k : Int, vs = [.int c, .int k] ∧ ∀ p H', H p = none → Same H H' → Spr H' p → Q (.ref p) H'
def spSip : Sp := fun vs H Q _ => ∃ (p : Addr) (m : Int), vs = [.ref p, .int m] ∧ Spr H p ∧ 1 ≤ m ∧ m < 2 ^ 250 ∧ ∀ r H', 0 ≤ r → r < m → But p H H' → Spr H' p → Q (.int r) H'
def spFar : Sp := fun vs H Q _ => ∃ (p : Addr) (w : Int), vs = [.ref p, .int w] ∧ Spr H p ∧ 1 ≤ w ∧ w < 2 ^ 250 ∧ ∀ r H', -w < r → r < w → But p H H' → Spr H' p → Q (.int r) H'
def spTruth : Sp := fun vs H Q _ => ∃ a b : Bool, vs = [.bl a, .bl b] ∧ Q (.bl (a == b)) H
def spLaw (K : PySem.W.Frag) : Sp := fun vs H Q _ => ∃ (a : Addr) (ns : List Int), vs = [.ref a] ∧ SqL K H a (ns.map V.int) ∧ ns.length ≤ 63 ∧ (∀ z ∈ ns, Builtin.Int.intBits z ≤ 1048576) ∧ ∀ H', Q (.bl true) H'

theorem cut_ints (ns : List Int) (k : Nat) : cutV (ns.map V.int) none (some (k : Int)) = (ns.take k).map V.int := by
  unfold cutV
  rw [HT.sIx_none, HT.sIx_nat, List.drop_zero, List.length_map, Nat.sub_zero, ← List.map_take]
  congr 1
  rw [List.take_eq_take_iff]
  omega
/-- the cells of a script: the first k, or a 0 -/
def cells (ns : List Int) (k : Nat) : List Int := ns.take k ++ List.replicate (if ns.length = 0 then 1 else 0) 0
theorem cells_len {ns : List Int} (h : ns.length ≤ 63) (k : Nat) : (cells ns k).length ≤ 64 := by
  unfold cells
  rw [List.length_append, List.length_take, List.length_replicate]
  split <;> omega
theorem cells_v (ns : List Int) (k : Nat) : (ns.take k).map V.int ++ (List.replicate ((if ns.length = 0 then (1 : Int) else 0).toNat) [V.int 0]).flatten = (cells ns k).map V.int := by
  unfold cells
  rw [List.map_append]
  congr 1
  split <;> rfl
/-- keywords alone -/
def kwG {α : Type} : List α → List α → List α
  | [], ws => ws
  | _ :: _, _ => []
theorem kwG_rel {vs : List V} {us : List Value} {zs : List V} {ws : List Value} (h : Vals vs us) (k : Vals zs ws) : Vals (kwG vs zs) (kwG us ws) := by
  cases h with
  | nil => exact k
  | cons _ _ => exact .nil
/-! ### greatest common divisors -/
def gcdL : List Int → Nat
  | [] => 0
  | a :: r => Nat.gcd a.natAbs (gcdL r)
theorem gcdL_foldl : ∀ (l : List Int) (g : Nat), l.foldl (fun g a => Nat.gcd g a.natAbs) g = Nat.gcd g (gcdL l)
  | [], g => (Nat.gcd_zero_right g).symm
  | a :: r, g => by
    rw [List.foldl_cons, gcdL_foldl r, gcdL, Nat.gcd_assoc]
theorem gcdL_append : ∀ (l r : List Int), gcdL (l ++ r) = Nat.gcd (gcdL l) (gcdL r)
  | [], r => (Nat.gcd_zero_left _).symm
  | a :: l, r => by rw [List.cons_append, gcdL, gcdL, gcdL_append l r, Nat.gcd_assoc]
theorem gcdL_one (a : Int) : gcdL [a] = a.natAbs := Nat.gcd_zero_right _
theorem gcdL_reverse : ∀ l : List Int, gcdL l.reverse = gcdL l
  | [] => rfl
  | a :: r => by rw [List.reverse_cons, gcdL_append, gcdL_one, gcdL_reverse r, gcdL, Nat.gcd_comm]
theorem gcdL_neg : ∀ l : List Int, gcdL (l.map fun a => 0 - a) = gcdL l
  | [] => rfl
  | a :: r => by
    rw [List.map_cons, gcdL, gcdL, gcdL_neg r]
    have e : (0 - a).natAbs = a.natAbs := by omega
    rw [e]
theorem gcdL_mul : ∀ (l : List Int) (k : Int), gcdL (l.map fun a => a * k) = gcdL l * k.natAbs
  | [], k => (Nat.zero_mul _).symm
  | a :: r, k => by rw [List.map_cons, gcdL, gcdL, gcdL_mul r, Int.natAbs_mul, Nat.gcd_mul_right]
theorem gcdL_dvd : ∀ (l : List Int) (a : Int), a ∈ l → ((gcdL l : Nat) : Int) ∣ a
  | b :: r, a, h => by
    rcases List.mem_cons.mp h with e | e
    · subst e
      exact Int.ofNat_dvd_left.mpr (Nat.gcd_dvd_left _ _)
    · exact Int.dvd_trans (Int.ofNat_dvd.mpr (Nat.gcd_dvd_right _ _)) (gcdL_dvd r a e)
theorem dvd_gcdL {d : Nat} : ∀ (l : List Int), (∀ a ∈ l, (d : Int) ∣ a) → d ∣ gcdL l
  | [], _ => Nat.dvd_zero d
  | a :: r, h => Nat.dvd_gcd (Int.ofNat_dvd_left.mp (h a List.mem_cons_self)) (dvd_gcdL r fun b hb => h b (List.mem_cons_of_mem _ hb))
theorem gcdL_lt {B : Nat} (hB : 0 < B) : ∀ (l : List Int), (∀ a ∈ l, a.natAbs < B) → gcdL l < B
  | [], _ => hB
  | a :: r, h => by
    have h1 := h a List.mem_cons_self
    have h2 := gcdL_lt hB r fun b hb => h b (List.mem_cons_of_mem _ hb)
    rw [gcdL]
    by_cases e : a.natAbs = 0
    · rw [e, Nat.gcd_zero_left]
      exact h2
    · exact Nat.lt_of_le_of_lt (Nat.gcd_le_left _ (Nat.pos_of_ne_zero e)) h1
theorem gcdL_zero {l : List Int} (h : gcdL l = 0) : ∀ a ∈ l, a = 0 := fun a ha => by
  have q := gcdL_dvd l a ha
  rw [h] at q
  exact Int.zero_dvd.mp q
theorem gcdL_of_zero : ∀ {l : List Int}, (∀ a ∈ l, a = 0) → gcdL l = 0
  | [], _ => rfl
  | a :: r, h => by
    rw [gcdL, h a List.mem_cons_self, gcdL_of_zero fun b hb => h b (List.mem_cons_of_mem _ hb)]
    rfl
/-- the seen place ahead -/
def firstL (l : List Int) : List Int := if gcdL l = 0 then l else l.map fun a => a / ((gcdL l : Nat) : Int)
theorem firstL_len (l : List Int) : (firstL l).length = l.length := by
  unfold firstL
  split
  · rfl
  · exact List.length_map _
theorem firstL_back {l : List Int} : (firstL l).map (fun a => a * ((gcdL l : Nat) : Int)) = if gcdL l = 0 then l.map (fun _ => 0) else l := by
  unfold firstL
  split
  · rename_i h
    rw [h]
    exact List.map_congr_left fun a _ => Int.mul_zero a
  · rw [List.map_map]
    conv => rhs; rw [← List.map_id l]
    exact List.map_congr_left fun a ha => Int.ediv_mul_cancel (gcdL_dvd l a ha)
theorem firstL_gcd {l : List Int} (h : gcdL l ≠ 0) : gcdL (firstL l) = 1 := by
  have e := firstL_back (l := l)
  rw [if_neg h] at e
  have q := gcdL_mul (firstL l) ((gcdL l : Nat) : Int)
  rw [e, Int.natAbs_natCast] at q
  have : 1 * gcdL l = gcdL (firstL l) * gcdL l := by rw [Nat.one_mul]; exact q
  exact (Nat.eq_of_mul_eq_mul_right (Nat.pos_of_ne_zero h) this).symm
theorem gcdL_same {l m : List Int} (h : ∀ d : Nat, (∀ a ∈ l, (d : Int) ∣ a) ↔ ∀ a ∈ m, (d : Int) ∣ a) : gcdL l = gcdL m := by
  refine Nat.dvd_antisymm ?_ ?_
  · exact dvd_gcdL m ((h _).mp (gcdL_dvd l))
  · exact dvd_gcdL l ((h _).mpr (gcdL_dvd m))
theorem all_set {P : Int → Prop} {l : List Int} {i : Nat} {z : Int} (h : ∀ j a, j ≠ i → l[j]? = some a → P a) (hz : P z) : ∀ a ∈ l.set i z, P a := by
  intro a ha
  obtain ⟨j, hj⟩ := List.getElem?_of_mem ha
  by_cases e : j = i
  · subst e
    have hl := (List.getElem?_eq_some_iff.mp hj).1
    rw [List.length_set] at hl
    rw [List.getElem?_set_self hl] at hj
    cases hj
    exact hz
  · rw [List.getElem?_set_ne (Ne.symm e)] at hj
    exact h j a e hj
theorem set_other {l : List Int} {i j : Nat} {z a : Int} (n : j ≠ i) (h : l[j]? = some a) : a ∈ l.set i z :=
  List.mem_of_getElem? (i := j) (by rw [List.getElem?_set_ne (Ne.symm n)]; exact h)
theorem set_here {l : List Int} {i : Nat} {z a : Int} (h : l[i]? = some a) : z ∈ l.set i z :=
  List.mem_of_getElem? (i := i) (List.getElem?_set_self (List.getElem?_eq_some_iff.mp h).1)
/-- a multiple of another coordinate added -/
theorem gcdL_shear {l : List Int} {i j : Nat} {x y k : Int} (n : j ≠ i) (hx : l[i]? = some x) (hy : l[j]? = some y) : gcdL (l.set i (x + k * y)) = gcdL l := by
  refine gcdL_same fun d => ⟨fun h a ha => ?_, fun h => all_set (fun m a _ hm => h a (List.mem_of_getElem? hm)) (Int.dvd_add (h x (List.mem_of_getElem? hx)) (Int.dvd_trans (h y (List.mem_of_getElem? hy)) (Int.dvd_mul_left _ _)))⟩
  obtain ⟨m, hm⟩ := List.getElem?_of_mem ha
  by_cases e : m = i
  · subst e
    rw [hx] at hm
    cases hm
    have h1 := h _ (set_here (z := x + k * y) hx)
    have h2 := Int.dvd_trans (h y (set_other n hy)) (Int.dvd_mul_left k y)
    have h3 := Int.dvd_sub h1 h2
    rwa [Int.add_sub_cancel] at h3
  · exact h a (set_other e hm)
/-- two coordinates exchanged, one with its sign turned -/
theorem gcdL_swap {l : List Int} {i j : Nat} {x y : Int} (n : j ≠ i) (hx : l[i]? = some x) (hy : l[j]? = some y) : gcdL ((l.set i y).set j (0 - x)) = gcdL l := by
  have hx' : (0 - x) ∈ (l.set i y).set j (0 - x) := set_here (a := y) (by rw [List.getElem?_set_ne (Ne.symm n)]; exact hy)
  have hy' : y ∈ (l.set i y).set j (0 - x) := set_other (j := i) (Ne.symm n) (List.getElem?_set_self (List.getElem?_eq_some_iff.mp hx).1)
  refine gcdL_same fun d => ⟨fun h a ha => ?_, fun h => all_set (fun m a hm hma => ?_) (Int.dvd_sub (Int.dvd_zero _) (h x (List.mem_of_getElem? hx)))⟩
  · obtain ⟨m, hm⟩ := List.getElem?_of_mem ha
    by_cases e : m = i
    · subst e
      rw [hx] at hm
      cases hm
      have h1 := Int.dvd_sub (Int.dvd_zero (d : Int)) (h _ hx')
      have e2 : 0 - (0 - x) = x := by omega
      rwa [e2] at h1
    · by_cases e2 : m = j
      · subst e2
        rw [hy] at hm
        cases hm
        exact h _ hy'
      · exact h a (set_other e2 (by rw [List.getElem?_set_ne (Ne.symm e)]; exact hm))
  · by_cases e : m = i
    · subst e
      rw [List.getElem?_set_self (List.getElem?_eq_some_iff.mp hx).1] at hma
      cases hma
      exact h y (List.mem_of_getElem? hy)
    · rw [List.getElem?_set_ne (Ne.symm e)] at hma
      exact h a (List.mem_of_getElem? hma)
theorem take_more {α : Type} : ∀ {l : List α} {i : Nat} {x : α}, l[i]? = some x → l.take (i + 1) = l.take i ++ [x]
  | [], i, x, h => by simp at h
  | a :: l, 0, x, h => by
    have e : a = x := Option.some.inj h
    subst e
    rfl
  | a :: l, i + 1, x, h => by
    have ih := take_more (l := l) (i := i) (x := x) h
    show a :: l.take (i + 1) = a :: l.take i ++ [x]
    rw [ih]
    rfl
theorem ints_at {ns : List Int} {i : Nat} {x : V} (h : (ns.map V.int)[i]? = some x) : ∃ z, ns[i]? = some z ∧ x = V.int z := by
  rw [List.getElem?_map] at h
  cases e : ns[i]? with
  | none =>
    rw [e] at h
    cases h
  | some z =>
    rw [e] at h
    exact ⟨z, rfl, (Option.some.inj h).symm⟩
theorem at_int {ns : List Int} {i : Int} (h0 : 0 ≤ i) (h1 : i < (ns.length : Int)) : ∃ x, ns[i.toNat]? = some x ∧ atI (ns.map V.int) i = some (.int x) := by
  have hi : i.toNat < ns.length := by omega
  refine ⟨ns[i.toNat], List.getElem?_eq_getElem hi, ?_⟩
  have e : i = ((i.toNat : Nat) : Int) := (Int.toNat_of_nonneg h0).symm
  exact at_of e (by rw [List.getElem?_map, List.getElem?_eq_getElem hi]; rfl)
theorem ix_int {ns : List Int} {i : Int} (h0 : 0 ≤ i) (h1 : i < (ns.length : Int)) : ixN (ns.map V.int).length i = some i.toNat := by
  rw [List.length_map]
  unfold ixN
  rw [if_pos h0, if_pos h1]
theorem rep_ints (n : Nat) : (List.replicate ((n : Int)).toNat [V.int 0]).flatten = (List.replicate n (0 : Int)).map V.int := by
  rw [Int.toNat_natCast]
  induction n with
  | zero => rfl
  | succ n ih => rw [List.replicate_succ, List.replicate_succ, List.flatten_cons, List.map_cons, ih]; rfl
theorem Spr.tupNe {H : Hp} {p t : Addr} {ns : List Int} (h : Spr H p) (ht : TupI H t ns) : t ≠ p := fun e => by
  obtain ⟨x1, x2, x3, e1, _⟩ := h
  unfold TupI at ht
  rw [e, e1] at ht
  cases ht
end L2

/-! errors that are caught, kept and asked -/
namespace L2
open PySem PySem.Spec PyProof.Rows
/-- a caught error at a: its class, its own dict -/
def exK (cls : Value) (d : Option Addr) (a : Addr) : HO := .ext fun h => ∃ (oe : Obj) (vs : Array Value), h.get? a = some oe ∧ Zc cls d oe ∧ oe.data = .fields vs
theorem exK_ok {P : Program} {w : World} {H : Hp} {h : Heap} {a : Addr} {cls : Value} {d : Option Addr} {oe : Obj} {vs : Array Value} (e : h.get? a = some oe) (z : Zc cls d oe) (dd : oe.data = .fields vs) : ObjOk P w H h a (exK cls d a) :=
  ⟨⟨oe, vs, e, z, dd⟩, ⟨oe, e⟩, fun _ _ ⟨o, v, q, r⟩ k => ⟨o, v, k o q, r⟩⟩
section
variable {X : Cx} {pins : List (Addr × Obj)} {σ : St} {H : Hp} {s : Shared}
theorem Inv.track {a : Addr} {o : HO} {oe : Obj} {vs : Array Value} (I : Inv X pins σ H s) (ha : H a = none) (h0 : X.s_0.heap.get? a = none) (ho : s.heap.get? a = some oe) (hd : oe.data = .fields vs) (nL : a ≠ X.env.locals)
    (np : ∀ p ∈ X.pn ++ pins, p.1 ≠ a) (new : ObjOk X.prog X.w (upd H a o) s.heap a o) : Inv X pins σ (upd H a o) s where
  ok := I.ok
  os := I.os
  bare := I.bare
  base := {
    keep := fun b u e n hf hx => I.base.keep b u e n hf hx
    slot := fun b u e n hf hx => I.base.slot b u e n hf hx
    free := fun b u e n hx => by
      have nb : b ≠ a := fun z => by
        rw [z, h0] at e
        cases e
      rw [upd_ne nb]
      exact I.base.free b u e n hx
    there := fun b u e hx => I.base.there b u e hx
    tups := fun b xs e => by
      have q := I.base.tups b xs e
      rw [upd_ne (ne_of_none q ha)]
      exact q
    frzs := fun b u v e => by
      have q := I.base.frzs b u v e
      rw [upd_ne (ne_of_none q ha)]
      exact q
    tbls := fun b ps e => by
      obtain ⟨m, q⟩ := I.base.tbls b ps e
      exact ⟨m, by rw [upd_ne (ne_of_none q ha)]; exact q⟩ }
  loc := I.loc
  cell := I.cell
  free := by
    rw [upd_ne (Ne.symm nL)]
    exact I.free
  freeC := fun x c e => by
    have nc : c ≠ a := fun z => by
      obtain ⟨v, oc, q, qd⟩ := I.cell x c e
      rw [z, ho] at q
      cases q
      rw [hd] at qd
      cases qd
    rw [upd_ne nc]
    exact I.freeC x c e
  pin := fun p hp => by
    obtain ⟨q1, q2, q3, q4, q5⟩ := I.pin p hp
    exact ⟨q1, by rw [upd_ne (np p hp)]; exact q2, q3, q4, q5⟩
  hok := HOk.laidN I.hok (fun _ _ q => q) ha new
  len := I.len
end
/-- except c as n: the suite goes on, and the error is known behind it, too -/
def wKeep (K : PySem.W.Frag) (c : Value) (i : Nat) (ts : Addr → Value → Option Addr → TS) (Wout : WX) (D : Ends) : WX := fun cls d σ H =>
  ∃ b, PySem.W.exmOne K cls c = some b ∧ (b = true → ∀ a, H a = none → ts a cls d { nx := fun σ' H' => H' a = none → D.nx (σ'.set i none) (upd H' a (exK cls d a)), rt := fun _ _ => False, bk := fun _ _ => False, ct := fun _ _ => False } (σ.set i (some (.ref a))) H) ∧
    (b = false → Wout cls d σ H)
section
variable {X : Cx} {x n : Str} {c : Value} {i : Nat} {body suite : List Stmt} {b₀ : Stmt} {np pos pos' : Pos} {tb : WX → TS} {ts : Addr → Value → Option Addr → TS} {Wout : WX}
theorem ps_try_keep (hex : X.ex = []) (hs : X.stack = X.env :: X.outer) (hf : X.env.frame = some X.env.locals) (hN : X.N.Nodup) (hi : X.N[i]? = some n) (hln : X.env.kindOf n = some .local) (hc : Names X x c) (tk : Takes X Wout)
    (hb : ∀ (W : WX) (pn : List (Addr × Obj)) (xe : Value → Shared → Prop), Takes (X.tr pn xe) W → PassesOwn (model X.prog X.w) X.A X.env xe → PSs (X.tr pn xe) body (tb W))
    (hsu : ∀ (a : Addr) (oe : Obj) (cls : Value) (d : Option Addr) (pn : List (Addr × Obj)), Zc cls d oe → (∃ vs, oe.data = .fields vs) → PSs (X.suite a ((a, oe) :: pn)) (b₀ :: suite) (ts a cls d)) :
    PS X (.Try body [.ExceptHandler (some (.Name x np)) (some n) (b₀ :: suite) pos'] [] [] pos) (fun D σ H => tb (wKeep X.K c i ts Wout D) D σ H) := by
  refine ⟨fun pins s σ H D I h => ?_⟩
  have ok := I.ok
  have hfr : X.A.frames = some (X.env :: X.outer) := by rw [ok.frames, hs]
  have hloc : Loc X.env.scope n := .inl hln
  refine wpAny_Try_except ?_
  refine wpAny_mono ((hb (wKeep X.K c i ts Wout D) (X.pn ++ pins) (fun e s₁ => wpAny (model X.prog X.w) X.A (noteFrame e X.env) (fun _ s₂ => wpAny (model X.prog X.w) X.A (setFlight e none) (fun _ s₃ =>
    wpAny (model X.prog X.w) X.A (handleBy e X.env [.ExceptHandler (some (.Name x np)) (some n) (b₀ :: suite) pos']) (SP X pins D) X.xe s₃) X.xe s₂) X.xe s₁) (fun u s' xx => ?_) PassesOwn.looking).run [] s σ H D (I.toTry _) h) (fun f s1 hsp => ?_) (fun e s1 he => he)
  · obtain ⟨a, B, sI, pins', σ', H', cls, d, rfl, J', nb, up, sky, na, os, ag, b, hb1, hyes, hno⟩ := xx
    have J : Inv X pins σ' H' sI := J'.ofTry ok
    have sky' : Sky B (X.env :: X.outer) a (Zc cls d) X.env.locals s'.heap := by rw [← hs]; exact sky
    show wpAny (model X.prog X.w) X.A (noteFrame (.ref a) X.env) _ _ _
    refine Sky.land Zc.steady hfr hf sky' fun h3 fl3 up3 => ?_
    have J3 : Inv X pins σ' H' { s' with heap := h3 } := J.landed nb fl3.1 (up.trans up3) os ag
    obtain ⟨oe3, vs3, he3, hz3, hd3⟩ := fl3.there
    have notFr : ∀ {h : Heap} {o : Obj} {vs : Array Value}, h.FunFrames B (X.env :: X.outer) → h.get? a = some o → o.data = .fields vs → a ∉ frs (X.env :: X.outer) := fun {h o vs} ff e dd hm => by
      obtain ⟨_, o', e', hnf⟩ := ff.mem hm
      rw [e] at e'; cases e'
      exact hnf _ dd
    have nfr := notFr fl3.2.2.1 he3 hd3
    have nL : a ≠ X.env.locals := fun z => nfr (List.mem_filterMap.mpr ⟨X.env, List.mem_cons_self, by rw [hf, z]⟩)
    have nF : a ∉ X.fs := fun hm => by
      obtain ⟨e, he, q⟩ := List.mem_filterMap.mp hm
      exact nfr (List.mem_filterMap.mpr ⟨e, List.mem_cons_of_mem _ he, q⟩)
    have newI : sI.heap.get? a = none := by
      cases e : sI.heap.get? a with
      | none => rfl
      | some o =>
        have q := nb a o e (by rw [hs]; exact nfr)
        rw [fl3.2.1] at q
        cases q
    have new0 : X.s_0.heap.get? a = none := by
      cases e : X.s_0.heap.get? a with
      | none => rfl
      | some o =>
        obtain ⟨o', q⟩ := J.base.there a o e (by rw [hex]; exact fun z => nomatch z)
        rw [newI] at q
        cases q
    have npin : ∀ p ∈ X.pn ++ pins, p.1 ≠ a := fun p hp z => by
      have q := (J.pin p hp).1
      rw [z, newI] at q
      cases q
    have S3 := J3.suite he3 hd3 na nL nF
    refine wpAny_handleBy_cons (codeAny_handlers_test ?_) (by intro q; cases q)
    have LT : PySem.W.Looks (model X.prog X.w) h3 (typeOf (.ref a)) cls := fun A Q E s k q => wpAny_typeOf_ref (k _ _ he3) (by rw [hz3.1]; exact q)
    have LM := PySem.W.exm_one (M := model X.prog X.w) (J3.kIn) LT hb1
    have test : ∀ {Q : Value → Shared → Prop} {E : Value → Shared → Prop}, Q c { s' with heap := h3 } → wpAny (model X.prog X.w) (X.A.mark (some (.ref a))) (eval (.Name x np) X.env) Q E { s' with heap := h3 } := fun {Q E} q => by
      obtain ⟨hg, hdbg, hm | ⟨hm, hv, hnn⟩⟩ := hc
      · exact ld_glob (X := X.suite a ((a, oe3) :: (X.pn ++ pins))) S3 hg hm q hdbg
      · exact ld_blt (X := X.suite a ((a, oe3) :: (X.pn ++ pins))) S3 hg hm hv q hnn hdbg
    refine test (LM.here ?_)
    cases b with
    | true =>
      refine codeAny_handlers_suite_as ?_
      refine HandSPX.lands_againZ fl3 fun h4 fl4 up4 => ?_
      have J4 : Inv X pins σ' H' { s' with heap := h4 } := J.landed nb fl4.1 ((up.trans up3).trans up4) os ag
      obtain ⟨oe4, vs4, he4, hz4, hd4⟩ := fl4.there
      have S4 := J4.suite he4 hd4 na nL nF
      refine store_ok (X := X.suite a ((a, oe4) :: (X.pn ++ pins))) (v := .ref a) S4 hN hi hloc rfl (fun s5 S5 => ?_) (.inr hln)
      refine wpAny_mono ((hsu a oe4 cls d (X.pn ++ pins) hz4 ⟨_, hd4⟩).run [] s5 _ H' _ S5 (hyes rfl a na)) (fun f s6 hsp => ?_) (fun _ _ z => False.elim z)
      cases f with
      | next =>
        obtain ⟨σ6, H6, S6, q6⟩ := hsp
        have P6 := S6.pin (a, oe4) (List.mem_append_left _ List.mem_cons_self)
        have U6 := S6.unsuite ok
        have V6 : Inv X ((a, oe4) :: pins) σ6 H6 s6 := U6.pins_of fun p hp => by
          rcases List.mem_cons.mp hp with e | e
          · subst e
            exact ⟨P6.1, P6.2.1, P6.2.2.1, P6.2.2.2.1, P6.2.2.2.2⟩
          · exact U6.pin p (List.mem_append_right _ e)
        refine gone_ok V6 hN hi hln fun s7 J7 => ?_
        have P7 := J7.pin (a, oe4) (List.mem_append_right _ List.mem_cons_self)
        have J8 : Inv X pins (σ6.set i none) H6 s7 := J7.pins_of fun p hp => J7.pin p (List.mem_append_right _ (List.mem_cons_of_mem _ hp))
        exact ⟨_, _, J8.track P7.2.1 new0 P7.1 hd4 nL npin (exK_ok P7.1 hz4 hd4), q6 P6.2.1⟩
      | brk =>
        obtain ⟨σ6, H6, S6, q6⟩ := hsp
        exact q6.elim
      | cont =>
        obtain ⟨σ6, H6, S6, q6⟩ := hsp
        exact q6.elim
      | ret u =>
        obtain ⟨v6, σ6, H6, S6, r6, q6⟩ := hsp
        exact q6.elim
    | false =>
      show wpAny _ X.A (handleBy (.ref a) X.env []) _ _ _
      refine wpAny_handleBy_nil ?_
      obtain ⟨k1, k2, k3, oe, vs, T, oT, ts', he, hz, hd, h1, hr⟩ := id fl3
      unfold PySem.passOn
      refine wpAny_bind (wpAny_field he hd h1 ?_)
      rw [if_neg (show ¬ ((Value.ref T == Value.none) = true) from by simp)]
      have fin : wpAny (model X.prog X.w) X.A (setFlight (.ref a) X.env.frame) (fun _ s4 => wpAny (model X.prog X.w) X.A (throw (.ref a) : Sem Flow) (SP X pins D) X.xe s4) X.xe { s' with heap := h3 } := by
        rw [hf]
        refine HandSPX.setFlight_upZ fl3 fun h4 hh4 up4 => wpAny_throw (tk _ _ ?_)
        exact ⟨a, B, sI, pins, σ', H', cls, d, rfl, J, nb, (up.trans up3).trans up4, .inr (.inr (by rw [hs]; exact hh4)), na, os, ag, hno rfl⟩
      first
        | exact wpAny_bind (wpAny_pure (wpAny_bind fin))
        | exact wpAny_bind fin
  · cases f with
    | next =>
      obtain ⟨σ', H', J', q⟩ := hsp
      exact wpAny_execs_nil ⟨σ', H', J'.ofTry ok, q⟩
    | brk =>
      obtain ⟨σ', H', J', q⟩ := hsp
      exact ⟨σ', H', J'.ofTry ok, q⟩
    | cont =>
      obtain ⟨σ', H', J', q⟩ := hsp
      exact ⟨σ', H', J'.ofTry ok, q⟩
    | ret u =>
      obtain ⟨v, σ', H', J', r, q⟩ := hsp
      exact ⟨v, σ', H', J'.ofTry ok, r, q⟩
end
/-- e.f, e a kept error -/
def tXk (K : PySem.W.Frag) (f : Str) (te : TE) : TE := fun σ H Q => te σ H fun x H1 => ∃ (a C dd : Addr) (fs : List (Str × V)) (v : V), x = .ref a ∧ XfC K C ∧ PySem.W.findIn K (.ref C) f = some none ∧ H1 a = some (exK (.ref C) (some dd) a) ∧ H1 dd = some (.xd fs) ∧ fs.lookup f = some v ∧ Q v H1
theorem pe_xk {X : Cx} {e : Expr} {te : TE} {pos : Pos} {n : Str} (he : PE X e te) (hb : attributeBase e n X.env (eval e X.env) = eval e X.env := by rfl) : PE X (.Attribute e n pos) (tXk X.K n te) := by
  refine ⟨fun pins s σ H Q I h => ?_⟩
  refine attr_of hb (thn (he.run pins s σ H _ I h) fun u s1 hh => ?_)
  obtain ⟨x, H1, I1, rx, a, C, dd, fs, v, ex, T, hno, ea, ed, l, q⟩ := hh
  subst ex
  obtain rfl : u = Value.ref a := rx
  obtain ⟨⟨oe, vs, ha, hz, hd⟩, _, _⟩ := I1.hok a _ ea
  have hx : ObjOk X.prog X.w H1 s1.heap dd (.xd fs) := I1.hok dd _ ed
  obtain ⟨mA, hns, hr⟩ := hx
  obtain ⟨od, ho, hl⟩ := lookIn_ns hns
  obtain ⟨u, hu, ru⟩ := RelO.some_of (v := v) (o := mA n) (by rw [← l]; exact hr n)
  have J : PySem.W.InstAt s1.heap a oe C (some od) := ⟨ha, hz.1, by unfold PySem.W.notCls; rw [hd] <;> rfl, by rw [hz.2]; exact ho⟩
  exact HandSPX.exc_get I1.kIn J T.ga T.gg T.exC (PySem.W.findObj_own T.hdC hno rfl (by rw [hl, hu])) (handed_of ru) ⟨v, H1, I1.tok _, ru, q⟩
end L2
namespace PySem.W
open PySem PySem.Spec PySem.Calls PyProof.Rows
section
variable {prog : Program} {w : World} {A : Around} {E : Value → Shared → Prop} {s : Shared} {K : Frag} {x D : Addr} {ox od : Obj}
theorem kin_classK {Q : Option Value → Shared → Prop} (C : L2.ExcC K D) (X : K.In s.heap) (I : InstAt s.heap x ox D (some od)) (h : Q (some (.ref D)) { s with toks := s.toks + 1 }) : wpAny (model prog w) A (getAttr? (.ref x) "__class__") Q E s := by
  have hf : findObj K D (some od) "__class__" = some (.bind (.builtin "getset_descriptor.__get__") (.builtin "object.__class__")) := findObj_data (by obtain ⟨cd, hc, _⟩ := any_some C.hd; rw [hc]; rfl) C.ha C.hn C.ht
  obtain ⟨hp, g, d, t, os⟩ := s
  have L0 := I.type (M := model prog w)
  have L1 := looks_findIn (M := model prog w) X C.hg
  have L2 := looks_findIn (M := model prog w) X C.hk
  have L3 := looks_find (M := model prog w) X I hf
  have sub : Looks (model prog w) hp (isInstance (.ref x) (.type "BaseException")) true := L0.andThen (looks_subIn X C.hs)
  have hx0 : (false && onTheHeap (Value.builtin "BaseException.__getattribute__")) = false := rfl
  have hx2 : (Value.builtin "BaseException.__getattribute__" == Value.builtin "object.__getattribute__") = false := by decide +kernel
  have hx1 : (onTheHeap (Value.ref D) && Value.builtin "BaseException.__getattribute__" == Value.builtin "object.__getattribute__") = false := by rw [hx2]; rfl
  unfold getAttr? getAttrBy? getAttrBy
  refine wpAny_bind (wpAny_mkText (wpAny_bind (wpAny_attempt (wpAny_holding (wpAny_bind (L0.at (wpAny_bind (L1.at ?_))))))))
  show wpAny _ _ (if (onTheHeap (Value.ref D) && Value.builtin "BaseException.__getattribute__" == Value.builtin "object.__getattribute__") = true then _ else _) _ _ _
  rw [hx1, if_neg Bool.false_ne_true]
  unfold getAttrByItsOwn hookBefore
  refine wpAny_bind ?_
  rw [if_pos (show onTheHeap (Value.ref D) = true from rfl)]
  refine L2.at ?_
  refine wpAny_bind (wpAny_attempt (wpAny_holding ?_))
  unfold callGetattribute
  rw [hx0, if_neg Bool.false_ne_true]
  unfold boundAndCalled
  rw [PySem.F.excAttr_ValueError.ga.bind (.ref x)]
  refine wpAny_bind (wpAny_pure ?_)
  show wpAny _ _ (call (.builtin "BaseException.__getattribute__") [.ref x, .str "__class__" t]) _ _ _
  refine wpAny_call (codeAny_call_builtin PySem.F.excAttr_ValueError.ga.plain PySem.F.entry_bexc_ga ?_)
  refine @check_slot (model prog w) _ _ ⟨hp, g, d, t + 1, os⟩ "BaseException.__getattribute__" "BaseException" "__getattribute__" (.ref x) [.str "__class__" t] [] _ (by decide +kernel) (by decide +kernel) sub (PySem.F.args_bexc_ga (.ref x) (.str "__class__" t)) ?_
  unfold Builtin.«object.__getattribute__»
  refine wpAny_bind (wpAny_of_eq (a := ((Value.ref x : Value), [Value.str "__class__" t])) (by first | rfl | (simp only [slotArgs]; rfl)) ?_)
  refine wpAny_bind (wpAny_pure (wpAny_bind (L0.at (wpAny_bind (L3.at ?_)))))
  show wpAny _ _ (holding [Value.builtin "object.__class__"] (call (.builtin "getset_descriptor.__get__") [.builtin "object.__class__", .ref x, .ref D]) >>= ret) _ _ _
  refine wpAny_bind (wpAny_holding (wpAny_call (class_get (s := ⟨hp, g, d, t + 1, os⟩) (ox := ox) (od := some od) X I C.hm ?_)))
  refine wpAny_pure ?_
  show wpAny _ _ (handedOut (.ref D)) _ _ _
  rw [handedOut_of (v := .ref D) rfl]
  first
    | exact wpAny_pure (wpAny_pure h)
    | exact wpAny_pure h
    | exact wpAny_pure (wpAny_bind (wpAny_pure (wpAny_pure h)))
theorem kitx_K (C : L2.ExcC K D) : KitX K (.ref x) (.ref D) (fun h => InstAt h x ox D (some od)) where
  ty := fun _ _ _ I => I.type
  it := fun _ _ X _ => by
    obtain ⟨cdD, hcD, _⟩ := any_some C.hd
    unfold clsIn at hcD
    split at hcD
    · rename_i ho
      intro A' Q' E' s' k q
      unfold isType loadHead
      exact wpAny_bind (wpAny_loadPart (k _ _ (X _ _ ho)) (wpAny_pure q))
    · cases hcD
  ne := (handS_kitx_exc (x := x) (ox := ox) C.hg C.hk C.hs C.hd C.ha C.hn C.ht C.hm).ne
  ca := fun X I k => kin_classK C X I k
end
end PySem.W
namespace L2
open PySem PySem.Spec PyProof.Rows
theorem kit_same {K : PySem.W.Frag} {D : Addr} : PySem.W.kitOne K (.ref D) (.ref D) = some true := if_pos (beq_self_eq_true _)
theorem kit_ne {K : PySem.W.Frag} {D C : Addr} {b : Bool} (ne : (Value.ref D == Value.ref C) = false) (h1 : PySem.W.isClsIn K C = true) (h2 : PySem.W.typeIn K (.ref C) = some (.type "type")) (h3 : PySem.W.subIn K (.ref D) (.ref C) = some b) : PySem.W.kitOne K (.ref D) (.ref C) = some b := by
  unfold PySem.W.kitOne
  rw [ne, if_neg Bool.false_ne_true]
  have e : ((PySem.W.clsIn K C).isSome && PySem.W.typeIn K (.ref C) == some (.type "type")) = true := by
    have h1' : (PySem.W.clsIn K C).isSome = true := h1
    rw [h1', h2]
    rfl
  show (if ((PySem.W.clsIn K C).isSome && PySem.W.typeIn K (.ref C) == some (.type "type")) = true then PySem.W.subIn K (.ref D) (.ref C) else none) = some b
  rw [if_pos e]
  exact h3
/-- isinstance(e, c), e a kept error, c a class -/
def rIsK (K : PySem.W.Frag) : List V → Hp → VK → Prop := fun xs H Q => ∃ (a D dd : Addr) (fs : List (Str × V)) (c : V) (cv : Value) (b : Bool), xs = [.ref a, c] ∧ ClsV c cv ∧ ExcC K D ∧ H a = some (exK (.ref D) (some dd) a) ∧ H dd = some (.xd fs) ∧ PySem.W.kitOne K (.ref D) cv = some b ∧ Q (.bl b) H
theorem call_isK {X : Cx} : CallR X (.builtin "isinstance") (rIsK X.K) := by
  intro pins s σ H xs us Q I r h
  obtain ⟨a, D, dd, fs, c, cv, b, rfl, hcv, C, ea, ed, e, q⟩ := h
  obtain ⟨u1, u2, rfl, r1, r2⟩ := vals2 r
  have ec := hcv.eq r2
  subst ec
  cases (show u1 = Value.ref a from r1)
  obtain ⟨⟨oe, vs, ha, hz, hd⟩, _, _⟩ := I.hok a _ ea
  have hx : ObjOk X.prog X.w H s.heap dd (.xd fs) := I.hok dd _ ed
  obtain ⟨mA, hns, hr⟩ := hx
  obtain ⟨od, ho, hl⟩ := lookIn_ns hns
  have J : PySem.W.InstAt s.heap a oe D (some od) := ⟨ha, hz.1, by unfold PySem.W.notCls; rw [hd] <;> rfl, by rw [hz.2]; exact ho⟩
  exact PySem.W.kia_one (PySem.W.kitx_K C) I.kIn J e (fun z => nomatch z) fun tk => ⟨.bl b, H, I.kept (t' := tk) fun _ _ z => z, rfl, q⟩
end L2

/-! the same promises where nothing is being shown (repr) around the call -/
namespace L2
open PySem PySem.Spec PyProof.Rows
/-- a promise kept where no repr is under way -/
structure FnOkG (P : Program) (w : World) (K : PySem.W.Frag) (mg : Str → Option Value) (base : Heap) (CX : CXT) (k : Nat) (f : Addr) (fd : FuncData) (ps : List Str) (sp : Sp) : Prop where
  len : ∀ vs H Q E, sp vs H Q E → vs.length = ps.length
  run : ∀ (A : Around) (outer : List Env) (s : Shared) (H : Hp) (args : Args) (us : List Value) (vs : List V) (Q : VK) (E : XK), A.guards = some [] → Room k A → Env0 P w K mg base A outer s H → BindsTo s fd args (ps.zip us) → Vals vs us → sp vs H Q E →
    codeAny (model P w) A (.call (.ref f) args) (CR CX outer P w H s Q E) s
theorem fn_ofG {CX : CXT} {P : Program} {w : World} {K : PySem.W.Frag} {mg : Str → Option Value} {base : Heap} {k : Nat} {f : Addr} {name qual : Str} {params : Arguments} {body : List Stmt} {scope : Scope} {dV kV doc pm cdv ct oc : Value} {an od : Option Addr}
    {osl : Array (Option Value)} {N ps : List Str} {sp : Sp} (lk : K.lookup f = some ⟨oc, od, .func (PySem.W.fnOf name qual params body scope dV kV doc pm an cdv ct), osl⟩) (hcd : PySem.W.codeIn K cdv qual = true) (S : FnScope N ps scope)
    (len : ∀ vs H Q E, sp vs H Q E → vs.length = ps.length)
    (hbody : ∀ (A : Around) (outer : List Env) (s : Shared) (H : Hp) (vs : List V) (Q : VK) (E : XK), A.guards = some [] → Room k (A.deeper (envOfC qual scope s.heap.objs.size f cdv)) → sp vs H Q E →
      ∃ t, PSs (cxOf CX P w K mg base N qual scope f cdv A outer s H E) body t ∧ t { nx := fun _ H' => Q .non H', rt := Q } (start N vs) H) :
    FnOkG P w K mg base CX (k + 1) f (PySem.W.fnOf name qual params body scope dV kV doc pm an cdv ct) ps sp := by
  refine ⟨len, fun A outer s H args us vs Q E hG hr e0 hb r hsp => ?_⟩
  have hl := len _ _ _ _ hsp
  have KX : K.In s.heap := e0.mod.kin.keeps fun b o e => (e0.bs b o e).1
  have lim : s.heap.NoLimit := e0.mod.nolimit.keeps fun b o e => (e0.bs b o e).1
  have hkind : ∀ y ∈ ps.zip us, scope.names.lookup y.1 = some .local ∨ (scope.names.lookup y.1 = some .cell ∧ ((cellsFrom (s.heap.objs.size + 1) scope.names []).lookup y.1).isSome = true) := fun ⟨n, v⟩ hy => by
    rcases S.par n (List.of_mem_zip hy).1 with q | q
    · exact .inl q
    · exact .inr ⟨q, PySem.W.cellsFrom_some _ _ _ (.inl q)⟩
  refine codeAny_call_function hr.depth (KX _ _ lk) rfl S.co S.gen rfl (PySem.W.codeRec_of KX hcd) (hb _ _ _ _ ?_)
  refine wpAny_newFunctionEnv_cells S.kind hkind fun env he s1 x => ?_
  subst he
  refine ⟨lim.keeps x.toInCall.keep, codeAny_func ?_⟩
  obtain ⟨t, ht, hq⟩ := hbody A outer s H vs Q E hG (hr.deeper _) hsp
  have I : Inv (cxOf CX P w K mg base N qual scope f cdv A outer s H E) [] (start N vs) H s1 := inv_start S hr.hd e0 hl r x
  refine wpAny_mono (ht.run [] s1 (start N vs) H _ I hq) (fun fl s' hs => ?_) fun e s' hs => hs
  have fin : ∀ {σ' : St} {H' : Hp} {v : V} {u : Value}, Inv (cxOf CX P w K mg base N qual scope f cdv A outer s H E) [] σ' H' s' → RelV v u → Q v H' → CE outer P w H s Q u s' :=
    fun {σ' H' v u} J rv q => ⟨v, H', J.os, J.bare, J.base, J.hok, rv, q⟩
  cases fl with
  | ret u =>
    obtain ⟨v, σ', H', J, rv, q⟩ := hs
    exact fin J rv q
  | next =>
    obtain ⟨σ', H', J, q⟩ := hs
    exact fin (v := V.non) (u := Value.none) J rfl q
  | brk =>
    obtain ⟨_, _, _, q⟩ := hs
    exact False.elim q
  | cont =>
    obtain ⟨_, _, _, q⟩ := hs
    exact False.elim q
section
variable {X : Cx} {CX : CXT} {k : Nat} {f : Addr} {fd : FuncData} {ps : List Str} {sp : Sp} {dvs : List V} {ds : List Value} {E : XK} {x : Str} {p pos : Pos} {e : Expr} {es : List Expr} {t : TA}
theorem run_fnG {pins : List (Addr × Obj)} {σ : St} {H : Hp} {s : Shared} {Q : VK} {us : List Value} {vs : List V} (F : FnOkG X.prog X.w X.K X.mg X.base CX k f fd ps sp) (hG : X.A.guards = some []) (hr : Room k X.A) (hb : Binds X.K fd ps ds) (hd : Vals dvs ds) (hx : Passes CX X E)
    (I : Inv X pins σ H s) (r : Vals vs us) (h : sp (vs ++ dvs) H Q E) : wpAny (model X.prog X.w) X.A (call (.ref f) us) (EP X pins σ Q) X.xe s := by
  have r2 : Vals (vs ++ dvs) (us ++ ds) := r.append hd
  have hl : (us ++ ds).length = ps.length := by rw [← r2.length]; exact F.len _ _ _ _ h
  refine wpAny_call (codeAny_mono (F.run X.A X.stack s H ⟨us, []⟩ (us ++ ds) (vs ++ dvs) Q E hG hr I.env0 (hb s us I.kIn hl) r2 h) fun r s' hq => ?_)
  cases r with
  | error e => exact hx pins σ H s e s' I hq
  | ok fl =>
    cases fl with
    | ret u => exact I.after hq
    | next => exact False.elim hq
    | brk => exact False.elim hq
    | cont => exact False.elim hq
theorem pe_callG (F : FnOkG X.prog X.w X.K X.mg X.base CX k f fd ps sp) (hG : X.A.guards = some []) (hr : Room k X.A) (hg : Gl X x) (hm : X.mg x = some (.ref f)) (hk : PySem.W.keepIn X.K (.ref f) = true) (hb : Binds X.K fd ps ds) (hd : Vals dvs ds) (hx : Passes CX X E)
    (ha : PA X (e :: es) t) (hdb : (x == ("__debug__" : Str)) = false := by decide) (he : starEach (e :: es) X.env = (false, eval e X.env) :: starEach es X.env := by rfl) (hpl : (backTo pos (starEach es X.env)).any (·.1) = false := by rfl) :
    PE X (.Call (.Name x p) (e :: es) [] pos) (tCall sp dvs E t) := by
  refine ⟨fun pins s σ H Q I h => ?_⟩
  refine wpAny_Call_Name_kw (ld_glob I hg hm ?_ hdb)
  refine PySem.W.callWith_K (h₀ := X.base) I.ok.mod.kin hk (thn (ha.run pos pins s σ H _ I h) fun us s1 ⟨vs, H1, I1, r, q⟩ => ⟨I1.kIn, ?_⟩) he hpl
  exact run_fnG F hG hr hb hd hx I1 r q
end
section
variable {P : Program} {w : World} {K : PySem.W.Frag} {mg : Str → Option Value} {base : Heap}
theorem Fun.okG {x qual : Str} {st : Stmt} {f : Addr} {fd : FuncData} {N ps : List Str} {k : Nat} {sp : Sp} (F : Fun K x qual st f fd) (S : FnScope N ps (defScope st)) (len : ∀ vs H Q E, sp vs H Q E → vs.length = ps.length)
    (hbody : ∀ (cdv : Value) (A : Around) (outer : List Env) (s : Shared) (H : Hp) (vs : List V) (Q : VK) (E : XK), A.guards = some [] → Room k (A.deeper (envOfC qual (defScope st) s.heap.objs.size f cdv)) → sp vs H Q E →
      ∃ t, PSs (cxOf CX0 P w K mg base N qual (defScope st) f cdv A outer s H E).nox (defBody st) t ∧ t { nx := fun _ H' => Q .non H', rt := Q } (start N vs) H) : FnOkG P w K mg base CX0 (k + 1) f fd ps sp := by
  obtain ⟨oc, od, kV, doc, pm, an, cdv, ct, osl, rfl, lk, hcd⟩ := F.ex
  refine fn_ofG lk hcd S len fun A outer s H vs Q E hG hr hsp => ?_
  obtain ⟨t, h, q⟩ := hbody cdv A outer s H vs Q E hG hr hsp
  exact ⟨t, h.nox, q⟩
end
theorem law_callG {P : Program} {w : World} {K : PySem.W.Frag} {mg mb : Str → Option Value} {CX : CXT} {k : Nat} {fa a : Addr} {fd : FuncData} {x : Str} {sp : Sp} {s₁ : Shared} {vs : List Value} {ns : List Int}
    (KX : K.In s₁.heap) (hns : s₁.heap.Ns mainGlobals mg) (hb : s₁.heap.Ns builtinsNs mb) (hbb : ∀ x : Str, x ≠ "__name__" → mb x = bootBuiltins x) (hlim : s₁.heap.NoLimit) (hg : s₁.gens = #[])
    (ha : s₁.heap.get? a = some { cls := .type "list", data := .seq vs.toArray }) (hi : IntsAre vs ns) (hl : ns.length ≤ sizeLine) (hr : Room k callerA)
    (F : ∀ base : Heap, K.In base → base.Ns mainGlobals mg → FnOkG P w K mg base CX k fa fd [x] sp) (hbind : ∀ (s : Shared) (u : Value), BindsTo s fd ⟨[u], []⟩ [(x, u)])
    (hsp : ∀ H : Hp, Only H → SqL K H a (ns.map V.int) → sp [.ref a] H (fun v _ => v = .bl true) fun _ _ _ => False)
    (hCX : ∀ H e s', CX [] H s₁ (fun _ _ _ => False) e s' → False) :
    codeAny (model P w) callerA (.call (.ref fa) ⟨[.ref a], []⟩) (fun r s' => r = .ok (.ret (.bool true)) ∧ OldK s₁.heap s'.heap ∧ s'.os = s₁.os ∧ AllBare s'.gens) s₁ := by
  have rv := vals_ints hi
  have lenV := hi.length
  -- from an abstract heap in which nothing but the script may be tracked
  have core : ∀ H : Hp, Only H → SqL K H a (ns.map V.int) → HOk P w H s₁.heap → (∀ b, H b ≠ none → b = a) → (H a ≠ none → K.lookup a = none) →
      codeAny (model P w) callerA (.call (.ref fa) ⟨[.ref a], []⟩) (fun r s' => r = .ok (.ret (.bool true)) ∧ OldK s₁.heap s'.heap ∧ s'.os = s₁.os ∧ AllBare s'.gens) s₁ := by
    intro H hO hS hok hA hK
    have base_of : ∀ {b : Addr} {o : Obj}, s₁.heap.get? b = some o → H b = none → (hidT s₁.heap H).get? b = some o := fun e n => hidT_get e n
    have noA : ∀ {b : Addr} {o : Obj} {es : Array DictEntry} {ep : Nat}, s₁.heap.get? b = some o → o.data = .dict es ep → H b = none := fun {b o es ep} e d => by
      cases q : H b with
      | none => rfl
      | some u =>
        have e' : b = a := hA b (by rw [q]; simp)
        subst e'
        rw [ha] at e; cases e
        have d' : Data.seq vs.toArray _ = Data.dict es ep := d
        cases d'
    have nsK : ∀ {b : Addr} {m : Str → Option Value}, s₁.heap.Ns b m → (hidT s₁.heap H).Ns b m := fun {b m} ⟨o, es, ep, e, d, r⟩ => ⟨o, es, ep, base_of e (noA e d), d, r⟩
    have hKb : K.In (hidT s₁.heap H) := fun b o e => base_of (KX b o e) (by
      cases q : H b with
      | none => rfl
      | some u =>
        have e' : b = a := hA b (by rw [q]; simp)
        subst e'
        rw [hK (by rw [q]; simp)] at e; cases e)
    have hM : Mod K mg (hidT s₁.heap H) := ⟨hKb, nsK hns, ⟨mb, nsK hb, hbb⟩, let ⟨mc, h1, h2⟩ := hlim; ⟨mc, nsK h1, h2⟩⟩
    have e0 : Env0 P w K mg (hidT s₁.heap H) callerA [] s₁ H := ⟨rfl, hM, fun b o e => of_hidT e, Nat.le_of_eq (hidT_size _ _), trivial, fun b hb => absurd (show b ∈ ([] : List Addr) from hb) (by simp), hok, .of_eq hg⟩
    refine codeAny_mono ((F _ hKb (nsK hns)).run callerA [] s₁ H ⟨[.ref a], []⟩ [.ref a] [.ref a] _ _ rfl hr e0 (hbind s₁ (.ref a)) (.cons rfl .nil) (hsp H hO hS)) fun r s' h => ?_
    cases r with
    | error e => exact (hCX H e s' h).elim
    | ok fl =>
      cases fl with
      | next => exact False.elim h
      | brk => exact False.elim h
      | cont => exact False.elim h
      | ret u =>
        obtain ⟨v, H', os, bare, un, hok', r', q⟩ := h
        have q' : v = .bl true := q
        subst q'
        obtain rfl : u = Value.bool true := r'
        refine ⟨rfl, OldK.of_keep fun b o e => ?_, os, bare⟩
        cases q : H b with
        | none => exact un.keep b o e q (by intro z; exact absurd (show b ∈ ([] : List Addr) from z) (by simp)) (by simp)
        | some u =>
          rcases hO b with z | ⟨ob, xs, z⟩
          · rw [q] at z; cases z
          · have z2 := un.frzs b ob _ z
            obtain ⟨e1, _⟩ := hok b _ z
            obtain ⟨e2, _⟩ := hok' b _ z2
            rw [e] at e1; cases e1
            exact e2
  cases hk : K.lookup a with
  | some o =>
    -- the script is one of the module's own objects
    have e := KX a o hk
    rw [ha] at e
    cases e
    refine core (fun _ => none) (fun _ => .inl rfl) (.inr ⟨_, vs.toArray, _, hk, rfl, rfl, rfl, by rw [List.size_toArray, lenV]; exact hl, by simpa using rv⟩) (fun b u z => by have z' : (none : Option HO) = some u := z; cases z') (fun b z => absurd rfl z) fun z => absurd rfl z
  | none =>
    refine core (fun b => if b = a then some (.frz { cls := .type "list", data := .seq vs.toArray } (.lst (ns.map V.int))) else none) (fun b => ?_) (.inl (.inr ⟨{ cls := .type "list", data := .seq vs.toArray }, if_pos rfl⟩)) (fun b u z => ?_) (fun b z => ?_) fun _ => hk
    · by_cases hb : b = a
      · exact .inr ⟨_, _, if_pos hb⟩
      · exact .inl (if_neg hb)
    · by_cases hb : b = a
      · have z' := (if_pos hb).symm.trans z
        cases z'
        subst hb
        exact ⟨ha, by rw [List.length_map]; exact hl, vs, _, rv, ha⟩
      · have z' := (if_neg hb).symm.trans z
        cases z'
    · by_cases hb : b = a
      · exact hb
      · exact absurd (if_neg hb) z
theorem walk_ofG {l : PySem.W.OpenLaw} {n k : Nat} {q : Program} {loose : List Str} {XP : (Str → Option Value) → Heap → Prop} {YP : World → Heap → Prop} {d : DefRec} {K : Params → PySem.W.Frag} {sp : World → Sp} {x : Str}
    (hn : l.most = some n) (hn2 : n ≤ sizeLine) (hdf : d.params.defaults = []) (hr : Room k callerA) (hY : ∀ (w : World) (h : Heap), YP w h → (K w.params).In h)
    (F : ∀ (w : World) (mg : Str → Option Value) (fa : Addr) (h : Heap), (K w.params).In h → h.Ns mainGlobals mg → mg d.name = some (.ref fa) →
      ∃ fd : FuncData, (∀ (s : Shared) (u : Value), BindsTo s fd ⟨[u], []⟩ [(x, u)]) ∧ ∀ base : Heap, (K w.params).In base → base.Ns mainGlobals mg → FnOkG l.prog w (K w.params) mg base CX0 k fa fd [x] (sp w))
    (hsp : ∀ (w : World) (H : Hp) (a : Addr) (ns : List Int), ns.length ≤ n → (∀ z ∈ ns, Builtin.Int.intBits z ≤ 1048576) → Only H → SqL (K w.params) H a (ns.map V.int) → sp w [.ref a] H (fun v _ => v = .bl true) fun _ _ _ => False) :
    PySem.W.WalkO q loose XP YP l.row.toRowW d [] (fun f vs => PySem.call f vs) := by
  refine Att.attach_callB hn hdf fun w s₀ s₁ mg mb fa o pm cd doc a vs ns G Y ho hd hcd hmg hobj hints hlen hbits hg => ?_
  have KX := hY w _ Y
  obtain ⟨fd, hb, hF⟩ := F w mg fa _ KX G.T.g hmg
  exact law_callG KX G.T.g G.T.b G.T.builtins G.T.nolimit hg hobj hints (Nat.le_trans hlen hn2) hr hF hb (fun H hO hS => hsp w H a ns hlen hbits hO hS) fun H e s' z => z
/-- repr of data -/
def rReprD (K : PySem.W.Frag) : List V → Hp → VK → Prop := fun xs H Q => ∃ (a : Addr) (d : PyData), xs = [.ref a] ∧ Dp K H (.ref a) d ∧ d.showable = true ∧ d.hasDict = false ∧ d.depth ≤ 20 ∧ d.shown.length ≤ sizeLine ∧ Q (.str d.shown) H
theorem call_reprD {X : Cx} {k : Nat} (hG : X.A.guards = some []) (hr : Room k X.A) : CallR X (.builtin "repr") (rReprD X.K) := by
  intro pins s σ H vs us Q I r h
  obtain ⟨a, d, rfl, hd, hs, hn, hdp, hz, q⟩ := h
  obtain ⟨u, rfl, ru⟩ := vals1 r
  obtain ⟨as, hrd⟩ := Dp.reads I d _ u hd ru
  cases (show u = Value.ref a from ru)
  have hu := hr.units
  exact repr_of_reads' (h₀ := s.heap) hrd hs (fun h => by rw [hn] at h; cases h) hG (by omega) (fun _ _ q => q) (fun h' u tk kk => ⟨.str _, H, I.kept (t' := tk) kk, ⟨_, rfl⟩, q⟩) hz
theorem shown_ints : ∀ ns : List Int, PyData.shownAll (ns.map PyData.int) = ns.map fun n => Str.ofString (toString n)
  | [] => rfl
  | n :: r => by
    show _ :: PyData.shownAll (r.map PyData.int) = _
    rw [shown_ints r]
    rfl
theorem showable_ints : ∀ {ns : List Int}, (∀ n ∈ ns, n.natAbs.log2 < 1920) → PyData.showableAll (ns.map PyData.int) = true
  | [], _ => rfl
  | n :: r, h => by
    show (decide (n.natAbs.log2 < 1920) && PyData.showableAll (r.map PyData.int)) = true
    rw [decide_eq_true (h n List.mem_cons_self), showable_ints fun m hm => h m (List.mem_cons_of_mem _ hm)]
    rfl
theorem noDict_ints : ∀ ns : List Int, PyData.hasDictAll (ns.map PyData.int) = false
  | [] => rfl
  | n :: r => noDict_ints r
theorem piled_ints : ∀ {ns : List Int}, (∀ n ∈ ns, n.natAbs.log2 < 1920) → piled (ns.map fun n => Str.ofString (toString n)) ≤ ns.length * 1923
  | [], _ => Nat.le_refl _
  | n :: r, h => by
    rw [List.map_cons, piled_cons, List.length_cons]
    have h1 := int_text_len_1921 (h n List.mem_cons_self)
    have h2 := piled_ints fun m hm => h m (List.mem_cons_of_mem _ hm)
    omega
theorem repr_tup {K : PySem.W.Frag} {H : Hp} {a : Addr} {ns : List Int} {Q : VK} (h : SqT K H a (ns.map V.int)) (hb : ∀ n ∈ ns, n.natAbs.log2 < 1920) (hl : ns.length ≤ 100) (q : Q (.str (PyData.tuple (ns.map PyData.int)).shown) H) : rReprD K [.ref a] H Q := by
  refine ⟨a, _, rfl, .tup h (dpAll_ints ns), showable_ints hb, noDict_ints ns, ?_, ?_, q⟩
  · show PyData.depthAll (ns.map PyData.int) + 1 ≤ 20
    rw [depth_ints]
    decide
  · show (tupleText (PyData.shownAll (ns.map PyData.int))).length ≤ sizeLine
    rw [shown_ints]
    have h1 := fmt_text (ns.map fun n => Str.ofString (toString n))
    have h2 := piled_ints hb
    have h3 : 200000 ≤ sizeLine := by decide
    omega
end L2

/-! lists of places, dicts of places, own containers -/
namespace L2
open PySem PySem.Spec PyProof.Rows
/-! ### own containers -/
section
variable {X : Cx} {CX : CXT} {k : Nat} {C f : Addr} {fd : FuncData} {ps : List Str} {sp : Sp} {E : XK}
theorem run_own {A : Around} {pins : List (Addr × Obj)} {σ : St} {H : Hp} {s : Shared} {Q : VK} {us : List Value} {vs : List V} (F : FnOk X.prog X.w X.K X.mg X.base CX k f fd ps sp) (hr : Room k A) (hfr : A.frames = X.A.frames) (hb : Binds X.K fd ps []) (hx : Passes CX X E)
    (I : Inv X pins σ H s) (r : Vals vs us) (h : sp vs H Q E) : wpAny (model X.prog X.w) A (call (.ref f) us) (EP X pins σ Q) X.xe s := by
  have hl : us.length = ps.length := by rw [← r.length]; exact F.len _ _ _ _ h
  have e0 : Env0 X.prog X.w X.K X.mg X.base A X.stack s H := by
    have e := I.env0
    exact ⟨by rw [hfr]; exact e.frames, e.mod, e.bs, e.bsz, e.funs, e.frf, e.hok, e.bare⟩
  refine wpAny_call (codeAny_mono (F.run A X.stack s H ⟨us, []⟩ us vs Q E hr e0 (by
    have := hb s us I.kIn (by simpa using hl)
    simpa using this) r h) fun r s' hq => ?_)
  cases r with
  | error e => exact hx pins σ H s e s' I hq
  | ok fl =>
    cases fl with
    | ret u => exact I.after hq
    | next => exact False.elim hq
    | brk => exact False.elim hq
    | cont => exact False.elim hq
/-- y in x, the class's own __contains__ -/
def rInOwn (C : Addr) (sp : Sp) (E : XK) : R2 := fun y x H Q => ∃ a dx fs, x = .ref a ∧ H a = some (.ins C dx fs) ∧ sp [.ref a, y] H (fun v H' => ∃ b, v = .bl b ∧ Q (.bl b) H') E
theorem op_inOwn (F : FnOk X.prog X.w X.K X.mg X.base CX k f fd ps sp) (hr : Room k X.A) (hs : PySem.W.findIn X.K (.ref C) "__contains__" = some (some (.ref f))) (hf : PySem.W.isFn X.K (.ref f) = true) (hb : Binds X.K fd ps []) (hx : Passes CX X E) :
    OpR X (compareOp .In) (rInOwn C sp E) := by
  intro pins s σ H y x v u Q I ry rx h
  obtain ⟨a, dx, fs, rfl, ea, h⟩ := h
  cases rx
  obtain ⟨mA, J, _⟩ := ins_get I.hok ea
  obtain ⟨od, J, _⟩ := J.look
  obtain ⟨m, hF⟩ := I.fr
  have r2 : Vals [V.ref a, y] [Value.ref a, v] := .cons rfl (.cons ry .nil)
  refine PySem.W.in_K hF I.ok.mod.kin J hs hf (wpAny_mono (run_own F hr rfl hb hx I r2 h) (fun z s' q => ?_) fun _ _ e => e)
  obtain ⟨z', H', I', rz, b, rfl, q⟩ := q
  obtain rfl : z = .bool b := rz
  exact wpAny_truthy_bool ⟨.bl b, H', I', rfl, q⟩
/-- x op y of two of the class, by its own method -/
def rBinOwn (C : Addr) (sp : Sp) (E : XK) : R2 := fun x y H Q => ∃ a dx fs b dy gs, x = .ref a ∧ y = .ref b ∧ H a = some (.ins C dx fs) ∧ H b = some (.ins C dy gs) ∧ sp [.ref a, .ref b] H (fun v H' => (∃ c, v = .ref c) ∧ Q v H') E
theorem op_binOwn {op : Operator} (F : FnOk X.prog X.w X.K X.mg X.base CX k f fd ps sp) (hr : Room k X.A) (hc : PySem.W.selfFirst X.K C = true) (hs : PySem.W.findIn X.K (.ref C) (PySem.dunder op.info.2) = some (some (.ref f))) (hf : PySem.W.isFn X.K (.ref f) = true) (hb : Binds X.K fd ps []) (hx : Passes CX X E) :
    OpR X (binaryOp op) (rBinOwn C sp E) := by
  intro pins s σ H x y v u Q I rx ry h
  obtain ⟨a, dx, fs, b, dy, gs, rfl, rfl, ea, eb, h⟩ := h
  cases rx
  cases ry
  obtain ⟨mA, J, _⟩ := ins_get I.hok ea
  obtain ⟨od, J, _⟩ := J.look
  obtain ⟨mB, J', _⟩ := ins_get I.hok eb
  obtain ⟨od', J', _⟩ := J'.look
  obtain ⟨m, hF⟩ := I.fr
  have r2 : Vals [V.ref a, V.ref b] [Value.ref a, Value.ref b] := .cons rfl (.cons rfl .nil)
  refine PySem.W.binop_K hF I.ok.mod.kin J J'.type hc hs hf (wpAny_mono (run_own F hr rfl hb hx I r2 h) (fun z s' q => ?_) fun _ _ e => e)
  obtain ⟨z', H', I', rz, ⟨c, rfl⟩, q⟩ := q
  obtain rfl : z = .ref c := rz
  exact ⟨.ref c, H', I', rfl, q⟩
/-- x == y of two of the class, by its own __eq__ that gives a bool -/
def rEqOwn (C : Addr) (sp : Sp) (E : XK) : R2 := fun x y H Q => ∃ a dx fs b dy gs, x = .ref a ∧ y = .ref b ∧ H a = some (.ins C dx fs) ∧ H b = some (.ins C dy gs) ∧ sp [.ref a, .ref b] H (fun v H' => ∃ c, v = .bl c ∧ Q (.bl c) H') E
theorem op_eqOwn (F : FnOk X.prog X.w X.K X.mg X.base CX k f fd ps sp) (hr : Room k X.A) (hs : PySem.W.findIn X.K (.ref C) "__eq__" = some (some (.ref f))) (hf : PySem.W.isFn X.K (.ref f) = true) (hb : Binds X.K fd ps []) (hx : Passes CX X E) :
    OpR X (compareOp .Eq) (rEqOwn C sp E) := by
  intro pins s σ H x y v u Q I rx ry h
  obtain ⟨a, dx, fs, b, dy, gs, rfl, rfl, ea, eb, h⟩ := h
  cases rx
  cases ry
  obtain ⟨mA, J, _⟩ := ins_get I.hok ea
  obtain ⟨od, J, _⟩ := J.look
  obtain ⟨mB, J', _⟩ := ins_get I.hok eb
  obtain ⟨od', J', _⟩ := J'.look
  obtain ⟨m, hF⟩ := I.fr
  have r2 : Vals [V.ref a, V.ref b] [Value.ref a, Value.ref b] := .cons rfl (.cons rfl .nil)
  show wpAny (model X.prog X.w) X.A (richCompare .Eq (.ref a) (.ref b)) (EP X pins σ Q) X.xe s
  refine PySem.W.cmp_K (op := .Eq) (tb := .ref C) hr.units0 hF I.ok.mod.kin J J'.type (by simp [PySem.W.notFirst]) hs hf (wpAny_mono (run_own F hr rfl hb hx I r2 h) (fun z s' q => ?_) fun _ _ e => e)
  obtain ⟨z', H', I', rz, c, rfl, q⟩ := q
  obtain rfl : z = .bool c := rz
  exact ⟨.bl c, H', I', rfl, q⟩
/-- len(x), the class's own __len__ -/
def rLenOwn (C : Addr) (sp : Sp) (E : XK) : List V → Hp → VK → Prop := fun vs H Q => ∃ a dx fs, vs = [.ref a] ∧ H a = some (.ins C dx fs) ∧ sp [.ref a] H (fun v H' => ∃ n : Int, v = .int n ∧ 0 ≤ n ∧ n < 2 ^ 63 ∧ Q (.int n) H') E
theorem call_lenOwn (F : FnOk X.prog X.w X.K X.mg X.base CX k f fd ps sp) (hr : Room (k + 1) X.A) (hs : PySem.W.findIn X.K (.ref C) "__len__" = some (some (.ref f))) (hf : PySem.W.isFn X.K (.ref f) = true) (hb : Binds X.K fd ps []) (hx : Passes CX X E) :
    CallR X (.builtin "len") (rLenOwn C sp E) := by
  intro pins s σ H vs us Q I r h
  obtain ⟨a, dx, fs, rfl, ea, h⟩ := h
  obtain rfl := Vals.ref1 r
  obtain ⟨mA, J, _⟩ := ins_get I.hok ea
  obtain ⟨od, J, _⟩ := J.look
  obtain ⟨m, hF⟩ := I.fr
  have r1 : Vals [V.ref a] [Value.ref a] := .cons rfl .nil
  refine PySem.W.len_K hF I.ok.mod.kin J hs hf (wpAny_mono (run_own (A := X.A.in1) F hr.in1 rfl hb hx I r1 h) (fun z s' q => ?_) fun _ _ e => e)
  obtain ⟨z', H', I', rz, n, rfl, h0, h1, q⟩ := q
  obtain ⟨t, rfl⟩ : ∃ t, z = .int n t := rz
  exact ⟨⟨h0, h1⟩, .int n, H', I'.tok _, ⟨_, rfl⟩, q⟩
/-- y in d, d[y] of a dict, as operations -/
def rInDct : R2 := fun y x H Q => ∃ a o, x = .ref a ∧ DGet H a y o ∧ Q (.bl o.isSome) H
theorem op_inDct (hu : X.A.units + 64 < cLine) : OpR X (compareOp .In) rInDct := by
  intro pins s σ H y x v u Q I ry rx h
  obtain ⟨a, o, rfl, g, q⟩ := h
  cases rx
  exact d_in (by omega) I g ry fun s3 I3 => ⟨.bl o.isSome, H, I3, rfl, q⟩
def rNotInDct : R2 := fun y x H Q => ∃ a o, x = .ref a ∧ DGet H a y o ∧ Q (.bl (!o.isSome)) H
theorem op_notInDct (hu : X.A.units + 64 < cLine) : OpR X (compareOp .NotIn) rNotInDct := by
  intro pins s σ H y x v u Q I ry rx h
  obtain ⟨a, o, rfl, g, q⟩ := h
  cases rx
  exact d_notIn (by omega) I g ry fun s3 I3 => ⟨.bl (!o.isSome), H, I3, rfl, q⟩
end

/-! ### lists of places -/
abbrev kI (ns : List Int) : List Key := ns.map Sum.inl
theorem kI_v (ns : List Int) : (kI ns).map kV = ns.map V.int := by
  rw [List.map_map]
  rfl
theorem kI_inj : ∀ {a b : List Int}, kI a = kI b → a = b
  | [], [], _ => rfl
  | [], _ :: _, e => nomatch e
  | _ :: _, [], e => nomatch e
  | x :: xs, y :: ys, e => by
    injection e with e1 e2
    rw [Sum.inl.inj e1, kI_inj e2]
theorem TupI.key {H : Hp} {t : Addr} {ns : List Int} (h : TupI H t ns) : H t = some (.tup ((kI ns).map kV)) := by rw [kI_v]; exact h
/-- the list at a holds the places ss -/
def TsI (H : Hp) (ts : List Addr) (ss : List (List Int)) : Prop := Paired (TupI H) ts ss
theorem TsI.same {H H' : Hp} {ts : List Addr} {ss : List (List Int)} (h : TsI H ts ss) (e : Same H H') : TsI H' ts ss := Paired.mapP h fun _ _ z => z.same e
def LT (H : Hp) (a : Addr) (ss : List (List Int)) : Prop := ∃ ts, H a = some (.lst (ts.map V.ref)) ∧ TsI H ts ss
theorem LT.same {H H' : Hp} {a : Addr} {ss : List (List Int)} (h : LT H a ss) (e : Same H H') : LT H' a ss := let ⟨ts, h1, h2⟩ := h; ⟨ts, e _ _ h1, h2.same e⟩

/-! ### sorted -/
abbrev tleI : List Int → List Int → Bool := PySem.W.dataLe false fun s => PyData.tuple (s.map PyData.int)
/-- the places in ascending order -/
def srt (ss : List (List Int)) : List (List Int) := ss.mergeSort tleI
theorem srt_len (ss : List (List Int)) : (srt ss).length = ss.length := List.length_mergeSort ..
theorem srt_perm (ss : List (List Int)) : (srt ss).Perm ss := List.mergeSort_perm ..
theorem readsAll_ints {h : Heap} : ∀ {ns : List Int} {us : List Value}, Vals (ns.map V.int) us → ReadsAll h us (ns.map PyData.int) []
  | [], _, r => by rw [List.map_nil] at r; cases r; exact .nil
  | n :: ns, _, r => by
    rw [List.map_cons] at r
    cases r with
    | cons e t =>
      obtain ⟨tk, rfl⟩ : ∃ tk, _ = Value.int n tk := e
      exact .cons (as := []) (.int n tk) (readsAll_ints t)
theorem alike_ints : ∀ a b : List Int, PySem.W.alikeAll (a.map PyData.int) (b.map PyData.int) = true
  | [], _ => by simp [PySem.W.alikeAll]
  | _ :: _, [] => by simp [PySem.W.alikeAll]
  | x :: xs, y :: ys => by
    rw [List.map_cons, List.map_cons, PySem.W.alikeAll, alike_ints xs ys]
    simp [PySem.W.alike]
def rSortedTI (K : PySem.W.Frag) : List V → Hp → VK → Prop := fun vs H Q => ∃ (a : Addr) (ts : List Addr) (ss : List (List Int)), vs = [.ref a] ∧ SqL K H a (ts.map V.ref) ∧ TsI H ts ss ∧ (∀ s ∈ ss, s ≠ []) ∧
  ∀ (ts' : List Addr) (p : Addr), TsI H ts' (srt ss) → H p = none → Q (.ref p) (upd H p (.lst (ts'.map V.ref)))
theorem each_of_ts {X : Cx} {pins : List (Addr × Obj)} {σ : St} {H : Hp} {s : Shared} (I : Inv X pins σ H s) : ∀ {ts : List Addr} {ss : List (List Int)}, TsI H ts ss →
    PySem.W.EachIs (fun v b => ∃ t, v = Value.ref t ∧ TupI H t b) (ts.map Value.ref) ss ∧ PySem.W.EachIs (fun v (b : List Int) => ∃ as, Reads s.heap v (.tuple (b.map PyData.int)) as) (ts.map Value.ref) ss := by
  intro ts ss h
  unfold TsI at h
  induction h with
  | nil => exact ⟨.nil, .nil⟩
  | @cons t b ts ss h _ ih =>
    refine ⟨.cons ⟨t, rfl, h⟩ ih.1, .cons ?_ ih.2⟩
    obtain ⟨_, its, r, o, h1, h2, n, h3⟩ := (show ObjOk X.prog X.w H s.heap t (.tup (b.map V.int)) from I.hok t _ h)
    exact ⟨[], .tuple h1 h2 h3 (by simpa using readsAll_ints r)⟩
theorem ts_of_each {H : Hp} : ∀ {out : List Value} {ss : List (List Int)}, PySem.W.EachIs (fun v b => ∃ t, v = Value.ref t ∧ TupI H t b) out ss → ∃ ts, out = ts.map Value.ref ∧ TsI H ts ss
  | _, _, .nil => ⟨[], rfl, .nil⟩
  | _, _, .cons ⟨t, e, h⟩ r => by
    obtain ⟨ts, e2, h2⟩ := ts_of_each r
    exact ⟨t :: ts, by rw [e, e2]; rfl, .cons h h2⟩
theorem valsRefs : ∀ ts : List Addr, Vals (ts.map V.ref) (ts.map Value.ref)
  | [] => .nil
  | t :: ts => .cons rfl (valsRefs ts)
theorem cr_sortedTI {X : Cx} (hu : X.A.units + 64 < cLine) : CallR X (.builtin "sorted") (rSortedTI X.K) := by
  intro pins s σ H vs us Q I r h
  obtain ⟨a, ts, ss, rfl, hs, hT, hne, q⟩ := h
  obtain ⟨its, rv, hl, hz⟩ := I.list hs
  obtain rfl := refs_at rv
  rw [Vals.ref1 r]
  obtain ⟨e1, e2⟩ := each_of_ts I hT
  have hlen : ts.length = ss.length := Paired.length hT
  refine PySem.W.sorted_data (enc := fun b : List Int => PyData.tuple (b.map PyData.int)) hl.isList e1 e2 ?_ ?_ (by rw [← hlen, ← List.length_map (f := V.ref)]; exact hz) (fun b _ => ?_) fun out hL eo => ?_
  · refine PySem.W.AllAlike.of fun b b' => ?_
    rw [PySem.W.alike]
    exact alike_ints b b'
  · refine .inl fun d hd => ?_
    obtain ⟨b, hb, rfl⟩ := List.mem_map.mp hd
    cases b with
    | nil => exact absurd rfl (hne _ hb)
    | cons x xs => exact ⟨_, _, rfl⟩
  · have e : (PyData.tuple (b.map PyData.int)).depth ≤ 1 := by
      show PyData.depthAll _ + 1 ≤ 1
      rw [depth_ints]
      exact Nat.le_refl _
    omega
  · obtain ⟨ts', rfl, hT'⟩ := ts_of_each eo
    obtain ⟨ep, he'⟩ := PyProof.Rows.sortedAll_at s.heap (ts.map Value.ref) (ts'.map Value.ref).toArray
    have hl2 : (ts'.map V.ref).length ≤ sizeLine := by
      rw [List.length_map, ← List.length_map (f := Value.ref), hL, ← hlen, ← List.length_map (f := V.ref)]
      exact hz
    exact ⟨.ref _, upd H (s.heap.objs.size + 1) (.lst (ts'.map V.ref)), I.laid (t' := s.toks) (fun _ _ => PyProof.Rows.sortedAll_old) (Nat.le_succ _) ⟨hl2, ts'.map Value.ref, ep, valsRefs ts', he'⟩, rfl, q _ _ hT' (I.hok.fresh (Nat.le_succ _))⟩
end L2

namespace L2
open PySem PySem.Spec PyProof.Rows
def kwM {α : Type} (xs ys : List α) : List α := xs ++ ys
theorem kwM_rel {vs : List V} {us : List Value} {zs : List V} {ws : List Value} (h : Vals vs us) (k : Vals zs ws) : Vals (kwM vs zs) (kwM us ws) := h.append k
/-! ### pictures -/
def wk (ss : List (List Int)) (word : Str) : List (List Key × V) := ss.map fun s => (kI s, V.str word)
theorem wk_snoc (ss : List (List Int)) (s : List Int) (word : Str) : wk (ss ++ [s]) word = wk ss word ++ [(kI s, V.str word)] := List.map_append ..
theorem valV_app (k : List Key) : ∀ l1 l2 : List (List Key × V), valV (l1 ++ l2) k = (valV l1 k).or (valV l2 k)
  | [], l2 => rfl
  | q :: l1, l2 => by
    by_cases e : q.1 = k
    · rw [List.cons_append, valV_pos e, valV_pos e]
      rfl
    · rw [List.cons_append, valV_neg e, valV_neg e]
      exact valV_app k l1 l2
theorem valV_wk (word : Str) (s : List Int) : ∀ ss : List (List Int), valV (wk ss word) (kI s) = if s ∈ ss then some (V.str word) else none
  | [] => rfl
  | t :: ss => by
    show valV ((kI t, V.str word) :: wk ss word) (kI s) = _
    by_cases e : t = s
    · subst e
      rw [valV_pos rfl, if_pos List.mem_cons_self]
    · rw [valV_neg (fun z => e (kI_inj z)), valV_wk word s ss]
      by_cases h : s ∈ ss
      · rw [if_pos h, if_pos (List.mem_cons_of_mem _ h)]
      · rw [if_neg h, if_neg fun z => (List.mem_cons.mp z).elim (fun q => e q.symm) h]
theorem valV_words (a b : Str) (s : List Int) (lit dim : List (List Int)) : valV (wk lit a ++ wk dim b) (kI s) = if s ∈ lit then some (V.str a) else if s ∈ dim then some (V.str b) else none := by
  rw [valV_app, valV_wk, valV_wk]
  by_cases h : s ∈ lit
  · rw [if_pos h, if_pos h]
    rfl
  · rw [if_neg h, if_neg h]
    rfl
theorem some_words (a b : Str) (s : List Int) (lit dim : List (List Int)) : (valV (wk lit a ++ wk dim b) (kI s)).isSome = decide (s ∈ lit ++ dim) := by
  rw [valV_words]
  by_cases h : s ∈ lit
  · rw [if_pos h, decide_eq_true (List.mem_append.mpr (.inl h))]
    rfl
  · by_cases h2 : s ∈ dim
    · rw [if_neg h, if_pos h2, decide_eq_true (List.mem_append.mpr (.inr h2))]
      rfl
    · rw [if_neg h, if_neg h2, decide_eq_false fun z => (List.mem_append.mp z).elim h h2]
      rfl
def pflds (n : Int) (w a b : Addr) : List (Str × V) := [("_words", .ref w), ("_size", .int n), ("_seen", .ref a), ("_hidden", .ref b)]
/-- the places of a picture -/
structure Wf (n : Int) (lit dim : List (List Int)) : Prop where
  size : n = 2 ∨ n = 3
  each : ∀ s ∈ lit ++ dim, (s.length : Int) = n
  nd : (lit ++ dim).Nodup
  few : (lit ++ dim).length ≤ 100000
theorem Wf.ne {n : Int} {lit dim : List (List Int)} (h : Wf n lit dim) : ∀ s ∈ lit ++ dim, s ≠ [] := fun s hs e => by
  have h1 := h.each s hs
  have h2 := h.size
  rw [e] at h1
  have h3 : (0 : Int) = n := h1
  omega
/-- a picture at p, made behind H0 -/
def Pic (C : Addr) (H0 H : Hp) (p : Addr) (n : Int) (lit dim : List (List Int)) : Prop :=
  Wf n lit dim ∧ ∃ dx w a b, H p = some (.ins C dx (pflds n w a b)) ∧ H w = some (.dT (wk lit "seen" ++ wk dim "hidden")) ∧ LT H a (srt lit) ∧ LT H b (srt dim) ∧ H0 p = none ∧ H0 w = none ∧ H0 a = none ∧ H0 b = none
section
variable {C : Addr} {H0 H H' : Hp} {p : Addr} {n : Int} {lit dim : List (List Int)}
theorem Pic.same (h : Pic C H0 H p n lit dim) (e : Same H H') : Pic C H0 H' p n lit dim :=
  let ⟨hw, dx, w, a, b, h1, h2, h3, h4, h5⟩ := h; ⟨hw, dx, w, a, b, e _ _ h1, e _ _ h2, h3.same e, h4.same e, h5⟩
theorem Pic.old {G : Hp} (h : Pic C H0 H p n lit dim) (e : Same G H0) : Pic C G H p n lit dim :=
  let ⟨hw, dx, w, a, b, h1, h2, h3, h4, h5, h6, h7, h8⟩ := h; ⟨hw, dx, w, a, b, h1, h2, h3, h4, e.free h5, e.free h6, e.free h7, e.free h8⟩
/-- a list that is older than the picture is changed -/
theorem TupI.put {t D : Addr} {ns : List Int} {xs : List V} {o : HO} (h : TupI H t ns) (hD : H D = some (.lst xs)) : TupI (upd H D o) t ns := by
  have e : t ≠ D := fun z => by
    subst z
    have := hD.symm.trans h
    injection this with this
    injection this
  exact (upd_ne e).trans h
theorem TsI.put {D : Addr} {ts : List Addr} {ss : List (List Int)} {xs : List V} {o : HO} (h : TsI H ts ss) (hD : H D = some (.lst xs)) : TsI (upd H D o) ts ss := Paired.mapP h fun _ _ z => z.put hD
theorem LT.put {a D : Addr} {ss : List (List Int)} {xs : List V} {o : HO} (h : LT H a ss) (hD : H D = some (.lst xs)) (n : a ≠ D) : LT (upd H D o) a ss := let ⟨ts, h1, h2⟩ := h; ⟨ts, (upd_ne n).trans h1, h2.put hD⟩
theorem Pic.put {D : Addr} {xs : List V} {o o0 : HO} (h : Pic C H0 H p n lit dim) (h0 : H0 D = some o0) (hD : H D = some (.lst xs)) : Pic C H0 (upd H D o) p n lit dim := by
  obtain ⟨hw, dx, w, a, b, h1, h2, h3, h4, h5, h6, h7, h8⟩ := h
  have q : ∀ {x : Addr}, H0 x = none → x ≠ D := fun hx z => by
    rw [z, h0] at hx
    cases hx
  exact ⟨hw, dx, w, a, b, (upd_ne (q h5)).trans h1, (upd_ne (q h6)).trans h2, h3.put hD (q h7), h4.put hD (q h8), h5, h6, h7, h8⟩
end
end L2

namespace L2
open PySem PySem.Spec PyProof.Rows
theorem pairGet {α β : Type} {F : α → β → Prop} {l1 : List α} {l2 : List β} (h : Paired F l1 l2) : ∀ {i : Nat} {x : α}, l1[i]? = some x → ∃ y, l2[i]? = some y ∧ F x y := by
  induction h with
  | nil => intro i x h; simp at h
  | @cons a b as bs h t ih =>
    intro i x hx
    cases i with
    | zero =>
      rw [List.getElem?_cons_zero] at hx
      obtain rfl := Option.some.inj hx
      exact ⟨b, List.getElem?_cons_zero, h⟩
    | succ i =>
      rw [List.getElem?_cons_succ] at hx ⊢
      exact ih hx
theorem ts_at {H : Hp} {ts : List Addr} {ss : List (List Int)} (h : TsI H ts ss) {i : Nat} {x : V} (hx : (ts.map V.ref)[i]? = some x) : ∃ t s, x = .ref t ∧ TupI H t s ∧ ss[i]? = some s := by
  rw [List.getElem?_map] at hx
  cases e : ts[i]? with
  | none => rw [e] at hx; cases hx
  | some t =>
    rw [e] at hx
    obtain ⟨s, h1, h2⟩ := pairGet h e
    exact ⟨t, s, (Option.some.inj hx).symm, h2, h1⟩
theorem ts_len {H : Hp} {ts : List Addr} {ss : List (List Int)} (h : TsI H ts ss) : (ts.map V.ref).length = ss.length := (List.length_map ..).trans (Paired.length h)
/-- a name's list in a dict of words grows by the next place -/
theorem put_next {kvs : List (List Key × V)} {ss : List (List Int)} {i : Nat} {s : List Int} {word : Str} (hs : ss[i]? = some s) (nd : ss.Nodup) (hn : ∀ s ∈ ss, valV kvs (kI s) = none) :
    valV (kvs ++ wk (ss.take i) word) (kI s) = none ∧ putK (kvs ++ wk (ss.take i) word) (kI s) (V.str word) = kvs ++ wk (ss.take (i + 1)) word := by
  have h1 : valV (kvs ++ wk (ss.take i) word) (kI s) = none := by
    rw [valV_app, hn s (List.mem_of_getElem? hs), valV_wk, if_neg]
    · rfl
    · intro hm
      obtain ⟨j, hj⟩ := List.mem_iff_getElem?.mp hm
      have hji : j < i := by
        have h := (List.getElem?_eq_some_iff.mp hj).1
        rw [List.length_take] at h
        omega
      rw [List.getElem?_take_of_lt hji] at hj
      have hl : j < ss.length := (List.getElem?_eq_some_iff.mp hj).1
      have := (List.getElem?_inj hl nd).mp (hj.trans hs.symm)
      omega
  refine ⟨h1, ?_⟩
  rw [putK_new _ h1, take_more hs, wk_snoc, List.append_assoc]
end L2

namespace L2
open PySem PySem.Spec PyProof.Rows
section
variable {σ : St} {H : Hp} {Q : VK} {ta tv te : TE} {f : Str} {D : Ends} {t2 : TS} {K : PySem.W.Frag}
theorem r_seqFld (k : tv σ H fun y H1 => ta σ H1 fun x H2 => ∃ a C dx fs, x = .ref a ∧ H2 a = some (.ins C dx fs) ∧ Cls K C ∧ NoAttr K C f ∧ fs.length < 1000 ∧ t2 D σ (upd H2 a (.ins C dx (putF f y fs)))) : tSeq (sFld K ta tv f) t2 D σ H := k
theorem r_fldS (k : tv σ H fun y H1 => ta σ H1 fun x H2 => ∃ a C dx fs, x = .ref a ∧ H2 a = some (.ins C dx fs) ∧ Cls K C ∧ NoAttr K C f ∧ fs.length < 1000 ∧ D.nx σ (upd H2 a (.ins C dx (putF f y fs)))) : sFld K ta tv f D σ H := k
theorem r_fld (k : te σ H fun x H1 => ∃ a C dx fs v, x = .ref a ∧ H1 a = some (.ins C dx fs) ∧ Cls K C ∧ NoAttr K C f ∧ fs.lookup f = some v ∧ Q v H1) : tFld K te f σ H Q := k
theorem r_prop {C : Addr} {sp : Sp} {dvs : List V} {E : XK} (k : te σ H fun x H1 => ∃ a dx fs, x = .ref a ∧ H1 a = some (.ins C dx fs) ∧ sp (.ref a :: dvs) H1 Q E) : tProp C sp dvs E te σ H Q := k
end
section
variable {H H' : Hp} {p a dx C : Addr} {fs : List (Str × V)} {K : PySem.W.Frag} {xs : List V}
theorem SqL.but (h : SqL K H a xs) (hp : H p = some (.ins C dx fs)) (e : But p H H') : SqL K H' a xs := by
  have n : ∀ u, H a = some u → (∀ C dx fs, u ≠ .ins C dx fs) → a ≠ p := fun u hu hn z => by
    rw [z, hp] at hu
    exact hn _ _ _ (Option.some.inj hu).symm
  rcases h with (h | ⟨o, h⟩) | h
  · exact .inl (.inl (e _ _ (n _ h fun _ _ _ q => nomatch q) h))
  · exact .inl (.inr ⟨o, e _ _ (n _ h fun _ _ _ q => nomatch q) h⟩)
  · exact .inr h
theorem TupI.but {t : Addr} {ns : List Int} (h : TupI H t ns) (hp : H p = some (.ins C dx fs)) (e : But p H H') : TupI H' t ns := e _ _ (fun z => by
  have h' : H t = _ := h
  rw [z, hp] at h'
  injection h' with h'
  injection h') h
theorem TsI.but {ts : List Addr} {ss : List (List Int)} (h : TsI H ts ss) (hp : H p = some (.ins C dx fs)) (e : But p H H') : TsI H' ts ss := Paired.mapP h fun _ _ z => z.but hp e
end
theorem kW1 : ¬ (("_words" : Str) = "_size") := by decide +kernel
theorem kW2 : ¬ (("_words" : Str) = "_seen") := by decide +kernel
theorem kW3 : ¬ (("_words" : Str) = "_hidden") := by decide +kernel
theorem kS2 : ¬ (("_size" : Str) = "_seen") := by decide +kernel
theorem kS3 : ¬ (("_size" : Str) = "_hidden") := by decide +kernel
theorem kE3 : ¬ (("_seen" : Str) = "_hidden") := by decide +kernel
theorem pflds_put (n : Int) (w a b : Addr) : putF "_hidden" (.ref b) (putF "_seen" (.ref a) (putF "_size" (.int n) (putF "_words" (.ref w) []))) = pflds n w a b := by
  simp only [putF, if_neg kW1, if_neg kW2, if_neg kW3, if_neg kS2, if_neg kS3, if_neg kE3]
  rfl
theorem bne_str {x y : Str} (h : ¬ x = y) : (y == x) = false := beq_eq_false_iff_ne.mpr fun e => h e.symm
theorem pf_words (n : Int) (w a b : Addr) : (pflds n w a b).lookup ("_words" : Str) = some (V.ref w) := by
  rw [← pflds_put, lookup_putF, if_neg kW3, lookup_putF, if_neg kW2, lookup_putF, if_neg kW1, lookup_putF, if_pos rfl]
theorem pf_size (n : Int) (w a b : Addr) : (pflds n w a b).lookup ("_size" : Str) = some (V.int n) := by
  rw [← pflds_put, lookup_putF, if_neg kS3, lookup_putF, if_neg kS2, lookup_putF, if_pos rfl]
theorem pf_seen (n : Int) (w a b : Addr) : (pflds n w a b).lookup ("_seen" : Str) = some (V.ref a) := by
  rw [← pflds_put, lookup_putF, if_neg kE3, lookup_putF, if_pos rfl]
theorem pf_hidden (n : Int) (w a b : Addr) : (pflds n w a b).lookup ("_hidden" : Str) = some (V.ref b) := by
  rw [← pflds_put, lookup_putF, if_pos rfl]
end L2

namespace L2
open PySem PySem.Spec PyProof.Rows
theorem But.putN {p D : Addr} {H H1 : Hp} {o : HO} (a : But p H H1) (n : H D = none) : But p H (upd H1 D o) := fun c u hc h => by
  rw [upd_ne (ne_of_none h n)]
  exact a c u hc h
/-- places as keys of one value -/
def wv (ss : List (List Int)) (v : V) : List (List Key × V) := ss.map fun s => (kI s, v)
theorem valV_wv (v : V) (s : List Int) : ∀ ss : List (List Int), valV (wv ss v) (kI s) = if s ∈ ss then some v else none
  | [] => rfl
  | t :: ss => by
    show valV ((kI t, v) :: wv ss v) (kI s) = _
    by_cases e : t = s
    · subst e
      rw [valV_pos rfl, if_pos List.mem_cons_self]
    · rw [valV_neg (fun z => e (kI_inj z)), valV_wv v s ss]
      by_cases h : s ∈ ss
      · rw [if_pos h, if_pos (List.mem_cons_of_mem _ h)]
      · rw [if_neg h, if_neg fun z => (List.mem_cons.mp z).elim (fun q => e q.symm) h]
theorem some_wv (v : V) (s : List Int) (ss : List (List Int)) : (valV (wv ss v) (kI s)).isSome = decide (s ∈ ss) := by
  rw [valV_wv]
  by_cases h : s ∈ ss
  · rw [if_pos h, decide_eq_true h]
    rfl
  · rw [if_neg h, decide_eq_false h]
    rfl
theorem put_wv {ss : List (List Int)} {s : List Int} (v : V) (h : s ∉ ss) : putK (wv ss v) (kI s) v = wv (ss ++ [s]) v := by
  rw [putK_new _ (by rw [valV_wv, if_neg h])]
  unfold wv
  rw [List.map_append]
  rfl
theorem nodup_take_next {ss : List (List Int)} {i : Nat} {s : List Int} (hs : ss[i]? = some s) (nd : ss.Nodup) : s ∉ ss.take i := fun hm => by
  obtain ⟨j, hj⟩ := List.mem_iff_getElem?.mp hm
  have hji : j < i := by
    have h := (List.getElem?_eq_some_iff.mp hj).1
    rw [List.length_take] at h
    omega
  rw [List.getElem?_take_of_lt hji] at hj
  have hl : j < ss.length := (List.getElem?_eq_some_iff.mp hj).1
  have := (List.getElem?_inj hl nd).mp (hj.trans hs.symm)
  omega
theorem TsI.but' {p : Addr} {H H' : Hp} {ts : List Addr} {ss : List (List Int)} (h : TsI H ts ss) (hp : Spr H p) (e : But p H H') : TsI H' ts ss := Paired.mapP h fun _ _ z => e _ _ (hp.tupNe z) z
/-- what stands while places are drawn -/
structure SpI (H H' : Hp) (p B S d F : Addr) (bs cs : List Int) (sh ss : List (List Int)) (ts : List Addr) : Prop where
  but : But p H H'
  spr : Spr H' p
  b : H' B = some (.lst (bs.map V.int))
  s : H' S = some (.lst (cs.map V.int))
  d : H' d = some (.dT (wv (sh ++ ss) (.bl true)))
  f : H' F = some (.lst (ts.map V.ref))
  tt : TsI H' ts ss
theorem SpI.to {H H' H2 : Hp} {p B S d F : Addr} {bs cs : List Int} {sh ss : List (List Int)} {ts : List Addr} (h : SpI H H' p B S d F bs cs sh ss ts) (e : But p H' H2) (hs : Spr H2 p) (nB : B ≠ p) (nS : S ≠ p) (nF : F ≠ p) : SpI H H2 p B S d F bs cs sh ss ts :=
  ⟨h.but.trans e, hs, e _ _ nB h.b, e _ _ nS h.s, e _ _ (fun z => by
    obtain ⟨x, y, z', h1, _⟩ := h.spr
    have h2 := h.d
    rw [z, h1] at h2
    injection h2 with h2
    injection h2) h.d, e _ _ nF h.f, h.tt.but' h.spr e⟩
theorem SpI.same {H H' H2 : Hp} {p B S d F : Addr} {bs cs : List Int} {sh ss : List (List Int)} {ts : List Addr} (h : SpI H H' p B S d F bs cs sh ss ts) (e : Same H' H2) : SpI H H2 p B S d F bs cs sh ss ts :=
  ⟨h.but.same e, h.spr.same e, e _ _ h.b, e _ _ h.s, e _ _ h.d, e _ _ h.f, h.tt.same e⟩
end L2

namespace L2
open PySem PySem.Spec PyProof.Rows
/-- another list is changed -/
theorem SpI.put {H H' : Hp} {p B S d F D : Addr} {bs cs : List Int} {sh ss : List (List Int)} {ts : List Addr} {xs : List V} {o : HO} (h : SpI H H' p B S d F bs cs sh ss ts) (hD : H' D = some (.lst xs)) (n1 : D ≠ p) (n2 : D ≠ B) (n3 : D ≠ S) (n4 : D ≠ F) (hH : H D = none) : SpI H (upd H' D o) p B S d F bs cs sh ss ts :=
  ⟨h.but.putN hH, h.spr.put n1, (upd_ne n2.symm).trans h.b, (upd_ne n3.symm).trans h.s, (upd_ne fun z => by
    have h2 := h.d
    rw [z, hD] at h2
    injection h2 with h2
    injection h2).trans h.d, (upd_ne n4.symm).trans h.f, h.tt.put hD⟩
end L2

namespace L2
open PySem PySem.Spec PyProof.Rows
/-! tuples cut and joined -/
def cutI (ns : List Int) (lo hi : Option Int) : List Int := (ns.drop (HT.sIx ns.length 0 lo)).take (HT.sIx ns.length ns.length hi - HT.sIx ns.length 0 lo)
theorem cutI_v (ns : List Int) (lo hi : Option Int) : cutV (ns.map V.int) lo hi = (cutI ns lo hi).map V.int := by
  unfold cutV cutI
  rw [List.length_map, ← List.map_drop, ← List.map_take]
theorem cutI_mem {ns : List Int} {lo hi : Option Int} {a : Int} (h : a ∈ cutI ns lo hi) : a ∈ ns := List.mem_of_mem_drop (List.mem_of_mem_take h)
theorem slA_tup {K : PySem.W.Frag} {H : Hp} {a : Addr} {ns : List Int} {lo hi : Option Int} {Q : VK} (h : TupI H a ns) (q : ∀ r H', Same H H' → TupI H' r (cutI ns lo hi) → Q (.ref r) H') : rSlA K (.ref a) lo hi H Q := by
  refine ⟨a, _, rfl, h.sq, fun e => ?_, fun _ p np => ?_⟩
  · refine q a H (Same.refl H) ?_
    rw [List.length_map] at e
    have e2 : cutI ns lo hi = ns := by
      unfold cutI
      rw [e.1, e.2, List.drop_zero, Nat.sub_zero, List.take_length]
    rw [e2]
    exact h
  · refine q p _ (Same.new0 np) ?_
    unfold TupI
    rw [upd_same, cutI_v]
theorem catA_tup {K : PySem.W.Frag} {H : Hp} {a b : Addr} {ns ms : List Int} {Q : VK} (ha : TupI H a ns) (hb : TupI H b ms) (hl : ns.length + ms.length ≤ 1000) (q : ∀ r H', Same H H' → TupI H' r (ns ++ ms) → Q (.ref r) H') : rCatA K (.ref a) (.ref b) H Q := by
  refine ⟨a, b, _, _, rfl, rfl, ha.sq, hb.sq, ?_, fun e => ?_, fun _ e => ?_, fun _ _ p np => ?_⟩
  · rw [List.length_map, List.length_map]
    exact Nat.le_trans hl (by decide)
  · have e' : ns = [] := List.map_eq_nil_iff.mp e
    subst e'
    exact q b H (Same.refl H) hb
  · have e' : ms = [] := List.map_eq_nil_iff.mp e
    subst e'
    refine q a H (Same.refl H) ?_
    rw [List.append_nil]
    exact ha
  · refine q p _ (Same.new0 np) ?_
    unfold TupI
    rw [upd_same, List.map_append]

theorem Same.putN {H H1 : Hp} {D : Addr} {o : HO} (e : Same H H1) (n : H D = none) : Same H (upd H1 D o) := fun b u h => by
  rw [upd_ne (ne_of_none h n)]
  exact e b u h
/-- every entry is a place of ss -/
def AllIn (H : Hp) (xs : List V) (ss : List (List Int)) : Prop := ∀ x ∈ xs, ∃ t s, x = V.ref t ∧ TupI H t s ∧ s ∈ ss
theorem AllIn.of {H : Hp} {ts : List Addr} {ss : List (List Int)} (h : TsI H ts ss) : AllIn H (ts.map V.ref) ss := fun x hx => by
  obtain ⟨i, hi⟩ := List.mem_iff_getElem?.mp hx
  obtain ⟨t, s, e, h1, h2⟩ := ts_at h hi
  exact ⟨t, s, e, h1, List.mem_of_getElem? h2⟩
theorem AllIn.cut {H : Hp} {xs : List V} {ss : List (List Int)} (h : AllIn H xs ss) (lo hi : Option Int) : AllIn H (cutV xs lo hi) ss := fun x hx => h x (List.mem_of_mem_drop (List.mem_of_mem_take hx))
theorem AllIn.app {H : Hp} {xs ys : List V} {ss : List (List Int)} (h : AllIn H xs ss) (k : AllIn H ys ss) : AllIn H (xs ++ ys) ss := fun x hx => (List.mem_append.mp hx).elim (h x) (k x)
theorem AllIn.more {H : Hp} {xs : List V} {ss tt : List (List Int)} (h : AllIn H xs ss) (k : ∀ s ∈ ss, s ∈ tt) : AllIn H xs tt := fun x hx => let ⟨t, s, a, b, c⟩ := h x hx; ⟨t, s, a, b, k s c⟩
theorem AllIn.same {H H' : Hp} {xs : List V} {ss : List (List Int)} (h : AllIn H xs ss) (e : Same H H') : AllIn H' xs ss := fun x hx => let ⟨t, s, a, b, c⟩ := h x hx; ⟨t, s, a, b.same e, c⟩
theorem TsI.app {H : Hp} {ts us : List Addr} {ss tt : List (List Int)} (h : TsI H ts ss) (k : TsI H us tt) : TsI H (ts ++ us) (ss ++ tt) := by
  unfold TsI at h
  induction h with
  | nil => exact k
  | cons a b ih => exact .cons a ih
end L2

namespace L2
open PySem PySem.Spec PyProof.Rows
theorem r_forL {K : PySem.W.Frag} {td : TE} {g : TG} {tb : TS} {D : Ends} {σ : St} {H : Hp} (k : td σ H fun v H1 => tFor (iList K (tC v)) g tb D σ H1) : tFor (iList K td) g tb D σ H := k
theorem r_seqForL {K : PySem.W.Frag} {td : TE} {g : TG} {tb t2 : TS} {D : Ends} {σ : St} {H : Hp} (k : td σ H fun v H1 => tSeq (tFor (iList K (tC v)) g tb) t2 D σ H1) : tSeq (tFor (iList K td) g tb) t2 D σ H := k
end L2

namespace L2
open PySem PySem.Spec PyProof.Rows
/-! ### nested lists of places, compared -/
abbrev pd (s : List Int) : PyData := .tuple (s.map PyData.int)
theorem dpAll_places {K : PySem.W.Frag} {H : Hp} {ts : List Addr} {ss : List (List Int)} (h : TsI H ts ss) : DpAll K H (ts.map V.ref) (ss.map pd) := by
  unfold TsI at h
  induction h with
  | nil => exact .nil
  | cons a b ih => exact .cons (.tup (TupI.sq a) (dpAll_ints _)) ih
theorem dp_places {K : PySem.W.Frag} {H : Hp} {a : Addr} {ss : List (List Int)} (h : LT H a ss) : Dp K H (.ref a) (.list (ss.map pd)) := let ⟨_, h1, h2⟩ := h; .lst (SqL.of h1) (dpAll_places h2)
theorem canLay_places : ∀ ss : List (List Int), PyData.canLayAll0 (ss.map pd) = true
  | [] => rfl
  | s :: r => by
    show (PyData.canLayAll0 (s.map PyData.int) && PyData.canLayAll0 (r.map pd)) = true
    rw [canLay_ints, canLay_places r]
    rfl
theorem depth_places : ∀ ss : List (List Int), PyData.depthAll (ss.map pd) ≤ 1
  | [] => Nat.zero_le _
  | s :: r => by
    show max (PyData.depthAll (s.map PyData.int) + 1) (PyData.depthAll (r.map pd)) ≤ 1
    rw [depth_ints]
    exact Nat.max_le.mpr ⟨Nat.le_refl _, depth_places r⟩
/-- [a, b] != [c, d], lists of the same places -/
theorem ne_pairs {K : PySem.W.Frag} {H : Hp} {x y a b c d : Addr} {ss tt : List (List Int)} {Q : VK} (hx : H x = some (.lst [.ref a, .ref b])) (hy : H y = some (.lst [.ref c, .ref d])) (ha : LT H a ss) (hb : LT H b tt) (hc : LT H c ss) (hd : LT H d tt) (q : Q (.bl false) H) : rNeD K (.ref x) (.ref y) H Q := by
  have hl : PyData.canLayAll0 [.list (ss.map pd), .list (tt.map pd)] = true := by
    show (PyData.canLayAll0 (ss.map pd) && (PyData.canLayAll0 (tt.map pd) && true)) = true
    rw [canLay_places, canLay_places]
    rfl
  have hs : SeqAt.shaped (.list [.list (ss.map pd), .list (tt.map pd)]) = true := by
    unfold SeqAt.shaped
    show (PyData.canLayAll0 [.list (ss.map pd), .list (tt.map pd)] && decide (max (PyData.depthAll (ss.map pd) + 1) (max (PyData.depthAll (tt.map pd) + 1) 0) + 1 ≤ 64)) = true
    rw [hl]
    have h1 := depth_places ss
    have h2 := depth_places tt
    rw [decide_eq_true (by omega)]
    rfl
  refine ⟨_, _, .lst (SqL.of hx) (.cons (dp_places ha) (.cons (dp_places hb) .nil)), .lst (SqL.of hy) (.cons (dp_places hc) (.cons (dp_places hd) .nil)), hs, hs, ?_⟩
  have e : PyData.eqv (.list [.list (ss.map pd), .list (tt.map pd)]) (.list [.list (ss.map pd), .list (tt.map pd)]) = true := SeqAt.eqv_refl _ hl
  rw [e]
  exact q
/-! ### all but some objects -/
def Exc (ls : List Addr) (H H' : Hp) : Prop := ∀ b o, b ∉ ls → H b = some o → H' b = some o
section
variable {ls : List Addr} {H H1 H2 H0 : Hp} {C p D a : Addr} {n : Int} {lit dim ss : List (List Int)} {o : HO}
theorem Same.exc (e : Same H H1) : Exc ls H H1 := fun b o _ h => e b o h
theorem Exc.trans (e : Exc ls H H1) (k : Exc ls H1 H2) : Exc ls H H2 := fun b o n h => k b o n (e b o n h)
theorem Exc.same (e : Exc ls H H1) (k : Same H1 H2) : Exc ls H H2 := fun b o n h => k b o (e b o n h)
theorem Exc.put (e : Exc ls H H1) (hD : D ∈ ls) : Exc ls H (upd H1 D o) := fun b u n h => by
  rw [upd_ne (fun z : b = D => n (by rw [z]; exact hD))]
  exact e b u n h
theorem Exc.mono {ms : List Addr} (e : Exc ls H H1) (k : ∀ x ∈ ls, x ∈ ms) : Exc ms H H1 := fun b o n h => e b o (fun z => n (k b z)) h
/-- the objects that may change are lists -/
def AreL (ls : List Addr) (H : Hp) : Prop := ∀ x ∈ ls, ∃ xs, H x = some (.lst xs)
theorem Exc.tup {t : Addr} {ns : List Int} (e : Exc ls H H1) (hl : AreL ls H) (h : TupI H t ns) : TupI H1 t ns := e _ _ (fun z => by
  obtain ⟨xs, hx⟩ := hl _ z
  have h' : _ = _ := h
  rw [hx] at h'
  injection h' with h'
  injection h') h
theorem Exc.ts {ts : List Addr} (e : Exc ls H H1) (hl : AreL ls H) (h : TsI H ts ss) : TsI H1 ts ss := Paired.mapP h fun _ _ z => e.tup hl z
theorem Exc.lt (e : Exc ls H H1) (hl : AreL ls H) (n : a ∉ ls) (h : LT H a ss) : LT H1 a ss := let ⟨ts, h1, h2⟩ := h; ⟨ts, e _ _ n h1, e.ts hl h2⟩
theorem Exc.pic (e : Exc ls H H1) (hl : AreL ls H) (h0 : ∀ x ∈ ls, ∃ o, H0 x = some o) (h : Pic C H0 H p n lit dim) : Pic C H0 H1 p n lit dim := by
  obtain ⟨hw, dx, w, a, b, h1, h2, h3, h4, h5, h6, h7, h8⟩ := h
  have q : ∀ {x : Addr}, H0 x = none → x ∉ ls := fun hx z => by
    obtain ⟨o, ho⟩ := h0 _ z
    rw [ho] at hx
    cases hx
  exact ⟨hw, dx, w, a, b, e _ _ (q h5) h1, e _ _ (q h6) h2, e.lt hl (q h7) h3, e.lt hl (q h8) h4, h5, h6, h7, h8⟩
end
end L2

namespace L2
open PySem PySem.Spec PyProof.Rows
theorem r_make {C : Addr} {sp : Sp} {dvs : List V} {E : XK} {t : TA} {σ : St} {H : Hp} {Q : VK} (k : t σ H fun vs H1 => ∀ x dx, H1 x = none → H1 dx = none → dx ≠ x → sp (.ref x :: (vs ++ dvs)) (upd (upd H1 dx (.own x)) x (.ins C dx [])) (fun v H2 => v = .non ∧ Q (.ref x) H2) E) : tMake C sp dvs E t σ H Q := k
theorem r_makeK {C : Addr} {n m : Nat} {sp : Sp} {gV : List V → List V → List V} {E : XK} {t tk : TA} {σ : St} {H : Hp} {Q : VK} (k : t σ H fun vs H1 => tk σ H1 fun zs H2 => vs.length = n ∧ zs.length = m ∧ ∀ x dx, H2 x = none → H2 dx = none → dx ≠ x →
  sp (gV (.ref x :: vs) zs) (upd (upd H2 dx (.own x)) x (.ins C dx [])) (fun v H3 => v = .non ∧ Q (.ref x) H3) E) : tMakeK C n m sp gV E t tk σ H Q := k
/-- lists that are not too long -/
def Ls (ls : List Addr) (H : Hp) (m : Nat) : Prop := ∀ x ∈ ls, ∃ ys, H x = some (.lst ys) ∧ ys.length ≤ m
theorem Ls.same {ls : List Addr} {H H' : Hp} {m : Nat} (h : Ls ls H m) (e : Same H H') : Ls ls H' m := fun x hx => let ⟨ys, a, b⟩ := h x hx; ⟨ys, e _ _ a, b⟩
theorem Ls.put {ls : List Addr} {H : Hp} {D : Addr} {m m' : Nat} {zs : List V} (h : Ls ls H m) (hz : zs.length ≤ m') (hm : m ≤ m') : Ls ls (upd H D (.lst zs)) m' := fun x hx => by
  by_cases e : x = D
  · exact ⟨zs, by rw [e, upd_same], hz⟩
  · obtain ⟨ys, a, b⟩ := h x hx
    exact ⟨ys, (upd_ne e).trans a, Nat.le_trans b hm⟩
theorem Ls.areL {ls : List Addr} {H : Hp} {m : Nat} (h : Ls ls H m) : AreL ls H := fun x hx => let ⟨ys, a, _⟩ := h x hx; ⟨ys, a⟩
theorem AreL.same {ls : List Addr} {H H' : Hp} (h : AreL ls H) (e : Same H H') : AreL ls H' := fun x hx => let ⟨ys, a⟩ := h x hx; ⟨ys, e _ _ a⟩
end L2

/-! == of dicts whose keys are places -/
namespace PySem.W
open PySem PySem.Calls PyProof.Rows PyProof.V PySem.Spec
section
variable {prog : Program} {w : World} {K : Type} [DecidableEq K] {knd : HeapKind prog w K} {A : Around} {E : Value → Shared → Prop} {s : Shared}
inductive HitsH {K : Type} [DecidableEq K] (prog : Program) (w : World) (A : Around) (s : Shared) (kb : List (K × Addr × Value)) : List (K × Addr × Value) → Bool → Prop
  | nil : HitsH prog w A s kb [] true
  | miss {k : K} {p : Addr × Value} {r : List (K × Addr × Value)} : atKey kb k = none → HitsH prog w A s kb ((k, p) :: r) false
  | hit {k : K} {p y : Addr × Value} {r : List (K × Addr × Value)} {e b : Bool} : atKey kb k = some y → SeqAt.EqP prog w A s p.2 y.2 e → HitsH prog w A s kb r b → HitsH prog w A s kb ((k, p) :: r) (e && b)
theorem HitsH.inv {kb : List (K × Addr × Value)} {k : K} {p : Addr × Value} {r : List (K × Addr × Value)} {b : Bool} (h : HitsH prog w A s kb ((k, p) :: r) b) :
    (atKey kb k = none ∧ b = false) ∨ ∃ y e b', atKey kb k = some y ∧ SeqAt.EqP prog w A s p.2 y.2 e ∧ HitsH prog w A s kb r b' ∧ b = (e && b') := by
  cases h with
  | miss hn => exact .inl ⟨hn, rfl⟩
  | hit hy he hr => exact .inr ⟨_, _, _, hy, he, hr, rfl⟩
theorem samePairsH {nm : String} {a b : Addr} {ka kb : List (K × Addr × Value)} {r : Bool} {Q : Bool → Shared → Prop} (hu : knd.room A) (ha : (a == sysModules) = false) (hb : (b == sysModules) = false)
    (da : s.heap.DictOfH knd a ka) (db : s.heap.DictOfH knd b kb) (hits : ka.length = kb.length → HitsH prog w A s kb ka r) (h : Q (ka.length == kb.length && r) s) :
    wpAny (model prog w) A (Builtin.Dict.samePairs nm a b) Q E s := by
  obtain ⟨oa, es, ep, hoa, _, hda, hea, hisa, hna⟩ := da
  obtain ⟨ob, es', ep', hob, _, hdb, heb, hisb, hnb⟩ := db
  have hla : ka.length = es.size := (size_of_entries hea).symm
  have hlb : kb.length = es'.size := (size_of_entries heb).symm
  rw [hla, hlb] at h
  unfold Builtin.Dict.samePairs Builtin.Dict.showsAll
  rw [if_neg (show ¬ (a == sysModules) = true by rw [ha]; exact Bool.false_ne_true), if_neg (show ¬ (b == sysModules) = true by rw [hb]; exact Bool.false_ne_true)]
  refine wpAny_bind (wpAny_pure (wpAny_bind (wpAny_pure ?_)))
  refine wpAny_bind (wpAny_dictEntries hoa hda ?_)
  dsimp only
  refine wpAny_bind (wpAny_dictEntries hob hdb ?_)
  by_cases hsz : es.size = es'.size
  case neg =>
    rw [if_pos (by simpa using hsz)]
    have hbf : (es.size == es'.size) = false := by simpa using hsz
    rw [hbf, Bool.false_and] at h
    exact wpAny_bind (wpAny_rule (wpAny_pure h))
  case pos =>
    have h' : Q r s := by simpa [hsz] using h
    have hits' := hits (by rw [hla, hlb]; exact hsz)
    rw [if_neg (by rw [hsz]; simp)]
    refine wpAny_bind (wpAny_dictEpoch hoa hda ?_)
    refine wpAny_bind ?_
    rw [Std.Legacy.Range.forIn_eq_forIn_range']
    simp only [Std.Legacy.Range.size, Nat.sub_zero, Nat.add_sub_cancel, Nat.div_one]
    refine wpAny_forIn_list _
      (fun rest q s' => s' = s ∧ q = (none, ()) ∧ ∃ i, rest = List.range' i (es.size - i) ∧ i ≤ es.size ∧ HitsH prog w A s kb (ka.drop i) r)
      _ ?_ ?_ _ _ ⟨rfl, rfl, 0, by simp, Nat.zero_le _, hits'⟩
    · rintro x rest q s' ⟨rfl, rfl, i, hr, hi, hpre⟩
      have hlt : i < es.size := by
        rcases Nat.lt_or_ge i es.size with h | h
        · exact h
        · rw [Nat.sub_eq_zero_of_le h] at hr; simp at hr
      obtain ⟨rfl, hrest⟩ : x = i ∧ rest = List.range' (i + 1) (es.size - (i + 1)) := by
        have e : es.size - i = (es.size - (i + 1)) + 1 := by omega
        rw [e, List.range'_succ] at hr
        injection hr with h1 h2
        exact ⟨h1, h2⟩
      refine wpAny_bind (wpAny_dictEntries hoa hda ?_)
      rw [Array.getElem?_eq_getElem hlt]
      have hlt' : x < ka.length := by rw [hla]; exact hlt
      obtain ⟨k, p, hkv⟩ : ∃ k p, ka[x] = (k, p) := ⟨_, _, rfl⟩
      have hdrop : ka.drop x = (k, p) :: ka.drop (x + 1) := by rw [← hkv]; exact List.drop_eq_getElem_cons hlt'
      have hent : es[x] = entryOfKey knd (k, p) := by
        have e1 := entry_at hea x
        rw [Array.getElem?_eq_getElem hlt, List.getElem?_eq_getElem hlt', hkv] at e1
        exact Option.some.inj e1
      have hkis : knd.is s'.heap k p.1 := by
        have := hisa ka[x] (List.getElem_mem hlt')
        rw [hkv] at this
        exact this
      rw [hdrop] at hpre
      rw [hent]
      show wpAny _ _ (holding [(entryOfKey knd (k, p)).key, (entryOfKey knd (k, p)).val] _ >>= _) _ _ _
      refine wpAny_bind (wpAny_holding (wpAny_bind (wpAny_dictFind_heap hu hkis hob hdb heb hisb hnb ?_ ?_)))
      · intro hno
        have hn : atKey kb k = none := atKey_none_of_get hno
        rcases hpre.inv with ⟨_, er⟩ | ⟨y, _, _, hy, _⟩
        · rw [er] at h'
          refine wpAny_pure ?_
          show wpAny _ _ (if (!false) = true then _ else _) _ _ _
          rw [if_pos (by decide)]
          exact wpAny_pure (wpAny_pure h')
        · rw [hn] at hy; exact nomatch hy
      · intro j y hj
        have hv' : atKey kb k = some y := atKey_of_get hnb hj
        refine wpAny_bind (wpAny_dictEntries hob hdb ?_)
        have hej : es'[j]? = some (entryOfKey knd (k, y)) := by rw [entry_at heb j, hj]; rfl
        rw [hej]
        rcases hpre.inv with ⟨hn, _⟩ | ⟨y', e, b', hy, he, hrr, er⟩
        · rw [hv'] at hn; exact nomatch hn
        · have ey : y = y' := Option.some.inj (hv'.symm.trans hy)
          rw [← ey] at he
          refine wpAny_holding (he _ _ ?_)
          cases e with
          | false =>
            rw [er, Bool.false_and] at h'
            show wpAny _ _ (if (!false) = true then _ else _) _ _ _
            rw [if_pos (by decide)]
            exact wpAny_pure (wpAny_pure h')
          | true =>
            rw [Bool.true_and] at er
            rw [← er] at hrr
            show wpAny _ _ (if (!true) = true then _ else _) _ _ _
            rw [if_neg (by decide)]
            refine wpAny_bind (wpAny_dictEpoch hoa hda ?_)
            rw [if_neg (by simp)]
            exact wpAny_pure ⟨rfl, rfl, x + 1, hrest, hlt, hrr⟩
    · rintro q s' ⟨rfl, rfl, i, hr, hi, hpre⟩
      have hin : i = es.size := by
        rcases Nat.lt_or_ge i es.size with h | h
        · have e : es.size - i = (es.size - (i + 1)) + 1 := by omega
          rw [e, List.range'_succ] at hr; exact nomatch hr
        · exact Nat.le_antisymm hi h
      refine wpAny_pure ?_
      rw [hin, ← hla, List.drop_length] at hpre
      cases hpre
      exact h'
theorem rcH_dicts {a b : Addr} {ka kb : List (K × Addr × Value)} {r : Bool} (hr : knd.room A.in1) (ha : (a == sysModules) = false) (hb : (b == sysModules) = false)
    (da : s.heap.DictOfH knd a ka) (db : s.heap.DictOfH knd b kb) (hu : A.units < cLine) (hits : ka.length = kb.length → HitsH prog w A.in1 s kb ka r) (E Q : Value → Shared → Prop) (h : Q (.bool (ka.length == kb.length && r)) s) : wpAny (model prog w) A (richCompare .Eq (.ref a) (.ref b)) Q E s := by
  refine wpAny_richCompare_same_room (op := .Eq) da.typeIs db.typeIs PySem.F.slot_dict_eq (wpAny_call_entry PySem.F.slot_dict_eq da.typeIs PySem.F.entry_dict_eq ?_ (PySem.F.args_dict_eq_2 _ _)) hu
  show wpAny _ _ (Builtin.Dict.dictSlotArgs "__eq__" ⟨[.ref a, .ref b], []⟩ >>= _) _ _ s
  refine wpAny_bind ?_
  unfold Builtin.Dict.dictSlotArgs
  refine wpAny_bind (wpAny_notOrdered_dict da.typeIs ?_)
  show wpAny _ _ (pure (Value.ref a, Value.ref b)) _ _ s
  refine wpAny_pure ?_
  refine wpAny_bind (wpAny_isInstance (T := "dict") db.typeIs PySem.F.sub_dict_dict ?_)
  simp only [Bool.not_true, Bool.false_eq_true, if_false]
  refine wpAny_bind (wpAny_pure (wpAny_bind (wpAny_pure ?_)))
  refine wpAny_bind (samePairsH hr ha hb da db hits ?_)
  refine wpAny_pure ⟨_, rfl, ?_, ?_⟩
  · exact fun x => nomatch x
  · simpa using h
end
end PySem.W

namespace L2
open PySem PySem.Spec PyProof.Rows
/-- two dicts of words, entry by entry -/
def sameD (ks ls : List (List Key × V)) : Bool := ks.length == ls.length && ks.all fun p => decide (valV ls p.1 = some p.2)
def Words (ks : List (List Key × V)) : Prop := ∀ p ∈ ks, ∃ z, p.2 = V.str z
theorem Words.val {ls : List (List Key × V)} (h : Words ls) {k : List Key} {v : V} (e : valV ls k = some v) : ∃ z, v = V.str z := by
  unfold valV at e
  obtain ⟨p, hp, rfl⟩ := Option.map_eq_some_iff.mp e
  exact h p (List.mem_of_find?_eq_some hp)
theorem hitsT {prog : Program} {w : World} {A : Around} {s : Shared} {H : Hp} {ls : List (List Key × V)} {xb : List (List Key × Addr × Value)} (rb : KT H ls xb) (wl : Words ls) : ∀ {ks : List (List Key × V)} {xa : List (List Key × Addr × Value)}, KT H ks xa → Words ks →
    PySem.W.HitsH prog w A s xb xa (ks.all fun p => decide (valV ls p.1 = some p.2)) := by
  intro ks xa r
  induction r with
  | nil => intro _; exact .nil
  | @cons p q ps qs h t ih =>
    intro wk
    obtain ⟨k, v⟩ := p
    obtain ⟨k', a, u⟩ := q
    obtain ⟨e1, _, e3⟩ := h
    dsimp only at e1 e3
    subst e1
    obtain ⟨z, hz⟩ := wk (k, v) List.mem_cons_self
    dsimp only at hz
    subst hz
    obtain ⟨t1, rfl⟩ : ∃ t, u = Value.str z t := e3
    have ih' := ih fun p hp => wk p (List.mem_cons_of_mem _ hp)
    have rv := rb.val k
    rw [List.all_cons]
    cases hl : valV ls k with
    | none =>
      rw [hl] at rv
      have hn : atKey xb k = none := by
        cases h : atKey xb k with
        | none => rfl
        | some y =>
          rw [h] at rv
          exact rv.elim
      rw [decide_eq_false (fun z => nomatch z), Bool.false_and]
      exact .miss hn
    | some v2 =>
      obtain ⟨z2, rfl⟩ := wl.val hl
      rw [hl] at rv
      cases h : atKey xb k with
      | none =>
        rw [h] at rv
        exact rv.elim
      | some y =>
        rw [h] at rv
        have rv' : RelV (V.str z2) y.2 := rv
        have e := (eqAt_V (A := A) (s := s) (show RelV (V.str z) (Value.str z t1) from ⟨t1, rfl⟩) rv' rfl rfl).eqP (prog := prog) (w := w)
        have ee : eqV (V.str z) (V.str z2) = decide (some (V.str z2) = some (V.str z)) := by
          by_cases hzz : z = z2
          · subst hzz
            rw [decide_eq_true rfl]
            simp [eqV]
          · rw [decide_eq_false (fun q => hzz (by injection q with q; injection q with q; exact q.symm))]
            simp [eqV, hzz]
        rw [ee] at e
        exact .hit h e ih'
def rEqDT : R2 := fun x y H Q => ∃ a b ks ls, x = .ref a ∧ y = .ref b ∧ H a = some (.dT ks) ∧ H b = some (.dT ls) ∧ Words ks ∧ Words ls ∧ Q (.bl (sameD ks ls)) H
theorem op_eqDT {X : Cx} (hu : X.A.units + 64 < cLine) : OpR X (compareOp .Eq) rEqDT := by
  intro pins s σ H x y v u Q I rx ry h
  obtain ⟨a, b, ks, ls, rfl, rfl, ea, eb, wk, wl, q⟩ := h
  obtain rfl : v = Value.ref a := rx
  obtain rfl : u = Value.ref b := ry
  obtain ⟨_, ya, xa, ra, da⟩ := dt_of I.hok ea
  obtain ⟨_, yb, xb, rb, db⟩ := dt_of I.hok eb
  show wpAny (model X.prog X.w) X.A (richCompare .Eq (.ref a) (.ref b)) (EP X pins σ Q) X.xe s
  have e1 : xa.length = ks.length := (Paired.length ra).symm
  have e2 : xb.length = ls.length := (Paired.length rb).symm
  refine PySem.W.rcH_dicts (tupleKind_room_in1 (by omega)) ya yb da db (by omega) (fun _ => hitsT rb wl ra wk) _ _ ?_
  rw [e1, e2]
  exact ⟨.bl _, H, I, rfl, q⟩
end L2

namespace L2
open PySem PySem.Spec PyProof.Rows
theorem lc_zipT {K : PySem.W.Frag} {a b : Addr} {xs ys : List V} {g : TG} {tt : TT} {te : TE} {vs : List Nat} {σ : St} {H1 : Hp} {D : Addr} {Qd : Hp → Prop} (hl : xs.length = ys.length) (Pv : Nat → Hp → Prop) (h0 : Pv 0 (upd H1 D (.lst []))) (hq : ∀ i H, Pv i H → SqT K H a xs ∧ SqT K H b ys)
    (hs : ∀ (i : Nat) (x y : V) (T : Addr) (H : Hp), xs[i]? = some x → ys[i]? = some y → Pv i H → H T = none → g (.ref T) (wipe σ vs) (upd H T (.tup [x, y])) fun σ2 H2 => wipe σ2 vs = wipe σ vs ∧ tt σ2 H2 fun b H3 =>
      if b = true then te σ2 H3 fun y H4 => ∃ acc, H4 D = some (.lst acc) ∧ acc.length < sizeLine ∧ Pv (i + 1) (upd H4 D (.lst (acc ++ [y]))) else Pv (i + 1) H3) (hd : ∀ H, Pv xs.length H → Qd H) :
    ∃ W : Nat → Nat → Hp → Prop, (∃ m, W 0 m (upd H1 D (.lst []))) ∧ ∀ i m H, W i m H →
      ((RZ.ItzT K a b).stop i H ∧ Qd H) ∨ ((RZ.ItzT K a b).go i H ∧ ∃ Nx : Hp → Prop, (∀ H', Nx H' → ∃ m', m' < m ∧ W (i + 1) m' H') ∧ ∀ x H', (RZ.ItzT K a b).yld i H x H' → g x (wipe σ vs) H' fun σ2 H2 => wipe σ2 vs = wipe σ vs ∧ tt σ2 H2 fun b H3 =>
        if b = true then te σ2 H3 fun y H4 => ∃ acc, H4 D = some (.lst acc) ∧ acc.length < sizeLine ∧ Nx (upd H4 D (.lst (acc ++ [y]))) else Nx H3) := by
  refine ⟨fun i m H => m = xs.length - i ∧ i ≤ xs.length ∧ Pv i H, ⟨xs.length, by simp, Nat.zero_le _, h0⟩, ?_⟩
  rintro i m H ⟨rfl, hi, p⟩
  obtain ⟨qx, qy⟩ := hq i H p
  by_cases hlt : i < xs.length
  · have hx : xs[i]? = some xs[i] := List.getElem?_eq_getElem hlt
    have hlt2 : i < ys.length := by omega
    have hy : ys[i]? = some ys[i] := List.getElem?_eq_getElem hlt2
    refine .inr ⟨⟨xs, ys, _, _, qx, qy, hx, hy⟩, Pv (i + 1), fun H' p' => ⟨xs.length - (i + 1), by omega, rfl, hlt, p'⟩, fun v H' y => ?_⟩
    obtain ⟨T, x', y', rfl, hT, rfl, f1, f2⟩ := y
    exact hs i x' y' T H (f1 xs qx) (f2 ys qy) p hT
  · have e : i = xs.length := by omega
    subst e
    exact .inl ⟨⟨xs, ys, qx, qy, Or.inl (Nat.le_refl _)⟩, hd H p⟩
end L2

namespace L2
open PySem PySem.Spec PyProof.Rows
theorem tleI_eq (a b : List Int) : tleI a b = decide (a ≤ b) := by
  show (!PySem.W.dataLt (.tuple (b.map PyData.int)) (.tuple (a.map PyData.int))) = _
  rw [PySem.W.dataLt_tuple]
  show (!PySem.W.rowLt (b.map PyData.int) (a.map PyData.int)) = _
  rw [PySem.W.dataLt_ints]
  by_cases h : b < a
  · rw [decide_eq_true h, decide_eq_false (fun q => List.not_lt.mpr q h)]
    rfl
  · rw [decide_eq_false h, decide_eq_true (List.not_lt.mp h)]
    rfl
theorem tleI_trans (a b c : List Int) (h : tleI a b = true) (k : tleI b c = true) : tleI a c = true := by
  rw [tleI_eq] at h k ⊢
  exact decide_eq_true (List.le_trans (of_decide_eq_true h) (of_decide_eq_true k))
theorem tleI_total (a b : List Int) : (tleI a b || tleI b a) = true := by
  rw [tleI_eq, tleI_eq]
  rcases List.le_total a b with h | h
  · rw [decide_eq_true h]
    rfl
  · rw [decide_eq_true h, Bool.or_true]
theorem tleI_anti (a b : List Int) (h : tleI a b = true) (k : tleI b a = true) : a = b := by
  rw [tleI_eq] at h k
  exact List.le_antisymm (of_decide_eq_true h) (of_decide_eq_true k)
theorem srt_sorted (l : List (List Int)) : (srt l).Pairwise fun a b => tleI a b = true := List.pairwise_mergeSort (le := tleI) tleI_trans tleI_total l
theorem srt_of_perm {l m : List (List Int)} (h : l.Perm m) : srt l = srt m :=
  List.Perm.eq_of_pairwise (le := fun a b => tleI a b = true) (fun a b _ _ h k => tleI_anti a b h k) (srt_sorted l) (srt_sorted m) (((srt_perm l).trans h).trans (srt_perm m).symm)
end L2

/-! what is kept, whatever springs do -/
namespace L2
open PySem PySem.Spec PyProof.Rows
/-- what may be a spring -/
def SprO (o : HO) : Prop := (∃ a b c : Int, o = .lst [.int a, .int b, .int c]) ∨ ∃ a b : Int, o = .lst [.int a, .int b]
/-- all but what may be a spring is as it was -/
def Kp (H H' : Hp) : Prop := ∀ b o, ¬ SprO o → H b = some o → H' b = some o
theorem Kp.refl (H : Hp) : Kp H H := fun _ _ _ h => h
theorem Kp.trans {H H1 H2 : Hp} (a : Kp H H1) (b : Kp H1 H2) : Kp H H2 := fun c o n h => b c o n (a c o n h)
theorem Same.kp {H H' : Hp} (e : Same H H') : Kp H H' := fun b o _ h => e b o h
theorem But.kp {p : Addr} {H H' : Hp} (e : But p H H') (s : Spr H p) : Kp H H' := fun b o n h => e b o (fun z => by
  obtain ⟨x, y, w, h1, _⟩ := s
  rw [z, h1] at h
  exact n (.inl ⟨x, y, w, (Option.some.inj h).symm⟩)) h
/-- a well stands at p, drawn from at most k times -/
def Wel (H : Hp) (p : Addr) (k : Nat) : Prop := ∃ a b : Int, H p = some (.lst [.int a, .int b]) ∧ ((b = -1 ∧ 0 ≤ a) ∨ (0 ≤ b ∧ b ≤ k ∧ 0 ≤ a ∧ a < 2 ^ 64))
theorem But.kpW {p : Addr} {k : Nat} {H H' : Hp} (e : But p H H') (s : Wel H p k) : Kp H H' := fun b o n h => e b o (fun z => by
  obtain ⟨x, y, h1, _⟩ := s
  rw [z, h1] at h
  exact n (.inr ⟨x, y, (Option.some.inj h).symm⟩)) h
theorem Wel.same {p : Addr} {k : Nat} {H H1 : Hp} (s : Same H H1) (h : Wel H p k) : Wel H1 p k := by
  obtain ⟨a, b, e, r⟩ := h
  exact ⟨a, b, s _ _ e, r⟩
theorem Wel.s_new {p x : Addr} {k : Nat} {M : Hp} {o : HO} (n : M x = none) (e : Wel M p k) : Wel (upd M x o) p k := e.same (Same.new0 n)
theorem Wel.s_same {p : Addr} {k : Nat} {M H' : Hp} (s : Same M H') (e : Wel M p k) : Wel H' p k := e.same s
theorem Wel.put {H : Hp} {p D : Addr} {k : Nat} {o : HO} (h : Wel H p k) (n : D ≠ p) : Wel (upd H D o) p k := by
  obtain ⟨a, b, e, r⟩ := h
  exact ⟨a, b, (upd_ne (Ne.symm n)).trans e, r⟩
theorem Wel.ne {p q : Addr} {k : Nat} {H : Hp} (h : Wel H p k) (n : H q = none) : p ≠ q := by
  obtain ⟨a, b, e, r⟩ := h
  exact ne_of_none e n
theorem Wel.mono {p : Addr} {k m : Nat} {H : Hp} (h : Wel H p k) (l : k ≤ m) : Wel H p m := by
  obtain ⟨a, b, e, r⟩ := h
  refine ⟨a, b, e, r.imp id fun ⟨x, y, z⟩ => ⟨x, by omega, z⟩⟩
theorem Kp.s_butW {p : Addr} {k : Nat} {H M H' : Hp} (b : But p M H') (s : Wel M p k) (e : Kp H M) : Kp H H' := e.trans (b.kpW s)
theorem Kp.s_new {H M : Hp} {x : Addr} {o : HO} (n : M x = none) (e : Kp H M) : Kp H (upd M x o) := e.trans (Same.new0 n).kp
theorem Kp.s_same {H M H' : Hp} (s : Same M H') (e : Kp H M) : Kp H H' := e.trans s.kp
theorem Kp.s_but {p : Addr} {H M H' : Hp} (b : But p M H') (s : Spr M p) (e : Kp H M) : Kp H H' := e.trans (b.kp s)
theorem But.s_new {p : Addr} {H M : Hp} {x : Addr} {o : HO} (n : M x = none) (e : But p H M) : But p H (upd M x o) := e.new n
theorem But.s_same {p : Addr} {H M H' : Hp} (s : Same M H') (e : But p H M) : But p H H' := e.same s
theorem But.s_but {p : Addr} {H M H' : Hp} (b : But p M H') (e : But p H M) : But p H H' := e.trans b
theorem Same.s_new {H M : Hp} {x : Addr} {o : HO} (n : M x = none) (e : Same H M) : Same H (upd M x o) := e.new n
theorem Same.s_same {H M H' : Hp} (s : Same M H') (e : Same H M) : Same H H' := e.trans s
theorem Spr.s_new {p x : Addr} {M : Hp} {o : HO} (n : M x = none) (e : Spr M p) : Spr (upd M x o) p := e.new n
theorem Spr.s_same {p : Addr} {M H' : Hp} (s : Same M H') (e : Spr M p) : Spr H' p := e.same s
theorem notSpr_refs (ts : List Addr) : ¬ SprO (.lst (ts.map V.ref)) := by
  rintro (⟨a, b, c, e⟩ | ⟨a, b, e⟩)
  all_goals
    injection e with e
    cases ts with
    | nil => cases e
    | cons t ts =>
      rw [List.map_cons] at e
      injection e with e _
      cases e
theorem notSpr_tup (xs : List V) : ¬ SprO (.tup xs) := by
  rintro (⟨a, b, c, e⟩ | ⟨a, b, e⟩) <;> cases e
theorem notSpr_ref (x : Addr) (xs : List V) : ¬ SprO (.lst (.ref x :: xs)) := by
  rintro (⟨a, b, c, e⟩ | ⟨a, b, e⟩) <;> (injection e with e; injection e with e _; cases e)
theorem notSpr_ins (C dx : Addr) (fs : List (Str × V)) : ¬ SprO (.ins C dx fs) := by
  rintro (⟨a, b, c, e⟩ | ⟨a, b, e⟩) <;> cases e
theorem notSpr_dT (ks : List (List Key × V)) : ¬ SprO (.dT ks) := by
  rintro (⟨a, b, c, e⟩ | ⟨a, b, e⟩) <;> cases e
section
variable {H H' H0 : Hp} {a : Addr}
theorem TupI.kp {ns : List Int} (h : TupI H a ns) (e : Kp H H') : TupI H' a ns := e _ _ (notSpr_tup _) h
theorem TsI.kp {ts : List Addr} {ss : List (List Int)} (h : TsI H ts ss) (e : Kp H H') : TsI H' ts ss := Paired.mapP h fun _ _ z => z.kp e
theorem LT.kp {ss : List (List Int)} (h : LT H a ss) (e : Kp H H') : LT H' a ss := let ⟨ts, h1, h2⟩ := h; ⟨ts, e _ _ (notSpr_refs _) h1, h2.kp e⟩
theorem kp_tup {xs : List V} (h : H a = some (.tup xs)) (e : Kp H H') : H' a = some (.tup xs) := e _ _ (notSpr_tup _) h
theorem kp_refs {ts : List Addr} (h : H a = some (.lst (ts.map V.ref))) (e : Kp H H') : H' a = some (.lst (ts.map V.ref)) := e _ _ (notSpr_refs _) h
theorem kp_ref {x : Addr} {xs : List V} (h : H a = some (.lst (.ref x :: xs))) (e : Kp H H') : H' a = some (.lst (.ref x :: xs)) := e _ _ (notSpr_ref _ _) h
theorem Pic.kp {C p : Addr} {n : Int} {lit dim : List (List Int)} (h : Pic C H0 H p n lit dim) (e : Kp H H') : Pic C H0 H' p n lit dim :=
  let ⟨hw, dx, w, a, b, h1, h2, h3, h4, h5⟩ := h; ⟨hw, dx, w, a, b, e _ _ (notSpr_ins _ _ _) h1, e _ _ (notSpr_dT _) h2, h3.kp e, h4.kp e, h5⟩
end
/-! ### in, of places -/
theorem eqv_pd (t s : List Int) : PyData.eqv (pd t) (pd s) = decide (t = s) := by
  show PyData.eqvAll (t.map PyData.int) (s.map PyData.int) = _
  rw [PySem.W.ked_eqvAll]
theorem any_pd (s : List Int) : ∀ ss : List (List Int), ((ss.map pd).any fun z => PyData.eqv z (pd s)) = decide (s ∈ ss)
  | [] => rfl
  | t :: ss => by
    rw [List.map_cons, List.any_cons, any_pd s ss, eqv_pd]
    by_cases h : t = s
    · subst h
      rw [decide_eq_true rfl, decide_eq_true (List.mem_cons_self : t ∈ t :: ss)]
      exact Bool.true_or _
    · rw [decide_eq_false h, Bool.false_or]
      by_cases h2 : s ∈ ss
      · rw [decide_eq_true h2, decide_eq_true (List.mem_cons_of_mem _ h2)]
      · rw [decide_eq_false h2, decide_eq_false fun z => (List.mem_cons.mp z).elim (fun q => h q.symm) h2]
theorem shaped_places (ss : List (List Int)) : SeqAt.shaped (.list (ss.map pd)) = true := by
  unfold SeqAt.shaped
  show (PyData.canLayAll0 (ss.map pd) && decide (PyData.depthAll (ss.map pd) + 1 ≤ 64)) = true
  have h1 := depth_places ss
  rw [canLay_places, decide_eq_true (by omega)]
  rfl
theorem notIn_places {K : PySem.W.Frag} {H : Hp} {t b : Addr} {s : List Int} {ss : List (List Int)} {Q : VK} (ht : TupI H t s) (hb : LT H b ss) (q : Q (.bl (!decide (s ∈ ss))) H) : rNotInD K (.ref t) (.ref b) H Q :=
  ⟨_, _, .tup ht.sq (dpAll_ints s), dp_places hb, shaped_tup s, shaped_places ss, by rw [any_pd]; exact q⟩
theorem in_places {K : PySem.W.Frag} {H : Hp} {t b : Addr} {s : List Int} {ss : List (List Int)} {Q : VK} (ht : TupI H t s) (hb : LT H b ss) (q : Q (.bl (decide (s ∈ ss))) H) : rInD K (.ref t) (.ref b) H Q :=
  ⟨_, _, .tup ht.sq (dpAll_ints s), dp_places hb, shaped_tup s, shaped_places ss, by rw [any_pd]; exact q⟩
/-! ### lists of places that are joined -/
theorem cat_places {K : PySem.W.Frag} {H : Hp} {a b : Addr} {ss tt : List (List Int)} {Q : VK} (ha : LT H a ss) (hb : LT H b tt) (hl : ss.length + tt.length ≤ 1000000) (q : ∀ p H', H p = none → Same H H' → LT H' p (ss ++ tt) → Q (.ref p) H') : rCatR K (.ref a) (.ref b) H Q := by
  obtain ⟨ts, h1, h2⟩ := ha
  obtain ⟨us, k1, k2⟩ := hb
  refine ⟨a, b, _, _, rfl, rfl, SqL.of h1, SqL.of k1, ?_, fun p np => q p _ np (Same.new0 np) ?_⟩
  · rw [ts_len h2, ts_len k2, sizeLine_eq]
    omega
  · refine ⟨ts ++ us, ?_, TsI.app (h2.same (Same.new0 np)) (k2.same (Same.new0 np))⟩
    rw [upd_same, List.map_append]
/-! ### new objects, in a world without a name -/
theorem new_tup {H : Hp} {xs : List V} {Q : VK} (h : xs.length ≤ sizeLine) (k : ∀ p H', H p = none → Same H H' → H' p = some (.tup xs) → Q (.ref p) H') : xs.length ≤ sizeLine ∧ ∀ p, H p = none → Q (.ref p) (upd H p (.tup xs)) :=
  ⟨h, fun p n => k p _ n (Same.new0 n) upd_same⟩
theorem new_lst {H : Hp} {xs : List V} {Q : VK} (h : xs.length ≤ sizeLine) (k : ∀ p H', H p = none → Same H H' → H' p = some (.lst xs) → Q (.ref p) H') : xs.length ≤ sizeLine ∧ ∀ p, H p = none → Q (.ref p) (upd H p (.lst xs)) :=
  ⟨h, fun p n => k p _ n (Same.new0 n) upd_same⟩
theorem LT.push {H : Hp} {L t : Addr} {ts : List Addr} {ss : List (List Int)} {s : List Int} (h : H L = some (.lst (ts.map V.ref))) (k : TsI H ts ss) (ht : TupI H t s) : LT (upd H L (.lst (ts.map V.ref ++ [.ref t]))) L (ss ++ [s]) :=
  ⟨ts ++ [t], by rw [upd_same, List.map_append]; rfl, Paired.snoc (k.put h) (ht.put h)⟩
theorem LT.front {H : Hp} {L t : Addr} {ts : List Addr} {ss : List (List Int)} {s : List Int} (h : H L = some (.lst (ts.map V.ref))) (k : TsI H ts ss) (ht : TupI H t s) : LT (upd H L (.lst (.ref t :: ts.map V.ref))) L (s :: ss) :=
  ⟨t :: ts, by rw [upd_same]; rfl, .cons (ht.put h) (k.put h)⟩
/-! ### an error that is kept, asked for its class -/
/-- the class D, the j-th of the classes cs -/
structure ErrC (K : PySem.W.Frag) (cs : List Addr) (D : Addr) (j : Nat) : Prop where
  x : XfC K D
  e : ExcC K D
  v : PySem.W.findIn K (.ref D) "value" = some none
  k : ∀ i c, cs[i]? = some c → PySem.W.kitOne K (.ref D) (.ref c) = some (i == j)
def spotsOf (j : Nat) : List Bool := (List.range 8).map fun i => i == j
theorem dpAll_bools {K : PySem.W.Frag} {H : Hp} : ∀ bs : List Bool, DpAll K H (bs.map V.bl) (bs.map PyData.bool)
  | [] => .nil
  | b :: r => .cons (.bl b) (dpAll_bools r)
/-- what an error tells: a number or a place -/
inductive Tells (H : Hp) : V → V → Prop
  | int (d : Int) : d.natAbs.log2 < 1920 → Tells H (.int d) (.int d)
  | tup {t u : Addr} {ns : List Int} : TupI H t ns → TupI H u ns → ns.length ≤ 100 → (∀ n ∈ ns, n.natAbs.log2 < 1920) → Tells H (.ref t) (.ref u)
theorem Tells.same {H H' : Hp} {x y : V} (h : Tells H x y) (e : Same H H') : Tells H' x y := by
  cases h with
  | int d h => exact .int d h
  | tup a b c d => exact .tup (a.same e) (b.same e) c d
def rReprA (K : PySem.W.Frag) : List V → Hp → VK → Prop := fun xs H Q => (∃ i : Int, xs = [.int i] ∧ i.natAbs.log2 < 1920 ∧ Q (.str (toString i)) H) ∨ rReprD K xs H Q
theorem call_reprA {X : Cx} {k : Nat} (hG : X.A.guards = some []) (hr : Room k X.A) : CallR X (.builtin "repr") (rReprA X.K) := by
  intro pins s σ H vs us Q I r h
  rcases h with h | h
  · exact SkE.call_repr_int pins s σ H vs us Q I r h
  · exact call_reprD hG hr pins s σ H vs us Q I r h
/-! ### rules within try -/
section
variable {X : Cx} {CX : CXT} {k : Nat} {C f : Addr} {fd : FuncData} {ps : List Str} {sp : Sp} {E : St → XK} {ta tb : TE} {a b : Expr} {pos : Pos}
def tBinS (C : Addr) (sp : Sp) (E : St → XK) (ta tb : TE) : TE := fun σ H Q => ta σ H fun x H1 => tb σ H1 fun y H2 => rBinOwn C sp (E σ) x y H2 Q
theorem pe_binS {op : Operator} (F : FnOk X.prog X.w X.K X.mg X.base CX k f fd ps sp) (hr : Room k X.A) (hc : PySem.W.selfFirst X.K C = true) (hs : PySem.W.findIn X.K (.ref C) (PySem.dunder op.info.2) = some (some (.ref f))) (hf : PySem.W.isFn X.K (.ref f) = true) (hb : Binds X.K fd ps []) (hx : ∀ σ, PassesAt CX X σ (E σ))
    (ha : PE X a ta) (hb' : PE X b tb) : PE X (.BinOp a op b pos) (tBinS C sp E ta tb) := by
  refine ⟨fun pins s σ H Q I h => ?_⟩
  refine wpAny_BinOp (binT ha hb' I h fun v u s2 x y H2 I2 rx ry q => ?_)
  obtain ⟨a, dx, fs, b, dy, gs, rfl, rfl, ea, eb, h⟩ := q
  cases rx
  cases ry
  obtain ⟨mA, J, _⟩ := ins_get I2.hok ea
  obtain ⟨od, J, _⟩ := J.look
  obtain ⟨mB, J', _⟩ := ins_get I2.hok eb
  obtain ⟨od', J', _⟩ := J'.look
  obtain ⟨m, hF⟩ := I2.fr
  have r2 : Vals [V.ref a, V.ref b] [Value.ref a, Value.ref b] := .cons rfl (.cons rfl .nil)
  refine PySem.W.binop_K hF I2.ok.mod.kin J J'.type hc hs hf (wpAny_mono (run_fnS F hr hb (hx σ) I2 r2 h) (fun z s' q => ?_) fun _ _ e => e)
  obtain ⟨z', H', I', rz, ⟨c, rfl⟩, q⟩ := q
  obtain rfl : z = .ref c := rz
  exact ⟨.ref c, H', I', rfl, q⟩
theorem r_binS {σ : St} {H : Hp} {Q : VK} (k : ta σ H fun x H1 => tb σ H1 fun y H2 => rBinOwn C sp (E σ) x y H2 Q) : tBinS C sp E ta tb σ H Q := k
end
theorem canLay_bools : ∀ bs : List Bool, PyData.canLayAll0 (bs.map PyData.bool) = true
  | [] => rfl
  | b :: r => canLay_bools r
theorem depth_bools : ∀ bs : List Bool, PyData.depthAll (bs.map PyData.bool) = 0
  | [] => rfl
  | b :: r => by
    show max 0 (PyData.depthAll (r.map PyData.bool)) = 0
    rw [depth_bools r]
    rfl
theorem shaped_bools (bs : List Bool) : SeqAt.shaped (.list (bs.map PyData.bool)) = true := by
  unfold SeqAt.shaped
  show (PyData.canLayAll0 (bs.map PyData.bool) && decide (PyData.depthAll (bs.map PyData.bool) + 1 ≤ 64)) = true
  rw [canLay_bools, depth_bools]
  rfl
theorem eqv_bools (bs : List Bool) : PyData.eqv (.list (bs.map PyData.bool)) (.list (bs.map PyData.bool)) = true := SeqAt.eqv_refl _ (canLay_bools bs)
theorem LT.neWel {H : Hp} {a p : Addr} {k : Nat} {ss : List (List Int)} (h : LT H a ss) (s : Wel H p k) : a ≠ p := fun z => by
  obtain ⟨ts, h1, _⟩ := h
  obtain ⟨x, y, h2, _⟩ := s
  rw [z, h2] at h1
  exact notSpr_refs ts (.inr ⟨x, y, (Option.some.inj h1).symm⟩)
theorem LT.neSpr {H : Hp} {a p : Addr} {ss : List (List Int)} (h : LT H a ss) (s : Spr H p) : a ≠ p := fun z => by
  obtain ⟨ts, h1, _⟩ := h
  obtain ⟨x, y, w, h2, _⟩ := s
  rw [z, h2] at h1
  exact notSpr_refs ts (.inl ⟨x, y, w, (Option.some.inj h1).symm⟩)
theorem Room.u65 {k : Nat} {A : Around} (r : Room k A) : A.units + 65 < cLine := by
  have := r.un
  omega
section
variable {X : Cx} {CX : CXT} {k : Nat} {C f : Addr} {fd : FuncData} {ps ks : List Str} {sp : Sp} {m : Str} {pos apos : Pos} {e o : Expr} {es : List Expr} {kws : List Keyword} {ta : TE} {t tk : TA}
/-- o.m(e, ..) within try -/
def tMethT (C : Addr) (m : Str) (sp : Sp) (E : St → XK) (ta : TE) (t : TA) : TE := fun σ H Q => ta σ H fun x H1 => ∃ a dx fs, x = .ref a ∧ H1 a = some (.ins C dx fs) ∧ fs.lookup m = none ∧ t σ H1 fun vs H2 => sp (x :: vs) H2 Q (E σ)
theorem pe_methT {E : St → XK} {pl : Sem Bool} (he : PE X o ta) (c : Cls X.K C) (hm : Meth X.K C m f) (F : FnOk X.prog X.w X.K X.mg X.base CX k f fd ps sp) (hr : Room k X.A) (hb : Binds X.K fd ps []) (hx : ∀ σ, PassesAt CX X σ (E σ)) (ha : PA X (e :: es) t)
    (hst : starEach (e :: es) X.env = (false, eval e X.env) :: starEach es X.env := by rfl) (hpl : (backTo pos (starEach es X.env)).any (·.1) = false := by rfl)
    (ht : eval (.Call (.Attribute o m apos) (e :: es) [] pos) X.env = (do
      let ov ← eval o X.env
      standAt apos.atName
      let (f, first) ← holding [ov] (getMethod ov m pl)
      callWith pos f first (backTo pos (starEach (e :: es) X.env)) (backToKw pos (keywordEach [] X.env))) := by rfl) :
    PE X (.Call (.Attribute o m apos) (e :: es) [] pos) (tMethT C m sp E ta t) := by
  refine ⟨fun pins s σ H Q I h => ?_⟩
  refine PySem.W.methodCall_KW (pl := pl) (thn (he.run pins s σ H _ I h) fun u s1 ⟨x, H1, I1, rx, a, dx, fs, ex, ea, l, q⟩ => ?_) ht
  subst ex
  obtain rfl : u = Value.ref a := rx
  refine getmeth_ok I1 ea c hm l ?_
  refine PySem.W.callWith_K (first := [.ref a]) (h₀ := X.base) I.ok.mod.kin hm.kp (thn (ha.run pos pins s1 σ H1 _ I1 q) fun us s2 ⟨vs, H2, I2, r, q2⟩ => ⟨I2.kIn, ?_⟩) hst hpl
  exact run_fnS (us := .ref a :: us) (vs := .ref a :: vs) F hr hb (hx σ) I2 (.cons rfl r) q2
/-- o.m(k = v, ..) -/
def tMethK (C : Addr) (m : Str) (j : Nat) (sp : Sp) (gV : List V → List V → List V) (E : XK) (ta : TE) (tk : TA) : TE := fun σ H Q => ta σ H fun x H1 => ∃ a dx fs, x = .ref a ∧ H1 a = some (.ins C dx fs) ∧ fs.lookup m = none ∧ tk σ H1 fun zs H2 => zs.length = j ∧ sp (gV [x] zs) H2 Q E
theorem pe_methK0 {E : XK} {pl : Sem Bool} {g : List Value → List Value → List Value} {gV : List V → List V → List V} (he : PE X o ta) (c : Cls X.K C) (hm : Meth X.K C m f) (F : FnOk X.prog X.w X.K X.mg X.base CX k f fd ps sp) (hr : Room k X.A) (hb : KBn X.K fd ps 1 ks g gV) (hx : Passes CX X E) (hkw : PK X kws tk)
    (hall : (backToKw pos (keywordEach kws X.env)).all (·.1.isSome) = true := by rfl) (hks : (backToKw pos (keywordEach kws X.env)).filterMap (·.1) = ks := by rfl)
    (hpl : ((backTo pos (starEach [] X.env)).any (·.1) || (backToKw pos (keywordEach kws X.env)).any (·.1.isNone)) = false := by rfl)
    (ht : eval (.Call (.Attribute o m apos) [] kws pos) X.env = (do
      let ov ← eval o X.env
      standAt apos.atName
      let (f, first) ← holding [ov] (getMethod ov m pl)
      callWith pos f first (backTo pos (starEach [] X.env)) (backToKw pos (keywordEach kws X.env))) := by rfl) :
    PE X (.Call (.Attribute o m apos) [] kws pos) (tMethK C m ks.length sp gV E ta tk) := by
  refine ⟨fun pins s σ H Q I h => ?_⟩
  refine PySem.W.methodCall_KW (pl := pl) (thn (he.run pins s σ H _ I h) fun u s1 ⟨x, H1, I1, rx, a, dx, fs, ex, ea, l, q⟩ => ?_) ht
  subst ex
  obtain rfl : u = Value.ref a := rx
  refine getmeth_ok I1 ea c hm l ?_
  refine PySem.W.callWith_KW0 (first := [.ref a]) (h₀ := X.base) I.ok.mod.kin hm.kp hall (thn (hkw.run pos pins s1 σ H1 _ I1 q) fun ws s2 ⟨zs, H2, I2, rz, hz, q2⟩ => ⟨I2.kIn, ?_⟩) hpl
  rw [hks]
  show wpAny _ _ (call (.ref f) [.ref a] (ks.zip ws)) _ _ _
  have r2 : Vals (gV [V.ref a] zs) (g [Value.ref a] ws) := hb.rel (.cons rfl .nil) rz
  refine wpAny_call (codeAny_mono (F.run X.A X.stack s2 H2 ⟨[.ref a], ks.zip ws⟩ (g [.ref a] ws) (gV [.ref a] zs) Q E hr I2.env0 (hb.to s2 [.ref a] ws I2.kIn rfl (rz.length.symm.trans hz)) r2 q2) fun r s' hq => ?_)
  cases r with
  | error e => exact hx pins σ H2 s2 e s' I2 hq
  | ok fl =>
    cases fl with
    | ret u => exact I2.after hq
    | next => exact False.elim hq
    | brk => exact False.elim hq
    | cont => exact False.elim hq
theorem r_meth {dvs : List V} {E : XK} {σ : St} {H : Hp} {Q : VK} (k : ta σ H fun x H1 => ∃ a dx fs, x = .ref a ∧ H1 a = some (.ins C dx fs) ∧ fs.lookup m = none ∧ t σ H1 fun vs H2 => sp (x :: (vs ++ dvs)) H2 Q E) : tMeth C m sp dvs E ta t σ H Q := k
theorem r_methT {E : St → XK} {σ : St} {H : Hp} {Q : VK} (k : ta σ H fun x H1 => ∃ a dx fs, x = .ref a ∧ H1 a = some (.ins C dx fs) ∧ fs.lookup m = none ∧ t σ H1 fun vs H2 => sp (x :: vs) H2 Q (E σ)) : tMethT C m sp E ta t σ H Q := k
theorem r_methK {j : Nat} {gV : List V → List V → List V} {E : XK} {σ : St} {H : Hp} {Q : VK} (k : ta σ H fun x H1 => ∃ a dx fs, x = .ref a ∧ H1 a = some (.ins C dx fs) ∧ fs.lookup m = none ∧ tk σ H1 fun zs H2 => zs.length = j ∧ sp (gV [x] zs) H2 Q E) : tMethK C m j sp gV E ta tk σ H Q := k
end
theorem pf_no {m : Str} {n : Int} {w a b : Addr} (h1 : (m == "_words") = false) (h2 : (m == "_size") = false) (h3 : (m == "_seen") = false) (h4 : (m == "_hidden") = false) : (pflds n w a b).lookup m = none := by
  unfold pflds
  rw [List.lookup_cons, h1, List.lookup_cons, h2, List.lookup_cons, h3, List.lookup_cons, h4]
  rfl
/-! ### two pictures with the same places -/
theorem eqPic_perm {n : Int} {l d l' d' : List (List Int)} (hw : Wf n l d) (hw' : Wf n l' d') (h1 : l.Perm l') (h2 : d.Perm d') : (n == n && sameD (wk l "seen" ++ wk d "hidden") (wk l' "seen" ++ wk d' "hidden")) = true := by
  have hn' := (List.nodup_append.mp hw'.nd).2.2
  have e1 : (wk l "seen" ++ wk d "hidden").length = (wk l' "seen" ++ wk d' "hidden").length := by
    unfold wk
    rw [List.length_append, List.length_append, List.length_map, List.length_map, List.length_map, List.length_map, h1.length_eq, h2.length_eq]
  unfold sameD
  rw [beq_self_eq_true, Bool.true_and, e1, beq_self_eq_true, Bool.true_and, List.all_eq_true]
  intro p hp
  rcases List.mem_append.mp hp with h | h
  · obtain ⟨s, hs, rfl⟩ := List.mem_map.mp h
    refine decide_eq_true ?_
    show valV _ (kI s) = some (V.str "seen")
    rw [valV_words, if_pos (h1.mem_iff.mp hs)]
  · obtain ⟨s, hs, rfl⟩ := List.mem_map.mp h
    refine decide_eq_true ?_
    have hs' := h2.mem_iff.mp hs
    show valV _ (kI s) = some (V.str "hidden")
    rw [valV_words, if_neg fun z => hn' s z s hs' rfl, if_pos hs']
end L2

/-! y not in x of an own class -/
namespace L2
open PySem PySem.Spec PyProof.Rows
section
variable {X : Cx} {CX : CXT} {k : Nat} {C f : Addr} {fd : FuncData} {ps : List Str} {sp : Sp} {E : XK}
def rNotInOwn (C : Addr) (sp : Sp) (E : XK) : R2 := fun y x H Q => ∃ a dx fs, x = .ref a ∧ H a = some (.ins C dx fs) ∧ sp [.ref a, y] H (fun v H' => ∃ b, v = .bl b ∧ Q (.bl (!b)) H') E
theorem op_notInOwn (F : FnOk X.prog X.w X.K X.mg X.base CX k f fd ps sp) (hr : Room k X.A) (hs : PySem.W.findIn X.K (.ref C) "__contains__" = some (some (.ref f))) (hf : PySem.W.isFn X.K (.ref f) = true) (hb : Binds X.K fd ps []) (hx : Passes CX X E) :
    OpR X (compareOp .NotIn) (rNotInOwn C sp E) := by
  intro pins s σ H y x v u Q I ry rx h
  obtain ⟨a, dx, fs, rfl, ea, h⟩ := h
  cases rx
  obtain ⟨mA, J, _⟩ := ins_get I.hok ea
  obtain ⟨od, J, _⟩ := J.look
  obtain ⟨m, hF⟩ := I.fr
  have r2 : Vals [V.ref a, y] [Value.ref a, v] := .cons rfl (.cons ry .nil)
  refine PySem.W.notIn_K hF I.ok.mod.kin J hs hf (wpAny_mono (run_own F hr rfl hb hx I r2 h) (fun z s' q => ?_) fun _ _ e => e)
  obtain ⟨z', H', I', rz, b, rfl, q⟩ := q
  obtain rfl : z = .bool b := rz
  exact wpAny_truthy_bool ⟨.bl (!b), H', I', rfl, q⟩
end
end L2

namespace K19
open PySem L2
def top (i : Nat) : Stmt := PySem.Challenge.pw_seenposts_k19_shown_as_told.main.body.getD i (.Pass ⟨0, 0, 0, 0⟩)
abbrev s_init : Stmt := inClass (top 6) 0
theorem sc_init : FnScope ["self", "value"] ["self", "value"] (defScope s_init) := ⟨rfl, rfl, rfl, by decide +kernel, rfl, by decide +kernel, by decide +kernel⟩
abbrev s_common_divisor : Stmt := top 3
abbrev N_common_divisor : List Str := ["place", "found", "number"]
theorem sc_common_divisor : FnScope N_common_divisor ["place"] (defScope s_common_divisor) := ⟨rfl, rfl, rfl, by decide +kernel, rfl, by decide +kernel, by decide +kernel⟩
abbrev s_added : Stmt := top 4
abbrev N_added : List Str := ["place", "shift", "number", "more"]
theorem sc_added : FnScope N_added ["place", "shift"] (defScope s_added) := ⟨rfl, rfl, rfl, by decide +kernel, rfl, by decide +kernel, by decide +kernel⟩
abbrev s_divisor_of : Stmt := top 12
abbrev N_divisor_of : List Str := ["place"]
theorem sc_divisor_of : FnScope N_divisor_of ["place"] (defScope s_divisor_of) := ⟨rfl, rfl, rfl, by decide +kernel, rfl, by decide +kernel, by decide +kernel⟩
abbrev s_is_seen : Stmt := top 13
abbrev N_is_seen : List Str := ["place"]
theorem sc_is_seen : FnScope N_is_seen ["place"] (defScope s_is_seen) := ⟨rfl, rfl, rfl, by decide +kernel, rfl, by decide +kernel, by decide +kernel⟩
abbrev s_shows : Stmt := top 15
abbrev N_shows : List Str := ["picture", "shift", "place"]
theorem sc_shows : FnScope N_shows ["picture", "shift"] (defScope s_shows) := ⟨rfl, rfl, rfl, by decide +kernel, rfl, by decide +kernel, by decide +kernel⟩
abbrev s_words_of : Stmt := top 17
abbrev N_words_of : List Str := ["size", "seen", "hidden", "words", "places", "word", "place"]
theorem sc_words_of : FnScope N_words_of ["size", "seen", "hidden"] (defScope s_words_of) := ⟨rfl, rfl, rfl, by decide +kernel, rfl, by decide +kernel, by decide +kernel⟩
abbrev s_PictureUinitU : Stmt := inClass (top 18) 0
abbrev N_PictureUinitU : List Str := ["self", "size", "seen", "hidden"]
theorem sc_PictureUinitU : FnScope N_PictureUinitU ["self", "size", "seen", "hidden"] (defScope s_PictureUinitU) := ⟨rfl, rfl, rfl, by decide +kernel, rfl, by decide +kernel, by decide +kernel⟩
abbrev s_Picturesize : Stmt := inClass (top 18) 1
abbrev N_Picturesize : List Str := ["self"]
theorem sc_Picturesize : FnScope N_Picturesize ["self"] (defScope s_Picturesize) := ⟨rfl, rfl, rfl, by decide +kernel, rfl, by decide +kernel, by decide +kernel⟩
abbrev s_Pictureseen : Stmt := inClass (top 18) 2
abbrev N_Pictureseen : List Str := ["self"]
theorem sc_Pictureseen : FnScope N_Pictureseen ["self"] (defScope s_Pictureseen) := ⟨rfl, rfl, rfl, by decide +kernel, rfl, by decide +kernel, by decide +kernel⟩
abbrev s_Picturehidden : Stmt := inClass (top 18) 3
abbrev N_Picturehidden : List Str := ["self"]
theorem sc_Picturehidden : FnScope N_Picturehidden ["self"] (defScope s_Picturehidden) := ⟨rfl, rfl, rfl, by decide +kernel, rfl, by decide +kernel, by decide +kernel⟩
abbrev s_PictureUcontainsU : Stmt := inClass (top 18) 10
abbrev N_PictureUcontainsU : List Str := ["self", "x"]
theorem sc_PictureUcontainsU : FnScope N_PictureUcontainsU ["self", "x"] (defScope s_PictureUcontainsU) := ⟨rfl, rfl, rfl, by decide +kernel, rfl, by decide +kernel, by decide +kernel⟩
abbrev s_PictureUlenU : Stmt := inClass (top 18) 11
abbrev N_PictureUlenU : List Str := ["self"]
theorem sc_PictureUlenU : FnScope N_PictureUlenU ["self"] (defScope s_PictureUlenU) := ⟨rfl, rfl, rfl, by decide +kernel, rfl, by decide +kernel, by decide +kernel⟩
abbrev s_law_well : Stmt := top 20
abbrev N_law_well : List Str := ["_law_script", "_law_k", "_law_cell"]
theorem sc_law_well : FnScope N_law_well ["_law_script", "_law_k"] (defScope s_law_well) := ⟨rfl, rfl, rfl, by decide +kernel, rfl, by decide +kernel, by decide +kernel⟩
abbrev s_law_draw : Stmt := top 21
abbrev N_law_draw : List Str := ["_law_well_here", "_law_many", "_law_mixed", "_law_drawn"]
theorem sc_law_draw : FnScope N_law_draw ["_law_well_here", "_law_many"] (defScope s_law_draw) := ⟨rfl, rfl, rfl, by decide +kernel, rfl, by decide +kernel, by decide +kernel⟩
abbrev s_law_divisor : Stmt := top 22
abbrev N_law_divisor : List Str := ["_law_place", "_law_common", "_law_coordinate", "_law_other"]
theorem sc_law_divisor : FnScope N_law_divisor ["_law_place"] (defScope s_law_divisor) := ⟨rfl, rfl, rfl, by decide +kernel, rfl, by decide +kernel, by decide +kernel⟩
abbrev s_law_sum : Stmt := top 23
abbrev N_law_sum : List Str := ["_law_place", "_law_offset", "_law_k"]
theorem sc_law_sum : FnScope N_law_sum ["_law_place", "_law_offset"] (defScope s_law_sum) := ⟨rfl, rfl, rfl, by decide +kernel, rfl, by decide +kernel, by decide +kernel⟩
abbrev s_law_spot : Stmt := top 24
abbrev N_law_spot : List Str := ["_law_well_here", "_law_size", "_law_reach", "_law_turn"]
theorem sc_law_spot : FnScope N_law_spot ["_law_well_here", "_law_size", "_law_reach"] (defScope s_law_spot) := ⟨rfl, rfl, rfl, by decide +kernel, rfl, by decide +kernel, by decide +kernel⟩
abbrev s_law_spots : Stmt := top 25
abbrev N_law_spots : List Str := ["_law_well_here", "_law_size", "_law_offset", "_law_reach", "_law_near", "_law_spots_here", "_law_turn", "_law_spot_here", "_law_factor", "_law_coordinate", "_law_k"]
theorem sc_law_spots : FnScope N_law_spots ["_law_well_here", "_law_size", "_law_offset"] (defScope s_law_spots) := ⟨rfl, rfl, rfl, by decide +kernel, rfl, by decide +kernel, by decide +kernel⟩
abbrev s_law_told : Stmt := top 26
abbrev N_law_told : List Str := ["_law_size", "_law_spots_here", "_law_marks", "_law_seen", "_law_k"]
theorem sc_law_told : FnScope N_law_told ["_law_size", "_law_spots_here", "_law_marks"] (defScope s_law_told) := ⟨rfl, rfl, rfl, by decide +kernel, rfl, by decide +kernel, by decide +kernel⟩
abbrev s_law_case : Stmt := top 27
abbrev N_law_case : List Str := ["_law_well_here", "_law_size", "_law_offset", "_law_spots_here", "_law_marks", "_law_right", "_law_k", "_law_turned", "_law_spot_here", "_law_j"]
theorem sc_law_case : FnScope N_law_case ["_law_well_here"] (defScope s_law_case) := ⟨rfl, rfl, rfl, by decide +kernel, rfl, by decide +kernel, by decide +kernel⟩
abbrev s_law : Stmt := top 28
abbrev N_law : List Str := ["_law_script", "_law_k"]
theorem sc_law : FnScope N_law ["_law_script"] (defScope s_law) := ⟨rfl, rfl, rfl, by decide +kernel, rfl, by decide +kernel, by decide +kernel⟩
structure Ad where
  a_common_divisor : Addr
  f_common_divisor : FuncData
  a_added : Addr
  f_added : FuncData
  a_divisor_of : Addr
  f_divisor_of : FuncData
  a_is_seen : Addr
  f_is_seen : FuncData
  a_shows : Addr
  f_shows : FuncData
  a_words_of : Addr
  f_words_of : FuncData
  a_PictureUinitU : Addr
  f_PictureUinitU : FuncData
  a_Picturesize : Addr
  f_Picturesize : FuncData
  p_Picturesize : Addr
  a_Pictureseen : Addr
  f_Pictureseen : FuncData
  p_Pictureseen : Addr
  a_Picturehidden : Addr
  f_Picturehidden : FuncData
  p_Picturehidden : Addr
  a_PictureUcontainsU : Addr
  f_PictureUcontainsU : FuncData
  a_PictureUlenU : Addr
  f_PictureUlenU : FuncData
  a_law_well : Addr
  f_law_well : FuncData
  a_law_draw : Addr
  f_law_draw : FuncData
  a_law_divisor : Addr
  f_law_divisor : FuncData
  a_law_sum : Addr
  f_law_sum : FuncData
  a_law_spot : Addr
  f_law_spot : FuncData
  a_law_spots : Addr
  f_law_spots : FuncData
  a_law_told : Addr
  f_law_told : FuncData
  a_law_case : Addr
  f_law_case : FuncData
  a_law : Addr
  f_law : FuncData
  a_cPicture : Addr
structure Txt (K : PySem.W.Frag) (mg : Str → Option Value) (A : Ad) : Prop where
  g_common_divisor : mg "common_divisor" = some (.ref A.a_common_divisor)
  k_common_divisor : PySem.W.keepIn K (.ref A.a_common_divisor) = true
  F_common_divisor : Fun K "common_divisor" "common_divisor" s_common_divisor A.a_common_divisor A.f_common_divisor
  b_common_divisor : Binds K A.f_common_divisor ["place"] []
  g_added : mg "added" = some (.ref A.a_added)
  k_added : PySem.W.keepIn K (.ref A.a_added) = true
  F_added : Fun K "added" "added" s_added A.a_added A.f_added
  b_added : Binds K A.f_added ["place", "shift"] []
  g_divisor_of : mg "divisor_of" = some (.ref A.a_divisor_of)
  k_divisor_of : PySem.W.keepIn K (.ref A.a_divisor_of) = true
  F_divisor_of : Fun K "divisor_of" "divisor_of" s_divisor_of A.a_divisor_of A.f_divisor_of
  b_divisor_of : Binds K A.f_divisor_of ["place"] []
  g_is_seen : mg "is_seen" = some (.ref A.a_is_seen)
  k_is_seen : PySem.W.keepIn K (.ref A.a_is_seen) = true
  F_is_seen : Fun K "is_seen" "is_seen" s_is_seen A.a_is_seen A.f_is_seen
  b_is_seen : Binds K A.f_is_seen ["place"] []
  g_shows : mg "shows" = some (.ref A.a_shows)
  k_shows : PySem.W.keepIn K (.ref A.a_shows) = true
  F_shows : Fun K "shows" "shows" s_shows A.a_shows A.f_shows
  b_shows : Binds K A.f_shows ["picture", "shift"] []
  g_words_of : mg "words_of" = some (.ref A.a_words_of)
  k_words_of : PySem.W.keepIn K (.ref A.a_words_of) = true
  F_words_of : Fun K "words_of" "words_of" s_words_of A.a_words_of A.f_words_of
  b_words_of : Binds K A.f_words_of ["size", "seen", "hidden"] []
  at_PictureUinitU : PySem.W.findIn K (.ref A.a_cPicture) "__init__" = some (some (.ref A.a_PictureUinitU))
  fn_PictureUinitU : PySem.W.isFn K (.ref A.a_PictureUinitU) = true
  k_PictureUinitU : PySem.W.keepIn K (.ref A.a_PictureUinitU) = true
  F_PictureUinitU : Fun K "__init__" "Picture.__init__" s_PictureUinitU A.a_PictureUinitU A.f_PictureUinitU
  b_PictureUinitU : Binds K A.f_PictureUinitU ["self", "size", "seen", "hidden"] []
  pr_Picturesize : PropOf K A.a_cPicture "size" A.p_Picturesize A.a_Picturesize
  k_Picturesize : PySem.W.keepIn K (.ref A.a_Picturesize) = true
  F_Picturesize : Fun K "size" "Picture.size" s_Picturesize A.a_Picturesize A.f_Picturesize
  b_Picturesize : Binds K A.f_Picturesize ["self"] []
  pr_Pictureseen : PropOf K A.a_cPicture "seen" A.p_Pictureseen A.a_Pictureseen
  k_Pictureseen : PySem.W.keepIn K (.ref A.a_Pictureseen) = true
  F_Pictureseen : Fun K "seen" "Picture.seen" s_Pictureseen A.a_Pictureseen A.f_Pictureseen
  b_Pictureseen : Binds K A.f_Pictureseen ["self"] []
  pr_Picturehidden : PropOf K A.a_cPicture "hidden" A.p_Picturehidden A.a_Picturehidden
  k_Picturehidden : PySem.W.keepIn K (.ref A.a_Picturehidden) = true
  F_Picturehidden : Fun K "hidden" "Picture.hidden" s_Picturehidden A.a_Picturehidden A.f_Picturehidden
  b_Picturehidden : Binds K A.f_Picturehidden ["self"] []
  at_PictureUcontainsU : PySem.W.findIn K (.ref A.a_cPicture) "__contains__" = some (some (.ref A.a_PictureUcontainsU))
  fn_PictureUcontainsU : PySem.W.isFn K (.ref A.a_PictureUcontainsU) = true
  k_PictureUcontainsU : PySem.W.keepIn K (.ref A.a_PictureUcontainsU) = true
  F_PictureUcontainsU : Fun K "__contains__" "Picture.__contains__" s_PictureUcontainsU A.a_PictureUcontainsU A.f_PictureUcontainsU
  b_PictureUcontainsU : Binds K A.f_PictureUcontainsU ["self", "x"] []
  at_PictureUlenU : PySem.W.findIn K (.ref A.a_cPicture) "__len__" = some (some (.ref A.a_PictureUlenU))
  fn_PictureUlenU : PySem.W.isFn K (.ref A.a_PictureUlenU) = true
  k_PictureUlenU : PySem.W.keepIn K (.ref A.a_PictureUlenU) = true
  F_PictureUlenU : Fun K "__len__" "Picture.__len__" s_PictureUlenU A.a_PictureUlenU A.f_PictureUlenU
  b_PictureUlenU : Binds K A.f_PictureUlenU ["self"] []
  g_law_well : mg "_law_well" = some (.ref A.a_law_well)
  k_law_well : PySem.W.keepIn K (.ref A.a_law_well) = true
  F_law_well : Fun K "_law_well" "_law_well" s_law_well A.a_law_well A.f_law_well
  b_law_well : Binds K A.f_law_well ["_law_script", "_law_k"] []
  g_law_draw : mg "_law_draw" = some (.ref A.a_law_draw)
  k_law_draw : PySem.W.keepIn K (.ref A.a_law_draw) = true
  F_law_draw : Fun K "_law_draw" "_law_draw" s_law_draw A.a_law_draw A.f_law_draw
  b_law_draw : Binds K A.f_law_draw ["_law_well_here", "_law_many"] []
  g_law_divisor : mg "_law_divisor" = some (.ref A.a_law_divisor)
  k_law_divisor : PySem.W.keepIn K (.ref A.a_law_divisor) = true
  F_law_divisor : Fun K "_law_divisor" "_law_divisor" s_law_divisor A.a_law_divisor A.f_law_divisor
  b_law_divisor : Binds K A.f_law_divisor ["_law_place"] []
  g_law_sum : mg "_law_sum" = some (.ref A.a_law_sum)
  k_law_sum : PySem.W.keepIn K (.ref A.a_law_sum) = true
  F_law_sum : Fun K "_law_sum" "_law_sum" s_law_sum A.a_law_sum A.f_law_sum
  b_law_sum : Binds K A.f_law_sum ["_law_place", "_law_offset"] []
  g_law_spot : mg "_law_spot" = some (.ref A.a_law_spot)
  k_law_spot : PySem.W.keepIn K (.ref A.a_law_spot) = true
  F_law_spot : Fun K "_law_spot" "_law_spot" s_law_spot A.a_law_spot A.f_law_spot
  b_law_spot : Binds K A.f_law_spot ["_law_well_here", "_law_size", "_law_reach"] []
  g_law_spots : mg "_law_spots" = some (.ref A.a_law_spots)
  k_law_spots : PySem.W.keepIn K (.ref A.a_law_spots) = true
  F_law_spots : Fun K "_law_spots" "_law_spots" s_law_spots A.a_law_spots A.f_law_spots
  b_law_spots : Binds K A.f_law_spots ["_law_well_here", "_law_size", "_law_offset"] []
  g_law_told : mg "_law_told" = some (.ref A.a_law_told)
  k_law_told : PySem.W.keepIn K (.ref A.a_law_told) = true
  F_law_told : Fun K "_law_told" "_law_told" s_law_told A.a_law_told A.f_law_told
  b_law_told : Binds K A.f_law_told ["_law_size", "_law_spots_here", "_law_marks"] []
  g_law_case : mg "_law_case" = some (.ref A.a_law_case)
  k_law_case : PySem.W.keepIn K (.ref A.a_law_case) = true
  F_law_case : Fun K "_law_case" "_law_case" s_law_case A.a_law_case A.f_law_case
  b_law_case : Binds K A.f_law_case ["_law_well_here"] []
  g_law : mg "law" = some (.ref A.a_law)
  k_law : PySem.W.keepIn K (.ref A.a_law) = true
  F_law : Fun K "law" "law" s_law A.a_law A.f_law
  b_law : Binds K A.f_law ["_law_script"] []
  kb_shows : KBinds K A.f_shows ["picture", "shift"] ["picture", "shift"] kwG kwG
  n_abs : mg "abs" = none
  m_gcd : mg "gcd" = some (.builtin "math.gcd")
  n_int : mg "int" = none
  n_len : mg "len" = none
  n_list : mg "list" = none
  n_max : mg "max" = none
  n_min : mg "min" = none
  n_range : mg "range" = none
  n_sorted : mg "sorted" = none
  n_tuple : mg "tuple" = none
  n_zip : mg "zip" = none
  g_Picture : mg "Picture" = some (.ref A.a_cPicture)
  cl_Picture : Cls K A.a_cPicture
  mk_Picture : Mk K A.a_cPicture A.a_PictureUinitU
  ty_Picture : ∀ (H : Hp) (a dx : Addr) (fs : List (Str × V)), H a = some (.ins A.a_cPicture dx fs) → TyOf K H (.ref a) (.ref A.a_cPicture)
  ks_Picture : PySem.W.kitOne K (.ref A.a_cPicture) (.ref A.a_cPicture) = some true
  na_Picture_words : NoAttr K A.a_cPicture "_words"
  na_Picture_size : NoAttr K A.a_cPicture "_size"
  na_Picture_seen : NoAttr K A.a_cPicture "_seen"
  na_Picture_hidden : NoAttr K A.a_cPicture "_hidden"
def spGcd (K : PySem.W.Frag) : Sp := fun vs H Q _ => ∃ (t : Addr) (ns : List Int), vs = [.ref t] ∧ SqT K H t (ns.map V.int) ∧ Q (.int (gcdL ns : Nat)) H
def spDiv (K : PySem.W.Frag) : Sp := fun vs H Q _ => ∃ (t : Addr) (ns : List Int), vs = [.ref t] ∧ SqT K H t (ns.map V.int) ∧ (ns.length = 2 ∨ ns.length = 3) ∧ ∀ H', Same H H' → Q (.int (gcdL ns : Nat)) H'
def spSeen (K : PySem.W.Frag) : Sp := fun vs H Q _ => ∃ (t : Addr) (ns : List Int), vs = [.ref t] ∧ SqT K H t (ns.map V.int) ∧ (ns.length = 2 ∨ ns.length = 3) ∧ ∀ H', Same H H' → Q (.bl (((gcdL ns : Nat) : Int) == 1)) H'
def spBetween (K : PySem.W.Frag) : Sp := fun vs H Q _ => ∃ (t : Addr) (ns : List Int), vs = [.ref t] ∧ SqT K H t (ns.map V.int) ∧ (ns.length = 2 ∨ ns.length = 3) ∧ ∀ H', Same H H' → Q (.int ((gcdL ns - 1 : Nat) : Int)) H'
def spFirst : Sp := fun vs H Q _ => ∃ (t : Addr) (ns : List Int), vs = [.ref t] ∧ TupI H t ns ∧ (ns.length = 2 ∨ ns.length = 3) ∧ (∀ a ∈ ns, a.natAbs < 2 ^ 250) ∧ ∀ t' H', Same H H' → TupI H' t' (firstL ns) → Q (.ref t') H'
def spWhole : Sp := fun vs H Q _ => ∃ i : Int, vs = [.int i] ∧ Q (.bl true) H
def spIsSpot : Sp := fun vs H Q _ => ∃ (a b : Addr) (ns : List Int), vs = [.ref a, .ref b] ∧ TupI H a ns ∧ TupI H b ns ∧ ns.length ≤ 1000 ∧ Q (.bl true) H
def spRight : Sp := fun vs H Q _ => ∃ (p : Addr), vs = [.ref p] ∧ Spr H p ∧ ∀ H', But p H H' → Q (.bl true) H'

local macro_rules | `(tactic| walk_at "rc") => `(tactic| first | done | decide | omega | exact Or.inl ⟨by omega, by omega⟩ | exact Or.inr ⟨by omega, by omega⟩ | exact ⟨by omega, by omega⟩ | exact ⟨by omega, by omega, by decide⟩ | exact ⟨by decide, by decide, by decide⟩)
local macro_rules | `(tactic| walk_at "rd1") => `(tactic| first
  | (with_reducible refine L2.r_op ?_)
  | (with_reducible refine L2.r_c ?_)
  | ((with_reducible show L2.tVar _ _ _ _); (refine L2.r_var rfl ?_))
  | (with_reducible refine L2.r_I0 ?_)
  | ((with_reducible show L2.rI _ _ _ _ _ _); (refine L2.r_I (by walk_at "rc") ?_))
  | (with_reducible refine L2.r_cons ?_)
  | (with_reducible refine L2.r_nil ?_)
  | (with_reducible refine L2.r_cb ?_)
  | (with_reducible refine L2.r_call ?_)
  | (with_reducible refine L2.r_lst ?_)
  | (with_reducible refine L2.r_tup ?_)
  | (with_reducible refine L2.r_eqI ?_)
  | (with_reducible refine L2.r_neI ?_)
  | (with_reducible refine L2.r_eqB ?_)
  | (with_reducible refine L2.r_test ?_)
  | (with_reducible refine L2.r_B ?_)
  | (with_reducible refine L2.r_not ?_)
  | (with_reducible refine L2.r_and ?_)
  | (with_reducible refine L2.r_or ?_)
  | (with_reducible refine L2.r_andV ?_)
  | (with_reducible refine L2.r_orV ?_)
  | (with_reducible refine L2.r_notV ?_)
  | (with_reducible refine L2.r_if ?_)
  | (with_reducible refine L2.r_seqAsg ?_)
  | (with_reducible refine L2.r_asg ?_)
  | (with_reducible refine L2.r_seqSub ?_)
  | (with_reducible refine L2.r_sub ?_)
  | (with_reducible refine L2.r_seqPar ?_)
  | (with_reducible refine L2.r_par ?_)
  | (with_reducible refine L2.r_ret ?_)
  | (with_reducible refine L2.r_gcons ?_)
  | (with_reducible refine L2.r_gnil ?_)
  | (with_reducible refine L2.r_gsub ?_)
  | (with_reducible refine L2.r_bm ?_)
  | (with_reducible refine L2.r_bm0 ?_)
  | (with_reducible refine L2.r_sl ?_)
  | (with_reducible refine L2.r_nopart ?_)
  | (with_reducible refine L2.r_part ?_)
  | (with_reducible refine L2.r_callK ?_)
  | (with_reducible refine L2.r_yes ?_)
  | (with_reducible refine L2.r_gname ?_)
  | (with_reducible refine L2.r_seqDrop ?_)
  | (with_reducible refine L2.r_drop ?_)
  | (with_reducible refine L2.r_seqIf ?_)
  | (with_reducible refine L2.r_ifS ?_)
  | (with_reducible refine L2.r_next ?_)
  | (with_reducible refine L2.r_un ?_)
  | (with_reducible refine L2.r_seqAsgG ?_)
  | (with_reducible refine L2.r_asgG ?_))
local macro_rules | `(tactic| walk_at "rd") => `(tactic| repeat' (walk_at "rd1"))

local macro_rules | `(tactic| walk_at "rd1") => `(tactic| first
  | (with_reducible refine L2.r_seqFld ?_)
  | (with_reducible refine L2.r_fldS ?_)
  | (with_reducible refine L2.r_fld ?_)
  | (with_reducible refine L2.r_prop ?_))

local macro_rules | `(tactic| walk_at "nf") => `(tactic| (try dsimp only [List.set, L2.wipe]))
local macro_rules | `(tactic| walk_at "sp") => `(tactic| first
  | assumption
  | (refine L2.Spr.s_new (by assumption) ?_; walk_at "sp")
  | (refine L2.Spr.s_same (by assumption) ?_; walk_at "sp"))
local macro_rules | `(tactic| walk_at "kp") => `(tactic| first
  | exact L2.Kp.refl _
  | assumption
  | (refine L2.Kp.s_new (by assumption) ?_; walk_at "kp")
  | (refine L2.Kp.s_same (by assumption) ?_; walk_at "kp")
  | (refine L2.Kp.s_but (by assumption) (by walk_at "sp") ?_; walk_at "kp")
  | (refine L2.Kp.s_butW (by assumption) (by walk_at "wl") ?_; walk_at "kp"))
local macro_rules | `(tactic| walk_at "wl") => `(tactic| first
  | assumption
  | (refine L2.Wel.s_new (by assumption) ?_; walk_at "wl")
  | (refine L2.Wel.s_same (by assumption) ?_; walk_at "wl"))
local macro_rules | `(tactic| walk_at "bt") => `(tactic| first
  | exact L2.But.refl _ _
  | assumption
  | (refine L2.But.s_new (by assumption) ?_; walk_at "bt")
  | (refine L2.But.s_same (by assumption) ?_; walk_at "bt")
  | (refine L2.But.s_but (by assumption) ?_; walk_at "bt"))
local macro_rules | `(tactic| walk_at "sm") => `(tactic| first
  | exact L2.Same.refl _
  | assumption
  | (refine L2.Same.s_new (by assumption) ?_; walk_at "sm")
  | (refine L2.Same.s_same (by assumption) ?_; walk_at "sm"))
local macro_rules | `(tactic| walk_at "fa") => `(tactic| first
  | assumption
  | (refine L2.TupI.kp (by assumption) ?_; walk_at "kp")
  | (refine L2.LT.kp (by assumption) ?_; walk_at "kp")
  | (refine L2.TsI.kp (by assumption) ?_; walk_at "kp")
  | (refine L2.Pic.kp (by assumption) ?_; walk_at "kp")
  | (refine L2.kp_tup (by assumption) ?_; walk_at "kp")
  | (refine L2.kp_refs (by assumption) ?_; walk_at "kp")
  | (refine L2.kp_ref (by assumption) ?_; walk_at "kp"))
local macro_rules | `(tactic| walk_at "rd1") => `(tactic| first
  | (with_reducible refine L2.r_binS ?_)
  | (with_reducible refine L2.r_meth ?_)
  | (with_reducible refine L2.r_methT ?_)
  | (with_reducible refine L2.r_methK ?_))

section
variable {P : Program} {w : World} {K : PySem.W.Frag} {mg : Str → Option Value} {base : Heap} {A : Ad}
/-! the wells of the laws -/
def spWell (K : PySem.W.Frag) : Sp := fun vs H Q _ => ∃ (a : Addr) (ns : List Int) (k : Nat), vs = [.ref a, .int (k : Int)] ∧ SqL K H a (ns.map V.int) ∧ k ≤ 1000 ∧ ∀ p H', H p = none → Same H H' → Wel H' p 0 → Q (.ref p) H'
theorem ok_law_well (T : Txt K mg A) : FnOk P w K mg base CX0 1 A.a_law_well A.f_law_well ["_law_script", "_law_k"] (spWell K) := by
  refine T.F_law_well.ok sc_law_well (fun vs H Q E h => ?_) (fun cdv A' outer s H vs Q E hr h => ⟨_, (pss_cons (ps_set (i := 2) sc_law_well.nd rfl (Or.inl rfl) (pe_ifExp (pt_cmpR op_lt (pv 1) (pe_callB call_len_seq (by rfl) T.n_len (by decide +kernel) (pa_cons (pv 0) pa_nil)) (nomark _)) (pe_ix ix_list (pv 0) (pv 1) (fun _ _ => rfl)) pe_int))
    (pss_cons (ps_if (pt_cmpR op_ge (pv 2) (pe_op op_pow pe_int pe_int) (nomark _)) (pss_one (ps_ret (pe_lst (pa_cons (pe_op op_sub (pv 2) (pe_op op_pow pe_int pe_int)) (pa_cons (pe_un un_neg pe_int) pa_nil))))) pss_nil)
    (pss_one (ps_ret (pe_lst (pa_cons (pe_op op_add (pe_op op_add (pe_op op_mod (pe_callTy call_int1 (by rfl) T.n_int (by decide +kernel) (pa_cons (pv 2) pa_nil)) (pe_op op_pow pe_int pe_int)) (pe_op op_mul pe_int (pv 1))) pe_int) (pa_cons pe_int pa_nil))))))), ?_⟩)
  · obtain ⟨a, ns, k, rfl, _⟩ := h
    rfl
  · obtain ⟨a, ns, k, rfl, hS, hk, q⟩ := h
    rw [show start N_law_well [V.ref a, V.int (k : Int)] = [some (V.ref a), some (V.int (k : Int)), none] from rfl]
    walk_at "rd"
    refine ⟨a, _, rfl, .inl hS, ?_⟩
    rw [List.length_map]
    walk_at "rd"
    refine ⟨_, rfl, ite2 (fun h0 => ?_) (fun h0 => ?_)⟩
    · have hk2 := of_decide_eq_true h0
      obtain ⟨c, hc1, hc2⟩ := at_int (ns := ns) (i := (k : Int)) (by omega) (by omega)
      walk_at "rd"
      refine r_ixL hS hc2 ?_
      walk_at "nf"
      walk_at "rd"
      refine ⟨_, rfl, ite2 (fun hc => ?_) (fun hc => ?_)⟩
      · have hc' := of_decide_eq_true hc
        walk_at "rd"
        refine ⟨1, rfl, ?_⟩
        walk_at "rd"
        refine ⟨by show 2 ≤ sizeLine; decide, fun p np => q p _ np (Same.new0 np) ⟨_, _, upd_same, .inl ⟨rfl, ?_⟩⟩⟩
        have e : (10 : Int) ^ Int.toNat 18 = 1000000000000000000 := rfl
        rw [e] at hc' ⊢
        omega
      · walk_at "rd"
        refine Or.inl ⟨_, rfl, ?_⟩
        walk_at "rd"
        refine ⟨by show 2 ≤ sizeLine; decide, fun p np => q p _ np (Same.new0 np) ⟨_, _, upd_same, .inr ⟨by decide, by decide, ?_, ?_⟩⟩⟩
        · have h1 := Int.emod_nonneg c (b := 10 ^ Int.toNat 18) (by decide)
          omega
        · have h1 := Int.emod_lt_of_pos c (b := 10 ^ Int.toNat 18) (by decide)
          have e : (10 : Int) ^ Int.toNat 18 = 1000000000000000000 := rfl
          rw [e] at h1 ⊢
          omega
    · walk_at "nf"
      walk_at "rd"
      refine ⟨_, rfl, ite2 (fun hc => ?_) (fun hc => ?_)⟩
      · have hc' := of_decide_eq_true hc
        walk_at "rd"
        refine ⟨1, rfl, ?_⟩
        walk_at "rd"
        refine ⟨by show 2 ≤ sizeLine; decide, fun p np => q p _ np (Same.new0 np) ⟨_, _, upd_same, .inl ⟨rfl, ?_⟩⟩⟩
        have e : (10 : Int) ^ Int.toNat 18 = 1000000000000000000 := rfl
        rw [e] at hc' ⊢
        omega
      · walk_at "rd"
        refine Or.inl ⟨_, rfl, ?_⟩
        walk_at "rd"
        refine ⟨by show 2 ≤ sizeLine; decide, fun p np => q p _ np (Same.new0 np) ⟨_, _, upd_same, .inr ⟨by decide, by decide, ?_, ?_⟩⟩⟩
        · have h1 := Int.emod_nonneg (0 : Int) (b := 10 ^ Int.toNat 18) (by decide)
          omega
        · have h1 := Int.emod_lt_of_pos (0 : Int) (b := 10 ^ Int.toNat 18) (by decide)
          have e : (10 : Int) ^ Int.toNat 18 = 1000000000000000000 := rfl
          rw [e] at h1 ⊢
          omega
def spDraw : Sp := fun vs H Q _ => ∃ (p : Addr) (m : Int) (k : Nat), vs = [.ref p, .int m] ∧ Wel H p k ∧ k ≤ 1000000 ∧ 1 ≤ m ∧ m < 2 ^ 250 ∧ ∀ r H', 0 ≤ r → r < m → But p H H' → Wel H' p (k + 1) → Q (.int r) H'
theorem ok_law_draw (T : Txt K mg A) : FnOk P w K mg base CX0 1 A.a_law_draw A.f_law_draw ["_law_well_here", "_law_many"] spDraw := by
  refine T.F_law_draw.ok sc_law_draw (fun vs H Q E h => ?_) (fun cdv A' outer s H vs Q E hr h => ⟨_, (pss_cons (ps_if (pt_cmpR op_lt (pe_ix ix_list (pv 0) pe_int (fun _ _ => rfl)) pe_int (nomark _)) (pss_cons (ps_set (i := 3) sc_law_draw.nd rfl (Or.inl rfl) (pe_op op_mod (pe_callTy call_int1 (by rfl) T.n_int (by decide +kernel) (pa_cons (pe_ix ix_list (pv 0) pe_int (fun _ _ => rfl)) pa_nil)) (pv 1)))
    (pss_cons (ps_asg (pe_op op_fdivW (pe_callTy call_int1 (by rfl) T.n_int (by decide +kernel) (pa_cons (pe_ix ix_list (pv 0) pe_int (fun _ _ => rfl)) pa_nil)) (pv 1)) (pg_sub (pv 0) pe_int set_list))
    (pss_one (ps_ret (pv 3))))) pss_nil)
    (pss_cons (ps_asg (pe_op op_add (pe_ix ix_list (pv 0) pe_int (fun _ _ => rfl)) pe_int) (pg_sub (pv 0) pe_int set_list))
    (pss_cons (ps_set (i := 2) sc_law_draw.nd rfl (Or.inl rfl) (pe_op op_mod (pe_callTy call_int1 (by rfl) T.n_int (by decide +kernel) (pa_cons (pe_op op_add (pe_op op_add (pe_op op_mul (pe_ix ix_list (pv 0) pe_int (fun _ _ => rfl)) pe_int) (pe_op op_mul (pe_ix ix_list (pv 0) pe_int (fun _ _ => rfl)) pe_int)) pe_int) pa_nil)) (pe_op op_add (pe_op op_pow pe_int pe_int) pe_int)))
    (pss_cons (ps_set (i := 2) sc_law_draw.nd rfl (Or.inl rfl) (pe_op op_mod (pe_callTy call_int1 (by rfl) T.n_int (by decide +kernel) (pa_cons (pe_op op_add (pe_op op_mulW (pv 2) (pv 2)) (pe_op op_mul (pe_ix ix_list (pv 0) pe_int (fun _ _ => rfl)) pe_int)) pa_nil)) (pe_op op_add (pe_op op_pow pe_int pe_int) pe_int)))
    (pss_cons (ps_set (i := 2) sc_law_draw.nd rfl (Or.inl rfl) (pe_op op_mod (pe_callTy call_int1 (by rfl) T.n_int (by decide +kernel) (pa_cons (pe_op op_add (pe_op op_fdiv (pe_op op_mulW (pv 2) (pv 2)) (pe_op op_pow pe_int pe_int)) (pe_op op_mul (pe_ix ix_list (pv 0) pe_int (fun _ _ => rfl)) (pe_ix ix_list (pv 0) pe_int (fun _ _ => rfl)))) pa_nil)) (pe_op op_add (pe_op op_pow pe_int pe_int) pe_int)))
    (pss_one (ps_ret (pe_op op_mod (pe_op op_fdiv (pe_callTy call_int1 (by rfl) T.n_int (by decide +kernel) (pa_cons (pe_op op_mulW (pv 2) (pe_op op_fdiv (pv 2) pe_int)) pa_nil)) (pe_op op_pow pe_int pe_int)) (pv 1))))))))), ?_⟩)
  · obtain ⟨p, m, k, rfl, _⟩ := h
    rfl
  · obtain ⟨p, m, k, rfl, ⟨a, b, hp, hab⟩, hk, hm, hm2, q⟩ := h
    rw [show start N_law_draw [V.ref p, V.int m] = [some (V.ref p), some (V.int m), none, none] from rfl]
    have i0 : ∀ x y : V, atI [x, y] 0 = some x := fun _ _ => rfl
    have i1 : ∀ x y : V, atI [x, y] 1 = some y := fun _ _ => rfl
    have n0 : ∀ x y : V, ixN [x, y].length 0 = some 0 := fun _ _ => rfl
    have n1 : ∀ x y : V, ixN [x, y].length 1 = some 1 := fun _ _ => rfl
    walk_at "rd"
    refine r_ixL (SqL.of hp) (i1 _ _) ?_
    walk_at "rd"
    refine ⟨_, rfl, ite2 (fun hc => ?_) (fun hc => ?_)⟩
    · have hb : b < 0 := of_decide_eq_true hc
      have ha : b = -1 ∧ 0 ≤ a := by omega
      walk_at "nf"
      walk_at "rd"
      refine r_ixL (SqL.of hp) (i0 _ _) ?_
      walk_at "rd"
      refine Or.inl ⟨_, rfl, ?_⟩
      walk_at "nf"
      walk_at "rd"
      refine r_ixL (SqL.of hp) (i0 _ _) ?_
      walk_at "rd"
      refine Or.inl ⟨_, rfl, ?_⟩
      walk_at "rd"
      refine r_I (wide_div (b := 250) (by omega) (by omega) (by decide) (by decide)) ?_
      walk_at "rd"
      refine r_setL hp (n0 _ _) ?_
      walk_at "rd"
      refine q _ _ (Int.emod_nonneg _ (by omega)) (Int.emod_lt_of_pos _ (by omega)) ((But.refl _ _).mut) ⟨_, _, upd_same, .inl ⟨ha.1, Int.ediv_nonneg ha.2 (by omega)⟩⟩
    · have hb : ¬ b < 0 := fun z => hc (decide_eq_true z)
      obtain ⟨b0, b1, a0, a1⟩ : 0 ≤ b ∧ b ≤ k ∧ 0 ≤ a ∧ a < 2 ^ 64 := by omega
      walk_at "nf"
      walk_at "rd"
      refine r_ixL (SqL.of hp) (i1 _ _) ?_
      walk_at "rd"
      refine r_setL hp (n1 _ _) ?_
      have hp2 : upd H p (.lst [.int a, .int (b + 1)]) p = some (.lst [.int a, .int (b + 1)]) := upd_same
      walk_at "nf"
      walk_at "rd"
      refine r_ixL (SqL.of hp2) (i0 _ _) ?_
      walk_at "rd"
      refine r_ixL (SqL.of hp2) (i1 _ _) ?_
      walk_at "rd"
      refine Or.inl ⟨_, rfl, ?_⟩
      walk_at "rd"
      have e19 : (10 : Int) ^ Int.toNat 19 + 51 = 10000000000000000051 := rfl
      have e21 : (10 : Int) ^ Int.toNat 21 + 117 = 1000000000000000000117 := rfl
      have e24 : (10 : Int) ^ Int.toNat 24 + 7 = 1000000000000000000000007 := rfl
      generalize hx1 : (a * 6364136223 + (b + 1) * 1442695041 + 97) % (10 ^ Int.toNat 19 + 51) = x1
      have x10 : 0 ≤ x1 := by rw [← hx1]; exact Int.emod_nonneg _ (by rw [e19]; decide)
      have x11 : x1 < 10000000000000000051 := by rw [← hx1, ← e19]; exact Int.emod_lt_of_pos _ (by rw [e19]; decide)
      refine r_I (wide_mul (a := 100) (b := 100) (by omega) (by omega) (by decide) (by decide) (by decide)) ?_
      walk_at "nf"
      walk_at "rd"
      refine r_ixL (SqL.of hp2) (i1 _ _) ?_
      walk_at "rd"
      refine Or.inl ⟨_, rfl, ?_⟩
      walk_at "rd"
      generalize hx2 : (x1 * x1 + (b + 1) * 40503) % (10 ^ Int.toNat 21 + 117) = x2
      have x20 : 0 ≤ x2 := by rw [← hx2]; exact Int.emod_nonneg _ (by rw [e21]; decide)
      have x21 : x2 < 1000000000000000000117 := by rw [← hx2, ← e21]; exact Int.emod_lt_of_pos _ (by rw [e21]; decide)
      refine r_I (wide_mul (a := 100) (b := 100) (by omega) (by omega) (by decide) (by decide) (by decide)) ?_
      walk_at "nf"
      walk_at "rd"
      refine r_I (by refine ⟨?_, ?_⟩ <;> decide) ?_
      walk_at "rd"
      refine r_ixL (SqL.of hp2) (i1 _ _) ?_
      walk_at "rd"
      refine r_ixL (SqL.of hp2) (i1 _ _) ?_
      walk_at "rd"
      refine Or.inl ⟨_, rfl, ?_⟩
      walk_at "rd"
      generalize hx3 : (x2 * x2 / 10 ^ Int.toNat 9 + (b + 1) * (b + 1)) % (10 ^ Int.toNat 24 + 7) = x3
      have x30 : 0 ≤ x3 := by rw [← hx3]; exact Int.emod_nonneg _ (by rw [e24]; decide)
      have x31 : x3 < 1000000000000000000000007 := by rw [← hx3, ← e24]; exact Int.emod_lt_of_pos _ (by rw [e24]; decide)
      refine r_I (wide_mul (a := 100) (b := 100) (by omega) (by omega) (by decide) (by decide) (by decide)) ?_
      walk_at "rd"
      refine Or.inl ⟨_, rfl, ?_⟩
      walk_at "rd"
      refine r_I (by refine ⟨?_, ?_⟩ <;> decide) ?_
      walk_at "rd"
      refine q _ _ (Int.emod_nonneg _ (by omega)) (Int.emod_lt_of_pos _ (by omega)) ((But.refl _ _).mut) ⟨_, _, upd_same, .inr ⟨by omega, by omega, a0, a1⟩⟩


/-! common_divisor, divisor_of -/
theorem ok_common_divisor (T : Txt K mg A) : FnOk P w K mg base CX0 1 A.a_common_divisor A.f_common_divisor ["place"] (spGcd K) := by
  refine T.F_common_divisor.ok sc_common_divisor (fun vs H Q E h => ?_) (fun cdv A' outer s H vs Q E hr h => ⟨_, (pss_cons (ps_set (i := 1) sc_common_divisor.nd rfl (Or.inl rfl) pe_int)
    (pss_cons (ps_for PassesOwn.never rfl (pi_tup (pv 0)) (pg_name (i := 2) sc_common_divisor.nd rfl (Or.inl rfl))
      (pss_one (ps_set (i := 1) sc_common_divisor.nd rfl (Or.inl rfl) (pe_callBfun cr_gcd rfl T.m_gcd (pa_cons (pv 1) (pa_cons (pv 2) pa_nil))))))
    (pss_one (ps_ret (pv 1))))), ?_⟩)
  · obtain ⟨p, ns, rfl, _⟩ := h
    rfl
  · obtain ⟨t, ns, rfl, hT, q⟩ := h
    walk_at "rd"
    refine ⟨_, rfl, t, rfl, ⟨_, hT⟩, for_tup (K := K) (a := t) (xs := ns.map V.int) (fun i σ H' => ∃ (v : Option V), σ = [some (.ref t), some (.int (gcdL (ns.take i) : Nat)), v] ∧ H' = H)
      ⟨none, rfl, rfl⟩ (fun i σ H' _ ⟨_, _, e⟩ => e ▸ hT) ?_ ?_⟩
    · rintro i x σ H' hi ⟨v, rfl, rfl⟩
      obtain ⟨z, hz, rfl⟩ := ints_at hi
      walk_at "rd"
      refine ⟨_, _, rfl, some (.int z), ?_, rfl⟩
      rw [take_more hz, gcdL_append, gcdL_one]
      rfl
    · rintro σ H' ⟨v, rfl, rfl⟩
      rw [List.length_map, List.take_length]
      dsimp only
      walk_at "rd"
      exact q


theorem ok_divisor_of (T : Txt K mg A) : FnOk P w K mg base CX0 2 A.a_divisor_of A.f_divisor_of ["place"] (spDiv K) := by
  refine T.F_divisor_of.ok sc_divisor_of (fun vs H Q E h => ?_) (fun cdv A' outer s H vs Q E hr h => ⟨_, (pss_cons (ps_if (pt_cmpR op_notIn_seq (pe_callB call_len_seq (by rfl) T.n_len (by decide +kernel) (pa_cons (pv 0) pa_nil)) (pe_tup (pa_cons pe_int (pa_cons pe_int pa_nil))) (by rfl)) (pss_one ps_never) pss_nil)
    (pss_one (ps_ret (pe_call (ok_common_divisor T) (hr.mono (by decide)) rfl T.g_common_divisor T.k_common_divisor T.b_common_divisor .nil pass0 (pa_cons (pv 0) pa_nil))))), ?_⟩)
  · obtain ⟨p, ns, rfl, _⟩ := h
    rfl
  · obtain ⟨t, ns, rfl, hT, hl, q⟩ := h
    walk_at "rd"
    refine ⟨t, _, rfl, .inr hT, ?_⟩
    walk_at "rd"
    refine ⟨by show 2 ≤ sizeLine; decide, fun t2 nt2 => ?_⟩
    refine ⟨t2, _, rfl, .inr (SqT.of upd_same), rfl, rfl, _, rfl, ?_⟩
    have e : (if true = true then !inV (.int ((ns.map V.int).length : Nat)) [.int 2, .int 3] else inV (.int ((ns.map V.int).length : Nat)) [.int 2, .int 3]) = false := by
      rw [List.length_map]
      rcases hl with e | e <;> rw [e] <;> rfl
    refine (if_neg (by rw [e]; exact Bool.false_ne_true)).mpr ?_
    walk_at "rd"
    dsimp only
    walk_at "rd"
    exact ⟨t, ns, rfl, (Same.new0 nt2).tup hT, q _ (Same.new0 nt2)⟩


theorem ok_is_seen (T : Txt K mg A) : FnOk P w K mg base CX0 3 A.a_is_seen A.f_is_seen ["place"] (spSeen K) := by
  refine T.F_is_seen.ok sc_is_seen (fun vs H Q E h => ?_) (fun cdv A' outer s H vs Q E hr h => ⟨_, (pss_one (ps_ret (pe_cmpR op_eq (pe_call (ok_divisor_of T) (hr.mono (by decide)) rfl T.g_divisor_of T.k_divisor_of T.b_divisor_of .nil pass0 (pa_cons (pv 0) pa_nil)) pe_int (nomark _)))), ?_⟩)
  · obtain ⟨p, ns, rfl, _⟩ := h
    rfl
  · obtain ⟨t, ns, rfl, hT, hl, q⟩ := h
    walk_at "rd"
    refine ⟨t, ns, rfl, hT, hl, fun H' e => ?_⟩
    walk_at "rd"
    exact q _ e

def spWords (K : PySem.W.Frag) : Sp := fun vs H Q _ => ∃ (n : Int) (a b : Addr) (ta tb : List Addr) (lit dim : List (List Int)), vs = [.int n, .ref a, .ref b] ∧ SqL K H a (ta.map V.ref) ∧ TsI H ta lit ∧ SqL K H b (tb.map V.ref) ∧ TsI H tb dim ∧ Wf n lit dim ∧
  ∀ d H', H d = none → Same H H' → H' d = some (.dT (wk lit "seen" ++ wk dim "hidden")) → Q (.ref d) H'
theorem ok_words_of (T : Txt K mg A) : FnOk P w K mg base CX0 1 A.a_words_of A.f_words_of ["size", "seen", "hidden"] (spWords K) := by
  refine T.F_words_of.ok sc_words_of (fun vs H Q E h => ?_) (fun cdv A' outer s H vs Q E hr h => ⟨_, (pss_cons (ps_set (i := 3) sc_words_of.nd rfl (Or.inl rfl) pe_dnewT)
    (pss_cons (ps_for PassesOwn.never rfl (pi_tup (pe_tup (pa_cons (pe_tup (pa_cons (pv 1) (pa_cons pe_str pa_nil))) (pa_cons (pe_tup (pa_cons (pv 2) (pa_cons pe_str pa_nil))) pa_nil)))) (pg_tup rfl (pgs_cons (pg_name (i := 4) sc_words_of.nd rfl (Or.inl rfl)) (pgs_cons (pg_name (i := 5) sc_words_of.nd rfl (Or.inl rfl)) pgs_nil)))
      (pss_one (ps_for PassesOwn.never rfl (pi_list (pv 4)) (pg_name (i := 6) sc_words_of.nd rfl (Or.inl rfl))
      (pss_cons (ps_if (pt_cmpR op_ne (pe_callB call_len_seq (by rfl) T.n_len (by decide +kernel) (pa_cons (pv 6) pa_nil)) (pv 0) (nomark _)) (pss_one ps_never) pss_nil)
    (pss_cons (ps_if (pt_cmpR (op_inDct hr.units) (pv 6) (pv 3) (by rfl)) (pss_one ps_never) pss_nil)
    (pss_one (ps_asg (pv 5) (pg_sub (pv 3) (pv 6) (set_dict (hu_of hr))))))))))
    (pss_one (ps_ret (pv 3))))), ?_⟩)
  · obtain ⟨n, a, b, ta, tb, lit, dim, rfl, _⟩ := h
    rfl
  · obtain ⟨n, a, b, ta, tb, lit, dim, rfl, ha, hta, hb, htb, hw, q⟩ := h
    have hnd := List.nodup_append.mp hw.nd
    walk_at "rd"
    intro d nd
    walk_at "rd"
    refine ⟨_, rfl, by show 2 ≤ sizeLine; decide, fun t1 nt1 => ⟨_, rfl, by show 2 ≤ sizeLine; decide, fun t2 nt2 => ⟨by show 2 ≤ sizeLine; decide, fun t3 nt3 => ?_⟩⟩⟩
    have n1 := ne_of_none (upd_same (o := HO.dT []) (H := H) (a := d)) nt1
    have s0 : Same H (upd (upd (upd (upd H d (.dT [])) t1 (.tup [.ref a, .str "seen"])) t2 (.tup [.ref b, .str "hidden"])) t3 (.tup [.ref t1, .ref t2])) := (((Same.new0 nd).new nt1).new nt2).new nt3
    have e12 := ne_of_none (upd_same (o := HO.tup [.ref a, .str "seen"]) (H := upd H d (.dT [])) (a := t1)) nt2
    have e13 := ne_of_none ((upd_ne e12).trans (upd_same (o := HO.tup [.ref a, .str "seen"]) (H := upd H d (.dT [])) (a := t1))) nt3
    have e23 := ne_of_none (upd_same (o := HO.tup [.ref b, .str "hidden"]) (H := upd (upd H d (.dT [])) t1 (.tup [.ref a, .str "seen"])) (a := t2)) nt3
    have ed2 := ne_of_none ((upd_ne n1).trans (upd_same (o := HO.dT []) (H := H) (a := d))) nt2
    have ed3 := ne_of_none ((upd_ne ed2).trans ((upd_ne n1).trans (upd_same (o := HO.dT []) (H := H) (a := d)))) nt3
    refine ⟨t3, rfl, ⟨_, SqT.of upd_same⟩, for_tup (K := K) (a := t3) (xs := [.ref t1, .ref t2]) (fun i σ H' => ∃ (v4 v5 v6 : Option V), σ = [some (.int n), some (.ref a), some (.ref b), some (.ref d), v4, v5, v6] ∧ Same H H' ∧
        H' t1 = some (.tup [.ref a, .str "seen"]) ∧ H' t2 = some (.tup [.ref b, .str "hidden"]) ∧ H' t3 = some (.tup [.ref t1, .ref t2]) ∧ H' d = some (.dT (wk (if 0 < i then lit else []) "seen" ++ wk (if 1 < i then dim else []) "hidden")))
      ⟨none, none, none, rfl, s0, ?_, ?_, upd_same, ?_⟩ (fun i σ H' _ ⟨_, _, _, _, _, _, _, e, _⟩ => SqT.of e) ?_ ?_⟩
    · rw [upd_ne e13, upd_ne e12, upd_same]
    · rw [upd_ne e23, upd_same]
    · rw [upd_ne ed3, upd_ne ed2, upd_ne n1, upd_same]
      rfl
    · rintro i x σ H' hi ⟨v4, v5, v6, rfl, s1, h1, h2, h3, hd⟩
      -- the two turns are one
      obtain ⟨tq, c, tc, sc, wd, kvs, rfl, hq, hc, htc, hkd, hn, hnc, hce, hfew, hend⟩ : ∃ (tq c : Addr) (tc : List Addr) (sc : List (List Int)) (wd : Str) (kvs : List (List Key × V)), x = .ref tq ∧ H' tq = some (.tup [.ref c, .str wd]) ∧ SqL K H c (tc.map V.ref) ∧ TsI H tc sc ∧ H' d = some (.dT kvs) ∧ (∀ s ∈ sc, valV kvs (kI s) = none) ∧ sc.Nodup ∧ (∀ s ∈ sc, (s.length : Int) = n) ∧ kvs.length + sc.length ≤ 100000 ∧
          kvs ++ wk sc wd = wk (if 0 < i + 1 then lit else []) "seen" ++ wk (if 1 < i + 1 then dim else []) "hidden" := by
        have hf := hw.few
        rw [List.length_append] at hf
        match i, hi with
        | 0, hi =>
          refine ⟨t1, a, ta, lit, "seen", [], (Option.some.inj hi).symm, h1, ha, hta, hd, fun _ _ => rfl, hnd.1, fun s hs => hw.each s (List.mem_append.mpr (.inl hs)), by rw [List.length_nil]; omega, ?_⟩
          rw [if_pos (by omega), if_neg (by omega)]
          exact (List.append_nil _).symm
        | 1, hi =>
          refine ⟨t2, b, tb, dim, "hidden", wk lit "seen", (Option.some.inj hi).symm, h2, hb, htb, by rw [hd, if_pos (by omega), if_neg (by omega)]; exact congrArg (fun z => some (HO.dT z)) (List.append_nil _), fun s hs => ?_, hnd.2.1, fun s hs => hw.each s (List.mem_append.mpr (.inr hs)), by show (lit.map _).length + _ ≤ _; rw [List.length_map]; omega, ?_⟩
          · rw [valV_wk, if_neg fun z => hnd.2.2 s z s hs rfl]
          · rw [if_pos (by omega), if_pos (by omega)]
      refine r_gtup (SqT.of hq) rfl ?_
      walk_at "rd"
      refine ⟨_, rfl, c, rfl, ⟨_, s1.seq hc⟩, for_list (K := K) (a := c) (xs := tc.map V.ref) (fun j σ H2 => ∃ v6 : Option V, σ = [some (.int n), some (.ref a), some (.ref b), some (.ref d), some (.ref c), some (.str wd), v6] ∧ But d H' H2 ∧ H2 d = some (.dT (kvs ++ wk (sc.take j) wd)))
        ⟨_, rfl, But.refl _ _, by rw [hkd]; exact congrArg (fun z => some (HO.dT z)) (List.append_nil _).symm⟩ (fun j σ H2 _ ⟨_, _, e, _⟩ => (But.of_new nd s1 e).seq hc) ?_ ?_⟩
      · rintro j y σ H2 hj ⟨v6, rfl, hB, hd2⟩
        obtain ⟨t, s, rfl, hts, hsj⟩ := ts_at htc hj
        have s2 := But.of_new nd s1 hB
        have hts2 := hts.same s2
        obtain ⟨g1, g2⟩ := put_next (word := wd) hsj hnc hn
        walk_at "rd"
        refine ⟨t, _, rfl, .inr hts2.sq, ?_⟩
        walk_at "rd"
        refine ⟨_, rfl, iteFb (by rw [List.length_map, hce s (List.mem_of_getElem? hsj), beq_self_eq_true]; rfl) ?_⟩
        walk_at "rd"
        refine ⟨d, _, rfl, DGet.t (k := kI s) hd2 hts2.key, _, rfl, ?_⟩
        rw [g1]
        refine iteFb rfl ?_
        walk_at "rd"
        have hz : (kvs ++ wk (sc.take j) wd).length < sizeLine := by
          have h1 : (wk (sc.take j) wd).length ≤ sc.length := by
            show (List.map _ _).length ≤ _
            rw [List.length_map, List.length_take]
            omega
          rw [List.length_append, sizeLine_eq]
          omega
        refine ⟨d, _, rfl, DPut.t (k := kI s) hd2 hts2.key hz, ?_⟩
        exact ⟨_, rfl, hB.mut, by rw [g2]; exact upd_same⟩
      · rintro σ H2 ⟨v6', rfl, hB, hd2⟩
        have hdt : ∀ {t : Addr} {xs : List V}, H' t = some (.tup xs) → t ≠ d := fun h z => by
          rw [z, hkd] at h
          injection h with h
          injection h
        refine ⟨_, _, _, rfl, But.of_new nd s1 hB, hB _ _ (hdt h1) h1, hB _ _ (hdt h2) h2, hB _ _ (hdt h3) h3, ?_⟩
        rw [hd2, ts_len htc, List.take_length, hend]
    · rintro σ H' ⟨v4, v5, v6, rfl, s1, _, _, _, hd⟩
      dsimp only
      walk_at "rd"
      exact q d _ nd s1 hd

/-! the class -/
def spInit (C : Addr) (K : PySem.W.Frag) : Sp := fun vs H Q _ => ∃ (p dx : Addr) (n : Int) (a b : Addr) (ta tb : List Addr) (lit dim : List (List Int)), vs = [.ref p, .int n, .ref a, .ref b] ∧ H p = some (.ins C dx []) ∧ SqL K H a (ta.map V.ref) ∧ TsI H ta lit ∧ SqL K H b (tb.map V.ref) ∧ TsI H tb dim ∧ Wf n lit dim ∧
  ∀ H', (∀ x o, x ≠ p → H x = some o → H' x = some o) → (Wf n lit dim → ∃ w a b, H' p = some (.ins C dx (pflds n w a b)) ∧ H' w = some (.dT (wk lit "seen" ++ wk dim "hidden")) ∧ LT H' a (srt lit) ∧ LT H' b (srt dim) ∧ H w = none ∧ H a = none ∧ H b = none) → Q .non H'
theorem in_size {n : Int} (h : n = 2 ∨ n = 3) : (if true = true then !inV (.int n) [.int 2, .int 3] else inV (.int n) [.int 2, .int 3]) = false := by
  rcases h with e | e <;> rw [e] <;> rfl
theorem ok_PictureUinitU (T : Txt K mg A) : FnOk P w K mg base CX0 2 A.a_PictureUinitU A.f_PictureUinitU ["self", "size", "seen", "hidden"] (spInit A.a_cPicture K) := by
  refine T.F_PictureUinitU.ok sc_PictureUinitU (fun vs H Q E h => ?_) (fun cdv A' outer s H vs Q E hr h => ⟨_, (pss_cons (ps_if (pt_cmpR op_notIn_seq (pv 1) (pe_tup (pa_cons pe_int (pa_cons pe_int pa_nil))) (by rfl)) (pss_one ps_never) pss_nil)
    (pss_cons (ps_fld (pv 0) (pe_call (ok_words_of T) (hr.mono (by decide)) rfl T.g_words_of T.k_words_of T.b_words_of .nil pass0 (pa_cons (pv 1) (pa_cons (pv 2) (pa_cons (pv 3) pa_nil)))) rfl)
    (pss_cons (ps_fld (pv 0) (pv 1) rfl)
    (pss_cons (ps_fld (pv 0) (pe_callB (cr_sortedTI hr.units) (by rfl) T.n_sorted (by decide +kernel) (pa_cons (pv 2) pa_nil)) rfl)
    (pss_one (ps_fld (pv 0) (pe_callB (cr_sortedTI hr.units) (by rfl) T.n_sorted (by decide +kernel) (pa_cons (pv 3) pa_nil)) rfl)))))), ?_⟩)
  · obtain ⟨p, dx, n, a, b, ta, tb, lit, dim, rfl, _⟩ := h
    rfl
  · obtain ⟨p, dx, n, a, b, ta, tb, lit, dim, rfl, hp, ha, hta, hb, htb, hw, q⟩ := h
    walk_at "rd"
    refine ⟨by show 2 ≤ sizeLine; decide, fun t2 nt2 => ?_⟩
    have s1 : Same H (upd H t2 (.tup [.int 2, .int 3])) := Same.new0 nt2
    refine ⟨t2, _, rfl, .inr (SqT.of upd_same), rfl, rfl, _, rfl, ?_⟩
    refine iteFb (in_size hw.size) ?_
    walk_at "rd"
    (try dsimp only)
    walk_at "rd"
    refine ⟨n, a, b, ta, tb, lit, dim, rfl, s1.seq ha, hta.same s1, s1.seq hb, htb.same s1, hw, fun d H2 nd s2 hd => ?_⟩
    have hp2 := s2 _ _ (s1 _ _ hp)
    have s12 := s1.trans s2
    walk_at "rd"
    refine ⟨p, _, dx, _, rfl, hp2, T.cl_Picture, T.na_Picture_words, by show 0 < 1000; decide, ?_⟩
    walk_at "rd"
    refine ⟨p, _, dx, _, rfl, upd_same, T.cl_Picture, T.na_Picture_size, by show 1 < 1000; decide, ?_⟩
    have b4 : But p H (upd (upd H2 p (.ins A.a_cPicture dx (putF "_words" (.ref d) []))) p (.ins A.a_cPicture dx (putF "_size" (.int n) (putF "_words" (.ref d) [])))) := (s12.but.mut).mut
    walk_at "rd"
    refine ⟨a, ta, lit, rfl, ha.but hp b4, hta.but hp b4, fun s hs => hw.ne s (List.mem_append.mpr (.inl hs)), fun ts' D1 hT1 nD1 => ?_⟩
    walk_at "rd"
    have eD1 := ne_of_none upd_same nD1
    refine ⟨p, _, dx, _, rfl, (upd_ne eD1).trans upd_same, T.cl_Picture, T.na_Picture_seen, by show 2 < 1000; decide, ?_⟩
    have b45 := b4.new (o := .lst (ts'.map V.ref)) nD1
    have b5 := b45.mut (o := .ins A.a_cPicture dx (putF "_seen" (.ref D1) (putF "_size" (.int n) (putF "_words" (.ref d) []))))
    walk_at "rd"
    refine ⟨b, tb, dim, rfl, hb.but hp b5, htb.but hp b5, fun s hs => hw.ne s (List.mem_append.mpr (.inr hs)), fun ts2 D2 hT2 nD2 => ?_⟩
    walk_at "rd"
    have eD2 := ne_of_none upd_same nD2
    refine ⟨p, _, dx, _, rfl, (upd_ne eD2).trans upd_same, T.cl_Picture, T.na_Picture_hidden, by show 3 < 1000; decide, ?_⟩
    have b56 := b5.new (o := .lst (ts2.map V.ref)) nD2
    have b6 := b56.mut (o := .ins A.a_cPicture dx (putF "_hidden" (.ref D2) (putF "_seen" (.ref D1) (putF "_size" (.int n) (putF "_words" (.ref d) [])))))
    have c2 : But p H2 (upd (upd H2 p (.ins A.a_cPicture dx (putF "_words" (.ref d) []))) p (.ins A.a_cPicture dx (putF "_size" (.int n) (putF "_words" (.ref d) [])))) := ((But.refl _ _).mut).mut
    have hp4 : (upd (upd H2 p (.ins A.a_cPicture dx (putF "_words" (.ref d) []))) p (.ins A.a_cPicture dx (putF "_size" (.int n) (putF "_words" (.ref d) [])))) p = some (.ins A.a_cPicture dx (putF "_size" (.int n) (putF "_words" (.ref d) []))) := upd_same
    refine q _ b6 fun _ => ⟨d, D1, D2, upd_same.trans (congrArg (fun z => some (HO.ins _ _ z)) (pflds_put ..)), ?_, ⟨ts', ?_, ?_⟩, ⟨ts2, ?_, ?_⟩, s1.free nd, b4.free nD1 eD1.symm, b5.free nD2 eD2.symm⟩
    · refine ((((c2.new nD1).mut).new nD2).mut) d _ (fun z => ?_) hd
      rw [z, hp2] at hd
      injection hd with hd
      injection hd
    · exact ((((But.refl _ _).mut).new nD2).mut) D1 _ eD1.symm upd_same
    · exact hT1.but hp4 (((((But.refl _ _).new nD1).mut).new nD2).mut)
    · exact (upd_ne eD2.symm).trans upd_same
    · exact hT2.but ((upd_same : upd _ p _ p = some (HO.ins A.a_cPicture dx _))) (((But.refl _ _).new nD2).mut)
/-! what is asked of a picture -/
def spSize (C : Addr) : Sp := fun vs H Q _ => ∃ (p : Addr) (n : Int) (lit dim : List (List Int)) (H0 : Hp), vs = [.ref p] ∧ Pic C H0 H p n lit dim ∧ Q (.int n) H
def spPlaces (C : Addr) (sn : Bool) : Sp := fun vs H Q _ => ∃ (p : Addr) (n : Int) (lit dim : List (List Int)) (H0 : Hp), vs = [.ref p] ∧ Pic C H0 H p n lit dim ∧ ∀ D H', H D = none → Same H H' → LT H' D (srt (if sn then lit else dim)) → Q (.ref D) H'
def spHas (C : Addr) : Sp := fun vs H Q _ => ∃ (p t : Addr) (s : List Int) (n : Int) (lit dim : List (List Int)) (H0 : Hp), vs = [.ref p, .ref t] ∧ TupI H t s ∧ Pic C H0 H p n lit dim ∧ Q (.bl (decide (s ∈ lit ++ dim))) H
def spLen (C : Addr) : Sp := fun vs H Q _ => ∃ (p : Addr) (n : Int) (lit dim : List (List Int)) (H0 : Hp), vs = [.ref p] ∧ Pic C H0 H p n lit dim ∧ Q (.int ((lit ++ dim).length : Nat)) H
theorem ok_Picturesize (T : Txt K mg A) : FnOk P w K mg base CX0 1 A.a_Picturesize A.f_Picturesize ["self"] (spSize A.a_cPicture) := by
  refine T.F_Picturesize.ok sc_Picturesize (fun vs H Q E h => ?_) (fun cdv A' outer s H vs Q E hr h => ⟨_, (pss_one (ps_ret (pe_fld (pv 0) rfl))), ?_⟩)
  · obtain ⟨p, n, lit, dim, H0, rfl, _⟩ := h
    rfl
  · obtain ⟨p, n, lit, dim, H0, rfl, ⟨hw, dx, w, a, b, hp, hd, hl, hm, _⟩, q⟩ := h
    walk_at "rd"
    exact ⟨p, _, dx, _, _, rfl, hp, T.cl_Picture, T.na_Picture_size, pf_size .., q⟩
theorem ok_Pictureseen (T : Txt K mg A) : FnOk P w K mg base CX0 1 A.a_Pictureseen A.f_Pictureseen ["self"] (spPlaces A.a_cPicture true) := by
  refine T.F_Pictureseen.ok sc_Pictureseen (fun vs H Q E h => ?_) (fun cdv A' outer s H vs Q E hr h => ⟨_, (pss_one (ps_ret (pe_callTy call_list_of (by rfl) T.n_list (by decide +kernel) (pa_cons (pe_fld (pv 0) rfl) pa_nil)))), ?_⟩)
  · obtain ⟨p, n, lit, dim, H0, rfl, _⟩ := h
    rfl
  · obtain ⟨p, n, lit, dim, H0, rfl, ⟨hw, dx, w, a, b, hp, hd, ⟨ts, h1, h2⟩, hm, _⟩, q⟩ := h
    walk_at "rd"
    refine ⟨p, _, dx, _, _, rfl, hp, T.cl_Picture, T.na_Picture_seen, pf_seen .., ?_⟩
    walk_at "rd"
    refine ⟨a, _, rfl, .inl (SqL.of h1), fun l nl => ?_⟩
    exact q l _ nl (Same.new0 nl) ⟨ts, upd_same, h2.same (Same.new0 nl)⟩
theorem ok_Picturehidden (T : Txt K mg A) : FnOk P w K mg base CX0 1 A.a_Picturehidden A.f_Picturehidden ["self"] (spPlaces A.a_cPicture false) := by
  refine T.F_Picturehidden.ok sc_Picturehidden (fun vs H Q E h => ?_) (fun cdv A' outer s H vs Q E hr h => ⟨_, (pss_one (ps_ret (pe_callTy call_list_of (by rfl) T.n_list (by decide +kernel) (pa_cons (pe_fld (pv 0) rfl) pa_nil)))), ?_⟩)
  · obtain ⟨p, n, lit, dim, H0, rfl, _⟩ := h
    rfl
  · obtain ⟨p, n, lit, dim, H0, rfl, ⟨hw, dx, w, a, b, hp, hd, hl, ⟨ts, h1, h2⟩, _⟩, q⟩ := h
    walk_at "rd"
    refine ⟨p, _, dx, _, _, rfl, hp, T.cl_Picture, T.na_Picture_hidden, pf_hidden .., ?_⟩
    walk_at "rd"
    refine ⟨b, _, rfl, .inl (SqL.of h1), fun l nl => ?_⟩
    exact q l _ nl (Same.new0 nl) ⟨ts, upd_same, h2.same (Same.new0 nl)⟩
theorem ok_PictureUcontainsU (T : Txt K mg A) : FnOk P w K mg base CX0 1 A.a_PictureUcontainsU A.f_PictureUcontainsU ["self", "x"] (spHas A.a_cPicture) := by
  refine T.F_PictureUcontainsU.ok sc_PictureUcontainsU (fun vs H Q E h => ?_) (fun cdv A' outer s H vs Q E hr h => ⟨_, (pss_one (ps_ret (pe_cmpR (op_inDct hr.units) (pv 1) (pe_fld (pv 0) rfl) (by rfl)))), ?_⟩)
  · obtain ⟨p, t, s, n, lit, dim, H0, rfl, _⟩ := h
    rfl
  · obtain ⟨p, t, s, n, lit, dim, H0, rfl, ht, ⟨hw, dx, w, a, b, hp, hd, _⟩, q⟩ := h
    walk_at "rd"
    refine ⟨p, _, dx, _, _, rfl, hp, T.cl_Picture, T.na_Picture_words, pf_words .., ?_⟩
    refine ⟨w, _, rfl, DGet.t (k := kI s) hd ht.key, ?_⟩
    rw [some_words]
    exact q
theorem ok_PictureUlenU (T : Txt K mg A) : FnOk P w K mg base CX0 1 A.a_PictureUlenU A.f_PictureUlenU ["self"] (spLen A.a_cPicture) := by
  refine T.F_PictureUlenU.ok sc_PictureUlenU (fun vs H Q E h => ?_) (fun cdv A' outer s H vs Q E hr h => ⟨_, (pss_one (ps_ret (pe_callB call_len_dT (by rfl) T.n_len (by decide +kernel) (pa_cons (pe_fld (pv 0) rfl) pa_nil)))), ?_⟩)
  · obtain ⟨p, n, lit, dim, H0, rfl, _⟩ := h
    rfl
  · obtain ⟨p, n, lit, dim, H0, rfl, ⟨hw, dx, w, a, b, hp, hd, _⟩, q⟩ := h
    walk_at "rd"
    refine ⟨p, _, dx, _, _, rfl, hp, T.cl_Picture, T.na_Picture_words, pf_words .., ?_⟩
    walk_at "rd"
    refine ⟨w, _, rfl, hd, ?_⟩
    have e : (wk lit "seen" ++ wk dim "hidden").length = (lit ++ dim).length := by
      rw [List.length_append, List.length_append]
      show (lit.map _).length + (dim.map _).length = _
      rw [List.length_map, List.length_map]
    rw [e]
    exact q

/-! a new picture -/
theorem make_pic {C : Addr} {K : PySem.W.Frag} {H : Hp} {n : Int} {a b x dx : Addr} {ta tb : List Addr} {lit dim : List (List Int)} {R : Hp → Prop} {E : XK} (nx : H x = none) (ndx : H dx = none) (ha : SqL K H a (ta.map V.ref)) (hta : TsI H ta lit) (hb : SqL K H b (tb.map V.ref)) (htb : TsI H tb dim) (hw : Wf n lit dim)
    (k : ∀ H', Same H H' → Pic C H H' x n lit dim → R H') : spInit C K [.ref x, .int n, .ref a, .ref b] (upd (upd H dx (.own x)) x (.ins C dx [])) (fun v H2 => v = .non ∧ R H2) E := by
  have sG : Same H (upd (upd H dx (.own x)) x (.ins C dx [])) := (Same.new0 ndx).putN nx
  refine ⟨x, dx, n, a, b, ta, tb, lit, dim, rfl, upd_same, sG.seq ha, hta.same sG, sG.seq hb, htb.same sG, hw, fun H' hB hk => ⟨rfl, ?_⟩⟩
  obtain ⟨w, a', b', h1, h2, h3, h4, h5, h6, h7⟩ := hk hw
  exact k H' (fun c o h => hB c o (ne_of_none h nx) (sG c o h)) ⟨hw, dx, w, a', b', h1, h2, h3, h4, nx, sG.free h5, sG.free h6, sG.free h7⟩
theorem make_picL {C : Addr} {K : PySem.W.Frag} {H : Hp} {n : Int} {a b x dx : Addr} {lit dim : List (List Int)} {R : Hp → Prop} {E : XK} (nx : H x = none) (ndx : H dx = none) (ha : LT H a lit) (hb : LT H b dim) (hw : Wf n lit dim)
    (k : ∀ H', Same H H' → Pic C H H' x n lit dim → R H') : spInit C K [.ref x, .int n, .ref a, .ref b] (upd (upd H dx (.own x)) x (.ins C dx [])) (fun v H2 => v = .non ∧ R H2) E := by
  obtain ⟨ta, h1, h2⟩ := ha
  obtain ⟨tb, h3, h4⟩ := hb
  exact make_pic nx ndx (SqL.of h1) h2 (SqL.of h3) h4 hw k

/-! shifted -/
/-- the sum of two places -/
def addI (s v : List Int) : List Int := List.zipWith (· + ·) s v
theorem addI_len {s v : List Int} (h : s.length = v.length) : (addI s v).length = s.length := by
  unfold addI
  rw [List.length_zipWith, h, Nat.min_self]
def spAdded : Sp := fun vs H Q _ => ∃ (t u : Addr) (s v : List Int), vs = [.ref t, .ref u] ∧ TupI H t s ∧ TupI H u v ∧ s.length = v.length ∧ s.length ≤ 1000 ∧ ∀ r H', Same H H' → TupI H' r (addI s v) → Q (.ref r) H'
theorem ok_added (T : Txt K mg A) : FnOk P w K mg base CX0 1 A.a_added A.f_added ["place", "shift"] spAdded := by
  refine T.F_added.ok sc_added (fun vs H Q E h => ?_) (fun cdv A' outer s H vs Q E hr h => ⟨_, (pss_one (ps_ret (pe_callTy call_tuple_of (by rfl) T.n_tuple (by decide +kernel) (pa_cons (pe_lc (own := [("number", 2), ("more", 3)]) (g := gTup K 2 (gCons (gName 2) (gCons (gName 3) gNil))) rfl sc_added.nd (RZ.pi_zipA rfl T.n_zip (pa_cons (pv 0) (pa_cons (pv 1) pa_nil))) (blkOk_by (own := [("number", 2), ("more", 3)]) (N := N_added) (sc := defScope s_added) (by decide +kernel)) (fun _ _ _ _ _ => pg_tup rfl (pgs_cons (pg_name (i := 2) sc_added.nd rfl (Or.inl rfl)) (pgs_cons (pg_name (i := 3) sc_added.nd rfl (Or.inl rfl)) pgs_nil))) (fun _ _ _ _ _ => pts_nil) (fun _ _ _ _ _ => (pe_op op_add (pv 2) (pv 3)))) pa_nil)))), ?_⟩)
  · obtain ⟨t, u, s, v, rfl, _⟩ := h
    rfl
  · obtain ⟨t, u, s, v, rfl, ht, hu, hl, h1000, q⟩ := h
    walk_at "rd"
    have hl2 : (s.map V.int).length = (v.map V.int).length := by rw [List.length_map, List.length_map, hl]
    refine ⟨_, rfl, _, rfl, t, u, _, _, rfl, .inr ⟨ht.sq, hu.sq, fun D nD => ?_⟩⟩
    refine lc_zipT (K := K) (a := t) (b := u) (xs := s.map V.int) (ys := v.map V.int) hl2 (fun i H' => Same H H' ∧ H' D = some (.lst ((addI (s.take i) (v.take i)).map V.int)))
      ⟨Same.new0 nD, upd_same⟩ (fun i H' ⟨e, _⟩ => ⟨(ht.same e).sq, (hu.same e).sq⟩) ?_ ?_
    · rintro i x y T0 H' hx hy ⟨e, hD⟩ nT
      obtain ⟨x, ex, rfl⟩ := ints_at hx
      obtain ⟨y, ey, rfl⟩ := ints_at hy
      refine r_gtup (SqT.of upd_same) rfl ?_
      walk_at "rd"
      refine ⟨rfl, ?_⟩
      walk_at "rd"
      refine iteT ?_
      walk_at "rd"
      have e2 := e.new (o := .tup [.int x, .int y]) nT
      have hD2 := (Same.new0 (o := .tup [.int x, .int y]) nT) _ _ hD
      refine ⟨_, hD2, ?_, e2.putN nD, ?_⟩
      · rw [List.length_map]
        unfold addI
        rw [List.length_zipWith, List.length_take, List.length_take, sizeLine_eq]
        omega
      · rw [upd_same, take_more ex, take_more ey]
        have hlen : (s.take i).length = (v.take i).length := by rw [List.length_take, List.length_take, hl]
        unfold addI
        rw [List.zipWith_append hlen, List.map_append]
        rfl
    · rintro H' ⟨e, hD⟩
      walk_at "rd"
      refine ⟨D, _, rfl, .inl ⟨SqL.of hD, fun r nr => ?_⟩⟩
      refine q r _ (e.new nr) ?_
      unfold TupI
      rw [upd_same, List.length_map, List.take_length, hl, List.take_length]

/-! the sums of the law -/
theorem addI_take {s v : List Int} {i : Nat} {x y : Int} (hx : s[i]? = some x) (hy : v[i]? = some y) : addI (s.take (i + 1)) (v.take (i + 1)) = addI (s.take i) (v.take i) ++ [x + y] := by
  have h1 := (List.getElem?_eq_some_iff.mp hx).1
  have h2 := (List.getElem?_eq_some_iff.mp hy).1
  have hl : (s.take i).length = (v.take i).length := by rw [List.length_take, List.length_take]; omega
  rw [take_more hx, take_more hy]
  unfold addI
  rw [List.zipWith_append hl]
  rfl
def spSum : Sp := fun vs H Q _ => ∃ (t u : Addr) (s v : List Int), vs = [.ref t, .ref u] ∧ TupI H t s ∧ TupI H u v ∧ s.length = v.length ∧ s.length ≤ 1000 ∧ ∀ r H', Same H H' → TupI H' r (addI s v) → Q (.ref r) H'
theorem ok_law_sum (T : Txt K mg A) : FnOk P w K mg base CX0 1 A.a_law_sum A.f_law_sum ["_law_place", "_law_offset"] spSum := by
  refine T.F_law_sum.ok sc_law_sum (fun vs H Q E h => ?_) (fun cdv A' outer s H vs Q E hr h => ⟨_, (pss_one (ps_ret (pe_callTy call_tuple_of (by rfl) T.n_tuple (by decide +kernel) (pa_cons (pe_lc (own := [("_law_k", 2)]) (g := gName 2) rfl sc_law_sum.nd (pi_range1 rfl T.n_range (pa_cons (pe_callB call_len_seq (by rfl) T.n_len (by decide +kernel) (pa_cons (pv 0) pa_nil)) pa_nil)) (blkOk_by (own := [("_law_k", 2)]) (N := N_law_sum) (sc := defScope s_law_sum) (by decide +kernel)) (fun _ _ _ _ _ => pg_name (i := 2) sc_law_sum.nd rfl (Or.inl rfl)) (fun _ _ _ _ _ => pts_nil) (fun _ _ _ _ _ => (pe_op op_add (pe_ix (show IxR _ (rIxT K) from ix_tup) (pv 0) (pv 2) (fun _ _ => rfl)) (pe_ix (show IxR _ (rIxT K) from ix_tup) (pv 1) (pv 2) (fun _ _ => rfl))))) pa_nil)))), ?_⟩)
  · obtain ⟨t, u, s, v, rfl, _⟩ := h
    rfl
  · obtain ⟨t, u, s, v, rfl, ht, hu, hl, h1000, q⟩ := h
    rw [show start N_law_sum [V.ref t, V.ref u] = [some (V.ref t), some (V.ref u), none] from rfl]
    walk_at "rd"
    refine ⟨_, rfl, t, _, rfl, .inr ht.sq, ?_⟩
    refine ⟨_, rfl, by omega, by rw [List.length_map]; omega, fun D nD => ?_⟩
    rw [List.length_map]
    refine lc_range (n := s.length) (fun i H5 => Same H H5 ∧ H5 D = some (.lst ((addI (s.take i) (v.take i)).map V.int))) ⟨Same.new0 nD, upd_same⟩ ?_ ?_
    · rintro i H5 hi ⟨s5, hD⟩
      obtain ⟨x, hx, ex⟩ := at_int (ns := s) (i := 0 + (i : Int)) (by omega) (by omega)
      obtain ⟨y, hy, ey⟩ := at_int (ns := v) (i := 0 + (i : Int)) (by omega) (by omega)
      have ei : (0 + (i : Int)).toNat = i := by omega
      rw [ei] at hx hy
      walk_at "nf"
      walk_at "rd"
      refine ⟨rfl, ?_⟩
      walk_at "rd"
      refine iteT ?_
      walk_at "rd"
      refine r_ixT (ht.same s5).sq ex ?_
      walk_at "rd"
      refine r_ixT (hu.same s5).sq ey ?_
      walk_at "rd"
      refine ⟨_, hD, ?_, s5.putN nD, ?_⟩
      · rw [List.length_map]
        unfold addI
        rw [List.length_zipWith, List.length_take, List.length_take, sizeLine_eq]
        omega
      · rw [upd_same, addI_take hx hy, List.map_append]
        rfl
    · rintro H5 ⟨s5, hD⟩
      rw [List.take_length, hl, List.take_length] at hD
      refine ⟨D, _, rfl, .inl ⟨SqL.of hD, fun r nr => ?_⟩⟩
      refine q r _ (s5.new nr) ?_
      unfold TupI
      rw [upd_same]

/-! the law's own divisor -/
theorem ok_law_divisor (T : Txt K mg A) : FnOk P w K mg base CX0 1 A.a_law_divisor A.f_law_divisor ["_law_place"] (spGcd K) := by
  refine T.F_law_divisor.ok sc_law_divisor (fun vs H Q E h => ?_) (fun cdv A' outer s H vs Q E hr h => ⟨_, (pss_cons (ps_set (i := 1) sc_law_divisor.nd rfl (Or.inl rfl) pe_int)
    (pss_cons (ps_for PassesOwn.never rfl (pi_tup (pv 0)) (pg_name (i := 2) sc_law_divisor.nd rfl (Or.inl rfl))
      (pss_cons (ps_set (i := 3) sc_law_divisor.nd rfl (Or.inl rfl) (pe_callB call_abs (by rfl) T.n_abs (by decide +kernel) (pa_cons (pv 2) pa_nil)))
    (pss_one (ps_while PassesOwn.never (pt_cmpR op_gt (pv 3) pe_int (nomark _)) (pss_one (ps_par (i := 1) (j := 3) (by rfl) sc_law_divisor.nd rfl rfl (by decide) rfl rfl (pa_cons (pv 3) (pa_cons (pe_op op_mod (pe_callTy call_int1 (by rfl) T.n_int (by decide +kernel) (pa_cons (pv 1) pa_nil)) (pv 3)) pa_nil)) (by rfl)))))))
    (pss_one (ps_ret (pv 1))))), ?_⟩)
  · obtain ⟨p, ns, rfl, _⟩ := h
    rfl
  · obtain ⟨t, ns, rfl, hT, q⟩ := h
    rw [show start N_law_divisor [V.ref t] = [some (V.ref t), none, none, none] from rfl]
    walk_at "rd"
    refine ⟨_, rfl, t, rfl, ⟨_, hT⟩, for_tup (K := K) (a := t) (xs := ns.map V.int) (fun i σ H' => ∃ (v u : Option V), σ = [some (.ref t), some (.int (gcdL (ns.take i) : Nat)), v, u] ∧ H' = H)
      ⟨none, none, rfl, rfl⟩ (fun i σ H' _ ⟨_, _, _, e⟩ => e ▸ hT) ?_ ?_⟩
    · rintro i x σ H' hi ⟨v, u, rfl, rfl⟩
      obtain ⟨z, hz, rfl⟩ := ints_at hi
      walk_at "nf"
      walk_at "rd"
      refine ⟨_, rfl, ?_⟩
      walk_at "nf"
      rw [show (if z < 0 then -z else z) = ((z.natAbs : Nat) : Int) by split <;> omega]
      refine while_by (fun σ2 H2 => ∃ (f o : Nat), σ2 = [some (.ref t), some (.int (f : Int)), some (.int z), some (.int (o : Int))] ∧ H2 = H' ∧ Nat.gcd f o = gcdL (ns.take (i + 1)))
        (fun σ2 _ => match σ2 with | [_, _, _, some (.int o)] => o.toNat | _ => 0) ⟨gcdL (ns.take i), z.natAbs, rfl, rfl, ?_⟩ ?_ ?_
      · rw [take_more hz, gcdL_append, gcdL_one]
      · rintro σ2 H2 ⟨f, o, rfl, rfl, hg⟩
        walk_at "rd"
        refine ⟨_, rfl, ite2 (fun hc => ?_) (fun hc => ?_)⟩
        · have hc' : (0 : Int) < (o : Int) := of_decide_eq_true hc
          walk_at "rd"
          refine Or.inl ⟨_, rfl, ?_⟩
          walk_at "rd"
          refine ⟨_, _, rfl, ⟨o, f % o, ?_, rfl, ?_⟩, ?_⟩
          · show [some (V.ref t), some (V.int (o : Int)), some (V.int z), some (V.int ((f : Int) % (o : Int)))] = _
            rw [← Int.natCast_emod]
          · rw [← hg, Nat.gcd_comm f o, Nat.gcd_rec o f, Nat.gcd_comm]
          · show ((f : Int) % (o : Int)).toNat < ((o : Nat) : Int).toNat
            have h1 := Int.emod_nonneg (f : Int) (b := (o : Int)) (by omega)
            have h2 := Int.emod_lt_of_pos (f : Int) (b := (o : Int)) (by omega)
            omega
        · have hc' : ¬ (0 : Int) < (o : Int) := fun z => hc (decide_eq_true z)
          have e : o = 0 := by omega
          subst e
          rw [Nat.gcd_zero_right] at hg
          exact ⟨_, _, by rw [← hg], rfl⟩
      · intro σ2 H2 Q1 Q2 hQ h
        obtain ⟨v1, e1, h⟩ := h
        exact ⟨v1, e1, by
          obtain ⟨i1, j1, a1, b1, k1, a2, c1⟩ := h
          exact ⟨i1, j1, a1, b1, k1, a2, hQ _ _ c1⟩⟩
    · rintro σ H' ⟨v, u, rfl, rfl⟩
      rw [List.length_map, List.take_length]
      (try dsimp only)
      walk_at "rd"
      exact q
def spSpotW : Sp := fun vs H Q _ => ∃ (p : Addr) (n k : Nat) (w : Int), vs = [.ref p, .int (n : Int), .int w] ∧ Wel H p k ∧ k ≤ 900000 ∧ n ≤ 10 ∧ 0 ≤ w ∧ w ≤ 10 ^ 60 ∧ ∀ t ns H', But p H H' → Wel H' p (k + n) → TupI H' t ns → ns.length = n → Q (.ref t) H'
theorem ok_law_spot (T : Txt K mg A) : FnOk P w K mg base CX0 2 A.a_law_spot A.f_law_spot ["_law_well_here", "_law_size", "_law_reach"] spSpotW := by
  refine T.F_law_spot.ok sc_law_spot (fun vs H Q E h => ?_) (fun cdv A' outer s H vs Q E hr h => ⟨_, (pss_one (ps_ret (pe_callTy call_tuple_of (by rfl) T.n_tuple (by decide +kernel) (pa_cons (pe_lc (own := [("_law_turn", 3)]) (g := gName 3) rfl sc_law_spot.nd (pi_range1 rfl T.n_range (pa_cons (pv 1) pa_nil)) (blkOk_by (own := [("_law_turn", 3)]) (N := N_law_spot) (sc := defScope s_law_spot) (by decide +kernel)) (fun _ _ _ _ _ => pg_name (i := 3) sc_law_spot.nd rfl (Or.inl rfl)) (fun _ _ _ _ _ => pts_nil) (fun _ _ _ _ _ => (pe_op op_sub (pe_call (ok_law_draw T) (hr.mono (by decide)) rfl T.g_law_draw T.k_law_draw T.b_law_draw .nil pass0 (pa_cons (pv 0) (pa_cons (pe_op op_add (pe_op op_mul pe_int (pv 2)) pe_int) pa_nil))) (pv 2)))) pa_nil)))), ?_⟩)
  · obtain ⟨p, n, k, w, rfl, _⟩ := h
    rfl
  · obtain ⟨p, n, k, w, rfl, hW, hk, hn, hw0, hw1, q⟩ := h
    rw [show start N_law_spot [V.ref p, V.int (n : Int), V.int w] = [some (V.ref p), some (V.int (n : Int)), some (V.int w), none] from rfl]
    walk_at "rd"
    refine ⟨_, rfl, (n : Int), rfl, by omega, by omega, fun D nD => lc_range (n := n) (fun i H5 => ∃ ms : List Int, ms.length = i ∧ H5 D = some (.lst (ms.map V.int)) ∧ But p H H5 ∧ Wel H5 p (k + i))
      ⟨[], rfl, upd_same, (Same.new0 nD).but, Wel.s_new nD hW⟩ ?_ ?_⟩
    · rintro i H5 hi ⟨ms, rfl, hD, hB5, hW5⟩
      walk_at "nf"
      walk_at "rd"
      refine ⟨rfl, ?_⟩
      walk_at "rd"
      refine iteT ?_
      walk_at "rd"
      refine ⟨p, 2 * w + 1, _, rfl, hW5, by omega, by omega, by omega, fun r H6 r0 r1 hB6 hW6 => ?_⟩
      have nDp : D ≠ p := (hW.ne nD).symm
      walk_at "rd"
      refine ⟨_, hB6 D _ nDp hD, by rw [List.length_map]; exact Nat.lt_of_lt_of_le hi (Nat.le_trans hn (by decide : 10 ≤ sizeLine)), ms ++ [r - w], by rw [List.length_append]; rfl, ?_, (hB5.trans hB6).putN nD, hW6.put nDp⟩
      rw [upd_same, List.map_append]
      rfl
    · rintro H5 ⟨ns, hl, hD, hB5, hW5⟩
      refine ⟨_, _, rfl, .inl ⟨SqL.of hD, fun t nt => ?_⟩⟩
      exact q t ns _ (hB5.new nt) (Wel.s_new nt hW5) (TupI.new rfl) hl

/-! shows -/
def isSeen (s v : List Int) : Bool := (((gcdL (addI s v) : Nat) : Int) == 1)
def shownB (l d : List (List Int)) (v : List Int) : Bool := l.all (fun s => isSeen s v) && d.all (fun s => !isSeen s v)
theorem all_perm {f : List Int → Bool} {l m : List (List Int)} (h : l.Perm m) : l.all f = m.all f := by
  rw [Bool.eq_iff_iff, List.all_eq_true, List.all_eq_true]
  exact ⟨fun k s hs => k s (h.mem_iff.mpr hs), fun k s hs => k s (h.mem_iff.mp hs)⟩
theorem shownB_srt (l d : List (List Int)) (v : List Int) : shownB (srt l) (srt d) v = shownB l d v := by
  unfold shownB
  rw [all_perm (srt_perm l), all_perm (srt_perm d)]
def spShows (C : Addr) : Sp := fun vs H Q _ => ∃ (p u : Addr) (n : Int) (l d : List (List Int)) (v : List Int) (H0 : Hp), vs = [.ref p, .ref u] ∧ Pic C H0 H p n l d ∧ TupI H u v ∧ (v.length : Int) = n ∧ ∀ H', Same H H' → Q (.bl (shownB l d v)) H'
theorem ok_shows (T : Txt K mg A) : FnOk P w K mg base CX0 4 A.a_shows A.f_shows ["picture", "shift"] (spShows A.a_cPicture) := by
  refine T.F_shows.ok sc_shows (fun vs H Q E h => ?_) (fun cdv A' outer s H vs Q E hr h => ⟨_, (pss_cons (ps_if (pt_cmpR op_ne (pe_callB call_len_seq (by rfl) T.n_len (by decide +kernel) (pa_cons (pv 1) pa_nil)) (pe_prop (pv 0) T.cl_Picture T.pr_Picturesize (ok_Picturesize T) (hr.mono (by decide)) T.b_Picturesize .nil pass0 rfl) (nomark _)) (pss_one ps_never) pss_nil)
    (pss_cons (ps_for PassesOwn.never rfl (pi_list (pe_prop (pv 0) T.cl_Picture T.pr_Pictureseen (ok_Pictureseen T) (hr.mono (by decide)) T.b_Pictureseen .nil pass0 rfl)) (pg_name (i := 2) sc_shows.nd rfl (Or.inl rfl))
      (pss_one (ps_if (pt_not (pt_val (pe_call (ok_is_seen T) (hr.mono (by decide)) rfl T.g_is_seen T.k_is_seen T.b_is_seen .nil pass0 (pa_cons (pe_call (ok_added T) (hr.mono (by decide)) rfl T.g_added T.k_added T.b_added .nil pass0 (pa_cons (pv 2) (pa_cons (pv 1) pa_nil))) pa_nil)))) (pss_one (ps_ret pe_bl)) pss_nil)))
    (pss_cons (ps_for PassesOwn.never rfl (pi_list (pe_prop (pv 0) T.cl_Picture T.pr_Picturehidden (ok_Picturehidden T) (hr.mono (by decide)) T.b_Picturehidden .nil pass0 rfl)) (pg_name (i := 2) sc_shows.nd rfl (Or.inl rfl))
      (pss_one (ps_if (pt_val (pe_call (ok_is_seen T) (hr.mono (by decide)) rfl T.g_is_seen T.k_is_seen T.b_is_seen .nil pass0 (pa_cons (pe_call (ok_added T) (hr.mono (by decide)) rfl T.g_added T.k_added T.b_added .nil pass0 (pa_cons (pv 2) (pa_cons (pv 1) pa_nil))) pa_nil))) (pss_one (ps_ret pe_bl)) pss_nil)))
    (pss_one (ps_ret pe_bl))))), ?_⟩)
  · obtain ⟨p, u, n, l, d, v, H0, rfl, _⟩ := h
    rfl
  · obtain ⟨p, u, n, l, d, v, H0, rfl, hP, hu, hv, q⟩ := h
    obtain ⟨hw, dx, w, a, b, hp, _⟩ := id hP
    rw [show start N_shows [V.ref p, V.ref u] = [some (V.ref p), some (V.ref u), none] from rfl]
    have len : ∀ s ∈ srt l ++ srt d, s.length = v.length ∧ s.length ≤ 1000 ∧ (s.length = 2 ∨ s.length = 3) := fun s hs => by
      have hm : s ∈ l ++ d := (((srt_perm l).append (srt_perm d)).mem_iff).mp hs
      have h1 := hw.each s hm
      have h2 := hw.size
      omega
    rw [← shownB_srt] at q
    walk_at "rd"
    refine ⟨u, _, rfl, .inr hu.sq, ?_⟩
    walk_at "rd"
    refine ⟨p, dx, _, rfl, hp, p, n, l, d, H0, rfl, hP, ?_⟩
    walk_at "rd"
    refine ⟨_, rfl, iteFb (by rw [List.length_map, hv, beq_self_eq_true]; rfl) ?_⟩
    walk_at "nf"
    walk_at "rd"
    (try dsimp only)
    refine r_seqForL ?_
    walk_at "rd"
    refine ⟨p, dx, _, rfl, hp, p, n, l, d, H0, rfl, hP, fun D1 H1 nD1 s1 hD1 => ?_⟩
    obtain ⟨ts, h1, h2⟩ := hD1
    change TsI H1 ts (srt l) at h2
    refine ⟨D1, rfl, ⟨_, SqL.of h1⟩, ?_⟩
    refine for_list (K := K) (a := D1) (xs := ts.map V.ref) (fun i σ H' => ∃ v2 : Option V, σ = [some (.ref p), some (.ref u), v2] ∧ Same H1 H' ∧ ((srt l).take i).all (fun s => isSeen s v) = true) ⟨none, rfl, Same.refl _, rfl⟩ (fun i σ H' _ ⟨_, _, e, _⟩ => SqL.of (e _ _ h1)) ?_ ?_
    · rintro i x σ H' hi ⟨v2, rfl, k0, hall⟩
      obtain ⟨t, s, rfl, hts, hsi⟩ := ts_at h2 hi
      obtain ⟨q1, q2, q3⟩ := len s (List.mem_append.mpr (.inl (List.mem_of_getElem? hsi)))
      walk_at "nf"
      walk_at "rd"
      refine ⟨t, u, s, v, rfl, hts.same k0, (hu.same s1).same k0, q1, q2, fun r H2 s2 hr2 => ?_⟩
      walk_at "rd"
      refine ⟨r, _, rfl, hr2.sq, by rw [addI_len q1]; exact q3, fun H3 s3 => ?_⟩
      refine ⟨_, rfl, ?_⟩
      show if (!isSeen s v) = true then _ else _
      cases hz : isSeen s v with
      | true =>
        refine iteFb rfl ?_
        walk_at "rd"
        refine ⟨_, rfl, (k0.trans s2).trans s3, ?_⟩
        rw [take_more hsi, List.all_append, hall, Bool.true_and, List.all_cons, hz]
        rfl
      | false =>
        refine iteTb rfl ?_
        walk_at "rd"
        have e : shownB (srt l) (srt d) v = false := by
          unfold shownB
          rw [Bool.and_eq_false_iff]
          left
          rw [List.all_eq_false]
          exact ⟨s, List.mem_of_getElem? hsi, by rw [hz]; decide⟩
        rw [e] at q
        exact q _ (((s1.trans k0).trans s2).trans s3)
    rintro σ H2 ⟨v2, rfl, k0, hall⟩
    rw [ts_len h2, List.take_length] at hall
    have s2 := s1.trans k0
    walk_at "nf"
    (try walk_at "rd")
    (try dsimp only)
    (try refine r_next ?_)
    (try dsimp only)
    refine r_seqForL ?_
    walk_at "rd"
    refine ⟨p, dx, _, rfl, s2 _ _ hp, p, n, l, d, H0, rfl, hP.same s2, fun D2 H3 nD2 s3 hD2 => ?_⟩
    obtain ⟨tb, h3, h4⟩ := hD2
    change TsI H3 tb (srt d) at h4
    refine ⟨D2, rfl, ⟨_, SqL.of h3⟩, ?_⟩
    refine for_list (K := K) (a := D2) (xs := tb.map V.ref) (fun i σ H' => ∃ v2 : Option V, σ = [some (.ref p), some (.ref u), v2] ∧ Same H3 H' ∧ ((srt d).take i).all (fun s => !isSeen s v) = true) ⟨_, rfl, Same.refl _, rfl⟩ (fun i σ H' _ ⟨_, _, e, _⟩ => SqL.of (e _ _ h3)) ?_ ?_
    · rintro i x σ H' hi ⟨v2, rfl, k1, hall2⟩
      obtain ⟨t, s, rfl, hts, hsi⟩ := ts_at h4 hi
      obtain ⟨q1, q2, q3⟩ := len s (List.mem_append.mpr (.inr (List.mem_of_getElem? hsi)))
      walk_at "nf"
      walk_at "rd"
      refine ⟨t, u, s, v, rfl, hts.same k1, ((hu.same s2).same s3).same k1, q1, q2, fun r H4 s4 hr4 => ?_⟩
      walk_at "rd"
      refine ⟨r, _, rfl, hr4.sq, by rw [addI_len q1]; exact q3, fun H5 s5 => ?_⟩
      refine ⟨_, rfl, ?_⟩
      show if isSeen s v = true then _ else _
      cases hz : isSeen s v with
      | false =>
        refine iteFb rfl ?_
        walk_at "rd"
        refine ⟨_, rfl, (k1.trans s4).trans s5, ?_⟩
        rw [take_more hsi, List.all_append, hall2, Bool.true_and, List.all_cons, hz]
        rfl
      | true =>
        refine iteTb rfl ?_
        walk_at "rd"
        have e : shownB (srt l) (srt d) v = false := by
          unfold shownB
          rw [Bool.and_eq_false_iff]
          right
          rw [List.all_eq_false]
          exact ⟨s, List.mem_of_getElem? hsi, by rw [hz]; decide⟩
        rw [e] at q
        exact q _ ((((s2.trans s3).trans k1).trans s4).trans s5)
    rintro σ H4 ⟨v3, rfl, k1, hall2⟩
    rw [ts_len h4, List.take_length] at hall2
    (try dsimp only)
    walk_at "rd"
    have e : shownB (srt l) (srt d) v = true := by
      unfold shownB
      rw [hall, hall2]
      rfl
    rw [e] at q
    exact q _ ((s2.trans s3).trans k1)
/-- the places with a mark -/
def pick (ss : List (List Int)) (bs : List Bool) : List (List Int) := ((ss.zip bs).filter (·.2)).map (·.1)
theorem pick_take {ss : List (List Int)} {bs : List Bool} {i : Nat} {s : List Int} {b : Bool} (h1 : ss[i]? = some s) (h2 : bs[i]? = some b) : pick (ss.take (i + 1)) (bs.take (i + 1)) = pick (ss.take i) (bs.take i) ++ if b = true then [s] else [] := by
  have l1 := (List.getElem?_eq_some_iff.mp h1).1
  have l2 := (List.getElem?_eq_some_iff.mp h2).1
  rw [take_more h1, take_more h2]
  unfold pick
  rw [List.zip_append (by rw [List.length_take, List.length_take]; omega), List.filter_append, List.map_append]
  cases b <;> rfl
theorem pick_sub (ss : List (List Int)) (bs : List Bool) : (pick ss bs).Sublist ss := by
  unfold pick
  refine ((List.filter_sublist (p := fun x : List Int × Bool => x.2)).map (fun x => x.1)).trans ?_
  induction ss generalizing bs with
  | nil => exact List.Sublist.refl _
  | cons a ss ih =>
    cases bs with
    | nil => exact List.nil_sublist _
    | cons b bs => exact (ih bs).cons₂ a
theorem mem_pick {s : List Int} {ss : List (List Int)} {bs : List Bool} (h : s ∈ pick ss bs) : ∃ i : Nat, ss[i]? = some s ∧ bs[i]? = some true := by
  obtain ⟨⟨s', b⟩, hx, rfl⟩ := List.mem_map.mp h
  obtain ⟨h1, h2⟩ := List.mem_filter.mp hx
  obtain ⟨i, hi⟩ := List.mem_iff_getElem?.mp h1
  rw [List.getElem?_zip_eq_some] at hi
  refine ⟨i, hi.1, ?_⟩
  rw [hi.2]
  exact congrArg some h2
theorem wf_pick {n : Nat} {ss : List (List Int)} {bs : List Bool} (hn : n = 2 ∨ n = 3) (hl : ∀ s ∈ ss, s.length = n) (nd : ss.Nodup) (hf : ss.length ≤ 1000) : Wf (n : Int) (pick ss bs) (pick ss (bs.map not)) := by
  have u1 := pick_sub ss bs
  have u2 := pick_sub ss (bs.map not)
  refine ⟨by omega, fun s hs => ?_, List.nodup_append.mpr ⟨nd.sublist u1, nd.sublist u2, fun x hx y hy e => ?_⟩, ?_⟩
  · rcases List.mem_append.mp hs with z | z
    · rw [hl s (u1.mem z)]
    · rw [hl s (u2.mem z)]
  · subst e
    obtain ⟨i, i1, i2⟩ := mem_pick hx
    obtain ⟨j, j1, j2⟩ := mem_pick hy
    have e := (List.getElem?_inj (List.getElem?_eq_some_iff.mp i1).1 nd).mp (i1.trans j1.symm)
    subst e
    rw [List.getElem?_map, i2] at j2
    cases j2
  · have h1 := u1.length_le
    have h2 := u2.length_le
    rw [List.length_append]
    omega


/-! the places of the law -/
def spSpotsW : Sp := fun vs H Q _ => ∃ (p u : Addr) (n k : Nat) (v : List Int), vs = [.ref p, .int (n : Int), .ref u] ∧ Wel H p k ∧ k ≤ 800000 ∧ (n = 2 ∨ n = 3) ∧ TupI H u v ∧ v.length = n ∧ ∀ D ss H', H D = none → But p H H' → Wel H' p (k + 50) → LT H' D ss → ss.Nodup → (∀ s ∈ ss, s.length = n) → ss.length ≤ 8 → Q (.ref D) H'
theorem ok_law_spots (T : Txt K mg A) : FnOk P w K mg base CX0 3 A.a_law_spots A.f_law_spots ["_law_well_here", "_law_size", "_law_offset"] spSpotsW := by
  refine T.F_law_spots.ok sc_law_spots (fun vs H Q E h => ?_) (fun cdv A' outer s H vs Q E hr h => ⟨_, (pss_cons (ps_set (i := 3) sc_law_spots.nd rfl (Or.inl rfl) (pe_ix ix_list (pe_lst (pa_cons pe_int (pa_cons pe_int (pa_cons pe_int (pa_cons (pe_op op_pow pe_int pe_int) pa_nil))))) (pe_call (ok_law_draw T) (hr.mono (by decide)) rfl T.g_law_draw T.k_law_draw T.b_law_draw .nil pass0 (pa_cons (pv 0) (pa_cons pe_int pa_nil))) (fun _ _ => rfl)))
    (pss_cons (ps_set (i := 4) sc_law_spots.nd rfl (Or.inl rfl) (pe_cmpR op_le (pe_callB (cr_max rfl) (by rfl) T.n_max (by decide +kernel) (pa_cons (pe_lc (own := [("_law_coordinate", 9)]) (g := gName 9) rfl sc_law_spots.nd (pi_tup (pv 2)) (blkOk_by (own := [("_law_coordinate", 9)]) (N := N_law_spots) (sc := defScope s_law_spots) (by decide +kernel)) (fun _ _ _ _ _ => pg_name (i := 9) sc_law_spots.nd rfl (Or.inl rfl)) (fun _ _ _ _ _ => pts_nil) (fun _ _ _ _ _ => (pe_callB call_abs (by rfl) T.n_abs (by decide +kernel) (pa_cons (pv 9) pa_nil)))) pa_nil)) (pe_op op_pow pe_int pe_int) (nomark _)))
    (pss_cons (ps_set (i := 5) sc_law_spots.nd rfl (Or.inl rfl) (pe_lst pa_nil))
    (pss_cons (ps_for PassesOwn.never rfl (pi_range1 rfl T.n_range (pa_cons (pe_call (ok_law_draw T) (hr.mono (by decide)) rfl T.g_law_draw T.k_law_draw T.b_law_draw .nil pass0 (pa_cons (pv 0) (pa_cons pe_int pa_nil))) pa_nil)) (pg_name (i := 6) sc_law_spots.nd rfl (Or.inl rfl))
      (pss_cons (ps_set (i := 7) sc_law_spots.nd rfl (Or.inr rfl) (pe_call (ok_law_spot T) (hr.mono (by decide)) rfl T.g_law_spot T.k_law_spot T.b_law_spot .nil pass0 (pa_cons (pv 0) (pa_cons (pv 1) (pa_cons (pv 3) pa_nil)))))
    (Evl.pss_cut (ps_if (PW.pt (pw_and (pt_val (pv 4)) (pw_and1 (pt_cmpR op_eq (pe_call (ok_law_draw T) (hr.mono (by decide)) rfl T.g_law_draw T.k_law_draw T.b_law_draw .nil pass0 (pa_cons (pv 0) (pa_cons pe_int pa_nil))) pe_int (nomark _))))) (pss_cons (ps_set (i := 8) sc_law_spots.nd rfl (Or.inr rfl) (pe_call (ok_law_draw T) (hr.mono (by decide)) rfl T.g_law_draw T.k_law_draw T.b_law_draw .nil pass0 (pa_cons (pv 0) (pa_cons pe_int pa_nil))))
    (pss_one (ps_set (i := 7) sc_law_spots.nd rfl (Or.inr rfl) (pe_callTy call_tuple_of (by rfl) T.n_tuple (by decide +kernel) (pa_cons (pe_lc (own := [("_law_k", 10)]) (g := gName 10) rfl sc_law_spots.nd (pi_range1 rfl T.n_range (pa_cons (pv 1) pa_nil)) (blkOk_by (own := [("_law_k", 10)]) (N := N_law_spots) (sc := defScope s_law_spots) (by decide +kernel)) (fun _ _ _ _ _ => pg_name (i := 10) sc_law_spots.nd rfl (Or.inl rfl)) (fun _ _ _ _ _ => pts_nil) (fun _ _ _ _ _ => (pe_op op_sub (pe_op op_mul (pv 8) (pe_ix (show IxR _ (rIxT K) from ix_tup) (pv 7) (pv 10) (fun _ _ => rfl))) (pe_ix (show IxR _ (rIxT K) from ix_tup) (pv 2) (pv 10) (fun _ _ => rfl))))) pa_nil))))) pss_nil)
    (pss_one (ps_if (pt_cmpR (op_notInD hr.u65) (pv 7) (pv 5) (by rfl)) (pss_one (ps_expr (pe_bm PySem.F.plainAttrs_list PySem.F.slot_list_append PySem.F.type_list_append mt_append (pv 5) (pa_cons (pv 7) pa_nil)))) pss_nil)))))
    (pss_one (ps_ret (pv 5))))))), ?_⟩)
  · obtain ⟨p, u, n, k, v, rfl, _⟩ := h
    rfl
  · obtain ⟨p, u, n, k, v, rfl, hW, hk, hn, hu, hv, q⟩ := h
    rw [show start N_law_spots [V.ref p, V.int (n : Int), V.ref u] = [some (V.ref p), some (V.int (n : Int)), some (V.ref u), none, none, none, none, none, none, none, none] from rfl]
    walk_at "rd"
    refine ⟨by show 4 ≤ sizeLine; decide, fun Lr nLr => ?_⟩
    have s1 := Same.new0 (H := H) (o := HO.lst [V.int 2, V.int 9, V.int 40, V.int (10 ^ Int.toNat 38)]) nLr
    have hLr : upd H Lr (HO.lst [V.int 2, V.int 9, V.int 40, V.int (10 ^ Int.toNat 38)]) Lr = some (HO.lst [V.int 2, V.int 9, V.int 40, V.int (10 ^ Int.toNat 38)]) := upd_same
    generalize upd H Lr (HO.lst [V.int 2, V.int 9, V.int 40, V.int (10 ^ Int.toNat 38)]) = H1 at s1 hLr ⊢
    walk_at "rd"
    refine ⟨p, 4, k, rfl, hW.same s1, by omega, by omega, by omega, fun r H2 r0 r1 hB2 hW2 => ?_⟩
    have nLp : Lr ≠ p := (hW.ne nLr).symm
    obtain ⟨z, hz, z0, z1⟩ : ∃ z : Int, atI [V.int 2, V.int 9, V.int 40, V.int (10 ^ Int.toNat 38)] r = some (.int z) ∧ 0 ≤ z ∧ z ≤ 10 ^ 60 := by
      have h4 : r = 0 ∨ r = 1 ∨ r = 2 ∨ r = 3 := by omega
      rcases h4 with rfl | rfl | rfl | rfl
      · exact ⟨_, rfl, by decide, by decide⟩
      · exact ⟨_, rfl, by decide, by decide⟩
      · exact ⟨_, rfl, by decide, by decide⟩
      · exact ⟨_, rfl, by decide, by decide⟩
    refine r_ixL (SqL.of (hB2 _ _ nLp hLr)) hz ?_
    have b2 : But p H H2 := s1.but.trans hB2
    have hu2 : TupI H2 u v := hB2 _ _ (fun z => by
      obtain ⟨x, y, w1, _⟩ := hW
      have h := hu
      unfold TupI at h
      rw [z, w1] at h
      cases h) (hu.same s1)
    walk_at "nf"
    walk_at "rd"
    refine ⟨_, rfl, u, rfl, ⟨_, hu2.sq⟩, fun D nD => lc_tup (K := K) (a := u) (xs := v.map V.int) (fun i H5 => Same H2 H5 ∧ ∃ ms : List Int, ms.length = i ∧ H5 D = some (.lst (ms.map V.int)))
      ⟨Same.new0 nD, [], rfl, upd_same⟩ (fun i H5 _ ⟨e, _⟩ => (hu2.same e).sq) ?_ ?_⟩
    · rintro i x H5 hi ⟨s5, ms, hm, hD⟩
      obtain ⟨y, hy, rfl⟩ := ints_at hi
      have hil := (List.getElem?_eq_some_iff.mp hy).1
      walk_at "nf"
      walk_at "rd"
      refine ⟨rfl, ?_⟩
      walk_at "rd"
      refine iteT ?_
      walk_at "rd"
      refine ⟨_, rfl, _, hD, by rw [List.length_map, sizeLine_eq]; omega, s5.putN nD, ms ++ [if y < 0 then -y else y], by rw [List.length_append, hm]; rfl, ?_⟩
      rw [upd_same, List.map_append]
      rfl
    rintro H3 ⟨s3, ms, hm, hD⟩
    rw [List.length_map] at hm
    refine ⟨D, ms, rfl, SqL.of hD, by omega, fun mx _ _ => ?_⟩
    walk_at "nf"
    walk_at "rd"
    generalize decide (mx ≤ 10 ^ Int.toNat 38) = near
    refine ⟨by show 0 ≤ sizeLine; decide, fun S nS => ?_⟩
    have s4 := Same.new0 (H := H3) (o := HO.lst []) nS
    have hS : upd H3 S (HO.lst []) S = some (HO.lst []) := upd_same
    generalize upd H3 S (HO.lst []) = H4 at s4 hS ⊢
    have b4 : But p H H4 := (b2.same s3).same s4
    have hW4 : Wel H4 p (k + 1) := (hW2.same s3).same s4
    walk_at "nf"
    walk_at "rd"
    refine ⟨_, rfl, p, 8, k + 1, rfl, hW4, by omega, by omega, by omega, fun r2 H5 r20 r21 hB5 hW5 => ?_⟩
    obtain ⟨m, rfl⟩ : ∃ m : Nat, r2 = (m : Int) := ⟨r2.toNat, by omega⟩
    have nSp : S ≠ p := (((hW2.same s3).ne nS)).symm
    have b5 : But p H H5 := b4.trans hB5
    have hu5 : TupI H5 u v := hB5 _ _ (fun z => by
      obtain ⟨x, y, w1, _⟩ := hW
      have h := hu
      unfold TupI at h
      rw [z, w1] at h
      cases h) ((hu2.same s3).same s4)
    have nS0 : H S = none := by
      cases e : H S with
      | none => rfl
      | some o => rw [s3 _ _ (b2 _ _ nSp e)] at nS; cases nS
    refine ⟨(m : Int), rfl, by omega, by omega, for_range (n := m) (fun i σ H' => ∃ v6 v7 v8 : Option V, σ = [some (.ref p), some (.int (n : Int)), some (.ref u), some (.int z), some (.bl near), some (.ref S), v6, v7, v8, none, none] ∧ But p H H' ∧ Wel H' p (k + 2 + 6 * i) ∧ TupI H' u v ∧ ∃ ss : List (List Int), LT H' S ss ∧ ss.Nodup ∧ (∀ s ∈ ss, s.length = n) ∧ ss.length ≤ i)
      ⟨none, none, none, rfl, b5, hW5, hu5, [], ⟨[], hB5 _ _ nSp hS, .nil⟩, List.nodup_nil, (fun _ z => nomatch z), Nat.zero_le _⟩ ?_ ?_⟩
    · rintro i σ H6 hi ⟨v6, v7, v8, rfl, b6, hW6, hu6, ss, hSS, nd, hl, few⟩
      walk_at "nf"
      walk_at "rd"
      refine ⟨p, n, k + 2 + 6 * i, z, rfl, hW6, by omega, by omega, z0, z1, fun t ns H7 hB7 hW7 ht hnl => ?_⟩
      have k7 := hB7.kpW hW6
      have b7 := b6.trans hB7
      have hu7 := hu6.kp k7
      walk_at "nf"
      walk_at "rd"
      refine r_cutIf (fun σ' G => ∃ (v8' : Option V) (t' : Addr) (ns' : List Int), σ' = [some (.ref p), some (.int (n : Int)), some (.ref u), some (.int z), some (.bl near), some (.ref S), some (.int (0 + (i : Int))), some (.ref t'), v8', none, none] ∧ But p H G ∧ Wel G p (k + 2 + 6 * i + 5) ∧ Kp H7 G ∧ TupI G t' ns' ∧ ns'.length = n) ?_ ?_
      · walk_at "rd"
        refine ⟨_, rfl, ite2 (fun _ => ?_) (fun _ => ?_)⟩
        · walk_at "rd"
          refine ⟨p, 3, _, rfl, hW7, by omega, by omega, by omega, fun r3 H8 _ _ hB8 hW8 => ?_⟩
          have k8 := hB8.kpW hW7
          walk_at "rd"
          refine ⟨_, rfl, ite2 (fun _ => ?_) (fun _ => ?_)⟩
          · walk_at "rd"
            refine ⟨p, 6, _, rfl, hW8, by omega, by omega, by omega, fun f H9 f0 f1 hB9 hW9 => ?_⟩
            have k9 := k8.trans (hB9.kpW hW8)
            have hu9 := hu7.kp k9
            have ht9 := ht.kp k9
            walk_at "nf"
            walk_at "rd"
            refine ⟨_, rfl, (n : Int), rfl, by omega, by omega, fun D2 nD2 => lc_range (n := n) (fun j G => ∃ ms : List Int, ms.length = j ∧ G D2 = some (.lst (ms.map V.int)) ∧ Same H9 G)
              ⟨[], rfl, upd_same, Same.new0 nD2⟩ ?_ ?_⟩
            · rintro j G hj ⟨ms, rfl, hD2, sG⟩
              obtain ⟨x, hx, ex⟩ := at_int (ns := ns) (i := 0 + (ms.length : Int)) (by omega) (by omega)
              obtain ⟨y, hy, ey⟩ := at_int (ns := v) (i := 0 + (ms.length : Int)) (by omega) (by omega)
              walk_at "nf"
              walk_at "rd"
              refine ⟨rfl, ?_⟩
              walk_at "rd"
              refine iteT ?_
              walk_at "rd"
              refine r_ixT (ht9.same sG).sq ex ?_
              walk_at "rd"
              refine r_ixT (hu9.same sG).sq ey ?_
              walk_at "rd"
              refine ⟨_, hD2, by rw [List.length_map, sizeLine_eq]; omega, ms ++ [f * x - y], by rw [List.length_append]; rfl, ?_, sG.putN nD2⟩
              rw [upd_same, List.map_append]
              rfl
            rintro H10 ⟨ms, hml, hD2, s10⟩
            walk_at "rd"
            refine ⟨D2, _, rfl, .inl ⟨SqL.of hD2, fun t2 nt2 => ?_⟩⟩
            exact ⟨_, t2, ms, rfl, (((b7.trans hB8).trans hB9).same s10).new nt2, (Wel.s_new nt2 (hW9.same s10)).mono (by omega), Kp.s_new nt2 (Kp.s_same s10 k9), upd_same, hml⟩
          · walk_at "rd"
            exact ⟨_, t, ns, rfl, b7.trans hB8, hW8.mono (by omega), k8, ht.kp k8, hnl⟩
        · walk_at "rd"
          refine iteF ?_
          walk_at "rd"
          exact ⟨_, t, ns, rfl, b7, hW7.mono (by omega), Kp.refl _, ht, hnl⟩
      · rintro σ' G ⟨v8', t', ns', rfl, bG, hWG, kG, ht', hnl'⟩
        have hSG := (hSS.kp k7).kp kG
        have huG := hu7.kp kG
        walk_at "nf"
        walk_at "rd"
        refine notIn_places (s := ns') ht' hSG ?_
        refine ⟨_, rfl, ite2 (fun hc => ?_) (fun hc => ?_)⟩
        · have hm : ns' ∉ ss := fun z => by
            rw [decide_eq_true z] at hc
            exact absurd hc (by decide)
          walk_at "rd"
          have eSp := hSG.neWel hWG
          obtain ⟨ts, h1, h2⟩ := hSG
          refine ⟨.inl ⟨rfl, _, SqL.of h1⟩, ?_⟩
          walk_at "rd"
          refine ⟨S, ts.map V.ref, .ref t', rfl, rfl, h1, by rw [ts_len h2, sizeLine_eq]; omega, ?_⟩
          walk_at "rd"
          exact ⟨_, _, _, rfl, bG.putN nS0, (hWG.put eSp).mono (by omega), huG.put h1, ss ++ [ns'], LT.push h1 h2 ht', List.nodup_append.mpr ⟨nd, List.pairwise_singleton _ _, fun a ha b hb e => hm (by rw [List.mem_singleton] at hb; rw [← hb, ← e]; exact ha)⟩, fun s hs => by
            rcases List.mem_append.mp hs with z | z
            · exact hl s z
            · rw [List.mem_singleton] at z
              rw [z]
              exact hnl', by rw [List.length_append]; exact Nat.succ_le_succ few⟩
        · walk_at "rd"
          exact ⟨_, _, _, rfl, bG, hWG.mono (by omega), huG, ss, hSG, nd, hl, by omega⟩
    · rintro σ H6 ⟨v6, v7, v8, rfl, b6, hW6, hu6, ss, hSS, nd, hl, few⟩
      walk_at "nf"
      walk_at "rd"
      exact q S ss _ nS0 b6 (hW6.mono (by omega)) hSS nd hl (by omega)

/-! the pictures that are told -/
def spTold (C : Addr) : Sp := fun vs H Q _ => ∃ (S M : Addr) (n : Nat) (ss : List (List Int)) (bs : List Bool), vs = [.int (n : Int), .ref S, .ref M] ∧ (n = 2 ∨ n = 3) ∧ LT H S ss ∧ H M = some (.lst (bs.map V.bl)) ∧ bs.length = ss.length ∧ ss.length ≤ 1000 ∧ ss.Nodup ∧ (∀ s ∈ ss, s.length = n) ∧ ∀ x H0 H', Same H H' → Pic C H0 H' x (n : Int) (pick ss bs) (pick ss (bs.map not)) → Q (.ref x) H'
theorem ok_law_told (T : Txt K mg A) : FnOk P w K mg base CX0 4 A.a_law_told A.f_law_told ["_law_size", "_law_spots_here", "_law_marks"] (spTold A.a_cPicture) := by
  refine T.F_law_told.ok sc_law_told (fun vs H Q E h => ?_) (fun cdv A' outer s H vs Q E hr h => ⟨_, (pss_cons (ps_setLc (i := 3) (own := [("_law_k", 4)]) (g := gName 4) rfl sc_law_told.nd rfl rfl (sw_true rfl rfl rfl (by decide +kernel)) (pi_range1 rfl T.n_range (pa_cons (pe_callB call_len_seq (by rfl) T.n_len (by decide +kernel) (pa_cons (pv 1) pa_nil)) pa_nil)) (blkOk_by (own := [("_law_k", 4)]) (N := N_law_told) (sc := defScope s_law_told) (by decide +kernel)) (fun _ _ _ _ _ => pg_name (i := 4) sc_law_told.nd rfl (Or.inl rfl)) (fun _ _ _ _ _ => (pts_one (pt_val (pe_ix (show IxR _ (rIxL K) from ix_list) (pv 2) (pv 4) (fun _ _ => rfl))))) (fun _ _ _ _ _ => (pe_ix (show IxR _ (rIxL K) from ix_list) (pv 1) (pv 4) (fun _ _ => rfl))))
    (pss_one (ps_ret (pe_make T.mk_Picture (ok_PictureUinitU T) (hr.mono (by decide)) rfl T.g_Picture T.b_PictureUinitU .nil pass0 (pa_cons (pv 0) (pa_cons (pv 3) (pa_cons (pe_lc (own := [("_law_k", 4)]) (g := gName 4) rfl sc_law_told.nd (pi_range1 rfl T.n_range (pa_cons (pe_callB call_len_seq (by rfl) T.n_len (by decide +kernel) (pa_cons (pv 1) pa_nil)) pa_nil)) (blkOk_by (own := [("_law_k", 4)]) (N := N_law_told) (sc := defScope s_law_told) (by decide +kernel)) (fun _ _ _ _ _ => pg_name (i := 4) sc_law_told.nd rfl (Or.inl rfl)) (fun _ _ _ _ _ => (pts_one (pt_not (pt_val (pe_ix (show IxR _ (rIxL K) from ix_list) (pv 2) (pv 4) (fun _ _ => rfl)))))) (fun _ _ _ _ _ => (pe_ix (show IxR _ (rIxL K) from ix_list) (pv 1) (pv 4) (fun _ _ => rfl)))) pa_nil))))))), ?_⟩)
  · obtain ⟨S, M, n, ss, bs, rfl, _⟩ := h
    rfl
  · obtain ⟨S, M, n, ss, bs, rfl, hn, ⟨ts, hS, hts⟩, hM, hbl, few, nd, hl, q⟩ := h
    rw [show start N_law_told [V.int (n : Int), V.ref S, V.ref M] = [some (V.int (n : Int)), some (V.ref S), some (V.ref M), none, none] from rfl]
    have at_b : ∀ {i : Nat}, i < ss.length → ∃ b, bs[i]? = some b ∧ atI (bs.map V.bl) (0 + (i : Int)) = some (.bl b) := fun {i} hi => by
      have hb : bs[i]? = some (bs[i]'(by omega)) := List.getElem?_eq_getElem (by omega)
      exact ⟨_, hb, by rw [Int.zero_add]; exact atI_nat (by rw [List.getElem?_map, hb]; rfl)⟩
    have at_s : ∀ {i : Nat}, i < ss.length → ∃ t s, ss[i]? = some s ∧ TupI H t s ∧ atI (ts.map V.ref) (0 + (i : Int)) = some (.ref t) := fun {i} hi => by
      obtain ⟨x, hx⟩ : ∃ x, (ts.map V.ref)[i]? = some x := ⟨_, List.getElem?_eq_getElem (by rw [ts_len hts]; exact hi)⟩
      obtain ⟨t, s, rfl, h1, h2⟩ := ts_at hts hx
      exact ⟨t, s, h2, h1, by rw [Int.zero_add]; exact atI_nat hx⟩
    have hlen : ∀ {rs : List Addr} {G : Hp} {i : Nat} {cs : List Bool}, TsI G rs (pick (ss.take i) cs) → (rs.map V.ref).length < sizeLine := fun {rs G i cs} hrs => by
      rw [ts_len hrs, sizeLine_eq]
      have h1 := (pick_sub (ss.take i) cs).length_le
      rw [List.length_take] at h1
      omega
    walk_at "rd"
    refine ⟨_, rfl, S, _, rfl, .inl (SqL.of hS), ?_⟩
    rw [ts_len hts]
    refine ⟨_, rfl, by omega, by omega, fun D nD => lc_range (n := ss.length) (fun i H5 => Same H H5 ∧ ∃ rs : List Addr, H5 D = some (.lst (rs.map V.ref)) ∧ TsI H5 rs (pick (ss.take i) (bs.take i))) ⟨Same.new0 nD, [], upd_same, .nil⟩ ?_ ?_⟩
    · rintro i H5 hi ⟨s5, rs, hD, hrs⟩
      obtain ⟨b, hb, eb⟩ := at_b hi
      obtain ⟨t, s, hsi, hts', et⟩ := at_s hi
      walk_at "nf"
      walk_at "rd"
      refine ⟨rfl, ?_⟩
      walk_at "rd"
      refine r_ixL (SqL.of (s5 _ _ hM)) eb ?_
      refine ⟨_, rfl, ite2 (fun hc => ?_) (fun hc => ?_)⟩
      · walk_at "rd"
        refine r_ixL (SqL.of (s5 _ _ hS)) et ?_
        refine ⟨_, hD, hlen hrs, s5.putN nD, rs ++ [t], by rw [upd_same, List.map_append]; rfl, ?_⟩
        rw [pick_take hsi hb, if_pos hc]
        exact Paired.snoc (hrs.put hD) ((hts'.same s5).put hD)
      · refine ⟨s5, rs, hD, ?_⟩
        rw [pick_take hsi hb, if_neg hc, List.append_nil]
        exact hrs
    rintro H1 ⟨s1, rs1, hD1, hrs1⟩
    rw [List.take_length, ← hbl, List.take_length] at hrs1
    walk_at "nf"
    walk_at "rd"
    refine r_make ?_
    walk_at "rd"
    refine ⟨_, rfl, S, _, rfl, .inl (SqL.of (s1 _ _ hS)), ?_⟩
    rw [ts_len hts]
    refine ⟨_, rfl, by omega, by omega, fun D2 nD2 => lc_range (n := ss.length) (fun i H5 => Same H1 H5 ∧ ∃ rs : List Addr, H5 D2 = some (.lst (rs.map V.ref)) ∧ TsI H5 rs (pick (ss.take i) ((bs.map not).take i))) ⟨Same.new0 nD2, [], upd_same, .nil⟩ ?_ ?_⟩
    · rintro i H5 hi ⟨s5, rs, hD, hrs⟩
      obtain ⟨b, hb, eb⟩ := at_b hi
      obtain ⟨t, s, hsi, hts', et⟩ := at_s hi
      have hb' : (bs.map not)[i]? = some (!b) := by rw [List.getElem?_map, hb]; rfl
      walk_at "nf"
      walk_at "rd"
      refine ⟨rfl, ?_⟩
      walk_at "rd"
      refine r_ixL (SqL.of (s5 _ _ (s1 _ _ hM))) eb ?_
      refine ⟨_, rfl, ite2 (fun hc => ?_) (fun hc => ?_)⟩
      · walk_at "rd"
        refine r_ixL (SqL.of (s5 _ _ (s1 _ _ hS))) et ?_
        refine ⟨_, hD, hlen hrs, s5.putN nD2, rs ++ [t], by rw [upd_same, List.map_append]; rfl, ?_⟩
        rw [pick_take hsi hb', if_pos hc]
        exact Paired.snoc (hrs.put hD) (((hts'.same s1).same s5).put hD)
      · refine ⟨s5, rs, hD, ?_⟩
        rw [pick_take hsi hb', if_neg hc, List.append_nil]
        exact hrs
    rintro H2 ⟨s2, rs2, hD2, hrs2⟩
    rw [List.take_length, show ss.length = (bs.map not).length by rw [List.length_map, hbl], List.take_length] at hrs2
    walk_at "nf"
    walk_at "rd"
    intro x dx nx ndx _
    refine make_picL nx ndx ⟨rs1, s2 _ _ hD1, hrs1.same s2⟩ ⟨rs2, hD2, hrs2⟩ (wf_pick hn hl nd few) fun H3 s3 P => ?_
    walk_at "rd"
    exact q x _ _ ((s1.trans s2).trans s3) P

theorem mem_pick' {s : List Int} {ss : List (List Int)} {bs : List Bool} {i : Nat} (h1 : ss[i]? = some s) (h2 : bs[i]? = some true) : s ∈ pick ss bs :=
  List.mem_map.mpr ⟨(s, true), List.mem_filter.mpr ⟨List.mem_iff_getElem?.mpr ⟨i, List.getElem?_zip_eq_some.mpr ⟨h1, h2⟩⟩, rfl⟩, rfl⟩
/-- the marks -/
def marksI (v : List Int) (ss : List (List Int)) : List Bool := ss.map fun s => isSeen s v
/-- the marks, with one turned round -/
def turnI (bs : List Bool) (k m : Nat) : List Bool := (List.range m).map fun j => (bs.getD j false != (j == k))
theorem shown_marks (v : List Int) (ss : List (List Int)) : shownB (pick ss (marksI v ss)) (pick ss ((marksI v ss).map not)) v = true := by
  unfold shownB
  rw [Bool.and_eq_true, List.all_eq_true, List.all_eq_true]
  refine ⟨fun s hs => ?_, fun s hs => ?_⟩
  · obtain ⟨i, h1, h2⟩ := mem_pick hs
    unfold marksI at h2
    rw [List.getElem?_map, h1] at h2
    exact Option.some.inj h2
  · obtain ⟨i, h1, h2⟩ := mem_pick hs
    unfold marksI at h2
    rw [List.getElem?_map, List.getElem?_map, h1] at h2
    exact Option.some.inj h2
theorem shown_turn {v : List Int} {ss : List (List Int)} {k : Nat} (hk : k < ss.length) : shownB (pick ss (turnI (marksI v ss) k ss.length)) (pick ss ((turnI (marksI v ss) k ss.length).map not)) v = false := by
  have h1 : ss[k]? = some (ss[k]'hk) := List.getElem?_eq_getElem hk
  have h2 : (turnI (marksI v ss) k ss.length)[k]? = some (!(isSeen (ss[k]'hk) v)) := by
    unfold turnI marksI
    rw [List.getElem?_map, List.getElem?_range hk]
    show some ((List.map (fun s => isSeen s v) ss).getD k false != (k == k)) = _
    rw [List.getD_eq_getElem?_getD, List.getElem?_map, h1, beq_self_eq_true]
    show some (isSeen _ v != true) = _
    cases isSeen (ss[k]'hk) v <;> rfl
  have h3 : ((turnI (marksI v ss) k ss.length).map not)[k]? = some (isSeen (ss[k]'hk) v) := by
    rw [List.getElem?_map, h2]
    show some (!!_) = _
    rw [Bool.not_not]
  unfold shownB
  rw [Bool.and_eq_false_iff, List.all_eq_false, List.all_eq_false]
  cases hz : isSeen (ss[k]'hk) v with
  | true =>
    rw [hz] at h3
    exact .inr ⟨_, mem_pick' h1 h3, by rw [hz]; decide⟩
  | false =>
    rw [hz] at h2
    exact .inl ⟨_, mem_pick' h1 h2, by rw [hz]; decide⟩
theorem r_neB {a b : Bool} {Q : VK} {H : Hp} (k : Q (.bl (a != b)) H) : rNe (.bl a) (.bl b) H Q := ⟨rfl, by rw [dec_bl]; exact k⟩
theorem turn_more (bs : List Bool) (k j : Nat) : turnI bs k (j + 1) = turnI bs k j ++ [bs.getD j false != (j == k)] := by
  unfold turnI
  rw [List.range_succ, List.map_append]
  rfl
theorem turn_len (bs : List Bool) (k j : Nat) : (turnI bs k j).length = j := by
  unfold turnI
  rw [List.length_map, List.length_range]
def spCase : Sp := fun vs H Q _ => ∃ (p : Addr), vs = [.ref p] ∧ Wel H p 0 ∧ ∀ H', But p H H' → Q (.bl true) H'
theorem ok_law_case (T : Txt K mg A) : FnOk P w K mg base CX0 6 A.a_law_case A.f_law_case ["_law_well_here"] spCase := by
  refine T.F_law_case.ok sc_law_case (fun vs H Q E h => ?_) (fun cdv A' outer s H vs Q E hr h => ⟨_, (pss_cons (ps_set (i := 1) sc_law_case.nd rfl (Or.inl rfl) (pe_op op_add pe_int (pe_call (ok_law_draw T) (hr.mono (by decide)) rfl T.g_law_draw T.k_law_draw T.b_law_draw .nil pass0 (pa_cons (pv 0) (pa_cons pe_int pa_nil)))))
    (pss_cons (ps_set (i := 2) sc_law_case.nd rfl (Or.inr rfl) (pe_call (ok_law_spot T) (hr.mono (by decide)) rfl T.g_law_spot T.k_law_spot T.b_law_spot .nil pass0 (pa_cons (pv 0) (pa_cons (pv 1) (pa_cons (pe_ix ix_list (pe_lst (pa_cons pe_int (pa_cons pe_int (pa_cons (pe_op op_pow pe_int pe_int) (pa_cons (pe_op op_pow pe_int pe_int) pa_nil))))) (pe_call (ok_law_draw T) (hr.mono (by decide)) rfl T.g_law_draw T.k_law_draw T.b_law_draw .nil pass0 (pa_cons (pv 0) (pa_cons pe_int pa_nil))) (fun _ _ => rfl)) pa_nil)))))
    (pss_cons (ps_set (i := 3) sc_law_case.nd rfl (Or.inl rfl) (pe_call (ok_law_spots T) (hr.mono (by decide)) rfl T.g_law_spots T.k_law_spots T.b_law_spots .nil pass0 (pa_cons (pv 0) (pa_cons (pv 1) (pa_cons (pv 2) pa_nil)))))
    (pss_cons (ps_set (i := 4) sc_law_case.nd rfl (Or.inr rfl) (pe_lc (own := [("_law_spot_here", 8)]) (g := gName 8) rfl sc_law_case.nd (pi_list (pv 3)) (blkOk_by (own := [("_law_spot_here", 8)]) (N := N_law_case) (sc := defScope s_law_case) (by decide +kernel)) (fun _ _ _ _ _ => pg_name (i := 8) sc_law_case.nd rfl (Or.inl rfl)) (fun _ _ _ _ _ => pts_nil) (fun _ _ _ _ _ => (pe_cmpR op_eq (pe_call (ok_law_divisor T) (hr.mono (by decide)) rfl T.g_law_divisor T.k_law_divisor T.b_law_divisor .nil pass0 (pa_cons (pe_call (ok_law_sum T) (hr.mono (by decide)) rfl T.g_law_sum T.k_law_sum T.b_law_sum .nil pass0 (pa_cons (pv 8) (pa_cons (pv 2) pa_nil))) pa_nil)) pe_int (nomark _)))))
    (pss_cons (ps_set (i := 5) sc_law_case.nd rfl (Or.inl rfl) (pe_call (ok_law_told T) (hr.mono (by decide)) rfl T.g_law_told T.k_law_told T.b_law_told .nil pass0 (pa_cons (pv 1) (pa_cons (pv 3) (pa_cons (pv 4) pa_nil)))))
    (pss_cons (ps_if (pt_cmpR op_isnot_bl (pe_call (ok_shows T) (hr.mono (by decide)) rfl T.g_shows T.k_shows T.b_shows .nil pass0 (pa_cons (pv 5) (pa_cons (pv 2) pa_nil))) pe_bl (nomark _)) (pss_one (ps_ret pe_bl)) pss_nil)
    (pss_cons (ps_for PassesOwn.never rfl (pi_range1 rfl T.n_range (pa_cons (pe_callB call_len_seq (by rfl) T.n_len (by decide +kernel) (pa_cons (pv 3) pa_nil)) pa_nil)) (pg_name (i := 6) sc_law_case.nd rfl (Or.inr rfl))
      (pss_cons (ps_setLc (i := 7) (own := [("_law_j", 9)]) (g := gName 9) rfl sc_law_case.nd rfl rfl (sw_true rfl rfl rfl (by decide +kernel)) (pi_range1 rfl T.n_range (pa_cons (pe_callB call_len_seq (by rfl) T.n_len (by decide +kernel) (pa_cons (pv 3) pa_nil)) pa_nil)) (blkOk_by (own := [("_law_j", 9)]) (N := N_law_case) (sc := defScope s_law_case) (by decide +kernel)) (fun _ _ _ _ _ => pg_name (i := 9) sc_law_case.nd rfl (Or.inl rfl)) (fun _ _ _ _ _ => pts_nil) (fun _ _ _ _ _ => (pe_cmpR op_ne (pe_ix (show IxR _ (rIxL K) from ix_list) (pv 4) (pv 9) (fun _ _ => rfl)) (pe_cmpR op_eq (pv 9) (pv 6) (nomark _)) (nomark _))))
    (pss_one (ps_if (pt_cmpR op_isnot_bl (pe_callK0 (ok_shows T) (hr.mono (by decide)) rfl T.g_shows T.k_shows T.kb_shows pass0 (pk_cons (pe_call (ok_law_told T) (hr.mono (by decide)) rfl T.g_law_told T.k_law_told T.b_law_told .nil pass0 (pa_cons (pv 1) (pa_cons (pv 3) (pa_cons (pv 7) pa_nil)))) (pk_cons (pv 2) pk_nil))) pe_bl (nomark _)) (pss_one (ps_ret pe_bl)) pss_nil))))
    (pss_one (ps_ret (pe_cmpR op_is_bl (pe_call (ok_shows T) (hr.mono (by decide)) rfl T.g_shows T.k_shows T.b_shows .nil pass0 (pa_cons (pv 5) (pa_cons (pv 2) pa_nil))) pe_bl (nomark _))))))))))), ?_⟩)
  · obtain ⟨p, rfl, _⟩ := h
    rfl
  · obtain ⟨p, rfl, hW, q⟩ := h
    rw [show start N_law_case [V.ref p] = [some (V.ref p), none, none, none, none, none, none, none, none, none] from rfl]
    walk_at "rd"
    refine ⟨p, 2, 0, rfl, hW, by omega, by omega, by omega, fun r1 H1 r10 r11 hB1 hW1 => ?_⟩
    obtain ⟨n, hn, hnn⟩ : ∃ n : Nat, 2 + r1 = (n : Int) ∧ (n = 2 ∨ n = 3) := ⟨(2 + r1).toNat, by omega, by omega⟩
    refine r_I0 ?_
    rw [hn]
    walk_at "rd"
    refine ⟨by show 4 ≤ sizeLine; decide, fun Lr nLr => ?_⟩
    have s2 := Same.new0 (H := H1) (o := HO.lst [V.int 1, V.int 40, V.int (10 ^ Int.toNat 38), V.int (10 ^ Int.toNat 59)]) nLr
    have hLr : upd H1 Lr (HO.lst [V.int 1, V.int 40, V.int (10 ^ Int.toNat 38), V.int (10 ^ Int.toNat 59)]) Lr = some (HO.lst [V.int 1, V.int 40, V.int (10 ^ Int.toNat 38), V.int (10 ^ Int.toNat 59)]) := upd_same
    generalize upd H1 Lr (HO.lst [V.int 1, V.int 40, V.int (10 ^ Int.toNat 38), V.int (10 ^ Int.toNat 59)]) = H2 at s2 hLr ⊢
    walk_at "rd"
    have hW2 := hW1.same s2
    refine ⟨p, 4, _, rfl, hW2, by omega, by omega, by omega, fun r H3 r0 r1' hB3 hW3 => ?_⟩
    obtain ⟨z, hz, z0, z1⟩ : ∃ z : Int, atI [V.int 1, V.int 40, V.int (10 ^ Int.toNat 38), V.int (10 ^ Int.toNat 59)] r = some (.int z) ∧ 0 ≤ z ∧ z ≤ 10 ^ 60 := by
      have h4 : r = 0 ∨ r = 1 ∨ r = 2 ∨ r = 3 := by omega
      rcases h4 with rfl | rfl | rfl | rfl
      · exact ⟨_, rfl, by decide, by decide⟩
      · exact ⟨_, rfl, by decide, by decide⟩
      · exact ⟨_, rfl, by decide, by decide⟩
      · exact ⟨_, rfl, by decide, by decide⟩
    have nLp : Lr ≠ p := (hW1.ne nLr).symm
    refine r_ixL (SqL.of (hB3 _ _ nLp hLr)) hz ?_
    walk_at "rd"
    refine ⟨p, n, _, z, rfl, hW3, by omega, by omega, z0, z1, fun u v H4 hB4 hW4 hu hv => ?_⟩
    walk_at "nf"
    walk_at "rd"
    refine ⟨p, u, n, _, v, rfl, hW4, by omega, hnn, hu, hv, fun S ss H5 nS hB5 hW5 hS nd hl few => ?_⟩
    have hu5 : TupI H5 u v := hu.kp (hB5.kpW hW4)
    have b5 : But p H H5 := (((hB1.trans s2.but).trans hB3).trans hB4).trans hB5
    obtain ⟨ts, hS1, hS2⟩ := id hS
    walk_at "nf"
    walk_at "rd"
    refine ⟨_, rfl, S, rfl, ⟨_, SqL.of hS1⟩, fun M nM => lc_list (K := K) (a := S) (xs := ts.map V.ref) (fun i H6 => Same H5 H6 ∧ H6 M = some (.lst ((marksI v (ss.take i)).map V.bl)))
      ⟨Same.new0 nM, upd_same⟩ (fun i H6 _ ⟨e, _⟩ => SqL.of (e _ _ hS1)) ?_ ?_⟩
    · rintro i x H6 hi ⟨s6, hM⟩
      obtain ⟨t, s, rfl, hts, hsi⟩ := ts_at hS2 hi
      have hsl := hl s (List.mem_of_getElem? hsi)
      walk_at "nf"
      walk_at "rd"
      refine ⟨rfl, ?_⟩
      walk_at "rd"
      refine iteT ?_
      walk_at "rd"
      refine ⟨t, u, s, v, rfl, hts.same s6, hu5.same s6, by omega, by omega, fun r H7 s7 hr7 => ?_⟩
      walk_at "rd"
      refine ⟨r, _, rfl, hr7.sq, ?_⟩
      walk_at "rd"
      refine ⟨_, s7 _ _ hM, by rw [List.length_map]; unfold marksI; rw [List.length_map, List.length_take, sizeLine_eq]; omega, (s6.trans s7).putN nM, ?_⟩
      rw [upd_same, take_more hsi]
      unfold marksI
      rw [List.map_append, List.map_append]
      rfl
    rintro H6 ⟨s6, hM⟩
    rw [ts_len hS2, List.take_length] at hM
    have hml : (marksI v ss).length = ss.length := by unfold marksI; rw [List.length_map]
    walk_at "nf"
    walk_at "rd"
    refine ⟨S, M, n, ss, marksI v ss, rfl, hnn, hS.same s6, hM, hml, by omega, nd, hl, fun x H0 H7 s7 P => ?_⟩
    walk_at "nf"
    walk_at "rd"
    have s67 := s6.trans s7
    refine ⟨x, u, (n : Int), _, _, v, H0, rfl, P, hu5.same s67, by rw [hv], fun H8 s8 => ?_⟩
    rw [shown_marks]
    walk_at "rd"
    refine ⟨_, _, rfl, rfl, _, rfl, iteFb rfl ?_⟩
    walk_at "rd"
    dsimp only
    have s58 := s67.trans s8
    have hSl : H8 S = some (.lst (ts.map V.ref)) := s58 _ _ hS1
    have hMl : H8 M = some (.lst ((marksI v ss).map V.bl)) := (s7.trans s8) _ _ hM
    have P8 := P.same s8
    have hS8 := hS.same s58
    have hu8 := hu5.same s58
    refine ⟨_, rfl, S, _, rfl, .inl (SqL.of hSl), ?_⟩
    rw [ts_len hS2]
    refine ⟨_, rfl, by omega, by omega, for_range (n := ss.length) (fun i σ H' => ∃ v6 v7 v8 : Option V, σ = [some (.ref p), some (.int (n : Int)), some (.ref u), some (.ref S), some (.ref M), some (.ref x), v6, v7, v8, none] ∧ Same H8 H') ⟨none, none, none, rfl, Same.refl _⟩ ?_ ?_⟩
    · rintro i σ H9 hi ⟨v6, v7, v8, rfl, s9⟩
      walk_at "nf"
      walk_at "rd"
      refine ⟨_, rfl, S, _, rfl, .inl (SqL.of (s9 _ _ hSl)), ?_⟩
      rw [ts_len hS2]
      refine ⟨_, rfl, by omega, by omega, fun D nD => lc_range (n := ss.length) (fun j G => Same H9 G ∧ G D = some (.lst ((turnI (marksI v ss) i j).map V.bl))) ⟨Same.new0 nD, upd_same⟩ ?_ ?_⟩
      · rintro j G hj ⟨sG, hD⟩
        have hb : (marksI v ss)[j]? = some ((marksI v ss).getD j false) := by
          rw [List.getD_eq_getElem?_getD, List.getElem?_eq_getElem (by omega)]
          rfl
        have eb : atI ((marksI v ss).map V.bl) (0 + (j : Int)) = some (.bl ((marksI v ss).getD j false)) := by
          rw [Int.zero_add]
          exact atI_nat (by rw [List.getElem?_map, hb]; rfl)
        walk_at "nf"
        walk_at "rd"
        refine ⟨rfl, ?_⟩
        walk_at "rd"
        refine iteT ?_
        walk_at "rd"
        refine r_ixL (SqL.of (sG _ _ (s9 _ _ hMl))) eb ?_
        walk_at "rd"
        refine r_neB ?_
        refine ⟨_, hD, by rw [List.length_map, turn_len, sizeLine_eq]; omega, sG.putN nD, ?_⟩
        have e : ((0 + (j : Int)) == (0 + (i : Int))) = (j == i) := by
          rw [Bool.eq_iff_iff, beq_iff_eq, beq_iff_eq]
          omega
        rw [upd_same, turn_more, List.map_append, e]
        rfl
      rintro H10 ⟨s10, hD⟩
      walk_at "nf"
      walk_at "rd"
      have s810 := s9.trans s10
      refine ⟨S, D, n, ss, _, rfl, hnn, hS8.same s810, hD, turn_len _ _ _, by omega, nd, hl, fun y H0' H11 s11 P' => ?_⟩
      walk_at "nf"
      walk_at "rd"
      refine ⟨y, u, (n : Int), _, _, v, H0', rfl, P', (hu8.same s810).same s11, by rw [hv], fun H12 s12 => ?_⟩
      rw [shown_turn hi]
      walk_at "rd"
      refine ⟨_, _, rfl, rfl, _, rfl, iteFb rfl ?_⟩
      walk_at "rd"
      exact ⟨_, _, _, rfl, ((s9.trans s10).trans s11).trans s12⟩
    · rintro σ H9 ⟨v6, v7, v8, rfl, s9⟩
      walk_at "nf"
      walk_at "rd"
      refine ⟨x, u, (n : Int), _, _, v, H0, rfl, P8.same s9, hu8.same s9, by rw [hv], fun H10 s10 => ?_⟩
      rw [shown_marks]
      walk_at "rd"
      refine ⟨_, _, rfl, rfl, ?_⟩
      exact q _ (((b5.same s58).same s9).same s10)

/-! law: the wells, one by one -/
theorem ok_law (T : Txt K mg A) : FnOk P w K mg base CX0 7 A.a_law A.f_law ["_law_script"] (spLaw K) := by
  refine T.F_law.ok sc_law (fun vs H Q E h => ?_) (fun cdv A' outer s H vs Q E hr h => ⟨_, (pss_cons (ps_for PassesOwn.never rfl (pi_range1 rfl T.n_range (pa_cons (pe_callB (call_max2 rfl) (by rfl) T.n_max (by decide +kernel) (pa_cons pe_int (pa_cons (pe_callB (call_min2 rfl) (by rfl) T.n_min (by decide +kernel) (pa_cons (pe_callB call_len_seq (by rfl) T.n_len (by decide +kernel) (pa_cons (pv 0) pa_nil)) (pa_cons pe_int pa_nil))) pa_nil))) pa_nil)) (pg_name (i := 1) sc_law.nd rfl (Or.inl rfl))
      (pss_one (ps_if (pt_not (pt_val (pe_call (ok_law_case T) (hr.mono (by decide)) rfl T.g_law_case T.k_law_case T.b_law_case .nil pass0 (pa_cons (pe_call (ok_law_well T) (hr.mono (by decide)) rfl T.g_law_well T.k_law_well T.b_law_well .nil pass0 (pa_cons (pv 0) (pa_cons (pv 1) pa_nil))) pa_nil)))) (pss_one (ps_ret pe_bl)) pss_nil)))
    (pss_one (ps_ret pe_bl))), ?_⟩)
  · obtain ⟨p, ns, rfl, _⟩ := h
    rfl
  · obtain ⟨a, ns, rfl, hS, hlen, hbits, q⟩ := h
    rw [show start N_law [V.ref a] = [some (V.ref a), none] from rfl]
    walk_at "rd"
    refine ⟨_, rfl, a, _, rfl, .inl hS, ?_⟩
    rw [List.length_map]
    walk_at "rd"
    refine ⟨_, _, rfl, ?_⟩
    walk_at "rd"
    refine ⟨_, _, rfl, ?_⟩
    walk_at "rd"
    generalize hm : (if (if (5 : Int) < (ns.length : Int) then (5 : Int) else (ns.length : Int)) > 1 then (if (5 : Int) < (ns.length : Int) then (5 : Int) else (ns.length : Int)) else 1) = mm
    have hmm : 1 ≤ mm ∧ mm ≤ 5 := by
      rw [← hm]
      repeat' split
      all_goals omega
    obtain ⟨m, rfl⟩ : ∃ m : Nat, mm = (m : Int) := ⟨mm.toNat, by omega⟩
    refine ⟨(m : Int), rfl, by omega, by omega, for_range (n := m) (fun i σ H' => ∃ v : Option V, σ = [some (.ref a), v] ∧ Same H H') ⟨none, rfl, Same.refl _⟩ ?_ ?_⟩
    · rintro i σ H1 hi ⟨v, rfl, s1⟩
      walk_at "nf"
      walk_at "rd"
      refine ⟨a, ns, i, by rw [Int.zero_add]; rfl, s1.seq hS, by omega, fun p H2 np s2 hW => ?_⟩
      walk_at "rd"
      refine ⟨p, rfl, hW, fun H3 hB => ?_⟩
      refine ⟨_, rfl, iteFb rfl ?_⟩
      walk_at "rd"
      exact ⟨_, rfl, s1.trans fun b o h => hB b o (ne_of_none h np) (s2 b o h)⟩
    · rintro σ H1 ⟨v, rfl, s1⟩
      walk_at "nf"
      walk_at "rd"
      exact q _

end
theorem all_mk {l : PySem.W.OpenLaw} {w : World} {K : PySem.W.Frag} {h : Heap} {mg : Str → Option Value} {fa : Addr} (X : K.In h) (G : h.Ns mainGlobals mg) (hfa : mg "law" = some (.ref fa))
    {cPicture : Addr}
    (aCPicture : PySem.W.nsIn K mainGlobals "Picture" = some (some (.ref cPicture)))
    (pgPicture : PySem.W.plainGet K cPicture Str.empty = true)
    (hdPicture : PySem.W.hasDictIn K cPicture = true)
    (poPicture : PySem.W.plainOver K cPicture = true)
    (saPicture : PySem.W.findIn K (.ref cPicture) "__setattr__" = some (some (.builtin "object.__setattr__")))
    (mkPicture : PySem.W.makesIn K cPicture = true)
    (kcPicture : PySem.W.keepIn K (.ref cPicture) = true)
    (haPicture : PySem.W.findIn K (.ref cPicture) "__class__" = some (some (.builtin "object.__class__")))
    (hnPicture : PySem.W.specialIn K (.builtin "object.__class__") "__get__" = some (some (.builtin "getset_descriptor.__get__")))
    (htPicture : PySem.W.takesIn K (.builtin "object.__class__") = some true)
    (hmPicture : PySem.W.mroIn K cPicture (.type "object") = some true)
    (naPicture_words : PySem.W.findIn K (.ref cPicture) "_words" = some none)
    (naPicture_size : PySem.W.findIn K (.ref cPicture) "_size" = some none)
    (naPicture_seen : PySem.W.findIn K (.ref cPicture) "_seen" = some none)
    (naPicture_hidden : PySem.W.findIn K (.ref cPicture) "_hidden" = some none)
    {od0 an0 : Option Addr} {sl0 : Array (Option Value)} {oc0 kV0 dc0 pm0 cd0 ct0 : Value} {f0 : Addr}
    (a0 : PySem.W.nsIn K mainGlobals "common_divisor" = some (some (.ref f0)))
    (l0 : K.lookup f0 = some ⟨oc0, od0, .func (PySem.W.fnOf "common_divisor" "common_divisor" (defArgs s_common_divisor) (defBody s_common_divisor) (defScope s_common_divisor) .none kV0 dc0 pm0 an0 cd0 ct0), sl0⟩)
    (c0 : PySem.W.codeIn K cd0 "common_divisor" = true)
    (k0 : PySem.W.keepIn K (.ref f0) = true)
    {od1 an1 : Option Addr} {sl1 : Array (Option Value)} {oc1 kV1 dc1 pm1 cd1 ct1 : Value} {f1 : Addr}
    (a1 : PySem.W.nsIn K mainGlobals "added" = some (some (.ref f1)))
    (l1 : K.lookup f1 = some ⟨oc1, od1, .func (PySem.W.fnOf "added" "added" (defArgs s_added) (defBody s_added) (defScope s_added) .none kV1 dc1 pm1 an1 cd1 ct1), sl1⟩)
    (c1 : PySem.W.codeIn K cd1 "added" = true)
    (k1 : PySem.W.keepIn K (.ref f1) = true)
    {od2 an2 : Option Addr} {sl2 : Array (Option Value)} {oc2 kV2 dc2 pm2 cd2 ct2 : Value} {f2 : Addr}
    (a2 : PySem.W.nsIn K mainGlobals "divisor_of" = some (some (.ref f2)))
    (l2 : K.lookup f2 = some ⟨oc2, od2, .func (PySem.W.fnOf "divisor_of" "divisor_of" (defArgs s_divisor_of) (defBody s_divisor_of) (defScope s_divisor_of) .none kV2 dc2 pm2 an2 cd2 ct2), sl2⟩)
    (c2 : PySem.W.codeIn K cd2 "divisor_of" = true)
    (k2 : PySem.W.keepIn K (.ref f2) = true)
    {od3 an3 : Option Addr} {sl3 : Array (Option Value)} {oc3 kV3 dc3 pm3 cd3 ct3 : Value} {f3 : Addr}
    (a3 : PySem.W.nsIn K mainGlobals "is_seen" = some (some (.ref f3)))
    (l3 : K.lookup f3 = some ⟨oc3, od3, .func (PySem.W.fnOf "is_seen" "is_seen" (defArgs s_is_seen) (defBody s_is_seen) (defScope s_is_seen) .none kV3 dc3 pm3 an3 cd3 ct3), sl3⟩)
    (c3 : PySem.W.codeIn K cd3 "is_seen" = true)
    (k3 : PySem.W.keepIn K (.ref f3) = true)
    {od4 an4 : Option Addr} {sl4 : Array (Option Value)} {oc4 kV4 dc4 pm4 cd4 ct4 : Value} {f4 : Addr}
    (a4 : PySem.W.nsIn K mainGlobals "shows" = some (some (.ref f4)))
    (l4 : K.lookup f4 = some ⟨oc4, od4, .func (PySem.W.fnOf "shows" "shows" (defArgs s_shows) (defBody s_shows) (defScope s_shows) .none kV4 dc4 pm4 an4 cd4 ct4), sl4⟩)
    (c4 : PySem.W.codeIn K cd4 "shows" = true)
    (k4 : PySem.W.keepIn K (.ref f4) = true)
    {od5 an5 : Option Addr} {sl5 : Array (Option Value)} {oc5 kV5 dc5 pm5 cd5 ct5 : Value} {f5 : Addr}
    (a5 : PySem.W.nsIn K mainGlobals "words_of" = some (some (.ref f5)))
    (l5 : K.lookup f5 = some ⟨oc5, od5, .func (PySem.W.fnOf "words_of" "words_of" (defArgs s_words_of) (defBody s_words_of) (defScope s_words_of) .none kV5 dc5 pm5 an5 cd5 ct5), sl5⟩)
    (c5 : PySem.W.codeIn K cd5 "words_of" = true)
    (k5 : PySem.W.keepIn K (.ref f5) = true)
    {od6 an6 : Option Addr} {sl6 : Array (Option Value)} {oc6 kV6 dc6 pm6 cd6 ct6 : Value} {f6 : Addr}
    (a6 : PySem.W.findIn K (.ref cPicture) "__init__" = some (some (.ref f6)))
    (i6 : PySem.W.isFn K (.ref f6) = true)
    (l6 : K.lookup f6 = some ⟨oc6, od6, .func (PySem.W.fnOf "__init__" "Picture.__init__" (defArgs s_PictureUinitU) (defBody s_PictureUinitU) (defScope s_PictureUinitU) .none kV6 dc6 pm6 an6 cd6 ct6), sl6⟩)
    (c6 : PySem.W.codeIn K cd6 "Picture.__init__" = true)
    (k6 : PySem.W.keepIn K (.ref f6) = true)
    {od7 an7 : Option Addr} {sl7 : Array (Option Value)} {oc7 kV7 dc7 pm7 cd7 ct7 : Value} {f7 : Addr}
    {p7 : Addr} {re7 : List Value}
    (a7 : PySem.W.findIn K (.ref cPicture) "size" = some (some (.ref p7)))
    (i7 : PySem.W.recIn K p7 "property" = some (.ref f7 :: re7))
    (y7 : PySem.W.specialIn K (.ref p7) "__get__" = some (some (.builtin "property.__get__")))
    (t7 : PySem.W.takesIn K (.ref p7) = some true)
    (l7 : K.lookup f7 = some ⟨oc7, od7, .func (PySem.W.fnOf "size" "Picture.size" (defArgs s_Picturesize) (defBody s_Picturesize) (defScope s_Picturesize) .none kV7 dc7 pm7 an7 cd7 ct7), sl7⟩)
    (c7 : PySem.W.codeIn K cd7 "Picture.size" = true)
    (k7 : PySem.W.keepIn K (.ref f7) = true)
    {od8 an8 : Option Addr} {sl8 : Array (Option Value)} {oc8 kV8 dc8 pm8 cd8 ct8 : Value} {f8 : Addr}
    {p8 : Addr} {re8 : List Value}
    (a8 : PySem.W.findIn K (.ref cPicture) "seen" = some (some (.ref p8)))
    (i8 : PySem.W.recIn K p8 "property" = some (.ref f8 :: re8))
    (y8 : PySem.W.specialIn K (.ref p8) "__get__" = some (some (.builtin "property.__get__")))
    (t8 : PySem.W.takesIn K (.ref p8) = some true)
    (l8 : K.lookup f8 = some ⟨oc8, od8, .func (PySem.W.fnOf "seen" "Picture.seen" (defArgs s_Pictureseen) (defBody s_Pictureseen) (defScope s_Pictureseen) .none kV8 dc8 pm8 an8 cd8 ct8), sl8⟩)
    (c8 : PySem.W.codeIn K cd8 "Picture.seen" = true)
    (k8 : PySem.W.keepIn K (.ref f8) = true)
    {od9 an9 : Option Addr} {sl9 : Array (Option Value)} {oc9 kV9 dc9 pm9 cd9 ct9 : Value} {f9 : Addr}
    {p9 : Addr} {re9 : List Value}
    (a9 : PySem.W.findIn K (.ref cPicture) "hidden" = some (some (.ref p9)))
    (i9 : PySem.W.recIn K p9 "property" = some (.ref f9 :: re9))
    (y9 : PySem.W.specialIn K (.ref p9) "__get__" = some (some (.builtin "property.__get__")))
    (t9 : PySem.W.takesIn K (.ref p9) = some true)
    (l9 : K.lookup f9 = some ⟨oc9, od9, .func (PySem.W.fnOf "hidden" "Picture.hidden" (defArgs s_Picturehidden) (defBody s_Picturehidden) (defScope s_Picturehidden) .none kV9 dc9 pm9 an9 cd9 ct9), sl9⟩)
    (c9 : PySem.W.codeIn K cd9 "Picture.hidden" = true)
    (k9 : PySem.W.keepIn K (.ref f9) = true)
    {od10 an10 : Option Addr} {sl10 : Array (Option Value)} {oc10 kV10 dc10 pm10 cd10 ct10 : Value} {f10 : Addr}
    (a10 : PySem.W.findIn K (.ref cPicture) "__contains__" = some (some (.ref f10)))
    (i10 : PySem.W.isFn K (.ref f10) = true)
    (l10 : K.lookup f10 = some ⟨oc10, od10, .func (PySem.W.fnOf "__contains__" "Picture.__contains__" (defArgs s_PictureUcontainsU) (defBody s_PictureUcontainsU) (defScope s_PictureUcontainsU) .none kV10 dc10 pm10 an10 cd10 ct10), sl10⟩)
    (c10 : PySem.W.codeIn K cd10 "Picture.__contains__" = true)
    (k10 : PySem.W.keepIn K (.ref f10) = true)
    {od11 an11 : Option Addr} {sl11 : Array (Option Value)} {oc11 kV11 dc11 pm11 cd11 ct11 : Value} {f11 : Addr}
    (a11 : PySem.W.findIn K (.ref cPicture) "__len__" = some (some (.ref f11)))
    (i11 : PySem.W.isFn K (.ref f11) = true)
    (l11 : K.lookup f11 = some ⟨oc11, od11, .func (PySem.W.fnOf "__len__" "Picture.__len__" (defArgs s_PictureUlenU) (defBody s_PictureUlenU) (defScope s_PictureUlenU) .none kV11 dc11 pm11 an11 cd11 ct11), sl11⟩)
    (c11 : PySem.W.codeIn K cd11 "Picture.__len__" = true)
    (k11 : PySem.W.keepIn K (.ref f11) = true)
    {od12 an12 : Option Addr} {sl12 : Array (Option Value)} {oc12 kV12 dc12 pm12 cd12 ct12 : Value} {f12 : Addr}
    (a12 : PySem.W.nsIn K mainGlobals "_law_well" = some (some (.ref f12)))
    (l12 : K.lookup f12 = some ⟨oc12, od12, .func (PySem.W.fnOf "_law_well" "_law_well" (defArgs s_law_well) (defBody s_law_well) (defScope s_law_well) .none kV12 dc12 pm12 an12 cd12 ct12), sl12⟩)
    (c12 : PySem.W.codeIn K cd12 "_law_well" = true)
    (k12 : PySem.W.keepIn K (.ref f12) = true)
    {od13 an13 : Option Addr} {sl13 : Array (Option Value)} {oc13 kV13 dc13 pm13 cd13 ct13 : Value} {f13 : Addr}
    (a13 : PySem.W.nsIn K mainGlobals "_law_draw" = some (some (.ref f13)))
    (l13 : K.lookup f13 = some ⟨oc13, od13, .func (PySem.W.fnOf "_law_draw" "_law_draw" (defArgs s_law_draw) (defBody s_law_draw) (defScope s_law_draw) .none kV13 dc13 pm13 an13 cd13 ct13), sl13⟩)
    (c13 : PySem.W.codeIn K cd13 "_law_draw" = true)
    (k13 : PySem.W.keepIn K (.ref f13) = true)
    {od14 an14 : Option Addr} {sl14 : Array (Option Value)} {oc14 kV14 dc14 pm14 cd14 ct14 : Value} {f14 : Addr}
    (a14 : PySem.W.nsIn K mainGlobals "_law_divisor" = some (some (.ref f14)))
    (l14 : K.lookup f14 = some ⟨oc14, od14, .func (PySem.W.fnOf "_law_divisor" "_law_divisor" (defArgs s_law_divisor) (defBody s_law_divisor) (defScope s_law_divisor) .none kV14 dc14 pm14 an14 cd14 ct14), sl14⟩)
    (c14 : PySem.W.codeIn K cd14 "_law_divisor" = true)
    (k14 : PySem.W.keepIn K (.ref f14) = true)
    {od15 an15 : Option Addr} {sl15 : Array (Option Value)} {oc15 kV15 dc15 pm15 cd15 ct15 : Value} {f15 : Addr}
    (a15 : PySem.W.nsIn K mainGlobals "_law_sum" = some (some (.ref f15)))
    (l15 : K.lookup f15 = some ⟨oc15, od15, .func (PySem.W.fnOf "_law_sum" "_law_sum" (defArgs s_law_sum) (defBody s_law_sum) (defScope s_law_sum) .none kV15 dc15 pm15 an15 cd15 ct15), sl15⟩)
    (c15 : PySem.W.codeIn K cd15 "_law_sum" = true)
    (k15 : PySem.W.keepIn K (.ref f15) = true)
    {od16 an16 : Option Addr} {sl16 : Array (Option Value)} {oc16 kV16 dc16 pm16 cd16 ct16 : Value} {f16 : Addr}
    (a16 : PySem.W.nsIn K mainGlobals "_law_spot" = some (some (.ref f16)))
    (l16 : K.lookup f16 = some ⟨oc16, od16, .func (PySem.W.fnOf "_law_spot" "_law_spot" (defArgs s_law_spot) (defBody s_law_spot) (defScope s_law_spot) .none kV16 dc16 pm16 an16 cd16 ct16), sl16⟩)
    (c16 : PySem.W.codeIn K cd16 "_law_spot" = true)
    (k16 : PySem.W.keepIn K (.ref f16) = true)
    {od17 an17 : Option Addr} {sl17 : Array (Option Value)} {oc17 kV17 dc17 pm17 cd17 ct17 : Value} {f17 : Addr}
    (a17 : PySem.W.nsIn K mainGlobals "_law_spots" = some (some (.ref f17)))
    (l17 : K.lookup f17 = some ⟨oc17, od17, .func (PySem.W.fnOf "_law_spots" "_law_spots" (defArgs s_law_spots) (defBody s_law_spots) (defScope s_law_spots) .none kV17 dc17 pm17 an17 cd17 ct17), sl17⟩)
    (c17 : PySem.W.codeIn K cd17 "_law_spots" = true)
    (k17 : PySem.W.keepIn K (.ref f17) = true)
    {od18 an18 : Option Addr} {sl18 : Array (Option Value)} {oc18 kV18 dc18 pm18 cd18 ct18 : Value} {f18 : Addr}
    (a18 : PySem.W.nsIn K mainGlobals "_law_told" = some (some (.ref f18)))
    (l18 : K.lookup f18 = some ⟨oc18, od18, .func (PySem.W.fnOf "_law_told" "_law_told" (defArgs s_law_told) (defBody s_law_told) (defScope s_law_told) .none kV18 dc18 pm18 an18 cd18 ct18), sl18⟩)
    (c18 : PySem.W.codeIn K cd18 "_law_told" = true)
    (k18 : PySem.W.keepIn K (.ref f18) = true)
    {od19 an19 : Option Addr} {sl19 : Array (Option Value)} {oc19 kV19 dc19 pm19 cd19 ct19 : Value} {f19 : Addr}
    (a19 : PySem.W.nsIn K mainGlobals "_law_case" = some (some (.ref f19)))
    (l19 : K.lookup f19 = some ⟨oc19, od19, .func (PySem.W.fnOf "_law_case" "_law_case" (defArgs s_law_case) (defBody s_law_case) (defScope s_law_case) .none kV19 dc19 pm19 an19 cd19 ct19), sl19⟩)
    (c19 : PySem.W.codeIn K cd19 "_law_case" = true)
    (k19 : PySem.W.keepIn K (.ref f19) = true)
    {od20 an20 : Option Addr} {sl20 : Array (Option Value)} {oc20 kV20 dc20 pm20 cd20 ct20 : Value} {f20 : Addr}
    (a20 : PySem.W.nsIn K mainGlobals "law" = some (some (.ref f20)))
    (l20 : K.lookup f20 = some ⟨oc20, od20, .func (PySem.W.fnOf "law" "law" (defArgs s_law) (defBody s_law) (defScope s_law) .none kV20 dc20 pm20 an20 cd20 ct20), sl20⟩)
    (c20 : PySem.W.codeIn K cd20 "law" = true)
    (k20 : PySem.W.keepIn K (.ref f20) = true)
    (z_abs : PySem.W.nsIn K mainGlobals "abs" = some none)
    (z_gcd : PySem.W.nsIn K mainGlobals "gcd" = some (some (.builtin "math.gcd")))
    (z_int : PySem.W.nsIn K mainGlobals "int" = some none)
    (z_len : PySem.W.nsIn K mainGlobals "len" = some none)
    (z_list : PySem.W.nsIn K mainGlobals "list" = some none)
    (z_max : PySem.W.nsIn K mainGlobals "max" = some none)
    (z_min : PySem.W.nsIn K mainGlobals "min" = some none)
    (z_range : PySem.W.nsIn K mainGlobals "range" = some none)
    (z_sorted : PySem.W.nsIn K mainGlobals "sorted" = some none)
    (z_tuple : PySem.W.nsIn K mainGlobals "tuple" = some none)
    (z_zip : PySem.W.nsIn K mainGlobals "zip" = some none)
    : ∃ fd : FuncData, (∀ (s : Shared) (v : Value), BindsTo s fd ⟨[v], []⟩ [("_law_script", v)]) ∧ ∀ base : Heap, K.In base → base.Ns mainGlobals mg → FnOk l.prog w K mg base CX0 7 fa fd ["_law_script"] (spLaw K) := by
  have e := hfa.symm.trans (PySem.W.mg_of X G a20)
  cases e
  have F0 := fun_mk (st := s_common_divisor) l0 c0 k0
  have b0 := F0.binds (ps := ["place"]) fun _ _ _ _ _ _ us hl => match us, hl with | [_], _ => rfl
  have F1 := fun_mk (st := s_added) l1 c1 k1
  have b1 := F1.binds (ps := ["place", "shift"]) fun _ _ _ _ _ _ us hl => match us, hl with | [_, _], _ => rfl
  have F2 := fun_mk (st := s_divisor_of) l2 c2 k2
  have b2 := F2.binds (ps := ["place"]) fun _ _ _ _ _ _ us hl => match us, hl with | [_], _ => rfl
  have F3 := fun_mk (st := s_is_seen) l3 c3 k3
  have b3 := F3.binds (ps := ["place"]) fun _ _ _ _ _ _ us hl => match us, hl with | [_], _ => rfl
  have F4 := fun_mk (st := s_shows) l4 c4 k4
  have b4 := F4.binds (ps := ["picture", "shift"]) fun _ _ _ _ _ _ us hl => match us, hl with | [_, _], _ => rfl
  have F5 := fun_mk (st := s_words_of) l5 c5 k5
  have b5 := F5.binds (ps := ["size", "seen", "hidden"]) fun _ _ _ _ _ _ us hl => match us, hl with | [_, _, _], _ => rfl
  have F6 := fun_mk (st := s_PictureUinitU) l6 c6 k6
  have b6 := F6.binds (ps := ["self", "size", "seen", "hidden"]) fun _ _ _ _ _ _ us hl => match us, hl with | [_, _, _, _], _ => rfl
  have F7 := fun_mk (st := s_Picturesize) l7 c7 k7
  have b7 := F7.binds (ps := ["self"]) fun _ _ _ _ _ _ us hl => match us, hl with | [_], _ => rfl
  have F8 := fun_mk (st := s_Pictureseen) l8 c8 k8
  have b8 := F8.binds (ps := ["self"]) fun _ _ _ _ _ _ us hl => match us, hl with | [_], _ => rfl
  have F9 := fun_mk (st := s_Picturehidden) l9 c9 k9
  have b9 := F9.binds (ps := ["self"]) fun _ _ _ _ _ _ us hl => match us, hl with | [_], _ => rfl
  have F10 := fun_mk (st := s_PictureUcontainsU) l10 c10 k10
  have b10 := F10.binds (ps := ["self", "x"]) fun _ _ _ _ _ _ us hl => match us, hl with | [_, _], _ => rfl
  have F11 := fun_mk (st := s_PictureUlenU) l11 c11 k11
  have b11 := F11.binds (ps := ["self"]) fun _ _ _ _ _ _ us hl => match us, hl with | [_], _ => rfl
  have F12 := fun_mk (st := s_law_well) l12 c12 k12
  have b12 := F12.binds (ps := ["_law_script", "_law_k"]) fun _ _ _ _ _ _ us hl => match us, hl with | [_, _], _ => rfl
  have F13 := fun_mk (st := s_law_draw) l13 c13 k13
  have b13 := F13.binds (ps := ["_law_well_here", "_law_many"]) fun _ _ _ _ _ _ us hl => match us, hl with | [_, _], _ => rfl
  have F14 := fun_mk (st := s_law_divisor) l14 c14 k14
  have b14 := F14.binds (ps := ["_law_place"]) fun _ _ _ _ _ _ us hl => match us, hl with | [_], _ => rfl
  have F15 := fun_mk (st := s_law_sum) l15 c15 k15
  have b15 := F15.binds (ps := ["_law_place", "_law_offset"]) fun _ _ _ _ _ _ us hl => match us, hl with | [_, _], _ => rfl
  have F16 := fun_mk (st := s_law_spot) l16 c16 k16
  have b16 := F16.binds (ps := ["_law_well_here", "_law_size", "_law_reach"]) fun _ _ _ _ _ _ us hl => match us, hl with | [_, _, _], _ => rfl
  have F17 := fun_mk (st := s_law_spots) l17 c17 k17
  have b17 := F17.binds (ps := ["_law_well_here", "_law_size", "_law_offset"]) fun _ _ _ _ _ _ us hl => match us, hl with | [_, _, _], _ => rfl
  have F18 := fun_mk (st := s_law_told) l18 c18 k18
  have b18 := F18.binds (ps := ["_law_size", "_law_spots_here", "_law_marks"]) fun _ _ _ _ _ _ us hl => match us, hl with | [_, _, _], _ => rfl
  have F19 := fun_mk (st := s_law_case) l19 c19 k19
  have b19 := F19.binds (ps := ["_law_well_here"]) fun _ _ _ _ _ _ us hl => match us, hl with | [_], _ => rfl
  have F20 := fun_mk (st := s_law) l20 c20 k20
  have b20 := F20.binds (ps := ["_law_script"]) fun _ _ _ _ _ _ us hl => match us, hl with | [_], _ => rfl
  have kb_shows : KBinds K (PySem.W.fnOf "shows" "shows" (defArgs s_shows) (defBody s_shows) (defScope s_shows) .none kV4 dc4 pm4 an4 cd4 ct4) ["picture", "shift"] ["picture", "shift"] kwG kwG := ⟨fun _ us ws _ hl => match us, ws, hl with | [], [_, _], _ => .of_eq rfl, fun h k => kwG_rel h k⟩
  let A : Ad := { a_common_divisor := f0, f_common_divisor := PySem.W.fnOf "common_divisor" "common_divisor" (defArgs s_common_divisor) (defBody s_common_divisor) (defScope s_common_divisor) .none kV0 dc0 pm0 an0 cd0 ct0, a_added := f1, f_added := PySem.W.fnOf "added" "added" (defArgs s_added) (defBody s_added) (defScope s_added) .none kV1 dc1 pm1 an1 cd1 ct1, a_divisor_of := f2, f_divisor_of := PySem.W.fnOf "divisor_of" "divisor_of" (defArgs s_divisor_of) (defBody s_divisor_of) (defScope s_divisor_of) .none kV2 dc2 pm2 an2 cd2 ct2, a_is_seen := f3, f_is_seen := PySem.W.fnOf "is_seen" "is_seen" (defArgs s_is_seen) (defBody s_is_seen) (defScope s_is_seen) .none kV3 dc3 pm3 an3 cd3 ct3, a_shows := f4, f_shows := PySem.W.fnOf "shows" "shows" (defArgs s_shows) (defBody s_shows) (defScope s_shows) .none kV4 dc4 pm4 an4 cd4 ct4, a_words_of := f5, f_words_of := PySem.W.fnOf "words_of" "words_of" (defArgs s_words_of) (defBody s_words_of) (defScope s_words_of) .none kV5 dc5 pm5 an5 cd5 ct5, a_PictureUinitU := f6, f_PictureUinitU := PySem.W.fnOf "__init__" "Picture.__init__" (defArgs s_PictureUinitU) (defBody s_PictureUinitU) (defScope s_PictureUinitU) .none kV6 dc6 pm6 an6 cd6 ct6, a_Picturesize := f7, f_Picturesize := PySem.W.fnOf "size" "Picture.size" (defArgs s_Picturesize) (defBody s_Picturesize) (defScope s_Picturesize) .none kV7 dc7 pm7 an7 cd7 ct7, p_Picturesize := p7, a_Pictureseen := f8, f_Pictureseen := PySem.W.fnOf "seen" "Picture.seen" (defArgs s_Pictureseen) (defBody s_Pictureseen) (defScope s_Pictureseen) .none kV8 dc8 pm8 an8 cd8 ct8, p_Pictureseen := p8, a_Picturehidden := f9, f_Picturehidden := PySem.W.fnOf "hidden" "Picture.hidden" (defArgs s_Picturehidden) (defBody s_Picturehidden) (defScope s_Picturehidden) .none kV9 dc9 pm9 an9 cd9 ct9, p_Picturehidden := p9, a_PictureUcontainsU := f10, f_PictureUcontainsU := PySem.W.fnOf "__contains__" "Picture.__contains__" (defArgs s_PictureUcontainsU) (defBody s_PictureUcontainsU) (defScope s_PictureUcontainsU) .none kV10 dc10 pm10 an10 cd10 ct10, a_PictureUlenU := f11, f_PictureUlenU := PySem.W.fnOf "__len__" "Picture.__len__" (defArgs s_PictureUlenU) (defBody s_PictureUlenU) (defScope s_PictureUlenU) .none kV11 dc11 pm11 an11 cd11 ct11, a_law_well := f12, f_law_well := PySem.W.fnOf "_law_well" "_law_well" (defArgs s_law_well) (defBody s_law_well) (defScope s_law_well) .none kV12 dc12 pm12 an12 cd12 ct12, a_law_draw := f13, f_law_draw := PySem.W.fnOf "_law_draw" "_law_draw" (defArgs s_law_draw) (defBody s_law_draw) (defScope s_law_draw) .none kV13 dc13 pm13 an13 cd13 ct13, a_law_divisor := f14, f_law_divisor := PySem.W.fnOf "_law_divisor" "_law_divisor" (defArgs s_law_divisor) (defBody s_law_divisor) (defScope s_law_divisor) .none kV14 dc14 pm14 an14 cd14 ct14, a_law_sum := f15, f_law_sum := PySem.W.fnOf "_law_sum" "_law_sum" (defArgs s_law_sum) (defBody s_law_sum) (defScope s_law_sum) .none kV15 dc15 pm15 an15 cd15 ct15, a_law_spot := f16, f_law_spot := PySem.W.fnOf "_law_spot" "_law_spot" (defArgs s_law_spot) (defBody s_law_spot) (defScope s_law_spot) .none kV16 dc16 pm16 an16 cd16 ct16, a_law_spots := f17, f_law_spots := PySem.W.fnOf "_law_spots" "_law_spots" (defArgs s_law_spots) (defBody s_law_spots) (defScope s_law_spots) .none kV17 dc17 pm17 an17 cd17 ct17, a_law_told := f18, f_law_told := PySem.W.fnOf "_law_told" "_law_told" (defArgs s_law_told) (defBody s_law_told) (defScope s_law_told) .none kV18 dc18 pm18 an18 cd18 ct18, a_law_case := f19, f_law_case := PySem.W.fnOf "_law_case" "_law_case" (defArgs s_law_case) (defBody s_law_case) (defScope s_law_case) .none kV19 dc19 pm19 an19 cd19 ct19, a_law := fa, f_law := PySem.W.fnOf "law" "law" (defArgs s_law) (defBody s_law) (defScope s_law) .none kV20 dc20 pm20 an20 cd20 ct20, a_cPicture := cPicture }
  have T : Txt K mg A := {
    g_common_divisor := PySem.W.mg_of X G a0, k_common_divisor := k0, F_common_divisor := F0, b_common_divisor := b0,
    g_added := PySem.W.mg_of X G a1, k_added := k1, F_added := F1, b_added := b1,
    g_divisor_of := PySem.W.mg_of X G a2, k_divisor_of := k2, F_divisor_of := F2, b_divisor_of := b2,
    g_is_seen := PySem.W.mg_of X G a3, k_is_seen := k3, F_is_seen := F3, b_is_seen := b3,
    g_shows := PySem.W.mg_of X G a4, k_shows := k4, F_shows := F4, b_shows := b4,
    g_words_of := PySem.W.mg_of X G a5, k_words_of := k5, F_words_of := F5, b_words_of := b5,
    at_PictureUinitU := a6, fn_PictureUinitU := i6, k_PictureUinitU := k6, F_PictureUinitU := F6, b_PictureUinitU := b6,
    pr_Picturesize := ⟨a7, y7, t7, _, i7⟩, k_Picturesize := k7, F_Picturesize := F7, b_Picturesize := b7,
    pr_Pictureseen := ⟨a8, y8, t8, _, i8⟩, k_Pictureseen := k8, F_Pictureseen := F8, b_Pictureseen := b8,
    pr_Picturehidden := ⟨a9, y9, t9, _, i9⟩, k_Picturehidden := k9, F_Picturehidden := F9, b_Picturehidden := b9,
    at_PictureUcontainsU := a10, fn_PictureUcontainsU := i10, k_PictureUcontainsU := k10, F_PictureUcontainsU := F10, b_PictureUcontainsU := b10,
    at_PictureUlenU := a11, fn_PictureUlenU := i11, k_PictureUlenU := k11, F_PictureUlenU := F11, b_PictureUlenU := b11,
    g_law_well := PySem.W.mg_of X G a12, k_law_well := k12, F_law_well := F12, b_law_well := b12,
    g_law_draw := PySem.W.mg_of X G a13, k_law_draw := k13, F_law_draw := F13, b_law_draw := b13,
    g_law_divisor := PySem.W.mg_of X G a14, k_law_divisor := k14, F_law_divisor := F14, b_law_divisor := b14,
    g_law_sum := PySem.W.mg_of X G a15, k_law_sum := k15, F_law_sum := F15, b_law_sum := b15,
    g_law_spot := PySem.W.mg_of X G a16, k_law_spot := k16, F_law_spot := F16, b_law_spot := b16,
    g_law_spots := PySem.W.mg_of X G a17, k_law_spots := k17, F_law_spots := F17, b_law_spots := b17,
    g_law_told := PySem.W.mg_of X G a18, k_law_told := k18, F_law_told := F18, b_law_told := b18,
    g_law_case := PySem.W.mg_of X G a19, k_law_case := k19, F_law_case := F19, b_law_case := b19,
    g_law := PySem.W.mg_of X G a20, k_law := k20, F_law := F20, b_law := b20,
    kb_shows := kb_shows,
    n_abs := PySem.W.mg_none_of X G z_abs,
    m_gcd := PySem.W.mg_of X G z_gcd,
    n_int := PySem.W.mg_none_of X G z_int,
    n_len := PySem.W.mg_none_of X G z_len,
    n_list := PySem.W.mg_none_of X G z_list,
    n_max := PySem.W.mg_none_of X G z_max,
    n_min := PySem.W.mg_none_of X G z_min,
    n_range := PySem.W.mg_none_of X G z_range,
    n_sorted := PySem.W.mg_none_of X G z_sorted,
    n_tuple := PySem.W.mg_none_of X G z_tuple,
    n_zip := PySem.W.mg_none_of X G z_zip,
    g_Picture := PySem.W.mg_of X G aCPicture,
    cl_Picture := ⟨pgPicture, hdPicture, poPicture, saPicture⟩,
    mk_Picture := ⟨mkPicture, a6, i6, kcPicture⟩,
    ty_Picture := fun H a dx fs e => .ins e ⟨pgPicture, hdPicture, poPicture, saPicture⟩ haPicture hnPicture htPicture hmPicture,
    ks_Picture := kit_same,
    na_Picture_words := naPicture_words,
    na_Picture_size := naPicture_size,
    na_Picture_seen := naPicture_seen,
    na_Picture_hidden := naPicture_hidden }
  exact ⟨A.f_law, fun s v => .of_eq rfl, fun base _ _ => ok_law T⟩
theorem walk {l : PySem.W.OpenLaw} {q : Program} {loose : List Str} {XP : (Str → Option Value) → Heap → Prop} {YP : World → Heap → Prop} {d : DefRec} {K : Params → PySem.W.Frag} (hn : l.most = some 63) (hdf : d.params.defaults = [])
    (hY : ∀ (w : World) (h : Heap), YP w h → (K w.params).In h)
    (F : ∀ (w : World) (mg : Str → Option Value) (fa : Addr) (h : Heap), (K w.params).In h → h.Ns mainGlobals mg → mg d.name = some (.ref fa) →
      ∃ fd : FuncData, (∀ (s : Shared) (u : Value), BindsTo s fd ⟨[u], []⟩ [("_law_script", u)]) ∧ ∀ base : Heap, (K w.params).In base → base.Ns mainGlobals mg → FnOk l.prog w (K w.params) mg base CX0 7 fa fd ["_law_script"] (spLaw (K w.params))) :
    PySem.W.WalkO q loose XP YP l.row.toRowW d [] (fun f vs => PySem.call f vs) :=
  L2.walk_ofB (n := 63) (k := 7) (x := "_law_script") (CX := fun _ => CX0) (sp := fun w => spLaw (K w.params)) hn (by decide) hdf ⟨rfl, by decide, by decide⟩ hY F (fun _ _ a ns hl hb _ hS => ⟨a, ns, rfl, hS, hl, hb, fun _ => rfl⟩) fun _ _ _ _ _ z => z
end K19
open PySem PySem.W PyProof.Rows
set_option maxRecDepth 100000 in
set_option maxHeartbeats 0 in
theorem PySem.Challenge.cw_seenposts_k19_shown_as_told_holds : PySem.Challenge.rw_seenposts_k19_shown_as_told.Holds := by
  w_on; o_law; k_head; (case hw => w_witness2)
  k_fill
  refine K19.walk (l := PySem.Challenge.rw_seenposts_k19_shown_as_told) rfl rfl (fun w h Y => PySem.W.kIn_of Y) ?F
  case F =>
    intro w mg fa h KX G hmg
    refine' K19.all_mk KX G hmg ?aCPicture ?pgPicture ?hdPicture ?poPicture ?saPicture ?mkPicture ?kcPicture ?haPicture ?hnPicture ?htPicture ?hmPicture ?naPicture_words ?naPicture_size ?naPicture_seen ?naPicture_hidden ?a0 ?l0 ?c0 ?k0 ?a1 ?l1 ?c1 ?k1 ?a2 ?l2 ?c2 ?k2 ?a3 ?l3 ?c3 ?k3 ?a4 ?l4 ?c4 ?k4 ?a5 ?l5 ?c5 ?k5 ?a6 ?i6 ?l6 ?c6 ?k6 ?a7 ?i7 ?y7 ?t7 ?l7 ?c7 ?k7 ?a8 ?i8 ?y8 ?t8 ?l8 ?c8 ?k8 ?a9 ?i9 ?y9 ?t9 ?l9 ?c9 ?k9 ?a10 ?i10 ?l10 ?c10 ?k10 ?a11 ?i11 ?l11 ?c11 ?k11 ?a12 ?l12 ?c12 ?k12 ?a13 ?l13 ?c13 ?k13 ?a14 ?l14 ?c14 ?k14 ?a15 ?l15 ?c15 ?k15 ?a16 ?l16 ?c16 ?k16 ?a17 ?l17 ?c17 ?k17 ?a18 ?l18 ?c18 ?k18 ?a19 ?l19 ?c19 ?k19 ?a20 ?l20 ?c20 ?k20 ?z_abs ?z_gcd ?z_int ?z_len ?z_list ?z_max ?z_min ?z_range ?z_sorted ?z_tuple ?z_zip
    (case aCPicture => k_is)
    (case pgPicture => k_is)
    (case hdPicture => k_is)
    (case poPicture => k_is)
    (case saPicture => k_is)
    (case mkPicture => k_is)
    (case kcPicture => k_is)
    (case haPicture => k_is)
    (case hnPicture => k_is)
    (case htPicture => k_is)
    (case hmPicture => k_is)
    (case naPicture_words => k_is)
    (case naPicture_size => k_is)
    (case naPicture_seen => k_is)
    (case naPicture_hidden => k_is)
    (case a0 => k_is)
    (case l0 => k_is)
    (case c0 => k_is)
    (case k0 => k_is)
    (case a1 => k_is)
    (case l1 => k_is)
    (case c1 => k_is)
    (case k1 => k_is)
    (case a2 => k_is)
    (case l2 => k_is)
    (case c2 => k_is)
    (case k2 => k_is)
    (case a3 => k_is)
    (case l3 => k_is)
    (case c3 => k_is)
    (case k3 => k_is)
    (case a4 => k_is)
    (case l4 => k_is)
    (case c4 => k_is)
    (case k4 => k_is)
    (case a5 => k_is)
    (case l5 => k_is)
    (case c5 => k_is)
    (case k5 => k_is)
    (case a6 => k_is)
    (case i6 => k_is)
    (case l6 => k_is)
    (case c6 => k_is)
    (case k6 => k_is)
    (case a7 => k_is)
    (case i7 => k_is)
    (case y7 => k_is)
    (case t7 => k_is)
    (case l7 => k_is)
    (case c7 => k_is)
    (case k7 => k_is)
    (case a8 => k_is)
    (case i8 => k_is)
    (case y8 => k_is)
    (case t8 => k_is)
    (case l8 => k_is)
    (case c8 => k_is)
    (case k8 => k_is)
    (case a9 => k_is)
    (case i9 => k_is)
    (case y9 => k_is)
    (case t9 => k_is)
    (case l9 => k_is)
    (case c9 => k_is)
    (case k9 => k_is)
    (case a10 => k_is)
    (case i10 => k_is)
    (case l10 => k_is)
    (case c10 => k_is)
    (case k10 => k_is)
    (case a11 => k_is)
    (case i11 => k_is)
    (case l11 => k_is)
    (case c11 => k_is)
    (case k11 => k_is)
    (case a12 => k_is)
    (case l12 => k_is)
    (case c12 => k_is)
    (case k12 => k_is)
    (case a13 => k_is)
    (case l13 => k_is)
    (case c13 => k_is)
    (case k13 => k_is)
    (case a14 => k_is)
    (case l14 => k_is)
    (case c14 => k_is)
    (case k14 => k_is)
    (case a15 => k_is)
    (case l15 => k_is)
    (case c15 => k_is)
    (case k15 => k_is)
    (case a16 => k_is)
    (case l16 => k_is)
    (case c16 => k_is)
    (case k16 => k_is)
    (case a17 => k_is)
    (case l17 => k_is)
    (case c17 => k_is)
    (case k17 => k_is)
    (case a18 => k_is)
    (case l18 => k_is)
    (case c18 => k_is)
    (case k18 => k_is)
    (case a19 => k_is)
    (case l19 => k_is)
    (case c19 => k_is)
    (case k19 => k_is)
    (case a20 => k_is)
    (case l20 => k_is)
    (case c20 => k_is)
    (case k20 => k_is)
    (case z_abs => k_is)
    (case z_gcd => k_is)
    (case z_int => k_is)
    (case z_len => k_is)
    (case z_list => k_is)
    (case z_max => k_is)
    (case z_min => k_is)
    (case z_range => k_is)
    (case z_sorted => k_is)
    (case z_tuple => k_is)
    (case z_zip => k_is)
#print axioms PySem.Challenge.cw_seenposts_k19_shown_as_told_holds

