import PyProof.Rows.All
import Wide.All
import OpenK.AllK
import Wide.FinOn
import HandS.Base
import HandS.Call
import HandS.List
import HandS.Comp
import HandS.Ends
import KE.KRevSl
import HandS.ForMost
import HandS.EndBits
import HandS.IsInst
import HandS.Wide
import HandS.Gcd
import HandS.Style
import HandS.TupAny
import HandS.Evl
import KE.KIsAll
import KE.KTryMore
import HandS.ForExc
import HandS.ExcValue
import HandS.ExcInit
import HandS.ExcIs
import HandS.ExcField
import HandS.RaiseMore
import PyProof.ReprRoads
import HandS.FStrTup
import KE.SortData
import HandS.Small
import HandS.OwnEq
import HandS.Property
import HandS.MakeKwOnly
import HandS.TupLen
import HandS.Dict
import HandS.More
import HandS.DictEq
import HandS.DictComp
import HandS.Zip
import KE.KDictSum
import KE.KDictCopyH
import HandS.Conv
import HandS.Deep
import HandS.TupLe
import HandS.TupMul
import HandS.TryOnly
import KE.GoesMore
import KE.GoesZip
import HandS.Walk
import PyProof.LongRange
import HandS.Iter
import HandS.TupSets
import HandS.Flow
import HandS.Text
import PySem.Challenge.RW_seenposts_k52_posts_seen_on_lines
set_option Elab.async false
set_option linter.all false
set_option maxRecDepth 100000
set_option maxHeartbeats 4000000
/-! rules of our own -/
namespace HT
open PySem PySem.W PySem.Calls PyProof.Rows
section
variable {prog : Program} {w : World} {A : Around} {E : Value → Shared → Prop} {s : Shared}
theorem adjust_rev (n : Nat) : Builtin.Slice.sliceAdjust none none (-1) (n : Int) = ((n : Int) - 1, -1) := by
  unfold Builtin.Slice.sliceAdjust
  rfl
theorem places_rev (n : Nat) : Builtin.Slice.slicePlaces ((n : Int) - 1) (-1) (-1) = n := by
  unfold Builtin.Slice.slicePlaces
  have h1 : ¬ ((-1 : Int) > 0) := by decide
  have e1 : (- -1 : Int) = 1 := by decide
  simp only [h1, if_false, e1, Int.ediv_one]
  split <;> omega
theorem sliceApplied_rev {sl : Addr} {vs : Value} {n : Nat} {Q : Int × Int × Nat → Shared → Prop} (hs : s.heap.IsSliceOf sl .none .none vs) (ps : IsPart vs (some (-1)))
    (h : Q ((n : Int) - 1, -1, n) s) : wpAny (model prog w) A (Builtin.Slice.sliceApplied (.ref sl) (pure (n : Int))) Q E s := by
  obtain ⟨os, hos, hcs, hds⟩ := id hs
  unfold Builtin.Slice.sliceApplied Builtin.Slice.sliceFields
  refine wpAny_bind (wpAny_bind (wpAny_field hos hds (x := .none) rfl (wpAny_bind (wpAny_field hos hds (x := .none) rfl (wpAny_bind (wpAny_field hos hds (x := vs) rfl (wpAny_pure ?_)))))))
  refine wpAny_bind (slicePart_ ps ?_)
  show wpAny _ _ (if ((-1 : Int) == 0) = true then _ else _) _ _ s
  rw [if_neg (by decide)]
  refine wpAny_bind (slicePart_none (wpAny_bind (slicePart_none (wpAny_bind (wpAny_pure ?_)))))
  show wpAny _ _ (match Builtin.Slice.sliceAdjust none none (-1) (n : Int) with | (lo, hi) => pure (lo, (-1 : Int), Builtin.Slice.slicePlaces lo hi (-1))) _ _ s
  rw [adjust_rev n]
  show wpAny _ _ (pure ((n : Int) - 1, (-1 : Int), Builtin.Slice.slicePlaces ((n : Int) - 1) (-1) (-1))) _ _ s
  rw [places_rev]
  exact wpAny_pure h
theorem fm_congr {α β : Type} {f g : α → Option β} : ∀ (l : List α), (∀ a ∈ l, f a = g a) → l.filterMap f = l.filterMap g
  | [], _ => rfl
  | a :: r, h => by
    rw [List.filterMap_cons, List.filterMap_cons, h a List.mem_cons_self, fm_congr r fun b hb => h b (List.mem_cons_of_mem _ hb)]
theorem pick_rev (xs : Array Value) : ((List.range xs.size).filterMap fun (m : Nat) => xs[((xs.size : Int) - 1 + (m : Int) * (-1)).toNat]?).toArray = xs.toList.reverse.toArray := by
  rw [← krv_pick xs]
  unfold slicePick
  rw [krv_bounds]
  show _ = ((sliceRange ((xs.size : Int) - 1) (-1) (-1)).filterMap (xs[·]?)).toArray
  rw [krv_sliceRange, List.filterMap_map]
  refine congrArg List.toArray (fm_congr _ fun m hm => ?_)
  have := List.mem_range.mp hm
  show xs[((xs.size : Int) - 1 + (m : Int) * (-1)).toNat]? = xs[xs.size - 1 - m]?
  have e : ((xs.size : Int) - 1 + (m : Int) * (-1)).toNat = xs.size - 1 - m := by omega
  rw [e]
theorem getItem_tuple_rev {t sl : Addr} {items : Array Value} {vs : Value} {Q : Value → Shared → Prop} (ht : IsTup s.heap t items) (hs : s.heap.IsSliceOf sl .none .none vs) (ps : IsPart vs (some (-1)))
    (h : Q (.ref s.heap.objs.size) { s with heap := s.heap.push { cls := .type "tuple", data := .seq items.toList.reverse.toArray } })
    (hsz : items.size ≤ sizeLine) : wpAny (model prog w) A (getItem (.ref t) (.ref sl)) Q E s := by
  have htake : sizeOk (.seq items.toList.reverse.toArray) := by
    show items.toList.reverse.toArray.size ≤ sizeLine
    rw [List.size_toArray, List.length_reverse, Array.length_toList]
    exact hsz
  obtain ⟨os, hos, hcs, hds⟩ := id hs
  have hTs : s.TypeIs (.ref sl) "slice" := ⟨os, hos, hcs⟩
  unfold getItem
  try with_reducible refine wpAny_holding ?_
  first | refine wpAny_bind (wpAny_pure ?_) | skip
  refine wpAny_bind (wpAny_sequenceKey ht.typeIs (by decide) ?_)
  refine wpAny_bind (wpAny_callSpecial?_slot (name := Str.ofString "__getitem__") ht.typeIs PyProof.Rows.slot_tuple_getitem
    (wpAny_call_entry PyProof.Rows.slot_tuple_getitem ht.typeIs entry_tuple_getitem ?_ (args_tuple_getitem _ _)))
  show wpAny _ _ (Builtin.Tuple.tupleItemsOf (.ref t) >>= _) _ _ s
  refine wpAny_bind (tupleItemsOf_ ht ?_)
  refine wpAny_bind (wpAny_typeOf hTs ?_)
  rw [if_pos (by decide)]
  refine wpAny_bind (sliceApplied_rev hs ps ?_)
  have hno : ¬ ((((items.size : Int) - 1) == 0 && (-1 : Int) == 1 && items.size == items.size) = true) := by
    intro q
    rw [Bool.and_eq_true, Bool.and_eq_true] at q
    exact absurd q.1.2 (by decide)
  show wpAny _ _ (if (((items.size : Int) - 1) == 0 && (-1 : Int) == 1 && items.size == items.size) = true then _ else _) _ _ s
  rw [if_neg hno, pick_rev]
  first
    | exact wpAny_bind (m := Builtin.Tuple.tupleExact _) (wpAny_newObj_type (wpAny_pure ⟨_, rfl, wpAny_pure h⟩) htake)
    | exact wpAny_bind (m := Builtin.Tuple.tupleExact _) (wpAny_newObj_type (wpAny_bind (wpAny_pure (wpAny_pure ⟨_, rfl, wpAny_pure h⟩))) htake)
    | exact wpAny_bind (wpAny_bind (m := Builtin.Tuple.tupleExact _) (wpAny_newObj_type (wpAny_pure (wpAny_pure ⟨_, rfl, wpAny_pure h⟩)) htake))
    | exact wpAny_bind (wpAny_bind (m := Builtin.Tuple.tupleExact _) (wpAny_newObj_type (wpAny_pure ⟨_, rfl, wpAny_pure h⟩) htake))
end
end HT
namespace L2
open PySem PySem.Spec PyProof.Rows
section
variable {X : Cx}
/-- t[::-1] of a tuple -/
def tRevT (K : PySem.W.Frag) (te : TE) : TE := fun σ H Q => te σ H fun x H1 => ∃ a xs, x = .ref a ∧ SqT K H1 a xs ∧ ∀ p, H1 p = none → Q (.ref p) (upd H1 p (.tup xs.reverse))
theorem pe_revT {e : Expr} {te : TE} {k : Nat} {p1 p2 p3 pos : Pos} (he : PE X e te) : PE X (.Subscript e (.Slice none none (some (.UnaryOp .USub (.Constant (.int 1) k p1) p2)) p3) pos) (tRevT X.K te) := by
  refine ⟨fun pins s σ H Q I h => ?_⟩
  refine Subscript_ (thn (he.run pins s σ H _ I h) fun v s1 ⟨x, H1, I1, r1, q1⟩ => ?_)
  obtain ⟨a, xs, ex, hx, q⟩ := q1
  subst ex
  cases r1
  have hst : PO X (some (.UnaryOp .USub (.Constant (.int 1) k p1) p2)) (tPart (tUn (rU fun i => .int (-i)) (tC (.int 1)))) := po_some (pe_un un_neg pe_int)
  refine wpAny_Slice (thn (po_none.run pins s1 σ H1 (fun o H2 => o = none ∧ H2 = H1) I1 ⟨rfl, rfl⟩) fun vl s2 ⟨l, H2, I2, pl, el, e2⟩ => ?_)
  subst el e2
  refine thn (po_none.run pins s2 σ H2 (fun o H3 => o = none ∧ H3 = H2) I2 ⟨rfl, rfl⟩) fun vu s3 ⟨u, H3, I3, pu, eu, e3⟩ => ?_
  subst eu e3
  refine thn (hst.run pins s3 σ H3 (fun o H4 => o = some (-1) ∧ H4 = H3) I3 ⟨1, rfl, -1, rfl, rfl, rfl⟩) fun vs s4 ⟨o, H4, I4, ps, eo, e4⟩ => ?_
  subst eo e4
  have I5 : Inv X pins σ H4 { s4 with heap := s4.heap.push { cls := .type "slice", data := .fields #[vl, vu, vs] } } := I4.kept (t' := s4.toks) fun b ob q => Heap.get?_push_of_some _ q
  obtain ⟨its, r, ht, hz⟩ := I5.tuple hx
  have hlen := r.length
  show wpAny (model X.prog X.w) X.A (subscriptTail e (.Slice none none (some (.UnaryOp .USub (.Constant (.int 1) k p1) p2)) p3) (.ref a) (.ref s4.heap.objs.size)) (EP X pins σ Q) X.xe { s4 with heap := s4.heap.push { cls := .type "slice", data := .fields #[vl, vu, vs] } }
  refine tail_any (ops := [.ref a, .ref s4.heap.objs.size]) ht.typeIs (PyProof.Rows.slot_tuple_getitem.lookup) ?_ (by with_unfolding_all rfl)
  cases pl
  cases pu
  refine HT.getItem_tuple_rev ht (Heap.IsSliceOf.new _ .none .none vs) ps ?_ (by rw [List.size_toArray, ← hlen]; exact hz)
  have e : (its.toArray.toList.reverse.toArray) = its.reverse.toArray := by simp
  rw [e]
  refine ⟨.ref _, _, I5.laid (t' := s4.toks) (o := .tup xs.reverse) (fun b ob q => Heap.get?_push_of_some _ q) (Nat.le_refl _) ?_, rfl, q _ (I5.hok.fresh (Nat.le_refl _))⟩
  exact ⟨by rw [List.length_reverse]; exact hz, _, r.reverse, IsTup.new _ _⟩
/-- f(k = v, ..): keywords alone -/
theorem pe_callK0 {CX : CXT} {k : Nat} {f : Addr} {fd : FuncData} {ps ks : List Str} {sp : Sp} {E : XK} {x : Str} {p pos : Pos} {kws : List Keyword} {tk : TA} {g : List Value → List Value → List Value} {gV : List V → List V → List V}
    (F : FnOk X.prog X.w X.K X.mg X.base CX k f fd ps sp) (hr : Room k X.A) (hg : Gl X x) (hm : X.mg x = some (.ref f)) (hk : PySem.W.keepIn X.K (.ref f) = true) (hb : KBinds X.K fd ps ks g gV) (hx : Passes CX X E)
    (hkw : PK X kws tk) (hall : (backToKw pos (keywordEach kws X.env)).all (·.1.isSome) = true := by rfl) (hks : (backToKw pos (keywordEach kws X.env)).filterMap (·.1) = ks := by rfl)
    (hdb : (x == ("__debug__" : Str)) = false := by decide)
    (hpl : ((backTo pos (starEach [] X.env)).any (·.1) || (backToKw pos (keywordEach kws X.env)).any (·.1.isNone)) = false := by rfl) :
    PE X (.Call (.Name x p) [] kws pos) (tCallK sp gV E tNil tk) := by
  refine ⟨fun pins s σ H Q I h => ?_⟩
  refine wpAny_Call_Name_kw (ld_glob I hg hm ?_ hdb)
  refine PySem.W.callWith_KW0 (h₀ := X.base) I.ok.mod.kin hk hall ?_ hpl
  refine thn (hkw.run pos pins s σ H _ I h) fun ws s2 ⟨zs, H2, I2, rz, q2⟩ => ⟨I2.kIn, ?_⟩
  rw [hks]
  exact run_fnk F hr hb hx I2 .nil rz q2
end
end L2

/-! readings, step by step -/
namespace L2
open PySem PySem.Spec PyProof.Rows
section
variable {σ : St} {H : Hp} {Q : VK} {v x y : V} {te ta tb : TE} {tA tB' : TA} {t u : TT} {D : Ends} {t1 t2 : TS} {i : Nat} {a b : Int}
theorem r_var (h : σ[i]? = some (some v)) (k : Q v H) : tVar i σ H Q := ⟨v, h, k⟩
theorem r_c (k : Q v H) : tC v σ H Q := k
theorem r_op {r : R2} (k : ta σ H fun x H1 => tb σ H1 fun y H2 => r x y H2 Q) : tOp r ta tb σ H Q := k
theorem r_un {r : V → Hp → VK → Prop} (k : ta σ H fun x H1 => r x H1 Q) : tUn r ta σ H Q := k
theorem r_cb {r : List V → Hp → VK → Prop} (k : tA σ H fun vs H1 => r vs H1 Q) : tCB r tA σ H Q := k
theorem r_call {sp : Sp} {dvs : List V} {E : XK} (k : tA σ H fun vs H1 => sp (vs ++ dvs) H1 Q E) : tCall sp dvs E tA σ H Q := k
theorem r_cons {QA : List V → Hp → Prop} (k : ta σ H fun x H1 => tA σ H1 fun xs H2 => QA (x :: xs) H2) : tCons ta tA σ H QA := k
theorem r_nil {QA : List V → Hp → Prop} (k : QA [] H) : tNil σ H QA := k
theorem r_tup (k : tA σ H fun xs H1 => xs.length ≤ sizeLine ∧ ∀ p, H1 p = none → Q (.ref p) (upd H1 p (.tup xs))) : tTup tA σ H Q := k
theorem r_lst (k : tA σ H fun xs H1 => xs.length ≤ sizeLine ∧ ∀ p, H1 p = none → Q (.ref p) (upd H1 p (.lst xs))) : tLst tA σ H Q := k
theorem r_I0 {g : Int → Int → V} (k : Q (g a b) H) : rI0 g (.int a) (.int b) H Q := ⟨a, b, rfl, rfl, k⟩
theorem r_I {C : Int → Int → Prop} {g : Int → Int → V} (c : C a b) (k : Q (g a b) H) : rI C g (.int a) (.int b) H Q := ⟨a, b, rfl, rfl, c, k⟩
theorem r_eq (c : scal x y = true) (k : Q (.bl (decide (x = y))) H) : rEq x y H Q := ⟨c, k⟩
theorem r_ne (c : scal x y = true) (k : Q (.bl (!decide (x = y))) H) : rNe x y H Q := ⟨c, k⟩
theorem r_eqI (k : Q (.bl (a == b)) H) : rEq (.int a) (.int b) H Q := ⟨rfl, by rw [dec_int]; exact k⟩
theorem r_neI (k : Q (.bl (!(a == b))) H) : rNe (.int a) (.int b) H Q := ⟨rfl, by rw [dec_int]; exact k⟩
theorem r_eqB {a b : Bool} (k : Q (.bl (a == b)) H) : rEq (.bl a) (.bl b) H Q := ⟨rfl, by rw [dec_bl]; exact k⟩
theorem r_test {Qb : Bool → Hp → Prop} (k : te σ H fun x H' => ∃ k, x = .bl k ∧ Qb k H') : tTest te σ H Qb := k
theorem r_B {Qb : Bool → Hp → Prop} (k : te σ H fun x H' => ∃ k, x = .bl k ∧ Qb k H') : tB te σ H Qb := k
theorem r_not {Qb : Bool → Hp → Prop} (k : t σ H fun c H1 => Qb (!c) H1) : tNot t σ H Qb := k
theorem r_and {Qb : Bool → Hp → Prop} (k : t σ H fun c H1 => if c = true then u σ H1 Qb else Qb false H1) : tAnd t u σ H Qb := k
theorem r_or {Qb : Bool → Hp → Prop} (k : t σ H fun c H1 => if c = true then Qb true H1 else u σ H1 Qb) : tOr t u σ H Qb := k
theorem r_andV (k : ta σ H fun x H1 => ∃ c, x = .bl c ∧ if c = true then tb σ H1 Q else Q (.bl false) H1) : tAndV ta tb σ H Q := k
theorem r_orV (k : ta σ H fun x H1 => ∃ c, x = .bl c ∧ if c = true then Q (.bl true) H1 else tb σ H1 Q) : tOrV ta tb σ H Q := k
theorem r_notV (k : ta σ H fun x H1 => ∃ c, x = .bl c ∧ Q (.bl (!c)) H1) : tNotV ta σ H Q := k
theorem r_if (k : t σ H fun c H1 => if c = true then ta σ H1 Q else tb σ H1 Q) : tIf t ta tb σ H Q := k
theorem r_seqAsg (k : te σ H fun x H1 => t2 D (σ.set i (some x)) H1) : tSeq (tAsg te (gName i)) t2 D σ H := k
theorem r_asg (k : te σ H fun x H1 => D.nx (σ.set i (some x)) H1) : tAsg te (gName i) D σ H := k
theorem r_seqSub {to ti : TE} {ts : TSet} (k : te σ H fun x H1 => to σ H1 fun o H2 => ti σ H2 fun j H3 => ts o j x H3 fun H4 => t2 D σ H4) : tSeq (tAsg te (gSub to ti ts)) t2 D σ H := k
theorem r_sub {to ti : TE} {ts : TSet} (k : te σ H fun x H1 => to σ H1 fun o H2 => ti σ H2 fun j H3 => ts o j x H3 fun H4 => D.nx σ H4) : tAsg te (gSub to ti ts) D σ H := k
theorem r_seqPar {j : Nat} (k : tA σ H fun vs H1 => ∃ v w, vs = [v, w] ∧ t2 D ((σ.set i (some v)).set j (some w)) H1) : tSeq (tPar i j tA) t2 D σ H := k
theorem r_par {j : Nat} (k : tA σ H fun vs H1 => ∃ v w, vs = [v, w] ∧ D.nx ((σ.set i (some v)).set j (some w)) H1) : tPar i j tA D σ H := k
theorem r_ret (k : te σ H D.rt) : tRet te D σ H := k
theorem r_seqDrop (k : te σ H fun _ H1 => t2 D σ H1) : tSeq (tDrop te) t2 D σ H := k
theorem r_drop (k : te σ H fun _ H1 => D.nx σ H1) : tDrop te D σ H := k
theorem r_seqIf {c : TT} {t3 : TS} (k : c σ H fun b H1 => if b = true then t1 { D with nx := t3 D } σ H1 else t2 { D with nx := t3 D } σ H1) : tSeq (tIfS c t1 t2) t3 D σ H := k
theorem r_ifS {c : TT} (k : c σ H fun b H1 => if b = true then t1 D σ H1 else t2 D σ H1) : tIfS c t1 t2 D σ H := k
theorem r_gname {QG : St → Hp → Prop} (k : QG (σ.set i (some v)) H) : gName i v σ H QG := k
theorem r_cutIf {c : TT} {t3 : TS} (M : St → Hp → Prop) (k : c σ H fun b H1 => if b = true then t1 { D with nx := M } σ H1 else t2 { D with nx := M } σ H1) (k2 : ∀ σ' H', M σ' H' → t3 D σ' H') : Evl.tCut (tIfS c t1 t2) t3 D σ H := ⟨M, k, k2⟩
theorem r_yes {Qb : Bool → Hp → Prop} (k : Qb true H) : tYes σ H Qb := k
theorem r_callK {sp : Sp} {gV : List V → List V → List V} {E : XK} {tk : TA} (k : tA σ H fun vs H1 => tk σ H1 fun zs H2 => sp (gV vs zs) H2 Q E) : tCallK sp gV E tA tk σ H Q := k
theorem r_sl {r : V → Option Int → Option Int → Hp → VK → Prop} {tl th : TO} (k : te σ H fun x H1 => tl σ H1 fun l H2 => th σ H2 fun u H3 => r x l u H3 Q) : tSl r te tl th σ H Q := k
theorem r_nopart {QO : Option Int → Hp → Prop} (k : QO none H) : tNoPart σ H QO := k
theorem r_part {QO : Option Int → Hp → Prop} (k : te σ H fun x H1 => ∃ i, x = .int i ∧ QO (some i) H1) : tPart te σ H QO := k
theorem r_bm {K : PySem.W.Frag} {T : String} {r : V → List V → Hp → VK → Prop} (k : te σ H fun x H1 => tyV K T x H1 ∧ tA σ H1 fun xs H2 => r x xs H2 Q) : tBM K T r te tA σ H Q := k
theorem r_bm0 {K : PySem.W.Frag} {T : String} {r : V → List V → Hp → VK → Prop} (k : te σ H fun x H1 => tyV K T x H1 ∧ r x [] H1 Q) : tBM0 K T r te σ H Q := k
theorem r_gtup {K : PySem.W.Frag} {n : Nat} {g : TGs} {a : Addr} {xs : List V} {QG : St → Hp → Prop} (h : SqT K H a xs) (hn : xs.length = n) (k : g xs σ H QG) : gTup K n g (.ref a) σ H QG := ⟨a, xs, rfl, h, hn, k⟩
theorem r_gcons {g : TG} {u : TGs} {xs : List V} {QG : St → Hp → Prop} (k : g v σ H fun σ' H' => u xs σ' H' QG) : gCons g u (v :: xs) σ H QG := ⟨v, xs, rfl, k⟩
theorem r_gnil {QG : St → Hp → Prop} (k : QG σ H) : gNil [] σ H QG := ⟨rfl, k⟩
theorem r_gsub {to ti : TE} {ts : TSet} {QG : St → Hp → Prop} (k : to σ H fun o H1 => ti σ H1 fun j H2 => ts o j v H2 fun H3 => QG σ H3) : gSub to ti ts v σ H QG := k
theorem r_seqAsgG {g : TG} (k : te σ H fun x H1 => g x σ H1 (t2 D)) : tSeq (tAsg te g) t2 D σ H := k
theorem r_asgG {g : TG} (k : te σ H fun x H1 => g x σ H1 D.nx) : tAsg te g D σ H := k
theorem r_next (k : D.nx σ H) : tNext D σ H := k
theorem r_ixL {K : PySem.W.Frag} {p : Addr} {xs : List V} (h : SqL K H p xs) (ha : atI xs a = some v) (k : Q v H) : rIxL K (.ref p) (.int a) H Q := ⟨p, xs, a, v, rfl, rfl, h, ha, k⟩
theorem r_ixT {K : PySem.W.Frag} {p : Addr} {xs : List V} (h : SqT K H p xs) (ha : atI xs a = some v) (k : Q v H) : rIxT K (.ref p) (.int a) H Q := ⟨p, xs, a, v, rfl, rfl, h, ha, k⟩
theorem r_setL {p : Addr} {xs : List V} {j : Nat} {Qh : Hp → Prop} (h : H p = some (.lst xs)) (hj : ixN xs.length a = some j) (k : Qh (upd H p (.lst (xs.set j v)))) : rSetL (.ref p) (.int a) v H Qh := ⟨p, xs, a, j, rfl, rfl, h, hj, k⟩
theorem Same.new {H H1 : Hp} {p : Addr} {o : HO} (e : Same H H1) (np : H1 p = none) : Same H (upd H1 p o) := fun b u h => by
  have h1 := e b u h
  rw [upd_ne (ne_of_none h1 np)]
  exact h1
theorem Same.new0 {H : Hp} {p : Addr} {o : HO} (np : H p = none) : Same H (upd H p o) := (Same.refl H).new np
theorem Same.tup {K : PySem.W.Frag} {H H' : Hp} {a : Addr} {xs : List V} (e : Same H H') (h : SqT K H a xs) : SqT K H' a xs := by
  rcases h with (h | ⟨o, h⟩) | h
  · exact .inl (.inl (e _ _ h))
  · exact .inl (.inr ⟨o, e _ _ h⟩)
  · exact .inr h
end

theorem iteFb {b : Bool} {A B : Prop} (e : b = false) (h : B) : if b = true then A else B := by
  subst e
  exact iteF h
theorem iteTb {b : Bool} {A B : Prop} (e : b = true) (h : A) : if b = true then A else B := by
  subst e
  exact iteT h
/-- a tuple of whole numbers stands at t -/
def TupY (H : Hp) (t : Addr) (ns : List Int) : Prop := H t = some (.tup (ns.map V.int))
theorem TupY.same {H H' : Hp} {t : Addr} {ns : List Int} (h : TupY H t ns) (e : Same H H') : TupY H' t ns := e _ _ h
theorem TupY.sq {K : PySem.W.Frag} {H : Hp} {t : Addr} {ns : List Int} (h : TupY H t ns) : SqT K H t (ns.map V.int) := SqT.of h
theorem TupY.new {H : Hp} {t : Addr} {ns : List Int} {xs : List V} (e : xs = ns.map V.int) : TupY (upd H t (.tup xs)) t ns := by
  unfold TupY
  rw [upd_same, e]
/-- a list of whole numbers stands at l -/
def LstI (H : Hp) (t : Addr) (ns : List Int) : Prop := H t = some (.lst (ns.map V.int))
theorem dpAll_ints {K : PySem.W.Frag} {H : Hp} : ∀ ns : List Int, DpAll K H (ns.map V.int) (ns.map PyData.int)
  | [] => .nil
  | n :: r => .cons (.int n) (dpAll_ints r)
theorem canLay_ints : ∀ ns : List Int, PyData.canLayAll0 (ns.map PyData.int) = true
  | [] => rfl
  | n :: r => canLay_ints r
theorem depth_ints : ∀ ns : List Int, PyData.depthAll (ns.map PyData.int) = 0
  | [] => rfl
  | n :: r => by
    show max 0 (PyData.depthAll (r.map PyData.int)) = 0
    rw [depth_ints r]
    rfl
theorem shaped_tup (ns : List Int) : SeqAt.shaped (.tuple (ns.map PyData.int)) = true := by
  unfold SeqAt.shaped
  show (PyData.canLayAll0 (ns.map PyData.int) && decide (PyData.depthAll (ns.map PyData.int) + 1 ≤ 64)) = true
  rw [canLay_ints, depth_ints]
  rfl
theorem shaped_lst (ns : List Int) : SeqAt.shaped (.list (ns.map PyData.int)) = true := shaped_tup ns
theorem eqD_tup {K : PySem.W.Frag} {H : Hp} {a b : Addr} {ns ms : List Int} {Q : VK} (ha : SqT K H a (ns.map V.int)) (hb : SqT K H b (ms.map V.int)) (k : Q (.bl (decide (ns = ms))) H) : rEqD K (.ref a) (.ref b) H Q :=
  ⟨_, _, .tup ha (dpAll_ints ns), .tup hb (dpAll_ints ms), shaped_tup ns, shaped_tup ms, by
    show Q (.bl (PyData.eqvAll (ns.map PyData.int) (ms.map PyData.int))) H
    rw [PySem.W.ked_eqvAll]
    exact k⟩
theorem neD_tup {K : PySem.W.Frag} {H : Hp} {a b : Addr} {ns ms : List Int} {Q : VK} (ha : SqT K H a (ns.map V.int)) (hb : SqT K H b (ms.map V.int)) (k : Q (.bl (!decide (ns = ms))) H) : rNeD K (.ref a) (.ref b) H Q :=
  ⟨_, _, .tup ha (dpAll_ints ns), .tup hb (dpAll_ints ms), shaped_tup ns, shaped_tup ms, by
    show Q (.bl (!PyData.eqvAll (ns.map PyData.int) (ms.map PyData.int))) H
    rw [PySem.W.ked_eqvAll]
    exact k⟩
theorem eqD_lst {K : PySem.W.Frag} {H : Hp} {a b : Addr} {ns ms : List Int} {Q : VK} (ha : SqL K H a (ns.map V.int)) (hb : SqL K H b (ms.map V.int)) (k : Q (.bl (decide (ns = ms))) H) : rEqD K (.ref a) (.ref b) H Q :=
  ⟨_, _, .lst ha (dpAll_ints ns), .lst hb (dpAll_ints ms), shaped_lst ns, shaped_lst ms, by
    show Q (.bl (PyData.eqvAll (ns.map PyData.int) (ms.map PyData.int))) H
    rw [PySem.W.ked_eqvAll]
    exact k⟩
theorem neD_lst {K : PySem.W.Frag} {H : Hp} {a b : Addr} {ns ms : List Int} {Q : VK} (ha : SqL K H a (ns.map V.int)) (hb : SqL K H b (ms.map V.int)) (k : Q (.bl (!decide (ns = ms))) H) : rNeD K (.ref a) (.ref b) H Q :=
  ⟨_, _, .lst ha (dpAll_ints ns), .lst hb (dpAll_ints ms), shaped_lst ns, shaped_lst ms, by
    show Q (.bl (!PyData.eqvAll (ns.map PyData.int) (ms.map PyData.int))) H
    rw [PySem.W.ked_eqvAll]
    exact k⟩

/-- l + m, lists that are read (the script too) -/
def rCatR (K : PySem.W.Frag) : R2 := fun x y H Q => ∃ l b xs zs, x = .ref l ∧ y = .ref b ∧ SqL K H l xs ∧ SqL K H b zs ∧ xs.length + zs.length ≤ sizeLine ∧ ∀ p, H p = none → Q (.ref p) (upd H p (.lst (xs ++ zs)))
theorem op_catR {X : Cx} : OpR X (binaryOp .Add) (rCatR X.K) := by
  intro pins s σ H x y v u Q I rx ry h
  obtain ⟨l, b, xs, zs, rfl, rfl, hL, hB, hz, q⟩ := h
  cases rx
  cases ry
  obtain ⟨us, r1, p1, _⟩ := I.list hL
  obtain ⟨ws, r2, p2, _⟩ := I.list hB
  obtain ⟨⟨c1, d1, e1, sl1⟩, n1, g1, k1, z1, q1⟩ := p1
  obtain ⟨⟨c2, d2, e2, sl2⟩, n2, g2, k2, z2, q2⟩ := p2
  dsimp only at k1 z1 q1 k2 z2 q2
  subst k1 z1 q1 k2 z2 q2
  have hl1 := r1.length
  have hl2 := r2.length
  refine concat_meets ⟨_, g1, rfl⟩ ⟨_, g2, rfl⟩ noFill_list_add seq_list_add PySem.F.slot_list_add PySem.F.entry_list_add (PySem.F.args_list_add_2 _ _) (list_addW l b us.toArray ws.toArray n1 n2 none none sl1 sl2 (by rw [List.size_toArray, List.size_toArray]; omega)) ⟨g1, g2, ?_⟩
  have ea : us.toArray ++ ws.toArray = (us ++ ws).toArray := by simp
  rw [ea]
  exact ⟨.ref _, _, I.lnew (t' := s.toks) (r1.append r2) (by rw [List.length_append]; omega), rfl, q _ I.fresh⟩

/-! ### the springs of the laws -/
def MM : Int := 618970019642690137449562111
/-- a spring stands at p -/
def Spr (H : Hp) (p : Addr) : Prop := ∃ a b c : Int, H p = some (.lst [.int a, .int b, .int c]) ∧ 0 ≤ b ∧ b < MM
/-- all but p is as it was -/
def But (p : Addr) (H H' : Hp) : Prop := ∀ b o, b ≠ p → H b = some o → H' b = some o
theorem But.refl (p : Addr) (H : Hp) : But p H H := fun _ _ _ h => h
theorem But.trans {p : Addr} {H H1 H2 : Hp} (a : But p H H1) (b : But p H1 H2) : But p H H2 := fun c o n h => b c o n (a c o n h)
theorem But.new {p q : Addr} {H H1 : Hp} {o : HO} (a : But p H H1) (nq : H1 q = none) : But p H (upd H1 q o) := fun c u n h => by
  have h1 := a c u n h
  rw [upd_ne (ne_of_none h1 nq)]
  exact h1
theorem But.mut {p : Addr} {H H1 : Hp} {o : HO} (a : But p H H1) : But p H (upd H1 p o) := fun c u n h => by
  rw [upd_ne n]
  exact a c u n h
theorem But.same {p : Addr} {H H1 H2 : Hp} (a : But p H H1) (b : Same H1 H2) : But p H H2 := fun c u n h => b c u (a c u n h)
theorem Same.but {p : Addr} {H H1 : Hp} (a : Same H H1) : But p H H1 := fun c u _ h => a c u h
theorem But.free {p q : Addr} {H H1 : Hp} (a : But p H H1) (h : H1 q = none) (n : q ≠ p) : H q = none := by
  cases e : H q with
  | none => rfl
  | some o =>
    rw [a q o n e] at h
    cases h
/-- a spring that was made on the way -/
theorem But.of_new {p : Addr} {H H1 H2 : Hp} (np : H p = none) (s : Same H H1) (a : But p H1 H2) : Same H H2 := fun b o h => a b o (ne_of_none h np) (s b o h)
theorem Spr.same {p : Addr} {H H1 : Hp} (s : Same H H1) (h : Spr H p) : Spr H1 p := by
  obtain ⟨a, b, c, e, r⟩ := h
  exact ⟨a, b, c, s _ _ e, r⟩
theorem Spr.ne {p q : Addr} {H : Hp} (h : Spr H p) (n : H q = none) : p ≠ q := by
  obtain ⟨a, b, c, e, r⟩ := h
  exact ne_of_none e n
theorem Spr.new {p q : Addr} {H : Hp} {o : HO} (h : Spr H p) (n : H q = none) : Spr (upd H q o) p := h.same (Same.new0 n)
theorem Spr.put {H : Hp} {p D : Addr} {o : HO} (h : Spr H p) (n : D ≠ p) : Spr (upd H D o) p := by
  obtain ⟨x1, x2, x3, e1, e2⟩ := h
  exact ⟨x1, x2, x3, by rw [upd_ne (Ne.symm n)]; exact e1, e2⟩
theorem Spr.here {p : Addr} {H : Hp} (h : Spr H p) : ∃ o, H p = some o := by
  obtain ⟨a, b, c, e, r⟩ := h
  exact ⟨_, e⟩

def spSpring : Sp := fun vs H Q _ => ∃ c k : Int, vs = [.int c, .int k] ∧ ∀ p H', H p = none → Same H H' → Spr H' p → Q (.ref p) H'
def spSip : Sp := fun vs H Q _ => ∃ (p : Addr) (m : Int), vs = [.ref p, .int m] ∧ Spr H p ∧ 1 ≤ m ∧ m < 2 ^ 250 ∧ ∀ r H', 0 ≤ r → r < m → But p H H' → Spr H' p → Q (.int r) H'
def spFar : Sp := fun vs H Q _ => ∃ (p : Addr) (w : Int), vs = [.ref p, .int w] ∧ Spr H p ∧ 1 ≤ w ∧ w < 2 ^ 250 ∧ ∀ r H', -w < r → r < w → But p H H' → Spr H' p → Q (.int r) H'
def spTruth : Sp := fun vs H Q _ => ∃ a b : Bool, vs = [.bl a, .bl b] ∧ Q (.bl (a == b)) H
def spLaw (K : PySem.W.Frag) : Sp := fun vs H Q _ => ∃ (a : Addr) (ns : List Int), vs = [.ref a] ∧ SqL K H a (ns.map V.int) ∧ ns.length ≤ 63 ∧ (∀ z ∈ ns, Builtin.Int.intBits z ≤ 1048576) ∧ ∀ H', Q (.bl true) H'

theorem cut_ints (ns : List Int) (k : Nat) : cutV (ns.map V.int) none (some (k : Int)) = (ns.take k).map V.int := by
  unfold cutV
  rw [HT.sIx_none, HT.sIx_nat, List.drop_zero, List.length_map, Nat.sub_zero, ← List.map_take]
  congr 1
  rw [List.take_eq_take_iff]
  omega
/-- the cells of a script: the first k, or a 0 -/
def cells (ns : List Int) (k : Nat) : List Int := ns.take k ++ List.replicate (if ns.length = 0 then 1 else 0) 0
theorem cells_len {ns : List Int} (h : ns.length ≤ 63) (k : Nat) : (cells ns k).length ≤ 64 := by
  unfold cells
  rw [List.length_append, List.length_take, List.length_replicate]
  split <;> omega
theorem cells_v (ns : List Int) (k : Nat) : (ns.take k).map V.int ++ (List.replicate ((if ns.length = 0 then (1 : Int) else 0).toNat) [V.int 0]).flatten = (cells ns k).map V.int := by
  unfold cells
  rw [List.map_append]
  congr 1
  split <;> rfl
/-- keywords alone -/
def kwG {α : Type} : List α → List α → List α
  | [], ws => ws
  | _ :: _, _ => []
theorem kwG_rel {vs : List V} {us : List Value} {zs : List V} {ws : List Value} (h : Vals vs us) (k : Vals zs ws) : Vals (kwG vs zs) (kwG us ws) := by
  cases h with
  | nil => exact k
  | cons _ _ => exact .nil
/-! ### greatest common divisors -/
def gcdL : List Int → Nat
  | [] => 0
  | a :: r => Nat.gcd a.natAbs (gcdL r)
theorem gcdL_foldl : ∀ (l : List Int) (g : Nat), l.foldl (fun g a => Nat.gcd g a.natAbs) g = Nat.gcd g (gcdL l)
  | [], g => (Nat.gcd_zero_right g).symm
  | a :: r, g => by
    rw [List.foldl_cons, gcdL_foldl r, gcdL, Nat.gcd_assoc]
theorem gcdL_append : ∀ (l r : List Int), gcdL (l ++ r) = Nat.gcd (gcdL l) (gcdL r)
  | [], r => (Nat.gcd_zero_left _).symm
  | a :: l, r => by rw [List.cons_append, gcdL, gcdL, gcdL_append l r, Nat.gcd_assoc]
theorem gcdL_one (a : Int) : gcdL [a] = a.natAbs := Nat.gcd_zero_right _
theorem gcdL_reverse : ∀ l : List Int, gcdL l.reverse = gcdL l
  | [] => rfl
  | a :: r => by rw [List.reverse_cons, gcdL_append, gcdL_one, gcdL_reverse r, gcdL, Nat.gcd_comm]
theorem gcdL_neg : ∀ l : List Int, gcdL (l.map fun a => 0 - a) = gcdL l
  | [] => rfl
  | a :: r => by
    rw [List.map_cons, gcdL, gcdL, gcdL_neg r]
    have e : (0 - a).natAbs = a.natAbs := by omega
    rw [e]
theorem gcdL_mul : ∀ (l : List Int) (k : Int), gcdL (l.map fun a => a * k) = gcdL l * k.natAbs
  | [], k => (Nat.zero_mul _).symm
  | a :: r, k => by rw [List.map_cons, gcdL, gcdL, gcdL_mul r, Int.natAbs_mul, Nat.gcd_mul_right]
theorem gcdL_dvd : ∀ (l : List Int) (a : Int), a ∈ l → ((gcdL l : Nat) : Int) ∣ a
  | b :: r, a, h => by
    rcases List.mem_cons.mp h with e | e
    · subst e
      exact Int.ofNat_dvd_left.mpr (Nat.gcd_dvd_left _ _)
    · exact Int.dvd_trans (Int.ofNat_dvd.mpr (Nat.gcd_dvd_right _ _)) (gcdL_dvd r a e)
theorem dvd_gcdL {d : Nat} : ∀ (l : List Int), (∀ a ∈ l, (d : Int) ∣ a) → d ∣ gcdL l
  | [], _ => Nat.dvd_zero d
  | a :: r, h => Nat.dvd_gcd (Int.ofNat_dvd_left.mp (h a List.mem_cons_self)) (dvd_gcdL r fun b hb => h b (List.mem_cons_of_mem _ hb))
theorem gcdL_lt {B : Nat} (hB : 0 < B) : ∀ (l : List Int), (∀ a ∈ l, a.natAbs < B) → gcdL l < B
  | [], _ => hB
  | a :: r, h => by
    have h1 := h a List.mem_cons_self
    have h2 := gcdL_lt hB r fun b hb => h b (List.mem_cons_of_mem _ hb)
    rw [gcdL]
    by_cases e : a.natAbs = 0
    · rw [e, Nat.gcd_zero_left]
      exact h2
    · exact Nat.lt_of_le_of_lt (Nat.gcd_le_left _ (Nat.pos_of_ne_zero e)) h1
theorem gcdL_zero {l : List Int} (h : gcdL l = 0) : ∀ a ∈ l, a = 0 := fun a ha => by
  have q := gcdL_dvd l a ha
  rw [h] at q
  exact Int.zero_dvd.mp q
theorem gcdL_of_zero : ∀ {l : List Int}, (∀ a ∈ l, a = 0) → gcdL l = 0
  | [], _ => rfl
  | a :: r, h => by
    rw [gcdL, h a List.mem_cons_self, gcdL_of_zero fun b hb => h b (List.mem_cons_of_mem _ hb)]
    rfl
/-- the seen place ahead -/
def firstL (l : List Int) : List Int := if gcdL l = 0 then l else l.map fun a => a / ((gcdL l : Nat) : Int)
theorem firstL_len (l : List Int) : (firstL l).length = l.length := by
  unfold firstL
  split
  · rfl
  · exact List.length_map _
theorem firstL_back {l : List Int} : (firstL l).map (fun a => a * ((gcdL l : Nat) : Int)) = if gcdL l = 0 then l.map (fun _ => 0) else l := by
  unfold firstL
  split
  · rename_i h
    rw [h]
    exact List.map_congr_left fun a _ => Int.mul_zero a
  · rw [List.map_map]
    conv => rhs; rw [← List.map_id l]
    exact List.map_congr_left fun a ha => Int.ediv_mul_cancel (gcdL_dvd l a ha)
theorem firstL_gcd {l : List Int} (h : gcdL l ≠ 0) : gcdL (firstL l) = 1 := by
  have e := firstL_back (l := l)
  rw [if_neg h] at e
  have q := gcdL_mul (firstL l) ((gcdL l : Nat) : Int)
  rw [e, Int.natAbs_natCast] at q
  have : 1 * gcdL l = gcdL (firstL l) * gcdL l := by rw [Nat.one_mul]; exact q
  exact (Nat.eq_of_mul_eq_mul_right (Nat.pos_of_ne_zero h) this).symm
theorem gcdL_same {l m : List Int} (h : ∀ d : Nat, (∀ a ∈ l, (d : Int) ∣ a) ↔ ∀ a ∈ m, (d : Int) ∣ a) : gcdL l = gcdL m := by
  refine Nat.dvd_antisymm ?_ ?_
  · exact dvd_gcdL m ((h _).mp (gcdL_dvd l))
  · exact dvd_gcdL l ((h _).mpr (gcdL_dvd m))
theorem all_set {P : Int → Prop} {l : List Int} {i : Nat} {z : Int} (h : ∀ j a, j ≠ i → l[j]? = some a → P a) (hz : P z) : ∀ a ∈ l.set i z, P a := by
  intro a ha
  obtain ⟨j, hj⟩ := List.getElem?_of_mem ha
  by_cases e : j = i
  · subst e
    have hl := (List.getElem?_eq_some_iff.mp hj).1
    rw [List.length_set] at hl
    rw [List.getElem?_set_self hl] at hj
    cases hj
    exact hz
  · rw [List.getElem?_set_ne (Ne.symm e)] at hj
    exact h j a e hj
theorem set_other {l : List Int} {i j : Nat} {z a : Int} (n : j ≠ i) (h : l[j]? = some a) : a ∈ l.set i z :=
  List.mem_of_getElem? (i := j) (by rw [List.getElem?_set_ne (Ne.symm n)]; exact h)
theorem set_here {l : List Int} {i : Nat} {z a : Int} (h : l[i]? = some a) : z ∈ l.set i z :=
  List.mem_of_getElem? (i := i) (List.getElem?_set_self (List.getElem?_eq_some_iff.mp h).1)
/-- a multiple of another coordinate added -/
theorem gcdL_shear {l : List Int} {i j : Nat} {x y k : Int} (n : j ≠ i) (hx : l[i]? = some x) (hy : l[j]? = some y) : gcdL (l.set i (x + k * y)) = gcdL l := by
  refine gcdL_same fun d => ⟨fun h a ha => ?_, fun h => all_set (fun m a _ hm => h a (List.mem_of_getElem? hm)) (Int.dvd_add (h x (List.mem_of_getElem? hx)) (Int.dvd_trans (h y (List.mem_of_getElem? hy)) (Int.dvd_mul_left _ _)))⟩
  obtain ⟨m, hm⟩ := List.getElem?_of_mem ha
  by_cases e : m = i
  · subst e
    rw [hx] at hm
    cases hm
    have h1 := h _ (set_here (z := x + k * y) hx)
    have h2 := Int.dvd_trans (h y (set_other n hy)) (Int.dvd_mul_left k y)
    have h3 := Int.dvd_sub h1 h2
    rwa [Int.add_sub_cancel] at h3
  · exact h a (set_other e hm)
/-- two coordinates exchanged, one with its sign turned -/
theorem gcdL_swap {l : List Int} {i j : Nat} {x y : Int} (n : j ≠ i) (hx : l[i]? = some x) (hy : l[j]? = some y) : gcdL ((l.set i y).set j (0 - x)) = gcdL l := by
  have hx' : (0 - x) ∈ (l.set i y).set j (0 - x) := set_here (a := y) (by rw [List.getElem?_set_ne (Ne.symm n)]; exact hy)
  have hy' : y ∈ (l.set i y).set j (0 - x) := set_other (j := i) (Ne.symm n) (List.getElem?_set_self (List.getElem?_eq_some_iff.mp hx).1)
  refine gcdL_same fun d => ⟨fun h a ha => ?_, fun h => all_set (fun m a hm hma => ?_) (Int.dvd_sub (Int.dvd_zero _) (h x (List.mem_of_getElem? hx)))⟩
  · obtain ⟨m, hm⟩ := List.getElem?_of_mem ha
    by_cases e : m = i
    · subst e
      rw [hx] at hm
      cases hm
      have h1 := Int.dvd_sub (Int.dvd_zero (d : Int)) (h _ hx')
      have e2 : 0 - (0 - x) = x := by omega
      rwa [e2] at h1
    · by_cases e2 : m = j
      · subst e2
        rw [hy] at hm
        cases hm
        exact h _ hy'
      · exact h a (set_other e2 (by rw [List.getElem?_set_ne (Ne.symm e)]; exact hm))
  · by_cases e : m = i
    · subst e
      rw [List.getElem?_set_self (List.getElem?_eq_some_iff.mp hx).1] at hma
      cases hma
      exact h y (List.mem_of_getElem? hy)
    · rw [List.getElem?_set_ne (Ne.symm e)] at hma
      exact h a (List.mem_of_getElem? hma)
theorem take_more {α : Type} : ∀ {l : List α} {i : Nat} {x : α}, l[i]? = some x → l.take (i + 1) = l.take i ++ [x]
  | [], i, x, h => by simp at h
  | a :: l, 0, x, h => by
    have e : a = x := Option.some.inj h
    subst e
    rfl
  | a :: l, i + 1, x, h => by
    have ih := take_more (l := l) (i := i) (x := x) h
    show a :: l.take (i + 1) = a :: l.take i ++ [x]
    rw [ih]
    rfl
theorem ints_at {ns : List Int} {i : Nat} {x : V} (h : (ns.map V.int)[i]? = some x) : ∃ z, ns[i]? = some z ∧ x = V.int z := by
  rw [List.getElem?_map] at h
  cases e : ns[i]? with
  | none =>
    rw [e] at h
    cases h
  | some z =>
    rw [e] at h
    exact ⟨z, rfl, (Option.some.inj h).symm⟩
theorem at_int {ns : List Int} {i : Int} (h0 : 0 ≤ i) (h1 : i < (ns.length : Int)) : ∃ x, ns[i.toNat]? = some x ∧ atI (ns.map V.int) i = some (.int x) := by
  have hi : i.toNat < ns.length := by omega
  refine ⟨ns[i.toNat], List.getElem?_eq_getElem hi, ?_⟩
  have e : i = ((i.toNat : Nat) : Int) := (Int.toNat_of_nonneg h0).symm
  exact at_of e (by rw [List.getElem?_map, List.getElem?_eq_getElem hi]; rfl)
theorem ix_int {ns : List Int} {i : Int} (h0 : 0 ≤ i) (h1 : i < (ns.length : Int)) : ixN (ns.map V.int).length i = some i.toNat := by
  rw [List.length_map]
  unfold ixN
  rw [if_pos h0, if_pos h1]
theorem rep_ints (n : Nat) : (List.replicate ((n : Int)).toNat [V.int 0]).flatten = (List.replicate n (0 : Int)).map V.int := by
  rw [Int.toNat_natCast]
  induction n with
  | zero => rfl
  | succ n ih => rw [List.replicate_succ, List.replicate_succ, List.flatten_cons, List.map_cons, ih]; rfl
theorem Spr.tupNe {H : Hp} {p t : Addr} {ns : List Int} (h : Spr H p) (ht : TupY H t ns) : t ≠ p := fun e => by
  obtain ⟨x1, x2, x3, e1, _⟩ := h
  unfold TupY at ht
  rw [e, e1] at ht
  cases ht
end L2

/-! errors that are caught, kept and asked -/
namespace L2
open PySem PySem.Spec PyProof.Rows
/-- a caught error at a: its class, its own dict -/
def exK (cls : Value) (d : Option Addr) (a : Addr) : HO := .ext fun h => ∃ (oe : Obj) (vs : Array Value), h.get? a = some oe ∧ Zc cls d oe ∧ oe.data = .fields vs
theorem exK_ok {P : Program} {w : World} {H : Hp} {h : Heap} {a : Addr} {cls : Value} {d : Option Addr} {oe : Obj} {vs : Array Value} (e : h.get? a = some oe) (z : Zc cls d oe) (dd : oe.data = .fields vs) : ObjOk P w H h a (exK cls d a) :=
  ⟨⟨oe, vs, e, z, dd⟩, ⟨oe, e⟩, fun _ _ ⟨o, v, q, r⟩ k => ⟨o, v, k o q, r⟩⟩
section
variable {X : Cx} {pins : List (Addr × Obj)} {σ : St} {H : Hp} {s : Shared}
theorem Inv.track {a : Addr} {o : HO} {oe : Obj} {vs : Array Value} (I : Inv X pins σ H s) (ha : H a = none) (h0 : X.s_0.heap.get? a = none) (ho : s.heap.get? a = some oe) (hd : oe.data = .fields vs) (nL : a ≠ X.env.locals)
    (np : ∀ p ∈ X.pn ++ pins, p.1 ≠ a) (new : ObjOk X.prog X.w (upd H a o) s.heap a o) : Inv X pins σ (upd H a o) s where
  ok := I.ok
  os := I.os
  bare := I.bare
  base := {
    keep := fun b u e n hf hx => I.base.keep b u e n hf hx
    slot := fun b u e n hf hx => I.base.slot b u e n hf hx
    free := fun b u e n hx => by
      have nb : b ≠ a := fun z => by
        rw [z, h0] at e
        cases e
      rw [upd_ne nb]
      exact I.base.free b u e n hx
    there := fun b u e hx => I.base.there b u e hx
    tups := fun b xs e => by
      have q := I.base.tups b xs e
      rw [upd_ne (ne_of_none q ha)]
      exact q
    frzs := fun b u v e => by
      have q := I.base.frzs b u v e
      rw [upd_ne (ne_of_none q ha)]
      exact q
    tbls := fun b ps e => by
      obtain ⟨m, q⟩ := I.base.tbls b ps e
      exact ⟨m, by rw [upd_ne (ne_of_none q ha)]; exact q⟩ }
  loc := I.loc
  cell := I.cell
  free := by
    rw [upd_ne (Ne.symm nL)]
    exact I.free
  freeC := fun x c e => by
    have nc : c ≠ a := fun z => by
      obtain ⟨v, oc, q, qd⟩ := I.cell x c e
      rw [z, ho] at q
      cases q
      rw [hd] at qd
      cases qd
    rw [upd_ne nc]
    exact I.freeC x c e
  pin := fun p hp => by
    obtain ⟨q1, q2, q3, q4, q5⟩ := I.pin p hp
    exact ⟨q1, by rw [upd_ne (np p hp)]; exact q2, q3, q4, q5⟩
  hok := HOk.laidN I.hok (fun _ _ q => q) ha new
  len := I.len
end
/-- except c as n: the suite goes on, and the error is known behind it, too -/
def wKeep (K : PySem.W.Frag) (c : Value) (i : Nat) (ts : Addr → Value → Option Addr → TS) (Wout : WX) (D : Ends) : WX := fun cls d σ H =>
  ∃ b, PySem.W.exmOne K cls c = some b ∧ (b = true → ∀ a, H a = none → ts a cls d { nx := fun σ' H' => H' a = none → D.nx (σ'.set i none) (upd H' a (exK cls d a)), rt := fun _ _ => False, bk := fun _ _ => False, ct := fun _ _ => False } (σ.set i (some (.ref a))) H) ∧
    (b = false → Wout cls d σ H)
section
variable {X : Cx} {x n : Str} {c : Value} {i : Nat} {body suite : List Stmt} {b₀ : Stmt} {np pos pos' : Pos} {tb : WX → TS} {ts : Addr → Value → Option Addr → TS} {Wout : WX}
theorem ps_try_keep (hex : X.ex = []) (hs : X.stack = X.env :: X.outer) (hf : X.env.frame = some X.env.locals) (hN : X.N.Nodup) (hi : X.N[i]? = some n) (hln : X.env.kindOf n = some .local) (hc : Names X x c) (tk : Takes X Wout)
    (hb : ∀ (W : WX) (pn : List (Addr × Obj)) (xe : Value → Shared → Prop), Takes (X.tr pn xe) W → PassesOwn (model X.prog X.w) X.A X.env xe → PSs (X.tr pn xe) body (tb W))
    (hsu : ∀ (a : Addr) (oe : Obj) (cls : Value) (d : Option Addr) (pn : List (Addr × Obj)), Zc cls d oe → (∃ vs, oe.data = .fields vs) → PSs (X.suite a ((a, oe) :: pn)) (b₀ :: suite) (ts a cls d)) :
    PS X (.Try body [.ExceptHandler (some (.Name x np)) (some n) (b₀ :: suite) pos'] [] [] pos) (fun D σ H => tb (wKeep X.K c i ts Wout D) D σ H) := by
  refine ⟨fun pins s σ H D I h => ?_⟩
  have ok := I.ok
  have hfr : X.A.frames = some (X.env :: X.outer) := by rw [ok.frames, hs]
  have hloc : Loc X.env.scope n := .inl hln
  refine wpAny_Try_except ?_
  refine wpAny_mono ((hb (wKeep X.K c i ts Wout D) (X.pn ++ pins) (fun e s₁ => wpAny (model X.prog X.w) X.A (noteFrame e X.env) (fun _ s₂ => wpAny (model X.prog X.w) X.A (setFlight e none) (fun _ s₃ =>
    wpAny (model X.prog X.w) X.A (handleBy e X.env [.ExceptHandler (some (.Name x np)) (some n) (b₀ :: suite) pos']) (SP X pins D) X.xe s₃) X.xe s₂) X.xe s₁) (fun u s' xx => ?_) PassesOwn.looking).run [] s σ H D (I.toTry _) h) (fun f s1 hsp => ?_) (fun e s1 he => he)
  · obtain ⟨a, B, sI, pins', σ', H', cls, d, rfl, J', nb, up, sky, na, os, ag, b, hb1, hyes, hno⟩ := xx
    have J : Inv X pins σ' H' sI := J'.ofTry ok
    have sky' : Sky B (X.env :: X.outer) a (Zc cls d) X.env.locals s'.heap := by rw [← hs]; exact sky
    show wpAny (model X.prog X.w) X.A (noteFrame (.ref a) X.env) _ _ _
    refine Sky.land Zc.steady hfr hf sky' fun h3 fl3 up3 => ?_
    have J3 : Inv X pins σ' H' { s' with heap := h3 } := J.landed nb fl3.1 (up.trans up3) os ag
    obtain ⟨oe3, vs3, he3, hz3, hd3⟩ := fl3.there
    have notFr : ∀ {h : Heap} {o : Obj} {vs : Array Value}, h.FunFrames B (X.env :: X.outer) → h.get? a = some o → o.data = .fields vs → a ∉ frs (X.env :: X.outer) := fun {h o vs} ff e dd hm => by
      obtain ⟨_, o', e', hnf⟩ := ff.mem hm
      rw [e] at e'; cases e'
      exact hnf _ dd
    have nfr := notFr fl3.2.2.1 he3 hd3
    have nL : a ≠ X.env.locals := fun z => nfr (List.mem_filterMap.mpr ⟨X.env, List.mem_cons_self, by rw [hf, z]⟩)
    have nF : a ∉ X.fs := fun hm => by
      obtain ⟨e, he, q⟩ := List.mem_filterMap.mp hm
      exact nfr (List.mem_filterMap.mpr ⟨e, List.mem_cons_of_mem _ he, q⟩)
    have newI : sI.heap.get? a = none := by
      cases e : sI.heap.get? a with
      | none => rfl
      | some o =>
        have q := nb a o e (by rw [hs]; exact nfr)
        rw [fl3.2.1] at q
        cases q
    have new0 : X.s_0.heap.get? a = none := by
      cases e : X.s_0.heap.get? a with
      | none => rfl
      | some o =>
        obtain ⟨o', q⟩ := J.base.there a o e (by rw [hex]; exact fun z => nomatch z)
        rw [newI] at q
        cases q
    have npin : ∀ p ∈ X.pn ++ pins, p.1 ≠ a := fun p hp z => by
      have q := (J.pin p hp).1
      rw [z, newI] at q
      cases q
    have S3 := J3.suite he3 hd3 na nL nF
    refine wpAny_handleBy_cons (codeAny_handlers_test ?_) (by intro q; cases q)
    have LT : PySem.W.Looks (model X.prog X.w) h3 (typeOf (.ref a)) cls := fun A Q E s k q => wpAny_typeOf_ref (k _ _ he3) (by rw [hz3.1]; exact q)
    have LM := PySem.W.exm_one (M := model X.prog X.w) (J3.kIn) LT hb1
    have test : ∀ {Q : Value → Shared → Prop} {E : Value → Shared → Prop}, Q c { s' with heap := h3 } → wpAny (model X.prog X.w) (X.A.mark (some (.ref a))) (eval (.Name x np) X.env) Q E { s' with heap := h3 } := fun {Q E} q => by
      obtain ⟨hg, hdbg, hm | ⟨hm, hv, hnn⟩⟩ := hc
      · exact ld_glob (X := X.suite a ((a, oe3) :: (X.pn ++ pins))) S3 hg hm q hdbg
      · exact ld_blt (X := X.suite a ((a, oe3) :: (X.pn ++ pins))) S3 hg hm hv q hnn hdbg
    refine test (LM.here ?_)
    cases b with
    | true =>
      refine codeAny_handlers_suite_as ?_
      refine HandSPX.lands_againZ fl3 fun h4 fl4 up4 => ?_
      have J4 : Inv X pins σ' H' { s' with heap := h4 } := J.landed nb fl4.1 ((up.trans up3).trans up4) os ag
      obtain ⟨oe4, vs4, he4, hz4, hd4⟩ := fl4.there
      have S4 := J4.suite he4 hd4 na nL nF
      refine store_ok (X := X.suite a ((a, oe4) :: (X.pn ++ pins))) (v := .ref a) S4 hN hi hloc rfl (fun s5 S5 => ?_) (.inr hln)
      refine wpAny_mono ((hsu a oe4 cls d (X.pn ++ pins) hz4 ⟨_, hd4⟩).run [] s5 _ H' _ S5 (hyes rfl a na)) (fun f s6 hsp => ?_) (fun _ _ z => False.elim z)
      cases f with
      | next =>
        obtain ⟨σ6, H6, S6, q6⟩ := hsp
        have P6 := S6.pin (a, oe4) (List.mem_append_left _ List.mem_cons_self)
        have U6 := S6.unsuite ok
        have V6 : Inv X ((a, oe4) :: pins) σ6 H6 s6 := U6.pins_of fun p hp => by
          rcases List.mem_cons.mp hp with e | e
          · subst e
            exact ⟨P6.1, P6.2.1, P6.2.2.1, P6.2.2.2.1, P6.2.2.2.2⟩
          · exact U6.pin p (List.mem_append_right _ e)
        refine gone_ok V6 hN hi hln fun s7 J7 => ?_
        have P7 := J7.pin (a, oe4) (List.mem_append_right _ List.mem_cons_self)
        have J8 : Inv X pins (σ6.set i none) H6 s7 := J7.pins_of fun p hp => J7.pin p (List.mem_append_right _ (List.mem_cons_of_mem _ hp))
        exact ⟨_, _, J8.track P7.2.1 new0 P7.1 hd4 nL npin (exK_ok P7.1 hz4 hd4), q6 P6.2.1⟩
      | brk =>
        obtain ⟨σ6, H6, S6, q6⟩ := hsp
        exact q6.elim
      | cont =>
        obtain ⟨σ6, H6, S6, q6⟩ := hsp
        exact q6.elim
      | ret u =>
        obtain ⟨v6, σ6, H6, S6, r6, q6⟩ := hsp
        exact q6.elim
    | false =>
      show wpAny _ X.A (handleBy (.ref a) X.env []) _ _ _
      refine wpAny_handleBy_nil ?_
      obtain ⟨k1, k2, k3, oe, vs, T, oT, ts', he, hz, hd, h1, hr⟩ := id fl3
      unfold PySem.passOn
      refine wpAny_bind (wpAny_field he hd h1 ?_)
      rw [if_neg (show ¬ ((Value.ref T == Value.none) = true) from by simp)]
      have fin : wpAny (model X.prog X.w) X.A (setFlight (.ref a) X.env.frame) (fun _ s4 => wpAny (model X.prog X.w) X.A (throw (.ref a) : Sem Flow) (SP X pins D) X.xe s4) X.xe { s' with heap := h3 } := by
        rw [hf]
        refine HandSPX.setFlight_upZ fl3 fun h4 hh4 up4 => wpAny_throw (tk _ _ ?_)
        exact ⟨a, B, sI, pins, σ', H', cls, d, rfl, J, nb, (up.trans up3).trans up4, .inr (.inr (by rw [hs]; exact hh4)), na, os, ag, hno rfl⟩
      first
        | exact wpAny_bind (wpAny_pure (wpAny_bind fin))
        | exact wpAny_bind fin
  · cases f with
    | next =>
      obtain ⟨σ', H', J', q⟩ := hsp
      exact wpAny_execs_nil ⟨σ', H', J'.ofTry ok, q⟩
    | brk =>
      obtain ⟨σ', H', J', q⟩ := hsp
      exact ⟨σ', H', J'.ofTry ok, q⟩
    | cont =>
      obtain ⟨σ', H', J', q⟩ := hsp
      exact ⟨σ', H', J'.ofTry ok, q⟩
    | ret u =>
      obtain ⟨v, σ', H', J', r, q⟩ := hsp
      exact ⟨v, σ', H', J'.ofTry ok, r, q⟩
end
/-- e.f, e a kept error -/
def tXk (K : PySem.W.Frag) (f : Str) (te : TE) : TE := fun σ H Q => te σ H fun x H1 => ∃ (a C dd : Addr) (fs : List (Str × V)) (v : V), x = .ref a ∧ XfC K C ∧ PySem.W.findIn K (.ref C) f = some none ∧ H1 a = some (exK (.ref C) (some dd) a) ∧ H1 dd = some (.xd fs) ∧ fs.lookup f = some v ∧ Q v H1
theorem pe_xk {X : Cx} {e : Expr} {te : TE} {pos : Pos} {n : Str} (he : PE X e te) (hb : attributeBase e n X.env (eval e X.env) = eval e X.env := by rfl) : PE X (.Attribute e n pos) (tXk X.K n te) := by
  refine ⟨fun pins s σ H Q I h => ?_⟩
  refine attr_of hb (thn (he.run pins s σ H _ I h) fun u s1 hh => ?_)
  obtain ⟨x, H1, I1, rx, a, C, dd, fs, v, ex, T, hno, ea, ed, l, q⟩ := hh
  subst ex
  obtain rfl : u = Value.ref a := rx
  obtain ⟨⟨oe, vs, ha, hz, hd⟩, _, _⟩ := I1.hok a _ ea
  have hx : ObjOk X.prog X.w H1 s1.heap dd (.xd fs) := I1.hok dd _ ed
  obtain ⟨mA, hns, hr⟩ := hx
  obtain ⟨od, ho, hl⟩ := lookIn_ns hns
  obtain ⟨u, hu, ru⟩ := RelO.some_of (v := v) (o := mA n) (by rw [← l]; exact hr n)
  have J : PySem.W.InstAt s1.heap a oe C (some od) := ⟨ha, hz.1, by unfold PySem.W.notCls; rw [hd] <;> rfl, by rw [hz.2]; exact ho⟩
  exact HandSPX.exc_get I1.kIn J T.ga T.gg T.exC (PySem.W.findObj_own T.hdC hno rfl (by rw [hl, hu])) (handed_of ru) ⟨v, H1, I1.tok _, ru, q⟩
end L2
namespace PySem.W
open PySem PySem.Spec PySem.Calls PyProof.Rows
section
variable {prog : Program} {w : World} {A : Around} {E : Value → Shared → Prop} {s : Shared} {K : Frag} {x D : Addr} {ox od : Obj}
theorem kin_classK {Q : Option Value → Shared → Prop} (C : L2.ExcC K D) (X : K.In s.heap) (I : InstAt s.heap x ox D (some od)) (h : Q (some (.ref D)) { s with toks := s.toks + 1 }) : wpAny (model prog w) A (getAttr? (.ref x) "__class__") Q E s := by
  have hf : findObj K D (some od) "__class__" = some (.bind (.builtin "getset_descriptor.__get__") (.builtin "object.__class__")) := findObj_data (by obtain ⟨cd, hc, _⟩ := any_some C.hd; rw [hc]; rfl) C.ha C.hn C.ht
  obtain ⟨hp, g, d, t, os⟩ := s
  have L0 := I.type (M := model prog w)
  have L1 := looks_findIn (M := model prog w) X C.hg
  have L2 := looks_findIn (M := model prog w) X C.hk
  have L3 := looks_find (M := model prog w) X I hf
  have sub : Looks (model prog w) hp (isInstance (.ref x) (.type "BaseException")) true := L0.andThen (looks_subIn X C.hs)
  have hx0 : (false && onTheHeap (Value.builtin "BaseException.__getattribute__")) = false := rfl
  have hx2 : (Value.builtin "BaseException.__getattribute__" == Value.builtin "object.__getattribute__") = false := by decide +kernel
  have hx1 : (onTheHeap (Value.ref D) && Value.builtin "BaseException.__getattribute__" == Value.builtin "object.__getattribute__") = false := by rw [hx2]; rfl
  unfold getAttr? getAttrBy? getAttrBy
  refine wpAny_bind (wpAny_mkText (wpAny_bind (wpAny_attempt (wpAny_holding (wpAny_bind (L0.at (wpAny_bind (L1.at ?_))))))))
  show wpAny _ _ (if (onTheHeap (Value.ref D) && Value.builtin "BaseException.__getattribute__" == Value.builtin "object.__getattribute__") = true then _ else _) _ _ _
  rw [hx1, if_neg Bool.false_ne_true]
  unfold getAttrByItsOwn hookBefore
  refine wpAny_bind ?_
  rw [if_pos (show onTheHeap (Value.ref D) = true from rfl)]
  refine L2.at ?_
  refine wpAny_bind (wpAny_attempt (wpAny_holding ?_))
  unfold callGetattribute
  rw [hx0, if_neg Bool.false_ne_true]
  unfold boundAndCalled
  rw [PySem.F.excAttr_ValueError.ga.bind (.ref x)]
  refine wpAny_bind (wpAny_pure ?_)
  show wpAny _ _ (call (.builtin "BaseException.__getattribute__") [.ref x, .str "__class__" t]) _ _ _
  refine wpAny_call (codeAny_call_builtin PySem.F.excAttr_ValueError.ga.plain PySem.F.entry_bexc_ga ?_)
  refine @check_slot (model prog w) _ _ ⟨hp, g, d, t + 1, os⟩ "BaseException.__getattribute__" "BaseException" "__getattribute__" (.ref x) [.str "__class__" t] [] _ (by decide +kernel) (by decide +kernel) sub (PySem.F.args_bexc_ga (.ref x) (.str "__class__" t)) ?_
  unfold Builtin.«object.__getattribute__»
  refine wpAny_bind (wpAny_of_eq (a := ((Value.ref x : Value), [Value.str "__class__" t])) (by first | rfl | (simp only [slotArgs]; rfl)) ?_)
  refine wpAny_bind (wpAny_pure (wpAny_bind (L0.at (wpAny_bind (L3.at ?_)))))
  show wpAny _ _ (holding [Value.builtin "object.__class__"] (call (.builtin "getset_descriptor.__get__") [.builtin "object.__class__", .ref x, .ref D]) >>= ret) _ _ _
  refine wpAny_bind (wpAny_holding (wpAny_call (class_get (s := ⟨hp, g, d, t + 1, os⟩) (ox := ox) (od := some od) X I C.hm ?_)))
  refine wpAny_pure ?_
  show wpAny _ _ (handedOut (.ref D)) _ _ _
  rw [handedOut_of (v := .ref D) rfl]
  first
    | exact wpAny_pure (wpAny_pure h)
    | exact wpAny_pure h
    | exact wpAny_pure (wpAny_bind (wpAny_pure (wpAny_pure h)))
theorem kitx_K (C : L2.ExcC K D) : KitX K (.ref x) (.ref D) (fun h => InstAt h x ox D (some od)) where
  ty := fun _ _ _ I => I.type
  it := fun _ _ X _ => by
    obtain ⟨cdD, hcD, _⟩ := any_some C.hd
    unfold clsIn at hcD
    split at hcD
    · rename_i ho
      intro A' Q' E' s' k q
      unfold isType loadHead
      exact wpAny_bind (wpAny_loadPart (k _ _ (X _ _ ho)) (wpAny_pure q))
    · cases hcD
  ne := (handS_kitx_exc (x := x) (ox := ox) C.hg C.hk C.hs C.hd C.ha C.hn C.ht C.hm).ne
  ca := fun X I k => kin_classK C X I k
end
end PySem.W
namespace L2
open PySem PySem.Spec PyProof.Rows
theorem kit_same {K : PySem.W.Frag} {D : Addr} : PySem.W.kitOne K (.ref D) (.ref D) = some true := if_pos (beq_self_eq_true _)
theorem kit_ne {K : PySem.W.Frag} {D C : Addr} {b : Bool} (ne : (Value.ref D == Value.ref C) = false) (h1 : PySem.W.isClsIn K C = true) (h2 : PySem.W.typeIn K (.ref C) = some (.type "type")) (h3 : PySem.W.subIn K (.ref D) (.ref C) = some b) : PySem.W.kitOne K (.ref D) (.ref C) = some b := by
  unfold PySem.W.kitOne
  rw [ne, if_neg Bool.false_ne_true]
  have e : ((PySem.W.clsIn K C).isSome && PySem.W.typeIn K (.ref C) == some (.type "type")) = true := by
    have h1' : (PySem.W.clsIn K C).isSome = true := h1
    rw [h1', h2]
    rfl
  show (if ((PySem.W.clsIn K C).isSome && PySem.W.typeIn K (.ref C) == some (.type "type")) = true then PySem.W.subIn K (.ref D) (.ref C) else none) = some b
  rw [if_pos e]
  exact h3
/-- isinstance(e, c), e a kept error, c a class -/
def rIsK (K : PySem.W.Frag) : List V → Hp → VK → Prop := fun xs H Q => ∃ (a D dd : Addr) (fs : List (Str × V)) (c : V) (cv : Value) (b : Bool), xs = [.ref a, c] ∧ ClsV c cv ∧ ExcC K D ∧ H a = some (exK (.ref D) (some dd) a) ∧ H dd = some (.xd fs) ∧ PySem.W.kitOne K (.ref D) cv = some b ∧ Q (.bl b) H
theorem call_isK {X : Cx} : CallR X (.builtin "isinstance") (rIsK X.K) := by
  intro pins s σ H xs us Q I r h
  obtain ⟨a, D, dd, fs, c, cv, b, rfl, hcv, C, ea, ed, e, q⟩ := h
  obtain ⟨u1, u2, rfl, r1, r2⟩ := vals2 r
  have ec := hcv.eq r2
  subst ec
  cases (show u1 = Value.ref a from r1)
  obtain ⟨⟨oe, vs, ha, hz, hd⟩, _, _⟩ := I.hok a _ ea
  have hx : ObjOk X.prog X.w H s.heap dd (.xd fs) := I.hok dd _ ed
  obtain ⟨mA, hns, hr⟩ := hx
  obtain ⟨od, ho, hl⟩ := lookIn_ns hns
  have J : PySem.W.InstAt s.heap a oe D (some od) := ⟨ha, hz.1, by unfold PySem.W.notCls; rw [hd] <;> rfl, by rw [hz.2]; exact ho⟩
  exact PySem.W.kia_one (PySem.W.kitx_K C) I.kIn J e (fun z => nomatch z) fun tk => ⟨.bl b, H, I.kept (t' := tk) fun _ _ z => z, rfl, q⟩
end L2

/-! the same promises where nothing is being shown (repr) around the call -/
namespace L2
open PySem PySem.Spec PyProof.Rows
/-- a promise kept where no repr is under way -/
structure FnOkG (P : Program) (w : World) (K : PySem.W.Frag) (mg : Str → Option Value) (base : Heap) (CX : CXT) (k : Nat) (f : Addr) (fd : FuncData) (ps : List Str) (sp : Sp) : Prop where
  len : ∀ vs H Q E, sp vs H Q E → vs.length = ps.length
  run : ∀ (A : Around) (outer : List Env) (s : Shared) (H : Hp) (args : Args) (us : List Value) (vs : List V) (Q : VK) (E : XK), A.guards = some [] → Room k A → Env0 P w K mg base A outer s H → BindsTo s fd args (ps.zip us) → Vals vs us → sp vs H Q E →
    codeAny (model P w) A (.call (.ref f) args) (CR CX outer P w H s Q E) s
theorem fn_ofG {CX : CXT} {P : Program} {w : World} {K : PySem.W.Frag} {mg : Str → Option Value} {base : Heap} {k : Nat} {f : Addr} {name qual : Str} {params : Arguments} {body : List Stmt} {scope : Scope} {dV kV doc pm cdv ct oc : Value} {an od : Option Addr}
    {osl : Array (Option Value)} {N ps : List Str} {sp : Sp} (lk : K.lookup f = some ⟨oc, od, .func (PySem.W.fnOf name qual params body scope dV kV doc pm an cdv ct), osl⟩) (hcd : PySem.W.codeIn K cdv qual = true) (S : FnScope N ps scope)
    (len : ∀ vs H Q E, sp vs H Q E → vs.length = ps.length)
    (hbody : ∀ (A : Around) (outer : List Env) (s : Shared) (H : Hp) (vs : List V) (Q : VK) (E : XK), A.guards = some [] → Room k (A.deeper (envOfC qual scope s.heap.objs.size f cdv)) → sp vs H Q E →
      ∃ t, PSs (cxOf CX P w K mg base N qual scope f cdv A outer s H E) body t ∧ t { nx := fun _ H' => Q .non H', rt := Q } (start N vs) H) :
    FnOkG P w K mg base CX (k + 1) f (PySem.W.fnOf name qual params body scope dV kV doc pm an cdv ct) ps sp := by
  refine ⟨len, fun A outer s H args us vs Q E hG hr e0 hb r hsp => ?_⟩
  have hl := len _ _ _ _ hsp
  have KX : K.In s.heap := e0.mod.kin.keeps fun b o e => (e0.bs b o e).1
  have lim : s.heap.NoLimit := e0.mod.nolimit.keeps fun b o e => (e0.bs b o e).1
  have hkind : ∀ y ∈ ps.zip us, scope.names.lookup y.1 = some .local ∨ (scope.names.lookup y.1 = some .cell ∧ ((cellsFrom (s.heap.objs.size + 1) scope.names []).lookup y.1).isSome = true) := fun ⟨n, v⟩ hy => by
    rcases S.par n (List.of_mem_zip hy).1 with q | q
    · exact .inl q
    · exact .inr ⟨q, PySem.W.cellsFrom_some _ _ _ (.inl q)⟩
  refine codeAny_call_function hr.depth (KX _ _ lk) rfl S.co S.gen rfl (PySem.W.codeRec_of KX hcd) (hb _ _ _ _ ?_)
  refine wpAny_newFunctionEnv_cells S.kind hkind fun env he s1 x => ?_
  subst he
  refine ⟨lim.keeps x.toInCall.keep, codeAny_func ?_⟩
  obtain ⟨t, ht, hq⟩ := hbody A outer s H vs Q E hG (hr.deeper _) hsp
  have I : Inv (cxOf CX P w K mg base N qual scope f cdv A outer s H E) [] (start N vs) H s1 := inv_start S hr.hd e0 hl r x
  refine wpAny_mono (ht.run [] s1 (start N vs) H _ I hq) (fun fl s' hs => ?_) fun e s' hs => hs
  have fin : ∀ {σ' : St} {H' : Hp} {v : V} {u : Value}, Inv (cxOf CX P w K mg base N qual scope f cdv A outer s H E) [] σ' H' s' → RelV v u → Q v H' → CE outer P w H s Q u s' :=
    fun {σ' H' v u} J rv q => ⟨v, H', J.os, J.bare, J.base, J.hok, rv, q⟩
  cases fl with
  | ret u =>
    obtain ⟨v, σ', H', J, rv, q⟩ := hs
    exact fin J rv q
  | next =>
    obtain ⟨σ', H', J, q⟩ := hs
    exact fin (v := V.non) (u := Value.none) J rfl q
  | brk =>
    obtain ⟨_, _, _, q⟩ := hs
    exact False.elim q
  | cont =>
    obtain ⟨_, _, _, q⟩ := hs
    exact False.elim q
section
variable {X : Cx} {CX : CXT} {k : Nat} {f : Addr} {fd : FuncData} {ps : List Str} {sp : Sp} {dvs : List V} {ds : List Value} {E : XK} {x : Str} {p pos : Pos} {e : Expr} {es : List Expr} {t : TA}
theorem run_fnG {pins : List (Addr × Obj)} {σ : St} {H : Hp} {s : Shared} {Q : VK} {us : List Value} {vs : List V} (F : FnOkG X.prog X.w X.K X.mg X.base CX k f fd ps sp) (hG : X.A.guards = some []) (hr : Room k X.A) (hb : Binds X.K fd ps ds) (hd : Vals dvs ds) (hx : Passes CX X E)
    (I : Inv X pins σ H s) (r : Vals vs us) (h : sp (vs ++ dvs) H Q E) : wpAny (model X.prog X.w) X.A (call (.ref f) us) (EP X pins σ Q) X.xe s := by
  have r2 : Vals (vs ++ dvs) (us ++ ds) := r.append hd
  have hl : (us ++ ds).length = ps.length := by rw [← r2.length]; exact F.len _ _ _ _ h
  refine wpAny_call (codeAny_mono (F.run X.A X.stack s H ⟨us, []⟩ (us ++ ds) (vs ++ dvs) Q E hG hr I.env0 (hb s us I.kIn hl) r2 h) fun r s' hq => ?_)
  cases r with
  | error e => exact hx pins σ H s e s' I hq
  | ok fl =>
    cases fl with
    | ret u => exact I.after hq
    | next => exact False.elim hq
    | brk => exact False.elim hq
    | cont => exact False.elim hq
theorem pe_callG (F : FnOkG X.prog X.w X.K X.mg X.base CX k f fd ps sp) (hG : X.A.guards = some []) (hr : Room k X.A) (hg : Gl X x) (hm : X.mg x = some (.ref f)) (hk : PySem.W.keepIn X.K (.ref f) = true) (hb : Binds X.K fd ps ds) (hd : Vals dvs ds) (hx : Passes CX X E)
    (ha : PA X (e :: es) t) (hdb : (x == ("__debug__" : Str)) = false := by decide) (he : starEach (e :: es) X.env = (false, eval e X.env) :: starEach es X.env := by rfl) (hpl : (backTo pos (starEach es X.env)).any (·.1) = false := by rfl) :
    PE X (.Call (.Name x p) (e :: es) [] pos) (tCall sp dvs E t) := by
  refine ⟨fun pins s σ H Q I h => ?_⟩
  refine wpAny_Call_Name_kw (ld_glob I hg hm ?_ hdb)
  refine PySem.W.callWith_K (h₀ := X.base) I.ok.mod.kin hk (thn (ha.run pos pins s σ H _ I h) fun us s1 ⟨vs, H1, I1, r, q⟩ => ⟨I1.kIn, ?_⟩) he hpl
  exact run_fnG F hG hr hb hd hx I1 r q
end
section
variable {P : Program} {w : World} {K : PySem.W.Frag} {mg : Str → Option Value} {base : Heap}
theorem Fun.okG {x qual : Str} {st : Stmt} {f : Addr} {fd : FuncData} {N ps : List Str} {k : Nat} {sp : Sp} (F : Fun K x qual st f fd) (S : FnScope N ps (defScope st)) (len : ∀ vs H Q E, sp vs H Q E → vs.length = ps.length)
    (hbody : ∀ (cdv : Value) (A : Around) (outer : List Env) (s : Shared) (H : Hp) (vs : List V) (Q : VK) (E : XK), A.guards = some [] → Room k (A.deeper (envOfC qual (defScope st) s.heap.objs.size f cdv)) → sp vs H Q E →
      ∃ t, PSs (cxOf CX0 P w K mg base N qual (defScope st) f cdv A outer s H E).nox (defBody st) t ∧ t { nx := fun _ H' => Q .non H', rt := Q } (start N vs) H) : FnOkG P w K mg base CX0 (k + 1) f fd ps sp := by
  obtain ⟨oc, od, kV, doc, pm, an, cdv, ct, osl, rfl, lk, hcd⟩ := F.ex
  refine fn_ofG lk hcd S len fun A outer s H vs Q E hG hr hsp => ?_
  obtain ⟨t, h, q⟩ := hbody cdv A outer s H vs Q E hG hr hsp
  exact ⟨t, h.nox, q⟩
end
theorem law_callG {P : Program} {w : World} {K : PySem.W.Frag} {mg mb : Str → Option Value} {CX : CXT} {k : Nat} {fa a : Addr} {fd : FuncData} {x : Str} {sp : Sp} {s₁ : Shared} {vs : List Value} {ns : List Int}
    (KX : K.In s₁.heap) (hns : s₁.heap.Ns mainGlobals mg) (hb : s₁.heap.Ns builtinsNs mb) (hbb : ∀ x : Str, x ≠ "__name__" → mb x = bootBuiltins x) (hlim : s₁.heap.NoLimit) (hg : s₁.gens = #[])
    (ha : s₁.heap.get? a = some { cls := .type "list", data := .seq vs.toArray }) (hi : IntsAre vs ns) (hl : ns.length ≤ sizeLine) (hr : Room k callerA)
    (F : ∀ base : Heap, K.In base → base.Ns mainGlobals mg → FnOkG P w K mg base CX k fa fd [x] sp) (hbind : ∀ (s : Shared) (u : Value), BindsTo s fd ⟨[u], []⟩ [(x, u)])
    (hsp : ∀ H : Hp, Only H → SqL K H a (ns.map V.int) → sp [.ref a] H (fun v _ => v = .bl true) fun _ _ _ => False)
    (hCX : ∀ H e s', CX [] H s₁ (fun _ _ _ => False) e s' → False) :
    codeAny (model P w) callerA (.call (.ref fa) ⟨[.ref a], []⟩) (fun r s' => r = .ok (.ret (.bool true)) ∧ OldK s₁.heap s'.heap ∧ s'.os = s₁.os ∧ AllBare s'.gens) s₁ := by
  have rv := vals_ints hi
  have lenV := hi.length
  -- from an abstract heap in which nothing but the script may be tracked
  have core : ∀ H : Hp, Only H → SqL K H a (ns.map V.int) → HOk P w H s₁.heap → (∀ b, H b ≠ none → b = a) → (H a ≠ none → K.lookup a = none) →
      codeAny (model P w) callerA (.call (.ref fa) ⟨[.ref a], []⟩) (fun r s' => r = .ok (.ret (.bool true)) ∧ OldK s₁.heap s'.heap ∧ s'.os = s₁.os ∧ AllBare s'.gens) s₁ := by
    intro H hO hS hok hA hK
    have base_of : ∀ {b : Addr} {o : Obj}, s₁.heap.get? b = some o → H b = none → (hidT s₁.heap H).get? b = some o := fun e n => hidT_get e n
    have noA : ∀ {b : Addr} {o : Obj} {es : Array DictEntry} {ep : Nat}, s₁.heap.get? b = some o → o.data = .dict es ep → H b = none := fun {b o es ep} e d => by
      cases q : H b with
      | none => rfl
      | some u =>
        have e' : b = a := hA b (by rw [q]; simp)
        subst e'
        rw [ha] at e; cases e
        have d' : Data.seq vs.toArray _ = Data.dict es ep := d
        cases d'
    have nsK : ∀ {b : Addr} {m : Str → Option Value}, s₁.heap.Ns b m → (hidT s₁.heap H).Ns b m := fun {b m} ⟨o, es, ep, e, d, r⟩ => ⟨o, es, ep, base_of e (noA e d), d, r⟩
    have hKb : K.In (hidT s₁.heap H) := fun b o e => base_of (KX b o e) (by
      cases q : H b with
      | none => rfl
      | some u =>
        have e' : b = a := hA b (by rw [q]; simp)
        subst e'
        rw [hK (by rw [q]; simp)] at e; cases e)
    have hM : Mod K mg (hidT s₁.heap H) := ⟨hKb, nsK hns, ⟨mb, nsK hb, hbb⟩, let ⟨mc, h1, h2⟩ := hlim; ⟨mc, nsK h1, h2⟩⟩
    have e0 : Env0 P w K mg (hidT s₁.heap H) callerA [] s₁ H := ⟨rfl, hM, fun b o e => of_hidT e, Nat.le_of_eq (hidT_size _ _), trivial, fun b hb => absurd (show b ∈ ([] : List Addr) from hb) (by simp), hok, .of_eq hg⟩
    refine codeAny_mono ((F _ hKb (nsK hns)).run callerA [] s₁ H ⟨[.ref a], []⟩ [.ref a] [.ref a] _ _ rfl hr e0 (hbind s₁ (.ref a)) (.cons rfl .nil) (hsp H hO hS)) fun r s' h => ?_
    cases r with
    | error e => exact (hCX H e s' h).elim
    | ok fl =>
      cases fl with
      | next => exact False.elim h
      | brk => exact False.elim h
      | cont => exact False.elim h
      | ret u =>
        obtain ⟨v, H', os, bare, un, hok', r', q⟩ := h
        have q' : v = .bl true := q
        subst q'
        obtain rfl : u = Value.bool true := r'
        refine ⟨rfl, OldK.of_keep fun b o e => ?_, os, bare⟩
        cases q : H b with
        | none => exact un.keep b o e q (by intro z; exact absurd (show b ∈ ([] : List Addr) from z) (by simp)) (by simp)
        | some u =>
          rcases hO b with z | ⟨ob, xs, z⟩
          · rw [q] at z; cases z
          · have z2 := un.frzs b ob _ z
            obtain ⟨e1, _⟩ := hok b _ z
            obtain ⟨e2, _⟩ := hok' b _ z2
            rw [e] at e1; cases e1
            exact e2
  cases hk : K.lookup a with
  | some o =>
    -- the script is one of the module's own objects
    have e := KX a o hk
    rw [ha] at e
    cases e
    refine core (fun _ => none) (fun _ => .inl rfl) (.inr ⟨_, vs.toArray, _, hk, rfl, rfl, rfl, by rw [List.size_toArray, lenV]; exact hl, by simpa using rv⟩) (fun b u z => by have z' : (none : Option HO) = some u := z; cases z') (fun b z => absurd rfl z) fun z => absurd rfl z
  | none =>
    refine core (fun b => if b = a then some (.frz { cls := .type "list", data := .seq vs.toArray } (.lst (ns.map V.int))) else none) (fun b => ?_) (.inl (.inr ⟨{ cls := .type "list", data := .seq vs.toArray }, if_pos rfl⟩)) (fun b u z => ?_) (fun b z => ?_) fun _ => hk
    · by_cases hb : b = a
      · exact .inr ⟨_, _, if_pos hb⟩
      · exact .inl (if_neg hb)
    · by_cases hb : b = a
      · have z' := (if_pos hb).symm.trans z
        cases z'
        subst hb
        exact ⟨ha, by rw [List.length_map]; exact hl, vs, _, rv, ha⟩
      · have z' := (if_neg hb).symm.trans z
        cases z'
    · by_cases hb : b = a
      · exact hb
      · exact absurd (if_neg hb) z
theorem walk_ofG {l : PySem.W.OpenLaw} {n k : Nat} {q : Program} {loose : List Str} {XP : (Str → Option Value) → Heap → Prop} {YP : World → Heap → Prop} {d : DefRec} {K : Params → PySem.W.Frag} {sp : World → Sp} {x : Str}
    (hn : l.most = some n) (hn2 : n ≤ sizeLine) (hdf : d.params.defaults = []) (hr : Room k callerA) (hY : ∀ (w : World) (h : Heap), YP w h → (K w.params).In h)
    (F : ∀ (w : World) (mg : Str → Option Value) (fa : Addr) (h : Heap), (K w.params).In h → h.Ns mainGlobals mg → mg d.name = some (.ref fa) →
      ∃ fd : FuncData, (∀ (s : Shared) (u : Value), BindsTo s fd ⟨[u], []⟩ [(x, u)]) ∧ ∀ base : Heap, (K w.params).In base → base.Ns mainGlobals mg → FnOkG l.prog w (K w.params) mg base CX0 k fa fd [x] (sp w))
    (hsp : ∀ (w : World) (H : Hp) (a : Addr) (ns : List Int), ns.length ≤ n → (∀ z ∈ ns, Builtin.Int.intBits z ≤ 1048576) → Only H → SqL (K w.params) H a (ns.map V.int) → sp w [.ref a] H (fun v _ => v = .bl true) fun _ _ _ => False) :
    PySem.W.WalkO q loose XP YP l.row.toRowW d [] (fun f vs => PySem.call f vs) := by
  refine Att.attach_callB hn hdf fun w s₀ s₁ mg mb fa o pm cd doc a vs ns G Y ho hd hcd hmg hobj hints hlen hbits hg => ?_
  have KX := hY w _ Y
  obtain ⟨fd, hb, hF⟩ := F w mg fa _ KX G.T.g hmg
  exact law_callG KX G.T.g G.T.b G.T.builtins G.T.nolimit hg hobj hints (Nat.le_trans hlen hn2) hr hF hb (fun H hO hS => hsp w H a ns hlen hbits hO hS) fun H e s' z => z
/-- repr of data -/
def rReprD (K : PySem.W.Frag) : List V → Hp → VK → Prop := fun xs H Q => ∃ (a : Addr) (d : PyData), xs = [.ref a] ∧ Dp K H (.ref a) d ∧ d.showable = true ∧ d.hasDict = false ∧ d.depth ≤ 20 ∧ d.shown.length ≤ sizeLine ∧ Q (.str d.shown) H
theorem call_reprD {X : Cx} {k : Nat} (hG : X.A.guards = some []) (hr : Room k X.A) : CallR X (.builtin "repr") (rReprD X.K) := by
  intro pins s σ H vs us Q I r h
  obtain ⟨a, d, rfl, hd, hs, hn, hdp, hz, q⟩ := h
  obtain ⟨u, rfl, ru⟩ := vals1 r
  obtain ⟨as, hrd⟩ := Dp.reads I d _ u hd ru
  cases (show u = Value.ref a from ru)
  have hu := hr.units
  exact repr_of_reads' (h₀ := s.heap) hrd hs (fun h => by rw [hn] at h; cases h) hG (by omega) (fun _ _ q => q) (fun h' u tk kk => ⟨.str _, H, I.kept (t' := tk) kk, ⟨_, rfl⟩, q⟩) hz
theorem shown_ints : ∀ ns : List Int, PyData.shownAll (ns.map PyData.int) = ns.map fun n => Str.ofString (toString n)
  | [] => rfl
  | n :: r => by
    show _ :: PyData.shownAll (r.map PyData.int) = _
    rw [shown_ints r]
    rfl
theorem showable_ints : ∀ {ns : List Int}, (∀ n ∈ ns, n.natAbs.log2 < 1920) → PyData.showableAll (ns.map PyData.int) = true
  | [], _ => rfl
  | n :: r, h => by
    show (decide (n.natAbs.log2 < 1920) && PyData.showableAll (r.map PyData.int)) = true
    rw [decide_eq_true (h n List.mem_cons_self), showable_ints fun m hm => h m (List.mem_cons_of_mem _ hm)]
    rfl
theorem noDict_ints : ∀ ns : List Int, PyData.hasDictAll (ns.map PyData.int) = false
  | [] => rfl
  | n :: r => noDict_ints r
theorem piled_ints : ∀ {ns : List Int}, (∀ n ∈ ns, n.natAbs.log2 < 1920) → piled (ns.map fun n => Str.ofString (toString n)) ≤ ns.length * 1923
  | [], _ => Nat.le_refl _
  | n :: r, h => by
    rw [List.map_cons, piled_cons, List.length_cons]
    have h1 := int_text_len_1921 (h n List.mem_cons_self)
    have h2 := piled_ints fun m hm => h m (List.mem_cons_of_mem _ hm)
    omega
theorem repr_tup {K : PySem.W.Frag} {H : Hp} {a : Addr} {ns : List Int} {Q : VK} (h : SqT K H a (ns.map V.int)) (hb : ∀ n ∈ ns, n.natAbs.log2 < 1920) (hl : ns.length ≤ 100) (q : Q (.str (PyData.tuple (ns.map PyData.int)).shown) H) : rReprD K [.ref a] H Q := by
  refine ⟨a, _, rfl, .tup h (dpAll_ints ns), showable_ints hb, noDict_ints ns, ?_, ?_, q⟩
  · show PyData.depthAll (ns.map PyData.int) + 1 ≤ 20
    rw [depth_ints]
    decide
  · show (tupleText (PyData.shownAll (ns.map PyData.int))).length ≤ sizeLine
    rw [shown_ints]
    have h1 := fmt_text (ns.map fun n => Str.ofString (toString n))
    have h2 := piled_ints hb
    have h3 : 200000 ≤ sizeLine := by decide
    omega
end L2

/-! lists of places, dicts of places, own containers -/
namespace L2
open PySem PySem.Spec PyProof.Rows
/-! ### own containers -/
section
variable {X : Cx} {CX : CXT} {k : Nat} {C f : Addr} {fd : FuncData} {ps : List Str} {sp : Sp} {E : XK}
theorem run_own {A : Around} {pins : List (Addr × Obj)} {σ : St} {H : Hp} {s : Shared} {Q : VK} {us : List Value} {vs : List V} (F : FnOk X.prog X.w X.K X.mg X.base CX k f fd ps sp) (hr : Room k A) (hfr : A.frames = X.A.frames) (hb : Binds X.K fd ps []) (hx : Passes CX X E)
    (I : Inv X pins σ H s) (r : Vals vs us) (h : sp vs H Q E) : wpAny (model X.prog X.w) A (call (.ref f) us) (EP X pins σ Q) X.xe s := by
  have hl : us.length = ps.length := by rw [← r.length]; exact F.len _ _ _ _ h
  have e0 : Env0 X.prog X.w X.K X.mg X.base A X.stack s H := by
    have e := I.env0
    exact ⟨by rw [hfr]; exact e.frames, e.mod, e.bs, e.bsz, e.funs, e.frf, e.hok, e.bare⟩
  refine wpAny_call (codeAny_mono (F.run A X.stack s H ⟨us, []⟩ us vs Q E hr e0 (by
    have := hb s us I.kIn (by simpa using hl)
    simpa using this) r h) fun r s' hq => ?_)
  cases r with
  | error e => exact hx pins σ H s e s' I hq
  | ok fl =>
    cases fl with
    | ret u => exact I.after hq
    | next => exact False.elim hq
    | brk => exact False.elim hq
    | cont => exact False.elim hq
/-- y in x, the class's own __contains__ -/
def rInOwn (C : Addr) (sp : Sp) (E : XK) : R2 := fun y x H Q => ∃ a dx fs, x = .ref a ∧ H a = some (.ins C dx fs) ∧ sp [.ref a, y] H (fun v H' => ∃ b, v = .bl b ∧ Q (.bl b) H') E
theorem op_inOwn (F : FnOk X.prog X.w X.K X.mg X.base CX k f fd ps sp) (hr : Room k X.A) (hs : PySem.W.findIn X.K (.ref C) "__contains__" = some (some (.ref f))) (hf : PySem.W.isFn X.K (.ref f) = true) (hb : Binds X.K fd ps []) (hx : Passes CX X E) :
    OpR X (compareOp .In) (rInOwn C sp E) := by
  intro pins s σ H y x v u Q I ry rx h
  obtain ⟨a, dx, fs, rfl, ea, h⟩ := h
  cases rx
  obtain ⟨mA, J, _⟩ := ins_get I.hok ea
  obtain ⟨od, J, _⟩ := J.look
  obtain ⟨m, hF⟩ := I.fr
  have r2 : Vals [V.ref a, y] [Value.ref a, v] := .cons rfl (.cons ry .nil)
  refine PySem.W.in_K hF I.ok.mod.kin J hs hf (wpAny_mono (run_own F hr rfl hb hx I r2 h) (fun z s' q => ?_) fun _ _ e => e)
  obtain ⟨z', H', I', rz, b, rfl, q⟩ := q
  obtain rfl : z = .bool b := rz
  exact wpAny_truthy_bool ⟨.bl b, H', I', rfl, q⟩
/-- x op y of two of the class, by its own method -/
def rBinOwn (C : Addr) (sp : Sp) (E : XK) : R2 := fun x y H Q => ∃ a dx fs b dy gs, x = .ref a ∧ y = .ref b ∧ H a = some (.ins C dx fs) ∧ H b = some (.ins C dy gs) ∧ sp [.ref a, .ref b] H (fun v H' => (∃ c, v = .ref c) ∧ Q v H') E
theorem op_binOwn {op : Operator} (F : FnOk X.prog X.w X.K X.mg X.base CX k f fd ps sp) (hr : Room k X.A) (hc : PySem.W.selfFirst X.K C = true) (hs : PySem.W.findIn X.K (.ref C) (PySem.dunder op.info.2) = some (some (.ref f))) (hf : PySem.W.isFn X.K (.ref f) = true) (hb : Binds X.K fd ps []) (hx : Passes CX X E) :
    OpR X (binaryOp op) (rBinOwn C sp E) := by
  intro pins s σ H x y v u Q I rx ry h
  obtain ⟨a, dx, fs, b, dy, gs, rfl, rfl, ea, eb, h⟩ := h
  cases rx
  cases ry
  obtain ⟨mA, J, _⟩ := ins_get I.hok ea
  obtain ⟨od, J, _⟩ := J.look
  obtain ⟨mB, J', _⟩ := ins_get I.hok eb
  obtain ⟨od', J', _⟩ := J'.look
  obtain ⟨m, hF⟩ := I.fr
  have r2 : Vals [V.ref a, V.ref b] [Value.ref a, Value.ref b] := .cons rfl (.cons rfl .nil)
  refine PySem.W.binop_K hF I.ok.mod.kin J J'.type hc hs hf (wpAny_mono (run_own F hr rfl hb hx I r2 h) (fun z s' q => ?_) fun _ _ e => e)
  obtain ⟨z', H', I', rz, ⟨c, rfl⟩, q⟩ := q
  obtain rfl : z = .ref c := rz
  exact ⟨.ref c, H', I', rfl, q⟩
/-- x == y of two of the class, by its own __eq__ that gives a bool -/
def rEqOwn (C : Addr) (sp : Sp) (E : XK) : R2 := fun x y H Q => ∃ a dx fs b dy gs, x = .ref a ∧ y = .ref b ∧ H a = some (.ins C dx fs) ∧ H b = some (.ins C dy gs) ∧ sp [.ref a, .ref b] H (fun v H' => ∃ c, v = .bl c ∧ Q (.bl c) H') E
theorem op_eqOwn (F : FnOk X.prog X.w X.K X.mg X.base CX k f fd ps sp) (hr : Room k X.A) (hs : PySem.W.findIn X.K (.ref C) "__eq__" = some (some (.ref f))) (hf : PySem.W.isFn X.K (.ref f) = true) (hb : Binds X.K fd ps []) (hx : Passes CX X E) :
    OpR X (compareOp .Eq) (rEqOwn C sp E) := by
  intro pins s σ H x y v u Q I rx ry h
  obtain ⟨a, dx, fs, b, dy, gs, rfl, rfl, ea, eb, h⟩ := h
  cases rx
  cases ry
  obtain ⟨mA, J, _⟩ := ins_get I.hok ea
  obtain ⟨od, J, _⟩ := J.look
  obtain ⟨mB, J', _⟩ := ins_get I.hok eb
  obtain ⟨od', J', _⟩ := J'.look
  obtain ⟨m, hF⟩ := I.fr
  have r2 : Vals [V.ref a, V.ref b] [Value.ref a, Value.ref b] := .cons rfl (.cons rfl .nil)
  show wpAny (model X.prog X.w) X.A (richCompare .Eq (.ref a) (.ref b)) (EP X pins σ Q) X.xe s
  refine PySem.W.cmp_K (op := .Eq) (tb := .ref C) hr.units0 hF I.ok.mod.kin J J'.type (by simp [PySem.W.notFirst]) hs hf (wpAny_mono (run_own F hr rfl hb hx I r2 h) (fun z s' q => ?_) fun _ _ e => e)
  obtain ⟨z', H', I', rz, c, rfl, q⟩ := q
  obtain rfl : z = .bool c := rz
  exact ⟨.bl c, H', I', rfl, q⟩
/-- len(x), the class's own __len__ -/
def rLenOwn (C : Addr) (sp : Sp) (E : XK) : List V → Hp → VK → Prop := fun vs H Q => ∃ a dx fs, vs = [.ref a] ∧ H a = some (.ins C dx fs) ∧ sp [.ref a] H (fun v H' => ∃ n : Int, v = .int n ∧ 0 ≤ n ∧ n < 2 ^ 63 ∧ Q (.int n) H') E
theorem call_lenOwn (F : FnOk X.prog X.w X.K X.mg X.base CX k f fd ps sp) (hr : Room (k + 1) X.A) (hs : PySem.W.findIn X.K (.ref C) "__len__" = some (some (.ref f))) (hf : PySem.W.isFn X.K (.ref f) = true) (hb : Binds X.K fd ps []) (hx : Passes CX X E) :
    CallR X (.builtin "len") (rLenOwn C sp E) := by
  intro pins s σ H vs us Q I r h
  obtain ⟨a, dx, fs, rfl, ea, h⟩ := h
  obtain rfl := Vals.ref1 r
  obtain ⟨mA, J, _⟩ := ins_get I.hok ea
  obtain ⟨od, J, _⟩ := J.look
  obtain ⟨m, hF⟩ := I.fr
  have r1 : Vals [V.ref a] [Value.ref a] := .cons rfl .nil
  refine PySem.W.len_K hF I.ok.mod.kin J hs hf (wpAny_mono (run_own (A := X.A.in1) F hr.in1 rfl hb hx I r1 h) (fun z s' q => ?_) fun _ _ e => e)
  obtain ⟨z', H', I', rz, n, rfl, h0, h1, q⟩ := q
  obtain ⟨t, rfl⟩ : ∃ t, z = .int n t := rz
  exact ⟨⟨h0, h1⟩, .int n, H', I'.tok _, ⟨_, rfl⟩, q⟩
/-- y in d, d[y] of a dict, as operations -/
def rInDct : R2 := fun y x H Q => ∃ a o, x = .ref a ∧ DGet H a y o ∧ Q (.bl o.isSome) H
theorem op_inDct (hu : X.A.units + 64 < cLine) : OpR X (compareOp .In) rInDct := by
  intro pins s σ H y x v u Q I ry rx h
  obtain ⟨a, o, rfl, g, q⟩ := h
  cases rx
  exact d_in (by omega) I g ry fun s3 I3 => ⟨.bl o.isSome, H, I3, rfl, q⟩
def rNotInDct : R2 := fun y x H Q => ∃ a o, x = .ref a ∧ DGet H a y o ∧ Q (.bl (!o.isSome)) H
theorem op_notInDct (hu : X.A.units + 64 < cLine) : OpR X (compareOp .NotIn) rNotInDct := by
  intro pins s σ H y x v u Q I ry rx h
  obtain ⟨a, o, rfl, g, q⟩ := h
  cases rx
  exact d_notIn (by omega) I g ry fun s3 I3 => ⟨.bl (!o.isSome), H, I3, rfl, q⟩
end

/-! ### lists of places -/
abbrev kI (ns : List Int) : List Key := ns.map Sum.inl
theorem kI_v (ns : List Int) : (kI ns).map kV = ns.map V.int := by
  rw [List.map_map]
  rfl
theorem kI_inj : ∀ {a b : List Int}, kI a = kI b → a = b
  | [], [], _ => rfl
  | [], _ :: _, e => nomatch e
  | _ :: _, [], e => nomatch e
  | x :: xs, y :: ys, e => by
    injection e with e1 e2
    rw [Sum.inl.inj e1, kI_inj e2]
theorem TupY.key {H : Hp} {t : Addr} {ns : List Int} (h : TupY H t ns) : H t = some (.tup ((kI ns).map kV)) := by rw [kI_v]; exact h
/-- the list at a holds the places ss -/
def TsI (H : Hp) (ts : List Addr) (ss : List (List Int)) : Prop := Paired (TupY H) ts ss
theorem TsI.same {H H' : Hp} {ts : List Addr} {ss : List (List Int)} (h : TsI H ts ss) (e : Same H H') : TsI H' ts ss := Paired.mapP h fun _ _ z => z.same e
def LT (H : Hp) (a : Addr) (ss : List (List Int)) : Prop := ∃ ts, H a = some (.lst (ts.map V.ref)) ∧ TsI H ts ss
theorem LT.same {H H' : Hp} {a : Addr} {ss : List (List Int)} (h : LT H a ss) (e : Same H H') : LT H' a ss := let ⟨ts, h1, h2⟩ := h; ⟨ts, e _ _ h1, h2.same e⟩

/-! ### sorted -/
abbrev tleI : List Int → List Int → Bool := PySem.W.dataLe false fun s => PyData.tuple (s.map PyData.int)
/-- the places in ascending order -/
def srt (ss : List (List Int)) : List (List Int) := ss.mergeSort tleI
theorem srt_len (ss : List (List Int)) : (srt ss).length = ss.length := List.length_mergeSort ..
theorem srt_perm (ss : List (List Int)) : (srt ss).Perm ss := List.mergeSort_perm ..
theorem readsAll_ints {h : Heap} : ∀ {ns : List Int} {us : List Value}, Vals (ns.map V.int) us → ReadsAll h us (ns.map PyData.int) []
  | [], _, r => by rw [List.map_nil] at r; cases r; exact .nil
  | n :: ns, _, r => by
    rw [List.map_cons] at r
    cases r with
    | cons e t =>
      obtain ⟨tk, rfl⟩ : ∃ tk, _ = Value.int n tk := e
      exact .cons (as := []) (.int n tk) (readsAll_ints t)
theorem alike_ints : ∀ a b : List Int, PySem.W.alikeAll (a.map PyData.int) (b.map PyData.int) = true
  | [], _ => by simp [PySem.W.alikeAll]
  | _ :: _, [] => by simp [PySem.W.alikeAll]
  | x :: xs, y :: ys => by
    rw [List.map_cons, List.map_cons, PySem.W.alikeAll, alike_ints xs ys]
    simp [PySem.W.alike]
def rSortedTI (K : PySem.W.Frag) : List V → Hp → VK → Prop := fun vs H Q => ∃ (a : Addr) (ts : List Addr) (ss : List (List Int)), vs = [.ref a] ∧ SqL K H a (ts.map V.ref) ∧ TsI H ts ss ∧ (∀ s ∈ ss, s ≠ []) ∧
  ∀ (ts' : List Addr) (p : Addr), TsI H ts' (srt ss) → H p = none → Q (.ref p) (upd H p (.lst (ts'.map V.ref)))
theorem each_of_ts {X : Cx} {pins : List (Addr × Obj)} {σ : St} {H : Hp} {s : Shared} (I : Inv X pins σ H s) : ∀ {ts : List Addr} {ss : List (List Int)}, TsI H ts ss →
    PySem.W.EachIs (fun v b => ∃ t, v = Value.ref t ∧ TupY H t b) (ts.map Value.ref) ss ∧ PySem.W.EachIs (fun v (b : List Int) => ∃ as, Reads s.heap v (.tuple (b.map PyData.int)) as) (ts.map Value.ref) ss := by
  intro ts ss h
  unfold TsI at h
  induction h with
  | nil => exact ⟨.nil, .nil⟩
  | @cons t b ts ss h _ ih =>
    refine ⟨.cons ⟨t, rfl, h⟩ ih.1, .cons ?_ ih.2⟩
    obtain ⟨_, its, r, o, h1, h2, n, h3⟩ := (show ObjOk X.prog X.w H s.heap t (.tup (b.map V.int)) from I.hok t _ h)
    exact ⟨[], .tuple h1 h2 h3 (by simpa using readsAll_ints r)⟩
theorem ts_of_each {H : Hp} : ∀ {out : List Value} {ss : List (List Int)}, PySem.W.EachIs (fun v b => ∃ t, v = Value.ref t ∧ TupY H t b) out ss → ∃ ts, out = ts.map Value.ref ∧ TsI H ts ss
  | _, _, .nil => ⟨[], rfl, .nil⟩
  | _, _, .cons ⟨t, e, h⟩ r => by
    obtain ⟨ts, e2, h2⟩ := ts_of_each r
    exact ⟨t :: ts, by rw [e, e2]; rfl, .cons h h2⟩
theorem valsRefs : ∀ ts : List Addr, Vals (ts.map V.ref) (ts.map Value.ref)
  | [] => .nil
  | t :: ts => .cons rfl (valsRefs ts)
theorem cr_sortedTI {X : Cx} (hu : X.A.units + 64 < cLine) : CallR X (.builtin "sorted") (rSortedTI X.K) := by
  intro pins s σ H vs us Q I r h
  obtain ⟨a, ts, ss, rfl, hs, hT, hne, q⟩ := h
  obtain ⟨its, rv, hl, hz⟩ := I.list hs
  obtain rfl := refs_at rv
  rw [Vals.ref1 r]
  obtain ⟨e1, e2⟩ := each_of_ts I hT
  have hlen : ts.length = ss.length := Paired.length hT
  refine PySem.W.sorted_data (enc := fun b : List Int => PyData.tuple (b.map PyData.int)) hl.isList e1 e2 ?_ ?_ (by rw [← hlen, ← List.length_map (f := V.ref)]; exact hz) (fun b _ => ?_) fun out hL eo => ?_
  · refine PySem.W.AllAlike.of fun b b' => ?_
    rw [PySem.W.alike]
    exact alike_ints b b'
  · refine .inl fun d hd => ?_
    obtain ⟨b, hb, rfl⟩ := List.mem_map.mp hd
    cases b with
    | nil => exact absurd rfl (hne _ hb)
    | cons x xs => exact ⟨_, _, rfl⟩
  · have e : (PyData.tuple (b.map PyData.int)).depth ≤ 1 := by
      show PyData.depthAll _ + 1 ≤ 1
      rw [depth_ints]
      exact Nat.le_refl _
    omega
  · obtain ⟨ts', rfl, hT'⟩ := ts_of_each eo
    obtain ⟨ep, he'⟩ := PyProof.Rows.sortedAll_at s.heap (ts.map Value.ref) (ts'.map Value.ref).toArray
    have hl2 : (ts'.map V.ref).length ≤ sizeLine := by
      rw [List.length_map, ← List.length_map (f := Value.ref), hL, ← hlen, ← List.length_map (f := V.ref)]
      exact hz
    exact ⟨.ref _, upd H (s.heap.objs.size + 1) (.lst (ts'.map V.ref)), I.laid (t' := s.toks) (fun _ _ => PyProof.Rows.sortedAll_old) (Nat.le_succ _) ⟨hl2, ts'.map Value.ref, ep, valsRefs ts', he'⟩, rfl, q _ _ hT' (I.hok.fresh (Nat.le_succ _))⟩
end L2

namespace L2
open PySem PySem.Spec PyProof.Rows
def kwM {α : Type} (xs ys : List α) : List α := xs ++ ys
theorem kwM_rel {vs : List V} {us : List Value} {zs : List V} {ws : List Value} (h : Vals vs us) (k : Vals zs ws) : Vals (kwM vs zs) (kwM us ws) := h.append k
/-! ### pictures -/
def wk (ss : List (List Int)) (word : Str) : List (List Key × V) := ss.map fun s => (kI s, V.str word)
theorem wk_snoc (ss : List (List Int)) (s : List Int) (word : Str) : wk (ss ++ [s]) word = wk ss word ++ [(kI s, V.str word)] := List.map_append ..
theorem valV_app (k : List Key) : ∀ l1 l2 : List (List Key × V), valV (l1 ++ l2) k = (valV l1 k).or (valV l2 k)
  | [], l2 => rfl
  | q :: l1, l2 => by
    by_cases e : q.1 = k
    · rw [List.cons_append, valV_pos e, valV_pos e]
      rfl
    · rw [List.cons_append, valV_neg e, valV_neg e]
      exact valV_app k l1 l2
theorem valV_wk (word : Str) (s : List Int) : ∀ ss : List (List Int), valV (wk ss word) (kI s) = if s ∈ ss then some (V.str word) else none
  | [] => rfl
  | t :: ss => by
    show valV ((kI t, V.str word) :: wk ss word) (kI s) = _
    by_cases e : t = s
    · subst e
      rw [valV_pos rfl, if_pos List.mem_cons_self]
    · rw [valV_neg (fun z => e (kI_inj z)), valV_wk word s ss]
      by_cases h : s ∈ ss
      · rw [if_pos h, if_pos (List.mem_cons_of_mem _ h)]
      · rw [if_neg h, if_neg fun z => (List.mem_cons.mp z).elim (fun q => e q.symm) h]
theorem valV_words (a b : Str) (s : List Int) (lit dim : List (List Int)) : valV (wk lit a ++ wk dim b) (kI s) = if s ∈ lit then some (V.str a) else if s ∈ dim then some (V.str b) else none := by
  rw [valV_app, valV_wk, valV_wk]
  by_cases h : s ∈ lit
  · rw [if_pos h, if_pos h]
    rfl
  · rw [if_neg h, if_neg h]
    rfl
theorem some_words (a b : Str) (s : List Int) (lit dim : List (List Int)) : (valV (wk lit a ++ wk dim b) (kI s)).isSome = decide (s ∈ lit ++ dim) := by
  rw [valV_words]
  by_cases h : s ∈ lit
  · rw [if_pos h, decide_eq_true (List.mem_append.mpr (.inl h))]
    rfl
  · by_cases h2 : s ∈ dim
    · rw [if_neg h, if_pos h2, decide_eq_true (List.mem_append.mpr (.inr h2))]
      rfl
    · rw [if_neg h, if_neg h2, decide_eq_false fun z => (List.mem_append.mp z).elim h h2]
      rfl
def pflds (n : Int) (w a b : Addr) : List (Str × V) := [("_words", .ref w), ("_size", .int n), ("_seen", .ref a), ("_hidden", .ref b)]
/-- the places of a picture -/
structure Wf (n : Int) (lit dim : List (List Int)) : Prop where
  size : n = 2 ∨ n = 3
  each : ∀ s ∈ lit ++ dim, (s.length : Int) = n
  nd : (lit ++ dim).Nodup
  few : (lit ++ dim).length ≤ 100000
theorem Wf.ne {n : Int} {lit dim : List (List Int)} (h : Wf n lit dim) : ∀ s ∈ lit ++ dim, s ≠ [] := fun s hs e => by
  have h1 := h.each s hs
  have h2 := h.size
  rw [e] at h1
  have h3 : (0 : Int) = n := h1
  omega
/-- a picture at p, made behind H0 -/
def Pic (C : Addr) (H0 H : Hp) (p : Addr) (n : Int) (lit dim : List (List Int)) : Prop :=
  Wf n lit dim ∧ ∃ dx w a b, H p = some (.ins C dx (pflds n w a b)) ∧ H w = some (.dT (wk lit "seen" ++ wk dim "hidden")) ∧ LT H a (srt lit) ∧ LT H b (srt dim) ∧ H0 p = none ∧ H0 w = none ∧ H0 a = none ∧ H0 b = none
section
variable {C : Addr} {H0 H H' : Hp} {p : Addr} {n : Int} {lit dim : List (List Int)}
theorem Pic.same (h : Pic C H0 H p n lit dim) (e : Same H H') : Pic C H0 H' p n lit dim :=
  let ⟨hw, dx, w, a, b, h1, h2, h3, h4, h5⟩ := h; ⟨hw, dx, w, a, b, e _ _ h1, e _ _ h2, h3.same e, h4.same e, h5⟩
theorem Pic.old {G : Hp} (h : Pic C H0 H p n lit dim) (e : Same G H0) : Pic C G H p n lit dim :=
  let ⟨hw, dx, w, a, b, h1, h2, h3, h4, h5, h6, h7, h8⟩ := h; ⟨hw, dx, w, a, b, h1, h2, h3, h4, e.free h5, e.free h6, e.free h7, e.free h8⟩
/-- a list that is older than the picture is changed -/
theorem TupY.put {t D : Addr} {ns : List Int} {xs : List V} {o : HO} (h : TupY H t ns) (hD : H D = some (.lst xs)) : TupY (upd H D o) t ns := by
  have e : t ≠ D := fun z => by
    subst z
    have := hD.symm.trans h
    injection this with this
    injection this
  exact (upd_ne e).trans h
theorem TsI.put {D : Addr} {ts : List Addr} {ss : List (List Int)} {xs : List V} {o : HO} (h : TsI H ts ss) (hD : H D = some (.lst xs)) : TsI (upd H D o) ts ss := Paired.mapP h fun _ _ z => z.put hD
theorem LT.put {a D : Addr} {ss : List (List Int)} {xs : List V} {o : HO} (h : LT H a ss) (hD : H D = some (.lst xs)) (n : a ≠ D) : LT (upd H D o) a ss := let ⟨ts, h1, h2⟩ := h; ⟨ts, (upd_ne n).trans h1, h2.put hD⟩
theorem Pic.put {D : Addr} {xs : List V} {o o0 : HO} (h : Pic C H0 H p n lit dim) (h0 : H0 D = some o0) (hD : H D = some (.lst xs)) : Pic C H0 (upd H D o) p n lit dim := by
  obtain ⟨hw, dx, w, a, b, h1, h2, h3, h4, h5, h6, h7, h8⟩ := h
  have q : ∀ {x : Addr}, H0 x = none → x ≠ D := fun hx z => by
    rw [z, h0] at hx
    cases hx
  exact ⟨hw, dx, w, a, b, (upd_ne (q h5)).trans h1, (upd_ne (q h6)).trans h2, h3.put hD (q h7), h4.put hD (q h8), h5, h6, h7, h8⟩
end
end L2

namespace L2
open PySem PySem.Spec PyProof.Rows
theorem pairGet {α β : Type} {F : α → β → Prop} {l1 : List α} {l2 : List β} (h : Paired F l1 l2) : ∀ {i : Nat} {x : α}, l1[i]? = some x → ∃ y, l2[i]? = some y ∧ F x y := by
  induction h with
  | nil => intro i x h; simp at h
  | @cons a b as bs h t ih =>
    intro i x hx
    cases i with
    | zero =>
      rw [List.getElem?_cons_zero] at hx
      obtain rfl := Option.some.inj hx
      exact ⟨b, List.getElem?_cons_zero, h⟩
    | succ i =>
      rw [List.getElem?_cons_succ] at hx ⊢
      exact ih hx
theorem ts_at {H : Hp} {ts : List Addr} {ss : List (List Int)} (h : TsI H ts ss) {i : Nat} {x : V} (hx : (ts.map V.ref)[i]? = some x) : ∃ t s, x = .ref t ∧ TupY H t s ∧ ss[i]? = some s := by
  rw [List.getElem?_map] at hx
  cases e : ts[i]? with
  | none => rw [e] at hx; cases hx
  | some t =>
    rw [e] at hx
    obtain ⟨s, h1, h2⟩ := pairGet h e
    exact ⟨t, s, (Option.some.inj hx).symm, h2, h1⟩
theorem ts_len {H : Hp} {ts : List Addr} {ss : List (List Int)} (h : TsI H ts ss) : (ts.map V.ref).length = ss.length := (List.length_map ..).trans (Paired.length h)
/-- a name's list in a dict of words grows by the next place -/
theorem put_next {kvs : List (List Key × V)} {ss : List (List Int)} {i : Nat} {s : List Int} {word : Str} (hs : ss[i]? = some s) (nd : ss.Nodup) (hn : ∀ s ∈ ss, valV kvs (kI s) = none) :
    valV (kvs ++ wk (ss.take i) word) (kI s) = none ∧ putK (kvs ++ wk (ss.take i) word) (kI s) (V.str word) = kvs ++ wk (ss.take (i + 1)) word := by
  have h1 : valV (kvs ++ wk (ss.take i) word) (kI s) = none := by
    rw [valV_app, hn s (List.mem_of_getElem? hs), valV_wk, if_neg]
    · rfl
    · intro hm
      obtain ⟨j, hj⟩ := List.mem_iff_getElem?.mp hm
      have hji : j < i := by
        have h := (List.getElem?_eq_some_iff.mp hj).1
        rw [List.length_take] at h
        omega
      rw [List.getElem?_take_of_lt hji] at hj
      have hl : j < ss.length := (List.getElem?_eq_some_iff.mp hj).1
      have := (List.getElem?_inj hl nd).mp (hj.trans hs.symm)
      omega
  refine ⟨h1, ?_⟩
  rw [putK_new _ h1, take_more hs, wk_snoc, List.append_assoc]
end L2

namespace L2
open PySem PySem.Spec PyProof.Rows
section
variable {σ : St} {H : Hp} {Q : VK} {ta tv te : TE} {f : Str} {D : Ends} {t2 : TS} {K : PySem.W.Frag}
theorem r_seqFld (k : tv σ H fun y H1 => ta σ H1 fun x H2 => ∃ a C dx fs, x = .ref a ∧ H2 a = some (.ins C dx fs) ∧ Cls K C ∧ NoAttr K C f ∧ fs.length < 1000 ∧ t2 D σ (upd H2 a (.ins C dx (putF f y fs)))) : tSeq (sFld K ta tv f) t2 D σ H := k
theorem r_fldS (k : tv σ H fun y H1 => ta σ H1 fun x H2 => ∃ a C dx fs, x = .ref a ∧ H2 a = some (.ins C dx fs) ∧ Cls K C ∧ NoAttr K C f ∧ fs.length < 1000 ∧ D.nx σ (upd H2 a (.ins C dx (putF f y fs)))) : sFld K ta tv f D σ H := k
theorem r_fld (k : te σ H fun x H1 => ∃ a C dx fs v, x = .ref a ∧ H1 a = some (.ins C dx fs) ∧ Cls K C ∧ NoAttr K C f ∧ fs.lookup f = some v ∧ Q v H1) : tFld K te f σ H Q := k
theorem r_prop {C : Addr} {sp : Sp} {dvs : List V} {E : XK} (k : te σ H fun x H1 => ∃ a dx fs, x = .ref a ∧ H1 a = some (.ins C dx fs) ∧ sp (.ref a :: dvs) H1 Q E) : tProp C sp dvs E te σ H Q := k
end
section
variable {H H' : Hp} {p a dx C : Addr} {fs : List (Str × V)} {K : PySem.W.Frag} {xs : List V}
theorem SqL.but (h : SqL K H a xs) (hp : H p = some (.ins C dx fs)) (e : But p H H') : SqL K H' a xs := by
  have n : ∀ u, H a = some u → (∀ C dx fs, u ≠ .ins C dx fs) → a ≠ p := fun u hu hn z => by
    rw [z, hp] at hu
    exact hn _ _ _ (Option.some.inj hu).symm
  rcases h with (h | ⟨o, h⟩) | h
  · exact .inl (.inl (e _ _ (n _ h fun _ _ _ q => nomatch q) h))
  · exact .inl (.inr ⟨o, e _ _ (n _ h fun _ _ _ q => nomatch q) h⟩)
  · exact .inr h
theorem TupY.but {t : Addr} {ns : List Int} (h : TupY H t ns) (hp : H p = some (.ins C dx fs)) (e : But p H H') : TupY H' t ns := e _ _ (fun z => by
  have h' : H t = _ := h
  rw [z, hp] at h'
  injection h' with h'
  injection h') h
theorem TsI.but {ts : List Addr} {ss : List (List Int)} (h : TsI H ts ss) (hp : H p = some (.ins C dx fs)) (e : But p H H') : TsI H' ts ss := Paired.mapP h fun _ _ z => z.but hp e
end
theorem kW1 : ¬ (("_words" : Str) = "_size") := by decide +kernel
theorem kW2 : ¬ (("_words" : Str) = "_seen") := by decide +kernel
theorem kW3 : ¬ (("_words" : Str) = "_hidden") := by decide +kernel
theorem kS2 : ¬ (("_size" : Str) = "_seen") := by decide +kernel
theorem kS3 : ¬ (("_size" : Str) = "_hidden") := by decide +kernel
theorem kE3 : ¬ (("_seen" : Str) = "_hidden") := by decide +kernel
theorem pflds_put (n : Int) (w a b : Addr) : putF "_hidden" (.ref b) (putF "_seen" (.ref a) (putF "_size" (.int n) (putF "_words" (.ref w) []))) = pflds n w a b := by
  simp only [putF, if_neg kW1, if_neg kW2, if_neg kW3, if_neg kS2, if_neg kS3, if_neg kE3]
  rfl
theorem bne_str {x y : Str} (h : ¬ x = y) : (y == x) = false := beq_eq_false_iff_ne.mpr fun e => h e.symm
theorem pf_words (n : Int) (w a b : Addr) : (pflds n w a b).lookup ("_words" : Str) = some (V.ref w) := by
  rw [← pflds_put, lookup_putF, if_neg kW3, lookup_putF, if_neg kW2, lookup_putF, if_neg kW1, lookup_putF, if_pos rfl]
theorem pf_size (n : Int) (w a b : Addr) : (pflds n w a b).lookup ("_size" : Str) = some (V.int n) := by
  rw [← pflds_put, lookup_putF, if_neg kS3, lookup_putF, if_neg kS2, lookup_putF, if_pos rfl]
theorem pf_seen (n : Int) (w a b : Addr) : (pflds n w a b).lookup ("_seen" : Str) = some (V.ref a) := by
  rw [← pflds_put, lookup_putF, if_neg kE3, lookup_putF, if_pos rfl]
theorem pf_hidden (n : Int) (w a b : Addr) : (pflds n w a b).lookup ("_hidden" : Str) = some (V.ref b) := by
  rw [← pflds_put, lookup_putF, if_pos rfl]
end L2

namespace L2
open PySem PySem.Spec PyProof.Rows
theorem But.putN {p D : Addr} {H H1 : Hp} {o : HO} (a : But p H H1) (n : H D = none) : But p H (upd H1 D o) := fun c u hc h => by
  rw [upd_ne (ne_of_none h n)]
  exact a c u hc h
/-- places as keys of one value -/
def wv (ss : List (List Int)) (v : V) : List (List Key × V) := ss.map fun s => (kI s, v)
theorem valV_wv (v : V) (s : List Int) : ∀ ss : List (List Int), valV (wv ss v) (kI s) = if s ∈ ss then some v else none
  | [] => rfl
  | t :: ss => by
    show valV ((kI t, v) :: wv ss v) (kI s) = _
    by_cases e : t = s
    · subst e
      rw [valV_pos rfl, if_pos List.mem_cons_self]
    · rw [valV_neg (fun z => e (kI_inj z)), valV_wv v s ss]
      by_cases h : s ∈ ss
      · rw [if_pos h, if_pos (List.mem_cons_of_mem _ h)]
      · rw [if_neg h, if_neg fun z => (List.mem_cons.mp z).elim (fun q => e q.symm) h]
theorem some_wv (v : V) (s : List Int) (ss : List (List Int)) : (valV (wv ss v) (kI s)).isSome = decide (s ∈ ss) := by
  rw [valV_wv]
  by_cases h : s ∈ ss
  · rw [if_pos h, decide_eq_true h]
    rfl
  · rw [if_neg h, decide_eq_false h]
    rfl
theorem put_wv {ss : List (List Int)} {s : List Int} (v : V) (h : s ∉ ss) : putK (wv ss v) (kI s) v = wv (ss ++ [s]) v := by
  rw [putK_new _ (by rw [valV_wv, if_neg h])]
  unfold wv
  rw [List.map_append]
  rfl
theorem nodup_take_next {ss : List (List Int)} {i : Nat} {s : List Int} (hs : ss[i]? = some s) (nd : ss.Nodup) : s ∉ ss.take i := fun hm => by
  obtain ⟨j, hj⟩ := List.mem_iff_getElem?.mp hm
  have hji : j < i := by
    have h := (List.getElem?_eq_some_iff.mp hj).1
    rw [List.length_take] at h
    omega
  rw [List.getElem?_take_of_lt hji] at hj
  have hl : j < ss.length := (List.getElem?_eq_some_iff.mp hj).1
  have := (List.getElem?_inj hl nd).mp (hj.trans hs.symm)
  omega
theorem TsI.but' {p : Addr} {H H' : Hp} {ts : List Addr} {ss : List (List Int)} (h : TsI H ts ss) (hp : Spr H p) (e : But p H H') : TsI H' ts ss := Paired.mapP h fun _ _ z => e _ _ (hp.tupNe z) z
/-- what stands while places are drawn -/
structure SpI (H H' : Hp) (p B S d F : Addr) (bs cs : List Int) (sh ss : List (List Int)) (ts : List Addr) : Prop where
  but : But p H H'
  spr : Spr H' p
  b : H' B = some (.lst (bs.map V.int))
  s : H' S = some (.lst (cs.map V.int))
  d : H' d = some (.dT (wv (sh ++ ss) (.bl true)))
  f : H' F = some (.lst (ts.map V.ref))
  tt : TsI H' ts ss
theorem SpI.to {H H' H2 : Hp} {p B S d F : Addr} {bs cs : List Int} {sh ss : List (List Int)} {ts : List Addr} (h : SpI H H' p B S d F bs cs sh ss ts) (e : But p H' H2) (hs : Spr H2 p) (nB : B ≠ p) (nS : S ≠ p) (nF : F ≠ p) : SpI H H2 p B S d F bs cs sh ss ts :=
  ⟨h.but.trans e, hs, e _ _ nB h.b, e _ _ nS h.s, e _ _ (fun z => by
    obtain ⟨x, y, z', h1, _⟩ := h.spr
    have h2 := h.d
    rw [z, h1] at h2
    injection h2 with h2
    injection h2) h.d, e _ _ nF h.f, h.tt.but' h.spr e⟩
theorem SpI.same {H H' H2 : Hp} {p B S d F : Addr} {bs cs : List Int} {sh ss : List (List Int)} {ts : List Addr} (h : SpI H H' p B S d F bs cs sh ss ts) (e : Same H' H2) : SpI H H2 p B S d F bs cs sh ss ts :=
  ⟨h.but.same e, h.spr.same e, e _ _ h.b, e _ _ h.s, e _ _ h.d, e _ _ h.f, h.tt.same e⟩
end L2

namespace L2
open PySem PySem.Spec PyProof.Rows
/-- another list is changed -/
theorem SpI.put {H H' : Hp} {p B S d F D : Addr} {bs cs : List Int} {sh ss : List (List Int)} {ts : List Addr} {xs : List V} {o : HO} (h : SpI H H' p B S d F bs cs sh ss ts) (hD : H' D = some (.lst xs)) (n1 : D ≠ p) (n2 : D ≠ B) (n3 : D ≠ S) (n4 : D ≠ F) (hH : H D = none) : SpI H (upd H' D o) p B S d F bs cs sh ss ts :=
  ⟨h.but.putN hH, h.spr.put n1, (upd_ne n2.symm).trans h.b, (upd_ne n3.symm).trans h.s, (upd_ne fun z => by
    have h2 := h.d
    rw [z, hD] at h2
    injection h2 with h2
    injection h2).trans h.d, (upd_ne n4.symm).trans h.f, h.tt.put hD⟩
end L2

namespace L2
open PySem PySem.Spec PyProof.Rows
/-! tuples cut and joined -/
def cutI (ns : List Int) (lo hi : Option Int) : List Int := (ns.drop (HT.sIx ns.length 0 lo)).take (HT.sIx ns.length ns.length hi - HT.sIx ns.length 0 lo)
theorem cutI_v (ns : List Int) (lo hi : Option Int) : cutV (ns.map V.int) lo hi = (cutI ns lo hi).map V.int := by
  unfold cutV cutI
  rw [List.length_map, ← List.map_drop, ← List.map_take]
theorem cutI_mem {ns : List Int} {lo hi : Option Int} {a : Int} (h : a ∈ cutI ns lo hi) : a ∈ ns := List.mem_of_mem_drop (List.mem_of_mem_take h)
theorem slA_tup {K : PySem.W.Frag} {H : Hp} {a : Addr} {ns : List Int} {lo hi : Option Int} {Q : VK} (h : TupY H a ns) (q : ∀ r H', Same H H' → TupY H' r (cutI ns lo hi) → Q (.ref r) H') : rSlA K (.ref a) lo hi H Q := by
  refine ⟨a, _, rfl, h.sq, fun e => ?_, fun _ p np => ?_⟩
  · refine q a H (Same.refl H) ?_
    rw [List.length_map] at e
    have e2 : cutI ns lo hi = ns := by
      unfold cutI
      rw [e.1, e.2, List.drop_zero, Nat.sub_zero, List.take_length]
    rw [e2]
    exact h
  · refine q p _ (Same.new0 np) ?_
    unfold TupY
    rw [upd_same, cutI_v]
theorem catA_tup {K : PySem.W.Frag} {H : Hp} {a b : Addr} {ns ms : List Int} {Q : VK} (ha : TupY H a ns) (hb : TupY H b ms) (hl : ns.length + ms.length ≤ 1000) (q : ∀ r H', Same H H' → TupY H' r (ns ++ ms) → Q (.ref r) H') : rCatA K (.ref a) (.ref b) H Q := by
  refine ⟨a, b, _, _, rfl, rfl, ha.sq, hb.sq, ?_, fun e => ?_, fun _ e => ?_, fun _ _ p np => ?_⟩
  · rw [List.length_map, List.length_map]
    exact Nat.le_trans hl (by decide)
  · have e' : ns = [] := List.map_eq_nil_iff.mp e
    subst e'
    exact q b H (Same.refl H) hb
  · have e' : ms = [] := List.map_eq_nil_iff.mp e
    subst e'
    refine q a H (Same.refl H) ?_
    rw [List.append_nil]
    exact ha
  · refine q p _ (Same.new0 np) ?_
    unfold TupY
    rw [upd_same, List.map_append]

theorem Same.putN {H H1 : Hp} {D : Addr} {o : HO} (e : Same H H1) (n : H D = none) : Same H (upd H1 D o) := fun b u h => by
  rw [upd_ne (ne_of_none h n)]
  exact e b u h
/-- every entry is a place of ss -/
def AllIn (H : Hp) (xs : List V) (ss : List (List Int)) : Prop := ∀ x ∈ xs, ∃ t s, x = V.ref t ∧ TupY H t s ∧ s ∈ ss
theorem AllIn.of {H : Hp} {ts : List Addr} {ss : List (List Int)} (h : TsI H ts ss) : AllIn H (ts.map V.ref) ss := fun x hx => by
  obtain ⟨i, hi⟩ := List.mem_iff_getElem?.mp hx
  obtain ⟨t, s, e, h1, h2⟩ := ts_at h hi
  exact ⟨t, s, e, h1, List.mem_of_getElem? h2⟩
theorem AllIn.cut {H : Hp} {xs : List V} {ss : List (List Int)} (h : AllIn H xs ss) (lo hi : Option Int) : AllIn H (cutV xs lo hi) ss := fun x hx => h x (List.mem_of_mem_drop (List.mem_of_mem_take hx))
theorem AllIn.app {H : Hp} {xs ys : List V} {ss : List (List Int)} (h : AllIn H xs ss) (k : AllIn H ys ss) : AllIn H (xs ++ ys) ss := fun x hx => (List.mem_append.mp hx).elim (h x) (k x)
theorem AllIn.more {H : Hp} {xs : List V} {ss tt : List (List Int)} (h : AllIn H xs ss) (k : ∀ s ∈ ss, s ∈ tt) : AllIn H xs tt := fun x hx => let ⟨t, s, a, b, c⟩ := h x hx; ⟨t, s, a, b, k s c⟩
theorem AllIn.same {H H' : Hp} {xs : List V} {ss : List (List Int)} (h : AllIn H xs ss) (e : Same H H') : AllIn H' xs ss := fun x hx => let ⟨t, s, a, b, c⟩ := h x hx; ⟨t, s, a, b.same e, c⟩
theorem TsI.app {H : Hp} {ts us : List Addr} {ss tt : List (List Int)} (h : TsI H ts ss) (k : TsI H us tt) : TsI H (ts ++ us) (ss ++ tt) := by
  unfold TsI at h
  induction h with
  | nil => exact k
  | cons a b ih => exact .cons a ih
end L2

namespace L2
open PySem PySem.Spec PyProof.Rows
theorem r_forL {K : PySem.W.Frag} {td : TE} {g : TG} {tb : TS} {D : Ends} {σ : St} {H : Hp} (k : td σ H fun v H1 => tFor (iList K (tC v)) g tb D σ H1) : tFor (iList K td) g tb D σ H := k
theorem r_seqForL {K : PySem.W.Frag} {td : TE} {g : TG} {tb t2 : TS} {D : Ends} {σ : St} {H : Hp} (k : td σ H fun v H1 => tSeq (tFor (iList K (tC v)) g tb) t2 D σ H1) : tSeq (tFor (iList K td) g tb) t2 D σ H := k
end L2

namespace L2
open PySem PySem.Spec PyProof.Rows
/-! ### nested lists of places, compared -/
abbrev pd (s : List Int) : PyData := .tuple (s.map PyData.int)
theorem dpAll_places {K : PySem.W.Frag} {H : Hp} {ts : List Addr} {ss : List (List Int)} (h : TsI H ts ss) : DpAll K H (ts.map V.ref) (ss.map pd) := by
  unfold TsI at h
  induction h with
  | nil => exact .nil
  | cons a b ih => exact .cons (.tup (TupY.sq a) (dpAll_ints _)) ih
theorem dp_places {K : PySem.W.Frag} {H : Hp} {a : Addr} {ss : List (List Int)} (h : LT H a ss) : Dp K H (.ref a) (.list (ss.map pd)) := let ⟨_, h1, h2⟩ := h; .lst (SqL.of h1) (dpAll_places h2)
theorem canLay_places : ∀ ss : List (List Int), PyData.canLayAll0 (ss.map pd) = true
  | [] => rfl
  | s :: r => by
    show (PyData.canLayAll0 (s.map PyData.int) && PyData.canLayAll0 (r.map pd)) = true
    rw [canLay_ints, canLay_places r]
    rfl
theorem depth_places : ∀ ss : List (List Int), PyData.depthAll (ss.map pd) ≤ 1
  | [] => Nat.zero_le _
  | s :: r => by
    show max (PyData.depthAll (s.map PyData.int) + 1) (PyData.depthAll (r.map pd)) ≤ 1
    rw [depth_ints]
    exact Nat.max_le.mpr ⟨Nat.le_refl _, depth_places r⟩
/-- [a, b] != [c, d], lists of the same places -/
theorem ne_pairs {K : PySem.W.Frag} {H : Hp} {x y a b c d : Addr} {ss tt : List (List Int)} {Q : VK} (hx : H x = some (.lst [.ref a, .ref b])) (hy : H y = some (.lst [.ref c, .ref d])) (ha : LT H a ss) (hb : LT H b tt) (hc : LT H c ss) (hd : LT H d tt) (q : Q (.bl false) H) : rNeD K (.ref x) (.ref y) H Q := by
  have hl : PyData.canLayAll0 [.list (ss.map pd), .list (tt.map pd)] = true := by
    show (PyData.canLayAll0 (ss.map pd) && (PyData.canLayAll0 (tt.map pd) && true)) = true
    rw [canLay_places, canLay_places]
    rfl
  have hs : SeqAt.shaped (.list [.list (ss.map pd), .list (tt.map pd)]) = true := by
    unfold SeqAt.shaped
    show (PyData.canLayAll0 [.list (ss.map pd), .list (tt.map pd)] && decide (max (PyData.depthAll (ss.map pd) + 1) (max (PyData.depthAll (tt.map pd) + 1) 0) + 1 ≤ 64)) = true
    rw [hl]
    have h1 := depth_places ss
    have h2 := depth_places tt
    rw [decide_eq_true (by omega)]
    rfl
  refine ⟨_, _, .lst (SqL.of hx) (.cons (dp_places ha) (.cons (dp_places hb) .nil)), .lst (SqL.of hy) (.cons (dp_places hc) (.cons (dp_places hd) .nil)), hs, hs, ?_⟩
  have e : PyData.eqv (.list [.list (ss.map pd), .list (tt.map pd)]) (.list [.list (ss.map pd), .list (tt.map pd)]) = true := SeqAt.eqv_refl _ hl
  rw [e]
  exact q
/-! ### all but some objects -/
def Exc (ls : List Addr) (H H' : Hp) : Prop := ∀ b o, b ∉ ls → H b = some o → H' b = some o
section
variable {ls : List Addr} {H H1 H2 H0 : Hp} {C p D a : Addr} {n : Int} {lit dim ss : List (List Int)} {o : HO}
theorem Same.exc (e : Same H H1) : Exc ls H H1 := fun b o _ h => e b o h
theorem Exc.trans (e : Exc ls H H1) (k : Exc ls H1 H2) : Exc ls H H2 := fun b o n h => k b o n (e b o n h)
theorem Exc.same (e : Exc ls H H1) (k : Same H1 H2) : Exc ls H H2 := fun b o n h => k b o (e b o n h)
theorem Exc.put (e : Exc ls H H1) (hD : D ∈ ls) : Exc ls H (upd H1 D o) := fun b u n h => by
  rw [upd_ne (fun z : b = D => n (by rw [z]; exact hD))]
  exact e b u n h
theorem Exc.mono {ms : List Addr} (e : Exc ls H H1) (k : ∀ x ∈ ls, x ∈ ms) : Exc ms H H1 := fun b o n h => e b o (fun z => n (k b z)) h
/-- the objects that may change are lists -/
def AreL (ls : List Addr) (H : Hp) : Prop := ∀ x ∈ ls, ∃ xs, H x = some (.lst xs)
theorem Exc.tup {t : Addr} {ns : List Int} (e : Exc ls H H1) (hl : AreL ls H) (h : TupY H t ns) : TupY H1 t ns := e _ _ (fun z => by
  obtain ⟨xs, hx⟩ := hl _ z
  have h' : _ = _ := h
  rw [hx] at h'
  injection h' with h'
  injection h') h
theorem Exc.ts {ts : List Addr} (e : Exc ls H H1) (hl : AreL ls H) (h : TsI H ts ss) : TsI H1 ts ss := Paired.mapP h fun _ _ z => e.tup hl z
theorem Exc.lt (e : Exc ls H H1) (hl : AreL ls H) (n : a ∉ ls) (h : LT H a ss) : LT H1 a ss := let ⟨ts, h1, h2⟩ := h; ⟨ts, e _ _ n h1, e.ts hl h2⟩
theorem Exc.pic (e : Exc ls H H1) (hl : AreL ls H) (h0 : ∀ x ∈ ls, ∃ o, H0 x = some o) (h : Pic C H0 H p n lit dim) : Pic C H0 H1 p n lit dim := by
  obtain ⟨hw, dx, w, a, b, h1, h2, h3, h4, h5, h6, h7, h8⟩ := h
  have q : ∀ {x : Addr}, H0 x = none → x ∉ ls := fun hx z => by
    obtain ⟨o, ho⟩ := h0 _ z
    rw [ho] at hx
    cases hx
  exact ⟨hw, dx, w, a, b, e _ _ (q h5) h1, e _ _ (q h6) h2, e.lt hl (q h7) h3, e.lt hl (q h8) h4, h5, h6, h7, h8⟩
end
end L2

namespace L2
open PySem PySem.Spec PyProof.Rows
theorem r_make {C : Addr} {sp : Sp} {dvs : List V} {E : XK} {t : TA} {σ : St} {H : Hp} {Q : VK} (k : t σ H fun vs H1 => ∀ x dx, H1 x = none → H1 dx = none → dx ≠ x → sp (.ref x :: (vs ++ dvs)) (upd (upd H1 dx (.own x)) x (.ins C dx [])) (fun v H2 => v = .non ∧ Q (.ref x) H2) E) : tMake C sp dvs E t σ H Q := k
theorem r_makeK {C : Addr} {n m : Nat} {sp : Sp} {gV : List V → List V → List V} {E : XK} {t tk : TA} {σ : St} {H : Hp} {Q : VK} (k : t σ H fun vs H1 => tk σ H1 fun zs H2 => vs.length = n ∧ zs.length = m ∧ ∀ x dx, H2 x = none → H2 dx = none → dx ≠ x →
  sp (gV (.ref x :: vs) zs) (upd (upd H2 dx (.own x)) x (.ins C dx [])) (fun v H3 => v = .non ∧ Q (.ref x) H3) E) : tMakeK C n m sp gV E t tk σ H Q := k
/-- lists that are not too long -/
def Ls (ls : List Addr) (H : Hp) (m : Nat) : Prop := ∀ x ∈ ls, ∃ ys, H x = some (.lst ys) ∧ ys.length ≤ m
theorem Ls.same {ls : List Addr} {H H' : Hp} {m : Nat} (h : Ls ls H m) (e : Same H H') : Ls ls H' m := fun x hx => let ⟨ys, a, b⟩ := h x hx; ⟨ys, e _ _ a, b⟩
theorem Ls.put {ls : List Addr} {H : Hp} {D : Addr} {m m' : Nat} {zs : List V} (h : Ls ls H m) (hz : zs.length ≤ m') (hm : m ≤ m') : Ls ls (upd H D (.lst zs)) m' := fun x hx => by
  by_cases e : x = D
  · exact ⟨zs, by rw [e, upd_same], hz⟩
  · obtain ⟨ys, a, b⟩ := h x hx
    exact ⟨ys, (upd_ne e).trans a, Nat.le_trans b hm⟩
theorem Ls.areL {ls : List Addr} {H : Hp} {m : Nat} (h : Ls ls H m) : AreL ls H := fun x hx => let ⟨ys, a, _⟩ := h x hx; ⟨ys, a⟩
theorem AreL.same {ls : List Addr} {H H' : Hp} (h : AreL ls H) (e : Same H H') : AreL ls H' := fun x hx => let ⟨ys, a⟩ := h x hx; ⟨ys, e _ _ a⟩
end L2

/-! == of dicts whose keys are places -/
namespace PySem.W
open PySem PySem.Calls PyProof.Rows PyProof.V PySem.Spec
section
variable {prog : Program} {w : World} {K : Type} [DecidableEq K] {knd : HeapKind prog w K} {A : Around} {E : Value → Shared → Prop} {s : Shared}
inductive HitsH {K : Type} [DecidableEq K] (prog : Program) (w : World) (A : Around) (s : Shared) (kb : List (K × Addr × Value)) : List (K × Addr × Value) → Bool → Prop
  | nil : HitsH prog w A s kb [] true
  | miss {k : K} {p : Addr × Value} {r : List (K × Addr × Value)} : atKey kb k = none → HitsH prog w A s kb ((k, p) :: r) false
  | hit {k : K} {p y : Addr × Value} {r : List (K × Addr × Value)} {e b : Bool} : atKey kb k = some y → SeqAt.EqP prog w A s p.2 y.2 e → HitsH prog w A s kb r b → HitsH prog w A s kb ((k, p) :: r) (e && b)
theorem HitsH.inv {kb : List (K × Addr × Value)} {k : K} {p : Addr × Value} {r : List (K × Addr × Value)} {b : Bool} (h : HitsH prog w A s kb ((k, p) :: r) b) :
    (atKey kb k = none ∧ b = false) ∨ ∃ y e b', atKey kb k = some y ∧ SeqAt.EqP prog w A s p.2 y.2 e ∧ HitsH prog w A s kb r b' ∧ b = (e && b') := by
  cases h with
  | miss hn => exact .inl ⟨hn, rfl⟩
  | hit hy he hr => exact .inr ⟨_, _, _, hy, he, hr, rfl⟩
theorem samePairsH {nm : String} {a b : Addr} {ka kb : List (K × Addr × Value)} {r : Bool} {Q : Bool → Shared → Prop} (hu : knd.room A) (ha : (a == sysModules) = false) (hb : (b == sysModules) = false)
    (da : s.heap.DictOfH knd a ka) (db : s.heap.DictOfH knd b kb) (hits : ka.length = kb.length → HitsH prog w A s kb ka r) (h : Q (ka.length == kb.length && r) s) :
    wpAny (model prog w) A (Builtin.Dict.samePairs nm a b) Q E s := by
  obtain ⟨oa, es, ep, hoa, _, hda, hea, hisa, hna⟩ := da
  obtain ⟨ob, es', ep', hob, _, hdb, heb, hisb, hnb⟩ := db
  have hla : ka.length = es.size := (size_of_entries hea).symm
  have hlb : kb.length = es'.size := (size_of_entries heb).symm
  rw [hla, hlb] at h
  unfold Builtin.Dict.samePairs Builtin.Dict.showsAll
  rw [if_neg (show ¬ (a == sysModules) = true by rw [ha]; exact Bool.false_ne_true), if_neg (show ¬ (b == sysModules) = true by rw [hb]; exact Bool.false_ne_true)]
  refine wpAny_bind (wpAny_pure (wpAny_bind (wpAny_pure ?_)))
  refine wpAny_bind (wpAny_dictEntries hoa hda ?_)
  dsimp only
  refine wpAny_bind (wpAny_dictEntries hob hdb ?_)
  by_cases hsz : es.size = es'.size
  case neg =>
    rw [if_pos (by simpa using hsz)]
    have hbf : (es.size == es'.size) = false := by simpa using hsz
    rw [hbf, Bool.false_and] at h
    exact wpAny_bind (wpAny_rule (wpAny_pure h))
  case pos =>
    have h' : Q r s := by simpa [hsz] using h
    have hits' := hits (by rw [hla, hlb]; exact hsz)
    rw [if_neg (by rw [hsz]; simp)]
    refine wpAny_bind (wpAny_dictEpoch hoa hda ?_)
    refine wpAny_bind ?_
    rw [Std.Legacy.Range.forIn_eq_forIn_range']
    simp only [Std.Legacy.Range.size, Nat.sub_zero, Nat.add_sub_cancel, Nat.div_one]
    refine wpAny_forIn_list _
      (fun rest q s' => s' = s ∧ q = (none, ()) ∧ ∃ i, rest = List.range' i (es.size - i) ∧ i ≤ es.size ∧ HitsH prog w A s kb (ka.drop i) r)
      _ ?_ ?_ _ _ ⟨rfl, rfl, 0, by simp, Nat.zero_le _, hits'⟩
    · rintro x rest q s' ⟨rfl, rfl, i, hr, hi, hpre⟩
      have hlt : i < es.size := by
        rcases Nat.lt_or_ge i es.size with h | h
        · exact h
        · rw [Nat.sub_eq_zero_of_le h] at hr; simp at hr
      obtain ⟨rfl, hrest⟩ : x = i ∧ rest = List.range' (i + 1) (es.size - (i + 1)) := by
        have e : es.size - i = (es.size - (i + 1)) + 1 := by omega
        rw [e, List.range'_succ] at hr
        injection hr with h1 h2
        exact ⟨h1, h2⟩
      refine wpAny_bind (wpAny_dictEntries hoa hda ?_)
      rw [Array.getElem?_eq_getElem hlt]
      have hlt' : x < ka.length := by rw [hla]; exact hlt
      obtain ⟨k, p, hkv⟩ : ∃ k p, ka[x] = (k, p) := ⟨_, _, rfl⟩
      have hdrop : ka.drop x = (k, p) :: ka.drop (x + 1) := by rw [← hkv]; exact List.drop_eq_getElem_cons hlt'
      have hent : es[x] = entryOfKey knd (k, p) := by
        have e1 := entry_at hea x
        rw [Array.getElem?_eq_getElem hlt, List.getElem?_eq_getElem hlt', hkv] at e1
        exact Option.some.inj e1
      have hkis : knd.is s'.heap k p.1 := by
        have := hisa ka[x] (List.getElem_mem hlt')
        rw [hkv] at this
        exact this
      rw [hdrop] at hpre
      rw [hent]
      show wpAny _ _ (holding [(entryOfKey knd (k, p)).key, (entryOfKey knd (k, p)).val] _ >>= _) _ _ _
      refine wpAny_bind (wpAny_holding (wpAny_bind (wpAny_dictFind_heap hu hkis hob hdb heb hisb hnb ?_ ?_)))
      · intro hno
        have hn : atKey kb k = none := atKey_none_of_get hno
        rcases hpre.inv with ⟨_, er⟩ | ⟨y, _, _, hy, _⟩
        · rw [er] at h'
          refine wpAny_pure ?_
          show wpAny _ _ (if (!false) = true then _ else _) _ _ _
          rw [if_pos (by decide)]
          exact wpAny_pure (wpAny_pure h')
        · rw [hn] at hy; exact nomatch hy
      · intro j y hj
        have hv' : atKey kb k = some y := atKey_of_get hnb hj
        refine wpAny_bind (wpAny_dictEntries hob hdb ?_)
        have hej : es'[j]? = some (entryOfKey knd (k, y)) := by rw [entry_at heb j, hj]; rfl
        rw [hej]
        rcases hpre.inv with ⟨hn, _⟩ | ⟨y', e, b', hy, he, hrr, er⟩
        · rw [hv'] at hn; exact nomatch hn
        · have ey : y = y' := Option.some.inj (hv'.symm.trans hy)
          rw [← ey] at he
          refine wpAny_holding (he _ _ ?_)
          cases e with
          | false =>
            rw [er, Bool.false_and] at h'
            show wpAny _ _ (if (!false) = true then _ else _) _ _ _
            rw [if_pos (by decide)]
            exact wpAny_pure (wpAny_pure h')
          | true =>
            rw [Bool.true_and] at er
            rw [← er] at hrr
            show wpAny _ _ (if (!true) = true then _ else _) _ _ _
            rw [if_neg (by decide)]
            refine wpAny_bind (wpAny_dictEpoch hoa hda ?_)
            rw [if_neg (by simp)]
            exact wpAny_pure ⟨rfl, rfl, x + 1, hrest, hlt, hrr⟩
    · rintro q s' ⟨rfl, rfl, i, hr, hi, hpre⟩
      have hin : i = es.size := by
        rcases Nat.lt_or_ge i es.size with h | h
        · have e : es.size - i = (es.size - (i + 1)) + 1 := by omega
          rw [e, List.range'_succ] at hr; exact nomatch hr
        · exact Nat.le_antisymm hi h
      refine wpAny_pure ?_
      rw [hin, ← hla, List.drop_length] at hpre
      cases hpre
      exact h'
theorem rcH_dicts {a b : Addr} {ka kb : List (K × Addr × Value)} {r : Bool} (hr : knd.room A.in1) (ha : (a == sysModules) = false) (hb : (b == sysModules) = false)
    (da : s.heap.DictOfH knd a ka) (db : s.heap.DictOfH knd b kb) (hu : A.units < cLine) (hits : ka.length = kb.length → HitsH prog w A.in1 s kb ka r) (E Q : Value → Shared → Prop) (h : Q (.bool (ka.length == kb.length && r)) s) : wpAny (model prog w) A (richCompare .Eq (.ref a) (.ref b)) Q E s := by
  refine wpAny_richCompare_same_room (op := .Eq) da.typeIs db.typeIs PySem.F.slot_dict_eq (wpAny_call_entry PySem.F.slot_dict_eq da.typeIs PySem.F.entry_dict_eq ?_ (PySem.F.args_dict_eq_2 _ _)) hu
  show wpAny _ _ (Builtin.Dict.dictSlotArgs "__eq__" ⟨[.ref a, .ref b], []⟩ >>= _) _ _ s
  refine wpAny_bind ?_
  unfold Builtin.Dict.dictSlotArgs
  refine wpAny_bind (wpAny_notOrdered_dict da.typeIs ?_)
  show wpAny _ _ (pure (Value.ref a, Value.ref b)) _ _ s
  refine wpAny_pure ?_
  refine wpAny_bind (wpAny_isInstance (T := "dict") db.typeIs PySem.F.sub_dict_dict ?_)
  simp only [Bool.not_true, Bool.false_eq_true, if_false]
  refine wpAny_bind (wpAny_pure (wpAny_bind (wpAny_pure ?_)))
  refine wpAny_bind (samePairsH hr ha hb da db hits ?_)
  refine wpAny_pure ⟨_, rfl, ?_, ?_⟩
  · exact fun x => nomatch x
  · simpa using h
end
end PySem.W

namespace L2
open PySem PySem.Spec PyProof.Rows
/-- two dicts of words, entry by entry -/
def sameD (ks ls : List (List Key × V)) : Bool := ks.length == ls.length && ks.all fun p => decide (valV ls p.1 = some p.2)
def Words (ks : List (List Key × V)) : Prop := ∀ p ∈ ks, ∃ z, p.2 = V.str z
theorem Words.val {ls : List (List Key × V)} (h : Words ls) {k : List Key} {v : V} (e : valV ls k = some v) : ∃ z, v = V.str z := by
  unfold valV at e
  obtain ⟨p, hp, rfl⟩ := Option.map_eq_some_iff.mp e
  exact h p (List.mem_of_find?_eq_some hp)
theorem hitsT {prog : Program} {w : World} {A : Around} {s : Shared} {H : Hp} {ls : List (List Key × V)} {xb : List (List Key × Addr × Value)} (rb : KT H ls xb) (wl : Words ls) : ∀ {ks : List (List Key × V)} {xa : List (List Key × Addr × Value)}, KT H ks xa → Words ks →
    PySem.W.HitsH prog w A s xb xa (ks.all fun p => decide (valV ls p.1 = some p.2)) := by
  intro ks xa r
  induction r with
  | nil => intro _; exact .nil
  | @cons p q ps qs h t ih =>
    intro wk
    obtain ⟨k, v⟩ := p
    obtain ⟨k', a, u⟩ := q
    obtain ⟨e1, _, e3⟩ := h
    dsimp only at e1 e3
    subst e1
    obtain ⟨z, hz⟩ := wk (k, v) List.mem_cons_self
    dsimp only at hz
    subst hz
    obtain ⟨t1, rfl⟩ : ∃ t, u = Value.str z t := e3
    have ih' := ih fun p hp => wk p (List.mem_cons_of_mem _ hp)
    have rv := rb.val k
    rw [List.all_cons]
    cases hl : valV ls k with
    | none =>
      rw [hl] at rv
      have hn : atKey xb k = none := by
        cases h : atKey xb k with
        | none => rfl
        | some y =>
          rw [h] at rv
          exact rv.elim
      rw [decide_eq_false (fun z => nomatch z), Bool.false_and]
      exact .miss hn
    | some v2 =>
      obtain ⟨z2, rfl⟩ := wl.val hl
      rw [hl] at rv
      cases h : atKey xb k with
      | none =>
        rw [h] at rv
        exact rv.elim
      | some y =>
        rw [h] at rv
        have rv' : RelV (V.str z2) y.2 := rv
        have e := (eqAt_V (A := A) (s := s) (show RelV (V.str z) (Value.str z t1) from ⟨t1, rfl⟩) rv' rfl rfl).eqP (prog := prog) (w := w)
        have ee : eqV (V.str z) (V.str z2) = decide (some (V.str z2) = some (V.str z)) := by
          by_cases hzz : z = z2
          · subst hzz
            rw [decide_eq_true rfl]
            simp [eqV]
          · rw [decide_eq_false (fun q => hzz (by injection q with q; injection q with q; exact q.symm))]
            simp [eqV, hzz]
        rw [ee] at e
        exact .hit h e ih'
def rEqDT : R2 := fun x y H Q => ∃ a b ks ls, x = .ref a ∧ y = .ref b ∧ H a = some (.dT ks) ∧ H b = some (.dT ls) ∧ Words ks ∧ Words ls ∧ Q (.bl (sameD ks ls)) H
theorem op_eqDT {X : Cx} (hu : X.A.units + 64 < cLine) : OpR X (compareOp .Eq) rEqDT := by
  intro pins s σ H x y v u Q I rx ry h
  obtain ⟨a, b, ks, ls, rfl, rfl, ea, eb, wk, wl, q⟩ := h
  obtain rfl : v = Value.ref a := rx
  obtain rfl : u = Value.ref b := ry
  obtain ⟨_, ya, xa, ra, da⟩ := dt_of I.hok ea
  obtain ⟨_, yb, xb, rb, db⟩ := dt_of I.hok eb
  show wpAny (model X.prog X.w) X.A (richCompare .Eq (.ref a) (.ref b)) (EP X pins σ Q) X.xe s
  have e1 : xa.length = ks.length := (Paired.length ra).symm
  have e2 : xb.length = ls.length := (Paired.length rb).symm
  refine PySem.W.rcH_dicts (tupleKind_room_in1 (by omega)) ya yb da db (by omega) (fun _ => hitsT rb wl ra wk) _ _ ?_
  rw [e1, e2]
  exact ⟨.bl _, H, I, rfl, q⟩
end L2

namespace L2
open PySem PySem.Spec PyProof.Rows
theorem lc_zipT {K : PySem.W.Frag} {a b : Addr} {xs ys : List V} {g : TG} {tt : TT} {te : TE} {vs : List Nat} {σ : St} {H1 : Hp} {D : Addr} {Qd : Hp → Prop} (hl : xs.length = ys.length) (Pv : Nat → Hp → Prop) (h0 : Pv 0 (upd H1 D (.lst []))) (hq : ∀ i H, Pv i H → SqT K H a xs ∧ SqT K H b ys)
    (hs : ∀ (i : Nat) (x y : V) (T : Addr) (H : Hp), xs[i]? = some x → ys[i]? = some y → Pv i H → H T = none → g (.ref T) (wipe σ vs) (upd H T (.tup [x, y])) fun σ2 H2 => wipe σ2 vs = wipe σ vs ∧ tt σ2 H2 fun b H3 =>
      if b = true then te σ2 H3 fun y H4 => ∃ acc, H4 D = some (.lst acc) ∧ acc.length < sizeLine ∧ Pv (i + 1) (upd H4 D (.lst (acc ++ [y]))) else Pv (i + 1) H3) (hd : ∀ H, Pv xs.length H → Qd H) :
    ∃ W : Nat → Nat → Hp → Prop, (∃ m, W 0 m (upd H1 D (.lst []))) ∧ ∀ i m H, W i m H →
      ((RZ.ItzT K a b).stop i H ∧ Qd H) ∨ ((RZ.ItzT K a b).go i H ∧ ∃ Nx : Hp → Prop, (∀ H', Nx H' → ∃ m', m' < m ∧ W (i + 1) m' H') ∧ ∀ x H', (RZ.ItzT K a b).yld i H x H' → g x (wipe σ vs) H' fun σ2 H2 => wipe σ2 vs = wipe σ vs ∧ tt σ2 H2 fun b H3 =>
        if b = true then te σ2 H3 fun y H4 => ∃ acc, H4 D = some (.lst acc) ∧ acc.length < sizeLine ∧ Nx (upd H4 D (.lst (acc ++ [y]))) else Nx H3) := by
  refine ⟨fun i m H => m = xs.length - i ∧ i ≤ xs.length ∧ Pv i H, ⟨xs.length, by simp, Nat.zero_le _, h0⟩, ?_⟩
  rintro i m H ⟨rfl, hi, p⟩
  obtain ⟨qx, qy⟩ := hq i H p
  by_cases hlt : i < xs.length
  · have hx : xs[i]? = some xs[i] := List.getElem?_eq_getElem hlt
    have hlt2 : i < ys.length := by omega
    have hy : ys[i]? = some ys[i] := List.getElem?_eq_getElem hlt2
    refine .inr ⟨⟨xs, ys, _, _, qx, qy, hx, hy⟩, Pv (i + 1), fun H' p' => ⟨xs.length - (i + 1), by omega, rfl, hlt, p'⟩, fun v H' y => ?_⟩
    obtain ⟨T, x', y', rfl, hT, rfl, f1, f2⟩ := y
    exact hs i x' y' T H (f1 xs qx) (f2 ys qy) p hT
  · have e : i = xs.length := by omega
    subst e
    exact .inl ⟨⟨xs, ys, qx, qy, Or.inl (Nat.le_refl _)⟩, hd H p⟩
end L2

namespace L2
open PySem PySem.Spec PyProof.Rows
theorem tleI_eq (a b : List Int) : tleI a b = decide (a ≤ b) := by
  show (!PySem.W.dataLt (.tuple (b.map PyData.int)) (.tuple (a.map PyData.int))) = _
  rw [PySem.W.dataLt_tuple]
  show (!PySem.W.rowLt (b.map PyData.int) (a.map PyData.int)) = _
  rw [PySem.W.dataLt_ints]
  by_cases h : b < a
  · rw [decide_eq_true h, decide_eq_false (fun q => List.not_lt.mpr q h)]
    rfl
  · rw [decide_eq_false h, decide_eq_true (List.not_lt.mp h)]
    rfl
theorem tleI_trans (a b c : List Int) (h : tleI a b = true) (k : tleI b c = true) : tleI a c = true := by
  rw [tleI_eq] at h k ⊢
  exact decide_eq_true (List.le_trans (of_decide_eq_true h) (of_decide_eq_true k))
theorem tleI_total (a b : List Int) : (tleI a b || tleI b a) = true := by
  rw [tleI_eq, tleI_eq]
  rcases List.le_total a b with h | h
  · rw [decide_eq_true h]
    rfl
  · rw [decide_eq_true h, Bool.or_true]
theorem tleI_anti (a b : List Int) (h : tleI a b = true) (k : tleI b a = true) : a = b := by
  rw [tleI_eq] at h k
  exact List.le_antisymm (of_decide_eq_true h) (of_decide_eq_true k)
theorem srt_sorted (l : List (List Int)) : (srt l).Pairwise fun a b => tleI a b = true := List.pairwise_mergeSort (le := tleI) tleI_trans tleI_total l
theorem srt_of_perm {l m : List (List Int)} (h : l.Perm m) : srt l = srt m :=
  List.Perm.eq_of_pairwise (le := fun a b => tleI a b = true) (fun a b _ _ h k => tleI_anti a b h k) (srt_sorted l) (srt_sorted m) (((srt_perm l).trans h).trans (srt_perm m).symm)
end L2

/-! sorted of a dict whose keys are places -/
namespace PySem.W
open PySem PySem.Calls PyProof.Rows PyProof.V PySem.Spec
/-- the keys of a dict are gathered in a new list that stands above all that stood -/
theorem gather {prog : Program} {w : World} {A : Around} {E : Value → Shared → Prop} {s : Shared} {T : String} {r d : Addr} {n : Nat} {P : Nat → Value → Prop} {OK : Heap → Prop} {R : List Value → Shared → Prop} (K : KdlSrc prog w T r d n P OK) (hh : A.handled = none) (hok : OK s.heap) (hn : n ≤ sizeLine)
    (h : ∀ (h' : Heap) (tk : Nat) (acc : Array Value), s.heap.objs.size < h'.objs.size → (∀ b o, s.heap.get? b = some o → h'.get? b = some o) → ItemsOf P acc n → R acc.toList { s with heap := h', toks := tk }) :
    wpAny (model prog w) A (collect (.ref r)) R E s := by
  obtain ⟨nr, nd⟩ := K.there _ hok
  let s1 : Shared := { s with heap := s.heap.push { cls := .type "list", data := .seq ([] : List Value).toArray } }
  have up : ∀ b o, s.heap.get? b = some o → s1.heap.get? b = some o := fun b o e => Heap.get?_push_of_some _ e
  have here : s1.heap.get? s.heap.objs.size = some { cls := .type "list", data := .seq #[] } := Heap.get?_push_size _ rfl
  let Fin : Result → Shared → Prop := fun q s' => ∃ (h' : Heap) (tk : Nat) (acc : Array Value) (c : Nat), q = .ok (.ret (.ref s.heap.objs.size)) ∧ s' = { s with heap := h', toks := tk } ∧ (∀ b o, s.heap.get? b = some o → h'.get? b = some o) ∧
    h'.get? s.heap.objs.size = some { cls := .type "list", dict := none, data := .seq acc c, slots := #[] } ∧ ItemsOf P acc n
  have key := kdl_extend (A := A) (s := s1) (R := Fin) K hh (K.keep _ _ hok fun b _ o e => up b o e) s.heap.objs.size (Nat.ne_of_gt nr) (Nat.ne_of_gt nd) (.ref s.heap.objs.size) 0 here
    (fun h' tk acc c hk hS it => ⟨h', tk, acc, c, rfl, rfl, fun b o e => hk b o (Nat.ne_of_lt (Heap.lt_size e)) (up b o e), hS, it⟩) hn
  unfold collect
  refine wpAny_bind (wpAny_runValue (codeAny_builtin entry_proto_collect' ?_))
  rw [Around.under_plainId PySem.F.plain_proto_collect _]
  show wpAny _ A.in1 (newList [] >>= fun l => again (.builtin "list.__iadd__" ⟨[l, .ref r], []⟩)) _ _ s
  refine wpAny_bind (wpAny_newObj_type (wpAny_pure ⟨plainId_quiet PySem.F.plain_list_iadd _, codeAny_builtin entry_list_iadd' ?_⟩))
  rw [Around.under_plainId PySem.F.plain_list_iadd _]
  have done : ∀ {q : Result} {s' : Shared}, Fin q s' → ∃ (h' : Heap) (acc : Array Value) (c : Nat), q = .ok (.ret (.ref s.heap.objs.size)) ∧ s'.heap = h' ∧ h'.get? s.heap.objs.size = some { cls := .type "list", dict := none, data := .seq acc c, slots := #[] } ∧ R acc.toList s' := by
    rintro q s' ⟨h', tk, acc, c, e, rfl, hk, hS, it⟩
    exact ⟨h', acc, c, e, rfl, hS, h h' tk acc (Heap.lt_size hS) hk it⟩
  refine wpAny_mono key (fun fin s' x => ?_) fun e s' x => ?_
  · cases fin with
    | done f =>
      obtain ⟨h', acc, c, e, rfl, hS, hR⟩ := done x
      cases e
      exact wpAny_bind (wpAny_load hS (wpAny_pure hR))
    | again c1 =>
      refine ⟨x.1, codeAny_mono x.2 fun q s2 y => ?_⟩
      obtain ⟨h', acc, c, rfl, rfl, hS, hR⟩ := done y
      exact wpAny_bind (wpAny_load hS (wpAny_pure hR))
  · obtain ⟨_, _, _, e, _⟩ := done x
    cases e
end PySem.W
namespace L2
open PySem PySem.Spec PyProof.Rows PySem.Calls
theorem keys_ts {H : Hp} : ∀ {ss : List (List Int)} {kvs : List (List Key × V)} {bs : List Addr}, IsKeys H kvs bs → kvs.map (·.1) = ss.map kI → TsI H bs ss := by
  intro ss kvs bs h
  unfold IsKeys at h
  induction h generalizing ss with
  | nil =>
    intro e
    cases ss with
    | nil => exact .nil
    | cons s r => cases e
  | @cons p b ps bs h t ih =>
    intro e
    cases ss with
    | nil => cases e
    | cons s r =>
      rw [List.map_cons, List.map_cons] at e
      injection e with e1 e2
      refine .cons ?_ (ih e2)
      unfold TupY
      rw [h, e1, kI_v]
theorem each_ts0 {X : Cx} {pins : List (Addr × Obj)} {σ : St} {H : Hp} {s : Shared} (I : Inv X pins σ H s) : ∀ {ts : List Addr} {ss : List (List Int)}, TsI H ts ss →
    PySem.W.EachIs (fun v (b : List Int) => Reads s.heap v (.tuple (b.map PyData.int)) []) (ts.map Value.ref) ss := by
  intro ts ss h
  unfold TsI at h
  induction h with
  | nil => exact .nil
  | @cons t b ts ss h _ ih =>
    refine .cons ?_ ih
    obtain ⟨_, its, r, o, h1, h2, n, h3⟩ := (show ObjOk X.prog X.w H s.heap t (.tup (b.map V.int)) from I.hok t _ h)
    exact .tuple h1 h2 h3 (by simpa using readsAll_ints r)
def rSortedDT : List V → Hp → VK → Prop := fun vs H Q => ∃ (d : Addr) (kvs : List (List Key × V)) (ss : List (List Int)), vs = [.ref d] ∧ H d = some (.dT kvs) ∧ kvs.map (·.1) = ss.map kI ∧ (∀ s ∈ ss, s ≠ []) ∧
  ∀ (ts' : List Addr) (p : Addr), TsI H ts' (srt ss) → H p = none → Q (.ref p) (upd H p (.lst (ts'.map V.ref)))
theorem cr_sortedDT {X : Cx} (hc : X.calm = true) (hu : X.A.units + 64 < cLine) : CallR X (.builtin "sorted") rSortedDT := by
  intro pins s σ H vs us Q I r h
  obtain ⟨d, kvs, ss, rfl, hd, hks, hne, q⟩ := h
  rw [Vals.ref1 r]
  obtain ⟨z, hs, ks, pr, o, es, ep, ho, hx, hdt, he, _, hn⟩ := dt_of I.hok hd
  have l1 : es.size = ks.length := size_of_entries he
  have l2 : kvs.length = ks.length := Paired.length pr
  have hT : TsI H (ks.map fun x => x.2.1) ss := keys_ts (isKeys_of pr) hks
  have hlen : (ks.map fun x => x.2.1).length = ss.length := Paired.length hT
  refine Calls.call_function_entry kind_sorted plain_sorted entry_sorted (args_sorted1 _) ?_
  unfold Builtin.«sorted»
  refine wpAny_bind (wpAny_pure ?_)
  refine wpAny_bind (PySem.W.gather (A := X.A.in1) (KdlSrc.rawDict (es := es) (ep := ep) hs) (I.ok.hd hc) ⟨o, ho, hx, hdt⟩ (by omega) fun h' tk acc hlt hk it => ?_)
  have ea : acc.toList = (ks.map fun x => x.2.1).map Value.ref := by
    rw [List.map_map]
    have hl : acc.toList.length = ks.length := by rw [Array.length_toList, it.1]; exact l1
    apply List.ext_getElem?
    intro j
    rw [List.getElem?_map]
    cases hj : acc.toList[j]? with
    | none =>
      have h1 := List.getElem?_eq_none_iff.mp hj
      rw [List.getElem?_eq_none (by omega)]
      rfl
    | some v =>
      obtain ⟨hi, hv⟩ := it.2 j v (by rw [← Array.getElem?_toList]; exact hj)
      have qe := entry_at he j
      rw [Array.getElem?_eq_getElem hi] at qe
      cases hb : ks[j]? with
      | none =>
        rw [hb] at qe
        exact nomatch (show some es[j] = none from qe)
      | some b =>
        rw [hb] at qe
        have e2 : es[j] = entryOfKey (tupleKind (mixKind X.prog X.w)) b := Option.some.inj qe
        rw [hv, e2]
        rfl
  rw [ea]
  refine wpAny_bind (wpAny_newList ?_ (by rw [List.length_map, List.length_map]; omega))
  have hget : (h'.push { cls := .type "list", data := .seq ((ks.map fun x => x.2.1).map Value.ref).toArray }).get? h'.objs.size = some (seqObj "list" ((ks.map fun x => x.2.1).map Value.ref).toArray 0) := Heap.get?_push_size _ rfl
  have keep : ∀ b ob, s.heap.get? b = some ob → (h'.push { cls := .type "list", data := .seq ((ks.map fun x => x.2.1).map Value.ref).toArray }).get? b = some ob := fun b ob e => Heap.get?_push_of_some _ (hk b ob e)
  have e1 := (each_of_ts I hT).1
  have e2 : PySem.W.EachIs (fun v (b : List Int) => ∃ as, Reads (h'.push { cls := .type "list", data := .seq ((ks.map fun x => x.2.1).map Value.ref).toArray }) v (.tuple (b.map PyData.int)) as ∧ h'.objs.size ∉ as) ((ks.map fun x => x.2.1).map Value.ref) ss :=
    (each_ts0 I hT).mono fun v b rd => ⟨[], PyProof.Rows.Reads.keeps keep rd, fun z => nomatch z⟩
  refine wpAny_bind (wpAny_holding (wpAny_mono (Q := fun _ s' => EP X pins σ Q (.ref h'.objs.size) s') (PySem.W.list_sort_data (enc := fun b : List Int => PyData.tuple (b.map PyData.int)) hget e1 e2 ?_ ?_ (by rw [← hlen, List.length_map]; omega) (fun b _ => ?_) fun out hL eo => ?_) (fun _ s' x => wpAny_pure ⟨_, rfl, x⟩) fun _ _ e => e))
  · refine PySem.W.AllAlike.of fun b b' => ?_
    rw [PySem.W.alike]
    exact alike_ints b b'
  · refine .inl fun dd hdd => ?_
    obtain ⟨b, hb, rfl⟩ := List.mem_map.mp hdd
    cases b with
    | nil => exact absurd rfl (hne _ hb)
    | cons x xs => exact ⟨_, _, rfl⟩
  · have e : (PyData.tuple (b.map PyData.int)).depth ≤ 1 := by
      show PyData.depthAll _ + 1 ≤ 1
      rw [depth_ints]
      exact Nat.le_refl _
    show X.A.units + 1 + 1 + _ < cLine
    omega
  · obtain ⟨ts', rfl, hT'⟩ := ts_of_each eo
    obtain ⟨cc, he'⟩ := PyProof.Rows.sortedHeap_at (vs := (ks.map fun x => x.2.1).map Value.ref) (out := (ts'.map Value.ref).toArray) hget
    have hl2 : (ts'.map V.ref).length ≤ sizeLine := by
      rw [List.length_map, ← List.length_map (f := Value.ref), hL, ← hlen, List.length_map]
      omega
    have hsz : s.heap.objs.size ≤ h'.objs.size := Nat.le_of_lt hlt
    exact ⟨.ref h'.objs.size, upd H h'.objs.size (.lst (ts'.map V.ref)), I.laid (t' := tk) (fun b ob e => by rw [PyProof.Rows.sortedHeap_old (Nat.ne_of_lt (Heap.lt_size (hk b ob e))) (Heap.lt_size (keep b ob e))]; exact keep b ob e) hsz ⟨hl2, ts'.map Value.ref, cc, valsRefs ts', he'⟩, rfl, q _ _ hT' (I.hok.fresh hsz)⟩
end L2

/-! what is kept, whatever springs do -/
namespace L2
open PySem PySem.Spec PyProof.Rows
/-- what may be a spring -/
def SprO (o : HO) : Prop := (∃ a b c : Int, o = .lst [.int a, .int b, .int c]) ∨ ∃ a b : Int, o = .lst [.int a, .int b]
/-- all but what may be a spring is as it was -/
def Kp (H H' : Hp) : Prop := ∀ b o, ¬ SprO o → H b = some o → H' b = some o
theorem Kp.refl (H : Hp) : Kp H H := fun _ _ _ h => h
theorem Kp.trans {H H1 H2 : Hp} (a : Kp H H1) (b : Kp H1 H2) : Kp H H2 := fun c o n h => b c o n (a c o n h)
theorem Same.kp {H H' : Hp} (e : Same H H') : Kp H H' := fun b o _ h => e b o h
theorem But.kp {p : Addr} {H H' : Hp} (e : But p H H') (s : Spr H p) : Kp H H' := fun b o n h => e b o (fun z => by
  obtain ⟨x, y, w, h1, _⟩ := s
  rw [z, h1] at h
  exact n (.inl ⟨x, y, w, (Option.some.inj h).symm⟩)) h
/-- a well stands at p, drawn from at most k times -/
def Wel (H : Hp) (p : Addr) (k : Nat) : Prop := ∃ a b : Int, H p = some (.lst [.int a, .int b]) ∧ ((b = -1 ∧ 0 ≤ a) ∨ (0 ≤ b ∧ b ≤ k ∧ 0 ≤ a ∧ a < 2 ^ 64))
theorem But.kpW {p : Addr} {k : Nat} {H H' : Hp} (e : But p H H') (s : Wel H p k) : Kp H H' := fun b o n h => e b o (fun z => by
  obtain ⟨x, y, h1, _⟩ := s
  rw [z, h1] at h
  exact n (.inr ⟨x, y, (Option.some.inj h).symm⟩)) h
theorem Wel.same {p : Addr} {k : Nat} {H H1 : Hp} (s : Same H H1) (h : Wel H p k) : Wel H1 p k := by
  obtain ⟨a, b, e, r⟩ := h
  exact ⟨a, b, s _ _ e, r⟩
theorem Wel.s_new {p x : Addr} {k : Nat} {M : Hp} {o : HO} (n : M x = none) (e : Wel M p k) : Wel (upd M x o) p k := e.same (Same.new0 n)
theorem Wel.s_same {p : Addr} {k : Nat} {M H' : Hp} (s : Same M H') (e : Wel M p k) : Wel H' p k := e.same s
theorem Wel.put {H : Hp} {p D : Addr} {k : Nat} {o : HO} (h : Wel H p k) (n : D ≠ p) : Wel (upd H D o) p k := by
  obtain ⟨a, b, e, r⟩ := h
  exact ⟨a, b, (upd_ne (Ne.symm n)).trans e, r⟩
theorem Wel.ne {p q : Addr} {k : Nat} {H : Hp} (h : Wel H p k) (n : H q = none) : p ≠ q := by
  obtain ⟨a, b, e, r⟩ := h
  exact ne_of_none e n
theorem Wel.mono {p : Addr} {k m : Nat} {H : Hp} (h : Wel H p k) (l : k ≤ m) : Wel H p m := by
  obtain ⟨a, b, e, r⟩ := h
  refine ⟨a, b, e, r.imp id fun ⟨x, y, z⟩ => ⟨x, by omega, z⟩⟩
theorem Kp.s_butW {p : Addr} {k : Nat} {H M H' : Hp} (b : But p M H') (s : Wel M p k) (e : Kp H M) : Kp H H' := e.trans (b.kpW s)
theorem Kp.s_new {H M : Hp} {x : Addr} {o : HO} (n : M x = none) (e : Kp H M) : Kp H (upd M x o) := e.trans (Same.new0 n).kp
theorem Kp.s_same {H M H' : Hp} (s : Same M H') (e : Kp H M) : Kp H H' := e.trans s.kp
theorem Kp.s_but {p : Addr} {H M H' : Hp} (b : But p M H') (s : Spr M p) (e : Kp H M) : Kp H H' := e.trans (b.kp s)
theorem But.s_new {p : Addr} {H M : Hp} {x : Addr} {o : HO} (n : M x = none) (e : But p H M) : But p H (upd M x o) := e.new n
theorem But.s_same {p : Addr} {H M H' : Hp} (s : Same M H') (e : But p H M) : But p H H' := e.same s
theorem But.s_but {p : Addr} {H M H' : Hp} (b : But p M H') (e : But p H M) : But p H H' := e.trans b
theorem Same.s_new {H M : Hp} {x : Addr} {o : HO} (n : M x = none) (e : Same H M) : Same H (upd M x o) := e.new n
theorem Same.s_same {H M H' : Hp} (s : Same M H') (e : Same H M) : Same H H' := e.trans s
theorem Spr.s_new {p x : Addr} {M : Hp} {o : HO} (n : M x = none) (e : Spr M p) : Spr (upd M x o) p := e.new n
theorem Spr.s_same {p : Addr} {M H' : Hp} (s : Same M H') (e : Spr M p) : Spr H' p := e.same s
theorem notSpr_refs (ts : List Addr) : ¬ SprO (.lst (ts.map V.ref)) := by
  rintro (⟨a, b, c, e⟩ | ⟨a, b, e⟩)
  all_goals
    injection e with e
    cases ts with
    | nil => cases e
    | cons t ts =>
      rw [List.map_cons] at e
      injection e with e _
      cases e
theorem notSpr_tup (xs : List V) : ¬ SprO (.tup xs) := by
  rintro (⟨a, b, c, e⟩ | ⟨a, b, e⟩) <;> cases e
theorem notSpr_ref (x : Addr) (xs : List V) : ¬ SprO (.lst (.ref x :: xs)) := by
  rintro (⟨a, b, c, e⟩ | ⟨a, b, e⟩) <;> (injection e with e; injection e with e _; cases e)
theorem notSpr_ins (C dx : Addr) (fs : List (Str × V)) : ¬ SprO (.ins C dx fs) := by
  rintro (⟨a, b, c, e⟩ | ⟨a, b, e⟩) <;> cases e
theorem notSpr_dT (ks : List (List Key × V)) : ¬ SprO (.dT ks) := by
  rintro (⟨a, b, c, e⟩ | ⟨a, b, e⟩) <;> cases e
section
variable {H H' H0 : Hp} {a : Addr}
theorem TupY.kp {ns : List Int} (h : TupY H a ns) (e : Kp H H') : TupY H' a ns := e _ _ (notSpr_tup _) h
theorem TsI.kp {ts : List Addr} {ss : List (List Int)} (h : TsI H ts ss) (e : Kp H H') : TsI H' ts ss := Paired.mapP h fun _ _ z => z.kp e
theorem LT.kp {ss : List (List Int)} (h : LT H a ss) (e : Kp H H') : LT H' a ss := let ⟨ts, h1, h2⟩ := h; ⟨ts, e _ _ (notSpr_refs _) h1, h2.kp e⟩
theorem kp_tup {xs : List V} (h : H a = some (.tup xs)) (e : Kp H H') : H' a = some (.tup xs) := e _ _ (notSpr_tup _) h
theorem kp_refs {ts : List Addr} (h : H a = some (.lst (ts.map V.ref))) (e : Kp H H') : H' a = some (.lst (ts.map V.ref)) := e _ _ (notSpr_refs _) h
theorem kp_ref {x : Addr} {xs : List V} (h : H a = some (.lst (.ref x :: xs))) (e : Kp H H') : H' a = some (.lst (.ref x :: xs)) := e _ _ (notSpr_ref _ _) h
theorem Pic.kp {C p : Addr} {n : Int} {lit dim : List (List Int)} (h : Pic C H0 H p n lit dim) (e : Kp H H') : Pic C H0 H' p n lit dim :=
  let ⟨hw, dx, w, a, b, h1, h2, h3, h4, h5⟩ := h; ⟨hw, dx, w, a, b, e _ _ (notSpr_ins _ _ _) h1, e _ _ (notSpr_dT _) h2, h3.kp e, h4.kp e, h5⟩
end
/-! ### in, of places -/
theorem eqv_pd (t s : List Int) : PyData.eqv (pd t) (pd s) = decide (t = s) := by
  show PyData.eqvAll (t.map PyData.int) (s.map PyData.int) = _
  rw [PySem.W.ked_eqvAll]
theorem any_pd (s : List Int) : ∀ ss : List (List Int), ((ss.map pd).any fun z => PyData.eqv z (pd s)) = decide (s ∈ ss)
  | [] => rfl
  | t :: ss => by
    rw [List.map_cons, List.any_cons, any_pd s ss, eqv_pd]
    by_cases h : t = s
    · subst h
      rw [decide_eq_true rfl, decide_eq_true (List.mem_cons_self : t ∈ t :: ss)]
      exact Bool.true_or _
    · rw [decide_eq_false h, Bool.false_or]
      by_cases h2 : s ∈ ss
      · rw [decide_eq_true h2, decide_eq_true (List.mem_cons_of_mem _ h2)]
      · rw [decide_eq_false h2, decide_eq_false fun z => (List.mem_cons.mp z).elim (fun q => h q.symm) h2]
theorem shaped_places (ss : List (List Int)) : SeqAt.shaped (.list (ss.map pd)) = true := by
  unfold SeqAt.shaped
  show (PyData.canLayAll0 (ss.map pd) && decide (PyData.depthAll (ss.map pd) + 1 ≤ 64)) = true
  have h1 := depth_places ss
  rw [canLay_places, decide_eq_true (by omega)]
  rfl
theorem notIn_places {K : PySem.W.Frag} {H : Hp} {t b : Addr} {s : List Int} {ss : List (List Int)} {Q : VK} (ht : TupY H t s) (hb : LT H b ss) (q : Q (.bl (!decide (s ∈ ss))) H) : rNotInD K (.ref t) (.ref b) H Q :=
  ⟨_, _, .tup ht.sq (dpAll_ints s), dp_places hb, shaped_tup s, shaped_places ss, by rw [any_pd]; exact q⟩
theorem in_places {K : PySem.W.Frag} {H : Hp} {t b : Addr} {s : List Int} {ss : List (List Int)} {Q : VK} (ht : TupY H t s) (hb : LT H b ss) (q : Q (.bl (decide (s ∈ ss))) H) : rInD K (.ref t) (.ref b) H Q :=
  ⟨_, _, .tup ht.sq (dpAll_ints s), dp_places hb, shaped_tup s, shaped_places ss, by rw [any_pd]; exact q⟩
/-! ### lists of places that are joined -/
theorem cat_places {K : PySem.W.Frag} {H : Hp} {a b : Addr} {ss tt : List (List Int)} {Q : VK} (ha : LT H a ss) (hb : LT H b tt) (hl : ss.length + tt.length ≤ 1000000) (q : ∀ p H', H p = none → Same H H' → LT H' p (ss ++ tt) → Q (.ref p) H') : rCatR K (.ref a) (.ref b) H Q := by
  obtain ⟨ts, h1, h2⟩ := ha
  obtain ⟨us, k1, k2⟩ := hb
  refine ⟨a, b, _, _, rfl, rfl, SqL.of h1, SqL.of k1, ?_, fun p np => q p _ np (Same.new0 np) ?_⟩
  · rw [ts_len h2, ts_len k2, sizeLine_eq]
    omega
  · refine ⟨ts ++ us, ?_, TsI.app (h2.same (Same.new0 np)) (k2.same (Same.new0 np))⟩
    rw [upd_same, List.map_append]
/-! ### new objects, in a world without a name -/
theorem new_tup {H : Hp} {xs : List V} {Q : VK} (h : xs.length ≤ sizeLine) (k : ∀ p H', H p = none → Same H H' → H' p = some (.tup xs) → Q (.ref p) H') : xs.length ≤ sizeLine ∧ ∀ p, H p = none → Q (.ref p) (upd H p (.tup xs)) :=
  ⟨h, fun p n => k p _ n (Same.new0 n) upd_same⟩
theorem new_lst {H : Hp} {xs : List V} {Q : VK} (h : xs.length ≤ sizeLine) (k : ∀ p H', H p = none → Same H H' → H' p = some (.lst xs) → Q (.ref p) H') : xs.length ≤ sizeLine ∧ ∀ p, H p = none → Q (.ref p) (upd H p (.lst xs)) :=
  ⟨h, fun p n => k p _ n (Same.new0 n) upd_same⟩
theorem LT.push {H : Hp} {L t : Addr} {ts : List Addr} {ss : List (List Int)} {s : List Int} (h : H L = some (.lst (ts.map V.ref))) (k : TsI H ts ss) (ht : TupY H t s) : LT (upd H L (.lst (ts.map V.ref ++ [.ref t]))) L (ss ++ [s]) :=
  ⟨ts ++ [t], by rw [upd_same, List.map_append]; rfl, Paired.snoc (k.put h) (ht.put h)⟩
theorem LT.front {H : Hp} {L t : Addr} {ts : List Addr} {ss : List (List Int)} {s : List Int} (h : H L = some (.lst (ts.map V.ref))) (k : TsI H ts ss) (ht : TupY H t s) : LT (upd H L (.lst (.ref t :: ts.map V.ref))) L (s :: ss) :=
  ⟨t :: ts, by rw [upd_same]; rfl, .cons (ht.put h) (k.put h)⟩
/-! ### an error that is kept, asked for its class -/
/-- the class D, the j-th of the classes cs -/
structure ErrC (K : PySem.W.Frag) (cs : List Addr) (D : Addr) (j : Nat) : Prop where
  x : XfC K D
  e : ExcC K D
  v : PySem.W.findIn K (.ref D) "value" = some none
  k : ∀ i c, cs[i]? = some c → PySem.W.kitOne K (.ref D) (.ref c) = some (i == j)
def spotsOf (j : Nat) : List Bool := (List.range 8).map fun i => i == j
theorem dpAll_bools {K : PySem.W.Frag} {H : Hp} : ∀ bs : List Bool, DpAll K H (bs.map V.bl) (bs.map PyData.bool)
  | [] => .nil
  | b :: r => .cons (.bl b) (dpAll_bools r)
/-- what an error tells: a number or a place -/
inductive Tells (H : Hp) : V → V → Prop
  | int (d : Int) : d.natAbs.log2 < 1920 → Tells H (.int d) (.int d)
  | tup {t u : Addr} {ns : List Int} : TupY H t ns → TupY H u ns → ns.length ≤ 100 → (∀ n ∈ ns, n.natAbs.log2 < 1920) → Tells H (.ref t) (.ref u)
theorem Tells.same {H H' : Hp} {x y : V} (h : Tells H x y) (e : Same H H') : Tells H' x y := by
  cases h with
  | int d h => exact .int d h
  | tup a b c d => exact .tup (a.same e) (b.same e) c d
def rReprA (K : PySem.W.Frag) : List V → Hp → VK → Prop := fun xs H Q => (∃ i : Int, xs = [.int i] ∧ i.natAbs.log2 < 1920 ∧ Q (.str (toString i)) H) ∨ rReprD K xs H Q
theorem call_reprA {X : Cx} {k : Nat} (hG : X.A.guards = some []) (hr : Room k X.A) : CallR X (.builtin "repr") (rReprA X.K) := by
  intro pins s σ H vs us Q I r h
  rcases h with h | h
  · exact SkE.call_repr_int pins s σ H vs us Q I r h
  · exact call_reprD hG hr pins s σ H vs us Q I r h
/-! ### rules within try -/
section
variable {X : Cx} {CX : CXT} {k : Nat} {C f : Addr} {fd : FuncData} {ps : List Str} {sp : Sp} {E : St → XK} {ta tb : TE} {a b : Expr} {pos : Pos}
def tBinS (C : Addr) (sp : Sp) (E : St → XK) (ta tb : TE) : TE := fun σ H Q => ta σ H fun x H1 => tb σ H1 fun y H2 => rBinOwn C sp (E σ) x y H2 Q
theorem pe_binS {op : Operator} (F : FnOk X.prog X.w X.K X.mg X.base CX k f fd ps sp) (hr : Room k X.A) (hc : PySem.W.selfFirst X.K C = true) (hs : PySem.W.findIn X.K (.ref C) (PySem.dunder op.info.2) = some (some (.ref f))) (hf : PySem.W.isFn X.K (.ref f) = true) (hb : Binds X.K fd ps []) (hx : ∀ σ, PassesAt CX X σ (E σ))
    (ha : PE X a ta) (hb' : PE X b tb) : PE X (.BinOp a op b pos) (tBinS C sp E ta tb) := by
  refine ⟨fun pins s σ H Q I h => ?_⟩
  refine wpAny_BinOp (binT ha hb' I h fun v u s2 x y H2 I2 rx ry q => ?_)
  obtain ⟨a, dx, fs, b, dy, gs, rfl, rfl, ea, eb, h⟩ := q
  cases rx
  cases ry
  obtain ⟨mA, J, _⟩ := ins_get I2.hok ea
  obtain ⟨od, J, _⟩ := J.look
  obtain ⟨mB, J', _⟩ := ins_get I2.hok eb
  obtain ⟨od', J', _⟩ := J'.look
  obtain ⟨m, hF⟩ := I2.fr
  have r2 : Vals [V.ref a, V.ref b] [Value.ref a, Value.ref b] := .cons rfl (.cons rfl .nil)
  refine PySem.W.binop_K hF I2.ok.mod.kin J J'.type hc hs hf (wpAny_mono (run_fnS F hr hb (hx σ) I2 r2 h) (fun z s' q => ?_) fun _ _ e => e)
  obtain ⟨z', H', I', rz, ⟨c, rfl⟩, q⟩ := q
  obtain rfl : z = .ref c := rz
  exact ⟨.ref c, H', I', rfl, q⟩
theorem r_binS {σ : St} {H : Hp} {Q : VK} (k : ta σ H fun x H1 => tb σ H1 fun y H2 => rBinOwn C sp (E σ) x y H2 Q) : tBinS C sp E ta tb σ H Q := k
end
theorem canLay_bools : ∀ bs : List Bool, PyData.canLayAll0 (bs.map PyData.bool) = true
  | [] => rfl
  | b :: r => canLay_bools r
theorem depth_bools : ∀ bs : List Bool, PyData.depthAll (bs.map PyData.bool) = 0
  | [] => rfl
  | b :: r => by
    show max 0 (PyData.depthAll (r.map PyData.bool)) = 0
    rw [depth_bools r]
    rfl
theorem shaped_bools (bs : List Bool) : SeqAt.shaped (.list (bs.map PyData.bool)) = true := by
  unfold SeqAt.shaped
  show (PyData.canLayAll0 (bs.map PyData.bool) && decide (PyData.depthAll (bs.map PyData.bool) + 1 ≤ 64)) = true
  rw [canLay_bools, depth_bools]
  rfl
theorem eqv_bools (bs : List Bool) : PyData.eqv (.list (bs.map PyData.bool)) (.list (bs.map PyData.bool)) = true := SeqAt.eqv_refl _ (canLay_bools bs)
theorem LT.neWel {H : Hp} {a p : Addr} {k : Nat} {ss : List (List Int)} (h : LT H a ss) (s : Wel H p k) : a ≠ p := fun z => by
  obtain ⟨ts, h1, _⟩ := h
  obtain ⟨x, y, h2, _⟩ := s
  rw [z, h2] at h1
  exact notSpr_refs ts (.inr ⟨x, y, (Option.some.inj h1).symm⟩)
theorem LT.neSpr {H : Hp} {a p : Addr} {ss : List (List Int)} (h : LT H a ss) (s : Spr H p) : a ≠ p := fun z => by
  obtain ⟨ts, h1, _⟩ := h
  obtain ⟨x, y, w, h2, _⟩ := s
  rw [z, h2] at h1
  exact notSpr_refs ts (.inl ⟨x, y, w, (Option.some.inj h1).symm⟩)
theorem Room.u65 {k : Nat} {A : Around} (r : Room k A) : A.units + 65 < cLine := by
  have := r.un
  omega
section
variable {X : Cx} {CX : CXT} {k : Nat} {C f : Addr} {fd : FuncData} {ps ks : List Str} {sp : Sp} {m : Str} {pos apos : Pos} {e o : Expr} {es : List Expr} {kws : List Keyword} {ta : TE} {t tk : TA}
/-- o.m(e, ..) within try -/
def tMethT (C : Addr) (m : Str) (sp : Sp) (E : St → XK) (ta : TE) (t : TA) : TE := fun σ H Q => ta σ H fun x H1 => ∃ a dx fs, x = .ref a ∧ H1 a = some (.ins C dx fs) ∧ fs.lookup m = none ∧ t σ H1 fun vs H2 => sp (x :: vs) H2 Q (E σ)
theorem pe_methT {E : St → XK} {pl : Sem Bool} (he : PE X o ta) (c : Cls X.K C) (hm : Meth X.K C m f) (F : FnOk X.prog X.w X.K X.mg X.base CX k f fd ps sp) (hr : Room k X.A) (hb : Binds X.K fd ps []) (hx : ∀ σ, PassesAt CX X σ (E σ)) (ha : PA X (e :: es) t)
    (hst : starEach (e :: es) X.env = (false, eval e X.env) :: starEach es X.env := by rfl) (hpl : (backTo pos (starEach es X.env)).any (·.1) = false := by rfl)
    (ht : eval (.Call (.Attribute o m apos) (e :: es) [] pos) X.env = (do
      let ov ← eval o X.env
      standAt apos.atName
      let (f, first) ← holding [ov] (getMethod ov m pl)
      callWith pos f first (backTo pos (starEach (e :: es) X.env)) (backToKw pos (keywordEach [] X.env))) := by rfl) :
    PE X (.Call (.Attribute o m apos) (e :: es) [] pos) (tMethT C m sp E ta t) := by
  refine ⟨fun pins s σ H Q I h => ?_⟩
  refine PySem.W.methodCall_KW (pl := pl) (thn (he.run pins s σ H _ I h) fun u s1 ⟨x, H1, I1, rx, a, dx, fs, ex, ea, l, q⟩ => ?_) ht
  subst ex
  obtain rfl : u = Value.ref a := rx
  refine getmeth_ok I1 ea c hm l ?_
  refine PySem.W.callWith_K (first := [.ref a]) (h₀ := X.base) I.ok.mod.kin hm.kp (thn (ha.run pos pins s1 σ H1 _ I1 q) fun us s2 ⟨vs, H2, I2, r, q2⟩ => ⟨I2.kIn, ?_⟩) hst hpl
  exact run_fnS (us := .ref a :: us) (vs := .ref a :: vs) F hr hb (hx σ) I2 (.cons rfl r) q2
/-- o.m(k = v, ..) -/
def tMethK (C : Addr) (m : Str) (j : Nat) (sp : Sp) (gV : List V → List V → List V) (E : XK) (ta : TE) (tk : TA) : TE := fun σ H Q => ta σ H fun x H1 => ∃ a dx fs, x = .ref a ∧ H1 a = some (.ins C dx fs) ∧ fs.lookup m = none ∧ tk σ H1 fun zs H2 => zs.length = j ∧ sp (gV [x] zs) H2 Q E
theorem pe_methK0 {E : XK} {pl : Sem Bool} {g : List Value → List Value → List Value} {gV : List V → List V → List V} (he : PE X o ta) (c : Cls X.K C) (hm : Meth X.K C m f) (F : FnOk X.prog X.w X.K X.mg X.base CX k f fd ps sp) (hr : Room k X.A) (hb : KBn X.K fd ps 1 ks g gV) (hx : Passes CX X E) (hkw : PK X kws tk)
    (hall : (backToKw pos (keywordEach kws X.env)).all (·.1.isSome) = true := by rfl) (hks : (backToKw pos (keywordEach kws X.env)).filterMap (·.1) = ks := by rfl)
    (hpl : ((backTo pos (starEach [] X.env)).any (·.1) || (backToKw pos (keywordEach kws X.env)).any (·.1.isNone)) = false := by rfl)
    (ht : eval (.Call (.Attribute o m apos) [] kws pos) X.env = (do
      let ov ← eval o X.env
      standAt apos.atName
      let (f, first) ← holding [ov] (getMethod ov m pl)
      callWith pos f first (backTo pos (starEach [] X.env)) (backToKw pos (keywordEach kws X.env))) := by rfl) :
    PE X (.Call (.Attribute o m apos) [] kws pos) (tMethK C m ks.length sp gV E ta tk) := by
  refine ⟨fun pins s σ H Q I h => ?_⟩
  refine PySem.W.methodCall_KW (pl := pl) (thn (he.run pins s σ H _ I h) fun u s1 ⟨x, H1, I1, rx, a, dx, fs, ex, ea, l, q⟩ => ?_) ht
  subst ex
  obtain rfl : u = Value.ref a := rx
  refine getmeth_ok I1 ea c hm l ?_
  refine PySem.W.callWith_KW0 (first := [.ref a]) (h₀ := X.base) I.ok.mod.kin hm.kp hall (thn (hkw.run pos pins s1 σ H1 _ I1 q) fun ws s2 ⟨zs, H2, I2, rz, hz, q2⟩ => ⟨I2.kIn, ?_⟩) hpl
  rw [hks]
  show wpAny _ _ (call (.ref f) [.ref a] (ks.zip ws)) _ _ _
  have r2 : Vals (gV [V.ref a] zs) (g [Value.ref a] ws) := hb.rel (.cons rfl .nil) rz
  refine wpAny_call (codeAny_mono (F.run X.A X.stack s2 H2 ⟨[.ref a], ks.zip ws⟩ (g [.ref a] ws) (gV [.ref a] zs) Q E hr I2.env0 (hb.to s2 [.ref a] ws I2.kIn rfl (rz.length.symm.trans hz)) r2 q2) fun r s' hq => ?_)
  cases r with
  | error e => exact hx pins σ H2 s2 e s' I2 hq
  | ok fl =>
    cases fl with
    | ret u => exact I2.after hq
    | next => exact False.elim hq
    | brk => exact False.elim hq
    | cont => exact False.elim hq
theorem r_meth {dvs : List V} {E : XK} {σ : St} {H : Hp} {Q : VK} (k : ta σ H fun x H1 => ∃ a dx fs, x = .ref a ∧ H1 a = some (.ins C dx fs) ∧ fs.lookup m = none ∧ t σ H1 fun vs H2 => sp (x :: (vs ++ dvs)) H2 Q E) : tMeth C m sp dvs E ta t σ H Q := k
theorem r_methT {E : St → XK} {σ : St} {H : Hp} {Q : VK} (k : ta σ H fun x H1 => ∃ a dx fs, x = .ref a ∧ H1 a = some (.ins C dx fs) ∧ fs.lookup m = none ∧ t σ H1 fun vs H2 => sp (x :: vs) H2 Q (E σ)) : tMethT C m sp E ta t σ H Q := k
theorem r_methK {j : Nat} {gV : List V → List V → List V} {E : XK} {σ : St} {H : Hp} {Q : VK} (k : ta σ H fun x H1 => ∃ a dx fs, x = .ref a ∧ H1 a = some (.ins C dx fs) ∧ fs.lookup m = none ∧ tk σ H1 fun zs H2 => zs.length = j ∧ sp (gV [x] zs) H2 Q E) : tMethK C m j sp gV E ta tk σ H Q := k
end
theorem pf_no {m : Str} {n : Int} {w a b : Addr} (h1 : (m == "_words") = false) (h2 : (m == "_size") = false) (h3 : (m == "_seen") = false) (h4 : (m == "_hidden") = false) : (pflds n w a b).lookup m = none := by
  unfold pflds
  rw [List.lookup_cons, h1, List.lookup_cons, h2, List.lookup_cons, h3, List.lookup_cons, h4]
  rfl
/-! ### two pictures with the same places -/
theorem eqPic_perm {n : Int} {l d l' d' : List (List Int)} (hw : Wf n l d) (hw' : Wf n l' d') (h1 : l.Perm l') (h2 : d.Perm d') : (n == n && sameD (wk l "seen" ++ wk d "hidden") (wk l' "seen" ++ wk d' "hidden")) = true := by
  have hn' := (List.nodup_append.mp hw'.nd).2.2
  have e1 : (wk l "seen" ++ wk d "hidden").length = (wk l' "seen" ++ wk d' "hidden").length := by
    unfold wk
    rw [List.length_append, List.length_append, List.length_map, List.length_map, List.length_map, List.length_map, h1.length_eq, h2.length_eq]
  unfold sameD
  rw [beq_self_eq_true, Bool.true_and, e1, beq_self_eq_true, Bool.true_and, List.all_eq_true]
  intro p hp
  rcases List.mem_append.mp hp with h | h
  · obtain ⟨s, hs, rfl⟩ := List.mem_map.mp h
    refine decide_eq_true ?_
    show valV _ (kI s) = some (V.str "seen")
    rw [valV_words, if_pos (h1.mem_iff.mp hs)]
  · obtain ⟨s, hs, rfl⟩ := List.mem_map.mp h
    refine decide_eq_true ?_
    have hs' := h2.mem_iff.mp hs
    show valV _ (kI s) = some (V.str "hidden")
    rw [valV_words, if_neg fun z => hn' s z s hs' rfl, if_pos hs']
end L2

/-! y not in x of an own class -/
namespace L2
open PySem PySem.Spec PyProof.Rows
section
variable {X : Cx} {CX : CXT} {k : Nat} {C f : Addr} {fd : FuncData} {ps : List Str} {sp : Sp} {E : XK}
def rNotInOwn (C : Addr) (sp : Sp) (E : XK) : R2 := fun y x H Q => ∃ a dx fs, x = .ref a ∧ H a = some (.ins C dx fs) ∧ sp [.ref a, y] H (fun v H' => ∃ b, v = .bl b ∧ Q (.bl (!b)) H') E
theorem op_notInOwn (F : FnOk X.prog X.w X.K X.mg X.base CX k f fd ps sp) (hr : Room k X.A) (hs : PySem.W.findIn X.K (.ref C) "__contains__" = some (some (.ref f))) (hf : PySem.W.isFn X.K (.ref f) = true) (hb : Binds X.K fd ps []) (hx : Passes CX X E) :
    OpR X (compareOp .NotIn) (rNotInOwn C sp E) := by
  intro pins s σ H y x v u Q I ry rx h
  obtain ⟨a, dx, fs, rfl, ea, h⟩ := h
  cases rx
  obtain ⟨mA, J, _⟩ := ins_get I.hok ea
  obtain ⟨od, J, _⟩ := J.look
  obtain ⟨m, hF⟩ := I.fr
  have r2 : Vals [V.ref a, y] [Value.ref a, v] := .cons rfl (.cons ry .nil)
  refine PySem.W.notIn_K hF I.ok.mod.kin J hs hf (wpAny_mono (run_own F hr rfl hb hx I r2 h) (fun z s' q => ?_) fun _ _ e => e)
  obtain ⟨z', H', I', rz, b, rfl, q⟩ := q
  obtain rfl : z = .bool b := rz
  exact wpAny_truthy_bool ⟨.bl (!b), H', I', rfl, q⟩
end
end L2

/-! zip of a list and a tuple -/
namespace L2
open PySem PySem.Spec PyProof.Rows
def ItzM (K : PySem.W.Frag) (a b : Addr) : It where
  go i H := ∃ (xs ys : List V) (x y : V), SqL K H a xs ∧ SqT K H b ys ∧ xs[i]? = some x ∧ ys[i]? = some y
  yld i H v H' := ∃ T x y, v = .ref T ∧ H T = none ∧ H' = upd H T (.tup [x, y]) ∧ (∀ xs, SqL K H a xs → xs[i]? = some x) ∧ ∀ ys, SqT K H b ys → ys[i]? = some y
  stop i H := ∃ xs ys : List V, SqL K H a xs ∧ SqT K H b ys ∧ xs.length = i ∧ ys.length = i
theorem sepM {z TI TO i1 i2 a b : Addr} (D : ZipApart z TI TO i1 i2 a b) : ZipSep2 z TI TO i1 i2 [i1, a] [i2, b] where
  TIz := D.TIz
  TOz := D.TOz
  TITO := D.TITO
  TIi1 := D.TIi1
  mem1 := List.mem_cons_self
  zf1 := by simp [D.i1z.symm, D.l1z.symm]
  Tf1 := by simp [D.TOi1, D.l1TO.symm]
  TIi2 := D.TIi2
  mem2 := List.mem_cons_self
  zf2 := by simp [D.i2z.symm, D.l2z.symm]
  Tf2 := by simp [D.TOi2, D.l2TO.symm]
  sep1_2 := by simp [D.i12, D.l2i1.symm]
  sep2_1 := by simp [D.i12.symm, D.l1i2.symm]
theorem five {z TI TO i1 i2 c : Addr} {R : Addr → Prop} (h : c ∈ [z, TI, TO, i1, i2]) (hz : R z) (ht : R TI) (ho : R TO) (h1 : R i1) (h2 : R i2) : R c := by
  rcases List.mem_cons.mp h with rfl | h
  · exact hz
  rcases List.mem_cons.mp h with rfl | h
  · exact ht
  rcases List.mem_cons.mp h with rfl | h
  · exact ho
  rcases List.mem_cons.mp h with rfl | h
  · exact h1
  rw [List.mem_singleton] at h
  exact h ▸ h2
theorem turn_zipM {P : Program} {w : World} {K : PySem.W.Frag} {elts : List Expr} {kk : Nat} {tpos : Pos} {a b z TI TO i1 i2 : Addr} (D : ZipApart z TI TO i1 i2 a b) :
    Turn P w K (.Tuple elts kk tpos) (ItzM K a b) [z, TI, TO, i1, i2] z (fun i h => IsZip h z TI TO .none ∧ IsTupOf2 h TI (.ref i1) (.ref i2) ∧ (∃ x y, IsTupOf2 h TO x y) ∧ h.IsListIter i1 a i ∧ h.IsTupleIter i2 b i) where
  mem := List.mem_cons_self
  obj := fun i h ⟨hz, hTI, ⟨_, _, hTO⟩, ⟨o1, e1, _, d1⟩, ⟨o2, e2, _, d2⟩⟩ c hc =>
    five (R := fun c => ∃ o, h.get? c = some o ∧ ∀ v, o.data ≠ .cell v) hc ⟨_, hz, fun v q => nomatch q⟩ ⟨_, hTI, fun v q => nomatch q⟩ ⟨_, hTO, fun v q => nomatch q⟩ ⟨o1, e1, fun v q => by rw [d1] at q; cases q⟩ ⟨o2, e2, fun v q => by rw [d2] at q; cases q⟩
  keep := fun i h h' ⟨hz, hTI, ⟨x, y, hTO⟩, h1, h2⟩ k => ⟨k z (by simp) _ hz, k TI (by simp) _ hTI, ⟨x, y, k TO (by simp) _ hTO⟩, h1.at fun o q => k i1 (by simp) o q, h2.at fun o q => k i2 (by simp) o q⟩
  item := by
    rintro X rfl rfl rfl hc i pins s σ H E I hf ⟨hz, hTI, ⟨x0, y0, hTO⟩, h1, h2⟩ ⟨xs, ys, x, y, hqx, hqy, hx, hy⟩
    obtain ⟨us, rv, p, _⟩ := I.list hqx
    obtain ⟨us2, rv2, p2, _⟩ := I.tuple hqy
    obtain ⟨u, hu, ru⟩ := rv.get hx
    obtain ⟨u2, hu2, ru2⟩ := rv2.get hy
    have hd : X.A.in1.handled = none := I.ok.hd hc
    have l1 : i < us.toArray.size := by
      have := (List.getElem?_eq_some_iff.mp hu).1
      simpa using this
    have l2 : i < us2.toArray.size := by
      have := (List.getElem?_eq_some_iff.mp hu2).1
      simpa using this
    refine wpAny_pyNext_zipD2_item (sepM D) (Draws.list hd i1 a D.l1i1 us.toArray) (Draws.tuple hd i2 b D.l2i2 us2.toArray) hz hTI hTO ⟨h1, p.isList⟩ ⟨h2, p2⟩ l1 l2 fun v1 v2 h' tk q1 q2 z' TO' st1 st2 hT hsz hk => ?_
    obtain rfl : u = v1 := Option.some.inj (hu.symm.trans (by simpa using q1))
    obtain rfl : u2 = v2 := Option.some.inj (hu2.symm.trans (by simpa using q2))
    have hzl : z < s.heap.objs.size := Heap.lt_size hz
    refine ⟨_, rfl, wpAny_letOwnedTupleGo_zip (s := { s with heap := h', toks := tk }) z' fun h'' z'' sb => ?_⟩
    have up : ∀ {c o}, c ≠ z → h'.get? c = some o → h''.get? c = some o := fun n e => (sb.2 _ n).trans e
    have hT2 := up (Nat.ne_of_gt hzl) hT
    have new : ObjOk X.prog X.w (upd H s.heap.objs.size (.tup [x, y])) h'' s.heap.objs.size (.tup [x, y]) :=
      ⟨by show 2 ≤ sizeLine; decide, [u, u2], .cons ru (.cons ru2 .nil), ⟨_, hT2, rfl, _, rfl⟩⟩
    have ne5 : ∀ {c}, c ∉ [z, TI, TO, i1, i2] → c ≠ z ∧ c ≠ TO ∧ c ≠ i1 ∧ c ≠ i2 := fun hb => by simp at hb; exact ⟨hb.1, hb.2.2.1, hb.2.2.2.1, hb.2.2.2.2⟩
    have I1 : Inv X pins σ (upd H s.heap.objs.size (.tup [x, y])) { s with heap := h'', toks := tk } :=
      I.turnedNew (t' := tk) (ch := [z, TI, TO, i1, i2]) (fun c o hb q => let ⟨n1, n2, n3, n4⟩ := ne5 hb; up n1 (hk c o n1 n2 n3 n4 q)) hf (Nat.le_refl _) new
    refine ⟨.ref s.heap.objs.size, _, I1, rfl, ⟨_, x, y, rfl, I.hok.fresh (Nat.le_refl _), rfl, fun l hl => by rw [I.list_inj hl hqx]; exact hx, fun l hl => by rw [I.tuple_inj hl hqy]; exact hy⟩,
      ⟨z'', up D.TIz (hk _ _ D.TIz D.TITO D.TIi1 D.TIi2 hTI), ⟨u, u2, up D.TOz TO'⟩, st1.1.at fun o q => up D.i1z q, st2.1.at fun o q => up D.i2z q⟩, fun c hcm => ?_⟩
    have hlt : c < s.heap.objs.size := five (R := fun c => c < s.heap.objs.size) hcm hzl (Heap.lt_size hTI) (Heap.lt_size hTO) (let ⟨_, e, _⟩ := h1; Heap.lt_size e) (let ⟨_, e, _⟩ := h2; Heap.lt_size e)
    rw [upd_ne (Nat.ne_of_lt hlt)]
    exact (hf c hcm).1
  done := by
    rintro X rfl rfl rfl hc i pins s σ H E I hf ⟨hz, hTI, ⟨x0, y0, hTO⟩, h1, h2⟩ ⟨xs, ys, hqx, hqy, e1, e2⟩
    obtain ⟨us, rv, p, _⟩ := I.list hqx
    obtain ⟨us2, rv2, p2, _⟩ := I.tuple hqy
    have l1 := rv.length
    have l2 := rv2.length
    have hd : X.A.in1.handled = none := I.ok.hd hc
    refine wpAny_pyNext_zipD2_end (sepM D) (Draws.list hd i1 a D.l1i1 us.toArray) (Draws.tuple hd i2 b D.l2i2 us2.toArray) hz hTI hTO ⟨h1, p.isList⟩ ⟨h2, p2⟩ (by simp; omega) (by simp; omega) (.inl (by simp; omega)) fun h' tk hk =>
      ⟨rfl, I.turnedL (t' := tk) (ch := [z, TI, TO, i1, i2]) (fun c o hb q => by
        simp at hb
        exact hk c o hb.1 hb.2.2.1 hb.2.2.2.1 hb.2.2.2.2 q) hf⟩
  self := fun A i s Q E st h => wpAny_pyIter_zip st.1 h
def iZipM (K : PySem.W.Frag) (ta : TA) : TI := fun σ H R => ta σ H fun vs H1 => ∃ a b xs ys, vs = [.ref a, .ref b] ∧ SqL K H1 a xs ∧ SqT K H1 b ys ∧ R (ItzM K a b) H1
theorem pi_zipM {X : Cx} {e e2 : Expr} {ta : TA} {p pos tpos : Pos} {elts : List Expr} {kk : Nat} (hg : Gl X "zip") (hm : X.mg "zip" = none) (ha : PA X [e, e2] ta)
    (hs : starEach [e, e2] X.env = (false, eval e X.env) :: starEach [e2] X.env := by rfl) (hpl : (backTo pos (starEach [e2] X.env)).any (·.1) = false := by rfl) :
    PI X (.Tuple elts kk tpos) (.Call (.Name "zip" p) [e, e2] [] pos) (iZipM X.K ta) := by
  refine ⟨fun pins s σ H R I h => Call_ (ld_blt I hg hm PyProof.Rows.boot_zip (PyProof.Rows.callWith_type1 (thn (ha.run pos pins s σ H _ I h) ?_) hs hpl))⟩
  rintro us s1 ⟨vs, H1, I1, r1, a, b, xs, ys, rfl, hqx, hqy, q⟩
  cases r1 with
  | cons r rr =>
    cases rr with
    | cons r' rr =>
      cases rr
      cases r
      cases r'
      obtain ⟨us, rv, p1, _⟩ := I1.list hqx
      obtain ⟨us2, rv2, p2, _⟩ := I1.tuple hqy
      have p2' : s1.heap.IsTuple b us2.toArray := p2
      have lb : b < s1.heap.objs.size := let ⟨_, e, _⟩ := p2'; Heap.lt_size e
      refine zip_begins2 (begins_list a us.toArray) (begins_tuple b us2.toArray) p1.isList p2' fun h' hz hTI hTO g1 g2 hsz hk => wpAny_pyIter_zip hz ?_
      have I2 : Inv X pins σ H1 { s1 with heap := h' } := I1.kept (t' := s1.toks) hk
      have fr : ∀ {c}, s1.heap.objs.size ≤ c → FpOk X pins H1 c := fun hle => I1.fpOk hle (I1.hok.fresh hle)
      exact ⟨s1.heap.objs.size + 4, [s1.heap.objs.size + 4, s1.heap.objs.size + 2, s1.heap.objs.size + 3, s1.heap.objs.size, s1.heap.objs.size + 1], _, _, H1, rfl, I2, turn_zipM (PySem.W.ktu_apart s1.heap.objs.size a b p1.lt lb),
        ⟨hz, hTI, ⟨_, _, hTO⟩, ⟨_, g1, rfl, rfl⟩, ⟨_, g2, rfl, rfl⟩⟩, fun c hcm => five (R := fun c => FpOk X pins H1 c) hcm (fr (Nat.le_add_right _ _)) (fr (Nat.le_add_right _ _)) (fr (Nat.le_add_right _ _)) (fr (Nat.le_refl _)) (fr (Nat.le_add_right _ _)), q⟩
theorem lc_zipM {K : PySem.W.Frag} {a b : Addr} {xs ys : List V} {g : TG} {tt : TT} {te : TE} {vs : List Nat} {σ : St} {H1 : Hp} {D : Addr} {Qd : Hp → Prop} (hl : xs.length = ys.length) (Pv : Nat → Hp → Prop) (h0 : Pv 0 (upd H1 D (.lst []))) (hq : ∀ i H, Pv i H → SqL K H a xs ∧ SqT K H b ys)
    (hs : ∀ (i : Nat) (x y : V) (T : Addr) (H : Hp), xs[i]? = some x → ys[i]? = some y → Pv i H → H T = none → g (.ref T) (wipe σ vs) (upd H T (.tup [x, y])) fun σ2 H2 => wipe σ2 vs = wipe σ vs ∧ tt σ2 H2 fun b H3 =>
      if b = true then te σ2 H3 fun y H4 => ∃ acc, H4 D = some (.lst acc) ∧ acc.length < sizeLine ∧ Pv (i + 1) (upd H4 D (.lst (acc ++ [y]))) else Pv (i + 1) H3) (hd : ∀ H, Pv xs.length H → Qd H) :
    ∃ W : Nat → Nat → Hp → Prop, (∃ m, W 0 m (upd H1 D (.lst []))) ∧ ∀ i m H, W i m H →
      ((ItzM K a b).stop i H ∧ Qd H) ∨ ((ItzM K a b).go i H ∧ ∃ Nx : Hp → Prop, (∀ H', Nx H' → ∃ m', m' < m ∧ W (i + 1) m' H') ∧ ∀ x H', (ItzM K a b).yld i H x H' → g x (wipe σ vs) H' fun σ2 H2 => wipe σ2 vs = wipe σ vs ∧ tt σ2 H2 fun b H3 =>
        if b = true then te σ2 H3 fun y H4 => ∃ acc, H4 D = some (.lst acc) ∧ acc.length < sizeLine ∧ Nx (upd H4 D (.lst (acc ++ [y]))) else Nx H3) := by
  refine ⟨fun i m H => m = xs.length - i ∧ i ≤ xs.length ∧ Pv i H, ⟨xs.length, by simp, Nat.zero_le _, h0⟩, ?_⟩
  rintro i m H ⟨rfl, hi, p⟩
  obtain ⟨qx, qy⟩ := hq i H p
  by_cases hlt : i < xs.length
  · have hx : xs[i]? = some xs[i] := List.getElem?_eq_getElem hlt
    have hlt2 : i < ys.length := by omega
    have hy : ys[i]? = some ys[i] := List.getElem?_eq_getElem hlt2
    refine .inr ⟨⟨xs, ys, _, _, qx, qy, hx, hy⟩, Pv (i + 1), fun H' p' => ⟨xs.length - (i + 1), by omega, rfl, hlt, p'⟩, fun v H' y => ?_⟩
    obtain ⟨T, x', y', rfl, hT, rfl, f1, f2⟩ := y
    exact hs i x' y' T H (f1 xs qx) (f2 ys qy) p hT
  · have e : i = xs.length := by omega
    subst e
    exact .inl ⟨⟨xs, ys, qx, qy, rfl, hl.symm⟩, hd H p⟩
theorem r_glst {K : PySem.W.Frag} {n : Nat} {g : TGs} {a : Addr} {xs : List V} {σ : St} {H : Hp} {QG : St → Hp → Prop} (h : SqL K H a xs) (hn : xs.length = n) (k : g xs σ H QG) : gLst K n g (.ref a) σ H QG := ⟨a, xs, rfl, h, hn, k⟩
/-- lists of lists of integers -/
abbrev LsI (H : Hp) (ts : List Addr) (g : List (List Int)) : Prop := Paired (fun a ns => H a = some (HO.lst (ns.map V.int))) ts g
def GridI (H : Hp) (R : Addr) (g : List (List Int)) : Prop := ∃ ts : List Addr, H R = some (.lst (ts.map V.ref)) ∧ LsI H ts g
theorem LsI.same {H H' : Hp} {ts : List Addr} {g : List (List Int)} (h : LsI H ts g) (e : Same H H') : LsI H' ts g := Paired.mapP h fun _ _ z => e _ _ z
theorem GridI.same {H H' : Hp} {R : Addr} {g : List (List Int)} (h : GridI H R g) (e : Same H H') : GridI H' R g := let ⟨ts, h1, h2⟩ := h; ⟨ts, e _ _ h1, h2.same e⟩
theorem Paired.at' {α β : Type} {R : α → β → Prop} {xs : List α} {ys : List β} (h : Paired R xs ys) {i : Nat} {x : α} (hx : xs[i]? = some x) : ∃ y, ys[i]? = some y ∧ R x y := by
  induction h generalizing i with
  | nil => cases hx
  | cons r _ ih =>
    cases i with
    | zero => exact ⟨_, rfl, by cases hx; exact r⟩
    | succ i => exact ih (i := i) hx
theorem Paired.len' {α β : Type} {R : α → β → Prop} {xs : List α} {ys : List β} (h : Paired R xs ys) : xs.length = ys.length := by
  induction h with
  | nil => rfl
  | cons _ _ ih => rw [List.length_cons, List.length_cons, ih]
end L2

/-! what a text computes, as a function, and that it does -/
namespace L2
open PySem PySem.Spec PyProof.Rows
/-! ### what stays -/
abbrev ASet := Addr → Prop
structure Keep (S : ASet) (H H' : Hp) : Prop where
  same : ∀ b o, ¬ S b → H b = some o → H' b = some o
  tup : ∀ b xs, H b = some (.tup xs) → H' b = some (.tup xs)
  live : ∀ b, H b ≠ none → H' b ≠ none
section
variable {S S' : ASet} {H H1 H2 H' : Hp} {D : Addr} {o : HO}
theorem Keep.refl (S : ASet) (H : Hp) : Keep S H H := ⟨fun _ _ _ h => h, fun _ _ h => h, fun _ h => h⟩
theorem Keep.trans (a : Keep S H H1) (b : Keep S H1 H2) : Keep S H H2 := ⟨fun c o n h => b.same c o n (a.same c o n h), fun c xs h => b.tup c xs (a.tup c xs h), fun c h => b.live c (a.live c h)⟩
theorem Keep.mono (a : Keep S H H1) (h : ∀ a, S a → S' a) : Keep S' H H1 := ⟨fun c o n e => a.same c o (fun z => n (h c z)) e, a.tup, a.live⟩
theorem Same.keepS (a : Same H H1) (S : ASet) : Keep S H H1 := ⟨fun c o _ e => a c o e, fun c xs e => a c _ e, fun c h => by
  cases e : H c with
  | none => exact absurd e h
  | some o => rw [a c o e]; exact fun z => nomatch z⟩
theorem Keep.updS (a : Keep S H H1) (hS : S D) (ht : ∀ xs, H1 D ≠ some (.tup xs)) : Keep S H (upd H1 D o) := ⟨fun c u n e => by
    have hc : c ≠ D := fun z => n (z ▸ hS)
    rw [upd_ne hc]
    exact a.same c u n e, fun c xs e => by
    have e1 := a.tup c xs e
    have hc : c ≠ D := fun z => ht xs (z ▸ e1)
    rw [upd_ne hc]
    exact e1, fun c h => by
    by_cases hc : c = D
    · subst hc
      rw [upd_same]
      exact fun z => nomatch z
    · rw [upd_ne hc]
      exact a.live c h⟩
theorem Keep.put (a : Keep S H H1) (n : H D = none) : Keep S H (upd H1 D o) := ⟨fun c u hc e => by
    rw [upd_ne (ne_of_none e n)]
    exact a.same c u hc e, fun c xs e => by
    rw [upd_ne (ne_of_none e n)]
    exact a.tup c xs e, fun c h => by
    by_cases hc : c = D
    · subst hc
      rw [upd_same]
      exact fun z => nomatch z
    · rw [upd_ne hc]
      exact a.live c h⟩
theorem Keep.new (a : Keep S H H1) (n : H1 D = none) : Keep S H (upd H1 D o) := a.trans ((Same.new0 n).keepS S)
theorem Keep.free (a : Keep S H H1) (n : H1 D = none) : H D = none := by
  cases e : H D with
  | none => rfl
  | some u => exact absurd n (a.live D (by rw [e]; exact fun z => nomatch z))
theorem live_of {o : HO} (h : H D = some o) : H D ≠ none := by rw [h]; exact fun z => nomatch z
end
/-! ### how a value stands in the heap -/
structure Rp (α : Type) where
  P : ASet → Hp → V → α → Prop
  keep : ∀ {S : ASet} {H H' : Hp} {v : V} {x : α}, P S H v x → Keep S H H' → P S H' v x
  shift : ∀ {S S' : ASet} {H : Hp} {v : V} {x : α}, P S H v x → (∀ a, S' a → S a ∨ H a = none) → P S' H v x
/-- nothing of it can change -/
def Rp.Dat {α : Type} (R : Rp α) : Prop := ∀ (S S' : ASet) (H : Hp) (v : V) (x : α), R.P S H v x → R.P S' H v x
def aI : Rp Int := ⟨fun _ _ v n => v = .int n, fun h _ => h, fun h _ => h⟩
def aB : Rp Bool := ⟨fun _ _ v n => v = .bl n, fun h _ => h, fun h _ => h⟩
def aS : Rp Str := ⟨fun _ _ v n => v = .str n, fun h _ => h, fun h _ => h⟩
def aN : Rp Unit := ⟨fun _ _ v _ => v = .non, fun h _ => h, fun h _ => h⟩
def aOpt {α : Type} (R : Rp α) : Rp (Option α) := ⟨fun S H v x => (v = .non ∧ x = none) ∨ ∃ y, x = some y ∧ R.P S H v y ∧ v ≠ .non,
  fun h k => h.imp id fun ⟨y, e, p, n⟩ => ⟨y, e, R.keep p k, n⟩, fun h k => h.imp id fun ⟨y, e, p, n⟩ => ⟨y, e, R.shift p k, n⟩⟩
def aTup {α : Type} (R : Rp α) : Rp (List α) := ⟨fun S H v xs => ∃ a vs, v = .ref a ∧ H a = some (.tup vs) ∧ Paired (R.P S H) vs xs,
  fun ⟨a, vs, e, h, p⟩ k => ⟨a, vs, e, k.tup _ _ h, Paired.mapP p fun _ _ z => R.keep z k⟩, fun ⟨a, vs, e, h, p⟩ k => ⟨a, vs, e, h, Paired.mapP p fun _ _ z => R.shift z k⟩⟩
def aT2 {α β : Type} (R : Rp α) (Q : Rp β) : Rp (α × β) := ⟨fun S H v x => ∃ a v1 v2, v = .ref a ∧ H a = some (.tup [v1, v2]) ∧ R.P S H v1 x.1 ∧ Q.P S H v2 x.2,
  fun ⟨a, v1, v2, e, h, p, q⟩ k => ⟨a, v1, v2, e, k.tup _ _ h, R.keep p k, Q.keep q k⟩, fun ⟨a, v1, v2, e, h, p, q⟩ k => ⟨a, v1, v2, e, h, R.shift p k, Q.shift q k⟩⟩
def aT3 {α β γ : Type} (R : Rp α) (Q : Rp β) (T : Rp γ) : Rp (α × β × γ) := ⟨fun S H v x => ∃ a v1 v2 v3, v = .ref a ∧ H a = some (.tup [v1, v2, v3]) ∧ R.P S H v1 x.1 ∧ Q.P S H v2 x.2.1 ∧ T.P S H v3 x.2.2,
  fun ⟨a, v1, v2, v3, e, h, p, q, r⟩ k => ⟨a, v1, v2, v3, e, k.tup _ _ h, R.keep p k, Q.keep q k, T.keep r k⟩, fun ⟨a, v1, v2, v3, e, h, p, q, r⟩ k => ⟨a, v1, v2, v3, e, h, R.shift p k, Q.shift q k, T.shift r k⟩⟩
/-- a list that is read -/
def LsAt (K : PySem.W.Frag) (S : ASet) (H : Hp) (a : Addr) (vs : List V) : Prop := (¬ S a ∧ Rd H a (.lst vs)) ∨
    ∃ (o : Obj) (its : Array Value) (n : Nat), K.lookup a = some o ∧ o.cls = .type "list" ∧ o.dict = none ∧ o.data = .seq its n ∧ its.size ≤ sizeLine ∧ Vals vs its.toList
theorem LsAt.sq {K : PySem.W.Frag} {S : ASet} {H : Hp} {a : Addr} {vs : List V} (h : LsAt K S H a vs) : SqL K H a vs := h.imp (·.2) id
theorem LsAt.keep {K : PySem.W.Frag} {S : ASet} {H H' : Hp} {a : Addr} {vs : List V} (h : LsAt K S H a vs) (k : Keep S H H') : LsAt K S H' a vs := h.imp (fun ⟨n, r⟩ => ⟨n, r.imp (k.same _ _ n) fun ⟨o, e⟩ => ⟨o, k.same _ _ n e⟩⟩) id
theorem LsAt.shift {K : PySem.W.Frag} {S S' : ASet} {H : Hp} {a : Addr} {vs : List V} (h : LsAt K S H a vs) (k : ∀ a, S' a → S a ∨ H a = none) : LsAt K S' H a vs := by
  rcases h with ⟨n, r⟩ | h
  · refine .inl ⟨fun z => (k a z).elim n fun e => ?_, r⟩
    rcases r with r' | ⟨o, r'⟩
    · rw [e] at r'; cases r'
    · rw [e] at r'; cases r'
  · exact .inr h
def aLst (K : PySem.W.Frag) {α : Type} (R : Rp α) : Rp (List α) := ⟨fun S H v xs => ∃ a vs, v = .ref a ∧ LsAt K S H a vs ∧ Paired (R.P S H) vs xs,
  fun ⟨a, vs, e, h, p⟩ k => ⟨a, vs, e, h.keep k, Paired.mapP p fun _ _ z => R.keep z k⟩, fun ⟨a, vs, e, h, p⟩ k => ⟨a, vs, e, h.shift k, Paired.mapP p fun _ _ z => R.shift z k⟩⟩
theorem aI.dat : aI.Dat := fun _ _ _ _ _ h => h
theorem aB.dat : aB.Dat := fun _ _ _ _ _ h => h
theorem aS.dat : aS.Dat := fun _ _ _ _ _ h => h
theorem aN.dat : aN.Dat := fun _ _ _ _ _ h => h
theorem aOpt.dat {α : Type} {R : Rp α} (d : R.Dat) : (aOpt R).Dat := fun _ _ _ _ _ h => h.imp id fun ⟨y, e, p, n⟩ => ⟨y, e, d _ _ _ _ _ p, n⟩
theorem aTup.dat {α : Type} {R : Rp α} (d : R.Dat) : (aTup R).Dat := fun _ _ _ _ _ ⟨a, vs, e, h, p⟩ => ⟨a, vs, e, h, Paired.mapP p fun _ _ z => d _ _ _ _ _ z⟩
theorem aT2.dat {α β : Type} {R : Rp α} {Q : Rp β} (d : R.Dat) (d2 : Q.Dat) : (aT2 R Q).Dat := fun _ _ _ _ _ ⟨a, v1, v2, e, h, p, q⟩ => ⟨a, v1, v2, e, h, d _ _ _ _ _ p, d2 _ _ _ _ _ q⟩
theorem aT3.dat {α β γ : Type} {R : Rp α} {Q : Rp β} {T : Rp γ} (d : R.Dat) (d2 : Q.Dat) (d3 : T.Dat) : (aT3 R Q T).Dat := fun _ _ _ _ _ ⟨a, v1, v2, v3, e, h, p, q, r⟩ => ⟨a, v1, v2, v3, e, h, d _ _ _ _ _ p, d2 _ _ _ _ _ q, d3 _ _ _ _ _ r⟩
/-! ### what a text gives -/
inductive ErV | int (n : Int) | tup (ns : List Int) | str (s : Str) | rows (r : List (List Int))
/-- the classes of errors -/
inductive XC | PostError | InvalidSize | InvalidPlace | DoublePlace | InvalidMatrix | InvalidStep | InvalidNumber | InvalidWord | Conflict | Barred | Taken | Wrong | NothingToUndo | Unreadable
  deriving DecidableEq
structure Er where
  cls : XC
  val : ErV
def ErV.Ok (K : PySem.W.Frag) (S : ASet) (H : Hp) (v : V) : ErV → Prop
  | .int n => aI.P S H v n
  | .tup ns => (aTup aI).P S H v ns
  | .str s => aS.P S H v s
  | .rows r => (aLst K (aLst K aI)).P S H v r
inductive Res (ε α : Type) | ok (a : α) | ex (e : ε) | bad
def Res.bind {ε α β : Type} (r : Res ε α) (k : α → Res ε β) : Res ε β := match r with
  | .ok a => k a
  | .ex e => .ex e
  | .bad => .bad
@[simp] theorem Res.ok_bind {ε α β : Type} (a : α) (k : α → Res ε β) : (Res.ok a).bind k = k a := rfl
@[simp] theorem Res.bad_bind {ε α β : Type} (k : α → Res ε β) : (Res.bad : Res ε α).bind k = .bad := rfl
@[simp] theorem Res.ex_bind {ε α β : Type} (e : ε) (k : α → Res ε β) : (Res.ex e : Res ε α).bind k = .ex e := rfl
theorem Res.bind_assoc {ε α β γ : Type} (r : Res ε α) (k : α → Res ε β) (l : β → Res ε γ) : (r.bind k).bind l = r.bind fun a => (k a).bind l := by cases r <;> rfl
/-- .., the state apart -/
def Res.bd {δ α β : Type} (r : Res (Er × δ) (α × δ)) (k : α → δ → Res (Er × δ) (β × δ)) : Res (Er × δ) (β × δ) := r.bind fun p => k p.1 p.2
@[simp] theorem Res.ok_bd {δ α β : Type} (a : α) (d : δ) (k : α → δ → Res (Er × δ) (β × δ)) : (Res.ok (a, d)).bd k = k a d := rfl
@[simp] theorem Res.bad_bd {δ α β : Type} (k : α → δ → Res (Er × δ) (β × δ)) : (Res.bad : Res (Er × δ) (α × δ)).bd k = .bad := rfl
@[simp] theorem Res.ex_bd {δ α β : Type} (e : Er × δ) (k : α → δ → Res (Er × δ) (β × δ)) : (Res.ex e : Res (Er × δ) (α × δ)).bd k = .ex e := rfl
theorem Res.bd_assoc {δ α β γ : Type} (r : Res (Er × δ) (α × δ)) (k : α → δ → Res (Er × δ) (β × δ)) (l : β → δ → Res (Er × δ) (γ × δ)) : (r.bd k).bd l = r.bd fun a d => (k a d).bd l := by cases r <;> rfl
/-- a result without a state, in a state -/
def Res.at {ε α δ : Type} (r : Res ε α) (d : δ) : Res (ε × δ) (α × δ) := match r with
  | .ok a => .ok (a, d)
  | .ex e => .ex (e, d)
  | .bad => .bad
@[simp] theorem Res.ok_at {ε α δ : Type} (a : α) (d : δ) : (Res.ok a : Res ε α).at d = .ok (a, d) := rfl
@[simp] theorem Res.ex_at {ε α δ : Type} (e : ε) (d : δ) : (Res.ex e : Res ε α).at d = .ex (e, d) := rfl
@[simp] theorem Res.bad_at {ε α δ : Type} (d : δ) : (Res.bad : Res ε α).at d = .bad := rfl
/-! ### objects that a def may change -/
structure Om (β : Type) where
  C : ASet → Hp → Addr → β → Prop
  keep : ∀ {T : ASet} {H H' : Hp} {D : Addr} {b : β}, C T H D b → Keep T H H' → H' D = H D → C T H' D b
  shift : ∀ {T T' : ASet} {H : Hp} {D : Addr} {b : β}, C T H D b → (∀ a, T' a → T a ∨ H a = none) → C T' H D b
  ntup : ∀ {T : ASet} {H : Hp} {D : Addr} {b : β}, C T H D b → ∀ xs, H D ≠ some (.tup xs)
def oLst {α : Type} (R : Rp α) : Om (List α) := ⟨fun T H D xs => ∃ vs, H D = some (.lst vs) ∧ Paired (R.P T H) vs xs,
  fun ⟨vs, h, p⟩ k e => ⟨vs, e.trans h, Paired.mapP p fun _ _ z => R.keep z k⟩, fun ⟨vs, h, p⟩ k => ⟨vs, h, Paired.mapP p fun _ _ z => R.shift z k⟩, fun ⟨vs, h, p⟩ xs z => by rw [h] at z; cases z⟩
inductive Dl : Type → Type 1
  | nil : Dl Unit
  | cons {β δ : Type} (O : Om β) (r : Dl δ) : Dl (β × δ)
def Dl.len : {δ : Type} → Dl δ → Nat
  | _, .nil => 0
  | _, .cons _ r => r.len + 1
def Owns : {δ : Type} → Dl δ → ASet → Hp → List Addr → δ → Prop
  | _, .nil, _, _, Ds, _ => Ds = []
  | _, .cons O r, T, H, Ds, d => ∃ D L, Ds = D :: L ∧ O.C T H D d.1 ∧ Owns r T H L d.2
theorem Owns.length {T : ASet} {H : Hp} : ∀ {δ : Type} {Δ : Dl δ} {Ds : List Addr} {d : δ}, Owns Δ T H Ds d → Ds.length = Δ.len := by
  intro δ Δ
  induction Δ with
  | nil => intro Ds d h; rw [show Ds = [] from h]; rfl
  | cons O r ih =>
    rintro Ds d ⟨D, L, rfl, c, o⟩
    exact congrArg (· + 1) (ih o)
theorem Owns.keep {T : ASet} {H H' : Hp} (k : Keep T H H') : ∀ {δ : Type} {Δ : Dl δ} {Ds : List Addr} {d : δ}, Owns Δ T H Ds d → (∀ D ∈ Ds, H' D = H D) → Owns Δ T H' Ds d := by
  intro δ Δ
  induction Δ with
  | nil => exact fun h _ => h
  | cons O r ih =>
    rintro Ds d ⟨D, L, e, c, o⟩ s
    exact ⟨D, L, e, O.keep c k (s D (e ▸ List.mem_cons_self)), ih o fun D' h => s D' (e ▸ List.mem_cons_of_mem _ h)⟩
theorem Owns.shift {T T' : ASet} {H : Hp} (k : ∀ a, T' a → T a ∨ H a = none) : ∀ {δ : Type} {Δ : Dl δ} {Ds : List Addr} {d : δ}, Owns Δ T H Ds d → Owns Δ T' H Ds d := by
  intro δ Δ
  induction Δ with
  | nil => exact fun h => h
  | cons O r ih =>
    rintro Ds d ⟨D, L, e, c, o⟩
    exact ⟨D, L, e, O.shift c k, ih o⟩
/-- the j-th of the owned -/
inductive Ix : {δ : Type} → Dl δ → Nat → {β : Type} → Om β → (δ → β) → (β → δ → δ) → Prop
  | z {β δ : Type} {O : Om β} {r : Dl δ} : Ix (.cons O r) 0 O (fun d => d.1) (fun b d => (b, d.2))
  | s {β γ δ : Type} {O : Om β} {N : Om γ} {r : Dl δ} {j : Nat} {g : δ → β} {p : β → δ → δ} : Ix r j O g p → Ix (.cons N r) (j + 1) O (fun d => g d.2) (fun b d => (d.1, p b d.2))
theorem Ix.here {δ : Type} {Δ : Dl δ} {j : Nat} {β : Type} {O : Om β} {g : δ → β} {p : β → δ → δ} (i : Ix Δ j O g p) : ∀ {T : ASet} {H : Hp} {Ds : List Addr} {d : δ}, Owns Δ T H Ds d → ∃ D, Ds[j]? = some D ∧ O.C T H D (g d) := by
  induction i with
  | z =>
    intro T H Ds d ⟨D, L, e, c, o⟩
    exact ⟨D, by rw [e]; rfl, c⟩
  | s i ih =>
    intro T H Ds d ⟨D, L, e, c, o⟩
    obtain ⟨D', h1, h2⟩ := ih o
    exact ⟨D', by rw [e]; exact h1, h2⟩
/-- one of them is changed -/
theorem Ix.put {δ : Type} {Δ : Dl δ} {j : Nat} {β : Type} {O : Om β} {g : δ → β} {p : β → δ → δ} (i : Ix Δ j O g p) : ∀ {T : ASet} {H H' : Hp} {Ds : List Addr} {d : δ} {D : Addr} {b : β}, Owns Δ T H Ds d → Ds.Nodup → Ds[j]? = some D → Keep T H H' → (∀ E ∈ Ds, E ≠ D → H' E = H E) → O.C T H' D b → Owns Δ T H' Ds (p b d) := by
  induction i with
  | z =>
    intro T H H' Ds d D b ⟨D0, L, e, c, o⟩ nd h k s hb
    subst e
    obtain rfl : D0 = D := Option.some.inj h
    rw [List.nodup_cons] at nd
    exact ⟨D0, L, rfl, hb, Owns.keep k o fun E hE => s E (List.mem_cons_of_mem _ hE) fun z => nd.1 (z ▸ hE)⟩
  | @s β γ δ O N r j g p i ih =>
    intro T H H' Ds d D b ⟨D0, L, e, c, o⟩ nd h k s hb
    subst e
    have h' : L[j]? = some D := h
    rw [List.nodup_cons] at nd
    have n0 : D0 ≠ D := fun z => nd.1 (z ▸ List.mem_of_getElem? h')
    exact ⟨D0, L, rfl, N.keep c k (s D0 List.mem_cons_self n0), ih o nd.2 h' k (fun E hE => s E (List.mem_cons_of_mem _ hE)) hb⟩
/-! ### where one stands -/
structure Fx (υ : Type) where
  K : PySem.W.Frag
  rz : Bool
  U : List Addr
  Uo : Dl υ
  S : ASet
  X : ASet
  H0 : Hp
  E : St → XK
  cl : XC → Addr
/-- a claim about a value -/
structure Pd where
  P : ASet → Hp → V → Prop
  keep : ∀ {S : ASet} {H H' : Hp} {v : V}, P S H v → Keep S H H' → P S H' v
  shift : ∀ {S S' : ASet} {H : Hp} {v : V}, P S H v → (∀ a, S' a → S a ∨ H a = none) → P S' H v
def Rp.at {α : Type} (R : Rp α) (x : α) : Pd := ⟨fun S H v => R.P S H v x, R.keep, R.shift⟩
inductive Cl : Type
  | no
  | fz (R : Pd)
  | bo (R : Pd)
  | ow (j : Nat)
  | l2 (j1 j2 : Nat)
def soft {υ : Type} (c : Bool) (F : Fx υ) (Ds : List Addr) : ASet := fun a => (c = true ∧ F.S a) ∨ F.X a ∨ a ∈ Ds
def ClOk {υ : Type} (F : Fx υ) (Ds : List Addr) (H : Hp) : Cl → Option V → Prop
  | .no, _ => True
  | .fz R, s => ∃ v, s = some v ∧ R.P (soft true F Ds) H v
  | .bo R, s => ∃ v, s = some v ∧ R.P (soft false F Ds) H v
  | .ow j, s => ∃ D, Ds[j]? = some D ∧ s = some (.ref D)
  | .l2 j1 j2, s => ∃ W D E, s = some (.ref W) ∧ ¬ soft true F Ds W ∧ H W = some (.lst [.ref D, .ref E]) ∧ Ds[j1]? = some D ∧ Ds[j2]? = some E
structure En {υ δ : Type} (F : Fx υ) (Γ : List Cl) (Δ : Dl δ) (Ds : List Addr) (d : δ) (σ : St) (H : Hp) : Prop where
  k0 : Keep (· ∈ F.U) F.H0 H
  pre : ∃ L, Ds = F.U ++ L ∧ ∀ a ∈ L, F.H0 a = none
  nd : Ds.Nodup
  live : ∀ a, soft true F Ds a → H a ≠ none
  own : Owns Δ (soft true F Ds) H Ds d
  sl : Paired (ClOk F Ds H) Γ σ
  xd : ∀ a ∈ Ds, ¬ F.X a
  ul : F.U.length = F.Uo.len
  sd : ∀ a ∈ Ds, a ∈ F.U ∨ ¬ F.S a
section
variable {υ δ : Type} {F : Fx υ} {Γ Γ' : List Cl} {Δ : Dl δ} {Ds : List Addr} {d d' : δ} {σ : St} {H H' : Hp}
theorem softDs (c : Bool) {a : Addr} (h : a ∈ Ds) : soft c F Ds a := .inr (.inr h)
theorem soft_le {c : Bool} {a : Addr} (h : soft c F Ds a) : soft true F Ds a := h.imp (fun ⟨_, z⟩ => ⟨rfl, z⟩) id
theorem Keep.soft (c : Bool) (k : Keep (· ∈ Ds) H H') : Keep (L2.soft c F Ds) H H' := k.mono fun _ h => .inr (.inr h)
theorem Rp.weak {α : Type} (R : Rp α) {c : Bool} {v : V} {x : α} (h : R.P (L2.soft true F Ds) H v x) : R.P (L2.soft c F Ds) H v x := R.shift h fun _ z => .inl (soft_le z)
theorem ClOk.keep {c : Cl} {s : Option V} (h : ClOk F Ds H c s) (k : Keep (· ∈ Ds) H H') : ClOk F Ds H' c s := by
  cases c with
  | no => trivial
  | fz R => obtain ⟨v, e, p⟩ := h; exact ⟨v, e, R.keep p (k.soft _)⟩
  | bo R => obtain ⟨v, e, p⟩ := h; exact ⟨v, e, R.keep p (k.soft _)⟩
  | ow j => exact h
  | l2 j1 j2 => obtain ⟨W, D, E, e, n, g, g1, g2⟩ := h; exact ⟨W, D, E, e, n, (k.soft true).same _ _ n g, g1, g2⟩
theorem En.step (e : En F Γ Δ Ds d σ H) (k : Keep (· ∈ Ds) H H') (o : Owns Δ (soft true F Ds) H' Ds d') : En F Γ Δ Ds d' σ H' := by
  refine ⟨?_, e.pre, e.nd, fun a h => k.live a (e.live a h), o, Paired.mapP e.sl fun _ _ z => z.keep k, e.xd, e.ul, e.sd⟩
  obtain ⟨L, rfl, hL⟩ := e.pre
  refine ⟨fun b u n h => k.same b u (fun z => ?_) (e.k0.same b u n h), fun b xs h => k.tup b xs (e.k0.tup b xs h), fun b h => k.live b (e.k0.live b h)⟩
  rcases List.mem_append.mp z with z | z
  · exact n z
  · rw [hL b z] at h
    cases h
theorem En.same (e : En F Γ Δ Ds d σ H) (s : Same H H') : En F Γ Δ Ds d σ H' := e.step (s.keepS _) (Owns.keep (s.keepS _) e.own fun D hD => by
  have hl := e.live D (.inr (.inr hD))
  cases z : H D with
  | none => exact absurd z hl
  | some o => exact s D o z)
theorem En.keepD (e : En F Γ Δ Ds d σ H) (k : Keep (· ∈ Ds) H H') (s : ∀ D ∈ Ds, H' D = H D) : En F Γ Δ Ds d σ H' := e.step k (Owns.keep (k.soft _) e.own s)
theorem En.get {i : Nat} {c : Cl} (e : En F Γ Δ Ds d σ H) (h : Γ[i]? = some c) : ∃ s, σ[i]? = some s ∧ ClOk F Ds H c s := pairGet e.sl h
theorem paired_set {α β : Type} {P : α → β → Prop} : ∀ {l : List α} {m : List β} {i : Nat} {a : α} {b : β}, Paired P l m → P a b → Paired P (l.set i a) (m.set i b)
  | _, _, _, _, _, .nil, _ => .nil
  | _, _, 0, _, _, .cons h t, k => .cons k t
  | _, _, i + 1, _, _, .cons h t, k => .cons h (paired_set t k)
theorem En.set {i : Nat} {c : Cl} {v : Option V} (e : En F Γ Δ Ds d σ H) (h : ClOk F Ds H c v) : En F (Γ.set i c) Δ Ds d (σ.set i v) H := { e with sl := paired_set e.sl h }
theorem En.wipe (e : En F Γ Δ Ds d σ H) : ∀ vs : List Nat, En F (vs.foldr (fun i g => g.set i .no) Γ) Δ Ds d (wipe σ vs) H
  | [] => e
  | v :: vs => (En.wipe e vs).set (c := .no) (v := none) trivial
/-- some names are forgotten -/
inductive Le : List Cl → List Cl → Prop
  | nil : Le [] []
  | keep {c : Cl} {l m : List Cl} : Le l m → Le (c :: l) (c :: m)
  | drop {c : Cl} {l m : List Cl} : Le l m → Le (c :: l) (.no :: m)
  | weak {P : Pd} {l m : List Cl} : Le l m → Le (.fz P :: l) (.bo P :: m)
theorem Le.paired {l m : List Cl} (h : Le l m) : ∀ {s : St}, Paired (ClOk F Ds H) l s → Paired (ClOk F Ds H) m s := by
  induction h with
  | nil => exact fun h => h
  | keep _ ih => intro s h; cases h with | cons a b => exact .cons a (ih b)
  | drop _ ih => intro s h; cases h with | cons a b => exact .cons trivial (ih b)
  | weak _ ih => intro s h; cases h with | cons a b => exact .cons (let ⟨v, e, p⟩ := a; ⟨v, e, Pd.shift _ p fun _ z => .inl (soft_le z)⟩) (ih b)
theorem En.le (e : En F Γ Δ Ds d σ H) (h : Le Γ Γ') : En F Γ' Δ Ds d σ H := { e with sl := h.paired e.sl }
theorem Le.refl : ∀ l : List Cl, Le l l
  | [] => .nil
  | _ :: l => .keep (Le.refl l)
end
/-! ### the judgements -/
section
variable {υ δ α β γ : Type} {F : Fx υ} {Γ Γ' : List Cl} {Δ : Dl δ}
/-- behind a result -/
def After (F : Fx υ) (Γ : List Cl) (Δ : Dl δ) (Ds : List Addr) (σ : St) (H : Hp) (r : Res (Er × δ) (α × δ)) (K : α → δ → Hp → Prop) : Prop := match r with
  | .ok (a, d') => ∀ H', En F Γ Δ Ds d' σ H' → Keep (· ∈ Ds) H H' → K a d' H'
  | .ex (e, d') => F.rz = true ∧ ∀ H' dx v, En F Γ Δ Ds d' σ H' → Keep (· ∈ Ds) H H' → H dx = none → H' dx = some (.xd [("value", v)]) → e.val.Ok F.K (soft true F Ds) H' v → F.E σ (.ref (F.cl e.cls)) (some dx) H'
  | .bad => False
theorem After.mono {Ds : List Addr} {σ : St} {H : Hp} {r : Res (Er × δ) (α × δ)} {K K' : α → δ → Hp → Prop} (h : After F Γ Δ Ds σ H r K) (k : ∀ a d' H', En F Γ Δ Ds d' σ H' → Keep (· ∈ Ds) H H' → K a d' H' → K' a d' H') : After F Γ Δ Ds σ H r K' := by
  match r, h with
  | .ok (a, d'), h => exact fun H' e q => k a d' H' e q (h H' e q)
  | .ex (e, d'), h => exact h
theorem After.from {Ds : List Addr} {σ : St} {H H1 : Hp} {r : Res (Er × δ) (α × δ)} {K : α → δ → Hp → Prop} (h : After F Γ Δ Ds σ H r K) (k : Keep (· ∈ Ds) H H1) : After F Γ Δ Ds σ H1 r K := by
  match r, h with
  | .ok (a, d'), h => exact fun H' e q => h H' e (k.trans q)
  | .ex (e, d'), h => exact ⟨h.1, fun H' dx v en q n => h.2 H' dx v en (k.trans q) (k.free n)⟩
theorem After.bind {Ds : List Addr} {σ : St} {H : Hp} {r : Res (Er × δ) (α × δ)} {f : α × δ → Res (Er × δ) (β × δ)} {K : β → δ → Hp → Prop} (h : After F Γ Δ Ds σ H (r.bind f) K) : After F Γ Δ Ds σ H r fun a d' H' => After F Γ Δ Ds σ H' (f (a, d')) K := by
  match r, h with
  | .ok (a, d'), h => exact fun H' e q => h.from q
  | .ex (e, d'), h => exact h
theorem After.ok {Ds : List Addr} {σ : St} {H : Hp} {a : α} {d : δ} {K : α → δ → Hp → Prop} (h : After F Γ Δ Ds σ H (.ok (a, d)) K) (e : En F Γ Δ Ds d σ H) : K a d H := h H e (Keep.refl _ _)
/-- an expression gives what m says, standing as R tells -/
def TEj (F : Fx υ) (Γ : List Cl) (Δ : Dl δ) (t : TE) (m : δ → Res (Er × δ) (α × δ)) (R : Rp α) (c : Bool) : Prop :=
  ∀ Ds d σ H (Q : VK), En F Γ Δ Ds d σ H → After F Γ Δ Ds σ H (m d) (fun a _ H' => ∀ v, R.P (soft c F Ds) H' v a → Q v H') → t σ H Q
/-- .. as a new list -/
def TNj (F : Fx υ) (Γ : List Cl) (Δ : Dl δ) (t : TE) (m : δ → Res (Er × δ) (List α × δ)) (R : Rp α) (c : Bool) : Prop :=
  ∀ Ds d σ H (Q : VK), En F Γ Δ Ds d σ H → After F Γ Δ Ds σ H (m d) (fun a _ H' => ∀ D vs, H D = none → H' D = some (.lst vs) → Paired (R.P (fun b => soft c F Ds b ∨ b = D) H') vs a → Q (.ref D) H') → t σ H Q
/-- a test -/
def TTj (F : Fx υ) (Γ : List Cl) (Δ : Dl δ) (t : TT) (m : δ → Res (Er × δ) (Bool × δ)) : Prop :=
  ∀ Ds d σ H (Q : Bool → Hp → Prop), En F Γ Δ Ds d σ H → After F Γ Δ Ds σ H (m d) (fun a _ H' => Q a H') → t σ H Q
theorem TEj.weak {t : TE} {m : δ → Res (Er × δ) (α × δ)} {R : Rp α} {c : Bool} (h : TEj F Γ Δ t m R true) : TEj F Γ Δ t m R c := fun Ds d σ H Q e q => h Ds d σ H Q e (q.mono fun _ _ _ _ _ k v p => k v (R.weak p))
theorem TEj.dat {t : TE} {m : δ → Res (Er × δ) (α × δ)} {R : Rp α} {c c' : Bool} (hd : R.Dat) (h : TEj F Γ Δ t m R c) : TEj F Γ Δ t m R c' := fun Ds d σ H Q e q => h Ds d σ H Q e (q.mono fun _ _ _ _ _ k v p => k v (hd _ _ _ _ _ p))
theorem TNj.te {t : TE} {m : δ → Res (Er × δ) (List α × δ)} {R : Rp α} {c : Bool} (h : TNj F Γ Δ t m R c) : TEj F Γ Δ t m (aLst F.K R) c := fun Ds d σ H Q e q => h Ds d σ H Q e (q.mono fun a d' H' e' k w D vs n hD p => w _ ⟨D, vs, rfl, .inl ⟨fun z => absurd n (e.live D (soft_le z)), .inl hD⟩, Paired.mapP p fun _ _ z => R.shift z fun b hb => .inl (.inl hb)⟩)
/-! expressions -/
theorem tj_var {i : Nat} {R : Rp α} {x : α} (h : Γ[i]? = some (.fz (R.at x))) : TEj F Γ Δ (tVar i) (fun d => .ok (x, d)) R true := fun Ds d σ H Q e q => by
  obtain ⟨s, h1, v, rfl, p⟩ := e.get h
  exact ⟨v, h1, q.ok e v p⟩
theorem tj_bor {i : Nat} {R : Rp α} {x : α} (h : Γ[i]? = some (.bo (R.at x))) : TEj F Γ Δ (tVar i) (fun d => .ok (x, d)) R false := fun Ds d σ H Q e q => by
  obtain ⟨s, h1, v, rfl, p⟩ := e.get h
  exact ⟨v, h1, q.ok e v p⟩
theorem tj_c {v : V} {R : Rp α} {x : α} (h : ∀ S H, R.P S H v x) : TEj F Γ Δ (tC v) (fun d => .ok (x, d)) R true := fun Ds d σ H Q e q => q.ok e v (h _ _)
theorem tj_int {n : Int} : TEj F Γ Δ (tC (.int n)) (fun d => .ok (n, d)) aI true := tj_c fun _ _ => rfl
theorem tj_str {n : Str} : TEj F Γ Δ (tC (.str n)) (fun d => .ok (n, d)) aS true := tj_c fun _ _ => rfl
theorem tj_bl {n : Bool} : TEj F Γ Δ (tC (.bl n)) (fun d => .ok (n, d)) aB true := tj_c fun _ _ => rfl
theorem tj_non : TEj F Γ Δ (tC .non) (fun d => .ok ((), d)) aN true := tj_c fun _ _ => rfl
/-- an operation on values -/
def OpT (K : PySem.W.Frag) (r : R2) (Ra : Rp α) (Rb : Rp β) (g : α → β → Option γ) (Rc : Rp γ) : Prop := ∀ (T : ASet) (H : Hp) (v w : V) (a : α) (b : β) (Q : VK), (∀ x, T x → H x ≠ none) → Ra.P T H v a → Rb.P T H w b → (∃ c, g a b = some c ∧ ∀ z H', Same H H' → Rc.P T H' z c → Q z H') → r v w H Q
/-- .. that gives a new list -/
def OpN (K : PySem.W.Frag) (r : R2) (Ra : Rp α) (Rb : Rp β) (g : α → β → Option (List γ)) (Rc : Rp γ) : Prop := ∀ (T : ASet) (H : Hp) (v w : V) (a : α) (b : β) (Q : VK), (∀ x, T x → H x ≠ none) → Ra.P T H v a → Rb.P T H w b → (∃ c, g a b = some c ∧ ∀ D vs H', Same H H' → H D = none → H' D = some (.lst vs) → Paired (Rc.P (fun x => T x ∨ x = D) H') vs c → Q (.ref D) H') → r v w H Q
def UnT (K : PySem.W.Frag) (r : V → Hp → VK → Prop) (Ra : Rp α) (g : α → Option γ) (Rc : Rp γ) : Prop := ∀ (T : ASet) (H : Hp) (v : V) (a : α) (Q : VK), (∀ x, T x → H x ≠ none) → Ra.P T H v a → (∃ c, g a = some c ∧ ∀ z H', Same H H' → Rc.P T H' z c → Q z H') → r v H Q
def optAt (o : Option γ) (d : δ) : Res (Er × δ) (γ × δ) := match o with
  | some c => .ok (c, d)
  | none => .bad
@[simp] theorem optAt_some (c : γ) (d : δ) : optAt (some c) d = .ok (c, d) := rfl
@[simp] theorem optAt_none (d : δ) : optAt (none : Option γ) d = .bad := rfl
theorem After.opt {Ds : List Addr} {σ : St} {H : Hp} {o : Option γ} {d : δ} {K : γ → δ → Hp → Prop} (h : After F Γ Δ Ds σ H (optAt o d) K) (e : En F Γ Δ Ds d σ H) : ∃ c, o = some c ∧ ∀ H', Same H H' → K c d H' := by
  cases o with
  | none => exact h.elim
  | some c => exact ⟨c, rfl, fun H' s => h H' (e.same s) (s.keepS _)⟩
theorem tj_op {r : R2} {Ra : Rp α} {Rb : Rp β} {Rc : Rp γ} {g : α → β → Option γ} {ta tb : TE} {ma : δ → Res (Er × δ) (α × δ)} {mb : δ → Res (Er × δ) (β × δ)} {c : Bool} (hr : OpT F.K r Ra Rb g Rc) (ha : TEj F Γ Δ ta ma Ra c) (hb : TEj F Γ Δ tb mb Rb c) :
    TEj F Γ Δ (tOp r ta tb) (fun d => (ma d).bd fun a d => (mb d).bd fun b d => optAt (g a b) d) Rc c := fun Ds d σ H Q e q => by
  refine ha Ds d σ H _ e ((q.bind).mono fun a d1 H1 e1 k1 q1 v pv => ?_)
  refine hb Ds d1 σ H1 _ e1 ((q1.bind).mono fun b d2 H2 e2 k2 q2 w pw => ?_)
  obtain ⟨x, hx, k⟩ := q2.opt e2
  exact hr _ H2 v w a b Q (fun x hx => e2.live x (soft_le hx)) (Ra.keep pv (k2.soft _)) pw ⟨x, hx, fun z H' s p => k H' s z p⟩
theorem tn_op {r : R2} {Ra : Rp α} {Rb : Rp β} {Rc : Rp γ} {g : α → β → Option (List γ)} {ta tb : TE} {ma : δ → Res (Er × δ) (α × δ)} {mb : δ → Res (Er × δ) (β × δ)} {c : Bool} (hr : OpN F.K r Ra Rb g Rc) (ha : TEj F Γ Δ ta ma Ra c) (hb : TEj F Γ Δ tb mb Rb c) :
    TNj F Γ Δ (tOp r ta tb) (fun d => (ma d).bd fun a d => (mb d).bd fun b d => optAt (g a b) d) Rc c := fun Ds d σ H Q e q => by
  refine ha Ds d σ H _ e ((q.bind).mono fun a d1 H1 e1 k1 q1 v pv => ?_)
  refine hb Ds d1 σ H1 _ e1 ((q1.bind).mono fun b d2 H2 e2 k2 q2 w pw => ?_)
  obtain ⟨x, hx, k⟩ := q2.opt e2
  exact hr _ H2 v w a b Q (fun x hx => e2.live x (soft_le hx)) (Ra.keep pv (k2.soft _)) pw ⟨x, hx, fun D vs H' s n hD p => k H' s D vs (k1.free (k2.free n)) hD p⟩
theorem tj_un {r : V → Hp → VK → Prop} {Ra : Rp α} {Rc : Rp γ} {g : α → Option γ} {ta : TE} {ma : δ → Res (Er × δ) (α × δ)} {c : Bool} (hr : UnT F.K r Ra g Rc) (ha : TEj F Γ Δ ta ma Ra c) :
    TEj F Γ Δ (tUn r ta) (fun d => (ma d).bd fun a d => optAt (g a) d) Rc c := fun Ds d σ H Q e q => by
  refine ha Ds d σ H _ e ((q.bind).mono fun a d1 H1 e1 k1 q1 v pv => ?_)
  obtain ⟨x, hx, k⟩ := q1.opt e1
  exact hr _ H1 v a Q (fun x hx => e1.live x (soft_le hx)) pv ⟨x, hx, fun z H' s p => k H' s z p⟩
/-! arguments -/
inductive Al : Type → Type 1
  | nil : Al Unit
  | cons {α β : Type} (R : Rp α) (r : Al β) : Al (α × β)
def Al.P : {α : Type} → Al α → ASet → Hp → List V → α → Prop
  | _, .nil, _, _, vs, _ => vs = []
  | _, .cons R r, S, H, vs, a => ∃ v ws, vs = v :: ws ∧ R.P S H v a.1 ∧ Al.P r S H ws a.2
theorem Al.keep : ∀ {α : Type} {A : Al α} {S : ASet} {H H' : Hp} {vs : List V} {a : α}, A.P S H vs a → Keep S H H' → A.P S H' vs a := by
  intro α A
  induction A with
  | nil => exact fun h _ => h
  | cons R r ih =>
    rintro S H H' vs a ⟨v, ws, e, p, q⟩ k
    exact ⟨v, ws, e, R.keep p k, ih q k⟩
theorem Al.shift : ∀ {α : Type} {A : Al α} {S S' : ASet} {H : Hp} {vs : List V} {a : α}, A.P S H vs a → (∀ a, S' a → S a ∨ H a = none) → A.P S' H vs a := by
  intro α A
  induction A with
  | nil => exact fun h _ => h
  | cons R r ih =>
    rintro S S' H vs a ⟨v, ws, e, p, q⟩ k
    exact ⟨v, ws, e, R.shift p k, ih q k⟩
def TAj (F : Fx υ) (Γ : List Cl) (Δ : Dl δ) (t : TA) (m : δ → Res (Er × δ) (α × δ)) (A : Al α) (c : Bool) : Prop :=
  ∀ Ds d σ H (Q : List V → Hp → Prop), En F Γ Δ Ds d σ H → After F Γ Δ Ds σ H (m d) (fun a _ H' => ∀ vs, A.P (soft c F Ds) H' vs a → Q vs H') → t σ H Q
theorem ta_nil {c : Bool} : TAj F Γ Δ tNil (fun d => .ok ((), d)) .nil c := fun Ds d σ H Q e q => q.ok e [] rfl
theorem ta_cons {R : Rp α} {A : Al β} {ta : TE} {tb : TA} {ma : δ → Res (Er × δ) (α × δ)} {mb : δ → Res (Er × δ) (β × δ)} {c : Bool} (ha : TEj F Γ Δ ta ma R c) (hb : TAj F Γ Δ tb mb A c) :
    TAj F Γ Δ (tCons ta tb) (fun d => (ma d).bd fun a d => (mb d).bd fun b d => .ok ((a, b), d)) (.cons R A) c := fun Ds d σ H Q e q => by
  refine ha Ds d σ H _ e ((q.bind).mono fun a d1 H1 e1 k1 q1 v pv => ?_)
  refine hb Ds d1 σ H1 _ e1 ((q1.bind).mono fun b d2 H2 e2 k2 q2 vs pw => ?_)
  exact (After.ok q2 e2) (v :: vs) ⟨v, vs, rfl, R.keep pv (k2.soft _), pw⟩
/-! calls of defs that change nothing and raise nothing -/
def spP (A : Al α) (R : Rp β) (f : α → Res Er β) : Sp := fun vs H Q _ => ∃ a, A.P (fun _ => False) H vs a ∧ ∃ r, f a = .ok r ∧ ∀ v H', Same H H' → (∀ S : ASet, (∀ x, S x → H x ≠ none) → R.P S H' v r) → Q v H'
def spN (A : Al α) (R : Rp β) (f : α → Res Er (List β)) : Sp := fun vs H Q _ => ∃ a, A.P (fun _ => False) H vs a ∧ ∃ r, f a = .ok r ∧ ∀ D ws H', Same H H' → H D = none → H' D = some (.lst ws) → (∀ S : ASet, (∀ x, S x → H x ≠ none) → Paired (R.P (fun x => S x ∨ x = D) H') ws r) → Q (.ref D) H'
theorem After.res {Ds : List Addr} {σ : St} {H : Hp} {o : Res Er γ} {d : δ} {K : γ → δ → Hp → Prop} (h : After F Γ Δ Ds σ H (o.at d) K) (e : En F Γ Δ Ds d σ H) (hz : F.rz = false) : ∃ c, o = .ok c ∧ ∀ H', Same H H' → K c d H' := by
  cases o with
  | bad => exact h.elim
  | ex x => exact absurd h.1 (by rw [hz]; exact fun z => nomatch z)
  | ok c => exact ⟨c, rfl, fun H' s => h H' (e.same s) (s.keepS _)⟩
theorem tj_call {A : Al α} {R : Rp β} {f : α → Res Er β} {E : XK} {t : TA} {m : δ → Res (Er × δ) (α × δ)} {c : Bool} (hz : F.rz = false) (h : TAj F Γ Δ t m A c) :
    TEj F Γ Δ (tCall (spP A R f) [] E t) (fun d => (m d).bd fun a d => (f a).at d) R true := fun Ds d σ H Q e q => by
  refine h Ds d σ H _ e ((q.bind).mono fun a d1 H1 e1 k1 q1 vs p => ?_)
  obtain ⟨r, hr, k⟩ := q1.res e1 hz
  rw [List.append_nil]
  exact ⟨a, A.shift p (fun _ z => z.elim), r, hr, fun v H' s hR => k H' s v (hR _ e1.live)⟩
theorem tn_call {A : Al α} {R : Rp β} {f : α → Res Er (List β)} {E : XK} {t : TA} {m : δ → Res (Er × δ) (α × δ)} {c : Bool} (hz : F.rz = false) (h : TAj F Γ Δ t m A c) :
    TNj F Γ Δ (tCall (spN A R f) [] E t) (fun d => (m d).bd fun a d => (f a).at d) R true := fun Ds d σ H Q e q => by
  refine h Ds d σ H _ e ((q.bind).mono fun a d1 H1 e1 k1 q1 vs p => ?_)
  obtain ⟨r, hr, k⟩ := q1.res e1 hz
  rw [List.append_nil]
  exact ⟨a, A.shift p (fun _ z => z.elim), r, hr, fun D ws H' s n hD hR => k H' s D ws (k1.free n) hD (hR _ e1.live)⟩
end
end L2

/-! what a text computes: comprehensions, statements, loops, defs -/
namespace L2
open PySem PySem.Spec PyProof.Rows RZ
section
variable {υ δ α β γ τ κ ρ : Type} {F : Fx υ} {Γ Γ' : List Cl} {Δ : Dl δ}
/-! ### what is walked -/
structure ItOk (T0 : ASet) (J : It) (R : Rp α) (xs : List α) (H0 : Hp) : Prop where
  ex : ∃ G : ASet → Hp → Prop, G T0 H0 ∧ (∀ T H H', G T H → Keep T H H' → G T H') ∧ (∀ T T' H, G T H → (∀ a, T' a → T a ∨ H a = none) → G T' H) ∧
    ∀ T, Walk J xs.length (G T) (fun i H x H' => Same H H' ∧ ∃ a, xs[i]? = some a ∧ R.P T H' x a)
def TIj (F : Fx υ) (Γ : List Cl) (Δ : Dl δ) (wi : TI) (m : δ → Res (Er × δ) (List α × δ)) (R : Rp α) (c : Bool) : Prop :=
  ∀ Ds d σ H (Q : It → Hp → Prop), En F Γ Δ Ds d σ H → After F Γ Δ Ds σ H (m d) (fun xs _ H' => ∀ J, ItOk (soft c F Ds) J R xs H' → Q J H') → wi σ H Q
theorem ti_list {t : TE} {m : δ → Res (Er × δ) (List α × δ)} {R : Rp α} {c : Bool} (h : TEj F Γ Δ t m (aLst F.K R) c) : TIj F Γ Δ (iList F.K t) m R c := fun Ds d σ H Q e q => by
  refine h Ds d σ H _ e (q.mono fun xs d1 H1 e1 k1 q1 v pv => ?_)
  obtain ⟨a, vs, rfl, ha, hp⟩ := pv
  refine ⟨a, rfl, ⟨vs, ha.sq⟩, q1 _ ⟨fun T H => LsAt F.K T H a vs ∧ Paired (R.P T H) vs xs, ⟨ha, hp⟩, fun T H H' h k => ⟨h.1.keep k, Paired.mapP h.2 fun _ _ z => R.keep z k⟩, fun T T' H h k => ⟨h.1.shift k, Paired.mapP h.2 fun _ _ z => R.shift z k⟩, fun T => ?_⟩⟩
  have hl := Paired.length hp
  refine Walk.mono (G := fun H => SqL F.K H a vs) (Y := YAt vs) (hl ▸ walk_list) (fun H h => h.1.sq) fun i H x H' _ h y => ?_
  obtain ⟨rfl, hx⟩ := y
  obtain ⟨b, h1, h2⟩ := pairGet h.2 hx
  exact ⟨Same.refl _, b, h1, h2⟩
theorem ti_tup {t : TE} {m : δ → Res (Er × δ) (List α × δ)} {R : Rp α} {c : Bool} (h : TEj F Γ Δ t m (aTup R) c) : TIj F Γ Δ (iTup F.K t) m R c := fun Ds d σ H Q e q => by
  refine h Ds d σ H _ e (q.mono fun xs d1 H1 e1 k1 q1 v pv => ?_)
  obtain ⟨a, vs, rfl, ha, hp⟩ := pv
  refine ⟨a, rfl, ⟨vs, SqT.of ha⟩, q1 _ ⟨fun T H => H a = some (.tup vs) ∧ Paired (R.P T H) vs xs, ⟨ha, hp⟩, fun T H H' h k => ⟨k.tup _ _ h.1, Paired.mapP h.2 fun _ _ z => R.keep z k⟩, fun T T' H h k => ⟨h.1, Paired.mapP h.2 fun _ _ z => R.shift z k⟩, fun T => ?_⟩⟩
  have hl := Paired.length hp
  refine Walk.mono (G := fun H => SqT F.K H a vs) (Y := YAt vs) (hl ▸ walk_tup) (fun H h => SqT.of h.1) fun i H x H' _ h y => ?_
  obtain ⟨rfl, hx⟩ := y
  obtain ⟨b, h1, h2⟩ := pairGet h.2 hx
  exact ⟨Same.refl _, b, h1, h2⟩
/-- range(n) -/
def rng (lo : Int) (n : Nat) : List Int := (List.range n).map fun i : Nat => lo + (i : Int)
theorem rng_len (lo : Int) (n : Nat) : (rng lo n).length = n := by unfold rng; rw [List.length_map, List.length_range]
theorem rng_at {lo : Int} {n i : Nat} (h : i < n) : (rng lo n)[i]? = some (lo + (i : Int)) := by unfold rng; rw [List.getElem?_map, List.getElem?_range h]; rfl
theorem itok_rng {T : ASet} {lo : Int} {n : Nat} {H : Hp} : ItOk T (Itr lo n) aI (rng lo n) H := ⟨fun _ _ => True, trivial, fun _ _ _ _ _ => trivial, fun _ _ _ _ _ => trivial, fun T => by
  rw [rng_len]
  refine Walk.mono (walk_range (lo := lo) (n := n)) (fun _ _ => trivial) fun i H x H' hi _ y => ?_
  obtain ⟨rfl, rfl⟩ := y
  exact ⟨Same.refl _, _, rng_at hi, rfl⟩⟩
noncomputable def gRng1 (a : Int) : Option (List Int) := @ite _ (-(2 ^ 62) ≤ a ∧ a < 2 ^ 62) (Classical.propDecidable _) (some (rng 0 a.toNat)) none
noncomputable def gRng2 (a b : Int) : Option (List Int) := @ite _ ((-(2 ^ 62) ≤ a ∧ a < 2 ^ 62) ∧ -(2 ^ 62) ≤ b ∧ b < 2 ^ 62) (Classical.propDecidable _) (some (rng a (b - a).toNat)) none
theorem ti_rng1 {t : TA} {m : δ → Res (Er × δ) ((Int × Unit) × δ)} {c : Bool} (h : TAj F Γ Δ t m (.cons aI .nil) c) : TIj F Γ Δ (iRng1 t) (fun d => (m d).bd fun a d => optAt (gRng1 a.1) d) aI c := fun Ds d σ H Q e q => by
  refine h Ds d σ H _ e ((q.bind).mono fun a d1 H1 e1 k1 q1 vs pv => ?_)
  obtain ⟨v, ws, rfl, rfl, rfl⟩ := pv
  obtain ⟨x, hx, k⟩ := q1.opt e1
  unfold gRng1 at hx
  split at hx
  · rename_i hc
    cases hx
    exact ⟨_, rfl, hc.1, hc.2, k H1 (Same.refl _) _ itok_rng⟩
  · cases hx
theorem ti_rng2 {t : TA} {m : δ → Res (Er × δ) ((Int × Int × Unit) × δ)} {c : Bool} (h : TAj F Γ Δ t m (.cons aI (.cons aI .nil)) c) : TIj F Γ Δ (iRng2 t) (fun d => (m d).bd fun a d => optAt (gRng2 a.1 a.2.1) d) aI c := fun Ds d σ H Q e q => by
  refine h Ds d σ H _ e ((q.bind).mono fun a d1 H1 e1 k1 q1 vs pv => ?_)
  obtain ⟨v, ws, rfl, rfl, w, us, rfl, rfl, rfl⟩ := pv
  obtain ⟨x, hx, k⟩ := q1.opt e1
  unfold gRng2 at hx
  split at hx
  · rename_i hc
    cases hx
    exact ⟨_, _, rfl, ⟨hc.1.1, hc.1.2, hc.2.1, hc.2.2⟩, k H1 (Same.refl _) _ itok_rng⟩
  · cases hx
/-- a place where items stand, read alike -/
structure Src (At : Hp → Addr → List V → Prop) (G : ASet → Hp → Addr → List V → Prop) : Prop where
  at_ : ∀ T H a vs, G T H a vs → At H a vs
  keep : ∀ T H H' a vs, G T H a vs → Keep T H H' → G T H' a vs
  shift : ∀ T T' H a vs, G T H a vs → (∀ a, T' a → T a ∨ H a = none) → G T' H a vs
theorem srcT {K : PySem.W.Frag} : Src (SqT K) (fun _ H a vs => H a = some (.tup vs)) := ⟨fun _ _ _ _ h => SqT.of h, fun _ _ _ _ _ h k => k.tup _ _ h, fun _ _ _ _ _ h _ => h⟩
theorem srcL {K : PySem.W.Frag} : Src (SqL K) (LsAt K) := ⟨fun _ _ _ _ h => h.sq, fun _ _ _ _ _ h k => h.keep k, fun _ _ _ _ _ h k => h.shift k⟩
theorem itok_zip {T0 : ASet} {A1 A2 : Hp → Addr → List V → Prop} {G1 G2 : ASet → Hp → Addr → List V → Prop} (s1 : Src A1 G1) (s2 : Src A2 G2) {J : It} {a b : Addr} {us ws : List V} {xs : List α} {ys : List β} {R : Rp α} {R2 : Rp β} {H : Hp}
    (h1 : G1 T0 H a us) (p1 : Paired (R.P T0 H) us xs) (h2 : G2 T0 H b ws) (p2 : Paired (R2.P T0 H) ws ys)
    (hgo : ∀ i H, i < min us.length ws.length → A1 H a us → A2 H b ws → J.go i H) (hstop : ∀ H, A1 H a us → A2 H b ws → J.stop (min us.length ws.length) H)
    (hy : ∀ i H v H', J.yld i H v H' → A1 H a us → A2 H b ws → ∃ T x y, v = .ref T ∧ H T = none ∧ H' = upd H T (.tup [x, y]) ∧ us[i]? = some x ∧ ws[i]? = some y) : ItOk T0 J (aT2 R R2) (xs.zip ys) H := by
  have hn : (xs.zip ys).length = min us.length ws.length := by rw [List.length_zip, ← Paired.length p1, ← Paired.length p2]
  refine ⟨fun T H => (G1 T H a us ∧ Paired (R.P T H) us xs) ∧ G2 T H b ws ∧ Paired (R2.P T H) ws ys, ⟨⟨h1, p1⟩, h2, p2⟩, fun T H H' h k => ⟨⟨s1.keep _ _ _ _ _ h.1.1 k, Paired.mapP h.1.2 fun _ _ z => R.keep z k⟩, s2.keep _ _ _ _ _ h.2.1 k, Paired.mapP h.2.2 fun _ _ z => R2.keep z k⟩, fun T T' H h k => ⟨⟨s1.shift _ _ _ _ _ h.1.1 k, Paired.mapP h.1.2 fun _ _ z => R.shift z k⟩, s2.shift _ _ _ _ _ h.2.1 k, Paired.mapP h.2.2 fun _ _ z => R2.shift z k⟩, fun T => ?_⟩
  rw [hn]
  refine ⟨fun i H hi h => hgo i H hi (s1.at_ _ _ _ _ h.1.1) (s2.at_ _ _ _ _ h.2.1), fun H h => hstop H (s1.at_ _ _ _ _ h.1.1) (s2.at_ _ _ _ _ h.2.1), fun i H x H' hi h y => ?_⟩
  obtain ⟨t0, x1, y1, rfl, nt, rfl, hx, hy⟩ := hy i H x H' y (s1.at_ _ _ _ _ h.1.1) (s2.at_ _ _ _ _ h.2.1)
  obtain ⟨a1, g1, g2⟩ := pairGet h.1.2 hx
  obtain ⟨b1, g3, g4⟩ := pairGet h.2.2 hy
  have s := Same.new0 (o := HO.tup [x1, y1]) nt
  exact ⟨s, (a1, b1), List.getElem?_zip_eq_some.mpr ⟨g1, g3⟩, t0, x1, y1, rfl, upd_same, R.keep g2 (s.keepS _), R2.keep g4 (s.keepS _)⟩
section
variable {t : TA} {R : Rp α} {R2 : Rp β} {m : δ → Res (Er × δ) ((List α × List β × Unit) × δ)} {c : Bool}
theorem ti_zipT (h : TAj F Γ Δ t m (.cons (aTup R) (.cons (aTup R2) .nil)) c) : TIj F Γ Δ (iZipA F.K t) (fun d => (m d).bd fun a d => .ok (a.1.zip a.2.1, d)) (aT2 R R2) c := fun Ds d σ H Q e q => by
  refine h Ds d σ H _ e ((q.bind).mono fun a d1 H1 e1 k1 q1 vs pv => ?_)
  obtain ⟨xs, ys, u⟩ := a
  obtain ⟨v, ws, rfl, ⟨a, us, rfl, ha, hpa⟩, w, ws', rfl, ⟨b, us2, rfl, hb, hpb⟩, rfl⟩ := pv
  exact ⟨a, b, us, us2, rfl, .inr ⟨SqT.of ha, SqT.of hb, After.ok q1 e1 _ (itok_zip (srcT (K := F.K)) (srcT (K := F.K)) ha hpa hb hpb (fun i H hi h1 h2 => ⟨us, us2, us[i]'(by omega), us2[i]'(by omega), h1, h2, by simp, by simp⟩)
    (fun H h1 h2 => ⟨us, us2, h1, h2, by omega⟩) fun i H v H' y h1 h2 => let ⟨T, x, z, q1, q2, q3, q4, q5⟩ := y; ⟨T, x, z, q1, q2, q3, q4 us h1, q5 us2 h2⟩)⟩⟩
theorem ti_zipL (h : TAj F Γ Δ t m (.cons (aLst F.K R) (.cons (aLst F.K R2) .nil)) c) : TIj F Γ Δ (iZipA F.K t) (fun d => (m d).bd fun a d => .ok (a.1.zip a.2.1, d)) (aT2 R R2) c := fun Ds d σ H Q e q => by
  refine h Ds d σ H _ e ((q.bind).mono fun a d1 H1 e1 k1 q1 vs pv => ?_)
  obtain ⟨xs, ys, u⟩ := a
  obtain ⟨v, ws, rfl, ⟨a, us, rfl, ha, hpa⟩, w, ws', rfl, ⟨b, us2, rfl, hb, hpb⟩, rfl⟩ := pv
  exact ⟨a, b, us, us2, rfl, .inl ⟨ha.sq, hb.sq, After.ok q1 e1 _ (itok_zip (srcL (K := F.K)) (srcL (K := F.K)) ha hpa hb hpb (fun i H hi h1 h2 => ⟨us, us2, us[i]'(by omega), us2[i]'(by omega), h1, h2, by simp, by simp⟩)
    (fun H h1 h2 => ⟨us, us2, h1, h2, by omega⟩) fun i H v H' y h1 h2 => let ⟨T, x, z, q1, q2, q3, q4, q5⟩ := y; ⟨T, x, z, q1, q2, q3, q4 us h1, q5 us2 h2⟩)⟩⟩
end

def gZip {α β : Type} (xs : List α) (ys : List β) : Option (List (α × β)) := if xs.length = ys.length then some (xs.zip ys) else none
theorem ti_zipM {t : TA} {R : Rp α} {R2 : Rp β} {m : δ → Res (Er × δ) ((List α × List β × Unit) × δ)} {c : Bool} (h : TAj F Γ Δ t m (.cons (aLst F.K R) (.cons (aTup R2) .nil)) c) : TIj F Γ Δ (iZipM F.K t) (fun d => (m d).bd fun a d => optAt (gZip a.1 a.2.1) d) (aT2 R R2) c := fun Ds d σ H Q e q => by
  refine h Ds d σ H _ e ((q.bind).mono fun a d1 H1 e1 k1 q1 vs pv => ?_)
  obtain ⟨xs, ys, u⟩ := a
  obtain ⟨v, ws, rfl, ⟨a, us, rfl, ha, hpa⟩, w, ws', rfl, ⟨b, us2, rfl, hb, hpb⟩, rfl⟩ := pv
  obtain ⟨x, hx, k⟩ := q1.opt e1
  unfold gZip at hx
  split at hx
  · rename_i hc
    cases hx
    have hl : us.length = us2.length := by rw [Paired.length hpa, Paired.length hpb, hc]
    exact ⟨a, b, us, us2, rfl, ha.sq, SqT.of hb, k H1 (Same.refl _) _ (itok_zip (srcL (K := F.K)) (srcT (K := F.K)) ha hpa hb hpb (fun i H hi h1 h2 => ⟨us, us2, us[i]'(by omega), us2[i]'(by omega), h1, h2, by simp, by simp⟩)
      (fun H h1 h2 => ⟨us, us2, h1, h2, by omega, by omega⟩) fun i H v H' y h1 h2 => let ⟨T, x, z, q1, q2, q3, q4, q5⟩ := y; ⟨T, x, z, q1, q2, q3, q4 us h1, q5 us2 h2⟩)⟩
  · cases hx
/-! ### targets -/
def clc : Bool → Pd → Cl
  | true, P => .fz P
  | false, P => .bo P
theorem clc_ok {c : Bool} {R : Rp α} {x : α} {Ds : List Addr} {H : Hp} {v : V} (h : R.P (soft c F Ds) H v x) : ClOk F Ds H (clc c (R.at x)) (some v) := by
  cases c with
  | true => exact ⟨v, rfl, h⟩
  | false => exact ⟨v, rfl, h⟩
theorem wipe_set {σ : St} {i : Nat} {v : Option V} : ∀ {vs : List Nat}, i ∈ vs → wipe (σ.set i v) vs = wipe σ vs
  | w :: vs, h => by
    unfold wipe
    by_cases e : i ∈ vs
    · rw [wipe_set e]
    · have e2 : i = w := (List.mem_cons.mp h).resolve_right e
      subst e2
      have k : ∀ ws : List Nat, i ∉ ws → wipe (σ.set i v) ws = (wipe σ ws).set i v := by
        intro ws
        induction ws with
        | nil => exact fun _ => rfl
        | cons x ws ih =>
          intro hn
          rw [List.mem_cons, not_or] at hn
          unfold wipe
          rw [ih hn.2, List.set_comm _ _ (fun z => hn.1 z)]
      rw [k vs e, List.set_set]
theorem wipe_wipe (σ : St) (vs : List Nat) : wipe (wipe σ vs) vs = wipe σ vs := by
  have k : ∀ ws : List Nat, (∀ i ∈ ws, i ∈ vs) → wipe (wipe σ ws) vs = wipe σ vs := by
    intro ws
    induction ws with
    | nil => exact fun _ => rfl
    | cons x ws ih =>
      intro h
      show wipe ((wipe σ ws).set x none) vs = _
      rw [wipe_set (h x List.mem_cons_self), ih fun i hi => h i (List.mem_cons_of_mem _ hi)]
  exact k vs fun _ h => h
/-- a target takes a value -/
def TGj (F : Fx υ) (c : Bool) (Γ : List Cl) (Δ : Dl δ) (g : TG) (R : Rp α) (Γ' : α → List Cl) (is : List Nat) : Prop :=
  ∀ Ds d σ H v a (Q : St → Hp → Prop), En F Γ Δ Ds d σ H → R.P (soft c F Ds) H v a → (∀ σ', En F (Γ' a) Δ Ds d σ' H → (∀ vs : List Nat, (∀ i ∈ is, i ∈ vs) → wipe σ' vs = wipe σ vs) → Q σ' H) → g v σ H Q
theorem tg_name {i : Nat} {R : Rp α} {c : Bool} : TGj F c Γ Δ (gName i) R (fun a => Γ.set i (clc c (R.at a))) [i] := fun Ds d σ H v a Q e p k =>
  k _ (e.set (clc_ok p)) fun vs h => wipe_set (h i (by simp))
theorem tg_t2 {R1 : Rp α} {R2 : Rp β} {c : Bool} {g1 g2 : TG} {Γ1 : α → List Cl} {Γ2 : α → β → List Cl} {is1 is2 : List Nat} (h1 : TGj F c Γ Δ g1 R1 Γ1 is1) (h2 : ∀ a, TGj F c (Γ1 a) Δ g2 R2 (Γ2 a) is2) :
    TGj F c Γ Δ (gTup F.K 2 (gCons g1 (gCons g2 gNil))) (aT2 R1 R2) (fun p => Γ2 p.1 p.2) (is1 ++ is2) := fun Ds d σ H v a Q e p k => by
  obtain ⟨b, v1, v2, rfl, hb, p1, p2⟩ := p
  refine ⟨b, _, rfl, SqT.of hb, rfl, v1, _, rfl, h1 Ds d σ H v1 a.1 _ e p1 fun σ1 e1 w1 => ⟨v2, _, rfl, h2 a.1 Ds d σ1 H v2 a.2 _ e1 p2 fun σ2 e2 w2 => ⟨rfl, k σ2 e2 fun vs h => ?_⟩⟩⟩
  rw [w2 vs fun i hi => h i (List.mem_append_right _ hi), w1 vs fun i hi => h i (List.mem_append_left _ hi)]
theorem tg_t3 {R1 : Rp α} {R2 : Rp β} {R3 : Rp γ} {c : Bool} {g1 g2 g3 : TG} {Γ1 : α → List Cl} {Γ2 : α → β → List Cl} {Γ3 : α → β → γ → List Cl} {is1 is2 is3 : List Nat} (h1 : TGj F c Γ Δ g1 R1 Γ1 is1) (h2 : ∀ a, TGj F c (Γ1 a) Δ g2 R2 (Γ2 a) is2) (h3 : ∀ a b, TGj F c (Γ2 a b) Δ g3 R3 (Γ3 a b) is3) :
    TGj F c Γ Δ (gTup F.K 3 (gCons g1 (gCons g2 (gCons g3 gNil)))) (aT3 R1 R2 R3) (fun p => Γ3 p.1 p.2.1 p.2.2) (is1 ++ is2 ++ is3) := fun Ds d σ H v a Q e p k => by
  obtain ⟨b, v1, v2, v3, rfl, hb, p1, p2, p3⟩ := p
  refine ⟨b, _, rfl, SqT.of hb, rfl, v1, _, rfl, h1 Ds d σ H v1 a.1 _ e p1 fun σ1 e1 w1 => ⟨v2, _, rfl, h2 a.1 Ds d σ1 H v2 a.2.1 _ e1 p2 fun σ2 e2 w2 => ⟨v3, _, rfl, h3 a.1 a.2.1 Ds d σ2 H v3 a.2.2 _ e2 p3 fun σ3 e3 w3 => ⟨rfl, k σ3 e3 fun vs h => ?_⟩⟩⟩⟩
  rw [w3 vs fun i hi => h i (List.mem_append_right _ hi), w2 vs fun i hi => h i (List.mem_append_left _ (List.mem_append_right _ hi)), w1 vs fun i hi => h i (List.mem_append_left _ (List.mem_append_left _ hi))]
/-! ### comprehensions -/
abbrev Fx.addX (F : Fx υ) (D : Addr) : Fx υ := { F with X := fun a => F.X a ∨ a = D }
theorem soft_addX {c : Bool} {Ds : List Addr} {D a : Addr} : soft c (F.addX D) Ds a ↔ soft c F Ds a ∨ a = D := by
  unfold soft
  constructor
  · rintro (h | (h | h) | h)
    · exact .inl (.inl h)
    · exact .inl (.inr (.inl h))
    · exact .inr h
    · exact .inl (.inr (.inr h))
  · rintro ((h | h | h) | h)
    · exact .inl h
    · exact .inr (.inl (.inl h))
    · exact .inr (.inr h)
    · exact .inr (.inl (.inr h))
theorem ClOk.sub {Ds Ds' : List Addr} {F' : Fx υ} {H : Hp} {c : Cl} {s : Option V} (h : ClOk F Ds H c s) (k : ∀ b a, soft b F' Ds' a → soft b F Ds a ∨ H a = none) (hD : ∀ (j : Nat) (D : Addr), Ds[j]? = some D → Ds'[j]? = some D) : ClOk F' Ds' H c s := by
  cases c with
  | no => trivial
  | fz R => obtain ⟨v, e, p⟩ := h; exact ⟨v, e, R.shift p (k true)⟩
  | bo R => obtain ⟨v, e, p⟩ := h; exact ⟨v, e, R.shift p (k false)⟩
  | ow j => obtain ⟨D, h1, h2⟩ := h; exact ⟨D, hD j D h1, h2⟩
  | l2 j1 j2 => obtain ⟨W, D, E, e, n, g, g1, g2⟩ := h; exact ⟨W, D, E, e, fun z => (k true W z).elim n (fun q => by rw [g] at q; cases q), g, hD j1 D g1, hD j2 E g2⟩
theorem En.toX {Ds : List Addr} {d : δ} {σ : St} {H : Hp} {D : Addr} {o : HO} (e : En F Γ Δ Ds d σ H) (n : H D = none) : En (F.addX D) Γ Δ Ds d σ (upd H D o) := by
  have s := Same.new0 (o := o) n
  have k : ∀ b a, soft b (F.addX D) Ds a → soft b F Ds a ∨ H a = none := fun b a h => (soft_addX.mp h).imp id fun (z : a = D) => by rw [z]; exact n
  refine ⟨e.k0.new n, e.pre, e.nd, fun a h => ?_, Owns.keep (s.keepS _) (Owns.shift (k true) e.own) fun E hE => ?_, Paired.mapP e.sl fun c z h => (h.sub k fun _ _ h => h).keep (s.keepS _), fun a ha h => h.elim (e.xd a ha) fun z => e.live a (.inr (.inr ha)) (z ▸ n), e.ul, e.sd⟩
  · rcases soft_addX.mp h with h | rfl
    · exact (s.keepS (fun _ => False)).live a (e.live a h)
    · rw [upd_same]; exact fun z => nomatch z
  · exact upd_ne fun z => e.live E (.inr (.inr hE)) (z ▸ n)
theorem En.ofX {Ds : List Addr} {d : δ} {σ : St} {H : Hp} {D : Addr} (e : En (F.addX D) Γ Δ Ds d σ H) : En F Γ Δ Ds d σ H :=
  have k : ∀ b a, soft b F Ds a → soft b (F.addX D) Ds a ∨ H a = none := fun b a h => .inl (soft_addX.mpr (.inl h))
  ⟨e.k0, e.pre, e.nd, fun a h => e.live a (soft_addX.mpr (.inl h)), Owns.shift (k true) e.own, Paired.mapP e.sl fun c z h => h.sub k fun _ _ h => h, fun a ha h => e.xd a ha (.inl h), e.ul, e.sd⟩
theorem En.putX {Ds : List Addr} {d : δ} {σ : St} {H : Hp} {D : Addr} {o : HO} (e : En F Γ Δ Ds d σ H) (hX : F.X D) (n0 : F.H0 D = none) (nt : ∀ xs, H D ≠ some (.tup xs)) (hD : D ∉ Ds) : En F Γ Δ Ds d σ (upd H D o) := by
  have k : ∀ b, Keep (soft b F Ds) H (upd H D o) := fun b => (Keep.refl _ _).updS (.inr (.inl hX)) nt
  refine ⟨e.k0.put n0, e.pre, e.nd, fun a h => (k true).live a (e.live a h), Owns.keep (k true) e.own fun E hE => upd_ne fun z => hD (z ▸ hE), Paired.mapP e.sl fun c z h => ?_, e.xd, e.ul, e.sd⟩
  cases c with
  | no => trivial
  | fz R => obtain ⟨v, e, p⟩ := h; exact ⟨v, e, R.keep p (k true)⟩
  | bo R => obtain ⟨v, e, p⟩ := h; exact ⟨v, e, R.keep p (k false)⟩
  | ow j => exact h
  | l2 j1 j2 => obtain ⟨W, D, E, e, n, g, g1, g2⟩ := h; exact ⟨W, D, E, e, n, (k true).same _ _ n g, g1, g2⟩
def lcB (f : α → δ → Res (Er × δ) (Option β × δ)) : List α → δ → Res (Er × δ) (List β × δ)
  | [], d => .ok ([], d)
  | a :: r, d => (f a d).bd fun o d => (lcB f r d).bd fun ys d => .ok (o.toList ++ ys, d)
def Res.noex {ε α : Type} (r : Res ε α) : Res ε α := match r with
  | .ok a => .ok a
  | _ => .bad
@[simp] theorem Res.noex_ok {ε α : Type} (a : α) : (Res.ok a : Res ε α).noex = .ok a := rfl
@[simp] theorem Res.noex_bad {ε α : Type} : (Res.bad : Res ε α).noex = .bad := rfl
noncomputable def lcA (f : α → δ → Res (Er × δ) (Option β × δ)) (xs : List α) (d : δ) : Res (Er × δ) (List β × δ) := @ite _ (xs.length ≤ sizeLine) (Classical.propDecidable _) (lcB f xs d) .bad
/-- one turn, within -/
def fT (mt : α → δ → Res (Er × δ) (Bool × δ)) (me : α → δ → Res (Er × δ) (β × δ)) (a : α) (d : δ) : Res (Er × δ) (Option β × δ) := (mt a d).bd fun b d => if b = true then (me a d).bd fun y d => .ok (some y, d) else .ok (none, d)
theorem tn_lc {wi : TI} {g : TG} {tt : TT} {te : TE} {vs : List Nat} {mi : δ → Res (Er × δ) (List α × δ)} {R : Rp α} {Re : Rp β} {c c2 : Bool} {Γw : List Cl} {Γb : α → List Cl} {is : List Nat} {mt : α → δ → Res (Er × δ) (Bool × δ)} {me : α → δ → Res (Er × δ) (β × δ)}
    (hz : F.rz = false) (hcc : c = c2 ∨ R.Dat) (hw : Γw = vs.foldr (fun i g => g.set i .no) Γ) (hi : TIj F Γ Δ wi mi R c) (hg : ∀ X, TGj { F with X := X } c2 Γw Δ g R Γb is) (hv : ∀ i ∈ is, i ∈ vs)
    (ht : ∀ X a, TTj { F with X := X } (Γb a) Δ tt (mt a)) (he : ∀ X a, TEj { F with X := X } (Γb a) Δ te (me a) Re c2) :
    TNj F Γ Δ (tLc wi g tt te vs) (fun d => (mi d).bd fun xs d => lcA (fT mt me) xs d) Re c2 := fun Ds d σ H Q e q => by
  subst hw
  refine hi Ds d σ H _ e ((q.bind).mono fun xs d1 H1 e1 k1 q1 J ok => ?_)
  intro D nD
  obtain ⟨G, g0, gk, gs, gw⟩ := ok.ex
  have q2 : xs.length ≤ sizeLine ∧ After F Γ Δ Ds σ H1 (lcB (fT mt me) xs d1) (fun a _ H' => ∀ D vs, H D = none → H' D = some (.lst vs) → Paired (Re.P (fun b => soft c2 F Ds b ∨ b = D) H') vs a → Q (.ref D) H') := by
    unfold lcA at q1
    dsimp only at q1
    by_cases hl : xs.length ≤ sizeLine
    · rw [if_pos hl] at q1; exact ⟨hl, q1⟩
    · rw [if_neg hl] at q1; exact q1.elim
  obtain ⟨hlen, q2⟩ := q2
  have hDs : D ∉ Ds := fun z => e1.live D (.inr (.inr z)) nD
  have h0D : F.H0 D = none := e1.k0.free nD
  have nDH : H D = none := k1.free nD
  -- the sets
  have sD : ∀ a, soft c (F.addX D) Ds a → soft c F Ds a ∨ H1 a = none := fun a h => (soft_addX.mp h).imp id fun (z : a = D) => by rw [z]; exact nD
  refine lc_it (gw (soft c (F.addX D) Ds)) (fun i G' => ∃ d' ys ws, En (F.addX D) Γ Δ Ds d' σ G' ∧ Keep (· ∈ Ds) H1 G' ∧ G' D = some (.lst ws) ∧ Paired (Re.P (soft c2 (F.addX D) Ds) G') ws ys ∧ ys.length ≤ i ∧ G (soft c (F.addX D) Ds) G' ∧
      After F Γ Δ Ds σ H1 (lcB (fT mt me) xs d1) (fun a _ H' => ∀ D vs, H D = none → H' D = some (.lst vs) → Paired (Re.P (fun b => soft c2 F Ds b ∨ b = D) H') vs a → Q (.ref D) H') ∧
      lcB (fT mt me) xs d1 = (lcB (fT mt me) (xs.drop i) d').bind fun q => .ok (ys ++ q.1, q.2))
    ⟨d1, [], [], e1.toX nD, (Keep.refl _ _).new nD, upd_same, .nil, Nat.le_refl _, gk _ _ _ (gs _ _ _ g0 sD) ((Same.new0 nD).keepS _), q2, ?_⟩ (fun i G' hi h => ?_) ?_ ?_
  · rw [List.drop_zero]
    cases lcB (fT mt me) xs d1 <;> rfl
  · obtain ⟨d', ys, ws, h1, h2, h3, h4, h5, h6, h7⟩ := h
    exact h6
  · rintro i x G1 G2 hi ⟨d', ys, ws, eX, kX, hD, hp, hy, hG, _, hq⟩ ⟨s12, a, ha, pa⟩
    have eX2 := eX.same s12
    have hdrop : xs.drop i = a :: xs.drop (i + 1) := by
      have hl := (List.getElem?_eq_some_iff.mp ha)
      rw [← hl.2, List.drop_eq_getElem_cons hl.1]
    rw [hdrop] at hq
    -- the turn does not go wrong
    have hgo : ∃ p, fT mt me a d' = .ok p := by
      cases z : fT mt me a d' with
      | ok p => exact ⟨p, rfl⟩
      | ex x =>
        rw [show lcB (fT mt me) (a :: xs.drop (i + 1)) d' = (fT mt me a d').bind _ from rfl, z] at hq
        rw [hq] at q2
        exact absurd q2.1 (by rw [hz]; exact fun z => nomatch z)
      | bad =>
        rw [show lcB (fT mt me) (a :: xs.drop (i + 1)) d' = (fT mt me a d').bind _ from rfl, z] at hq
        rw [hq] at q2
        exact q2.elim
    obtain ⟨p, hp'⟩ := hgo
    rw [show lcB (fT mt me) (a :: xs.drop (i + 1)) d' = (fT mt me a d').bind _ from rfl, hp'] at hq
    refine hg _ Ds d' (wipe σ vs) G2 x a _ (eX2.wipe vs) (show R.P (soft c2 (F.addX D) Ds) G2 x a from hcc.elim (fun z => z ▸ pa) fun z => z _ _ _ _ _ pa) fun σ2 e2 w2 => ⟨by rw [w2 vs hv, wipe_wipe], ?_⟩
    unfold fT at hp'
    refine ht _ a Ds d' σ2 G2 _ e2 ?_
    have zz : ({ F with X := fun a => F.X a ∨ a = D } : Fx υ).rz = false := hz
    cases z : mt a d' with
    | bad => rw [z] at hp'; cases hp'
    | ex x => rw [z] at hp'; cases hp'
    | ok b =>
      rw [z] at hp'
      intro G3 e3 k3
      cases hb : b.1 with
      | false =>
        rw [show (Res.ok b : Res (Er × δ) (Bool × δ)).bd _ = (if b.1 = true then _ else _) from rfl, hb, if_neg (by decide)] at hp'
        cases hp'
        rw [if_neg (by decide)]
        have k13 : Keep (· ∈ Ds) G1 G3 := (s12.keepS _).trans k3
        refine ⟨b.2, ys, ws, eX2.step k3 e3.own, kX.trans k13, k13.same _ _ hDs hD, Paired.mapP hp fun _ _ z => Re.keep z (k13.soft _), Nat.le_succ_of_le hy, gk _ _ _ hG (k13.soft _), q2, ?_⟩
        rw [hq]
        simp only [Res.ok_bind]
        cases lcB (fT mt me) (xs.drop (i + 1)) b.2 <;> simp [Res.bd]
      | true =>
        rw [show (Res.ok b : Res (Er × δ) (Bool × δ)).bd _ = (if b.1 = true then _ else _) from rfl, hb, if_pos rfl] at hp'
        rw [if_pos rfl]
        refine he _ a Ds b.2 σ2 G3 _ e3 ?_
        cases z4 : me a b.2 with
        | bad => rw [z4] at hp'; cases hp'
        | ex x => rw [z4] at hp'; cases hp'
        | ok y =>
          rw [z4] at hp'
          cases hp'
          intro G4 e4 k4 v hv4
          have k14 : Keep (· ∈ Ds) G1 G4 := ((s12.keepS _).trans k3).trans k4
          have hD4 := k14.same _ _ hDs hD
          have hp4 := Paired.mapP hp fun _ _ z => Re.keep z (k14.soft _)
          have nt : ∀ xs, G4 D ≠ some (.tup xs) := fun xs z => by rw [hD4] at z; cases z
          have kD : ∀ c, Keep (soft c (F.addX D) Ds) G4 (upd G4 D (.lst (ws ++ [v]))) := fun c => (Keep.refl _ _).updS (soft_addX.mpr (.inr rfl)) nt
          refine ⟨ws, hD4, ?_, y.2, ys ++ [y.1], ws ++ [v], ((eX2.step (k3.trans k4) e4.own)).putX (.inr rfl) h0D nt hDs, (kX.trans k14).put nD, upd_same, Paired.mapP (Paired.snoc hp4 hv4) fun _ _ z => Re.keep z (kD _), by rw [List.length_append]; exact Nat.succ_le_succ hy, gk _ _ _ (gk _ _ _ hG (k14.soft _)) (kD _), q2, ?_⟩
          · rw [Paired.length hp]
            omega
          · rw [hq]
            simp only [Res.ok_bind]
            cases lcB (fT mt me) (xs.drop (i + 1)) y.2 <;> simp [Res.bd]
  · rintro G' ⟨d', ys, ws, eX, kX, hD, hp, hy, hG, _, hq⟩
    rw [List.drop_length] at hq
    have hq' : lcB (fT mt me) xs d1 = .ok (ys, d') := by rw [hq]; simp [lcB]
    rw [hq'] at q2
    refine q2 G' eX.ofX kX D ws nDH hD (Paired.mapP hp fun _ _ z => Re.shift z fun b hb => .inl (soft_addX.mpr hb))
end
end L2

/-! what a text computes: tests, statements, loops, defs -/
namespace L2
open PySem PySem.Spec PyProof.Rows RZ
section
variable {υ δ δ' α β γ τ κ ρ : Type} {F : Fx υ} {Γ Γ' : List Cl} {Δ : Dl δ}
/-! ### tests -/
theorem tt_test {t : TE} {m : δ → Res (Er × δ) (Bool × δ)} {c : Bool} (h : TEj F Γ Δ t m aB c) : TTj F Γ Δ (tTest t) m := fun Ds d σ H Q e q => h Ds d σ H _ e (q.mono fun a d' H' _ _ k v p => ⟨a, p, k⟩)
theorem tt_B {t : TE} {m : δ → Res (Er × δ) (Bool × δ)} {c : Bool} (h : TEj F Γ Δ t m aB c) : TTj F Γ Δ (tB t) m := fun Ds d σ H Q e q => h Ds d σ H _ e (q.mono fun a d' H' _ _ k v p => ⟨a, p, k⟩)
theorem tt_not {t : TT} {m : δ → Res (Er × δ) (Bool × δ)} (h : TTj F Γ Δ t m) : TTj F Γ Δ (tNot t) (fun d => (m d).bd fun b d => .ok (!b, d)) := fun Ds d σ H Q e q => h Ds d σ H _ e ((q.bind).mono fun a d' H' e' _ k => After.ok k e')
theorem tt_and {t u : TT} {m n : δ → Res (Er × δ) (Bool × δ)} (h : TTj F Γ Δ t m) (h2 : TTj F Γ Δ u n) : TTj F Γ Δ (tAnd t u) (fun d => (m d).bd fun b d => if b = true then n d else .ok (false, d)) := fun Ds d σ H Q e q => h Ds d σ H _ e ((q.bind).mono fun a d' H' e' _ k => by
  dsimp only at k
  cases a with
  | true => exact h2 Ds d' σ H' Q e' k
  | false => exact After.ok k e')
theorem tt_or {t u : TT} {m n : δ → Res (Er × δ) (Bool × δ)} (h : TTj F Γ Δ t m) (h2 : TTj F Γ Δ u n) : TTj F Γ Δ (tOr t u) (fun d => (m d).bd fun b d => if b = true then .ok (true, d) else n d) := fun Ds d σ H Q e q => h Ds d σ H _ e ((q.bind).mono fun a d' H' e' _ k => by
  dsimp only at k
  cases a with
  | true => exact After.ok k e'
  | false => exact h2 Ds d' σ H' Q e' k)
theorem tt_yes : TTj F Γ Δ tYes (fun d => .ok (true, d)) := fun Ds d σ H Q e q => q.ok e
theorem tj_not {t : TE} {m : δ → Res (Er × δ) (Bool × δ)} {c : Bool} (h : TEj F Γ Δ t m aB c) : TEj F Γ Δ (tNotV t) (fun d => (m d).bd fun b d => .ok (!b, d)) aB c := fun Ds d σ H Q e q => h Ds d σ H _ e ((q.bind).mono fun a d' H' e' _ k v p => ⟨a, p, After.ok k e' _ rfl⟩)
theorem tj_and {t u : TE} {m n : δ → Res (Er × δ) (Bool × δ)} {c : Bool} (h : TEj F Γ Δ t m aB c) (h2 : TEj F Γ Δ u n aB c) : TEj F Γ Δ (tAndV t u) (fun d => (m d).bd fun b d => if b = true then n d else .ok (false, d)) aB c := fun Ds d σ H Q e q => h Ds d σ H _ e ((q.bind).mono fun a d' H' e' _ k v p => ⟨a, p, by
  dsimp only at k
  cases a with
  | true => exact h2 Ds d' σ H' Q e' k
  | false => exact After.ok k e' _ rfl⟩)
theorem tj_or {t u : TE} {m n : δ → Res (Er × δ) (Bool × δ)} {c : Bool} (h : TEj F Γ Δ t m aB c) (h2 : TEj F Γ Δ u n aB c) : TEj F Γ Δ (tOrV t u) (fun d => (m d).bd fun b d => if b = true then .ok (true, d) else n d) aB c := fun Ds d σ H Q e q => h Ds d σ H _ e ((q.bind).mono fun a d' H' e' _ k v p => ⟨a, p, by
  dsimp only at k
  cases a with
  | true => exact After.ok k e' _ rfl
  | false => exact h2 Ds d' σ H' Q e' k⟩)
theorem tj_if {t : TT} {ta tb : TE} {m : δ → Res (Er × δ) (Bool × δ)} {ma mb : δ → Res (Er × δ) (α × δ)} {R : Rp α} {c : Bool} (h : TTj F Γ Δ t m) (ha : TEj F Γ Δ ta ma R c) (hb : TEj F Γ Δ tb mb R c) : TEj F Γ Δ (tIf t ta tb) (fun d => (m d).bd fun b d => if b = true then ma d else mb d) R c := fun Ds d σ H Q e q => h Ds d σ H _ e ((q.bind).mono fun a d' H' e' _ k => by
  dsimp only at k ⊢
  cases a with
  | true => exact ha Ds d' σ H' Q e' k
  | false => exact hb Ds d' σ H' Q e' k)
/-! ### statements -/
inductive Bk (ε β κ ρ : Type) | nx (b : β) | rt (r : ρ) | bk (k : κ) | ct (k : κ) | ex (e : ε) | bad
def Res.bk {υ δ α β κ ρ : Type} (r : Res (Er × δ) α) (ext : δ → υ) (k : α → Bk (Er × υ) β κ ρ) : Bk (Er × υ) β κ ρ := match r with
  | .ok a => k a
  | .ex (e, d) => .ex (e, ext d)
  | .bad => .bad
def Res.bs {υ δ α β κ ρ : Type} (r : Res (Er × δ) (α × δ)) (ext : δ → υ) (k : α → δ → Bk (Er × υ) β κ ρ) : Bk (Er × υ) β κ ρ := r.bk ext fun p => k p.1 p.2
@[simp] theorem Res.ok_bs {υ δ α β κ ρ : Type} (a : α) (d : δ) (ext : δ → υ) (k : α → δ → Bk (Er × υ) β κ ρ) : (Res.ok (a, d) : Res (Er × δ) (α × δ)).bs ext k = k a d := rfl
@[simp] theorem Res.bad_bs {υ δ α β κ ρ : Type} (ext : δ → υ) (k : α → δ → Bk (Er × υ) β κ ρ) : (Res.bad : Res (Er × δ) (α × δ)).bs ext k = .bad := rfl
@[simp] theorem Res.ex_bs {υ δ α β κ ρ : Type} (e : Er × δ) (ext : δ → υ) (k : α → δ → Bk (Er × υ) β κ ρ) : (Res.ex e : Res (Er × δ) (α × δ)).bs ext k = .ex (e.1, ext e.2) := rfl
theorem Res.bd_bs {υ δ α γ β κ ρ : Type} (r : Res (Er × δ) (γ × δ)) (f : γ → δ → Res (Er × δ) (α × δ)) (ext : δ → υ) (k : α → δ → Bk (Er × υ) β κ ρ) : (r.bd f).bs ext k = r.bs ext fun a d => (f a d).bs ext k := by cases r <;> rfl
@[simp] theorem Res.ok_bk {υ δ α β κ ρ : Type} (a : α) (ext : δ → υ) (k : α → Bk (Er × υ) β κ ρ) : (Res.ok a : Res (Er × δ) α).bk ext k = k a := rfl
@[simp] theorem Res.bad_bk {υ δ α β κ ρ : Type} (ext : δ → υ) (k : α → Bk (Er × υ) β κ ρ) : (Res.bad : Res (Er × δ) α).bk ext k = .bad := rfl
@[simp] theorem Res.ex_bk {υ δ α β κ ρ : Type} (e : Er × δ) (ext : δ → υ) (k : α → Bk (Er × υ) β κ ρ) : (Res.ex e : Res (Er × δ) α).bk ext k = .ex (e.1, ext e.2) := rfl
theorem Res.bind_bk {υ δ α γ β κ ρ : Type} (r : Res (Er × δ) γ) (f : γ → Res (Er × δ) α) (ext : δ → υ) (k : α → Bk (Er × υ) β κ ρ) : (r.bind f).bk ext k = r.bk ext fun a => (f a).bk ext k := by cases r <;> rfl
def Bk.seq {ε β β' κ ρ : Type} (b : Bk ε β κ ρ) (k : β → Bk ε β' κ ρ) : Bk ε β' κ ρ := match b with
  | .nx b => k b
  | .rt r => .rt r
  | .bk x => .bk x
  | .ct x => .ct x
  | .ex e => .ex e
  | .bad => .bad
def Bk.sq {ε τ δ β' κ ρ : Type} (b : Bk ε (τ × δ) κ ρ) (k : τ → δ → Bk ε β' κ ρ) : Bk ε β' κ ρ := b.seq fun p => k p.1 p.2
@[simp] theorem Bk.nx_sq {ε τ δ β' κ ρ : Type} (x : τ) (d : δ) (k : τ → δ → Bk ε β' κ ρ) : (Bk.nx (x, d) : Bk ε (τ × δ) κ ρ).sq k = k x d := rfl
@[simp] theorem Bk.rt_sq {ε τ δ β' κ ρ : Type} (r : ρ) (k : τ → δ → Bk ε β' κ ρ) : (Bk.rt r : Bk ε (τ × δ) κ ρ).sq k = .rt r := rfl
@[simp] theorem Bk.bad_sq {ε τ δ β' κ ρ : Type} (k : τ → δ → Bk ε β' κ ρ) : (Bk.bad : Bk ε (τ × δ) κ ρ).sq k = .bad := rfl
@[simp] theorem Bk.bk_sq {ε τ δ β' κ ρ : Type} (r : κ) (k : τ → δ → Bk ε β' κ ρ) : (Bk.bk r : Bk ε (τ × δ) κ ρ).sq k = .bk r := rfl
@[simp] theorem Bk.ct_sq {ε τ δ β' κ ρ : Type} (r : κ) (k : τ → δ → Bk ε β' κ ρ) : (Bk.ct r : Bk ε (τ × δ) κ ρ).sq k = .ct r := rfl
@[simp] theorem Bk.ex_sq {ε τ δ β' κ ρ : Type} (r : ε) (k : τ → δ → Bk ε β' κ ρ) : (Bk.ex r : Bk ε (τ × δ) κ ρ).sq k = .ex r := rfl
@[simp] theorem Bk.nx_seq {ε β β' κ ρ : Type} (b : β) (k : β → Bk ε β' κ ρ) : (Bk.nx b : Bk ε β κ ρ).seq k = k b := rfl
@[simp] theorem Bk.rt_seq {ε β β' κ ρ : Type} (r : ρ) (k : β → Bk ε β' κ ρ) : (Bk.rt r : Bk ε β κ ρ).seq k = .rt r := rfl
@[simp] theorem Bk.bad_seq {ε β β' κ ρ : Type} (k : β → Bk ε β' κ ρ) : (Bk.bad : Bk ε β κ ρ).seq k = .bad := rfl
@[simp] theorem Bk.bk_seq {ε β β' κ ρ : Type} (r : κ) (k : β → Bk ε β' κ ρ) : (Bk.bk r : Bk ε β κ ρ).seq k = .bk r := rfl
@[simp] theorem Bk.ct_seq {ε β β' κ ρ : Type} (r : κ) (k : β → Bk ε β' κ ρ) : (Bk.ct r : Bk ε β κ ρ).seq k = .ct r := rfl
@[simp] theorem Bk.ex_seq {ε β β' κ ρ : Type} (r : ε) (k : β → Bk ε β' κ ρ) : (Bk.ex r : Bk ε β κ ρ).seq k = .ex r := rfl
/-- kinds of answers of a def -/
structure Rk (ρ : Type) where
  N : ASet → Hp → Hp → V → ρ → Prop
def rkV (R : Rp ρ) : Rk ρ := ⟨fun S _ H' v r => R.P S H' v r⟩
def rkN (R : Rp ρ) : Rk (List ρ) := ⟨fun S H H' v r => ∃ D ws, v = .ref D ∧ H D = none ∧ H' D = some (.lst ws) ∧ Paired (R.P (fun x => S x ∨ x = D) H') ws r⟩
def RetOk (F : Fx υ) (R : Rk ρ) (r : ρ) (u : υ) (v : V) (H' : Hp) : Prop := Keep (· ∈ F.U) F.H0 H' ∧ Owns F.Uo (fun a => F.S a ∨ a ∈ F.U) H' F.U u ∧ R.N F.S F.H0 H' v r
def AfterS (F : Fx υ) (b : Bk (Er × υ) β κ (ρ × υ)) (N : β → St → Hp → Prop) (C : κ → St → Hp → Prop) (R : Rk ρ) (D : Ends) : Prop := match b with
  | .nx b => ∀ σ' H', N b σ' H' → D.nx σ' H'
  | .rt (r, u) => ∀ v H', RetOk F R r u v H' → D.rt v H'
  | .bk k => ∀ σ' H', C k σ' H' → D.bk σ' H'
  | .ct k => ∀ σ' H', C k σ' H' → D.ct σ' H'
  | .ex (e, u) => F.rz = true ∧ ∀ σ' H' dx v, Keep (· ∈ F.U) F.H0 H' → Owns F.Uo (fun a => F.S a ∨ a ∈ F.U) H' F.U u → F.H0 dx = none → H' dx = some (.xd [("value", v)]) → e.val.Ok F.K (fun a => F.S a ∨ a ∈ F.U) H' v → F.E σ' (.ref (F.cl e.cls)) (some dx) H'
  | .bad => False
/-- a block -/
def TSj (F : Fx υ) (Γ : List Cl) (Δ : Dl δ) (t : TS) (m : δ → Bk (Er × υ) β κ (ρ × υ)) (N : β → St → Hp → Prop) (C : κ → St → Hp → Prop) (R : Rk ρ) : Prop :=
  ∀ Ds d σ H (D : Ends), En F Γ Δ Ds d σ H → AfterS F (m d) N C R D → t D σ H
/-- what the def's caller is told of its own -/
def ExtOk (F : Fx υ) (Δ : Dl δ) (ext : δ → υ) : Prop := F.U.length = F.Uo.len → ∀ (T : ASet) (H : Hp) (L : List Addr) (d : δ), Owns Δ T H (F.U ++ L) d → Owns F.Uo T H F.U (ext d)
variable {ext : δ → υ}
theorem En.owns {Ds : List Addr} {d : δ} {σ : St} {H : Hp} (hE : ExtOk F Δ ext) (e : En F Γ Δ Ds d σ H) : Owns F.Uo (fun a => F.S a ∨ a ∈ F.U) H F.U (ext d) := by
  have ul := e.ul
  obtain ⟨L, rfl, hL⟩ := e.pre
  refine Owns.shift (fun a h => ?_) (hE ul _ _ _ _ e.own)
  rcases h with h | h
  · exact .inl (.inl ⟨rfl, h⟩)
  · exact .inl (.inr (.inr (List.mem_append_left _ h)))
/-- a result's step in a block -/
theorem AfterS.of {Ds : List Addr} {σ : St} {H : Hp} {r : Res (Er × δ) (α × δ)} {k : α × δ → Bk (Er × υ) β κ (ρ × υ)} {N : β → St → Hp → Prop} {C : κ → St → Hp → Prop} {R : Rk ρ} {D : Ends} (hE : ExtOk F Δ ext) {d0 : δ} (e0 : En F Γ Δ Ds d0 σ H) (h : AfterS F (r.bk ext k) N C R D) : After F Γ Δ Ds σ H r fun a d' H' => AfterS F (k (a, d')) N C R D := by
  match r, h with
  | .ok (a, d'), h => exact fun H' e q => h
  | .ex (x, d'), h => exact ⟨h.1, fun H' dx v e q n hx hv => h.2 σ H' dx v e.k0 (e.owns hE) (e0.k0.free n) hx (by
      have hs : ∀ a, F.S a ∨ a ∈ F.U → soft true F Ds a ∨ H' a = none := fun a h => .inl (by
        obtain ⟨L, rfl, _⟩ := e.pre
        rcases h with h | h
        · exact .inl ⟨rfl, h⟩
        · exact .inr (.inr (List.mem_append_left _ h)))
      cases z : x.val with
      | int n => rw [z] at hv; exact hv
      | tup ns => rw [z] at hv; exact (aTup aI).shift hv hs
      | str s => rw [z] at hv; exact hv
      | rows g => rw [z] at hv; exact (aLst _ (aLst _ aI)).shift hv hs)⟩
/-- behind it: the names as Γ' tells -/
def Nx (F : Fx υ) (Δ' : Dl δ') (g : τ → List Cl) : τ × δ' → St → Hp → Prop := fun b σ H => ∃ Ds, En F (g b.1) Δ' Ds b.2 σ H
section
variable {N : β → St → Hp → Prop} {C : κ → St → Hp → Prop} {t2 : TS}
theorem ts_nx {f : δ → β} (h : ∀ Ds d σ H, En F Γ Δ Ds d σ H → N (f d) σ H) {R : Rk ρ} : TSj F Γ Δ tNext (fun d => .nx (f d)) N C R := fun Ds d σ H D e q => q σ H (h Ds d σ H e)
theorem nx_le {Δ : Dl δ} {g : τ → List Cl} {x : τ} (h : Le Γ (g x)) : ∀ Ds d σ H, En F Γ Δ Ds d σ H → Nx F Δ g (x, d) σ H := fun Ds d σ H e => ⟨Ds, e.le h⟩
theorem ts_ct {R : Rk ρ} {f : δ → κ} (h : ∀ Ds d σ H, En F Γ Δ Ds d σ H → C (f d) σ H) : TSj F Γ Δ tCont (fun d => .ct (f d)) N C R := fun Ds d σ H D e q => q σ H (h Ds d σ H e)
theorem ts_bk {R : Rk ρ} {f : δ → κ} (h : ∀ Ds d σ H, En F Γ Δ Ds d σ H → C (f d) σ H) : TSj F Γ Δ tBreak (fun d => .bk (f d)) N C R := fun Ds d σ H D e q => q σ H (h Ds d σ H e)
theorem ts_never {R : Rk ρ} : TSj F Γ Δ tNever (fun _ => .bad) N C R := fun Ds d σ H D e q => q
theorem ts_ret {te : TE} {m : δ → Res (Er × δ) (ρ × δ)} {R : Rp ρ} (hE : ExtOk F Δ ext) (h : TEj F Γ Δ te m R true) : TSj F Γ Δ (tRet te) (fun d => (m d).bs ext fun a d => .rt (a, ext d)) N C (rkV R) := fun Ds d σ H D e q =>
  h Ds d σ H _ e ((AfterS.of hE e q).mono fun a d' H' e' k' q' v p => q' v H' ⟨e'.k0, e'.owns hE, R.shift p fun x hx => .inl (.inl ⟨rfl, hx⟩)⟩)
theorem ts_retN {te : TE} {m : δ → Res (Er × δ) (List ρ × δ)} {R : Rp ρ} (hE : ExtOk F Δ ext) (h : TNj F Γ Δ te m R true) : TSj F Γ Δ (tRet te) (fun d => (m d).bs ext fun a d => .rt (a, ext d)) N C (rkN R) := fun Ds d σ H D e q =>
  h Ds d σ H _ e ((AfterS.of hE e q).mono fun a d' H' e' k' q' A vs n hA p => q' _ H' ⟨e'.k0, e'.owns hE, A, vs, rfl, e.k0.free n, hA, Paired.mapP p fun _ _ z => R.shift z fun x hx => .inl (hx.imp (fun w => .inl ⟨rfl, w⟩) id)⟩)
theorem ts_ret0 (hE : ExtOk F Δ ext) : TSj F Γ Δ tRetN (fun d => .rt ((), ext d)) N C (rkV aN) := fun Ds d σ H D e q => q .non H ⟨e.k0, e.owns hE, rfl⟩
theorem ts_asg {i : Nat} {te : TE} {m : δ → Res (Er × δ) (α × δ)} {Ra : Rp α} {c : Bool} {R : Rk ρ} {k : α → δ → Bk (Er × υ) β κ (ρ × υ)} {Γ' : α → List Cl} (hE : ExtOk F Δ ext) (h : TEj F Γ Δ te m Ra c) (hΓ : ∀ a, Γ' a = Γ.set i (clc c (Ra.at a))) (h2 : ∀ a, TSj F (Γ' a) Δ t2 (k a) N C R) :
    TSj F Γ Δ (tSeq (tAsg te (gName i)) t2) (fun d => (m d).bs ext k) N C R := fun Ds d σ H D e q =>
  h Ds d σ H _ e ((AfterS.of hE e q).mono fun a d' H' e' k' q' v p => h2 a Ds d' _ H' D (by rw [hΓ]; exact e'.set (clc_ok p)) q')
theorem ts_asgG {te : TE} {g : TG} {m : δ → Res (Er × δ) (α × δ)} {Ra : Rp α} {c : Bool} {R : Rk ρ} {k : α → δ → Bk (Er × υ) β κ (ρ × υ)} {Γ' : α → List Cl} {is : List Nat} (hE : ExtOk F Δ ext) (h : TEj F Γ Δ te m Ra c) (hg : TGj F c Γ Δ g Ra Γ' is) (h2 : ∀ a, TSj F (Γ' a) Δ t2 (k a) N C R) :
    TSj F Γ Δ (tSeq (tAsg te g) t2) (fun d => (m d).bs ext k) N C R := fun Ds d σ H D e q =>
  h Ds d σ H _ e ((AfterS.of hE e q).mono fun a d' H' e' k' q' v p => hg Ds d' σ H' v a _ e' p fun σ' e2 _ => h2 a Ds d' σ' H' D e2 q')
theorem ts_drop {te : TE} {m : δ → Res (Er × δ) (α × δ)} {Ra : Rp α} {c : Bool} {R : Rk ρ} {k : α → δ → Bk (Er × υ) β κ (ρ × υ)} (hE : ExtOk F Δ ext) (h : TEj F Γ Δ te m Ra c) (h2 : ∀ a, TSj F Γ Δ t2 (k a) N C R) :
    TSj F Γ Δ (tSeq (tDrop te) t2) (fun d => (m d).bs ext k) N C R := fun Ds d σ H D e q =>
  h Ds d σ H _ e ((AfterS.of hE e q).mono fun a d' H' e' k' q' v p => h2 a Ds d' _ H' D e' q')
theorem AfterS.seq {β' : Type} {b : Bk (Er × υ) β' κ (ρ × υ)} {k : β' → Bk (Er × υ) β κ (ρ × υ)} {N' : β' → St → Hp → Prop} {R : Rk ρ} {D : Ends} {M : St → Hp → Prop} (h : AfterS F (b.seq k) N C R D) (hM : ∀ x σ H, N' x σ H → AfterS F (k x) N C R D → M σ H) : AfterS F b N' C R { D with nx := M } := by
  match b, h with
  | .nx b, h => exact fun σ' H' n => hM b σ' H' n h
  | .rt (r, u), h => exact h
  | .bk k, h => exact h
  | .ct k, h => exact h
  | .ex (e, u), h => exact h
theorem ts_ifG {τ δ' : Type} {c : TT} {t1 t3 : TS} {mc : δ → Res (Er × δ) (Bool × δ)} {m1 m3 : δ → Bk (Er × υ) (τ × δ') κ (ρ × υ)} {N' : τ × δ' → St → Hp → Prop} {R : Rk ρ} {k : τ → δ' → Bk (Er × υ) β κ (ρ × υ)} (hE : ExtOk F Δ ext) (hc : TTj F Γ Δ c mc) (h1 : TSj F Γ Δ t1 m1 N' C R) (h3 : TSj F Γ Δ t3 m3 N' C R)
    (h2 : ∀ x σ H D, N' x σ H → AfterS F (k x.1 x.2) N C R D → t2 D σ H) : TSj F Γ Δ (tSeq (tIfS c t1 t3) t2) (fun d => (mc d).bs ext fun b d => (if b = true then m1 d else m3 d).sq k) N C R := fun Ds d σ H D e q => by
  refine hc Ds d σ H _ e ((AfterS.of hE e q).mono fun a d' H' e' k' q' => ?_)
  dsimp only at q'
  cases a with
  | true =>
    rw [if_pos rfl] at q' ⊢
    exact h1 Ds d' σ H' _ e' (q'.seq fun x σ H n w => h2 x σ H D n w)
  | false =>
    rw [if_neg Bool.false_ne_true] at q' ⊢
    exact h3 Ds d' σ H' _ e' (q'.seq fun x σ H n w => h2 x σ H D n w)
theorem ts_cutIfG {τ δ' : Type} {c : TT} {t1 t3 : TS} {mc : δ → Res (Er × δ) (Bool × δ)} {m1 m3 : δ → Bk (Er × υ) (τ × δ') κ (ρ × υ)} {N' : τ × δ' → St → Hp → Prop} {R : Rk ρ} {k : τ → δ' → Bk (Er × υ) β κ (ρ × υ)} (hE : ExtOk F Δ ext) (hc : TTj F Γ Δ c mc) (h1 : TSj F Γ Δ t1 m1 N' C R) (h3 : TSj F Γ Δ t3 m3 N' C R)
    (h2 : ∀ x σ H D, N' x σ H → AfterS F (k x.1 x.2) N C R D → t2 D σ H) : TSj F Γ Δ (Evl.tCut (tIfS c t1 t3) t2) (fun d => (mc d).bs ext fun b d => (if b = true then m1 d else m3 d).sq k) N C R := fun Ds d σ H D e q =>
  ⟨fun σ H => ∃ x, N' x σ H ∧ AfterS F (k x.1 x.2) N C R D, by
    refine hc Ds d σ H _ e ((AfterS.of hE e q).mono fun a d' H' e' k' q' => ?_)
    dsimp only at q'
    cases a with
    | true =>
      rw [if_pos rfl] at q' ⊢
      exact h1 Ds d' σ H' _ e' (q'.seq fun x σ H n w => ⟨x, n, w⟩)
    | false =>
      rw [if_neg Bool.false_ne_true] at q' ⊢
      exact h3 Ds d' σ H' _ e' (q'.seq fun x σ H n w => ⟨x, n, w⟩), fun σ' H' ⟨x, n, w⟩ => h2 x σ' H' D n w⟩
/-- what follows a joining of ways -/
theorem rest_of {δ' : Type} {Δ' : Dl δ'} {g : τ → List Cl} {R : Rk ρ} {k : τ → δ' → Bk (Er × υ) β κ (ρ × υ)} (h : ∀ x, TSj F (g x) Δ' t2 (k x) N C R) : ∀ x σ H D, Nx F Δ' g x σ H → AfterS F (k x.1 x.2) N C R D → t2 D σ H := fun x σ H D ⟨Ds, e⟩ q => h x.1 Ds x.2 σ H D e q
theorem ts_if {τ δ' : Type} {Δ' : Dl δ'} {g : τ → List Cl} {c : TT} {t1 t3 : TS} {mc : δ → Res (Er × δ) (Bool × δ)} {m1 m3 : δ → Bk (Er × υ) (τ × δ') κ (ρ × υ)} {R : Rk ρ} {k : τ → δ' → Bk (Er × υ) β κ (ρ × υ)} (hE : ExtOk F Δ ext) (hc : TTj F Γ Δ c mc) (h1 : TSj F Γ Δ t1 m1 (Nx F Δ' g) C R) (h3 : TSj F Γ Δ t3 m3 (Nx F Δ' g) C R)
    (h2 : ∀ x, TSj F (g x) Δ' t2 (k x) N C R) : TSj F Γ Δ (tSeq (tIfS c t1 t3) t2) (fun d => (mc d).bs ext fun b d => (if b = true then m1 d else m3 d).sq k) N C R := ts_ifG hE hc h1 h3 (rest_of h2)
theorem ts_cutIf {τ δ' : Type} {Δ' : Dl δ'} {g : τ → List Cl} {c : TT} {t1 t3 : TS} {mc : δ → Res (Er × δ) (Bool × δ)} {m1 m3 : δ → Bk (Er × υ) (τ × δ') κ (ρ × υ)} {R : Rk ρ} {k : τ → δ' → Bk (Er × υ) β κ (ρ × υ)} (hE : ExtOk F Δ ext) (hc : TTj F Γ Δ c mc) (h1 : TSj F Γ Δ t1 m1 (Nx F Δ' g) C R) (h3 : TSj F Γ Δ t3 m3 (Nx F Δ' g) C R)
    (h2 : ∀ x, TSj F (g x) Δ' t2 (k x) N C R) : TSj F Γ Δ (Evl.tCut (tIfS c t1 t3) t2) (fun d => (mc d).bs ext fun b d => (if b = true then m1 d else m3 d).sq k) N C R := ts_cutIfG hE hc h1 h3 (rest_of h2)
/-! ### loops -/
def forB {ε α τ δ κ ρ : Type} (f : α → τ → δ → Bk ε (τ × δ) (τ × δ) ρ) : List α → τ → δ → Bk ε (τ × δ) κ ρ
  | [], s, d => .nx (s, d)
  | a :: r, s, d => match f a s d with
    | .nx s' => forB f r s'.1 s'.2
    | .ct s' => forB f r s'.1 s'.2
    | .bk s' => .nx s'
    | .rt x => .rt x
    | .ex e => .ex e
    | .bad => .bad
def Bk.mapU {υ υ' β κ ρ : Type} (f : υ → υ') (b : Bk (Er × υ) β κ (ρ × υ)) : Bk (Er × υ') β κ (ρ × υ') := match b with
  | .nx b => .nx b
  | .rt (r, u) => .rt (r, f u)
  | .bk x => .bk x
  | .ct x => .ct x
  | .ex (e, u) => .ex (e, f u)
  | .bad => .bad
@[simp] theorem Bk.mapU_nx {υ υ' β κ ρ : Type} (f : υ → υ') (b : β) : (Bk.nx b : Bk (Er × υ) β κ (ρ × υ)).mapU f = .nx b := rfl
@[simp] theorem Bk.mapU_rt {υ υ' β κ ρ : Type} (f : υ → υ') (r : ρ) (u : υ) : (Bk.rt (r, u) : Bk (Er × υ) β κ (ρ × υ)).mapU f = .rt (r, f u) := rfl
@[simp] theorem Bk.mapU_bad {υ υ' β κ ρ : Type} (f : υ → υ') : (Bk.bad : Bk (Er × υ) β κ (ρ × υ)).mapU f = .bad := rfl
/-- as seen from a loop's beginning -/
def Fx.loop (F : Fx υ) (Δ : Dl δ) (Ds : List Addr) (H : Hp) : Fx δ := { F with U := Ds, Uo := Δ, H0 := H }
theorem En.loop {Ds : List Addr} {d : δ} {σ : St} {H : Hp} (e : En F Γ Δ Ds d σ H) : En (F.loop Δ Ds H) Γ Δ Ds d σ H :=
  ⟨Keep.refl _ _, ⟨[], by rw [List.append_nil]; rfl, fun _ h => nomatch h⟩, e.nd, e.live, e.own, e.sl, e.xd, Owns.length e.own, fun _ h => .inl h⟩
theorem Owns.len : ∀ {δ : Type} {Δ : Dl δ} {T T' : ASet} {H H' : Hp} {Ds Ds' : List Addr} {d d' : δ}, Owns Δ T H Ds d → Owns Δ T' H' Ds' d' → Ds.length = Ds'.length := by
  intro δ Δ
  induction Δ with
  | nil => intro _ _ _ _ _ _ _ _ h h'; rw [show _ = [] from h, show _ = [] from h']
  | cons O r ih =>
    rintro T T' H H' Ds Ds' d d' ⟨D, L, e, c, o⟩ ⟨D', L', e', c', o'⟩
    rw [e, e', List.length_cons, List.length_cons, ih o o']
theorem En.unloop {Γ2 : List Cl} {Ds Ds' : List Addr} {d d' : δ} {σ σ' : St} {H H' : Hp} (e : En F Γ Δ Ds d σ H) (e' : En (F.loop Δ Ds H) Γ2 Δ Ds' d' σ' H') : Ds' = Ds ∧ En F Γ2 Δ Ds d' σ' H' ∧ Keep (· ∈ Ds) H H' := by
  obtain ⟨L, hL, _⟩ := e'.pre
  have hL : Ds' = Ds ++ L := hL
  have hl := Owns.len e.own e'.own
  have : L = [] := by
    rw [hL, List.length_append] at hl
    exact List.length_eq_zero_iff.mp (by omega)
  subst this
  rw [List.append_nil] at hL
  subst hL
  have kk : Keep (· ∈ Ds') H H' := e'.k0
  exact ⟨rfl, ⟨(e.step kk e'.own).k0, e.pre, e.nd, e'.live, e'.own, e'.sl, e'.xd, e.ul, e.sd⟩, kk⟩
theorem RetOk.unloop {R : Rk ρ} {Ds : List Addr} {d : δ} {σ : St} {H H' : Hp} {r : ρ} {u : δ} {v : V} (hR : (∃ R0, R = rkV R0) ∨ ∃ (ρ0 : Type) (R0 : Rp ρ0) (h : ρ = List ρ0), HEq R (rkN R0)) (hE : ExtOk F Δ ext) (e : En F Γ Δ Ds d σ H) (h : RetOk (F.loop Δ Ds H) R r u v H') : RetOk F R r (ext u) v H' := by
  obtain ⟨k, o, n⟩ := h
  have k : Keep (· ∈ Ds) H H' := k
  have o : Owns Δ (fun a => F.S a ∨ a ∈ Ds) H' Ds u := o
  refine ⟨?_, ?_, ?_⟩
  · obtain ⟨L, rfl, hL⟩ := e.pre
    exact ⟨fun b w n h => k.same b w (fun z => by
      rcases List.mem_append.mp z with z | z
      · exact n z
      · rw [hL b z] at h; cases h) (e.k0.same b w n h), fun b xs h => k.tup b xs (e.k0.tup b xs h), fun b h => k.live b (e.k0.live b h)⟩
  · have ul := e.ul
    obtain ⟨L, rfl, hL⟩ := e.pre
    exact Owns.shift (fun a h => .inl (h.imp id fun z => List.mem_append_left _ z)) (hE ul _ _ _ _ o)
  · rcases hR with ⟨R0, rfl⟩ | ⟨ρ0, R0, rfl, hh⟩
    · exact n
    · cases hh
      obtain ⟨D, ws, h1, h2, h3, h4⟩ := n
      exact ⟨D, ws, h1, e.k0.free h2, h3, h4⟩
/-- kinds that the beginning does not matter for -/
class RkOk (R : Rk ρ) : Prop where
  ok : (∃ R0, R = rkV R0) ∨ ∃ (ρ0 : Type) (R0 : Rp ρ0) (h : ρ = List ρ0), HEq R (rkN R0)
instance {R : Rp ρ} : RkOk (rkV R) := ⟨.inl ⟨R, rfl⟩⟩
instance {R : Rp ρ} : RkOk (rkN R) := ⟨.inr ⟨ρ, R, rfl, .rfl⟩⟩
theorem AfterS.unloop {Ds : List Addr} {d : δ} {σ : St} {H : Hp} {R : Rk ρ} [hR : RkOk R] {D : Ends} {N : β → St → Hp → Prop} {C : κ → St → Hp → Prop} {b : Bk (Er × δ) β κ (ρ × δ)} (hE : ExtOk F Δ ext) (e : En F Γ Δ Ds d σ H) (h : AfterS F (b.mapU ext) N C R D) : AfterS (F.loop Δ Ds H) b N C R D := by
  match b, h with
  | .nx b, h => exact h
  | .rt (r, u), h => exact fun v H' q => h v H' (q.unloop hR.ok hE e)
  | .bk k, h => exact h
  | .ct k, h => exact h
  | .ex (x, u), h =>
    refine ⟨h.1, fun σ' H' dx v k o n hx hv => ?_⟩
    have k : Keep (· ∈ Ds) H H' := k
    have o : Owns Δ (fun a => F.S a ∨ a ∈ Ds) H' Ds u := o
    have hv : x.val.Ok F.K (fun a => F.S a ∨ a ∈ Ds) H' v := hv
    have ul := e.ul
    obtain ⟨L, rfl, hL⟩ := e.pre
    have hs : ∀ a, (F.S a ∨ a ∈ F.U) → (F.S a ∨ a ∈ F.U ++ L) ∨ H' a = none := fun a h => .inl (h.imp id fun z => List.mem_append_left _ z)
    refine h.2 σ' H' dx v ⟨fun b w n h => k.same b w (fun z => by
      rcases List.mem_append.mp z with z | z
      · exact n z
      · rw [hL b z] at h; cases h) (e.k0.same b w n h), fun b xs h => k.tup b xs (e.k0.tup b xs h), fun b h => k.live b (e.k0.live b h)⟩ (Owns.shift hs (hE ul _ _ _ _ o)) (e.k0.free n) hx ?_
    cases z : x.val with
    | int n => rw [z] at hv; exact hv
    | tup ns => rw [z] at hv; exact (aTup aI).shift hv hs
    | str s => rw [z] at hv; exact hv
    | rows g => rw [z] at hv; exact (aLst _ (aLst _ aI)).shift hv hs
theorem forB_drop {ε κ' : Type} {f : α → τ → δ → Bk ε (τ × δ) (τ × δ) ρ} {xs : List α} {i : Nat} {a : α} (h : xs[i]? = some a) (s : τ) (d : δ) : (forB f (xs.drop i) s d : Bk ε (τ × δ) κ' ρ) = match f a s d with
    | .nx s' => forB f (xs.drop (i + 1)) s'.1 s'.2
    | .ct s' => forB f (xs.drop (i + 1)) s'.1 s'.2
    | .bk s' => .nx s'
    | .rt x => .rt x
    | .ex e => .ex e
    | .bad => .bad := by
  have hl := List.getElem?_eq_some_iff.mp h
  rw [List.drop_eq_getElem_cons hl.1, hl.2, forB]
  cases f a s d <;> rfl
theorem ts_forG {wi : TI} {g : TG} {tb : TS} {mi : δ → Res (Er × δ) (List α × δ)} {Ra : Rp α} {c c2 : Bool} {R : Rk ρ} [hR : RkOk R] {gl : τ → List Cl} {s0 : τ} {Γb : τ → α → List Cl} {is : List Nat} {mb : α → τ → δ → Bk (Er × δ) (τ × δ) (τ × δ) (ρ × δ)} {k : τ → δ → Bk (Er × υ) β κ (ρ × υ)}
    (hE : ExtOk F Δ ext) (hcc : c = c2 ∨ Ra.Dat) (hi : TIj F Γ Δ wi mi Ra c) (h0 : Le Γ (gl s0)) (hg : ∀ Ds H s, TGj (F.loop Δ Ds H) c2 (gl s) Δ g Ra (Γb s) is)
    (hb : ∀ Ds H, ∀ s a, TSj (F.loop Δ Ds H) (Γb s a) Δ tb (mb a s) (Nx (F.loop Δ Ds H) Δ gl) (Nx (F.loop Δ Ds H) Δ gl) R)
    (h2 : ∀ x σ H D, Nx F Δ gl x σ H → AfterS F (k x.1 x.2) N C R D → t2 D σ H) :
    TSj F Γ Δ (tSeq (tFor wi g tb) t2) (fun d => (mi d).bs ext fun xs d => ((forB mb xs s0 d).mapU ext).sq k) N C R := fun Ds d σ H D e q => by
  refine hi Ds d σ H _ e ((AfterS.of hE e q).mono fun xs d1 H1 e1 k1 q1 J ok => ?_)
  dsimp only at q1
  obtain ⟨G, g0, gk, gs, gw⟩ := ok.ex
  have el := e1.loop
  generalize hM : ({ D with nx := t2 D } : Ends) = DM
  have q2 : AfterS (F.loop Δ Ds H1) (forB mb xs s0 d1) (Nx F Δ gl) C R DM := by
    refine AfterS.unloop hE e1 ?_
    rw [← hM]
    exact q1.seq fun x σ H n w => h2 x σ H D n w
  have nn : ∀ x σ' H', Nx (F.loop Δ Ds H1) Δ gl x σ' H' → En F (gl x.1) Δ Ds x.2 σ' H' ∧ Keep (· ∈ Ds) H1 H' := fun x σ' H' ⟨Ds', h⟩ => by
    obtain ⟨rfl, h1, h2⟩ := e1.unloop h
    exact ⟨h1, h2⟩
  refine for_it (gw (soft c F Ds)) (fun i σ' H' => (∃ x, Nx (F.loop Δ Ds H1) Δ gl x σ' H' ∧ G (soft c F Ds) H' ∧ AfterS (F.loop Δ Ds H1) (forB mb (xs.drop i) x.1 x.2) (Nx F Δ gl) C R DM)) ⟨(s0, d1), ⟨Ds, el.le h0⟩, g0, q2⟩ (fun i σ' H' hi ⟨x, _, h, _⟩ => h) ?_ ?_
  · rintro i v σ1 H2 H3 hi ⟨x, hn, hG, hq⟩ ⟨s12, a, ha, pa⟩
    obtain ⟨Ds', en⟩ := id hn
    obtain ⟨rfl, _, kH⟩ := e1.unloop en
    rw [forB_drop ha] at hq
    refine hg Ds' H1 x.1 Ds' x.2 σ1 H3 v a _ (en.same s12) (hcc.elim (fun z => z ▸ pa) fun z => z _ _ _ _ _ pa) fun σ2 e2 _ => ?_
    refine hb Ds' H1 x.1 a Ds' x.2 σ2 H3 _ e2 ?_
    have kG : ∀ x' σ' H', Nx (F.loop Δ Ds' H1) Δ gl x' σ' H' → G (soft c F Ds') H' := fun x' σ' H' h => by
      have h := (nn x' σ' H' h).2
      exact gk _ _ _ g0 (h.soft _)
    show AfterS _ (mb a x.1 x.2) _ _ _ _
    cases z : mb a x.1 x.2 with
    | nx s' =>
      rw [z] at hq
      exact fun σ' H' n => ⟨s', n, kG _ _ _ n, hq⟩
    | ct s' =>
      rw [z] at hq
      exact fun σ' H' n => ⟨s', n, kG _ _ _ n, hq⟩
    | bk s' =>
      rw [z] at hq
      exact fun σ' H' n => hq σ' H' ⟨Ds', (nn _ _ _ n).1⟩
    | rt w =>
      rw [z] at hq
      exact hq
    | ex w =>
      rw [z] at hq
      exact hq
    | bad =>
      rw [z] at hq
      exact hq
  · rintro σ1 H2 ⟨x, hn, hG, hq⟩
    rw [List.drop_length] at hq
    subst hM
    exact hq σ1 H2 ⟨Ds, (nn _ _ _ hn).1⟩
end
theorem ts_for {wi : TI} {g : TG} {tb : TS} {mi : δ → Res (Er × δ) (List α × δ)} {Ra : Rp α} {c c2 : Bool} {R : Rk ρ} [hR : RkOk R] {gl : τ → List Cl} {s0 : τ} {Γb : τ → α → List Cl} {is : List Nat} {mb : α → τ → δ → Bk (Er × δ) (τ × δ) (τ × δ) (ρ × δ)} {k : τ → δ → Bk (Er × υ) β κ (ρ × υ)}
    (hE : ExtOk F Δ ext) (hcc : c = c2 ∨ Ra.Dat) (hi : TIj F Γ Δ wi mi Ra c) (h0 : Le Γ (gl s0)) (hg : ∀ Ds H s, TGj (F.loop Δ Ds H) c2 (gl s) Δ g Ra (Γb s) is)
    (hb : ∀ Ds H, ∀ s a, TSj (F.loop Δ Ds H) (Γb s a) Δ tb (mb a s) (Nx (F.loop Δ Ds H) Δ gl) (Nx (F.loop Δ Ds H) Δ gl) R)
    (h2 : ∀ x, TSj F (gl x) Δ t2 (k x) N C R) :
    TSj F Γ Δ (tSeq (tFor wi g tb) t2) (fun d => (mi d).bs ext fun xs d => ((forB mb xs s0 d).mapU ext).sq k) N C R := ts_forG hE hcc hi h0 hg hb (rest_of h2)
theorem ext_loop {Ds : List Addr} {H : Hp} : ExtOk (F.loop Δ Ds H) Δ (fun d => d) := fun ul T G L d o => by
  have ul : Ds.length = Δ.len := ul
  have o : Owns Δ T G (Ds ++ L) d := o
  have h := Owns.length o
  rw [List.length_append] at h
  have : L = [] := List.length_eq_zero_iff.mp (by omega)
  subst this
  rw [List.append_nil] at o
  exact o
/-! ### defs -/
def runP (b : Bk (Er × Unit) Empty Empty (ρ × Unit)) : Res Er ρ := match b with
  | .rt (r, _) => .ok r
  | .ex (e, _) => .ex e
  | _ => .bad
/-- a def that gives nothing -/
def runP0 (b : Bk (Er × Unit) Unit Empty (Unit × Unit)) : Res Er Unit := match b with
  | .rt (r, _) => .ok r
  | .nx _ => .ok ()
  | .ex (e, _) => .ex e
  | _ => .bad
/-- the names at the start -/
def slotsOf : {α : Type} → Al α → List Bool → α → List Cl
  | _, .nil, _, _ => []
  | _, .cons R r, c :: cs, a => clc c (R.at a.1) :: slotsOf r cs a.2
  | _, .cons R r, [], a => clc false (R.at a.1) :: slotsOf r [] a.2
def Fx0 (K : PySem.W.Frag) (S : ASet) (H : Hp) (cl : XC → Addr) : Fx Unit := { K := K, rz := false, U := [], Uo := .nil, S := S, X := fun _ => False, H0 := H, E := fun _ _ _ _ => False, cl := cl }
/-- which arguments are nothing but data -/
inductive DatL : {α : Type} → Al α → List Bool → Prop
  | nil {cs : List Bool} : DatL .nil cs
  | yes {α β : Type} {R : Rp α} {r : Al β} {cs : List Bool} : R.Dat → DatL r cs → DatL (.cons R r) (true :: cs)
  | no {α β : Type} {R : Rp α} {r : Al β} {cs : List Bool} : DatL r cs → DatL (.cons R r) (false :: cs)
theorem start_ok {S : ASet} {H : Hp} {cl : XC → Addr} {K : PySem.W.Frag} : ∀ {α : Type} {A : Al α} {cs : List Bool} {vs : List V} {a : α}, DatL A cs → A.P (fun _ => False) H vs a → Paired (ClOk (Fx0 K S H cl) [] H) (slotsOf A cs a) (vs.map some) := by
  intro α A cs vs a hd h
  induction hd generalizing vs with
  | nil => rw [show vs = [] from h]; exact .nil
  | yes d _ ih =>
    obtain ⟨v, ws, rfl, p, q⟩ := h
    exact .cons (clc_ok (c := true) (d _ _ _ _ _ p)) (ih q)
  | no _ ih =>
    obtain ⟨v, ws, rfl, p, q⟩ := h
    refine .cons (clc_ok (c := false) (Rp.shift _ p fun a z => ?_)) (ih q)
    rcases z with ⟨z, _⟩ | z | z
    · cases z
    · exact z.elim
    · cases z
theorem paired_app {α β : Type} {P : α → β → Prop} {l l2 : List α} {m m2 : List β} (h : Paired P l m) (h2 : Paired P l2 m2) : Paired P (l ++ l2) (m ++ m2) := by
  induction h with
  | nil => exact h2
  | cons a _ ih => exact .cons a ih
theorem paired_no {Ds : List Addr} {H : Hp} : ∀ n : Nat, Paired (ClOk F Ds H) (List.replicate n .no) (List.replicate n none)
  | 0 => .nil
  | n + 1 => .cons trivial (paired_no n)
theorem al_len {S : ASet} {H : Hp} : ∀ {α : Type} {A : Al α} {vs : List V} {a : α} {cs : List Bool}, A.P S H vs a → vs.length = (slotsOf A cs a).length := by
  intro α A
  induction A with
  | nil => intro vs a cs h; rw [show vs = [] from h]; rfl
  | cons R r ih =>
    rintro vs a cs ⟨v, ws, rfl, p, q⟩
    cases cs with
    | nil => exact congrArg (· + 1) (ih q)
    | cons c cs => exact congrArg (· + 1) (ih q)
/-- where a def begins -/
theorem En.start {K : PySem.W.Frag} {S : ASet} {H : Hp} {cl : XC → Addr} {A : Al α} {cs : List Bool} {vs : List V} {a : α} {N : List Str} (hS : ∀ x, S x → H x ≠ none) (hd : DatL A cs) (h : A.P (fun _ => False) H vs a) :
    En (Fx0 K S H cl) (slotsOf A cs a ++ List.replicate (N.length - (slotsOf A cs a).length) .no) .nil [] () (L2.start N vs) H := by
  refine ⟨Keep.refl _ _, ⟨[], rfl, fun _ h => nomatch h⟩, List.nodup_nil, fun x h => ?_, rfl, ?_, (fun _ h => nomatch h), rfl, fun _ h => nomatch h⟩
  · rcases h with ⟨_, h⟩ | h | h
    · exact hS x h
    · exact h.elim
    · cases h
  · show Paired _ _ (vs.map some ++ List.replicate (N.length - vs.length) none)
    rw [al_len (cs := cs) h]
    exact paired_app (start_ok hd h) (paired_no _)
theorem run_P {K : PySem.W.Frag} {H : Hp} {A : Al α} {cs : List Bool} {R : Rp ρ} {f : α → Res Er ρ} {vs : List V} {Q : VK} {E : XK} {N : List Str} {t : TS} {m : α → Unit → Bk (Er × Unit) Empty Empty (ρ × Unit)} (cl : XC → Addr)
    (hd : DatL A cs) (hf : ∀ a, f a = runP (m a ())) (hsp : spP A R f vs H Q E) (hb : ∀ S a, TSj (Fx0 K S H cl) (slotsOf A cs a ++ List.replicate (N.length - (slotsOf A cs a).length) .no) .nil t (m a) (fun x _ _ => x.elim) (fun x _ _ => x.elim) (rkV R)) :
    t { nx := fun _ H' => Q .non H', rt := Q } (start N vs) H := by
  obtain ⟨a, hA, r, hr, k⟩ := hsp
  rw [hf a] at hr
  have hm : m a () = .rt (r, ()) := by
    cases z : m a () with
    | rt x => rw [z] at hr; cases hr; rfl
    | nx x => exact x.elim
    | bk x => exact x.elim
    | ct x => exact x.elim
    | ex x => rw [z] at hr; cases hr
    | bad => rw [z] at hr; cases hr
  refine hb (fun x => H x ≠ none) a [] () _ H _ (En.start (fun x h => h) hd hA) ?_
  rw [hm]
  rintro v H' ⟨h1, h2, h3⟩
  refine k v H' (fun b o e => h1.same b o (fun z => nomatch z) e) fun S hS => R.shift h3 fun x hx => .inl (hS x hx)
theorem run_P0 {K : PySem.W.Frag} {H : Hp} {A : Al α} {cs : List Bool} {f : α → Res Er Unit} {vs : List V} {Q : VK} {E : XK} {N : List Str} {t : TS} {m : α → Unit → Bk (Er × Unit) Unit Empty (Unit × Unit)} (cl : XC → Addr)
    (hd : DatL A cs) (hf : ∀ a, f a = runP0 (m a ())) (hsp : spP A aN f vs H Q E) (hb : ∀ S a, TSj (Fx0 K S H cl) (slotsOf A cs a ++ List.replicate (N.length - (slotsOf A cs a).length) .no) .nil t (m a) (fun _ σ' H' => ∃ Γ' Ds d, En (Fx0 K S H cl) Γ' .nil Ds d σ' H') (fun x _ _ => x.elim) (rkV aN)) :
    t { nx := fun _ H' => Q .non H', rt := Q } (start N vs) H := by
  obtain ⟨a, hA, r, hr, k⟩ := hsp
  rw [hf a] at hr
  refine hb (fun x => H x ≠ none) a [] () _ H _ (En.start (fun x h => h) hd hA) ?_
  cases z : m a () with
  | rt x =>
    rintro v H' ⟨h1, h2, h3⟩
    have h3 : v = .non := h3
    subst h3
    exact k _ H' (fun b o e => h1.same b o (fun z => nomatch z) e) fun S hS => rfl
  | nx x =>
    rintro σ' H' ⟨Γ', Ds, d, e⟩
    have h1 := e.k0
    exact k _ H' (fun b o e => h1.same b o (fun z => nomatch z) e) fun S hS => rfl
  | bk x => exact x.elim
  | ct x => exact x.elim
  | ex x => rw [z] at hr; cases hr
  | bad => rw [z] at hr; cases hr
theorem run_N {K : PySem.W.Frag} {H : Hp} {A : Al α} {cs : List Bool} {R : Rp ρ} {f : α → Res Er (List ρ)} {vs : List V} {Q : VK} {E : XK} {N : List Str} {t : TS} {m : α → Unit → Bk (Er × Unit) Empty Empty (List ρ × Unit)} (cl : XC → Addr)
    (hd : DatL A cs) (hf : ∀ a, f a = runP (m a ())) (hsp : spN A R f vs H Q E) (hb : ∀ S a, TSj (Fx0 K S H cl) (slotsOf A cs a ++ List.replicate (N.length - (slotsOf A cs a).length) .no) .nil t (m a) (fun x _ _ => x.elim) (fun x _ _ => x.elim) (rkN R)) :
    t { nx := fun _ H' => Q .non H', rt := Q } (start N vs) H := by
  obtain ⟨a, hA, r, hr, k⟩ := hsp
  rw [hf a] at hr
  have hm : m a () = .rt (r, ()) := by
    cases z : m a () with
    | rt x => rw [z] at hr; cases hr; rfl
    | nx x => exact x.elim
    | bk x => exact x.elim
    | ct x => exact x.elim
    | ex x => rw [z] at hr; cases hr
    | bad => rw [z] at hr; cases hr
  refine hb (fun x => H x ≠ none) a [] () _ H _ (En.start (fun x h => h) hd hA) ?_
  rw [hm]
  rintro v H' ⟨h1, h2, D, ws, rfl, nD, hD, h3⟩
  refine k D ws H' (fun b o e => h1.same b o (fun z => nomatch z) e) nD hD fun S hS => Paired.mapP h3 fun _ _ z => R.shift z fun x hx => .inl (hx.imp (hS x) id)
end
end L2

/-! what a text computes: the operations -/
namespace L2
open PySem PySem.Spec PyProof.Rows RZ
/-! ### data -/
structure Dt (K : PySem.W.Frag) {α : Type} (R : Rp α) where
  enc : α → PyData
  dep : Nat
  dp : ∀ {T : ASet} {H : Hp} {v : V} {a : α}, R.P T H v a → Dp K H v (enc a)
  hdep : ∀ a, (enc a).depth ≤ dep
  eq1 : ∀ a b, PyData.eqv (enc a) (enc b) = true → a = b
  eq2 : ∀ a, (enc a).canLay0 = true → PyData.eqv (enc a) (enc a) = true
  nn : ∀ a, enc a ≠ .none
section
variable {K : PySem.W.Frag} {α β γ : Type}
def eI : Int → PyData := .int
def eB : Bool → PyData := .bool
def eS : Str → PyData := .str
def eN : Unit → PyData := fun _ => .none
def eTup (e : α → PyData) (xs : List α) : PyData := .tuple (xs.map e)
def eLst (e : α → PyData) (xs : List α) : PyData := .list (xs.map e)
def eT2 (e : α → PyData) (f : β → PyData) (x : α × β) : PyData := .tuple [e x.1, f x.2]
def eOpt (e : α → PyData) : Option α → PyData
  | none => .none
  | some x => e x
def dI : Dt K aI := ⟨eI, 0, fun h => by rw [show _ = _ from h]; exact .int _, fun a => by simp [eI, eB, eS, PyData.depth], fun a b h => by simpa [eI, eB, eS, PyData.eqv] using h, fun a _ => by simp [eI, eB, eS, PyData.eqv], fun a h => nomatch h⟩
def dB : Dt K aB := ⟨eB, 0, fun h => by rw [show _ = _ from h]; exact .bl _, fun a => by simp [eI, eB, eS, PyData.depth], fun a b h => by simpa [eI, eB, eS, PyData.eqv] using h, fun a _ => by simp [eI, eB, eS, PyData.eqv], fun a h => nomatch h⟩
def dS : Dt K aS := ⟨eS, 0, fun h => by rw [show _ = _ from h]; exact .str _, fun a => by simp [eI, eB, eS, PyData.depth], fun a b h => by simpa [eI, eB, eS, PyData.eqv] using h, fun a _ => by simp [eI, eB, eS, PyData.eqv], fun a h => nomatch h⟩
theorem dpAll_of {R : Rp α} (d : Dt K R) {T : ASet} {H : Hp} {vs : List V} {xs : List α} (h : Paired (R.P T H) vs xs) : DpAll K H vs (xs.map d.enc) := by
  induction h with
  | nil => exact .nil
  | cons a _ ih => exact .cons (d.dp a) ih
theorem depthAll_of {f : α → PyData} {n : Nat} (h : ∀ a, (f a).depth ≤ n) : ∀ xs : List α, PyData.depthAll (xs.map f) ≤ n
  | [] => Nat.zero_le _
  | x :: xs => by
    show max (f x).depth (PyData.depthAll (xs.map f)) ≤ n
    exact Nat.max_le.mpr ⟨h x, depthAll_of h xs⟩
theorem eqvAll1 {f : α → PyData} (h : ∀ a b, PyData.eqv (f a) (f b) = true → a = b) : ∀ xs ys : List α, PyData.eqvAll (xs.map f) (ys.map f) = true → xs = ys
  | [], [], _ => rfl
  | [], _ :: _, e => by simp [PyData.eqvAll] at e
  | _ :: _, [], e => by simp [PyData.eqvAll] at e
  | x :: xs, y :: ys, e => by
    rw [List.map_cons, List.map_cons, PyData.eqvAll, Bool.and_eq_true] at e
    rw [h x y e.1, eqvAll1 h xs ys e.2]
theorem eqvAll2 {f : α → PyData} (h : ∀ a, (f a).canLay0 = true → PyData.eqv (f a) (f a) = true) : ∀ xs : List α, PyData.canLayAll0 (xs.map f) = true → PyData.eqvAll (xs.map f) (xs.map f) = true
  | [], _ => by simp [PyData.eqvAll]
  | x :: xs, e => by
    rw [List.map_cons, PyData.canLayAll0, Bool.and_eq_true] at e
    rw [List.map_cons, PyData.eqvAll, Bool.and_eq_true]
    exact ⟨h x e.1, eqvAll2 h xs e.2⟩
def dTup {R : Rp α} (d : Dt K R) : Dt K (aTup R) := ⟨eTup d.enc, d.dep + 1, fun ⟨a, vs, e, h, p⟩ => by rw [e]; exact .tup (SqT.of h) (dpAll_of d p),
  fun xs => Nat.succ_le_succ (depthAll_of d.hdep xs), fun a b h => eqvAll1 d.eq1 a b (by simpa [eTup, eLst, PyData.eqv] using h), fun a h => by
    have := eqvAll2 d.eq2 a (by simpa [eTup, eLst, PyData.canLay0] using h)
    simpa [eTup, eLst, PyData.eqv] using this, fun a h => nomatch h⟩
def dLst {R : Rp α} (d : Dt K R) : Dt K (aLst K R) := ⟨eLst d.enc, d.dep + 1, fun ⟨a, vs, e, h, p⟩ => by rw [e]; exact .lst h.sq (dpAll_of d p),
  fun xs => Nat.succ_le_succ (depthAll_of d.hdep xs), fun a b h => eqvAll1 d.eq1 a b (by simpa [eTup, eLst, PyData.eqv] using h), fun a h => by
    have := eqvAll2 d.eq2 a (by simpa [eTup, eLst, PyData.canLay0] using h)
    simpa [eTup, eLst, PyData.eqv] using this, fun a h => nomatch h⟩
def dT2 {R : Rp α} {Q : Rp β} (d : Dt K R) (q : Dt K Q) : Dt K (aT2 R Q) := ⟨eT2 d.enc q.enc, max d.dep q.dep + 1, fun ⟨a, v1, v2, e, h, p1, p2⟩ => by rw [e]; exact .tup (SqT.of h) (.cons (d.dp p1) (.cons (q.dp p2) .nil)),
  fun x => by
    have h1 := d.hdep x.1
    have h2 := q.hdep x.2
    show max (d.enc x.1).depth (max (q.enc x.2).depth 0) + 1 ≤ _
    omega, fun a b h => by
    have h : PyData.eqvAll [d.enc a.1, q.enc a.2] [d.enc b.1, q.enc b.2] = true := by simpa [eT2, PyData.eqv] using h
    rw [PyData.eqvAll, PyData.eqvAll, PyData.eqvAll, Bool.and_true, Bool.and_eq_true] at h
    exact Prod.ext (d.eq1 _ _ h.1) (q.eq1 _ _ h.2), fun a h => by
    have h : PyData.canLayAll0 [d.enc a.1, q.enc a.2] = true := by simpa [eT2, PyData.canLay0] using h
    rw [PyData.canLayAll0, PyData.canLayAll0, PyData.canLayAll0, Bool.and_true, Bool.and_eq_true] at h
    have : PyData.eqvAll [d.enc a.1, q.enc a.2] [d.enc a.1, q.enc a.2] = true := by
      rw [PyData.eqvAll, PyData.eqvAll, PyData.eqvAll, Bool.and_true, Bool.and_eq_true]
      exact ⟨d.eq2 _ h.1, q.eq2 _ h.2⟩
    simpa [eT2, PyData.eqv] using this, fun a h => nomatch h⟩
/-- data or None -/
structure DtO (K : PySem.W.Frag) {α : Type} (R : Rp α) where
  enc : α → PyData
  dep : Nat
  dp : ∀ {T : ASet} {H : Hp} {v : V} {a : α}, R.P T H v a → Dp K H v (enc a)
  hdep : ∀ a, (enc a).depth ≤ dep
  eq1 : ∀ a b, PyData.eqv (enc a) (enc b) = true → a = b
  eq2 : ∀ a, (enc a).canLay0 = true → PyData.eqv (enc a) (enc a) = true
def Dt.o {R : Rp α} (d : Dt K R) : DtO K R := ⟨d.enc, d.dep, d.dp, d.hdep, d.eq1, d.eq2⟩
def dOpt {R : Rp α} (d : Dt K R) : DtO K (aOpt R) := ⟨eOpt d.enc, d.dep, fun {T H v a} h => by
    rcases h with ⟨rfl, rfl⟩ | ⟨y, rfl, p, _⟩
    · exact .non
    · exact d.dp p, fun a => by cases a with | none => exact Nat.zero_le _ | some y => exact d.hdep y, fun a b h => by
    cases a with
    | none =>
      cases b with
      | none => rfl
      | some y =>
        have h : PyData.eqv .none (d.enc y) = true := h
        have := d.nn y
        cases z : d.enc y <;> rw [z] at h this <;> first | exact absurd rfl this | (simp [PyData.eqv] at h)
    | some x =>
      cases b with
      | none =>
        have h : PyData.eqv (d.enc x) .none = true := h
        have := d.nn x
        cases z : d.enc x <;> rw [z] at h this <;> first | exact absurd rfl this | (simp [PyData.eqv] at h)
      | some y => exact congrArg some (d.eq1 x y h), fun a h => by
    cases a with
    | none => simp [eOpt, PyData.eqv]
    | some y => exact d.eq2 y h⟩
def dN : DtO K aN := ⟨eN, 0, fun h => by rw [show _ = _ from h]; exact .non, fun _ => Nat.le_refl _, fun _ _ _ => rfl, fun _ _ => by simp [eN, PyData.eqv]⟩
theorem dpAllO {R : Rp α} (d : DtO K R) {T : ASet} {H : Hp} {vs : List V} {xs : List α} (h : Paired (R.P T H) vs xs) : DpAll K H vs (xs.map d.enc) := by
  induction h with
  | nil => exact .nil
  | cons a _ ih => exact .cons (d.dp a) ih
theorem shaped_of {d : PyData} {n : Nat} (h : d.canLay0 = true) (k : d.depth ≤ n) (hn : n ≤ 64) : SeqAt.shaped d = true := by
  unfold SeqAt.shaped
  rw [h, decide_eq_true (Nat.le_trans k hn)]
  rfl
def gEq [DecidableEq α] (e : α → PyData) (a b : α) : Option Bool := if (e a).canLay0 = true ∧ (e b).canLay0 = true then some (decide (a = b)) else none
def gNe [DecidableEq α] (e : α → PyData) (a b : α) : Option Bool := if (e a).canLay0 = true ∧ (e b).canLay0 = true then some (!decide (a = b)) else none
theorem eqv_dec [DecidableEq α] {R : Rp α} (d : DtO K R) {a b : α} (h : (d.enc a).canLay0 = true) : PyData.eqv (d.enc a) (d.enc b) = decide (a = b) := by
  by_cases e : a = b
  · subst e
    rw [d.eq2 a h, decide_eq_true rfl]
  · rw [decide_eq_false e]
    cases z : PyData.eqv (d.enc a) (d.enc b) with
    | false => rfl
    | true => exact absurd (d.eq1 a b z) e
theorem ot_eqD [DecidableEq α] {R : Rp α} (d : DtO K R) (hd : d.dep ≤ 64) : OpT K (rEqD K) R R (gEq d.enc) aB := fun T H v w a b Q hT pa pb ⟨c, hc, k⟩ => by
  unfold gEq at hc
  split at hc
  · rename_i hl
    cases hc
    refine ⟨_, _, d.dp pa, d.dp pb, shaped_of hl.1 (d.hdep a) hd, shaped_of hl.2 (d.hdep b) hd, k _ H (Same.refl _) ?_⟩
    rw [eqv_dec d hl.1]
    rfl
  · cases hc
theorem ot_neD [DecidableEq α] {R : Rp α} (d : DtO K R) (hd : d.dep ≤ 64) : OpT K (rNeD K) R R (gNe d.enc) aB := fun T H v w a b Q hT pa pb ⟨c, hc, k⟩ => by
  unfold gNe at hc
  split at hc
  · rename_i hl
    cases hc
    refine ⟨_, _, d.dp pa, d.dp pb, shaped_of hl.1 (d.hdep a) hd, shaped_of hl.2 (d.hdep b) hd, k _ H (Same.refl _) ?_⟩
    rw [eqv_dec d hl.1]
    rfl
  · cases hc
/-- x in a list -/
def gIn [DecidableEq α] (e : α → PyData) (a : α) (xs : List α) : Option Bool := if (e a).canLay0 = true ∧ PyData.canLayAll0 (xs.map e) = true then some (decide (a ∈ xs)) else none
def gNin [DecidableEq α] (e : α → PyData) (a : α) (xs : List α) : Option Bool := if (e a).canLay0 = true ∧ PyData.canLayAll0 (xs.map e) = true then some (!decide (a ∈ xs)) else none
theorem any_mem [DecidableEq α] {R : Rp α} (d : DtO K R) {a : α} : ∀ {xs : List α}, PyData.canLayAll0 (xs.map d.enc) = true → ((xs.map d.enc).any fun z => PyData.eqv z (d.enc a)) = decide (a ∈ xs)
  | [], _ => rfl
  | x :: xs, h => by
    rw [List.map_cons, PyData.canLayAll0, Bool.and_eq_true] at h
    rw [List.map_cons, List.any_cons, any_mem d h.2, eqv_dec d h.1]
    by_cases e : x = a
    · subst e
      simp
    · have e2 : ¬ a = x := fun z => e z.symm
      simp [e, e2]
theorem ot_inD [DecidableEq α] {R : Rp α} (d : DtO K R) (hd : d.dep ≤ 63) : OpT K (rInD K) R (aLst K R) (gIn d.enc) aB := fun T H v w a b Q hT pa pb ⟨c, hc, k⟩ => by
  unfold gIn at hc
  split at hc
  · rename_i hl
    cases hc
    obtain ⟨x, vs, rfl, hx, hp⟩ := pb
    have hq := dpAllO d hp
    refine ⟨_, _, d.dp pa, .lst hx.sq hq, shaped_of hl.1 (d.hdep a) (by omega), ?_, k _ H (Same.refl _) ?_⟩
    · refine shaped_of (d := .list (b.map d.enc)) (n := d.dep + 1) (by simpa [PyData.canLay0] using hl.2) (Nat.succ_le_succ (depthAll_of d.hdep b)) (by omega)
    · rw [any_mem d hl.2]
      rfl
  · cases hc
theorem ot_ninD [DecidableEq α] {R : Rp α} (d : DtO K R) (hd : d.dep ≤ 63) : OpT K (rNotInD K) R (aLst K R) (gNin d.enc) aB := fun T H v w a b Q hT pa pb ⟨c, hc, k⟩ => by
  unfold gNin at hc
  split at hc
  · rename_i hl
    cases hc
    obtain ⟨x, vs, rfl, hx, hp⟩ := pb
    have hq := dpAllO d hp
    refine ⟨_, _, d.dp pa, .lst hx.sq hq, shaped_of hl.1 (d.hdep a) (by omega), ?_, k _ H (Same.refl _) ?_⟩
    · refine shaped_of (d := .list (b.map d.enc)) (n := d.dep + 1) (by simpa [PyData.canLay0] using hl.2) (Nat.succ_le_succ (depthAll_of d.hdep b)) (by omega)
    · rw [any_mem d hl.2]
      rfl
  · cases hc
/-! ### numbers -/
def gAdd (a b : Int) : Option Int := some (a + b)
def gSbt (a b : Int) : Option Int := some (a - b)
noncomputable def gMul (a b : Int) : Option Int := @ite _ (((-(2 ^ 64) < a ∧ a < 2 ^ 64) ∨ (-(2 ^ 64) < b ∧ b < 2 ^ 64)) ∨ a.natAbs.log2 + b.natAbs.log2 < 1000000) (Classical.propDecidable _) (some (a * b)) none
theorem op_mulA {X : Cx} : OpR X (binaryOp .Mult) (rI (fun i j => CMul i j ∨ CMulW i j) fun i j => .int (i * j)) := opI fun _ _ _ _ _ _ _ hc q => mul_int q (hc.elim (fun h => h.ok) fun h => h.ok)
theorem gMul_l {a b : Int} (h : -(2 ^ 64) < a ∧ a < 2 ^ 64) : gMul a b = some (a * b) := if_pos (.inl (.inl h))
theorem gMul_r {a b : Int} (h : -(2 ^ 64) < b ∧ b < 2 ^ 64) : gMul a b = some (a * b) := if_pos (.inl (.inr h))
theorem gMul_m {a b : Int} {x y : Nat} (ha : a.natAbs < 2 ^ x) (hb : b.natAbs < 2 ^ y) (h0 : 0 < x) (h1 : 0 < y) (h : x + y ≤ 1000000) : gMul a b = some (a * b) := if_pos (.inr (wide_mul ha hb h0 h1 h))

def gMod (a b : Int) : Option Int := if 0 < b then some (a % b) else none
noncomputable def gDiv (a b : Int) : Option Int := @ite _ (0 < b ∧ b.natAbs.log2 < 9000) (Classical.propDecidable _) (some (a / b)) none
def gPow (a b : Int) : Option Int := if 0 ≤ b ∧ b ≤ 1000000 ∧ a.natAbs < 2 ^ 64 then some (a ^ b.toNat) else none
noncomputable def gShl (a b : Int) : Option Int := @ite _ (0 ≤ b ∧ b ≤ 1000000 ∧ a.natAbs < 2 ^ 64) (Classical.propDecidable _) (some (a * 2 ^ b.toNat)) none
def gLt (a b : Int) : Option Bool := some (decide (a < b))
def gLe (a b : Int) : Option Bool := some (decide (a ≤ b))
def gGt (a b : Int) : Option Bool := some (decide (b < a))
def gGe (a b : Int) : Option Bool := some (decide (b ≤ a))
def gEqI (a b : Int) : Option Bool := some (decide (a = b))
def gNeI (a b : Int) : Option Bool := some (!decide (a = b))
def gNeg (a : Int) : Option Int := some (-a)
theorem ot_add : OpT K (rI0 fun i j => .int (i + j)) aI aI gAdd aI := fun T H v w a b Q hT pa pb ⟨c, hc, k⟩ => by cases hc; exact ⟨a, b, pa, pb, k _ H (Same.refl _) rfl⟩
theorem ot_sub : OpT K (rI0 fun i j => .int (i - j)) aI aI gSbt aI := fun T H v w a b Q hT pa pb ⟨c, hc, k⟩ => by cases hc; exact ⟨a, b, pa, pb, k _ H (Same.refl _) rfl⟩
theorem gMod_p {a b : Int} (h : 0 < b) : gMod a b = some (a % b) := if_pos h
theorem gDiv_p {a b : Int} {x : Nat} (h : 0 < b) (hb : b.natAbs < 2 ^ x) (h0 : 0 < x) (h9 : x ≤ 9000) : gDiv a b = some (a / b) := if_pos (show 0 < b ∧ b.natAbs.log2 < 9000 from wide_div (i := a) h hb h0 h9)
theorem gPow_p {a b : Int} (h : 0 ≤ b ∧ b ≤ 1000000 ∧ a.natAbs < 2 ^ 64) : gPow a b = some (a ^ b.toNat) := if_pos h
theorem ot_mul : OpT K (rI (fun i j => CMul i j ∨ CMulW i j) fun i j => .int (i * j)) aI aI gMul aI := fun T H v w a b Q hT pa pb ⟨c, hc, k⟩ => by
  unfold gMul at hc
  split at hc
  · rename_i h; cases hc; exact ⟨a, b, pa, pb, h, k _ H (Same.refl _) rfl⟩
  · cases hc
theorem ot_mod : OpT K (rI (fun _ j => 0 < j) fun i j => .int (i % j)) aI aI gMod aI := fun T H v w a b Q hT pa pb ⟨c, hc, k⟩ => by
  unfold gMod at hc
  split at hc
  · rename_i h; cases hc; exact ⟨a, b, pa, pb, h, k _ H (Same.refl _) rfl⟩
  · cases hc
theorem ot_div : OpT K (rI CDivW fun i j => .int (i / j)) aI aI gDiv aI := fun T H v w a b Q hT pa pb ⟨c, hc, k⟩ => by
  unfold gDiv at hc
  split at hc
  · rename_i h; cases hc; exact ⟨a, b, pa, pb, h, k _ H (Same.refl _) rfl⟩
  · cases hc
theorem ot_pow : OpT K (rI CPow fun i j => .int (i ^ j.toNat)) aI aI gPow aI := fun T H v w a b Q hT pa pb ⟨c, hc, k⟩ => by
  unfold gPow at hc
  split at hc
  · rename_i h; cases hc; exact ⟨a, b, pa, pb, h, k _ H (Same.refl _) rfl⟩
  · cases hc
theorem ot_shl : OpT K (rI CPow fun i j => .int (i * 2 ^ j.toNat)) aI aI gShl aI := fun T H v w a b Q hT pa pb ⟨c, hc, k⟩ => by
  unfold gShl at hc
  split at hc
  · rename_i h; cases hc; exact ⟨a, b, pa, pb, h, k _ H (Same.refl _) rfl⟩
  · cases hc
theorem ot_lt : OpT K (rI0 fun i j => .bl (decide (i < j))) aI aI gLt aB := fun T H v w a b Q hT pa pb ⟨c, hc, k⟩ => by cases hc; exact ⟨a, b, pa, pb, k _ H (Same.refl _) rfl⟩
theorem ot_le : OpT K (rI0 fun i j => .bl (decide (i ≤ j))) aI aI gLe aB := fun T H v w a b Q hT pa pb ⟨c, hc, k⟩ => by cases hc; exact ⟨a, b, pa, pb, k _ H (Same.refl _) rfl⟩
theorem ot_gt : OpT K (rI0 fun i j => .bl (decide (j < i))) aI aI gGt aB := fun T H v w a b Q hT pa pb ⟨c, hc, k⟩ => by cases hc; exact ⟨a, b, pa, pb, k _ H (Same.refl _) rfl⟩
theorem ot_ge : OpT K (rI0 fun i j => .bl (decide (j ≤ i))) aI aI gGe aB := fun T H v w a b Q hT pa pb ⟨c, hc, k⟩ => by cases hc; exact ⟨a, b, pa, pb, k _ H (Same.refl _) rfl⟩
theorem ot_eq : OpT K rEq aI aI gEqI aB := fun T H v w a b Q hT pa pb ⟨c, hc, k⟩ => by
  cases hc
  rw [show v = .int a from pa, show w = .int b from pb]
  exact ⟨rfl, k _ H (Same.refl _) (by show V.bl _ = V.bl _; congr 1; simp)⟩
theorem ot_ne : OpT K rNe aI aI gNeI aB := fun T H v w a b Q hT pa pb ⟨c, hc, k⟩ => by
  cases hc
  rw [show v = .int a from pa, show w = .int b from pb]
  exact ⟨rfl, k _ H (Same.refl _) (by show V.bl _ = V.bl _; congr 1; simp)⟩
def gEqB (a b : Bool) : Option Bool := some (decide (a = b))
def gNeB (a b : Bool) : Option Bool := some (!decide (a = b))
def gEqS (a b : Str) : Option Bool := some (decide (a = b))
def gNeS (a b : Str) : Option Bool := some (!decide (a = b))
theorem ot_eqB : OpT K rEq aB aB gEqB aB := fun T H v w a b Q hT pa pb ⟨c, hc, k⟩ => by
  cases hc
  rw [show v = .bl a from pa, show w = .bl b from pb]
  exact ⟨rfl, k _ H (Same.refl _) (by show V.bl _ = V.bl _; congr 1; simp)⟩
theorem ot_neB : OpT K rNe aB aB gNeB aB := fun T H v w a b Q hT pa pb ⟨c, hc, k⟩ => by
  cases hc
  rw [show v = .bl a from pa, show w = .bl b from pb]
  exact ⟨rfl, k _ H (Same.refl _) (by show V.bl _ = V.bl _; congr 1; simp)⟩
theorem ot_eqS : OpT K rEq aS aS gEqS aB := fun T H v w a b Q hT pa pb ⟨c, hc, k⟩ => by
  cases hc
  rw [show v = .str a from pa, show w = .str b from pb]
  exact ⟨rfl, k _ H (Same.refl _) (by show V.bl _ = V.bl _; congr 1; simp)⟩
theorem ot_neS : OpT K rNe aS aS gNeS aB := fun T H v w a b Q hT pa pb ⟨c, hc, k⟩ => by
  cases hc
  rw [show v = .str a from pa, show w = .str b from pb]
  exact ⟨rfl, k _ H (Same.refl _) (by show V.bl _ = V.bl _; congr 1; simp)⟩
def gIs (a b : Bool) : Option Bool := some (decide (a = b))
def gIsnt (a b : Bool) : Option Bool := some (!decide (a = b))
theorem ot_isB : OpT K (fun x y H Q => ∃ a b, x = .bl a ∧ y = .bl b ∧ Q (.bl (decide (a = b))) H) aB aB gIs aB := fun T H v w a b Q hT pa pb ⟨c, hc, k⟩ => by cases hc; exact ⟨a, b, pa, pb, k _ H (Same.refl _) rfl⟩
theorem ot_isntB : OpT K (fun x y H Q => ∃ a b, x = .bl a ∧ y = .bl b ∧ Q (.bl (!decide (a = b))) H) aB aB gIsnt aB := fun T H v w a b Q hT pa pb ⟨c, hc, k⟩ => by cases hc; exact ⟨a, b, pa, pb, k _ H (Same.refl _) rfl⟩
/-- is None -/
def gIsN (a : Option α) (_ : Unit) : Option Bool := some a.isNone
def gIsntN (a : Option α) (_ : Unit) : Option Bool := some a.isSome
theorem ot_isN {R : Rp α} : OpT K (fun x y H Q => y = .non ∧ Q (.bl (decide (x = .non))) H) (aOpt R) aN gIsN aB := fun T H v w a b Q hT pa pb ⟨c, hc, k⟩ => by
  cases hc
  refine ⟨pb, k _ H (Same.refl _) ?_⟩
  rcases pa with ⟨rfl, rfl⟩ | ⟨y, rfl, p, n⟩
  · rfl
  · show V.bl _ = V.bl _
    rw [decide_eq_false n]
    rfl
theorem ot_isntN {R : Rp α} : OpT K (fun x y H Q => y = .non ∧ Q (.bl (!decide (x = .non))) H) (aOpt R) aN gIsntN aB := fun T H v w a b Q hT pa pb ⟨c, hc, k⟩ => by
  cases hc
  refine ⟨pb, k _ H (Same.refl _) ?_⟩
  rcases pa with ⟨rfl, rfl⟩ | ⟨y, rfl, p, n⟩
  · rfl
  · show V.bl _ = V.bl _
    rw [decide_eq_false n]
    rfl
theorem ut_neg : UnT K (rU fun i => .int (-i)) aI gNeg aI := fun T H v a Q hT pa ⟨c, hc, k⟩ => by cases hc; exact ⟨a, pa, k _ H (Same.refl _) rfl⟩
/-! ### flat items -/
def fvI (n : Int) : V := .int n
theorem inV_ints (n : Int) : ∀ ns : List Int, inV (.int n) (ns.map V.int) = decide (n ∈ ns)
  | [] => rfl
  | m :: ns => by
    have ih := inV_ints n ns
    unfold inV at ih ⊢
    rw [List.map_cons, List.any_cons, ih]
    show ((m == n) || _) = _
    by_cases e : m = n
    · subst e; simp
    · have e2 : ¬ n = m := fun z => e z.symm
      simp [e, e2]
theorem inV_strs (n : Str) : ∀ ns : List Str, inV (.str n) (ns.map V.str) = decide (n ∈ ns)
  | [] => rfl
  | m :: ns => by
    have ih := inV_strs n ns
    unfold inV at ih ⊢
    rw [List.map_cons, List.any_cons, ih]
    show ((m == n) || _) = _
    by_cases e : m = n
    · subst e; simp
    · have e2 : ¬ n = m := fun z => e z.symm
      simp [e, e2]
theorem flat_ints : ∀ ns : List Int, (ns.map V.int).all flatV = true
  | [] => rfl
  | _ :: ns => flat_ints ns
theorem flat_strs : ∀ ns : List Str, (ns.map V.str).all flatV = true
  | [] => rfl
  | _ :: ns => flat_strs ns
theorem paired_ints {T : ASet} {H : Hp} {vs : List V} {ns : List Int} (h : Paired (aI.P T H) vs ns) : vs = ns.map V.int := by
  induction h with
  | nil => rfl
  | cons a _ ih => rw [show _ = _ from a, ih]; rfl
theorem paired_strs {T : ASet} {H : Hp} {vs : List V} {ns : List Str} (h : Paired (aS.P T H) vs ns) : vs = ns.map V.str := by
  induction h with
  | nil => rfl
  | cons a _ ih => rw [show _ = _ from a, ih]; rfl
theorem paired_bls {T : ASet} {H : Hp} {vs : List V} {ns : List Bool} (h : Paired (aB.P T H) vs ns) : vs = ns.map V.bl := by
  induction h with
  | nil => rfl
  | cons a _ ih => rw [show _ = _ from a, ih]; rfl
theorem ints_paired {T : ASet} {H : Hp} : ∀ ns : List Int, Paired (aI.P T H) (ns.map V.int) ns
  | [] => .nil
  | _ :: ns => .cons rfl (ints_paired ns)
def gMem [DecidableEq α] (a : α) (xs : List α) : Option Bool := some (decide (a ∈ xs))
def gNmem [DecidableEq α] (a : α) (xs : List α) : Option Bool := some (!decide (a ∈ xs))
theorem ot_inT : OpT K (rIn K false) aI (aTup aI) gMem aB := fun T H v w a b Q hT pa pb ⟨c, hc, k⟩ => by
  cases hc
  obtain ⟨x, vs, rfl, hx, hp⟩ := pb
  have e := paired_ints hp
  subst e
  rw [show v = .int a from pa]
  exact ⟨x, _, rfl, .inr (SqT.of hx), rfl, flat_ints b, k _ H (Same.refl _) (by show V.bl _ = V.bl _; rw [if_neg (by decide), inV_ints])⟩
theorem ot_ninT : OpT K (rIn K true) aI (aTup aI) gNmem aB := fun T H v w a b Q hT pa pb ⟨c, hc, k⟩ => by
  cases hc
  obtain ⟨x, vs, rfl, hx, hp⟩ := pb
  have e := paired_ints hp
  subst e
  rw [show v = .int a from pa]
  exact ⟨x, _, rfl, .inr (SqT.of hx), rfl, flat_ints b, k _ H (Same.refl _) (by show V.bl _ = V.bl _; rw [if_pos rfl, inV_ints])⟩
theorem ot_inTS : OpT K (rIn K false) aS (aTup aS) gMem aB := fun T H v w a b Q hT pa pb ⟨c, hc, k⟩ => by
  cases hc
  obtain ⟨x, vs, rfl, hx, hp⟩ := pb
  have e := paired_strs hp
  subst e
  rw [show v = .str a from pa]
  exact ⟨x, _, rfl, .inr (SqT.of hx), rfl, flat_strs b, k _ H (Same.refl _) (by show V.bl _ = V.bl _; rw [if_neg (by decide), inV_strs])⟩
theorem ot_ninTS : OpT K (rIn K true) aS (aTup aS) gNmem aB := fun T H v w a b Q hT pa pb ⟨c, hc, k⟩ => by
  cases hc
  obtain ⟨x, vs, rfl, hx, hp⟩ := pb
  have e := paired_strs hp
  subst e
  rw [show v = .str a from pa]
  exact ⟨x, _, rfl, .inr (SqT.of hx), rfl, flat_strs b, k _ H (Same.refl _) (by show V.bl _ = V.bl _; rw [if_pos rfl, inV_strs])⟩
/-! ### sequences -/
def gIx (xs : List α) (i : Int) : Option α := atI xs i
theorem atI_pair {P : V → α → Prop} {vs : List V} {xs : List α} (h : Paired P vs xs) {i : Int} {a : α} (e : atI xs i = some a) : ∃ v, atI vs i = some v ∧ P v a := by
  unfold atI at e ⊢
  rw [Paired.length h]
  cases z : ixN xs.length i with
  | none => rw [z] at e; cases e
  | some j =>
    rw [z] at e
    have e : xs[j]? = some a := e
    show ∃ v, vs[j]? = some v ∧ P v a
    have hj := (List.getElem?_eq_some_iff.mp e).1
    have hv : vs[j]? = some (vs[j]'(by rw [Paired.length h]; exact hj)) := List.getElem?_eq_getElem _
    obtain ⟨b, h1, h2⟩ := pairGet h hv
    rw [e] at h1
    cases h1
    exact ⟨_, hv, h2⟩
theorem ot_ixL {R : Rp α} : OpT K (rIxL K) (aLst K R) aI gIx R := fun T H v w a b Q hT pa pb ⟨c, hc, k⟩ => by
  obtain ⟨x, vs, rfl, hx, hp⟩ := pa
  obtain ⟨y, h1, h2⟩ := atI_pair hp hc
  exact ⟨x, vs, b, y, rfl, pb, hx.sq, h1, k _ H (Same.refl _) h2⟩
theorem ot_ixT {R : Rp α} : OpT K (rIxT K) (aTup R) aI gIx R := fun T H v w a b Q hT pa pb ⟨c, hc, k⟩ => by
  obtain ⟨x, vs, rfl, hx, hp⟩ := pa
  obtain ⟨y, h1, h2⟩ := atI_pair hp hc
  exact ⟨x, vs, b, y, rfl, pb, SqT.of hx, h1, k _ H (Same.refl _) h2⟩
/-- an item of a pair -/
def gFst (x : α × β) (i : Int) : Option α := if i = 0 ∨ i = -2 then some x.1 else none
def gSnd (x : α × β) (i : Int) : Option β := if i = 1 ∨ i = -1 then some x.2 else none
theorem ot_fst {R : Rp α} {R2 : Rp β} : OpT K (rIxT K) (aT2 R R2) aI gFst R := fun T H v w a b Q hT pa pb ⟨c, hc, k⟩ => by
  obtain ⟨x, v1, v2, rfl, hx, p1, p2⟩ := pa
  unfold gFst at hc
  split at hc
  · rename_i h
    cases hc
    refine ⟨x, _, b, v1, rfl, pb, SqT.of hx, ?_, k _ H (Same.refl _) p1⟩
    rcases h with rfl | rfl <;> rfl
  · cases hc
theorem ot_snd {R : Rp α} {R2 : Rp β} : OpT K (rIxT K) (aT2 R R2) aI gSnd R2 := fun T H v w a b Q hT pa pb ⟨c, hc, k⟩ => by
  obtain ⟨x, v1, v2, rfl, hx, p1, p2⟩ := pa
  unfold gSnd at hc
  split at hc
  · rename_i h
    cases hc
    refine ⟨x, _, b, v2, rfl, pb, SqT.of hx, ?_, k _ H (Same.refl _) p2⟩
    rcases h with rfl | rfl <;> rfl
  · cases hc
noncomputable def gCat (xs ys : List α) : Option (List α) := @ite _ (xs.length + ys.length ≤ sizeLine) (Classical.propDecidable _) (some (xs ++ ys)) none
theorem on_cat {R : Rp α} : OpN K (rCatR K) (aLst K R) (aLst K R) gCat R := fun T H v w a b Q hT pa pb ⟨c, hc, k⟩ => by
  unfold gCat at hc
  split at hc
  · rename_i h
    cases hc
    obtain ⟨x, vs, rfl, hx, hp⟩ := pa
    obtain ⟨y, ws, rfl, hy, hq⟩ := pb
    refine ⟨x, y, vs, ws, rfl, rfl, hx.sq, hy.sq, by rw [Paired.length hp, Paired.length hq]; exact h, fun D nD => ?_⟩
    have s := Same.new0 (o := HO.lst (vs ++ ws)) nD
    refine k D _ _ s nD upd_same (paired_app ?_ ?_)
    · exact Paired.mapP hp fun _ _ z => R.keep (R.shift z fun b hb => hb.imp id fun e => by rw [e]; exact nD) (s.keepS _)
    · exact Paired.mapP hq fun _ _ z => R.keep (R.shift z fun b hb => hb.imp id fun e => by rw [e]; exact nD) (s.keepS _)
  · cases hc
theorem ot_catT {R : Rp α} : OpT K (rCatA K) (aTup R) (aTup R) gCat (aTup R) := fun T H v w a b Q hT pa pb ⟨c, hc, k⟩ => by
  unfold gCat at hc
  split at hc
  · rename_i h
    cases hc
    obtain ⟨x, vs, rfl, hx, hp⟩ := pa
    obtain ⟨y, ws, rfl, hy, hq⟩ := pb
    refine ⟨x, y, vs, ws, rfl, rfl, SqT.of hx, SqT.of hy, by rw [Paired.length hp, Paired.length hq]; exact h, fun e => ?_, fun _ e => ?_, fun _ _ p np => ?_⟩
    · subst e
      cases hp
      exact k _ H (Same.refl _) ⟨y, ws, rfl, hy, hq⟩
    · subst e
      cases hq
      rw [List.append_nil] at k
      exact k _ H (Same.refl _) ⟨x, vs, rfl, hx, hp⟩
    · have s := Same.new0 (o := HO.tup (vs ++ ws)) np
      exact k _ _ s ⟨p, _, rfl, upd_same, paired_app (Paired.mapP hp fun _ _ z => R.keep z (s.keepS _)) (Paired.mapP hq fun _ _ z => R.keep z (s.keepS _))⟩
  · cases hc
noncomputable def gRep (xs : List α) (n : Int) : Option (List α) := @ite _ (-(2 ^ 63) ≤ n ∧ n < 2 ^ 63 ∧ xs.length * n.toNat ≤ sizeLine) (Classical.propDecidable _) (some (List.replicate n.toNat xs).flatten) none
noncomputable def gRepT (xs : List α) (n : Int) : Option (List α) := @ite _ (xs.length ≠ 0 ∧ 2 ≤ n ∧ n ≤ 1000 ∧ xs.length ≤ 1000) (Classical.propDecidable _) (some (List.replicate n.toNat xs).flatten) none
theorem paired_rep {β' γ' : Type} {P : β' → γ' → Prop} {vs : List β'} {xs : List γ'} (h : Paired P vs xs) : ∀ n : Nat, Paired P (List.replicate n vs).flatten (List.replicate n xs).flatten
  | 0 => .nil
  | n + 1 => by
    rw [List.replicate_succ, List.replicate_succ, List.flatten_cons, List.flatten_cons]
    exact paired_app h (paired_rep h n)
theorem ot_repT {R : Rp α} : OpT K (rRepT K) (aTup R) aI gRepT (aTup R) := fun T H v w a b Q hT pa pb ⟨c, hc, k⟩ => by
  unfold gRepT at hc
  split at hc
  · rename_i h
    cases hc
    obtain ⟨x, vs, rfl, hx, hp⟩ := pa
    have hl := Paired.length hp
    refine ⟨x, b, vs, rfl, pb, SqT.of hx, fun e => h.1 (by rw [← hl, e]; rfl), h.2.1, h.2.2.1, by rw [hl]; exact h.2.2.2, fun p np => ?_⟩
    have s := Same.new0 (o := HO.tup (List.replicate b.toNat vs).flatten) np
    exact k _ _ s ⟨p, _, rfl, upd_same, Paired.mapP (paired_rep hp _) fun _ _ z => R.keep z (s.keepS _)⟩
  · cases hc
/-! ### slices -/
def cutA {α : Type} (xs : List α) (lo hi : Option Int) : List α := (xs.drop (HT.sIx xs.length 0 lo)).take (HT.sIx xs.length xs.length hi - HT.sIx xs.length 0 lo)
theorem paired_drop {β' γ' : Type} {P : β' → γ' → Prop} : ∀ {vs : List β'} {xs : List γ'} (n : Nat), Paired P vs xs → Paired P (vs.drop n) (xs.drop n)
  | _, _, 0, h => h
  | _, _, _ + 1, .nil => .nil
  | _, _, n + 1, .cons _ t => paired_drop n t
theorem paired_take {β' γ' : Type} {P : β' → γ' → Prop} : ∀ {vs : List β'} {xs : List γ'} (n : Nat), Paired P vs xs → Paired P (vs.take n) (xs.take n)
  | _, _, 0, _ => .nil
  | _, _, _ + 1, .nil => .nil
  | _, _, n + 1, .cons h t => .cons h (paired_take n t)
theorem paired_cut {P : V → α → Prop} {vs : List V} {xs : List α} (lo hi : Option Int) (h : Paired P vs xs) : Paired P (cutV vs lo hi) (cutA xs lo hi) := by
  unfold cutV cutA
  rw [Paired.length h]
  exact paired_take _ (paired_drop _ h)
variable {υ δ : Type} {F : Fx υ} {Γ : List Cl} {Δ : Dl δ}
/-- an optional part of a slice -/
def TOj (F : Fx υ) (Γ : List Cl) (Δ : Dl δ) (t : TO) (m : δ → Res (Er × δ) (Option Int × δ)) : Prop :=
  ∀ Ds d σ H (Q : Option Int → Hp → Prop), En F Γ Δ Ds d σ H → After F Γ Δ Ds σ H (m d) (fun a _ H' => Q a H') → t σ H Q
theorem to_no : TOj F Γ Δ tNoPart (fun d => .ok (none, d)) := fun Ds d σ H Q e q => q.ok e
theorem to_some {t : TE} {m : δ → Res (Er × δ) (Int × δ)} {c : Bool} (h : TEj F Γ Δ t m aI c) : TOj F Γ Δ (tPart t) (fun d => (m d).bd fun a d => .ok (some a, d)) := fun Ds d σ H Q e q => h Ds d σ H _ e ((q.bind).mono fun a d' H' e' _ k v p => ⟨a, p, After.ok k e'⟩)
theorem tn_slL {t : TE} {tl th : TO} {R : Rp α} {c : Bool} {m : δ → Res (Er × δ) (List α × δ)} {ml mh : δ → Res (Er × δ) (Option Int × δ)} (h : TEj F Γ Δ t m (aLst F.K R) c) (hl : TOj F Γ Δ tl ml) (hh : TOj F Γ Δ th mh) :
    TNj F Γ Δ (tSl (rSlL F.K) t tl th) (fun d => (m d).bd fun a d => (ml d).bd fun l d => (mh d).bd fun u d => .ok (cutA a l u, d)) R c := fun Ds d σ H Q e q => by
  refine h Ds d σ H _ e ((q.bind).mono fun xs d1 H1 e1 k1 q1 v pv => ?_)
  refine hl Ds d1 σ H1 _ e1 ((q1.bind).mono fun l d2 H2 e2 k2 q2 => ?_)
  refine hh Ds d2 σ H2 _ e2 ((q2.bind).mono fun u d3 H3 e3 k3 q3 => ?_)
  have pv := (aLst F.K R).keep pv ((k2.trans k3).soft _)
  obtain ⟨x, vs, rfl, hx, hp⟩ := pv
  refine ⟨x, vs, rfl, hx.sq, fun D nD => ?_⟩
  have s := Same.new0 (o := HO.lst (cutV vs l u)) nD
  refine (q3 _ (e3.same s) (s.keepS _)) D _ (k1.free (k2.free (k3.free nD))) upd_same (Paired.mapP (paired_cut l u hp) fun _ _ z => R.keep (R.shift z fun b hb => hb.imp id fun e => by rw [e]; exact nD) (s.keepS _))
theorem tj_slT {t : TE} {tl th : TO} {R : Rp α} {c : Bool} {m : δ → Res (Er × δ) (List α × δ)} {ml mh : δ → Res (Er × δ) (Option Int × δ)} (h : TEj F Γ Δ t m (aTup R) c) (hl : TOj F Γ Δ tl ml) (hh : TOj F Γ Δ th mh) :
    TEj F Γ Δ (tSl (rSlA F.K) t tl th) (fun d => (m d).bd fun a d => (ml d).bd fun l d => (mh d).bd fun u d => .ok (cutA a l u, d)) (aTup R) c := fun Ds d σ H Q e q => by
  refine h Ds d σ H _ e ((q.bind).mono fun xs d1 H1 e1 k1 q1 v pv => ?_)
  refine hl Ds d1 σ H1 _ e1 ((q1.bind).mono fun l d2 H2 e2 k2 q2 => ?_)
  refine hh Ds d2 σ H2 _ e2 ((q2.bind).mono fun u d3 H3 e3 k3 q3 => ?_)
  have pv := (aTup R).keep pv ((k2.trans k3).soft _)
  obtain ⟨x, vs, rfl, hx, hp⟩ := pv
  have hlen := Paired.length hp
  refine ⟨x, vs, rfl, SqT.of hx, fun hw => ?_, fun hw p np => ?_⟩
  · refine After.ok q3 e3 _ ⟨x, vs, rfl, hx, ?_⟩
    rw [hlen] at hw
    unfold cutA
    rw [hw.1, hw.2, List.drop_zero, Nat.sub_zero, List.take_length]
    exact hp
  · have s := Same.new0 (o := HO.tup (cutV vs l u)) np
    exact (q3 _ (e3.same s) (s.keepS _)) _ ⟨p, _, rfl, upd_same, Paired.mapP (paired_cut l u hp) fun _ _ z => R.keep z (s.keepS _)⟩
theorem tn_revL {t : TE} {R : Rp α} {c : Bool} {m : δ → Res (Er × δ) (List α × δ)} (h : TEj F Γ Δ t m (aLst F.K R) c) : TNj F Γ Δ (tRevL F.K t) (fun d => (m d).bd fun a d => .ok (a.reverse, d)) R c := fun Ds d σ H Q e q => by
  refine h Ds d σ H _ e ((q.bind).mono fun xs d1 H1 e1 k1 q1 v pv => ?_)
  obtain ⟨x, vs, rfl, hx, hp⟩ := pv
  refine ⟨x, vs, rfl, hx.sq, fun D nD => ?_⟩
  have s := Same.new0 (o := HO.lst vs.reverse) nD
  have hr : Paired (R.P (soft c F Ds) H1) vs.reverse xs.reverse := by
    clear hx s q1
    induction hp with
    | nil => exact .nil
    | cons a _ ih => rw [List.reverse_cons, List.reverse_cons]; exact Paired.snoc ih a
  exact (q1 _ (e1.same s) (s.keepS _)) D _ (k1.free nD) upd_same (Paired.mapP hr fun _ _ z => R.keep (R.shift z fun b hb => hb.imp id fun e => by rw [e]; exact nD) (s.keepS _))
/-! ### built-ins -/
def CbT (r : List V → Hp → VK → Prop) (A : Al α) (g : α → Option γ) (Rc : Rp γ) : Prop := ∀ (T : ASet) (H : Hp) (vs : List V) (a : α) (Q : VK), (∀ x, T x → H x ≠ none) → A.P T H vs a → (∃ c, g a = some c ∧ ∀ z H', Same H H' → Rc.P T H' z c → Q z H') → r vs H Q
def CbN (r : List V → Hp → VK → Prop) (A : Al α) (g : α → Option (List γ)) (Rc : Rp γ) : Prop := ∀ (T : ASet) (H : Hp) (vs : List V) (a : α) (Q : VK), (∀ x, T x → H x ≠ none) → A.P T H vs a → (∃ c, g a = some c ∧ ∀ D ws H', Same H H' → H D = none → H' D = some (.lst ws) → Paired (Rc.P (fun x => T x ∨ x = D) H') ws c → Q (.ref D) H') → r vs H Q
theorem tj_cb {r : List V → Hp → VK → Prop} {A : Al α} {g : α → Option γ} {Rc : Rp γ} {t : TA} {m : δ → Res (Er × δ) (α × δ)} {c : Bool} (hr : CbT r A g Rc) (h : TAj F Γ Δ t m A c) : TEj F Γ Δ (tCB r t) (fun d => (m d).bd fun a d => optAt (g a) d) Rc c := fun Ds d σ H Q e q => by
  refine h Ds d σ H _ e ((q.bind).mono fun a d1 H1 e1 k1 q1 vs pv => ?_)
  obtain ⟨x, hx, k⟩ := q1.opt e1
  exact hr _ H1 vs a Q (fun x hx => e1.live x (soft_le hx)) pv ⟨x, hx, fun z H' s p => k H' s z p⟩
theorem tn_cb {r : List V → Hp → VK → Prop} {A : Al α} {g : α → Option (List γ)} {Rc : Rp γ} {t : TA} {m : δ → Res (Er × δ) (α × δ)} {c : Bool} (hr : CbN r A g Rc) (h : TAj F Γ Δ t m A c) : TNj F Γ Δ (tCB r t) (fun d => (m d).bd fun a d => optAt (g a) d) Rc c := fun Ds d σ H Q e q => by
  refine h Ds d σ H _ e ((q.bind).mono fun a d1 H1 e1 k1 q1 vs pv => ?_)
  obtain ⟨x, hx, k⟩ := q1.opt e1
  exact hr _ H1 vs a Q (fun x hx => e1.live x (soft_le hx)) pv ⟨x, hx, fun D ws H' s n hD p => k H' s D ws (k1.free n) hD p⟩
def gLen (a : List α × Unit) : Option Int := some (a.1.length : Int)
theorem cb_lenL {R : Rp α} : CbT (fun xs H Q => ∃ p ys, xs = [.ref p] ∧ (SqL K H p ys ∨ SqT K H p ys) ∧ Q (.int ys.length) H) (.cons (aLst K R) .nil) gLen aI := fun T H vs a Q hT pa ⟨c, hc, k⟩ => by
  cases hc
  obtain ⟨v, ws, rfl, ⟨x, us, rfl, hx, hp⟩, rfl⟩ := pa
  exact ⟨x, us, rfl, .inl hx.sq, k _ H (Same.refl _) (by show V.int _ = V.int _; rw [Paired.length hp])⟩
theorem cb_lenT {R : Rp α} : CbT (fun xs H Q => ∃ p ys, xs = [.ref p] ∧ (SqL K H p ys ∨ SqT K H p ys) ∧ Q (.int ys.length) H) (.cons (aTup R) .nil) gLen aI := fun T H vs a Q hT pa ⟨c, hc, k⟩ => by
  cases hc
  obtain ⟨v, ws, rfl, ⟨x, us, rfl, hx, hp⟩, rfl⟩ := pa
  exact ⟨x, us, rfl, .inr (SqT.of hx), k _ H (Same.refl _) (by show V.int _ = V.int _; rw [Paired.length hp])⟩
/-- tuple(l) -/
def gId (a : α × Unit) : Option α := some a.1
theorem cb_tuple {R : Rp α} : CbT (fun xs H Q => ∃ p ys, xs = [.ref p] ∧ ((SqL K H p ys ∧ ∀ l, H l = none → Q (.ref l) (upd H l (.tup ys))) ∨ (SqT K H p ys ∧ Q (.ref p) H))) (.cons (aLst K R) .nil) gId (aTup R) := fun T H vs a Q hT pa ⟨c, hc, k⟩ => by
  cases hc
  obtain ⟨v, ws, rfl, ⟨x, us, rfl, hx, hp⟩, rfl⟩ := pa
  refine ⟨x, us, rfl, .inl ⟨hx.sq, fun l nl => ?_⟩⟩
  have s := Same.new0 (o := HO.tup us) nl
  exact k _ _ s ⟨l, us, rfl, upd_same, Paired.mapP hp fun _ _ z => R.keep z (s.keepS _)⟩
theorem cn_list {R : Rp α} : CbN (fun xs H Q => ∃ p ys, xs = [.ref p] ∧ (SqL K H p ys ∨ SqT K H p ys) ∧ ∀ l, H l = none → Q (.ref l) (upd H l (.lst ys))) (.cons (aLst K R) .nil) gId R := fun T H vs a Q hT pa ⟨c, hc, k⟩ => by
  cases hc
  obtain ⟨v, ws, rfl, ⟨x, us, rfl, hx, hp⟩, rfl⟩ := pa
  refine ⟨x, us, rfl, .inl hx.sq, fun l nl => ?_⟩
  have s := Same.new0 (o := HO.lst us) nl
  exact k _ _ _ s nl upd_same (Paired.mapP hp fun _ _ z => R.keep (R.shift z fun b hb => hb.imp id fun e => by rw [e]; exact nl) (s.keepS _))
theorem cn_listT {R : Rp α} : CbN (fun xs H Q => ∃ p ys, xs = [.ref p] ∧ (SqL K H p ys ∨ SqT K H p ys) ∧ ∀ l, H l = none → Q (.ref l) (upd H l (.lst ys))) (.cons (aTup R) .nil) gId R := fun T H vs a Q hT pa ⟨c, hc, k⟩ => by
  cases hc
  obtain ⟨v, ws, rfl, ⟨x, us, rfl, hx, hp⟩, rfl⟩ := pa
  refine ⟨x, us, rfl, .inr (SqT.of hx), fun l nl => ?_⟩
  have s := Same.new0 (o := HO.lst us) nl
  exact k _ _ _ s nl upd_same (Paired.mapP hp fun _ _ z => R.keep (R.shift z fun b hb => hb.imp id fun e => by rw [e]; exact nl) (s.keepS _))
def gAbs (a : Int × Unit) : Option Int := some (if a.1 < 0 then -a.1 else a.1)
theorem cb_abs : CbT (fun xs H Q => ∃ i, xs = [.int i] ∧ Q (.int (if i < 0 then -i else i)) H) (.cons aI .nil) gAbs aI := fun T H vs a Q hT pa ⟨c, hc, k⟩ => by
  cases hc
  obtain ⟨v, ws, rfl, p, rfl⟩ := pa
  exact ⟨a.1, by rw [show v = _ from p], k _ H (Same.refl _) rfl⟩
theorem cb_int : CbT (fun xs H Q => (∃ i, xs = [.int i] ∧ Q (.int i) H) ∨ ∃ k, xs = [.bl k] ∧ Q (.int (if k then 1 else 0)) H) (.cons aI .nil) gId aI := fun T H vs a Q hT pa ⟨c, hc, k⟩ => by
  cases hc
  obtain ⟨v, ws, rfl, p, rfl⟩ := pa
  exact .inl ⟨a.1, by rw [show v = _ from p], k _ H (Same.refl _) rfl⟩
def gBoolInt (a : Bool × Unit) : Option Int := some (if a.1 then 1 else 0)
theorem cb_intB : CbT (fun xs H Q => (∃ i, xs = [.int i] ∧ Q (.int i) H) ∨ ∃ k, xs = [.bl k] ∧ Q (.int (if k then 1 else 0)) H) (.cons aB .nil) gBoolInt aI := fun T H vs a Q hT pa ⟨c, hc, k⟩ => by
  cases hc
  obtain ⟨v, ws, rfl, p, rfl⟩ := pa
  exact .inr ⟨a.1, by rw [show v = _ from p], k _ H (Same.refl _) rfl⟩
def gMax2 (a : Int × Int × Unit) : Option Int := some (if a.2.1 > a.1 then a.2.1 else a.1)
def gMin2 (a : Int × Int × Unit) : Option Int := some (if a.2.1 < a.1 then a.2.1 else a.1)
theorem cb_max2 : CbT (fun xs H Q => ∃ i j, xs = [.int i, .int j] ∧ Q (.int (if j > i then j else i)) H) (.cons aI (.cons aI .nil)) gMax2 aI := fun T H vs a Q hT pa ⟨c, hc, k⟩ => by
  cases hc
  obtain ⟨v, ws, rfl, p, w, us, rfl, q, rfl⟩ := pa
  exact ⟨a.1, a.2.1, by rw [show v = _ from p, show w = _ from q], k _ H (Same.refl _) rfl⟩
theorem cb_min2 : CbT (fun xs H Q => ∃ i j, xs = [.int i, .int j] ∧ Q (.int (if j < i then j else i)) H) (.cons aI (.cons aI .nil)) gMin2 aI := fun T H vs a Q hT pa ⟨c, hc, k⟩ => by
  cases hc
  obtain ⟨v, ws, rfl, p, w, us, rfl, q, rfl⟩ := pa
  exact ⟨a.1, a.2.1, by rw [show v = _ from p, show w = _ from q], k _ H (Same.refl _) rfl⟩
def gGcd (a : Int × Int × Unit) : Option Int := some ((Nat.gcd a.1.natAbs a.2.1.natAbs : Nat) : Int)
theorem cb_gcd : CbT rGcd (.cons aI (.cons aI .nil)) gGcd aI := fun T H vs a Q hT pa ⟨c, hc, k⟩ => by
  cases hc
  obtain ⟨v, ws, rfl, p, w, us, rfl, q, rfl⟩ := pa
  exact ⟨a.1, a.2.1, by rw [show v = _ from p, show w = _ from q], k _ H (Same.refl _) rfl⟩
def gSum (a : List Int × Unit) : Option Int := some a.1.sum
theorem cb_sum : CbT (rSum K) (.cons (aLst K aI) .nil) gSum aI := fun T H vs a Q hT pa ⟨c, hc, k⟩ => by
  cases hc
  obtain ⟨v, ws, rfl, ⟨x, us, rfl, hx, hp⟩, rfl⟩ := pa
  exact ⟨x, a.1, rfl, by rw [← paired_ints hp]; exact hx.sq, k _ H (Same.refl _) rfl⟩
def maxI : List Int → Int
  | [] => 0
  | [a] => a
  | a :: r => max a (maxI r)
def minI : List Int → Int
  | [] => 0
  | [a] => a
  | a :: r => min a (minI r)
theorem maxI_mem : ∀ {l : List Int}, l ≠ [] → maxI l ∈ l ∧ ∀ y ∈ l, y ≤ maxI l
  | [a], _ => ⟨List.mem_singleton.mpr rfl, fun y h => by rw [List.mem_singleton.mp h]; exact Int.le_refl _⟩
  | a :: b :: r, _ => by
    obtain ⟨h1, h2⟩ := maxI_mem (l := b :: r) (by simp)
    have e : maxI (a :: b :: r) = max a (maxI (b :: r)) := rfl
    refine ⟨?_, fun y h => ?_⟩
    · rw [e]
      rcases Int.le_total a (maxI (b :: r)) with h | h
      · rw [Int.max_eq_right h]; exact List.mem_cons_of_mem _ h1
      · rw [Int.max_eq_left h]; exact List.mem_cons_self
    · rw [e]
      rcases List.mem_cons.mp h with rfl | h
      · exact Int.le_max_left _ _
      · exact Int.le_trans (h2 y h) (Int.le_max_right _ _)
theorem minI_mem : ∀ {l : List Int}, l ≠ [] → minI l ∈ l ∧ ∀ y ∈ l, minI l ≤ y
  | [a], _ => ⟨List.mem_singleton.mpr rfl, fun y h => by rw [List.mem_singleton.mp h]; exact Int.le_refl _⟩
  | a :: b :: r, _ => by
    obtain ⟨h1, h2⟩ := minI_mem (l := b :: r) (by simp)
    have e : minI (a :: b :: r) = min a (minI (b :: r)) := rfl
    refine ⟨?_, fun y h => ?_⟩
    · rw [e]
      rcases Int.le_total a (minI (b :: r)) with h | h
      · rw [Int.min_eq_left h]; exact List.mem_cons_self
      · rw [Int.min_eq_right h]; exact List.mem_cons_of_mem _ h1
    · rw [e]
      rcases List.mem_cons.mp h with rfl | h
      · exact Int.min_le_left _ _
      · exact Int.le_trans (Int.min_le_right _ _) (h2 y h)
def gMaxL (a : List Int × Unit) : Option Int := if a.1.length = 0 then none else some (maxI a.1)
def gMinL (a : List Int × Unit) : Option Int := if a.1.length = 0 then none else some (minI a.1)
theorem cb_max : CbT (rMax K) (.cons (aLst K aI) .nil) gMaxL aI := fun T H vs a Q hT pa ⟨c, hc, k⟩ => by
  obtain ⟨v, ws, rfl, ⟨x, us, rfl, hx, hp⟩, rfl⟩ := pa
  unfold gMaxL at hc
  split at hc
  · cases hc
  · rename_i h
    cases hc
    obtain ⟨m1, m2⟩ := maxI_mem (l := a.1) (fun z => h (by rw [z]; rfl))
    refine ⟨x, a.1, rfl, by rw [← paired_ints hp]; exact hx.sq, by omega, fun m hm hy => k _ H (Same.refl _) ?_⟩
    show V.int m = V.int _
    rw [Int.le_antisymm (m2 m hm) (hy _ m1)]
theorem cb_min : CbT (rMin K) (.cons (aLst K aI) .nil) gMinL aI := fun T H vs a Q hT pa ⟨c, hc, k⟩ => by
  obtain ⟨v, ws, rfl, ⟨x, us, rfl, hx, hp⟩, rfl⟩ := pa
  unfold gMinL at hc
  split at hc
  · cases hc
  · rename_i h
    cases hc
    obtain ⟨m1, m2⟩ := minI_mem (l := a.1) (fun z => h (by rw [z]; rfl))
    refine ⟨x, a.1, rfl, by rw [← paired_ints hp]; exact hx.sq, by omega, fun m hm hy => k _ H (Same.refl _) ?_⟩
    show V.int m = V.int _
    rw [Int.le_antisymm (hy _ m1) (m2 m hm)]
def gAny (a : List Bool × Unit) : Option Bool := some (a.1.any id)
def gAll (a : List Bool × Unit) : Option Bool := some (a.1.all id)
theorem cb_any : CbT (rAny K) (.cons (aLst K aB) .nil) gAny aB := fun T H vs a Q hT pa ⟨c, hc, k⟩ => by
  cases hc
  obtain ⟨v, ws, rfl, ⟨x, us, rfl, hx, hp⟩, rfl⟩ := pa
  exact ⟨x, a.1, rfl, by rw [← paired_bls hp]; exact hx.sq, k _ H (Same.refl _) rfl⟩
theorem cb_all : CbT (rAll K) (.cons (aLst K aB) .nil) gAll aB := fun T H vs a Q hT pa ⟨c, hc, k⟩ => by
  cases hc
  obtain ⟨v, ws, rfl, ⟨x, us, rfl, hx, hp⟩, rfl⟩ := pa
  exact ⟨x, a.1, rfl, by rw [← paired_bls hp]; exact hx.sq, k _ H (Same.refl _) rfl⟩
/-! ### displays -/
/-- a homogeneous row of values -/
inductive AlH {ρ : Type} (R : Rp ρ) : {α : Type} → Al α → (α → List ρ) → Prop
  | nil : AlH R .nil (fun _ => [])
  | cons {β : Type} {A : Al β} {f : β → List ρ} : AlH R A f → AlH R (.cons R A) (fun a => a.1 :: f a.2)
theorem AlH.paired {ρ : Type} {R : Rp ρ} {α : Type} {A : Al α} {f : α → List ρ} (h : AlH R A f) : ∀ {T : ASet} {H : Hp} {vs : List V} {a : α}, A.P T H vs a → Paired (R.P T H) vs (f a) := by
  induction h with
  | nil => intro T H vs a h; rw [show vs = [] from h]; exact .nil
  | cons _ ih => rintro T H vs a ⟨v, ws, rfl, p, q⟩; exact .cons p (ih q)
theorem tj_tup {ρ : Type} {R : Rp ρ} {A : Al α} {f : α → List ρ} {t : TA} {m : δ → Res (Er × δ) (α × δ)} {c : Bool} (hA : AlH R A f) (hl : ∀ a, (f a).length ≤ sizeLine) (h : TAj F Γ Δ t m A c) : TEj F Γ Δ (tTup t) (fun d => (m d).bd fun a d => .ok (f a, d)) (aTup R) c := fun Ds d σ H Q e q => by
  refine h Ds d σ H _ e ((q.bind).mono fun a d1 H1 e1 k1 q1 vs pv => ?_)
  have hp := hA.paired pv
  refine ⟨by rw [Paired.length hp]; exact hl a, fun p np => ?_⟩
  have s := Same.new0 (o := HO.tup vs) np
  exact (q1 _ (e1.same s) (s.keepS _)) _ ⟨p, vs, rfl, upd_same, Paired.mapP hp fun _ _ z => R.keep z (s.keepS _)⟩
theorem tn_lst {ρ : Type} {R : Rp ρ} {A : Al α} {f : α → List ρ} {t : TA} {m : δ → Res (Er × δ) (α × δ)} {c : Bool} (hA : AlH R A f) (hl : ∀ a, (f a).length ≤ sizeLine) (h : TAj F Γ Δ t m A c) : TNj F Γ Δ (tLst t) (fun d => (m d).bd fun a d => .ok (f a, d)) R c := fun Ds d σ H Q e q => by
  refine h Ds d σ H _ e ((q.bind).mono fun a d1 H1 e1 k1 q1 vs pv => ?_)
  have hp := hA.paired pv
  refine ⟨by rw [Paired.length hp]; exact hl a, fun D nD => ?_⟩
  have s := Same.new0 (o := HO.lst vs) nD
  exact (q1 _ (e1.same s) (s.keepS _)) D vs (k1.free nD) upd_same (Paired.mapP hp fun _ _ z => R.keep (R.shift z fun b hb => hb.imp id fun e => by rw [e]; exact nD) (s.keepS _))
theorem tj_tup2 {R : Rp α} {R2 : Rp β} {t : TA} {m : δ → Res (Er × δ) ((α × β × Unit) × δ)} {c : Bool} (h : TAj F Γ Δ t m (.cons R (.cons R2 .nil)) c) : TEj F Γ Δ (tTup t) (fun d => (m d).bd fun a d => .ok ((a.1, a.2.1), d)) (aT2 R R2) c := fun Ds d σ H Q e q => by
  refine h Ds d σ H _ e ((q.bind).mono fun a d1 H1 e1 k1 q1 vs pv => ?_)
  obtain ⟨v, ws, rfl, p1, w, us, rfl, p2, rfl⟩ := pv
  refine ⟨by show 2 ≤ sizeLine; decide, fun p np => ?_⟩
  have s := Same.new0 (o := HO.tup [v, w]) np
  exact (q1 _ (e1.same s) (s.keepS _)) _ ⟨p, v, w, rfl, upd_same, R.keep p1 (s.keepS _), R2.keep p2 (s.keepS _)⟩
theorem tj_tup3 {R : Rp α} {R2 : Rp β} {R3 : Rp γ} {t : TA} {m : δ → Res (Er × δ) ((α × β × γ × Unit) × δ)} {c : Bool} (h : TAj F Γ Δ t m (.cons R (.cons R2 (.cons R3 .nil))) c) : TEj F Γ Δ (tTup t) (fun d => (m d).bd fun a d => .ok ((a.1, a.2.1, a.2.2.1), d)) (aT3 R R2 R3) c := fun Ds d σ H Q e q => by
  refine h Ds d σ H _ e ((q.bind).mono fun a d1 H1 e1 k1 q1 vs pv => ?_)
  obtain ⟨v, ws, rfl, p1, w, us, rfl, p2, x, ys, rfl, p3, rfl⟩ := pv
  refine ⟨by show 3 ≤ sizeLine; decide, fun p np => ?_⟩
  have s := Same.new0 (o := HO.tup [v, w, x]) np
  exact (q1 _ (e1.same s) (s.keepS _)) _ ⟨p, v, w, x, rfl, upd_same, R.keep p1 (s.keepS _), R2.keep p2 (s.keepS _), R3.keep p3 (s.keepS _)⟩
/-- a value or None -/
theorem tj_some {t : TE} {m : δ → Res (Er × δ) (α × δ)} {R : Rp α} {c : Bool} (hn : ∀ S H x, ¬ R.P S H .non x) (h : TEj F Γ Δ t m R c) : TEj F Γ Δ t (fun d => (m d).bd fun a d => .ok (some a, d)) (aOpt R) c := fun Ds d σ H Q e q => h Ds d σ H Q e ((q.bind).mono fun a d1 H1 e1 k1 q1 v pv => After.ok q1 e1 v (.inr ⟨a, rfl, pv, fun z => hn _ _ _ (z ▸ pv)⟩))
theorem tj_none {t : TE} {m : δ → Res (Er × δ) (Unit × δ)} {R : Rp α} {c : Bool} (h : TEj F Γ Δ t m aN c) : TEj F Γ Δ t (fun d => (m d).bd fun _ d => .ok (none, d)) (aOpt R) c := fun Ds d σ H Q e q => h Ds d σ H Q e ((q.bind).mono fun a d1 H1 e1 k1 q1 v pv => After.ok q1 e1 v (.inl ⟨pv, rfl⟩))
/-- a value that is one -/
def gGet (o : Option α) : Option α := o
theorem tj_get {t : TE} {m : δ → Res (Er × δ) (Option α × δ)} {R : Rp α} {c : Bool} (h : TEj F Γ Δ t m (aOpt R) c) : TEj F Γ Δ t (fun d => (m d).bd fun a d => optAt (gGet a) d) R c := fun Ds d σ H Q e q => h Ds d σ H Q e ((q.bind).mono fun a d1 H1 e1 k1 q1 v pv => by
  obtain ⟨x, hx, k⟩ := q1.opt e1
  rcases pv with ⟨rfl, rfl⟩ | ⟨y, rfl, p, _⟩
  · cases hx
  · cases hx
    exact k H1 (Same.refl _) v p)
end
end L2

/-! what a text computes: objects that change -/
namespace L2
open PySem PySem.Spec PyProof.Rows RZ
section
variable {υ δ δ' α β γ τ κ ρ : Type} {F : Fx υ} {Γ Γ' : List Cl} {Δ : Dl δ}
/-! ### owned objects, only read -/
/-- an owned object, seen as a value -/
structure OmV {β : Type} (O : Om β) (R : Rp β) : Prop where
  view : ∀ (T T' : ASet) (H : Hp) (D : Addr) (b : β), O.C T H D b → ¬ T' D → (∀ a, T' a → T a) → R.P T' H (.ref D) b
theorem omv_L {K : PySem.W.Frag} {α : Type} {R : Rp α} : OmV (oLst R) (aLst K R) := ⟨fun T T' H D b ⟨vs, h1, h2⟩ n k => ⟨D, vs, rfl, .inl ⟨n, .inl h1⟩, Paired.mapP h2 fun _ _ z => R.shift z fun a h => .inl (k a h)⟩⟩
/-- a list of two things -/
def aM2 (K : PySem.W.Frag) {α β : Type} (R : Rp α) (Q : Rp β) : Rp (α × β) := ⟨fun S H v x => ∃ a v1 v2, v = .ref a ∧ LsAt K S H a [v1, v2] ∧ R.P S H v1 x.1 ∧ Q.P S H v2 x.2,
  fun ⟨a, v1, v2, e, h, p, q⟩ k => ⟨a, v1, v2, e, h.keep k, R.keep p k, Q.keep q k⟩, fun ⟨a, v1, v2, e, h, p, q⟩ k => ⟨a, v1, v2, e, h.shift k, R.shift p k, Q.shift q k⟩⟩
/-- the names as they stand while nothing changes -/
inductive Pk (K : PySem.W.Frag) {δ : Type} (Δ : Dl δ) : List Cl → (δ → List Cl) → Prop
  | nil : Pk K Δ [] (fun _ => [])
  | no {l : List Cl} {m : δ → List Cl} {c : Cl} : Pk K Δ l m → Pk K Δ (c :: l) (fun d => .no :: m d)
  | fz {l : List Cl} {m : δ → List Cl} {P : Pd} : Pk K Δ l m → Pk K Δ (.fz P :: l) (fun d => .fz P :: m d)
  | bo {l : List Cl} {m : δ → List Cl} {P : Pd} : Pk K Δ l m → Pk K Δ (.bo P :: l) (fun d => .bo P :: m d)
  | ow {l : List Cl} {m : δ → List Cl} {j : Nat} {β : Type} {O : Om β} {R : Rp β} {g : δ → β} {p : β → δ → δ} : OmV O R → Ix Δ j O g p → Pk K Δ l m → Pk K Δ (.ow j :: l) (fun d => .bo (R.at (g d)) :: m d)
  | l2m {l : List Cl} {m : δ → List Cl} {j1 j2 : Nat} {α β : Type} {R : Rp α} {R2 : Rp β} {g1 : δ → List α} {g2 : δ → List β} {p1 : List α → δ → δ} {p2 : List β → δ → δ} : Ix Δ j1 (oLst R) g1 p1 → Ix Δ j2 (oLst R2) g2 p2 → Pk K Δ l m → Pk K Δ (.l2 j1 j2 :: l) (fun d => .bo ((aM2 K (aLst K R) (aLst K R2)).at (g1 d, g2 d)) :: m d)
  | l2 {l : List Cl} {m : δ → List Cl} {j1 j2 : Nat} {α : Type} {R : Rp α} {g1 g2 : δ → List α} {p1 p2 : List α → δ → δ} : Ix Δ j1 (oLst R) g1 p1 → Ix Δ j2 (oLst R) g2 p2 → Pk K Δ l m → Pk K Δ (.l2 j1 j2 :: l) (fun d => .bo ((aLst K (aLst K R)).at [g1 d, g2 d]) :: m d)
abbrev Fx.pure (F : Fx υ) (Ds : List Addr) (H : Hp) : Fx Unit := { K := F.K, rz := F.rz, U := [], Uo := .nil, S := fun a => F.S a ∨ a ∈ Ds, X := F.X, H0 := H, E := F.E, cl := F.cl }
theorem soft_pure {Ds : List Addr} {H : Hp} {a : Addr} : soft true (F.pure Ds H) [] a ↔ soft true F Ds a := by
  unfold soft
  constructor
  · rintro (⟨_, h | h⟩ | h | h)
    · exact .inl ⟨rfl, h⟩
    · exact .inr (.inr h)
    · exact .inr (.inl h)
    · cases h
  · rintro (⟨_, h⟩ | h | h)
    · exact .inl ⟨rfl, .inl h⟩
    · exact .inr (.inl h)
    · exact .inl ⟨rfl, .inr h⟩
theorem Pk.paired {m : δ → List Cl} (h : Pk F.K Δ Γ m) {Ds : List Addr} {d : δ} {H : Hp} (hX : ∀ a ∈ Ds, ¬ F.X a) (o : Owns Δ (soft true F Ds) H Ds d) : ∀ {s : St}, Paired (ClOk F Ds H) Γ s → Paired (ClOk (F.pure Ds H) [] H) (m d) s := by
  induction h with
  | nil => intro s h; cases h; exact .nil
  | no _ ih => intro s h; cases h with | cons a b => exact .cons trivial (ih b)
  | fz _ ih =>
    intro s h
    cases h with
    | cons a b =>
      obtain ⟨v, e, p⟩ := a
      exact .cons ⟨v, e, Pd.shift _ p fun a h => .inl (soft_pure.mp h)⟩ (ih b)
  | bo _ ih =>
    intro s h
    cases h with
    | cons a b =>
      obtain ⟨v, e, p⟩ := a
      refine .cons ⟨v, e, Pd.shift _ p fun a h => .inl ?_⟩ (ih b)
      rcases h with ⟨h, _⟩ | h | h
      · cases h
      · exact .inr (.inl h)
      · cases h
  | ow hv ix _ ih =>
    intro s h
    cases h with
    | cons a b =>
      obtain ⟨D, h1, h2⟩ := a
      obtain ⟨D', h3, h4⟩ := ix.here o
      rw [h1] at h3
      cases h3
      refine .cons ⟨_, h2, hv.view _ _ _ _ _ h4 (fun h => ?_) fun a h => ?_⟩ (ih b)
      · rcases h with ⟨h, _⟩ | h | h
        · cases h
        · exact hX D (List.mem_of_getElem? h1) h
        · cases h
      · rcases h with ⟨h, _⟩ | h | h
        · cases h
        · exact .inr (.inl h)
        · cases h
  | l2 ix1 ix2 _ ih =>
    intro s h
    cases h with
    | cons a b =>
      obtain ⟨W, D, E, e, n, g, g1, g2⟩ := a
      obtain ⟨D', h3, h4⟩ := ix1.here o
      rw [g1] at h3
      cases h3
      obtain ⟨E', h5, h6⟩ := ix2.here o
      rw [g2] at h5
      cases h5
      have ns : ∀ a ∈ Ds, ¬ soft false (F.pure Ds H) [] a := fun a ha h => by
        rcases h with ⟨h, _⟩ | h | h
        · cases h
        · exact hX a ha h
        · cases h
      have le : ∀ a, soft false (F.pure Ds H) [] a → soft true F Ds a := fun a h => by
        rcases h with ⟨h, _⟩ | h | h
        · cases h
        · exact .inr (.inl h)
        · cases h
      exact .cons ⟨_, e, W, _, rfl, .inl ⟨fun z => n (le W z), .inl g⟩, .cons (omv_L.view _ _ _ _ _ h4 (ns _ (List.mem_of_getElem? g1)) le) (.cons (omv_L.view _ _ _ _ _ h6 (ns _ (List.mem_of_getElem? g2)) le) .nil)⟩ (ih b)
  | l2m ix1 ix2 _ ih =>
    intro s h
    cases h with
    | cons a b =>
      obtain ⟨W, D, E, e, n, g, g1, g2⟩ := a
      obtain ⟨D', h3, h4⟩ := ix1.here o
      rw [g1] at h3
      cases h3
      obtain ⟨E', h5, h6⟩ := ix2.here o
      rw [g2] at h5
      cases h5
      have ns : ∀ a ∈ Ds, ¬ soft false (F.pure Ds H) [] a := fun a ha h => by
        rcases h with ⟨h, _⟩ | h | h
        · cases h
        · exact hX a ha h
        · cases h
      have le : ∀ a, soft false (F.pure Ds H) [] a → soft true F Ds a := fun a h => by
        rcases h with ⟨h, _⟩ | h | h
        · cases h
        · exact .inr (.inl h)
        · cases h
      exact .cons ⟨_, e, W, _, _, rfl, .inl ⟨fun z => n (le W z), .inl g⟩, omv_L.view _ _ _ _ _ h4 (ns _ (List.mem_of_getElem? g1)) le, omv_L.view _ _ _ _ _ h6 (ns _ (List.mem_of_getElem? g2)) le⟩ (ih b)
/-- what may change is not what is being made -/
theorem En.pure {m : δ → List Cl} (h : Pk F.K Δ Γ m) {Ds : List Addr} {d : δ} {σ : St} {H : Hp} (e : En F Γ Δ Ds d σ H) : En (F.pure Ds H) (m d) .nil [] () σ H :=
  ⟨Keep.refl _ _, ⟨[], rfl, fun _ h => nomatch h⟩, List.nodup_nil, fun a h => e.live a (soft_pure.mp h), rfl, h.paired e.xd e.own e.sl, (fun _ h => nomatch h), rfl, fun _ h => nomatch h⟩
/-- a result that leaves the state alone -/
def Res.with {α δ : Type} (r : Res (Er × Unit) (α × Unit)) (d : δ) : Res (Er × δ) (α × δ) := match r with
  | .ok (a, _) => .ok (a, d)
  | .ex (e, _) => .ex (e, d)
  | .bad => .bad
@[simp] theorem Res.ok_with {α δ : Type} (a : α) (u : Unit) (d : δ) : (Res.ok (a, u) : Res (Er × Unit) (α × Unit)).with d = .ok (a, d) := rfl
@[simp] theorem Res.bad_with {α δ : Type} (d : δ) : (Res.bad : Res (Er × Unit) (α × Unit)).with d = .bad := rfl
def Res.wi {α δ : Type} (f : Unit → Res (Er × Unit) (α × Unit)) (d : δ) : Res (Er × δ) (α × δ) := (f ()).with d
theorem After.pure {mm : δ → List Cl} {Ds : List Addr} {d : δ} {σ : St} {H : Hp} {r : Res (Er × Unit) (α × Unit)} {K : α → δ → Hp → Prop} (e : En F Γ Δ Ds d σ H) (hz : F.rz = false) (h : After F Γ Δ Ds σ H (r.with d) K) : After (F.pure Ds H) (mm d) .nil [] σ H r (fun a _ H' => K a d H' ∧ Keep (· ∈ Ds) H H' ∧ En F Γ Δ Ds d σ H') := by
  match r, h with
  | .ok (a, u), h =>
    intro H' e' k
    have s : Same H H' := fun b o hb => k.same b o (fun z => nomatch z) hb
    exact ⟨h H' (e.same s) (s.keepS _), s.keepS _, e.same s⟩
  | .ex (x, u), h => exact absurd h.1 (by rw [hz]; exact fun z => nomatch z)
theorem tj_pure {t : TE} {mm : δ → List Cl} {m : δ → Unit → Res (Er × Unit) (α × Unit)} {R : Rp α} (hz : F.rz = false) (hp : Pk F.K Δ Γ mm) (h : ∀ d Ds H, TEj (F.pure Ds H) (mm d) .nil t (m d) R true) : TEj F Γ Δ t (fun d => Res.wi (m d) d) R true := fun Ds d σ H Q e q =>
  h d Ds H [] () σ H Q (e.pure hp) ((q.pure e hz).mono fun a u H' e' _ k v p => k.1 v (R.shift p fun a h => .inl (soft_pure.mpr h)))

theorem tn_pure {t : TE} {mm : δ → List Cl} {m : δ → Unit → Res (Er × Unit) (List α × Unit)} {R : Rp α} (hz : F.rz = false) (hp : Pk F.K Δ Γ mm) (h : ∀ d Ds H, TNj (F.pure Ds H) (mm d) .nil t (m d) R true) : TNj F Γ Δ t (fun d => Res.wi (m d) d) R true := fun Ds d σ H Q e q =>
  h d Ds H [] () σ H Q (e.pure hp) ((q.pure e hz).mono fun a u H' e' _ k D vs n hD p => k.1 D vs n hD (Paired.mapP p fun _ _ z => R.shift z fun a h => .inl (h.imp soft_pure.mpr id)))
theorem tt_pure {t : TT} {mm : δ → List Cl} {m : δ → Unit → Res (Er × Unit) (Bool × Unit)} (hz : F.rz = false) (hp : Pk F.K Δ Γ mm) (h : ∀ d Ds H, TTj (F.pure Ds H) (mm d) .nil t (m d)) : TTj F Γ Δ t (fun d => Res.wi (m d) d) := fun Ds d σ H Q e q =>
  h d Ds H [] () σ H Q (e.pure hp) ((q.pure e hz).mono fun a u H' e' _ k => k.1)
/-! ### owned objects, changed -/
theorem soft_ex {c : Bool} {Ds : List Addr} {D : Addr} (h : D ∈ Ds) : soft c F Ds D := .inr (.inr h)
/-- one of the owned is changed -/
theorem En.put {Ds : List Addr} {d : δ} {σ : St} {H : Hp} {j : Nat} {O : Om β} {g : δ → β} {p : β → δ → δ} {D : Addr} {b : β} {o : HO} (e : En F Γ Δ Ds d σ H) (ix : Ix Δ j O g p) (hj : Ds[j]? = some D) (hb : O.C (soft true F Ds) (upd H D o) D b) : En F Γ Δ Ds (p b d) σ (upd H D o) ∧ Keep (· ∈ Ds) H (upd H D o) := by
  have hm : D ∈ Ds := List.mem_of_getElem? hj
  obtain ⟨D', h1, h2⟩ := ix.here e.own
  rw [hj] at h1
  cases h1
  have nt := O.ntup h2
  have k : Keep (· ∈ Ds) H (upd H D o) := (Keep.refl _ _).updS hm nt
  exact ⟨e.step k (ix.put e.own e.nd hj (k.soft _) (fun E hE n => upd_ne n) hb), k⟩
/-- what is stored must not lead to what changes -/
theorem Rp.into {R : Rp α} {Ds : List Addr} {H : Hp} {v : V} {x : α} {D : Addr} {o : HO} (h : R.P (soft true F Ds) H v x) (hm : D ∈ Ds) (nt : ∀ xs, H D ≠ some (.tup xs)) : R.P (soft true F Ds) (upd H D o) v x :=
  R.keep h ((Keep.refl _ _).updS (softDs _ hm) nt)
theorem tj_append {K' : PySem.W.Frag} {i j : Nat} {R : Rp α} {g : δ → List α} {p : List α → δ → δ} {t : TA} {m : δ → Res (Er × δ) ((α × Unit) × δ)} (hi : Γ[i]? = some (.ow j)) (ix : Ix Δ j (oLst R) g p) (h : TAj F Γ Δ t m (.cons R .nil) true) :
    TEj F Γ Δ (tBM K' "list" rAppend (tVar i) t) (fun d => (m d).bd fun a d => if (g d).length < sizeLine then .ok ((), p (g d ++ [a.1]) d) else .bad) aN true := fun Ds d σ H Q e q => by
  obtain ⟨s, h1, D, hD, rfl⟩ := e.get hi
  obtain ⟨D', h2, vs, h3, h4⟩ := ix.here e.own
  rw [hD] at h2
  cases h2
  refine ⟨_, h1, .inl ⟨rfl, _, SqL.of h3⟩, ?_⟩
  refine h Ds d σ H _ e ((q.bind).mono fun a d1 H1 e1 k1 q1 ws pv => ?_)
  obtain ⟨v, us, rfl, pv, rfl⟩ := pv
  obtain ⟨D', h5, vs', h6, h7⟩ := ix.here e1.own
  rw [hD] at h5
  cases h5
  dsimp only at q1
  by_cases hl : (g d1).length < sizeLine
  · rw [if_pos hl] at q1
    have nt : ∀ xs, H1 D ≠ some (.tup xs) := fun xs z => by rw [h6] at z; cases z
    have hm := List.mem_of_getElem? hD
    obtain ⟨e2, k2⟩ := e1.put (b := g d1 ++ [a.1]) (o := .lst (vs' ++ [v])) ix hD ⟨_, upd_same, Paired.snoc (Paired.mapP h7 fun _ _ z => Rp.into z hm nt) (Rp.into pv hm nt)⟩
    exact ⟨D, vs', v, rfl, rfl, h6, by rw [Paired.length h7]; exact hl, q1 _ e2 k2 _ rfl⟩
  · rw [if_neg hl] at q1
    exact q1.elim
/-- l[k] = v of an owned list -/
def setA {α : Type} (xs : List α) (i : Int) (a : α) : Option (List α) := (ixN xs.length i).map fun k => xs.set k a
def setK {α ε β κ ρ : Type} (xs : List α) (i : Int) (a : α) (k : List α → Bk ε β κ ρ) : Bk ε β κ ρ := match setA xs i a with
  | some l => k l
  | none => .bad
@[simp] theorem setK_some {α ε β κ ρ : Type} {xs l : List α} {i : Int} {a : α} {k : List α → Bk ε β κ ρ} (h : setA xs i a = some l) : setK xs i a k = k l := by unfold setK; rw [h]
def setJ {α δ ε β κ ρ : Type} (xs : List α) (i : Int) (a : α) (p : List α → δ) (k : δ → Bk ε β κ ρ) : Bk ε β κ ρ := setK xs i a fun l => k (p l)
@[simp] theorem setJ_some {α δ ε β κ ρ : Type} {xs l : List α} {i : Int} {a : α} {p : List α → δ} {k : δ → Bk ε β κ ρ} (h : setA xs i a = some l) : setJ xs i a p k = k (p l) := setK_some h
def appK {α β : Type} (k : α → β) (x : α) : β := k x
@[simp] theorem appK_eq {α β : Type} (k : α → β) (x : α) : appK k x = k x := rfl
def appK2 {α β γ : Type} (k : α → β → γ) (x : α) (y : β) : γ := k x y
@[simp] theorem appK2_eq {α β γ : Type} (k : α → β → γ) (x : α) (y : β) : appK2 k x y = k x y := rfl
variable {ext : δ → υ} {N : β → St → Hp → Prop} {C : κ → St → Hp → Prop} {t2 : TS} {Rr : Rk ρ}
theorem paired_setL {β' γ' : Type} {P : β' → γ' → Prop} : ∀ {l : List β'} {m : List γ'} {i : Nat} {a : β'} {b : γ'}, Paired P l m → P a b → Paired P (l.set i a) (m.set i b)
  | _, _, _, _, _, .nil, _ => .nil
  | _, _, 0, _, _, .cons h t, k => .cons k t
  | _, _, i + 1, _, _, .cons h t, k => .cons h (paired_setL t k)
theorem ts_setL {i j : Nat} {R : Rp α} {g : δ → List α} {p : List α → δ → δ} {te ti : TE} {m : δ → Res (Er × δ) (α × δ)} {mi : δ → Res (Er × δ) (Int × δ)} {c' : Bool} {k : δ → Bk (Er × υ) β κ (ρ × υ)} (hE : ExtOk F Δ ext) (hi : Γ[i]? = some (.ow j)) (ix : Ix Δ j (oLst R) g p) (h : TEj F Γ Δ te m R true) (h2 : TEj F Γ Δ ti mi aI c') (h3 : TSj F Γ Δ t2 k N C Rr) :
    TSj F Γ Δ (tSeq (tAsg te (L2.gSub (tVar i) ti rSetL)) t2) (fun d => (m d).bs ext fun a d => (mi d).bs ext fun i d => setJ (g d) i a (fun l => p l d) k) N C Rr := fun Ds d σ H D e q => by
  refine h Ds d σ H _ e ((AfterS.of hE e q).mono fun a d1 H1 e1 k1 q1 v pv => ?_)
  obtain ⟨s, h1, A, hA, rfl⟩ := e1.get hi
  refine ⟨_, h1, ?_⟩
  refine h2 Ds d1 σ H1 _ e1 ((AfterS.of hE e1 q1).mono fun b d2 H2 e2 k2 q2 w pw => ?_)
  obtain ⟨A', h5, vs', h6, h7⟩ := ix.here e2.own
  rw [hA] at h5
  cases h5
  dsimp only at q2
  unfold setJ setK setA at q2
  have nt : ∀ xs, H2 A ≠ some (.tup xs) := fun xs z => by rw [h6] at z; cases z
  have hm := List.mem_of_getElem? hA
  cases z : ixN (g d2).length b with
  | none => rw [z] at q2; exact q2.elim
  | some n =>
    rw [z] at q2
    have q2 : AfterS F (k (p ((g d2).set n a) d2)) N C Rr D := q2
    have pv2 := R.keep pv (k2.soft true)
    obtain ⟨e3, k3⟩ := e2.put (b := (g d2).set n a) (o := .lst (vs'.set n v)) ix hA ⟨_, upd_same, paired_setL (Paired.mapP h7 fun _ _ z => Rp.into z hm nt) (Rp.into pv2 hm nt)⟩
    exact ⟨A, vs', b, n, rfl, pw, h6, by rw [Paired.length h7]; exact z, h3 Ds _ σ _ D e3 q2⟩
/-! ### new owned objects -/
inductive Sn : {δ δ' β : Type} → Dl δ → Om β → Dl δ' → (δ → β → δ') → (δ' → δ) → (δ' → β) → Prop
  | nil {β : Type} {O : Om β} : Sn .nil O (.cons O .nil) (fun _ b => (b, ())) (fun _ => ()) (fun d => d.1)
  | cons {δ δ' β γ : Type} {r : Dl δ} {O : Om β} {r' : Dl δ'} {f : δ → β → δ'} {i : δ' → δ} {l : δ' → β} {M : Om γ} : Sn r O r' f i l → Sn (.cons M r) O (.cons M r') (fun d b => (d.1, f d.2 b)) (fun d => (d.1, i d.2)) (fun d => l d.2)
theorem Sn.push {Δ' : Dl δ'} {O : Om β} {f : δ → β → δ'} {i : δ' → δ} {l : δ' → β} (s : Sn Δ O Δ' f i l) : ∀ {T : ASet} {H : Hp} {Ds : List Addr} {d : δ} {D : Addr} {b : β}, Owns Δ T H Ds d → O.C T H D b → Owns Δ' T H (Ds ++ [D]) (f d b) := by
  induction s with
  | nil => intro T H Ds d D b h hb; rw [show Ds = [] from h]; exact ⟨D, [], rfl, hb, rfl⟩
  | cons s ih => rintro T H Ds d D b ⟨A, L, rfl, c, o⟩ hb; exact ⟨A, L ++ [D], rfl, c, ih o hb⟩
theorem Sn.pop {Δ' : Dl δ'} {O : Om β} {f : δ → β → δ'} {i : δ' → δ} {l : δ' → β} (s : Sn Δ O Δ' f i l) : ∀ {T : ASet} {H : Hp} {Ds : List Addr} {d : δ'}, Owns Δ' T H Ds d → ∃ L D, Ds = L ++ [D] ∧ Owns Δ T H L (i d) ∧ O.C T H D (l d) := by
  induction s with
  | nil => rintro T H Ds d ⟨A, L, rfl, c, o⟩; rw [show L = [] from o]; exact ⟨[], A, rfl, rfl, c⟩
  | cons s ih =>
    rintro T H Ds d ⟨A, L, rfl, c, o⟩
    obtain ⟨L', D, rfl, o', c'⟩ := ih o
    exact ⟨A :: L', D, rfl, ⟨A, L', rfl, c, o'⟩, c'⟩
theorem ClOk.more {Ds : List Addr} {D : Addr} {H0 H : Hp} {c : Cl} {s : Option V} (h : ClOk F Ds H0 c s) (n : H0 D = none) (k : Keep (· ∈ Ds) H0 H) : ClOk F (Ds ++ [D]) H c s :=
  ClOk.keep (h.sub (fun b a h => by
    rcases h with h | h | h
    · exact .inl (.inl h)
    · exact .inl (.inr (.inl h))
    · rcases List.mem_append.mp h with h | h
      · exact .inl (.inr (.inr h))
      · rw [List.mem_singleton] at h
        exact .inr (h ▸ n)) fun j E hE => by rw [List.getElem?_append_left (List.getElem?_eq_some_iff.mp hE).1]; exact hE) (k.mono fun a h => List.mem_append_left _ h)
/-- a new list becomes owned -/
theorem En.more {Δ' : Dl δ'} {O : Om β} {f : δ → β → δ'} {i : δ' → δ} {l : δ' → β} (s : Sn Δ O Δ' f i l) {Ds : List Addr} {d0 d : δ} {σ : St} {H0 H : Hp} {D : Addr} {xs : β} (e0 : En F Γ Δ Ds d0 σ H0) (e : En F Γ Δ Ds d σ H) (k : Keep (· ∈ Ds) H0 H) (n : H0 D = none) (hl : H D ≠ none) (hp : O.C (fun b => soft true F Ds b ∨ b = D) H D xs)
    (hown : Owns Δ (fun b => soft true F Ds b ∨ b = D) H Ds d) : En F Γ Δ' (Ds ++ [D]) (f d xs) σ H := by
  have hs : ∀ a, soft true F (Ds ++ [D]) a → soft true F Ds a ∨ a = D := fun a h => by
    rcases h with h | h | h
    · exact .inl (.inl h)
    · exact .inl (.inr (.inl h))
    · rcases List.mem_append.mp h with h | h
      · exact .inl (.inr (.inr h))
      · exact .inr (List.mem_singleton.mp h)
  have nD : D ∉ Ds := fun z => e0.live D (.inr (.inr z)) n
  refine ⟨e.k0, ?_, ?_, fun a h => ?_, s.push (Owns.shift (fun a h => .inl (hs a h)) hown) (O.shift hp fun a h => .inl (hs a h)), Paired.mapP e0.sl fun c z h => h.more n k, fun a ha h => ?_, e.ul, fun a ha => ?_⟩
  · obtain ⟨L, rfl, hL⟩ := e.pre
    refine ⟨L ++ [D], by rw [List.append_assoc], fun a h => ?_⟩
    rcases List.mem_append.mp h with h | h
    · exact hL a h
    · rw [List.mem_singleton.mp h]; exact e0.k0.free n
  · exact List.nodup_append.mpr ⟨e.nd, by simp, fun a ha b hb => by rw [List.mem_singleton.mp hb]; exact fun z => nD (z ▸ ha)⟩
  · rcases hs a h with h | h
    · exact e.live a h
    · rw [h]; exact hl
  · rcases List.mem_append.mp ha with z | z
    · exact e.xd a z h
    · rw [List.mem_singleton] at z
      subst z
      exact e0.live a (.inr (.inl h)) n
  · rcases List.mem_append.mp ha with z | z
    · exact e.sd a z
    · rw [List.mem_singleton] at z
      subst z
      exact .inr fun h => e0.live a (.inl ⟨rfl, h⟩) n

/-- nothing but data is owned -/
def DatO {β : Type} (O : Om β) : Prop := ∀ (T T' : ASet) (H : Hp) (D : Addr) (b : β), O.C T H D b → O.C T' H D b
theorem dato_L {α : Type} {R : Rp α} (d : R.Dat) : DatO (oLst R) := fun T T' H D b ⟨vs, h1, h2⟩ => ⟨vs, h1, Paired.mapP h2 fun _ _ z => d _ _ _ _ _ z⟩
inductive DatD : {δ : Type} → Dl δ → Prop
  | nil : DatD .nil
  | cons {δ β : Type} {O : Om β} {r : Dl δ} : DatO O → DatD r → DatD (.cons O r)
theorem DatD.any (h : DatD Δ) : ∀ {T T' : ASet} {H : Hp} {Ds : List Addr} {d : δ}, Owns Δ T H Ds d → Owns Δ T' H Ds d := by
  induction h with
  | nil => exact fun h => h
  | cons hO _ ih => rintro T T' H Ds d ⟨D, L, e, c, o⟩; exact ⟨D, L, e, hO _ _ _ _ _ c, ih o⟩
theorem ts_asgO {Δ' : Dl δ'} {R : Rp α} {f : δ → List α → δ'} {ini : δ' → δ} {l : δ' → List α} {i : Nat} {te : TE} {m : δ → Res (Er × δ) (List α × δ)} {k : δ' → Bk (Er × υ) β κ (ρ × υ)} (hE : ExtOk F Δ ext) (hd : DatD Δ) (s : Sn Δ (oLst R) Δ' f ini l) (h : TNj F Γ Δ te m R true) (hΓ : Γ' = Γ.set i (.ow Δ.len)) (h2 : TSj F Γ' Δ' t2 k N C Rr) :
    TSj F Γ Δ (tSeq (tAsg te (gName i)) t2) (fun d => (m d).bs ext fun a d => appK k (f d a)) N C Rr := fun Ds d σ H D e q => by
  subst hΓ
  refine h Ds d σ H _ e ((AfterS.of hE e q).mono fun a d' H' e' k' q' A vs n hA p => ?_)
  have e3 := En.more s e e' k' n (live_of hA) ⟨vs, hA, p⟩ (hd.any e'.own)
  refine h2 _ _ _ H' D (e3.set ⟨A, ?_, rfl⟩) q'
  rw [List.getElem?_append_right (by rw [Owns.length e.own]; exact Nat.le_refl _), Owns.length e.own, Nat.sub_self]
  rfl
/-- the last owned is no longer so -/
inductive Fz (n : Nat) (P : Pd) : List Cl → List Cl → Prop
  | nil : Fz n P [] []
  | fz {l m : List Cl} : Fz n P l m → Fz n P (.ow n :: l) (.fz P :: m)
  | no {l m : List Cl} {c : Cl} : Fz n P l m → Fz n P (c :: l) (.no :: m)
  | val {l m : List Cl} {Q : Pd} : Fz n P l m → Fz n P (.fz Q :: l) (.fz Q :: m)
  | bo {l m : List Cl} {Q : Pd} : Fz n P l m → Fz n P (.bo Q :: l) (.bo Q :: m)
  | ow {l m : List Cl} {j : Nat} : j < n → Fz n P l m → Fz n P (.ow j :: l) (.ow j :: m)
  | l2 {l m : List Cl} {j1 j2 : Nat} : j1 < n → j2 < n → Fz n P l m → Fz n P (.l2 j1 j2 :: l) (.l2 j1 j2 :: m)
theorem En.popLast {Δ' : Dl δ'} {O : Om β} {R : Rp β} {f : δ → β → δ'} {ini : δ' → δ} {l : δ' → β} (hv : OmV O R) (s : Sn Δ O Δ' f ini l) (hU : F.Uo.len ≤ Δ.len) {Ds : List Addr} {d : δ'} {σ : St} {H : Hp} (e : En F Γ Δ' Ds d σ H) (h : Fz Δ.len (R.at (l d)) Γ Γ') : ∃ L, En F Γ' Δ L (ini d) σ H := by
  obtain ⟨L, D, rfl, o, h1⟩ := s.pop e.own
  have hlen := Owns.length o
  have nD : D ∉ L := fun z => (List.nodup_append.mp e.nd).2.2 D z D (by simp) rfl
  have hs : ∀ b a, soft b F L a → soft b F (L ++ [D]) a ∨ H a = none := fun b a h => by
    rcases h with h | h | h
    · exact .inl (.inl h)
    · exact .inl (.inr (.inl h))
    · exact .inl (.inr (.inr (List.mem_append_left _ h)))
  have hfr : D ∉ F.U ∧ ∃ L', L = F.U ++ L' ∧ ∀ a ∈ L', F.H0 a = none := by
    obtain ⟨M, hM, hM2⟩ := e.pre
    have hUl := e.ul
    rcases List.eq_nil_or_concat M with rfl | ⟨M', x, rfl⟩
    · rw [List.append_nil] at hM
      have := congrArg List.length hM
      rw [List.length_append] at this
      simp at this
      omega
    · rw [List.concat_eq_append, ← List.append_assoc] at hM
      obtain ⟨e1, e2⟩ := List.append_inj' hM rfl
      cases e2
      refine ⟨fun z => nD (e1 ▸ List.mem_append_left _ z), M', e1, fun a h => hM2 a (by rw [List.concat_eq_append]; exact List.mem_append_left _ h)⟩
  refine ⟨L, e.k0, hfr.2, (List.nodup_append.mp e.nd).1, fun a h => e.live a ((hs true a h).elim id fun z => ?_), Owns.shift (hs true) o, ?_, fun a h => e.xd a (List.mem_append_left _ h), e.ul, fun a h => e.sd a (List.mem_append_left _ h)⟩
  · rcases h with h | h | h
    · exact .inl h
    · exact .inr (.inl h)
    · exact .inr (.inr (List.mem_append_left _ h))
  · have sl := e.sl
    have xd := e.xd
    have sd := (e.sd D (by simp)).resolve_left hfr.1
    clear e hfr
    induction h generalizing σ with
    | nil => cases sl; exact .nil
    | fz _ ih =>
      cases sl with
      | cons a b =>
        obtain ⟨A, g1, g2⟩ := a
        rw [List.getElem?_append_right (by omega), hlen, Nat.sub_self] at g1
        cases g1
        refine .cons ⟨_, g2, hv.view _ _ _ _ _ h1 (fun z => ?_) (fun a z => ?_)⟩ (ih b)
        · rcases z with ⟨_, z⟩ | z | z
          · exact sd z
          · exact xd D (by simp) z
          · exact nD z
        · rcases z with z | z | z
          · exact .inl z
          · exact .inr (.inl z)
          · exact .inr (.inr (List.mem_append_left _ z))
    | no _ ih => cases sl with | cons a b => exact .cons trivial (ih b)
    | val _ ih => cases sl with | cons a b => obtain ⟨v, e1, p⟩ := a; exact .cons ⟨v, e1, Pd.shift _ p (hs true)⟩ (ih b)
    | bo _ ih => cases sl with | cons a b => obtain ⟨v, e1, p⟩ := a; exact .cons ⟨v, e1, Pd.shift _ p (hs false)⟩ (ih b)
    | ow hj _ ih =>
      cases sl with
      | cons a b =>
        obtain ⟨A, g1, g2⟩ := a
        rw [List.getElem?_append_left (by omega)] at g1
        exact .cons ⟨A, g1, g2⟩ (ih b)
    | l2 hj1 hj2 _ ih =>
      cases sl with
      | cons a b =>
        obtain ⟨W, A, B, e1, n, g, g1, g2⟩ := a
        rw [List.getElem?_append_left (by omega)] at g1 g2
        exact .cons ⟨W, A, B, e1, fun z => (hs true W z).elim n (fun q => by rw [g] at q; cases q), g, g1, g2⟩ (ih b)

theorem ts_pop {β' : Type} {Δ' : Dl δ'} {O : Om β'} {R : Rp β'} {f : δ → β' → δ'} {ini : δ' → δ} {l : δ' → β'} {Γ2 : β' → List Cl} {k : β' → δ → Bk (Er × υ) β κ (ρ × υ)} (hv : OmV O R) (s : Sn Δ O Δ' f ini l) (hU : F.Uo.len ≤ Δ.len) (hz : ∀ xs, Fz Δ.len (R.at xs) Γ (Γ2 xs)) (h : ∀ xs, TSj F (Γ2 xs) Δ t2 (k xs) N C Rr) : TSj F Γ Δ' t2 (fun d => appK2 k (l d) (ini d)) N C Rr := fun Ds d σ H D e q => by
  obtain ⟨L, e'⟩ := En.popLast hv s hU e (hz (l d))
  exact h (l d) L (ini d) σ H D e' q
/-! ### defs with a well -/
def spW (A : Al α) (R : Rp β) (f : α → List Int → Res (Er × List Int) (β × List Int)) : Sp := fun vs H Q _ => ∃ p us a w, vs = .ref p :: us ∧ H p = some (.lst (w.map V.int)) ∧ A.P (· = p) H us a ∧ ∃ r w', f a w = .ok (r, w') ∧ ∀ v H', Keep (· = p) H H' → H' p = some (.lst (w'.map V.int)) → (∀ S : ASet, S p → (∀ x, S x → H x ≠ none) → R.P S H' v r) → Q v H'
def spWN (A : Al α) (R : Rp β) (f : α → List Int → Res (Er × List Int) (List β × List Int)) : Sp := fun vs H Q _ => ∃ p us a w, vs = .ref p :: us ∧ H p = some (.lst (w.map V.int)) ∧ A.P (· = p) H us a ∧ ∃ r w', f a w = .ok (r, w') ∧ ∀ D ws H', Keep (· = p) H H' → H' p = some (.lst (w'.map V.int)) → H D = none → H' D = some (.lst ws) → (∀ S : ASet, S p → (∀ x, S x → H x ≠ none) → Paired (R.P (fun x => S x ∨ x = D) H') ws r) → Q (.ref D) H'
/-- what a def does to a well, in the state -/
def Res.on {α β δ : Type} (r : Res (Er × β) (α × β)) (p : β → δ → δ) (d : δ) : Res (Er × δ) (α × δ) := match r with
  | .ok (a, w) => .ok (a, p w d)
  | .ex (e, w) => .ex (e, p w d)
  | .bad => .bad
@[simp] theorem Res.ok_on {α β δ : Type} (a : α) (w : β) (p : β → δ → δ) (d : δ) : (Res.ok (a, w) : Res (Er × β) (α × β)).on p d = .ok (a, p w d) := rfl
@[simp] theorem Res.bad_on {α β δ : Type} (p : β → δ → δ) (d : δ) : (Res.bad : Res (Er × β) (α × β)).on p d = .bad := rfl
theorem lst_ints {T : ASet} {H : Hp} {D : Addr} {w : List Int} (h : (oLst aI).C T H D w) : H D = some (.lst (w.map V.int)) := by
  obtain ⟨vs, h1, h2⟩ := h
  rw [h1, paired_ints h2]
theorem After.on {Ds : List Addr} {σ : St} {H : Hp} {r : Res (Er × List Int) (γ × List Int)} {j : Nat} {g : δ → List Int} {p : List Int → δ → δ} {d : δ} {D : Addr} {K : γ → δ → Hp → Prop} (hz : F.rz = false) (e : En F Γ Δ Ds d σ H) (ix : Ix Δ j (oLst aI) g p) (hj : Ds[j]? = some D) (h : After F Γ Δ Ds σ H (r.on p d) K) : ∃ c w', r = .ok (c, w') ∧ ∀ H', Keep (· = D) H H' → H' D = some (.lst (w'.map V.int)) → K c (p w' d) H' ∧ En F Γ Δ Ds (p w' d) σ H' ∧ Keep (· ∈ Ds) H H' := by
  match r, h with
  | .bad, h => exact h.elim
  | .ex (x, w), h => exact absurd h.1 (by rw [hz]; exact fun z => nomatch z)
  | .ok (c, w'), h =>
    refine ⟨c, w', rfl, fun H' k hw => ?_⟩
    have hm := List.mem_of_getElem? hj
    have k' : Keep (· ∈ Ds) H H' := k.mono fun a z => z ▸ hm
    have e' : En F Γ Δ Ds (p w' d) σ H' := e.step k' (ix.put e.own e.nd hj (k'.soft _) (fun E hE n => by
      have hl := e.live E (.inr (.inr hE))
      cases z : H E with
      | none => exact absurd z hl
      | some o => exact k.same E o n z) ⟨_, hw, ints_paired w'⟩)
    exact ⟨h H' e' k', e', k'⟩
theorem tj_callW {i j : Nat} {g : δ → List Int} {p : List Int → δ → δ} {A : Al α} {R : Rp β} {f : α → List Int → Res (Er × List Int) (β × List Int)} {E : XK} {t : TA} {m : δ → Res (Er × δ) (α × δ)} {c : Bool} (hz : F.rz = false) (hi : Γ[i]? = some (.ow j)) (ix : Ix Δ j (oLst aI) g p) (h : TAj F Γ Δ t m A c) :
    TEj F Γ Δ (tCall (spW A R f) [] E (tCons (tVar i) t)) (fun d => (m d).bd fun a d => (f a (g d)).on p d) R true := fun Ds d σ H Q e q => by
  obtain ⟨s, h1, D, hD, rfl⟩ := e.get hi
  refine ⟨_, h1, h Ds d σ H _ e ((q.bind).mono fun a d1 H1 e1 k1 q1 vs pv => ?_)⟩
  obtain ⟨D', h2, h3⟩ := ix.here e1.own
  rw [hD] at h2
  cases h2
  have hm := List.mem_of_getElem? hD
  obtain ⟨r, w', hr, k⟩ := After.on hz e1 ix hD q1
  rw [List.append_nil]
  exact ⟨D, vs, a, g d1, rfl, lst_ints h3, A.shift pv (fun x hx => .inl (hx ▸ softDs _ hm)), r, w', hr, fun v H' kk hw hR => (k H' kk hw).1 v (hR _ (softDs _ hm) e1.live)⟩
theorem tn_callW {i j : Nat} {g : δ → List Int} {p : List Int → δ → δ} {A : Al α} {R : Rp β} {f : α → List Int → Res (Er × List Int) (List β × List Int)} {E : XK} {t : TA} {m : δ → Res (Er × δ) (α × δ)} {c : Bool} (hz : F.rz = false) (hi : Γ[i]? = some (.ow j)) (ix : Ix Δ j (oLst aI) g p) (h : TAj F Γ Δ t m A c) :
    TNj F Γ Δ (tCall (spWN A R f) [] E (tCons (tVar i) t)) (fun d => (m d).bd fun a d => (f a (g d)).on p d) R true := fun Ds d σ H Q e q => by
  obtain ⟨s, h1, D, hD, rfl⟩ := e.get hi
  refine ⟨_, h1, h Ds d σ H _ e ((q.bind).mono fun a d1 H1 e1 k1 q1 vs pv => ?_)⟩
  obtain ⟨D', h2, h3⟩ := ix.here e1.own
  rw [hD] at h2
  cases h2
  have hm := List.mem_of_getElem? hD
  obtain ⟨r, w', hr, k⟩ := After.on hz e1 ix hD q1
  rw [List.append_nil]
  exact ⟨D, vs, a, g d1, rfl, lst_ints h3, A.shift pv (fun x hx => .inl (hx ▸ softDs _ hm)), r, w', hr, fun L ws H' kk hw nL hL hR => (k H' kk hw).1 L ws (k1.free nL) hL (hR _ (softDs _ hm) e1.live)⟩
/-- one's own well, and what a def with one gives -/
def FxW (K : PySem.W.Frag) (p : Addr) (S : ASet) (H : Hp) (cl : XC → Addr) : Fx (List Int × Unit) := { K := K, rz := false, U := [p], Uo := .cons (oLst aI) .nil, S := S, X := fun _ => False, H0 := H, E := fun _ _ _ _ => False, cl := cl }
abbrev dW : Dl (List Int × Unit) := .cons (oLst aI) .nil
def runW (b : Bk (Er × List Int × Unit) Empty Empty (ρ × List Int × Unit)) : Res (Er × List Int) (ρ × List Int) := match b with
  | .rt (r, w) => .ok (r, w.1)
  | .ex (e, w) => .ex (e, w.1)
  | _ => .bad
theorem startW_ok {S : ASet} {H : Hp} {cl : XC → Addr} {K : PySem.W.Frag} {p : Addr} : ∀ {α : Type} {A : Al α} {cs : List Bool} {vs : List V} {a : α}, DatL A cs → A.P (· = p) H vs a → Paired (ClOk (FxW K p S H cl) [p] H) (slotsOf A cs a) (vs.map some) := by
  intro α A cs vs a hd h
  induction hd generalizing vs with
  | nil => rw [show vs = [] from h]; exact .nil
  | yes d _ ih =>
    obtain ⟨v, ws, rfl, q1, q⟩ := h
    exact .cons (clc_ok (c := true) (d _ _ _ _ _ q1)) (ih q)
  | no _ ih =>
    obtain ⟨v, ws, rfl, q1, q⟩ := h
    refine .cons (clc_ok (c := false) (Rp.shift _ q1 fun a z => ?_)) (ih q)
    rcases z with ⟨z, _⟩ | z | z
    · cases z
    · exact z.elim
    · exact .inl (List.mem_singleton.mp z)
theorem En.startW {K : PySem.W.Frag} {p : Addr} {S : ASet} {H : Hp} {cl : XC → Addr} {A : Al α} {cs : List Bool} {vs : List V} {a : α} {w : List Int} {N : List Str} (hp : H p = some (.lst (w.map V.int))) (hS : ∀ x, S x → H x ≠ none) (hd : DatL A cs) (h : A.P (· = p) H vs a) :
    En (FxW K p S H cl) (.ow 0 :: slotsOf A cs a ++ List.replicate (N.length - (slotsOf A cs a).length - 1) .no) dW [p] (w, ()) (L2.start N (.ref p :: vs)) H := by
  refine ⟨Keep.refl _ _, ⟨[], rfl, fun _ h => nomatch h⟩, by simp, fun x h => ?_, ⟨p, [], rfl, ⟨_, hp, ints_paired w⟩, rfl⟩, ?_, (fun _ _ h => h), rfl, fun _ h => .inl h⟩
  · rcases h with ⟨_, h⟩ | h | h
    · exact hS x h
    · exact h.elim
    · rw [List.mem_singleton.mp h, hp]; exact fun z => nomatch z
  · show Paired _ _ (some (.ref p) :: vs.map some ++ List.replicate (N.length - (vs.length + 1)) none)
    rw [al_len (cs := cs) h, ← Nat.sub_sub]
    exact paired_app (.cons ⟨p, rfl, rfl⟩ (startW_ok hd h)) (paired_no _)
theorem run_W {K : PySem.W.Frag} {H : Hp} {A : Al α} {cs : List Bool} {R : Rp ρ} {f : α → List Int → Res (Er × List Int) (ρ × List Int)} {vs : List V} {Q : VK} {E : XK} {N : List Str} {t : TS} {m : α → List Int × Unit → Bk (Er × List Int × Unit) Empty Empty (ρ × List Int × Unit)} (cl : XC → Addr)
    (hd : DatL A cs) (hf : ∀ a w, f a w = runW (m a (w, ()))) (hsp : spW A R f vs H Q E) (hb : ∀ p S a, TSj (FxW K p S H cl) (.ow 0 :: slotsOf A cs a ++ List.replicate (N.length - (slotsOf A cs a).length - 1) .no) dW t (m a) (fun x _ _ => x.elim) (fun x _ _ => x.elim) (rkV R)) :
    t { nx := fun _ H' => Q .non H', rt := Q } (start N vs) H := by
  obtain ⟨p, us, a, w, rfl, hp, hA, r, w', hr, k⟩ := hsp
  rw [hf a w] at hr
  have hm : m a (w, ()) = .rt (r, w', ()) := by
    cases z : m a (w, ()) with
    | rt x => rw [z] at hr; cases hr; rfl
    | nx x => exact x.elim
    | bk x => exact x.elim
    | ct x => exact x.elim
    | ex x => rw [z] at hr; cases hr
    | bad => rw [z] at hr; cases hr
  refine hb p (fun x => H x ≠ none) a [p] (w, ()) _ H _ (En.startW hp (fun x h => h) hd hA) ?_
  rw [hm]
  rintro v H' ⟨h1, ⟨p', L, e1, h2, h4⟩, h3⟩
  have h1 : Keep (· ∈ [p]) H H' := h1
  have e1 : [p] = p' :: L := e1
  cases e1
  exact k v H' (h1.mono fun a h => List.mem_singleton.mp h) (lst_ints h2) fun S hSp hS => R.shift h3 fun x hx => .inl (hS x hx)
theorem run_WN {K : PySem.W.Frag} {H : Hp} {A : Al α} {cs : List Bool} {R : Rp ρ} {f : α → List Int → Res (Er × List Int) (List ρ × List Int)} {vs : List V} {Q : VK} {E : XK} {N : List Str} {t : TS} {m : α → List Int × Unit → Bk (Er × List Int × Unit) Empty Empty (List ρ × List Int × Unit)} (cl : XC → Addr)
    (hd : DatL A cs) (hf : ∀ a w, f a w = runW (m a (w, ()))) (hsp : spWN A R f vs H Q E) (hb : ∀ p S a, TSj (FxW K p S H cl) (.ow 0 :: slotsOf A cs a ++ List.replicate (N.length - (slotsOf A cs a).length - 1) .no) dW t (m a) (fun x _ _ => x.elim) (fun x _ _ => x.elim) (rkN R)) :
    t { nx := fun _ H' => Q .non H', rt := Q } (start N vs) H := by
  obtain ⟨p, us, a, w, rfl, hp, hA, r, w', hr, k⟩ := hsp
  rw [hf a w] at hr
  have hm : m a (w, ()) = .rt (r, w', ()) := by
    cases z : m a (w, ()) with
    | rt x => rw [z] at hr; cases hr; rfl
    | nx x => exact x.elim
    | bk x => exact x.elim
    | ct x => exact x.elim
    | ex x => rw [z] at hr; cases hr
    | bad => rw [z] at hr; cases hr
  refine hb p (fun x => H x ≠ none) a [p] (w, ()) _ H _ (En.startW hp (fun x h => h) hd hA) ?_
  rw [hm]
  rintro v H' ⟨h1, ⟨p', L, e1, h2, h4⟩, D, ws, rfl, nD, hD, h3⟩
  have h1 : Keep (· ∈ [p]) H H' := h1
  have e1 : [p] = p' :: L := e1
  cases e1
  exact k D ws H' (h1.mono fun a h => List.mem_singleton.mp h) (lst_ints h2) nD hD fun S hSp hS => Paired.mapP h3 fun _ _ z => R.shift z fun x hx => .inl (hx.imp (hS x) id)

theorem ext_push {Δ' : Dl δ'} {O : Om β} {f : δ → β → δ'} {ini : δ' → δ} {l : δ' → β} (s : Sn Δ O Δ' f ini l) (hU : F.Uo.len ≤ Δ.len) (h : ExtOk F Δ ext) : ExtOk F Δ' (fun d => ext (ini d)) := fun ul T H L d o => by
  obtain ⟨L1, D, e, o1, _⟩ := s.pop o
  have hl := Owns.length o1
  rcases List.eq_nil_or_concat L with rfl | ⟨M, x, rfl⟩
  · have := congrArg List.length e
    simp at this
    omega
  · rw [List.concat_eq_append, ← List.append_assoc] at e
    obtain ⟨e1, _⟩ := List.append_inj' e rfl
    rw [← e1] at o1
    exact h ul T H M _ o1
theorem ext_P {K : PySem.W.Frag} {S : ASet} {H : Hp} {cl : XC → Addr} : ExtOk (Fx0 K S H cl) .nil (fun d => d) := fun _ _ _ _ _ _ => rfl
theorem ext_W {K : PySem.W.Frag} {p : Addr} {S : ASet} {H : Hp} {cl : XC → Addr} : ExtOk (FxW K p S H cl) dW (fun d => d) := fun _ T G L d o => by
  have o : Owns dW T G ([p] ++ L) d := o
  have h := Owns.length o
  have : L = [] := by
    rw [List.length_append] at h
    exact List.length_eq_zero_iff.mp (Nat.add_left_cancel (show 1 + L.length = 1 + 0 from h))
  subst this
  exact o
/-! ### rules, K named -/
theorem kix_list {X : Cx} {K : PySem.W.Frag} (h : X.K = K) : IxR X (rIxL K) := h ▸ ix_list
theorem kix_tup {X : Cx} {K : PySem.W.Frag} (h : X.K = K) : IxR X (rIxT K) := h ▸ ix_tup
theorem kcatR {X : Cx} {K : PySem.W.Frag} (h : X.K = K) : OpR X (binaryOp .Add) (rCatR K) := h ▸ op_catR
theorem kcatA {X : Cx} {K : PySem.W.Frag} (h : X.K = K) : OpR X (binaryOp .Add) (rCatA K) := h ▸ op_catA
theorem ksl_list {X : Cx} {K : PySem.W.Frag} (h : X.K = K) : SlR X (rSlL K) := h ▸ sl_list
theorem ksl_tup {X : Cx} {K : PySem.W.Frag} (h : X.K = K) : SlR X (rSlA K) := h ▸ sl_tupA
theorem keqD {X : Cx} {K : PySem.W.Frag} (h : X.K = K) (hu : X.A.units + 64 < cLine) : OpR X (compareOp .Eq) (rEqD K) := h ▸ op_eqD hu
theorem kneD {X : Cx} {K : PySem.W.Frag} (h : X.K = K) (hu : X.A.units + 64 < cLine) : OpR X (compareOp .NotEq) (rNeD K) := h ▸ op_neD hu
theorem kinD {X : Cx} {K : PySem.W.Frag} (h : X.K = K) (hu : X.A.units + 65 < cLine) : OpR X (compareOp .In) (rInD K) := h ▸ op_inD hu
theorem kninD {X : Cx} {K : PySem.W.Frag} (h : X.K = K) (hu : X.A.units + 65 < cLine) : OpR X (compareOp .NotIn) (rNotInD K) := h ▸ op_notInD hu
theorem kin_seq {X : Cx} {K : PySem.W.Frag} (h : X.K = K) : OpR X (compareOp .In) (rIn K false) := h ▸ op_in_seq
theorem knin_seq {X : Cx} {K : PySem.W.Frag} (h : X.K = K) : OpR X (compareOp .NotIn) (rIn K true) := h ▸ op_notIn_seq
theorem klen {X : Cx} {K : PySem.W.Frag} (h : X.K = K) : CallR X (.builtin "len") (fun xs H Q => ∃ p ys, xs = [.ref p] ∧ (SqL K H p ys ∨ SqT K H p ys) ∧ Q (.int ys.length) H) := h ▸ call_len_seq
theorem ktuple {X : Cx} {K : PySem.W.Frag} (h : X.K = K) : CallR X (.type "tuple") (fun xs H Q => ∃ p ys, xs = [.ref p] ∧ ((SqL K H p ys ∧ ∀ l, H l = none → Q (.ref l) (upd H l (.tup ys))) ∨ (SqT K H p ys ∧ Q (.ref p) H))) := h ▸ call_tuple_of
theorem klist {X : Cx} {K : PySem.W.Frag} (h : X.K = K) : CallR X (.type "list") (fun xs H Q => ∃ p ys, xs = [.ref p] ∧ (SqL K H p ys ∨ SqT K H p ys) ∧ ∀ l, H l = none → Q (.ref l) (upd H l (.lst ys))) := h ▸ call_list_of
theorem ksum {X : Cx} {K : PySem.W.Frag} (h : X.K = K) (hc : X.calm = true) : CallR X (.builtin "sum") (rSum K) := h ▸ cr_sum hc
theorem kmax {X : Cx} {K : PySem.W.Frag} (h : X.K = K) (hc : X.calm = true) : CallR X (.builtin "max") (rMax K) := h ▸ cr_max hc
theorem kmin {X : Cx} {K : PySem.W.Frag} (h : X.K = K) (hc : X.calm = true) : CallR X (.builtin "min") (rMin K) := h ▸ cr_min hc
theorem kany {X : Cx} {K : PySem.W.Frag} (h : X.K = K) (hc : X.calm = true) : CallR X (.builtin "any") (rAny K) := h ▸ cr_any hc
theorem kall {X : Cx} {K : PySem.W.Frag} (h : X.K = K) (hc : X.calm = true) : CallR X (.builtin "all") (rAll K) := h ▸ cr_all hc
theorem kpi_list {X : Cx} {K : PySem.W.Frag} {tg iter : Expr} {t : TE} (h : X.K = K) (e : PE X iter t) : PI X tg iter (iList K t) := h ▸ pi_list e
theorem kpi_tup {X : Cx} {K : PySem.W.Frag} {tg iter : Expr} {t : TE} (h : X.K = K) (e : PE X iter t) : PI X tg iter (iTup K t) := h ▸ pi_tup e
end
end L2

/-! what a text computes: more statements -/
namespace L2
open PySem PySem.Spec PyProof.Rows RZ
section
variable {υ δ δ' α β γ τ κ ρ : Type} {F : Fx υ} {Γ Γ' : List Cl} {Δ : Dl δ} {ext : δ → υ} {N : β → St → Hp → Prop} {C : κ → St → Hp → Prop} {t2 : TS} {Rr : Rk ρ}
theorem nn_tup {R : Rp α} : ∀ S H x, ¬ (aTup R).P S H .non x := fun _ _ _ ⟨_, _, h, _⟩ => nomatch h
theorem nn_lst {K : PySem.W.Frag} {R : Rp α} : ∀ S H x, ¬ (aLst K R).P S H .non x := fun _ _ _ ⟨_, _, h, _⟩ => nomatch h
theorem nn_t2 {R : Rp α} {Q : Rp γ} : ∀ S H x, ¬ (aT2 R Q).P S H .non x := fun _ _ _ ⟨_, _, _, h, _⟩ => nomatch h
theorem nn_t3 {R : Rp α} {Q : Rp γ} {T : Rp τ} : ∀ S H x, ¬ (aT3 R Q T).P S H .non x := fun _ _ _ ⟨_, _, _, _, h, _⟩ => nomatch h
theorem nn_I : ∀ S H x, ¬ aI.P S H .non x := fun _ _ _ h => nomatch (show V.non = V.int _ from h)
theorem nn_B : ∀ S H x, ¬ aB.P S H .non x := fun _ _ _ h => nomatch (show V.non = V.bl _ from h)
theorem nn_S : ∀ S H x, ¬ aS.P S H .non x := fun _ _ _ h => nomatch (show V.non = V.str _ from h)
theorem TIj.dat {wi : TI} {m : δ → Res (Er × δ) (List α × δ)} {R : Rp α} {c c' : Bool} (hd : R.Dat) (h : TIj F Γ Δ wi m R c) : TIj F Γ Δ wi m R (c && c') := fun Ds d σ H Q e q => h Ds d σ H Q e (q.mono fun xs d' H' e' _ k J ok => k J (by
  obtain ⟨G, g0, gk, gs, gw⟩ := ok.ex
  exact ⟨G, gs _ _ _ g0 fun a h => .inl (by
    rcases h with ⟨h, z⟩ | h
    · rw [Bool.and_eq_true] at h; exact .inl ⟨h.1, z⟩
    · exact .inr h), gk, gs, gw⟩))
theorem ts_nxU {C : κ → St → Hp → Prop} : TSj F Γ Δ tNext (fun _ => (Bk.nx () : Bk (Er × υ) Unit κ (ρ × υ))) (fun _ σ' H' => ∃ Γ' Ds d, En F Γ' Δ Ds d σ' H') C Rr := fun Ds d σ H D e q => q σ H ⟨_, Ds, d, e⟩
theorem ts_nxle {g : τ → List Cl} {x : τ} (h : Le Γ (g x)) : TSj F Γ Δ tNext (fun d => (Bk.nx (x, d) : Bk (Er × υ) (τ × δ) κ (ρ × υ))) (Nx F Δ g) C Rr := ts_nx (nx_le h)
theorem ts_ctle {κ' : Type} {N : β → St → Hp → Prop} {g : τ → List Cl} {x : τ} (h : Le Γ (g x)) : TSj F Γ Δ tCont (fun d => (Bk.ct (x, d) : Bk (Er × υ) β (τ × δ) (ρ × υ))) N (Nx F Δ g) Rr := ts_ct (nx_le h)
theorem ts_bkle {κ' : Type} {N : β → St → Hp → Prop} {g : τ → List Cl} {x : τ} (h : Le Γ (g x)) : TSj F Γ Δ tBreak (fun d => (Bk.bk (x, d) : Bk (Er × υ) β (τ × δ) (ρ × υ))) N (Nx F Δ g) Rr := ts_bk (nx_le h)
theorem ts_retO {i j : Nat} {R : Rp α} {g : δ → List α} {p : List α → δ → δ} (hE : ExtOk F Δ ext) (hi : Γ[i]? = some (.ow j)) (ix : Ix Δ j (oLst R) g p) (hj : F.Uo.len ≤ j) : TSj F Γ Δ (tRet (tVar i)) (fun d => .rt (g d, ext d)) N C (rkN R) := fun Ds d σ H D e q => by
  obtain ⟨s, h1, A, hA, rfl⟩ := e.get hi
  obtain ⟨A', h2, vs, h3, h4⟩ := ix.here e.own
  rw [hA] at h2
  cases h2
  refine ⟨_, h1, q _ H ⟨e.k0, e.owns hE, A, vs, rfl, ?_, h3, Paired.mapP h4 fun _ _ z => R.shift z fun x hx => .inl ?_⟩⟩
  · have ul := e.ul
    obtain ⟨L, rfl, hL⟩ := e.pre
    rw [List.getElem?_append_right (by omega)] at hA
    exact hL A (List.mem_of_getElem? hA)
  · rcases hx with hx | rfl
    · exact .inl ⟨rfl, hx⟩
    · exact .inr (.inr (List.mem_of_getElem? hA))
theorem ts_if1 {c : TT} {t1 t3 : TS} {mc : δ → Res (Er × δ) (Bool × δ)} {m1 m3 : δ → Bk (Er × υ) β κ (ρ × υ)} (hE : ExtOk F Δ ext) (hc : TTj F Γ Δ c mc) (h1 : TSj F Γ Δ t1 m1 N C Rr) (h3 : TSj F Γ Δ t3 m3 N C Rr) : TSj F Γ Δ (tIfS c t1 t3) (fun d => (mc d).bs ext fun b d => if b = true then m1 d else m3 d) N C Rr := fun Ds d σ H D e q => by
  refine hc Ds d σ H _ e ((AfterS.of hE e q).mono fun a d' H' e' k' q' => ?_)
  dsimp only at q'
  cases a with
  | true => rw [if_pos rfl] at q' ⊢; exact h1 Ds d' σ H' _ e' q'
  | false => rw [if_neg Bool.false_ne_true] at q' ⊢; exact h3 Ds d' σ H' _ e' q'
theorem ts_par {i j : Nat} {t : TA} {R1 : Rp α} {R2 : Rp γ} {m : δ → Res (Er × δ) ((α × γ × Unit) × δ)} {c : Bool} {k : α × γ × Unit → δ → Bk (Er × υ) β κ (ρ × υ)} {Γ' : α × γ × Unit → List Cl} (hE : ExtOk F Δ ext) (h : TAj F Γ Δ t m (.cons R1 (.cons R2 .nil)) c) (hΓ : ∀ p, Γ' p = (Γ.set i (clc c (R1.at p.1))).set j (clc c (R2.at p.2.1))) (h2 : ∀ p, TSj F (Γ' p) Δ t2 (k p) N C Rr) :
    TSj F Γ Δ (tSeq (tPar i j t) t2) (fun d => (m d).bs ext k) N C Rr := fun Ds d σ H D e q =>
  h Ds d σ H _ e ((AfterS.of hE e q).mono fun a d' H' e' k' q' vs pv => by
    obtain ⟨v, ws, rfl, p1, w, us, rfl, p2, rfl⟩ := pv
    exact ⟨v, w, rfl, h2 a Ds d' _ H' D (by rw [hΓ]; exact (e'.set (clc_ok p1)).set (clc_ok p2)) q'⟩)
theorem ts_par3 {i j l : Nat} {t : TA} {R1 : Rp α} {R2 : Rp γ} {R3 : Rp τ} {m : δ → Res (Er × δ) ((α × γ × τ × Unit) × δ)} {c : Bool} {k : α × γ × τ × Unit → δ → Bk (Er × υ) β κ (ρ × υ)} {Γ' : α × γ × τ × Unit → List Cl} (hE : ExtOk F Δ ext) (h : TAj F Γ Δ t m (.cons R1 (.cons R2 (.cons R3 .nil))) c) (hΓ : ∀ p, Γ' p = ((Γ.set i (clc c (R1.at p.1))).set j (clc c (R2.at p.2.1))).set l (clc c (R3.at p.2.2.1))) (h2 : ∀ p, TSj F (Γ' p) Δ t2 (k p) N C Rr) :
    TSj F Γ Δ (tSeq (tPar3 i j l t) t2) (fun d => (m d).bs ext k) N C Rr := fun Ds d σ H D e q =>
  h Ds d σ H _ e ((AfterS.of hE e q).mono fun a d' H' e' k' q' vs pv => by
    obtain ⟨v, ws, rfl, p1, w, us, rfl, p2, u, xs, rfl, p3, rfl⟩ := pv
    exact ⟨v, w, u, rfl, h2 a Ds d' _ H' D (by rw [hΓ]; exact ((e'.set (clc_ok p1)).set (clc_ok p2)).set (clc_ok p3)) q'⟩)
/-- x op= e of integers -/
def IpT (t : TIp) (g : Int → Int → Option Int) : Prop := ∀ (x y : Int) (H : Hp) (Q : VK), (∃ c, g x y = some c ∧ Q (.int c) H) → t (.int x) (.int y) H Q
theorem ts_aug {i : Nat} {te : TE} {ti : TIp} {x : Int} {g : Int → Int → Option Int} {m : δ → Res (Er × δ) (Int × δ)} {c : Bool} {k : Int → δ → Bk (Er × υ) β κ (ρ × υ)} {Γ' : Int → List Cl} (hE : ExtOk F Δ ext) (hi : Γ[i]? = some (.fz (aI.at x))) (h : TEj F Γ Δ te m aI c) (hg : IpT ti g) (hΓ : ∀ a, Γ' a = Γ.set i (.fz (aI.at a))) (h2 : ∀ a, TSj F (Γ' a) Δ t2 (k a) N C Rr) :
    TSj F Γ Δ (tSeq (tAug i te ti) t2) (fun d => (m d).bs ext fun a d => (optAt (g x a) d).bs ext k) N C Rr := fun Ds d σ H D e q => by
  obtain ⟨s, h1, v, rfl, p⟩ := e.get hi
  have p : v = .int x := p
  subst p
  refine ⟨_, h1, h Ds d σ H _ e ((AfterS.of hE e q).mono fun a d' H' e' k' q' w pw => ?_)⟩
  have pw : w = .int a := pw
  subst pw
  dsimp only at q'
  cases z : g x a with
  | none => rw [z] at q'; exact q'.elim
  | some c =>
    rw [z] at q'
    exact hg x a H' _ ⟨c, z, h2 c Ds d' _ H' D (by rw [hΓ]; exact e'.set ⟨_, rfl, rfl⟩) q'⟩
theorem ipt_add : IpT (ipI fun i j => i + j) gAdd := fun x y H Q ⟨c, hc, k⟩ => by cases hc; exact ⟨x, y, rfl, rfl, k⟩
theorem ipt_sub : IpT (ipI fun i j => i - j) gSbt := fun x y H Q ⟨c, hc, k⟩ => by cases hc; exact ⟨x, y, rfl, rfl, k⟩
/-- a < b < c -/
theorem tj_chain {K' : PySem.W.Frag} {ta tb tc : TE} {r r' : R2} {g g' : Int → Int → Option Bool} {ma mb mc : δ → Res (Er × δ) (Int × δ)} (hr : OpT K' r aI aI g aB) (hr' : OpT K' r' aI aI g' aB) (ha : TEj F Γ Δ ta ma aI true) (hb : TEj F Γ Δ tb mb aI true) (hc : TEj F Γ Δ tc mc aI true) (hg : ∀ x y, ∃ b, g x y = some b) :
    TEj F Γ Δ (tChain r r' ta tb tc) (fun d => (ma d).bd fun x d => (mb d).bd fun y d => if g x y = some true then (mc d).bd fun z d => optAt (g' y z) d else .ok (false, d)) aB true := fun Ds d σ H Q e q => by
  refine ha Ds d σ H _ e ((q.bind).mono fun a d1 H1 e1 k1 q1 v pv => ?_)
  refine hb Ds d1 σ H1 _ e1 ((q1.bind).mono fun b d2 H2 e2 k2 q2 w pw => ?_)
  dsimp only at q2
  obtain ⟨t, ht⟩ := hg a b
  refine hr _ H2 v w a b _ (fun x hx => e2.live x (soft_le hx)) pv pw ⟨t, ht, fun z H3 s p => ⟨t, p, ?_⟩⟩
  cases t with
  | true =>
    rw [if_pos ht] at q2
    rw [if_pos rfl]
    have q3 := q2.from (s.keepS _)
    refine hc Ds d2 σ H3 _ (e2.same s) ((q3.bind).mono fun c d4 H4 e4 k4 q4 u pu => ?_)
    obtain ⟨x, hx, k⟩ := After.opt q4 e4
    exact hr' _ H4 w u b c Q (fun x hx => e4.live x (soft_le hx)) pw pu ⟨x, hx, fun z H' s p => k H' s z p⟩
  | false =>
    rw [if_neg (by rw [ht]; simp)] at q2
    rw [if_neg (by decide)]
    exact After.ok (q2.from (s.keepS _)) (e2.same s) _ rfl
/-- a new list given to a def with a well -/
def Res.drop {α β δ : Type} (r : Res (Er × β) (α × β)) (d : δ) : Res (Er × δ) (α × δ) := match r with
  | .ok (a, _) => .ok (a, d)
  | .ex (e, _) => .ex (e, d)
  | .bad => .bad
@[simp] theorem Res.ok_drop {α β δ : Type} (a : α) (w : β) (d : δ) : (Res.ok (a, w) : Res (Er × β) (α × β)).drop d = .ok (a, d) := rfl
theorem After.toX {Ds : List Addr} {σ : St} {H : Hp} {D : Addr} {r : Res (Er × δ) (α × δ)} {K : α → δ → Hp → Prop} (hz : F.rz = false) (h : After F Γ Δ Ds σ H r K) : After (F.addX D) Γ Δ Ds σ H r K := by
  match r, h with
  | .ok (a, d'), h => exact fun H' e k => h H' e.ofX k
  | .ex (x, d'), h => exact absurd h.1 (by rw [hz]; exact fun z => nomatch z)
theorem En.keepX {Ds : List Addr} {d : δ} {σ : St} {H H' : Hp} {D : Addr} (e : En F Γ Δ Ds d σ H) (hX : F.X D) (n0 : F.H0 D = none) (hD : D ∉ Ds) (kk : Keep (· = D) H H') : En F Γ Δ Ds d σ H' := by
  have k : ∀ b, Keep (soft b F Ds) H H' := fun b => kk.mono fun a z => .inr (.inl (z ▸ hX))
  have hs : ∀ E ∈ Ds, H' E = H E := fun E hE => by
    have hl := e.live E (.inr (.inr hE))
    cases z : H E with
    | none => exact absurd z hl
    | some o => exact kk.same E o (fun z => hD (z ▸ hE)) z
  refine ⟨⟨fun b o n h => kk.same b o (fun z => ?_) (e.k0.same b o n h), fun b xs h => kk.tup b xs (e.k0.tup b xs h), fun b h => kk.live b (e.k0.live b h)⟩, e.pre, e.nd, fun a h => (k true).live a (e.live a h), Owns.keep (k true) e.own hs, Paired.mapP e.sl fun c z h => ?_, e.xd, e.ul, e.sd⟩
  · have z : b = D := z
    rw [z, n0] at h
    cases h
  · cases c with
    | no => trivial
    | fz R => obtain ⟨v, e, p⟩ := h; exact ⟨v, e, R.keep p (k true)⟩
    | bo R => obtain ⟨v, e, p⟩ := h; exact ⟨v, e, R.keep p (k false)⟩
    | ow j => exact h
    | l2 j1 j2 => obtain ⟨W, D, E, e, n, g, g1, g2⟩ := h; exact ⟨W, D, E, e, n, (k true).same _ _ n g, g1, g2⟩
/-- what came to be on the way is not in what was there -/
theorem En.newX (hd : DatD Δ) {Ds : List Addr} {d0 d : δ} {σ : St} {H0 H : Hp} {D : Addr} (e0 : En F Γ Δ Ds d0 σ H0) (e : En F Γ Δ Ds d σ H) (k : Keep (· ∈ Ds) H0 H) (n : H0 D = none) (l : H D ≠ none) : En (F.addX D) Γ Δ Ds d σ H := by
  have nD : D ∉ Ds := fun z => e0.live D (.inr (.inr z)) n
  refine ⟨e.k0, e.pre, e.nd, fun a h => ?_, hd.any e.own, Paired.mapP e0.sl fun c z h => ?_, fun a ha h => h.elim (e.xd a ha) fun z => nD (z ▸ ha), e.ul, e.sd⟩
  · rcases soft_addX.mp h with h | rfl
    · exact e.live a h
    · exact l
  · refine ClOk.keep (h.sub (fun b a h => ?_) fun _ _ h => h) k
    rcases soft_addX.mp h with h | h
    · exact .inl h
    · exact .inr (by rw [h]; exact n)
theorem tj_callWn {te : TE} {A : Al α} {R : Rp γ} {f : α → List Int → Res (Er × List Int) (γ × List Int)} {E : XK} {t : TA} {mw : δ → Res (Er × δ) (List Int × δ)} {m : δ → Res (Er × δ) (α × δ)} {c c' : Bool} (hz : F.rz = false) (hdat : DatD Δ) (hw : TNj F Γ Δ te mw aI c') (h : ∀ X, TAj { F with X := X } Γ Δ t m A c) :
    TEj F Γ Δ (tCall (spW A R f) [] E (tCons te t)) (fun d => (mw d).bd fun w d => (m d).bd fun a d => (f a w).drop d) R true := fun Ds d σ H Q e q => by
  refine hw Ds d σ H _ e ?_
  replace q : After F Γ Δ Ds σ H ((mw d).bd fun w d => (m d).bd fun a d => (f a w).drop d) (fun a _ H' => ∀ v, R.P (soft true F Ds) H' v a → Q v H') := q
  cases hm : mw d with
  | bad => rw [hm] at q; exact q.elim
  | ex x => rw [hm] at q; exact absurd q.1 (by rw [hz]; exact fun z => nomatch z)
  | ok p =>
    have q' : After F Γ Δ Ds σ H ((m p.2).bd fun a d => (f a p.1).drop d) (fun a _ H' => ∀ v, R.P (soft true F Ds) H' v a → Q v H') := by rw [hm] at q; exact q
    intro H1 e1 k1 D vs nD hD pw
    have hDs : D ∉ Ds := fun z => e.live D (.inr (.inr z)) nD
    have eX := En.newX hdat e e1 k1 nD (by rw [hD]; exact fun z => nomatch z)
    refine h _ Ds p.2 σ H1 _ eX ?_
    cases hm2 : m p.2 with
    | bad => rw [hm2] at q'; exact q'.elim
    | ex x => rw [hm2] at q'; exact absurd q'.1 (by rw [hz]; exact fun z => nomatch z)
    | ok r =>
      have q2 : After F Γ Δ Ds σ H ((f r.1 p.1).drop r.2) (fun a _ H' => ∀ v, R.P (soft true F Ds) H' v a → Q v H') := by rw [hm2] at q'; exact q'
      intro H2 e2 k2 us pv
      have hD2 := k2.same D _ hDs hD
      have hvs : vs = p.1.map V.int := paired_ints pw
      subst hvs
      have h0D : F.H0 D = none := e.k0.free nD
      show spW A R f ((V.ref D :: us) ++ []) H2 Q E
      rw [List.append_nil]
      cases z : f r.1 p.1 with
      | bad => rw [z] at q2; exact q2.elim
      | ex x => rw [z] at q2; exact absurd q2.1 (by rw [hz]; exact fun z => nomatch z)
      | ok x =>
        rw [z] at q2
        refine ⟨D, us, r.1, p.1, rfl, hD2, A.shift pv fun x hx => .inl (soft_addX.mpr (.inr hx)), x.1, x.2, z, fun v H' kk hw' hR => ?_⟩
        have e3 : En (F.addX D) Γ Δ Ds r.2 σ H' := e2.keepX (.inr rfl) h0D hDs kk
        have k12 := k1.trans k2
        have kf : Keep (· ∈ Ds) H H' := ⟨fun b o n hb => kk.same b o (fun z => by rw [show b = D from z, nD] at hb; cases hb) (k12.same b o n hb), fun b xs hb => kk.tup b xs (k12.tup b xs hb), fun b hb => kk.live b (k12.live b hb)⟩
        refine q2 H' e3.ofX kf v (R.shift (hR (fun b => soft true F Ds b ∨ b = D) (.inr rfl) fun b hb => ?_) fun b hb => .inl (.inl hb))
        rcases hb with hb | rfl
        · exact e2.live b (soft_addX.mpr (.inl hb))
        · rw [hD2]; exact fun z => nomatch z
/-- a call by names -/
theorem tj_callK {A : Al α} {R : Rp γ} {f : α → Res Er γ} {E : XK} {t : TA} {m : δ → Res (Er × δ) (α × δ)} {c : Bool} (hz : F.rz = false) (h : TAj F Γ Δ t m A c) :
    TEj F Γ Δ (tCallK (spP A R f) kwG E tNil t) (fun d => (m d).bd fun a d => (f a).at d) R true := fun Ds d σ H Q e q => by
  have k := tj_call (E := E) (R := R) (f := f) hz h Ds d σ H Q e q
  refine (h Ds d σ H _ e ((show After F Γ Δ Ds σ H ((m d).bind fun p => (f p.1).at p.2) _ from q).bind.mono fun a d1 H1 e1 k1 q1 vs p => ?_))
  obtain ⟨r, hr, k⟩ := q1.res e1 hz
  exact ⟨a, A.shift p (fun _ z => z.elim), r, hr, fun v H' s hR => k H' s v (hR _ e1.live)⟩
theorem tn_callK {A : Al α} {R : Rp γ} {f : α → Res Er (List γ)} {E : XK} {t : TA} {m : δ → Res (Er × δ) (α × δ)} {c : Bool} (hz : F.rz = false) (h : TAj F Γ Δ t m A c) :
    TNj F Γ Δ (tCallK (spN A R f) kwG E tNil t) (fun d => (m d).bd fun a d => (f a).at d) R true := fun Ds d σ H Q e q => by
  refine (h Ds d σ H _ e ((show After F Γ Δ Ds σ H ((m d).bind fun p => (f p.1).at p.2) _ from q).bind.mono fun a d1 H1 e1 k1 q1 vs p => ?_))
  obtain ⟨r, hr, k⟩ := q1.res e1 hz
  exact ⟨a, A.shift p (fun _ z => z.elim), r, hr, fun D ws H' s n hD hR => k H' s D ws (k1.free n) hD (hR _ e1.live)⟩
theorem kpe_revL {X : Cx} {K : PySem.W.Frag} {e : Expr} {te : TE} {k : Nat} {p1 p2 p3 pos : Pos} (h : X.K = K) (he : PE X e te) : PE X (.Subscript e (.Slice none none (some (.UnaryOp .USub (.Constant (.int 1) k p1) p2)) p3) pos) (tRevL K te) := h ▸ pe_revL he
theorem kpi_zipA {X : Cx} {K : PySem.W.Frag} {e e2 : Expr} {ta : TA} {p pos tpos : Pos} {elts : List Expr} {kk : Nat} (h : X.K = K) (hg : Gl X "zip") (hm : X.mg "zip" = none) (ha : PA X [e, e2] ta)
    (hs : starEach [e, e2] X.env = (false, eval e X.env) :: starEach [e2] X.env := by rfl) (hpl : (backTo pos (starEach [e2] X.env)).any (·.1) = false := by rfl) :
    PI X (.Tuple elts kk tpos) (.Call (.Name "zip" p) [e, e2] [] pos) (iZipA K ta) := h ▸ pi_zipA hg hm ha hs hpl
theorem kpi_zipM {X : Cx} {K : PySem.W.Frag} {e e2 : Expr} {ta : TA} {p pos tpos : Pos} {elts : List Expr} {kk : Nat} (h : X.K = K) (hg : Gl X "zip") (hm : X.mg "zip" = none) (ha : PA X [e, e2] ta)
    (hs : starEach [e, e2] X.env = (false, eval e X.env) :: starEach [e2] X.env := by rfl) (hpl : (backTo pos (starEach [e2] X.env)).any (·.1) = false := by rfl) :
    PI X (.Tuple elts kk tpos) (.Call (.Name "zip" p) [e, e2] [] pos) (iZipM K ta) := h ▸ pi_zipM hg hm ha hs hpl
theorem krepT {X : Cx} {K : PySem.W.Frag} (h : X.K = K) : OpR X (binaryOp .Mult) (rRepT K) := h ▸ op_repT
end
end L2

/-! what a text computes: classes of values, while, lists that change -/
namespace L2
open PySem PySem.Spec PyProof.Rows RZ
section
variable {υ δ δ' α β γ τ κ ρ : Type} {F : Fx υ} {Γ Γ' : List Cl} {Δ : Dl δ} {ext : δ → υ} {N : β → St → Hp → Prop} {C : κ → St → Hp → Prop} {t2 : TS} {Rr : Rk ρ}
/-! ### isinstance -/
def aTy (n : String) : Rp Unit := ⟨fun _ _ v _ => v = .ty n, fun h _ => h, fun h _ => h⟩
theorem aTy.dat {n : String} : (aTy n).Dat := fun _ _ _ _ _ h => h
theorem tj_ty {n : String} : TEj F Γ Δ (tC (.ty n)) (fun d => .ok ((), d)) (aTy n) true := tj_c fun _ _ => rfl
def gCst {α : Type} (b : Bool) (_ : α) : Option Bool := some b
/-- the class of such values -/
def TyIs {α : Type} (K : PySem.W.Frag) (R : Rp α) (t : String) : Prop := ∀ T H v x, R.P T H v x → TyX K H v (.type t)
theorem ty_I {K : PySem.W.Frag} : TyIs K aI "int" := fun T H v x h => by rw [show v = .int x from h]; exact .base (.int x)
theorem ty_B {K : PySem.W.Frag} : TyIs K aB "bool" := fun T H v x h => by rw [show v = .bl x from h]; exact .base (.bl x)
theorem ty_S {K : PySem.W.Frag} : TyIs K aS "str" := fun T H v x h => by rw [show v = .str x from h]; exact .base (.str x)
theorem ty_tup {K : PySem.W.Frag} {R : Rp α} : TyIs K (aTup R) "tuple" := fun T H v x ⟨a, vs, e, h, _⟩ => by rw [e]; exact .base (.tup h)
theorem ty_t2 {K : PySem.W.Frag} {R : Rp α} {Q : Rp β} : TyIs K (aT2 R Q) "tuple" := fun T H v x ⟨a, v1, v2, e, h, _⟩ => by rw [e]; exact .base (.tup h)
theorem ty_t3 {K : PySem.W.Frag} {R : Rp α} {Q : Rp β} {S : Rp γ} : TyIs K (aT3 R Q S) "tuple" := fun T H v x ⟨a, v1, v2, v3, e, h, _⟩ => by rw [e]; exact .base (.tup h)
theorem ty_lst {K : PySem.W.Frag} {R : Rp α} : TyIs K (aLst K R) "list" := fun T H v x ⟨a, vs, e, h, _⟩ => by
  rw [e]
  rcases h with ⟨_, h | ⟨o, h⟩⟩ | ⟨o, its, n, h1, h2, _⟩
  · exact .base (.lst h)
  · exact .base (.frz h)
  · exact .kList h1 h2
theorem cb_isi {K : PySem.W.Frag} {R : Rp α} {t n : String} {b : Bool} (ht : TyIs K R t) (hk : PySem.W.kitOne K (.type t) (.type n) = some b) : CbT (rIsi K) (.cons R (.cons (aTy n) .nil)) (gCst b) aB := fun T H vs a Q hT pa ⟨c, hc, k⟩ => by
  cases hc
  obtain ⟨v, ws, rfl, p, w, us, rfl, q, rfl⟩ := pa
  exact ⟨v, w, _, _, b, rfl, by rw [show w = .ty n from q]; exact .ty n, ht _ _ _ _ p, hk, k _ H (Same.refl _) rfl⟩
def gIsS (a : Option α × Unit × Unit) : Option Bool := some a.1.isSome
theorem cb_isiO {K : PySem.W.Frag} {R : Rp α} {t n : String} (ht : TyIs K R t) (hk : PySem.W.kitOne K (.type t) (.type n) = some true) (h0 : PySem.W.kitOne K (.type "NoneType") (.type n) = some false) : CbT (rIsi K) (.cons (aOpt R) (.cons (aTy n) .nil)) gIsS aB := fun T H vs a Q hT pa ⟨c, hc, k⟩ => by
  cases hc
  obtain ⟨v, ws, rfl, p, w, us, rfl, q, rfl⟩ := pa
  have e : w = .ty n := q
  subst e
  rcases p with ⟨rfl, e⟩ | ⟨y, e, p, _⟩
  · exact ⟨_, _, _, _, false, rfl, .ty n, .base .non, h0, k _ H (Same.refl _) (by show V.bl _ = V.bl _; rw [e]; rfl)⟩
  · exact ⟨v, _, _, _, true, rfl, .ty n, ht _ _ _ _ p, hk, k _ H (Same.refl _) (by show V.bl _ = V.bl _; rw [e]; rfl)⟩
theorem cb_isiN {K : PySem.W.Frag} {R : Rp α} {t n : String} (ht : TyIs K R t) (hk : PySem.W.kitOne K (.type t) (.type n) = some false) (h0 : PySem.W.kitOne K (.type "NoneType") (.type n) = some false) : CbT (rIsi K) (.cons (aOpt R) (.cons (aTy n) .nil)) (gCst false) aB := fun T H vs a Q hT pa ⟨c, hc, k⟩ => by
  cases hc
  obtain ⟨v, ws, rfl, p, w, us, rfl, q, rfl⟩ := pa
  have e : w = .ty n := q
  subst e
  rcases p with ⟨rfl, e⟩ | ⟨y, e, p, _⟩
  · exact ⟨_, _, _, _, false, rfl, .ty n, .base .non, h0, k _ H (Same.refl _) rfl⟩
  · exact ⟨v, _, _, _, false, rfl, .ty n, ht _ _ _ _ p, hk, k _ H (Same.refl _) rfl⟩
theorem kisi {X : Cx} {K : PySem.W.Frag} (h : X.K = K) : CallR X (.builtin "isinstance") (rIsi K) := h ▸ call_isi
/-! ### while -/
def whB {κ : Type} (t : τ → δ → Res (Er × δ) (Bool × δ)) (b : τ → δ → Bk (Er × δ) (τ × δ) (τ × δ) (ρ × δ)) : Nat → τ → δ → Bk (Er × δ) (τ × δ) κ (ρ × δ)
  | 0, _, _ => .bad
  | n + 1, s, d => (t s d).bs (fun d => d) fun c d => if c = true then (match b s d with
    | .nx s' => whB t b n s'.1 s'.2
    | .ct s' => whB t b n s'.1 s'.2
    | .bk s' => .nx s'
    | .rt x => .rt x
    | .ex e => .ex e
    | .bad => .bad) else .nx (s, d)
theorem ts_while {tt : TT} {tb : TS} [hR : RkOk Rr] {gl : τ → List Cl} {s0 : τ} {n : δ → Nat} {mt : τ → δ → Res (Er × δ) (Bool × δ)} {mb : τ → δ → Bk (Er × δ) (τ × δ) (τ × δ) (ρ × δ)} {k : τ → δ → Bk (Er × υ) β κ (ρ × υ)}
    (hE : ExtOk F Δ ext) (h0 : Le Γ (gl s0)) (ht : ∀ Ds H s, TTj (F.loop Δ Ds H) (gl s) Δ tt (mt s))
    (hb : ∀ Ds H s, TSj (F.loop Δ Ds H) (gl s) Δ tb (mb s) (Nx (F.loop Δ Ds H) Δ gl) (Nx (F.loop Δ Ds H) Δ gl) Rr)
    (h2 : ∀ x, TSj F (gl x) Δ t2 (k x) N C Rr) :
    TSj F Γ Δ (tSeq (tWhile tt tb) t2) (fun d => ((whB mt mb (n d) s0 d).mapU ext).sq k) N C Rr := fun Ds d σ H D e q => by
  generalize hM : ({ D with nx := t2 D } : Ends) = DM
  have q2 : AfterS (F.loop Δ Ds H) (whB mt mb (n d) s0 d) (Nx F Δ gl) C Rr DM := by
    refine AfterS.unloop hE e ?_
    rw [← hM]
    exact AfterS.seq q fun x σ H m w => rest_of h2 x σ H D m w
  have nn : ∀ x σ' H', Nx (F.loop Δ Ds H) Δ gl x σ' H' → En F (gl x.1) Δ Ds x.2 σ' H' := fun x σ' H' ⟨Ds', h⟩ => by
    obtain ⟨rfl, h1, h2⟩ := e.unloop h
    exact h1
  show ∃ W : Nat → St → Hp → Prop, _
  refine ⟨fun m σ' H' => ∃ x, Nx (F.loop Δ Ds H) Δ gl x σ' H' ∧ AfterS (F.loop Δ Ds H) (whB mt mb m x.1 x.2) (Nx F Δ gl) C Rr DM, ⟨n d, (s0, d), ⟨Ds, e.loop.le h0⟩, q2⟩, ?_⟩
  rintro m σ1 H1 ⟨x, hn, hq⟩
  cases m with
  | zero => exact hq.elim
  | succ m =>
    obtain ⟨Ds', en⟩ := id hn
    obtain ⟨rfl, e1, _⟩ := e.unloop en
    have hq : AfterS (F.loop Δ Ds' H) ((mt x.1 x.2).bs (fun d => d) fun c d => if c = true then (match mb x.1 d with
      | .nx s' => whB mt mb m s'.1 s'.2
      | .ct s' => whB mt mb m s'.1 s'.2
      | .bk s' => .nx s'
      | .rt x => .rt x
      | .ex e => .ex e
      | .bad => .bad) else .nx (x.1, d)) (Nx F Δ gl) C Rr DM := by
      rw [whB] at hq
      exact hq
    refine ht Ds' H x.1 Ds' x.2 σ1 H1 _ en ((AfterS.of ext_loop en hq).mono fun c d' H2 e2 k2 q3 => ?_)
    dsimp only at q3
    cases c with
    | false =>
      rw [if_neg Bool.false_ne_true] at q3 ⊢
      subst hM
      exact q3 σ1 H2 ⟨Ds', (e.unloop e2).2.1⟩
    | true =>
      rw [if_pos rfl] at q3 ⊢
      refine ⟨fun σ' H' => ∃ x, Nx (F.loop Δ Ds' H) Δ gl x σ' H' ∧ AfterS (F.loop Δ Ds' H) (whB mt mb m x.1 x.2) (Nx F Δ gl) C Rr DM, fun σ' H' h => ⟨m, Nat.lt_succ_self m, h⟩, ?_⟩
      refine hb Ds' H x.1 Ds' d' σ1 H2 _ e2 ?_
      cases z : mb x.1 d' with
      | nx s' => rw [z] at q3; exact fun σ' H' n => ⟨s', n, q3⟩
      | ct s' => rw [z] at q3; exact fun σ' H' n => ⟨s', n, q3⟩
      | bk s' => rw [z] at q3; subst hM; exact fun σ' H' n => q3 σ' H' ⟨Ds', nn _ _ _ n⟩
      | rt w => rw [z] at q3; subst hM; exact q3
      | ex w => rw [z] at q3; exact q3
      | bad => rw [z] at q3; exact q3
/-! ### more lists -/
theorem tj_revT {K : PySem.W.Frag} {t : TE} {R : Rp α} {c : Bool} {m : δ → Res (Er × δ) (List α × δ)} (h : TEj F Γ Δ t m (aTup R) c) : TEj F Γ Δ (tRevT K t) (fun d => (m d).bd fun a d => .ok (a.reverse, d)) (aTup R) c := fun Ds d σ H Q e q => by
  refine h Ds d σ H _ e ((q.bind).mono fun xs d1 H1 e1 k1 q1 v pv => ?_)
  obtain ⟨x, vs, rfl, hx, hp⟩ := pv
  refine ⟨x, vs, rfl, SqT.of hx, fun p np => ?_⟩
  have s := Same.new0 (o := HO.tup vs.reverse) np
  have hr : Paired (R.P (soft c F Ds) H1) vs.reverse xs.reverse := by
    clear hx s q1
    induction hp with
    | nil => exact .nil
    | cons a _ ih => rw [List.reverse_cons, List.reverse_cons]; exact Paired.snoc ih a
  exact (q1 _ (e1.same s) (s.keepS _)) _ ⟨p, _, rfl, upd_same, Paired.mapP hr fun _ _ z => R.keep z (s.keepS _)⟩
theorem kpe_revT {X : Cx} {K : PySem.W.Frag} {e : Expr} {te : TE} {k : Nat} {p1 p2 p3 pos : Pos} (h : X.K = K) (he : PE X e te) : PE X (.Subscript e (.Slice none none (some (.UnaryOp .USub (.Constant (.int 1) k p1) p2)) p3) pos) (tRevT K te) := h ▸ pe_revT he
/-- a new list, several times -/
theorem tn_rep {t u : TE} {R : Rp α} {c c' : Bool} {m : δ → Res (Er × δ) (List α × δ)} {mi : δ → Res (Er × δ) (Int × δ)} (hd : R.Dat) (h : TNj F Γ Δ t m R c) (h2 : TEj F Γ Δ u mi aI c') : TNj F Γ Δ (tOp rRep t u) (fun d => (m d).bd fun a d => (mi d).bd fun b d => optAt (gRep a b) d) R c := fun Ds d σ H Q e q => by
  refine h Ds d σ H _ e ((q.bind).mono fun xs d1 H1 e1 k1 q1 D vs nD hD hp => ?_)
  refine h2 Ds d1 σ H1 _ e1 ((q1.bind).mono fun b d2 H2 e2 k2 q2 w pw => ?_)
  obtain ⟨l, hl, k⟩ := After.opt q2 e2
  have hDs : D ∉ Ds := fun z => e.live D (.inr (.inr z)) nD
  unfold gRep at hl
  split at hl
  · rename_i hc
    cases hl
    refine ⟨D, b, vs, rfl, pw, k2.same D _ hDs hD, hc.1, hc.2.1, by rw [Paired.length hp]; exact hc.2.2, fun p np => ?_⟩
    have s := Same.new0 (o := HO.lst (List.replicate b.toNat vs).flatten) np
    refine k _ s p _ (k1.free (k2.free np)) upd_same (Paired.mapP (paired_rep hp _) fun _ _ z => hd (· ∈ Ds) _ _ _ _ (R.keep (hd _ (· ∈ Ds) _ _ _ z) (k2.trans (s.keepS _))))
  · cases hl
/-- l.extend of a new list -/
theorem tj_extend {K' : PySem.W.Frag} {i j : Nat} {R : Rp α} {g : δ → List α} {p : List α → δ → δ} {te : TE} {m : δ → Res (Er × δ) (List α × δ)} (hi : Γ[i]? = some (.ow j)) (ix : Ix Δ j (oLst R) g p) (h : TNj F Γ Δ te m R true) :
    TEj F Γ Δ (tBM K' "list" rExtend (tVar i) (tCons te tNil)) (fun d => (m d).bd fun a d => if (g d).length + a.length ≤ sizeLine then .ok ((), p (g d ++ a) d) else .bad) aN true := fun Ds d σ H Q e q => by
  obtain ⟨s, h1, D, hD, rfl⟩ := e.get hi
  obtain ⟨D', h2, vs, h3, h4⟩ := ix.here e.own
  rw [hD] at h2
  cases h2
  refine ⟨_, h1, .inl ⟨rfl, _, SqL.of h3⟩, ?_⟩
  refine h Ds d σ H _ e ((q.bind).mono fun a d1 H1 e1 k1 q1 b ws nb hb hp => ?_)
  obtain ⟨D', h5, vs', h6, h7⟩ := ix.here e1.own
  rw [hD] at h5
  cases h5
  dsimp only at q1
  by_cases hl : (g d1).length + a.length ≤ sizeLine
  · rw [if_pos hl] at q1
    have nt : ∀ xs, H1 D ≠ some (.tup xs) := fun xs z => by rw [h6] at z; cases z
    have hm := List.mem_of_getElem? hD
    obtain ⟨e2, k2⟩ := e1.put (b := g d1 ++ a) (o := .lst (vs' ++ ws)) ix hD ⟨_, upd_same, paired_app (Paired.mapP h7 fun _ _ z => Rp.into z hm nt) (Paired.mapP hp fun _ _ z => Rp.into (R.shift z fun x hx => .inl (.inl hx)) hm nt)⟩
    exact ⟨D, b, vs', ws, rfl, rfl, h6, hb, by rw [Paired.length h7, Paired.length hp]; exact hl, q1 _ e2 k2 _ rfl⟩
  · rw [if_neg hl] at q1
    exact q1.elim
/-- l.pop(i) -/
noncomputable def gPop {α : Type} (xs : List α) (i : Int) : Option (α × List α) := @ite _ (-(2 ^ 63) ≤ i ∧ i < 2 ^ 63) (Classical.propDecidable _) ((seqIndex? i xs.length).bind fun k => xs[k]?.map fun a => (a, xs.eraseIdx k)) none
def popJ {α β δ : Type} (o : Option (α × β)) (p : β → δ) : Res (Er × δ) (α × δ) := match o with
  | some x => .ok (x.1, p x.2)
  | none => .bad
theorem paired_erase {β' γ' : Type} {P : β' → γ' → Prop} : ∀ {l : List β'} {m : List γ'} (i : Nat), Paired P l m → Paired P (l.eraseIdx i) (m.eraseIdx i)
  | _, _, _, .nil => .nil
  | _, _, 0, .cons _ t => t
  | _, _, i + 1, .cons h t => .cons h (paired_erase i t)
theorem tj_pop {K' : PySem.W.Frag} {i j : Nat} {R : Rp α} {g : δ → List α} {p : List α → δ → δ} {t : TA} {m : δ → Res (Er × δ) ((Int × Unit) × δ)} {c : Bool} (hi : Γ[i]? = some (.ow j)) (ix : Ix Δ j (oLst R) g p) (h : TAj F Γ Δ t m (.cons aI .nil) c) :
    TEj F Γ Δ (tBM K' "list" rPopAt (tVar i) t) (fun d => (m d).bd fun a d => popJ (gPop (g d) a.1) fun l => p l d) R true := fun Ds d σ H Q e q => by
  obtain ⟨s, h1, D, hD, rfl⟩ := e.get hi
  obtain ⟨D', h2, vs, h3, h4⟩ := ix.here e.own
  rw [hD] at h2
  cases h2
  refine ⟨_, h1, .inl ⟨rfl, _, SqL.of h3⟩, ?_⟩
  refine h Ds d σ H _ e ((q.bind).mono fun a d1 H1 e1 k1 q1 ws pv => ?_)
  obtain ⟨v, us, rfl, pv, rfl⟩ := pv
  obtain ⟨D', h5, vs', h6, h7⟩ := ix.here e1.own
  rw [hD] at h5
  cases h5
  dsimp only at q1
  unfold gPop at q1
  by_cases hc : -(2 ^ 63) ≤ a.1 ∧ a.1 < 2 ^ 63
  · rw [if_pos hc] at q1
    cases z : seqIndex? a.1 (g d1).length with
    | none => rw [z] at q1; exact q1.elim
    | some k =>
      rw [z] at q1
      cases y : (g d1)[k]? with
      | none => rw [show (some k).bind (fun k => (g d1)[k]?.map fun a => (a, (g d1).eraseIdx k)) = none by rw [Option.bind_some, y]; rfl] at q1; exact q1.elim
      | some x =>
        rw [show (some k).bind (fun k => (g d1)[k]?.map fun a => (a, (g d1).eraseIdx k)) = some (x, (g d1).eraseIdx k) by rw [Option.bind_some, y]; rfl] at q1
        have nt : ∀ xs, H1 D ≠ some (.tup xs) := fun xs z => by rw [h6] at z; cases z
        have hm := List.mem_of_getElem? hD
        have hk : k < vs'.length := by rw [Paired.length h7]; exact (List.getElem?_eq_some_iff.mp y).1
        have hv : vs'[k]? = some vs'[k] := List.getElem?_eq_getElem hk
        obtain ⟨x', g1, g2⟩ := pairGet h7 hv
        rw [y] at g1
        cases g1
        obtain ⟨e2, k2⟩ := e1.put (b := (g d1).eraseIdx k) (o := .lst (vs'.eraseIdx k)) ix hD ⟨_, upd_same, paired_erase k (Paired.mapP h7 fun _ _ z => Rp.into z hm nt)⟩
        exact ⟨D, vs', a.1, k, vs'[k], rfl, by rw [show v = .int a.1 from pv], h6, hc.1, hc.2, by rw [Paired.length h7]; exact z, hv, q1 _ e2 k2 _ (Rp.into g2 hm nt)⟩
  · rw [if_neg hc] at q1
    exact q1.elim
/-- l[i], l[j] = a, b -/
theorem ts_setL2 {i j : Nat} {R : Rp α} {g : δ → List α} {p : List α → δ → δ} {te ti ti2 : TE} {m : δ → Res (Er × δ) ((α × α) × δ)} {mi mi2 : δ → Res (Er × δ) (Int × δ)} {c' c2 : Bool} {k : δ → Bk (Er × υ) β κ (ρ × υ)} (hE : ExtOk F Δ ext) (hi : Γ[i]? = some (.ow j)) (ix : Ix Δ j (oLst R) g p) (h : TEj F Γ Δ te m (aT2 R R) true) (h2 : TEj F Γ Δ ti mi aI c') (h4 : TEj F Γ Δ ti2 mi2 aI c2) (h3 : TSj F Γ Δ t2 k N C Rr) :
    TSj F Γ Δ (tSeq (tAsg te (L2.gTup F.K 2 (L2.gCons (L2.gSub (tVar i) ti rSetL) (L2.gCons (L2.gSub (tVar i) ti2 rSetL) L2.gNil)))) t2) (fun d => (m d).bs ext fun a d => (mi d).bs ext fun i d => setJ (g d) i a.1 (fun l => p l d) fun d => (mi2 d).bs ext fun i d => setJ (g d) i a.2 (fun l => p l d) k) N C Rr := fun Ds d σ H D e q => by
  refine h Ds d σ H _ e ((AfterS.of hE e q).mono fun a d1 H1 e1 k1 q1 v pv => ?_)
  obtain ⟨tp, v1, v2, rfl, ht, pv1, pv2⟩ := pv
  refine ⟨tp, _, rfl, .of ht, rfl, v1, [v2], rfl, ?_⟩
  obtain ⟨s, h1, A, hA, rfl⟩ := e1.get hi
  have hm := List.mem_of_getElem? hA
  refine ⟨_, h1, ?_⟩
  refine h2 Ds d1 σ H1 _ e1 ((AfterS.of hE e1 q1).mono fun b d2 H2 e2 k2 q2 w pw => ?_)
  obtain ⟨A', h5, vs', h6, h7⟩ := ix.here e2.own
  rw [hA] at h5
  cases h5
  dsimp only at q2
  unfold setJ setK setA at q2
  have nt : ∀ xs, H2 A ≠ some (.tup xs) := fun xs z => by rw [h6] at z; cases z
  cases z : ixN (g d2).length b with
  | none => rw [z] at q2; exact q2.elim
  | some n =>
    rw [z] at q2
    obtain ⟨e3, k3⟩ := e2.put (b := (g d2).set n a.1) (o := .lst (vs'.set n v1)) ix hA ⟨_, upd_same, paired_setL (Paired.mapP h7 fun _ _ z => Rp.into z hm nt) (Rp.into (R.keep pv1 (k2.soft true)) hm nt)⟩
    refine ⟨A, vs', b, n, rfl, pw, h6, by rw [Paired.length h7]; exact z, v2, [], rfl, ?_⟩
    obtain ⟨s2, h9, A2, hA2, rfl⟩ := e3.get hi
    rw [hA] at hA2
    cases hA2
    refine ⟨_, h9, ?_⟩
    refine h4 Ds _ σ _ _ e3 ((AfterS.of hE e3 q2).mono fun b2 d4 H4 e4 k4 q4 w2 pw2 => ?_)
    obtain ⟨A'', h10, vs'', h11, h12⟩ := ix.here e4.own
    rw [hA] at h10
    cases h10
    dsimp only at q4
    have nt2 : ∀ xs, H4 A ≠ some (.tup xs) := fun xs z => by rw [h11] at z; cases z
    cases z2 : ixN (g d4).length b2 with
    | none => rw [z2] at q4; exact q4.elim
    | some n2 =>
      rw [z2] at q4
      have q4 : AfterS F (k (p ((g d4).set n2 a.2) d4)) N C Rr D := q4
      have pv3 := R.keep (R.keep (R.keep pv2 (k2.soft true)) (k3.soft true)) (k4.soft true)
      obtain ⟨e5, k5⟩ := e4.put (b := (g d4).set n2 a.2) (o := .lst (vs''.set n2 v2)) ix hA ⟨_, upd_same, paired_setL (Paired.mapP h12 fun _ _ z => Rp.into z hm nt2) (Rp.into pv3 hm nt2)⟩
      exact ⟨A, vs'', b2, n2, rfl, pw2, h11, by rw [Paired.length h12]; exact z2, rfl, h3 Ds _ σ _ D e5 q4⟩
/-- the law's own -/
theorem law_sp {K : PySem.W.Frag} {f : List Int × Unit → Res Er Bool} (hf : ∀ ns : List Int, ns.length ≤ 63 → (∀ z ∈ ns, Builtin.Int.intBits z ≤ 1048576) → f (ns, ()) = .ok true) : ∀ vs H Q E, spLaw K vs H Q E → spP (.cons (aLst K aI) .nil) aB f vs H Q E := fun vs H Q E ⟨a, ns, e, hS, hl, hb, q⟩ => by
  subst e
  refine ⟨(ns, ()), ⟨_, _, rfl, ⟨a, ns.map V.int, rfl, ?_, ints_paired ns⟩, rfl⟩, true, hf ns hl hb, fun v H' s hR => ?_⟩
  · rcases hS with h | h
    · exact .inl ⟨fun z => z, h⟩
    · exact .inr h
  · rw [show v = V.bl true from hR (fun _ => False) fun _ h => h.elim]
    exact q H'
end
end L2

/-! what a text computes: what is raised and caught -/
namespace L2
open PySem PySem.Spec PyProof.Rows RZ
section
variable {υ δ δ' α β γ τ κ ρ : Type} {F : Fx υ} {Γ Γ' : List Cl} {Δ : Dl δ} {ext : δ → υ} {N : β → St → Hp → Prop} {C : κ → St → Hp → Prop} {t2 : TS} {Rr : Rk ρ}
/-! ### where nothing is raised, and where something may be -/
abbrev Fx.wi (F : Fx υ) (rz : Bool) (E : St → XK) : Fx υ := { F with rz := rz, E := E }
abbrev Fx.calm (F : Fx υ) : Fx υ := F.wi false fun _ _ _ _ => False
theorem En.to {rz : Bool} {E : St → XK} {Ds : List Addr} {d : δ} {σ : St} {H : Hp} (e : En F Γ Δ Ds d σ H) : En (F.wi rz E) Γ Δ Ds d σ H := ⟨e.k0, e.pre, e.nd, e.live, e.own, e.sl, e.xd, e.ul, e.sd⟩
theorem En.fro {rz : Bool} {E : St → XK} {Ds : List Addr} {d : δ} {σ : St} {H : Hp} (e : En (F.wi rz E) Γ Δ Ds d σ H) : En F Γ Δ Ds d σ H := ⟨e.k0, e.pre, e.nd, e.live, e.own, e.sl, e.xd, e.ul, e.sd⟩
theorem After.calm {Ds : List Addr} {σ : St} {H : Hp} {r : Res (Er × δ) (α × δ)} {K : α → δ → Hp → Prop} (h : After F Γ Δ Ds σ H r.noex K) : After F.calm Γ Δ Ds σ H r K := by
  match r, h with
  | .ok (a, d'), h => exact fun H' e k => h H' e.fro k
  | .ex (x, d'), h => exact h.elim
  | .bad, h => exact h.elim
theorem TEj.calm {t : TE} {m : δ → Res (Er × δ) (α × δ)} {R : Rp α} {c : Bool} (h : TEj F.calm Γ Δ t m R c) : TEj F Γ Δ t (fun d => (m d).noex) R c := fun Ds d σ H Q e q => h Ds d σ H Q e.to (After.calm q)
theorem TNj.calm {t : TE} {m : δ → Res (Er × δ) (List α × δ)} {R : Rp α} {c : Bool} (h : TNj F.calm Γ Δ t m R c) : TNj F Γ Δ t (fun d => (m d).noex) R c := fun Ds d σ H Q e q => h Ds d σ H Q e.to (After.calm q)
theorem TTj.calm {t : TT} {m : δ → Res (Er × δ) (Bool × δ)} (h : TTj F.calm Γ Δ t m) : TTj F Γ Δ t (fun d => (m d).noex) := fun Ds d σ H Q e q => h Ds d σ H Q e.to (After.calm q)
theorem TIj.calm {wi : TI} {m : δ → Res (Er × δ) (List α × δ)} {R : Rp α} {c : Bool} (h : TIj F.calm Γ Δ wi m R c) : TIj F Γ Δ wi (fun d => (m d).noex) R c := fun Ds d σ H Q e q => h Ds d σ H Q e.to (After.calm q)
/-! calls of defs that raise nothing, from where something may be raised -/
theorem After.resZ {Ds : List Addr} {σ : St} {H : Hp} {o : Res Er γ} {d : δ} {K : γ → δ → Hp → Prop} (h : After F Γ Δ Ds σ H (o.noex.at d) K) (e : En F Γ Δ Ds d σ H) : ∃ c, o = .ok c ∧ ∀ H', Same H H' → K c d H' := by
  cases o with
  | bad => exact h.elim
  | ex x => exact h.elim
  | ok c => exact ⟨c, rfl, fun H' s => h H' (e.same s) (s.keepS _)⟩
theorem tj_callZ {A : Al α} {R : Rp β} {f : α → Res Er β} {E : XK} {t : TA} {m : δ → Res (Er × δ) (α × δ)} {c : Bool} (h : TAj F Γ Δ t m A c) :
    TEj F Γ Δ (tCall (spP A R f) [] E t) (fun d => (m d).bd fun a d => (f a).noex.at d) R true := fun Ds d σ H Q e q => by
  refine h Ds d σ H _ e ((q.bind).mono fun a d1 H1 e1 k1 q1 vs p => ?_)
  obtain ⟨r, hr, k⟩ := After.resZ q1 e1
  rw [List.append_nil]
  exact ⟨a, A.shift p (fun _ z => z.elim), r, hr, fun v H' s hR => k H' s v (hR _ e1.live)⟩
theorem tn_callZ {A : Al α} {R : Rp β} {f : α → Res Er (List β)} {E : XK} {t : TA} {m : δ → Res (Er × δ) (α × δ)} {c : Bool} (h : TAj F Γ Δ t m A c) :
    TNj F Γ Δ (tCall (spN A R f) [] E t) (fun d => (m d).bd fun a d => (f a).noex.at d) R true := fun Ds d σ H Q e q => by
  refine h Ds d σ H _ e ((q.bind).mono fun a d1 H1 e1 k1 q1 vs p => ?_)
  obtain ⟨r, hr, k⟩ := After.resZ q1 e1
  rw [List.append_nil]
  exact ⟨a, A.shift p (fun _ z => z.elim), r, hr, fun D ws H' s n hD hR => k H' s D ws (k1.free n) hD (hR _ e1.live)⟩
/-! ### defs that may raise -/
def RE (K : PySem.W.Frag) (cl : XC → Addr) (H : Hp) (k : β → Hp → Prop) (E : XK) : Res Er β → Prop
  | .ok r => ∀ H', Same H H' → k r H'
  | .ex e => ∀ H' dx v, Same H H' → H dx = none → H' dx = some (.xd [("value", v)]) → (∀ S : ASet, (∀ x, S x → H x ≠ none) → e.val.Ok K S H' v) → E (.ref (cl e.cls)) (some dx) H'
  | .bad => False
def spE (K : PySem.W.Frag) (cl : XC → Addr) (A : Al α) (R : Rp β) (f : α → Res Er β) : Sp := fun vs H Q E => ∃ a, A.P (fun _ => False) H vs a ∧ RE K cl H (fun r H' => ∀ v, (∀ S : ASet, (∀ x, S x → H x ≠ none) → R.P S H' v r) → Q v H') E (f a)
def spEN (K : PySem.W.Frag) (cl : XC → Addr) (A : Al α) (R : Rp β) (f : α → Res Er (List β)) : Sp := fun vs H Q E => ∃ a, A.P (fun _ => False) H vs a ∧ RE K cl H (fun r H' => ∀ D ws, H D = none → H' D = some (.lst ws) → (∀ S : ASet, (∀ x, S x → H x ≠ none) → Paired (R.P (fun x => S x ∨ x = D) H') ws r) → Q (.ref D) H') E (f a)
theorem After.re {Ds : List Addr} {σ : St} {H : Hp} {o : Res Er γ} {d : δ} {K0 : γ → δ → Hp → Prop} {kk : γ → Hp → Prop} (h : After F Γ Δ Ds σ H (o.at d) K0) (e : En F Γ Δ Ds d σ H) (hk : ∀ r H', Same H H' → K0 r d H' → kk r H') : RE F.K F.cl H kk (F.E σ) o := by
  cases o with
  | bad => exact h.elim
  | ex x => exact fun H' dx v s n hx hv => h.2 H' dx v (e.same s) (s.keepS _) n hx (hv _ e.live)
  | ok c => exact fun H' s => hk c H' s (h H' (e.same s) (s.keepS _))
theorem After.re0 {Ds : List Addr} {σ : St} {H : Hp} {o : Res Er γ} {d : δ} {E : XK} {K0 : γ → δ → Hp → Prop} {kk : γ → Hp → Prop} (hz : F.rz = false) (h : After F Γ Δ Ds σ H (o.at d) K0) (e : En F Γ Δ Ds d σ H) (hk : ∀ r H', Same H H' → K0 r d H' → kk r H') : RE F.K F.cl H kk E o := by
  cases o with
  | bad => exact h.elim
  | ex x => exact absurd h.1 (by rw [hz]; exact fun z => nomatch z)
  | ok c => exact fun H' s => hk c H' s (h H' (e.same s) (s.keepS _))
section
variable {A : Al α} {t : TA} {m : δ → Res (Er × δ) (α × δ)} {c : Bool}
theorem tj_callE {R : Rp β} {f : α → Res Er β} {E : XK} (hE : ∀ σ, F.E σ = E) (h : TAj F Γ Δ t m A c) : TEj F Γ Δ (tCall (spE F.K F.cl A R f) [] E t) (fun d => (m d).bd fun a d => (f a).at d) R true := fun Ds d σ H Q e q => by
  refine h Ds d σ H _ e ((q.bind).mono fun a d1 H1 e1 k1 q1 vs p => ?_)
  rw [List.append_nil]
  refine ⟨a, A.shift p (fun _ z => z.elim), ?_⟩
  rw [← hE σ]
  exact After.re q1 e1 fun r H' s k v hR => k v (hR _ e1.live)
theorem tj_callE0 {R : Rp β} {f : α → Res Er β} {E : XK} (hz : F.rz = false) (h : TAj F Γ Δ t m A c) : TEj F Γ Δ (tCall (spE F.K F.cl A R f) [] E t) (fun d => (m d).bd fun a d => (f a).at d) R true := fun Ds d σ H Q e q => by
  refine h Ds d σ H _ e ((q.bind).mono fun a d1 H1 e1 k1 q1 vs p => ?_)
  rw [List.append_nil]
  exact ⟨a, A.shift p (fun _ z => z.elim), After.re0 hz q1 e1 fun r H' s k v hR => k v (hR _ e1.live)⟩
theorem tj_callES {R : Rp β} {f : α → Res Er β} (h : TAj F Γ Δ t m A c) : TEj F Γ Δ (tCallS (spE F.K F.cl A R f) F.E t) (fun d => (m d).bd fun a d => (f a).at d) R true := fun Ds d σ H Q e q => by
  refine h Ds d σ H _ e ((q.bind).mono fun a d1 H1 e1 k1 q1 vs p => ?_)
  exact ⟨a, A.shift p (fun _ z => z.elim), After.re q1 e1 fun r H' s k v hR => k v (hR _ e1.live)⟩
theorem tn_callE {R : Rp β} {f : α → Res Er (List β)} {E : XK} (hE : ∀ σ, F.E σ = E) (h : TAj F Γ Δ t m A c) : TNj F Γ Δ (tCall (spEN F.K F.cl A R f) [] E t) (fun d => (m d).bd fun a d => (f a).at d) R true := fun Ds d σ H Q e q => by
  refine h Ds d σ H _ e ((q.bind).mono fun a d1 H1 e1 k1 q1 vs p => ?_)
  rw [List.append_nil]
  refine ⟨a, A.shift p (fun _ z => z.elim), ?_⟩
  rw [← hE σ]
  exact After.re q1 e1 fun r H' s k D ws n hD hR => k D ws (k1.free n) hD (hR _ e1.live)
theorem tn_callE0 {R : Rp β} {f : α → Res Er (List β)} {E : XK} (hz : F.rz = false) (h : TAj F Γ Δ t m A c) : TNj F Γ Δ (tCall (spEN F.K F.cl A R f) [] E t) (fun d => (m d).bd fun a d => (f a).at d) R true := fun Ds d σ H Q e q => by
  refine h Ds d σ H _ e ((q.bind).mono fun a d1 H1 e1 k1 q1 vs p => ?_)
  rw [List.append_nil]
  exact ⟨a, A.shift p (fun _ z => z.elim), After.re0 hz q1 e1 fun r H' s k D ws n hD hR => k D ws (k1.free n) hD (hR _ e1.live)⟩
theorem tn_callES {R : Rp β} {f : α → Res Er (List β)} (h : TAj F Γ Δ t m A c) : TNj F Γ Δ (tCallS (spEN F.K F.cl A R f) F.E t) (fun d => (m d).bd fun a d => (f a).at d) R true := fun Ds d σ H Q e q => by
  refine h Ds d σ H _ e ((q.bind).mono fun a d1 H1 e1 k1 q1 vs p => ?_)
  exact ⟨a, A.shift p (fun _ z => z.elim), After.re q1 e1 fun r H' s k D ws n hD hR => k D ws (k1.free n) hD (hR _ e1.live)⟩
end

/-! by names -/
section
variable {A : Al α} {t : TA} {m : δ → Res (Er × δ) (α × δ)} {c : Bool}
theorem tj_callKE0 {R : Rp β} {f : α → Res Er β} {E : XK} (hz : F.rz = false) (h : TAj F Γ Δ t m A c) : TEj F Γ Δ (tCallK (spE F.K F.cl A R f) kwG E tNil t) (fun d => (m d).bd fun a d => (f a).at d) R true := fun Ds d σ H Q e q => by
  refine h Ds d σ H _ e ((q.bind).mono fun a d1 H1 e1 k1 q1 vs p => ?_)
  exact ⟨a, A.shift p (fun _ z => z.elim), After.re0 hz q1 e1 fun r H' s k v hR => k v (hR _ e1.live)⟩
theorem tn_callKE0 {R : Rp β} {f : α → Res Er (List β)} {E : XK} (hz : F.rz = false) (h : TAj F Γ Δ t m A c) : TNj F Γ Δ (tCallK (spEN F.K F.cl A R f) kwG E tNil t) (fun d => (m d).bd fun a d => (f a).at d) R true := fun Ds d σ H Q e q => by
  refine h Ds d σ H _ e ((q.bind).mono fun a d1 H1 e1 k1 q1 vs p => ?_)
  exact ⟨a, A.shift p (fun _ z => z.elim), After.re0 hz q1 e1 fun r H' s k D ws n hD hR => k D ws (k1.free n) hD (hR _ e1.live)⟩
end
/-! the body of such a def -/
def FxE (K : PySem.W.Frag) (S : ASet) (H : Hp) (cl : XC → Addr) (E : XK) : Fx Unit := { K := K, rz := true, U := [], Uo := .nil, S := S, X := fun _ => False, H0 := H, E := fun _ => E, cl := cl }
theorem En.startE {K : PySem.W.Frag} {S : ASet} {H : Hp} {cl : XC → Addr} {E : XK} {A : Al α} {cs : List Bool} {vs : List V} {a : α} {N : List Str} (hS : ∀ x, S x → H x ≠ none) (hd : DatL A cs) (h : A.P (fun _ => False) H vs a) :
    En (FxE K S H cl E) (slotsOf A cs a ++ List.replicate (N.length - (slotsOf A cs a).length) .no) .nil [] () (L2.start N vs) H := (En.start (K := K) (cl := cl) hS hd h).to
theorem ErV.shift {K : PySem.W.Frag} {S S' : ASet} {H : Hp} {v : V} {x : ErV} (h : x.Ok K S H v) (k : ∀ a, S' a → S a ∨ H a = none) : x.Ok K S' H v := by
  cases x with
  | int n => exact h
  | tup ns => exact (aTup aI).shift h k
  | str s => exact h
  | rows r => exact (aLst K (aLst K aI)).shift h k
theorem ErV.keep {K : PySem.W.Frag} {S : ASet} {H H' : Hp} {v : V} {x : ErV} (h : x.Ok K S H v) (k : Keep S H H') : x.Ok K S H' v := by
  cases x with
  | int n => exact h
  | tup ns => exact (aTup aI).keep h k
  | str s => exact h
  | rows r => exact (aLst K (aLst K aI)).keep h k
theorem run_E {K : PySem.W.Frag} {H : Hp} {A : Al α} {cs : List Bool} {R : Rp ρ} {f : α → Res Er ρ} {vs : List V} {Q : VK} {E : XK} {N : List Str} {t : TS} {m : α → Unit → Bk (Er × Unit) Empty Empty (ρ × Unit)} (cl : XC → Addr)
    (hd : DatL A cs) (hf : ∀ a, f a = runP (m a ())) (hsp : spE K cl A R f vs H Q E) (hb : ∀ S a, TSj (FxE K S H cl E) (slotsOf A cs a ++ List.replicate (N.length - (slotsOf A cs a).length) .no) .nil t (m a) (fun x _ _ => x.elim) (fun x _ _ => x.elim) (rkV R)) :
    t { nx := fun _ H' => Q .non H', rt := Q } (start N vs) H := by
  obtain ⟨a, hA, hr⟩ := hsp
  rw [hf a] at hr
  refine hb (fun x => H x ≠ none) a [] () _ H _ (En.startE (fun x h => h) hd hA) ?_
  cases z : m a () with
  | rt x =>
    rw [z] at hr
    obtain ⟨r, u⟩ := x
    rintro v H' ⟨h1, h2, h3⟩
    exact hr H' (fun b o e => h1.same b o (fun z => nomatch z) e) v fun S hS => R.shift h3 fun x hx => .inl (hS x hx)
  | nx x => exact x.elim
  | bk x => exact x.elim
  | ct x => exact x.elim
  | ex x =>
    rw [z] at hr
    obtain ⟨e, u⟩ := x
    refine ⟨rfl, fun σ' H' dx v k o n hx hv => hr H' dx v (fun b o e => k.same b o (fun z => nomatch z) e) n hx fun S hS => ErV.shift hv fun x hx => .inl (.inl (hS x hx))⟩
  | bad => rw [z] at hr; exact hr
theorem run_E0 {K : PySem.W.Frag} {H : Hp} {A : Al α} {cs : List Bool} {f : α → Res Er Unit} {vs : List V} {Q : VK} {E : XK} {N : List Str} {t : TS} {m : α → Unit → Bk (Er × Unit) Unit Empty (Unit × Unit)} (cl : XC → Addr)
    (hd : DatL A cs) (hf : ∀ a, f a = runP0 (m a ())) (hsp : spE K cl A aN f vs H Q E) (hb : ∀ S a, TSj (FxE K S H cl E) (slotsOf A cs a ++ List.replicate (N.length - (slotsOf A cs a).length) .no) .nil t (m a) (fun _ σ' H' => ∃ Γ' Ds d, En (FxE K S H cl E) Γ' .nil Ds d σ' H') (fun x _ _ => x.elim) (rkV aN)) :
    t { nx := fun _ H' => Q .non H', rt := Q } (start N vs) H := by
  obtain ⟨a, hA, hr⟩ := hsp
  rw [hf a] at hr
  refine hb (fun x => H x ≠ none) a [] () _ H _ (En.startE (fun x h => h) hd hA) ?_
  cases z : m a () with
  | rt x =>
    rw [z] at hr
    rintro v H' ⟨h1, h2, h3⟩
    have h3 : v = .non := h3
    subst h3
    exact hr H' (fun b o e => h1.same b o (fun z => nomatch z) e) _ fun S hS => rfl
  | nx x =>
    rw [z] at hr
    rintro σ' H' ⟨Γ', Ds, d, e⟩
    have h1 := e.k0
    exact hr H' (fun b o e => h1.same b o (fun z => nomatch z) e) _ fun S hS => rfl
  | bk x => exact x.elim
  | ct x => exact x.elim
  | ex x =>
    rw [z] at hr
    obtain ⟨e, u⟩ := x
    refine ⟨rfl, fun σ' H' dx v k o n hx hv => hr H' dx v (fun b o e => k.same b o (fun z => nomatch z) e) n hx fun S hS => ErV.shift hv fun x hx => .inl (.inl (hS x hx))⟩
  | bad => rw [z] at hr; exact hr
theorem run_EN {K : PySem.W.Frag} {H : Hp} {A : Al α} {cs : List Bool} {R : Rp ρ} {f : α → Res Er (List ρ)} {vs : List V} {Q : VK} {E : XK} {N : List Str} {t : TS} {m : α → Unit → Bk (Er × Unit) Empty Empty (List ρ × Unit)} (cl : XC → Addr)
    (hd : DatL A cs) (hf : ∀ a, f a = runP (m a ())) (hsp : spEN K cl A R f vs H Q E) (hb : ∀ S a, TSj (FxE K S H cl E) (slotsOf A cs a ++ List.replicate (N.length - (slotsOf A cs a).length) .no) .nil t (m a) (fun x _ _ => x.elim) (fun x _ _ => x.elim) (rkN R)) :
    t { nx := fun _ H' => Q .non H', rt := Q } (start N vs) H := by
  obtain ⟨a, hA, hr⟩ := hsp
  rw [hf a] at hr
  refine hb (fun x => H x ≠ none) a [] () _ H _ (En.startE (fun x h => h) hd hA) ?_
  cases z : m a () with
  | rt x =>
    rw [z] at hr
    obtain ⟨r, u⟩ := x
    rintro v H' ⟨h1, h2, D, ws, rfl, nD, hD, h3⟩
    exact hr H' (fun b o e => h1.same b o (fun z => nomatch z) e) D ws nD hD fun S hS => Paired.mapP h3 fun _ _ z => R.shift z fun x hx => .inl (hx.imp (hS x) id)
  | nx x => exact x.elim
  | bk x => exact x.elim
  | ct x => exact x.elim
  | ex x =>
    rw [z] at hr
    obtain ⟨e, u⟩ := x
    refine ⟨rfl, fun σ' H' dx v k o n hx hv => hr H' dx v (fun b o e => k.same b o (fun z => nomatch z) e) n hx fun S hS => ErV.shift hv fun x hx => .inl (.inl (hS x hx))⟩
  | bad => rw [z] at hr; exact hr
theorem ext_E {K : PySem.W.Frag} {S : ASet} {H : Hp} {cl : XC → Addr} {E : XK} : ExtOk (FxE K S H cl E) .nil (fun d => d) := fun _ _ _ _ _ _ => rfl
/-! ### raise -/
def spEInit (K : PySem.W.Frag) : Sp := fun vs H Q _ => ∃ (a C : Addr) (v : V), vs = [.ref a, v] ∧ OexC K C ∧ PySem.W.findIn K (.ref C) "value" = some none ∧ H a = some (exo a C none) ∧ ∀ dx, H dx = none → dx ≠ a → Q .non (upd (upd H dx (exd dx [("value", v)])) a (exo a C (some dx)))
theorem mk_done {C a : Addr} {K : PySem.W.Frag} {H1 : Hp} {v : V} {Q : XK} (oC : OexC K C) (nC : PySem.W.findIn K (.ref C) "value" = some none) (na : H1 a = none) (q : ∀ dx H', Same H1 H' → H1 dx = none → H' dx = some (.xd [("value", v)]) → Q (.ref C) (some dx) H') :
    spEInit K [.ref a, v] (upd H1 a (exo a C none)) (fun u H2 => u = .non ∧ ∃ (d : Addr) (fs : List (Str × V)), H2 a = some (exo a C (some d)) ∧ H2 d = some (exd d fs) ∧ H1 d = none ∧ Q (.ref C) (some d) (upd (del H2 a) d (.xd fs))) (fun _ _ _ => False) := by
  refine ⟨a, C, v, rfl, oC, nC, upd_same, fun dx ndx nda => ⟨rfl, dx, _, upd_same, by rw [upd_ne nda, upd_same], ?_, ?_⟩⟩
  · rw [upd_ne nda] at ndx
    exact ndx
  · rw [upd_ne nda] at ndx
    refine q dx _ (fun b o h => ?_) ndx upd_same
    have n1 : b ≠ dx := ne_of_none h ndx
    have n2 : b ≠ a := ne_of_none h na
    rw [upd_ne n1, del_ne n2, upd_ne n2, upd_ne n1, upd_ne n2]
    exact h
/-- values that errors may tell -/
class Tell {α : Type} (K : PySem.W.Frag) (R : Rp α) (ev : α → ErV) : Prop where
  ok : ∀ (S : ASet) (H : Hp) (v : V) (x : α), R.P S H v x → (ev x).Ok K S H v
instance {K : PySem.W.Frag} : Tell K aI .int := ⟨fun _ _ _ _ h => h⟩
instance {K : PySem.W.Frag} : Tell K (aTup aI) .tup := ⟨fun _ _ _ _ h => h⟩
instance {K : PySem.W.Frag} : Tell K aS .str := ⟨fun _ _ _ _ h => h⟩
instance {K : PySem.W.Frag} : Tell K (aLst K (aLst K aI)) .rows := ⟨fun _ _ _ _ h => h⟩
theorem ts_raise {R : Rp α} {ta : TA} {m : δ → Res (Er × δ) ((α × Unit) × δ)} {n : XC} {ev : α → ErV} (hz : F.rz = true) (hE : ExtOk F Δ ext) (ht : Tell F.K R ev) (oC : OexC F.K (F.cl n)) (nC : PySem.W.findIn F.K (.ref (F.cl n)) "value" = some none) (hE0 : ∀ σ σ' : St, F.E σ = F.E σ') (h : TAj F Γ Δ ta m (.cons R .nil) true) :
    TSj F Γ Δ (fun _ σ H => tMkO (F.cl n) (spEInit F.K) [] ta σ H fun cls d H' => F.E σ cls d H') (fun d => (m d).bs ext fun a d => (Bk.ex (⟨n, ev a.1⟩, ext d) : Bk (Er × υ) β κ (ρ × υ))) N C Rr := fun Ds d σ H D e q => by
  refine h Ds d σ H _ e ((AfterS.of hE e q).mono fun a d' H' e' k' q' vs p => ?_)
  obtain ⟨v, ws, rfl, p, rfl⟩ := p
  refine ⟨by show 1 ≤ 1000; decide, fun b nb => mk_done oC nC nb fun dx H2 s nd hx => ?_⟩
  refine q'.2 σ H2 dx v (e'.same s).k0 ((e'.same s).owns hE) (e.k0.free (k'.free nd)) hx (ErV.shift (ht.ok _ _ _ _ (R.keep p (s.keepS _))) fun a h => .inl ?_)
  obtain ⟨L, rfl, _⟩ := e'.pre
  rcases h with h | h
  · exact .inl ⟨rfl, h⟩
  · exact .inr (.inr (List.mem_append_left _ h))
/-! ### values of errors -/
def aErV (K : PySem.W.Frag) : Rp ErV := ⟨fun S H v x => x.Ok K S H v, fun h k => ErV.keep h k, fun h k => ErV.shift h k⟩
theorem tj_tell {R : Rp α} {ev : α → ErV} {t : TE} {m : δ → Res (Er × δ) (α × δ)} {c : Bool} (ht : Tell F.K R ev) (h : TEj F Γ Δ t m R c) : TEj F Γ Δ t (fun d => (m d).bd fun a d => .ok (ev a, d)) (aErV F.K) c := fun Ds d σ H Q e q =>
  h Ds d σ H Q e ((q.bind).mono fun a d1 H1 e1 k1 q1 v p => After.ok q1 e1 v (ht.ok _ _ _ _ p))
/-- any value -/
def aAny : Rp Unit := ⟨fun _ _ _ _ => True, fun _ _ => trivial, fun _ _ => trivial⟩
theorem aAny.dat : aAny.Dat := fun _ _ _ _ _ h => h
theorem tj_any {R : Rp α} {t : TE} {m : δ → Res (Er × δ) (α × δ)} {c : Bool} (h : TEj F Γ Δ t m R c) : TEj F Γ Δ t (fun d => (m d).bd fun _ d => .ok ((), d)) aAny true := fun Ds d σ H Q e q =>
  h Ds d σ H Q e ((q.bind).mono fun a d1 H1 e1 k1 q1 v p => After.ok q1 e1 v trivial)
/-- an error that is kept -/
def aErr (K : PySem.W.Frag) (cl : XC → Addr) : Rp Er := ⟨fun S H v e => ∃ a dd x, v = .ref a ∧ ¬ S a ∧ ¬ S dd ∧ H a = some (exK (.ref (cl e.cls)) (some dd) a) ∧ H dd = some (.xd [("value", x)]) ∧ e.val.Ok K S H x,
  fun ⟨a, dd, x, e, n1, n2, h1, h2, p⟩ k => ⟨a, dd, x, e, n1, n2, k.same _ _ n1 h1, k.same _ _ n2 h2, ErV.keep p k⟩,
  fun ⟨a, dd, x, e, n1, n2, h1, h2, p⟩ k => ⟨a, dd, x, e, fun z => (k a z).elim n1 (fun z => by rw [h1] at z; cases z), fun z => (k dd z).elim n2 (fun z => by rw [h2] at z; cases z), h1, h2, ErV.shift p k⟩⟩
theorem nn_err {K : PySem.W.Frag} {cl : XC → Addr} : ∀ S H x, ¬ (aErr K cl).P S H .non x := fun _ _ _ ⟨_, _, _, h, _⟩ => nomatch h
/-- what is known of the classes that are raised -/
structure ErrCl (K : PySem.W.Frag) (cl : XC → Addr) (ns : List XC) : Prop where
  x : ∀ n ∈ ns, XfC K (cl n)
  e : ∀ n ∈ ns, ExcC K (cl n)
  v : ∀ n ∈ ns, PySem.W.findIn K (.ref (cl n)) "value" = some none
/-- e.value -/
def gVal (ns : List XC) (e : Er) : Option ErV := if e.cls ∈ ns then some e.val else none
theorem tj_xk {ns : List XC} {t : TE} {m : δ → Res (Er × δ) (Er × δ)} {c : Bool} (T : ErrCl F.K F.cl ns) (h : TEj F Γ Δ t m (aErr F.K F.cl) c) : TEj F Γ Δ (tXk F.K "value" t) (fun d => (m d).bd fun a d => optAt (gVal ns a) d) (aErV F.K) c := fun Ds d σ H Q e q =>
  h Ds d σ H _ e ((q.bind).mono fun a d1 H1 e1 k1 q1 v p => by
    obtain ⟨x, hx, k⟩ := q1.opt e1
    unfold gVal at hx
    split at hx
    · rename_i hn
      cases hx
      obtain ⟨b, dd, x, rfl, n1, n2, h1, h2, p⟩ := p
      exact ⟨b, _, dd, _, x, rfl, T.x _ hn, T.v _ hn, h1, h2, rfl, k H1 (Same.refl _) x p⟩
    · cases hx)
/-- isinstance(e, C) -/
def aCls (c : V) : Rp Unit := ⟨fun _ _ v _ => v = c, fun h _ => h, fun h _ => h⟩
def gIsE (g : XC → Option Bool) (a : Er × Unit × Unit) : Option Bool := g a.1.cls
theorem cb_isE {K : PySem.W.Frag} {cl : XC → Addr} {ns : List XC} {g : XC → Option Bool} {c : V} {cv : Value} (T : ErrCl K cl ns) (hc : ClsV c cv) (hg : ∀ n b, g n = some b → n ∈ ns ∧ PySem.W.kitOne K (.ref (cl n)) cv = some b) : CbT (rIsK K) (.cons (aErr K cl) (.cons (aCls c) .nil)) (gIsE g) aB := fun T0 H vs a Q hT pa ⟨b, hb, k⟩ => by
  obtain ⟨v, ws, rfl, ⟨x, dd, y, rfl, n1, n2, h1, h2, p⟩, w, us, rfl, q, rfl⟩ := pa
  obtain ⟨hn, hk⟩ := hg _ _ hb
  exact ⟨x, _, dd, _, c, cv, b, by rw [show w = c from q], hc, T.e _ hn, h1, h2, hk, k _ H (Same.refl _) rfl⟩
theorem kisK {X : Cx} {K : PySem.W.Frag} (h : X.K = K) : CallR X (.builtin "isinstance") (rIsK K) := h ▸ call_isK
/-- .. as data -/
def eErV : ErV → PyData
  | .int n => .int n
  | .tup ns => .tuple (ns.map .int)
  | .str s => .str s
  | .rows r => .list (r.map fun ns => .list (ns.map .int))
def dErV (K : PySem.W.Frag) : Dt K (aErV K) := ⟨eErV, 2, fun {T H v a} h => by
    cases a with
    | int n => exact dI.dp (T := T) h
    | tup ns => exact (dTup dI).dp (T := T) h
    | str s => exact dS.dp (T := T) h
    | rows r => exact (dLst (dLst dI)).dp (T := T) h, fun a => by
    cases a with
    | int n => exact Nat.zero_le _
    | tup ns => exact Nat.le_trans ((dTup (K := K) dI).hdep ns) (Nat.le_succ 1)
    | str s => exact Nat.zero_le _
    | rows r => exact (dLst (dLst (K := K) dI)).hdep r, fun a b h => by
    cases a <;> cases b <;> first
      | exact congrArg _ (dI (K := K).eq1 _ _ h)
      | exact congrArg _ ((dTup (K := K) dI).eq1 _ _ h)
      | exact congrArg _ (dS (K := K).eq1 _ _ h)
      | exact congrArg _ ((dLst (dLst (K := K) dI)).eq1 _ _ h)
      | (simp [eErV, PyData.eqv] at h), fun a h => by
    cases a with
    | int n => exact (dI (K := K)).eq2 n h
    | tup ns => exact (dTup (K := K) dI).eq2 ns h
    | str s => exact (dS (K := K)).eq2 s h
    | rows r => exact (dLst (dLst (K := K) dI)).eq2 r h, fun a h => by cases a <;> exact nomatch h⟩
/-- repr of what an error tells -/
noncomputable def gRepr (x : ErV × Unit) : Option Str := match x.1 with
  | .int n => @ite _ (n.natAbs.log2 < 1920) (Classical.propDecidable _) (some (toString n)) none
  | .tup ns => @ite _ (ns.length ≤ 100 ∧ ∀ n ∈ ns, n.natAbs.log2 < 1920) (Classical.propDecidable _) (some (PyData.tuple (ns.map PyData.int)).shown) none
  | _ => none
theorem cb_repr {K : PySem.W.Frag} : CbT (rReprA K) (.cons (aErV K) .nil) gRepr aS := fun T H vs a Q hT pa ⟨c, hc, k⟩ => by
  obtain ⟨v, ws, rfl, p, rfl⟩ := pa
  obtain ⟨a, u⟩ := a
  unfold gRepr at hc
  cases a with
  | int n =>
    dsimp only at hc
    split at hc
    · rename_i hl
      cases hc
      exact .inl ⟨n, by rw [show v = .int n from p], hl, k _ H (Same.refl _) rfl⟩
    · cases hc
  | tup ns =>
    dsimp only at hc
    split at hc
    · rename_i hl
      cases hc
      obtain ⟨t, vs, rfl, ht, hp⟩ := p
      have e := paired_ints hp
      subst e
      exact .inr (repr_tup (SqT.of ht) hl.2 hl.1 (k _ H (Same.refl _) rfl))
    · cases hc
  | str s => cases hc
  | rows r => cases hc
theorem kreprA {X : Cx} {k : Nat} {K : PySem.W.Frag} (h : X.K = K) (hG : X.A.guards = some []) (hr : Room k X.A) : CallR X (.builtin "repr") (rReprA K) := h ▸ call_reprA hG hr
/-! ### try -/
def AfterX (F : Fx υ) (Γx : List Cl) (Δ : Dl δ) (Ds : List Addr) (H : Hp) (W : WX) (D : Ends) (Γn : β → List Cl) (r : Res (Er × δ) (β × δ)) : Prop := match r with
  | .ok (b, d') => ∀ σ' H', En F (Γn b) Δ Ds d' σ' H' → Keep (· ∈ Ds) H H' → D.nx σ' H'
  | .ex (e, d') => ∀ σ' H' dx v, En F Γx Δ Ds d' σ' H' → Keep (· ∈ Ds) H H' → H dx = none → H' dx = some (.xd [("value", v)]) → e.val.Ok F.K (soft true F Ds) H' v → W (.ref (F.cl e.cls)) (some dx) σ' H'
  | .bad => False
/-- what is tried -/
def TXj (F : Fx υ) (Γ Γx : List Cl) (Δ : Dl δ) (t : WX → TS) (m : δ → Res (Er × δ) (β × δ)) (Γn : β → List Cl) : Prop := ∀ Ds d σ H D W, En F Γ Δ Ds d σ H → AfterX F Γx Δ Ds H W D Γn (m d) → t W D σ H
variable {Γx : List Cl}
theorem AfterX.of {Ds : List Addr} {σ : St} {H : Hp} {W : WX} {D : Ends} {Γn : β → List Cl} {r : Res (Er × δ) (α × δ)} {f : α → β} (hx : Le Γ Γx) (q : AfterX F Γx Δ Ds H W D Γn (r.bd fun a d => .ok (f a, d))) : After (F.wi true (WE W)) Γ Δ Ds σ H r fun a d' H' => ∀ σ', En F (Γn (f a)) Δ Ds d' σ' H' → D.nx σ' H' := by
  match r, q with
  | .ok (a, d'), q => exact fun H' e k σ' e2 => q σ' H' e2 k
  | .ex (x, d'), q => exact ⟨rfl, fun H' dx v en k n hd hv => q σ H' dx v (en.fro.le hx) k n hd hv⟩
theorem tx_drop {te : WX → TE} {m : δ → Res (Er × δ) (α × δ)} {R : Rp α} {c : Bool} (hx : Le Γ Γx) (h : ∀ W, TEj (F.wi true (WE W)) Γ Δ (te W) m R c) : TXj F Γ Γx Δ (fun W => tDrop (te W)) (fun d => (m d).bd fun _ d => .ok ((), d)) (fun _ => Γ) := fun Ds d σ H D W e q =>
  h W Ds d σ H _ e.to ((AfterX.of hx q).mono fun a d' H' e' k' q' v p => q' σ e'.fro)
theorem tx_asg {i : Nat} {te : WX → TE} {m : δ → Res (Er × δ) (α × δ)} {R : Rp α} {c : Bool} {Γn : α → List Cl} (hx : Le Γ Γx) (h : ∀ W, TEj (F.wi true (WE W)) Γ Δ (te W) m R c) (hΓ : ∀ a, Γn a = Γ.set i (clc c (R.at a))) : TXj F Γ Γx Δ (fun W => tAsg (te W) (gName i)) (fun d => (m d).bd fun a d => .ok (a, d)) Γn := fun Ds d σ H D W e q =>
  h W Ds d σ H _ e.to ((AfterX.of hx q).mono fun a d' H' e' k' q' v p => q' _ (by rw [hΓ]; exact e'.fro.set (clc_ok (F := F) p)))
theorem tx_if {tc : WX → TT} {t1 t3 : WX → TS} {mc : δ → Res (Er × δ) (Bool × δ)} {m1 m3 : δ → Res (Er × δ) (β × δ)} {Γn : β → List Cl} (hx : Le Γ Γx) (hc : ∀ W, TTj (F.wi true (WE W)) Γ Δ (tc W) mc) (h1 : TXj F Γ Γx Δ t1 m1 Γn) (h3 : TXj F Γ Γx Δ t3 m3 Γn) : TXj F Γ Γx Δ (fun W => tIfS (tc W) (t1 W) (t3 W)) (fun d => (mc d).bd fun b d => if b = true then m1 d else m3 d) Γn := fun Ds d σ H D W e q => by
  refine hc W Ds d σ H _ e.to ?_
  replace q : AfterX F Γx Δ Ds H W D Γn ((mc d).bd fun b d => if b = true then m1 d else m3 d) := q
  cases hm : mc d with
  | ok p =>
    obtain ⟨b, d'⟩ := p
    intro H' e' k
    rw [hm] at q
    have q : AfterX F Γx Δ Ds H W D Γn (if b = true then m1 d' else m3 d') := q
    have mv : ∀ {r : Res (Er × δ) (β × δ)}, AfterX F Γx Δ Ds H W D Γn r → AfterX F Γx Δ Ds H' W D Γn r := fun {r} q => by
      match r, q with
      | .ok (b, d'), q => exact fun σ' H2 e2 k2 => q σ' H2 e2 (k.trans k2)
      | .ex (x, d'), q => exact fun σ' H2 dx v e2 k2 n => q σ' H2 dx v e2 (k.trans k2) (k.free n)
    cases b with
    | true => exact h1 Ds d' σ H' D W e'.fro (mv q)
    | false => exact h3 Ds d' σ H' D W e'.fro (mv q)
  | ex p => obtain ⟨x, d'⟩ := p; rw [hm] at q; exact ⟨rfl, fun H' dx v en k n hd hv => q σ H' dx v (en.fro.le hx) k n hd hv⟩
  | bad => rw [hm] at q; exact q.elim
/-- a weaker knowledge behind it -/
theorem tx_le {t : WX → TS} {m : δ → Res (Er × δ) (β × δ)} {Γn : β → List Cl} {g : τ → List Cl} {f : β → τ} (h : TXj F Γ Γx Δ t m Γn) (hl : ∀ b, Le (Γn b) (g (f b))) : TXj F Γ Γx Δ t (fun d => (m d).bd fun b d => .ok (f b, d)) g := fun Ds d σ H D W e q => by
  refine h Ds d σ H D W e ?_
  replace q : AfterX F Γx Δ Ds H W D g ((m d).bd fun b d => .ok (f b, d)) := q
  cases hm : m d with
  | ok p => obtain ⟨b, d'⟩ := p; rw [hm] at q; exact fun σ' H' e' k => q σ' H' (e'.le (hl b)) k
  | ex p => obtain ⟨x, d'⟩ := p; rw [hm] at q; exact q
  | bad => rw [hm] at q; exact q
/-- the suite of an except -/
def THj (F : Fx υ) (Γx : List Cl) (Δ : Dl δ) (i : Nat) (ts : Addr → Value → Option Addr → TS) (g : Er → List Cl) : Prop := ∀ Ds d σ H (e : Er) dx v a (M : St → Hp → Prop), En F Γx Δ Ds d σ H → ¬ soft true F Ds dx → H dx = some (.xd [("value", v)]) → e.val.Ok F.K (soft true F Ds) H v → H a = none →
  (∀ σ' H', En F (g e) Δ Ds d σ' (upd H' a (exK (.ref (F.cl e.cls)) (some dx) a)) → M σ' (upd H' a (exK (.ref (F.cl e.cls)) (some dx) a))) →
  ts a (.ref (F.cl e.cls)) (some dx) { nx := fun σ' H' => H' a = none → M (σ'.set i none) (upd H' a (exK (.ref (F.cl e.cls)) (some dx) a)), rt := fun _ _ => False, bk := fun _ _ => False, ct := fun _ _ => False } (σ.set i (some (.ref a))) H
theorem th_keep {i j : Nat} {g : Er → List Cl} (hi : i < Γx.length) (hij : i ≠ j) (hg : ∀ e, Le (((Γx.set i .no).set j (.fz ((aOpt (aErr F.K F.cl)).at (some e)))).set i .no) (g e)) : THj F Γx Δ i (fun _ _ _ => tAsg (tVar i) (gName j)) g := fun Ds d σ H e dx v a M en ns hx hv na k => by
  have hl : i < σ.length := by rw [← Paired.length en.sl]; exact hi
  refine ⟨.ref a, by rw [List.getElem?_set_self hl], fun _ => k _ H ?_⟩
  have s := Same.new0 (o := exK (.ref (F.cl e.cls)) (some dx) a) na
  have nda : dx ≠ a := ne_of_none hx na
  have nsa : ¬ soft true F Ds a := fun z => en.live a z na
  refine En.le (En.set (c := .no) (En.set (c := .fz ((aOpt (aErr F.K F.cl)).at (some e))) (En.set (c := .no) (en.same s) trivial) ⟨_, rfl, .inr ⟨e, rfl, ⟨a, dx, v, rfl, nsa, ns, upd_same, by rw [upd_ne nda]; exact hx, ErV.keep hv (s.keepS _)⟩, fun z => nomatch z⟩⟩) trivial) (hg e)
def tryR (ct : XC → Option Bool) (fo : β → τ) (fh : Er → τ) (r : Res (Er × δ) (β × δ)) : Res (Er × δ) (τ × δ) := match r with
  | .ok (b, d) => .ok (fo b, d)
  | .ex (e, d) => if ct e.cls = some true then .ok (fh e, d) else .bad
  | .bad => .bad
@[simp] theorem tryR_ok (ct : XC → Option Bool) (fo : β → τ) (fh : Er → τ) (b : β) (d : δ) : tryR ct fo fh (.ok (b, d)) = .ok (fo b, d) := rfl
theorem tryR_ex {ct : XC → Option Bool} (fo : β → τ) (fh : Er → τ) {e : Er} (d : δ) (h : ct e.cls = some true) : tryR ct fo fh (.ex (e, d)) = .ok (fh e, d) := if_pos h
theorem ts_try {tb : WX → TS} {ts : Addr → Value → Option Addr → TS} {mb : δ → Res (Er × δ) (β × δ)} {Γn : β → List Cl} {g : τ → List Cl} {fo : β → τ} {fh : Er → τ} {c : Value} {i : Nat} {ct : XC → Option Bool} {γ : Type} {N : γ → St → Hp → Prop} {k : τ → δ → Bk (Er × υ) γ κ (ρ × υ)}
    (hE : ExtOk F Δ ext) (hc : ∀ n b, ct n = some b → PySem.W.exmOne F.K (.ref (F.cl n)) c = some b) (hb : TXj F Γ Γx Δ tb mb Γn) (hn : ∀ b, Le (Γn b) (g (fo b))) (hs : THj F Γx Δ i ts (fun e => g (fh e))) (h2 : ∀ x, TSj F (g x) Δ t2 (k x) N C Rr) :
    TSj F Γ Δ (tSeq (fun D σ H => tb (wKeep F.K c i ts (fun _ _ _ _ => False) D) D σ H) t2) (fun d => (tryR ct fo fh (mb d)).bs ext k) N C Rr := fun Ds d σ H D e q => by
  refine hb Ds d σ H _ _ e ?_
  replace q : AfterS F ((tryR ct fo fh (mb d)).bs ext k) N C Rr D := q
  cases hm : mb d with
  | ok p =>
    obtain ⟨b, d'⟩ := p
    rw [hm] at q
    exact fun σ' H' e' k' => h2 _ Ds d' σ' H' D (e'.le (hn b)) q
  | ex p =>
    obtain ⟨x, d'⟩ := p
    rw [hm] at q
    intro σ' H' dx v e' k' nd hx hv
    have q : AfterS F (((if ct x.cls = some true then .ok (fh x, d') else .bad) : Res (Er × δ) (τ × δ)).bs ext k) N C Rr D := q
    by_cases hct : ct x.cls = some true
    · rw [if_pos hct] at q
      exact ⟨true, hc _ _ hct, fun _ a na => hs Ds d' σ' H' x dx v a (t2 D) e' (fun z => e.live dx z nd) hx hv na fun σ2 H2 e2 => h2 _ Ds d' σ2 _ D e2 q, fun z => nomatch z⟩
    · rw [if_neg hct] at q
      exact q.elim
  | bad => rw [hm] at q; exact q.elim
theorem FnOkG.imp {P : Program} {w : World} {K : PySem.W.Frag} {mg : Str → Option Value} {base : Heap} {CX : CXT} {k : Nat} {f : Addr} {fd : FuncData} {ps : List Str} {sp sp' : Sp} (F : FnOkG P w K mg base CX k f fd ps sp)
    (h : ∀ vs H Q E, sp' vs H Q E → sp vs H Q E) : FnOkG P w K mg base CX k f fd ps sp' :=
  ⟨fun vs H Q E q => F.len vs H Q E (h _ _ _ _ q), fun A outer s H args us vs Q E hG hr he hb hv hs => F.run A outer s H args us vs Q E hG hr he hb hv (h _ _ _ _ hs)⟩
end
end L2

/-! what a text computes: objects of own classes -/
namespace L2
open PySem PySem.Spec PyProof.Rows RZ
section
variable {υ δ δ' α β β' γ τ κ ρ : Type} {F : Fx υ} {Γ Γ' : List Cl} {Δ : Dl δ} {ext : δ → υ} {N : β → St → Hp → Prop} {C : κ → St → Hp → Prop} {t2 : TS} {Rr : Rk ρ}
/-! ### what is called -/
def SpV (F : Fx υ) (sp : Sp) (E : St → XK) (A : Al α) (R : Rp β) (g : α → Res Er β) : Prop := ∀ (δ : Type) (Δ : Dl δ) (Γ : List Cl) (Ds : List Addr) (d : δ) (σ : St) (H : Hp) (Q : VK) (vs : List V) (a : α), En F Γ Δ Ds d σ H → A.P (fun _ => False) H vs a → After F Γ Δ Ds σ H ((g a).at d) (fun r _ H' => ∀ v, R.P (soft true F Ds) H' v r → Q v H') → sp vs H Q (E σ)
def SpL (F : Fx υ) (sp : Sp) (E : St → XK) (A : Al α) (R : Rp β) (g : α → Res Er (List β)) : Prop := ∀ (δ : Type) (Δ : Dl δ) (Γ : List Cl) (Ds : List Addr) (d : δ) (σ : St) (H : Hp) (Q : VK) (vs : List V) (a : α), En F Γ Δ Ds d σ H → A.P (fun _ => False) H vs a → After F Γ Δ Ds σ H ((g a).at d) (fun r _ H' => ∀ D ws, H D = none → H' D = some (.lst ws) → Paired (R.P (fun x => soft true F Ds x ∨ x = D) H') ws r → Q (.ref D) H') → sp vs H Q (E σ)
section
variable {A : Al α} {R : Rp β} {f : α → Res Er β} {fl : α → Res Er (List β)} {E : St → XK} {E1 : XK}
theorem sv_P (hz : F.rz = false) : SpV F (spP A R f) E A R f := fun δ Δ Γ Ds d σ H Q vs a e p q => by
  obtain ⟨r, hr, k⟩ := q.res e hz
  exact ⟨a, p, r, hr, fun v H' s hR => k H' s v (hR _ e.live)⟩
theorem sv_PZ : SpV F (spP A R f) E A R (fun a => (f a).noex) := fun δ Δ Γ Ds d σ H Q vs a e p q => by
  obtain ⟨r, hr, k⟩ := After.resZ q e
  exact ⟨a, p, r, hr, fun v H' s hR => k H' s v (hR _ e.live)⟩
theorem sv_ES : SpV F (spE F.K F.cl A R f) F.E A R f := fun δ Δ Γ Ds d σ H Q vs a e p q => ⟨a, p, After.re q e fun r H' s k v hR => k v (hR _ e.live)⟩
theorem sv_E (hE : ∀ σ, F.E σ = E1) : SpV F (spE F.K F.cl A R f) (fun _ => E1) A R f := fun δ Δ Γ Ds d σ H Q vs a e p q => ⟨a, p, hE σ ▸ After.re q e fun r H' s k v hR => k v (hR _ e.live)⟩
theorem sv_E0 (hz : F.rz = false) : SpV F (spE F.K F.cl A R f) E A R f := fun δ Δ Γ Ds d σ H Q vs a e p q => ⟨a, p, After.re0 hz q e fun r H' s k v hR => k v (hR _ e.live)⟩
theorem sl_N (hz : F.rz = false) : SpL F (spN A R fl) E A R fl := fun δ Δ Γ Ds d σ H Q vs a e p q => by
  obtain ⟨r, hr, k⟩ := q.res e hz
  exact ⟨a, p, r, hr, fun D ws H' s n hD hR => k H' s D ws n hD (hR _ e.live)⟩
theorem sl_NZ : SpL F (spN A R fl) E A R (fun a => (fl a).noex) := fun δ Δ Γ Ds d σ H Q vs a e p q => by
  obtain ⟨r, hr, k⟩ := After.resZ q e
  exact ⟨a, p, r, hr, fun D ws H' s n hD hR => k H' s D ws n hD (hR _ e.live)⟩
theorem sl_ES : SpL F (spEN F.K F.cl A R fl) F.E A R fl := fun δ Δ Γ Ds d σ H Q vs a e p q => ⟨a, p, After.re q e fun r H' s k D ws n hD hR => k D ws n hD (hR _ e.live)⟩
theorem sl_E (hE : ∀ σ, F.E σ = E1) : SpL F (spEN F.K F.cl A R fl) (fun _ => E1) A R fl := fun δ Δ Γ Ds d σ H Q vs a e p q => ⟨a, p, hE σ ▸ After.re q e fun r H' s k D ws n hD hR => k D ws n hD (hR _ e.live)⟩
theorem sl_E0 (hz : F.rz = false) : SpL F (spEN F.K F.cl A R fl) E A R fl := fun δ Δ Γ Ds d σ H Q vs a e p q => ⟨a, p, After.re0 hz q e fun r H' s k D ws n hD hR => k D ws n hD (hR _ e.live)⟩
end
/-! ### fields -/
inductive Fl : Type → Type 1
  | nil : Fl Unit
  | cons {α β : Type} (n : Str) (R : Rp α) (r : Fl β) : Fl (α × β)
def Fl.P : {α : Type} → Fl α → ASet → Hp → List (Str × V) → α → Prop
  | _, .nil, _, _, fs, _ => fs = []
  | _, .cons n R r, S, H, fs, a => ∃ v gs, fs = (n, v) :: gs ∧ R.P S H v a.1 ∧ Fl.P r S H gs a.2
def Fl.names : {α : Type} → Fl α → List Str
  | _, .nil => []
  | _, .cons n _ r => n :: r.names
def Fl.has {α : Type} (fl : Fl α) (m : Str) : Bool := fl.names.any fun n => m == n
theorem Fl.keep : ∀ {α : Type} {fl : Fl α} {S : ASet} {H H' : Hp} {fs : List (Str × V)} {a : α}, fl.P S H fs a → Keep S H H' → fl.P S H' fs a := by
  intro α fl
  induction fl with
  | nil => exact fun h _ => h
  | cons n R r ih =>
    rintro S H H' fs a ⟨v, gs, e, p, q⟩ k
    exact ⟨v, gs, e, R.keep p k, ih q k⟩
theorem Fl.shift : ∀ {α : Type} {fl : Fl α} {S S' : ASet} {H : Hp} {fs : List (Str × V)} {a : α}, fl.P S H fs a → (∀ a, S' a → S a ∨ H a = none) → fl.P S' H fs a := by
  intro α fl
  induction fl with
  | nil => exact fun h _ => h
  | cons n R r ih =>
    rintro S S' H fs a ⟨v, gs, e, p, q⟩ k
    exact ⟨v, gs, e, R.shift p k, ih q k⟩
theorem Fl.len : ∀ {α : Type} {fl : Fl α} {S : ASet} {H : Hp} {fs : List (Str × V)} {a : α}, fl.P S H fs a → fs.length = fl.names.length := by
  intro α fl
  induction fl with
  | nil => intro S H fs a h; rw [show fs = [] from h]; rfl
  | cons n R r ih =>
    rintro S H fs a ⟨v, gs, rfl, p, q⟩
    exact congrArg (· + 1) (ih q)
theorem Fl.no : ∀ {α : Type} {fl : Fl α} {S : ASet} {H : Hp} {fs : List (Str × V)} {a : α} {m : Str}, fl.P S H fs a → fl.has m = false → fs.lookup m = none := by
  intro α fl
  induction fl with
  | nil => intro S H fs a m h _; rw [show fs = [] from h]; rfl
  | cons n R r ih =>
    rintro S H fs a m ⟨v, gs, rfl, p, q⟩ hm
    have hm : ((m == n) || Fl.has r m) = false := hm
    rw [Bool.or_eq_false_iff] at hm
    rw [List.lookup_cons, hm.1]
    exact ih q hm.2
inductive FlAt {α : Type} (n : Str) (R : Rp α) : {β : Type} → Fl β → (β → α) → Prop
  | z {β : Type} {r : Fl β} : FlAt n R (.cons n R r) (fun x => x.1)
  | s {β γ : Type} {n' : Str} {Q : Rp γ} {r : Fl β} {g : β → α} : (n == n') = false → FlAt n R r g → FlAt n R (.cons n' Q r) (fun x => g x.2)
theorem FlAt.get {n : Str} {R : Rp α} {fl : Fl β} {g : β → α} (i : FlAt n R fl g) : ∀ {S : ASet} {H : Hp} {fs : List (Str × V)} {x : β}, fl.P S H fs x → ∃ v, fs.lookup n = some v ∧ R.P S H v (g x) := by
  induction i with
  | z =>
    rintro S H fs x ⟨v, gs, rfl, p, q⟩
    exact ⟨v, by rw [List.lookup_cons, beq_self_eq_true], p⟩
  | s hn i ih =>
    rintro S H fs x ⟨v, gs, rfl, p, q⟩
    rw [List.lookup_cons, hn]
    exact ih q
/-- one more field -/
inductive FlSn {α : Type} (n : Str) (R : Rp α) : {β β' : Type} → Fl β → Fl β' → (β → α → β') → Prop
  | nil : FlSn n R .nil (.cons n R .nil) (fun _ a => (a, ()))
  | cons {β β' γ : Type} {n' : Str} {Q : Rp γ} {r : Fl β} {r' : Fl β'} {f : β → α → β'} : (n == n') = false → FlSn n R r r' f → FlSn n R (.cons n' Q r) (.cons n' Q r') (fun b a => (b.1, f b.2 a))
theorem FlSn.put {n : Str} {R : Rp α} {fl : Fl β} {fl' : Fl β'} {f : β → α → β'} (i : FlSn n R fl fl' f) : ∀ {S : ASet} {H : Hp} {fs : List (Str × V)} {x : β} {v : V} {a : α}, fl.P S H fs x → R.P S H v a → fl'.P S H (putF n v fs) (f x a) := by
  induction i with
  | nil => intro S H fs x v a h p; rw [show fs = [] from h]; exact ⟨v, [], rfl, p, rfl⟩
  | cons hn i ih =>
    rintro S H fs x v a ⟨w, gs, rfl, p, q⟩ pv
    have hne := beq_eq_false_iff_ne.mp hn
    exact ⟨w, putF n v gs, by rw [putF, if_neg fun z => hne z.symm], p, ih q pv⟩
/-- an object of the class C, which never changes -/
def aIns (C : Addr) {α : Type} (fl : Fl α) : Rp α := ⟨fun S H v x => ∃ a dx fs, v = .ref a ∧ ¬ S a ∧ H a = some (.ins C dx fs) ∧ fl.P S H fs x,
  fun ⟨a, dx, fs, e, n, h, p⟩ k => ⟨a, dx, fs, e, n, k.same _ _ n h, Fl.keep p k⟩,
  fun ⟨a, dx, fs, e, n, h, p⟩ k => ⟨a, dx, fs, e, fun z => (k a z).elim n (fun z => by rw [h] at z; cases z), h, Fl.shift p k⟩⟩
theorem nn_ins {C : Addr} {fl : Fl α} : ∀ S H x, ¬ (aIns C fl).P S H .non x := fun _ _ _ ⟨_, _, _, h, _⟩ => nomatch h
section
variable {Cn : Addr} {fl : Fl β} {A : Al α} {R : Rp γ} {g : β × α → Res Er γ} {gl : β × α → Res Er (List γ)} {to : TE} {t : TA} {mo : δ → Res (Er × δ) (β × δ)} {ma : δ → Res (Er × δ) (α × δ)} {c : Bool} {sp : Sp} {E : XK} {ES : St → XK} {m : Str}
/-- o.f -/
theorem tj_fld {n : Str} {R : Rp α} {g : β → α} (hc : Cls F.K Cn) (hn : NoAttr F.K Cn n) (i : FlAt n R fl g) (h : TEj F Γ Δ to mo (aIns Cn fl) c) : TEj F Γ Δ (tFld F.K to n) (fun d => (mo d).bd fun o d => .ok (g o, d)) R c := fun Ds d σ H Q e q =>
  h Ds d σ H _ e ((q.bind).mono fun o d1 H1 e1 k1 q1 v p => by
    obtain ⟨a, dx, fs, rfl, ns, ha, p⟩ := p
    obtain ⟨w, hw, pw⟩ := i.get p
    exact ⟨a, Cn, dx, fs, w, rfl, ha, hc, hn, hw, After.ok q1 e1 w pw⟩)
theorem false_ok (S : ASet) {H : Hp} : ∀ a, (fun _ : Addr => False) a → S a ∨ H a = none := fun _ z => z.elim
/-- o.p, a property -/
theorem tj_prop {g : β × Unit → Res Er γ} (hs : SpV F sp (fun _ => E) (.cons (aIns Cn fl) .nil) R g) (h : TEj F Γ Δ to mo (aIns Cn fl) c) : TEj F Γ Δ (tProp Cn sp [] E to) (fun d => (mo d).bd fun o d => (g (o, ())).at d) R true := fun Ds d σ H Q e q =>
  h Ds d σ H _ e ((q.bind).mono fun o d1 H1 e1 k1 q1 v p => by
    obtain ⟨a, dx, fs, rfl, ns, ha, p⟩ := id p
    exact ⟨a, dx, fs, rfl, ha, hs _ _ _ _ _ _ _ _ _ (o, ()) e1 ⟨_, _, rfl, (aIns Cn fl).shift ‹_› (false_ok _), rfl⟩ q1⟩)
theorem tn_prop {gl : β × Unit → Res Er (List γ)} (hs : SpL F sp (fun _ => E) (.cons (aIns Cn fl) .nil) R gl) (h : TEj F Γ Δ to mo (aIns Cn fl) c) : TNj F Γ Δ (tProp Cn sp [] E to) (fun d => (mo d).bd fun o d => (gl (o, ())).at d) R true := fun Ds d σ H Q e q =>
  h Ds d σ H _ e ((q.bind).mono fun o d1 H1 e1 k1 q1 v p => by
    obtain ⟨a, dx, fs, rfl, ns, ha, p⟩ := id p
    exact ⟨a, dx, fs, rfl, ha, hs _ _ _ _ _ _ _ _ _ (o, ()) e1 ⟨_, _, rfl, (aIns Cn fl).shift ‹_› (false_ok _), rfl⟩ (q1.mono fun r d' H' _ _ k D ws n => k D ws (k1.free n))⟩)
/-- o.m(..) -/
theorem tj_meth (hm : fl.has m = false) (hs : SpV F sp (fun _ => E) (.cons (aIns Cn fl) A) R g) (h : TEj F Γ Δ to mo (aIns Cn fl) c) (h2 : TAj F Γ Δ t ma A c) : TEj F Γ Δ (tMeth Cn m sp [] E to t) (fun d => (mo d).bd fun o d => (ma d).bd fun a d => (g (o, a)).at d) R true := fun Ds d σ H Q e q => by
  refine h Ds d σ H _ e ((q.bind).mono fun o d1 H1 e1 k1 q1 v p => ?_)
  obtain ⟨a, dx, fs, rfl, ns, ha, hp⟩ := id p
  refine ⟨a, dx, fs, rfl, ha, Fl.no hp hm, h2 Ds d1 σ H1 _ e1 ((q1.bind).mono fun b d2 H2 e2 k2 q2 vs pv => ?_)⟩
  rw [List.append_nil]
  exact hs _ _ _ _ _ _ _ _ _ (o, b) e2 ⟨_, _, rfl, (aIns Cn fl).shift ((aIns Cn fl).keep p (k2.soft _)) (false_ok _), A.shift pv (false_ok _)⟩ q2
theorem tn_meth (hm : fl.has m = false) (hs : SpL F sp (fun _ => E) (.cons (aIns Cn fl) A) R gl) (h : TEj F Γ Δ to mo (aIns Cn fl) c) (h2 : TAj F Γ Δ t ma A c) : TNj F Γ Δ (tMeth Cn m sp [] E to t) (fun d => (mo d).bd fun o d => (ma d).bd fun a d => (gl (o, a)).at d) R true := fun Ds d σ H Q e q => by
  refine h Ds d σ H _ e ((q.bind).mono fun o d1 H1 e1 k1 q1 v p => ?_)
  obtain ⟨a, dx, fs, rfl, ns, ha, hp⟩ := id p
  refine ⟨a, dx, fs, rfl, ha, Fl.no hp hm, h2 Ds d1 σ H1 _ e1 ((q1.bind).mono fun b d2 H2 e2 k2 q2 vs pv => ?_)⟩
  rw [List.append_nil]
  exact hs _ _ _ _ _ _ _ _ _ (o, b) e2 ⟨_, _, rfl, (aIns Cn fl).shift ((aIns Cn fl).keep p (k2.soft _)) (false_ok _), A.shift pv (false_ok _)⟩ (q2.mono fun r d' H' _ _ k D ws n => k D ws (k1.free (k2.free n)))
theorem tj_methT (hm : fl.has m = false) (hs : SpV F sp ES (.cons (aIns Cn fl) A) R g) (h : TEj F Γ Δ to mo (aIns Cn fl) c) (h2 : TAj F Γ Δ t ma A c) : TEj F Γ Δ (tMethT Cn m sp ES to t) (fun d => (mo d).bd fun o d => (ma d).bd fun a d => (g (o, a)).at d) R true := fun Ds d σ H Q e q => by
  refine h Ds d σ H _ e ((q.bind).mono fun o d1 H1 e1 k1 q1 v p => ?_)
  obtain ⟨a, dx, fs, rfl, ns, ha, hp⟩ := id p
  refine ⟨a, dx, fs, rfl, ha, Fl.no hp hm, h2 Ds d1 σ H1 _ e1 ((q1.bind).mono fun b d2 H2 e2 k2 q2 vs pv => ?_)⟩
  exact hs _ _ _ _ _ _ _ _ _ (o, b) e2 ⟨_, _, rfl, (aIns Cn fl).shift ((aIns Cn fl).keep p (k2.soft _)) (false_ok _), A.shift pv (false_ok _)⟩ q2
/-- .. by names -/
theorem tj_methK {j : Nat} (hm : fl.has m = false) (hj : ∀ S H vs a, A.P S H vs a → vs.length = j) (hs : SpV F sp (fun _ => E) (.cons (aIns Cn fl) A) R g) (h : TEj F Γ Δ to mo (aIns Cn fl) c) (h2 : TAj F Γ Δ t ma A c) : TEj F Γ Δ (tMethK Cn m j sp kwM E to t) (fun d => (mo d).bd fun o d => (ma d).bd fun a d => (g (o, a)).at d) R true := fun Ds d σ H Q e q => by
  refine h Ds d σ H _ e ((q.bind).mono fun o d1 H1 e1 k1 q1 v p => ?_)
  obtain ⟨a, dx, fs, rfl, ns, ha, hp⟩ := id p
  refine ⟨a, dx, fs, rfl, ha, Fl.no hp hm, h2 Ds d1 σ H1 _ e1 ((q1.bind).mono fun b d2 H2 e2 k2 q2 vs pv => ⟨hj _ _ _ _ pv, ?_⟩)⟩
  exact hs _ _ _ _ _ _ _ _ _ (o, b) e2 ⟨_, _, rfl, (aIns Cn fl).shift ((aIns Cn fl).keep p (k2.soft _)) (false_ok _), A.shift pv (false_ok _)⟩ q2
/-- o op x -/
theorem tj_bino {fl2 : Fl γ} {ta tb : TE} {ma : δ → Res (Er × δ) (β × δ)} {mb : δ → Res (Er × δ) (β × δ)} {g : β × β × Unit → Res Er γ} (hs : SpV F sp (fun _ => E) (.cons (aIns Cn fl) (.cons (aIns Cn fl) .nil)) (aIns Cn fl2) g) (ha : TEj F Γ Δ ta ma (aIns Cn fl) c) (hb : TEj F Γ Δ tb mb (aIns Cn fl) c) : TEj F Γ Δ (tOp (rBinOwn Cn sp E) ta tb) (fun d => (ma d).bd fun a d => (mb d).bd fun b d => (g (a, b, ())).at d) (aIns Cn fl2) true := fun Ds d σ H Q e q => by
  refine ha Ds d σ H _ e ((q.bind).mono fun o d1 H1 e1 k1 q1 v p => ?_)
  refine hb Ds d1 σ H1 _ e1 ((q1.bind).mono fun b d2 H2 e2 k2 q2 w pw => ?_)
  have p := (aIns Cn fl).keep p (k2.soft _)
  obtain ⟨a, dx, fs, rfl, ns, ha, hp⟩ := id p
  obtain ⟨a2, dx2, fs2, rfl, ns2, ha2, hp2⟩ := id pw
  refine ⟨a, dx, fs, a2, dx2, fs2, rfl, rfl, ha, ha2, hs _ _ _ _ _ _ _ _ _ (o, b, ()) e2 ⟨_, _, rfl, (aIns Cn fl).shift p (false_ok _), _, _, rfl, (aIns Cn fl).shift pw (false_ok _), rfl⟩ (q2.mono fun r d' H' _ _ k v pv => ⟨?_, k v pv⟩)⟩
  obtain ⟨a3, dx3, fs3, rfl, _⟩ := pv
  exact ⟨a3, rfl⟩
theorem tj_binT {fl2 : Fl γ} {ta tb : TE} {ma : δ → Res (Er × δ) (β × δ)} {mb : δ → Res (Er × δ) (β × δ)} {g : β × β × Unit → Res Er γ} (hs : SpV F sp ES (.cons (aIns Cn fl) (.cons (aIns Cn fl) .nil)) (aIns Cn fl2) g) (ha : TEj F Γ Δ ta ma (aIns Cn fl) c) (hb : TEj F Γ Δ tb mb (aIns Cn fl) c) : TEj F Γ Δ (tBinS Cn sp ES ta tb) (fun d => (ma d).bd fun a d => (mb d).bd fun b d => (g (a, b, ())).at d) (aIns Cn fl2) true := fun Ds d σ H Q e q => by
  refine ha Ds d σ H _ e ((q.bind).mono fun o d1 H1 e1 k1 q1 v p => ?_)
  refine hb Ds d1 σ H1 _ e1 ((q1.bind).mono fun b d2 H2 e2 k2 q2 w pw => ?_)
  have p := (aIns Cn fl).keep p (k2.soft _)
  obtain ⟨a, dx, fs, rfl, ns, ha, hp⟩ := id p
  obtain ⟨a2, dx2, fs2, rfl, ns2, ha2, hp2⟩ := id pw
  refine ⟨a, dx, fs, a2, dx2, fs2, rfl, rfl, ha, ha2, hs _ _ _ _ _ _ _ _ _ (o, b, ()) e2 ⟨_, _, rfl, (aIns Cn fl).shift p (false_ok _), _, _, rfl, (aIns Cn fl).shift pw (false_ok _), rfl⟩ (q2.mono fun r d' H' _ _ k v pv => ⟨?_, k v pv⟩)⟩
  obtain ⟨a3, dx3, fs3, rfl, _⟩ := pv
  exact ⟨a3, rfl⟩
/-- o == x -/
theorem tj_eqo {ta tb : TE} {ma : δ → Res (Er × δ) (β × δ)} {mb : δ → Res (Er × δ) (β × δ)} {g : β × β × Unit → Res Er Bool} (hs : SpV F sp (fun _ => E) (.cons (aIns Cn fl) (.cons (aIns Cn fl) .nil)) aB g) (ha : TEj F Γ Δ ta ma (aIns Cn fl) c) (hb : TEj F Γ Δ tb mb (aIns Cn fl) c) : TEj F Γ Δ (tOp (rEqOwn Cn sp E) ta tb) (fun d => (ma d).bd fun a d => (mb d).bd fun b d => (g (a, b, ())).at d) aB true := fun Ds d σ H Q e q => by
  refine ha Ds d σ H _ e ((q.bind).mono fun o d1 H1 e1 k1 q1 v p => ?_)
  refine hb Ds d1 σ H1 _ e1 ((q1.bind).mono fun b d2 H2 e2 k2 q2 w pw => ?_)
  have p := (aIns Cn fl).keep p (k2.soft _)
  obtain ⟨a, dx, fs, rfl, ns, ha, hp⟩ := id p
  obtain ⟨a2, dx2, fs2, rfl, ns2, ha2, hp2⟩ := id pw
  exact ⟨a, dx, fs, a2, dx2, fs2, rfl, rfl, ha, ha2, hs _ _ _ _ _ _ _ _ _ (o, b, ()) e2 ⟨_, _, rfl, (aIns Cn fl).shift p (false_ok _), _, _, rfl, (aIns Cn fl).shift pw (false_ok _), rfl⟩ (q2.mono fun r d' H' _ _ k v pv => ⟨r, pv, (show v = .bl r from pv) ▸ k v pv⟩)⟩
/-- x in o -/
theorem tj_ino {R : Rp α} {ta tb : TE} {ma : δ → Res (Er × δ) (α × δ)} {mb : δ → Res (Er × δ) (β × δ)} {g : β × α × Unit → Res Er Bool} (hs : SpV F sp (fun _ => E) (.cons (aIns Cn fl) (.cons R .nil)) aB g) (ha : TEj F Γ Δ ta ma R c) (hb : TEj F Γ Δ tb mb (aIns Cn fl) c) : TEj F Γ Δ (tOp (rInOwn Cn sp E) ta tb) (fun d => (ma d).bd fun a d => (mb d).bd fun b d => (g (b, a, ())).at d) aB true := fun Ds d σ H Q e q => by
  refine ha Ds d σ H _ e ((q.bind).mono fun o d1 H1 e1 k1 q1 v p => ?_)
  refine hb Ds d1 σ H1 _ e1 ((q1.bind).mono fun b d2 H2 e2 k2 q2 w pw => ?_)
  have p := R.keep p (k2.soft _)
  obtain ⟨a2, dx2, fs2, rfl, ns2, ha2, hp2⟩ := id pw
  exact ⟨a2, dx2, fs2, rfl, ha2, hs _ _ _ _ _ _ _ _ _ (b, o, ()) e2 ⟨_, _, rfl, (aIns Cn fl).shift pw (false_ok _), _, _, rfl, R.shift p (false_ok _), rfl⟩ (q2.mono fun r d' H' _ _ k v pv => ⟨r, pv, (show v = .bl r from pv) ▸ k v pv⟩)⟩
/-- x not in o -/
theorem tj_nino {R : Rp α} {ta tb : TE} {ma : δ → Res (Er × δ) (α × δ)} {mb : δ → Res (Er × δ) (β × δ)} {g : β × α × Unit → Res Er Bool} (hs : SpV F sp (fun _ => E) (.cons (aIns Cn fl) (.cons R .nil)) aB g) (ha : TEj F Γ Δ ta ma R c) (hb : TEj F Γ Δ tb mb (aIns Cn fl) c) : TEj F Γ Δ (tOp (rNotInOwn Cn sp E) ta tb) (fun d => (ma d).bd fun a d => (mb d).bd fun b d => ((g (b, a, ())).at d).bd fun b d => .ok (!b, d)) aB true := fun Ds d σ H Q e q => by
  refine ha Ds d σ H _ e ((q.bind).mono fun o d1 H1 e1 k1 q1 v p => ?_)
  refine hb Ds d1 σ H1 _ e1 ((q1.bind).mono fun b d2 H2 e2 k2 q2 w pw => ?_)
  have p := R.keep p (k2.soft _)
  obtain ⟨a2, dx2, fs2, rfl, ns2, ha2, hp2⟩ := id pw
  exact ⟨a2, dx2, fs2, rfl, ha2, hs _ _ _ _ _ _ _ _ _ (b, o, ()) e2 ⟨_, _, rfl, (aIns Cn fl).shift pw (false_ok _), _, _, rfl, R.shift p (false_ok _), rfl⟩ (((show After F Γ Δ Ds σ H2 (((g (b, o, ())).at d2).bind fun p => .ok (!p.1, p.2)) _ from q2).bind).mono fun r d' H' e3 _ k v pv => ⟨r, pv, After.ok k e3 _ rfl⟩)⟩
/-- len(o) -/
def gLenO (n : Int) : Option Int := if 0 ≤ n ∧ n < 2 ^ 63 then some n else none
theorem tj_leno {g : β × Unit → Res Er Int} {t : TA} {m : δ → Res (Er × δ) ((β × Unit) × δ)} (hs : SpV F sp (fun _ => E) (.cons (aIns Cn fl) .nil) aI g) (h : TAj F Γ Δ t m (.cons (aIns Cn fl) .nil) c) : TEj F Γ Δ (tCB (rLenOwn Cn sp E) t) (fun d => (m d).bd fun o d => ((g o).at d).bd fun n d => optAt (gLenO n) d) aI true := fun Ds d σ H Q e q =>
  h Ds d σ H _ e ((q.bind).mono fun o d1 H1 e1 k1 q1 vs p => by
    obtain ⟨v, ws, rfl, p, rfl⟩ := p
    obtain ⟨a, dx, fs, rfl, ns, ha, hp⟩ := id p
    refine ⟨a, dx, fs, rfl, ha, hs _ _ _ _ _ _ _ _ _ o e1 ⟨_, _, rfl, (aIns Cn fl).shift p (false_ok _), rfl⟩ (((show After F Γ Δ Ds σ H1 (((g o).at d1).bind fun p => optAt (gLenO p.1) p.2) _ from q1).bind).mono fun r d' H' e2 k2 k v pv => ?_)⟩
    obtain ⟨x, hx, k⟩ := After.opt k e2
    unfold gLenO at hx
    split at hx
    · rename_i hr
      cases hx
      exact ⟨r, pv, hr.1, hr.2, k H' (Same.refl _) _ rfl⟩
    · cases hx)
/-- isinstance(o, C) -/
theorem cb_isiC {K : PySem.W.Frag} {fl : Fl α} (ty : ∀ (H : Hp) (a dx : Addr) (fs : List (Str × V)), H a = some (.ins Cn dx fs) → TyOf K H (.ref a) (.ref Cn)) (ks : PySem.W.kitOne K (.ref Cn) (.ref Cn) = some true) : CbT (rIsi K) (.cons (aIns Cn fl) (.cons (aCls (.ref Cn)) .nil)) (gCst true) aB := fun T H vs a Q hT pa ⟨c, hc, k⟩ => by
  cases hc
  obtain ⟨v, ws, rfl, ⟨x, dx, fs, rfl, ns, hx, p⟩, w, us, rfl, q, rfl⟩ := pa
  exact ⟨_, w, _, _, true, rfl, by rw [show w = .ref Cn from q]; exact .own Cn, .base (ty H x dx fs hx), ks, k _ H (Same.refl _) rfl⟩
end
/-! ### objects that are made -/
def RI (K : PySem.W.Frag) (cl : XC → Addr) (H : Hp) (p : Addr) (k : β → Hp → Prop) (E : XK) : Res Er β → Prop
  | .ok r => ∀ H', Keep (· = p) H H' → k r H'
  | .ex e => ∀ H' dx v, Keep (· = p) H H' → H dx = none → H' dx = some (.xd [("value", v)]) → (∀ S : ASet, (∀ x, S x → H x ≠ none) → e.val.Ok K S H' v) → E (.ref (cl e.cls)) (some dx) H'
  | .bad => False
def spI (K : PySem.W.Frag) (cl : XC → Addr) (Cn : Addr) (A : Al α) (fl : Fl β) (f : α → Res Er β) : Sp := fun vs H Q E => ∃ p dx us a, vs = .ref p :: us ∧ H p = some (.ins Cn dx []) ∧ A.P (· = p) H us a ∧ RI K cl H p (fun r H' => ∀ dx fs, H' p = some (.ins Cn dx fs) → (∀ S : ASet, (∀ x, S x → H x ≠ none) → fl.P S H' fs r) → Q .non H') E (f a)
theorem make_pre {Ds : List Addr} {d : δ} {σ : St} {H1 : Hp} {vs : List V} {a : α} {Cn x dx : Addr} {A : Al α} {fl : Fl β} {f : α → Res Er β} {c : Bool} {Q : VK} {E : XK} (e1 : En F Γ Δ Ds d σ H1) (hp : A.P (soft c F Ds) H1 vs a) (nx : H1 x = none) (nd : H1 dx = none) (ne : dx ≠ x)
    (hE : ∀ (er : Er) (H' : Hp) (y : Addr) (v : V), f a = .ex er → En F Γ Δ Ds d σ H' → Keep (· ∈ Ds) H1 H' → H1 y = none → H' y = some (.xd [("value", v)]) → er.val.Ok F.K (soft true F Ds) H' v → E (.ref (F.cl er.cls)) (some y) H')
    (q : After F Γ Δ Ds σ H1 ((f a).at d) fun r _ H' => ∀ v, (aIns Cn fl).P (soft true F Ds) H' v r → Q v H') : spI F.K F.cl Cn A fl f (.ref x :: vs) (upd (upd H1 dx (.own x)) x (.ins Cn dx [])) (fun v H2 => v = .non ∧ Q (.ref x) H2) E := by
  have s1 : Same H1 (upd (upd H1 dx (.own x)) x (.ins Cn dx [])) := fun b o h => by
    rw [upd_ne (ne_of_none h nx), upd_ne (ne_of_none h nd)]
    exact h
  have nsx : ¬ soft true F Ds x := fun z => e1.live x z nx
  have lv : ∀ y, soft true F Ds y → (upd (upd H1 dx (.own x)) x (.ins Cn dx [])) y ≠ none := fun y hy => by
    have := e1.live y hy
    cases z : H1 y with
    | none => exact absurd z this
    | some o => rw [s1 _ _ z]; exact fun z => nomatch z
  have k2 : ∀ H', Keep (· = x) (upd (upd H1 dx (.own x)) x (.ins Cn dx [])) H' → Same H1 H' := fun H' k b o h => k.same b o (fun z => by rw [show b = x from z, nx] at h; cases h) (s1 b o h)
  refine ⟨x, dx, vs, a, rfl, upd_same, A.keep (A.shift hp fun b hb => .inr (by rw [show b = x from hb]; exact nx)) (s1.keepS _), ?_⟩
  cases z : f a with
  | ok r =>
    rw [z] at q
    intro H' k dx2 fs hx hfl
    have s := k2 H' k
    exact ⟨rfl, q H' (e1.same s) (s.keepS _) _ ⟨x, dx2, fs, rfl, nsx, hx, hfl _ lv⟩⟩
  | ex er =>
    intro H' y v k ny hy hv
    have s := k2 H' k
    have ny1 : H1 y = none := by
      cases z : H1 y with
      | none => rfl
      | some o => rw [s1 _ _ z] at ny; cases ny
    exact hE er H' y v z (e1.same s) (s.keepS _) ny1 hy (hv _ lv)
  | bad => rw [z] at q; exact q.elim
section
variable {Cn : Addr} {A : Al α} {fl : Fl β} {f : α → Res Er β} {t : TA} {m : δ → Res (Er × δ) (α × δ)} {c : Bool} {E : XK}
theorem tj_make0 (hz : F.rz = false) (h : TAj F Γ Δ t m A c) : TEj F Γ Δ (tMake Cn (spI F.K F.cl Cn A fl f) [] E t) (fun d => (m d).bd fun a d => (f a).at d) (aIns Cn fl) true := fun Ds d σ H Q e q => by
  refine h Ds d σ H _ e ((q.bind).mono fun a d1 H1 e1 k1 q1 vs p x dx nx nd ne => ?_)
  rw [List.append_nil]
  refine make_pre e1 p nx nd ne (fun er H' y v hf _ _ _ _ _ => ?_) q1
  dsimp only at q1
  rw [hf] at q1
  exact absurd q1.1 (by rw [hz]; exact fun z => nomatch z)
theorem tj_make (hE : ∀ σ, F.E σ = E) (h : TAj F Γ Δ t m A c) : TEj F Γ Δ (tMake Cn (spI F.K F.cl Cn A fl f) [] E t) (fun d => (m d).bd fun a d => (f a).at d) (aIns Cn fl) true := fun Ds d σ H Q e q => by
  refine h Ds d σ H _ e ((q.bind).mono fun a d1 H1 e1 k1 q1 vs p x dx nx nd ne => ?_)
  rw [List.append_nil]
  refine make_pre e1 p nx nd ne (fun er H' y v hf en k ny hy hv => ?_) q1
  dsimp only at q1
  rw [hf] at q1
  rw [← hE σ]
  exact q1.2 H' y v en k ny hy hv
/-- .. within try -/
def tMakeS (C : Addr) (sp : Sp) (E : St → XK) (t : TA) : TE := fun σ H Q => t σ H fun vs H1 => ∀ x dx, H1 x = none → H1 dx = none → dx ≠ x →
  sp (.ref x :: vs) (upd (upd H1 dx (.own x)) x (.ins C dx [])) (fun v H2 => v = .non ∧ Q (.ref x) H2) (E σ)
theorem tj_makeS (h : TAj F Γ Δ t m A c) : TEj F Γ Δ (tMakeS Cn (spI F.K F.cl Cn A fl f) F.E t) (fun d => (m d).bd fun a d => (f a).at d) (aIns Cn fl) true := fun Ds d σ H Q e q => by
  refine h Ds d σ H _ e ((q.bind).mono fun a d1 H1 e1 k1 q1 vs p x dx nx nd ne => ?_)
  refine make_pre e1 p nx nd ne (fun er H' y v hf en k ny hy hv => ?_) q1
  dsimp only at q1
  rw [hf] at q1
  exact q1.2 H' y v en k ny hy hv
end
/-- C(k = v, ..) -/
theorem tj_makeK0 {A : Al α} {fl : Fl β} {f : α → Res Er β} {t : TA} {m : δ → Res (Er × δ) (α × δ)} {c : Bool} {E : XK} {Cn : Addr} {j : Nat} (hz : F.rz = false) (hj : ∀ S H vs a, A.P S H vs a → vs.length = j) (h : TAj F Γ Δ t m A c) : TEj F Γ Δ (tMakeK Cn 0 j (spI F.K F.cl Cn A fl f) kwM E tNil t) (fun d => (m d).bd fun a d => (f a).at d) (aIns Cn fl) true := fun Ds d σ H Q e q => by
  refine h Ds d σ H _ e ((q.bind).mono fun a d1 H1 e1 k1 q1 vs p => ⟨rfl, hj _ _ _ _ p, fun x dx nx nd ne => ?_⟩)
  refine make_pre e1 p nx nd ne (fun er H' y v hf _ _ _ _ _ => ?_) q1
  dsimp only at q1
  rw [hf] at q1
  exact absurd q1.1 (by rw [hz]; exact fun z => nomatch z)
theorem pe_makeS {X : Cx} {CX : CXT} {k : Nat} {f C : Addr} {fd : FuncData} {ps : List Str} {sp : Sp} {E : St → XK} {x : Str} {p pos : Pos} {e : Expr} {es : List Expr} {t : TA} (M : Mk X.K C f) (F : FnOk X.prog X.w X.K X.mg X.base CX k f fd ps sp) (hr : Room (k + 1) X.A) (hg : Gl X x) (hm : X.mg x = some (.ref C)) (hb : Binds X.K fd ps []) (hx : ∀ σ, PassesAt CX X σ (E σ))
    (ha : PA X (e :: es) t) (hdb : (x == ("__debug__" : Str)) = false := by decide) (he : starEach (e :: es) X.env = (false, eval e X.env) :: starEach es X.env := by rfl) (hpl : (backTo pos (starEach es X.env)).any (·.1) = false := by rfl) :
    PE X (.Call (.Name x p) (e :: es) [] pos) (tMakeS C sp E t) := by
  refine ⟨fun pins s σ H Q I h => ?_⟩
  refine wpAny_Call_Name_kw (ld_glob I hg hm ?_ hdb)
  refine PySem.W.callWith_K (h₀ := X.base) I.ok.mod.kin M.kp (thn (ha.run pos pins s σ H _ I h) fun us s1 ⟨vs, H1, I1, r, q⟩ => ⟨I1.kIn, ?_⟩) he hpl
  have hq := q (s1.heap.objs.size + 1) s1.heap.objs.size (I1.hok.fresh (Nat.le_succ _)) (I1.hok.fresh (Nat.le_refl _)) (Nat.ne_of_lt (Nat.lt_succ_self _))
  have I2 := Inv.made (C := C) I1
  have r2 : Vals (V.ref (s1.heap.objs.size + 1) :: vs) (Value.ref (s1.heap.objs.size + 1) :: us) := .cons rfl r
  have hl : (Value.ref (s1.heap.objs.size + 1) :: us).length = ps.length := by
    have e := r2.length
    rw [F.len _ _ _ _ hq] at e
    exact e.symm
  have b := hb _ (Value.ref (s1.heap.objs.size + 1) :: us) I2.kIn (by rw [List.append_nil]; exact hl)
  rw [List.append_nil] at b
  refine wpAny_call (make_map (f := f) I1.kIn M.makes M.init (beq_iff_eq.mp M.fn) (codeAny_mono (F.run _ X.stack _ _ ⟨Value.ref (s1.heap.objs.size + 1) :: us, []⟩ (Value.ref (s1.heap.objs.size + 1) :: us) _ _ (E σ) (hr.make C us [])
    (I2.env0.make C us []) b r2 hq) fun r s' hq' => ?_))
  cases r with
  | error e => exact hx σ pins _ _ e s' I2 hq'
  | ok fl =>
    cases fl with
    | ret u =>
      obtain ⟨v, H', I3, rv, ev, q3⟩ := I2.after hq'
      subst ev
      exact ⟨rv, ⟨V.ref (s1.heap.objs.size + 1), H', I3, rfl, q3⟩⟩
    | next => exact False.elim hq'
    | brk => exact False.elim hq'
    | cont => exact False.elim hq'
/-! ### __init__ -/
def oIns (C : Addr) {α : Type} (fl : Fl α) : Om α := ⟨fun T H D x => ∃ dx fs, H D = some (.ins C dx fs) ∧ fl.P T H fs x,
  fun ⟨dx, fs, h, p⟩ k e => ⟨dx, fs, e.trans h, Fl.keep p k⟩, fun ⟨dx, fs, h, p⟩ k => ⟨dx, fs, h, Fl.shift p k⟩, fun ⟨dx, fs, h, p⟩ xs z => by rw [h] at z; cases z⟩
def oAnyI (C : Addr) : Om Unit := ⟨fun T H D x => ∃ dx fs, H D = some (.ins C dx fs),
  fun ⟨dx, fs, h⟩ k e => ⟨dx, fs, e.trans h⟩, fun ⟨dx, fs, h⟩ k => ⟨dx, fs, h⟩, fun ⟨dx, fs, h⟩ xs z => by rw [h] at z; cases z⟩
def FxI (K : PySem.W.Frag) (p Cn : Addr) (S : ASet) (H : Hp) (cl : XC → Addr) (E : XK) : Fx (Unit × Unit) := { K := K, rz := true, U := [p], Uo := .cons (oAnyI Cn) .nil, S := S, X := fun _ => False, H0 := H, E := fun _ => E, cl := cl }
theorem ext_I {K : PySem.W.Frag} {p Cn : Addr} {S : ASet} {H : Hp} {cl : XC → Addr} {E : XK} {fl : Fl β} {r : Dl δ} : ExtOk (FxI K p Cn S H cl E) (.cons (oIns Cn fl) r) (fun _ => ((), ())) := fun _ T G L d o => by
  obtain ⟨D, L', e, ⟨dx, fs, h, _⟩, _⟩ := o
  have e : [p] ++ L = D :: L' := e
  cases e
  exact ⟨p, [], rfl, ⟨dx, fs, h⟩, rfl⟩
theorem startI_ok {S : ASet} {H : Hp} {cl : XC → Addr} {K : PySem.W.Frag} {p Cn : Addr} {E : XK} : ∀ {α : Type} {A : Al α} {cs : List Bool} {vs : List V} {a : α}, DatL A cs → A.P (· = p) H vs a → Paired (ClOk (FxI K p Cn S H cl E) [p] H) (slotsOf A cs a) (vs.map some) := by
  intro α A cs vs a hd h
  induction hd generalizing vs with
  | nil => rw [show vs = [] from h]; exact .nil
  | yes d _ ih =>
    obtain ⟨v, ws, rfl, q1, q⟩ := h
    exact .cons (clc_ok (c := true) (d _ _ _ _ _ q1)) (ih q)
  | no _ ih =>
    obtain ⟨v, ws, rfl, q1, q⟩ := h
    refine .cons (clc_ok (c := false) (Rp.shift _ q1 fun a z => ?_)) (ih q)
    rcases z with ⟨z, _⟩ | z | z
    · cases z
    · exact z.elim
    · exact .inl (List.mem_singleton.mp z)
abbrev dI0 (Cn : Addr) : Dl (Unit × Unit) := .cons (oIns Cn .nil) .nil
theorem En.startI {K : PySem.W.Frag} {p Cn dx : Addr} {S : ASet} {H : Hp} {cl : XC → Addr} {E : XK} {A : Al α} {cs : List Bool} {vs : List V} {a : α} {N : List Str} (hp : H p = some (.ins Cn dx [])) (hS : ∀ x, S x → H x ≠ none) (hd : DatL A cs) (h : A.P (· = p) H vs a) :
    En (FxI K p Cn S H cl E) (.ow 0 :: slotsOf A cs a ++ List.replicate (N.length - (slotsOf A cs a).length - 1) .no) (dI0 Cn) [p] ((), ()) (L2.start N (.ref p :: vs)) H := by
  refine ⟨Keep.refl _ _, ⟨[], rfl, fun _ h => nomatch h⟩, by simp, fun x h => ?_, ⟨p, [], rfl, ⟨dx, [], hp, rfl⟩, rfl⟩, ?_, (fun _ _ h => h), rfl, fun _ h => .inl h⟩
  · rcases h with ⟨_, h⟩ | h | h
    · exact hS x h
    · exact h.elim
    · rw [List.mem_singleton.mp h, hp]; exact fun z => nomatch z
  · show Paired _ _ (some (.ref p) :: vs.map some ++ List.replicate (N.length - (vs.length + 1)) none)
    rw [al_len (cs := cs) h, ← Nat.sub_sub]
    exact paired_app (.cons ⟨p, rfl, rfl⟩ (startI_ok hd h)) (paired_no _)
def runZ (b : Bk (Er × Unit × Unit) (β × Unit) Empty (Unit × Unit × Unit)) : Res Er β := match b with
  | .nx (r, _) => .ok r
  | .ex (e, _) => .ex e
  | _ => .bad
@[simp] theorem runI_nx (r : β) (u : Unit) : runZ (.nx (r, u) : Bk (Er × Unit × Unit) (β × Unit) Empty (Unit × Unit × Unit)) = .ok r := rfl
@[simp] theorem runI_ex (e : Er) (u : Unit × Unit) : runZ (.ex (e, u) : Bk (Er × Unit × Unit) (β × Unit) Empty (Unit × Unit × Unit)) = .ex e := rfl
theorem ts_nxI {C : κ → St → Hp → Prop} : TSj F Γ Δ tNext (fun d => (Bk.nx d : Bk (Er × υ) δ κ (ρ × υ))) (fun b σ' H' => ∃ Γ' Ds, En F Γ' Δ Ds b σ' H') C Rr := fun Ds d σ H D e q => q σ H ⟨_, Ds, e⟩
theorem run_I {K : PySem.W.Frag} {H : Hp} {Cn : Addr} {A : Al α} {cs : List Bool} {fl : Fl β} {f : α → Res Er β} {vs : List V} {Q : VK} {E : XK} {N : List Str} {t : TS} {m : α → Unit × Unit → Bk (Er × Unit × Unit) (β × Unit) Empty (Unit × Unit × Unit)} (cl : XC → Addr)
    (hd : DatL A cs) (hf : ∀ a, f a = runZ (m a ((), ()))) (hsp : spI K cl Cn A fl f vs H Q E) (hb : ∀ p S a, TSj (FxI K p Cn S H cl E) (.ow 0 :: slotsOf A cs a ++ List.replicate (N.length - (slotsOf A cs a).length - 1) .no) (dI0 Cn) t (m a) (fun b σ' H' => ∃ Γ' Ds, En (FxI K p Cn S H cl E) Γ' (.cons (oIns Cn fl) .nil) Ds b σ' H') (fun x _ _ => x.elim) (rkV aN)) :
    t { nx := fun _ H' => Q .non H', rt := Q } (start N vs) H := by
  obtain ⟨p, dx, us, a, rfl, hp, hA, hr⟩ := hsp
  rw [hf a] at hr
  refine hb p (fun x => H x ≠ none) a [p] ((), ()) _ H _ (En.startI hp (fun x h => h) hd hA) ?_
  cases z : m a ((), ()) with
  | rt x => rw [z] at hr; exact hr.elim
  | nx x =>
    rw [z] at hr
    obtain ⟨r, u⟩ := x
    rintro σ' H' ⟨Γ', Ds, e⟩
    have k0 : Keep (· ∈ [p]) H H' := e.k0
    obtain ⟨L, hL, _⟩ := e.pre
    have hl := Owns.length e.own
    obtain ⟨D, L', eD, ⟨dx2, fs, h1, h2⟩, h3⟩ := e.own
    have hL : Ds = p :: L := hL
    rw [hL] at eD
    cases eD
    refine hr H' (k0.mono fun a h => List.mem_singleton.mp h) dx2 fs h1 fun S hS => Fl.shift h2 fun x hx => .inl (.inl ⟨rfl, hS x hx⟩)
  | bk x => exact x.elim
  | ct x => exact x.elim
  | ex x =>
    rw [z] at hr
    obtain ⟨e, u⟩ := x
    refine ⟨rfl, fun σ' H' dx v k o n hx hv => ?_⟩
    have k : Keep (· ∈ [p]) H H' := k
    exact hr H' dx v (k.mono fun a h => List.mem_singleton.mp h) n hx fun S hS => ErV.shift hv fun x hx => .inl (.inl (hS x hx))
  | bad => rw [z] at hr; exact hr
/-- self.f = e -/
theorem En.stepD {Δ' : Dl δ'} {Ds : List Addr} {d : δ} {d' : δ'} {σ : St} {H H' : Hp} (e : En F Γ Δ Ds d σ H) (k : Keep (· ∈ Ds) H H') (o : Owns Δ' (soft true F Ds) H' Ds d') : En F Γ Δ' Ds d' σ H' := by
  refine ⟨?_, e.pre, e.nd, fun a h => k.live a (e.live a h), o, Paired.mapP e.sl fun _ _ z => z.keep k, e.xd, e.ul, e.sd⟩
  obtain ⟨L, rfl, hL⟩ := e.pre
  refine ⟨fun b u n h => k.same b u (fun z => ?_) (e.k0.same b u n h), fun b xs h => k.tup b xs (e.k0.tup b xs h), fun b h => k.live b (e.k0.live b h)⟩
  rcases List.mem_append.mp z with z | z
  · exact n z
  · rw [hL b z] at h
    cases h
theorem ts_fld {Cn : Addr} {n : Str} {R : Rp α} {fl : Fl β} {fl' : Fl β'} {x : β → α → β'} {r : Dl δ} {i : Nat} {te : TE} {ext : β × δ → υ} {m : β × δ → Res (Er × β × δ) (α × β × δ)} {γ' : Type} {N : γ' → St → Hp → Prop} {k : β' × δ → Bk (Er × υ) γ' κ (ρ × υ)} (sn : FlSn n R fl fl' x) (hi : Γ[i]? = some (.ow 0)) (hc : Cls F.K Cn) (na : NoAttr F.K Cn n) (hl : fl.names.length < 1000)
    (hE : ExtOk F (.cons (oIns Cn fl) r) ext) (h : TEj F Γ (.cons (oIns Cn fl) r) te m R true) (h2 : TSj F Γ (.cons (oIns Cn fl') r) t2 k N C Rr) :
    TSj F Γ (.cons (oIns Cn fl) r) (tSeq (sFld F.K (tVar i) te n) t2) (fun d => (m d).bs ext fun a d => appK k (x d.1 a, d.2)) N C Rr := fun Ds d σ H D e q => by
  refine h Ds d σ H _ e ((AfterS.of hE e q).mono fun a d1 H1 e1 k1 q1 v pv => ?_)
  obtain ⟨s, h1, A, hA, rfl⟩ := e1.get hi
  refine ⟨_, h1, ?_⟩
  obtain ⟨D0, L, eD, ⟨dx, fs, ho, hp⟩, o2⟩ := e1.own
  subst eD
  have eA : D0 = A := Option.some.inj hA
  subst eA
  refine ⟨D0, Cn, dx, fs, rfl, ho, hc, na, by rw [Fl.len hp]; exact hl, ?_⟩
  have nt : ∀ xs, H1 D0 ≠ some (.tup xs) := fun xs z => by rw [ho] at z; cases z
  have k2 : Keep (· ∈ D0 :: L) H1 (upd H1 D0 (.ins Cn dx (putF n v fs))) := (Keep.refl _ _).updS List.mem_cons_self nt
  have nd := (List.nodup_cons.mp e1.nd).1
  refine h2 (D0 :: L) (x d1.1 a, d1.2) σ _ D (e1.stepD k2 ⟨D0, L, rfl, ⟨dx, _, upd_same, sn.put (Fl.keep hp (k2.soft _)) (R.keep pv (k2.soft _))⟩, Owns.keep (k2.soft _) o2 fun E hE => upd_ne fun z => nd (z ▸ hE)⟩) q1
end
end L2

/-! what a text computes: dicts of places, sorted -/
namespace L2
open PySem PySem.Spec PyProof.Rows RZ
/-! ### dicts as lists of pairs -/
section
variable {κ α : Type} [DecidableEq κ]
def dGet (kvs : List (κ × α)) (k : κ) : Option α := (kvs.find? fun q => decide (q.1 = k)).map (·.2)
def dPut (kvs : List (κ × α)) (k : κ) (v : α) : List (κ × α) := if (kvs.any fun q => decide (q.1 = k)) = true then kvs.map (fun q => if q.1 = k then (q.1, v) else q) else kvs ++ [(k, v)]
theorem dGet_nil (k : κ) : dGet ([] : List (κ × α)) k = none := rfl
theorem dGet_cons (q : κ × α) (r : List (κ × α)) (k : κ) : dGet (q :: r) k = if q.1 = k then some q.2 else dGet r k := by
  unfold dGet
  rw [List.find?_cons]
  by_cases h : q.1 = k
  · rw [decide_eq_true h, if_pos h]; rfl
  · rw [decide_eq_false h, if_neg h]
theorem dGet_any (k : κ) : ∀ kvs : List (κ × α), (kvs.any fun q => decide (q.1 = k)) = (dGet kvs k).isSome
  | [] => rfl
  | q :: r => by
    rw [List.any_cons, dGet_cons, dGet_any k r]
    by_cases h : q.1 = k
    · rw [decide_eq_true h, if_pos h]; rfl
    · rw [decide_eq_false h, if_neg h, Bool.false_or]
theorem dPut_new {kvs : List (κ × α)} {k : κ} (v : α) (h : dGet kvs k = none) : dPut kvs k v = kvs ++ [(k, v)] := by
  unfold dPut
  rw [dGet_any, h]
  rfl
end
section
variable {K : PySem.W.Frag} {υ δ δ' α β γ τ κ ρ : Type} {F : Fx υ} {Γ Γ' : List Cl} {Δ : Dl δ} {ext : δ → υ} {N : β → St → Hp → Prop} {C : κ → St → Hp → Prop} {t2 : TS} {Rr : Rk ρ}
/-! ### keys that are places -/
def KvOk (R : Rp α) (S : ASet) (H : Hp) (p : List Key × V) (q : List Int × α) : Prop := p.1 = kI q.1 ∧ R.P S H p.2 q.2
theorem KvOk.keep {R : Rp α} {S : ASet} {H H' : Hp} {ps : List (List Key × V)} {kvs : List (List Int × α)} (h : Paired (KvOk R S H) ps kvs) (k : Keep S H H') : Paired (KvOk R S H') ps kvs := Paired.mapP h fun _ _ z => ⟨z.1, R.keep z.2 k⟩
theorem KvOk.shift {R : Rp α} {S S' : ASet} {H : Hp} {ps : List (List Key × V)} {kvs : List (List Int × α)} (h : Paired (KvOk R S H) ps kvs) (k : ∀ a, S' a → S a ∨ H a = none) : Paired (KvOk R S' H) ps kvs := Paired.mapP h fun _ _ z => ⟨z.1, R.shift z.2 k⟩
def aDT (R : Rp α) : Rp (List (List Int × α)) := ⟨fun S H v kvs => ∃ a ps, v = .ref a ∧ ¬ S a ∧ H a = some (.dT ps) ∧ Paired (KvOk R S H) ps kvs,
  fun ⟨a, ps, e, n, h, p⟩ k => ⟨a, ps, e, n, k.same _ _ n h, KvOk.keep p k⟩,
  fun ⟨a, ps, e, n, h, p⟩ k => ⟨a, ps, e, fun z => (k a z).elim n (fun z => by rw [h] at z; cases z), h, KvOk.shift p k⟩⟩
def oDT (R : Rp α) : Om (List (List Int × α)) := ⟨fun T H D kvs => ∃ ps, H D = some (.dT ps) ∧ Paired (KvOk R T H) ps kvs,
  fun ⟨ps, h, p⟩ k e => ⟨ps, e.trans h, KvOk.keep p k⟩, fun ⟨ps, h, p⟩ k => ⟨ps, h, KvOk.shift p k⟩, fun ⟨ps, h, p⟩ xs z => by rw [h] at z; cases z⟩
theorem omv_D {R : Rp α} : OmV (oDT R) (aDT R) := ⟨fun T T' H D b ⟨ps, h, p⟩ n k => ⟨D, ps, rfl, n, h, KvOk.shift p fun a z => .inl (k a z)⟩⟩
theorem dato_D {R : Rp α} (d : R.Dat) : DatO (oDT R) := fun T T' H D b ⟨ps, h, p⟩ => ⟨ps, h, Paired.mapP p fun _ _ z => ⟨z.1, d _ _ _ _ _ z.2⟩⟩
theorem nn_dt {R : Rp α} : ∀ S H x, ¬ (aDT R).P S H .non x := fun _ _ _ ⟨_, _, h, _⟩ => nomatch h
theorem dget_rel {R : Rp α} {S : ASet} {H : Hp} {k : List Int} : ∀ {ps : List (List Key × V)} {kvs : List (List Int × α)}, Paired (KvOk R S H) ps kvs → (∀ x, dGet kvs k = some x → ∃ v, valV ps (kI k) = some v ∧ R.P S H v x) ∧ (dGet kvs k = none → valV ps (kI k) = none)
  | _, _, .nil => ⟨fun x h => (nomatch h), fun _ => rfl⟩
  | _, _, .cons (a := p) (b := q) h t => by
    rw [dGet_cons]
    by_cases e : q.1 = k
    · rw [if_pos e, valV_pos (h.1.trans (by rw [e]))]
      exact ⟨fun x hx => ⟨p.2, rfl, (show q.2 = x from Option.some.inj hx) ▸ h.2⟩, fun z => (nomatch z)⟩
    · rw [if_neg e, valV_neg (fun z => e (kI_inj (h.1.symm.trans z)))]
      exact dget_rel t
theorem dget_is {R : Rp α} {S : ASet} {H : Hp} {k : List Int} {ps : List (List Key × V)} {kvs : List (List Int × α)} (h : Paired (KvOk R S H) ps kvs) : (valV ps (kI k)).isSome = (dGet kvs k).isSome := by
  cases e : dGet kvs k with
  | none => rw [(dget_rel h).2 e]; rfl
  | some x => obtain ⟨v, hv, _⟩ := (dget_rel h).1 x e; rw [hv]; rfl
theorem dput_rel {R : Rp α} {S : ASet} {H : Hp} {k : List Int} {v : V} {x : α} {ps : List (List Key × V)} {kvs : List (List Int × α)} (h : Paired (KvOk R S H) ps kvs) (hv : R.P S H v x) : Paired (KvOk R S H) (putK ps (kI k) v) (dPut kvs k x) := by
  unfold putK dPut
  rw [valV_any, dGet_any, dget_is h]
  cases (dGet kvs k).isSome with
  | false => exact Paired.snoc h ⟨rfl, hv⟩
  | true =>
    rw [if_pos rfl, if_pos rfl]
    induction h with
    | nil => exact .nil
    | @cons p q ps kvs h t ih =>
      refine .cons ?_ ih
      show KvOk R S H (if p.1 = kI k then (p.1, v) else p) (if q.1 = k then (q.1, x) else q)
      by_cases e : q.1 = k
      · rw [if_pos e, if_pos (h.1.trans (by rw [e]))]; exact ⟨h.1, hv⟩
      · rw [if_neg e, if_neg fun z => e (kI_inj (h.1.symm.trans z))]; exact h
theorem tup_key {T : ASet} {H : Hp} {v : V} {ns : List Int} (h : (aTup aI).P T H v ns) : ∃ b, v = .ref b ∧ H b = some (.tup ((kI ns).map kV)) := by
  obtain ⟨b, vs, rfl, hb, hp⟩ := h
  have e := paired_ints hp
  subst e
  exact ⟨b, rfl, by rw [kI_v]; exact hb⟩
/-! ### reading -/
def gInD {κ : Type} [DecidableEq κ] (k : κ) (d : List (κ × α)) : Option Bool := some (dGet d k).isSome
def gNinD {κ : Type} [DecidableEq κ] (k : κ) (d : List (κ × α)) : Option Bool := some (!(dGet d k).isSome)
theorem ot_inDT {R : Rp α} : OpT K rInDct (aTup aI) (aDT R) gInD aB := fun T H v w a b Q hT pa pb ⟨c, hc, k⟩ => by
  cases hc
  obtain ⟨x, rfl, hx⟩ := tup_key pa
  obtain ⟨y, ps, rfl, n, hy, hp⟩ := pb
  exact ⟨y, _, rfl, DGet.t hy hx, k _ H (Same.refl _) (by show V.bl _ = V.bl _; rw [dget_is hp])⟩
theorem ot_ninDT {R : Rp α} : OpT K rNotInDct (aTup aI) (aDT R) gNinD aB := fun T H v w a b Q hT pa pb ⟨c, hc, k⟩ => by
  cases hc
  obtain ⟨x, rfl, hx⟩ := tup_key pa
  obtain ⟨y, ps, rfl, n, hy, hp⟩ := pb
  exact ⟨y, _, rfl, DGet.t hy hx, k _ H (Same.refl _) (by show V.bl _ = V.bl _; rw [dget_is hp])⟩
section
variable {R : Rp α} {td ty tx : TE} {md : δ → Res (Er × δ) (List (List Int × α) × δ)} {my : δ → Res (Er × δ) (List Int × δ)} {mx : δ → Res (Er × δ) (α × δ)} {c : Bool}
theorem tj_dget (h : TEj F Γ Δ td md (aDT R) c) (h2 : TEj F Γ Δ ty my (aTup aI) c) : TEj F Γ Δ (tDGet td ty) (fun d => (md d).bd fun a d => (my d).bd fun k d => optAt (dGet a k) d) R c := fun Ds d σ H Q e q => by
  refine h Ds d σ H _ e ((q.bind).mono fun a d1 H1 e1 k1 q1 v pv => ?_)
  refine h2 Ds d1 σ H1 _ e1 ((q1.bind).mono fun b d2 H2 e2 k2 q2 w pw => ?_)
  obtain ⟨x, hx, k⟩ := After.opt q2 e2
  obtain ⟨y, ps, rfl, n, hy, hp⟩ := (aDT R).keep pv (k2.soft _)
  obtain ⟨z, rfl, hz⟩ := tup_key pw
  obtain ⟨u, hu, pu⟩ := (dget_rel hp).1 x hx
  exact ⟨y, u, rfl, by have := DGet.t hy hz; rw [hu] at this; exact this, k H2 (Same.refl _) u pu⟩
theorem tj_dget1 (hn : ∀ S H x, ¬ R.P S H .non x) (h : TEj F Γ Δ td md (aDT R) c) (h2 : TEj F Γ Δ ty my (aTup aI) c) : TEj F Γ Δ (tDGet1 td ty) (fun d => (md d).bd fun a d => (my d).bd fun k d => .ok (dGet a k, d)) (aOpt R) c := fun Ds d σ H Q e q => by
  refine h Ds d σ H _ e ((q.bind).mono fun a d1 H1 e1 k1 q1 v pv => ?_)
  obtain ⟨y, ps, rfl, n, hy, hp⟩ := id pv
  refine ⟨y, rfl, .inr ⟨ps, .inl hy⟩, h2 Ds d1 σ H1 _ e1 ((q1.bind).mono fun b d2 H2 e2 k2 q2 w pw => ?_)⟩
  obtain ⟨y', ps', e', n', hy', hp'⟩ := (aDT R).keep pv (k2.soft _)
  cases e'
  obtain ⟨z, rfl, hz⟩ := tup_key pw
  refine ⟨_, DGet.t hy' hz, After.ok q2 e2 _ ?_⟩
  cases hg : dGet a b with
  | none => rw [(dget_rel hp').2 hg]; exact .inl ⟨rfl, rfl⟩
  | some x =>
    obtain ⟨u, hu, pu⟩ := (dget_rel hp').1 x hg
    rw [hu]
    exact .inr ⟨x, rfl, pu, fun z => hn _ _ _ ((show u = V.non from z) ▸ pu)⟩
theorem tj_dget2 (h : TEj F Γ Δ td md (aDT R) c) (h2 : TEj F Γ Δ ty my (aTup aI) c) (h3 : TEj F Γ Δ tx mx R c) : TEj F Γ Δ (tDGet2 td ty tx) (fun d => (md d).bd fun a d => (my d).bd fun k d => (mx d).bd fun z d => .ok ((dGet a k).getD z, d)) R c := fun Ds d σ H Q e q => by
  refine h Ds d σ H _ e ((q.bind).mono fun a d1 H1 e1 k1 q1 v pv => ?_)
  obtain ⟨y, ps, rfl, n, hy, hp⟩ := id pv
  refine ⟨y, rfl, .inr ⟨ps, .inl hy⟩, h2 Ds d1 σ H1 _ e1 ((q1.bind).mono fun b d2 H2 e2 k2 q2 w pw => ?_)⟩
  refine h3 Ds d2 σ H2 _ e2 ((q2.bind).mono fun x d3 H3 e3 k3 q3 u pu => ?_)
  obtain ⟨y', ps', e', n', hy', hp'⟩ := (aDT R).keep pv ((k2.trans k3).soft _)
  cases e'
  obtain ⟨z, rfl, hz⟩ := tup_key ((aTup aI).keep pw (k3.soft _))
  refine ⟨_, DGet.t hy' hz, After.ok q3 e3 _ ?_⟩
  cases hg : dGet a b with
  | none => rw [(dget_rel hp').2 hg]; exact pu
  | some x =>
    obtain ⟨u, hu, pu⟩ := (dget_rel hp').1 x hg
    rw [hu]
    exact pu
end
def gLenD {κ : Type} (a : List (κ × α) × Unit) : Option Int := some (a.1.length : Int)
@[simp] theorem gLenD_e {κ : Type} (a : List (κ × α)) (u : Unit) : gLenD (a, u) = some (a.length : Int) := rfl
theorem cb_lenDT {R : Rp α} : CbT rLenT (.cons (aDT R) .nil) gLenD aI := fun T H vs a Q hT pa ⟨c, hc, k⟩ => by
  cases hc
  obtain ⟨v, ws, rfl, ⟨x, ps, rfl, n, hx, hp⟩, rfl⟩ := pa
  exact ⟨x, ps, rfl, hx, k _ H (Same.refl _) (by show V.int _ = V.int _; rw [Paired.length hp])⟩
/-! ### sorted -/
def gSort (a : List (List Int) × Unit) : Option (List (List Int)) := if a.1.all (fun s => !s.isEmpty) = true then some (srt a.1) else none
def gSortD (a : List (List Int × α) × Unit) : Option (List (List Int)) := gSort (a.1.map (·.1), ())
theorem tups_of {T : ASet} {H : Hp} {vs : List V} {xs : List (List Int)} (h : Paired ((aTup aI).P T H) vs xs) : ∃ ts : List Addr, vs = ts.map V.ref ∧ TsI H ts xs := by
  induction h with
  | nil => exact ⟨[], rfl, .nil⟩
  | cons a _ ih =>
    obtain ⟨ts, rfl, ht⟩ := ih
    obtain ⟨b, us, rfl, hb, hp⟩ := a
    have e := paired_ints hp
    subst e
    exact ⟨b :: ts, rfl, .cons hb ht⟩
theorem of_refs {T : ASet} {H : Hp} {ts : List Addr} {xs : List (List Int)} (h : TsI H ts xs) : Paired ((aTup aI).P T H) (ts.map V.ref) xs := by
  unfold TsI at h
  induction h with
  | nil => exact .nil
  | cons a _ ih => exact .cons ⟨_, _, rfl, a, ints_paired _⟩ ih
theorem cn_sort : CbN (rSortedTI K) (.cons (aLst K (aTup aI)) .nil) gSort (aTup aI) := fun T H vs a Q hT pa ⟨c, hc, k⟩ => by
  obtain ⟨v, ws, rfl, ⟨x, us, rfl, hx, hp⟩, rfl⟩ := pa
  unfold gSort at hc
  split at hc
  · rename_i hs
    cases hc
    obtain ⟨ts, rfl, ht⟩ := tups_of hp
    refine ⟨x, ts, a.1, rfl, hx.sq, ht, fun s hs' e => ?_, fun ts' p ht' np => ?_⟩
    · have := List.all_eq_true.mp hs s hs'
      rw [e] at this
      cases this
    · exact k p _ _ (Same.new0 np) np upd_same (of_refs (ht'.same (Same.new0 np)))
  · cases hc
theorem cn_sortD {R : Rp α} : CbN rSortedDT (.cons (aDT R) .nil) gSortD (aTup aI) := fun T H vs a Q hT pa ⟨c, hc, k⟩ => by
  obtain ⟨v, ws, rfl, ⟨x, ps, rfl, n, hx, hp⟩, rfl⟩ := pa
  unfold gSortD gSort at hc
  split at hc
  · rename_i hs
    cases hc
    refine ⟨x, ps, a.1.map (·.1), rfl, hx, ?_, fun s hs' e => ?_, fun ts' p ht' np => ?_⟩
    · rw [List.map_map]
      clear hs k hx
      generalize a.1 = kvs at hp
      induction hp with
      | nil => rfl
      | cons h _ ih => rw [List.map_cons, List.map_cons, ih]; exact congrArg (· :: _) h.1
    · have := List.all_eq_true.mp hs s hs'
      rw [e] at this
      cases this
    · exact k p _ _ (Same.new0 np) np upd_same (of_refs (ht'.same (Same.new0 np)))
  · cases hc
/-! ### two dicts of words -/
def sameL (a b : List (List Int × Str)) : Bool := a.length == b.length && a.all fun q => decide (dGet b q.1 = some q.2)
def gEqDT (a b : List (List Int × Str)) : Option Bool := some (sameL a b)
theorem words_of {T : ASet} {H : Hp} {ps : List (List Key × V)} {kvs : List (List Int × Str)} (h : Paired (KvOk aS T H) ps kvs) : Words ps := fun p hp => by
  induction h with
  | nil => cases hp
  | cons a _ ih =>
    rcases List.mem_cons.mp hp with rfl | hp
    · exact ⟨_, a.2⟩
    · exact ih hp
theorem all_rel {T : ASet} {H : Hp} {qs : List (List Key × V)} {b : List (List Int × Str)} (h2 : Paired (KvOk aS T H) qs b) : ∀ {ps : List (List Key × V)} {a : List (List Int × Str)}, Paired (KvOk aS T H) ps a → (ps.all fun p => decide (valV qs p.1 = some p.2)) = a.all fun q => decide (dGet b q.1 = some q.2)
  | _, _, .nil => rfl
  | _, _, .cons (a := p) (b := q) h t => by
    rw [List.all_cons, List.all_cons, all_rel h2 t]
    refine congrArg (· && _) ?_
    have hq : p.2 = V.str q.2 := h.2
    rw [h.1, hq]
    cases e : dGet b q.1 with
    | none => rw [(dget_rel h2).2 e, decide_eq_false (fun z => nomatch z), decide_eq_false (fun z => nomatch z)]
    | some x =>
      obtain ⟨v, hv, pv⟩ := (dget_rel h2).1 x e
      have pv : v = V.str x := pv
      rw [hv, pv]
      by_cases hx : x = q.2
      · subst hx; rw [decide_eq_true rfl, decide_eq_true rfl]
      · rw [decide_eq_false fun z => hx (by injection z with z; injection z), decide_eq_false fun z => hx (by injection z)]
theorem same_rel {T : ASet} {H : Hp} {ps qs : List (List Key × V)} {a b : List (List Int × Str)} (h : Paired (KvOk aS T H) ps a) (h2 : Paired (KvOk aS T H) qs b) : sameD ps qs = sameL a b := by
  unfold sameD sameL
  rw [Paired.length h, Paired.length h2, all_rel h2 h]
theorem ot_eqDT : OpT K rEqDT (aDT aS) (aDT aS) gEqDT aB := fun T H v w a b Q hT pa pb ⟨c, hc, k⟩ => by
  cases hc
  obtain ⟨x, ps, rfl, n, hx, hp⟩ := pa
  obtain ⟨y, qs, rfl, n2, hy, hq⟩ := pb
  exact ⟨x, y, ps, qs, rfl, rfl, hx, hy, words_of hp, words_of hq, k _ H (Same.refl _) (by show V.bl _ = V.bl _; rw [same_rel hp hq])⟩
/-! ### dicts that are made -/
theorem ts_newD {Δ' : Dl δ'} {R : Rp α} {f : δ → List (List Int × α) → δ'} {ini : δ' → δ} {l : δ' → List (List Int × α)} {i : Nat} {k : δ' → Bk (Er × υ) β κ (ρ × υ)} (s : Sn Δ (oDT R) Δ' f ini l) (hΓ : Γ' = Γ.set i (.ow Δ.len)) (h2 : TSj F Γ' Δ' t2 k N C Rr) :
    TSj F Γ Δ (tSeq (tAsg tDNewT (gName i)) t2) (fun d => appK k (f d [])) N C Rr := fun Ds d σ H D e q => by
  subst hΓ
  intro p np
  have s1 := Same.new0 (o := HO.dT []) np
  have e' := e.same s1
  have sh : ∀ a, (soft true F Ds a ∨ a = p) → soft true F Ds a ∨ H a = none := fun a h => h.imp id fun z => by rw [z]; exact np
  have e3 := En.more (O := oDT R) (xs := []) s e e' (s1.keepS _) np (by rw [upd_same]; exact fun z => nomatch z) ⟨[], upd_same, .nil⟩ (Owns.keep (s1.keepS _) (Owns.shift sh e.own) fun E hE => upd_ne fun z => e.live E (.inr (.inr hE)) (z ▸ np))
  refine h2 _ _ _ _ D (e3.set ⟨p, ?_, rfl⟩) q
  rw [List.getElem?_append_right (by rw [Owns.length e.own]; exact Nat.le_refl _), Owns.length e.own, Nat.sub_self]
  rfl
noncomputable def putJ {κ' α δ ε β κ ρ : Type} [DecidableEq κ'] (d : List (κ' × α)) (k : κ') (a : α) (p : List (κ' × α) → δ) (kk : δ → Bk ε β κ ρ) : Bk ε β κ ρ := @ite _ (d.length < sizeLine) (Classical.propDecidable _) (kk (p (dPut d k a))) .bad
theorem putJ_ok {κ' α δ ε β κ ρ : Type} [DecidableEq κ'] {d : List (κ' × α)} (h : d.length < sizeLine) (k : κ') (a : α) (p : List (κ' × α) → δ) (kk : δ → Bk ε β κ ρ) : putJ d k a p kk = kk (p (dPut d k a)) := if_pos h
theorem ts_setD {i j : Nat} {R : Rp α} {g : δ → List (List Int × α)} {p : List (List Int × α) → δ → δ} {te ti : TE} {m : δ → Res (Er × δ) (α × δ)} {mi : δ → Res (Er × δ) (List Int × δ)} {c' : Bool} {k : δ → Bk (Er × υ) β κ (ρ × υ)} (hE : ExtOk F Δ ext) (hi : Γ[i]? = some (.ow j)) (ix : Ix Δ j (oDT R) g p) (h : TEj F Γ Δ te m R true) (h2 : TEj F Γ Δ ti mi (aTup aI) c') (h3 : TSj F Γ Δ t2 k N C Rr) :
    TSj F Γ Δ (tSeq (tAsg te (L2.gSub (tVar i) ti rSetD)) t2) (fun d => (m d).bs ext fun a d => (mi d).bs ext fun i d => putJ (g d) i a (fun l => p l d) k) N C Rr := fun Ds d σ H D e q => by
  refine h Ds d σ H _ e ((AfterS.of hE e q).mono fun a d1 H1 e1 k1 q1 v pv => ?_)
  obtain ⟨s, h1, A, hA, rfl⟩ := e1.get hi
  refine ⟨_, h1, ?_⟩
  refine h2 Ds d1 σ H1 _ e1 ((AfterS.of hE e1 q1).mono fun b d2 H2 e2 k2 q2 w pw => ?_)
  obtain ⟨A', h5, ps, h6, h7⟩ := ix.here e2.own
  rw [hA] at h5
  cases h5
  have nt : ∀ xs, H2 A ≠ some (.tup xs) := fun xs z => by rw [h6] at z; cases z
  have hm := List.mem_of_getElem? hA
  obtain ⟨z, rfl, hz⟩ := tup_key pw
  dsimp only at q2
  unfold putJ at q2
  by_cases hl : (g d2).length < sizeLine
  · rw [if_pos hl] at q2
    have pv2 := R.keep pv (k2.soft true)
    have kk : Keep (soft true F Ds) H2 (upd H2 A (.dT (putK ps (kI b) v))) := (Keep.refl _ _).updS (softDs _ hm) nt
    obtain ⟨e3, k3⟩ := e2.put (b := dPut (g d2) b a) (o := .dT (putK ps (kI b) v)) ix hA ⟨_, upd_same, dput_rel (KvOk.keep h7 kk) (R.keep pv2 kk)⟩
    exact ⟨A, _, rfl, DPut.t h6 hz (by rw [Paired.length h7]; exact hl), h3 Ds _ σ _ D e3 q2⟩
  · rw [if_neg hl] at q2
    exact q2.elim
/-! ### rules, K named -/
theorem kpe_fld {X : Cx} {K : PySem.W.Frag} {e : Expr} {f : Str} {pos : Pos} {ta : TE} (h : X.K = K) (he : PE X e ta) (hb : attributeBase e f X.env (eval e X.env) = eval e X.env) : PE X (.Attribute e f pos) (tFld K ta f) := h ▸ pe_fld he hb
theorem al_j1 {R : Rp α} : ∀ S H vs a, (Al.cons R .nil).P S H vs a → vs.length = 1 := fun _ _ _ _ ⟨_, _, e, _, e2⟩ => by rw [e, show _ = _ from e2]; rfl
theorem al_j2 {R : Rp α} {R2 : Rp β} : ∀ S H vs a, (Al.cons R (.cons R2 .nil)).P S H vs a → vs.length = 2 := fun _ _ _ _ ⟨_, _, e, _, _, _, e2, _, e3⟩ => by rw [e, e2, show _ = _ from e3]; rfl
theorem al_j3 {R : Rp α} {R2 : Rp β} {R3 : Rp γ} : ∀ S H vs a, (Al.cons R (.cons R2 (.cons R3 .nil))).P S H vs a → vs.length = 3 := fun _ _ _ _ ⟨_, _, e, _, _, _, e2, _, _, _, e3, _, e4⟩ => by rw [e, e2, e3, show _ = _ from e4]; rfl
theorem ksortT {X : Cx} {K : PySem.W.Frag} (h : X.K = K) (hu : X.A.units + 64 < cLine) : CallR X (.builtin "sorted") (rSortedTI K) := h ▸ cr_sortedTI hu
end
end L2

/-! what a text computes: lists taken apart, more of lists -/
namespace L2
open PySem PySem.Spec PyProof.Rows RZ
section
variable {K : PySem.W.Frag} {υ δ δ' α β γ τ κ ρ : Type} {F : Fx υ} {Γ Γ' : List Cl} {Δ : Dl δ} {ext : δ → υ} {N : β → St → Hp → Prop} {C : κ → St → Hp → Prop} {t2 : TS} {Rr : Rk ρ}
/-! ### a list of a known length, taken apart -/
def aL2 (K : PySem.W.Frag) (R : Rp α) : Rp (α × α) := ⟨fun S H v x => ∃ a v1 v2, v = .ref a ∧ LsAt K S H a [v1, v2] ∧ R.P S H v1 x.1 ∧ R.P S H v2 x.2,
  fun ⟨a, v1, v2, e, h, p, q⟩ k => ⟨a, v1, v2, e, h.keep k, R.keep p k, R.keep q k⟩, fun ⟨a, v1, v2, e, h, p, q⟩ k => ⟨a, v1, v2, e, h.shift k, R.shift p k, R.shift q k⟩⟩
def aL3 (K : PySem.W.Frag) (R : Rp α) : Rp (α × α × α) := ⟨fun S H v x => ∃ a v1 v2 v3, v = .ref a ∧ LsAt K S H a [v1, v2, v3] ∧ R.P S H v1 x.1 ∧ R.P S H v2 x.2.1 ∧ R.P S H v3 x.2.2,
  fun ⟨a, v1, v2, v3, e, h, p, q, r⟩ k => ⟨a, v1, v2, v3, e, h.keep k, R.keep p k, R.keep q k, R.keep r k⟩, fun ⟨a, v1, v2, v3, e, h, p, q, r⟩ k => ⟨a, v1, v2, v3, e, h.shift k, R.shift p k, R.shift q k, R.shift r k⟩⟩
/-- a value, seen otherwise -/
structure Vw {α β : Type} (Ra : Rp α) (Rb : Rp β) (cv : α → Option β) : Prop where
  ok : ∀ (S : ASet) (H : Hp) (v : V) (a : α) (b : β), cv a = some b → Ra.P S H v a → Rb.P S H v b
theorem vw_id {R : Rp α} : Vw R R some := ⟨fun S H v a b h p => by cases h; exact p⟩
def bind2 (x y : Option β) : Option (β × β) := match x with
  | none => none
  | some a => match y with
    | none => none
    | some b => some (a, b)
def cv2 (cv : α → Option β) (l : List α) : Option (β × β) := if l.length = 2 then bind2 (l[0]?.bind cv) (l[1]?.bind cv) else none
def bind3 (x y z : Option β) : Option (β × β × β) := match x with
  | none => none
  | some a => match bind2 y z with
    | none => none
    | some b => some (a, b)
def cv3 (cv : α → Option β) (l : List α) : Option (β × β × β) := if l.length = 3 then bind3 (l[0]?.bind cv) (l[1]?.bind cv) (l[2]?.bind cv) else none
theorem vw_at {Ra : Rp α} {Rb : Rp β} {cv : α → Option β} (h : Vw Ra Rb cv) {S : ASet} {H : Hp} {vs : List V} {a : List α} (hp : Paired (Ra.P S H) vs a) {i : Nat} {b : β} (e : a[i]?.bind cv = some b) : ∃ v, vs[i]? = some v ∧ Rb.P S H v b := by
  cases ha : a[i]? with
  | none => rw [ha] at e; cases e
  | some x =>
    rw [ha] at e
    have e : cv x = some b := e
    have hl := (List.getElem?_eq_some_iff.mp ha).1
    have hv : vs[i]? = some (vs[i]'(by rw [Paired.length hp]; exact hl)) := List.getElem?_eq_getElem _
    obtain ⟨y, h1, h2⟩ := pairGet hp hv
    rw [ha] at h1
    cases h1
    exact ⟨_, hv, h.ok _ _ _ _ _ e h2⟩
theorem vw_l2 {Ra : Rp α} {Rb : Rp β} {cv : α → Option β} (h : Vw Ra Rb cv) : Vw (aLst K Ra) (aL2 K Rb) (cv2 cv) := ⟨fun S H v a b hc p => by
  obtain ⟨x, vs, rfl, hx, hp⟩ := p
  unfold cv2 at hc
  split at hc
  · rename_i hl
    cases h0 : a[0]?.bind cv with
    | none => rw [h0] at hc; cases hc
    | some b0 =>
      cases h1 : a[1]?.bind cv with
      | none => rw [h0, h1] at hc; cases hc
      | some b1 =>
        rw [h0, h1] at hc
        cases hc
        obtain ⟨v0, e0, p0⟩ := vw_at h hp h0
        obtain ⟨v1, e1, p1⟩ := vw_at h hp h1
        have hv : vs = [v0, v1] := by
          have hl2 : vs.length = 2 := by rw [Paired.length hp, hl]
          refine List.ext_getElem? fun i => ?_
          match i with
          | 0 => exact e0
          | 1 => exact e1
          | i + 2 => rw [List.getElem?_eq_none (by omega), List.getElem?_eq_none (by simp)]
        subst hv
        exact ⟨x, v0, v1, rfl, hx, p0, p1⟩
  · cases hc⟩
theorem vw_l3 {Ra : Rp α} {Rb : Rp β} {cv : α → Option β} (h : Vw Ra Rb cv) : Vw (aLst K Ra) (aL3 K Rb) (cv3 cv) := ⟨fun S H v a b hc p => by
  obtain ⟨x, vs, rfl, hx, hp⟩ := p
  unfold cv3 at hc
  split at hc
  · rename_i hl
    cases h0 : a[0]?.bind cv with
    | none => rw [h0] at hc; cases hc
    | some b0 =>
      cases h1 : a[1]?.bind cv with
      | none => rw [h0, h1] at hc; cases hc
      | some b1 =>
        cases h2 : a[2]?.bind cv with
        | none => rw [h0, h1, h2] at hc; cases hc
        | some b2 =>
          rw [h0, h1, h2] at hc
          cases hc
          obtain ⟨v0, e0, p0⟩ := vw_at h hp h0
          obtain ⟨v1, e1, p1⟩ := vw_at h hp h1
          obtain ⟨v2, e2, p2⟩ := vw_at h hp h2
          have hv : vs = [v0, v1, v2] := by
            have hl2 : vs.length = 3 := by rw [Paired.length hp, hl]
            refine List.ext_getElem? fun i => ?_
            match i with
            | 0 => exact e0
            | 1 => exact e1
            | 2 => exact e2
            | i + 3 => rw [List.getElem?_eq_none (by omega), List.getElem?_eq_none (by simp)]
          subst hv
          exact ⟨x, v0, v1, v2, rfl, hx, p0, p1, p2⟩
  · cases hc⟩
theorem tj_vw {Ra : Rp α} {Rb : Rp β} {cv : α → Option β} {t : TE} {m : δ → Res (Er × δ) (α × δ)} {c : Bool} (hv : Vw Ra Rb cv) (h : TEj F Γ Δ t m Ra c) : TEj F Γ Δ t (fun d => (m d).bd fun a d => optAt (cv a) d) Rb c := fun Ds d σ H Q e q =>
  h Ds d σ H Q e ((q.bind).mono fun a d1 H1 e1 k1 q1 v p => by
    obtain ⟨x, hx, k⟩ := q1.opt e1
    exact k H1 (Same.refl _) v (hv.ok _ _ _ _ _ hx p))
theorem tg_l2 {R : Rp α} {c : Bool} {g1 g2 : TG} {Γ1 : α → List Cl} {Γ2 : α → α → List Cl} {is1 is2 : List Nat} (h1 : TGj F c Γ Δ g1 R Γ1 is1) (h2 : ∀ a, TGj F c (Γ1 a) Δ g2 R (Γ2 a) is2) :
    TGj F c Γ Δ (gLst F.K 2 (gCons g1 (gCons g2 gNil))) (aL2 F.K R) (fun p => Γ2 p.1 p.2) (is1 ++ is2) := fun Ds d σ H v a Q e p k => by
  obtain ⟨b, v1, v2, rfl, hb, p1, p2⟩ := p
  refine ⟨b, _, rfl, hb.sq, rfl, v1, _, rfl, h1 Ds d σ H v1 a.1 _ e p1 fun σ1 e1 w1 => ⟨v2, _, rfl, h2 a.1 Ds d σ1 H v2 a.2 _ e1 p2 fun σ2 e2 w2 => ⟨rfl, k σ2 e2 fun vs h => ?_⟩⟩⟩
  rw [w2 vs fun i hi => h i (List.mem_append_right _ hi), w1 vs fun i hi => h i (List.mem_append_left _ hi)]
theorem tg_l3 {R : Rp α} {c : Bool} {g1 g2 g3 : TG} {Γ1 : α → List Cl} {Γ2 : α → α → List Cl} {Γ3 : α → α → α → List Cl} {is1 is2 is3 : List Nat} (h1 : TGj F c Γ Δ g1 R Γ1 is1) (h2 : ∀ a, TGj F c (Γ1 a) Δ g2 R (Γ2 a) is2) (h3 : ∀ a b, TGj F c (Γ2 a b) Δ g3 R (Γ3 a b) is3) :
    TGj F c Γ Δ (gLst F.K 3 (gCons g1 (gCons g2 (gCons g3 gNil)))) (aL3 F.K R) (fun p => Γ3 p.1 p.2.1 p.2.2) (is1 ++ is2 ++ is3) := fun Ds d σ H v a Q e p k => by
  obtain ⟨b, v1, v2, v3, rfl, hb, p1, p2, p3⟩ := p
  refine ⟨b, _, rfl, hb.sq, rfl, v1, _, rfl, h1 Ds d σ H v1 a.1 _ e p1 fun σ1 e1 w1 => ⟨v2, _, rfl, h2 a.1 Ds d σ1 H v2 a.2.1 _ e1 p2 fun σ2 e2 w2 => ⟨v3, _, rfl, h3 a.1 a.2.1 Ds d σ2 H v3 a.2.2 _ e2 p3 fun σ3 e3 w3 => ⟨rfl, k σ3 e3 fun vs h => ?_⟩⟩⟩⟩
  rw [w3 vs fun i hi => h i (List.mem_append_right _ hi), w2 vs fun i hi => h i (List.mem_append_left _ (List.mem_append_right _ hi)), w1 vs fun i hi => h i (List.mem_append_left _ (List.mem_append_left _ hi))]
theorem TNj.dat {t : TE} {m : δ → Res (Er × δ) (List α × δ)} {R : Rp α} {c c' : Bool} (hd : R.Dat) (h : TNj F Γ Δ t m R c) : TNj F Γ Δ t m R c' := fun Ds d σ H Q e q => h Ds d σ H Q e (q.mono fun a d' H' _ _ k D vs n hD p => k D vs n hD (Paired.mapP p fun _ _ z => hd _ _ _ _ _ z))
/-- l[k], l owned -/
theorem tj_ixO {i j : Nat} {R : Rp α} {g : δ → List α} {p : List α → δ → δ} {t : TE} {m : δ → Res (Er × δ) (Int × δ)} {c : Bool} (hi : Γ[i]? = some (.ow j)) (ix : Ix Δ j (oLst R) g p) (h : TEj F Γ Δ t m aI c) : TEj F Γ Δ (tOp (rIxL F.K) (tVar i) t) (fun d => (m d).bd fun k d => optAt (gIx (g d) k) d) R true := fun Ds d σ H Q e q => by
  obtain ⟨s, h1, D, hD, rfl⟩ := e.get hi
  refine ⟨_, h1, h Ds d σ H _ e ((q.bind).mono fun k d1 H1 e1 k1 q1 v pv => ?_)⟩
  obtain ⟨D', h2, vs, h3, h4⟩ := ix.here e1.own
  rw [hD] at h2
  cases h2
  obtain ⟨x, hx, kk⟩ := After.opt q1 e1
  obtain ⟨y, hy, py⟩ := atI_pair h4 hx
  exact ⟨D, vs, k, y, rfl, pv, SqL.of h3, hy, kk H1 (Same.refl _) y py⟩
/-- l.clear() -/
theorem tj_clear {K' : PySem.W.Frag} {i j : Nat} {R : Rp α} {g : δ → List α} {p : List α → δ → δ} (hi : Γ[i]? = some (.ow j)) (ix : Ix Δ j (oLst R) g p) : TEj F Γ Δ (tBM0 K' "list" rClear (tVar i)) (fun d => .ok ((), p [] d)) aN true := fun Ds d σ H Q e q => by
  obtain ⟨s, h1, D, hD, rfl⟩ := e.get hi
  obtain ⟨D', h2, vs, h3, h4⟩ := ix.here e.own
  rw [hD] at h2
  cases h2
  obtain ⟨e2, k2⟩ := e.put (b := []) (o := .lst []) ix hD ⟨_, upd_same, .nil⟩
  exact ⟨_, h1, .inl ⟨rfl, _, SqL.of h3⟩, D, vs, rfl, rfl, h3, q _ e2 k2 _ rfl⟩
/-- l.insert(i, a) -/
def rIns : V → List V → Hp → VK → Prop := fun x vs H Q => ∃ l xs i y, x = V.ref l ∧ vs = [V.int i, y] ∧ H l = some (HO.lst xs) ∧ xs.length < sizeLine ∧ 0 ≤ i ∧ i < 2 ^ 63 ∧ Q V.non (upd H l (HO.lst (List.take i.toNat xs ++ [y] ++ List.drop i.toNat xs)))
theorem mt_ins {X : Cx} : MtR X "list.insert" rIns := mt_insert
noncomputable def gIns {α : Type} (xs : List α) (i : Int) (a : α) : Option (List α) := @ite _ (xs.length < sizeLine ∧ 0 ≤ i ∧ i < 2 ^ 63) (Classical.propDecidable _) (some (xs.take i.toNat ++ [a] ++ xs.drop i.toNat)) none
theorem gIns_ok {α : Type} {xs : List α} {i : Int} (a : α) (h : xs.length < sizeLine ∧ 0 ≤ i ∧ i < 2 ^ 63) : gIns xs i a = some (xs.take i.toNat ++ [a] ++ xs.drop i.toNat) := if_pos h
def insJ {β δ : Type} (o : Option β) (p : β → δ) : Res (Er × δ) (Unit × δ) := match o with
  | some x => .ok ((), p x)
  | none => .bad
@[simp] theorem insJ_some {β δ : Type} (x : β) (p : β → δ) : insJ (some x) p = .ok ((), p x) := rfl
theorem tj_insert {K' : PySem.W.Frag} {i j : Nat} {R : Rp α} {g : δ → List α} {p : List α → δ → δ} {t : TA} {m : δ → Res (Er × δ) ((Int × α × Unit) × δ)} (hi : Γ[i]? = some (.ow j)) (ix : Ix Δ j (oLst R) g p) (h : TAj F Γ Δ t m (.cons aI (.cons R .nil)) true) :
    TEj F Γ Δ (tBM K' "list" rIns (tVar i) t) (fun d => (m d).bd fun a d => insJ (gIns (g d) a.1 a.2.1) fun l => p l d) aN true := fun Ds d σ H Q e q => by
  obtain ⟨s, h1, D, hD, rfl⟩ := e.get hi
  obtain ⟨D', h2, vs, h3, h4⟩ := ix.here e.own
  rw [hD] at h2
  cases h2
  refine ⟨_, h1, .inl ⟨rfl, _, SqL.of h3⟩, ?_⟩
  refine h Ds d σ H _ e ((q.bind).mono fun a d1 H1 e1 k1 q1 ws pv => ?_)
  obtain ⟨v0, us0, rfl, p0, v, us, rfl, pv, rfl⟩ := pv
  obtain rfl : v0 = .int a.1 := p0
  obtain ⟨D', h5, vs', h6, h7⟩ := ix.here e1.own
  rw [hD] at h5
  cases h5
  dsimp only at q1
  unfold gIns at q1
  by_cases hl : (g d1).length < sizeLine ∧ 0 ≤ a.1 ∧ a.1 < 2 ^ 63
  · rw [if_pos hl] at q1
    have nt : ∀ xs, H1 D ≠ some (.tup xs) := fun xs z => by rw [h6] at z; cases z
    have hm := List.mem_of_getElem? hD
    have h8 := Paired.mapP h7 fun _ _ z => Rp.into (H := H1) (o := .lst (vs'.take a.1.toNat ++ [v] ++ vs'.drop a.1.toNat)) z hm nt
    obtain ⟨e2, k2⟩ := e1.put (b := (g d1).take a.1.toNat ++ [a.2.1] ++ (g d1).drop a.1.toNat) (o := .lst (vs'.take a.1.toNat ++ [v] ++ vs'.drop a.1.toNat)) ix hD ⟨_, upd_same, paired_app (Paired.snoc (paired_take a.1.toNat h8) (Rp.into pv hm nt)) (paired_drop a.1.toNat h8)⟩
    exact ⟨D, vs', a.1, v, rfl, rfl, h6, by rw [Paired.length h7]; exact hl.1, hl.2.1, hl.2.2, q1 _ e2 k2 _ rfl⟩
  · rw [if_neg hl] at q1
    exact q1.elim
/-! ### defs that may give back what they are given -/
def spQ {α ρ : Type} (A : Al α) (R : Rp ρ) (f : α → Res Er ρ) : Sp := fun vs H Q _ => ∃ (S : ASet) (a : α), (∀ x, S x → H x ≠ none) ∧ A.P S H vs a ∧ ∃ r, f a = .ok r ∧ ∀ v H', Same H H' → R.P S H' v r → Q v H'
inductive AllT : {α : Type} → Al α → List Bool → Prop
  | nil {cs : List Bool} : AllT .nil cs
  | yes {α β : Type} {R : Rp α} {r : Al β} {cs : List Bool} : AllT r cs → AllT (.cons R r) (true :: cs)
theorem start_okQ {S : ASet} {H : Hp} {cl : XC → Addr} {K : PySem.W.Frag} : ∀ {α : Type} {A : Al α} {cs : List Bool} {vs : List V} {a : α}, AllT A cs → A.P S H vs a → Paired (ClOk (Fx0 K S H cl) [] H) (slotsOf A cs a) (vs.map some) := by
  intro α A cs vs a hd h
  induction hd generalizing vs with
  | nil => rw [show vs = [] from h]; exact .nil
  | yes _ ih =>
    obtain ⟨v, ws, rfl, p, q⟩ := h
    refine .cons (clc_ok (c := true) (Rp.shift _ p fun a z => ?_)) (ih q)
    rcases z with ⟨_, z⟩ | z | z
    · exact .inl z
    · exact z.elim
    · cases z
theorem En.startQ {K : PySem.W.Frag} {S : ASet} {H : Hp} {cl : XC → Addr} {A : Al α} {cs : List Bool} {vs : List V} {a : α} {N : List Str} (hS : ∀ x, S x → H x ≠ none) (hd : AllT A cs) (h : A.P S H vs a) :
    En (Fx0 K S H cl) (slotsOf A cs a ++ List.replicate (N.length - (slotsOf A cs a).length) .no) .nil [] () (L2.start N vs) H := by
  refine ⟨Keep.refl _ _, ⟨[], rfl, fun _ h => nomatch h⟩, List.nodup_nil, fun x h => ?_, rfl, ?_, (fun _ h => nomatch h), rfl, fun _ h => nomatch h⟩
  · rcases h with ⟨_, h⟩ | h | h
    · exact hS x h
    · exact h.elim
    · cases h
  · show Paired _ _ (vs.map some ++ List.replicate (N.length - vs.length) none)
    rw [al_len (cs := cs) h]
    exact paired_app (start_okQ hd h) (paired_no _)
theorem run_Q {ρ : Type} {K : PySem.W.Frag} {H : Hp} {A : Al α} {cs : List Bool} {R : Rp ρ} {f : α → Res Er ρ} {vs : List V} {Q : VK} {E : XK} {N : List Str} {t : TS} {m : α → Unit → Bk (Er × Unit) Empty Empty (ρ × Unit)} (cl : XC → Addr)
    (hd : AllT A cs) (hf : ∀ a, f a = runP (m a ())) (hsp : spQ A R f vs H Q E) (hb : ∀ S a, TSj (Fx0 K S H cl) (slotsOf A cs a ++ List.replicate (N.length - (slotsOf A cs a).length) .no) .nil t (m a) (fun x _ _ => x.elim) (fun x _ _ => x.elim) (rkV R)) :
    t { nx := fun _ H' => Q .non H', rt := Q } (start N vs) H := by
  obtain ⟨S, a, hS, hA, r, hr, k⟩ := hsp
  rw [hf a] at hr
  have hm : m a () = .rt (r, ()) := by
    cases z : m a () with
    | rt x => rw [z] at hr; cases hr; rfl
    | nx x => exact x.elim
    | bk x => exact x.elim
    | ct x => exact x.elim
    | ex x => rw [z] at hr; cases hr
    | bad => rw [z] at hr; cases hr
  refine hb S a [] () _ H _ (En.startQ hS hd hA) ?_
  rw [hm]
  rintro v H' ⟨h1, h2, h3⟩
  exact k v H' (fun b o e => h1.same b o (fun z => nomatch z) e) (R.shift h3 fun x hx => .inl hx)
theorem tj_methQ {γ β : Type} {Cn : Addr} {fl : Fl β} {A : Al γ} {E : XK} {m : Str} {ρ : Type} {R : Rp ρ} {f : β × γ → Res Er ρ} {to : TE} {t : TA} {mo : δ → Res (Er × δ) (β × δ)} {ma : δ → Res (Er × δ) (γ × δ)} {c : Bool} (hz : F.rz = false) (hm : fl.has m = false) (h : TEj F Γ Δ to mo (aIns Cn fl) c) (h2 : TAj F Γ Δ t ma A c) : TEj F Γ Δ (tMeth Cn m (spQ (.cons (aIns Cn fl) A) R f) [] E to t) (fun d => (mo d).bd fun o d => (ma d).bd fun a d => (f (o, a)).at d) R c := fun Ds d σ H Q e q => by
  refine h Ds d σ H _ e ((q.bind).mono fun o d1 H1 e1 k1 q1 v p => ?_)
  obtain ⟨a, dx, fs, rfl, ns, ha, hp⟩ := id p
  refine ⟨a, dx, fs, rfl, ha, Fl.no hp hm, h2 Ds d1 σ H1 _ e1 ((q1.bind).mono fun b d2 H2 e2 k2 q2 vs pv => ?_)⟩
  rw [List.append_nil]
  obtain ⟨r, hr, k⟩ := q2.res e2 hz
  exact ⟨soft c F Ds, (o, b), fun x hx => e2.live x (soft_le hx), ⟨_, _, rfl, (aIns Cn fl).keep p (k2.soft _), pv⟩, r, hr, fun v H' s pr => k H' s v pr⟩
end
end L2

/-! setdefault of a dict with places for keys -/
namespace L2
open PySem PySem.Spec PyProof.Rows RZ
section
variable {X : Cx} {pins : List (Addr × Obj)} {σ : St} {H : Hp} {s : Shared} {a b : Addr} {v : V} {r : Value} {A : Around} {E : Value → Shared → Prop} {kvs : List (List Key × V)} {k : List Key}
theorem d_setdT {Q : Value → Shared → Prop} (hu : A.units + 1 < cLine) (I : Inv X pins σ H s) (e : H a = some (.dT kvs)) (eb : H b = some (.tup (k.map kV))) (hl : kvs.length < sizeLine) (rv : RelV v r)
    (h1 : ∀ w w' s', valV kvs k = some w → Inv X pins σ H s' → RelV w w' → Q w' s') (h2 : ∀ s', valV kvs k = none → Inv X pins σ (upd H a (.dT (putK kvs k v))) s' → Q r s') :
    wpAny (model X.prog X.w) A (call (.builtin "dict.setdefault") [.ref a, .ref b, r]) Q E s := by
  obtain ⟨z, hd, xs, rel, dd⟩ := dt_of I.hok e
  have hz : xs.length ≤ sizeLine := by rw [← Paired.length rel]; exact z
  have hl2 : (putK kvs k v).length ≤ sizeLine := by have := length_putK kvs k v; omega
  have hr := rel.val k
  refine call_setdefault_heap (hsz := hz) (tupleKind_room_in1 hu) (key_of I.hok eb) hd dd (fun p hp => ?_) (fun hp h' dd' hs => ?_)
  · rw [hp] at hr
    cases hv : valV kvs k with
    | none => rw [hv] at hr; cases hr
    | some w => rw [hv] at hr; exact h1 w p.2 _ hv (I.tok _) hr
  · rw [hp] at hr
    cases hv : valV kvs k with
    | some w => rw [hv] at hr; cases hr
    | none =>
      refine h2 _ hv ?_
      obtain ⟨q, es, ep, hq, g2, g3, g4, _, g5⟩ := dd'
      refine d_write I (by rw [e]; exact True.intro) hs ⟨q, hq⟩ ⟨hl2, hd, _, (rel.put k eb rv).keeps fun c ys ec => ?_, q, es, ep, hq, g2, g3, g4, g5⟩
      rw [upd_ne (ne_of ec e (fun z => nomatch z))]
      exact ec
end
/-- d.setdefault(place, x) -/
def tSetdT (td ty tx : TE) : TE := fun σ H Q => td σ H fun x H1 => ∃ a, x = .ref a ∧ IsD H1 a ∧ ty σ H1 fun y H2 => tx σ H2 fun z H3 => ∃ (kvs : List (List Key × V)) (k : List Key) (b : Addr), H3 a = some (.dT kvs) ∧ y = .ref b ∧ H3 b = some (.tup (k.map kV)) ∧ kvs.length < sizeLine ∧
  (∀ v, valV kvs k = some v → Q v H3) ∧ (valV kvs k = none → Q z (upd H3 a (.dT (putK kvs k z))))
section
variable {X : Cx} {o e f : Expr} {td ty tx : TE} {apos cpos : Pos}
theorem pe_dsetdT (hu : X.A.units + 1 < cLine) (ho : PE X o td) (he : PE X e ty) (hf : PE X f tx) (m : M2 X o "setdefault" apos e f cpos) : PE X (.Call (.Attribute o "setdefault" apos) [e, f] [] cpos) (tSetdT td ty tx) := by
  refine ⟨fun pins s σ H Q I h => ?_⟩
  refine wpAny_Call_method m.base m.few m.line PySem.F.plainAttrs_dict PySem.F.slot_dict_setdefault PySem.F.type_dict_setdefault (thn (ho.run pins s σ H _ I h) fun u s1 ⟨x, H1, I1, rx, a, ex, d, q1⟩ => ?_)
  subst ex
  obtain rfl : u = Value.ref a := rx
  obtain ⟨t1, t2, _⟩ := isD_at I1 d
  refine ⟨t1, t2, ?_⟩
  rw [m.trees]
  refine Calls.callWith_builtin rfl (Calls.evalArgs_plain (Calls.spliced_cons (thn (he.run pins s1 σ H1 _ I1 q1) fun iv s2 ⟨y, H2, I2, ry, q2⟩ =>
    Calls.spliced_cons (thn (hf.run pins s2 σ H2 _ I2 q2) fun fv s3 ⟨z, H3, I3, rz, kvs, k, b, ha, ey, hb, hl, p1, p2⟩ => Calls.spliced_nil ?_))))
  subst ey
  cases (show iv = Value.ref b from ry)
  exact d_setdT hu I3 ha hb hl rz (fun w w' s' hv I4 rw' => ⟨w, H3, I4, rw', p1 w hv⟩) (fun s' hv I4 => ⟨z, _, I4, rz, p2 hv⟩)
end
noncomputable def sdJ {α δ : Type} (d : δ) (kvs : List (List Int × α)) (k : List Int) (a : α) (p : List (List Int × α) → δ) : Res (Er × δ) (α × δ) := @ite _ (kvs.length < sizeLine) (Classical.propDecidable _) (match dGet kvs k with
  | some x => .ok (x, d)
  | none => .ok (a, p (dPut kvs k a))) .bad
theorem sdJ_there {α δ : Type} {d : δ} {kvs : List (List Int × α)} {k : List Int} {a x : α} {p : List (List Int × α) → δ} (h : kvs.length < sizeLine) (e : dGet kvs k = some x) : sdJ d kvs k a p = .ok (x, d) := by
  unfold sdJ
  rw [if_pos h, e]
theorem sdJ_new {α δ : Type} {d : δ} {kvs : List (List Int × α)} {k : List Int} {a : α} {p : List (List Int × α) → δ} (h : kvs.length < sizeLine) (e : dGet kvs k = none) : sdJ d kvs k a p = .ok (a, p (dPut kvs k a)) := by
  unfold sdJ
  rw [if_pos h, e]
section
variable {υ δ α : Type} {F : Fx υ} {Γ : List Cl} {Δ : Dl δ}
theorem tj_setdef {i j : Nat} {R : Rp α} {g : δ → List (List Int × α)} {p : List (List Int × α) → δ → δ} {ty tx : TE} {my : δ → Res (Er × δ) (List Int × δ)} {mx : δ → Res (Er × δ) (α × δ)} {c c2 : Bool} (hd : R.Dat) (hi : Γ[i]? = some (.ow j)) (ix : Ix Δ j (oDT R) g p) (h2 : TEj F Γ Δ ty my (aTup aI) c) (h3 : TEj F Γ Δ tx mx R c2) :
    TEj F Γ Δ (tSetdT (tVar i) ty tx) (fun d => (my d).bd fun k d => (mx d).bd fun a d => sdJ d (g d) k a (fun l => p l d)) R true := fun Ds d σ H Q e q => by
  obtain ⟨s, h1, A, hA, rfl⟩ := e.get hi
  obtain ⟨A', h5, ps0, h60, _⟩ := ix.here e.own
  rw [hA] at h5
  cases h5
  refine ⟨_, h1, A, rfl, .inr ⟨ps0, .inl h60⟩, h2 Ds d σ H _ e ((q.bind).mono fun b d2 H2 e2 k2 q2 w pw => ?_)⟩
  refine h3 Ds d2 σ H2 _ e2 ((q2.bind).mono fun x d3 H3 e3 k3 q3 u pu => ?_)
  obtain ⟨A', h5, ps, h6, h7⟩ := ix.here e3.own
  rw [hA] at h5
  cases h5
  have nt : ∀ xs, H3 A ≠ some (.tup xs) := fun xs z => by rw [h6] at z; cases z
  have hm := List.mem_of_getElem? hA
  obtain ⟨z, rfl, hz⟩ := tup_key ((aTup aI).keep pw (k3.soft _))
  dsimp only at q3
  unfold sdJ at q3
  by_cases hl : (g d3).length < sizeLine
  · rw [if_pos hl] at q3
    refine ⟨ps, kI b, z, h6, rfl, hz, by rw [Paired.length h7]; exact hl, fun y hy => ?_, fun hy => ?_⟩
    · cases hg : dGet (g d3) b with
      | none => rw [(dget_rel h7).2 hg] at hy; cases hy
      | some x' =>
        obtain ⟨y', hy', py⟩ := (dget_rel h7).1 x' hg
        rw [hy'] at hy
        cases hy
        rw [hg] at q3
        exact (After.ok q3 e3) _ (hd _ _ _ _ _ py)
    · cases hg : dGet (g d3) b with
      | some x' =>
        obtain ⟨y', hy', py⟩ := (dget_rel h7).1 x' hg
        rw [hy'] at hy
        cases hy
      | none =>
        rw [hg] at q3
        have pu2 : R.P (soft true F Ds) H3 u x := hd _ _ _ _ _ pu
        have kk : Keep (soft true F Ds) H3 (upd H3 A (.dT (putK ps (kI b) u))) := (Keep.refl _ _).updS (softDs _ hm) nt
        obtain ⟨e4, k4⟩ := e3.put (b := dPut (g d3) b x) (o := .dT (putK ps (kI b) u)) ix hA ⟨_, upd_same, dput_rel (KvOk.keep h7 kk) (R.keep pu2 kk)⟩
        exact q3 _ e4 k4 _ (R.keep pu2 kk)
  · rw [if_neg hl] at q3
    exact q3.elim
end
end L2

/-! comprehensions with two generators -/
namespace L2
open PySem PySem.Spec PyProof.Rows RZ
theorem walkW {J : It} {n : Nat} {G : Hp → Prop} {Y : Nat → Hp → V → Hp → Prop} (w : Walk J n G Y) {body : V → Hp → (Hp → Prop) → Prop} {Qd : Hp → Prop} {H1 : Hp} (Pv : Nat → Hp → Prop) (h0 : Pv 0 H1) (hG : ∀ i H, i ≤ n → Pv i H → G H)
    (hs : ∀ i x H H', i < n → Pv i H → Y i H x H' → body x H' (Pv (i + 1))) (hd : ∀ H, Pv n H → Qd H) :
    ∃ W : Nat → Nat → Hp → Prop, (∃ m, W 0 m H1) ∧ ∀ i m H, W i m H → (J.stop i H ∧ Qd H) ∨ (J.go i H ∧ ∃ Nx : Hp → Prop, (∀ H', Nx H' → ∃ m', m' < m ∧ W (i + 1) m' H') ∧ ∀ x H', J.yld i H x H' → body x H' Nx) := by
  refine ⟨fun i m H => m = n - i ∧ i ≤ n ∧ Pv i H, ⟨n, by simp, Nat.zero_le _, h0⟩, ?_⟩
  rintro i m H ⟨rfl, hi, p⟩
  by_cases hlt : i < n
  · exact .inr ⟨w.goes i H hlt (hG i H hi p), Pv (i + 1), fun H' p' => ⟨n - (i + 1), by omega, rfl, hlt, p'⟩, fun x H' y => hs i x H H' hlt p (w.yields i H x H' hlt (hG i H hi p) y)⟩
  · have e : i = n := by omega
    subst e
    exact .inl ⟨w.stops H (hG i H hi p), hd H p⟩
section
variable {υ δ α α1 β : Type} {F : Fx υ} {Γ : List Cl} {Δ : Dl δ}
def lcC (f : α → δ → Res (Er × δ) (List β × δ)) : List α → δ → Res (Er × δ) (List β × δ)
  | [], d => .ok ([], d)
  | a :: r, d => (f a d).bd fun ys d => (lcC f r d).bd fun zs d => .ok (ys ++ zs, d)
noncomputable def lcD (f : α → δ → Res (Er × δ) (List β × δ)) (xs : List α) (d : δ) : Res (Er × δ) (List β × δ) := (lcC f xs d).bd fun ys d => @ite _ (ys.length ≤ sizeLine) (Classical.propDecidable _) (.ok (ys, d)) .bad
def fT2 (mt : α → δ → Res (Er × δ) (Bool × δ)) (mi : α → δ → Res (Er × δ) (List α1 × δ)) (mt1 : α → α1 → δ → Res (Er × δ) (Bool × δ)) (me : α → α1 → δ → Res (Er × δ) (β × δ)) (a : α) (d : δ) : Res (Er × δ) (List β × δ) := (mt a d).bd fun b d => if b = true then (mi a d).bd fun xs d => lcB (fT (mt1 a) (me a)) xs d else .ok ([], d)
theorem drop_one {γ : Type} {xs : List γ} {i : Nat} {a : γ} (h : xs[i]? = some a) : xs.drop i = a :: xs.drop (i + 1) := by
  have hl := List.getElem?_eq_some_iff.mp h
  rw [← hl.2, List.drop_eq_getElem_cons hl.1]
theorem tn_lc2 {wi wi1 : TI} {g g1 : TG} {tt tt1 : TT} {te : TE} {vs vs1 : List Nat} {mi : δ → Res (Er × δ) (List α × δ)} {R : Rp α} {R1 : Rp α1} {Re : Rp β} {c c1 c2 : Bool} {Γw : List Cl} {Γb : α → List Cl} {Γw1 : α → List Cl} {Γb1 : α → α1 → List Cl} {is is1 : List Nat}
    {mt : α → δ → Res (Er × δ) (Bool × δ)} {mi1 : α → δ → Res (Er × δ) (List α1 × δ)} {mt1 : α → α1 → δ → Res (Er × δ) (Bool × δ)} {me : α → α1 → δ → Res (Er × δ) (β × δ)}
    (hz : F.rz = false) (hcc : c = c2 ∨ R.Dat) (hcc1 : c1 = c2 ∨ R1.Dat) (hw : Γw = vs.foldr (fun i g => g.set i .no) Γ) (hi : TIj F Γ Δ wi mi R c) (hg : ∀ X, TGj { F with X := X } c2 Γw Δ g R Γb is) (hv : ∀ i ∈ is, i ∈ vs)
    (ht : ∀ X a, TTj { F with X := X } (Γb a) Δ tt (mt a)) (hi1 : ∀ X a, TIj { F with X := X } (Γb a) Δ wi1 (mi1 a) R1 c1) (hw1 : ∀ a, Γw1 a = vs1.foldr (fun i g => g.set i .no) (Γb a)) (hg1 : ∀ X a, TGj { F with X := X } c2 (Γw1 a) Δ g1 R1 (Γb1 a) is1) (hv1 : ∀ i ∈ is1, i ∈ vs1)
    (ht1 : ∀ X a a1, TTj { F with X := X } (Γb1 a a1) Δ tt1 (mt1 a a1)) (he : ∀ X a a1, TEj { F with X := X } (Γb1 a a1) Δ te (me a a1) Re c2) :
    TNj F Γ Δ (tLc2 wi g tt wi1 g1 tt1 te vs vs1) (fun d => (mi d).bd fun xs d => lcD (fT2 mt mi1 mt1 me) xs d) Re c2 := fun Ds d σ H Q e q => by
  subst hw
  refine hi Ds d σ H _ e ((q.bind).mono fun xs d1 H1 e1 k1 q1 J ok => ?_)
  intro D nD
  obtain ⟨G, g0, gk, gs, gw⟩ := ok.ex
  dsimp only at q1
  obtain ⟨zs, df, hC, hlen, q2⟩ : ∃ zs df, lcC (fT2 mt mi1 mt1 me) xs d1 = .ok (zs, df) ∧ zs.length ≤ sizeLine ∧ After F Γ Δ Ds σ H1 (.ok (zs, df)) (fun a _ H' => ∀ D vs, H D = none → H' D = some (.lst vs) → Paired (Re.P (fun b => soft c2 F Ds b ∨ b = D) H') vs a → Q (.ref D) H') := by
    unfold lcD at q1
    cases z : lcC (fT2 mt mi1 mt1 me) xs d1 with
    | bad => rw [z] at q1; exact q1.elim
    | ex x => rw [z] at q1; exact absurd q1.1 (by rw [hz]; exact fun z => nomatch z)
    | ok p =>
      rw [z] at q1
      obtain ⟨zs, df⟩ := p
      rw [Res.ok_bd] at q1
      by_cases hl : zs.length ≤ sizeLine
      · rw [if_pos hl] at q1
        exact ⟨zs, df, rfl, hl, q1⟩
      · rw [if_neg hl] at q1
        exact q1.elim
  have hDs : D ∉ Ds := fun z => e1.live D (.inr (.inr z)) nD
  have h0D : F.H0 D = none := e1.k0.free nD
  have nDH : H D = none := k1.free nD
  have sD : ∀ a, soft c (F.addX D) Ds a → soft c F Ds a ∨ H1 a = none := fun a h => (soft_addX.mp h).imp id fun (z : a = D) => by rw [z]; exact nD
  refine walkW (gw (soft c (F.addX D) Ds)) (fun i G' => ∃ d' ys ws, En (F.addX D) Γ Δ Ds d' σ G' ∧ Keep (· ∈ Ds) H1 G' ∧ G' D = some (.lst ws) ∧ Paired (Re.P (soft c2 (F.addX D) Ds) G') ws ys ∧ G (soft c (F.addX D) Ds) G' ∧ ∃ zr, lcC (fT2 mt mi1 mt1 me) (xs.drop i) d' = .ok (zr, df) ∧ zs = ys ++ zr)
    ⟨d1, [], [], e1.toX nD, (Keep.refl _ _).new nD, upd_same, .nil, gk _ _ _ (gs _ _ _ g0 sD) ((Same.new0 nD).keepS _), zs, by rw [List.drop_zero]; exact hC, rfl⟩ (fun i G' hi h => ?_) ?_ ?_
  · obtain ⟨d', ys, ws, h1, h2, h3, h4, h5, h6⟩ := h
    exact h5
  · rintro i x G1 G2 hi ⟨d', ys, ws, eX, kX, hD, hp, hG, zr, hq, hzs⟩ ⟨s12, a, ha, pa⟩
    have eX2 := eX.same s12
    rw [drop_one ha] at hq
    unfold lcC at hq
    cases z1 : fT2 mt mi1 mt1 me a d' with
    | bad => rw [z1] at hq; cases hq
    | ex x => rw [z1] at hq; cases hq
    | ok p =>
      obtain ⟨y1, d3⟩ := p
      rw [z1, Res.ok_bd] at hq
      cases z2 : lcC (fT2 mt mi1 mt1 me) (xs.drop (i + 1)) d3 with
      | bad => rw [z2] at hq; cases hq
      | ex x => rw [z2] at hq; cases hq
      | ok p2 =>
        obtain ⟨z3, d4⟩ := p2
        rw [z2, Res.ok_bd] at hq
        cases hq
        refine hg _ Ds d' (wipe σ vs) G2 x a _ (eX2.wipe vs) (show R.P (soft c2 (F.addX D) Ds) G2 x a from hcc.elim (fun z => z ▸ pa) fun z => z _ _ _ _ _ pa) fun σ2 e2 w2 => ⟨by rw [w2 vs hv, wipe_wipe], ?_⟩
        refine ht _ a Ds d' σ2 G2 _ e2 ?_
        unfold fT2 at z1
        cases z : mt a d' with
        | bad => rw [z] at z1; cases z1
        | ex x => rw [z] at z1; cases z1
        | ok b =>
          obtain ⟨b, d5⟩ := b
          rw [z, Res.ok_bd] at z1
          intro G3 e3 k3
          cases b with
          | false =>
            rw [if_neg (by decide)] at z1
            cases z1
            rw [if_neg (by decide)]
            have k13 : Keep (· ∈ Ds) G1 G3 := (s12.keepS _).trans k3
            exact ⟨_, ys, ws, eX2.step k3 e3.own, kX.trans k13, k13.same _ _ hDs hD, Paired.mapP hp fun _ _ z => Re.keep z (k13.soft _), gk _ _ _ hG (k13.soft _), z3, z2, hzs⟩
          | true =>
            rw [if_pos rfl] at z1
            rw [if_pos rfl]
            refine hi1 _ a Ds d5 σ2 G3 _ e3 ?_
            cases z4 : mi1 a d5 with
            | bad => rw [z4] at z1; cases z1
            | ex x => rw [z4] at z1; cases z1
            | ok p4 =>
              obtain ⟨xs1, d6⟩ := p4
              rw [z4, Res.ok_bd] at z1
              intro G4 e4 k4 J1 ok1
              obtain ⟨G', g0', gk', gs', gw'⟩ := ok1.ex
              have k14 : Keep (· ∈ Ds) G1 G4 := ((s12.keepS _).trans k3).trans k4
              refine walkW (gw' (soft c1 (F.addX D) Ds)) (fun j G5 => ∃ d7 y7 w7, En (F.addX D) (Γb a) Δ Ds d7 σ2 G5 ∧ En (F.addX D) Γ Δ Ds d7 σ G5 ∧ Keep (· ∈ Ds) H1 G5 ∧ G5 D = some (.lst w7) ∧ Paired (Re.P (soft c2 (F.addX D) Ds) G5) w7 y7 ∧ G (soft c (F.addX D) Ds) G5 ∧ G' (soft c1 (F.addX D) Ds) G5 ∧ ∃ zr7, lcB (fT (mt1 a) (me a)) (xs1.drop j) d7 = .ok (zr7, d3) ∧ y7 ++ zr7 = ys ++ y1)
                ⟨d6, ys, ws, e4, eX2.step (k3.trans k4) e4.own, kX.trans k14, k14.same _ _ hDs hD, Paired.mapP hp fun _ _ z => Re.keep z (k14.soft _), gk _ _ _ hG (k14.soft _), g0', y1, by rw [List.drop_zero]; exact z1, rfl⟩ (fun j G5 hj h => ?_) ?_ ?_
              · obtain ⟨d7, y7, w7, h1, h2, h3, h4, h5, h6, h7, h8⟩ := h
                exact h7
              · rintro j x1 G5 G6 hj ⟨d7, y7, w7, eb, eo, kX7, hD7, hp7, hG7, hG7', zr7, hq7, hy7⟩ ⟨s56, a1, ha1, pa1⟩
                have eb2 := eb.same s56
                have eo2 := eo.same s56
                rw [drop_one ha1] at hq7
                unfold lcB at hq7
                cases z8 : fT (mt1 a) (me a) a1 d7 with
                | bad => rw [z8] at hq7; cases hq7
                | ex x => rw [z8] at hq7; cases hq7
                | ok p8 =>
                  obtain ⟨o, d8⟩ := p8
                  rw [z8, Res.ok_bd] at hq7
                  cases z9 : lcB (fT (mt1 a) (me a)) (xs1.drop (j + 1)) d8 with
                  | bad => rw [z9] at hq7; cases hq7
                  | ex x => rw [z9] at hq7; cases hq7
                  | ok p9 =>
                    obtain ⟨z10, d11⟩ := p9
                    rw [z9, Res.ok_bd] at hq7
                    cases hq7
                    refine hg1 _ a Ds d7 (wipe σ2 vs1) G6 x1 a1 _ (by rw [hw1 a]; exact eb2.wipe vs1) (show R1.P (soft c2 (F.addX D) Ds) G6 x1 a1 from hcc1.elim (fun z => z ▸ pa1) fun z => z _ _ _ _ _ pa1) fun σ3 e5 w5 => ⟨by rw [w5 vs1 hv1, wipe_wipe], ?_⟩
                    refine ht1 _ a a1 Ds d7 σ3 G6 _ e5 ?_
                    unfold fT at z8
                    cases zz : mt1 a a1 d7 with
                    | bad => rw [zz] at z8; cases z8
                    | ex x => rw [zz] at z8; cases z8
                    | ok b1 =>
                      obtain ⟨b1, d12⟩ := b1
                      rw [zz, Res.ok_bd] at z8
                      intro G7 e6 k6
                      cases b1 with
                      | false =>
                        rw [if_neg (by decide)] at z8
                        cases z8
                        rw [if_neg (by decide)]
                        have k57 : Keep (· ∈ Ds) G5 G7 := (s56.keepS _).trans k6
                        exact ⟨_, y7, w7, eb2.step k6 e6.own, eo2.step k6 e6.own, kX7.trans k57, k57.same _ _ hDs hD7, Paired.mapP hp7 fun _ _ z => Re.keep z (k57.soft _), gk _ _ _ hG7 (k57.soft _), gk' _ _ _ hG7' (k57.soft _), z10, z9, hy7⟩
                      | true =>
                        rw [if_pos rfl] at z8
                        rw [if_pos rfl]
                        refine he _ a a1 Ds d12 σ3 G7 _ e6 ?_
                        cases z13 : me a a1 d12 with
                        | bad => rw [z13] at z8; cases z8
                        | ex x => rw [z13] at z8; cases z8
                        | ok p13 =>
                          obtain ⟨y, d13⟩ := p13
                          rw [z13, Res.ok_bd] at z8
                          cases z8
                          intro G8 e7 k7 v hv8
                          have k58 : Keep (· ∈ Ds) G5 G8 := ((s56.keepS _).trans k6).trans k7
                          have hD8 := k58.same _ _ hDs hD7
                          have hp8 := Paired.mapP hp7 fun _ _ z => Re.keep z (k58.soft _)
                          have nt : ∀ xs, G8 D ≠ some (.tup xs) := fun xs z => by rw [hD8] at z; cases z
                          have kD : ∀ c, Keep (soft c (F.addX D) Ds) G8 (upd G8 D (.lst (w7 ++ [v]))) := fun c => (Keep.refl _ _).updS (soft_addX.mpr (.inr rfl)) nt
                          refine ⟨w7, hD8, ?_, _, y7 ++ [y], w7 ++ [v], (eb2.step (k6.trans k7) e7.own).putX (.inr rfl) h0D nt hDs, (eo2.step (k6.trans k7) e7.own).putX (.inr rfl) h0D nt hDs, (kX7.trans k58).put nD, upd_same, Paired.mapP (Paired.snoc hp8 hv8) fun _ _ z => Re.keep z (kD _), gk _ _ _ (gk _ _ _ hG7 (k58.soft _)) (kD _), gk' _ _ _ (gk' _ _ _ hG7' (k58.soft _)) (kD _), z10, z9, by rw [List.append_assoc]; exact hy7⟩
                          have l1 := congrArg List.length hy7
                          have l2 := congrArg List.length hzs
                          simp only [List.length_append, Option.toList_some, List.length_cons, List.length_nil] at l1 l2
                          rw [Paired.length hp7]
                          omega
              · rintro G5 ⟨d7, y7, w7, eb, eo, kX7, hD7, hp7, hG7, hG7', zr7, hq7, hy7⟩
                rw [List.drop_length] at hq7
                cases hq7
                refine ⟨_, y7, w7, eo, kX7, hD7, hp7, hG7, z3, z2, ?_⟩
                rw [List.append_nil] at hy7
                rw [hzs, hy7, List.append_assoc]
  · rintro G' ⟨d', ys, ws, eX, kX, hD, hp, hG, zr, hq, hzs⟩
    rw [List.drop_length] at hq
    cases hq
    rw [List.append_nil] at hzs
    subst hzs
    refine q2 G' eX.ofX kX D ws nDH hD (Paired.mapP hp fun _ _ z => Re.shift z fun b hb => .inl (soft_addX.mpr hb))
end
end L2

/-! calls by names in another order -/
namespace L2
open PySem PySem.Spec PyProof.Rows RZ
def kwP (n : Nat) (is : List Nat) {α : Type} (vs zs : List α) : List α := match vs with
  | [] => if zs.length = n then is.filterMap (fun i => zs[i]?) else []
  | _ :: _ => []
theorem kwP_len {α : Type} {n : Nat} {is : List Nat} {us ws : List α} {m : Nat} (h : (kwP n is us ws).length = m + 1) : us = [] ∧ ws.length = n := by
  cases us with
  | cons a r => cases h
  | nil =>
    by_cases e : ws.length = n
    · exact ⟨rfl, e⟩
    · unfold kwP at h
      rw [if_neg e] at h
      cases h
theorem vals_at {zs : List V} {ws : List Value} (k : Vals zs ws) : ∀ i : Nat, (zs[i]? = none ∧ ws[i]? = none) ∨ ∃ v u, zs[i]? = some v ∧ ws[i]? = some u ∧ RelV v u := by
  induction k with
  | nil => exact fun i => .inl ⟨rfl, rfl⟩
  | cons a _ ih =>
    intro i
    cases i with
    | zero => exact .inr ⟨_, _, rfl, rfl, a⟩
    | succ i => exact ih i
theorem kwP_rel {n : Nat} {is : List Nat} {vs : List V} {us : List Value} {zs : List V} {ws : List Value} (h : Vals vs us) (k : Vals zs ws) : Vals (kwP n is vs zs) (kwP n is us ws) := by
  cases h with
  | cons _ _ => exact .nil
  | nil =>
    show Vals (if zs.length = n then is.filterMap (fun i => zs[i]?) else []) (if ws.length = n then is.filterMap (fun i => ws[i]?) else [])
    rw [k.length]
    split
    · induction is with
      | nil => exact .nil
      | cons i is ih =>
        rcases vals_at k i with ⟨e1, e2⟩ | ⟨v, u, e1, e2, r⟩
        · rw [List.filterMap_cons_none e1, List.filterMap_cons_none e2]; exact ih
        · rw [List.filterMap_cons_some e1, List.filterMap_cons_some e2]; exact .cons r ih
    · exact .nil
section
variable {υ δ α γ β : Type} {F : Fx υ} {Γ : List Cl} {Δ : Dl δ}
theorem tj_callKP {A : Al γ} {A' : Al α} {R : Rp β} {f : α → Res Er β} {E : XK} {t : TA} {m : δ → Res (Er × δ) (γ × δ)} {c : Bool} {n : Nat} {is : List Nat} {pm : γ → α} (hz : F.rz = false) (hp : ∀ S H vs a, A.P S H vs a → A'.P S H (kwP n is [] vs) (pm a)) (h : TAj F Γ Δ t m A c) :
    TEj F Γ Δ (tCallK (spP A' R f) (kwP n is) E tNil t) (fun d => (m d).bd fun a d => (f (pm a)).at d) R true := fun Ds d σ H Q e q => by
  refine h Ds d σ H _ e ((q.bind).mono fun a d1 H1 e1 k1 q1 vs p => ?_)
  obtain ⟨r, hr, k⟩ := q1.res e1 hz
  exact ⟨pm a, hp _ _ _ _ (A.shift p (fun _ z => z.elim)), r, hr, fun v H' s hR => k H' s v (hR _ e1.live)⟩
end
end L2

/-! l.index(i) of ints -/
namespace L2
open PySem PySem.Spec PyProof.Rows RZ
def gIdx (xs : List Int) (a : Int) : Option Int := Option.map (fun j : Nat => (j : Int)) (xs.findIdx? fun x => decide (x = a))
theorem gIdx_some {xs : List Int} {a c : Int} (h : gIdx xs a = some c) : ∃ j : Nat, c = (j : Int) ∧ xs[j]? = some a ∧ ∀ m x, m < j → xs[m]? = some x → x ≠ a := by
  unfold gIdx at h
  obtain ⟨j, hj, rfl⟩ := Option.map_eq_some_iff.mp h
  obtain ⟨hl, h1, h2⟩ := List.findIdx?_eq_some_iff_getElem.mp hj
  refine ⟨j, rfl, ?_, fun m x hm hx e => ?_⟩
  · rw [List.getElem?_eq_getElem hl]
    exact congrArg some (of_decide_eq_true h1)
  · obtain ⟨hm2, e2⟩ := List.getElem?_eq_some_iff.mp hx
    have := h2 m hm
    rw [e2, e] at this
    simp at this
section
variable {υ δ : Type} {F : Fx υ} {Γ : List Cl} {Δ : Dl δ}
theorem tj_index {to : TE} {t : TA} {mo : δ → Res (Er × δ) (List Int × δ)} {ma : δ → Res (Er × δ) ((Int × Unit) × δ)} {c c2 : Bool} (h : TEj F Γ Δ to mo (aLst F.K aI) c) (h2 : TAj F Γ Δ t ma (.cons aI .nil) c2) :
    TEj F Γ Δ (tBM F.K "list" (rIndex F.K) to t) (fun d => (mo d).bd fun xs d => (ma d).bd fun a d => optAt (gIdx xs a.1) d) aI true := fun Ds d σ H Q e q => by
  refine h Ds d σ H _ e ((q.bind).mono fun xs d1 H1 e1 k1 q1 v pv => ?_)
  obtain ⟨A, vs, rfl, ha, hp⟩ := id pv
  refine ⟨.inl ⟨rfl, _, ha.sq⟩, h2 Ds d1 σ H1 _ e1 ((q1.bind).mono fun a d2 H2 e2 k2 q2 ws pw => ?_)⟩
  obtain ⟨w, us, rfl, p0, rfl⟩ := pw
  obtain rfl : w = .int a.1 := p0
  obtain ⟨A', vs', e', ha', hp'⟩ := (aLst F.K aI).keep pv (k2.soft _)
  cases e'
  have ev := paired_ints hp'
  subst ev
  dsimp only at q2
  cases hg : gIdx xs a.1 with
  | none => rw [hg] at q2; exact q2.elim
  | some i =>
    rw [hg] at q2
    obtain ⟨j, rfl, h1, hlt⟩ := gIdx_some hg
    refine ⟨A, _, _, j, .int a.1, rfl, rfl, ha'.sq, rfl, ?_, by rw [List.getElem?_map, h1]; rfl, ?_, fun m z hm hz => ?_, After.ok q2 e2 _ rfl⟩
    · rw [List.all_map]
      exact List.all_eq_true.mpr fun _ _ => rfl
    · show decide (a.1 = a.1) = true
      exact decide_eq_true rfl
    · rw [List.getElem?_map] at hz
      obtain ⟨x, hx, rfl⟩ := Option.map_eq_some_iff.mp hz
      show decide (x = a.1) = false
      exact decide_eq_false (hlt m x hm hx)
end
/-! math.isqrt -/
def rIsq : List V → Hp → VK → Prop := fun vs H Q => ∃ a : Int, vs = [.int a] ∧ 0 ≤ a ∧ a < 2 ^ 64 ∧ Q (.int ((Float64.isqrt a.toNat : Nat) : Int)) H
theorem cr_isqrt {X : Cx} : CallR X (.builtin "math.isqrt") rIsq := by
  intro pins s σ H vs us Q I r h
  obtain ⟨a, rfl, h0, h1, q⟩ := h
  cases r with
  | cons r1 r2 =>
    cases r2
    obtain ⟨t, rfl⟩ := r1
    exact PySem.W.mg_isqrt h0 h1 ⟨.int _, H, I.tok _, ⟨_, rfl⟩, q⟩
noncomputable def gIsq (a : Int × Unit) : Option Int := @ite _ (0 ≤ a.1 ∧ a.1 < 2 ^ 64) (Classical.propDecidable _) (some ((Float64.isqrt a.1.toNat : Nat) : Int)) none
theorem gIsq_ok {a : Int} {u : Unit} (h : 0 ≤ a ∧ a < 2 ^ 64) : gIsq (a, u) = some ((Float64.isqrt a.toNat : Nat) : Int) := if_pos h
theorem cb_isqrt : CbT rIsq (.cons aI .nil) gIsq aI := fun T H vs a Q hT pa ⟨c, hc, k⟩ => by
  obtain ⟨v, ws, rfl, pv, rfl⟩ := pa
  obtain rfl : v = .int a.1 := pv
  unfold gIsq at hc
  by_cases h : 0 ≤ a.1 ∧ a.1 < 2 ^ 64
  · rw [if_pos h] at hc
    cases hc
    exact ⟨a.1, rfl, h.1, h.2, k _ H (Same.refl _) rfl⟩
  · rw [if_neg h] at hc
    cases hc
/-! x *= e -/
theorem iop_mulA {X : Cx} : OpR X (inplaceOp .Mult) (rI (fun i j => CMul i j ∨ CMulW i j) fun i j => .int (i * j)) := opI fun _ _ _ _ _ _ _ hc q => imul_int q (hc.elim (fun h => h.ok) fun h => h.ok)
theorem ip_mulA {X : Cx} : PIp X .Mult (rI (fun i j => CMul i j ∨ CMulW i j) fun i j => .int (i * j)) := iop_mulA
theorem ipt_mul : IpT (rI (fun i j => CMul i j ∨ CMulW i j) fun i j => .int (i * j)) gMul := fun x y H Q ⟨c, hc, k⟩ => by
  unfold gMul at hc
  split at hc
  · rename_i h
    cases hc
    exact ⟨x, y, rfl, rfl, h, k⟩
  · cases hc
end L2

/-! ranges with ends of any size -/
namespace L2
open PySem PySem.Spec PyProof.Rows RZ
theorem turn_long {P : Program} {w : World} {K : PySem.W.Frag} {tg : Expr} (it : Addr) (lo : Int) (n : Nat) : Turn P w K tg (Itr lo n) [it] it (fun i h => IsLongIter h it (lo + (i : Nat) * 1) ((n : Int) - (i : Nat)) 1) where
  mem := by simp
  obj := fun i h st b hb => by
    have e : b = it := by simpa using hb
    subst e
    exact ⟨_, st, fun v z => by
      have z' : Data.fields _ = Data.cell v := z
      cases z'⟩
  keep := fun i h h' st k => k it (by simp) _ st
  item := by
    intro X hP hw hK hc i pins s σ H E I hf st hg
    subst hP hw hK
    obtain ⟨f0, f1, f2, f3, f4, f5⟩ := hf it (by simp)
    have W := Walks.longrange (prog := X.prog) (w := X.w) (I.ok.hd hc) it lo 1 n
    refine W.item i s _ _ hg st fun v h' tk hv st' kk => ?_
    obtain ⟨t, rfl⟩ := hv
    have I1 : Inv X pins σ H { s with heap := h', toks := tk } := I.turned (fun b o hb e => kk b o (by simpa using hb) e) f0 f1 f3 f4 f5
    refine ⟨_, rfl, go_of (s := { s with heap := h', toks := tk }) (n := "longrange_iterator") st' rfl rfl (by decide) ⟨.int (lo + i), H, I1, ⟨t, ?_⟩, ⟨rfl, rfl⟩, st', fun b hb => (hf b hb).1⟩⟩
    rw [Int.mul_one]
  done := by
    intro X hP hw hK hc i pins s σ H E I hf st hg
    subst hP hw hK
    obtain ⟨f0, f1, f2, f3, f4, f5⟩ := hf it (by simp)
    exact wpAny_pyNext_long_end (I.ok.hd hc) st (by have : n ≤ i := hg; omega) fun h' eb => ⟨rfl, I.turned (t' := s.toks) (fun b o hb e => eb b o hb e) f0 f1 f3 f4 f5⟩
  self := fun _ _ _ _ _ st h => wpAny_pyIter_longiter st h
section
variable {X : Cx} {tg : Expr}
theorem range_itA {pins : List (Addr × Obj)} {σ : St} {H : Hp} {s : Shared} {R : It → Hp → Prop} {E : Value → Shared → Prop} {lo hi : Int} {t u v : Tok} {tk : Nat} (I : Inv X pins σ H s)
    (q : R (Itr lo (hi - lo).toNat) H) : wpAny (model X.prog X.w) X.A (pyIter (.ref s.heap.objs.size)) (PIE X pins σ tg R) E { s with heap := s.heap.push { cls := .type "range", data := .fields #[.int lo t, .int hi u, .int 1 v] }, toks := tk } := by
  have I1 : Inv X pins σ H { s with heap := s.heap.push { cls := .type "range", data := .fields #[.int lo t, .int hi u, .int 1 v] }, toks := tk } := I.kept fun b o e => Heap.get?_push_of_some _ e
  have fp : ∀ b ∈ [(s.heap.push { cls := .type "range", data := .fields #[.int lo t, .int hi u, .int 1 v] }).objs.size], FpOk X pins H b := fun b hb => by
    have e : b = (s.heap.push { cls := .type "range", data := .fields #[.int lo t, .int hi u, .int 1 v] }).objs.size := by simpa using hb
    subst e
    exact I1.fpOk (Nat.le_refl _) (I1.hok.fresh (Nat.le_refl _))
  have e1 : lo + ((0 : Nat) : Int) * 1 = lo := by simp
  have e2 : (((hi - lo).toNat : Nat) : Int) - ((0 : Nat) : Int) = Builtin.Range.rangeSize lo hi 1 := by rw [rangeSize_one]; split <;> omega
  by_cases hs : Builtin.Range.small lo hi 1 = true
  · refine wpAny_pyIter_range (IsRange.new ..) hs ?_
    refine ⟨_, [(s.heap.push { cls := .type "range", data := .fields #[.int lo t, .int hi u, .int 1 v] }).objs.size], _, _, H, rfl, I1.kept (t' := tk) fun b o e => Heap.get?_push_of_some _ e, turn_range _ lo (hi - lo).toNat, ?_, fp, q⟩
    show IsRangeIter _ _ (lo + ((0 : Nat) : Int) * 1) ((((hi - lo).toNat : Nat) : Int) - ((0 : Nat) : Int)) 1
    rw [e1, e2]
    exact Heap.get?_push_size _ rfl
  · refine wpAny_pyIter_longrange (IsRange.new ..) (by simpa using hs) ?_
    refine ⟨_, [(s.heap.push { cls := .type "range", data := .fields #[.int lo t, .int hi u, .int 1 v] }).objs.size], _, _, H, rfl, I1.kept (t' := tk) fun b o e => Heap.get?_push_of_some _ e, turn_long _ lo (hi - lo).toNat, ?_, fp, q⟩
    show IsLongIter _ _ (lo + ((0 : Nat) : Int) * 1) ((((hi - lo).toNat : Nat) : Int) - ((0 : Nat) : Int)) 1
    rw [e1, e2]
    exact Heap.get?_push_size _ rfl
def iRgA1 (ta : TA) : TI := fun σ H R => ta σ H fun vs H1 => ∃ j : Int, vs = [.int j] ∧ R (Itr 0 j.toNat) H1
def iRgA2 (ta : TA) : TI := fun σ H R => ta σ H fun vs H1 => ∃ i j : Int, vs = [.int i, .int j] ∧ R (Itr i (j - i).toNat) H1
theorem pi_rangeA1 {a : Expr} {ta : TA} {p pos : Pos} (hg : Gl X "range") (hm : X.mg "range" = none) (ha : PA X [a] ta) (hs : starEach [a] X.env = [(false, eval a X.env)] := by rfl) : PI X tg (.Call (.Name "range" p) [a] [] pos) (iRgA1 ta) := by
  refine ⟨fun pins s σ H R I h => ?_⟩
  refine Call_ (ld_blt I hg hm boot_range (PyProof.Rows.callWith_type1 (thn (ha.run pos pins s σ H _ I h) fun us s1 ⟨vs, H1, I1, r1, q1⟩ => ?_) hs rfl))
  obtain ⟨j, e, q⟩ := q1
  subst e
  cases r1 with
  | cons r rr =>
    cases rr
    obtain ⟨t, rfl⟩ := r
    exact call_range_1 (range_itA I1 (by simpa using q))
theorem pi_rangeA2 {a b : Expr} {ta : TA} {p pos : Pos} (hg : Gl X "range") (hm : X.mg "range" = none) (ha : PA X [a, b] ta) (hs : starEach [a, b] X.env = [(false, eval a X.env), (false, eval b X.env)] := by rfl) (hs2 : starEach [b] X.env = [(false, eval b X.env)] := by rfl) :
    PI X tg (.Call (.Name "range" p) [a, b] [] pos) (iRgA2 ta) := by
  refine ⟨fun pins s σ H R I h => ?_⟩
  refine Call_ (ld_blt I hg hm boot_range (PyProof.Rows.callWith_type1 (thn (ha.run pos pins s σ H _ I h) fun us s1 ⟨vs, H1, I1, r1, q1⟩ => ?_) (by rw [hs, hs2]) (by rw [hs2]; rfl)))
  obtain ⟨i, j, e, q⟩ := q1
  subst e
  cases r1 with
  | cons r rr =>
    cases rr with
    | cons r' rr =>
      cases rr
      obtain ⟨t, rfl⟩ := r
      obtain ⟨t', rfl⟩ := r'
      exact call_range_2 (range_itA I1 q)
end
section
variable {υ δ α β γ τ κ ρ : Type} {F : Fx υ} {Γ Γ' : List Cl} {Δ : Dl δ}
theorem ti_rgA1 {t : TA} {m : δ → Res (Er × δ) ((Int × Unit) × δ)} {c : Bool} (h : TAj F Γ Δ t m (.cons aI .nil) c) : TIj F Γ Δ (iRgA1 t) (fun d => (m d).bd fun a d => .ok (rng 0 a.1.toNat, d)) aI c := fun Ds d σ H Q e q => by
  refine h Ds d σ H _ e ((q.bind).mono fun a d1 H1 e1 k1 q1 vs pv => ?_)
  obtain ⟨v, ws, rfl, rfl, rfl⟩ := pv
  exact ⟨_, rfl, After.ok q1 e1 _ itok_rng⟩
theorem ti_rgA2 {t : TA} {m : δ → Res (Er × δ) ((Int × Int × Unit) × δ)} {c : Bool} (h : TAj F Γ Δ t m (.cons aI (.cons aI .nil)) c) : TIj F Γ Δ (iRgA2 t) (fun d => (m d).bd fun a d => .ok (rng a.1 (a.2.1 - a.1).toNat, d)) aI c := fun Ds d σ H Q e q => by
  refine h Ds d σ H _ e ((q.bind).mono fun a d1 H1 e1 k1 q1 vs pv => ?_)
  obtain ⟨v, ws, rfl, rfl, w, us, rfl, rfl, rfl⟩ := pv
  exact ⟨_, _, rfl, After.ok q1 e1 _ itok_rng⟩
end
end L2

/-! tuples of four; enumerate of a list -/
namespace L2
open PySem PySem.Spec PyProof.Rows RZ
def aT4 {α β γ ζ : Type} (R : Rp α) (Q : Rp β) (T : Rp γ) (Z : Rp ζ) : Rp (α × β × γ × ζ) := ⟨fun S H v x => ∃ a v1 v2 v3 v4, v = .ref a ∧ H a = some (.tup [v1, v2, v3, v4]) ∧ R.P S H v1 x.1 ∧ Q.P S H v2 x.2.1 ∧ T.P S H v3 x.2.2.1 ∧ Z.P S H v4 x.2.2.2,
  fun ⟨a, v1, v2, v3, v4, e, h, p, q, r, z⟩ k => ⟨a, v1, v2, v3, v4, e, k.tup _ _ h, R.keep p k, Q.keep q k, T.keep r k, Z.keep z k⟩, fun ⟨a, v1, v2, v3, v4, e, h, p, q, r, z⟩ k => ⟨a, v1, v2, v3, v4, e, h, R.shift p k, Q.shift q k, T.shift r k, Z.shift z k⟩⟩
theorem aT4.dat {α β γ ζ : Type} {R : Rp α} {Q : Rp β} {T : Rp γ} {Z : Rp ζ} (d : R.Dat) (d2 : Q.Dat) (d3 : T.Dat) (d4 : Z.Dat) : (aT4 R Q T Z).Dat := fun _ _ _ _ _ ⟨a, v1, v2, v3, v4, e, h, p, q, r, z⟩ => ⟨a, v1, v2, v3, v4, e, h, d _ _ _ _ _ p, d2 _ _ _ _ _ q, d3 _ _ _ _ _ r, d4 _ _ _ _ _ z⟩
section
variable {υ δ α β γ ζ τ κ ρ : Type} {F : Fx υ} {Γ Γ' : List Cl} {Δ : Dl δ}
theorem nn_t4 {R : Rp α} {Q : Rp γ} {T : Rp τ} {Z : Rp ζ} : ∀ S H x, ¬ (aT4 R Q T Z).P S H .non x := fun _ _ _ ⟨_, _, _, _, _, h, _⟩ => nomatch h
theorem tj_tup4 {R : Rp α} {R2 : Rp β} {R3 : Rp γ} {R4 : Rp ζ} {t : TA} {m : δ → Res (Er × δ) ((α × β × γ × ζ × Unit) × δ)} {c : Bool} (h : TAj F Γ Δ t m (.cons R (.cons R2 (.cons R3 (.cons R4 .nil)))) c) : TEj F Γ Δ (tTup t) (fun d => (m d).bd fun a d => .ok ((a.1, a.2.1, a.2.2.1, a.2.2.2.1), d)) (aT4 R R2 R3 R4) c := fun Ds d σ H Q e q => by
  refine h Ds d σ H _ e ((q.bind).mono fun a d1 H1 e1 k1 q1 vs pv => ?_)
  obtain ⟨v, ws, rfl, p1, w, us, rfl, p2, x, ys, rfl, p3, z, zs, rfl, p4, rfl⟩ := pv
  refine ⟨by show 4 ≤ sizeLine; decide, fun p np => ?_⟩
  have s := Same.new0 (o := HO.tup [v, w, x, z]) np
  exact (q1 _ (e1.same s) (s.keepS _)) _ ⟨p, v, w, x, z, rfl, upd_same, R.keep p1 (s.keepS _), R2.keep p2 (s.keepS _), R3.keep p3 (s.keepS _), R4.keep p4 (s.keepS _)⟩
theorem tg_t4 {R1 : Rp α} {R2 : Rp β} {R3 : Rp γ} {R4 : Rp ζ} {c : Bool} {g1 g2 g3 g4 : TG} {Γ1 : α → List Cl} {Γ2 : α → β → List Cl} {Γ3 : α → β → γ → List Cl} {Γ4 : α → β → γ → ζ → List Cl} {is1 is2 is3 is4 : List Nat} (h1 : TGj F c Γ Δ g1 R1 Γ1 is1) (h2 : ∀ a, TGj F c (Γ1 a) Δ g2 R2 (Γ2 a) is2) (h3 : ∀ a b, TGj F c (Γ2 a b) Δ g3 R3 (Γ3 a b) is3) (h4 : ∀ a b x, TGj F c (Γ3 a b x) Δ g4 R4 (Γ4 a b x) is4) :
    TGj F c Γ Δ (gTup F.K 4 (gCons g1 (gCons g2 (gCons g3 (gCons g4 gNil))))) (aT4 R1 R2 R3 R4) (fun p => Γ4 p.1 p.2.1 p.2.2.1 p.2.2.2) (is1 ++ is2 ++ is3 ++ is4) := fun Ds d σ H v a Q e p k => by
  obtain ⟨b, v1, v2, v3, v4, rfl, hb, p1, p2, p3, p4⟩ := p
  refine ⟨b, _, rfl, SqT.of hb, rfl, v1, _, rfl, h1 Ds d σ H v1 a.1 _ e p1 fun σ1 e1 w1 => ⟨v2, _, rfl, h2 a.1 Ds d σ1 H v2 a.2.1 _ e1 p2 fun σ2 e2 w2 => ⟨v3, _, rfl, h3 a.1 a.2.1 Ds d σ2 H v3 a.2.2.1 _ e2 p3 fun σ3 e3 w3 => ⟨v4, _, rfl, h4 a.1 a.2.1 a.2.2.1 Ds d σ3 H v4 a.2.2.2 _ e3 p4 fun σ4 e4 w4 => ⟨rfl, k σ4 e4 fun vs h => ?_⟩⟩⟩⟩⟩
  rw [w4 vs fun i hi => h i (List.mem_append_right _ hi), w3 vs fun i hi => h i (List.mem_append_left _ (List.mem_append_right _ hi)), w2 vs fun i hi => h i (List.mem_append_left _ (List.mem_append_left _ (List.mem_append_right _ hi))), w1 vs fun i hi => h i (List.mem_append_left _ (List.mem_append_left _ (List.mem_append_left _ hi)))]
/-! ### enumerate -/
def enumI (xs : List α) : List (Int × α) := (rng 0 xs.length).zip xs
theorem enumI_len (xs : List α) : (enumI xs).length = xs.length := by
  unfold enumI
  rw [List.length_zip, rng_len, Nat.min_self]
theorem enumI_at {xs : List α} {i : Nat} {a : α} (h : xs[i]? = some a) : (enumI xs)[i]? = some ((i : Int), a) := by
  have hl := (List.getElem?_eq_some_iff.mp h).1
  unfold enumI
  refine List.getElem?_zip_eq_some.mpr ⟨?_, h⟩
  rw [rng_at hl, Int.zero_add]
theorem kpi_enum {X : Cx} {K : PySem.W.Frag} {e : Expr} {ta : TA} {p pos tpos : Pos} {elts : List Expr} {kk : Nat} (h : X.K = K) (hg : Gl X "enumerate") (hm : X.mg "enumerate" = none) (ha : PA X [e] ta) (hs : starEach [e] X.env = [(false, eval e X.env)] := by rfl) :
    PI X (.Tuple elts kk tpos) (.Call (.Name "enumerate" p) [e] [] pos) (iEnum K ta) := h ▸ pi_enum hg hm ha hs
theorem ti_enum {t : TA} {R : Rp α} {m : δ → Res (Er × δ) ((List α × Unit) × δ)} {c : Bool} (h : TAj F Γ Δ t m (.cons (aLst F.K R) .nil) c) : TIj F Γ Δ (iEnum F.K t) (fun d => (m d).bd fun a d => .ok (enumI a.1, d)) (aT2 aI R) c := fun Ds d σ H Q e q => by
  refine h Ds d σ H _ e ((q.bind).mono fun a d1 H1 e1 k1 q1 vs pv => ?_)
  obtain ⟨xs, u⟩ := a
  obtain ⟨v, ws, rfl, ⟨a, us, rfl, ha, hpa⟩, rfl⟩ := pv
  refine ⟨a, us, rfl, ha.sq, After.ok q1 e1 _ ⟨fun T H => LsAt F.K T H a us ∧ Paired (R.P T H) us xs, ⟨ha, hpa⟩, fun T H H' h k => ⟨h.1.keep k, Paired.mapP h.2 fun _ _ z => R.keep z k⟩, fun T T' H h k => ⟨h.1.shift k, Paired.mapP h.2 fun _ _ z => R.shift z k⟩, fun T => ?_⟩⟩
  have hl : us.length = xs.length := Paired.length hpa
  rw [enumI_len]
  refine ⟨fun i H hi h => have hi' : i < xs.length := hi; ⟨us, us[i]'(by omega), h.1.sq, by simp⟩, fun H h => ⟨us, h.1.sq, by show us.length ≤ xs.length; omega⟩, fun i H x H' hi h y => ?_⟩
  obtain ⟨t0, x1, rfl, nt, rfl, hx⟩ := y
  have hx := hx us h.1.sq
  obtain ⟨a1, g1, g2⟩ := pairGet h.2 hx
  have s := Same.new0 (o := HO.tup [.int (i : Nat), x1]) nt
  exact ⟨s, ((i : Int), a1), enumI_at g1, t0, .int (i : Nat), x1, rfl, upd_same, rfl, R.keep g2 (s.keepS _)⟩
theorem tn_callWn {te : TE} {A : Al α} {R : Rp γ} {f : α → List Int → Res (Er × List Int) (List γ × List Int)} {E : XK} {t : TA} {mw : δ → Res (Er × δ) (List Int × δ)} {m : δ → Res (Er × δ) (α × δ)} {c c' : Bool} (hz : F.rz = false) (hdat : DatD Δ) (hw : TNj F Γ Δ te mw aI c') (h : ∀ X, TAj { F with X := X } Γ Δ t m A c) :
    TNj F Γ Δ (tCall (spWN A R f) [] E (tCons te t)) (fun d => (mw d).bd fun w d => (m d).bd fun a d => (f a w).drop d) R true := fun Ds d σ H Q e q => by
  refine hw Ds d σ H _ e ?_
  let KK := (fun (a : List γ) (_ : δ) (H' : Hp) => ∀ (D : Addr) (vs : List V), H D = none → H' D = some (.lst vs) → Paired (R.P (fun b => soft true F Ds b ∨ b = D) H') vs a → Q (.ref D) H')
  replace q : After F Γ Δ Ds σ H ((mw d).bd fun w d => (m d).bd fun a d => (f a w).drop d) KK := q
  cases hm : mw d with
  | bad => rw [hm] at q; exact q.elim
  | ex x => rw [hm] at q; exact absurd q.1 (by rw [hz]; exact fun z => nomatch z)
  | ok p =>
    have q' : After F Γ Δ Ds σ H ((m p.2).bd fun a d => (f a p.1).drop d) KK := by rw [hm] at q; exact q
    intro H1 e1 k1 D vs nD hD pw
    have hDs : D ∉ Ds := fun z => e.live D (.inr (.inr z)) nD
    have eX := En.newX hdat e e1 k1 nD (by rw [hD]; exact fun z => nomatch z)
    refine h _ Ds p.2 σ H1 _ eX ?_
    cases hm2 : m p.2 with
    | bad => rw [hm2] at q'; exact q'.elim
    | ex x => rw [hm2] at q'; exact absurd q'.1 (by rw [hz]; exact fun z => nomatch z)
    | ok r =>
      have q2 : After F Γ Δ Ds σ H ((f r.1 p.1).drop r.2) KK := by rw [hm2] at q'; exact q'
      intro H2 e2 k2 us pv
      have hD2 := k2.same D _ hDs hD
      have hvs : vs = p.1.map V.int := paired_ints pw
      subst hvs
      have h0D : F.H0 D = none := e.k0.free nD
      show spWN A R f ((V.ref D :: us) ++ []) H2 Q E
      rw [List.append_nil]
      cases z : f r.1 p.1 with
      | bad => rw [z] at q2; exact q2.elim
      | ex x => rw [z] at q2; exact absurd q2.1 (by rw [hz]; exact fun z => nomatch z)
      | ok x =>
        rw [z] at q2
        refine ⟨D, us, r.1, p.1, rfl, hD2, A.shift pv fun x hx => .inl (soft_addX.mpr (.inr hx)), x.1, x.2, z, fun L ws H' kk hw' hn hL hR => ?_⟩
        have e3 : En (F.addX D) Γ Δ Ds r.2 σ H' := e2.keepX (.inr rfl) h0D hDs kk
        have k12 := k1.trans k2
        have kf : Keep (· ∈ Ds) H H' := ⟨fun b o n hb => kk.same b o (fun z => by rw [show b = D from z, nD] at hb; cases hb) (k12.same b o n hb), fun b xs hb => kk.tup b xs (k12.tup b xs hb), fun b hb => kk.live b (k12.live b hb)⟩
        refine q2 H' e3.ofX kf L ws (k12.free hn) hL (Paired.mapP (hR (fun b => soft true F Ds b ∨ b = D) (.inr rfl) fun b hb => ?_) fun _ _ z => R.shift z fun b hb => .inl (hb.imp .inl id))
        rcases hb with hb | rfl
        · exact e2.live b (soft_addX.mpr (.inl hb))
        · rw [hD2]; exact fun z => nomatch z
end
def gLen2 {α β : Type} (a : (α × β) × Unit) : Option Int := some 2
theorem gLen2_e {α β : Type} (a : α × β) (u : Unit) : gLen2 (a, u) = some 2 := rfl
theorem cb_lenT2 {K : PySem.W.Frag} {α β : Type} {R : Rp α} {R2 : Rp β} : CbT (fun xs H Q => ∃ p ys, xs = [.ref p] ∧ (SqL K H p ys ∨ SqT K H p ys) ∧ Q (.int ys.length) H) (.cons (aT2 R R2) .nil) gLen2 aI := fun T H vs a Q hT pa ⟨c, hc, k⟩ => by
  cases hc
  obtain ⟨v, ws, rfl, ⟨x, v1, v2, rfl, hx, _, _⟩, rfl⟩ := pa
  exact ⟨x, [v1, v2], rfl, .inr (SqT.of hx), k _ H (Same.refl _) rfl⟩
end L2

/-! len(set(..)) of a list of tuples of ints -/
namespace L2
open PySem PySem.Spec PyProof.Rows RZ
/-- each once -/
def dd {α : Type} [DecidableEq α] : List α → List α
  | [] => []
  | a :: r => if a ∈ r then dd r else a :: dd r
theorem mem_dd {α : Type} [DecidableEq α] {x : α} : ∀ {l : List α}, x ∈ dd l ↔ x ∈ l
  | [] => Iff.rfl
  | a :: r => by
    unfold dd
    split
    · rename_i h
      rw [mem_dd, List.mem_cons]
      exact ⟨.inr, fun z => z.elim (fun e => e ▸ h) id⟩
    · rw [List.mem_cons, List.mem_cons, mem_dd]
theorem dd_nodup {α : Type} [DecidableEq α] : ∀ l : List α, (dd l).Nodup
  | [] => List.nodup_nil
  | a :: r => by
    unfold dd
    split
    · exact dd_nodup r
    · rename_i h
      exact List.nodup_cons.mpr ⟨fun z => h (mem_dd.mp z), dd_nodup r⟩
theorem dd_len {α : Type} [DecidableEq α] {l m : List α} (hn : m.Nodup) (h : ∀ x, x ∈ m ↔ x ∈ l) : m.length = (dd l).length :=
  ((List.perm_ext_iff_of_nodup hn (dd_nodup l)).mpr fun x => (h x).trans mem_dd.symm).length_eq
def tLenSetT (K : PySem.W.Frag) (ta : TE) : TE := fun σ H Q => ta σ H fun x H1 => ∃ (l : Addr) (ks : List (Addr × List Int)), x = V.ref l ∧ SqL K H1 l (ks.map fun p => V.ref p.1) ∧ (∀ p ∈ ks, SqT K H1 p.1 (p.2.map V.int)) ∧ ks.length < 64 ∧ Q (.int (dd (ks.map (·.2))).length) H1
theorem kpe_lenSetT {X : Cx} {K : PySem.W.Frag} {a : Expr} {ta : TE} {p p2 q pos : Pos} (hK : X.K = K) (hu : X.A.units + 64 < cLine) (hc : X.calm = true) (hg : Gl X "len") (hm : X.mg "len" = none) (hg2 : Gl X "set") (hm2 : X.mg "set" = none) (ha : PE X a ta)
    (na : starEach [a] X.env = (false, eval a X.env) :: starEach [] X.env := by rfl) : PE X (.Call (.Name "len" p) [.Call (.Name "set" p2) [a] [] q] [] pos) (tLenSetT K ta) := by
  subst hK
  refine ⟨fun pins s σ H Q I h => ?_⟩
  refine Call_ (ld_blt I hg hm PySem.boot_len ?_)
  refine PyProof.Rows.callWith_builtin1 (PyProof.Rows.args_cons ?_ rfl) rfl rfl
  refine Call_ (ld_blt I hg2 hm2 PyProof.Rows.boot_set ?_)
  refine PyProof.Rows.callWith_type1 (PyProof.Rows.args_cons (thn (ha.run pins s σ H _ I h) fun v s1 ⟨x, H1, I1, r1, q1⟩ => PyProof.Rows.args_nil ?_) na) na rfl
  obtain ⟨l, ks, rfl, hq, hk, hf, q1⟩ := q1
  cases r1
  obtain ⟨its, r, pl, hz⟩ := I1.list hq
  refine call_set_tups (P := X.prog) (w := X.w) ks (I1.ok.hd hc) pl.isList (by simpa using refs_of_vals r) (fun p hp => I1.isT (hk p hp)) hf (by omega) fun h' tk L es ep t R g k => ?_
  refine PyProof.Rows.args_nil ?_
  obtain ⟨o, ho, hex, hd⟩ := R.ob
  have hsz : es.size = L.length := by
    have h := congrArg List.length R.rows
    unfold rowsOf at h
    rw [Array.length_toList, List.length_map] at h
    exact h
  have hlen : L.length = (dd (ks.map (·.2))).length := by
    have := dd_len (l := ks.map (·.2)) R.nd (fun x => ⟨fun hx => ?_, fun hx => ?_⟩)
    · rwa [List.length_map] at this
    · obtain ⟨p, hp, e⟩ := List.mem_map.mp hx
      exact List.mem_map.mpr ⟨p, List.mem_of_mem_take (g.sub p hp), e⟩
    · obtain ⟨p, hp, e⟩ := List.mem_map.mp hx
      rw [← e]
      exact g.all p (by rw [List.take_length]; exact hp)
  have I2 : Inv X pins σ H1 { s1 with heap := h', toks := tk } := I1.kept fun b o e => k b o e
  have hfits : t.fits es.size = true := SetTR.fits (s := { s1 with heap := h', toks := tk }) R
  have hfew := R.few
  exact call_len_set ho hex hd hfits (by rw [hsz]; omega) ⟨.int (dd (ks.map (·.2))).length, H1, I2.tok _, ⟨_, by rw [hsz, hlen]⟩, q1⟩
section
variable {υ δ α β γ ζ τ κ ρ : Type} {F : Fx υ} {Γ Γ' : List Cl} {Δ : Dl δ}
theorem paired_tups {K : PySem.W.Frag} {S : ASet} {H : Hp} : ∀ {vs : List V} {xs : List (List Int)}, Paired ((aTup aI).P S H) vs xs → ∃ ks : List (Addr × List Int), vs = ks.map (fun p => V.ref p.1) ∧ xs = ks.map (·.2) ∧ ∀ p ∈ ks, SqT K H p.1 (p.2.map V.int)
  | _, _, .nil => ⟨[], rfl, rfl, fun p hp => absurd hp List.not_mem_nil⟩
  | _, _, .cons ⟨a, ws, e, h, hp⟩ r => by
    obtain ⟨ks, e1, e2, h3⟩ := paired_tups (K := K) r
    subst e
    have := paired_ints hp
    subst this
    refine ⟨(a, _) :: ks, by rw [List.map_cons, e1], by rw [List.map_cons, e2], fun p hp' => ?_⟩
    rcases List.mem_cons.mp hp' with z | z
    · rw [z]; exact SqT.of h
    · exact h3 p z
def gLenS (xs : List (List Int)) : Option Int := if xs.length < 64 then some ((dd xs).length : Int) else none
theorem tj_lenSetT {t : TE} {m : δ → Res (Er × δ) (List (List Int) × δ)} {c : Bool} (h : TEj F Γ Δ t m (aLst F.K (aTup aI)) c) : TEj F Γ Δ (tLenSetT F.K t) (fun d => (m d).bd fun a d => optAt (gLenS a) d) aI c := fun Ds d σ H Q e q => by
  refine h Ds d σ H _ e ((q.bind).mono fun a d1 H1 e1 k1 q1 v pv => ?_)
  obtain ⟨x, hx, k⟩ := q1.opt e1
  unfold gLenS at hx
  split at hx
  · rename_i hl
    cases hx
    obtain ⟨l, vs, rfl, ha, hp⟩ := pv
    obtain ⟨ks, rfl, rfl, h3⟩ := paired_tups (K := F.K) hp
    rw [List.length_map] at hl
    exact ⟨l, ks, rfl, ha.sq, h3, hl, k H1 (Same.refl _) _ rfl⟩
  · cases hx
end
/-! ### a list that was made in this call and that no other list or dict holds -/
def aNew {α : Type} (R : Rp α) : Rp (List α) := ⟨fun S H v xs => ∃ a vs, v = .ref a ∧ ¬ S a ∧ H a = some (.lst vs) ∧ Paired (R.P S H) vs xs,
  fun ⟨a, vs, e, n, h, p⟩ k => ⟨a, vs, e, n, k.same _ _ n h, Paired.mapP p fun _ _ z => R.keep z k⟩,
  fun ⟨a, vs, e, n, h, p⟩ k => ⟨a, vs, e, fun z => (k a z).elim n fun q => (by rw [q] at h; cases h), h, Paired.mapP p fun _ _ z => R.shift z k⟩⟩
section
variable {υ δ α β γ ζ τ κ ρ : Type} {F : Fx υ} {Γ Γ' : List Cl} {Δ : Dl δ} {ext : δ → υ} {N : β → St → Hp → Prop} {C : κ → St → Hp → Prop}
theorem TNj.tw {t : TE} {m : δ → Res (Er × δ) (List α × δ)} {R : Rp α} {c : Bool} (h : TNj F Γ Δ t m R c) : TEj F Γ Δ t m (aNew R) c := fun Ds d σ H Q e q => h Ds d σ H Q e (q.mono fun a d' H' e' k w D vs n hD p => w _ ⟨D, vs, rfl, fun z => absurd n (e.live D (soft_le z)), hD, Paired.mapP p fun _ _ z => R.shift z fun b hb => .inl (.inl hb)⟩)
theorem TEj.lst {t : TE} {m : δ → Res (Er × δ) (List α × δ)} {R : Rp α} {c : Bool} (h : TEj F Γ Δ t m (aNew R) c) : TEj F Γ Δ t m (aLst F.K R) c := fun Ds d σ H Q e q => h Ds d σ H Q e (q.mono fun a d' H' e' k w v ⟨D, vs, e1, n, hD, p⟩ => w v ⟨D, vs, e1, .inl ⟨n, .inl hD⟩, p⟩)
theorem ts_retF {te : TE} {m : δ → Res (Er × δ) (List ρ × δ)} {R : Rp ρ} (hS : ∀ x, F.H0 x ≠ none → F.S x) (hE : ExtOk F Δ ext) (hd : R.Dat) (h : TEj F Γ Δ te m (aNew R) true) : TSj F Γ Δ (tRet te) (fun d => (m d).bs ext fun a d => .rt (a, ext d)) N C (rkN R) := fun Ds d σ H D e q =>
  h Ds d σ H _ e ((AfterS.of hE e q).mono fun a d' H' e' k' q' v ⟨A, vs, e1, n, hA, p⟩ => q' _ H' ⟨e'.k0, e'.owns hE, A, vs, e1, Classical.byContradiction fun z => n (.inl ⟨rfl, hS A z⟩), hA, Paired.mapP p fun _ _ z => hd _ _ _ _ _ z⟩)
theorem run_NS {K : PySem.W.Frag} {H : Hp} {A : Al α} {cs : List Bool} {R : Rp ρ} {f : α → Res Er (List ρ)} {vs : List V} {Q : VK} {E : XK} {N : List Str} {t : TS} {m : α → Unit → Bk (Er × Unit) Empty Empty (List ρ × Unit)} (cl : XC → Addr)
    (hd : DatL A cs) (hf : ∀ a, f a = runP (m a ())) (hsp : spN A R f vs H Q E) (hb : ∀ S a, (∀ x, H x ≠ none → S x) → TSj (Fx0 K S H cl) (slotsOf A cs a ++ List.replicate (N.length - (slotsOf A cs a).length) .no) .nil t (m a) (fun x _ _ => x.elim) (fun x _ _ => x.elim) (rkN R)) :
    t { nx := fun _ H' => Q .non H', rt := Q } (start N vs) H := by
  obtain ⟨a, hA, r, hr, k⟩ := hsp
  rw [hf a] at hr
  have hm : m a () = .rt (r, ()) := by
    cases z : m a () with
    | rt x => rw [z] at hr; cases hr; rfl
    | nx x => exact x.elim
    | bk x => exact x.elim
    | ct x => exact x.elim
    | ex x => rw [z] at hr; cases hr
    | bad => rw [z] at hr; cases hr
  refine hb (fun x => H x ≠ none) a (fun x h => h) [] () _ H _ (En.start (fun x h => h) hd hA) ?_
  rw [hm]
  rintro v H' ⟨h1, h2, D, ws, rfl, nD, hD, h3⟩
  refine k D ws H' (fun b o e => h1.same b o (fun z => nomatch z) e) nD hD fun S hS => Paired.mapP h3 fun _ _ z => R.shift z fun x hx => .inl (hx.imp (hS x) id)
end
end L2

/-! what the functions give -/
namespace L2
open PySem PySem.Spec PyProof.Rows RZ
section
variable {υ δ α β τ κ ρ ε : Type}
theorem forB_cons {f : α → τ → δ → Bk ε (τ × δ) (τ × δ) ρ} {a : α} {r : List α} {s : τ} {d : δ} {s' : τ} {d' : δ} (h : f a s d = .nx (s', d')) : (forB f (a :: r) s d : Bk ε (τ × δ) κ ρ) = forB f r s' d' := by rw [forB, h]
theorem forB_nil {f : α → τ → δ → Bk ε (τ × δ) (τ × δ) ρ} {s : τ} {d : δ} : (forB f [] s d : Bk ε (τ × δ) κ ρ) = .nx (s, d) := rfl
/-- a loop that goes through, by turns -/
theorem forB_inv {κ : Type} {f : α → τ → δ → Bk ε (τ × δ) (τ × δ) ρ} (I : Nat → τ → δ → Prop) : ∀ (xs : List α) (n : Nat), (∀ i a s d, xs[i]? = some a → I (n + i) s d → ∃ s' d', (f a s d = .nx (s', d') ∨ f a s d = .ct (s', d')) ∧ I (n + i + 1) s' d') → ∀ s d, I n s d → ∃ s' d', (forB f xs s d : Bk ε (τ × δ) κ ρ) = .nx (s', d') ∧ I (n + xs.length) s' d'
  | [], n, _, s, d, h => ⟨s, d, rfl, h⟩
  | a :: r, n, hs, s, d, h => by
    obtain ⟨s1, d1, e, h1⟩ := hs 0 a s d rfl h
    obtain ⟨s2, d2, e2, h2⟩ := forB_inv I r (n + 1) (fun i b s d hb hi => by
      have := hs (i + 1) b s d hb (by rw [show n + (i + 1) = n + 1 + i by omega]; exact hi)
      rw [show n + 1 + i + 1 = n + (i + 1) + 1 by omega]
      exact this) s1 d1 h1
    refine ⟨s2, d2, ?_, by rw [List.length_cons, show n + (r.length + 1) = n + 1 + r.length by omega]; exact h2⟩
    rw [forB]
    rcases e with e | e <;> rw [e] <;> exact e2
theorem forB_inv0 {f : α → τ → δ → Bk ε (τ × δ) (τ × δ) ρ} (I : Nat → τ → δ → Prop) {xs : List α} {s : τ} {d : δ} (h0 : I 0 s d) (hs : ∀ i a s d, xs[i]? = some a → I i s d → ∃ s' d', (f a s d = .nx (s', d') ∨ f a s d = .ct (s', d')) ∧ I (i + 1) s' d') : ∃ s' d', (forB f xs s d : Bk ε (τ × δ) κ ρ) = .nx (s', d') ∧ I xs.length s' d' := by
  have := forB_inv (f := f) (κ := κ) I xs 0 (fun i a s d h hi => by rw [Nat.zero_add] at hi ⊢; exact hs i a s d h hi) s d h0
  rwa [Nat.zero_add] at this
/-- a comprehension, by turns -/
theorem lcB_inv {f : α → δ → Res (Er × δ) (Option β × δ)} (I : Nat → List β → δ → Prop) : ∀ (xs : List α) (n : Nat), (∀ i a ys d, xs[i]? = some a → I (n + i) ys d → ∃ o d', f a d = .ok (o, d') ∧ I (n + i + 1) (ys ++ o.toList) d') → ∀ ys d, I n ys d → ∃ zs d', lcB f xs d = .ok (zs, d') ∧ I (n + xs.length) (ys ++ zs) d'
  | [], n, _, ys, d, h => ⟨[], d, rfl, by rw [List.append_nil]; exact h⟩
  | a :: r, n, hs, ys, d, h => by
    obtain ⟨o, d1, e, h1⟩ := hs 0 a ys d rfl h
    obtain ⟨zs, d2, e2, h2⟩ := lcB_inv I r (n + 1) (fun i b s d hb hi => by
      have := hs (i + 1) b s d hb (by rw [show n + (i + 1) = n + 1 + i by omega]; exact hi)
      rw [show n + 1 + i + 1 = n + (i + 1) + 1 by omega]
      exact this) _ d1 h1
    refine ⟨o.toList ++ zs, d2, ?_, by rw [List.length_cons, show n + (r.length + 1) = n + 1 + r.length by omega, ← List.append_assoc]; exact h2⟩
    rw [lcB, e, Res.ok_bd, e2, Res.ok_bd]
theorem lcA_inv {f : α → δ → Res (Er × δ) (Option β × δ)} (I : Nat → List β → δ → Prop) {xs : List α} {d : δ} (hl : xs.length ≤ sizeLine) (h0 : I 0 [] d) (hs : ∀ i a ys d, xs[i]? = some a → I i ys d → ∃ o d', f a d = .ok (o, d') ∧ I (i + 1) (ys ++ o.toList) d') : ∃ zs d', lcA f xs d = .ok (zs, d') ∧ I xs.length zs d' := by
  obtain ⟨zs, d', e, h⟩ := lcB_inv I xs 0 (fun i a s d h hi => by rw [Nat.zero_add] at hi ⊢; exact hs i a s d h hi) [] d h0
  refine ⟨zs, d', ?_, by rw [Nat.zero_add] at h; exact h⟩
  unfold lcA
  rw [if_pos hl, e]
/-- .. that leaves the state alone -/
theorem lcB_pure {f : α → δ → Res (Er × δ) (Option β × δ)} {g : α → Option β} {d : δ} : ∀ {xs : List α}, (∀ a ∈ xs, f a d = .ok (g a, d)) → lcB f xs d = .ok (xs.filterMap g, d)
  | [], _ => rfl
  | a :: r, h => by
    rw [lcB, h a List.mem_cons_self, Res.ok_bd, lcB_pure fun b hb => h b (List.mem_cons_of_mem _ hb), Res.ok_bd, List.filterMap_cons]
    cases g a <;> rfl
theorem lcA_pure {f : α → δ → Res (Er × δ) (Option β × δ)} {g : α → Option β} {d : δ} {xs : List α} (hl : xs.length ≤ sizeLine) (h : ∀ a ∈ xs, f a d = .ok (g a, d)) : lcA f xs d = .ok (xs.filterMap g, d) := by
  unfold lcA
  rw [if_pos hl, lcB_pure h]
theorem lcA_map {f : α → δ → Res (Er × δ) (Option β × δ)} {g : α → β} {d : δ} {xs : List α} (hl : xs.length ≤ sizeLine) (h : ∀ a ∈ xs, f a d = .ok (some (g a), d)) : lcA f xs d = .ok (xs.map g, d) := by
  rw [lcA_pure (g := fun a => some (g a)) hl h]
  congr 2
  induction xs with
  | nil => rfl
  | cons a r ih => rw [List.filterMap_cons, List.map_cons, ih (Nat.le_trans (Nat.le_succ _) hl) fun b hb => h b (List.mem_cons_of_mem _ hb)]
theorem lcA_filter {f : α → δ → Res (Er × δ) (Option α × δ)} {p : α → Bool} {d : δ} {xs : List α} (hl : xs.length ≤ sizeLine) (h : ∀ a ∈ xs, f a d = .ok (if p a then some a else none, d)) : lcA f xs d = .ok (xs.filter p, d) := by
  rw [lcA_pure (g := fun a => if p a then some a else none) hl h]
  congr 2
  induction xs with
  | nil => rfl
  | cons a r ih =>
    have ih := ih (Nat.le_trans (Nat.le_succ _) hl) fun b hb => h b (List.mem_cons_of_mem _ hb)
    rw [List.filterMap_cons, List.filter_cons]
    cases p a <;> simp [ih]
theorem gIx_nat {xs : List α} {i : Nat} {a : α} (h : xs[i]? = some a) : gIx xs (i : Int) = some a := by
  unfold gIx atI ixN
  have hl := (List.getElem?_eq_some_iff.mp h).1
  rw [if_pos (by omega), if_pos (by omega)]
  simpa using h
theorem rng_mem {lo : Int} {n : Nat} {a : Int} : a ∈ rng lo n ↔ lo ≤ a ∧ a < lo + n := by
  unfold rng
  rw [List.mem_map]
  constructor
  · rintro ⟨i, hi, rfl⟩
    rw [List.mem_range] at hi
    omega
  · rintro ⟨h1, h2⟩
    exact ⟨(a - lo).toNat, List.mem_range.mpr (by omega), by omega⟩
theorem gRng1_nat (n : Nat) (h : n < 2 ^ 62) : gRng1 (n : Int) = some (rng 0 n) := by
  unfold gRng1
  rw [if_pos (by omega)]
  rfl
@[simp] theorem runP_rt {r : ρ} {u : Unit} : runP (.rt (r, u) : Bk (Er × Unit) Empty Empty (ρ × Unit)) = .ok r := rfl
@[simp] theorem runP0_nx {u : Unit} : runP0 (.nx u : Bk (Er × Unit) Unit Empty (Unit × Unit)) = .ok () := rfl
@[simp] theorem runP0_rt {u : Unit × Unit} : runP0 (.rt u : Bk (Er × Unit) Unit Empty (Unit × Unit)) = .ok () := rfl
@[simp] theorem runW_rt {r : ρ} {w : List Int} {u : Unit} : runW (.rt (r, w, u) : Bk (Er × List Int × Unit) Empty Empty (ρ × List Int × Unit)) = .ok (r, w) := rfl
@[simp] theorem gAdd_e (a b : Int) : gAdd a b = some (a + b) := rfl
@[simp] theorem gSbt_e (a b : Int) : gSbt a b = some (a - b) := rfl
@[simp] theorem gLt_e (a b : Int) : gLt a b = some (decide (a < b)) := rfl
@[simp] theorem gLe_e (a b : Int) : gLe a b = some (decide (a ≤ b)) := rfl
@[simp] theorem gGt_e (a b : Int) : gGt a b = some (decide (b < a)) := rfl
@[simp] theorem gGe_e (a b : Int) : gGe a b = some (decide (b ≤ a)) := rfl
@[simp] theorem gEqI_e (a b : Int) : gEqI a b = some (decide (a = b)) := rfl
@[simp] theorem gNeI_e (a b : Int) : gNeI a b = some (!decide (a = b)) := rfl
@[simp] theorem gEqB_e (a b : Bool) : gEqB a b = some (decide (a = b)) := rfl
@[simp] theorem gNeB_e (a b : Bool) : gNeB a b = some (!decide (a = b)) := rfl
@[simp] theorem gIs_e (a b : Bool) : gIs a b = some (decide (a = b)) := rfl
@[simp] theorem gIsnt_e (a b : Bool) : gIsnt a b = some (!decide (a = b)) := rfl
@[simp] theorem gId_e {α : Type} (a : α) (u : Unit) : gId (a, u) = some a := rfl
@[simp] theorem gNeg_e (a : Int) : gNeg a = some (-a) := rfl
@[simp] theorem gLen_e {α : Type} (a : List α) (u : Unit) : gLen (a, u) = some (a.length : Int) := rfl
@[simp] theorem gCst_e {α : Type} (b : Bool) (a : α) : gCst b a = some b := rfl
@[simp] theorem gMax2_e (a b : Int) (u : Unit) : gMax2 (a, b, u) = some (max a b) := by
  unfold gMax2; dsimp only; congr 1; split <;> omega
@[simp] theorem gMin2_e (a b : Int) (u : Unit) : gMin2 (a, b, u) = some (min a b) := by
  unfold gMin2; dsimp only; congr 1; split <;> omega
@[simp] theorem gAbs_e (a : Int) (u : Unit) : gAbs (a, u) = some (a.natAbs : Int) := by
  unfold gAbs; dsimp only; congr 1; split <;> omega
@[simp] theorem gGcd_e (a b : Int) (u : Unit) : gGcd (a, b, u) = some ((Nat.gcd a.natAbs b.natAbs : Nat) : Int) := rfl
@[simp] theorem gBoolInt_e (b : Bool) (u : Unit) : gBoolInt (b, u) = some (if b then 1 else 0) := rfl
@[simp] theorem gSum_e (a : List Int) (u : Unit) : gSum (a, u) = some a.sum := rfl
@[simp] theorem gAny_e (a : List Bool) (u : Unit) : gAny (a, u) = some (a.any id) := rfl
@[simp] theorem gAll_e (a : List Bool) (u : Unit) : gAll (a, u) = some (a.all id) := rfl
@[simp] theorem gMem_e [DecidableEq α] (a : α) (xs : List α) : gMem a xs = some (decide (a ∈ xs)) := rfl
@[simp] theorem gNmem_e [DecidableEq α] (a : α) (xs : List α) : gNmem a xs = some (!decide (a ∈ xs)) := rfl
@[simp] theorem gIsN_e (a : Option α) (u : Unit) : gIsN a u = some a.isNone := rfl
@[simp] theorem gIsntN_e (a : Option α) (u : Unit) : gIsntN a u = some a.isSome := rfl
@[simp] theorem gIsS_e (a : Option α) (u : Unit × Unit) : gIsS (a, u) = some a.isSome := rfl
@[simp] theorem fT_yes {me : α → δ → Res (Er × δ) (β × δ)} (a : α) (d : δ) : fT (fun _ d => Res.ok (true, d)) me a d = (me a d).bd fun y d => .ok (some y, d) := rfl
theorem lay_ints : ∀ ns : List Int, PyData.canLayAll0 (ns.map eI) = true := canLay_ints
@[simp] theorem lay_eI (a : Int) : (eI a).canLay0 = true := rfl
@[simp] theorem lay_eB (a : Bool) : (eB a).canLay0 = true := rfl
@[simp] theorem lay_tup (xs : List Int) : (eTup eI xs).canLay0 = true := by simpa [eTup, PyData.canLay0] using lay_ints xs
theorem lay_tups : ∀ xs : List (List Int), PyData.canLayAll0 (xs.map (eTup eI)) = true
  | [] => rfl
  | x :: xs => by rw [List.map_cons, PyData.canLayAll0, lay_tup, lay_tups xs]; rfl
@[simp] theorem lay_lst (xs : List Int) : (eLst eI xs).canLay0 = true := by simpa [eLst, PyData.canLay0] using lay_ints xs
@[simp] theorem lay_lstT (xs : List (List Int)) : (eLst (eTup eI) xs).canLay0 = true := by simpa [eLst, PyData.canLay0] using lay_tups xs
@[simp] theorem gEq_tup (a b : List Int) : gEq (eTup eI) a b = some (decide (a = b)) := if_pos ⟨lay_tup a, lay_tup b⟩
@[simp] theorem gNe_tup (a b : List Int) : gNe (eTup eI) a b = some (!decide (a = b)) := if_pos ⟨lay_tup a, lay_tup b⟩
@[simp] theorem gEq_lst (a b : List Int) : gEq (eLst eI) a b = some (decide (a = b)) := if_pos ⟨lay_lst a, lay_lst b⟩
@[simp] theorem gNe_lst (a b : List Int) : gNe (eLst eI) a b = some (!decide (a = b)) := if_pos ⟨lay_lst a, lay_lst b⟩
@[simp] theorem gEq_lstT (a b : List (List Int)) : gEq (eLst (eTup eI)) a b = some (decide (a = b)) := if_pos ⟨lay_lstT a, lay_lstT b⟩
@[simp] theorem gNe_lstT (a b : List (List Int)) : gNe (eLst (eTup eI)) a b = some (!decide (a = b)) := if_pos ⟨lay_lstT a, lay_lstT b⟩
@[simp] theorem gIn_tup (a : List Int) (xs : List (List Int)) : gIn (eTup eI) a xs = some (decide (a ∈ xs)) := by unfold gIn; rw [if_pos ⟨lay_tup a, lay_tups xs⟩]; congr
@[simp] theorem gNin_tup (a : List Int) (xs : List (List Int)) : gNin (eTup eI) a xs = some (!decide (a ∈ xs)) := by unfold gNin; rw [if_pos ⟨lay_tup a, lay_tups xs⟩]; congr
theorem sizeL : sizeLine = 16777216 := by decide
theorem res_bind_at {α β : Type} (r : Res Er α) (d : δ) (k : α → δ → Res (Er × δ) (β × δ)) {a : α} (h : r = .ok a) : (r.at d).bd k = k a d := by rw [h]; rfl
@[simp] theorem Res.ok_wi {f : Unit → Res (Er × Unit) (α × Unit)} {d : δ} : Res.wi f d = (f ()).with d := rfl
end
/-! ### springs -/
def Spring (w : List Int) : Prop := ∃ a b c : Int, w = [a, b, c] ∧ 0 ≤ b ∧ b < MM
section
variable {α δ ε β κ ρ : Type}
theorem ix3_0 (a b c : α) : gIx [a, b, c] 0 = some a := rfl
theorem ix3_1 (a b c : α) : gIx [a, b, c] 1 = some b := rfl
theorem ix3_2 (a b c : α) : gIx [a, b, c] 2 = some c := rfl
theorem ix2_0 (a b : α) : gIx [a, b] 0 = some a := rfl
theorem ix2_1 (a b : α) : gIx [a, b] 1 = some b := rfl
theorem set3_0 (a b c x : α) (p : List α → δ) (k : δ → Bk ε β κ ρ) : setJ [a, b, c] 0 x p k = k (p [x, b, c]) := rfl
theorem set3_1 (a b c x : α) (p : List α → δ) (k : δ → Bk ε β κ ρ) : setJ [a, b, c] 1 x p k = k (p [a, x, c]) := rfl
theorem set3_2 (a b c x : α) (p : List α → δ) (k : δ → Bk ε β κ ρ) : setJ [a, b, c] 2 x p k = k (p [a, b, x]) := rfl
theorem set2_0 (a b x : α) (p : List α → δ) (k : δ → Bk ε β κ ρ) : setJ [a, b] 0 x p k = k (p [x, b]) := rfl
theorem set2_1 (a b x : α) (p : List α → δ) (k : δ → Bk ε β κ ρ) : setJ [a, b] 1 x p k = k (p [a, x]) := rfl
end
end L2
namespace L2
open PySem PySem.Spec PyProof.Rows RZ
section
variable {δ α β τ κ ρ ε : Type}
/-- a loop that goes through and leaves the rest alone -/
theorem forB_fold {f : α → τ → δ → Bk ε (τ × δ) (τ × δ) ρ} {g : τ → α → τ} {d : δ} : ∀ {xs : List α} {s : τ}, (∀ a ∈ xs, ∀ s, f a s d = .nx (g s a, d)) → (forB f xs s d : Bk ε (τ × δ) κ ρ) = .nx (xs.foldl g s, d)
  | [], _, _ => rfl
  | a :: r, s, h => by
    rw [forB, h a List.mem_cons_self]
    exact forB_fold fun b hb => h b (List.mem_cons_of_mem _ hb)
theorem forB_foldI {f : α → τ → δ → Bk ε (τ × δ) (τ × δ) ρ} {g : τ → α → τ} {d : δ} (I : τ → Prop) : ∀ {xs : List α} {s : τ}, I s → (∀ a ∈ xs, ∀ s, I s → f a s d = .nx (g s a, d) ∧ I (g s a)) → (forB f xs s d : Bk ε (τ × δ) κ ρ) = .nx (xs.foldl g s, d)
  | [], _, _, _ => rfl
  | a :: r, s, hI, h => by
    have h1 := h a List.mem_cons_self s hI
    rw [forB, h1.1]
    exact forB_foldI I h1.2 fun b hb => h b (List.mem_cons_of_mem _ hb)
theorem forB_same {f : α → τ → δ → Bk ε (τ × δ) (τ × δ) ρ} {s : τ} {d : δ} : ∀ {xs : List α}, (∀ a ∈ xs, f a s d = .nx (s, d)) → (forB f xs s d : Bk ε (τ × δ) κ ρ) = .nx (s, d)
  | [], _ => rfl
  | a :: r, h => by
    rw [forB, h a List.mem_cons_self]
    exact forB_same fun b hb => h b (List.mem_cons_of_mem _ hb)
/-- a loop that ends at the first item with c -/
theorem forB_stop {f : α → τ → δ → Bk ε (τ × δ) (τ × δ) ρ} {s : τ} {d : δ} {r : ρ} {c : α → Prop} : ∀ {xs : List α}, (∃ a ∈ xs, c a) → (∀ a ∈ xs, c a → f a s d = .rt r) → (∀ a ∈ xs, ¬ c a → f a s d = .nx (s, d)) → (forB f xs s d : Bk ε (τ × δ) κ ρ) = .rt r
  | [], ⟨a, h, _⟩, _, _ => nomatch h
  | a :: xs, h, h1, h2 => by
    by_cases hc : c a
    · rw [forB, h1 a List.mem_cons_self hc]
    · rw [forB, h2 a List.mem_cons_self hc]
      obtain ⟨b, hb, hcb⟩ := h
      rcases List.mem_cons.mp hb with z | z
      · subst z; exact absurd hcb hc
      · exact forB_stop ⟨b, z, hcb⟩ (fun y hy => h1 y (List.mem_cons_of_mem _ hy)) (fun y hy => h2 y (List.mem_cons_of_mem _ hy))
theorem gIx_ok {xs : List α} {i : Int} (h0 : 0 ≤ i) (h1 : i < xs.length) : ∃ v, gIx xs i = some v ∧ v ∈ xs := by
  obtain ⟨n, rfl⟩ := Int.eq_ofNat_of_zero_le h0
  have hn : n < xs.length := by omega
  exact ⟨xs[n], gIx_nat (List.getElem?_eq_getElem hn), List.getElem_mem hn⟩
theorem setA_ok {xs : List α} {i : Int} {a : α} (h0 : 0 ≤ i) (h1 : i < xs.length) : setA xs i a = some (xs.set i.toNat a) := by
  unfold setA ixN
  rw [if_pos (by omega), if_pos (by omega)]
  rfl
theorem gRep_ok {xs : List α} {n : Int} (h0 : 0 ≤ n) (h1 : n < 10000) (h2 : xs.length ≤ 1000) : gRep xs n = some (List.replicate n.toNat xs).flatten := if_pos ⟨by omega, by omega, by
  have : n.toNat ≤ 10000 := by omega
  rw [sizeL]
  exact Nat.le_trans (Nat.mul_le_mul h2 this) (by decide)⟩
theorem gCat_ok {xs ys : List α} (h : xs.length + ys.length ≤ 100000) : gCat xs ys = some (xs ++ ys) := if_pos (by
  rw [sizeL]
  exact Nat.le_trans h (by decide))
theorem cut_len {xs : List α} {n : Nat} : (cutA xs none (some (n : Int))).length ≤ n := by
  unfold cutA
  rw [HT.sIx_none, HT.sIx_nat, List.drop_zero, Nat.sub_zero, List.length_take]
  exact Nat.le_trans (Nat.min_le_left _ _) (Nat.min_le_left _ _)
theorem flat_len {n : Nat} {a : α} : (List.replicate n [a]).flatten = List.replicate n a := by
  induction n with
  | zero => rfl
  | succ n ih => rw [List.replicate_succ, List.flatten_cons, ih]; rfl
theorem cut_to (xs : List α) (n : Nat) : cutA xs none (some (n : Int)) = xs.take n := by
  unfold cutA
  rw [HT.sIx_none, HT.sIx_nat, List.drop_zero, Nat.sub_zero]
  rcases Nat.le_total xs.length n with h | h
  · rw [Nat.min_eq_right h, List.take_of_length_le h, List.take_of_length_le (Nat.le_refl _)]
  · rw [Nat.min_eq_left h]
theorem cut_nat (xs : List α) (a b : Nat) : cutA xs (some (a : Int)) (some (b : Int)) = (xs.take b).drop a := by
  unfold cutA
  rw [HT.sIx_nat, HT.sIx_nat, List.drop_take]
  rcases Nat.le_total xs.length a with h | h
  · rw [Nat.min_eq_right h, List.drop_eq_nil_of_le (Nat.le_refl _), List.drop_eq_nil_of_le h]; simp
  · rw [Nat.min_eq_left h]
    rcases Nat.le_total xs.length b with h2 | h2
    · rw [Nat.min_eq_right h2, List.take_of_length_le (by rw [List.length_drop]; omega), List.take_of_length_le (by rw [List.length_drop]; omega)]
    · rw [Nat.min_eq_left h2]
/-- Euclid's loop -/
theorem wh_gcd {t : Int × Int → Unit → Res (Er × Unit) (Bool × Unit)} {b : Int × Int → Unit → Bk (Er × Unit) ((Int × Int) × Unit) ((Int × Int) × Unit) (ρ × Unit)}
    (ht : ∀ f o : Int, t (f, o) () = .ok (decide (0 < o), ())) (hb : ∀ f o : Int, 0 < o → b (f, o) () = .nx ((o, f % o), ())) : ∀ (n : Nat) (f o : Nat), o < n → (whB (κ := κ) t b n ((f : Int), (o : Int)) ()) = .nx ((((Nat.gcd f o : Nat) : Int), 0), ())
  | 0, f, o, h => absurd h (Nat.not_lt_zero _)
  | n + 1, f, o, h => by
    rw [whB, ht, Res.ok_bs]
    by_cases ho : o = 0
    · subst ho
      simp
    · have h0 : 0 < o := Nat.pos_of_ne_zero ho
      have h1 : (0 : Int) < (o : Int) := by omega
      have hlt := Nat.mod_lt f h0
      rw [decide_eq_true h1, if_pos rfl, hb _ _ h1]
      dsimp only
      rw [show (f : Int) % (o : Int) = ((f % o : Nat) : Int) from rfl, wh_gcd ht hb n o (f % o) (by omega), Nat.gcd_comm f o, Nat.gcd_rec o f, Nat.gcd_comm]
end
end L2
namespace L2
open PySem PySem.Spec PyProof.Rows RZ
section
variable {υ υ' δ α β β' τ κ ρ ε : Type}
theorem forB_go {f : α → τ → δ → Bk (Er × υ) (τ × δ) (τ × δ) (ρ × υ)} {g : υ → υ'} {k : τ → δ → Bk (Er × υ') β' κ (ρ × υ')} {xs : List α} {s : τ} {d : δ} (P : Bk (Er × υ') β' κ (ρ × υ') → Prop) (I : Nat → τ → δ → Prop) (h0 : I 0 s d)
    (hs : ∀ i a s d, xs[i]? = some a → I i s d → ∃ s' d', (f a s d = .nx (s', d') ∨ f a s d = .ct (s', d')) ∧ I (i + 1) s' d') (hk : ∀ s' d', I xs.length s' d' → P (k s' d')) : P (((forB (κ := κ) f xs s d).mapU g).sq k) := by
  obtain ⟨s', d', e, h⟩ := forB_inv0 (κ := κ) I h0 hs
  rw [e]
  exact hk s' d' h
end
theorem Bk.if_go {ε β τ κ ρ δ : Type} {c : Prop} [Decidable c] {A B : Bk ε (τ × δ) κ ρ} {k : τ → δ → Bk ε β κ ρ} (P : Bk ε β κ ρ → Prop) (I : τ → δ → Prop) (hA : c → ∃ b d, A = .nx (b, d) ∧ I b d) (hB : ¬ c → ∃ b d, B = .nx (b, d) ∧ I b d) (hk : ∀ b d, I b d → P (k b d)) : P ((if c then A else B).sq k) := by
  by_cases h : c
  · obtain ⟨b, d, e, hi⟩ := hA h
    rw [if_pos h, e]
    exact hk b d hi
  · obtain ⟨b, d, e, hi⟩ := hB h
    rw [if_neg h, e]
    exact hk b d hi
end L2

/-! pictures, as the functions have them -/
namespace L2
open PySem PySem.Spec PyProof.Rows RZ
abbrev Pict := List (List Int × Str) × Int × List (List Int) × List (List Int) × Unit
def wl (ss : List (List Int)) (w : Str) : List (List Int × Str) := ss.map fun s => (s, w)
def mkPic (n : Int) (l d : List (List Int)) : Pict := (wl l "seen" ++ wl d "hidden", n, srt l, srt d, ())
theorem dGet_app {κ α : Type} [DecidableEq κ] (k : κ) : ∀ a b : List (κ × α), dGet (a ++ b) k = (dGet a k).or (dGet b k)
  | [], b => rfl
  | q :: a, b => by
    rw [List.cons_append, dGet_cons, dGet_cons]
    by_cases h : q.1 = k
    · rw [if_pos h, if_pos h]; rfl
    · rw [if_neg h, if_neg h, dGet_app k a b]
theorem dGet_wl (w : Str) (s : List Int) : ∀ ss : List (List Int), dGet (wl ss w) s = if s ∈ ss then some w else none
  | [] => rfl
  | t :: ss => by
    show dGet ((t, w) :: wl ss w) s = _
    rw [dGet_cons]
    by_cases h : t = s
    · subst h; rw [if_pos rfl, if_pos List.mem_cons_self]
    · rw [if_neg h, dGet_wl w s ss]
      by_cases h2 : s ∈ ss
      · rw [if_pos h2, if_pos (List.mem_cons_of_mem _ h2)]
      · rw [if_neg h2, if_neg fun z => (List.mem_cons.mp z).elim (fun q => h q.symm) h2]
theorem dGet_two (w v : Str) (s : List Int) (l d : List (List Int)) : dGet (wl l w ++ wl d v) s = if s ∈ l then some w else if s ∈ d then some v else none := by
  rw [dGet_app, dGet_wl, dGet_wl]
  by_cases h : s ∈ l
  · rw [if_pos h, if_pos h]; rfl
  · rw [if_neg h, if_neg h]
    cases (if s ∈ d then some v else none : Option Str) <;> rfl
theorem wl_len (ss : List (List Int)) (w : Str) : (wl ss w).length = ss.length := List.length_map ..
theorem wl_snoc (ss : List (List Int)) (s : List Int) (w : Str) : wl (ss ++ [s]) w = wl ss w ++ [(s, w)] := List.map_append ..
theorem Wf.perm {n : Int} {l d l' d' : List (List Int)} (h : Wf n l d) (h1 : l.Perm l') (h2 : d.Perm d') : Wf n l' d' where
  size := h.size
  each := fun s hs => h.each s ((h1.append h2).mem_iff.mpr hs)
  nd := (h1.append h2).nodup_iff.mp h.nd
  few := by rw [← (h1.append h2).length_eq]; exact h.few
structure IsPic (p : Pict) (n : Int) (l d : List (List Int)) : Prop where
  wf : Wf n l d
  size : p.2.1 = n
  seen : p.2.2.1 = srt l
  hidden : p.2.2.2.1 = srt d
  keys : (p.1.map (·.1)).Perm (l ++ d)
  word : ∀ s, dGet p.1 s = if s ∈ l then some (("seen" : Str)) else if s ∈ d then some (("hidden" : Str)) else none
theorem isPic_mk {n : Int} {l d : List (List Int)} (h : Wf n l d) : IsPic (mkPic n l d) n l d where
  wf := h
  size := rfl
  seen := rfl
  hidden := rfl
  keys := by
    show ((wl l "seen" ++ wl d "hidden").map (·.1)).Perm (l ++ d)
    unfold wl
    rw [List.map_append, List.map_map, List.map_map]
    have e : ∀ ss : List (List Int), ∀ w : Str, ss.map ((fun x => x.1) ∘ fun s => (s, w)) = ss := fun ss w => (List.map_congr_left fun a _ => rfl).trans (List.map_id ss)
    rw [e, e]
  word := fun s => dGet_two _ _ s l d
theorem IsPic.perm {p : Pict} {n : Int} {l d l' d' : List (List Int)} (h : IsPic p n l d) (h1 : l.Perm l') (h2 : d.Perm d') : IsPic p n l' d' where
  wf := h.wf.perm h1 h2
  size := h.size
  seen := by rw [h.seen, srt_of_perm h1]
  hidden := by rw [h.hidden, srt_of_perm h2]
  keys := h.keys.trans (h1.append h2)
  word := fun s => by
    rw [h.word s]
    simp only [h1.mem_iff, h2.mem_iff]
theorem IsPic.srt {p : Pict} {n : Int} {l d : List (List Int)} (h : IsPic p n l d) : IsPic p n (L2.srt l) (L2.srt d) := h.perm (srt_perm l).symm (srt_perm d).symm
theorem IsPic.has {p : Pict} {n : Int} {l d : List (List Int)} (h : IsPic p n l d) (s : List Int) : (dGet p.1 s).isSome = decide (s ∈ l ++ d) := by
  rw [h.word s]
  by_cases h1 : s ∈ l
  · rw [if_pos h1, decide_eq_true (List.mem_append.mpr (.inl h1))]; rfl
  · rw [if_neg h1]
    by_cases h2 : s ∈ d
    · rw [if_pos h2, decide_eq_true (List.mem_append.mpr (.inr h2))]; rfl
    · rw [if_neg h2, decide_eq_false fun z => (List.mem_append.mp z).elim h1 h2]; rfl
theorem IsPic.len {p : Pict} {n : Int} {l d : List (List Int)} (h : IsPic p n l d) : p.1.length = (l ++ d).length := by
  rw [← h.keys.length_eq, List.length_map]
theorem dGet_mem {κ α : Type} [DecidableEq κ] {q : κ × α} : ∀ {kvs : List (κ × α)}, (kvs.map (·.1)).Nodup → q ∈ kvs → dGet kvs q.1 = some q.2
  | p :: r, nd, h => by
    rw [List.map_cons, List.nodup_cons] at nd
    rw [dGet_cons]
    rcases List.mem_cons.mp h with rfl | h
    · rw [if_pos rfl]
    · rw [if_neg fun z => nd.1 (List.mem_map.mpr ⟨q, h, z.symm⟩), dGet_mem nd.2 h]
theorem same_perm {p q : Pict} {n m : Int} {l d : List (List Int)} (h : IsPic p n l d) (k : IsPic q m l d) : sameL p.1 q.1 = true := by
  unfold sameL
  rw [h.len, k.len, beq_self_eq_true, Bool.true_and, List.all_eq_true]
  intro x hx
  rw [decide_eq_true_iff]
  have nd : (p.1.map (·.1)).Nodup := h.keys.nodup_iff.mpr h.wf.nd
  rw [k.word, ← h.word]
  exact dGet_mem nd hx
theorem same_is {p q : Pict} {n m : Int} {l d l' d' : List (List Int)} (h : IsPic p n l d) (k : IsPic q m l' d') (e : sameL p.1 q.1 = true) : (∀ s, s ∈ l → s ∈ l') ∧ (∀ s, s ∈ d → s ∈ d') ∧ (l ++ d).length = (l' ++ d').length := by
  unfold sameL at e
  rw [Bool.and_eq_true, beq_iff_eq, List.all_eq_true] at e
  obtain ⟨e1, e2⟩ := e
  have nd : (p.1.map (·.1)).Nodup := h.keys.nodup_iff.mpr h.wf.nd
  have hnd := List.nodup_append.mp h.wf.nd
  have key : ∀ s, s ∈ l ++ d → dGet p.1 s = dGet q.1 s := fun s hs => by
    obtain ⟨x, hx, rfl⟩ := List.mem_map.mp (h.keys.mem_iff.mpr hs)
    rw [dGet_mem nd hx, of_decide_eq_true (e2 x hx)]
  refine ⟨fun s hs => ?_, fun s hs => ?_, by rw [← h.len, ← k.len, e1]⟩
  · have := key s (List.mem_append.mpr (.inl hs))
    rw [h.word, k.word, if_pos hs] at this
    by_cases h1 : s ∈ l'
    · exact h1
    · rw [if_neg h1] at this
      split at this
      · exact absurd (Option.some.inj this) (by decide)
      · cases this
  · have := key s (List.mem_append.mpr (.inr hs))
    have nl : s ∉ l := fun z => hnd.2.2 s z s hs rfl
    rw [h.word, k.word, if_neg nl, if_pos hs] at this
    by_cases h1 : s ∈ l'
    · rw [if_pos h1] at this
      exact absurd (Option.some.inj this) (by decide)
    · rw [if_neg h1] at this
      by_cases h2 : s ∈ d'
      · exact h2
      · rw [if_neg h2] at this; cases this
def dotI (m v : List Int) : Int := (List.zipWith (· * ·) m v).sum
def imgI (g : List (List Int)) (v : List Int) : List Int := g.map fun m => dotI m v
def detI : List (List Int) → Int
  | [[a, b], [c, d]] => a * d - b * c
  | [[a, b, c], [d, e, f], [g, h, k]] => a * (e * k - f * h) - b * (d * k - f * g) + c * (d * h - e * g)
  | _ => 0
def Sq (n : Nat) (g : List (List Int)) : Prop := g.length = n ∧ ∀ m ∈ g, m.length = n ∧ ∀ x ∈ m, -(2 ^ 64) < x ∧ x < 2 ^ 64
theorem two {α : Type} {l : List α} (h : l.length = 2) : ∃ a b, l = [a, b] := by
  match l, h with
  | [a, b], _ => exact ⟨a, b, rfl⟩
theorem three {α : Type} {l : List α} (h : l.length = 3) : ∃ a b c, l = [a, b, c] := by
  match l, h with
  | [a, b, c], _ => exact ⟨a, b, c, rfl⟩
theorem unit_mul {x y d : Int} (h : x * d = y * d) (hd : d = 1 ∨ d = -1) : x = y := by
  rcases hd with rfl | rfl
  · rw [Int.mul_one, Int.mul_one] at h
    exact h
  · omega
theorem cram2 (a b c d x y : Int) : x * (a * d - b * c) = d * (a * x + b * y) - b * (c * x + d * y) ∧ y * (a * d - b * c) = a * (c * x + d * y) - c * (a * x + b * y) := by
  constructor <;> grind
theorem cram3 (a b c d e f g h k x y z : Int) :
    x * (a * (e * k - f * h) - b * (d * k - f * g) + c * (d * h - e * g)) = (e * k - f * h) * (a * x + b * y + c * z) - (b * k - c * h) * (d * x + e * y + f * z) + (b * f - c * e) * (g * x + h * y + k * z) ∧
    y * (a * (e * k - f * h) - b * (d * k - f * g) + c * (d * h - e * g)) = (a * k - c * g) * (d * x + e * y + f * z) - (d * k - f * g) * (a * x + b * y + c * z) - (a * f - c * d) * (g * x + h * y + k * z) ∧
    z * (a * (e * k - f * h) - b * (d * k - f * g) + c * (d * h - e * g)) = (d * h - e * g) * (a * x + b * y + c * z) - (a * h - b * g) * (d * x + e * y + f * z) + (a * e - b * d) * (g * x + h * y + k * z) := by
  refine ⟨?_, ?_, ?_⟩ <;> grind
theorem imgI_inj {n : Nat} {g : List (List Int)} (hn : n = 2 ∨ n = 3) (hq : Sq n g) (hd : detI g = 1 ∨ detI g = -1) {s t : List Int} (hs : s.length = n) (ht : t.length = n) (h : imgI g s = imgI g t) : s = t := by
  obtain ⟨hl, hm⟩ := hq
  rcases hn with rfl | rfl
  · obtain ⟨m1, m2, rfl⟩ := two hl
    obtain ⟨a, b, rfl⟩ := two (hm m1 (by simp)).1
    obtain ⟨c, d, rfl⟩ := two (hm m2 (by simp)).1
    obtain ⟨x, y, rfl⟩ := two hs
    obtain ⟨x', y', rfl⟩ := two ht
    have h0 : [a * x + (b * y + 0), c * x + (d * y + 0)] = [a * x' + (b * y' + 0), c * x' + (d * y' + 0)] := h
    injection h0 with e1 h0
    injection h0 with e2 _
    rw [Int.add_zero, Int.add_zero] at e1 e2
    obtain ⟨p1, p2⟩ := cram2 a b c d x y
    obtain ⟨q1, q2⟩ := cram2 a b c d x' y'
    rw [e1, e2, ← q1] at p1
    rw [e1, e2, ← q2] at p2
    rw [unit_mul p1 hd, unit_mul p2 hd]
  · obtain ⟨m1, m2, m3, rfl⟩ := three hl
    obtain ⟨a, b, c, rfl⟩ := three (hm m1 (by simp)).1
    obtain ⟨d, e, f, rfl⟩ := three (hm m2 (by simp)).1
    obtain ⟨g, h', k, rfl⟩ := three (hm m3 (by simp)).1
    obtain ⟨x, y, z, rfl⟩ := three hs
    obtain ⟨x', y', z', rfl⟩ := three ht
    have h0 : [a * x + (b * y + (c * z + 0)), d * x + (e * y + (f * z + 0)), g * x + (h' * y + (k * z + 0))] = [a * x' + (b * y' + (c * z' + 0)), d * x' + (e * y' + (f * z' + 0)), g * x' + (h' * y' + (k * z' + 0))] := h
    injection h0 with e1 h0
    injection h0 with e2 h0
    injection h0 with e3 _
    rw [Int.add_zero, Int.add_zero, ← Int.add_assoc, ← Int.add_assoc] at e1 e2 e3
    obtain ⟨p1, p2, p3⟩ := cram3 a b c d e f g h' k x y z
    obtain ⟨q1, q2, q3⟩ := cram3 a b c d e f g h' k x' y' z'
    rw [e1, e2, e3, ← q1] at p1
    rw [e1, e2, e3, ← q2] at p2
    rw [e1, e2, e3, ← q3] at p3
    rw [unit_mul p1 hd, unit_mul p2 hd, unit_mul p3 hd]
theorem imgI_len (g : List (List Int)) (v : List Int) : (imgI g v).length = g.length := List.length_map ..
def ledI (g : List (List Int)) (ss : List (List Int)) : List (List Int) := ss.map (imgI g)

theorem nodup_led {n : Nat} {g : List (List Int)} (hn : n = 2 ∨ n = 3) (hq : Sq n g) (hd : detI g = 1 ∨ detI g = -1) : ∀ l : List (List Int), (∀ s ∈ l, s.length = n) → l.Nodup → (l.map (imgI g)).Nodup := by
  intro l
  induction l with
  | nil => intro _ _; exact List.nodup_nil
  | cons x l ih =>
    intro h1 h2
    rw [List.nodup_cons] at h2
    rw [List.map_cons, List.nodup_cons]
    refine ⟨fun hm => ?_, ih (fun s hs => h1 s (List.mem_cons_of_mem _ hs)) h2.2⟩
    obtain ⟨y, hy, ey⟩ := List.mem_map.mp hm
    rw [imgI_inj hn hq hd (h1 y (List.mem_cons_of_mem _ hy)) (h1 x List.mem_cons_self) ey] at hy
    exact h2.1 hy
theorem wf_led {n : Nat} {g lit dim : List (List Int)} (hn : n = 2 ∨ n = 3) (hq : Sq n g) (hd : detI g = 1 ∨ detI g = -1) (h : Wf (n : Int) lit dim) : Wf (n : Int) (ledI g (srt lit)) (ledI g (srt dim)) := by
  have hp : (srt lit ++ srt dim).Perm (lit ++ dim) := (srt_perm lit).append (srt_perm dim)
  have each : ∀ s ∈ srt lit ++ srt dim, s.length = n := fun s hs => by
    have h1 := h.each s (hp.mem_iff.mp hs)
    omega
  have e : ledI g (srt lit) ++ ledI g (srt dim) = (srt lit ++ srt dim).map (imgI g) := (List.map_append ..).symm
  refine ⟨h.size, fun s hs => ?_, ?_, ?_⟩
  · rw [e] at hs
    obtain ⟨t, ht, rfl⟩ := List.mem_map.mp hs
    rw [imgI_len, hq.1]
  · rw [e]
    exact nodup_led hn hq hd _ each (hp.nodup_iff.mpr h.nd)
  · rw [e, List.length_map, hp.length_eq]
    exact h.few
def addI (s v : List Int) : List Int := List.zipWith (· + ·) s v
theorem addI_len {s v : List Int} (h : s.length = v.length) : (addI s v).length = s.length := by
  unfold addI
  rw [List.length_zipWith, h, Nat.min_self]
def movI (v : List Int) (ss : List (List Int)) : List (List Int) := ss.map fun s => addI s v
theorem addI_inj {v : List Int} : ∀ {s t : List Int}, s.length = v.length → t.length = v.length → addI s v = addI t v → s = t := by
  induction v with
  | nil =>
    intro s t h1 h2 _
    rw [List.length_eq_zero_iff.mp h1, List.length_eq_zero_iff.mp h2]
  | cons a v ih =>
    intro s t h1 h2 h
    match s, t, h1, h2, h with
    | x :: s, y :: t, h1, h2, h =>
      unfold addI at h
      rw [List.zipWith_cons_cons, List.zipWith_cons_cons] at h
      injection h with e1 e2
      have e3 := ih (Nat.succ.inj h1) (Nat.succ.inj h2) e2
      have e4 : x = y := by omega
      rw [e3, e4]
theorem wf_moved {n : Int} {lit dim : List (List Int)} {v : List Int} (h : Wf n lit dim) (hv : (v.length : Int) = n) : Wf n (movI v (srt lit)) (movI v (srt dim)) := by
  have hp : (srt lit ++ srt dim).Perm (lit ++ dim) := (srt_perm lit).append (srt_perm dim)
  have each : ∀ s ∈ srt lit ++ srt dim, s.length = v.length := fun s hs => by
    have h1 := h.each s (hp.mem_iff.mp hs)
    omega
  have e : movI v (srt lit) ++ movI v (srt dim) = (srt lit ++ srt dim).map fun s => addI s v := (List.map_append ..).symm
  refine ⟨h.size, fun s hs => ?_, ?_, ?_⟩
  · rw [e] at hs
    obtain ⟨t, ht, rfl⟩ := List.mem_map.mp hs
    rw [addI_len (each t ht), each t ht]
    exact hv
  · rw [e]
    have hn : (srt lit ++ srt dim).Nodup := hp.nodup_iff.mpr h.nd
    have key : ∀ l : List (List Int), (∀ s ∈ l, s.length = v.length) → l.Nodup → (l.map fun s => addI s v).Nodup := by
      intro l
      induction l with
      | nil => intro _ _; exact List.nodup_nil
      | cons x l ih =>
        intro h1 h2
        rw [List.nodup_cons] at h2
        rw [List.map_cons, List.nodup_cons]
        refine ⟨fun hm => ?_, ih (fun s hs => h1 s (List.mem_cons_of_mem _ hs)) h2.2⟩
        obtain ⟨y, hy, ey⟩ := List.mem_map.mp hm
        have := addI_inj (h1 y (List.mem_cons_of_mem _ hy)) (h1 x List.mem_cons_self) ey
        exact h2.1 (this ▸ hy)
    exact key _ each hn
  · rw [e, List.length_map, hp.length_eq]
    exact h.few
def Shp (n : Nat) (g : List (List Int)) : Prop := g.length = n ∧ ∀ m ∈ g, m.length = n
theorem Sq.shp {n : Nat} {g : List (List Int)} (h : Sq n g) : Shp n g := ⟨h.1, fun m hm => (h.2 m hm).1⟩
def rowI (g : List (List Int)) (i : Nat) : List Int := g.getD i []
theorem det_add {n : Nat} {g : List (List Int)} (hn : n = 2 ∨ n = 3) (hs : Shp n g) {i j : Nat} (f : Int) (hi : i < n) (hj : j < n) (ne : i ≠ j) : detI (g.set i (List.zipWith (fun x y => x + f * y) (rowI g i) (rowI g j))) = detI g := by
  obtain ⟨hl, hm⟩ := hs
  rcases hn with rfl | rfl
  · obtain ⟨m1, m2, rfl⟩ := two hl
    obtain ⟨a, b, rfl⟩ := two (hm m1 (by simp))
    obtain ⟨c, d, rfl⟩ := two (hm m2 (by simp))
    have h4 : (i = 0 ∧ j = 1) ∨ (i = 1 ∧ j = 0) := by omega
    rcases h4 with ⟨rfl, rfl⟩ | ⟨rfl, rfl⟩
    · show (a + f * c) * d - (b + f * d) * c = a * d - b * c
      grind
    · show a * (d + f * b) - b * (c + f * a) = a * d - b * c
      grind
  · obtain ⟨m1, m2, m3, rfl⟩ := three hl
    obtain ⟨a, b, c, rfl⟩ := three (hm m1 (by simp))
    obtain ⟨d, e, k, rfl⟩ := three (hm m2 (by simp))
    obtain ⟨p, q, r, rfl⟩ := three (hm m3 (by simp))
    have h6 : (i = 0 ∧ j = 1) ∨ (i = 0 ∧ j = 2) ∨ (i = 1 ∧ j = 0) ∨ (i = 1 ∧ j = 2) ∨ (i = 2 ∧ j = 0) ∨ (i = 2 ∧ j = 1) := by omega
    rcases h6 with ⟨rfl, rfl⟩ | ⟨rfl, rfl⟩ | ⟨rfl, rfl⟩ | ⟨rfl, rfl⟩ | ⟨rfl, rfl⟩ | ⟨rfl, rfl⟩
    · show detI [[a + f * d, b + f * e, c + f * k], [d, e, k], [p, q, r]] = _
      unfold detI
      grind
    · show detI [[a + f * p, b + f * q, c + f * r], [d, e, k], [p, q, r]] = _
      unfold detI
      grind
    · show detI [[a, b, c], [d + f * a, e + f * b, k + f * c], [p, q, r]] = _
      unfold detI
      grind
    · show detI [[a, b, c], [d + f * p, e + f * q, k + f * r], [p, q, r]] = _
      unfold detI
      grind
    · show detI [[a, b, c], [d, e, k], [p + f * a, q + f * b, r + f * c]] = _
      unfold detI
      grind
    · show detI [[a, b, c], [d, e, k], [p + f * d, q + f * e, r + f * k]] = _
      unfold detI
      grind
theorem det_swap {n : Nat} {g : List (List Int)} (hn : n = 2 ∨ n = 3) (hs : Shp n g) {i j : Nat} (hi : i < n) (hj : j < n) (ne : i ≠ j) : detI ((g.set i (rowI g j)).set j (rowI g i)) = - detI g := by
  obtain ⟨hl, hm⟩ := hs
  rcases hn with rfl | rfl
  · obtain ⟨m1, m2, rfl⟩ := two hl
    obtain ⟨a, b, rfl⟩ := two (hm m1 (by simp))
    obtain ⟨c, d, rfl⟩ := two (hm m2 (by simp))
    have h4 : (i = 0 ∧ j = 1) ∨ (i = 1 ∧ j = 0) := by omega
    rcases h4 with ⟨rfl, rfl⟩ | ⟨rfl, rfl⟩ <;>
    · show c * b - d * a = -(a * d - b * c)
      grind
  · obtain ⟨m1, m2, m3, rfl⟩ := three hl
    obtain ⟨a, b, c, rfl⟩ := three (hm m1 (by simp))
    obtain ⟨d, e, k, rfl⟩ := three (hm m2 (by simp))
    obtain ⟨p, q, r, rfl⟩ := three (hm m3 (by simp))
    have h6 : ((i = 0 ∧ j = 1) ∨ (i = 1 ∧ j = 0)) ∨ ((i = 0 ∧ j = 2) ∨ (i = 2 ∧ j = 0)) ∨ ((i = 1 ∧ j = 2) ∨ (i = 2 ∧ j = 1)) := by omega
    rcases h6 with (⟨rfl, rfl⟩ | ⟨rfl, rfl⟩) | (⟨rfl, rfl⟩ | ⟨rfl, rfl⟩) | (⟨rfl, rfl⟩ | ⟨rfl, rfl⟩)
    · show detI [[d, e, k], [a, b, c], [p, q, r]] = _
      unfold detI
      grind
    · show detI [[d, e, k], [a, b, c], [p, q, r]] = _
      unfold detI
      grind
    · show detI [[p, q, r], [d, e, k], [a, b, c]] = _
      unfold detI
      grind
    · show detI [[p, q, r], [d, e, k], [a, b, c]] = _
      unfold detI
      grind
    · show detI [[a, b, c], [p, q, r], [d, e, k]] = _
      unfold detI
      grind
    · show detI [[a, b, c], [p, q, r], [d, e, k]] = _
      unfold detI
      grind
theorem det_neg {n : Nat} {g : List (List Int)} (hn : n = 2 ∨ n = 3) (hs : Shp n g) {i : Nat} (hi : i < n) : detI (g.set i ((rowI g i).map fun x => 0 - x)) = - detI g := by
  obtain ⟨hl, hm⟩ := hs
  rcases hn with rfl | rfl
  · obtain ⟨m1, m2, rfl⟩ := two hl
    obtain ⟨a, b, rfl⟩ := two (hm m1 (by simp))
    obtain ⟨c, d, rfl⟩ := two (hm m2 (by simp))
    have h4 : i = 0 ∨ i = 1 := by omega
    rcases h4 with rfl | rfl
    · show (0 - a) * d - (0 - b) * c = -(a * d - b * c)
      grind
    · show a * (0 - d) - b * (0 - c) = -(a * d - b * c)
      grind
  · obtain ⟨m1, m2, m3, rfl⟩ := three hl
    obtain ⟨a, b, c, rfl⟩ := three (hm m1 (by simp))
    obtain ⟨d, e, k, rfl⟩ := three (hm m2 (by simp))
    obtain ⟨p, q, r, rfl⟩ := three (hm m3 (by simp))
    have h6 : i = 0 ∨ i = 1 ∨ i = 2 := by omega
    rcases h6 with rfl | rfl | rfl
    · show detI [[0 - a, 0 - b, 0 - c], [d, e, k], [p, q, r]] = _
      unfold detI
      grind
    · show detI [[a, b, c], [0 - d, 0 - e, 0 - k], [p, q, r]] = _
      unfold detI
      grind
    · show detI [[a, b, c], [d, e, k], [0 - p, 0 - q, 0 - r]] = _
      unfold detI
      grind

def isSeen (s v : List Int) : Bool := (((gcdL (addI s v) : Nat) : Int) == 1)
def shownB (l d : List (List Int)) (v : List Int) : Bool := l.all (fun s => isSeen s v) && d.all (fun s => !isSeen s v)
theorem all_perm {f : List Int → Bool} {l m : List (List Int)} (h : l.Perm m) : l.all f = m.all f := by
  rw [Bool.eq_iff_iff, List.all_eq_true, List.all_eq_true]
  exact ⟨fun k s hs => k s (h.mem_iff.mpr hs), fun k s hs => k s (h.mem_iff.mp hs)⟩
theorem shownB_srt (l d : List (List Int)) (v : List Int) : shownB (srt l) (srt d) v = shownB l d v := by
  unfold shownB
  rw [all_perm (srt_perm l), all_perm (srt_perm d)]
def pick (ss : List (List Int)) (bs : List Bool) : List (List Int) := ((ss.zip bs).filter (·.2)).map (·.1)
theorem pick_take {ss : List (List Int)} {bs : List Bool} {i : Nat} {s : List Int} {b : Bool} (h1 : ss[i]? = some s) (h2 : bs[i]? = some b) : pick (ss.take (i + 1)) (bs.take (i + 1)) = pick (ss.take i) (bs.take i) ++ if b = true then [s] else [] := by
  have l1 := (List.getElem?_eq_some_iff.mp h1).1
  have l2 := (List.getElem?_eq_some_iff.mp h2).1
  rw [take_more h1, take_more h2]
  unfold pick
  rw [List.zip_append (by rw [List.length_take, List.length_take]; omega), List.filter_append, List.map_append]
  cases b <;> rfl
theorem pick_sub (ss : List (List Int)) (bs : List Bool) : (pick ss bs).Sublist ss := by
  unfold pick
  refine ((List.filter_sublist (p := fun x : List Int × Bool => x.2)).map (fun x => x.1)).trans ?_
  induction ss generalizing bs with
  | nil => exact List.Sublist.refl _
  | cons a ss ih =>
    cases bs with
    | nil => exact List.nil_sublist _
    | cons b bs => exact (ih bs).cons₂ a
theorem mem_pick {s : List Int} {ss : List (List Int)} {bs : List Bool} (h : s ∈ pick ss bs) : ∃ i : Nat, ss[i]? = some s ∧ bs[i]? = some true := by
  obtain ⟨⟨s', b⟩, hx, rfl⟩ := List.mem_map.mp h
  obtain ⟨h1, h2⟩ := List.mem_filter.mp hx
  obtain ⟨i, hi⟩ := List.mem_iff_getElem?.mp h1
  rw [List.getElem?_zip_eq_some] at hi
  refine ⟨i, hi.1, ?_⟩
  rw [hi.2]
  exact congrArg some h2
theorem wf_pick {n : Nat} {ss : List (List Int)} {bs : List Bool} (hn : n = 2 ∨ n = 3) (hl : ∀ s ∈ ss, s.length = n) (nd : ss.Nodup) (hf : ss.length ≤ 1000) : Wf (n : Int) (pick ss bs) (pick ss (bs.map not)) := by
  have u1 := pick_sub ss bs
  have u2 := pick_sub ss (bs.map not)
  refine ⟨by omega, fun s hs => ?_, List.nodup_append.mpr ⟨nd.sublist u1, nd.sublist u2, fun x hx y hy e => ?_⟩, ?_⟩
  · rcases List.mem_append.mp hs with z | z
    · rw [hl s (u1.mem z)]
    · rw [hl s (u2.mem z)]
  · subst e
    obtain ⟨i, i1, i2⟩ := mem_pick hx
    obtain ⟨j, j1, j2⟩ := mem_pick hy
    have e := (List.getElem?_inj (List.getElem?_eq_some_iff.mp i1).1 nd).mp (i1.trans j1.symm)
    subst e
    rw [List.getElem?_map, i2] at j2
    cases j2
  · have h1 := u1.length_le
    have h2 := u2.length_le
    rw [List.length_append]
    omega

theorem dvd_gcdLi {d : Nat} : ∀ {ns : List Int}, d ∣ gcdL ns ↔ ∀ x ∈ ns, (d : Int) ∣ x
  | [] => ⟨(fun _ _ h => nomatch h), fun _ => Nat.dvd_zero d⟩
  | a :: r => by
    rw [gcdL, Nat.dvd_gcd_iff, dvd_gcdLi (ns := r)]
    constructor
    · rintro ⟨h1, h2⟩ y hy
      rcases List.mem_cons.mp hy with z | z
      · rw [z]
        exact Int.ofNat_dvd_left.mpr h1
      · exact h2 y z
    · intro h
      exact ⟨Int.ofNat_dvd_left.mp (h a List.mem_cons_self), fun y hy => h y (List.mem_cons_of_mem _ hy)⟩
theorem dvd_lin {d a x : Int} (h : d ∣ x) : d ∣ a * x := Int.dvd_mul_of_dvd_right h
theorem dvd_unit {d x e : Int} (h : d ∣ x * e) (he : e = 1 ∨ e = -1) : d ∣ x := by
  rcases he with rfl | rfl
  · rwa [Int.mul_one] at h
  · have h2 : x * -1 = -x := by omega
    rw [h2] at h
    exact Int.dvd_neg.mp h
theorem gcdL_img {n : Nat} {g : List (List Int)} (hn : n = 2 ∨ n = 3) (hs : Shp n g) (hd : detI g = 1 ∨ detI g = -1) {v : List Int} (hv : v.length = n) : gcdL (imgI g v) = gcdL v := by
  obtain ⟨hl, hm⟩ := hs
  rcases hn with rfl | rfl
  · obtain ⟨m1, m2, rfl⟩ := two hl
    obtain ⟨a, b, rfl⟩ := two (hm m1 (by simp))
    obtain ⟨c, d, rfl⟩ := two (hm m2 (by simp))
    obtain ⟨x, y, rfl⟩ := two hv
    have e : imgI [[a, b], [c, d]] [x, y] = [a * x + b * y, c * x + d * y] := by
      show [a * x + (b * y + 0), c * x + (d * y + 0)] = _
      rw [Int.add_zero, Int.add_zero]
    rw [e]
    refine Nat.dvd_antisymm ?_ ?_
    · have h := dvd_gcdLi.mp (Nat.dvd_refl (gcdL [a * x + b * y, c * x + d * y]))
      refine dvd_gcdLi.mpr ?_
      generalize ((gcdL [a * x + b * y, c * x + d * y] : Nat) : Int) = D at h ⊢
      have k1 := h (a * x + b * y) (by simp)
      have k2 := h (c * x + d * y) (by simp)
      obtain ⟨p1, p2⟩ := cram2 a b c d x y
      have r1 : D ∣ x := dvd_unit (e := a * d - b * c) (by rw [p1]; exact Int.dvd_sub (dvd_lin k1) (dvd_lin k2)) hd
      have r2 : D ∣ y := dvd_unit (e := a * d - b * c) (by rw [p2]; exact Int.dvd_sub (dvd_lin k2) (dvd_lin k1)) hd
      intro z hz
      simp at hz
      rcases hz with rfl | rfl
      · exact r1
      · exact r2
    · have h := dvd_gcdLi.mp (Nat.dvd_refl (gcdL [x, y]))
      refine dvd_gcdLi.mpr ?_
      generalize ((gcdL [x, y] : Nat) : Int) = D at h ⊢
      have k1 := h x (by simp)
      have k2 := h y (by simp)
      intro z hz
      simp at hz
      rcases hz with rfl | rfl <;> exact Int.dvd_add (dvd_lin k1) (dvd_lin k2)
  · obtain ⟨m1, m2, m3, rfl⟩ := three hl
    obtain ⟨a, b, c, rfl⟩ := three (hm m1 (by simp))
    obtain ⟨d, e, f, rfl⟩ := three (hm m2 (by simp))
    obtain ⟨g, h', k, rfl⟩ := three (hm m3 (by simp))
    obtain ⟨x, y, z, rfl⟩ := three hv
    have e0 : imgI [[a, b, c], [d, e, f], [g, h', k]] [x, y, z] = [a * x + b * y + c * z, d * x + e * y + f * z, g * x + h' * y + k * z] := by
      show [a * x + (b * y + (c * z + 0)), d * x + (e * y + (f * z + 0)), g * x + (h' * y + (k * z + 0))] = _
      rw [Int.add_zero, Int.add_zero, Int.add_zero, ← Int.add_assoc, ← Int.add_assoc, ← Int.add_assoc]
    rw [e0]
    refine Nat.dvd_antisymm ?_ ?_
    · have h := dvd_gcdLi.mp (Nat.dvd_refl (gcdL [a * x + b * y + c * z, d * x + e * y + f * z, g * x + h' * y + k * z]))
      refine dvd_gcdLi.mpr ?_
      generalize ((gcdL [a * x + b * y + c * z, d * x + e * y + f * z, g * x + h' * y + k * z] : Nat) : Int) = D at h ⊢
      have k1 := h (a * x + b * y + c * z) (by simp)
      have k2 := h (d * x + e * y + f * z) (by simp)
      have k3 := h (g * x + h' * y + k * z) (by simp)
      obtain ⟨p1, p2, p3⟩ := cram3 a b c d e f g h' k x y z
      have r1 : D ∣ x := dvd_unit (e := detI [[a, b, c], [d, e, f], [g, h', k]]) (by
        show D ∣ x * (a * (e * k - f * h') - b * (d * k - f * g) + c * (d * h' - e * g))
        rw [p1]; exact Int.dvd_add (Int.dvd_sub (dvd_lin k1) (dvd_lin k2)) (dvd_lin k3)) hd
      have r2 : D ∣ y := dvd_unit (e := detI [[a, b, c], [d, e, f], [g, h', k]]) (by
        show D ∣ y * (a * (e * k - f * h') - b * (d * k - f * g) + c * (d * h' - e * g))
        rw [p2]; exact Int.dvd_sub (Int.dvd_sub (dvd_lin k2) (dvd_lin k1)) (dvd_lin k3)) hd
      have r3 : D ∣ z := dvd_unit (e := detI [[a, b, c], [d, e, f], [g, h', k]]) (by
        show D ∣ z * (a * (e * k - f * h') - b * (d * k - f * g) + c * (d * h' - e * g))
        rw [p3]; exact Int.dvd_add (Int.dvd_sub (dvd_lin k1) (dvd_lin k2)) (dvd_lin k3)) hd
      intro w hw
      simp at hw
      rcases hw with rfl | rfl | rfl
      · exact r1
      · exact r2
      · exact r3
    · have h := dvd_gcdLi.mp (Nat.dvd_refl (gcdL [x, y, z]))
      refine dvd_gcdLi.mpr ?_
      generalize ((gcdL [x, y, z] : Nat) : Int) = D at h ⊢
      have k1 := h x (by simp)
      have k2 := h y (by simp)
      have k3 := h z (by simp)
      intro w hw
      simp at hw
      rcases hw with rfl | rfl | rfl <;> exact Int.dvd_add (Int.dvd_add (dvd_lin k1) (dvd_lin k2)) (dvd_lin k3)
theorem imgI_add {n : Nat} {g : List (List Int)} (hn : n = 2 ∨ n = 3) (hs : Shp n g) {s v : List Int} (hs' : s.length = n) (hv : v.length = n) : addI (imgI g s) (imgI g v) = imgI g (addI s v) := by
  obtain ⟨hl, hm⟩ := hs
  rcases hn with rfl | rfl
  · obtain ⟨m1, m2, rfl⟩ := two hl
    obtain ⟨a, b, rfl⟩ := two (hm m1 (by simp))
    obtain ⟨c, d, rfl⟩ := two (hm m2 (by simp))
    obtain ⟨x, y, rfl⟩ := two hv
    obtain ⟨x', y', rfl⟩ := two hs'
    show [a * x' + (b * y' + 0) + (a * x + (b * y + 0)), c * x' + (d * y' + 0) + (c * x + (d * y + 0))] = [a * (x' + x) + (b * (y' + y) + 0), c * (x' + x) + (d * (y' + y) + 0)]
    congr 1
    · grind
    · congr 1
      grind
  · obtain ⟨m1, m2, m3, rfl⟩ := three hl
    obtain ⟨a, b, c, rfl⟩ := three (hm m1 (by simp))
    obtain ⟨d, e, f, rfl⟩ := three (hm m2 (by simp))
    obtain ⟨g, h', k, rfl⟩ := three (hm m3 (by simp))
    obtain ⟨x, y, z, rfl⟩ := three hv
    obtain ⟨x', y', z', rfl⟩ := three hs'
    show [a * x' + (b * y' + (c * z' + 0)) + (a * x + (b * y + (c * z + 0))), d * x' + (e * y' + (f * z' + 0)) + (d * x + (e * y + (f * z + 0))), g * x' + (h' * y' + (k * z' + 0)) + (g * x + (h' * y + (k * z + 0)))] = [a * (x' + x) + (b * (y' + y) + (c * (z' + z) + 0)), d * (x' + x) + (e * (y' + y) + (f * (z' + z) + 0)), g * (x' + x) + (h' * (y' + y) + (k * (z' + z) + 0))]
    congr 1
    · grind
    · congr 1
      · grind
      · congr 1
        grind
theorem seen_led {n : Nat} {g : List (List Int)} (hn : n = 2 ∨ n = 3) (hs : Shp n g) (hd : detI g = 1 ∨ detI g = -1) {s v : List Int} (hs' : s.length = n) (hv : v.length = n) : isSeen (imgI g s) (imgI g v) = isSeen s v := by
  unfold isSeen
  rw [imgI_add hn hs hs' hv, gcdL_img hn hs hd (by rw [addI_len (hs'.trans hv.symm)]; exact hs')]
theorem shown_led {n : Nat} {g l d : List (List Int)} {v : List Int} (hn : n = 2 ∨ n = 3) (hs : Shp n g) (hd : detI g = 1 ∨ detI g = -1) (hl : ∀ s ∈ l ++ d, s.length = n) (hv : v.length = n) : shownB (ledI g l) (ledI g d) (imgI g v) = shownB l d v := by
  unfold shownB ledI
  rw [List.all_map, List.all_map]
  have e : ∀ {m : List (List Int)}, (∀ s ∈ m, s ∈ l ++ d) → ∀ f : Bool → Bool, m.all ((fun s => f (isSeen s (imgI g v))) ∘ imgI g) = m.all fun s => f (isSeen s v) := fun {m} h f => by
    rw [Bool.eq_iff_iff, List.all_eq_true, List.all_eq_true]
    exact ⟨fun k s hs2 => by have := k s hs2; rw [Function.comp, seen_led hn hs hd (hl s (h s hs2)) hv] at this; exact this, fun k s hs2 => by rw [Function.comp, seen_led hn hs hd (hl s (h s hs2)) hv]; exact k s hs2⟩
  have e1 := e (m := l) (fun s h => List.mem_append.mpr (.inl h)) id
  have e2 := e (m := d) (fun s h => List.mem_append.mpr (.inr h)) not
  exact congr (congrArg and e1) e2

def lessI (ss tt : List (List Int)) : List (List Int) := ss.filter fun s => !decide (s ∈ tt)
theorem wf_less {n : Int} {lit dim : List (List Int)} (tt : List (List Int)) (h : Wf n lit dim) : Wf n (lessI (srt lit) tt) (lessI (srt dim) tt) := by
  have hp : (srt lit ++ srt dim).Perm (lit ++ dim) := (srt_perm lit).append (srt_perm dim)
  have e : lessI (srt lit) tt ++ lessI (srt dim) tt = lessI (srt lit ++ srt dim) tt := (List.filter_append ..).symm
  have sub : (lessI (srt lit ++ srt dim) tt).Sublist (srt lit ++ srt dim) := List.filter_sublist
  refine ⟨h.size, fun s hs => ?_, ?_, ?_⟩
  · rw [e] at hs
    exact h.each s (hp.mem_iff.mp (sub.mem hs))
  · rw [e]
    exact (hp.nodup_iff.mpr h.nd).sublist sub
  · rw [e]
    exact Nat.le_trans sub.length_le (hp.length_eq ▸ h.few)
theorem perm_mid {α : Type} (A B C D : List α) : ((A ++ B) ++ (C ++ D)).Perm ((A ++ C) ++ (B ++ D)) := by
  simp only [List.append_assoc]
  refine List.Perm.append_left A ?_
  rw [← List.append_assoc, ← List.append_assoc]
  exact List.Perm.append_right D List.perm_append_comm
theorem wf_or {n : Int} {l d l' d' : List (List Int)} (hw : Wf n l d) (hw' : Wf n l' d') (hsum : (l ++ d).length + (l' ++ d').length ≤ 100000) : Wf n (srt l ++ lessI (srt l') (l ++ d)) (srt d ++ lessI (srt d') (l ++ d)) := by
  have hp : (srt l ++ srt d).Perm (l ++ d) := (srt_perm l).append (srt_perm d)
  have hp' : (srt l' ++ srt d').Perm (l' ++ d') := (srt_perm l').append (srt_perm d')
  have e : lessI (srt l') (l ++ d) ++ lessI (srt d') (l ++ d) = lessI (srt l' ++ srt d') (l ++ d) := (List.filter_append ..).symm
  have sub : (lessI (srt l' ++ srt d') (l ++ d)).Sublist (srt l' ++ srt d') := List.filter_sublist
  have hm := perm_mid (srt l) (lessI (srt l') (l ++ d)) (srt d) (lessI (srt d') (l ++ d))
  rw [e] at hm
  refine ⟨hw.size, fun s hs => ?_, ?_, ?_⟩
  · rcases List.mem_append.mp (hm.mem_iff.mp hs) with h | h
    · exact hw.each s (hp.mem_iff.mp h)
    · exact hw'.each s (hp'.mem_iff.mp (sub.mem h))
  · refine hm.nodup_iff.mpr (List.nodup_append.mpr ⟨hp.nodup_iff.mpr hw.nd, (hp'.nodup_iff.mpr hw'.nd).sublist sub, fun x hx y hy ex => ?_⟩)
    have h2 := (List.mem_filter.mp hy).2
    rw [decide_eq_true (ex ▸ hp.mem_iff.mp hx)] at h2
    exact absurd h2 (by decide)
  · rw [hm.length_eq, List.length_append, hp.length_eq]
    have h1 := sub.length_le
    rw [hp'.length_eq] at h1
    omega
theorem mem_pick' {s : List Int} {ss : List (List Int)} {bs : List Bool} {i : Nat} (h1 : ss[i]? = some s) (h2 : bs[i]? = some true) : s ∈ pick ss bs :=
  List.mem_map.mpr ⟨(s, true), List.mem_filter.mpr ⟨List.mem_iff_getElem?.mpr ⟨i, List.getElem?_zip_eq_some.mpr ⟨h1, h2⟩⟩, rfl⟩, rfl⟩
def marksI (v : List Int) (ss : List (List Int)) : List Bool := ss.map fun s => isSeen s v
def turnI (bs : List Bool) (k m : Nat) : List Bool := (List.range m).map fun j => (bs.getD j false != (j == k))
theorem shown_marks (v : List Int) (ss : List (List Int)) : shownB (pick ss (marksI v ss)) (pick ss ((marksI v ss).map not)) v = true := by
  unfold shownB
  rw [Bool.and_eq_true, List.all_eq_true, List.all_eq_true]
  refine ⟨fun s hs => ?_, fun s hs => ?_⟩
  · obtain ⟨i, h1, h2⟩ := mem_pick hs
    unfold marksI at h2
    rw [List.getElem?_map, h1] at h2
    exact Option.some.inj h2
  · obtain ⟨i, h1, h2⟩ := mem_pick hs
    unfold marksI at h2
    rw [List.getElem?_map, List.getElem?_map, h1] at h2
    exact Option.some.inj h2
theorem shown_turn {v : List Int} {ss : List (List Int)} {k : Nat} (hk : k < ss.length) : shownB (pick ss (turnI (marksI v ss) k ss.length)) (pick ss ((turnI (marksI v ss) k ss.length).map not)) v = false := by
  have h1 : ss[k]? = some (ss[k]'hk) := List.getElem?_eq_getElem hk
  have h2 : (turnI (marksI v ss) k ss.length)[k]? = some (!(isSeen (ss[k]'hk) v)) := by
    unfold turnI marksI
    rw [List.getElem?_map, List.getElem?_range hk]
    show some ((List.map (fun s => isSeen s v) ss).getD k false != (k == k)) = _
    rw [List.getD_eq_getElem?_getD, List.getElem?_map, h1, beq_self_eq_true]
    show some (isSeen _ v != true) = _
    cases isSeen (ss[k]'hk) v <;> rfl
  have h3 : ((turnI (marksI v ss) k ss.length).map not)[k]? = some (isSeen (ss[k]'hk) v) := by
    rw [List.getElem?_map, h2]
    show some (!!_) = _
    rw [Bool.not_not]
  unfold shownB
  rw [Bool.and_eq_false_iff, List.all_eq_false, List.all_eq_false]
  cases hz : isSeen (ss[k]'hk) v with
  | true =>
    rw [hz] at h3
    exact .inr ⟨_, mem_pick' h1 h3, by rw [hz]; decide⟩
  | false =>
    rw [hz] at h2
    exact .inl ⟨_, mem_pick' h1 h2, by rw [hz]; decide⟩
theorem turn_more (bs : List Bool) (k j : Nat) : turnI bs k (j + 1) = turnI bs k j ++ [bs.getD j false != (j == k)] := by
  unfold turnI
  rw [List.range_succ, List.map_append]
  rfl
theorem turn_len (bs : List Bool) (k j : Nat) : (turnI bs k j).length = j := by
  unfold turnI
  rw [List.length_map, List.length_range]
def unitI (n k : Nat) : List Int := (List.range n).map fun j => if j = k then 1 else 0
def unitG (n m : Nat) : List (List Int) := (List.range m).map (unitI n)
def subI (v o : List Int) : List Int := List.zipWith (· - ·) v o
def negI (v : List Int) : List Int := v.map fun x => 0 - x
theorem add_sub : ∀ {s v o : List Int}, s.length = v.length → o.length = v.length → addI (addI s o) (subI v o) = addI s v
  | [], [], [], _, _ => rfl
  | a :: s, b :: v, c :: o, h1, h2 => by
    have ih := add_sub (s := s) (v := v) (o := o) (Nat.succ.inj h1) (Nat.succ.inj h2)
    show (a + c + (b - c)) :: addI (addI s o) (subI v o) = (a + b) :: addI s v
    rw [ih, show a + c + (b - c) = a + b by omega]
theorem add_neg : ∀ {s v : List Int}, s.length = v.length → addI (addI s (negI v)) (addI v v) = addI s v
  | [], [], _ => rfl
  | a :: s, b :: v, h1 => by
    have ih := add_neg (s := s) (v := v) (Nat.succ.inj h1)
    show (a + (0 - b) + (b + b)) :: addI (addI s (negI v)) (addI v v) = (a + b) :: addI s v
    rw [ih, show a + (0 - b) + (b + b) = a + b by omega]
theorem shown_mov {l d : List (List Int)} {o w v : List Int} (h : ∀ s ∈ l ++ d, addI (addI s o) w = addI s v) : shownB (movI o l) (movI o d) w = shownB l d v := by
  unfold shownB movI
  rw [List.all_map, List.all_map]
  have e : ∀ {m : List (List Int)}, (∀ s ∈ m, s ∈ l ++ d) → ∀ f : Bool → Bool, m.all ((fun s => f (isSeen s w)) ∘ fun s => addI s o) = m.all fun s => f (isSeen s v) := fun {m} hm f => by
    have e2 : ∀ s ∈ m, isSeen (addI s o) w = isSeen s v := fun s hs => by
      unfold isSeen
      rw [h s (hm s hs)]
    rw [Bool.eq_iff_iff, List.all_eq_true, List.all_eq_true]
    exact ⟨fun k s hs2 => by have := k s hs2; rw [Function.comp, e2 s hs2] at this; exact this, fun k s hs2 => by rw [Function.comp, e2 s hs2]; exact k s hs2⟩
  have e1 := e (m := l) (fun s h => List.mem_append.mpr (.inl h)) id
  have e2 := e (m := d) (fun s h => List.mem_append.mpr (.inr h)) not
  exact congr (congrArg and e1) e2
theorem wf_take {n : Nat} {ss : List (List Int)} {bs : List Bool} (hn : n = 2 ∨ n = 3) (hl : ∀ s ∈ ss, s.length = n) (nd : ss.Nodup) (hf : ss.length ≤ 1000) (i j : Nat) : Wf (n : Int) ((pick ss bs).take i) ((pick ss (bs.map not)).take j) := by
  have w := wf_pick (bs := bs) hn hl nd hf
  have u1 := List.take_sublist i (pick ss bs)
  have u2 := List.take_sublist j (pick ss (bs.map not))
  have u := u1.append u2
  refine ⟨w.size, fun s hs => w.each s (u.mem hs), w.nd.sublist u, ?_⟩
  have h1 := u.length_le
  have h2 := w.few
  omega

theorem addI_take {s v : List Int} {i : Nat} {x y : Int} (hx : s[i]? = some x) (hy : v[i]? = some y) : addI (s.take (i + 1)) (v.take (i + 1)) = addI (s.take i) (v.take i) ++ [x + y] := by
  have h1 := (List.getElem?_eq_some_iff.mp hx).1
  have h2 := (List.getElem?_eq_some_iff.mp hy).1
  have hl : (s.take i).length = (v.take i).length := by rw [List.length_take, List.length_take]; omega
  rw [take_more hx, take_more hy]
  unfold addI
  rw [List.zipWith_append hl]
  rfl
theorem movI_take {ss : List (List Int)} {v : List Int} {i : Nat} {s : List Int} (h : ss[i]? = some s) : movI v (ss.take (i + 1)) = movI v (ss.take i) ++ [addI s v] := by
  rw [take_more h]
  unfold movI
  rw [List.map_append]
  rfl
theorem addI_assoc : ∀ s v w : List Int, addI (addI s v) w = addI s (addI v w)
  | [], _, _ => by simp [addI]
  | _ :: _, [], _ => by simp [addI]
  | _ :: _, _ :: _, [] => by simp [addI]
  | x :: s, y :: v, z :: w => by
    have ih := addI_assoc s v w
    unfold addI at ih ⊢
    rw [List.zipWith_cons_cons, List.zipWith_cons_cons, List.zipWith_cons_cons, List.zipWith_cons_cons, ih, Int.add_assoc]
theorem movI_mov (v w : List Int) (ss : List (List Int)) : movI w (movI v ss) = movI (addI v w) ss := by
  unfold movI
  rw [List.map_map]
  exact List.map_congr_left fun s _ => addI_assoc s v w
theorem movI_perm {ss tt : List (List Int)} (v : List Int) (h : ss.Perm tt) : (movI v ss).Perm (movI v tt) := h.map _
theorem addI_neg : ∀ {s v : List Int}, s.length = v.length → addI s (addI v (v.map fun a => 0 - a)) = s
  | [], [], _ => rfl
  | x :: s, y :: v, h => by
    have ih := addI_neg (s := s) (v := v) (Nat.succ.inj h)
    unfold addI at ih ⊢
    rw [List.map_cons, List.zipWith_cons_cons, List.zipWith_cons_cons, ih]
    have e : x + (y + (0 - y)) = x := by omega
    rw [e]
theorem addI_zero : ∀ {n : Nat} {s : List Int}, s.length = n → addI s (List.replicate n 0) = s
  | 0, [], _ => rfl
  | n + 1, x :: s, h => by
    have ih := addI_zero (n := n) (s := s) (Nat.succ.inj h)
    unfold addI at ih ⊢
    rw [List.replicate_succ, List.zipWith_cons_cons, ih, Int.add_zero]
theorem movI_id {ss : List (List Int)} {v : List Int} (h : ∀ s ∈ ss, addI s v = s) : movI v ss = ss := by
  unfold movI
  conv => rhs; rw [← List.map_id ss]
  exact List.map_congr_left h
theorem mov_srt (v : List Int) (l : List (List Int)) : (movI v l).Perm (movI v (srt l)) := movI_perm v (srt_perm l).symm
theorem mov_twice (v w : List Int) (l : List (List Int)) : (movI (addI v w) l).Perm (movI w (srt (movI v (srt l)))) := by
  rw [← movI_mov]
  exact movI_perm w ((mov_srt v l).trans (srt_perm _).symm)
def minL : List Int → Int
  | [] => 0
  | [a] => a
  | a :: b :: r => if a ≤ minL (b :: r) then a else minL (b :: r)
theorem minL_le : ∀ {l : List Int} {a : Int}, a ∈ l → minL l ≤ a
  | [a], x, h => by rw [List.mem_singleton.mp h]; exact Int.le_refl _
  | a :: b :: r, x, h => by
    have ih := fun {y} (hy : y ∈ b :: r) => minL_le hy
    unfold minL
    rcases List.mem_cons.mp h with e | e
    · subst e
      split <;> omega
    · have := ih e
      split <;> omega
theorem minL_mem : ∀ {l : List Int}, l ≠ [] → minL l ∈ l
  | [a], _ => List.mem_singleton.mpr rfl
  | a :: b :: r, _ => by
    have ih := minL_mem (l := b :: r) (by simp)
    unfold minL
    split
    · exact List.mem_cons_self
    · exact List.mem_cons_of_mem _ ih
theorem minL_eq {l : List Int} {m : Int} (h : m ∈ l) (k : ∀ y ∈ l, m ≤ y) : m = minL l := by
  have h1 := minL_le h
  have h2 := k _ (minL_mem (List.ne_nil_of_mem h))
  omega
def cornI (n : Nat) (ss : List (List Int)) : List Int := (List.range n).map fun j => minL (ss.map fun s => s.getD j 0)
theorem cornI_len (n : Nat) (ss : List (List Int)) : (cornI n ss).length = n := by
  unfold cornI
  rw [List.length_map, List.length_range]
theorem minL_perm {l m : List Int} (h : l.Perm m) : minL l = minL m := by
  by_cases e : l = []
  · subst e
    rw [h.symm.eq_nil]
  · exact minL_eq (h.mem_iff.mp (minL_mem e)) fun y hy => minL_le (h.mem_iff.mpr hy)
theorem cornI_perm {n : Nat} {ss tt : List (List Int)} (h : ss.Perm tt) : cornI n ss = cornI n tt := by
  unfold cornI
  exact List.map_congr_left fun j _ => minL_perm (h.map _)
def backI (n : Nat) (ss : List (List Int)) : List Int := (cornI n ss).map fun a => 0 - a
theorem backI_len (n : Nat) (ss : List (List Int)) : (backI n ss).length = n := by
  unfold backI
  rw [List.length_map, cornI_len]
theorem addI_zip : ∀ s v : List Int, (s.zip v).map (fun q => q.1 + q.2) = addI s v
  | [], _ => by simp [addI]
  | _ :: _, [] => by simp [addI]
  | x :: s, y :: v => by
    have ih := addI_zip s v
    unfold addI at ih ⊢
    rw [List.zip_cons_cons, List.map_cons, List.zipWith_cons_cons, ih]
theorem rng_nat {n : Nat} {a : Int} (h : a ∈ rng 0 n) : ∃ i : Nat, a = (i : Int) ∧ i < n := by
  obtain ⟨h1, h2⟩ := rng_mem.mp h
  exact ⟨a.toNat, by omega, by omega⟩
theorem rng_map {α : Type} (n : Nat) (f : Int → α) : (rng 0 n).map f = (List.range n).map (fun i : Nat => f (i : Int)) := by
  unfold rng
  rw [List.map_map]
  exact List.map_congr_left fun i _ => by show f (0 + (i : Int)) = _; rw [Int.zero_add]
theorem map_range_getD {n : Nat} {s : List Int} (h : s.length = n) : (List.range n).map (fun i => s.getD i 0) = s := by
  refine List.ext_getElem? fun i => ?_
  rw [List.getElem?_map]
  by_cases hi : i < n
  · rw [List.getElem?_range hi, List.getElem?_eq_getElem (show i < s.length by omega)]
    show some (s.getD i 0) = _
    rw [List.getD_eq_getElem?_getD, List.getElem?_eq_getElem (show i < s.length by omega)]
    rfl
  · rw [List.getElem?_eq_none (by rw [List.length_range]; omega), List.getElem?_eq_none (by omega)]
    rfl
theorem zip_range {s v : List Int} (h : s.length = v.length) (f : Int → Int → Int) : (rng 0 s.length).map (fun i => f (s.getD i.toNat 0) (v.getD i.toNat 0)) = List.zipWith f s v := by
  rw [rng_map]
  refine List.ext_getElem? fun i => ?_
  rw [List.getElem?_map, List.getElem?_zipWith]
  by_cases hi : i < s.length
  · have hv : i < v.length := by omega
    rw [List.getElem?_range hi, List.getElem?_eq_getElem hi, List.getElem?_eq_getElem hv]
    show some (f (s.getD ((i : Int)).toNat 0) (v.getD ((i : Int)).toNat 0)) = some (f s[i] v[i])
    rw [Int.toNat_natCast, List.getD_eq_getElem?_getD, List.getD_eq_getElem?_getD, List.getElem?_eq_getElem hi, List.getElem?_eq_getElem hv]
    rfl
  · rw [List.getElem?_eq_none (by rw [List.length_range]; omega), List.getElem?_eq_none (by omega)]
    rfl
theorem rng_add {s v : List Int} (h : s.length = v.length) : (rng 0 s.length).map (fun i => s.getD i.toNat 0 + v.getD i.toNat 0) = addI s v := zip_range h fun a b => a + b
theorem lc_rng {δ β : Type} {f : Int → δ → Res (Er × δ) (Option β × δ)} {d : δ} {N : Nat} {g : Nat → Option β} {G : Nat → List β} (hN : N ≤ sizeLine) (h : ∀ i, i < N → f (i : Int) d = .ok (g i, d)) (h0 : G 0 = []) (hs : ∀ i, i < N → G (i + 1) = G i ++ (g i).toList) : lcA f (rng 0 N) d = .ok (G N, d) := by
  rw [lcA_pure (g := fun a => g a.toNat) (by simpa [rng] using hN) (fun a ha => by
    obtain ⟨i, rfl, hi⟩ := rng_nat ha
    rw [h i hi, Int.toNat_natCast])]
  congr 2
  have key : ∀ i, i ≤ N → (rng 0 i).filterMap (fun a => g a.toNat) = G i := by
    intro i
    induction i with
    | zero => intro _; rw [h0]; rfl
    | succ i ih =>
      intro hi
      have e : rng 0 (i + 1) = rng 0 i ++ [(i : Int)] := by
        unfold rng
        rw [List.range_succ, List.map_append]
        simp
      rw [e, List.filterMap_append, ih (by omega), hs i (by omega)]
      first | (congr 1; done) | (cases g i <;> rfl)
  exact key N (Nat.le_refl _)
theorem pick_lc {δ : Type} {f : Int → δ → Res (Er × δ) (Option (List Int) × δ)} {d : δ} {ss : List (List Int)} {bs : List Bool} (hl : bs.length = ss.length) (hz : ss.length ≤ sizeLine) (h : ∀ (i : Nat) (s : List Int) (b : Bool), ss[i]? = some s → bs[i]? = some b → f (i : Int) d = .ok (if b = true then some s else none, d)) : lcA f (rng 0 ss.length) d = .ok (pick ss bs, d) := by
  rw [lc_rng (g := fun i => if bs.getD i false = true then some (ss.getD i []) else none) (G := fun i => pick (ss.take i) (bs.take i)) hz (fun i hi => ?_) rfl (fun i hi => ?_)]
  · rw [List.take_length, ← hl, List.take_length]
  · have e1 := List.getElem?_eq_getElem hi
    have e2 := List.getElem?_eq_getElem (show i < bs.length by omega)
    rw [h i _ _ e1 e2, List.getD_eq_getElem?_getD, List.getD_eq_getElem?_getD, e1, e2]
    rfl
  · have e1 := List.getElem?_eq_getElem hi
    have e2 := List.getElem?_eq_getElem (show i < bs.length by omega)
    rw [pick_take e1 e2, List.getD_eq_getElem?_getD, List.getD_eq_getElem?_getD, e1, e2]
    show _ ++ (if bs[i] = true then [ss[i]] else []) = _ ++ (if bs[i] = true then some ss[i] else none).toList
    cases bs[i] <;> rfl
section
variable {α β δ W : Type} {S : W → Prop} {P : β → Prop}
theorem lc_well {f : α → W × δ → Res (Er × W × δ) (Option β × W × δ)} {xs : List α} {w : W} {e : δ} (hl : xs.length ≤ sizeLine) (hw : S w) (hf : ∀ a w, S w → ∃ r w', f a (w, e) = .ok (some r, (w', e)) ∧ P r ∧ S w') : ∃ zs w', lcA f xs (w, e) = .ok (zs, (w', e)) ∧ zs.length = xs.length ∧ (∀ z ∈ zs, P z) ∧ S w' := by
  obtain ⟨zs, ⟨w', e'⟩, e4, h1, h2, h3, h4⟩ := lcA_inv (f := f) (fun i ys d => ys.length = i ∧ (∀ z ∈ ys, P z) ∧ S d.1 ∧ d.2 = e) (xs := xs) (d := (w, e)) hl ⟨rfl, fun _ z => absurd z List.not_mem_nil, hw, rfl⟩ (fun i a ys d _ ⟨h1, h2, h3, h4⟩ => by
    obtain ⟨w, e'⟩ := d
    obtain rfl : e' = e := h4
    obtain ⟨r, w', g, hp, hs⟩ := hf a w h3
    refine ⟨some r, (w', e'), g, by rw [List.length_append, h1]; rfl, fun z hz => ?_, hs, rfl⟩
    rcases List.mem_append.mp hz with q | q
    · exact h2 z q
    · have : z = r := by simpa using q
      exact this ▸ hp)
  obtain rfl : e' = e := h4
  exact ⟨zs, w', e4, h1, h2, h3⟩
theorem lc_wellF {f : α → W × δ → Res (Er × W × δ) (Option α × W × δ)} {xs : List α} {w : W} {e : δ} (hl : xs.length ≤ sizeLine) (hw : S w) (hf : ∀ a w, S w → ∃ (b : Bool) (w' : W), f a (w, e) = .ok (if b = true then some a else none, (w', e)) ∧ S w') : ∃ zs w', lcA f xs (w, e) = .ok (zs, (w', e)) ∧ zs.Sublist xs ∧ S w' := by
  obtain ⟨zs, ⟨w', e'⟩, e4, h1, h3, h4⟩ := lcA_inv (f := f) (fun i ys d => ys.Sublist (xs.take i) ∧ S d.1 ∧ d.2 = e) (xs := xs) (d := (w, e)) hl ⟨List.nil_sublist _, hw, rfl⟩ (fun i a ys d hi ⟨h1, h3, h4⟩ => by
    obtain ⟨w, e'⟩ := d
    obtain rfl : e' = e := h4
    obtain ⟨b, w', g, hs⟩ := hf a w h3
    refine ⟨_, (w', e'), g, ?_, hs, rfl⟩
    rw [take_more hi]
    cases b with
    | true => exact h1.append (List.Sublist.refl _)
    | false => exact h1.append (List.nil_sublist _))
  obtain rfl : e' = e := h4
  rw [List.take_length] at h1
  exact ⟨zs, w', e4, h1, h3⟩
end
theorem dGet_put {κ α : Type} [DecidableEq κ] (k : κ) (v : α) (s : κ) : ∀ D : List (κ × α), (dGet (dPut D k v) s).isSome = ((dGet D s).isSome || decide (s = k)) := fun D => by
  cases h : dGet D k with
  | none =>
    rw [dPut_new v h, dGet_app, dGet_cons]
    by_cases e : k = s
    · subst e; rw [h, if_pos rfl, decide_eq_true rfl]; rfl
    · rw [if_neg e, decide_eq_false (fun z => e z.symm)]
      cases dGet D s <;> rfl
  | some a =>
    unfold dPut
    rw [dGet_any, h]
    show (dGet (D.map _) s).isSome = _
    have key : ∀ E : List (κ × α), (dGet (E.map fun q => if q.1 = k then (q.1, v) else q) s).isSome = (dGet E s).isSome := by
      intro E
      induction E with
      | nil => rfl
      | cons q E ih =>
        rw [List.map_cons, dGet_cons, dGet_cons]
        by_cases e1 : q.1 = k
        · rw [if_pos e1]
          by_cases e2 : q.1 = s
          · rw [if_pos e2, if_pos e2]; rfl
          · rw [if_neg e2, if_neg e2, ih]
        · rw [if_neg e1]
          by_cases e2 : q.1 = s
          · rw [if_pos e2, if_pos e2]
          · rw [if_neg e2, if_neg e2, ih]
    rw [key]
    by_cases e : s = k
    · rw [e, h]; rfl
    · rw [decide_eq_false e, Bool.or_false]
theorem dPut_len {κ α : Type} [DecidableEq κ] (k : κ) (v : α) (D : List (κ × α)) : (dPut D k v).length ≤ D.length + 1 := by
  unfold dPut
  split
  · rw [List.length_map]; omega
  · rw [List.length_append]; exact Nat.le_refl _
theorem forB_find {α τ δ ε κ ρ : Type} {f : α → τ → δ → Bk ε (τ × δ) (τ × δ) ρ} {s : τ} {d : δ} {c : α → Bool} {e : α → ε} : ∀ {xs : List α}, (∀ a ∈ xs, c a = true → f a s d = .ex (e a)) → (∀ a ∈ xs, c a = false → f a s d = .nx (s, d)) → (forB f xs s d : Bk ε (τ × δ) κ ρ) = match xs.find? c with | some a => .ex (e a) | none => .nx (s, d)
  | [], _, _ => rfl
  | a :: xs, h1, h2 => by
    cases hc : c a with
    | true => rw [forB, h1 a List.mem_cons_self hc, List.find?_cons_of_pos hc]
    | false =>
      rw [forB, h2 a List.mem_cons_self hc, List.find?_cons_of_neg (by rw [hc]; decide)]
      exact forB_find (fun y hy => h1 y (List.mem_cons_of_mem _ hy)) (fun y hy => h2 y (List.mem_cons_of_mem _ hy))
theorem srt_filter (c : List Int → Bool) (xs : List (List Int)) : (srt xs).filter c = srt (xs.filter c) := by
  have h1 : ((srt xs).filter c).Perm (xs.filter c) := (srt_perm xs).filter c
  refine List.Perm.eq_of_pairwise (le := fun a b => tleI a b = true) (fun a b _ _ h k => tleI_anti a b h k) ?_ (srt_sorted _) (h1.trans (srt_perm _).symm)
  exact (srt_sorted xs).sublist List.filter_sublist
theorem find_head {α : Type} (c : α → Bool) : ∀ xs : List α, xs.find? c = (xs.filter c).head?
  | [] => rfl
  | a :: xs => by
    cases h : c a with
    | true => rw [List.find?_cons_of_pos h, List.filter_cons_of_pos h]; rfl
    | false => rw [List.find?_cons_of_neg (by rw [h]; decide), List.filter_cons_of_neg (by rw [h]; decide), find_head c xs]
theorem srt_nil_iff {xs : List (List Int)} : srt xs = [] ↔ xs = [] := by
  constructor
  · intro h
    have := srt_len xs
    rw [h] at this
    exact List.length_eq_zero_iff.mp this.symm
  · intro h; subst h; exact List.length_eq_zero_iff.mp (srt_len [])
/-- where the words of two pictures differ -/
def cflB (l d l' d' : List (List Int)) (s : List Int) : Bool := decide ((s ∈ l ∧ s ∈ d') ∨ (s ∈ d ∧ s ∈ l'))
theorem IsPic.ext {p : Pict} {n : Int} {a b l d : List (List Int)} (h : IsPic p n a b) (h1 : ∀ s, s ∈ a ↔ s ∈ l) (h2 : ∀ s, s ∈ b ↔ s ∈ d) (n1 : l.Nodup) (n2 : d.Nodup) : IsPic p n l d := by
  have hnd := List.nodup_append.mp h.wf.nd
  exact h.perm ((List.perm_ext_iff_of_nodup hnd.1 n1).mpr h1) ((List.perm_ext_iff_of_nodup hnd.2.1 n2).mpr h2)
/-! two pictures that stand against each other at X -/
structure Opp (L D X Lf Rt : List (List Int)) : Prop where
  nd : (L ++ D).Nodup
  nf : (Lf ++ Rt).Nodup
  nx : X.Nodup
  sub : ∀ s ∈ X, s ∈ L ∨ s ∈ D
  left : ∀ s, s ∈ Lf ↔ (s ∈ L ∧ s ∉ X) ∨ (s ∈ D ∧ s ∈ X)
  right : ∀ s, s ∈ Rt ↔ (s ∈ D ∧ s ∉ X) ∨ (s ∈ L ∧ s ∈ X)
theorem Opp.dis {L D X Lf Rt : List (List Int)} (h : Opp L D X Lf Rt) {s : List Int} (a : s ∈ L) : s ∉ D := fun b => (List.nodup_append.mp h.nd).2.2 s a s b rfl
theorem Opp.one {L D X Lf Rt : List (List Int)} (h : Opp L D X Lf Rt) : srt ((L ++ D).filter (cflB L D Lf Rt)) = srt X := by
  refine srt_of_perm ((List.perm_ext_iff_of_nodup (h.nd.sublist List.filter_sublist) h.nx).mpr fun s => ?_)
  rw [List.mem_filter, List.mem_append]
  unfold cflB
  rw [decide_eq_true_iff, h.left, h.right]
  have h1 := h.sub s
  have h2 : s ∈ L → s ∉ D := h.dis
  constructor
  · rintro ⟨_, ⟨a, (⟨b, _⟩ | ⟨_, b⟩)⟩ | ⟨a, (⟨b, _⟩ | ⟨_, b⟩)⟩⟩
    · exact absurd b (h2 a)
    · exact b
    · exact absurd a (h2 b)
    · exact b
  · intro hx
    rcases h1 hx with a | a
    · exact ⟨.inl a, .inl ⟨a, .inr ⟨a, hx⟩⟩⟩
    · exact ⟨.inr a, .inr ⟨a, .inr ⟨a, hx⟩⟩⟩
theorem Opp.two {L D X Lf Rt : List (List Int)} (h : Opp L D X Lf Rt) : srt ((Lf ++ Rt).filter (cflB Lf Rt L D)) = srt X := by
  refine srt_of_perm ((List.perm_ext_iff_of_nodup (h.nf.sublist List.filter_sublist) h.nx).mpr fun s => ?_)
  rw [List.mem_filter, List.mem_append]
  unfold cflB
  rw [decide_eq_true_iff, h.left, h.right]
  have h1 := h.sub s
  have h2 : s ∈ L → s ∉ D := h.dis
  constructor
  · rintro ⟨_, ⟨(⟨b, _⟩ | ⟨_, b⟩), a⟩ | ⟨(⟨b, _⟩ | ⟨_, b⟩), a⟩⟩
    · exact absurd a (h2 b)
    · exact b
    · exact absurd b (h2 a)
    · exact b
  · intro hx
    rcases h1 hx with a | a
    · exact ⟨.inr (.inr ⟨a, hx⟩), .inr ⟨.inr ⟨a, hx⟩, a⟩⟩
    · exact ⟨.inl (.inr ⟨a, hx⟩), .inl ⟨.inr ⟨a, hx⟩, a⟩⟩
/-- the rest of the other one: what it shares -/
structure Shr (L D P Q : List (List Int)) : Prop where
  nd : (L ++ D).Nodup
  left : ∀ s ∈ P, s ∈ L
  right : ∀ s ∈ Q, s ∈ D
theorem Opp.shr {L D X Lf Rt : List (List Int)} (h : Opp L D X Lf Rt) : Shr L D (lessI (srt Lf) (X ++ [])) (lessI (srt Rt) (X ++ [])) where
  nd := h.nd
  left := fun s hs => by
    unfold lessI at hs
    rw [List.mem_filter, (srt_perm Lf).mem_iff, h.left, List.append_nil, Bool.not_eq_true', decide_eq_false_iff_not] at hs
    obtain ⟨a, b⟩ := hs
    rcases a with a | a
    · exact a.1
    · exact absurd a.2 b
  right := fun s hs => by
    unfold lessI at hs
    rw [List.mem_filter, (srt_perm Rt).mem_iff, h.right, List.append_nil, Bool.not_eq_true', decide_eq_false_iff_not] at hs
    obtain ⟨a, b⟩ := hs
    rcases a with a | a
    · exact a.1
    · exact absurd a.2 b
theorem Shr.dis {L D P Q : List (List Int)} (h : Shr L D P Q) {s : List Int} (a : s ∈ L) : s ∉ D := fun b => (List.nodup_append.mp h.nd).2.2 s a s b rfl
theorem Shr.one {L D P Q : List (List Int)} (h : Shr L D P Q) : (L ++ D).filter (cflB L D P Q) = [] := by
  refine List.filter_eq_nil_iff.mpr fun s _ hc => ?_
  unfold cflB at hc
  rcases of_decide_eq_true hc with ⟨a, b⟩ | ⟨a, b⟩
  · exact h.dis a (h.right s b)
  · exact h.dis (h.left s b) a
theorem Shr.two {L D P Q : List (List Int)} (h : Shr L D P Q) : (P ++ Q).filter (cflB P Q L D) = [] := by
  refine List.filter_eq_nil_iff.mpr fun s _ hc => ?_
  unfold cflB at hc
  rcases of_decide_eq_true hc with ⟨a, b⟩ | ⟨a, b⟩
  · exact h.dis (h.left s a) b
  · exact h.dis b (h.right s a)
theorem mem_less {s : List Int} {ss tt : List (List Int)} : s ∈ lessI ss tt ↔ s ∈ ss ∧ s ∉ tt := by
  unfold lessI
  rw [List.mem_filter, Bool.not_eq_true', decide_eq_false_iff_not]
theorem Shr.oneL {L D P Q : List (List Int)} (h : Shr L D P Q) (s : List Int) : s ∈ srt L ++ lessI (srt P) (L ++ D) ↔ s ∈ L := by
  rw [List.mem_append, (srt_perm L).mem_iff, mem_less, (srt_perm P).mem_iff]
  exact ⟨fun z => z.elim id fun z => h.left s z.1, .inl⟩
theorem Shr.oneD {L D P Q : List (List Int)} (h : Shr L D P Q) (s : List Int) : s ∈ srt D ++ lessI (srt Q) (L ++ D) ↔ s ∈ D := by
  rw [List.mem_append, (srt_perm D).mem_iff, mem_less, (srt_perm Q).mem_iff]
  exact ⟨fun z => z.elim id fun z => h.right s z.1, .inl⟩
theorem Shr.twoL {L D P Q : List (List Int)} (h : Shr L D P Q) (s : List Int) : s ∈ srt P ++ lessI (srt L) (P ++ Q) ↔ s ∈ L := by
  rw [List.mem_append, (srt_perm P).mem_iff, mem_less, (srt_perm L).mem_iff]
  constructor
  · exact fun z => z.elim (h.left s) fun z => z.1
  · intro z
    by_cases q : s ∈ P ++ Q
    · rcases List.mem_append.mp q with q | q
      · exact .inl q
      · exact absurd (h.right s q) (h.dis z)
    · exact .inr ⟨z, q⟩
theorem Shr.twoD {L D P Q : List (List Int)} (h : Shr L D P Q) (s : List Int) : s ∈ srt Q ++ lessI (srt D) (P ++ Q) ↔ s ∈ D := by
  rw [List.mem_append, (srt_perm Q).mem_iff, mem_less, (srt_perm D).mem_iff]
  constructor
  · exact fun z => z.elim (h.right s) fun z => z.1
  · intro z
    by_cases q : s ∈ P ++ Q
    · rcases List.mem_append.mp q with q | q
      · exact absurd z (h.dis (h.left s q))
      · exact .inl q
    · exact .inr ⟨z, q⟩
/-- where a grid and a shift lead a place -/
def goI (g : List (List Int)) (v s : List Int) : List Int := addI (imgI g s) v
theorem goI_len {n : Nat} {g : List (List Int)} {v s : List Int} (hs : Sq n g) (hv : v.length = n) : (goI g v s).length = n := by
  unfold goI
  rw [addI_len (by rw [imgI_len, hs.1, hv]), imgI_len, hs.1]
theorem goI_inj {n : Nat} {g : List (List Int)} {v s t : List Int} (hn : n = 2 ∨ n = 3) (hs : Sq n g) (hd : detI g = 1 ∨ detI g = -1) (hv : v.length = n) (l1 : s.length = n) (l2 : t.length = n) (e : goI g v s = goI g v t) : s = t := imgI_inj hn hs hd l1 l2 (addI_inj (by rw [imgI_len, hs.1, hv]) (by rw [imgI_len, hs.1, hv]) e)
theorem mem_go {n : Nat} {g : List (List Int)} {v s : List Int} (hn : n = 2 ∨ n = 3) (hs : Sq n g) (hd : detI g = 1 ∨ detI g = -1) (hv : v.length = n) (l1 : s.length = n) {ss : List (List Int)} (h : ∀ t ∈ ss, t.length = n) : goI g v s ∈ ss.map (goI g v) ↔ s ∈ ss := by
  constructor
  · intro z
    obtain ⟨t, ht, e⟩ := List.mem_map.mp z
    exact goI_inj hn hs hd hv (h t ht) l1 e ▸ ht
  · exact fun z => List.mem_map.mpr ⟨s, z, rfl⟩
theorem nodup_go {n : Nat} {g : List (List Int)} {v : List Int} (hn : n = 2 ∨ n = 3) (hs : Sq n g) (hd : detI g = 1 ∨ detI g = -1) (hv : v.length = n) : ∀ {ss : List (List Int)}, (∀ t ∈ ss, t.length = n) → ss.Nodup → (ss.map (goI g v)).Nodup
  | [], _, _ => List.nodup_nil
  | a :: ss, h, nd => by
    rw [List.nodup_cons] at nd
    rw [List.map_cons, List.nodup_cons]
    refine ⟨fun z => nd.1 ((mem_go hn hs hd hv (h a List.mem_cons_self) fun t ht => h t (List.mem_cons_of_mem _ ht)).mp z), nodup_go hn hs hd hv (fun t ht => h t (List.mem_cons_of_mem _ ht)) nd.2⟩
theorem go_perm (g : List (List Int)) (v : List Int) (a : List (List Int)) : (movI v (srt (ledI g (srt a)))).Perm (a.map (goI g v)) := by
  have h1 : (srt (ledI g (srt a))).Perm (ledI g a) := (srt_perm _).trans ((srt_perm a).map (imgI g))
  have h2 : (movI v (srt (ledI g (srt a)))).Perm (movI v (ledI g a)) := h1.map fun s => addI s v
  have e : movI v (ledI g a) = a.map (goI g v) := by unfold movI ledI; rw [List.map_map]; rfl
  rwa [e] at h2
/-- the sides turned about at X -/
theorem turn_perm (l d : List (List Int)) (c : List Int → Bool) : ((l.filter (fun s => !c s) ++ d.filter c) ++ (d.filter (fun s => !c s) ++ l.filter c)).Perm (l ++ d) := by
  have h1 : (l.filter (fun s => !c s) ++ l.filter c).Perm l := List.perm_append_comm.trans (List.filter_append_perm c l)
  have h2 : (d.filter c ++ d.filter (fun s => !c s)).Perm d := List.filter_append_perm c d
  refine ((List.Perm.refl _).append List.perm_append_comm).trans ?_
  exact (perm_mid _ _ _ _).trans (h1.append h2)
theorem opp_go {n : Nat} {g : List (List Int)} {v : List Int} {l d X : List (List Int)} (hn : n = 2 ∨ n = 3) (hs : Sq n g) (hd : detI g = 1 ∨ detI g = -1) (hv : v.length = n) (hw : Wf (n : Int) l d) (hX : X.Sublist (l ++ d)) : Opp (l.map (goI g v)) (d.map (goI g v)) (X.map (goI g v)) ((l.filter (fun s => !decide (s ∈ X)) ++ d.filter (fun s => decide (s ∈ X))).map (goI g v)) ((d.filter (fun s => !decide (s ∈ X)) ++ l.filter (fun s => decide (s ∈ X))).map (goI g v)) := by
  have each : ∀ s ∈ l ++ d, s.length = n := fun s hs => by have := hw.each s hs; omega
  have el : ∀ s ∈ l, s.length = n := fun s hs => each s (List.mem_append.mpr (.inl hs))
  have ed : ∀ s ∈ d, s.length = n := fun s hs => each s (List.mem_append.mpr (.inr hs))
  have eX : ∀ s ∈ X, s.length = n := fun s hs => each s (hX.mem hs)
  have ml : ∀ {s : List Int}, s.length = n → ∀ {ss : List (List Int)}, (∀ t ∈ ss, t.length = n) → (goI g v s ∈ ss.map (goI g v) ↔ s ∈ ss) := fun {s} l1 {ss} h => mem_go hn hs hd hv l1 h
  have tp := turn_perm l d fun s => decide (s ∈ X)
  refine ⟨?_, ?_, nodup_go hn hs hd hv eX (hw.nd.sublist hX), fun s hs => ?_, fun s => ?_, fun s => ?_⟩
  · rw [← List.map_append]
    exact nodup_go hn hs hd hv each hw.nd
  · rw [← List.map_append]
    exact nodup_go hn hs hd hv (fun t ht => each t (tp.mem_iff.mp ht)) (tp.nodup_iff.mpr hw.nd)
  · obtain ⟨t, ht, rfl⟩ := List.mem_map.mp hs
    rcases List.mem_append.mp (hX.mem ht) with z | z
    · exact .inl (List.mem_map.mpr ⟨t, z, rfl⟩)
    · exact .inr (List.mem_map.mpr ⟨t, z, rfl⟩)
  · constructor
    · intro z
      obtain ⟨t, ht, rfl⟩ := List.mem_map.mp z
      rcases List.mem_append.mp ht with q | q
      · rw [List.mem_filter, Bool.not_eq_true', decide_eq_false_iff_not] at q
        exact .inl ⟨List.mem_map.mpr ⟨t, q.1, rfl⟩, fun z => q.2 ((ml (el t q.1) eX).mp z)⟩
      · rw [List.mem_filter, decide_eq_true_iff] at q
        exact .inr ⟨List.mem_map.mpr ⟨t, q.1, rfl⟩, List.mem_map.mpr ⟨t, q.2, rfl⟩⟩
    · rintro (⟨a, b⟩ | ⟨a, b⟩)
      · obtain ⟨t, ht, rfl⟩ := List.mem_map.mp a
        refine List.mem_map.mpr ⟨t, List.mem_append.mpr (.inl ?_), rfl⟩
        rw [List.mem_filter, Bool.not_eq_true', decide_eq_false_iff_not]
        exact ⟨ht, fun z => b (List.mem_map.mpr ⟨t, z, rfl⟩)⟩
      · obtain ⟨t, ht, rfl⟩ := List.mem_map.mp a
        refine List.mem_map.mpr ⟨t, List.mem_append.mpr (.inr ?_), rfl⟩
        rw [List.mem_filter, decide_eq_true_iff]
        exact ⟨ht, (ml (ed t ht) eX).mp b⟩
  · constructor
    · intro z
      obtain ⟨t, ht, rfl⟩ := List.mem_map.mp z
      rcases List.mem_append.mp ht with q | q
      · rw [List.mem_filter, Bool.not_eq_true', decide_eq_false_iff_not] at q
        exact .inl ⟨List.mem_map.mpr ⟨t, q.1, rfl⟩, fun z => q.2 ((ml (ed t q.1) eX).mp z)⟩
      · rw [List.mem_filter, decide_eq_true_iff] at q
        exact .inr ⟨List.mem_map.mpr ⟨t, q.1, rfl⟩, List.mem_map.mpr ⟨t, q.2, rfl⟩⟩
    · rintro (⟨a, b⟩ | ⟨a, b⟩)
      · obtain ⟨t, ht, rfl⟩ := List.mem_map.mp a
        refine List.mem_map.mpr ⟨t, List.mem_append.mpr (.inl ?_), rfl⟩
        rw [List.mem_filter, Bool.not_eq_true', decide_eq_false_iff_not]
        exact ⟨ht, fun z => b (List.mem_map.mpr ⟨t, z, rfl⟩)⟩
      · obtain ⟨t, ht, rfl⟩ := List.mem_map.mp a
        refine List.mem_map.mpr ⟨t, List.mem_append.mpr (.inr ?_), rfl⟩
        rw [List.mem_filter, decide_eq_true_iff]
        exact ⟨ht, (ml (el t ht) eX).mp b⟩
theorem wf_turn {n : Nat} {l d X : List (List Int)} (hw : Wf (n : Int) l d) : Wf (n : Int) (l.filter (fun s => !decide (s ∈ X)) ++ d.filter (fun s => decide (s ∈ X))) (d.filter (fun s => !decide (s ∈ X)) ++ l.filter (fun s => decide (s ∈ X))) := by
  have tp := turn_perm l d fun s => decide (s ∈ X)
  exact ⟨hw.size, fun s hs => hw.each s (tp.mem_iff.mp hs), tp.nodup_iff.mpr hw.nd, by rw [tp.length_eq]; exact hw.few⟩
theorem dot_small {m s : List Int} {a b : Nat} (hm : ∀ x ∈ m, x.natAbs < 2 ^ a) (hs : ∀ x ∈ s, x.natAbs < 2 ^ b) : (dotI m s).natAbs ≤ s.length * 2 ^ (a + b) := by
  unfold dotI
  induction m generalizing s with
  | nil => simp
  | cons x m ih =>
    cases s with
    | nil => simp
    | cons y s =>
      rw [List.zipWith_cons_cons, List.sum_cons, List.length_cons, Nat.succ_mul]
      have h1 := ih (s := s) (fun z hz => hm z (List.mem_cons_of_mem _ hz)) (fun z hz => hs z (List.mem_cons_of_mem _ hz))
      have h2 : (x * y).natAbs ≤ 2 ^ (a + b) := by
        rw [Int.natAbs_mul, Nat.pow_add]
        exact Nat.mul_le_mul (Nat.le_of_lt (hm x List.mem_cons_self)) (Nat.le_of_lt (hs y List.mem_cons_self))
      have h3 := Int.natAbs_add_le (x * y) (List.zipWith (fun x1 x2 => x1 * x2) m s).sum
      omega
theorem lay_bools : ∀ xs : List Bool, PyData.canLayAll0 (xs.map eB) = true
  | [] => rfl
  | x :: xs => by rw [List.map_cons, PyData.canLayAll0, lay_eB, lay_bools xs]; rfl
theorem lay_lstB (xs : List Bool) : (eLst eB xs).canLay0 = true := by simpa [eLst, PyData.canLay0] using lay_bools xs
theorem gEq_lstB (a b : List Bool) : gEq (eLst eB) a b = some (decide (a = b)) := if_pos ⟨lay_lstB a, lay_lstB b⟩
theorem gNe_lstB (a b : List Bool) : gNe (eLst eB) a b = some (!decide (a = b)) := if_pos ⟨lay_lstB a, lay_lstB b⟩
theorem nodup_add {a : List Int} {l r : List (List Int)} (h : (l ++ r).Nodup) (ha : a ∉ l ++ r) : (l ++ a :: r).Nodup := List.perm_middle.nodup_iff.mpr (List.nodup_cons.mpr ⟨ha, h⟩)
theorem not_before {i : Nat} {a : List Int} {ss : List (List Int)} (nd : ss.Nodup) (h : ss[i]? = some a) : a ∉ ss.take i := fun z => by
  have h1 : (ss.take i ++ [a]).Nodup := by rw [← take_more h]; exact nd.sublist (List.take_sublist _ _)
  exact (List.nodup_append.mp h1).2.2 a z a (List.mem_singleton.mpr rfl) rfl
/-- sides that come to stand against l and d at X -/
structure Std_ (n : Nat) (l d x y X : List (List Int)) : Prop where
  nd : (x ++ y).Nodup
  len : ∀ s ∈ x ++ y, (s.length : Int) = n
  nx : X.Nodup
  mem : ∀ s, s ∈ X ↔ (s ∈ l ∧ s ∈ y) ∨ (s ∈ d ∧ s ∈ x)
theorem Std_.right {n : Nat} {l d x y X : List (List Int)} (h : Std_ n l d x y X) {a : List Int} (ha : a ∈ l) (hl : (a.length : Int) = n) (h1 : a ∉ x ++ y) (hd : a ∉ d) : Std_ n l d x (y ++ [a]) (X ++ [a]) where
  nd := by
    rw [← List.append_assoc]
    exact List.nodup_append.mpr ⟨h.nd, List.pairwise_singleton _ _, fun s hs b hb e => h1 (by rw [List.mem_singleton] at hb; rw [← hb, ← e]; exact hs)⟩
  len := fun s hs => by
    rw [← List.append_assoc] at hs
    rcases List.mem_append.mp hs with z | z
    · exact h.len s z
    · rw [List.mem_singleton.mp z]; exact hl
  nx := List.nodup_append.mpr ⟨h.nx, List.pairwise_singleton _ _, fun s hs b hb e => by
    rw [List.mem_singleton] at hb
    subst hb
    rcases (h.mem s).mp hs with z | z
    · exact h1 (List.mem_append.mpr (.inr (e ▸ z.2)))
    · exact hd (e ▸ z.1)⟩
  mem := fun s => by
    rw [List.mem_append, List.mem_append, h.mem, List.mem_singleton]
    constructor
    · rintro (z | z)
      · exact z.imp (fun z => ⟨z.1, .inl z.2⟩) id
      · subst z; exact .inl ⟨ha, .inr rfl⟩
    · rintro (⟨z1, z2 | z2⟩ | z)
      · exact .inl (.inl ⟨z1, z2⟩)
      · exact .inr z2
      · exact .inl (.inr z)
theorem Std_.left {n : Nat} {l d x y X : List (List Int)} (h : Std_ n l d x y X) {a : List Int} (ha : a ∈ d) (hl : (a.length : Int) = n) (h1 : a ∉ x ++ y) (hd : a ∉ l) : Std_ n l d (a :: x) y (X ++ [a]) where
  nd := List.nodup_cons.mpr ⟨h1, h.nd⟩
  len := fun s hs => by
    rcases List.mem_cons.mp hs with z | z
    · rw [z]; exact hl
    · exact h.len s z
  nx := List.nodup_append.mpr ⟨h.nx, List.pairwise_singleton _ _, fun s hs b hb e => by
    rw [List.mem_singleton] at hb
    subst hb
    rcases (h.mem s).mp hs with z | z
    · exact hd (e ▸ z.1)
    · exact h1 (List.mem_append.mpr (.inl (e ▸ z.2)))⟩
  mem := fun s => by
    rw [List.mem_append, h.mem, List.mem_singleton, List.mem_cons]
    constructor
    · rintro (z | z)
      · exact z.imp id (fun z => ⟨z.1, .inr z.2⟩)
      · subst z; exact .inr ⟨ha, .inl rfl⟩
    · rintro (z | ⟨z1, z2 | z2⟩)
      · exact .inl (.inl z)
      · exact .inr z2
      · exact .inl (.inr ⟨z1, z2⟩)
theorem minI_minL {l : List Int} (h : l ≠ []) : minI l = minL l := minL_eq (minI_mem h).1 (minI_mem h).2
theorem minL_shift {α : Type} {f g : α → Int} {c : Int} {ss : List α} (h : ss ≠ []) (e : ∀ s ∈ ss, g s = f s + c) : minL (ss.map g) = minL (ss.map f) + c := by
  have hf : ss.map f ≠ [] := fun z => h (List.map_eq_nil_iff.mp z)
  obtain ⟨s, hs, es⟩ := List.mem_map.mp (minL_mem hf)
  refine (minL_eq (List.mem_map.mpr ⟨s, hs, ?_⟩) fun y hy => ?_).symm
  · rw [e s hs, es]
  · obtain ⟨t, ht, rfl⟩ := List.mem_map.mp hy
    have := minL_le (List.mem_map.mpr ⟨t, ht, rfl⟩ : f t ∈ ss.map f)
    rw [e t ht]
    omega
theorem addI_getD {s v : List Int} {j : Nat} (h : j < s.length) (h2 : j < v.length) : (addI s v).getD j 0 = s.getD j 0 + v.getD j 0 := by
  unfold addI
  rw [List.getD_eq_getElem?_getD, List.getD_eq_getElem?_getD, List.getD_eq_getElem?_getD, List.getElem?_zipWith, List.getElem?_eq_getElem h, List.getElem?_eq_getElem h2]
  rfl
theorem backI_getD {n j : Nat} {ss : List (List Int)} (h : j < n) : (backI n ss).getD j 0 = 0 - minL (ss.map fun s => s.getD j 0) := by
  unfold backI cornI
  rw [List.getD_eq_getElem?_getD, List.getElem?_map, List.getElem?_map, List.getElem?_range h]
  rfl
theorem getD_ext {n : Nat} {s t : List Int} (h1 : s.length = n) (h2 : t.length = n) (h : ∀ j, j < n → s.getD j 0 = t.getD j 0) : s = t := by
  rw [← map_range_getD h1, ← map_range_getD h2]
  exact List.map_congr_left fun j hj => h j (List.mem_range.mp hj)
theorem back_mov {n : Nat} {ss : List (List Int)} {v : List Int} (h : ss ≠ []) (hs : ∀ s ∈ ss, s.length = n) (hv : v.length = n) : addI v (backI n (movI v ss)) = backI n ss := by
  refine getD_ext (n := n) (by rw [addI_len (by rw [backI_len, hv]), hv]) (backI_len ..) fun j hj => ?_
  rw [addI_getD (by omega) (by rw [backI_len]; exact hj), backI_getD hj, backI_getD hj]
  unfold movI
  rw [List.map_map, minL_shift (f := fun s => s.getD j 0) (c := v.getD j 0) h (fun s hs' => by
    have := hs s hs'
    show (addI s v).getD j 0 = _
    rw [addI_getD (by omega) (by omega)])]
  omega
theorem backI_perm {n : Nat} {ss tt : List (List Int)} (h : ss.Perm tt) : backI n ss = backI n tt := by unfold backI; rw [cornI_perm h]
theorem back_pos {n : Nat} {ss : List (List Int)} {s : List Int} (hs : s ∈ ss) (hl : s.length = n) {j : Nat} (hj : j < n) : 0 ≤ (addI s (backI n ss)).getD j 0 := by
  rw [addI_getD (by omega) (by rw [backI_len]; exact hj), backI_getD hj]
  have := minL_le (List.mem_map.mpr ⟨s, hs, rfl⟩ : s.getD j 0 ∈ ss.map fun s => s.getD j 0)
  omega
end L2

/-! boxes -/
namespace L2
open PySem PySem.Spec PyProof.Rows RZ
theorem rng_succ (lo : Int) (n : Nat) : rng lo (n + 1) = lo :: rng (lo + 1) n := by
  unfold rng
  rw [List.range_succ_eq_map, List.map_cons, List.map_map]
  congr 1
  · exact Int.add_zero lo
  · refine List.map_congr_left fun i _ => ?_
    show lo + ((i + 1 : Nat) : Int) = lo + 1 + (i : Int)
    omega
theorem rng_zero (lo : Int) : rng lo 0 = [] := rfl
theorem rng_one (lo : Int) : rng lo 1 = [lo] := by rw [rng_succ, rng_zero]
def sideN (q : Int × Int) : Nat := (q.2 + 1 - q.1).toNat
def bxStep (acc : List (List Int)) (q : Int × Int) : List (List Int) := acc.flatMap fun p => (rng q.1 (sideN q)).map fun n => p ++ [n]
def bxs : List (Int × Int) → List (List Int) → List (List Int)
  | [], acc => acc
  | q :: r, acc => bxs r (bxStep acc q)
def bx (lo hi : List Int) : List (List Int) := bxs (lo.zip hi) [[]]
theorem flat_const {α β : Type} {f : α → List β} {c : Nat} : ∀ {xs : List α}, (∀ a ∈ xs, (f a).length = c) → (xs.flatMap f).length = xs.length * c
  | [], _ => by simp
  | a :: r, h => by
    rw [List.flatMap_cons, List.length_append, h a List.mem_cons_self, flat_const fun b hb => h b (List.mem_cons_of_mem _ hb), List.length_cons, Nat.add_mul, Nat.one_mul, Nat.add_comm]
theorem bxStep_len (acc : List (List Int)) (q : Int × Int) : (bxStep acc q).length = acc.length * sideN q := flat_const fun a _ => by rw [List.length_map, rng_len]
theorem bxs_len {M : Nat} (hM : 1 ≤ M) : ∀ {ps : List (Int × Int)} {acc : List (List Int)}, (∀ q ∈ ps, sideN q ≤ M) → (bxs ps acc).length ≤ acc.length * M ^ ps.length
  | [], acc, _ => by simp [bxs]
  | q :: r, acc, h => by
    refine Nat.le_trans (bxs_len hM (ps := r) (acc := bxStep acc q) fun z hz => h z (List.mem_cons_of_mem _ hz)) ?_
    rw [bxStep_len, List.length_cons, Nat.pow_succ, Nat.mul_assoc, Nat.mul_comm (M ^ r.length)]
    exact Nat.mul_le_mul_left _ (Nat.mul_le_mul_right _ (h q List.mem_cons_self))
theorem bxStep_each {acc : List (List Int)} {q : Int × Int} {p : List Int} (h : p ∈ bxStep acc q) : ∃ a ∈ acc, ∃ n ∈ rng q.1 (sideN q), p = a ++ [n] := by
  obtain ⟨a, ha, hp⟩ := List.mem_flatMap.mp h
  obtain ⟨n, hn, rfl⟩ := List.mem_map.mp hp
  exact ⟨a, ha, n, hn, rfl⟩
theorem mem_bxStep {acc : List (List Int)} {q : Int × Int} {p : List Int} : p ∈ bxStep acc q ↔ ∃ a ∈ acc, ∃ n ∈ rng q.1 (sideN q), p = a ++ [n] := ⟨bxStep_each, fun ⟨a, ha, n, hn, e⟩ => List.mem_flatMap.mpr ⟨a, ha, List.mem_map.mpr ⟨n, hn, e.symm⟩⟩⟩
/-- each coordinate between its ends -/
def inBx : List (Int × Int) → List Int → Prop
  | [], t => t = []
  | q :: r, t => ∃ n u, t = n :: u ∧ q.1 ≤ n ∧ n ≤ q.2 ∧ inBx r u
theorem inBx_len : ∀ {ps : List (Int × Int)} {t : List Int}, inBx ps t → t.length = ps.length
  | [], t, h => by rw [show t = [] from h]; rfl
  | q :: r, t, ⟨n, u, e, _, _, h⟩ => by rw [e, List.length_cons, inBx_len h, List.length_cons]
theorem mem_bxs : ∀ {ps : List (Int × Int)} {acc : List (List Int)} {p : List Int}, p ∈ bxs ps acc ↔ ∃ a ∈ acc, ∃ t, p = a ++ t ∧ inBx ps t
  | [], acc, p => ⟨fun h => ⟨p, h, [], by simp, rfl⟩, fun ⟨a, ha, t, e, ht⟩ => by
      have : t = [] := ht
      subst this
      rw [e, List.append_nil]
      exact ha⟩
  | q :: r, acc, p => by
    show p ∈ bxs r (bxStep acc q) ↔ _
    rw [mem_bxs]
    constructor
    · rintro ⟨a, ha, t, rfl, ht⟩
      obtain ⟨b, hb, n, hn, rfl⟩ := mem_bxStep.mp ha
      have := rng_mem.mp hn
      unfold sideN at this
      exact ⟨b, hb, n :: t, by simp, n, t, rfl, this.1, by omega, ht⟩
    · rintro ⟨a, ha, t, rfl, n, u, rfl, h1, h2, h3⟩
      exact ⟨a ++ [n], mem_bxStep.mpr ⟨a, ha, n, rng_mem.mpr ⟨h1, by unfold sideN; omega⟩, rfl⟩, u, by simp, h3⟩
theorem mem_bx {lo hi p : List Int} : p ∈ bx lo hi ↔ inBx (lo.zip hi) p := by
  unfold bx
  rw [mem_bxs]
  constructor
  · rintro ⟨a, ha, t, rfl, ht⟩
    rw [List.mem_singleton.mp ha]
    exact ht
  · exact fun h => ⟨[], List.mem_singleton.mpr rfl, p, rfl, h⟩
theorem bx_len {lo hi p : List Int} (h : p ∈ bx lo hi) (e : lo.length = hi.length) : p.length = lo.length := by
  rw [inBx_len (mem_bx.mp h), List.length_zip, ← e, Nat.min_self]
theorem bxs_nil : ∀ ps : List (Int × Int), bxs ps [] = []
  | [] => rfl
  | q :: r => bxs_nil r
theorem bxs_empty : ∀ {ps : List (Int × Int)} {acc : List (List Int)}, (∃ q ∈ ps, q.2 < q.1) → bxs ps acc = []
  | [], _, ⟨q, h, _⟩ => nomatch h
  | q :: r, acc, ⟨z, hz, hlt⟩ => by
    rcases List.mem_cons.mp hz with e | h
    · subst e
      show bxs r (bxStep acc z) = []
      have : bxStep acc z = [] := by
        refine List.length_eq_zero_iff.mp ?_
        rw [bxStep_len]
        have : sideN z = 0 := by unfold sideN; omega
        rw [this, Nat.mul_zero]
      rw [this, bxs_nil]
    · exact bxs_empty (ps := r) (acc := bxStep acc q) ⟨z, h, hlt⟩
theorem bxs_point : ∀ (p a : List Int), bxs (p.zip p) [a] = [a ++ p]
  | [], a => by simp [bxs]
  | n :: p, a => by
    show bxs (p.zip p) (bxStep [a] (n, n)) = _
    have : bxStep [a] (n, n) = [a ++ [n]] := by
      have e : sideN (n, n) = 1 := by unfold sideN; omega
      unfold bxStep
      rw [List.flatMap_cons, List.flatMap_nil, List.append_nil, e, rng_one]
      rfl
    rw [this, bxs_point p]
    simp
theorem bx_point (p : List Int) : bx p p = [p] := bxs_point p []
section
variable {υ δ α β γ τ κ ρ ε α1 : Type}
theorem lcC_flat {f : α → δ → Res (Er × δ) (List β × δ)} {g : α → List β} {d : δ} : ∀ {xs : List α}, (∀ a ∈ xs, f a d = .ok (g a, d)) → lcC f xs d = .ok (xs.flatMap g, d)
  | [], _ => rfl
  | a :: r, h => by
    rw [lcC, h a List.mem_cons_self, Res.ok_bd, lcC_flat fun b hb => h b (List.mem_cons_of_mem _ hb), Res.ok_bd, List.flatMap_cons]
theorem lcD_flat {f : α → δ → Res (Er × δ) (List β × δ)} {g : α → List β} {d : δ} {xs : List α} (h : ∀ a ∈ xs, f a d = .ok (g a, d)) (hl : (xs.flatMap g).length ≤ sizeLine) : lcD f xs d = .ok (xs.flatMap g, d) := by
  unfold lcD
  rw [lcC_flat h, Res.ok_bd, if_pos hl]
theorem lcB_map {f : α → δ → Res (Er × δ) (Option β × δ)} {g : α → β} {d : δ} {xs : List α} (h : ∀ a ∈ xs, f a d = .ok (some (g a), d)) : lcB f xs d = .ok (xs.map g, d) := by
  rw [lcB_pure (g := fun a => some (g a)) h]
  congr 2
  induction xs with
  | nil => rfl
  | cons a r ih => rw [List.filterMap_cons, List.map_cons, ih fun b hb => h b (List.mem_cons_of_mem _ hb)]
theorem lcD_map2 {mi : α → δ → Res (Er × δ) (List α1 × δ)} {me : α → α1 → δ → Res (Er × δ) (β × δ)} {ms : α → List α1} {g : α → α1 → β} {d : δ} {xs : List α} (h1 : ∀ a ∈ xs, mi a d = .ok (ms a, d)) (h2 : ∀ a ∈ xs, ∀ b ∈ ms a, me a b d = .ok (g a b, d)) (hl : (xs.flatMap fun a => (ms a).map (g a)).length ≤ sizeLine) :
    lcD (fT2 (fun _ d => .ok (true, d)) mi (fun _ _ d => .ok (true, d)) me) xs d = .ok (xs.flatMap fun a => (ms a).map (g a), d) := lcD_flat (fun a ha => by
  unfold fT2
  rw [Res.ok_bd, if_pos rfl, h1 a ha, Res.ok_bd]
  exact lcB_map fun b hb => by rw [fT_yes, h2 a ha b hb, Res.ok_bd]) hl
theorem bxStep_short {acc : List (List Int)} {q : Int × Int} {n : Nat} (h : ∀ p ∈ acc, p.length + (n + 1) ≤ 100) : ∀ p ∈ bxStep acc q, p.length + n ≤ 100 := fun p hp => by
  obtain ⟨a, ha, x, _, rfl⟩ := bxStep_each hp
  have := h a ha
  rw [List.length_append]
  simp only [List.length_cons, List.length_nil]
  omega
/-- the loop of a box, side by side -/
theorem forB_bxs {f : Int × Int → List (List Int) → δ → Bk ε (List (List Int) × δ) (List (List Int) × δ) ρ} {d : δ} {M : Nat} (hM : 1 ≤ M) : ∀ {ps : List (Int × Int)} {acc : List (List Int)}, (∀ q ∈ ps, sideN q ≤ M) → acc.length * M ^ ps.length ≤ sizeLine → (∀ p ∈ acc, p.length + ps.length ≤ 100) →
    (∀ q ∈ ps, ∀ s, s.length * M ≤ sizeLine → (∀ p ∈ s, p.length ≤ 100) → f q s d = .nx (bxStep s q, d)) → (forB f ps acc d : Bk ε (List (List Int) × δ) κ ρ) = .nx (bxs ps acc, d)
  | [], acc, _, _, _, _ => rfl
  | q :: r, acc, h, hs, hq, hf => by
    have hp : 1 ≤ M ^ r.length := Nat.one_le_pow _ _ hM
    have e : acc.length * M ^ (r.length + 1) = acc.length * M * M ^ r.length := by rw [Nat.pow_succ, Nat.mul_assoc, Nat.mul_comm M]
    rw [List.length_cons, e] at hs
    rw [forB, hf q List.mem_cons_self acc (Nat.le_trans (Nat.le_mul_of_pos_right _ hp) hs) fun p hp => by have := hq p hp; omega]
    refine forB_bxs hM (fun z hz => h z (List.mem_cons_of_mem _ hz)) ?_ (bxStep_short hq) fun z hz => hf z (List.mem_cons_of_mem _ hz)
    rw [bxStep_len]
    exact Nat.le_trans (Nat.mul_le_mul_right _ (Nat.mul_le_mul_left _ (h q List.mem_cons_self))) hs
/-- .., by the number of the side -/
theorem forB_bxsI {f : Int → List (List Int) → δ → Bk ε (List (List Int) × δ) (List (List Int) × δ) ρ} {d : δ} {M : Nat} (hM : 1 ≤ M) : ∀ {r pre : List (Int × Int)} {acc : List (List Int)}, (∀ q ∈ r, sideN q ≤ M) → acc.length * M ^ r.length ≤ sizeLine → (∀ p ∈ acc, p.length + r.length ≤ 100) →
    (∀ (i : Nat) q, (pre ++ r)[i]? = some q → q ∈ r → ∀ s, s.length * M ≤ sizeLine → (∀ p ∈ s, p.length ≤ 100) → f (i : Int) s d = .nx (bxStep s q, d)) → (forB f (rng (pre.length : Int) r.length) acc d : Bk ε (List (List Int) × δ) κ ρ) = .nx (bxs r acc, d)
  | [], pre, acc, _, _, _, _ => rfl
  | q :: r, pre, acc, h, hs, hq, hf => by
    have hp : 1 ≤ M ^ r.length := Nat.one_le_pow _ _ hM
    have e : acc.length * M ^ (r.length + 1) = acc.length * M * M ^ r.length := by rw [Nat.pow_succ, Nat.mul_assoc, Nat.mul_comm M]
    rw [List.length_cons, e] at hs
    rw [List.length_cons, rng_succ, forB, hf pre.length q (by simp) List.mem_cons_self acc (Nat.le_trans (Nat.le_mul_of_pos_right _ hp) hs) fun p hp => by have := hq p hp; omega]
    have e2 : (pre.length : Int) + 1 = ((pre ++ [q]).length : Int) := by rw [List.length_append]; simp
    dsimp only
    rw [e2]
    refine forB_bxsI hM (pre := pre ++ [q]) (fun z hz => h z (List.mem_cons_of_mem _ hz)) ?_ (bxStep_short hq) fun i z hz hm => hf i z (by rw [← hz, List.append_assoc]; rfl) (List.mem_cons_of_mem _ hm)
    rw [bxStep_len]
    exact Nat.le_trans (Nat.mul_le_mul_right _ (Nat.mul_le_mul_left _ (h q List.mem_cons_self))) hs
theorem size200 {n : Nat} (h : n ≤ 3) : ([[]] : List (List Int)).length * 200 ^ n ≤ sizeLine := by
  rw [sizeL, List.length_singleton, Nat.one_mul]
  exact Nat.le_trans (Nat.pow_le_pow_right (by decide) h) (by decide)
theorem short3 {n : Nat} (h : n ≤ 3) : ∀ p ∈ ([[]] : List (List Int)), p.length + n ≤ 100 := fun p hp => by
  rw [List.mem_singleton.mp hp, List.length_nil]
  omega
theorem forB_box {f : Int → List (List Int) → δ → Bk ε (List (List Int) × δ) (List (List Int) × δ) ρ} {d : δ} {lo hi : List Int} (he : lo.length = hi.length) (hl : lo.length ≤ 3) (hs : ∀ q ∈ lo.zip hi, sideN q ≤ 200)
    (hf : ∀ (i : Nat) q1 q2, lo[i]? = some q1 → hi[i]? = some q2 → (q1, q2) ∈ lo.zip hi → ∀ s : List (List Int), s.length * 200 ≤ sizeLine → (∀ p ∈ s, p.length ≤ 100) → f (i : Int) s d = .nx (bxStep s (q1, q2), d)) : (forB f (rng 0 lo.length) [[]] d : Bk ε (List (List Int) × δ) κ ρ) = .nx (bx lo hi, d) := by
  have hz : (lo.zip hi).length = lo.length := by rw [List.length_zip]; omega
  have h3 : (lo.zip hi).length ≤ 3 := by omega
  have key := forB_bxsI (κ := κ) (f := f) (d := d) (M := 200) (r := lo.zip hi) (pre := []) (acc := [[]]) (by decide) hs (size200 h3) (short3 h3) (fun i q hq hm s h1 h2 => by
    obtain ⟨q1, q2⟩ := q
    rw [List.nil_append] at hq
    obtain ⟨a, b⟩ := List.getElem?_zip_eq_some.mp hq
    exact hf i q1 q2 a b hm s h1 h2)
  rw [hz] at key
  exact key
/-- a loop that makes a list longer, item by item -/
theorem forB_ext {f : α → Unit → (List β × δ) → Bk ε (Unit × List β × δ) (Unit × List β × δ) ρ} {g : α → List β} {e : δ} {N : Nat} : ∀ {xs : List α} {m : List β}, (∀ a ∈ xs, ∀ m : List β, m.length + (g a).length ≤ N → f a () (m, e) = .nx ((), (m ++ g a, e))) → m.length + (xs.flatMap g).length ≤ N →
    (forB f xs () (m, e) : Bk ε (Unit × List β × δ) κ ρ) = .nx ((), (m ++ xs.flatMap g, e))
  | [], m, _, _ => by rw [List.flatMap_nil, List.append_nil]; rfl
  | a :: r, m, h, hl => by
    rw [List.flatMap_cons, List.length_append] at hl
    rw [forB, h a List.mem_cons_self m (by omega)]
    dsimp only
    rw [forB_ext (xs := r) (fun b hb => h b (List.mem_cons_of_mem _ hb)) (by rw [List.length_append]; omega), List.flatMap_cons, List.append_assoc]
/-- a loop that gives back the first item with c -/
theorem forB_first {f : α → τ → δ → Bk ε (τ × δ) (τ × δ) ρ} {s : τ} {d : δ} {c : α → Bool} {e : α → ρ} : ∀ {xs : List α}, (∀ a ∈ xs, f a s d = if c a = true then .rt (e a) else .nx (s, d)) → (forB f xs s d : Bk ε (τ × δ) κ ρ) = match xs.find? c with
      | some a => .rt (e a)
      | none => .nx (s, d)
  | [], _ => rfl
  | a :: r, h => by
    rw [forB, h a List.mem_cons_self, List.find?_cons]
    cases c a with
    | true => rfl
    | false => exact forB_first fun b hb => h b (List.mem_cons_of_mem _ hb)
end
section
variable {α β δ W : Type} {S : W → Prop} {P : β → Prop}
theorem lc_wellM {f : α → W × δ → Res (Er × W × δ) (Option β × W × δ)} {xs : List α} {w : W} {e : δ} (hl : xs.length ≤ sizeLine) (hw : S w) (hf : ∀ a ∈ xs, ∀ w, S w → ∃ r w', f a (w, e) = .ok (some r, (w', e)) ∧ P r ∧ S w') : ∃ zs w', lcA f xs (w, e) = .ok (zs, (w', e)) ∧ zs.length = xs.length ∧ (∀ z ∈ zs, P z) ∧ S w' := by
  obtain ⟨zs, ⟨w', e'⟩, e4, h1, h2, h3, h4⟩ := lcA_inv (f := f) (fun i ys d => ys.length = i ∧ (∀ z ∈ ys, P z) ∧ S d.1 ∧ d.2 = e) (xs := xs) (d := (w, e)) hl ⟨rfl, fun _ z => absurd z List.not_mem_nil, hw, rfl⟩ (fun i a ys d hi ⟨h1, h2, h3, h4⟩ => by
    obtain ⟨w, e'⟩ := d
    obtain rfl : e' = e := h4
    obtain ⟨r, w', g, hp, hs⟩ := hf a (List.mem_of_getElem? hi) w h3
    refine ⟨some r, (w', e'), g, by rw [List.length_append, h1]; rfl, fun z hz => ?_, hs, rfl⟩
    rcases List.mem_append.mp hz with q | q
    · exact h2 z q
    · have : z = r := by simpa using q
      exact this ▸ hp)
  obtain rfl : e' = e := h4
  exact ⟨zs, w', e4, h1, h2, h3⟩
end
theorem gIx_at {xs : List Int} {i : Nat} (h : i < xs.length) : gIx xs (i : Int) = some (xs.getD i 0) := by
  rw [gIx_nat (List.getElem?_eq_getElem h), List.getD_eq_getElem?_getD, List.getElem?_eq_getElem h]
  rfl
theorem zip_map {α β γ : Type} (f : α → β → γ) : ∀ (s : List α) (v : List β), (s.zip v).map (fun q => f q.1 q.2) = List.zipWith f s v
  | [], _ => rfl
  | _ :: _, [] => rfl
  | a :: s, b :: v => by rw [List.zip_cons_cons, List.map_cons, List.zipWith_cons_cons, zip_map f s v]
theorem subI_len {s v : List Int} (h : s.length = v.length) : (subI s v).length = s.length := by
  unfold subI
  rw [List.length_zipWith]
  omega
section
variable {α β δ τ κ ρ ε : Type}
/-- a loop that appends an item at each turn -/
theorem forB_push {f : α → Unit → (List β × δ) → Bk ε (Unit × List β × δ) (Unit × List β × δ) ρ} {g : α → β} {e : δ} {N : Nat} : ∀ {xs : List α} {m : List β}, (∀ a ∈ xs, ∀ m : List β, m.length < N → f a () (m, e) = .nx ((), (m ++ [g a], e))) → m.length + xs.length ≤ N →
    (forB f xs () (m, e) : Bk ε (Unit × List β × δ) κ ρ) = .nx ((), (m ++ xs.map g, e))
  | [], m, _, _ => by rw [List.map_nil, List.append_nil]; rfl
  | a :: r, m, h, hl => by
    rw [List.length_cons] at hl
    rw [forB, h a List.mem_cons_self m (by omega)]
    dsimp only
    rw [forB_push (xs := r) (fun b hb => h b (List.mem_cons_of_mem _ hb)) (by rw [List.length_append]; simp only [List.length_cons, List.length_nil]; omega), List.map_cons, List.append_assoc]
    rfl
/-- Euclid's loop, asked of whole numbers from 0 on -/
theorem wh_gcdN {ρ : Type} {t : Int × Int → Unit → Res (Er × Unit) (Bool × Unit)} {b : Int × Int → Unit → Bk (Er × Unit) ((Int × Int) × Unit) ((Int × Int) × Unit) (ρ × Unit)}
    (ht : ∀ f o : Nat, t ((f : Int), (o : Int)) () = .ok (decide (0 < o), ())) (hb : ∀ f o : Nat, 0 < o → b ((f : Int), (o : Int)) () = .nx (((o : Int), ((f % o : Nat) : Int)), ())) : ∀ (n : Nat) (f o : Nat), o < n → (whB (κ := κ) t b n ((f : Int), (o : Int)) ()) = .nx ((((Nat.gcd f o : Nat) : Int), 0), ())
  | 0, f, o, h => absurd h (Nat.not_lt_zero _)
  | n + 1, f, o, h => by
    rw [whB, ht, Res.ok_bs]
    by_cases ho : o = 0
    · subst ho
      simp
    · have h0 : 0 < o := Nat.pos_of_ne_zero ho
      have hlt := Nat.mod_lt f h0
      rw [decide_eq_true h0, if_pos rfl, hb _ _ h0]
      dsimp only
      rw [wh_gcdN ht hb n o (f % o) (by omega), Nat.gcd_comm f o, Nat.gcd_rec o f, Nat.gcd_comm]
end
theorem flat_single {α β : Type} (f : α → β) : ∀ xs : List α, (xs.flatMap fun a => [f a]) = xs.map f
  | [] => rfl
  | a :: r => by rw [List.flatMap_cons, flat_single f r]; rfl
theorem cut_sub {α : Type} {xs : List α} {n : Nat} {a : α} (h : a ∈ cutA xs none (some (n : Int))) : a ∈ xs := by
  rw [cut_to] at h
  exact List.mem_of_mem_take h
theorem fT_ok {α β δ : Type} {mt : α → δ → Res (Er × δ) (Bool × δ)} {me : α → δ → Res (Er × δ) (β × δ)} {a : α} {d : δ} {b : Bool} {y : β} (h1 : mt a d = .ok (b, d)) (h2 : me a d = .ok (y, d)) : fT mt me a d = .ok (if b = true then some y else none, d) := by
  unfold fT
  rw [h1, Res.ok_bd, h2]
  cases b <;> rfl
theorem bx_lt {lo hi : List Int} (hl : lo.length ≤ 3) (hs : ∀ q ∈ lo.zip hi, sideN q ≤ 200) : (bx lo hi).length < sizeLine := by
  have hz : (lo.zip hi).length ≤ 3 := by rw [List.length_zip]; omega
  refine Nat.lt_of_le_of_lt (bxs_len (by decide) hs) ?_
  rw [sizeL, List.length_singleton, Nat.one_mul]
  exact Nat.lt_of_le_of_lt (Nat.pow_le_pow_right (by decide) hz) (by decide)
theorem cut_fromA {α : Type} (xs : List α) (a : Nat) : cutA xs (some (a : Int)) none = xs.drop a := by
  unfold cutA
  rw [HT.sIx_nat, HT.sIx_none]
  rcases Nat.le_total xs.length a with h | h
  · rw [Nat.min_eq_right h, List.drop_eq_nil_of_le (Nat.le_refl _), List.drop_eq_nil_of_le h]; simp
  · rw [Nat.min_eq_left h, List.take_of_length_le (by rw [List.length_drop]; omega)]
theorem bxStep_nodup {acc : List (List Int)} (q : Int × Int) (h : acc.Nodup) : (bxStep acc q).Nodup := by
  unfold bxStep
  rw [List.Nodup, List.pairwise_flatMap]
  refine ⟨fun p _ => ?_, h.imp fun hne x hx y hy e => ?_⟩
  · rw [List.pairwise_map]
    have : (rng q.1 (sideN q)).Nodup := by
      unfold rng
      rw [List.Nodup, List.pairwise_map]
      exact List.nodup_range.imp fun hne e => hne (by omega)
    exact this.imp fun hne e => hne (List.cons.inj (List.append_cancel_left e)).1
  · obtain ⟨n, _, rfl⟩ := List.mem_map.mp hx
    obtain ⟨m, _, rfl⟩ := List.mem_map.mp hy
    exact hne (List.append_inj' e rfl).1
theorem bxs_nodup : ∀ {ps : List (Int × Int)} {acc : List (List Int)}, acc.Nodup → (bxs ps acc).Nodup
  | [], _, h => h
  | q :: r, acc, h => bxs_nodup (ps := r) (bxStep_nodup q h)
theorem bx_nodup (lo hi : List Int) : (bx lo hi).Nodup := bxs_nodup (List.pairwise_singleton _ _)
theorem gPop_ok {α : Type} {xs : List α} {i : Nat} {a : α} (h : xs[i]? = some a) (hl : xs.length < 2 ^ 62) : gPop xs (i : Int) = some (a, xs.eraseIdx i) := by
  have hi := (List.getElem?_eq_some_iff.mp h).1
  unfold gPop
  rw [if_pos (by omega)]
  have : seqIndex? (i : Int) xs.length = some i := by
    unfold seqIndex?
    simp
    omega
  rw [this]
  show (xs[i]?.map fun a => (a, xs.eraseIdx i)) = _
  rw [h]
  rfl
theorem perm_erase {α : Type} {xs : List α} {i : Nat} {a : α} (h : xs[i]? = some a) : xs.Perm (a :: xs.eraseIdx i) := by
  obtain ⟨hi, e⟩ := List.getElem?_eq_some_iff.mp h
  rw [List.eraseIdx_eq_take_drop_succ]
  conv => lhs; rw [← List.take_append_drop i xs]
  rw [List.drop_eq_getElem_cons hi, e]
  exact List.perm_middle
section
variable {α β δ : Type} {P : β → Prop}
/-- draws one by one, each with a part of what is left for draws -/
theorem lc_bud {S : Nat → List Int → Prop} {f : α → List Int × δ → Res (Er × List Int × δ) (Option β × List Int × δ)} {xs : List α} {w : List Int} {e : δ} {k b : Nat} (hl : xs.length ≤ sizeLine) (hw : S k w) (hf : ∀ i a w, xs[i]? = some a → S (k + b * i) w → ∃ r w', f a (w, e) = .ok (some r, (w', e)) ∧ P r ∧ S (k + b * (i + 1)) w') : ∃ zs w', lcA f xs (w, e) = .ok (zs, (w', e)) ∧ zs.length = xs.length ∧ (∀ z ∈ zs, P z) ∧ S (k + b * xs.length) w' := by
  obtain ⟨zs, ⟨w', e'⟩, e4, h1, h2, h3, h4⟩ := lcA_inv (f := f) (fun i ys d => ys.length = i ∧ (∀ z ∈ ys, P z) ∧ S (k + b * i) d.1 ∧ d.2 = e) (xs := xs) (d := (w, e)) hl ⟨rfl, fun _ z => absurd z List.not_mem_nil, hw, rfl⟩ (fun i a ys d hi ⟨h1, h2, h3, h4⟩ => by
    obtain ⟨w, e'⟩ := d
    obtain rfl : e' = e := h4
    obtain ⟨r, w', g, hp, hs⟩ := hf i a w hi h3
    refine ⟨some r, (w', e'), g, by rw [List.length_append, h1]; rfl, fun z hz => ?_, hs, rfl⟩
    rcases List.mem_append.mp hz with q | q
    · exact h2 z q
    · have : z = r := by simpa using q
      exact this ▸ hp)
  obtain rfl : e' = e := h4
  exact ⟨zs, w', e4, h1, h2, h3⟩
end
end L2

/-! sums over the places of a box at the eye -/
namespace L2
open PySem PySem.Spec PyProof.Rows RZ
def sumN : Nat → (Int → Int) → Int
  | 0, _ => 0
  | n + 1, f => sumN n f + f (n : Int)
theorem sumN_congr {f g : Int → Int} : ∀ {n : Nat}, (∀ x : Int, 0 ≤ x → x < n → f x = g x) → sumN n f = sumN n g
  | 0, _ => rfl
  | n + 1, h => by
    show sumN n f + f (n : Int) = sumN n g + g (n : Int)
    rw [sumN_congr (n := n) fun x h0 h1 => h x h0 (by omega), h (n : Int) (by omega) (by omega)]
theorem sumN_add (f g : Int → Int) : ∀ n : Nat, sumN n (fun x => f x + g x) = sumN n f + sumN n g
  | 0 => rfl
  | n + 1 => by
    show sumN n _ + (f (n : Int) + g (n : Int)) = sumN n f + f (n : Int) + (sumN n g + g (n : Int))
    rw [sumN_add f g n]
    omega
theorem sumN_mul (c : Int) (f : Int → Int) : ∀ n : Nat, sumN n (fun x => c * f x) = c * sumN n f
  | 0 => (Int.mul_zero c).symm
  | n + 1 => by
    show sumN n _ + c * f (n : Int) = c * (sumN n f + f (n : Int))
    rw [sumN_mul c f n, Int.mul_add]
theorem sumN_zero : ∀ n : Nat, sumN n (fun _ => 0) = 0
  | 0 => rfl
  | n + 1 => by
    show sumN n _ + 0 = 0
    rw [sumN_zero n]
    rfl
theorem sumN_const (c : Int) : ∀ n : Nat, sumN n (fun _ => c) = n * c
  | 0 => (Int.zero_mul c).symm
  | n + 1 => by
    show sumN n _ + c = ((n + 1 : Nat) : Int) * c
    rw [sumN_const c n, Int.natCast_succ, Int.add_mul, Int.one_mul]
theorem sumN_nn {f : Int → Int} : ∀ {n : Nat}, (∀ x : Int, 0 ≤ x → x < n → 0 ≤ f x) → 0 ≤ sumN n f
  | 0, _ => Int.le_refl 0
  | n + 1, h => by
    have := sumN_nn (n := n) fun x h0 h1 => h x h0 (by omega)
    have := h (n : Int) (by omega) (by omega)
    show 0 ≤ sumN n f + f (n : Int)
    omega
theorem sumN_le {f g : Int → Int} : ∀ {n : Nat}, (∀ x : Int, 0 ≤ x → x < n → f x ≤ g x) → sumN n f ≤ sumN n g
  | 0, _ => Int.le_refl 0
  | n + 1, h => by
    have := sumN_le (n := n) fun x h0 h1 => h x h0 (by omega)
    have := h (n : Int) (by omega) (by omega)
    show sumN n f + f (n : Int) ≤ sumN n g + g (n : Int)
    omega
theorem sumN_swap (f : Int → Int → Int) : ∀ n m : Nat, sumN n (fun x => sumN m fun y => f x y) = sumN m (fun y => sumN n fun x => f x y)
  | 0, m => (sumN_zero m).symm
  | n + 1, m => by
    show sumN n _ + sumN m _ = sumN m fun y => sumN n _ + f (n : Int) y
    rw [sumN_swap f n m, ← sumN_add]
theorem sumN_one {g : Int → Int} {m : Int} : ∀ {n : Nat}, sumN n (fun r => (if m = r then 1 else 0) * g r) = if 0 ≤ m ∧ m < n then g m else 0
  | 0 => by
    rw [if_neg (by omega)]
    rfl
  | n + 1 => by
    show sumN n _ + (if m = (n : Int) then 1 else 0) * g (n : Int) = _
    rw [sumN_one (n := n)]
    by_cases e : m = (n : Int)
    · subst e
      rw [if_neg (by omega), if_pos rfl, if_pos (by omega)]
      omega
    · rw [if_neg e, Int.zero_mul, Int.add_zero]
      by_cases h : 0 ≤ m ∧ m < n
      · rw [if_pos h, if_pos (by omega)]
      · rw [if_neg h, if_neg (by omega)]
/-- .. of all places from 0 to the sides -/
def boxS : List Int → (List Int → Int) → Int
  | [], f => f []
  | s :: r, f => sumN s.toNat fun x => boxS r fun t => f (x :: t)
/-- from 0 to the sides -/
def inS : List Int → List Int → Prop
  | [], t => t = []
  | s :: r, t => ∃ x u, t = x :: u ∧ 0 ≤ x ∧ x < s ∧ inS r u
theorem inS_len : ∀ {ss t : List Int}, inS ss t → t.length = ss.length
  | [], t, h => by rw [show t = [] from h]
  | s :: r, t, ⟨x, u, e, _, _, h⟩ => by rw [e, List.length_cons, inS_len h, List.length_cons]
theorem boxS_congr : ∀ {ss : List Int} {f g : List Int → Int}, (∀ t, inS ss t → f t = g t) → boxS ss f = boxS ss g
  | [], f, g, h => h [] rfl
  | s :: r, f, g, h => sumN_congr fun x h0 h1 => boxS_congr fun t ht => h _ ⟨x, t, rfl, h0, by omega, ht⟩
theorem boxS_add : ∀ (ss : List Int) (f g : List Int → Int), boxS ss (fun t => f t + g t) = boxS ss f + boxS ss g
  | [], f, g => rfl
  | s :: r, f, g => by
    show sumN _ (fun x => boxS r fun t => f (x :: t) + g (x :: t)) = _
    rw [sumN_congr (g := fun x => boxS r (fun t => f (x :: t)) + boxS r fun t => g (x :: t)) fun x _ _ => boxS_add r _ _, sumN_add]
    rfl
theorem boxS_mul (c : Int) : ∀ (ss : List Int) (f : List Int → Int), boxS ss (fun t => c * f t) = c * boxS ss f
  | [], f => rfl
  | s :: r, f => by
    show sumN _ (fun x => boxS r fun t => c * f (x :: t)) = _
    rw [sumN_congr (g := fun x => c * boxS r fun t => f (x :: t)) fun x _ _ => boxS_mul c r _, sumN_mul]
    rfl
theorem boxS_zero : ∀ ss : List Int, boxS ss (fun _ => 0) = 0
  | [] => rfl
  | s :: r => by
    show sumN _ (fun x => boxS r fun t => 0) = 0
    rw [sumN_congr (g := fun _ => 0) fun x _ _ => boxS_zero r, sumN_zero]
theorem boxS_nn : ∀ {ss : List Int} {f : List Int → Int}, (∀ t, inS ss t → 0 ≤ f t) → 0 ≤ boxS ss f
  | [], f, h => h [] rfl
  | s :: r, f, h => sumN_nn fun x h0 h1 => boxS_nn fun t ht => h _ ⟨x, t, rfl, h0, by omega, ht⟩
theorem boxS_le : ∀ {ss : List Int} {f g : List Int → Int}, (∀ t, inS ss t → f t ≤ g t) → boxS ss f ≤ boxS ss g
  | [], f, g, h => h [] rfl
  | s :: r, f, g, h => sumN_le fun x h0 h1 => boxS_le fun t ht => h _ ⟨x, t, rfl, h0, by omega, ht⟩
theorem boxS_sum {α : Type} (ss : List Int) (f : α → List Int → Int) : ∀ ps : List α, boxS ss (fun t => (ps.map fun p => f p t).sum) = (ps.map fun p => boxS ss (f p)).sum
  | [] => boxS_zero ss
  | p :: r => by
    show boxS ss (fun t => f p t + (r.map fun p => f p t).sum) = boxS ss (f p) + (r.map fun p => boxS ss (f p)).sum
    rw [boxS_add, boxS_sum ss f r]
/-! ### counts of remainders -/
theorem div_step {a d : Int} (hd : 0 < d) : a / d = (a - 1) / d + if a % d = 0 then 1 else 0 := by
  have h1 := Int.emod_add_mul_ediv a d
  have h2 := Int.emod_nonneg a (show d ≠ 0 by omega)
  have h3 := Int.emod_lt_of_pos a hd
  by_cases h : a % d = 0
  · rw [if_pos h]
    have : (a - 1) / d = a / d - 1 := by
      refine (Int.ediv_emod_unique (r := d - 1) hd).mpr ⟨?_, by omega, by omega⟩ |>.1
      rw [Int.mul_sub, Int.mul_one]
      omega
    omega
  · rw [if_neg h]
    have : (a - 1) / d = a / d := by
      refine (Int.ediv_emod_unique (r := a % d - 1) hd).mpr ⟨?_, by omega, by omega⟩ |>.1
      omega
    omega
theorem mod_is {x d r : Int} (h0 : 0 ≤ r) (h1 : r < d) : (x - r) % d = 0 ↔ x % d = r := by
  rw [← Int.emod_eq_emod_iff_emod_sub_eq_zero, Int.emod_eq_of_lt h0 h1]
def cntI (s d r : Int) : Int := (s - 1 - r) / d - (-r - 1) / d
theorem cnt_sum {d r : Int} (h0 : 0 ≤ r) (h1 : r < d) : ∀ n : Nat, cntI (n : Int) d r = sumN n fun x => if x % d = r then 1 else 0
  | 0 => by
    unfold cntI
    rw [show ((0 : Nat) : Int) - 1 - r = -r - 1 by omega]
    show _ = (0 : Int)
    omega
  | n + 1 => by
    have ih := cnt_sum h0 h1 n
    have hs := div_step (a := (n : Int) - r) (d := d) (by omega)
    show _ = sumN n _ + if (n : Int) % d = r then 1 else 0
    rw [← ih]
    unfold cntI
    rw [show ((n + 1 : Nat) : Int) - 1 - r = (n : Int) - r by omega, hs, show (n : Int) - r - 1 = (n : Int) - 1 - r by omega]
    by_cases h : (n : Int) % d = r
    · rw [if_pos h, if_pos ((mod_is h0 h1).mpr h)]
      omega
    · rw [if_neg h, if_neg fun z => h ((mod_is h0 h1).mp z)]
      omega
def modL (d : Int) (t : List Int) : List Int := t.map fun x => x % d
def ind (d : Int) (k : List Int) (t : List Int) : Int := if modL d t = k then 1 else 0
theorem ind_cons (d x y : Int) (k t : List Int) : ind d (y :: k) (x :: t) = (if x % d = y then 1 else 0) * ind d k t := by
  unfold ind modL
  rw [List.map_cons]
  by_cases h : x % d = y
  · by_cases h2 : t.map (fun x => x % d) = k
    · rw [if_pos (by rw [h, h2]), if_pos h, if_pos h2]; rfl
    · rw [if_neg (fun e => h2 (List.cons.inj e).2), if_neg h2, Int.mul_zero]
  · rw [if_neg (fun e => h (List.cons.inj e).1), if_neg h, Int.zero_mul]
theorem prod_cnt {d : Int} : ∀ {ss rs : List Int} {c : Int}, ss.length = rs.length → (∀ s ∈ ss, 0 ≤ s) → (∀ r ∈ rs, 0 ≤ r ∧ r < d) → (ss.zip rs).foldl (fun m q => m * cntI q.1 d q.2) c = c * boxS ss (ind d rs)
  | [], [], c, _, _, _ => by
    show c = c * ind d [] []
    have : ind d [] [] = 1 := rfl
    rw [this, Int.mul_one]
  | s :: ss, r :: rs, c, hl, hs, hr => by
    have h1 := hr r List.mem_cons_self
    have hc := cnt_sum h1.1 h1.2 s.toNat
    rw [Int.toNat_of_nonneg (hs s List.mem_cons_self)] at hc
    rw [List.zip_cons_cons, List.foldl_cons, prod_cnt (Nat.succ.inj hl) (fun z hz => hs z (List.mem_cons_of_mem _ hz)) fun z hz => hr z (List.mem_cons_of_mem _ hz)]
    show c * cntI s d r * boxS ss (ind d rs) = c * sumN s.toNat fun x => boxS ss fun t => ind d (r :: rs) (x :: t)
    rw [hc, Int.mul_assoc]
    congr 1
    rw [Int.mul_comm, ← sumN_mul]
    refine sumN_congr fun x _ _ => ?_
    rw [Int.mul_comm, ← boxS_mul]
    exact boxS_congr fun t _ => (ind_cons d x r rs t).symm
/-- the numbers below s, by their remainders -/
theorem part_sum {P : Nat} (hP : 0 < P) (g : Int → Int) : ∀ s : Nat, sumN (min P s) (fun r => (((s : Int) - r + P - 1) / P) * g r) = sumN s fun x => g (x % P)
  | 0 => by
    rw [Nat.min_eq_right (Nat.zero_le _)]
    rfl
  | s + 1 => by
    have ih := part_sum hP g s
    show _ = sumN s _ + g ((s : Int) % P)
    rw [← ih]
    by_cases h : s < P
    · rw [Nat.min_eq_right (by omega : s + 1 ≤ P), Nat.min_eq_right (by omega : s ≤ P)]
      show sumN s _ + ((((s + 1 : Nat) : Int) - (s : Int) + P - 1) / P) * g (s : Int) = _
      have e1 : (((s + 1 : Nat) : Int) - (s : Int) + P - 1) / P = 1 := by
        rw [show ((s + 1 : Nat) : Int) - (s : Int) + P - 1 = (P : Int) by omega]
        exact Int.ediv_self (by omega)
      rw [e1, Int.one_mul, Int.emod_eq_of_lt (by omega) (by omega)]
      congr 1
      refine sumN_congr fun r h0 h1 => ?_
      have hd := div_step (a := ((s + 1 : Nat) : Int) - r + P - 1) (d := (P : Int)) (by omega)
      rw [if_neg (by
        rw [show ((s + 1 : Nat) : Int) - r + P - 1 = (s - r) + P by omega, Int.add_emod_right, Int.emod_eq_of_lt (by omega) (by omega)]
        omega)] at hd
      rw [hd, Int.add_zero, show ((s + 1 : Nat) : Int) - r + P - 1 - 1 = (s : Int) - r + P - 1 by omega]
    · rw [Nat.min_eq_left (by omega : P ≤ s + 1), Nat.min_eq_left (by omega : P ≤ s)]
      have hone := sumN_one (g := g) (m := (s : Int) % P) (n := P)
      rw [if_pos ⟨Int.emod_nonneg _ (by omega), Int.emod_lt_of_pos _ (by omega)⟩] at hone
      rw [← hone, ← sumN_add]
      refine sumN_congr fun r h0 h1 => ?_
      have hd := div_step (a := ((s + 1 : Nat) : Int) - r + P - 1) (d := (P : Int)) (by omega)
      rw [hd, show ((s + 1 : Nat) : Int) - r + P - 1 - 1 = (s : Int) - r + P - 1 by omega, ← Int.add_mul]
      congr 2
      have hm : (((s + 1 : Nat) : Int) - r + P - 1) % P = ((s : Int) - r) % P := by
        rw [show ((s + 1 : Nat) : Int) - r + P - 1 = (s - r) + P by omega, Int.add_emod_right]
      rw [hm]
      by_cases e : (s : Int) % P = r
      · rw [if_pos ((mod_is h0 h1).mpr e), if_pos e]
      · rw [if_neg fun z => e ((mod_is h0 h1).mp z), if_neg e]
/-! ### keys -/
def hasB (keys : List (Int × List Int)) (t : List Int) : Bool := keys.any fun k => decide (modL k.1 t = k.2)
def freeI (keys : List (Int × List Int)) (t : List Int) : Int := if hasB keys t = true then 0 else 1
def freeN (ss : List Int) (keys : List (Int × List Int)) : Int := boxS ss (freeI keys)
theorem freeI_snoc (keys : List (Int × List Int)) (k : Int × List Int) (t : List Int) : freeI (keys ++ [k]) t = freeI keys t * (1 - ind k.1 k.2 t) := by
  unfold freeI hasB ind
  rw [List.any_append]
  cases h : keys.any fun k => decide (modL k.1 t = k.2) with
  | true => simp
  | false =>
    by_cases e : modL k.1 t = k.2
    · simp [e]
    · simp [e]
/-- two divisors without a common one -/
structure Cop (d p : Int) : Prop where
  pos : 0 < d
  pp : 1 < p
  dvd : ∀ z : Int, d ∣ z → p ∣ z → d * p ∣ z
  has : ∀ a : Int, ∃ j : Nat, (j : Int) < p ∧ (a + j * d) % p = 0
theorem ex_lt2 {P : Nat → Prop} (h : P 0 ∨ P 1) : ∃ j : Nat, (j : Int) < 2 ∧ P j := by
  rcases h with h | h
  · exact ⟨0, by decide, h⟩
  · exact ⟨1, by decide, h⟩
theorem ex_lt3 {P : Nat → Prop} (h : P 0 ∨ P 1 ∨ P 2) : ∃ j : Nat, (j : Int) < 3 ∧ P j := by
  rcases h with h | h | h
  · exact ⟨0, by decide, h⟩
  · exact ⟨1, by decide, h⟩
  · exact ⟨2, by decide, h⟩
theorem ex_lt5 {P : Nat → Prop} (h : P 0 ∨ P 1 ∨ P 2 ∨ P 3 ∨ P 4) : ∃ j : Nat, (j : Int) < 5 ∧ P j := by
  rcases h with h | h | h | h | h
  · exact ⟨0, by decide, h⟩
  · exact ⟨1, by decide, h⟩
  · exact ⟨2, by decide, h⟩
  · exact ⟨3, by decide, h⟩
  · exact ⟨4, by decide, h⟩
theorem cop12 : Cop 1 2 := ⟨by decide, by decide, fun z _ _ => by omega, fun a => ex_lt2 (by omega)⟩
theorem cop13 : Cop 1 3 := ⟨by decide, by decide, fun z _ _ => by omega, fun a => ex_lt3 (by omega)⟩
theorem cop23 : Cop 2 3 := ⟨by decide, by decide, fun z _ _ => by omega, fun a => ex_lt3 (by omega)⟩
theorem cop15 : Cop 1 5 := ⟨by decide, by decide, fun z _ _ => by omega, fun a => ex_lt5 (by omega)⟩
theorem cop25 : Cop 2 5 := ⟨by decide, by decide, fun z _ _ => by omega, fun a => ex_lt5 (by omega)⟩
theorem cop35 : Cop 3 5 := ⟨by decide, by decide, fun z _ _ => by omega, fun a => ex_lt5 (by omega)⟩
theorem cop65 : Cop 6 5 := ⟨by decide, by decide, fun z _ _ => by omega, fun a => ex_lt5 (by omega)⟩
def Led (d p : Int) : List Int → List Int → List Int → Prop
  | [], [], [] => True
  | r :: rs, k :: ks, b :: bs => (b % d = r ∧ b % p = k ∧ 0 ≤ b ∧ b < d * p) ∧ Led d p rs ks bs
  | _, _, _ => False
theorem led_one {d p r k b : Int} (hc : Cop d p) (h : b % d = r ∧ b % p = k ∧ 0 ≤ b ∧ b < d * p) (x : Int) : x % (d * p) = b ↔ x % d = r ∧ x % p = k := by
  obtain ⟨h1, h2, h3, h4⟩ := h
  have hp := hc.pp
  have hd := hc.pos
  constructor
  · rintro rfl
    rw [Int.emod_emod_of_dvd _ (Int.dvd_mul_right d p)] at h1
    rw [Int.emod_emod_of_dvd _ (Int.dvd_mul_left d p)] at h2
    exact ⟨h1, h2⟩
  · rintro ⟨e1, e2⟩
    have a1 : d ∣ x - b := Int.dvd_of_emod_eq_zero (Int.emod_eq_emod_iff_emod_sub_eq_zero.mp (e1.trans h1.symm))
    have a2 : p ∣ x - b := Int.dvd_of_emod_eq_zero (Int.emod_eq_emod_iff_emod_sub_eq_zero.mp (e2.trans h2.symm))
    have a3 := Int.emod_eq_emod_iff_emod_sub_eq_zero.mpr (Int.emod_eq_zero_of_dvd (hc.dvd _ a1 a2))
    rw [a3, Int.emod_eq_of_lt h3 h4]
theorem ind_led {d p : Int} (hc : Cop d p) : ∀ {rs ks bs t : List Int}, Led d p rs ks bs → t.length = rs.length → ind (d * p) bs t = ind d rs t * ind p ks t
  | [], [], [], [], _, _ => rfl
  | r :: rs, k :: ks, b :: bs, x :: t, h, hl => by
    rw [ind_cons, ind_cons, ind_cons, ind_led hc h.2 (Nat.succ.inj hl)]
    have e := led_one hc h.1 x
    by_cases e1 : x % d = r
    · by_cases e2 : x % p = k
      · rw [if_pos (e.mpr ⟨e1, e2⟩), if_pos e1, if_pos e2]
        simp
      · rw [if_neg fun z => e2 (e.mp z).2, if_neg e2]
        simp
    · rw [if_neg fun z => e1 (e.mp z).1, if_neg e1]
      simp
def partV (ps : List (Int × List Int × Int)) (t : List Int) : Int := (ps.map fun q => q.2.2 * ind q.1 q.2.1 t).sum
theorem partV_with {p : Int} {k t : List Int} {W : Int × List Int × Int → Int × List Int × Int} : ∀ {ps : List (Int × List Int × Int)}, (∀ q ∈ ps, Cop q.1 p ∧ (W q).1 = q.1 * p ∧ Led q.1 p q.2.1 k (W q).2.1 ∧ (W q).2.2 = -q.2.2 ∧ t.length = q.2.1.length) → partV (ps ++ ps.map W) t = partV ps t * (1 - ind p k t) := fun {ps} h => by
  have key : ∀ {ps : List (Int × List Int × Int)}, (∀ q ∈ ps, Cop q.1 p ∧ (W q).1 = q.1 * p ∧ Led q.1 p q.2.1 k (W q).2.1 ∧ (W q).2.2 = -q.2.2 ∧ t.length = q.2.1.length) → partV (ps.map W) t = -(partV ps t * ind p k t) := fun {ps} h => by
    induction ps with
    | nil =>
      show (0 : Int) = -(0 * _)
      rw [Int.zero_mul]; rfl
    | cons q r ih =>
      obtain ⟨h1, h2, h3, h4, h5⟩ := h q List.mem_cons_self
      have ih := ih fun z hz => h z (List.mem_cons_of_mem _ hz)
      show (W q).2.2 * ind (W q).1 (W q).2.1 t + partV (r.map W) t = -((q.2.2 * ind q.1 q.2.1 t + partV r t) * ind p k t)
      rw [ih, h2, h4, ind_led h1 h3 h5, Int.add_mul, Int.neg_add, Int.neg_mul, Int.mul_assoc]
  have : partV (ps ++ ps.map W) t = partV ps t + partV (ps.map W) t := by
    unfold partV
    rw [List.map_append, List.sum_append]
  rw [this, key h, Int.mul_sub, Int.mul_one]
  omega
/-- the parts, so far -/
structure Parts (n : Nat) (D : List Int) (keys : List (Int × List Int)) (ps : List (Int × List Int × Int)) : Prop where
  all : ∀ q ∈ ps, q.1 ∈ D ∧ 0 < q.1 ∧ q.2.1.length = n ∧ (∀ r ∈ q.2.1, 0 ≤ r ∧ r < q.1) ∧ (q.2.2 = 1 ∨ q.2.2 = -1)
  val : ∀ t : List Int, t.length = n → partV ps t = freeI keys t
theorem modL_one (t : List Int) : modL 1 t = List.replicate t.length 0 := by
  unfold modL
  induction t with
  | nil => rfl
  | cons x r ih => rw [List.map_cons, ih, Int.emod_one]; rfl
theorem parts_one (n : Nat) : Parts n [1] [] [(1, List.replicate n 0, 1)] where
  all := fun q hq => by
    rw [List.mem_singleton.mp hq]
    exact ⟨List.mem_singleton.mpr rfl, Int.one_pos, List.length_replicate, fun r hr => by rw [List.eq_of_mem_replicate hr]; exact ⟨Int.le_refl 0, Int.one_pos⟩, .inl rfl⟩
  val := fun t ht => by
    show 1 * ind 1 (List.replicate n 0) t + 0 = 1
    unfold ind
    rw [modL_one, ht, if_pos rfl]
    rfl
theorem led_mem {d p : Int} : ∀ {rs ks bs : List Int}, Led d p rs ks bs → bs.length = rs.length ∧ ∀ b ∈ bs, 0 ≤ b ∧ b < d * p
  | [], [], [], _ => ⟨rfl, fun b h => nomatch h⟩
  | r :: rs, k :: ks, b :: bs, h => by
    obtain ⟨h1, h2⟩ := led_mem h.2
    refine ⟨by rw [List.length_cons, h1, List.length_cons], fun x hx => ?_⟩
    rcases List.mem_cons.mp hx with e | e
    · exact e ▸ h.1.2.2
    · exact h2 x e
theorem Parts.next {n : Nat} {D D' : List Int} {keys : List (Int × List Int)} {ps : List (Int × List Int × Int)} {p : Int} {k : List Int} {W : Int × List Int × Int → Int × List Int × Int} (h : Parts n D keys ps) (hD : ∀ d ∈ D, Cop d p ∧ d ∈ D' ∧ d * p ∈ D') (hW : ∀ q ∈ ps, (W q).1 = q.1 * p ∧ Led q.1 p q.2.1 k (W q).2.1 ∧ (W q).2.2 = -q.2.2) : Parts n D' (keys ++ [(p, k)]) (ps ++ ps.map W) where
  all := fun q hq => by
    rcases List.mem_append.mp hq with z | z
    · obtain ⟨h1, h2⟩ := h.all q z
      exact ⟨(hD _ h1).2.1, h2⟩
    · obtain ⟨x, hx, rfl⟩ := List.mem_map.mp z
      obtain ⟨h1, h2, h3, h4, h5⟩ := h.all x hx
      obtain ⟨w1, w2, w3⟩ := hW x hx
      obtain ⟨m1, m2⟩ := led_mem w2
      have hc := (hD _ h1).1
      refine ⟨by rw [w1]; exact (hD _ h1).2.2, by rw [w1]; exact Int.mul_pos h2 (by have := hc.pp; omega), by rw [m1, h3], fun r hr => by rw [w1]; exact m2 r hr, ?_⟩
      rw [w3]
      rcases h5 with e | e <;> rw [e]
      · exact .inr rfl
      · exact .inl rfl
  val := fun t ht => by
    rw [partV_with (p := p) (k := k) (fun q hq => by
      obtain ⟨w1, w2, w3⟩ := hW q hq
      obtain ⟨h1, h2, h3, h4, h5⟩ := h.all q hq
      exact ⟨(hD _ h1).1, w1, w2, w3, by rw [h3, ht]⟩), h.val t ht, freeI_snoc]
theorem inS_length {ss t : List Int} (h : inS ss t) : t.length = ss.length := inS_len h
/-- inclusion and exclusion -/
theorem Parts.sum {n : Nat} {D : List Int} {keys : List (Int × List Int)} {ps : List (Int × List Int × Int)} {ss : List Int} (h : Parts n D keys ps) (hn : ss.length = n) (hs : ∀ s ∈ ss, 0 ≤ s) : (ps.map fun q => q.2.2 * (ss.zip q.2.1).foldl (fun m z => m * cntI z.1 q.1 z.2) 1).sum = freeN ss keys := by
  have e : (ps.map fun q => q.2.2 * (ss.zip q.2.1).foldl (fun m z => m * cntI z.1 q.1 z.2) 1) = ps.map fun q => boxS ss fun t => q.2.2 * ind q.1 q.2.1 t := by
    refine List.map_congr_left fun q hq => ?_
    obtain ⟨h1, h2, h3, h4, h5⟩ := h.all q hq
    rw [prod_cnt (by omega) hs h4, Int.one_mul, boxS_mul]
  rw [e, ← boxS_sum]
  exact boxS_congr fun t ht => h.val t (by rw [inS_len ht, hn])
/-! ### the groups of the law -/
def grpStep (P s : Int) (G : List (List Int × Int)) : List (List Int × Int) := G.flatMap fun q => (rng 0 (min P s).toNat).map fun x => (q.1 ++ [x], q.2 * ((s - x + P - 1) / P))
def grp (P : Int) : List Int → List (List Int × Int) → List (List Int × Int)
  | [], G => G
  | s :: r, G => grp P r (grpStep P s G)
theorem sum_rng (f : Int → Int) : ∀ n : Nat, ((rng 0 n).map f).sum = sumN n f
  | 0 => rfl
  | n + 1 => by
    have : rng 0 (n + 1) = rng 0 n ++ [(n : Int)] := by
      unfold rng
      rw [List.range_succ, List.map_append]
      simp
    rw [this, List.map_append, List.sum_append, sum_rng f n]
    show _ + (f (n : Int) + 0) = _ + _
    omega
theorem sum_flat {α β : Type} (f : α → List β) (g : β → Int) : ∀ xs : List α, ((xs.flatMap f).map g).sum = (xs.map fun a => ((f a).map g).sum).sum
  | [] => rfl
  | a :: r => by rw [List.flatMap_cons, List.map_append, List.sum_append, sum_flat f g r]; rfl
theorem grp_sum {P : Nat} (hP : 0 < P) : ∀ {ss : List Int} {G : List (List Int × Int)} {g : List Int → Int}, (∀ s ∈ ss, 0 ≤ s) → ((grp P ss G).map fun q => q.2 * g q.1).sum = (G.map fun q => q.2 * boxS ss fun t => g (q.1 ++ modL P t)).sum
  | [], G, g, _ => by
    congr 1
    refine List.map_congr_left fun q _ => ?_
    show _ = q.2 * g (q.1 ++ [])
    rw [List.append_nil]
  | s :: r, G, g, h => by
    have hs := h s List.mem_cons_self
    show ((grp P r (grpStep P s G)).map _).sum = _
    rw [grp_sum hP fun z hz => h z (List.mem_cons_of_mem _ hz)]
    unfold grpStep
    rw [sum_flat]
    congr 1
    refine List.map_congr_left fun q _ => ?_
    rw [List.map_map, sum_rng]
    show sumN _ (fun x => q.2 * ((s - x + P - 1) / P) * boxS r fun t => g (q.1 ++ [x] ++ modL P t)) = q.2 * sumN s.toNat fun x => boxS r fun t => g (q.1 ++ modL P (x :: t))
    obtain ⟨m, rfl⟩ := Int.eq_ofNat_of_zero_le hs
    have e := part_sum hP (fun x => boxS r fun t => g (q.1 ++ [x] ++ modL P t)) m
    have e2 : (min (P : Int) (m : Int)).toNat = min P m := by omega
    rw [e2, Int.toNat_natCast]
    have e3 : (sumN m fun x => boxS r fun t => g (q.1 ++ modL P (x :: t))) = sumN m fun x => boxS r fun t => g (q.1 ++ [x % (P : Int)] ++ modL P t) := sumN_congr fun x _ _ => boxS_congr fun t _ => by
      unfold modL
      rw [List.map_cons, List.append_assoc]
      rfl
    rw [e3, ← e, ← sumN_mul]
    exact sumN_congr fun x _ _ => Int.mul_assoc ..
theorem modL_mod {p P : Int} (h : p ∣ P) (t : List Int) : modL p (modL P t) = modL p t := by
  unfold modL
  rw [List.map_map]
  exact List.map_congr_left fun x _ => Int.emod_emod_of_dvd x h
theorem freeI_mod {P : Int} {keys : List (Int × List Int)} (h : ∀ k ∈ keys, k.1 ∣ P) (t : List Int) : freeI keys (modL P t) = freeI keys t := by
  have : hasB keys (modL P t) = hasB keys t := by
    unfold hasB
    induction keys with
    | nil => rfl
    | cons k r ih => rw [List.any_cons, List.any_cons, ih fun z hz => h z (List.mem_cons_of_mem _ hz), modL_mod (h k List.mem_cons_self)]
  unfold freeI
  rw [this]
theorem grp_free {P : Nat} (hP : 0 < P) {ss : List Int} {keys : List (Int × List Int)} (hs : ∀ s ∈ ss, 0 ≤ s) (h : ∀ k ∈ keys, k.1 ∣ (P : Int)) : ((grp P ss [([], 1)]).map fun q => q.2 * freeI keys q.1).sum = freeN ss keys := by
  rw [grp_sum hP hs]
  show 1 * boxS ss (fun t => freeI keys ([] ++ modL P t)) + 0 = boxS ss (freeI keys)
  rw [Int.one_mul, Int.add_zero]
  exact boxS_congr fun t _ => freeI_mod h t
theorem sum_picked {α : Type} (c : α → Bool) (w : α → Int) : ∀ xs : List α, (xs.filterMap fun q => if c q = true then some (w q) else none).sum = (xs.map fun q => w q * if c q = true then 1 else 0).sum
  | [] => rfl
  | a :: r => by
    rw [List.filterMap_cons, List.map_cons, List.sum_cons]
    cases h : c a with
    | true => simp [sum_picked c w r, h]
    | false => simp [sum_picked c w r, h]
theorem grpStep_len {P s : Int} (G : List (List Int × Int)) : (grpStep P s G).length = G.length * (min P s).toNat := flat_const fun q _ => by rw [List.length_map, rng_len]
section
variable {υ δ α β γ τ κ ρ ε : Type}
theorem forB_grp {P : Nat} (hP : 1 ≤ P ∧ P ≤ 30) {f : Int → List (List Int × Int) → δ → Bk ε (List (List Int × Int) × δ) (List (List Int × Int) × δ) ρ} {d : δ} : ∀ {ss : List Int} {G : List (List Int × Int)} {B : Nat}, (∀ s ∈ ss, 1 ≤ s ∧ s < 2 ^ 110) → (∀ q ∈ G, q.2.natAbs < 2 ^ B ∧ q.1.length + ss.length ≤ 100) → B + 111 * ss.length ≤ 900 → G.length * 30 ^ ss.length ≤ 10000000 →
    (∀ s ∈ ss, ∀ G : List (List Int × Int), G.length * 30 ≤ 10000000 → (∀ q ∈ G, q.2.natAbs < 2 ^ 900 ∧ q.1.length ≤ 100) → f s G d = .nx (grpStep P s G, d)) → (forB f ss G d : Bk ε (List (List Int × Int) × δ) κ ρ) = .nx (grp P ss G, d)
  | [], G, B, _, _, _, _, _ => rfl
  | s :: r, G, B, hs, hG, hB, hl, hf => by
    have hp : 1 ≤ 30 ^ r.length := Nat.one_le_pow _ _ (by decide)
    have e : G.length * 30 ^ (r.length + 1) = G.length * 30 * 30 ^ r.length := by rw [Nat.pow_succ, Nat.mul_assoc, Nat.mul_comm 30]
    rw [List.length_cons, e] at hl
    rw [List.length_cons] at hB
    have hm : (min (P : Int) s).toNat ≤ 30 := by omega
    have h1 := hs s List.mem_cons_self
    rw [forB, hf s List.mem_cons_self G (Nat.le_trans (Nat.le_mul_of_pos_right _ hp) hl) fun q hq => ⟨Nat.lt_of_lt_of_le (hG q hq).1 (Nat.pow_le_pow_right (by decide) (by omega)), by have := (hG q hq).2; omega⟩]
    refine forB_grp hP (B := B + 111) (fun z hz => hs z (List.mem_cons_of_mem _ hz)) (fun q hq => ?_) (by omega) ?_ fun z hz => hf z (List.mem_cons_of_mem _ hz)
    · obtain ⟨x, hx, hq⟩ := List.mem_flatMap.mp hq
      obtain ⟨y, hy, rfl⟩ := List.mem_map.mp hq
      obtain ⟨g1, g2⟩ := hG x hx
      rw [List.length_cons] at g2
      refine ⟨?_, by rw [List.length_append]; simp only [List.length_cons, List.length_nil]; omega⟩
      obtain ⟨y1, y2⟩ := rng_mem.mp hy
      have c1 : 0 ≤ (s - y + P - 1) / (P : Int) := Int.ediv_nonneg (by omega) (by omega)
      have c2 : (s - y + P - 1) / (P : Int) ≤ s - y + P - 1 := Int.ediv_le_self _ (by omega)
      show (x.2 * ((s - y + P - 1) / (P : Int))).natAbs < _
      rw [Int.natAbs_mul, Nat.pow_add]
      exact Nat.mul_lt_mul'' g1 (by omega)
    · rw [grpStep_len]
      exact Nat.le_trans (Nat.mul_le_mul_right _ (Nat.mul_le_mul_left _ hm)) hl
/-- going on by steps until a prime divides -/
theorem wh_led {t : Int → Unit → Res (Er × Unit) (Bool × Unit)} {b : Int → Unit → Bk (Er × Unit) (Int × Unit) (Int × Unit) (ρ × Unit)} {rest d p : Int} (ht : ∀ s : Int, t s () = .ok (!decide ((s + rest) % p = 0), ())) (hb : ∀ s : Int, b s () = .nx (s + d, ())) : ∀ (n j : Nat) (s : Int), j < n → (s + rest + j * d) % p = 0 → ∃ i : Nat, i ≤ j ∧ (whB (κ := κ) t b n s ()) = .nx (s + i * d, ()) ∧ (s + i * d + rest) % p = 0
  | 0, j, s, h, _ => absurd h (Nat.not_lt_zero _)
  | n + 1, j, s, h, e => by
    rw [whB, ht, Res.ok_bs]
    by_cases h0 : (s + rest) % p = 0
    · refine ⟨0, Nat.zero_le _, ?_, by simpa using h0⟩
      rw [decide_eq_true h0]
      simp
    · rw [decide_eq_false h0, Bool.not_false, if_pos rfl, hb]
      cases j with
      | zero => exact absurd (by simpa using e) h0
      | succ j =>
        obtain ⟨i, hi, e1, e2⟩ := wh_led ht hb n j (s + d) (by omega) (by
          rw [← e]
          congr 1
          rw [Int.natCast_succ, Int.add_mul, Int.one_mul]
          omega)
        refine ⟨i + 1, by omega, ?_, ?_⟩
        · dsimp only
          rw [e1]
          congr 2
          rw [Int.natCast_succ, Int.add_mul, Int.one_mul]
          omega
        · rw [← e2]
          congr 1
          rw [Int.natCast_succ, Int.add_mul, Int.one_mul]
          omega
end
theorem grp_len {P : Nat} (hP : P ≤ 30) : ∀ {ss : List Int} {G : List (List Int × Int)}, (grp P ss G).length ≤ G.length * 30 ^ ss.length
  | [], G => by simp [grp]
  | s :: r, G => by
    show (grp P r (grpStep P s G)).length ≤ _
    refine Nat.le_trans grp_len' ?_
    rw [grpStep_len, List.length_cons, Nat.pow_succ, Nat.mul_assoc, Nat.mul_comm (30 ^ r.length)]
    exact Nat.mul_le_mul_left _ (Nat.mul_le_mul_right _ (by omega))
where grp_len' {r : List Int} {G : List (List Int × Int)} : (grp P r G).length ≤ G.length * 30 ^ r.length := grp_len hP
theorem grp_each {P : Int} : ∀ {ss : List Int} {G : List (List Int × Int)} {q : List Int × Int}, q ∈ grp P ss G → ∃ a ∈ G, q.1.length = a.1.length + ss.length
  | [], G, q, h => ⟨q, h, rfl⟩
  | s :: r, G, q, h => by
    obtain ⟨a, ha, e⟩ := grp_each (ss := r) (G := grpStep P s G) h
    obtain ⟨b, hb, ha⟩ := List.mem_flatMap.mp ha
    obtain ⟨x, hx, rfl⟩ := List.mem_map.mp ha
    refine ⟨b, hb, ?_⟩
    rw [e, List.length_append, List.length_cons]
    simp only [List.length_cons, List.length_nil]
    omega
theorem freeI_not (keys : List (Int × List Int)) (t : List Int) : (if (!hasB keys t) = true then (1 : Int) else 0) = freeI keys t := by
  unfold freeI
  cases hasB keys t <;> rfl
end L2

/-! l.index(x) of data, l.reverse(), == of pairs whose second may be None -/
namespace L2
open PySem PySem.Spec PyProof.Rows RZ
def gIxD {α : Type} [DecidableEq α] (e : α → PyData) (xs : List α) (a : α) : Option Int := if (e a).canLay0 = true ∧ PyData.canLayAll0 (xs.map e) = true then Option.map (fun j : Nat => (j : Int)) (xs.findIdx? fun x => decide (x = a)) else none
theorem kidxD {X : Cx} {K : PySem.W.Frag} (h : X.K = K) (hu : X.A.units + 65 < cLine) : MtR X "list.index" (rIndexD K) := h ▸ mt_indexD hu
theorem gIxD_some {α : Type} [DecidableEq α] {e : α → PyData} {xs : List α} {a : α} {c : Int} (h : gIxD e xs a = some c) : ((e a).canLay0 = true ∧ PyData.canLayAll0 (xs.map e) = true) ∧ ∃ j : Nat, c = (j : Int) ∧ xs[j]? = some a ∧ ∀ m x, m < j → xs[m]? = some x → x ≠ a := by
  unfold gIxD at h
  split at h
  · rename_i hl
    obtain ⟨j, hj, rfl⟩ := Option.map_eq_some_iff.mp h
    obtain ⟨hlt, h1, h2⟩ := List.findIdx?_eq_some_iff_getElem.mp hj
    refine ⟨hl, j, rfl, ?_, fun m x hm hx e2 => ?_⟩
    · rw [List.getElem?_eq_getElem hlt]
      exact congrArg some (of_decide_eq_true h1)
    · obtain ⟨hm2, e3⟩ := List.getElem?_eq_some_iff.mp hx
      have := h2 m hm
      rw [e3, e2] at this
      simp at this
  · cases h
theorem layAll_get : ∀ {zs : List PyData} {m : Nat} {z : PyData}, PyData.canLayAll0 zs = true → zs[m]? = some z → z.canLay0 = true
  | [], m, z, _, h => by rw [List.getElem?_nil] at h; cases h
  | y :: ys, 0, z, h, e => by
    rw [PyData.canLayAll0, Bool.and_eq_true] at h
    cases e
    exact h.1
  | y :: ys, m + 1, z, h, e => by
    rw [PyData.canLayAll0, Bool.and_eq_true] at h
    exact layAll_get (m := m) h.2 e
section
variable {υ δ : Type} {F : Fx υ} {Γ : List Cl} {Δ : Dl δ} {α β : Type}
theorem tj_indexD [DecidableEq α] {R : Rp α} (dd : DtO F.K R) (hd : dd.dep ≤ 63) {to : TE} {t : TA} {mo : δ → Res (Er × δ) (List α × δ)} {ma : δ → Res (Er × δ) ((α × Unit) × δ)} {c c2 : Bool} (h : TEj F Γ Δ to mo (aLst F.K R) c) (h2 : TAj F Γ Δ t ma (.cons R .nil) c2) :
    TEj F Γ Δ (tBM F.K "list" (rIndexD F.K) to t) (fun d => (mo d).bd fun xs d => (ma d).bd fun a d => optAt (gIxD dd.enc xs a.1) d) aI true := fun Ds d σ H Q e q => by
  refine h Ds d σ H _ e ((q.bind).mono fun xs d1 H1 e1 k1 q1 v pv => ?_)
  obtain ⟨A, vs, rfl, ha, hp⟩ := id pv
  refine ⟨.inl ⟨rfl, _, ha.sq⟩, h2 Ds d1 σ H1 _ e1 ((q1.bind).mono fun a d2 H2 e2 k2 q2 ws pw => ?_)⟩
  obtain ⟨w, us, rfl, p0, rfl⟩ := pw
  obtain ⟨A', vs', e', ha', hp'⟩ := (aLst F.K R).keep pv (k2.soft _)
  cases e'
  dsimp only at q2
  cases hg : gIxD dd.enc xs a.1 with
  | none => rw [hg] at q2; exact q2.elim
  | some i =>
    rw [hg] at q2
    obtain ⟨hl, j, rfl, h1, hlt⟩ := gIxD_some hg
    refine ⟨A, _, _, _, j, dd.enc a.1, rfl, rfl, .lst ha'.sq (dpAllO dd hp'), dd.dp p0, ?_, shaped_of hl.1 (dd.hdep a.1) (by omega), by rw [List.getElem?_map, h1]; rfl, ?_, fun m z hm hz => ?_, After.ok q2 e2 _ rfl⟩
    · exact shaped_of (d := .list (xs.map dd.enc)) (n := dd.dep + 1) (by simpa [PyData.canLay0] using hl.2) (Nat.succ_le_succ (depthAll_of dd.hdep xs)) (by omega)
    · rw [eqv_dec dd hl.1]
      exact decide_eq_true rfl
    · have hz0 := layAll_get hl.2 hz
      rw [List.getElem?_map] at hz
      obtain ⟨x, hx, rfl⟩ := Option.map_eq_some_iff.mp hz
      rw [eqv_dec dd hz0]
      exact decide_eq_false (hlt m x hm hx)
theorem paired_rev {α' β' : Type} {P : α' → β' → Prop} {l : List α'} {m : List β'} (h : Paired P l m) : Paired P l.reverse m.reverse := by
  induction h with
  | nil => exact .nil
  | cons a _ ih =>
    rw [List.reverse_cons, List.reverse_cons]
    exact paired_app ih (.cons a .nil)
/-- l.reverse(), l owned -/
theorem tj_rev {K' : PySem.W.Frag} {i j : Nat} {R : Rp α} {g : δ → List α} {p : List α → δ → δ} (hi : Γ[i]? = some (.ow j)) (ix : Ix Δ j (oLst R) g p) : TEj F Γ Δ (tBM0 K' "list" rReverse (tVar i)) (fun d => .ok ((), p (g d).reverse d)) aN true := fun Ds d σ H Q e q => by
  obtain ⟨s, h1, D, hD, rfl⟩ := e.get hi
  obtain ⟨D', h2, vs, h3, h4⟩ := ix.here e.own
  rw [hD] at h2
  cases h2
  have nt : ∀ xs, H D ≠ some (.tup xs) := fun xs z => by rw [h3] at z; cases z
  have hm := List.mem_of_getElem? hD
  have h8 := Paired.mapP h4 fun _ _ z => Rp.into (H := H) (o := .lst vs.reverse) z hm nt
  obtain ⟨e2, k2⟩ := e.put (b := (g d).reverse) (o := .lst vs.reverse) ix hD ⟨_, upd_same, paired_rev h8⟩
  exact ⟨_, h1, .inl ⟨rfl, _, SqL.of h3⟩, D, vs, rfl, rfl, h3, q _ e2 k2 _ rfl⟩
theorem tn_callKN {γ : Type} {A : Al γ} {A' : Al α} {R : Rp β} {f : α → Res Er (List β)} {E : XK} {t : TA} {m : δ → Res (Er × δ) (γ × δ)} {c : Bool} {n : Nat} {is : List Nat} {pm : γ → α} (hz : F.rz = false) (hp : ∀ S H vs a, A.P S H vs a → A'.P S H (kwP n is [] vs) (pm a)) (h : TAj F Γ Δ t m A c) :
    TNj F Γ Δ (tCallK (spN A' R f) (kwP n is) E tNil t) (fun d => (m d).bd fun a d => (f (pm a)).at d) R true := fun Ds d σ H Q e q => by
  refine h Ds d σ H _ e ((q.bind).mono fun a d1 H1 e1 k1 q1 vs p => ?_)
  obtain ⟨r, hr, k⟩ := q1.res e1 hz
  exact ⟨pm a, hp _ _ _ _ (A.shift p (fun _ z => z.elim)), r, hr, fun D ws H' s n hD hR => k H' s D ws (k1.free n) hD (hR _ e1.live)⟩
end
section
variable {K : PySem.W.Frag} {α β : Type}
def dT2o {R : Rp α} {Q : Rp β} (d : Dt K R) (q : DtO K Q) : Dt K (aT2 R Q) := ⟨eT2 d.enc q.enc, max d.dep q.dep + 1, fun ⟨a, v1, v2, e, h, p1, p2⟩ => by rw [e]; exact .tup (SqT.of h) (.cons (d.dp p1) (.cons (q.dp p2) .nil)),
  fun x => by
    have h1 := d.hdep x.1
    have h2 := q.hdep x.2
    show max (d.enc x.1).depth (max (q.enc x.2).depth 0) + 1 ≤ _
    omega, fun a b h => by
    have h : PyData.eqvAll [d.enc a.1, q.enc a.2] [d.enc b.1, q.enc b.2] = true := by simpa [eT2, PyData.eqv] using h
    rw [PyData.eqvAll, PyData.eqvAll, PyData.eqvAll, Bool.and_true, Bool.and_eq_true] at h
    exact Prod.ext (d.eq1 _ _ h.1) (q.eq1 _ _ h.2), fun a h => by
    have h : PyData.canLayAll0 [d.enc a.1, q.enc a.2] = true := by simpa [eT2, PyData.canLay0] using h
    rw [PyData.canLayAll0, PyData.canLayAll0, PyData.canLayAll0, Bool.and_true, Bool.and_eq_true] at h
    have : PyData.eqvAll [d.enc a.1, q.enc a.2] [d.enc a.1, q.enc a.2] = true := by
      rw [PyData.eqvAll, PyData.eqvAll, PyData.eqvAll, Bool.and_true, Bool.and_eq_true]
      exact ⟨d.eq2 _ h.1, q.eq2 _ h.2⟩
    simpa [eT2, PyData.eqv] using this, fun a h => nomatch h⟩
end
end L2

/-! handlers that compute from the error they hold; lists of three of different types; calls by names in another order that may raise -/
namespace L2
open PySem PySem.Spec PyProof.Rows RZ
noncomputable instance decErV : DecidableEq ErV := fun a b => Classical.propDecidable (a = b)
/-! ### lists of three -/
def aM3 (K : PySem.W.Frag) {α β γ : Type} (R : Rp α) (Q : Rp β) (T : Rp γ) : Rp (α × β × γ) := ⟨fun S H v x => ∃ a v1 v2 v3, v = .ref a ∧ LsAt K S H a [v1, v2, v3] ∧ R.P S H v1 x.1 ∧ Q.P S H v2 x.2.1 ∧ T.P S H v3 x.2.2,
  fun ⟨a, v1, v2, v3, e, h, p, q, r⟩ k => ⟨a, v1, v2, v3, e, h.keep k, R.keep p k, Q.keep q k, T.keep r k⟩, fun ⟨a, v1, v2, v3, e, h, p, q, r⟩ k => ⟨a, v1, v2, v3, e, h.shift k, R.shift p k, Q.shift q k, T.shift r k⟩⟩
theorem nn_m3 {K : PySem.W.Frag} {α β γ : Type} {R : Rp α} {Q : Rp β} {T : Rp γ} : ∀ S H x, ¬ (aM3 K R Q T).P S H .non x := fun _ _ _ ⟨_, _, _, _, h, _⟩ => nomatch h
def eM3 {α β γ : Type} (d : α → PyData) (q : β → PyData) (t : γ → PyData) (x : α × β × γ) : PyData := .list [d x.1, q x.2.1, t x.2.2]
def dM3 {K : PySem.W.Frag} {α β γ : Type} {R : Rp α} {Q : Rp β} {T : Rp γ} (d : Dt K R) (q : Dt K Q) (t : Dt K T) : Dt K (aM3 K R Q T) := ⟨eM3 d.enc q.enc t.enc, max d.dep (max q.dep t.dep) + 1, fun ⟨a, v1, v2, v3, e, h, p1, p2, p3⟩ => by rw [e]; exact .lst h.sq (.cons (d.dp p1) (.cons (q.dp p2) (.cons (t.dp p3) .nil))),
  fun x => by
    have h1 := d.hdep x.1
    have h2 := q.hdep x.2.1
    have h3 := t.hdep x.2.2
    show max (d.enc x.1).depth (max (q.enc x.2.1).depth (max (t.enc x.2.2).depth 0)) + 1 ≤ _
    omega, fun a b h => by
    have h : PyData.eqvAll [d.enc a.1, q.enc a.2.1, t.enc a.2.2] [d.enc b.1, q.enc b.2.1, t.enc b.2.2] = true := by simpa [eM3, PyData.eqv] using h
    rw [PyData.eqvAll, PyData.eqvAll, PyData.eqvAll, PyData.eqvAll, Bool.and_true, Bool.and_eq_true, Bool.and_eq_true] at h
    exact Prod.ext (d.eq1 _ _ h.1) (Prod.ext (q.eq1 _ _ h.2.1) (t.eq1 _ _ h.2.2)), fun a h => by
    have h : PyData.canLayAll0 [d.enc a.1, q.enc a.2.1, t.enc a.2.2] = true := by simpa [eM3, PyData.canLay0] using h
    rw [PyData.canLayAll0, PyData.canLayAll0, PyData.canLayAll0, PyData.canLayAll0, Bool.and_true, Bool.and_eq_true, Bool.and_eq_true] at h
    have : PyData.eqvAll [d.enc a.1, q.enc a.2.1, t.enc a.2.2] [d.enc a.1, q.enc a.2.1, t.enc a.2.2] = true := by
      rw [PyData.eqvAll, PyData.eqvAll, PyData.eqvAll, PyData.eqvAll, Bool.and_true, Bool.and_eq_true, Bool.and_eq_true]
      exact ⟨d.eq2 _ h.1, q.eq2 _ h.2.1, t.eq2 _ h.2.2⟩
    simpa [eM3, PyData.eqv] using this, fun a h => nomatch h⟩
section
variable {υ δ α β γ : Type} {F : Fx υ} {Γ : List Cl} {Δ : Dl δ}
theorem tj_m3 {R : Rp α} {R2 : Rp β} {R3 : Rp γ} {t : TA} {m : δ → Res (Er × δ) ((α × β × γ × Unit) × δ)} {c : Bool} (h : TAj F Γ Δ t m (.cons R (.cons R2 (.cons R3 .nil))) c) : TEj F Γ Δ (tLst t) (fun d => (m d).bd fun a d => .ok ((a.1, a.2.1, a.2.2.1), d)) (aM3 F.K R R2 R3) c := fun Ds d σ H Q e q => by
  refine h Ds d σ H _ e ((q.bind).mono fun a d1 H1 e1 k1 q1 vs pv => ?_)
  obtain ⟨v, ws, rfl, p1, w, us, rfl, p2, x, ys, rfl, p3, rfl⟩ := pv
  refine ⟨by show 3 ≤ sizeLine; decide, fun p np => ?_⟩
  have s := Same.new0 (o := HO.lst [v, w, x]) np
  exact (q1 _ (e1.same s) (s.keepS _)) _ ⟨p, v, w, x, rfl, .inl ⟨fun z => by
    have z : soft true F Ds p := by
      rcases z with ⟨_, h⟩ | h
      · exact .inl ⟨rfl, h⟩
      · exact .inr h
    exact e1.live p z np, .inl upd_same⟩, R.keep p1 (s.keepS _), R2.keep p2 (s.keepS _), R3.keep p3 (s.keepS _)⟩
theorem tj_callKEP {A : Al γ} {A' : Al α} {R : Rp β} {f : α → Res Er β} {E : XK} {t : TA} {m : δ → Res (Er × δ) (γ × δ)} {c : Bool} {n : Nat} {is : List Nat} {pm : γ → α} (hz : F.rz = false) (hp : ∀ S H vs a, A.P S H vs a → A'.P S H (kwP n is [] vs) (pm a)) (h : TAj F Γ Δ t m A c) :
    TEj F Γ Δ (tCallK (spE F.K F.cl A' R f) (kwP n is) E tNil t) (fun d => (m d).bd fun a d => (f (pm a)).at d) R true := fun Ds d σ H Q e q => by
  refine h Ds d σ H _ e ((q.bind).mono fun a d1 H1 e1 k1 q1 vs p => ?_)
  exact ⟨pm a, hp _ _ _ _ (A.shift p (fun _ z => z.elim)), After.re0 hz q1 e1 fun r H' s k v hR => k v (hR _ e1.live)⟩
end
/-! ### the error that a handler holds -/
def aErP (K : PySem.W.Frag) (cl : XC → Addr) (a : Addr) (cls : Value) (dd : Addr) : Rp Er := ⟨fun S H v e => v = .ref a ∧ cls = .ref (cl e.cls) ∧ ¬ S dd ∧ ∃ x, H dd = some (.xd [("value", x)]) ∧ e.val.Ok K S H x,
  fun ⟨e, c, n, x, h, p⟩ k => ⟨e, c, n, x, k.same _ _ n h, ErV.keep p k⟩,
  fun ⟨e, c, n, x, h, p⟩ k => ⟨e, c, fun z => (k dd z).elim n (fun z => by rw [h] at z; cases z), x, h, ErV.shift p k⟩⟩
/-- e.f -/
def tXp (K : PySem.W.Frag) (a : Addr) (cls : Value) (d : Option Addr) (f : Str) (te : TE) : TE := fun σ H Q => te σ H fun x H1 => x = .ref a ∧ ∃ (C dd : Addr) (fs : List (Str × V)) (v : V), cls = .ref C ∧ XfC K C ∧ PySem.W.findIn K (.ref C) f = some none ∧ d = some dd ∧ H1 dd = some (.xd fs) ∧ fs.lookup f = some v ∧ Q v H1
theorem pe_xp {X : Cx} {a : Addr} {oe : Obj} {cls : Value} {d : Option Addr} {pn : List (Addr × Obj)} {e : Expr} {te : TE} {pos : Pos} {n : Str}
    (hz : Zc cls d oe) (hf : ∃ vs, oe.data = .fields vs) (he : PE (X.suite a ((a, oe) :: pn)) e te) (hb : attributeBase e n X.env (eval e X.env) = eval e X.env := by rfl) :
    PE (X.suite a ((a, oe) :: pn)) (.Attribute e n pos) (tXp X.K a cls d n te) := by
  refine ⟨fun pins s σ H Q I h => ?_⟩
  refine attr_of hb (thn (he.run pins s σ H _ I h) fun u s1 hh => ?_)
  obtain ⟨x, H1, I1, rx, ex, C, dd, fs, v, ec, T, hno, ed, ea, l, q⟩ := hh
  subst ex
  obtain rfl : u = Value.ref a := rx
  subst ec
  subst ed
  obtain ⟨ha, _⟩ := I1.pin (a, oe) (List.mem_append_left _ List.mem_cons_self)
  obtain ⟨vs, hd⟩ := hf
  have hx : ObjOk X.prog X.w H1 s1.heap dd (.xd fs) := I1.hok dd _ ea
  obtain ⟨mA, hns, hr⟩ := hx
  obtain ⟨od, ho, hl⟩ := lookIn_ns hns
  obtain ⟨u, hu, ru⟩ := RelO.some_of (v := v) (o := mA n) (by rw [← l]; exact hr n)
  have J : PySem.W.InstAt s1.heap a oe C (some od) := ⟨ha, hz.1, by unfold PySem.W.notCls; rw [hd] <;> rfl, by rw [hz.2]; exact ho⟩
  exact HandSPX.exc_get I1.kIn J T.ga T.gg T.exC (PySem.W.findObj_own T.hdC hno rfl (by rw [hl, hu])) (handed_of ru) ⟨v, H1, I1.tok _, ru, q⟩
/-- isinstance(e, c) -/
def rIsP (K : PySem.W.Frag) (a : Addr) (cls : Value) (d : Option Addr) : List V → Hp → VK → Prop := fun xs H Q => ∃ (D dd : Addr) (fs : List (Str × V)) (c : V) (cv : Value) (b : Bool), cls = .ref D ∧ d = some dd ∧ xs = [.ref a, c] ∧ ClsV c cv ∧ ExcC K D ∧ H dd = some (.xd fs) ∧ PySem.W.kitOne K (.ref D) cv = some b ∧ Q (.bl b) H
theorem kisP {X : Cx} {a : Addr} {oe : Obj} {cls : Value} {d : Option Addr} {pn : List (Addr × Obj)} (hz : Zc cls d oe) (hf : ∃ vs, oe.data = .fields vs) : CallR (X.suite a ((a, oe) :: pn)) (.builtin "isinstance") (rIsP X.K a cls d) := by
  intro pins s σ H xs us Q I r h
  obtain ⟨D, dd, fs, c, cv, b, rfl, rfl, rfl, hcv, C, ed, e, q⟩ := h
  obtain ⟨u1, u2, rfl, r1, r2⟩ := vals2 r
  have ec := hcv.eq r2
  subst ec
  cases (show u1 = Value.ref a from r1)
  obtain ⟨ha, _⟩ := I.pin (a, oe) (List.mem_append.mpr (.inl List.mem_cons_self))
  obtain ⟨vs, hd⟩ := hf
  have hx : ObjOk X.prog X.w H s.heap dd (.xd fs) := I.hok dd _ ed
  obtain ⟨mA, hns, hr⟩ := hx
  obtain ⟨od, ho, hl⟩ := lookIn_ns hns
  have J : PySem.W.InstAt s.heap a oe D (some od) := ⟨ha, hz.1, by unfold PySem.W.notCls; rw [hd] <;> rfl, by rw [hz.2]; exact ho⟩
  exact PySem.W.kia_one (PySem.W.kitx_K C) I.kIn J e (fun z => nomatch z) fun tk => ⟨.bl b, H, I.kept (t' := tk) fun _ _ z => z, rfl, q⟩
theorem cb_isP {K : PySem.W.Frag} {cl : XC → Addr} {a dd : Addr} {cls : Value} {ns : List XC} {g : XC → Option Bool} {c : V} {cv : Value} (T : ErrCl K cl ns) (hc : ClsV c cv) (hg : ∀ n b, g n = some b → n ∈ ns ∧ PySem.W.kitOne K (.ref (cl n)) cv = some b) : CbT (rIsP K a cls (some dd)) (.cons (aErP K cl a cls dd) (.cons (aCls c) .nil)) (gIsE g) aB := fun T0 H vs x Q hT pa ⟨b, hb, k⟩ => by
  obtain ⟨v, ws, rfl, ⟨rfl, h1, n, y, h2, p⟩, w, us, rfl, q, rfl⟩ := pa
  obtain ⟨hn, hk⟩ := hg _ _ hb
  exact ⟨_, dd, _, c, cv, b, h1, rfl, by rw [show w = c from q], hc, T.e _ hn, h2, hk, k _ H (Same.refl _) rfl⟩
section
variable {υ δ α β γ ρ κ τ : Type} {F : Fx υ} {Γ Γx : List Cl} {Δ : Dl δ}
theorem tj_xp {ns : List XC} {a dd : Addr} {cls : Value} {t : TE} {m : δ → Res (Er × δ) (Er × δ)} {c : Bool} (T : ErrCl F.K F.cl ns) (h : TEj F Γ Δ t m (aErP F.K F.cl a cls dd) c) : TEj F Γ Δ (tXp F.K a cls (some dd) "value" t) (fun d => (m d).bd fun a d => optAt (gVal ns a) d) (aErV F.K) c := fun Ds d σ H Q e q =>
  h Ds d σ H _ e ((q.bind).mono fun x d1 H1 e1 k1 q1 v p => by
    obtain ⟨y, hy, k⟩ := q1.opt e1
    unfold gVal at hy
    split at hy
    · rename_i hn
      cases hy
      obtain ⟨rfl, h1, n, z, h2, p⟩ := p
      exact ⟨rfl, _, dd, _, z, h1, T.x _ hn, T.v _ hn, rfl, h2, by simp, k H1 (Same.refl _) z p⟩
    · cases hy)
/-- the suite of an except, that computes -/
def THm (F : Fx υ) (Γx : List Cl) (Δ : Dl δ) (i : Nat) (ts : Addr → Value → Option Addr → TS) (mh : Er → δ → Res (Er × δ) (τ × δ)) (g : τ → List Cl) : Prop := ∀ Ds d σ H (e : Er) dx v a (M : St → Hp → Prop), En F Γx Δ Ds d σ H → ¬ soft true F Ds dx → H dx = some (.xd [("value", v)]) → e.val.Ok F.K (soft true F Ds) H v → H a = none →
  (∃ x d', mh e d = .ok (x, d') ∧ ∀ σ' H', En F (g x) Δ Ds d' σ' (upd H' a (exK (.ref (F.cl e.cls)) (some dx) a)) → M σ' (upd H' a (exK (.ref (F.cl e.cls)) (some dx) a))) →
  ts a (.ref (F.cl e.cls)) (some dx) { nx := fun σ' H' => H' a = none → M (σ'.set i none) (upd H' a (exK (.ref (F.cl e.cls)) (some dx) a)), rt := fun _ _ => False, bk := fun _ _ => False, ct := fun _ _ => False } (σ.set i (some (.ref a))) H
theorem th_asg {i j : Nat} {R : Rp α} {te : Addr → Value → Option Addr → TE} {m : Er → δ → Res (Er × δ) (α × δ)} {g : τ → List Cl} {fh : α → τ} (h : ∀ (xa : Addr) (xc : Value) (xd : Addr) (e : Er), TEj F (Γx.set i (.fz ((aErP F.K F.cl xa xc xd).at e))) Δ (te xa xc (some xd)) (m e) R true)
    (hg : ∀ (xa : Addr) (xc : Value) (xd : Addr) (e : Er) (x : α), Le (((Γx.set i (.fz ((aErP F.K F.cl xa xc xd).at e))).set j (.fz (R.at x))).set i .no) (g (fh x))) :
    THm F Γx Δ i (fun xa xc xd => tAsg (te xa xc xd) (gName j)) (fun e d => (m e d).bd fun x d => .ok (fh x, d)) g := fun Ds d σ H e dx v a M en ns hx hv na k => by
  have en' : En F (Γx.set i (.fz ((aErP F.K F.cl a (.ref (F.cl e.cls)) dx).at e))) Δ Ds d (σ.set i (some (.ref a))) H := en.set ⟨_, rfl, rfl, rfl, ns, v, hx, hv⟩
  refine h a _ dx e Ds d _ H _ en' ?_
  obtain ⟨x, d', hm, k⟩ := k
  replace hm : ((m e d).bd fun x d => .ok (fh x, d) : Res (Er × δ) (τ × δ)) = .ok (x, d') := hm
  cases hr : m e d with
  | ok p =>
    obtain ⟨y, d1⟩ := p
    rw [hr] at hm
    have hm : Res.ok (fh y, d1) = (Res.ok (x, d') : Res (Er × δ) (τ × δ)) := hm
    cases hm
    intro H1 e1 k1 vv pv na1
    have s := Same.new0 (o := exK (.ref (F.cl e.cls)) (some dx) a) na1
    exact k _ H1 (En.le (En.set (c := .no) ((En.set (c := .fz (R.at y)) e1 ⟨vv, rfl, pv⟩).same s) trivial) (hg a _ dx e y))
  | ex p => rw [hr] at hm; cases hm
  | bad => rw [hr] at hm; cases hm
def tryH (ct : XC → Option Bool) (fo : β → τ) (mh : Er → δ → Res (Er × δ) (τ × δ)) (r : Res (Er × δ) (β × δ)) : Res (Er × δ) (τ × δ) := match r with
  | .ok (b, d) => .ok (fo b, d)
  | .ex (e, d) => if ct e.cls = some true then mh e d else .bad
  | .bad => .bad
@[simp] theorem tryH_ok (ct : XC → Option Bool) (fo : β → τ) (mh : Er → δ → Res (Er × δ) (τ × δ)) (b : β) (d : δ) : tryH ct fo mh (.ok (b, d)) = .ok (fo b, d) := rfl
theorem tryH_ex {ct : XC → Option Bool} (fo : β → τ) (mh : Er → δ → Res (Er × δ) (τ × δ)) {e : Er} (d : δ) (h : ct e.cls = some true) : tryH ct fo mh (.ex (e, d)) = mh e d := if_pos h
theorem ts_tryH {ext : δ → υ} {Rr : Rk ρ} {C : κ → St → Hp → Prop} {t2 : TS} {tb : WX → TS} {ts : Addr → Value → Option Addr → TS} {mb : δ → Res (Er × δ) (β × δ)} {Γn : β → List Cl} {g : τ → List Cl} {fo : β → τ} {mh : Er → δ → Res (Er × δ) (τ × δ)} {c : Value} {i : Nat} {ct : XC → Option Bool} {N : γ → St → Hp → Prop} {k : τ → δ → Bk (Er × υ) γ κ (ρ × υ)}
    (hz : F.rz = false) (hE : ExtOk F Δ ext) (hc : ∀ n b, ct n = some b → PySem.W.exmOne F.K (.ref (F.cl n)) c = some b) (hb : TXj F Γ Γx Δ tb mb Γn) (hn : ∀ b, Le (Γn b) (g (fo b))) (hs : THm F Γx Δ i ts mh g) (h2 : ∀ x, TSj F (g x) Δ t2 (k x) N C Rr) :
    TSj F Γ Δ (tSeq (fun D σ H => tb (wKeep F.K c i ts (fun _ _ _ _ => False) D) D σ H) t2) (fun d => (tryH ct fo mh (mb d)).bs ext k) N C Rr := fun Ds d σ H D e q => by
  refine hb Ds d σ H _ _ e ?_
  replace q : AfterS F ((tryH ct fo mh (mb d)).bs ext k) N C Rr D := q
  cases hm : mb d with
  | ok p =>
    obtain ⟨b, d'⟩ := p
    rw [hm] at q
    exact fun σ' H' e' k' => h2 _ Ds d' σ' H' D (e'.le (hn b)) q
  | ex p =>
    obtain ⟨x, d'⟩ := p
    rw [hm] at q
    intro σ' H' dx v e' k' nd hx hv
    have q : AfterS F (((if ct x.cls = some true then mh x d' else .bad) : Res (Er × δ) (τ × δ)).bs ext k) N C Rr D := q
    by_cases hct : ct x.cls = some true
    · rw [if_pos hct] at q
      refine ⟨true, hc _ _ hct, fun _ a na => hs Ds d' σ' H' x dx v a (t2 D) e' (fun z => e.live dx z nd) hx hv na ?_, fun z => nomatch z⟩
      cases hr : mh x d' with
      | ok p =>
        obtain ⟨y, d2⟩ := p
        rw [hr] at q
        exact ⟨y, d2, rfl, fun σ2 H2 e2 => h2 _ Ds d2 σ2 _ D e2 q⟩
      | ex p => obtain ⟨y, d2⟩ := p; rw [hr] at q; exact absurd q.1 (by rw [hz]; exact fun z => nomatch z)
      | bad => rw [hr] at q; exact q.elim
    · rw [if_neg hct] at q
      exact q.elim
  | bad => rw [hm] at q; exact q.elim
end
end L2

/-! a list of two lists that are changed through it -/
namespace L2
open PySem PySem.Spec PyProof.Rows RZ
section
variable {υ δ δ1 δ' α α2 β γ τ κ ρ : Type} {F : Fx υ} {Γ Γ' : List Cl} {Δ : Dl δ} {ext : δ → υ} {N : β → St → Hp → Prop} {C : κ → St → Hp → Prop} {t2 : TS} {Rr : Rk ρ}
/-- x = [e, f], both new -/
theorem ts_asgL2 {Δ1 : Dl δ1} {Δ' : Dl δ'} {R : Rp α} {R2 : Rp α2} {f1 : δ → List α → δ1} {i1 : δ1 → δ} {l1 : δ1 → List α} {f2 : δ1 → List α2 → δ'} {i2 : δ' → δ1} {l2 : δ' → List α2} {i : Nat} {te tf : TE} {m : δ → Res (Er × δ) (List α × δ)} {n : δ → Res (Er × δ) (List α2 × δ)} {k : δ' → Bk (Er × υ) β κ (ρ × υ)} (hE : ExtOk F Δ ext) (hd : DatD Δ) (dd1 : DatD Δ1) (hR : R.Dat) (hR2 : R2.Dat)
    (s1 : Sn Δ (oLst R) Δ1 f1 i1 l1) (s2 : Sn Δ1 (oLst R2) Δ' f2 i2 l2) (hl : Δ1.len = Δ.len + 1) (h : TNj F Γ Δ te m R true) (h' : TNj F Γ Δ tf n R2 true) (hΓ : Γ' = Γ.set i (.l2 Δ.len (Δ.len + 1))) (h2 : TSj F Γ' Δ' t2 k N C Rr) :
    TSj F Γ Δ (tSeq (tAsg (tLst (tCons te (tCons tf tNil))) (gName i)) t2) (fun d => ((m d).bd fun a d => (n d).bd fun b d => .ok ((a, b), d)).bs ext fun p d => appK k (f2 (f1 d p.1) p.2)) N C Rr := fun Ds d σ H D e q => by
  subst hΓ
  have hk : ∀ {S S' : ASet} {H H' : Hp} {vs : List V} {xs : List α}, Paired (R.P S H) vs xs → Keep (· ∈ Ds) H H' → Paired (R.P S' H') vs xs := fun h k => Paired.mapP h fun _ _ z => hR _ _ _ _ _ (R.keep (hR _ (· ∈ Ds) _ _ _ z) k)
  have hk2 : ∀ {S S' : ASet} {H H' : Hp} {vs : List V} {xs : List α2}, Paired (R2.P S H) vs xs → Keep (· ∈ Ds) H H' → Paired (R2.P S' H') vs xs := fun h k => Paired.mapP h fun _ _ z => hR2 _ _ _ _ _ (R2.keep (hR2 _ (· ∈ Ds) _ _ _ z) k)
  have q0 := AfterS.of hE e q
  refine h Ds d σ H _ e ((q0.bind).mono fun a d1 H1 e1 k1 q1 A vs nA hA pa => ?_)
  refine h' Ds d1 σ H1 _ e1 ((q1.bind).mono fun b d2 H2 e2 k2 q2 B ws nB hB pb => ?_)
  refine ⟨by show 2 ≤ sizeLine; decide, fun W nW => ?_⟩
  have s := Same.new0 (o := HO.lst [.ref A, .ref B]) nW
  have e3 := e2.same s
  have nAD : A ∉ Ds := fun z => e.live A (.inr (.inr z)) nA
  have hA2 : H2 A = some (.lst vs) := k2.same _ _ nAD hA
  have hA3 : upd H2 W (.lst [.ref A, .ref B]) A = some (.lst vs) := s _ _ hA2
  have hB3 : upd H2 W (.lst [.ref A, .ref B]) B = some (.lst ws) := s _ _ hB
  have k3 : Keep (· ∈ Ds) H2 (upd H2 W (.lst [.ref A, .ref B])) := s.keepS _
  have E0 := En.more (f := f1) s1 e e1 k1 nA (live_of hA) ⟨vs, hA, hk pa (Keep.refl _ _)⟩ (hd.any e1.own)
  have E1 := En.more (f := f1) (xs := a) s1 e e3 ((k1.trans k2).trans k3) nA (live_of hA3) ⟨vs, hA3, hk pa (k2.trans k3)⟩ (hd.any e3.own)
  have kk : Keep (· ∈ Ds ++ [A]) H1 (upd H2 W (.lst [.ref A, .ref B])) := (k2.trans k3).mono fun _ z => List.mem_append_left _ z
  have E2 := En.more (f := f2) (xs := b) s2 E0 E1 kk nB (live_of hB3) ⟨ws, hB3, hk2 pb k3⟩ (dd1.any E1.own)
  have len := Owns.length e.own
  refine h2 _ _ _ _ D (E2.set ⟨W, A, B, rfl, fun z => ?_, upd_same, ?_, ?_⟩) (After.ok q2 e2)
  · rcases z with z | z | z
    · exact e2.live W (.inl z) nW
    · exact e2.live W (.inr (.inl z)) nW
    · rcases List.mem_append.mp z with z | z
      · rcases List.mem_append.mp z with z | z
        · exact e2.live W (.inr (.inr z)) nW
        · rw [List.mem_singleton] at z; rw [z, hA2] at nW; cases nW
      · rw [List.mem_singleton] at z; rw [z, hB] at nW; cases nW
  · rw [List.getElem?_append_left (by rw [List.length_append, List.length_singleton]; omega), List.getElem?_append_right (by omega), len, Nat.sub_self]
    rfl
  · rw [List.getElem?_append_right (by rw [List.length_append, List.length_singleton]; omega), List.length_append, List.length_singleton, len, Nat.sub_self]
    rfl
/-- x[k] is called -/
theorem l2_at {Ds : List Addr} {d : δ} {σ : St} {H : Hp} {i j1 j2 : Nat} (e : En F Γ Δ Ds d σ H) (hi : Γ[i]? = some (.l2 j1 j2)) : ∃ W A B, σ[i]? = some (some (.ref W)) ∧ ¬ soft true F Ds W ∧ H W = some (.lst [.ref A, .ref B]) ∧ Ds[j1]? = some A ∧ Ds[j2]? = some B := by
  obtain ⟨s, h1, W, A, B, rfl, n, g, g1, g2⟩ := e.get hi
  exact ⟨W, A, B, h1, n, g, g1, g2⟩
/-- which of the two -/
def sel2 {α : Type} (k : Int) (x y : α) : Option α := if k = 0 ∨ k = -2 then some x else if k = 1 ∨ k = -1 then some y else none
theorem sel2_at {k : Int} {α : Type} {x y a : α} {A B : V} (h : sel2 k x y = some a) : (a = x ∧ atI [A, B] k = some A) ∨ (a = y ∧ atI [A, B] k = some B) := by
  unfold sel2 at h
  split at h
  · rename_i hk
    cases h
    refine .inl ⟨rfl, ?_⟩
    rcases hk with rfl | rfl <;> rfl
  · split at h
    · rename_i hk
      cases h
      refine .inr ⟨rfl, ?_⟩
      rcases hk with rfl | rfl <;> rfl
    · cases h
theorem tj_revL2 {K' : PySem.W.Frag} {i j1 j2 : Nat} {R : Rp α} {R2 : Rp α2} {g1 : δ → List α} {g2 : δ → List α2} {p1 : List α → δ → δ} {p2 : List α2 → δ → δ} {t : TE} {m : δ → Res (Er × δ) (Int × δ)} {c : Bool} (hi : Γ[i]? = some (.l2 j1 j2)) (ix1 : Ix Δ j1 (oLst R) g1 p1) (ix2 : Ix Δ j2 (oLst R2) g2 p2) (h : TEj F Γ Δ t m aI c) :
    TEj F Γ Δ (tBM0 K' "list" rReverse (tOp (rIxL F.K) (tVar i) t)) (fun d => (m d).bd fun k d => (optAt (sel2 k (p1 (g1 d).reverse d) (p2 (g2 d).reverse d)) d).bd fun d' _ => .ok ((), d')) aN true := fun Ds d σ H Q e q => by
  obtain ⟨W, A, B, h1, n, g, gA, gB⟩ := l2_at e hi
  refine ⟨_, h1, h Ds d σ H _ e ((q.bind).mono fun k d1 H1 e1 k1 q1 v pv => ?_)⟩
  have g' : H1 W = some (.lst [.ref A, .ref B]) := (k1.soft true).same _ _ n g
  have hs := q1.bind
  cases hz : sel2 k (p1 (g1 d1).reverse d1) (p2 (g2 d1).reverse d1) with
  | none => dsimp only at hs; rw [hz] at hs; exact hs.elim
  | some d' =>
    dsimp only at q1
    rw [hz] at q1
    have q1 : After F Γ Δ Ds σ H1 (.ok ((), d')) (fun (a : Unit) _ H' => ∀ v, aN.P (soft true F Ds) H' v a → Q v H') := q1
    rcases sel2_at (A := .ref A) (B := .ref B) hz with ⟨rfl, ha⟩ | ⟨rfl, ha⟩
    · obtain ⟨D', g3, vs, h3, h4⟩ := ix1.here e1.own
      rw [gA] at g3
      cases g3
      have nt : ∀ xs, H1 A ≠ some (.tup xs) := fun xs z => by rw [h3] at z; cases z
      have h8 := Paired.mapP h4 fun _ _ z => Rp.into (H := H1) (o := .lst vs.reverse) z (List.mem_of_getElem? gA) nt
      obtain ⟨e2, k2⟩ := e1.put (b := (g1 d1).reverse) (o := .lst vs.reverse) ix1 gA ⟨_, upd_same, paired_rev h8⟩
      exact ⟨W, _, k, .ref A, rfl, pv, SqL.of g', ha, .inl ⟨rfl, _, SqL.of h3⟩, A, vs, rfl, rfl, h3, q1 _ e2 k2 _ rfl⟩
    · obtain ⟨D', g3, vs, h3, h4⟩ := ix2.here e1.own
      rw [gB] at g3
      cases g3
      have nt : ∀ xs, H1 B ≠ some (.tup xs) := fun xs z => by rw [h3] at z; cases z
      have h8 := Paired.mapP h4 fun _ _ z => Rp.into (H := H1) (o := .lst vs.reverse) z (List.mem_of_getElem? gB) nt
      obtain ⟨e2, k2⟩ := e1.put (b := (g2 d1).reverse) (o := .lst vs.reverse) ix2 gB ⟨_, upd_same, paired_rev h8⟩
      exact ⟨W, _, k, .ref B, rfl, pv, SqL.of g', ha, .inl ⟨rfl, _, SqL.of h3⟩, B, vs, rfl, rfl, h3, q1 _ e2 k2 _ rfl⟩
/-- y = x[k]: another name for one of the two -/
theorem ts_selL2 {i r j1 j2 : Nat} {t : TE} {m : δ → Res (Er × δ) (Int × δ)} {c : Bool} {Γ1 Γ2 : List Cl} {k1 k2 : δ → Bk (Er × υ) β κ (ρ × υ)} (hE : ExtOk F Δ ext) (hi : Γ[i]? = some (.l2 j1 j2)) (h : TEj F Γ Δ t m aI c) (hA : Γ1 = Γ.set r (.ow j1)) (hB : Γ2 = Γ.set r (.ow j2)) (h1 : TSj F Γ1 Δ t2 k1 N C Rr) (h2 : TSj F Γ2 Δ t2 k2 N C Rr) :
    TSj F Γ Δ (tSeq (tAsg (tOp (rIxL F.K) (tVar i) t) (gName r)) t2) (fun d => (m d).bs ext fun k d => match sel2 k k1 k2 with | some kk => kk d | none => .bad) N C Rr := fun Ds d σ H D e q => by
  subst hA hB
  obtain ⟨W, A, B, g1, n, g, gA, gB⟩ := l2_at e hi
  refine ⟨_, g1, h Ds d σ H _ e ((AfterS.of hE e q).mono fun k d1 H1 e1 kk q1 v pv => ?_)⟩
  have g' : H1 W = some (.lst [.ref A, .ref B]) := (kk.soft true).same _ _ n g
  cases hz : sel2 k k1 k2 with
  | none => dsimp only at q1; rw [hz] at q1; exact q1.elim
  | some k0 =>
    dsimp only at q1
    rw [hz] at q1
    rcases sel2_at (A := .ref A) (B := .ref B) hz with ⟨rfl, ha⟩ | ⟨rfl, ha⟩
    · exact ⟨W, _, k, .ref A, rfl, pv, SqL.of g', ha, h1 Ds d1 _ H1 D (e1.set (c := .ow j1) ⟨A, gA, rfl⟩) q1⟩
    · exact ⟨W, _, k, .ref B, rfl, pv, SqL.of g', ha, h2 Ds d1 _ H1 D (e1.set (c := .ow j2) ⟨B, gB, rfl⟩) q1⟩
/-- a list of things, seen as one of things or None -/
theorem vw_lO {R : Rp α} {K : PySem.W.Frag} (hn : ∀ S H x, ¬ R.P S H .non x) : Vw (aLst K R) (aLst K (aOpt R)) (fun xs => some (xs.map some)) := ⟨fun S H v x y e p => by
  cases e
  obtain ⟨a, vs, e, h, q⟩ := p
  refine ⟨a, vs, e, h, ?_⟩
  clear h
  induction q with
  | nil => exact .nil
  | cons z _ ih => exact .cons (.inr ⟨_, rfl, z, fun w => hn _ _ _ (w ▸ z)⟩) ih⟩
/-! ### lists of two different things -/
theorem tj_m2 {R : Rp α} {R2 : Rp β} {t : TA} {m : δ → Res (Er × δ) ((α × β × Unit) × δ)} {c : Bool} (h : TAj F Γ Δ t m (.cons R (.cons R2 .nil)) c) : TEj F Γ Δ (tLst t) (fun d => (m d).bd fun a d => .ok ((a.1, a.2.1), d)) (aM2 F.K R R2) c := fun Ds d σ H Q e q => by
  refine h Ds d σ H _ e ((q.bind).mono fun a d1 H1 e1 k1 q1 vs pv => ?_)
  obtain ⟨v, ws, rfl, p1, w, us, rfl, p2, rfl⟩ := pv
  refine ⟨by show 2 ≤ sizeLine; decide, fun p np => ?_⟩
  have s := Same.new0 (o := HO.lst [v, w]) np
  exact (q1 _ (e1.same s) (s.keepS _)) _ ⟨p, v, w, rfl, .inl ⟨fun z => by
    have z : soft true F Ds p := by
      rcases z with ⟨_, h⟩ | h
      · exact .inl ⟨rfl, h⟩
      · exact .inr h
    exact e1.live p z np, .inl upd_same⟩, R.keep p1 (s.keepS _), R2.keep p2 (s.keepS _)⟩
end
section
variable {K : PySem.W.Frag} {α β : Type}
theorem ot_m2a {R : Rp α} {Q : Rp β} : OpT K (rIxL K) (aM2 K R Q) aI gFst R := fun T H v w x i P hT pa pb ⟨c, hc, k⟩ => by
  obtain ⟨a, v1, v2, rfl, h, p1, p2⟩ := pa
  obtain rfl : w = .int i := pb
  unfold gFst at hc
  split at hc
  · rename_i hi
    cases hc
    exact ⟨a, _, i, v1, rfl, rfl, h.sq, by rcases hi with rfl | rfl <;> rfl, k _ H (Same.refl _) p1⟩
  · cases hc
theorem ot_m2b {R : Rp α} {Q : Rp β} : OpT K (rIxL K) (aM2 K R Q) aI gSnd Q := fun T H v w x i P hT pa pb ⟨c, hc, k⟩ => by
  obtain ⟨a, v1, v2, rfl, h, p1, p2⟩ := pa
  obtain rfl : w = .int i := pb
  unfold gSnd at hc
  split at hc
  · rename_i hi
    cases hc
    exact ⟨a, _, i, v2, rfl, rfl, h.sq, by rcases hi with rfl | rfl <;> rfl, k _ H (Same.refl _) p2⟩
  · cases hc
theorem nn_m2 {R : Rp α} {Q : Rp β} : ∀ S H x, ¬ (aM2 K R Q).P S H .non x := fun _ _ _ ⟨_, _, _, h, _⟩ => nomatch h
def eM2 (d : α → PyData) (q : β → PyData) (x : α × β) : PyData := .list [d x.1, q x.2]
def dM2 {R : Rp α} {Q : Rp β} (d : Dt K R) (q : Dt K Q) : Dt K (aM2 K R Q) := ⟨eM2 d.enc q.enc, max d.dep q.dep + 1, fun ⟨a, v1, v2, e, h, p1, p2⟩ => by rw [e]; exact .lst h.sq (.cons (d.dp p1) (.cons (q.dp p2) .nil)),
  fun x => by
    have h1 := d.hdep x.1
    have h2 := q.hdep x.2
    show max (d.enc x.1).depth (max (q.enc x.2).depth 0) + 1 ≤ _
    omega, fun a b h => by
    have h : PyData.eqvAll [d.enc a.1, q.enc a.2] [d.enc b.1, q.enc b.2] = true := by simpa [eM2, PyData.eqv] using h
    rw [PyData.eqvAll, PyData.eqvAll, PyData.eqvAll, Bool.and_true, Bool.and_eq_true] at h
    exact Prod.ext (d.eq1 _ _ h.1) (q.eq1 _ _ h.2), fun a h => by
    have h : PyData.canLayAll0 [d.enc a.1, q.enc a.2] = true := by simpa [eM2, PyData.canLay0] using h
    rw [PyData.canLayAll0, PyData.canLayAll0, PyData.canLayAll0, Bool.and_true, Bool.and_eq_true] at h
    have : PyData.eqvAll [d.enc a.1, q.enc a.2] [d.enc a.1, q.enc a.2] = true := by
      rw [PyData.eqvAll, PyData.eqvAll, PyData.eqvAll, Bool.and_true, Bool.and_eq_true]
      exact ⟨d.eq2 _ h.1, q.eq2 _ h.2⟩
    simpa [eM2, PyData.eqv] using this, fun a h => nomatch h⟩
end
/-! ### defs with a well that may give back what they are given -/
def spWQ {α β : Type} (A : Al α) (R : Rp β) (f : α → List Int → Res (Er × List Int) (β × List Int)) : Sp := fun vs H Q _ => ∃ (p : Addr) (us : List V) (a : α) (w : List Int) (S : ASet), vs = .ref p :: us ∧ H p = some (.lst (w.map V.int)) ∧ A.P S H us a ∧ S p ∧ (∀ x, S x → H x ≠ none) ∧ ∃ r w', f a w = .ok (r, w') ∧ ∀ v H', Keep (· = p) H H' → H' p = some (.lst (w'.map V.int)) → R.P S H' v r → Q v H'
section
variable {υ δ α β ρ : Type} {F : Fx υ} {Γ : List Cl} {Δ : Dl δ}
theorem tj_callWQ {i j : Nat} {g : δ → List Int} {p : List Int → δ → δ} {A : Al α} {R : Rp β} {f : α → List Int → Res (Er × List Int) (β × List Int)} {E : XK} {t : TA} {m : δ → Res (Er × δ) (α × δ)} {c : Bool} (hz : F.rz = false) (hi : Γ[i]? = some (.ow j)) (ix : Ix Δ j (oLst aI) g p) (h : TAj F Γ Δ t m A c) :
    TEj F Γ Δ (tCall (spWQ A R f) [] E (tCons (tVar i) t)) (fun d => (m d).bd fun a d => (f a (g d)).on p d) R c := fun Ds d σ H Q e q => by
  obtain ⟨s, h1, D, hD, rfl⟩ := e.get hi
  refine ⟨_, h1, h Ds d σ H _ e ((q.bind).mono fun a d1 H1 e1 k1 q1 vs pv => ?_)⟩
  obtain ⟨D', h2, h3⟩ := ix.here e1.own
  rw [hD] at h2
  cases h2
  have hm := List.mem_of_getElem? hD
  obtain ⟨r, w', hr, k⟩ := After.on hz e1 ix hD q1
  rw [List.append_nil]
  exact ⟨D, vs, a, g d1, soft c F Ds, rfl, lst_ints h3, pv, softDs _ hm, fun x hx => e1.live x (soft_le hx), r, w', hr, fun v H' kk hw hR => (k H' kk hw).1 v hR⟩
theorem startWQ_ok {S : ASet} {H : Hp} {cl : XC → Addr} {K : PySem.W.Frag} {p : Addr} (hp : S p) : ∀ {α : Type} {A : Al α} {cs : List Bool} {vs : List V} {a : α}, AllT A cs → A.P S H vs a → Paired (ClOk (FxW K p S H cl) [p] H) (slotsOf A cs a) (vs.map some) := by
  intro α A cs vs a hd h
  induction hd generalizing vs with
  | nil => rw [show vs = [] from h]; exact .nil
  | yes _ ih =>
    obtain ⟨v, ws, rfl, q1, q⟩ := h
    refine .cons (clc_ok (c := true) (Rp.shift _ q1 fun a z => ?_)) (ih q)
    rcases z with ⟨_, z⟩ | z | z
    · exact .inl z
    · exact z.elim
    · rw [List.mem_singleton.mp z]; exact .inl hp
theorem En.startWQ {K : PySem.W.Frag} {p : Addr} {S : ASet} {H : Hp} {cl : XC → Addr} {A : Al α} {cs : List Bool} {vs : List V} {a : α} {w : List Int} {N : List Str} (hp : H p = some (.lst (w.map V.int))) (hSp : S p) (hS : ∀ x, S x → H x ≠ none) (hd : AllT A cs) (h : A.P S H vs a) :
    En (FxW K p S H cl) (.ow 0 :: slotsOf A cs a ++ List.replicate (N.length - (slotsOf A cs a).length - 1) .no) dW [p] (w, ()) (L2.start N (.ref p :: vs)) H := by
  refine ⟨Keep.refl _ _, ⟨[], rfl, fun _ h => nomatch h⟩, by simp, fun x h => ?_, ⟨p, [], rfl, ⟨_, hp, ints_paired w⟩, rfl⟩, ?_, (fun _ _ h => h), rfl, fun _ h => .inl h⟩
  · rcases h with ⟨_, h⟩ | h | h
    · exact hS x h
    · exact h.elim
    · rw [List.mem_singleton.mp h, hp]; exact fun z => nomatch z
  · show Paired _ _ (some (.ref p) :: vs.map some ++ List.replicate (N.length - (vs.length + 1)) none)
    rw [al_len (cs := cs) h, ← Nat.sub_sub]
    exact paired_app (.cons ⟨p, rfl, rfl⟩ (startWQ_ok hSp hd h)) (paired_no _)
theorem run_WQ {K : PySem.W.Frag} {H : Hp} {A : Al α} {cs : List Bool} {R : Rp ρ} {f : α → List Int → Res (Er × List Int) (ρ × List Int)} {vs : List V} {Q : VK} {E : XK} {N : List Str} {t : TS} {m : α → List Int × Unit → Bk (Er × List Int × Unit) Empty Empty (ρ × List Int × Unit)} (cl : XC → Addr)
    (hd : AllT A cs) (hf : ∀ a w, f a w = runW (m a (w, ()))) (hsp : spWQ A R f vs H Q E) (hb : ∀ p S a, TSj (FxW K p S H cl) (.ow 0 :: slotsOf A cs a ++ List.replicate (N.length - (slotsOf A cs a).length - 1) .no) dW t (m a) (fun x _ _ => x.elim) (fun x _ _ => x.elim) (rkV R)) :
    t { nx := fun _ H' => Q .non H', rt := Q } (start N vs) H := by
  obtain ⟨p, us, a, w, S, rfl, hp, hA, hSp, hS, r, w', hr, k⟩ := hsp
  rw [hf a w] at hr
  have hm : m a (w, ()) = .rt (r, w', ()) := by
    cases z : m a (w, ()) with
    | rt x => rw [z] at hr; cases hr; rfl
    | nx x => exact x.elim
    | bk x => exact x.elim
    | ct x => exact x.elim
    | ex x => rw [z] at hr; cases hr
    | bad => rw [z] at hr; cases hr
  refine hb p S a [p] (w, ()) _ H _ (En.startWQ hp hSp hS hd hA) ?_
  rw [hm]
  rintro v H' ⟨h1, ⟨p', L, e1, h2, h4⟩, h3⟩
  have h1 : Keep (· ∈ [p]) H H' := h1
  have e1 : [p] = p' :: L := e1
  cases e1
  exact k v H' (h1.mono fun a h => List.mem_singleton.mp h) (lst_ints h2) (R.shift h3 fun x hx => .inl hx)
end
/-! ### repr of texts too -/
def rReprB (K : PySem.W.Frag) : List V → Hp → VK → Prop := fun xs H Q => (∃ z : Str, xs = [.str z] ∧ (reprText z).length ≤ sizeLine ∧ Q (.str (reprText z)) H) ∨ rReprA K xs H Q
theorem call_reprB {X : Cx} {k : Nat} (hG : X.A.guards = some []) (hr : Room k X.A) : CallR X (.builtin "repr") (rReprB X.K) := by
  intro pins s σ H vs us Q I r h
  rcases h with ⟨z, rfl, hz, q⟩ | h
  · obtain ⟨u, rfl, t, rfl⟩ := vals1 r
    exact PySem.P.repr_of_str ⟨.str _, H, I.tok _, ⟨_, rfl⟩, q⟩ hz
  · exact call_reprA hG hr pins s σ H vs us Q I r h
theorem kreprB {X : Cx} {k : Nat} {K : PySem.W.Frag} (h : X.K = K) (hG : X.A.guards = some []) (hr : Room k X.A) : CallR X (.builtin "repr") (rReprB K) := h ▸ call_reprB hG hr
noncomputable def gReprB (x : ErV × Unit) : Option Str := match x.1 with
  | .str z => @ite _ ((reprText z).length ≤ sizeLine) (Classical.propDecidable _) (some (reprText z)) none
  | v => gRepr (v, ())
theorem cb_reprB {K : PySem.W.Frag} : CbT (rReprB K) (.cons (aErV K) .nil) gReprB aS := fun T H vs a Q hT pa ⟨c, hc, k⟩ => by
  obtain ⟨a, u⟩ := a
  cases a with
  | str z =>
    obtain ⟨v, ws, rfl, p, rfl⟩ := pa
    unfold gReprB at hc
    dsimp only at hc
    split at hc
    · rename_i hl
      cases hc
      exact .inl ⟨z, by rw [show v = .str z from p], hl, k _ H (Same.refl _) rfl⟩
    · cases hc
  | int n => exact .inr (cb_repr T H vs (.int n, u) Q hT pa ⟨c, hc, k⟩)
  | tup ns => exact .inr (cb_repr T H vs (.tup ns, u) Q hT pa ⟨c, hc, k⟩)
  | rows r => exact .inr (cb_repr T H vs (.rows r, u) Q hT pa ⟨c, hc, k⟩)
end L2

/-! x = y = e; range with a step -/
namespace L2
open PySem PySem.Spec PyProof.Rows RZ
section
variable {υ δ α β κ ρ : Type} {F : Fx υ} {Γ : List Cl} {Δ : Dl δ} {ext : δ → υ} {N : β → St → Hp → Prop} {C : κ → St → Hp → Prop} {t2 : TS}
theorem ts_asg2 {i j : Nat} {te : TE} {m : δ → Res (Er × δ) (α × δ)} {Ra : Rp α} {c : Bool} {R : Rk ρ} {k : α → δ → Bk (Er × υ) β κ (ρ × υ)} {Γ' : α → List Cl} (hE : ExtOk F Δ ext) (h : TEj F Γ Δ te m Ra c) (hΓ : ∀ a, Γ' a = (Γ.set i (clc c (Ra.at a))).set j (clc c (Ra.at a))) (h2 : ∀ a, TSj F (Γ' a) Δ t2 (k a) N C R) :
    TSj F Γ Δ (tSeq (tAsg2 te (gName i) (gName j)) t2) (fun d => (m d).bs ext k) N C R := fun Ds d σ H D e q =>
  h Ds d σ H _ e ((AfterS.of hE e q).mono fun a d' H' e' k' q' v p => h2 a Ds d' _ H' D (by rw [hΓ]; exact (e'.set (clc_ok p)).set (clc_ok p)) q')
/-- i, i + c, .. -/
def rngC (lo c : Int) (n : Nat) : List Int := (List.range n).map fun i : Nat => lo + (i : Int) * c
theorem rngC_len (lo c : Int) (n : Nat) : (rngC lo c n).length = n := by unfold rngC; rw [List.length_map, List.length_range]
theorem rngC_at {lo c : Int} {n i : Nat} (h : i < n) : (rngC lo c n)[i]? = some (lo + (i : Int) * c) := by unfold rngC; rw [List.getElem?_map, List.getElem?_range h]; rfl
theorem itok_rngC {T : ASet} {lo c : Int} {n : Nat} {H : Hp} : ItOk T (Itc lo c n) aI (rngC lo c n) H := ⟨fun _ _ => True, trivial, fun _ _ _ _ _ => trivial, fun _ _ _ _ _ => trivial, fun T => by
  rw [rngC_len]
  refine Walk.mono (walk_rangeC (lo := lo) (c := c) (n := n)) (fun _ _ => trivial) fun i H x H' hi _ y => ?_
  obtain ⟨rfl, rfl⟩ := y
  exact ⟨Same.refl _, _, rngC_at hi, rfl⟩⟩
noncomputable def gRng3 (a b c : Int) : Option (List Int) := @ite _ (RgC a b c (Builtin.Range.rangeSize a b c).toNat) (Classical.propDecidable _) (some (rngC a c (Builtin.Range.rangeSize a b c).toNat)) none
theorem ti_rng3 {t : TA} {m : δ → Res (Er × δ) ((Int × Int × Int × Unit) × δ)} {c : Bool} (h : TAj F Γ Δ t m (.cons aI (.cons aI (.cons aI .nil))) c) : TIj F Γ Δ (iRng3 t) (fun d => (m d).bd fun a d => optAt (gRng3 a.1 a.2.1 a.2.2.1) d) aI c := fun Ds d σ H Q e q => by
  refine h Ds d σ H _ e ((q.bind).mono fun a d1 H1 e1 k1 q1 vs pv => ?_)
  obtain ⟨v, ws, rfl, rfl, w, us, rfl, rfl, x, ys, rfl, rfl, rfl⟩ := pv
  obtain ⟨x, hx, k⟩ := q1.opt e1
  unfold gRng3 at hx
  by_cases hc : RgC a.1 a.2.1 a.2.2.1 (Builtin.Range.rangeSize a.1 a.2.1 a.2.2.1).toNat
  · rw [if_pos hc] at hx
    cases hx
    exact ⟨_, _, _, _, rfl, hc, k H1 (Same.refl _) _ itok_rngC⟩
  · rw [if_neg hc] at hx
    cases hx
end
end L2

/-! `>>`, `&`, `|` of ints -/
namespace L2
open PySem PySem.Spec PyProof.Rows RZ
def gShr (a b : Int) : Option Int := if 0 ≤ b then some (a / 2 ^ b.toNat) else none
def gAnd (a b : Int) : Option Int := some (Builtin.bitAnd a b)
def gOr (a b : Int) : Option Int := some (Builtin.bitOr a b)
section
variable {K : PySem.W.Frag}
theorem ot_shr : OpT K (rI (fun _ j => 0 ≤ j) fun i j => .int (i / 2 ^ j.toNat)) aI aI gShr aI := fun T H v w a b Q hT pa pb ⟨c, hc, k⟩ => by
  unfold gShr at hc
  split at hc
  · rename_i h; cases hc; exact ⟨a, b, pa, pb, h, k _ H (Same.refl _) rfl⟩
  · cases hc
theorem ot_and : OpT K (rI0 fun i j => .int (Builtin.bitAnd i j)) aI aI gAnd aI := fun T H v w a b Q hT pa pb ⟨c, hc, k⟩ => by cases hc; exact ⟨a, b, pa, pb, k _ H (Same.refl _) rfl⟩
theorem ot_or : OpT K (rI0 fun i j => .int (Builtin.bitOr i j)) aI aI gOr aI := fun T H v w a b Q hT pa pb ⟨c, hc, k⟩ => by cases hc; exact ⟨a, b, pa, pb, k _ H (Same.refl _) rfl⟩
end
end L2

/-! values of one of two types; tuples of four as data; a call with one value and names in a try -/
namespace L2
open PySem PySem.Spec PyProof.Rows RZ
/-! ### tuples of four -/
def eT4 {α β γ ζ : Type} (d : α → PyData) (q : β → PyData) (t : γ → PyData) (z : ζ → PyData) (x : α × β × γ × ζ) : PyData := .tuple [d x.1, q x.2.1, t x.2.2.1, z x.2.2.2]
def dT4 {K : PySem.W.Frag} {α β γ ζ : Type} {R : Rp α} {Q : Rp β} {T : Rp γ} {Z : Rp ζ} (d : Dt K R) (q : Dt K Q) (t : Dt K T) (z : Dt K Z) : Dt K (aT4 R Q T Z) := ⟨eT4 d.enc q.enc t.enc z.enc, max d.dep (max q.dep (max t.dep z.dep)) + 1, fun ⟨a, v1, v2, v3, v4, e, h, p1, p2, p3, p4⟩ => by rw [e]; exact .tup (SqT.of h) (.cons (d.dp p1) (.cons (q.dp p2) (.cons (t.dp p3) (.cons (z.dp p4) .nil)))),
  fun x => by
    have h1 := d.hdep x.1
    have h2 := q.hdep x.2.1
    have h3 := t.hdep x.2.2.1
    have h4 := z.hdep x.2.2.2
    show max (d.enc x.1).depth (max (q.enc x.2.1).depth (max (t.enc x.2.2.1).depth (max (z.enc x.2.2.2).depth 0))) + 1 ≤ _
    omega, fun a b h => by
    have h : PyData.eqvAll [d.enc a.1, q.enc a.2.1, t.enc a.2.2.1, z.enc a.2.2.2] [d.enc b.1, q.enc b.2.1, t.enc b.2.2.1, z.enc b.2.2.2] = true := by simpa [eT4, PyData.eqv] using h
    rw [PyData.eqvAll, PyData.eqvAll, PyData.eqvAll, PyData.eqvAll, PyData.eqvAll, Bool.and_true, Bool.and_eq_true, Bool.and_eq_true, Bool.and_eq_true] at h
    exact Prod.ext (d.eq1 _ _ h.1) (Prod.ext (q.eq1 _ _ h.2.1) (Prod.ext (t.eq1 _ _ h.2.2.1) (z.eq1 _ _ h.2.2.2))), fun a h => by
    have h : PyData.canLayAll0 [d.enc a.1, q.enc a.2.1, t.enc a.2.2.1, z.enc a.2.2.2] = true := by simpa [eT4, PyData.canLay0] using h
    rw [PyData.canLayAll0, PyData.canLayAll0, PyData.canLayAll0, PyData.canLayAll0, PyData.canLayAll0, Bool.and_true, Bool.and_eq_true, Bool.and_eq_true, Bool.and_eq_true] at h
    have : PyData.eqvAll [d.enc a.1, q.enc a.2.1, t.enc a.2.2.1, z.enc a.2.2.2] [d.enc a.1, q.enc a.2.1, t.enc a.2.2.1, z.enc a.2.2.2] = true := by
      rw [PyData.eqvAll, PyData.eqvAll, PyData.eqvAll, PyData.eqvAll, PyData.eqvAll, Bool.and_true, Bool.and_eq_true, Bool.and_eq_true, Bool.and_eq_true]
      exact ⟨d.eq2 _ h.1, q.eq2 _ h.2.1, t.eq2 _ h.2.2.1, z.eq2 _ h.2.2.2⟩
    simpa [eT4, PyData.eqv] using this, fun a h => nomatch h⟩
theorem ty_t4 {K : PySem.W.Frag} {α β γ ζ : Type} {R : Rp α} {Q : Rp β} {S : Rp γ} {Z : Rp ζ} : TyIs K (aT4 R Q S Z) "tuple" := fun T H v x ⟨a, v1, v2, v3, v4, e, h, _⟩ => by rw [e]; exact .base (.tup h)
/-! ### one of two -/
def aSum {α β : Type} (R : Rp α) (Q : Rp β) : Rp (α ⊕ β) := ⟨fun S H v x => (∃ a, x = .inl a ∧ R.P S H v a) ∨ ∃ b, x = .inr b ∧ Q.P S H v b,
  fun h k => h.imp (fun ⟨a, e, p⟩ => ⟨a, e, R.keep p k⟩) fun ⟨a, e, p⟩ => ⟨a, e, Q.keep p k⟩, fun h k => h.imp (fun ⟨a, e, p⟩ => ⟨a, e, R.shift p k⟩) fun ⟨a, e, p⟩ => ⟨a, e, Q.shift p k⟩⟩
theorem aSum.dat {α β : Type} {R : Rp α} {Q : Rp β} (d : R.Dat) (q : Q.Dat) : (aSum R Q).Dat := fun _ _ _ _ _ h => h.imp (fun ⟨a, e, p⟩ => ⟨a, e, d _ _ _ _ _ p⟩) fun ⟨a, e, p⟩ => ⟨a, e, q _ _ _ _ _ p⟩
theorem nn_sum {α β : Type} {R : Rp α} {Q : Rp β} (d : ∀ S H x, ¬ R.P S H .non x) (q : ∀ S H x, ¬ Q.P S H .non x) : ∀ S H x, ¬ (aSum R Q).P S H .non x := fun _ _ _ h => by
  rcases h with ⟨a, _, p⟩ | ⟨a, _, p⟩
  · exact d _ _ _ p
  · exact q _ _ _ p
def eSum {α β : Type} (d : α → PyData) (q : β → PyData) : α ⊕ β → PyData
  | .inl a => d a
  | .inr b => q b
def dSum {K : PySem.W.Frag} {α β : Type} {R : Rp α} {Q : Rp β} (d : Dt K R) (q : Dt K Q) (h1 : ∀ a b, PyData.eqv (d.enc a) (q.enc b) = false) (h2 : ∀ a b, PyData.eqv (q.enc a) (d.enc b) = false) : Dt K (aSum R Q) := ⟨eSum d.enc q.enc, max d.dep q.dep,
  fun {T H v x} h => by
    rcases h with ⟨a, rfl, p⟩ | ⟨a, rfl, p⟩
    · exact d.dp p
    · exact q.dp p, fun x => by
    cases x with
    | inl a => exact Nat.le_trans (d.hdep a) (Nat.le_max_left _ _)
    | inr a => exact Nat.le_trans (q.hdep a) (Nat.le_max_right _ _), fun a b h => by
    cases a with
    | inl a =>
      cases b with
      | inl b => exact congrArg _ (d.eq1 a b h)
      | inr b => exact absurd (show PyData.eqv (d.enc a) (q.enc b) = true from h) (by rw [h1]; exact Bool.false_ne_true)
    | inr a =>
      cases b with
      | inl b => exact absurd (show PyData.eqv (q.enc a) (d.enc b) = true from h) (by rw [h2]; exact Bool.false_ne_true)
      | inr b => exact congrArg _ (q.eq1 a b h), fun a h => by
    cases a with
    | inl a => exact d.eq2 a h
    | inr a => exact q.eq2 a h, fun a => by
    cases a with
    | inl a => exact d.nn a
    | inr a => exact q.nn a⟩
theorem eqv_t24 (a b c d e f : PyData) : PyData.eqv (.tuple [a, b]) (.tuple [c, d, e, f]) = false := by
  rw [PyData.eqv, PyData.eqvAll, PyData.eqvAll, PyData.eqvAll, Bool.and_false, Bool.and_false]
theorem eqv_t42 (a b c d e f : PyData) : PyData.eqv (.tuple [c, d, e, f]) (.tuple [a, b]) = false := by
  rw [PyData.eqv, PyData.eqvAll, PyData.eqvAll, PyData.eqvAll, Bool.and_false, Bool.and_false]
section
variable {υ δ α β : Type} {F : Fx υ} {Γ : List Cl} {Δ : Dl δ}
theorem tj_inl {t : TE} {m : δ → Res (Er × δ) (α × δ)} {R : Rp α} {Q : Rp β} {c : Bool} (h : TEj F Γ Δ t m R c) : TEj F Γ Δ t (fun d => (m d).bd fun a d => .ok (Sum.inl a, d)) (aSum R Q) c := fun Ds d σ H Q e q => h Ds d σ H Q e ((q.bind).mono fun a d1 H1 e1 k1 q1 v pv => After.ok q1 e1 v (.inl ⟨a, rfl, pv⟩))
theorem tj_inr {t : TE} {m : δ → Res (Er × δ) (β × δ)} {R : Rp α} {Q : Rp β} {c : Bool} (h : TEj F Γ Δ t m Q c) : TEj F Γ Δ t (fun d => (m d).bd fun a d => .ok (Sum.inr a, d)) (aSum R Q) c := fun Ds d σ H Q e q => h Ds d σ H Q e ((q.bind).mono fun a d1 H1 e1 k1 q1 v pv => After.ok q1 e1 v (.inr ⟨a, rfl, pv⟩))
end
/-- isinstance of such a value, or of none -/
def gIsU {α β : Type} (b1 b2 : Bool) (a : Option (α ⊕ β) × Unit × Unit) : Option Bool := some (match a.1 with
  | none => false
  | some (.inl _) => b1
  | some (.inr _) => b2)
theorem cb_isiU {α β : Type} {K : PySem.W.Frag} {R : Rp α} {S : Rp β} {t1 t2 n : String} {b1 b2 : Bool} (ht1 : TyIs K R t1) (ht2 : TyIs K S t2) (hk1 : PySem.W.kitOne K (.type t1) (.type n) = some b1) (hk2 : PySem.W.kitOne K (.type t2) (.type n) = some b2) (h0 : PySem.W.kitOne K (.type "NoneType") (.type n) = some false) : CbT (rIsi K) (.cons (aOpt (aSum R S)) (.cons (aTy n) .nil)) (gIsU b1 b2) aB := fun T H vs a Q hT pa ⟨c, hc, k⟩ => by
  cases hc
  obtain ⟨v, ws, rfl, p, w, us, rfl, q, rfl⟩ := pa
  have e : w = .ty n := q
  subst e
  rcases p with ⟨rfl, e⟩ | ⟨y, e, p, _⟩
  · exact ⟨_, _, _, _, false, rfl, .ty n, .base .non, h0, k _ H (Same.refl _) (by show V.bl _ = V.bl _; rw [e])⟩
  · rcases p with ⟨x, e2, p⟩ | ⟨x, e2, p⟩
    · exact ⟨v, _, _, _, b1, rfl, .ty n, ht1 _ _ _ _ p, hk1, k _ H (Same.refl _) (by show V.bl _ = V.bl _; rw [e, e2])⟩
    · exact ⟨v, _, _, _, b2, rfl, .ty n, ht2 _ _ _ _ p, hk2, k _ H (Same.refl _) (by show V.bl _ = V.bl _; rw [e, e2])⟩
theorem gIsU_n {α β : Type} {b1 b2 : Bool} {u : Unit × Unit} : gIsU (α := α) (β := β) b1 b2 (none, u) = some false := rfl
theorem gIsU_l {α β : Type} {b1 b2 : Bool} {u : Unit × Unit} {a : α} : gIsU (β := β) b1 b2 (some (.inl a), u) = some b1 := rfl
theorem gIsU_r {α β : Type} {b1 b2 : Bool} {u : Unit × Unit} {a : β} : gIsU (α := α) b1 b2 (some (.inr a), u) = some b2 := rfl
/-! ### f(e, k = v, ..) in a try -/
def kwN (n : Nat) {α : Type} (vs zs : List α) : List α := if vs.length = n then vs ++ zs else []
theorem kwN_len {α : Type} {n : Nat} {us ws : List α} {m : Nat} (h : (kwN n us ws).length = n + m + 1) : us.length = n ∧ ws.length = m + 1 := by
  unfold kwN at h
  split at h
  · rename_i e
    rw [List.length_append] at h
    exact ⟨e, by omega⟩
  · cases h
theorem kwN_rel {n : Nat} {vs : List V} {us : List Value} {zs : List V} {ws : List Value} (h : Vals vs us) (k : Vals zs ws) : Vals (kwN n vs zs) (kwN n us ws) := by
  unfold kwN
  rw [h.length]
  split
  · exact h.append k
  · exact .nil
section
variable {X : Cx} {CX : CXT} {k : Nat} {f : Addr} {fd : FuncData} {ps ks : List Str} {sp : Sp} {E : St → XK} {x : Str} {p pos : Pos} {e : Expr} {kws : List Keyword} {te : TE} {tk : TA} {g : List Value → List Value → List Value} {gV : List V → List V → List V}
theorem run_fnkS {pins : List (Addr × Obj)} {σ : St} {H : Hp} {s : Shared} {Q : VK} {us ws : List Value} {vs zs : List V} (F : FnOk X.prog X.w X.K X.mg X.base CX k f fd ps sp) (hr : Room k X.A) (hb : KBinds X.K fd ps ks g gV) (hx : PassesAt CX X σ (E σ))
    (I : Inv X pins σ H s) (r : Vals vs us) (rz : Vals zs ws) (h : sp (gV vs zs) H Q (E σ)) : wpAny (model X.prog X.w) X.A (call (.ref f) us (ks.zip ws)) (EP X pins σ Q) X.xe s := by
  have r2 := hb.rel r rz
  have hl : (g us ws).length = ps.length := by rw [← r2.length]; exact F.len _ _ _ _ h
  refine wpAny_call (codeAny_mono (F.run X.A X.stack s H ⟨us, ks.zip ws⟩ (g us ws) (gV vs zs) Q (E σ) hr I.env0 (hb.to s us ws I.kIn hl) r2 h) fun r s' hq => ?_)
  cases r with
  | error e => exact hx pins H s e s' I hq
  | ok fl =>
    cases fl with
    | ret u => exact I.after hq
    | next => exact False.elim hq
    | brk => exact False.elim hq
    | cont => exact False.elim hq
theorem pe_callKS1 (F : FnOk X.prog X.w X.K X.mg X.base CX k f fd ps sp) (hr : Room k X.A) (hg : Gl X x) (hm : X.mg x = some (.ref f)) (hk : PySem.W.keepIn X.K (.ref f) = true) (hb : KBinds X.K fd ps ks (kwN 1) (kwN 1)) (hx : ∀ σ, PassesAt CX X σ (E σ))
    (ha : PE X e te) (hkw : PK X kws tk) (hall : (backToKw pos (keywordEach kws X.env)).all (·.1.isSome) = true := by rfl) (hks : (backToKw pos (keywordEach kws X.env)).filterMap (·.1) = ks := by rfl)
    (hdb : (x == ("__debug__" : Str)) = false := by decide) (he : starEach [e] X.env = (false, eval e X.env) :: starEach [] X.env := by rfl)
    (hpl : ((backTo pos (starEach [e] X.env)).any (·.1) || (backToKw pos (keywordEach kws X.env)).any (·.1.isNone)) = false := by rfl) :
    PE X (.Call (.Name x p) [e] kws pos) (tCallS sp E (tCons te tk)) := by
  refine ⟨fun pins s σ H Q I h => ?_⟩
  refine wpAny_Call_Name_kw (ld_glob I hg hm ?_ hdb)
  refine PySem.W.callWith_KW (h₀ := X.base) I.ok.mod.kin hk hall (thn ((pa_cons ha pa_nil (hs := he)).run pos pins s σ H (fun vs H1 => tk σ H1 fun zs H2 => sp (kwN 1 vs zs) H2 Q (E σ)) I h) fun us s1 ⟨vs, H1, I1, r, q⟩ => ?_) hpl he
  refine thn (hkw.run pos pins s1 σ H1 _ I1 q) fun ws s2 ⟨zs, H2, I2, rz, q2⟩ => ⟨I2.kIn, ?_⟩
  rw [hks]
  exact run_fnkS F hr hb (hx σ) I2 r rz q2
end
end L2

/-! dicts with ints for keys; isinstance with a tuple of classes -/
namespace L2
open PySem PySem.Spec PyProof.Rows RZ
theorem DGeti {H : Hp} {a : Addr} {kvs : List (Key × V)} {n : Int} (e : H a = some (.dK kvs)) : DGet H a (.int n) (valV kvs (Sum.inl n)) := DGet.k (k := Sum.inl n) e
theorem DPuti {H : Hp} {a : Addr} {kvs : List (Key × V)} {n : Int} {v : V} (e : H a = some (.dK kvs)) (hl : kvs.length < sizeLine) : DPut H a (.int n) v (upd H a (.dK (putK kvs (Sum.inl n) v))) := DPut.k (k := Sum.inl n) e hl
section
variable {K : PySem.W.Frag} {υ δ δ' α β γ τ κ ρ : Type} {F : Fx υ} {Γ Γ' : List Cl} {Δ : Dl δ} {ext : δ → υ} {N : β → St → Hp → Prop} {C : κ → St → Hp → Prop} {t2 : TS} {Rr : Rk ρ}
def KvI (R : Rp α) (S : ASet) (H : Hp) (p : Key × V) (q : Int × α) : Prop := p.1 = Sum.inl q.1 ∧ R.P S H p.2 q.2
theorem KvI.keep {R : Rp α} {S : ASet} {H H' : Hp} {ps : List (Key × V)} {kvs : List (Int × α)} (h : Paired (KvI R S H) ps kvs) (k : Keep S H H') : Paired (KvI R S H') ps kvs := Paired.mapP h fun _ _ z => ⟨z.1, R.keep z.2 k⟩
theorem KvI.shift {R : Rp α} {S S' : ASet} {H : Hp} {ps : List (Key × V)} {kvs : List (Int × α)} (h : Paired (KvI R S H) ps kvs) (k : ∀ a, S' a → S a ∨ H a = none) : Paired (KvI R S' H) ps kvs := Paired.mapP h fun _ _ z => ⟨z.1, R.shift z.2 k⟩
def aDI (R : Rp α) : Rp (List (Int × α)) := ⟨fun S H v kvs => ∃ a ps, v = .ref a ∧ ¬ S a ∧ H a = some (.dK ps) ∧ Paired (KvI R S H) ps kvs,
  fun ⟨a, ps, e, n, h, p⟩ k => ⟨a, ps, e, n, k.same _ _ n h, KvI.keep p k⟩,
  fun ⟨a, ps, e, n, h, p⟩ k => ⟨a, ps, e, fun z => (k a z).elim n (fun z => by rw [h] at z; cases z), h, KvI.shift p k⟩⟩
def oDI (R : Rp α) : Om (List (Int × α)) := ⟨fun T H D kvs => ∃ ps, H D = some (.dK ps) ∧ Paired (KvI R T H) ps kvs,
  fun ⟨ps, h, p⟩ k e => ⟨ps, e.trans h, KvI.keep p k⟩, fun ⟨ps, h, p⟩ k => ⟨ps, h, KvI.shift p k⟩, fun ⟨ps, h, p⟩ xs z => by rw [h] at z; cases z⟩
theorem omv_I {R : Rp α} : OmV (oDI R) (aDI R) := ⟨fun T T' H D b ⟨ps, h, p⟩ n k => ⟨D, ps, rfl, n, h, KvI.shift p fun a z => .inl (k a z)⟩⟩
theorem dato_I {R : Rp α} (d : R.Dat) : DatO (oDI R) := fun T T' H D b ⟨ps, h, p⟩ => ⟨ps, h, Paired.mapP p fun _ _ z => ⟨z.1, d _ _ _ _ _ z.2⟩⟩
theorem nn_di {R : Rp α} : ∀ S H x, ¬ (aDI R).P S H .non x := fun _ _ _ ⟨_, _, h, _⟩ => nomatch h
theorem dgeti_rel {R : Rp α} {S : ASet} {H : Hp} {k : Int} : ∀ {ps : List (Key × V)} {kvs : List (Int × α)}, Paired (KvI R S H) ps kvs → (∀ x, dGet kvs k = some x → ∃ v, valV ps (Sum.inl k) = some v ∧ R.P S H v x) ∧ (dGet kvs k = none → valV ps (Sum.inl k) = none)
  | _, _, .nil => ⟨fun x h => (nomatch h), fun _ => rfl⟩
  | _, _, .cons (a := p) (b := q) h t => by
    rw [dGet_cons]
    by_cases e : q.1 = k
    · rw [if_pos e, valV_pos (h.1.trans (by rw [e]))]
      exact ⟨fun x hx => ⟨p.2, rfl, (show q.2 = x from Option.some.inj hx) ▸ h.2⟩, fun z => (nomatch z)⟩
    · rw [if_neg e, valV_neg (fun z => e (Sum.inl.inj (h.1.symm.trans z)))]
      exact dgeti_rel t
theorem dgeti_is {R : Rp α} {S : ASet} {H : Hp} {k : Int} {ps : List (Key × V)} {kvs : List (Int × α)} (h : Paired (KvI R S H) ps kvs) : (valV ps (Sum.inl k)).isSome = (dGet kvs k).isSome := by
  cases e : dGet kvs k with
  | none => rw [(dgeti_rel h).2 e]; rfl
  | some x => obtain ⟨v, hv, _⟩ := (dgeti_rel h).1 x e; rw [hv]; rfl
theorem dputi_rel {R : Rp α} {S : ASet} {H : Hp} {k : Int} {v : V} {x : α} {ps : List (Key × V)} {kvs : List (Int × α)} (h : Paired (KvI R S H) ps kvs) (hv : R.P S H v x) : Paired (KvI R S H) (putK ps (Sum.inl k) v) (dPut kvs k x) := by
  unfold putK dPut
  rw [valV_any, dGet_any, dgeti_is h]
  cases (dGet kvs k).isSome with
  | false => exact Paired.snoc h ⟨rfl, hv⟩
  | true =>
    rw [if_pos rfl, if_pos rfl]
    induction h with
    | nil => exact .nil
    | @cons p q ps kvs h t ih =>
      refine .cons ?_ ih
      show KvI R S H (if p.1 = Sum.inl k then (p.1, v) else p) (if q.1 = k then (q.1, x) else q)
      by_cases e : q.1 = k
      · rw [if_pos e, if_pos (h.1.trans (by rw [e]))]; exact ⟨h.1, hv⟩
      · rw [if_neg e, if_neg fun z => e (Sum.inl.inj (h.1.symm.trans z))]; exact h
theorem ot_inDI {R : Rp α} : OpT K rInDct aI (aDI R) gInD aB := fun T H v w a b Q hT pa pb ⟨c, hc, k⟩ => by
  cases hc
  obtain rfl := (show _ = _ from pa)
  obtain ⟨y, ps, rfl, n, hy, hp⟩ := pb
  exact ⟨y, _, rfl, DGeti (n := _) hy, k _ H (Same.refl _) (by show V.bl _ = V.bl _; rw [dgeti_is hp])⟩
theorem ot_ninDI {R : Rp α} : OpT K rNotInDct aI (aDI R) gNinD aB := fun T H v w a b Q hT pa pb ⟨c, hc, k⟩ => by
  cases hc
  obtain rfl := (show _ = _ from pa)
  obtain ⟨y, ps, rfl, n, hy, hp⟩ := pb
  exact ⟨y, _, rfl, DGeti (n := _) hy, k _ H (Same.refl _) (by show V.bl _ = V.bl _; rw [dgeti_is hp])⟩
section
variable {R : Rp α} {td ty tx : TE} {md : δ → Res (Er × δ) (List (Int × α) × δ)} {my : δ → Res (Er × δ) (Int × δ)} {mx : δ → Res (Er × δ) (α × δ)} {c : Bool}
theorem tj_dgeti (h : TEj F Γ Δ td md (aDI R) c) (h2 : TEj F Γ Δ ty my aI c) : TEj F Γ Δ (tDGet td ty) (fun d => (md d).bd fun a d => (my d).bd fun k d => optAt (dGet a k) d) R c := fun Ds d σ H Q e q => by
  refine h Ds d σ H _ e ((q.bind).mono fun a d1 H1 e1 k1 q1 v pv => ?_)
  refine h2 Ds d1 σ H1 _ e1 ((q1.bind).mono fun b d2 H2 e2 k2 q2 w pw => ?_)
  obtain ⟨x, hx, k⟩ := After.opt q2 e2
  obtain ⟨y, ps, rfl, n, hy, hp⟩ := (aDI R).keep pv (k2.soft _)
  obtain rfl := (show _ = _ from pw)
  obtain ⟨u, hu, pu⟩ := (dgeti_rel hp).1 x hx
  exact ⟨y, u, rfl, by have := DGeti (n := b) hy; rw [show valV ps (Sum.inl b) = some u from hu] at this; exact this, k H2 (Same.refl _) u pu⟩
theorem tj_dgeti1 (hn : ∀ S H x, ¬ R.P S H .non x) (h : TEj F Γ Δ td md (aDI R) c) (h2 : TEj F Γ Δ ty my aI c) : TEj F Γ Δ (tDGet1 td ty) (fun d => (md d).bd fun a d => (my d).bd fun k d => .ok (dGet a k, d)) (aOpt R) c := fun Ds d σ H Q e q => by
  refine h Ds d σ H _ e ((q.bind).mono fun a d1 H1 e1 k1 q1 v pv => ?_)
  obtain ⟨y, ps, rfl, n, hy, hp⟩ := id pv
  refine ⟨y, rfl, .inl ⟨ps, .inl hy⟩, h2 Ds d1 σ H1 _ e1 ((q1.bind).mono fun b d2 H2 e2 k2 q2 w pw => ?_)⟩
  obtain ⟨y', ps', e', n', hy', hp'⟩ := (aDI R).keep pv (k2.soft _)
  cases e'
  obtain rfl := (show _ = _ from pw)
  refine ⟨_, DGeti (n := _) hy', After.ok q2 e2 _ ?_⟩
  cases hg : dGet a b with
  | none => rw [(dgeti_rel hp').2 hg]; exact .inl ⟨rfl, rfl⟩
  | some x =>
    obtain ⟨u, hu, pu⟩ := (dgeti_rel hp').1 x hg
    rw [hu]
    exact .inr ⟨x, rfl, pu, fun z => hn _ _ _ ((show u = V.non from z) ▸ pu)⟩
theorem tj_dgeti2 (h : TEj F Γ Δ td md (aDI R) c) (h2 : TEj F Γ Δ ty my aI c) (h3 : TEj F Γ Δ tx mx R c) : TEj F Γ Δ (tDGet2 td ty tx) (fun d => (md d).bd fun a d => (my d).bd fun k d => (mx d).bd fun z d => .ok ((dGet a k).getD z, d)) R c := fun Ds d σ H Q e q => by
  refine h Ds d σ H _ e ((q.bind).mono fun a d1 H1 e1 k1 q1 v pv => ?_)
  obtain ⟨y, ps, rfl, n, hy, hp⟩ := id pv
  refine ⟨y, rfl, .inl ⟨ps, .inl hy⟩, h2 Ds d1 σ H1 _ e1 ((q1.bind).mono fun b d2 H2 e2 k2 q2 w pw => ?_)⟩
  refine h3 Ds d2 σ H2 _ e2 ((q2.bind).mono fun x d3 H3 e3 k3 q3 u pu => ?_)
  obtain ⟨y', ps', e', n', hy', hp'⟩ := (aDI R).keep pv ((k2.trans k3).soft _)
  cases e'
  obtain rfl := (show _ = _ from pw)
  refine ⟨_, DGeti (n := _) hy', After.ok q3 e3 _ ?_⟩
  cases hg : dGet a b with
  | none => rw [(dgeti_rel hp').2 hg]; exact pu
  | some x =>
    obtain ⟨u, hu, pu⟩ := (dgeti_rel hp').1 x hg
    rw [hu]
    exact pu
end
theorem ts_newI {Δ' : Dl δ'} {R : Rp α} {f : δ → List (Int × α) → δ'} {ini : δ' → δ} {l : δ' → List (Int × α)} {i : Nat} {k : δ' → Bk (Er × υ) β κ (ρ × υ)} (s : Sn Δ (oDI R) Δ' f ini l) (hΓ : Γ' = Γ.set i (.ow Δ.len)) (h2 : TSj F Γ' Δ' t2 k N C Rr) :
    TSj F Γ Δ (tSeq (tAsg tDNewK (gName i)) t2) (fun d => appK k (f d [])) N C Rr := fun Ds d σ H D e q => by
  subst hΓ
  intro p np
  have s1 := Same.new0 (o := HO.dK []) np
  have e' := e.same s1
  have sh : ∀ a, (soft true F Ds a ∨ a = p) → soft true F Ds a ∨ H a = none := fun a h => h.imp id fun z => by rw [z]; exact np
  have e3 := En.more (O := oDI R) (xs := []) s e e' (s1.keepS _) np (by rw [upd_same]; exact fun z => nomatch z) ⟨[], upd_same, .nil⟩ (Owns.keep (s1.keepS _) (Owns.shift sh e.own) fun E hE => upd_ne fun z => e.live E (.inr (.inr hE)) (z ▸ np))
  refine h2 _ _ _ _ D (e3.set ⟨p, ?_, rfl⟩) q
  rw [List.getElem?_append_right (by rw [Owns.length e.own]; exact Nat.le_refl _), Owns.length e.own, Nat.sub_self]
  rfl
theorem ts_setI {i j : Nat} {R : Rp α} {g : δ → List (Int × α)} {p : List (Int × α) → δ → δ} {te ti : TE} {m : δ → Res (Er × δ) (α × δ)} {mi : δ → Res (Er × δ) (Int × δ)} {c' : Bool} {k : δ → Bk (Er × υ) β κ (ρ × υ)} (hE : ExtOk F Δ ext) (hi : Γ[i]? = some (.ow j)) (ix : Ix Δ j (oDI R) g p) (h : TEj F Γ Δ te m R true) (h2 : TEj F Γ Δ ti mi aI c') (h3 : TSj F Γ Δ t2 k N C Rr) :
    TSj F Γ Δ (tSeq (tAsg te (L2.gSub (tVar i) ti rSetD)) t2) (fun d => (m d).bs ext fun a d => (mi d).bs ext fun i d => putJ (g d) i a (fun l => p l d) k) N C Rr := fun Ds d σ H D e q => by
  refine h Ds d σ H _ e ((AfterS.of hE e q).mono fun a d1 H1 e1 k1 q1 v pv => ?_)
  obtain ⟨s, h1, A, hA, rfl⟩ := e1.get hi
  refine ⟨_, h1, ?_⟩
  refine h2 Ds d1 σ H1 _ e1 ((AfterS.of hE e1 q1).mono fun b d2 H2 e2 k2 q2 w pw => ?_)
  obtain ⟨A', h5, ps, h6, h7⟩ := ix.here e2.own
  rw [hA] at h5
  cases h5
  have nt : ∀ xs, H2 A ≠ some (.tup xs) := fun xs z => by rw [h6] at z; cases z
  have hm := List.mem_of_getElem? hA
  obtain rfl := (show _ = _ from pw)
  dsimp only at q2
  unfold putJ at q2
  by_cases hl : (g d2).length < sizeLine
  · rw [if_pos hl] at q2
    have pv2 := R.keep pv (k2.soft true)
    have kk : Keep (soft true F Ds) H2 (upd H2 A (.dK (putK ps (Sum.inl b) v))) := (Keep.refl _ _).updS (softDs _ hm) nt
    obtain ⟨e3, k3⟩ := e2.put (b := dPut (g d2) b a) (o := .dK (putK ps (Sum.inl b) v)) ix hA ⟨_, upd_same, dputi_rel (KvI.keep h7 kk) (R.keep pv2 kk)⟩
    exact ⟨A, _, rfl, DPuti h6 (by rw [Paired.length h7]; exact hl), h3 Ds _ σ _ D e3 q2⟩
  · rw [if_neg hl] at q2
    exact q2.elim
end
/-! ### isinstance(e, (c1, c2)) of the error that a handler holds -/
def rIsPT (K : PySem.W.Frag) (a : Addr) (cls : Value) (d : Option Addr) : List V → Hp → VK → Prop := fun xs H Q => ∃ (D dd tp : Addr) (fs : List (Str × V)) (cs : List V) (us : List Value) (b : Bool), cls = .ref D ∧ d = some dd ∧ xs = [.ref a, .ref tp] ∧ H tp = some (.tup cs) ∧ Paired ClsV cs us ∧ ExcC K D ∧ H dd = some (.xd fs) ∧ PySem.W.kitAny K (.ref D) us = some b ∧ Q (.bl b) H
theorem kisPT {X : Cx} {a : Addr} {oe : Obj} {cls : Value} {d : Option Addr} {pn : List (Addr × Obj)} (hz : Zc cls d oe) (hf : ∃ vs, oe.data = .fields vs) : CallR (X.suite a ((a, oe) :: pn)) (.builtin "isinstance") (rIsPT X.K a cls d) := by
  intro pins s σ H xs us Q I r h
  obtain ⟨D, dd, tp, fs, cs, ws, b, rfl, rfl, rfl, hT, hcv, C, ed, e, q⟩ := h
  obtain ⟨u1, u2, rfl, r1, r2⟩ := vals2 r
  cases (show u1 = Value.ref a from r1)
  cases (show u2 = Value.ref tp from r2)
  obtain ⟨ha, _⟩ := I.pin (a, oe) (List.mem_append.mpr (.inl List.mem_cons_self))
  obtain ⟨vs, hd⟩ := hf
  have hx : ObjOk X.prog X.w H s.heap dd (.xd fs) := I.hok dd _ ed
  obtain ⟨mA, hns, hr⟩ := hx
  obtain ⟨od, ho, hl⟩ := lookIn_ns hns
  have J : PySem.W.InstAt s.heap a oe D (some od) := ⟨ha, hz.1, by unfold PySem.W.notCls; rw [hd] <;> rfl, by rw [hz.2]; exact ho⟩
  obtain ⟨_, its, rv, o, h1, h2, n, h3⟩ := (show ObjOk X.prog X.w H s.heap tp (.tup cs) from I.hok tp _ hT)
  have e3 := ClsV.all hcv rv
  subst e3
  obtain ⟨oc, od', dt, sl⟩ := o
  simp only at h2 h3
  subst h2 h3
  exact PySem.W.kia_tup (PySem.W.kitx_K C) I.kIn J h1 e (fun z => nomatch z) fun tk => ⟨.bl b, H, I.kept (t' := tk) fun _ _ z => z, rfl, q⟩
def gEor (g1 g2 : XC → Option Bool) (n : XC) : Option Bool := match g1 n, g2 n with
  | some a, some b => some (a || b)
  | _, _ => none
def gIsE2 (g : XC → Option Bool) (a : Er × (Unit × Unit) × Unit) : Option Bool := g a.1.cls
theorem cb_isPT {K : PySem.W.Frag} {cl : XC → Addr} {a dd : Addr} {cls : Value} {ns : List XC} {g1 g2 : XC → Option Bool} {c1 c2 : V} {w1 w2 : Value} (T : ErrCl K cl ns) (hc1 : ClsV c1 w1) (hc2 : ClsV c2 w2) (hg1 : ∀ n b, g1 n = some b → n ∈ ns ∧ PySem.W.kitOne K (.ref (cl n)) w1 = some b) (hg2 : ∀ n b, g2 n = some b → n ∈ ns ∧ PySem.W.kitOne K (.ref (cl n)) w2 = some b) : CbT (rIsPT K a cls (some dd)) (.cons (aErP K cl a cls dd) (.cons (aT2 (aCls c1) (aCls c2)) .nil)) (gIsE2 (gEor g1 g2)) aB := fun T0 H vs x Q hT pa ⟨b, hb, k⟩ => by
  obtain ⟨v, ws, rfl, ⟨rfl, h1, n, y, h2, p⟩, w, us, rfl, ⟨tp, v1, v2, rfl, ht, q1, q2⟩, rfl⟩ := pa
  have q1 : v1 = c1 := q1
  have q2 : v2 = c2 := q2
  subst q1 q2
  unfold gIsE2 gEor at hb
  cases e1 : g1 x.1.cls with
  | none => rw [e1] at hb; cases hb
  | some b1 =>
    cases e2 : g2 x.1.cls with
    | none => rw [e1, e2] at hb; cases hb
    | some b2 =>
      rw [e1, e2] at hb
      cases hb
      obtain ⟨hn, k1⟩ := hg1 _ _ e1
      obtain ⟨_, k2⟩ := hg2 _ _ e2
      refine ⟨_, dd, tp, _, [v1, v2], [w1, w2], b1 || b2, h1, rfl, rfl, ht, .cons hc1 (.cons hc2 .nil), T.e _ hn, h2, ?_, k _ H (Same.refl _) rfl⟩
      unfold PySem.W.kitAny
      rw [k1]
      cases b1 with
      | true => rfl
      | false =>
        unfold PySem.W.kitAny
        rw [k2]
        cases b2 with
        | true => rfl
        | false => rfl
end L2

/-! tuples taken apart; floor division by any int -/
namespace L2
open PySem PySem.Spec PyProof.Rows RZ
def cvt2 {α : Type} : List α → Option (α × α)
  | [a, b] => some (a, b)
  | _ => none
def cvt3 {α : Type} : List α → Option (α × α × α)
  | [a, b, c] => some (a, b, c)
  | _ => none
@[simp] theorem cvt2_e {α : Type} (a b : α) : cvt2 [a, b] = some (a, b) := rfl
@[simp] theorem cvt3_e {α : Type} (a b c : α) : cvt3 [a, b, c] = some (a, b, c) := rfl
theorem vw_t2 {α : Type} {R : Rp α} : Vw (aTup R) (aT2 R R) cvt2 := ⟨fun S H v x y e p => by
  obtain ⟨a, vs, rfl, h, q⟩ := p
  match x, vs, q, h, e with
  | [x1, x2], _, .cons (a := v1) p1 (.cons (a := v2) p2 .nil), h, e =>
    cases e
    exact ⟨a, v1, v2, rfl, h, p1, p2⟩⟩
theorem vw_t3 {α : Type} {R : Rp α} : Vw (aTup R) (aT3 R R R) cvt3 := ⟨fun S H v x y e p => by
  obtain ⟨a, vs, rfl, h, q⟩ := p
  match x, vs, q, h, e with
  | [x1, x2, x3], _, .cons (a := v1) p1 (.cons (a := v2) p2 (.cons (a := v3) p3 .nil)), h, e =>
    cases e
    exact ⟨a, v1, v2, v3, rfl, h, p1, p2, p3⟩⟩
def CDivX (_ j : Int) : Prop := j ≠ 0 ∧ j.natAbs.log2 < 9000
theorem op_fdivX {X : Cx} : OpR X (binaryOp .FloorDiv) (rI CDivX fun i j => .int (i.fdiv j)) := opI fun _ _ _ _ _ _ _ hc q => floordiv_int hc.1 q (.inl (PyProof.noPylong_of_log2 hc.2))
noncomputable def gDivF (a b : Int) : Option Int := @ite _ (b ≠ 0 ∧ b.natAbs.log2 < 9000) (Classical.propDecidable _) (some (a.fdiv b)) none
theorem gDivF_ok {a b : Int} {x : Nat} (h : b ≠ 0) (hb : b.natAbs < 2 ^ x) (h0 : 0 < x) (h9 : x ≤ 9000) : gDivF a b = some (a.fdiv b) := if_pos ⟨h, Nat.lt_of_lt_of_le (PySem.Flt.log2_lt_of h0 hb) h9⟩
theorem ot_divF {K : PySem.W.Frag} : OpT K (rI CDivX fun i j => .int (i.fdiv j)) aI aI gDivF aI := fun T H v w a b Q hT pa pb ⟨c, hc, k⟩ => by
  unfold gDivF at hc
  split at hc
  · rename_i h; cases hc; exact ⟨a, b, pa, pb, h, k _ H (Same.refl _) rfl⟩
  · cases hc
/-! ### an owned list is put in the place of another one -/
theorem Ix.repl {δ : Type} {Δ : Dl δ} {j : Nat} {β : Type} {O : Om β} {g : δ → β} {p : β → δ → δ} (i : Ix Δ j O g p) : ∀ {T : ASet} {H : Hp} {Ds : List Addr} {d : δ} {D : Addr} {b : β}, Owns Δ T H Ds d → O.C T H D b → Owns Δ T H (Ds.set j D) (p b d) := by
  induction i with
  | z =>
    intro T H Ds d D b ⟨D0, L, e, c, o⟩ hb
    subst e
    exact ⟨D, L, rfl, hb, o⟩
  | s i ih =>
    intro T H Ds d D b ⟨D0, L, e, c, o⟩ hb
    subst e
    exact ⟨D0, _, rfl, c, ih o hb⟩
def noref (j : Nat) : Cl → Bool
  | .no => true
  | .fz _ => true
  | .bo _ => true
  | .ow k => k != j
  | .l2 a b => a != j && b != j
theorem nodup_set {α : Type} {x : α} : ∀ {l : List α} {j : Nat}, l.Nodup → x ∉ l → (l.set j x).Nodup
  | [], _, h, _ => h
  | a :: l, 0, h, n => by
    rw [List.set_cons_zero]
    rw [List.nodup_cons] at h ⊢
    exact ⟨fun z => n (List.mem_cons_of_mem _ z), h.2⟩
  | a :: l, j + 1, h, n => by
    rw [List.set_cons_succ]
    rw [List.nodup_cons] at h ⊢
    refine ⟨fun z => ?_, nodup_set h.2 fun z => n (List.mem_cons_of_mem _ z)⟩
    rcases List.mem_or_eq_of_mem_set z with z | z
    · exact h.1 z
    · exact n (z ▸ List.mem_cons_self)
section
variable {υ δ α β κ ρ : Type} {F : Fx υ} {Γ Γ' : List Cl} {Δ : Dl δ} {ext : δ → υ} {N : β → St → Hp → Prop} {C : κ → St → Hp → Prop} {t2 : TS} {Rr : Rk ρ}
theorem En.repl {j : Nat} {O : Om α} {g : δ → α} {p : α → δ → δ} (ix : Ix Δ j O g p) {Ds : List Addr} {d0 d : δ} {σ : St} {H0 H : Hp} {D : Addr} {xs : α} (e0 : En F Γ Δ Ds d0 σ H0) (e : En F Γ Δ Ds d σ H) (k : Keep (· ∈ Ds) H0 H) (n : H0 D = none) (hl : H D ≠ none) (hp : O.C (fun b => soft true F Ds b ∨ b = D) H D xs)
    (hown : Owns Δ (fun b => soft true F Ds b ∨ b = D) H Ds d) (hU : F.U.length ≤ j) (hN : Γ.all (noref j) = true) : En F Γ Δ (Ds.set j D) (p xs d) σ H := by
  have hm : ∀ a, a ∈ Ds.set j D → a ∈ Ds ∨ a = D := fun a h => List.mem_or_eq_of_mem_set h
  have hs : ∀ c a, soft c F (Ds.set j D) a → soft c F Ds a ∨ a = D := fun c a h => by
    rcases h with h | h | h
    · exact .inl (.inl h)
    · exact .inl (.inr (.inl h))
    · exact (hm a h).imp (fun z => .inr (.inr z)) id
  have nD : D ∉ Ds := fun z => e0.live D (.inr (.inr z)) n
  refine ⟨e.k0, ?_, nodup_set e.nd nD, fun a h => ?_, ix.repl (Owns.shift (fun a h => .inl (hs true a h)) hown) (O.shift hp fun a h => .inl (hs true a h)), ?_, fun a ha h => ?_, e.ul, fun a ha => ?_⟩
  · obtain ⟨L, rfl, hL⟩ := e.pre
    refine ⟨L.set (j - F.U.length) D, by rw [List.set_append_right _ _ hU], fun a h => ?_⟩
    rcases List.mem_or_eq_of_mem_set h with h | h
    · exact hL a h
    · rw [h]; exact e0.k0.free n
  · rcases hs true a h with h | h
    · exact e.live a h
    · rw [h]; exact hl
  · have hsub : ∀ b a, soft b F (Ds.set j D) a → soft b F (Ds ++ [D]) a := fun b a z => by
      rcases z with z | z | z
      · exact .inl z
      · exact .inr (.inl z)
      · rcases hm a z with z | z
        · exact .inr (.inr (List.mem_append_left _ z))
        · exact .inr (.inr (by rw [z]; exact List.mem_append_right _ (List.mem_singleton.mpr rfl)))
    have hget : ∀ (i : Nat) (E : Addr), i ≠ j → Ds[i]? = some E → (Ds.set j D)[i]? = some E := fun i E hi hE => by rw [List.getElem?_set_ne (fun z => hi z.symm)]; exact hE
    have key : ∀ {G : List Cl} {S : St}, Paired (ClOk F Ds H0) G S → (∀ c ∈ G, noref j c = true) → Paired (ClOk F (Ds.set j D) H) G S := by
      intro G S hp
      induction hp with
      | nil => exact fun _ => .nil
      | @cons c s G1 S1 h _ ih =>
        intro hN
        refine .cons ?_ (ih fun c hc => hN c (List.mem_cons_of_mem _ hc))
        have hc := hN c List.mem_cons_self
        have hmore := h.more n k
        cases c with
        | no => trivial
        | fz R => obtain ⟨v, ev, pv⟩ := hmore; exact ⟨v, ev, R.shift pv fun a z => .inl (hsub true a z)⟩
        | bo R => obtain ⟨v, ev, pv⟩ := hmore; exact ⟨v, ev, R.shift pv fun a z => .inl (hsub false a z)⟩
        | ow i =>
          obtain ⟨E, h1, h2⟩ := h
          exact ⟨E, hget i E (by simpa [noref] using hc) h1, h2⟩
        | l2 a b =>
          obtain ⟨W, E1, E2, ev, nW, hW, h1, h2⟩ := h
          obtain ⟨W', _, _, ev', nW', hW', _, _⟩ := hmore
          rw [ev] at ev'
          cases ev'
          have hab : a ≠ j ∧ b ≠ j := by simpa [noref] using hc
          exact ⟨W, E1, E2, ev, fun z => nW' (hsub true W z), k.same _ _ (fun z => nW (.inr (.inr z))) hW, hget a E1 hab.1 h1, hget b E2 hab.2 h2⟩
    exact key e0.sl (List.all_eq_true.mp hN)
  · rcases hm a ha with z | z
    · exact e.xd a z h
    · subst z
      exact e0.live a (.inr (.inl h)) n
  · rcases hm a ha with z | z
    · exact e.sd a z
    · subst z
      exact .inr fun h => e0.live a (.inl ⟨rfl, h⟩) n
theorem ts_reown {R : Rp α} {i j : Nat} {g : δ → List α} {p : List α → δ → δ} {te : TE} {m : δ → Res (Er × δ) (List α × δ)} {k : δ → Bk (Er × υ) β κ (ρ × υ)} (hE : ExtOk F Δ ext) (hd : DatD Δ) (ix : Ix Δ j (oLst R) g p) (hU : F.U.length ≤ j) (hN : (Γ.set i .no).all (noref j) = true) (h : TNj F Γ Δ te m R true) (hΓ : Γ' = Γ.set i (.ow j)) (h2 : TSj F Γ' Δ t2 k N C Rr) :
    TSj F Γ Δ (tSeq (tAsg te (gName i)) t2) (fun d => (m d).bs ext fun a d => k (p a d)) N C Rr := fun Ds d σ H D e q => by
  subst hΓ
  refine h Ds d σ H _ e ((AfterS.of hE e q).mono fun a d' H' e' k' q' A vs n hA pA => ?_)
  have e3 := En.repl ix (e.set (i := i) (c := .no) (v := none) trivial) (e'.set (i := i) (c := .no) (v := none) trivial) k' n (live_of hA) ⟨vs, hA, pA⟩ (hd.any e'.own) hU hN
  have hj : j < Ds.length := by
    obtain ⟨D', h1, _⟩ := ix.here e.own
    exact (List.getElem?_eq_some_iff.mp h1).1
  have e4 := e3.set (i := i) (c := .ow j) (v := some (.ref A)) ⟨A, by rw [List.getElem?_set_self hj], rfl⟩
  rw [List.set_set, List.set_set] at e4
  exact h2 _ _ _ H' D e4 q'
end
end L2

/-! x, y = [..], e: the new list is owned -/
namespace L2
open PySem PySem.Spec PyProof.Rows RZ
section
variable {υ δ δ' α β γ κ ρ : Type} {F : Fx υ} {Γ Γ' : List Cl} {Δ : Dl δ} {ext : δ → υ} {N : β → St → Hp → Prop} {C : κ → St → Hp → Prop} {t2 : TS} {Rr : Rk ρ}
theorem ts_parO {Δ' : Dl δ'} {R : Rp α} {R2 : Rp γ} {f : δ → List α → δ'} {ini : δ' → δ} {l : δ' → List α} {i j : Nat} {te te2 : TE} {m : δ → Res (Er × δ) (List α × δ)} {m2 : δ → Res (Er × δ) (γ × δ)} {k : γ → δ' → Bk (Er × υ) β κ (ρ × υ)} {Γ' : γ → List Cl} (hE : ExtOk F Δ ext) (hd : DatD Δ) (hR2 : R2.Dat) (s : Sn Δ (oLst R) Δ' f ini l) (h : TNj F Γ Δ te m R true) (h2 : TEj F Γ Δ te2 m2 R2 true) (hΓ : ∀ b, Γ' b = (Γ.set i (.ow Δ.len)).set j (.fz (R2.at b))) (h3 : ∀ b, TSj F (Γ' b) Δ' t2 (k b) N C Rr) :
    TSj F Γ Δ (tSeq (tPar i j (tCons te (tCons te2 tNil))) t2) (fun d => (m d).bs ext fun a d => (m2 d).bs ext fun b d => appK (k b) (f d a)) N C Rr := fun Ds d σ H D e q => by
  refine h Ds d σ H _ e ((AfterS.of hE e q).mono fun a d' H' e' k' q' A vs n hA p => ?_)
  refine h2 Ds d' σ H' _ e' ((AfterS.of hE e' q').mono fun b d2 H2 e2 k2 q2 w pw => ?_)
  have nA : A ∉ Ds := fun z => e.live A (.inr (.inr z)) n
  have hA2 : H2 A = some (.lst vs) := k2.same A _ nA hA
  have p2 : Paired (R.P (fun b => soft true F Ds b ∨ b = A) H2) vs a := Paired.mapP p fun _ _ z => R.keep z (k2.mono fun a h => .inl (.inr (.inr h)))
  have e3 := En.more s e e2 (k'.trans k2) n (live_of hA2) ⟨vs, hA2, p2⟩ (hd.any e2.own)
  have hget : (Ds ++ [A])[Δ.len]? = some A := by
    rw [List.getElem?_append_right (by rw [Owns.length e.own]; exact Nat.le_refl _), Owns.length e.own, Nat.sub_self]
    rfl
  have e4 := (e3.set (i := i) (c := .ow Δ.len) (v := some (V.ref A)) ⟨A, hget, rfl⟩).set (i := j) (c := .fz (R2.at b)) (v := some w) ⟨w, rfl, hR2 _ _ _ _ _ pw⟩
  rw [← hΓ] at e4
  exact ⟨.ref A, w, rfl, h3 b _ _ _ H2 D e4 q2⟩
end
end L2

namespace K52
open PySem PySem.Spec PyProof.Rows L2 RZ
def top (i : Nat) : Stmt := PySem.Challenge.pw_seenposts_k52_posts_seen_on_lines.main.body.getD i (.Pass ⟨0, 0, 0, 0⟩)
abbrev s_init : Stmt := inClass (top 11) 0
theorem sc_init : FnScope ["self", "value"] ["self", "value"] (defScope s_init) := ⟨rfl, rfl, rfl, by decide +kernel, rfl, by decide +kernel, by decide +kernel⟩
abbrev s_common_divisor : Stmt := top 5
abbrev N_common_divisor : List Str := ["place", "found", "number"]
theorem sc_common_divisor : FnScope N_common_divisor ["place"] (defScope s_common_divisor) := ⟨rfl, rfl, rfl, by decide +kernel, rfl, by decide +kernel, by decide +kernel⟩
abbrev s_less : Stmt := top 8
abbrev N_less : List Str := ["place", "other", "number", "more"]
theorem sc_less : FnScope N_less ["place", "other"] (defScope s_less) := ⟨rfl, rfl, rfl, by decide +kernel, rfl, by decide +kernel, by decide +kernel⟩
abbrev s_Lineseen_at : Stmt := inClass (top 22) 5
abbrev N_Lineseen_at : List Str := ["self", "t"]
theorem sc_Lineseen_at : FnScope N_Lineseen_at ["self", "t"] (defScope s_Lineseen_at) := ⟨rfl, rfl, rfl, by decide +kernel, rfl, by decide +kernel, by decide +kernel⟩
abbrev s_LineUeqU : Stmt := inClass (top 22) 12
abbrev N_LineUeqU : List Str := ["self", "other"]
theorem sc_LineUeqU : FnScope N_LineUeqU ["self", "other"] (defScope s_LineUeqU) := ⟨rfl, rfl, rfl, by decide +kernel, rfl, by decide +kernel, by decide +kernel⟩
abbrev s_law_pool : Stmt := top 24
abbrev N_law_pool : List Str := ["_law_script", "_law_k", "_law_cell", "_law_mixed"]
theorem sc_law_pool : FnScope N_law_pool ["_law_script", "_law_k"] (defScope s_law_pool) := ⟨rfl, rfl, rfl, by decide +kernel, rfl, by decide +kernel, by decide +kernel⟩
abbrev s_law_take : Stmt := top 25
abbrev N_law_take : List Str := ["_law_pool_here", "_law_parts", "_law_drawn"]
theorem sc_law_take : FnScope N_law_take ["_law_pool_here", "_law_parts"] (defScope s_law_take) := ⟨rfl, rfl, rfl, by decide +kernel, rfl, by decide +kernel, by decide +kernel⟩
abbrev s_law_gcd : Stmt := top 26
abbrev N_law_gcd : List Str := ["_law_values", "_law_found", "_law_value"]
theorem sc_law_gcd : FnScope N_law_gcd ["_law_values"] (defScope s_law_gcd) := ⟨rfl, rfl, rfl, by decide +kernel, rfl, by decide +kernel, by decide +kernel⟩
abbrev s_two_weights : Stmt := top 6
abbrev N_two_weights : List Str := ["one", "other", "weights", "further", "many"]
theorem sc_two_weights : FnScope N_two_weights ["one", "other"] (defScope s_two_weights) := ⟨rfl, rfl, rfl, by decide +kernel, rfl, by decide +kernel, by decide +kernel⟩
abbrev s_number_of : Stmt := top 21
abbrev N_number_of : List Str := ["start", "step", "j", "i"]
theorem sc_number_of : FnScope N_number_of ["start", "step"] (defScope s_number_of) := ⟨rfl, rfl, rfl, by decide +kernel, rfl, by decide +kernel, by decide +kernel⟩
abbrev s_law_far : Stmt := top 27
abbrev N_law_far : List Str := ["_law_pool_here", "_law_most"]
theorem sc_law_far : FnScope N_law_far ["_law_pool_here"] (defScope s_law_far) := ⟨rfl, rfl, rfl, by decide +kernel, rfl, by decide +kernel, by decide +kernel⟩
abbrev s_law_number : Stmt := top 28
abbrev N_law_number : List Str := ["_law_pool_here", "_law_way", "_law_number_here", "_law_prime"]
theorem sc_law_number : FnScope N_law_number ["_law_pool_here"] (defScope s_law_number) := ⟨rfl, rfl, rfl, by decide +kernel, rfl, by decide +kernel, by decide +kernel⟩
abbrev s_law_spot : Stmt := top 30
abbrev N_law_spot : List Str := ["_law_pool_here", "_law_most"]
theorem sc_law_spot : FnScope N_law_spot ["_law_pool_here"] (defScope s_law_spot) := ⟨rfl, rfl, rfl, by decide +kernel, rfl, by decide +kernel, by decide +kernel⟩
abbrev s_weights_of : Stmt := top 7
abbrev N_weights_of : List Str := ["place", "divisor", "found", "number", "before", "last", "weight"]
theorem sc_weights_of : FnScope N_weights_of ["place"] (defScope s_weights_of) := ⟨rfl, rfl, rfl, by decide +kernel, rfl, by decide +kernel, by decide +kernel⟩
abbrev s_check_place : Stmt := top 16
abbrev N_check_place : List Str := ["place", "size"]
theorem sc_check_place : FnScope N_check_place ["place", "size"] (defScope s_check_place) := ⟨rfl, rfl, rfl, by decide +kernel, rfl, by decide +kernel, by decide +kernel⟩
abbrev s_check_any_place : Stmt := top 17
abbrev N_check_any_place : List Str := ["place"]
theorem sc_check_any_place : FnScope N_check_any_place ["place"] (defScope s_check_any_place) := ⟨rfl, rfl, rfl, by decide +kernel, rfl, by decide +kernel, by decide +kernel⟩
abbrev s_law_line : Stmt := top 29
abbrev N_law_line : List Str := ["_law_pool_here", "_law_number_here", "_law_size", "_law_along", "_law_start", "_law_step", "_law_turn", "_law_one", "_law_two", "_law_by", "_law_at", "_law_other", "_law_most"]
theorem sc_law_line : FnScope N_law_line ["_law_pool_here", "_law_number_here", "_law_size"] (defScope s_law_line) := ⟨rfl, rfl, rfl, by decide +kernel, rfl, by decide +kernel, by decide +kernel⟩
abbrev s_LineUinitU : Stmt := inClass (top 22) 0
abbrev N_LineUinitU : List Str := ["self", "start", "step", "weight", "number"]
theorem sc_LineUinitU : FnScope N_LineUinitU ["self", "start", "step"] (defScope s_LineUinitU) := ⟨rfl, rfl, rfl, by decide +kernel, rfl, by decide +kernel, by decide +kernel⟩
abbrev s_law : Stmt := top 31
abbrev N_law : List Str := ["_law_script", "_law_k", "_law_pool_here", "_law_size", "_law_number_here", "_law_start", "_law_step", "_law_along", "_law_line_here", "_law_spots", "_law_spot_here", "_law_seen", "_law_turn"]
theorem sc_law : FnScope N_law ["_law_script"] (defScope s_law) := ⟨rfl, rfl, rfl, by decide +kernel, rfl, by decide +kernel, by decide +kernel⟩
structure Ad where
  a_common_divisor : Addr
  f_common_divisor : FuncData
  a_less : Addr
  f_less : FuncData
  a_Lineseen_at : Addr
  f_Lineseen_at : FuncData
  a_LineUeqU : Addr
  f_LineUeqU : FuncData
  a_law_pool : Addr
  f_law_pool : FuncData
  a_law_take : Addr
  f_law_take : FuncData
  a_law_gcd : Addr
  f_law_gcd : FuncData
  a_two_weights : Addr
  f_two_weights : FuncData
  a_number_of : Addr
  f_number_of : FuncData
  a_law_far : Addr
  f_law_far : FuncData
  a_law_number : Addr
  f_law_number : FuncData
  a_law_spot : Addr
  f_law_spot : FuncData
  a_weights_of : Addr
  f_weights_of : FuncData
  a_check_place : Addr
  f_check_place : FuncData
  a_check_any_place : Addr
  f_check_any_place : FuncData
  a_law_line : Addr
  f_law_line : FuncData
  a_LineUinitU : Addr
  f_LineUinitU : FuncData
  a_law : Addr
  f_law : FuncData
  a_init : Addr
  a_initF : FuncData
  a_cPostError : Addr
  a_cInvalidPlace : Addr
  a_cInvalidStep : Addr
  a_cLine : Addr
structure Txt (K : PySem.W.Frag) (mg : Str → Option Value) (A : Ad) : Prop where
  g_common_divisor : mg "common_divisor" = some (.ref A.a_common_divisor)
  k_common_divisor : PySem.W.keepIn K (.ref A.a_common_divisor) = true
  F_common_divisor : Fun K "common_divisor" "common_divisor" s_common_divisor A.a_common_divisor A.f_common_divisor
  b_common_divisor : Binds K A.f_common_divisor ["place"] []
  g_less : mg "less" = some (.ref A.a_less)
  k_less : PySem.W.keepIn K (.ref A.a_less) = true
  F_less : Fun K "less" "less" s_less A.a_less A.f_less
  b_less : Binds K A.f_less ["place", "other"] []
  at_Lineseen_at : PySem.W.findIn K (.ref A.a_cLine) "seen_at" = some (some (.ref A.a_Lineseen_at))
  fn_Lineseen_at : PySem.W.isFn K (.ref A.a_Lineseen_at) = true
  k_Lineseen_at : PySem.W.keepIn K (.ref A.a_Lineseen_at) = true
  F_Lineseen_at : Fun K "seen_at" "Line.seen_at" s_Lineseen_at A.a_Lineseen_at A.f_Lineseen_at
  b_Lineseen_at : Binds K A.f_Lineseen_at ["self", "t"] []
  at_LineUeqU : PySem.W.findIn K (.ref A.a_cLine) "__eq__" = some (some (.ref A.a_LineUeqU))
  fn_LineUeqU : PySem.W.isFn K (.ref A.a_LineUeqU) = true
  k_LineUeqU : PySem.W.keepIn K (.ref A.a_LineUeqU) = true
  F_LineUeqU : Fun K "__eq__" "Line.__eq__" s_LineUeqU A.a_LineUeqU A.f_LineUeqU
  b_LineUeqU : Binds K A.f_LineUeqU ["self", "other"] []
  g_law_pool : mg "_law_pool" = some (.ref A.a_law_pool)
  k_law_pool : PySem.W.keepIn K (.ref A.a_law_pool) = true
  F_law_pool : Fun K "_law_pool" "_law_pool" s_law_pool A.a_law_pool A.f_law_pool
  b_law_pool : Binds K A.f_law_pool ["_law_script", "_law_k"] []
  g_law_take : mg "_law_take" = some (.ref A.a_law_take)
  k_law_take : PySem.W.keepIn K (.ref A.a_law_take) = true
  F_law_take : Fun K "_law_take" "_law_take" s_law_take A.a_law_take A.f_law_take
  b_law_take : Binds K A.f_law_take ["_law_pool_here", "_law_parts"] []
  g_law_gcd : mg "_law_gcd" = some (.ref A.a_law_gcd)
  k_law_gcd : PySem.W.keepIn K (.ref A.a_law_gcd) = true
  F_law_gcd : Fun K "_law_gcd" "_law_gcd" s_law_gcd A.a_law_gcd A.f_law_gcd
  b_law_gcd : Binds K A.f_law_gcd ["_law_values"] []
  g_two_weights : mg "two_weights" = some (.ref A.a_two_weights)
  k_two_weights : PySem.W.keepIn K (.ref A.a_two_weights) = true
  F_two_weights : Fun K "two_weights" "two_weights" s_two_weights A.a_two_weights A.f_two_weights
  b_two_weights : Binds K A.f_two_weights ["one", "other"] []
  g_number_of : mg "number_of" = some (.ref A.a_number_of)
  k_number_of : PySem.W.keepIn K (.ref A.a_number_of) = true
  F_number_of : Fun K "number_of" "number_of" s_number_of A.a_number_of A.f_number_of
  b_number_of : Binds K A.f_number_of ["start", "step"] []
  g_law_far : mg "_law_far" = some (.ref A.a_law_far)
  k_law_far : PySem.W.keepIn K (.ref A.a_law_far) = true
  F_law_far : Fun K "_law_far" "_law_far" s_law_far A.a_law_far A.f_law_far
  b_law_far : Binds K A.f_law_far ["_law_pool_here"] []
  g_law_number : mg "_law_number" = some (.ref A.a_law_number)
  k_law_number : PySem.W.keepIn K (.ref A.a_law_number) = true
  F_law_number : Fun K "_law_number" "_law_number" s_law_number A.a_law_number A.f_law_number
  b_law_number : Binds K A.f_law_number ["_law_pool_here"] []
  g_law_spot : mg "_law_spot" = some (.ref A.a_law_spot)
  k_law_spot : PySem.W.keepIn K (.ref A.a_law_spot) = true
  F_law_spot : Fun K "_law_spot" "_law_spot" s_law_spot A.a_law_spot A.f_law_spot
  b_law_spot : Binds K A.f_law_spot ["_law_pool_here"] []
  g_weights_of : mg "weights_of" = some (.ref A.a_weights_of)
  k_weights_of : PySem.W.keepIn K (.ref A.a_weights_of) = true
  F_weights_of : Fun K "weights_of" "weights_of" s_weights_of A.a_weights_of A.f_weights_of
  b_weights_of : Binds K A.f_weights_of ["place"] []
  g_check_place : mg "check_place" = some (.ref A.a_check_place)
  k_check_place : PySem.W.keepIn K (.ref A.a_check_place) = true
  F_check_place : Fun K "check_place" "check_place" s_check_place A.a_check_place A.f_check_place
  b_check_place : Binds K A.f_check_place ["place", "size"] []
  g_check_any_place : mg "check_any_place" = some (.ref A.a_check_any_place)
  k_check_any_place : PySem.W.keepIn K (.ref A.a_check_any_place) = true
  F_check_any_place : Fun K "check_any_place" "check_any_place" s_check_any_place A.a_check_any_place A.f_check_any_place
  b_check_any_place : Binds K A.f_check_any_place ["place"] []
  g_law_line : mg "_law_line" = some (.ref A.a_law_line)
  k_law_line : PySem.W.keepIn K (.ref A.a_law_line) = true
  F_law_line : Fun K "_law_line" "_law_line" s_law_line A.a_law_line A.f_law_line
  b_law_line : Binds K A.f_law_line ["_law_pool_here", "_law_number_here", "_law_size"] []
  at_LineUinitU : PySem.W.findIn K (.ref A.a_cLine) "__init__" = some (some (.ref A.a_LineUinitU))
  fn_LineUinitU : PySem.W.isFn K (.ref A.a_LineUinitU) = true
  k_LineUinitU : PySem.W.keepIn K (.ref A.a_LineUinitU) = true
  F_LineUinitU : Fun K "__init__" "Line.__init__" s_LineUinitU A.a_LineUinitU A.f_LineUinitU
  b_LineUinitU : Binds K A.f_LineUinitU ["self", "start", "step"] []
  g_law : mg "law" = some (.ref A.a_law)
  k_law : PySem.W.keepIn K (.ref A.a_law) = true
  F_law : Fun K "law" "law" s_law A.a_law A.f_law
  b_law : Binds K A.f_law ["_law_script"] []
  kb_Lineseen_at : KBn K A.f_Lineseen_at ["self", "t"] 1 ["t"] kwM kwM
  n_abs : mg "abs" = none
  n_bool : mg "bool" = none
  m_gcd : mg "gcd" = some (.builtin "math.gcd")
  n_int : mg "int" = none
  n_isinstance : mg "isinstance" = none
  n_len : mg "len" = none
  n_min : mg "min" = none
  n_range : mg "range" = none
  n_sum : mg "sum" = none
  n_tuple : mg "tuple" = none
  n_zip : mg "zip" = none
  F_init : Fun K "__init__" "PostError.__init__" s_init A.a_init A.a_initF
  b_init : Binds K A.a_initF ["self", "value"] []
  t_init : PySem.W.typeIn K (.ref A.a_init) = some (.type "function")
  g_PostError : mg "PostError" = some (.ref A.a_cPostError)
  g_InvalidPlace : mg "InvalidPlace" = some (.ref A.a_cInvalidPlace)
  o_InvalidPlace : OexC K A.a_cInvalidPlace
  i_InvalidPlace : PySem.W.findIn K (.ref A.a_cInvalidPlace) "__init__" = some (some (.ref A.a_init))
  v_InvalidPlace : PySem.W.findIn K (.ref A.a_cInvalidPlace) "value" = some none
  x_InvalidPlace : XfC K A.a_cInvalidPlace
  e_InvalidPlace : ExcC K A.a_cInvalidPlace
  m_InvalidPlace : PySem.W.exmOne K (.ref A.a_cInvalidPlace) (.ref A.a_cPostError) = some true
  g_InvalidStep : mg "InvalidStep" = some (.ref A.a_cInvalidStep)
  o_InvalidStep : OexC K A.a_cInvalidStep
  i_InvalidStep : PySem.W.findIn K (.ref A.a_cInvalidStep) "__init__" = some (some (.ref A.a_init))
  v_InvalidStep : PySem.W.findIn K (.ref A.a_cInvalidStep) "value" = some none
  x_InvalidStep : XfC K A.a_cInvalidStep
  e_InvalidStep : ExcC K A.a_cInvalidStep
  m_InvalidStep : PySem.W.exmOne K (.ref A.a_cInvalidStep) (.ref A.a_cPostError) = some true
  g_Line : mg "Line" = some (.ref A.a_cLine)
  cl_Line : Cls K A.a_cLine
  mk_Line : Mk K A.a_cLine A.a_LineUinitU
  ty_Line : ∀ (H : Hp) (a dx : Addr) (fs : List (Str × V)), H a = some (.ins A.a_cLine dx fs) → TyOf K H (.ref a) (.ref A.a_cLine)
  ks_Line : PySem.W.kitOne K (.ref A.a_cLine) (.ref A.a_cLine) = some true
  na_Line_start : NoAttr K A.a_cLine "_start"
  na_Line_step : NoAttr K A.a_cLine "_step"
  na_Line_number : NoAttr K A.a_cLine "_number"
  na_Line_centre : NoAttr K A.a_cLine "_centre"
def clA (A : Ad) : XC → Addr
  | .InvalidPlace => A.a_cInvalidPlace
  | .InvalidStep => A.a_cInvalidStep
  | _ => A.a_law
def raised : List XC := [.InvalidPlace, .InvalidStep]
theorem errcl {K : PySem.W.Frag} {mg : Str → Option Value} {A : Ad} (T : Txt K mg A) : ErrCl K (clA A) raised := ⟨fun n h => by simp only [raised, List.mem_cons, List.not_mem_nil, or_false] at h; rcases h with rfl | rfl; exact T.x_InvalidPlace; exact T.x_InvalidStep, fun n h => by simp only [raised, List.mem_cons, List.not_mem_nil, or_false] at h; rcases h with rfl | rfl; exact T.e_InvalidPlace; exact T.e_InvalidStep, fun n h => by simp only [raised, List.mem_cons, List.not_mem_nil, or_false] at h; rcases h with rfl | rfl; exact T.v_InvalidPlace; exact T.v_InvalidStep⟩
theorem ok_init {P : Program} {w : World} {base : Heap} {K : PySem.W.Frag} {mg : Str → Option Value} {A : Ad} (T : Txt K mg A) : FnOk P w K mg base CX0 1 A.a_init A.a_initF ["self", "value"] (spEInit K) := by
  refine T.F_init.ok sc_init (fun vs H Q E h => ?_) (fun cdv A' outer s H vs Q E hr h => ⟨_, pss_one (ps_ost (pv 0) (pv 1)), ?_⟩)
  · obtain ⟨a, C, v, rfl, _⟩ := h
    rfl
  · obtain ⟨a, C, v, rfl, oC, nC, ha, q⟩ := h
    exact ⟨_, rfl, _, rfl, a, C, rfl, oC, nC, .inl ⟨ha, q⟩⟩
abbrev T_Line := (List Int) × (List Int) × Int × Int × Unit
abbrev fl_Line (K : PySem.W.Frag) : Fl T_Line := (.cons "_start" (aTup aI) (.cons "_step" (aTup aI) (.cons "_number" aI (.cons "_centre" aI .nil))))
theorem fa_Line_start {K : PySem.W.Frag} : FlAt "_start" (aTup aI) (fl_Line K) (fun x => x.1) := .z
theorem ne_Line_step_start : (("_step" : Str) == "_start") = false := by decide +kernel
theorem fa_Line_step {K : PySem.W.Frag} : FlAt "_step" (aTup aI) (fl_Line K) (fun x => x.2.1) := (.s ne_Line_step_start .z)
theorem ne_Line_number_start : (("_number" : Str) == "_start") = false := by decide +kernel
theorem ne_Line_number_step : (("_number" : Str) == "_step") = false := by decide +kernel
theorem fa_Line_number {K : PySem.W.Frag} : FlAt "_number" aI (fl_Line K) (fun x => x.2.2.1) := (.s ne_Line_number_start (.s ne_Line_number_step .z))
theorem ne_Line_centre_start : (("_centre" : Str) == "_start") = false := by decide +kernel
theorem ne_Line_centre_step : (("_centre" : Str) == "_step") = false := by decide +kernel
theorem ne_Line_centre_number : (("_centre" : Str) == "_number") = false := by decide +kernel
theorem fa_Line_centre {K : PySem.W.Frag} : FlAt "_centre" aI (fl_Line K) (fun x => x.2.2.2.1) := (.s ne_Line_centre_start (.s ne_Line_centre_step (.s ne_Line_centre_number .z)))
theorem hs_Line_seen_at : ((["_start", "_step", "_number", "_centre"] : List Str).any fun n => ("seen_at" : Str) == n) = false := by decide +kernel

section
variable {P : Program} {w : World} {K : PySem.W.Frag} {mg : Str → Option Value} {base : Heap} {A : Ad}
noncomputable def l_common_divisor (place_ : (List Int)) : Unit → Bk (Er × Unit) Empty Empty (Int × Unit) := fun d =>
 (Res.ok ((0 : Int), d)).bs (fun d => d) fun found1 d2 =>
 (Res.ok (place_, d2)).bs (fun d => d) fun x20 d18 => ((forB (κ := _) (fun a3 (s4 : Int) (d19 : Unit) =>
 (((Res.ok (s4, d19)).bd fun x9 d10 => ((Res.ok (a3, d10)).bd fun x5 d6 => (Res.ok ((), d6)).bd fun y7 d8 => Res.ok ((x5, y7), d8)).bd fun y11 d12 => Res.ok ((x9, y11), d12)).bd fun x13 d14 => optAt (gGcd x13) d14).bs (fun d => d) fun found15 d16 =>
 Bk.nx (found15, d16)) x20 found1 d18).mapU (fun d => d)).sq fun s17 d23 =>
 (Res.ok (s17, d23)).bs (fun d => d) fun r21 d22 => Bk.rt (r21, d22)
noncomputable def f_common_divisor (a : (List Int) × Unit) : Res Er Int := runP (l_common_divisor a.1 ())
theorem ok_common_divisor (T : Txt K mg A) : FnOk P w K mg base CX0 1 A.a_common_divisor A.f_common_divisor ["place"] (spP (.cons (aTup aI) .nil) aI f_common_divisor) := by
  refine T.F_common_divisor.ok sc_common_divisor (fun vs H Q E h => ?_) (fun cdv A' outer s H vs Q E hr h => ⟨_, (pss_cons (ps_set (i := 1) sc_common_divisor.nd rfl (Or.inl rfl) pe_int)
 (pss_cons (ps_for PassesOwn.never rfl (kpi_tup rfl (pv 0)) (pg_name (i := 2) sc_common_divisor.nd rfl (Or.inl rfl))
 (pss_cons (ps_set (i := 1) sc_common_divisor.nd rfl (Or.inl rfl) (pe_callBfun cr_gcd rfl T.m_gcd (pa_cons (pv 1) (pa_cons (pv 2) pa_nil))))
 pss_nil))
 (pss_one (ps_ret (pv 1))))), ?_⟩)
  · obtain ⟨a, ha, _⟩ := h
    exact (al_len (cs := []) ha).trans rfl
  · refine run_P (K := K) (f := f_common_divisor) (cs := [true]) (m := fun a => l_common_divisor a.1) (clA A) (.yes (aTup.dat aI.dat) .nil) (fun _ => rfl) h fun S a => ?_
    show TSj _ [.fz ((aTup aI).at (a.1)), .no, .no] .nil _ (l_common_divisor a.1) _ _ _
    unfold l_common_divisor
    exact (ts_asg (i := 1) (c := true) (Γ' := fun found1 => [.fz ((aTup aI).at (a.1)), .fz (aI.at found1), .no]) ext_P tj_int (fun _ => rfl)
 (fun found1 => (ts_for (c2 := true) (τ := Int) (gl := fun (s4 : Int) => [.fz ((aTup aI).at (a.1)), .fz (aI.at s4), .no]) (s0 := found1) (Γb := fun (s4 : Int) a3 => [.fz ((aTup aI).at (a.1)), .fz (aI.at s4), .fz (aI.at a3)]) ext_P (.inl rfl) (ti_tup (tj_var (i := 0) rfl)) (.keep (.keep (.keep .nil))) (fun _ _ _ => tg_name)
 (fun _ _ s4 a3 => (ts_asg (i := 1) (c := true) (Γ' := fun found15 => [.fz ((aTup aI).at (a.1)), .fz (aI.at found15), .fz (aI.at a3)]) ext_loop (tj_cb cb_gcd (ta_cons (tj_var (i := 1) rfl) (ta_cons (tj_var (i := 2) rfl) ta_nil))) (fun _ => rfl)
 (fun found15 => (ts_nxle (.keep (.keep (.drop .nil)))))))
 (fun s17 => (ts_ret ext_P (tj_var (i := 1) rfl))))))

noncomputable def l_common_divisorL (place_ : (List Int)) : Unit → Bk (Er × Unit) Empty Empty (Int × Unit) := fun d =>
 (Res.ok ((0 : Int), d)).bs (fun d => d) fun found24 d25 =>
 (Res.ok (place_, d25)).bs (fun d => d) fun x43 d41 => ((forB (κ := _) (fun a26 (s27 : Int) (d42 : Unit) =>
 (((Res.ok (s27, d42)).bd fun x32 d33 => ((Res.ok (a26, d33)).bd fun x28 d29 => (Res.ok ((), d29)).bd fun y30 d31 => Res.ok ((x28, y30), d31)).bd fun y34 d35 => Res.ok ((x32, y34), d35)).bd fun x36 d37 => optAt (gGcd x36) d37).bs (fun d => d) fun found38 d39 =>
 Bk.nx (found38, d39)) x43 found24 d41).mapU (fun d => d)).sq fun s40 d46 =>
 (Res.ok (s40, d46)).bs (fun d => d) fun r44 d45 => Bk.rt (r44, d45)
noncomputable def f_common_divisorL (a : (List Int) × Unit) : Res Er Int := runP (l_common_divisorL a.1 ())
theorem ok_common_divisorL (T : Txt K mg A) : FnOk P w K mg base CX0 1 A.a_common_divisor A.f_common_divisor ["place"] (spP (.cons (aLst K aI) .nil) aI f_common_divisorL) := by
  refine T.F_common_divisor.ok sc_common_divisor (fun vs H Q E h => ?_) (fun cdv A' outer s H vs Q E hr h => ⟨_, (pss_cons (ps_set (i := 1) sc_common_divisor.nd rfl (Or.inl rfl) pe_int)
 (pss_cons (ps_for PassesOwn.never rfl (kpi_list rfl (pv 0)) (pg_name (i := 2) sc_common_divisor.nd rfl (Or.inl rfl))
 (pss_cons (ps_set (i := 1) sc_common_divisor.nd rfl (Or.inl rfl) (pe_callBfun cr_gcd rfl T.m_gcd (pa_cons (pv 1) (pa_cons (pv 2) pa_nil))))
 pss_nil))
 (pss_one (ps_ret (pv 1))))), ?_⟩)
  · obtain ⟨a, ha, _⟩ := h
    exact (al_len (cs := []) ha).trans rfl
  · refine run_P (K := K) (f := f_common_divisorL) (cs := [false]) (m := fun a => l_common_divisorL a.1) (clA A) (.no .nil) (fun _ => rfl) h fun S a => ?_
    show TSj _ [.bo ((aLst K aI).at (a.1)), .no, .no] .nil _ (l_common_divisorL a.1) _ _ _
    unfold l_common_divisorL
    exact (ts_asg (i := 1) (c := true) (Γ' := fun found24 => [.bo ((aLst K aI).at (a.1)), .fz (aI.at found24), .no]) ext_P tj_int (fun _ => rfl)
 (fun found24 => (ts_for (c2 := true) (τ := Int) (gl := fun (s27 : Int) => [.bo ((aLst K aI).at (a.1)), .fz (aI.at s27), .no]) (s0 := found24) (Γb := fun (s27 : Int) a26 => [.bo ((aLst K aI).at (a.1)), .fz (aI.at s27), .fz (aI.at a26)]) ext_P (.inr aI.dat) (ti_list (tj_bor (i := 0) rfl)) (.keep (.keep (.keep .nil))) (fun _ _ _ => tg_name)
 (fun _ _ s27 a26 => (ts_asg (i := 1) (c := true) (Γ' := fun found38 => [.bo ((aLst K aI).at (a.1)), .fz (aI.at found38), .fz (aI.at a26)]) ext_loop (tj_cb cb_gcd (ta_cons (tj_var (i := 1) rfl) (ta_cons (tj_var (i := 2) rfl) ta_nil))) (fun _ => rfl)
 (fun found38 => (ts_nxle (.keep (.keep (.drop .nil)))))))
 (fun s40 => (ts_ret ext_P (tj_var (i := 1) rfl))))))

noncomputable def l_less (place_ : (List Int)) (other_ : (List Int)) : Unit → Bk (Er × Unit) Empty Empty ((List Int) × Unit) := fun d =>
 ((((((Res.ok (place_, d)).bd fun x267 d268 => ((Res.ok (other_, d268)).bd fun x263 d264 => (Res.ok ((), d264)).bd fun y265 d266 => Res.ok ((x263, y265), d266)).bd fun y269 d270 => Res.ok ((x267, y269), d270)).bd fun x271 d272 => Res.ok (x271.1.zip x271.2.1, d272)).bd fun x279 d280 => lcA (fT (fun a273 (d278 : Unit) => Res.ok (true, d278)) (fun a273 (d278 : Unit) => (Res.ok (a273.1, d278)).bd fun x274 d275 => (Res.ok (a273.2, d275)).bd fun y276 d277 => optAt (gSbt x274 y276) d277)) x279 d280).bd fun x281 d282 => (Res.ok ((), d282)).bd fun y283 d284 => Res.ok ((x281, y283), d284)).bd fun x285 d286 => optAt (gId x285) d286).bs (fun d => d) fun r287 d288 => Bk.rt (r287, d288)
noncomputable def f_less (a : (List Int) × (List Int) × Unit) : Res Er (List Int) := runP (l_less a.1 a.2.1 ())
theorem ok_less (T : Txt K mg A) : FnOk P w K mg base CX0 1 A.a_less A.f_less ["place", "other"] (spP (.cons (aTup aI) (.cons (aTup aI) .nil)) (aTup aI) f_less) := by
  refine T.F_less.ok sc_less (fun vs H Q E h => ?_) (fun cdv A' outer s H vs Q E hr h => ⟨_, (pss_one (ps_ret (pe_callTy (ktuple rfl) (by rfl) T.n_tuple (by decide +kernel) (pa_cons (pe_lc (own := [("number", 2), ("more", 3)]) (g := (gTup K 2 (gCons (gName 2) (gCons (gName 3) gNil)))) rfl sc_less.nd (kpi_zipA rfl rfl T.n_zip (pa_cons (pv 0) (pa_cons (pv 1) pa_nil))) (blkOk_by (own := [("number", 2), ("more", 3)]) (N := N_less) (sc := defScope s_less) (by decide +kernel)) (fun _ _ _ _ _ => pg_tup rfl (pgs_cons (pg_name (i := 2) sc_less.nd rfl (Or.inl rfl)) (pgs_cons (pg_name (i := 3) sc_less.nd rfl (Or.inl rfl)) pgs_nil))) (fun _ _ _ _ _ => pts_nil) (fun _ _ _ _ _ => (pe_op op_sub (pv 2) (pv 3)))) pa_nil)))), ?_⟩)
  · obtain ⟨a, ha, _⟩ := h
    exact (al_len (cs := []) ha).trans rfl
  · refine run_P (K := K) (f := f_less) (cs := [true, true]) (m := fun a => l_less a.1 a.2.1) (clA A) (.yes (aTup.dat aI.dat) (.yes (aTup.dat aI.dat) .nil)) (fun _ => rfl) h fun S a => ?_
    show TSj _ [.fz ((aTup aI).at (a.1)), .fz ((aTup aI).at (a.2.1)), .no, .no] .nil _ (l_less a.1 a.2.1) _ _ _
    unfold l_less
    exact (ts_ret ext_P (tj_cb cb_tuple (ta_cons (TNj.te (tn_lc (c2 := true) (vs := [2, 3]) (Γw := [.fz ((aTup aI).at (a.1)), .fz ((aTup aI).at (a.2.1)), .no, .no]) (Γb := fun a273 => [.fz ((aTup aI).at (a.1)), .fz ((aTup aI).at (a.2.1)), .fz (aI.at a273.1), .fz (aI.at a273.2)]) rfl (.inl rfl) rfl (ti_zipT (ta_cons (tj_var (i := 0) rfl) (ta_cons (tj_var (i := 1) rfl) ta_nil))) (fun _ => (tg_t2 tg_name (fun _ => tg_name))) (by decide) (fun _ a273 => tt_yes) (fun _ a273 => (tj_op ot_sub (tj_var (i := 2) rfl) (tj_var (i := 3) rfl))))) ta_nil)))

noncomputable def l_Lineseen_at (self_ : T_Line) (t_ : Int) : Unit → Bk (Er × Unit) Empty Empty (Bool × Unit) := fun d =>
 (((((Res.ok (t_, d)).bd fun x553 d554 => ((Res.ok (self_, d554)).bd fun x551 d552 => Res.ok (x551.2.2.2.1, d552)).bd fun y555 d556 => optAt (gSbt x553 y555) d556).bd fun x563 d564 => (((Res.ok (self_, d564)).bd fun x557 d558 => Res.ok (x557.2.2.1, d558)).bd fun x559 d560 => (Res.ok ((), d560)).bd fun y561 d562 => Res.ok ((x559, y561), d562)).bd fun y565 d566 => Res.ok ((x563, y565), d566)).bd fun x567 d568 => optAt (gGcd x567) d568).bd fun x569 d570 => (Res.ok ((1 : Int), d570)).bd fun y571 d572 => optAt (gEqI x569 y571) d572).bs (fun d => d) fun r573 d574 => Bk.rt (r573, d574)
noncomputable def f_Lineseen_at (a : T_Line × Int × Unit) : Res Er Bool := runP (l_Lineseen_at a.1 a.2.1 ())
theorem ok_Lineseen_at (T : Txt K mg A) : FnOk P w K mg base CX0 1 A.a_Lineseen_at A.f_Lineseen_at ["self", "t"] (spP (.cons (aIns A.a_cLine (fl_Line K)) (.cons aI .nil)) aB f_Lineseen_at) := by
  refine T.F_Lineseen_at.ok sc_Lineseen_at (fun vs H Q E h => ?_) (fun cdv A' outer s H vs Q E hr h => ⟨_, (pss_one (ps_ret (pe_cmpR op_eq (pe_callBfun cr_gcd rfl T.m_gcd (pa_cons (pe_op op_sub (pv 1) (kpe_fld (K := K) rfl (pv 0) rfl)) (pa_cons (kpe_fld (K := K) rfl (pv 0) rfl) pa_nil))) pe_int (nomark _)))), ?_⟩)
  · obtain ⟨a, ha, _⟩ := h
    exact (al_len (cs := []) ha).trans rfl
  · refine run_P (K := K) (f := f_Lineseen_at) (cs := [false, true]) (m := fun a => l_Lineseen_at a.1 a.2.1) (clA A) (.no (.yes aI.dat .nil)) (fun _ => rfl) h fun S a => ?_
    show TSj _ [.bo ((aIns A.a_cLine (fl_Line K)).at (a.1)), .fz (aI.at (a.2.1))] .nil _ (l_Lineseen_at a.1 a.2.1) _ _ _
    unfold l_Lineseen_at
    exact (ts_ret ext_P (tj_op ot_eq (tj_cb cb_gcd (ta_cons (tj_op ot_sub (tj_var (i := 1) rfl) (TEj.dat (c' := true) aI.dat (tj_fld T.cl_Line T.na_Line_centre fa_Line_centre (tj_bor (i := 0) rfl)))) (ta_cons (TEj.dat (c' := true) aI.dat (tj_fld T.cl_Line T.na_Line_number fa_Line_number (tj_bor (i := 0) rfl))) ta_nil))) tj_int))

noncomputable def l_LineUeqU (self_ : T_Line) (other_ : T_Line) : Unit → Bk (Er × Unit) Empty Empty (Bool × Unit) := fun d =>
 ((((Res.ok (other_, d)).bd fun x579 d580 => ((Res.ok ((), d580)).bd fun x575 d576 => (Res.ok ((), d576)).bd fun y577 d578 => Res.ok ((x575, y577), d578)).bd fun y581 d582 => Res.ok ((x579, y581), d582)).bd fun x583 d584 => optAt ((gCst true) x583) d584).bd fun x585 d586 => Res.ok (!x585, d586)).bs (fun d => d) fun b611 d612 => ((if b611 = true then (Res.ok (false, d612)).bs (fun d => d) fun r589 d590 => Bk.rt (r589, d590) else Bk.nx ((), d612) : Bk _ ((Unit) × (Unit)) _ _)).sq fun j587 d588 =>
 ((((Res.ok (self_, d588)).bd fun x591 d592 => Res.ok (x591.1, d592)).bd fun x595 d596 => ((Res.ok (other_, d596)).bd fun x593 d594 => Res.ok (x593.1, d594)).bd fun y597 d598 => optAt ((gEq (eTup eI)) x595 y597) d598).bd fun x607 d608 => if x607 = true then ((Res.ok (self_, d608)).bd fun x599 d600 => Res.ok (x599.2.1, d600)).bd fun x603 d604 => ((Res.ok (other_, d604)).bd fun x601 d602 => Res.ok (x601.2.1, d602)).bd fun y605 d606 => optAt ((gEq (eTup eI)) x603 y605) d606 else Res.ok (false, d608)).bs (fun d => d) fun r609 d610 => Bk.rt (r609, d610)
noncomputable def f_LineUeqU (a : T_Line × T_Line × Unit) : Res Er Bool := runP (l_LineUeqU a.1 a.2.1 ())
theorem ok_LineUeqU (T : Txt K mg A) : FnOk P w K mg base CX0 1 A.a_LineUeqU A.f_LineUeqU ["self", "other"] (spP (.cons (aIns A.a_cLine (fl_Line K)) (.cons (aIns A.a_cLine (fl_Line K)) .nil)) aB f_LineUeqU) := by
  refine T.F_LineUeqU.ok sc_LineUeqU (fun vs H Q E h => ?_) (fun cdv A' outer s H vs Q E hr h => ⟨_, (pss_cons (ps_if (pt_not (pt_val (pe_callB (kisi rfl) (by rfl) T.n_isinstance (by decide +kernel) (pa_cons (pv 1) (pa_cons (pe_glob (v := .ref A.a_cLine) (u := .ref A.a_cLine) rfl T.g_Line rfl) pa_nil)))))
 (pss_one (ps_ret pe_bl))
 pss_nil)
 (pss_one (ps_ret (pe_and (pe_cmpR (keqD rfl hr.units) (kpe_fld (K := K) rfl (pv 0) rfl) (kpe_fld (K := K) rfl (pv 1) rfl) (nomark _)) (pe_one (pe_cmpR (keqD rfl hr.units) (kpe_fld (K := K) rfl (pv 0) rfl) (kpe_fld (K := K) rfl (pv 1) rfl) (nomark _))))))), ?_⟩)
  · obtain ⟨a, ha, _⟩ := h
    exact (al_len (cs := []) ha).trans rfl
  · refine run_P (K := K) (f := f_LineUeqU) (cs := [false, false]) (m := fun a => l_LineUeqU a.1 a.2.1) (clA A) (.no (.no .nil)) (fun _ => rfl) h fun S a => ?_
    show TSj _ [.bo ((aIns A.a_cLine (fl_Line K)).at (a.1)), .bo ((aIns A.a_cLine (fl_Line K)).at (a.2.1))] .nil _ (l_LineUeqU a.1 a.2.1) _ _ _
    unfold l_LineUeqU
    exact (ts_if (τ := Unit) (Δ' := .nil) (g := fun (j587 : Unit) => [.bo ((aIns A.a_cLine (fl_Line K)).at (a.1)), .bo ((aIns A.a_cLine (fl_Line K)).at (a.2.1))]) ext_P (tt_not (tt_B (TEj.dat (c' := true) aB.dat (tj_cb (cb_isiC T.ty_Line T.ks_Line) (ta_cons (tj_bor (i := 1) rfl) (ta_cons (TEj.weak (tj_c fun _ _ => rfl)) ta_nil))))))
 (ts_ret ext_P tj_bl)
 (ts_nxle (.keep (.keep .nil)))
 (fun j587 => (ts_ret ext_P (tj_and (tj_op (ot_eqD (dTup dI).o (Nat.le_of_ble_eq_true rfl)) (TEj.dat (c' := true) (aTup.dat aI.dat) (tj_fld T.cl_Line T.na_Line_start fa_Line_start (tj_bor (i := 0) rfl))) (TEj.dat (c' := true) (aTup.dat aI.dat) (tj_fld T.cl_Line T.na_Line_start fa_Line_start (tj_bor (i := 1) rfl)))) (tj_op (ot_eqD (dTup dI).o (Nat.le_of_ble_eq_true rfl)) (TEj.dat (c' := true) (aTup.dat aI.dat) (tj_fld T.cl_Line T.na_Line_step fa_Line_step (tj_bor (i := 0) rfl))) (TEj.dat (c' := true) (aTup.dat aI.dat) (tj_fld T.cl_Line T.na_Line_step fa_Line_step (tj_bor (i := 1) rfl))))))))

noncomputable def l_law_pool (script_ : (List Int)) (k_ : Int) : Unit → Bk (Er × Unit) Empty Empty ((List Int) × Unit) := fun d =>
 (Res.ok ((0 : Int), d)).bs (fun d => d) fun cell613 d614 =>
 ((Res.ok (k_, d614)).bd fun x621 d622 => (((Res.ok (script_, d622)).bd fun x615 d616 => (Res.ok ((), d616)).bd fun y617 d618 => Res.ok ((x615, y617), d618)).bd fun x619 d620 => optAt (gLen x619) d620).bd fun y623 d624 => optAt (gLt x621 y623) d624).bs (fun d => d) fun b719 d720 => ((if b719 = true then ((Res.ok (script_, d720)).bd fun x633 d634 => (Res.ok (k_, d634)).bd fun y635 d636 => optAt (gIx x633 y635) d636).bs (fun d => d) fun cell637 d638 =>
 Bk.nx (cell637, d638) else Bk.nx (cell613, d720) : Bk _ ((Int) × (Unit)) _ _)).sq fun j631 d632 =>
 ((Res.ok (j631, d632)).bd fun x643 d644 => ((Res.ok ((10 : Int), d644)).bd fun x639 d640 => (Res.ok ((18 : Int), d640)).bd fun y641 d642 => optAt (gPow x639 y641) d642).bd fun y645 d646 => optAt (gGe x643 y645) d646).bs (fun d => d) fun b717 d718 => ((if b717 = true then ((((Res.ok (j631, d718)).bd fun x653 d654 => ((Res.ok ((10 : Int), d654)).bd fun x649 d650 => (Res.ok ((18 : Int), d650)).bd fun y651 d652 => optAt (gPow x649 y651) d652).bd fun y655 d656 => optAt (gSbt x653 y655) d656).bd fun x657 d658 => (Res.ok ((), d658)).bd fun y659 d660 => Res.ok ((x657, y659), d660)).bd fun x661 d662 => Res.ok (([x661.1] : List Int), d662)).bs (fun d => d) fun r663 d664 => Bk.rt (r663, d664) else Bk.nx ((), d718) : Bk _ ((Unit) × (Unit)) _ _)).sq fun j647 d648 =>
 (((((Res.ok (j631, d648)).bd fun x665 d666 => (Res.ok ((), d666)).bd fun y667 d668 => Res.ok ((x665, y667), d668)).bd fun x669 d670 => optAt (gId x669) d670).bd fun x679 d680 => (((Res.ok ((10 : Int), d680)).bd fun x671 d672 => (Res.ok ((18 : Int), d672)).bd fun y673 d674 => optAt (gPow x671 y673) d674).bd fun x675 d676 => (Res.ok ((9 : Int), d676)).bd fun y677 d678 => optAt (gAdd x675 y677) d678).bd fun y681 d682 => optAt (gMod x679 y681) d682).bd fun x691 d692 => ((Res.ok ((1000000007 : Int), d692)).bd fun x687 d688 => ((Res.ok (k_, d688)).bd fun x683 d684 => (Res.ok ((2 : Int), d684)).bd fun y685 d686 => optAt (gAdd x683 y685) d686).bd fun y689 d690 => optAt (gMul x687 y689) d690).bd fun y693 d694 => optAt (gAdd x691 y693) d694).bs (fun d => d) fun mixed695 d696 =>
 (((((Res.ok (mixed695, d696)).bd fun x697 d698 => (Res.ok ((41 : Int), d698)).bd fun y699 d700 => optAt (gPow x697 y699) d700).bd fun x705 d706 => ((Res.ok ((10 : Int), d706)).bd fun x701 d702 => (Res.ok ((9 : Int), d702)).bd fun y703 d704 => optAt (gPow x701 y703) d704).bd fun y707 d708 => optAt (gDiv x705 y707) d708).bd fun x709 d710 => (Res.ok ((), d710)).bd fun y711 d712 => Res.ok ((x709, y711), d712)).bd fun x713 d714 => Res.ok (([x713.1] : List Int), d714)).bs (fun d => d) fun r715 d716 => Bk.rt (r715, d716)
noncomputable def f_law_pool (a : (List Int) × Int × Unit) : Res Er (List Int) := runP (l_law_pool a.1 a.2.1 ())
theorem ok_law_pool (T : Txt K mg A) : FnOk P w K mg base CX0 1 A.a_law_pool A.f_law_pool ["_law_script", "_law_k"] (spN (.cons (aLst K aI) (.cons aI .nil)) aI f_law_pool) := by
  refine T.F_law_pool.ok sc_law_pool (fun vs H Q E h => ?_) (fun cdv A' outer s H vs Q E hr h => ⟨_, (pss_cons (ps_set (i := 2) sc_law_pool.nd rfl (Or.inl rfl) pe_int)
 (Evl.pss_cut (ps_if (pt_cmpR op_lt (pv 1) (pe_callB (klen rfl) (by rfl) T.n_len (by decide +kernel) (pa_cons (pv 0) pa_nil)) (nomark _))
 (pss_cons (ps_set (i := 2) sc_law_pool.nd rfl (Or.inl rfl) (pe_ix (kix_list rfl) (pv 0) (pv 1) (fun _ _ => rfl)))
 pss_nil)
 pss_nil)
 (pss_cons (ps_if (pt_cmpR op_ge (pv 2) (pe_op op_pow pe_int pe_int) (nomark _))
 (pss_one (ps_ret (pe_lst (pa_cons (pe_op op_sub (pv 2) (pe_op op_pow pe_int pe_int)) pa_nil))))
 pss_nil)
 (pss_cons (ps_set (i := 3) sc_law_pool.nd rfl (Or.inl rfl) (pe_op op_add (pe_op op_mod (pe_callTy call_int1 (by rfl) T.n_int (by decide +kernel) (pa_cons (pv 2) pa_nil)) (pe_op op_add (pe_op op_pow pe_int pe_int) pe_int)) (pe_op op_mulA pe_int (pe_op op_add (pv 1) pe_int))))
 (pss_one (ps_ret (pe_lst (pa_cons (pe_op op_fdivW (pe_op op_pow (pv 3) pe_int) (pe_op op_pow pe_int pe_int)) pa_nil)))))))), ?_⟩)
  · obtain ⟨a, ha, _⟩ := h
    exact (al_len (cs := []) ha).trans rfl
  · refine run_N (K := K) (f := f_law_pool) (cs := [false, true]) (m := fun a => l_law_pool a.1 a.2.1) (clA A) (.no (.yes aI.dat .nil)) (fun _ => rfl) h fun S a => ?_
    show TSj _ [.bo ((aLst K aI).at (a.1)), .fz (aI.at (a.2.1)), .no, .no] .nil _ (l_law_pool a.1 a.2.1) _ _ _
    unfold l_law_pool
    exact (ts_asg (i := 2) (c := true) (Γ' := fun cell613 => [.bo ((aLst K aI).at (a.1)), .fz (aI.at (a.2.1)), .fz (aI.at cell613), .no]) ext_P tj_int (fun _ => rfl)
 (fun cell613 => (ts_cutIf (τ := Int) (Δ' := .nil) (g := fun (j631 : Int) => [.bo ((aLst K aI).at (a.1)), .fz (aI.at (a.2.1)), .fz (aI.at j631), .no]) ext_P (tt_test (tj_op ot_lt (tj_var (i := 1) rfl) (TEj.dat (c' := true) aI.dat (tj_cb cb_lenL (ta_cons (tj_bor (i := 0) rfl) ta_nil)))))
 (ts_asg (i := 2) (c := true) (Γ' := fun cell637 => [.bo ((aLst K aI).at (a.1)), .fz (aI.at (a.2.1)), .fz (aI.at cell637), .no]) ext_P (TEj.dat (c' := true) aI.dat (tj_op ot_ixL (tj_bor (i := 0) rfl) (TEj.weak (tj_var (i := 1) rfl)))) (fun _ => rfl)
 (fun cell637 => (ts_nxle (.keep (.keep (.keep (.keep .nil)))))))
 (ts_nxle (.keep (.keep (.keep (.keep .nil)))))
 (fun j631 => (ts_if (τ := Unit) (Δ' := .nil) (g := fun (j647 : Unit) => [.bo ((aLst K aI).at (a.1)), .fz (aI.at (a.2.1)), .fz (aI.at j631), .no]) ext_P (tt_test (tj_op ot_ge (tj_var (i := 2) rfl) (tj_op ot_pow tj_int tj_int)))
 (ts_retN ext_P (tn_lst (R := aI) (.cons .nil) (by intro a; show 1 ≤ sizeLine; decide) (ta_cons (tj_op ot_sub (tj_var (i := 2) rfl) (tj_op ot_pow tj_int tj_int)) ta_nil)))
 (ts_nxle (.keep (.keep (.keep (.keep .nil)))))
 (fun j647 => (ts_asg (i := 3) (c := true) (Γ' := fun mixed695 => [.bo ((aLst K aI).at (a.1)), .fz (aI.at (a.2.1)), .fz (aI.at j631), .fz (aI.at mixed695)]) ext_P (tj_op ot_add (tj_op ot_mod (tj_cb cb_int (ta_cons (tj_var (i := 2) rfl) ta_nil)) (tj_op ot_add (tj_op ot_pow tj_int tj_int) tj_int)) (tj_op ot_mul tj_int (tj_op ot_add (tj_var (i := 1) rfl) tj_int))) (fun _ => rfl)
 (fun mixed695 => (ts_retN ext_P (tn_lst (R := aI) (.cons .nil) (by intro a; show 1 ≤ sizeLine; decide) (ta_cons (tj_op ot_div (tj_op ot_pow (tj_var (i := 3) rfl) tj_int) (tj_op ot_pow tj_int tj_int)) ta_nil)))))))))))

noncomputable def l_law_take (parts_ : Int) : List Int × Unit → Bk (Er × List Int × Unit) Empty Empty (Int × List Int × Unit) := fun d =>
 ((((Res.wi (fun uu_ => (Res.ok ((d.1), uu_)).bd fun x722 d723 => (Res.ok ((0 : Int), d723)).bd fun y724 d725 => optAt (gIx x722 y724) d725) d).bd fun x727 d728 => (Res.ok ((), d728)).bd fun y729 d730 => Res.ok ((x727, y729), d730)).bd fun x731 d732 => optAt (gId x731) d732).bd fun x733 d734 => (Res.ok (parts_, d734)).bd fun y735 d736 => optAt (gMod x733 y735) d736).bs (fun d => d) fun drawn737 d738 =>
 ((Res.wi (fun uu_ => (Res.ok ((d738.1), uu_)).bd fun x740 d741 => (Res.ok ((0 : Int), d741)).bd fun y742 d743 => optAt (gIx x740 y742) d743) d738).bd fun x745 d746 => (Res.ok (parts_, d746)).bd fun y747 d748 => optAt (gDiv x745 y747) d748).bs (fun d => d) fun x751 d752 => (Res.ok ((0 : Int), d752)).bs (fun d => d) fun i753 d754 => setJ d754.1 i753 x751 (fun l755 => (l755, d754.2)) (fun (d752 : List Int × Unit) => (Res.ok (drawn737, d752)).bs (fun d => d) fun r749 d750 => Bk.rt (r749, d750))
noncomputable def f_law_take (a : Int × Unit) (w : List Int) : Res (Er × List Int) (Int × List Int) := runW (l_law_take a.1 (w, ()))
theorem ok_law_take (T : Txt K mg A) : FnOk P w K mg base CX0 1 A.a_law_take A.f_law_take ["_law_pool_here", "_law_parts"] (spW (.cons aI .nil) aI f_law_take) := by
  refine T.F_law_take.ok sc_law_take (fun vs H Q E h => ?_) (fun cdv A' outer s H vs Q E hr h => ⟨_, (pss_cons (ps_set (i := 2) sc_law_take.nd rfl (Or.inl rfl) (pe_op op_mod (pe_callTy call_int1 (by rfl) T.n_int (by decide +kernel) (pa_cons (pe_ix (kix_list rfl) (pv 0) pe_int (fun _ _ => rfl)) pa_nil)) (pv 1)))
 (pss_cons (ps_asg (pe_op op_fdivW (pe_ix (kix_list rfl) (pv 0) pe_int (fun _ _ => rfl)) (pv 1)) (pg_sub (pv 0) pe_int set_list))
 (pss_one (ps_ret (pv 2))))), ?_⟩)
  · obtain ⟨p, us, a, w, rfl, _, ha, _⟩ := h
    exact congrArg (· + 1) ((al_len (cs := []) ha).trans rfl)
  · refine run_W (K := K) (f := f_law_take) (cs := [true]) (m := fun a => l_law_take a.1) (clA A) (.yes aI.dat .nil) (fun _ _ => rfl) h fun p S a => ?_
    show TSj _ [.ow 0, .fz (aI.at (a.1)), .no] dW _ (l_law_take a.1) _ _ _
    unfold l_law_take
    exact (ts_asg (i := 2) (c := true) (Γ' := fun drawn737 => [.ow 0, .fz (aI.at (a.1)), .fz (aI.at drawn737)]) ext_W (tj_op ot_mod (tj_cb cb_int (ta_cons (tj_pure (mm := fun d726 => [.bo ((aLst K aI).at (d726.1)), .fz (aI.at (a.1)), .no]) rfl (by exact (.ow omv_L Ix.z (.fz (.no .nil)))) (fun d726 _ _ => (TEj.dat (c' := true) aI.dat (tj_op ot_ixL (tj_bor (i := 0) rfl) (TEj.weak tj_int))))) ta_nil)) (tj_var (i := 1) rfl)) (fun _ => rfl)
 (fun drawn737 => (ts_setL (i := 0) ext_W rfl Ix.z (tj_op ot_div (tj_pure (mm := fun d744 => [.bo ((aLst K aI).at (d744.1)), .fz (aI.at (a.1)), .fz (aI.at drawn737)]) rfl (by exact (.ow omv_L Ix.z (.fz (.fz .nil)))) (fun d744 _ _ => (TEj.dat (c' := true) aI.dat (tj_op ot_ixL (tj_bor (i := 0) rfl) (TEj.weak tj_int))))) (tj_var (i := 1) rfl)) tj_int
 (ts_ret ext_W (tj_var (i := 2) rfl)))))

noncomputable def l_law_gcd (values_ : (List Int)) : Unit → Bk (Er × Unit) Empty Empty (Int × Unit) := fun d =>
 (Res.ok ((0 : Int), d)).bs (fun d => d) fun found756 d757 =>
 (Res.ok (values_, d757)).bs (fun d => d) fun x800 d798 => ((forB (κ := _) (fun a758 (s759 : Int) (d799 : Unit) =>
 (((Res.ok (a758, d799)).bd fun x760 d761 => (Res.ok ((), d761)).bd fun y762 d763 => Res.ok ((x760, y762), d763)).bd fun x764 d765 => optAt (gAbs x764) d765).bs (fun d => d) fun value766 d767 =>
 ((whB (κ := _) (fun (s768 : Int × Int) (d794 : Unit) => (Res.ok (s768.2, d794)).bd fun x770 d771 => (Res.ok ((0 : Int), d771)).bd fun y772 d773 => optAt (gNeI x770 y772) d773) (fun (s768 : Int × Int) (d795 : Unit) =>
 ((Res.ok (s768.2, d795)).bd fun x788 d789 => (((((Res.ok (s768.1, d789)).bd fun x774 d775 => (Res.ok ((), d775)).bd fun y776 d777 => Res.ok ((x774, y776), d777)).bd fun x778 d779 => optAt (gId x778) d779).bd fun x780 d781 => (Res.ok (s768.2, d781)).bd fun y782 d783 => optAt (gMod x780 y782) d783).bd fun x784 d785 => (Res.ok ((), d785)).bd fun y786 d787 => Res.ok ((x784, y786), d787)).bd fun y790 d791 => Res.ok ((x788, y790), d791)).bs (fun d => d) fun p792 d793 =>
 Bk.nx ((p792.1, p792.2.1), d793)) (Int.natAbs value766 + 1) (s759, value766) d767).mapU (fun d => d)).sq fun s769 d796 =>
 Bk.nx (s769.1, d796)) x800 found756 d798).mapU (fun d => d)).sq fun s797 d803 =>
 (Res.ok (s797, d803)).bs (fun d => d) fun r801 d802 => Bk.rt (r801, d802)
noncomputable def f_law_gcd (a : (List Int) × Unit) : Res Er Int := runP (l_law_gcd a.1 ())
theorem ok_law_gcd (T : Txt K mg A) : FnOk P w K mg base CX0 1 A.a_law_gcd A.f_law_gcd ["_law_values"] (spP (.cons (aLst K aI) .nil) aI f_law_gcd) := by
  refine T.F_law_gcd.ok sc_law_gcd (fun vs H Q E h => ?_) (fun cdv A' outer s H vs Q E hr h => ⟨_, (pss_cons (ps_set (i := 1) sc_law_gcd.nd rfl (Or.inl rfl) pe_int)
 (pss_cons (ps_for PassesOwn.never rfl (kpi_list rfl (pv 0)) (pg_name (i := 2) sc_law_gcd.nd rfl (Or.inl rfl))
 (pss_cons (ps_set (i := 2) sc_law_gcd.nd rfl (Or.inl rfl) (pe_callB call_abs (by rfl) T.n_abs (by decide +kernel) (pa_cons (pv 2) pa_nil)))
 (pss_cons (ps_while PassesOwn.never (pt_cmpR op_ne (pv 2) pe_int (nomark _))
 (pss_cons (ps_par (i := 1) (j := 2) (by rfl) sc_law_gcd.nd rfl rfl (by decide) rfl rfl (pa_cons (pv 2) (pa_cons (pe_op op_mod (pe_callTy call_int1 (by rfl) T.n_int (by decide +kernel) (pa_cons (pv 1) pa_nil)) (pv 2)) pa_nil)) (by rfl))
 pss_nil))
 pss_nil)))
 (pss_one (ps_ret (pv 1))))), ?_⟩)
  · obtain ⟨a, ha, _⟩ := h
    exact (al_len (cs := []) ha).trans rfl
  · refine run_P (K := K) (f := f_law_gcd) (cs := [false]) (m := fun a => l_law_gcd a.1) (clA A) (.no .nil) (fun _ => rfl) h fun S a => ?_
    show TSj _ [.bo ((aLst K aI).at (a.1)), .no, .no] .nil _ (l_law_gcd a.1) _ _ _
    unfold l_law_gcd
    exact (ts_asg (i := 1) (c := true) (Γ' := fun found756 => [.bo ((aLst K aI).at (a.1)), .fz (aI.at found756), .no]) ext_P tj_int (fun _ => rfl)
 (fun found756 => (ts_for (c2 := true) (τ := Int) (gl := fun (s759 : Int) => [.bo ((aLst K aI).at (a.1)), .fz (aI.at s759), .no]) (s0 := found756) (Γb := fun (s759 : Int) a758 => [.bo ((aLst K aI).at (a.1)), .fz (aI.at s759), .fz (aI.at a758)]) ext_P (.inr aI.dat) (ti_list (tj_bor (i := 0) rfl)) (.keep (.keep (.keep .nil))) (fun _ _ _ => tg_name)
 (fun _ _ s759 a758 => (ts_asg (i := 2) (c := true) (Γ' := fun value766 => [.bo ((aLst K aI).at (a.1)), .fz (aI.at s759), .fz (aI.at value766)]) ext_loop (tj_cb cb_abs (ta_cons (tj_var (i := 2) rfl) ta_nil)) (fun _ => rfl)
 (fun value766 => (ts_while (τ := Int × Int) (gl := fun (s768 : Int × Int) => [.bo ((aLst K aI).at (a.1)), .fz (aI.at s768.1), .fz (aI.at s768.2)]) (s0 := (s759, value766)) (n := fun _ => Int.natAbs value766 + 1) ext_loop (.keep (.keep (.keep .nil))) (fun _ _ s768 => (tt_test (tj_op ot_ne (tj_var (i := 2) rfl) tj_int)))
 (fun _ _ s768 => (ts_par (c := true) (Γ' := fun p792 => [.bo ((aLst K aI).at (a.1)), .fz (aI.at p792.1), .fz (aI.at p792.2.1)]) ext_loop (ta_cons (tj_var (i := 2) rfl) (ta_cons (tj_op ot_mod (tj_cb cb_int (ta_cons (tj_var (i := 1) rfl) ta_nil)) (tj_var (i := 2) rfl)) ta_nil)) (fun _ => rfl)
 (fun p792 => (ts_nxle (.keep (.keep (.keep .nil)))))))
 (fun s769 => (ts_nxle (.keep (.keep (.drop .nil)))))))))
 (fun s797 => (ts_ret ext_P (tj_var (i := 1) rfl))))))

noncomputable def l_two_weights (one_ : Int) (other_ : Int) : Unit → Bk (Er × Unit) Empty Empty ((List Int) × Unit) := fun d =>
 (((((Res.ok ((1 : Int), d)).bd fun x51 d52 => ((Res.ok ((0 : Int), d52)).bd fun x47 d48 => (Res.ok ((), d48)).bd fun y49 d50 => Res.ok ((x47, y49), d50)).bd fun y53 d54 => Res.ok ((x51, y53), d54)).bd fun x55 d56 => Res.ok (([x55.1, x55.2.1] : List Int), d56)).bd fun x71 d72 => ((((Res.ok ((0 : Int), d72)).bd fun x61 d62 => ((Res.ok ((1 : Int), d62)).bd fun x57 d58 => (Res.ok ((), d58)).bd fun y59 d60 => Res.ok ((x57, y59), d60)).bd fun y63 d64 => Res.ok ((x61, y63), d64)).bd fun x65 d66 => Res.ok (([x65.1, x65.2.1] : List Int), d66)).bd fun x67 d68 => (Res.ok ((), d68)).bd fun y69 d70 => Res.ok ((x67, y69), d70)).bd fun y73 d74 => Res.ok ((x71, y73), d74)).bd fun x75 d76 => Res.ok ((x75.1, x75.2.1), d76)).bs (fun d => d) fun p77 d78 =>
 ((whB (κ := _) (fun (s79 : Int × Int × (List Int) × (List Int)) (d185 : Unit) => (Res.ok (s79.2.1, d185)).bd fun x81 d82 => (Res.ok ((0 : Int), d82)).bd fun y83 d84 => optAt (gNeI x81 y83) d84) (fun (s79 : Int × Int × (List Int) × (List Int)) (d186 : Unit) =>
 ((Res.ok (s79.1, d186)).bd fun x85 d86 => (Res.ok (s79.2.1, d86)).bd fun y87 d88 => optAt (gDivF x85 y87) d88).bs (fun d => d) fun many89 d90 =>
 ((Res.ok (s79.2.1, d90)).bd fun x103 d104 => (((Res.ok (s79.1, d104)).bd fun x95 d96 => ((Res.ok (many89, d96)).bd fun x91 d92 => (Res.ok (s79.2.1, d92)).bd fun y93 d94 => optAt (gMul x91 y93) d94).bd fun y97 d98 => optAt (gSbt x95 y97) d98).bd fun x99 d100 => (Res.ok ((), d100)).bd fun y101 d102 => Res.ok ((x99, y101), d102)).bd fun y105 d106 => Res.ok ((x103, y105), d106)).bs (fun d => d) fun p107 d108 =>
 ((Res.ok (s79.2.2.2, d108)).bd fun x149 d150 => ((((Res.ok (s79.2.2.1, d150)).bd fun x139 d140 => (((((Res.ok (many89, d140)).bd fun x113 d114 => ((Res.ok (s79.2.2.2, d114)).bd fun x109 d110 => (Res.ok ((0 : Int), d110)).bd fun y111 d112 => optAt (gIx x109 y111) d112).bd fun y115 d116 => optAt (gMul x113 y115) d116).bd fun x129 d130 => (((Res.ok (many89, d130)).bd fun x121 d122 => ((Res.ok (s79.2.2.2, d122)).bd fun x117 d118 => (Res.ok ((1 : Int), d118)).bd fun y119 d120 => optAt (gIx x117 y119) d120).bd fun y123 d124 => optAt (gMul x121 y123) d124).bd fun x125 d126 => (Res.ok ((), d126)).bd fun y127 d128 => Res.ok ((x125, y127), d128)).bd fun y131 d132 => Res.ok ((x129, y131), d132)).bd fun x133 d134 => Res.ok (([x133.1, x133.2.1] : List Int), d134)).bd fun x135 d136 => (Res.ok ((), d136)).bd fun y137 d138 => Res.ok ((x135, y137), d138)).bd fun y141 d142 => Res.ok ((x139, y141), d142)).bd fun x143 d144 => (f_less x143).at d144).bd fun x145 d146 => (Res.ok ((), d146)).bd fun y147 d148 => Res.ok ((x145, y147), d148)).bd fun y151 d152 => Res.ok ((x149, y151), d152)).bs (fun d => d) fun p153 d154 =>
 Bk.nx ((p107.1, p107.2.1, p153.1, p153.2.1), d154)) (Int.natAbs other_ + 1) (one_, other_, p77.1, p77.2) d78).mapU (fun d => d)).sq fun s80 d187 =>
 (((Res.ok (s80.1, d187)).bd fun x155 d156 => (Res.ok ((0 : Int), d156)).bd fun y157 d158 => optAt (gGe x155 y157) d158).bd fun x181 d182 => if x181 = true then Res.ok (s80.2.2.1, d182) else ((((Res.ok (s80.2.2.1, d182)).bd fun x159 d160 => (Res.ok ((0 : Int), d160)).bd fun y161 d162 => optAt (gIx x159 y161) d162).bd fun x163 d164 => optAt (gNeg x163) d164).bd fun x175 d176 => ((((Res.ok (s80.2.2.1, d176)).bd fun x165 d166 => (Res.ok ((1 : Int), d166)).bd fun y167 d168 => optAt (gIx x165 y167) d168).bd fun x169 d170 => optAt (gNeg x169) d170).bd fun x171 d172 => (Res.ok ((), d172)).bd fun y173 d174 => Res.ok ((x171, y173), d174)).bd fun y177 d178 => Res.ok ((x175, y177), d178)).bd fun x179 d180 => Res.ok (([x179.1, x179.2.1] : List Int), d180)).bs (fun d => d) fun r183 d184 => Bk.rt (r183, d184)
noncomputable def f_two_weights (a : Int × Int × Unit) : Res Er (List Int) := runP (l_two_weights a.1 a.2.1 ())
theorem ok_two_weights (T : Txt K mg A) : FnOk P w K mg base CX0 2 A.a_two_weights A.f_two_weights ["one", "other"] (spP (.cons aI (.cons aI .nil)) (aTup aI) f_two_weights) := by
  refine T.F_two_weights.ok sc_two_weights (fun vs H Q E h => ?_) (fun cdv A' outer s H vs Q E hr h => ⟨_, (pss_cons (ps_asg (pe_tup (pa_cons (pe_tup (pa_cons pe_int (pa_cons pe_int pa_nil))) (pa_cons (pe_tup (pa_cons pe_int (pa_cons pe_int pa_nil))) pa_nil))) (pg_tup rfl (pgs_cons (pg_name (i := 2) sc_two_weights.nd rfl (Or.inl rfl)) (pgs_cons (pg_name (i := 3) sc_two_weights.nd rfl (Or.inl rfl)) pgs_nil))))
 (pss_cons (ps_while PassesOwn.never (pt_cmpR op_ne (pv 1) pe_int (nomark _))
 (pss_cons (ps_set (i := 4) sc_two_weights.nd rfl (Or.inl rfl) (pe_op op_fdivX (pv 0) (pv 1)))
 (pss_cons (ps_par (i := 0) (j := 1) (by rfl) sc_two_weights.nd rfl rfl (by decide) rfl rfl (pa_cons (pv 1) (pa_cons (pe_op op_sub (pv 0) (pe_op op_mulA (pv 4) (pv 1))) pa_nil)) (by rfl))
 (pss_cons (ps_par (i := 2) (j := 3) (by rfl) sc_two_weights.nd rfl rfl (by decide) rfl rfl (pa_cons (pv 3) (pa_cons (pe_call (ok_less T) (hr.mono (by decide)) rfl T.g_less T.k_less T.b_less .nil pass0 (pa_cons (pv 2) (pa_cons (pe_tup (pa_cons (pe_op op_mulA (pv 4) (pe_ix (kix_tup rfl) (pv 3) pe_int (fun _ _ => rfl))) (pa_cons (pe_op op_mulA (pv 4) (pe_ix (kix_tup rfl) (pv 3) pe_int (fun _ _ => rfl))) pa_nil))) pa_nil))) pa_nil)) (by rfl))
 pss_nil))))
 (pss_one (ps_ret (pe_ifExp (pt_cmpR op_ge (pv 0) pe_int (nomark _)) (pv 2) (pe_tup (pa_cons (pe_un un_neg (pe_ix (kix_tup rfl) (pv 2) pe_int (fun _ _ => rfl))) (pa_cons (pe_un un_neg (pe_ix (kix_tup rfl) (pv 2) pe_int (fun _ _ => rfl))) pa_nil)))))))), ?_⟩)
  · obtain ⟨a, ha, _⟩ := h
    exact (al_len (cs := []) ha).trans rfl
  · refine run_P (K := K) (f := f_two_weights) (cs := [true, true]) (m := fun a => l_two_weights a.1 a.2.1) (clA A) (.yes aI.dat (.yes aI.dat .nil)) (fun _ => rfl) h fun S a => ?_
    show TSj _ [.fz (aI.at (a.1)), .fz (aI.at (a.2.1)), .no, .no, .no] .nil _ (l_two_weights a.1 a.2.1) _ _ _
    unfold l_two_weights
    exact (ts_asgG (c := true) (Γ' := fun p77 => [.fz (aI.at (a.1)), .fz (aI.at (a.2.1)), .fz ((aTup aI).at p77.1), .fz ((aTup aI).at p77.2), .no]) ext_P (tj_tup2 (ta_cons (tj_tup (R := aI) (.cons (.cons .nil)) (by intro a; show 2 ≤ sizeLine; decide) (ta_cons tj_int (ta_cons tj_int ta_nil))) (ta_cons (tj_tup (R := aI) (.cons (.cons .nil)) (by intro a; show 2 ≤ sizeLine; decide) (ta_cons tj_int (ta_cons tj_int ta_nil))) ta_nil))) (tg_t2 tg_name (fun _ => tg_name))
 (fun p77 => (ts_while (τ := Int × Int × (List Int) × (List Int)) (gl := fun (s79 : Int × Int × (List Int) × (List Int)) => [.fz (aI.at s79.1), .fz (aI.at s79.2.1), .fz ((aTup aI).at s79.2.2.1), .fz ((aTup aI).at s79.2.2.2), .no]) (s0 := ((a.1), (a.2.1), p77.1, p77.2)) (n := fun _ => Int.natAbs (a.2.1) + 1) ext_P (.keep (.keep (.keep (.keep (.keep .nil))))) (fun _ _ s79 => (tt_test (tj_op ot_ne (tj_var (i := 1) rfl) tj_int)))
 (fun _ _ s79 => (ts_asg (i := 4) (c := true) (Γ' := fun many89 => [.fz (aI.at s79.1), .fz (aI.at s79.2.1), .fz ((aTup aI).at s79.2.2.1), .fz ((aTup aI).at s79.2.2.2), .fz (aI.at many89)]) ext_loop (tj_op ot_divF (tj_var (i := 0) rfl) (tj_var (i := 1) rfl)) (fun _ => rfl)
 (fun many89 => (ts_par (c := true) (Γ' := fun p107 => [.fz (aI.at p107.1), .fz (aI.at p107.2.1), .fz ((aTup aI).at s79.2.2.1), .fz ((aTup aI).at s79.2.2.2), .fz (aI.at many89)]) ext_loop (ta_cons (tj_var (i := 1) rfl) (ta_cons (tj_op ot_sub (tj_var (i := 0) rfl) (tj_op ot_mul (tj_var (i := 4) rfl) (tj_var (i := 1) rfl))) ta_nil)) (fun _ => rfl)
 (fun p107 => (ts_par (c := true) (Γ' := fun p153 => [.fz (aI.at p107.1), .fz (aI.at p107.2.1), .fz ((aTup aI).at p153.1), .fz ((aTup aI).at p153.2.1), .fz (aI.at many89)]) ext_loop (ta_cons (tj_var (i := 3) rfl) (ta_cons (tj_call (c := true) rfl (ta_cons (tj_var (i := 2) rfl) (ta_cons (tj_tup (R := aI) (.cons (.cons .nil)) (by intro a; show 2 ≤ sizeLine; decide) (ta_cons (tj_op ot_mul (tj_var (i := 4) rfl) (tj_op ot_ixT (tj_var (i := 3) rfl) tj_int)) (ta_cons (tj_op ot_mul (tj_var (i := 4) rfl) (tj_op ot_ixT (tj_var (i := 3) rfl) tj_int)) ta_nil))) ta_nil))) ta_nil)) (fun _ => rfl)
 (fun p153 => (ts_nxle (.keep (.keep (.keep (.keep (.drop .nil)))))))))))))
 (fun s80 => (ts_ret ext_P (tj_if (tt_test (tj_op ot_ge (tj_var (i := 0) rfl) tj_int)) (tj_var (i := 2) rfl) (tj_tup (R := aI) (.cons (.cons .nil)) (by intro a; show 2 ≤ sizeLine; decide) (ta_cons (tj_un ut_neg (tj_op ot_ixT (tj_var (i := 2) rfl) tj_int)) (ta_cons (tj_un ut_neg (tj_op ot_ixT (tj_var (i := 2) rfl) tj_int)) ta_nil)))))))))

noncomputable def l_number_of (start_ : (List Int)) (step_ : (List Int)) : Unit → Bk (Er × Unit) Empty Empty (Int × Unit) := fun d =>
 ((((((((Res.ok (start_, d)).bd fun x390 d391 => (Res.ok ((), d391)).bd fun y392 d393 => Res.ok ((x390, y392), d393)).bd fun x394 d395 => optAt (gLen x394) d395).bd fun x396 d397 => (Res.ok ((), d397)).bd fun y398 d399 => Res.ok ((x396, y398), d399)).bd fun x400 d401 => optAt (gRng1 x400.1) d401).bd fun x439 d440 => lcD (fT2 (fun a402 (d438 : Unit) => Res.ok (true, d438)) (fun a402 (d438 : Unit) => ((Res.ok (a402, d438)).bd fun x403 d404 => (Res.ok ((), d404)).bd fun y405 d406 => Res.ok ((x403, y405), d406)).bd fun x407 d408 => optAt (gRng1 x407.1) d408) (fun a402 a409 (d438 : Unit) => Res.ok (true, d438)) (fun a402 a409 (d438 : Unit) => (((Res.ok (start_, d438)).bd fun x410 d411 => (Res.ok (a409, d411)).bd fun y412 d413 => optAt (gIx x410 y412) d413).bd fun x418 d419 => ((Res.ok (step_, d419)).bd fun x414 d415 => (Res.ok (a402, d415)).bd fun y416 d417 => optAt (gIx x414 y416) d417).bd fun y420 d421 => optAt (gMul x418 y420) d421).bd fun x434 d435 => (((Res.ok (start_, d435)).bd fun x422 d423 => (Res.ok (a402, d423)).bd fun y424 d425 => optAt (gIx x422 y424) d425).bd fun x430 d431 => ((Res.ok (step_, d431)).bd fun x426 d427 => (Res.ok (a409, d427)).bd fun y428 d429 => optAt (gIx x426 y428) d429).bd fun y432 d433 => optAt (gMul x430 y432) d433).bd fun y436 d437 => optAt (gSbt x434 y436) d437)) x439 d440).bd fun x441 d442 => (Res.ok ((), d442)).bd fun y443 d444 => Res.ok ((x441, y443), d444)).bd fun x445 d446 => (f_common_divisorL x445).at d446).bs (fun d => d) fun r447 d448 => Bk.rt (r447, d448)
noncomputable def f_number_of (a : (List Int) × (List Int) × Unit) : Res Er Int := runP (l_number_of a.1 a.2.1 ())
theorem ok_number_of (T : Txt K mg A) : FnOk P w K mg base CX0 2 A.a_number_of A.f_number_of ["start", "step"] (spP (.cons (aTup aI) (.cons (aTup aI) .nil)) aI f_number_of) := by
  refine T.F_number_of.ok sc_number_of (fun vs H Q E h => ?_) (fun cdv A' outer s H vs Q E hr h => ⟨_, (pss_one (ps_ret (pe_call (ok_common_divisorL T) (hr.mono (by decide)) rfl T.g_common_divisor T.k_common_divisor T.b_common_divisor .nil pass0 (pa_cons (pe_lc2 (own := [("j", 2), ("i", 3)]) (vs1 := [3]) (g := (gName 2)) (g1 := (gName 3)) rfl sc_number_of.nd (pi_range1 rfl T.n_range (pa_cons (pe_callB (klen rfl) (by rfl) T.n_len (by decide +kernel) (pa_cons (pv 0) pa_nil)) pa_nil)) (blkOk_by (own := [("j", 2), ("i", 3)]) (N := N_number_of) (sc := defScope s_number_of) (by decide +kernel)) (by decide) (fun _ _ _ _ _ => pg_name (i := 2) sc_number_of.nd rfl (Or.inl rfl)) (fun _ _ _ _ _ => pts_nil) (fun _ _ _ _ _ => (pi_range1 rfl T.n_range (pa_cons (pv 2) pa_nil))) (fun _ _ _ _ _ => pg_name (i := 3) sc_number_of.nd rfl (Or.inl rfl)) (fun _ _ _ _ _ => pts_nil) (fun _ _ _ _ _ => (pe_op op_sub (pe_op op_mulA (pe_ix (kix_tup rfl) (pv 0) (pv 3) (fun _ _ => rfl)) (pe_ix (kix_tup rfl) (pv 1) (pv 2) (fun _ _ => rfl))) (pe_op op_mulA (pe_ix (kix_tup rfl) (pv 0) (pv 2) (fun _ _ => rfl)) (pe_ix (kix_tup rfl) (pv 1) (pv 3) (fun _ _ => rfl)))))) pa_nil)))), ?_⟩)
  · obtain ⟨a, ha, _⟩ := h
    exact (al_len (cs := []) ha).trans rfl
  · refine run_P (K := K) (f := f_number_of) (cs := [true, true]) (m := fun a => l_number_of a.1 a.2.1) (clA A) (.yes (aTup.dat aI.dat) (.yes (aTup.dat aI.dat) .nil)) (fun _ => rfl) h fun S a => ?_
    show TSj _ [.fz ((aTup aI).at (a.1)), .fz ((aTup aI).at (a.2.1)), .no, .no] .nil _ (l_number_of a.1 a.2.1) _ _ _
    unfold l_number_of
    exact (ts_ret ext_P (tj_call (c := true) rfl (ta_cons (TNj.te (tn_lc2 (c2 := true) (vs := [2, 3]) (vs1 := [3]) (Γw := [.fz ((aTup aI).at (a.1)), .fz ((aTup aI).at (a.2.1)), .no, .no]) (Γb := fun a402 => [.fz ((aTup aI).at (a.1)), .fz ((aTup aI).at (a.2.1)), .fz (aI.at a402), .no]) (Γw1 := fun a402 => [.fz ((aTup aI).at (a.1)), .fz ((aTup aI).at (a.2.1)), .fz (aI.at a402), .no]) (Γb1 := fun a402 a409 => [.fz ((aTup aI).at (a.1)), .fz ((aTup aI).at (a.2.1)), .fz (aI.at a402), .fz (aI.at a409)]) rfl (.inl rfl) (.inl rfl) rfl (ti_rng1 (ta_cons (tj_cb cb_lenT (ta_cons (tj_var (i := 0) rfl) ta_nil)) ta_nil)) (fun _ => tg_name) (by decide) (fun _ a402 => tt_yes) (fun _ a402 => (ti_rng1 (ta_cons (tj_var (i := 2) rfl) ta_nil))) (fun _ => rfl) (fun _ a402 => tg_name) (by decide) (fun _ a402 a409 => tt_yes) (fun _ a402 a409 => (tj_op ot_sub (tj_op ot_mul (tj_op ot_ixT (tj_var (i := 0) rfl) (tj_var (i := 3) rfl)) (tj_op ot_ixT (tj_var (i := 1) rfl) (tj_var (i := 2) rfl))) (tj_op ot_mul (tj_op ot_ixT (tj_var (i := 0) rfl) (tj_var (i := 2) rfl)) (tj_op ot_ixT (tj_var (i := 1) rfl) (tj_var (i := 3) rfl))))))) ta_nil)))

noncomputable def l_law_far  : List Int × Unit → Bk (Er × List Int × Unit) Empty Empty (Int × List Int × Unit) := fun d =>
 ((((Res.ok ((21 : Int), d)).bd fun x824 d825 => ((Res.ok ((21 : Int), d825)).bd fun x820 d821 => (((Res.ok ((10 : Int), d821)).bd fun x804 d805 => (Res.ok ((12 : Int), d805)).bd fun y806 d807 => optAt (gPow x804 y806) d807).bd fun x816 d817 => (((Res.ok ((10 : Int), d817)).bd fun x808 d809 => (Res.ok ((38 : Int), d809)).bd fun y810 d811 => optAt (gPow x808 y810) d811).bd fun x812 d813 => (Res.ok ((), d813)).bd fun y814 d815 => Res.ok ((x812, y814), d815)).bd fun y818 d819 => Res.ok ((x816, y818), d819)).bd fun y822 d823 => Res.ok ((x820, y822), d823)).bd fun y826 d827 => Res.ok ((x824, y826), d827)).bd fun x828 d829 => Res.ok (([x828.1, x828.2.1, x828.2.2.1, x828.2.2.2.1] : List Int), d829)).bd fun x836 d837 => (((Res.ok ((4 : Int), d837)).bd fun x830 d831 => (Res.ok ((), d831)).bd fun y832 d833 => Res.ok ((x830, y832), d833)).bd fun x834 d835 => (f_law_take x834 d835.1).on (fun b d => (b, d.2)) d835).bd fun y838 d839 => optAt (gIx x836 y838) d839).bs (fun d => d) fun most840 d841 =>
 ((((((Res.ok ((2 : Int), d841)).bd fun x842 d843 => (Res.ok (most840, d843)).bd fun y844 d845 => optAt (gMul x842 y844) d845).bd fun x846 d847 => (Res.ok ((1 : Int), d847)).bd fun y848 d849 => optAt (gAdd x846 y848) d849).bd fun x850 d851 => (Res.ok ((), d851)).bd fun y852 d853 => Res.ok ((x850, y852), d853)).bd fun x854 d855 => (f_law_take x854 d855.1).on (fun b d => (b, d.2)) d855).bd fun x856 d857 => (Res.ok (most840, d857)).bd fun y858 d859 => optAt (gSbt x856 y858) d859).bs (fun d => d) fun r860 d861 => Bk.rt (r860, d861)
noncomputable def f_law_far (a : Unit) (w : List Int) : Res (Er × List Int) (Int × List Int) := runW (l_law_far  (w, ()))
theorem ok_law_far (T : Txt K mg A) : FnOk P w K mg base CX0 2 A.a_law_far A.f_law_far ["_law_pool_here"] (spW .nil aI f_law_far) := by
  refine T.F_law_far.ok sc_law_far (fun vs H Q E h => ?_) (fun cdv A' outer s H vs Q E hr h => ⟨_, (pss_cons (ps_set (i := 1) sc_law_far.nd rfl (Or.inl rfl) (pe_ix (kix_list rfl) (pe_lst (pa_cons pe_int (pa_cons pe_int (pa_cons (pe_op op_pow pe_int pe_int) (pa_cons (pe_op op_pow pe_int pe_int) pa_nil))))) (pe_call (ok_law_take T) (hr.mono (by decide)) rfl T.g_law_take T.k_law_take T.b_law_take .nil pass0 (pa_cons (pv 0) (pa_cons pe_int pa_nil))) (fun _ _ => rfl)))
 (pss_one (ps_ret (pe_op op_sub (pe_call (ok_law_take T) (hr.mono (by decide)) rfl T.g_law_take T.k_law_take T.b_law_take .nil pass0 (pa_cons (pv 0) (pa_cons (pe_op op_add (pe_op op_mulA pe_int (pv 1)) pe_int) pa_nil))) (pv 1))))), ?_⟩)
  · obtain ⟨p, us, a, w, rfl, _, ha, _⟩ := h
    exact congrArg (· + 1) ((al_len (cs := []) ha).trans rfl)
  · refine run_W (K := K) (f := f_law_far) (cs := []) (m := fun a => l_law_far ) (clA A) .nil (fun _ _ => rfl) h fun p S a => ?_
    show TSj _ [.ow 0, .no] dW _ (l_law_far ) _ _ _
    unfold l_law_far
    exact (ts_asg (i := 1) (c := true) (Γ' := fun most840 => [.ow 0, .fz (aI.at most840)]) ext_W (tj_op ot_ixL (TNj.te (tn_lst (R := aI) (.cons (.cons (.cons (.cons .nil)))) (by intro a; show 4 ≤ sizeLine; decide) (ta_cons tj_int (ta_cons tj_int (ta_cons (tj_op ot_pow tj_int tj_int) (ta_cons (tj_op ot_pow tj_int tj_int) ta_nil)))))) (tj_callW (c := true) (i := 0) (j := 0) rfl rfl Ix.z (ta_cons tj_int ta_nil))) (fun _ => rfl)
 (fun most840 => (ts_ret ext_W (tj_op ot_sub (tj_callW (c := true) (i := 0) (j := 0) rfl rfl Ix.z (ta_cons (tj_op ot_add (tj_op ot_mul tj_int (tj_var (i := 1) rfl)) tj_int) ta_nil)) (tj_var (i := 1) rfl)))))

noncomputable def l_law_number  : List Int × Unit → Bk (Er × List Int × Unit) Empty Empty (Int × List Int × Unit) := fun d =>
 (((Res.ok ((4 : Int), d)).bd fun x862 d863 => (Res.ok ((), d863)).bd fun y864 d865 => Res.ok ((x862, y864), d865)).bd fun x866 d867 => (f_law_take x866 d867.1).on (fun b d => (b, d.2)) d867).bs (fun d => d) fun way868 d869 =>
 ((Res.ok (way868, d869)).bd fun x870 d871 => (Res.ok ((3 : Int), d871)).bd fun y872 d873 => optAt (gLt x870 y872) d873).bs (fun d => d) fun b965 d966 => ((if b965 = true then ((((((Res.ok ((31 : Int), d966)).bd fun x884 d885 => ((Res.ok ((2311 : Int), d885)).bd fun x880 d881 => ((Res.ok ((30031 : Int), d881)).bd fun x876 d877 => (Res.ok ((), d877)).bd fun y878 d879 => Res.ok ((x876, y878), d879)).bd fun y882 d883 => Res.ok ((x880, y882), d883)).bd fun y886 d887 => Res.ok ((x884, y886), d887)).bd fun x888 d889 => Res.ok (([x888.1, x888.2.1, x888.2.2.1] : List Int), d889)).bd fun x890 d891 => (Res.ok (way868, d891)).bd fun y892 d893 => optAt (gIx x890 y892) d893).bd fun x894 d895 => (Res.ok ((), d895)).bd fun y896 d897 => Res.ok ((x894, y896), d897)).bd fun x898 d899 => (f_law_take x898 d899.1).on (fun b d => (b, d.2)) d899).bs (fun d => d) fun r900 d901 => Bk.rt (r900, d901) else Bk.nx ((), d966) : Bk _ ((Unit) × (List Int × Unit)) _ _)).sq fun j874 d875 =>
 (Res.ok ((1 : Int), d875)).bs (fun d => d) fun number_here902 d903 =>
 (((Res.ok ((2 : Int), d903)).bd fun x924 d925 => ((Res.ok ((3 : Int), d925)).bd fun x920 d921 => ((Res.ok ((5 : Int), d921)).bd fun x916 d917 => ((Res.ok ((7 : Int), d917)).bd fun x912 d913 => ((Res.ok ((11 : Int), d913)).bd fun x908 d909 => ((Res.ok ((13 : Int), d909)).bd fun x904 d905 => (Res.ok ((), d905)).bd fun y906 d907 => Res.ok ((x904, y906), d907)).bd fun y910 d911 => Res.ok ((x908, y910), d911)).bd fun y914 d915 => Res.ok ((x912, y914), d915)).bd fun y918 d919 => Res.ok ((x916, y918), d919)).bd fun y922 d923 => Res.ok ((x920, y922), d923)).bd fun y926 d927 => Res.ok ((x924, y926), d927)).bd fun x928 d929 => Res.ok (([x928.1, x928.2.1, x928.2.2.1, x928.2.2.2.1, x928.2.2.2.2.1, x928.2.2.2.2.2.1] : List Int), d929)).bs (fun d => d) fun x961 d959 => ((forB (κ := _) (fun a930 (s931 : Int) (d960 : List Int × Unit) =>
 ((((Res.ok ((2 : Int), d960)).bd fun x932 d933 => (Res.ok ((), d933)).bd fun y934 d935 => Res.ok ((x932, y934), d935)).bd fun x936 d937 => (f_law_take x936 d937.1).on (fun b d => (b, d.2)) d937).bd fun x938 d939 => (Res.ok ((1 : Int), d939)).bd fun y940 d941 => optAt (gEqI x938 y940) d941).bs (fun d => d) fun b956 d957 => ((if b956 = true then ((Res.ok (s931, d957)).bd fun x950 d951 => (Res.ok (a930, d951)).bd fun y952 d953 => optAt (gMul x950 y952) d953).bs (fun d => d) fun number_here954 d955 =>
 Bk.nx (number_here954, d955) else Bk.nx (s931, d957) : Bk _ ((Int) × (List Int × Unit)) _ _)).sq fun j948 d949 =>
 Bk.nx (j948, d949)) x961 number_here902 d959).mapU (fun d => d)).sq fun s958 d964 =>
 (Res.ok (s958, d964)).bs (fun d => d) fun r962 d963 => Bk.rt (r962, d963)
noncomputable def f_law_number (a : Unit) (w : List Int) : Res (Er × List Int) (Int × List Int) := runW (l_law_number  (w, ()))
theorem ok_law_number (T : Txt K mg A) : FnOk P w K mg base CX0 2 A.a_law_number A.f_law_number ["_law_pool_here"] (spW .nil aI f_law_number) := by
  refine T.F_law_number.ok sc_law_number (fun vs H Q E h => ?_) (fun cdv A' outer s H vs Q E hr h => ⟨_, (pss_cons (ps_set (i := 1) sc_law_number.nd rfl (Or.inl rfl) (pe_call (ok_law_take T) (hr.mono (by decide)) rfl T.g_law_take T.k_law_take T.b_law_take .nil pass0 (pa_cons (pv 0) (pa_cons pe_int pa_nil))))
 (pss_cons (ps_if (pt_cmpR op_lt (pv 1) pe_int (nomark _))
 (pss_one (ps_ret (pe_call (ok_law_take T) (hr.mono (by decide)) rfl T.g_law_take T.k_law_take T.b_law_take .nil pass0 (pa_cons (pv 0) (pa_cons (pe_ix (kix_list rfl) (pe_lst (pa_cons pe_int (pa_cons pe_int (pa_cons pe_int pa_nil)))) (pv 1) (fun _ _ => rfl)) pa_nil)))))
 pss_nil)
 (pss_cons (ps_set (i := 2) sc_law_number.nd rfl (Or.inl rfl) pe_int)
 (pss_cons (ps_for PassesOwn.never rfl (kpi_list rfl (pe_lst (pa_cons pe_int (pa_cons pe_int (pa_cons pe_int (pa_cons pe_int (pa_cons pe_int (pa_cons pe_int pa_nil)))))))) (pg_name (i := 3) sc_law_number.nd rfl (Or.inl rfl))
 (Evl.pss_cut (ps_if (pt_cmpR op_eq (pe_call (ok_law_take T) (hr.mono (by decide)) rfl T.g_law_take T.k_law_take T.b_law_take .nil pass0 (pa_cons (pv 0) (pa_cons pe_int pa_nil))) pe_int (nomark _))
 (pss_cons (ps_set (i := 2) sc_law_number.nd rfl (Or.inl rfl) (pe_op op_mulA (pv 2) (pv 3)))
 pss_nil)
 pss_nil)
 pss_nil))
 (pss_one (ps_ret (pv 2))))))), ?_⟩)
  · obtain ⟨p, us, a, w, rfl, _, ha, _⟩ := h
    exact congrArg (· + 1) ((al_len (cs := []) ha).trans rfl)
  · refine run_W (K := K) (f := f_law_number) (cs := []) (m := fun a => l_law_number ) (clA A) .nil (fun _ _ => rfl) h fun p S a => ?_
    show TSj _ [.ow 0, .no, .no, .no] dW _ (l_law_number ) _ _ _
    unfold l_law_number
    exact (ts_asg (i := 1) (c := true) (Γ' := fun way868 => [.ow 0, .fz (aI.at way868), .no, .no]) ext_W (tj_callW (c := true) (i := 0) (j := 0) rfl rfl Ix.z (ta_cons tj_int ta_nil)) (fun _ => rfl)
 (fun way868 => (ts_if (τ := Unit) (Δ' := (.cons (oLst aI) .nil)) (g := fun (j874 : Unit) => [.ow 0, .fz (aI.at way868), .no, .no]) ext_W (tt_test (tj_op ot_lt (tj_var (i := 1) rfl) tj_int))
 (ts_ret ext_W (tj_callW (c := true) (i := 0) (j := 0) rfl rfl Ix.z (ta_cons (tj_op ot_ixL (TNj.te (tn_lst (R := aI) (.cons (.cons (.cons .nil))) (by intro a; show 3 ≤ sizeLine; decide) (ta_cons tj_int (ta_cons tj_int (ta_cons tj_int ta_nil))))) (tj_var (i := 1) rfl)) ta_nil)))
 (ts_nxle (.keep (.keep (.keep (.keep .nil)))))
 (fun j874 => (ts_asg (i := 2) (c := true) (Γ' := fun number_here902 => [.ow 0, .fz (aI.at way868), .fz (aI.at number_here902), .no]) ext_W tj_int (fun _ => rfl)
 (fun number_here902 => (ts_for (c2 := true) (τ := Int) (gl := fun (s931 : Int) => [.ow 0, .fz (aI.at way868), .fz (aI.at s931), .no]) (s0 := number_here902) (Γb := fun (s931 : Int) a930 => [.ow 0, .fz (aI.at way868), .fz (aI.at s931), .fz (aI.at a930)]) ext_W (.inl rfl) (ti_list (TNj.te (tn_lst (R := aI) (.cons (.cons (.cons (.cons (.cons (.cons .nil)))))) (by intro a; show 6 ≤ sizeLine; decide) (ta_cons tj_int (ta_cons tj_int (ta_cons tj_int (ta_cons tj_int (ta_cons tj_int (ta_cons tj_int ta_nil))))))))) (.keep (.keep (.keep (.keep .nil)))) (fun _ _ _ => tg_name)
 (fun _ _ s931 a930 => (ts_cutIf (τ := Int) (Δ' := (.cons (oLst aI) .nil)) (g := fun (j948 : Int) => [.ow 0, .fz (aI.at way868), .fz (aI.at j948), .fz (aI.at a930)]) ext_loop (tt_test (tj_op ot_eq (tj_callW (c := true) (i := 0) (j := 0) rfl rfl Ix.z (ta_cons tj_int ta_nil)) tj_int))
 (ts_asg (i := 2) (c := true) (Γ' := fun number_here954 => [.ow 0, .fz (aI.at way868), .fz (aI.at number_here954), .fz (aI.at a930)]) ext_loop (tj_op ot_mul (tj_var (i := 2) rfl) (tj_var (i := 3) rfl)) (fun _ => rfl)
 (fun number_here954 => (ts_nxle (.keep (.keep (.keep (.keep .nil)))))))
 (ts_nxle (.keep (.keep (.keep (.keep .nil)))))
 (fun j948 => (ts_nxle (.keep (.keep (.keep (.drop .nil))))))))
 (fun s958 => (ts_ret ext_W (tj_var (i := 2) rfl))))))))))

noncomputable def l_law_spot  : List Int × Unit → Bk (Er × List Int × Unit) Empty Empty (Int × List Int × Unit) := fun d =>
 ((((Res.ok ((31 : Int), d)).bd fun x1498 d1499 => ((Res.ok ((40000 : Int), d1499)).bd fun x1494 d1495 => (((Res.ok ((10 : Int), d1495)).bd fun x1486 d1487 => (Res.ok ((39 : Int), d1487)).bd fun y1488 d1489 => optAt (gPow x1486 y1488) d1489).bd fun x1490 d1491 => (Res.ok ((), d1491)).bd fun y1492 d1493 => Res.ok ((x1490, y1492), d1493)).bd fun y1496 d1497 => Res.ok ((x1494, y1496), d1497)).bd fun y1500 d1501 => Res.ok ((x1498, y1500), d1501)).bd fun x1502 d1503 => Res.ok (([x1502.1, x1502.2.1, x1502.2.2.1] : List Int), d1503)).bd fun x1510 d1511 => (((Res.ok ((3 : Int), d1511)).bd fun x1504 d1505 => (Res.ok ((), d1505)).bd fun y1506 d1507 => Res.ok ((x1504, y1506), d1507)).bd fun x1508 d1509 => (f_law_take x1508 d1509.1).on (fun b d => (b, d.2)) d1509).bd fun y1512 d1513 => optAt (gIx x1510 y1512) d1513).bs (fun d => d) fun most1514 d1515 =>
 ((((((Res.ok ((2 : Int), d1515)).bd fun x1516 d1517 => (Res.ok (most1514, d1517)).bd fun y1518 d1519 => optAt (gMul x1516 y1518) d1519).bd fun x1520 d1521 => (Res.ok ((1 : Int), d1521)).bd fun y1522 d1523 => optAt (gAdd x1520 y1522) d1523).bd fun x1524 d1525 => (Res.ok ((), d1525)).bd fun y1526 d1527 => Res.ok ((x1524, y1526), d1527)).bd fun x1528 d1529 => (f_law_take x1528 d1529.1).on (fun b d => (b, d.2)) d1529).bd fun x1530 d1531 => (Res.ok (most1514, d1531)).bd fun y1532 d1533 => optAt (gSbt x1530 y1532) d1533).bs (fun d => d) fun r1534 d1535 => Bk.rt (r1534, d1535)
noncomputable def f_law_spot (a : Unit) (w : List Int) : Res (Er × List Int) (Int × List Int) := runW (l_law_spot  (w, ()))
theorem ok_law_spot (T : Txt K mg A) : FnOk P w K mg base CX0 2 A.a_law_spot A.f_law_spot ["_law_pool_here"] (spW .nil aI f_law_spot) := by
  refine T.F_law_spot.ok sc_law_spot (fun vs H Q E h => ?_) (fun cdv A' outer s H vs Q E hr h => ⟨_, (pss_cons (ps_set (i := 1) sc_law_spot.nd rfl (Or.inl rfl) (pe_ix (kix_list rfl) (pe_lst (pa_cons pe_int (pa_cons pe_int (pa_cons (pe_op op_pow pe_int pe_int) pa_nil)))) (pe_call (ok_law_take T) (hr.mono (by decide)) rfl T.g_law_take T.k_law_take T.b_law_take .nil pass0 (pa_cons (pv 0) (pa_cons pe_int pa_nil))) (fun _ _ => rfl)))
 (pss_one (ps_ret (pe_op op_sub (pe_call (ok_law_take T) (hr.mono (by decide)) rfl T.g_law_take T.k_law_take T.b_law_take .nil pass0 (pa_cons (pv 0) (pa_cons (pe_op op_add (pe_op op_mulA pe_int (pv 1)) pe_int) pa_nil))) (pv 1))))), ?_⟩)
  · obtain ⟨p, us, a, w, rfl, _, ha, _⟩ := h
    exact congrArg (· + 1) ((al_len (cs := []) ha).trans rfl)
  · refine run_W (K := K) (f := f_law_spot) (cs := []) (m := fun a => l_law_spot ) (clA A) .nil (fun _ _ => rfl) h fun p S a => ?_
    show TSj _ [.ow 0, .no] dW _ (l_law_spot ) _ _ _
    unfold l_law_spot
    exact (ts_asg (i := 1) (c := true) (Γ' := fun most1514 => [.ow 0, .fz (aI.at most1514)]) ext_W (tj_op ot_ixL (TNj.te (tn_lst (R := aI) (.cons (.cons (.cons .nil))) (by intro a; show 3 ≤ sizeLine; decide) (ta_cons tj_int (ta_cons tj_int (ta_cons (tj_op ot_pow tj_int tj_int) ta_nil))))) (tj_callW (c := true) (i := 0) (j := 0) rfl rfl Ix.z (ta_cons tj_int ta_nil))) (fun _ => rfl)
 (fun most1514 => (ts_ret ext_W (tj_op ot_sub (tj_callW (c := true) (i := 0) (j := 0) rfl rfl Ix.z (ta_cons (tj_op ot_add (tj_op ot_mul tj_int (tj_var (i := 1) rfl)) tj_int) ta_nil)) (tj_var (i := 1) rfl)))))

noncomputable def l_weights_of (place_ : (List Int)) : Unit → Bk (Er × Unit) Empty Empty ((List Int) × Unit) := fun d =>
 (((Res.ok ((0 : Int), d)).bd fun x194 d195 => (((Res.ok ((), d195)).bd fun x188 d189 => Res.ok (([] : List Int), d189)).bd fun x190 d191 => (Res.ok ((), d191)).bd fun y192 d193 => Res.ok ((x190, y192), d193)).bd fun y196 d197 => Res.ok ((x194, y196), d197)).bd fun x198 d199 => Res.ok ((x198.1, x198.2.1), d199)).bs (fun d => d) fun p200 d201 =>
 (Res.ok (place_, d201)).bs (fun d => d) fun x259 d257 => ((forB (κ := _) (fun a202 (s203 : (List Int) × Int) (d258 : Unit) =>
 ((((Res.ok (s203.2, d258)).bd fun x208 d209 => ((Res.ok (a202, d209)).bd fun x204 d205 => (Res.ok ((), d205)).bd fun y206 d207 => Res.ok ((x204, y206), d207)).bd fun y210 d211 => Res.ok ((x208, y210), d211)).bd fun x212 d213 => (f_two_weights x212).at d213).bd fun x214 d215 => optAt (cvt2 x214) d215).bs (fun d => d) fun p216 d217 =>
 (((((Res.ok (s203.1, d217)).bd fun x224 d225 => lcA (fT (fun a218 (d223 : Unit) => Res.ok (true, d223)) (fun a218 (d223 : Unit) => (Res.ok (p216.1, d223)).bd fun x219 d220 => (Res.ok (a218, d220)).bd fun y221 d222 => optAt (gMul x219 y221) d222)) x224 d225).bd fun x226 d227 => (Res.ok ((), d227)).bd fun y228 d229 => Res.ok ((x226, y228), d229)).bd fun x230 d231 => optAt (gId x230) d231).bd fun x238 d239 => (((Res.ok (p216.2, d239)).bd fun x232 d233 => (Res.ok ((), d233)).bd fun y234 d235 => Res.ok ((x232, y234), d235)).bd fun x236 d237 => Res.ok (([x236.1] : List Int), d237)).bd fun y240 d241 => optAt (gCat x238 y240) d241).bs (fun d => d) fun found242 d243 =>
 (((Res.ok (s203.2, d243)).bd fun x248 d249 => ((Res.ok (a202, d249)).bd fun x244 d245 => (Res.ok ((), d245)).bd fun y246 d247 => Res.ok ((x244, y246), d247)).bd fun y250 d251 => Res.ok ((x248, y250), d251)).bd fun x252 d253 => optAt (gGcd x252) d253).bs (fun d => d) fun divisor254 d255 =>
 Bk.nx ((found242, divisor254), d255)) x259 (p200.2, p200.1) d257).mapU (fun d => d)).sq fun s256 d262 =>
 (Res.ok (s256.1, d262)).bs (fun d => d) fun r260 d261 => Bk.rt (r260, d261)
noncomputable def f_weights_of (a : (List Int) × Unit) : Res Er (List Int) := runP (l_weights_of a.1 ())
theorem ok_weights_of (T : Txt K mg A) : FnOk P w K mg base CX0 3 A.a_weights_of A.f_weights_of ["place"] (spP (.cons (aTup aI) .nil) (aTup aI) f_weights_of) := by
  refine T.F_weights_of.ok sc_weights_of (fun vs H Q E h => ?_) (fun cdv A' outer s H vs Q E hr h => ⟨_, (pss_cons (ps_asg (pe_tup (pa_cons pe_int (pa_cons (pe_tup pa_nil) pa_nil))) (pg_tup rfl (pgs_cons (pg_name (i := 1) sc_weights_of.nd rfl (Or.inl rfl)) (pgs_cons (pg_name (i := 2) sc_weights_of.nd rfl (Or.inl rfl)) pgs_nil))))
 (pss_cons (ps_for PassesOwn.never rfl (kpi_tup rfl (pv 0)) (pg_name (i := 3) sc_weights_of.nd rfl (Or.inl rfl))
 (pss_cons (ps_asg (pe_call (ok_two_weights T) (hr.mono (by decide)) rfl T.g_two_weights T.k_two_weights T.b_two_weights .nil pass0 (pa_cons (pv 1) (pa_cons (pv 3) pa_nil))) (pg_tup rfl (pgs_cons (pg_name (i := 4) sc_weights_of.nd rfl (Or.inr rfl)) (pgs_cons (pg_name (i := 5) sc_weights_of.nd rfl (Or.inl rfl)) pgs_nil))))
 (pss_cons (ps_set (i := 2) sc_weights_of.nd rfl (Or.inl rfl) (pe_op (kcatA rfl) (pe_callTy (ktuple rfl) (by rfl) T.n_tuple (by decide +kernel) (pa_cons (pe_lc (own := [("weight", 6)]) (g := (gName 6)) rfl sc_weights_of.nd (kpi_tup rfl (pv 2)) (blkOk_by (own := [("weight", 6)]) (N := N_weights_of) (sc := defScope s_weights_of) (by decide +kernel)) (fun _ _ _ _ _ => pg_name (i := 6) sc_weights_of.nd rfl (Or.inl rfl)) (fun _ _ _ _ _ => pts_nil) (fun _ _ _ _ _ => (pe_op op_mulA (pv 4) (pv 6)))) pa_nil)) (pe_tup (pa_cons (pv 5) pa_nil))))
 (pss_cons (ps_set (i := 1) sc_weights_of.nd rfl (Or.inl rfl) (pe_callBfun cr_gcd rfl T.m_gcd (pa_cons (pv 1) (pa_cons (pv 3) pa_nil))))
 pss_nil))))
 (pss_one (ps_ret (pv 2))))), ?_⟩)
  · obtain ⟨a, ha, _⟩ := h
    exact (al_len (cs := []) ha).trans rfl
  · refine run_P (K := K) (f := f_weights_of) (cs := [true]) (m := fun a => l_weights_of a.1) (clA A) (.yes (aTup.dat aI.dat) .nil) (fun _ => rfl) h fun S a => ?_
    show TSj _ [.fz ((aTup aI).at (a.1)), .no, .no, .no, .no, .no, .no] .nil _ (l_weights_of a.1) _ _ _
    unfold l_weights_of
    exact (ts_asgG (c := true) (Γ' := fun p200 => [.fz ((aTup aI).at (a.1)), .fz (aI.at p200.1), .fz ((aTup aI).at p200.2), .no, .no, .no, .no]) ext_P (tj_tup2 (ta_cons tj_int (ta_cons (tj_tup (R := aI) .nil (by intro a; show 0 ≤ sizeLine; decide) ta_nil) ta_nil))) (tg_t2 tg_name (fun _ => tg_name))
 (fun p200 => (ts_for (c2 := true) (τ := (List Int) × Int) (gl := fun (s203 : (List Int) × Int) => [.fz ((aTup aI).at (a.1)), .fz (aI.at s203.2), .fz ((aTup aI).at s203.1), .no, .no, .no, .no]) (s0 := (p200.2, p200.1)) (Γb := fun (s203 : (List Int) × Int) a202 => [.fz ((aTup aI).at (a.1)), .fz (aI.at s203.2), .fz ((aTup aI).at s203.1), .fz (aI.at a202), .no, .no, .no]) ext_P (.inl rfl) (ti_tup (tj_var (i := 0) rfl)) (.keep (.keep (.keep (.keep (.keep (.keep (.keep .nil))))))) (fun _ _ _ => tg_name)
 (fun _ _ s203 a202 => (ts_asgG (c := true) (Γ' := fun p216 => [.fz ((aTup aI).at (a.1)), .fz (aI.at s203.2), .fz ((aTup aI).at s203.1), .fz (aI.at a202), .fz (aI.at p216.1), .fz (aI.at p216.2), .no]) ext_loop (tj_vw vw_t2 (tj_call (c := true) rfl (ta_cons (tj_var (i := 1) rfl) (ta_cons (tj_var (i := 3) rfl) ta_nil)))) (tg_t2 tg_name (fun _ => tg_name))
 (fun p216 => (ts_asg (i := 2) (c := true) (Γ' := fun found242 => [.fz ((aTup aI).at (a.1)), .fz (aI.at s203.2), .fz ((aTup aI).at found242), .fz (aI.at a202), .fz (aI.at p216.1), .fz (aI.at p216.2), .no]) ext_loop (tj_op ot_catT (tj_cb cb_tuple (ta_cons (TNj.te (tn_lc (c2 := true) (vs := [6]) (Γw := [.fz ((aTup aI).at (a.1)), .fz (aI.at s203.2), .fz ((aTup aI).at s203.1), .fz (aI.at a202), .fz (aI.at p216.1), .fz (aI.at p216.2), .no]) (Γb := fun a218 => [.fz ((aTup aI).at (a.1)), .fz (aI.at s203.2), .fz ((aTup aI).at s203.1), .fz (aI.at a202), .fz (aI.at p216.1), .fz (aI.at p216.2), .fz (aI.at a218)]) rfl (.inl rfl) rfl (ti_tup (tj_var (i := 2) rfl)) (fun _ => tg_name) (by decide) (fun _ a218 => tt_yes) (fun _ a218 => (tj_op ot_mul (tj_var (i := 4) rfl) (tj_var (i := 6) rfl))))) ta_nil)) (tj_tup (R := aI) (.cons .nil) (by intro a; show 1 ≤ sizeLine; decide) (ta_cons (tj_var (i := 5) rfl) ta_nil))) (fun _ => rfl)
 (fun found242 => (ts_asg (i := 1) (c := true) (Γ' := fun divisor254 => [.fz ((aTup aI).at (a.1)), .fz (aI.at divisor254), .fz ((aTup aI).at found242), .fz (aI.at a202), .fz (aI.at p216.1), .fz (aI.at p216.2), .no]) ext_loop (tj_cb cb_gcd (ta_cons (tj_var (i := 1) rfl) (ta_cons (tj_var (i := 3) rfl) ta_nil))) (fun _ => rfl)
 (fun divisor254 => (ts_nxle (.keep (.keep (.keep (.drop (.drop (.drop (.keep .nil)))))))))))))))
 (fun s256 => (ts_ret ext_P (tj_var (i := 2) rfl))))))

noncomputable def l_check_place (place_ : (List Int)) (size_ : Int) : Unit → Bk (Er × Unit) Unit Empty (Unit × Unit) := fun d =>
 ((((Res.ok (place_, d)).bd fun x289 d290 => (Res.ok ((), d290)).bd fun y291 d292 => Res.ok ((x289, y291), d292)).bd fun x293 d294 => optAt (gLen x293) d294).bd fun x295 d296 => (Res.ok (size_, d296)).bd fun y297 d298 => optAt (gNeI x295 y297) d298).bs (fun d => d) fun b307 d308 => ((if b307 = true then ((Res.ok (place_, d308)).bd fun x301 d302 => (Res.ok ((), d302)).bd fun y303 d304 => Res.ok ((x301, y303), d304)).bs (fun d => d) fun x305 d306 => Bk.ex (⟨XC.InvalidPlace, ErV.tup x305.1⟩, d306) else Bk.nx ((), d308) : Bk _ ((Unit) × (Unit)) _ _)).sq fun j299 d300 =>
 Bk.nx ()
noncomputable def f_check_place (a : (List Int) × Int × Unit) : Res Er Unit := runP0 (l_check_place a.1 a.2.1 ())
theorem ok_check_place (T : Txt K mg A) : FnOk P w K mg base (L2.CX P w) 3 A.a_check_place A.f_check_place ["place", "size"] (spE K (clA A) (.cons (aTup aI) (.cons aI .nil)) aN f_check_place) := by
  refine T.F_check_place.okX sc_check_place (fun vs H Q E h => ?_) (fun cdv A' outer s H vs Q E hr h => ⟨_, (pss_cons (ps_if (pt_cmpR op_ne (pe_callB (klen rfl) (by rfl) T.n_len (by decide +kernel) (pa_cons (pv 0) pa_nil)) (pv 1) (nomark _))
 (pss_one (ps_raise rfl (takes_of rfl rfl rfl rfl) (pmk_oex T.o_InvalidPlace T.i_InvalidPlace T.t_init (ok_init T) (hr.mono (by decide)) T.b_init .nil pass0 rfl T.g_InvalidPlace (pa_cons (pv 0) pa_nil))))
 pss_nil)
 pss_nil), ?_⟩)
  · obtain ⟨a, ha, _⟩ := h
    exact (al_len (cs := []) ha).trans rfl
  · refine run_E0 (K := K) (f := f_check_place) (cs := [true, true]) (m := fun a => l_check_place a.1 a.2.1) (clA A) (.yes (aTup.dat aI.dat) (.yes aI.dat .nil)) (fun _ => rfl) h fun S a => ?_
    show TSj _ [.fz ((aTup aI).at (a.1)), .fz (aI.at (a.2.1))] .nil _ (l_check_place a.1 a.2.1) _ _ _
    unfold l_check_place
    exact (ts_if (τ := Unit) (Δ' := .nil) (g := fun (j299 : Unit) => [.fz ((aTup aI).at (a.1)), .fz (aI.at (a.2.1))]) ext_E (tt_test (tj_op ot_ne (tj_cb cb_lenT (ta_cons (tj_var (i := 0) rfl) ta_nil)) (tj_var (i := 1) rfl)))
 (ts_raise (n := .InvalidPlace) (ev := .tup) rfl ext_E inferInstance T.o_InvalidPlace T.v_InvalidPlace (fun _ _ => rfl) (ta_cons (tj_var (i := 0) rfl) ta_nil))
 (ts_nxle (.keep (.keep .nil)))
 (fun j299 => ts_nxU))

noncomputable def l_check_any_place (place_ : (List Int)) : Unit → Bk (Er × Unit) Unit Empty (Unit × Unit) := fun d =>
 ((((Res.ok (place_, d)).bd fun x309 d310 => (Res.ok ((), d310)).bd fun y311 d312 => Res.ok ((x309, y311), d312)).bd fun x313 d314 => optAt (gLen x313) d314).bd fun x325 d326 => (((Res.ok ((2 : Int), d326)).bd fun x319 d320 => ((Res.ok ((3 : Int), d320)).bd fun x315 d316 => (Res.ok ((), d316)).bd fun y317 d318 => Res.ok ((x315, y317), d318)).bd fun y321 d322 => Res.ok ((x319, y321), d322)).bd fun x323 d324 => Res.ok (([x323.1, x323.2.1] : List Int), d324)).bd fun y327 d328 => optAt (gNmem x325 y327) d328).bs (fun d => d) fun b337 d338 => ((if b337 = true then ((Res.ok (place_, d338)).bd fun x331 d332 => (Res.ok ((), d332)).bd fun y333 d334 => Res.ok ((x331, y333), d334)).bs (fun d => d) fun x335 d336 => Bk.ex (⟨XC.InvalidPlace, ErV.tup x335.1⟩, d336) else Bk.nx ((), d338) : Bk _ ((Unit) × (Unit)) _ _)).sq fun j329 d330 =>
 Bk.nx ()
noncomputable def f_check_any_place (a : (List Int) × Unit) : Res Er Unit := runP0 (l_check_any_place a.1 ())
theorem ok_check_any_place (T : Txt K mg A) : FnOk P w K mg base (L2.CX P w) 3 A.a_check_any_place A.f_check_any_place ["place"] (spE K (clA A) (.cons (aTup aI) .nil) aN f_check_any_place) := by
  refine T.F_check_any_place.okX sc_check_any_place (fun vs H Q E h => ?_) (fun cdv A' outer s H vs Q E hr h => ⟨_, (pss_cons (ps_if (pt_cmpR (knin_seq rfl) (pe_callB (klen rfl) (by rfl) T.n_len (by decide +kernel) (pa_cons (pv 0) pa_nil)) (pe_tup (pa_cons pe_int (pa_cons pe_int pa_nil))) (by rfl))
 (pss_one (ps_raise rfl (takes_of rfl rfl rfl rfl) (pmk_oex T.o_InvalidPlace T.i_InvalidPlace T.t_init (ok_init T) (hr.mono (by decide)) T.b_init .nil pass0 rfl T.g_InvalidPlace (pa_cons (pv 0) pa_nil))))
 pss_nil)
 pss_nil), ?_⟩)
  · obtain ⟨a, ha, _⟩ := h
    exact (al_len (cs := []) ha).trans rfl
  · refine run_E0 (K := K) (f := f_check_any_place) (cs := [true]) (m := fun a => l_check_any_place a.1) (clA A) (.yes (aTup.dat aI.dat) .nil) (fun _ => rfl) h fun S a => ?_
    show TSj _ [.fz ((aTup aI).at (a.1))] .nil _ (l_check_any_place a.1) _ _ _
    unfold l_check_any_place
    exact (ts_if (τ := Unit) (Δ' := .nil) (g := fun (j329 : Unit) => [.fz ((aTup aI).at (a.1))]) ext_E (tt_test (tj_op ot_ninT (tj_cb cb_lenT (ta_cons (tj_var (i := 0) rfl) ta_nil)) (tj_tup (R := aI) (.cons (.cons .nil)) (by intro a; show 2 ≤ sizeLine; decide) (ta_cons tj_int (ta_cons tj_int ta_nil)))))
 (ts_raise (n := .InvalidPlace) (ev := .tup) rfl ext_E inferInstance T.o_InvalidPlace T.v_InvalidPlace (fun _ _ => rfl) (ta_cons (tj_var (i := 0) rfl) ta_nil))
 (ts_nxle (.keep .nil))
 (fun j329 => ts_nxU))

noncomputable def l_law_line (number_here_ : Int) (size_ : Int) : List Int × Unit → Bk (Er × List Int × Unit) Empty Empty (((List Int) × (List Int) × Int) × List Int × Unit) := fun d =>
 ((Res.ok ((), d)).bd fun x967 d968 => (f_law_far x967 d968.1).on (fun b d => (b, d.2)) d968).bs (fun d => d) fun along969 d970 =>
 (((Res.ok (along969, d970)).bd fun x975 d976 => ((Res.ok (number_here_, d976)).bd fun x971 d972 => (Res.ok ((), d972)).bd fun y973 d974 => Res.ok ((x971, y973), d974)).bd fun y977 d978 => Res.ok ((x975, y977), d978)).bd fun x979 d980 => Res.ok (([x979.1, x979.2.1] : List Int), d980)).bs (fun d => d) fun start981 d982 => appK (fun (d1485 : List Int × List Int × Unit) => (((Res.ok ((1 : Int), d1485)).bd fun x987 d988 => ((Res.ok ((0 : Int), d988)).bd fun x983 d984 => (Res.ok ((), d984)).bd fun y985 d986 => Res.ok ((x983, y985), d986)).bd fun y989 d990 => Res.ok ((x987, y989), d990)).bd fun x991 d992 => Res.ok (([x991.1, x991.2.1] : List Int), d992)).bs (fun d => (d.1, ())) fun step993 d994 => appK (fun (d1484 : List Int × List Int × List Int × Unit) => ((Res.ok (size_, d1484)).bd fun x995 d996 => (Res.ok ((3 : Int), d996)).bd fun y997 d998 => optAt (gEqI x995 y997) d998).bs (fun d => ((d.1, (d.2.1, ())).1, ())) fun b1482 d1483 => ((if b1482 = true then ((((Res.ok ((9 : Int), d1483)).bd fun x1129 d1130 => (Res.ok ((), d1130)).bd fun y1131 d1132 => Res.ok ((x1129, y1131), d1132)).bd fun x1133 d1134 => (f_law_take x1133 d1134.1).on (fun b d => (b, d.2)) d1134).bd fun x1135 d1136 => (Res.ok ((4 : Int), d1136)).bd fun y1137 d1138 => optAt (gSbt x1135 y1137) d1138).bs (fun d => ((d.1, (d.2.1, ())).1, ())) fun one1139 d1140 =>
 ((((Res.ok ((9 : Int), d1140)).bd fun x1141 d1142 => (Res.ok ((), d1142)).bd fun y1143 d1144 => Res.ok ((x1141, y1143), d1144)).bd fun x1145 d1146 => (f_law_take x1145 d1146.1).on (fun b d => (b, d.2)) d1146).bd fun x1147 d1148 => (Res.ok ((4 : Int), d1148)).bd fun y1149 d1150 => optAt (gSbt x1147 y1149) d1150).bs (fun d => ((d.1, (d.2.1, ())).1, ())) fun two1151 d1152 =>
 (((((Res.ok (one1139, d1152)).bd fun x1157 d1158 => ((Res.ok (two1151, d1158)).bd fun x1153 d1154 => (Res.ok ((), d1154)).bd fun y1155 d1156 => Res.ok ((x1153, y1155), d1156)).bd fun y1159 d1160 => Res.ok ((x1157, y1159), d1160)).bd fun x1161 d1162 => Res.ok (([x1161.1, x1161.2.1] : List Int), d1162)).bd fun x1163 d1164 => (Res.ok ((), d1164)).bd fun y1165 d1166 => Res.ok ((x1163, y1165), d1166)).bd fun x1167 d1168 => (f_law_gcd x1167).at d1168).bs (fun d => ((d.1, (d.2.1, ())).1, ())) fun v_by1169 d1170 =>
 ((Res.ok (v_by1169, d1170)).bd fun x1171 d1172 => (Res.ok ((0 : Int), d1172)).bd fun y1173 d1174 => optAt (gEqI x1171 y1173) d1174).bs (fun d => ((d.1, (d.2.1, ())).1, ())) fun b1255 d1256 => ((if b1255 = true then ((((Res.ok ((1 : Int), d1256)).bd fun x1195 d1196 => ((Res.ok ((1 : Int), d1196)).bd fun x1191 d1192 => (Res.ok ((), d1192)).bd fun y1193 d1194 => Res.ok ((x1191, y1193), d1194)).bd fun y1197 d1198 => Res.ok ((x1195, y1197), d1198)).bd fun x1199 d1200 => Res.ok (([x1199.1, x1199.2.1] : List Int), d1200)).bd fun x1201 d1202 => optAt (cvt2 x1201) d1202).bs (fun d => ((d.1, (d.2.1, ())).1, ())) fun p1203 d1204 =>
 Bk.nx ((p1203.1, p1203.2), d1204) else Bk.nx ((one1139, v_by1169), d1256) : Bk _ ((Int × Int) × (List Int × List Int × List Int × Unit)) _ _)).sq fun j1189 d1190 =>
 (((Res.ok (along969, d1190)).bd fun x1229 d1230 => (((Res.ok (number_here_, d1230)).bd fun x1209 d1210 => ((Res.ok (j1189.1, d1210)).bd fun x1205 d1206 => (Res.ok (j1189.2, d1206)).bd fun y1207 d1208 => optAt (gDiv x1205 y1207) d1208).bd fun y1211 d1212 => optAt (gMul x1209 y1211) d1212).bd fun x1225 d1226 => (((Res.ok (number_here_, d1226)).bd fun x1217 d1218 => ((Res.ok (two1151, d1218)).bd fun x1213 d1214 => (Res.ok (j1189.2, d1214)).bd fun y1215 d1216 => optAt (gDiv x1213 y1215) d1216).bd fun y1219 d1220 => optAt (gMul x1217 y1219) d1220).bd fun x1221 d1222 => (Res.ok ((), d1222)).bd fun y1223 d1224 => Res.ok ((x1221, y1223), d1224)).bd fun y1227 d1228 => Res.ok ((x1225, y1227), d1228)).bd fun y1231 d1232 => Res.ok ((x1229, y1231), d1232)).bd fun x1233 d1234 => Res.ok (([x1233.1, x1233.2.1, x1233.2.2.1] : List Int), d1234)).bs (fun d => ((d.1, (d.2.1, ())).1, ())) fun start1235 d1236 => appK (fun (d1254 : List Int × List Int × List Int × Unit) => (((Res.ok ((1 : Int), d1254)).bd fun x1245 d1246 => ((Res.ok ((0 : Int), d1246)).bd fun x1241 d1242 => ((Res.ok ((0 : Int), d1242)).bd fun x1237 d1238 => (Res.ok ((), d1238)).bd fun y1239 d1240 => Res.ok ((x1237, y1239), d1240)).bd fun y1243 d1244 => Res.ok ((x1241, y1243), d1244)).bd fun y1247 d1248 => Res.ok ((x1245, y1247), d1248)).bd fun x1249 d1250 => Res.ok (([x1249.1, x1249.2.1, x1249.2.2.1] : List Int), d1250)).bs (fun d => ((d.1, (d.2.1, ())).1, ())) fun step1251 d1252 => appK (fun (d1253 : List Int × List Int × List Int × Unit) => Bk.nx ((), d1253)) (d1252.1, (d1252.2.1, (step1251, d1252.2.2.2)))) (d1236.1, (start1235, d1236.2.2)) else Bk.nx ((), d1483) : Bk _ ((Unit) × (List Int × List Int × List Int × Unit)) _ _)).sq fun j1127 d1128 =>
 (((Res.ok ((3 : Int), d1128)).bd fun x1257 d1258 => (Res.ok ((), d1258)).bd fun y1259 d1260 => Res.ok ((x1257, y1259), d1260)).bd fun x1261 d1262 => optAt (gRng1 x1261.1) d1262).bs (fun d => ((d.1, (d.2.1, ())).1, ())) fun x1398 d1396 => ((forB (κ := _) (fun a1263 (s1264 : Unit) (d1397 : List Int × List Int × List Int × Unit) =>
 (((Res.ok (size_, d1397)).bd fun x1265 d1266 => (Res.ok ((), d1266)).bd fun y1267 d1268 => Res.ok ((x1265, y1267), d1268)).bd fun x1269 d1270 => (f_law_take x1269 d1270.1).on (fun b d => (b, d.2)) d1270).bs (fun d => d) fun v_at1271 d1272 =>
 ((((((Res.ok (v_at1271, d1272)).bd fun x1273 d1274 => (Res.ok ((1 : Int), d1274)).bd fun y1275 d1276 => optAt (gAdd x1273 y1275) d1276).bd fun x1287 d1288 => ((((Res.ok (size_, d1288)).bd fun x1277 d1278 => (Res.ok ((1 : Int), d1278)).bd fun y1279 d1280 => optAt (gSbt x1277 y1279) d1280).bd fun x1281 d1282 => (Res.ok ((), d1282)).bd fun y1283 d1284 => Res.ok ((x1281, y1283), d1284)).bd fun x1285 d1286 => (f_law_take x1285 d1286.1).on (fun b d => (b, d.2)) d1286).bd fun y1289 d1290 => optAt (gAdd x1287 y1289) d1290).bd fun x1291 d1292 => (Res.ok ((), d1292)).bd fun y1293 d1294 => Res.ok ((x1291, y1293), d1294)).bd fun x1295 d1296 => optAt (gId x1295) d1296).bd fun x1297 d1298 => (Res.ok (size_, d1298)).bd fun y1299 d1300 => optAt (gMod x1297 y1299) d1300).bs (fun d => d) fun other1301 d1302 =>
 ((((Res.ok ((2 : Int), d1302)).bd fun x1311 d1312 => (((Res.ok ((10 : Int), d1312)).bd fun x1303 d1304 => (Res.ok ((6 : Int), d1304)).bd fun y1305 d1306 => optAt (gPow x1303 y1305) d1306).bd fun x1307 d1308 => (Res.ok ((), d1308)).bd fun y1309 d1310 => Res.ok ((x1307, y1309), d1310)).bd fun y1313 d1314 => Res.ok ((x1311, y1313), d1314)).bd fun x1315 d1316 => Res.ok (([x1315.1, x1315.2.1] : List Int), d1316)).bd fun x1323 d1324 => (((Res.ok ((2 : Int), d1324)).bd fun x1317 d1318 => (Res.ok ((), d1318)).bd fun y1319 d1320 => Res.ok ((x1317, y1319), d1320)).bd fun x1321 d1322 => (f_law_take x1321 d1322.1).on (fun b d => (b, d.2)) d1322).bd fun y1325 d1326 => optAt (gIx x1323 y1325) d1326).bs (fun d => d) fun most1327 d1328 =>
 ((((((Res.ok ((2 : Int), d1328)).bd fun x1329 d1330 => (Res.ok (most1327, d1330)).bd fun y1331 d1332 => optAt (gMul x1329 y1331) d1332).bd fun x1333 d1334 => (Res.ok ((1 : Int), d1334)).bd fun y1335 d1336 => optAt (gAdd x1333 y1335) d1336).bd fun x1337 d1338 => (Res.ok ((), d1338)).bd fun y1339 d1340 => Res.ok ((x1337, y1339), d1340)).bd fun x1341 d1342 => (f_law_take x1341 d1342.1).on (fun b d => (b, d.2)) d1342).bd fun x1343 d1344 => (Res.ok (most1327, d1344)).bd fun y1345 d1346 => optAt (gSbt x1343 y1345) d1346).bs (fun d => d) fun v_by1347 d1348 =>
 (Res.wi (fun uu_ => ((Res.ok ((d1348.2.1), uu_)).bd fun x1350 d1351 => (Res.ok (v_at1271, d1351)).bd fun y1352 d1353 => optAt (gIx x1350 y1352) d1353).bd fun x1362 d1363 => ((Res.ok (v_by1347, d1363)).bd fun x1358 d1359 => ((Res.ok ((d1348.2.1), d1359)).bd fun x1354 d1355 => (Res.ok (other1301, d1355)).bd fun y1356 d1357 => optAt (gIx x1354 y1356) d1357).bd fun y1360 d1361 => optAt (gMul x1358 y1360) d1361).bd fun y1364 d1365 => optAt (gAdd x1362 y1364) d1365) d1348).bs (fun d => d) fun x1390 d1391 => (Res.ok (v_at1271, d1391)).bs (fun d => d) fun i1392 d1393 => setJ d1393.2.1 i1392 x1390 (fun l1394 => (d1393.1, (l1394, d1393.2.2))) (fun (d1391 : List Int × List Int × List Int × Unit) => (Res.wi (fun uu_ => ((Res.ok ((d1391.2.2.1), uu_)).bd fun x1368 d1369 => (Res.ok (v_at1271, d1369)).bd fun y1370 d1371 => optAt (gIx x1368 y1370) d1371).bd fun x1380 d1381 => ((Res.ok (v_by1347, d1381)).bd fun x1376 d1377 => ((Res.ok ((d1391.2.2.1), d1377)).bd fun x1372 d1373 => (Res.ok (other1301, d1373)).bd fun y1374 d1375 => optAt (gIx x1372 y1374) d1375).bd fun y1378 d1379 => optAt (gMul x1376 y1378) d1379).bd fun y1382 d1383 => optAt (gAdd x1380 y1382) d1383) d1391).bs (fun d => d) fun x1385 d1386 => (Res.ok (v_at1271, d1386)).bs (fun d => d) fun i1387 d1388 => setJ d1388.2.2.1 i1387 x1385 (fun l1389 => (d1388.1, (d1388.2.1, (l1389, d1388.2.2.2)))) (fun (d1386 : List Int × List Int × List Int × Unit) => Bk.nx ((), d1386)))) x1398 () d1396).mapU (fun d => ((d.1, (d.2.1, ())).1, ()))).sq fun s1395 d1481 =>
 ((((Res.ok ((2 : Int), d1481)).bd fun x1399 d1400 => (Res.ok ((), d1400)).bd fun y1401 d1402 => Res.ok ((x1399, y1401), d1402)).bd fun x1403 d1404 => (f_law_take x1403 d1404.1).on (fun b d => (b, d.2)) d1404).bd fun x1405 d1406 => (Res.ok ((1 : Int), d1406)).bd fun y1407 d1408 => optAt (gEqI x1405 y1407) d1408).bs (fun d => ((d.1, (d.2.1, ())).1, ())) fun b1479 d1480 => ((if b1479 = true then appK2 (fun (o1411 : List Int) (d1446 : List Int × List Int × Unit) => appK2 (fun (o1412 : List Int) (d1445 : List Int × Unit) => ((((((Res.ok (o1412, d1445)).bd fun x1413 d1414 => Res.ok (x1413.reverse, d1414)).bd fun x1415 d1416 => (Res.ok ((), d1416)).bd fun y1417 d1418 => Res.ok ((x1415, y1417), d1418)).bd fun x1419 d1420 => optAt (gId x1419) d1420).bd fun x1437 d1438 => (((((Res.ok (o1411, d1438)).bd fun x1421 d1422 => Res.ok (x1421.reverse, d1422)).bd fun x1423 d1424 => (Res.ok ((), d1424)).bd fun y1425 d1426 => Res.ok ((x1423, y1425), d1426)).bd fun x1427 d1428 => optAt (gId x1427) d1428).bd fun x1433 d1434 => ((Res.ok (along969, d1434)).bd fun x1429 d1430 => (Res.ok ((), d1430)).bd fun y1431 d1432 => Res.ok ((x1429, y1431), d1432)).bd fun y1435 d1436 => Res.ok ((x1433, y1435), d1436)).bd fun y1439 d1440 => Res.ok ((x1437, y1439), d1440)).bd fun x1441 d1442 => Res.ok ((x1441.1, x1441.2.1, x1441.2.2.1), d1442)).bs (fun d => d) fun r1443 d1444 => Bk.rt (r1443, d1444)) d1446.2.1 (d1446.1, ())) d1480.2.2.1 (d1480.1, (d1480.2.1, ())) else Bk.nx ((), d1480) : Bk _ ((Unit) × (List Int × List Int × List Int × Unit)) _ _)).sq fun j1409 d1410 =>
 appK2 (fun (o1447 : List Int) (d1478 : List Int × List Int × Unit) => appK2 (fun (o1448 : List Int) (d1477 : List Int × Unit) => (((((Res.ok (o1448, d1477)).bd fun x1449 d1450 => (Res.ok ((), d1450)).bd fun y1451 d1452 => Res.ok ((x1449, y1451), d1452)).bd fun x1453 d1454 => optAt (gId x1453) d1454).bd fun x1469 d1470 => ((((Res.ok (o1447, d1470)).bd fun x1455 d1456 => (Res.ok ((), d1456)).bd fun y1457 d1458 => Res.ok ((x1455, y1457), d1458)).bd fun x1459 d1460 => optAt (gId x1459) d1460).bd fun x1465 d1466 => ((Res.ok (along969, d1466)).bd fun x1461 d1462 => (Res.ok ((), d1462)).bd fun y1463 d1464 => Res.ok ((x1461, y1463), d1464)).bd fun y1467 d1468 => Res.ok ((x1465, y1467), d1468)).bd fun y1471 d1472 => Res.ok ((x1469, y1471), d1472)).bd fun x1473 d1474 => Res.ok ((x1473.1, x1473.2.1, x1473.2.2.1), d1474)).bs (fun d => d) fun r1475 d1476 => Bk.rt (r1475, d1476)) d1478.2.1 (d1478.1, ())) d1410.2.2.1 (d1410.1, (d1410.2.1, ()))) (d994.1, (d994.2.1, (step993, ())))) (d982.1, (start981, ()))
noncomputable def f_law_line (a : Int × Int × Unit) (w : List Int) : Res (Er × List Int) (((List Int) × (List Int) × Int) × List Int) := runW (l_law_line a.1 a.2.1 (w, ()))
theorem ok_law_line (T : Txt K mg A) : FnOk P w K mg base CX0 3 A.a_law_line A.f_law_line ["_law_pool_here", "_law_number_here", "_law_size"] (spW (.cons aI (.cons aI .nil)) (aT3 (aTup aI) (aTup aI) aI) f_law_line) := by
  refine T.F_law_line.ok sc_law_line (fun vs H Q E h => ?_) (fun cdv A' outer s H vs Q E hr h => ⟨_, (pss_cons (ps_set (i := 3) sc_law_line.nd rfl (Or.inl rfl) (pe_call (ok_law_far T) (hr.mono (by decide)) rfl T.g_law_far T.k_law_far T.b_law_far .nil pass0 (pa_cons (pv 0) pa_nil)))
 (pss_cons (ps_set (i := 4) sc_law_line.nd rfl (Or.inl rfl) (pe_lst (pa_cons (pv 3) (pa_cons (pv 1) pa_nil))))
 (pss_cons (ps_set (i := 5) sc_law_line.nd rfl (Or.inl rfl) (pe_lst (pa_cons pe_int (pa_cons pe_int pa_nil))))
 (Evl.pss_cut (ps_if (pt_cmpR op_eq (pv 2) pe_int (nomark _))
 (pss_cons (ps_set (i := 7) sc_law_line.nd rfl (Or.inl rfl) (pe_op op_sub (pe_call (ok_law_take T) (hr.mono (by decide)) rfl T.g_law_take T.k_law_take T.b_law_take .nil pass0 (pa_cons (pv 0) (pa_cons pe_int pa_nil))) pe_int))
 (pss_cons (ps_set (i := 8) sc_law_line.nd rfl (Or.inl rfl) (pe_op op_sub (pe_call (ok_law_take T) (hr.mono (by decide)) rfl T.g_law_take T.k_law_take T.b_law_take .nil pass0 (pa_cons (pv 0) (pa_cons pe_int pa_nil))) pe_int))
 (pss_cons (ps_set (i := 9) sc_law_line.nd rfl (Or.inl rfl) (pe_call (ok_law_gcd T) (hr.mono (by decide)) rfl T.g_law_gcd T.k_law_gcd T.b_law_gcd .nil pass0 (pa_cons (pe_lst (pa_cons (pv 7) (pa_cons (pv 8) pa_nil))) pa_nil)))
 (Evl.pss_cut (ps_if (pt_cmpR op_eq (pv 9) pe_int (nomark _))
 (pss_cons (ps_asg (pe_tup (pa_cons pe_int (pa_cons pe_int pa_nil))) (pg_tup rfl (pgs_cons (pg_name (i := 7) sc_law_line.nd rfl (Or.inl rfl)) (pgs_cons (pg_name (i := 9) sc_law_line.nd rfl (Or.inl rfl)) pgs_nil))))
 pss_nil)
 pss_nil)
 (pss_cons (ps_set (i := 4) sc_law_line.nd rfl (Or.inl rfl) (pe_lst (pa_cons (pv 3) (pa_cons (pe_op op_mulA (pv 1) (pe_op op_fdivW (pv 7) (pv 9))) (pa_cons (pe_op op_mulA (pv 1) (pe_op op_fdivW (pv 8) (pv 9))) pa_nil)))))
 (pss_cons (ps_set (i := 5) sc_law_line.nd rfl (Or.inl rfl) (pe_lst (pa_cons pe_int (pa_cons pe_int (pa_cons pe_int pa_nil)))))
 pss_nil))))))
 pss_nil)
 (pss_cons (ps_for PassesOwn.never rfl (pi_range1 rfl T.n_range (pa_cons pe_int pa_nil)) (pg_name (i := 6) sc_law_line.nd rfl (Or.inl rfl))
 (pss_cons (ps_set (i := 10) sc_law_line.nd rfl (Or.inl rfl) (pe_call (ok_law_take T) (hr.mono (by decide)) rfl T.g_law_take T.k_law_take T.b_law_take .nil pass0 (pa_cons (pv 0) (pa_cons (pv 2) pa_nil))))
 (pss_cons (ps_set (i := 11) sc_law_line.nd rfl (Or.inl rfl) (pe_op op_mod (pe_callTy call_int1 (by rfl) T.n_int (by decide +kernel) (pa_cons (pe_op op_add (pe_op op_add (pv 10) pe_int) (pe_call (ok_law_take T) (hr.mono (by decide)) rfl T.g_law_take T.k_law_take T.b_law_take .nil pass0 (pa_cons (pv 0) (pa_cons (pe_op op_sub (pv 2) pe_int) pa_nil)))) pa_nil)) (pv 2)))
 (pss_cons (ps_set (i := 12) sc_law_line.nd rfl (Or.inl rfl) (pe_ix (kix_list rfl) (pe_lst (pa_cons pe_int (pa_cons (pe_op op_pow pe_int pe_int) pa_nil))) (pe_call (ok_law_take T) (hr.mono (by decide)) rfl T.g_law_take T.k_law_take T.b_law_take .nil pass0 (pa_cons (pv 0) (pa_cons pe_int pa_nil))) (fun _ _ => rfl)))
 (pss_cons (ps_set (i := 9) sc_law_line.nd rfl (Or.inl rfl) (pe_op op_sub (pe_call (ok_law_take T) (hr.mono (by decide)) rfl T.g_law_take T.k_law_take T.b_law_take .nil pass0 (pa_cons (pv 0) (pa_cons (pe_op op_add (pe_op op_mulA pe_int (pv 12)) pe_int) pa_nil))) (pv 12)))
 (pss_cons (ps_asg (pe_op op_add (pe_ix (kix_list rfl) (pv 4) (pv 10) (fun _ _ => rfl)) (pe_op op_mulA (pv 9) (pe_ix (kix_list rfl) (pv 4) (pv 11) (fun _ _ => rfl)))) (pg_sub (pv 4) (pv 10) set_list))
 (pss_cons (ps_asg (pe_op op_add (pe_ix (kix_list rfl) (pv 5) (pv 10) (fun _ _ => rfl)) (pe_op op_mulA (pv 9) (pe_ix (kix_list rfl) (pv 5) (pv 11) (fun _ _ => rfl)))) (pg_sub (pv 5) (pv 10) set_list))
 pss_nil)))))))
 (pss_cons (ps_if (pt_cmpR op_eq (pe_call (ok_law_take T) (hr.mono (by decide)) rfl T.g_law_take T.k_law_take T.b_law_take .nil pass0 (pa_cons (pv 0) (pa_cons pe_int pa_nil))) pe_int (nomark _))
 (pss_one (ps_ret (pe_tup (pa_cons (pe_callTy (ktuple rfl) (by rfl) T.n_tuple (by decide +kernel) (pa_cons (kpe_revL rfl (pv 4)) pa_nil)) (pa_cons (pe_callTy (ktuple rfl) (by rfl) T.n_tuple (by decide +kernel) (pa_cons (kpe_revL rfl (pv 5)) pa_nil)) (pa_cons (pv 3) pa_nil))))))
 pss_nil)
 (pss_one (ps_ret (pe_tup (pa_cons (pe_callTy (ktuple rfl) (by rfl) T.n_tuple (by decide +kernel) (pa_cons (pv 4) pa_nil)) (pa_cons (pe_callTy (ktuple rfl) (by rfl) T.n_tuple (by decide +kernel) (pa_cons (pv 5) pa_nil)) (pa_cons (pv 3) pa_nil)))))))))))), ?_⟩)
  · obtain ⟨p, us, a, w, rfl, _, ha, _⟩ := h
    exact congrArg (· + 1) ((al_len (cs := []) ha).trans rfl)
  · refine run_W (K := K) (f := f_law_line) (cs := [true, true]) (m := fun a => l_law_line a.1 a.2.1) (clA A) (.yes aI.dat (.yes aI.dat .nil)) (fun _ _ => rfl) h fun p S a => ?_
    show TSj _ [.ow 0, .fz (aI.at (a.1)), .fz (aI.at (a.2.1)), .no, .no, .no, .no, .no, .no, .no, .no, .no, .no] dW _ (l_law_line a.1 a.2.1) _ _ _
    unfold l_law_line
    exact (ts_asg (i := 3) (c := true) (Γ' := fun along969 => [.ow 0, .fz (aI.at (a.1)), .fz (aI.at (a.2.1)), .fz (aI.at along969), .no, .no, .no, .no, .no, .no, .no, .no, .no]) ext_W (tj_callW (c := true) (i := 0) (j := 0) rfl rfl Ix.z ta_nil) (fun _ => rfl)
 (fun along969 => (ts_asgO (i := 4) (Γ' := [.ow 0, .fz (aI.at (a.1)), .fz (aI.at (a.2.1)), .fz (aI.at along969), .ow 1, .no, .no, .no, .no, .no, .no, .no, .no]) ext_W (.cons (dato_L aI.dat) .nil) (Sn.cons Sn.nil) (tn_lst (R := aI) (.cons (.cons .nil)) (by intro a; show 2 ≤ sizeLine; decide) (ta_cons (tj_var (i := 3) rfl) (ta_cons (tj_var (i := 1) rfl) ta_nil))) rfl
 (ts_asgO (i := 5) (Γ' := [.ow 0, .fz (aI.at (a.1)), .fz (aI.at (a.2.1)), .fz (aI.at along969), .ow 1, .ow 2, .no, .no, .no, .no, .no, .no, .no]) (ext_push (Sn.cons Sn.nil) (Nat.le_of_ble_eq_true rfl) ext_W) (.cons (dato_L aI.dat) (.cons (dato_L aI.dat) .nil)) (Sn.cons (Sn.cons Sn.nil)) (tn_lst (R := aI) (.cons (.cons .nil)) (by intro a; show 2 ≤ sizeLine; decide) (ta_cons tj_int (ta_cons tj_int ta_nil))) rfl
 (ts_cutIf (τ := Unit) (Δ' := (.cons (oLst aI) (.cons (oLst aI) (.cons (oLst aI) .nil)))) (g := fun (j1127 : Unit) => [.ow 0, .fz (aI.at (a.1)), .fz (aI.at (a.2.1)), .fz (aI.at along969), .ow 1, .ow 2, .no, .no, .no, .no, .no, .no, .no]) (ext_push (Sn.cons (Sn.cons Sn.nil)) (Nat.le_of_ble_eq_true rfl) (ext_push (Sn.cons Sn.nil) (Nat.le_of_ble_eq_true rfl) ext_W)) (tt_test (tj_op ot_eq (tj_var (i := 2) rfl) tj_int))
 (ts_asg (i := 7) (c := true) (Γ' := fun one1139 => [.ow 0, .fz (aI.at (a.1)), .fz (aI.at (a.2.1)), .fz (aI.at along969), .ow 1, .ow 2, .no, .fz (aI.at one1139), .no, .no, .no, .no, .no]) (ext_push (Sn.cons (Sn.cons Sn.nil)) (Nat.le_of_ble_eq_true rfl) (ext_push (Sn.cons Sn.nil) (Nat.le_of_ble_eq_true rfl) ext_W)) (tj_op ot_sub (tj_callW (c := true) (i := 0) (j := 0) rfl rfl Ix.z (ta_cons tj_int ta_nil)) tj_int) (fun _ => rfl)
 (fun one1139 => (ts_asg (i := 8) (c := true) (Γ' := fun two1151 => [.ow 0, .fz (aI.at (a.1)), .fz (aI.at (a.2.1)), .fz (aI.at along969), .ow 1, .ow 2, .no, .fz (aI.at one1139), .fz (aI.at two1151), .no, .no, .no, .no]) (ext_push (Sn.cons (Sn.cons Sn.nil)) (Nat.le_of_ble_eq_true rfl) (ext_push (Sn.cons Sn.nil) (Nat.le_of_ble_eq_true rfl) ext_W)) (tj_op ot_sub (tj_callW (c := true) (i := 0) (j := 0) rfl rfl Ix.z (ta_cons tj_int ta_nil)) tj_int) (fun _ => rfl)
 (fun two1151 => (ts_asg (i := 9) (c := true) (Γ' := fun v_by1169 => [.ow 0, .fz (aI.at (a.1)), .fz (aI.at (a.2.1)), .fz (aI.at along969), .ow 1, .ow 2, .no, .fz (aI.at one1139), .fz (aI.at two1151), .fz (aI.at v_by1169), .no, .no, .no]) (ext_push (Sn.cons (Sn.cons Sn.nil)) (Nat.le_of_ble_eq_true rfl) (ext_push (Sn.cons Sn.nil) (Nat.le_of_ble_eq_true rfl) ext_W)) (tj_call (c := true) rfl (ta_cons (TNj.te (tn_lst (R := aI) (.cons (.cons .nil)) (by intro a; show 2 ≤ sizeLine; decide) (ta_cons (tj_var (i := 7) rfl) (ta_cons (tj_var (i := 8) rfl) ta_nil)))) ta_nil)) (fun _ => rfl)
 (fun v_by1169 => (ts_cutIf (τ := Int × Int) (Δ' := (.cons (oLst aI) (.cons (oLst aI) (.cons (oLst aI) .nil)))) (g := fun (j1189 : Int × Int) => [.ow 0, .fz (aI.at (a.1)), .fz (aI.at (a.2.1)), .fz (aI.at along969), .ow 1, .ow 2, .no, .fz (aI.at j1189.1), .fz (aI.at two1151), .fz (aI.at j1189.2), .no, .no, .no]) (ext_push (Sn.cons (Sn.cons Sn.nil)) (Nat.le_of_ble_eq_true rfl) (ext_push (Sn.cons Sn.nil) (Nat.le_of_ble_eq_true rfl) ext_W)) (tt_test (tj_op ot_eq (tj_var (i := 9) rfl) tj_int))
 (ts_asgG (c := true) (Γ' := fun p1203 => [.ow 0, .fz (aI.at (a.1)), .fz (aI.at (a.2.1)), .fz (aI.at along969), .ow 1, .ow 2, .no, .fz (aI.at p1203.1), .fz (aI.at two1151), .fz (aI.at p1203.2), .no, .no, .no]) (ext_push (Sn.cons (Sn.cons Sn.nil)) (Nat.le_of_ble_eq_true rfl) (ext_push (Sn.cons Sn.nil) (Nat.le_of_ble_eq_true rfl) ext_W)) (tj_vw vw_t2 (tj_tup (R := aI) (.cons (.cons .nil)) (by intro a; show 2 ≤ sizeLine; decide) (ta_cons tj_int (ta_cons tj_int ta_nil)))) (tg_t2 tg_name (fun _ => tg_name))
 (fun p1203 => (ts_nxle (.keep (.keep (.keep (.keep (.keep (.keep (.keep (.keep (.keep (.keep (.keep (.keep (.keep .nil))))))))))))))))
 (ts_nxle (.keep (.keep (.keep (.keep (.keep (.keep (.keep (.keep (.keep (.keep (.keep (.keep (.keep .nil))))))))))))))
 (fun j1189 => (ts_reown (i := 4) (j := 1) (Γ' := [.ow 0, .fz (aI.at (a.1)), .fz (aI.at (a.2.1)), .fz (aI.at along969), .ow 1, .ow 2, .no, .fz (aI.at j1189.1), .fz (aI.at two1151), .fz (aI.at j1189.2), .no, .no, .no]) (ext_push (Sn.cons (Sn.cons Sn.nil)) (Nat.le_of_ble_eq_true rfl) (ext_push (Sn.cons Sn.nil) (Nat.le_of_ble_eq_true rfl) ext_W)) (.cons (dato_L aI.dat) (.cons (dato_L aI.dat) (.cons (dato_L aI.dat) .nil))) (Ix.s Ix.z) (Nat.le_of_ble_eq_true rfl) rfl (tn_lst (R := aI) (.cons (.cons (.cons .nil))) (by intro a; show 3 ≤ sizeLine; decide) (ta_cons (tj_var (i := 3) rfl) (ta_cons (tj_op ot_mul (tj_var (i := 1) rfl) (tj_op ot_div (tj_var (i := 7) rfl) (tj_var (i := 9) rfl))) (ta_cons (tj_op ot_mul (tj_var (i := 1) rfl) (tj_op ot_div (tj_var (i := 8) rfl) (tj_var (i := 9) rfl))) ta_nil)))) rfl
 (ts_reown (i := 5) (j := 2) (Γ' := [.ow 0, .fz (aI.at (a.1)), .fz (aI.at (a.2.1)), .fz (aI.at along969), .ow 1, .ow 2, .no, .fz (aI.at j1189.1), .fz (aI.at two1151), .fz (aI.at j1189.2), .no, .no, .no]) (ext_push (Sn.cons (Sn.cons Sn.nil)) (Nat.le_of_ble_eq_true rfl) (ext_push (Sn.cons Sn.nil) (Nat.le_of_ble_eq_true rfl) ext_W)) (.cons (dato_L aI.dat) (.cons (dato_L aI.dat) (.cons (dato_L aI.dat) .nil))) (Ix.s (Ix.s Ix.z)) (Nat.le_of_ble_eq_true rfl) rfl (tn_lst (R := aI) (.cons (.cons (.cons .nil))) (by intro a; show 3 ≤ sizeLine; decide) (ta_cons tj_int (ta_cons tj_int (ta_cons tj_int ta_nil)))) rfl
 (ts_nxle (.keep (.keep (.keep (.keep (.keep (.keep (.keep (.drop (.drop (.drop (.keep (.keep (.keep .nil))))))))))))))))))))))))
 (ts_nxle (.keep (.keep (.keep (.keep (.keep (.keep (.keep (.keep (.keep (.keep (.keep (.keep (.keep .nil))))))))))))))
 (fun j1127 => (ts_for (c2 := true) (τ := Unit) (gl := fun (s1264 : Unit) => [.ow 0, .fz (aI.at (a.1)), .fz (aI.at (a.2.1)), .fz (aI.at along969), .ow 1, .ow 2, .no, .no, .no, .no, .no, .no, .no]) (s0 := ()) (Γb := fun (s1264 : Unit) a1263 => [.ow 0, .fz (aI.at (a.1)), .fz (aI.at (a.2.1)), .fz (aI.at along969), .ow 1, .ow 2, .fz (aI.at a1263), .no, .no, .no, .no, .no, .no]) (ext_push (Sn.cons (Sn.cons Sn.nil)) (Nat.le_of_ble_eq_true rfl) (ext_push (Sn.cons Sn.nil) (Nat.le_of_ble_eq_true rfl) ext_W)) (.inl rfl) (ti_rng1 (ta_cons tj_int ta_nil)) (.keep (.keep (.keep (.keep (.keep (.keep (.keep (.keep (.keep (.keep (.keep (.keep (.keep .nil))))))))))))) (fun _ _ _ => tg_name)
 (fun _ _ s1264 a1263 => (ts_asg (i := 10) (c := true) (Γ' := fun v_at1271 => [.ow 0, .fz (aI.at (a.1)), .fz (aI.at (a.2.1)), .fz (aI.at along969), .ow 1, .ow 2, .fz (aI.at a1263), .no, .no, .no, .fz (aI.at v_at1271), .no, .no]) ext_loop (tj_callW (c := true) (i := 0) (j := 0) rfl rfl Ix.z (ta_cons (tj_var (i := 2) rfl) ta_nil)) (fun _ => rfl)
 (fun v_at1271 => (ts_asg (i := 11) (c := true) (Γ' := fun other1301 => [.ow 0, .fz (aI.at (a.1)), .fz (aI.at (a.2.1)), .fz (aI.at along969), .ow 1, .ow 2, .fz (aI.at a1263), .no, .no, .no, .fz (aI.at v_at1271), .fz (aI.at other1301), .no]) ext_loop (tj_op ot_mod (tj_cb cb_int (ta_cons (tj_op ot_add (tj_op ot_add (tj_var (i := 10) rfl) tj_int) (tj_callW (c := true) (i := 0) (j := 0) rfl rfl Ix.z (ta_cons (tj_op ot_sub (tj_var (i := 2) rfl) tj_int) ta_nil))) ta_nil)) (tj_var (i := 2) rfl)) (fun _ => rfl)
 (fun other1301 => (ts_asg (i := 12) (c := true) (Γ' := fun most1327 => [.ow 0, .fz (aI.at (a.1)), .fz (aI.at (a.2.1)), .fz (aI.at along969), .ow 1, .ow 2, .fz (aI.at a1263), .no, .no, .no, .fz (aI.at v_at1271), .fz (aI.at other1301), .fz (aI.at most1327)]) ext_loop (tj_op ot_ixL (TNj.te (tn_lst (R := aI) (.cons (.cons .nil)) (by intro a; show 2 ≤ sizeLine; decide) (ta_cons tj_int (ta_cons (tj_op ot_pow tj_int tj_int) ta_nil)))) (tj_callW (c := true) (i := 0) (j := 0) rfl rfl Ix.z (ta_cons tj_int ta_nil))) (fun _ => rfl)
 (fun most1327 => (ts_asg (i := 9) (c := true) (Γ' := fun v_by1347 => [.ow 0, .fz (aI.at (a.1)), .fz (aI.at (a.2.1)), .fz (aI.at along969), .ow 1, .ow 2, .fz (aI.at a1263), .no, .no, .fz (aI.at v_by1347), .fz (aI.at v_at1271), .fz (aI.at other1301), .fz (aI.at most1327)]) ext_loop (tj_op ot_sub (tj_callW (c := true) (i := 0) (j := 0) rfl rfl Ix.z (ta_cons (tj_op ot_add (tj_op ot_mul tj_int (tj_var (i := 12) rfl)) tj_int) ta_nil)) (tj_var (i := 12) rfl)) (fun _ => rfl)
 (fun v_by1347 => (ts_setL (i := 4) ext_loop rfl (Ix.s Ix.z) (tj_pure (mm := fun d1366 => [.bo ((aLst K aI).at (d1366.1)), .fz (aI.at (a.1)), .fz (aI.at (a.2.1)), .fz (aI.at along969), .bo ((aLst K aI).at (d1366.2.1)), .bo ((aLst K aI).at (d1366.2.2.1)), .fz (aI.at a1263), .no, .no, .fz (aI.at v_by1347), .fz (aI.at v_at1271), .fz (aI.at other1301), .fz (aI.at most1327)]) rfl (by exact (.ow omv_L Ix.z (.fz (.fz (.fz (.ow omv_L (Ix.s Ix.z) (.ow omv_L (Ix.s (Ix.s Ix.z)) (.fz (.no (.no (.fz (.fz (.fz (.fz .nil)))))))))))))) (fun d1366 _ _ => (tj_op ot_add (TEj.dat (c' := true) aI.dat (tj_op ot_ixL (tj_bor (i := 4) rfl) (TEj.weak (tj_var (i := 10) rfl)))) (tj_op ot_mul (tj_var (i := 9) rfl) (TEj.dat (c' := true) aI.dat (tj_op ot_ixL (tj_bor (i := 4) rfl) (TEj.weak (tj_var (i := 11) rfl)))))))) (tj_var (i := 10) rfl)
 (ts_setL (i := 5) ext_loop rfl (Ix.s (Ix.s Ix.z)) (tj_pure (mm := fun d1384 => [.bo ((aLst K aI).at (d1384.1)), .fz (aI.at (a.1)), .fz (aI.at (a.2.1)), .fz (aI.at along969), .bo ((aLst K aI).at (d1384.2.1)), .bo ((aLst K aI).at (d1384.2.2.1)), .fz (aI.at a1263), .no, .no, .fz (aI.at v_by1347), .fz (aI.at v_at1271), .fz (aI.at other1301), .fz (aI.at most1327)]) rfl (by exact (.ow omv_L Ix.z (.fz (.fz (.fz (.ow omv_L (Ix.s Ix.z) (.ow omv_L (Ix.s (Ix.s Ix.z)) (.fz (.no (.no (.fz (.fz (.fz (.fz .nil)))))))))))))) (fun d1384 _ _ => (tj_op ot_add (TEj.dat (c' := true) aI.dat (tj_op ot_ixL (tj_bor (i := 5) rfl) (TEj.weak (tj_var (i := 10) rfl)))) (tj_op ot_mul (tj_var (i := 9) rfl) (TEj.dat (c' := true) aI.dat (tj_op ot_ixL (tj_bor (i := 5) rfl) (TEj.weak (tj_var (i := 11) rfl)))))))) (tj_var (i := 10) rfl)
 (ts_nxle (.keep (.keep (.keep (.keep (.keep (.keep (.drop (.keep (.keep (.drop (.drop (.drop (.drop .nil)))))))))))))))))))))))))
 (fun s1395 => (ts_if (τ := Unit) (Δ' := (.cons (oLst aI) (.cons (oLst aI) (.cons (oLst aI) .nil)))) (g := fun (j1409 : Unit) => [.ow 0, .fz (aI.at (a.1)), .fz (aI.at (a.2.1)), .fz (aI.at along969), .ow 1, .ow 2, .no, .no, .no, .no, .no, .no, .no]) (ext_push (Sn.cons (Sn.cons Sn.nil)) (Nat.le_of_ble_eq_true rfl) (ext_push (Sn.cons Sn.nil) (Nat.le_of_ble_eq_true rfl) ext_W)) (tt_test (tj_op ot_eq (tj_callW (c := true) (i := 0) (j := 0) rfl rfl Ix.z (ta_cons tj_int ta_nil)) tj_int))
 (ts_pop (Γ2 := fun o1411 => [.ow 0, .fz (aI.at (a.1)), .fz (aI.at (a.2.1)), .fz (aI.at along969), .ow 1, .fz ((aLst K aI).at o1411), .no, .no, .no, .no, .no, .no, .no]) (omv_L (K := K)) (Sn.cons (Sn.cons Sn.nil)) (Nat.le_of_ble_eq_true rfl) (fun o1411 => (.ow (Nat.le_of_ble_eq_true rfl) (.val (.val (.val (.ow (Nat.le_of_ble_eq_true rfl) (.fz (.no (.no (.no (.no (.no (.no (.no .nil)))))))))))))) (fun o1411 => (ts_pop (Γ2 := fun o1412 => [.ow 0, .fz (aI.at (a.1)), .fz (aI.at (a.2.1)), .fz (aI.at along969), .fz ((aLst K aI).at o1412), .fz ((aLst K aI).at o1411), .no, .no, .no, .no, .no, .no, .no]) (omv_L (K := K)) (Sn.cons Sn.nil) (Nat.le_of_ble_eq_true rfl) (fun o1412 => (.ow (Nat.le_of_ble_eq_true rfl) (.val (.val (.val (.fz (.val (.no (.no (.no (.no (.no (.no (.no .nil)))))))))))))) (fun o1412 => (ts_ret ext_W (tj_tup3 (ta_cons (tj_cb cb_tuple (ta_cons (TNj.te (tn_revL (tj_var (i := 4) rfl))) ta_nil)) (ta_cons (tj_cb cb_tuple (ta_cons (TNj.te (tn_revL (tj_var (i := 5) rfl))) ta_nil)) (ta_cons (tj_var (i := 3) rfl) ta_nil)))))))))
 (ts_nxle (.keep (.keep (.keep (.keep (.keep (.keep (.keep (.keep (.keep (.keep (.keep (.keep (.keep .nil))))))))))))))
 (fun j1409 => (ts_pop (Γ2 := fun o1447 => [.ow 0, .fz (aI.at (a.1)), .fz (aI.at (a.2.1)), .fz (aI.at along969), .ow 1, .fz ((aLst K aI).at o1447), .no, .no, .no, .no, .no, .no, .no]) (omv_L (K := K)) (Sn.cons (Sn.cons Sn.nil)) (Nat.le_of_ble_eq_true rfl) (fun o1447 => (.ow (Nat.le_of_ble_eq_true rfl) (.val (.val (.val (.ow (Nat.le_of_ble_eq_true rfl) (.fz (.no (.no (.no (.no (.no (.no (.no .nil)))))))))))))) (fun o1447 => (ts_pop (Γ2 := fun o1448 => [.ow 0, .fz (aI.at (a.1)), .fz (aI.at (a.2.1)), .fz (aI.at along969), .fz ((aLst K aI).at o1448), .fz ((aLst K aI).at o1447), .no, .no, .no, .no, .no, .no, .no]) (omv_L (K := K)) (Sn.cons Sn.nil) (Nat.le_of_ble_eq_true rfl) (fun o1448 => (.ow (Nat.le_of_ble_eq_true rfl) (.val (.val (.val (.fz (.val (.no (.no (.no (.no (.no (.no (.no .nil)))))))))))))) (fun o1448 => (ts_ret ext_W (tj_tup3 (ta_cons (tj_cb cb_tuple (ta_cons (tj_var (i := 4) rfl) ta_nil)) (ta_cons (tj_cb cb_tuple (ta_cons (tj_var (i := 5) rfl) ta_nil)) (ta_cons (tj_var (i := 3) rfl) ta_nil)))))))))))))))))))

noncomputable def l_LineUinitU (start_ : (List Int)) (step_ : (List Int)) : (Unit × Unit) → Bk (Er × Unit × Unit) (T_Line × Unit) Empty (Unit × Unit × Unit) := fun d =>
 (((Res.ok (start_, d)).bd fun x449 d450 => (Res.ok ((), d450)).bd fun y451 d452 => Res.ok ((x449, y451), d452)).bd fun x455 d456 => (f_check_any_place x455).at d456).bs (fun d => ((), ())) fun _ d550 =>
 (((Res.ok (step_, d550)).bd fun x467 d468 => ((((Res.ok (start_, d468)).bd fun x457 d458 => (Res.ok ((), d458)).bd fun y459 d460 => Res.ok ((x457, y459), d460)).bd fun x461 d462 => optAt (gLen x461) d462).bd fun x463 d464 => (Res.ok ((), d464)).bd fun y465 d466 => Res.ok ((x463, y465), d466)).bd fun y469 d470 => Res.ok ((x467, y469), d470)).bd fun x473 d474 => (f_check_place x473).at d474).bs (fun d => ((), ())) fun _ d549 =>
 ((((Res.ok (step_, d549)).bd fun x475 d476 => (Res.ok ((), d476)).bd fun y477 d478 => Res.ok ((x475, y477), d478)).bd fun x479 d480 => (f_common_divisor x479).noex.at d480).bd fun x481 d482 => (Res.ok ((1 : Int), d482)).bd fun y483 d484 => optAt (gNeI x481 y483) d484).bs (fun d => ((), ())) fun b547 d548 => ((if b547 = true then ((Res.ok (step_, d548)).bd fun x487 d488 => (Res.ok ((), d488)).bd fun y489 d490 => Res.ok ((x487, y489), d490)).bs (fun d => ((), ())) fun x491 d492 => Bk.ex (⟨XC.InvalidStep, ErV.tup x491.1⟩, ((), ())) else Bk.nx ((), d548) : Bk _ ((Unit) × ((Unit) × Unit)) _ _)).sq fun j485 d486 =>
 (Res.ok (start_, d486)).bs (fun d => ((), ())) fun v_start493 d494 => appK (fun (d495 : ((List Int) × Unit) × Unit) => (Res.ok (step_, d495)).bs (fun d => ((), ())) fun v_step496 d497 => appK (fun (d498 : ((List Int) × (List Int) × Unit) × Unit) => (((Res.ok (start_, d498)).bd fun x503 d504 => ((Res.ok (step_, d504)).bd fun x499 d500 => (Res.ok ((), d500)).bd fun y501 d502 => Res.ok ((x499, y501), d502)).bd fun y505 d506 => Res.ok ((x503, y505), d506)).bd fun x507 d508 => (f_number_of x507).noex.at d508).bs (fun d => ((), ())) fun v_number509 d510 => appK (fun (d511 : ((List Int) × (List Int) × Int × Unit) × Unit) => ((((((((((Res.ok (step_, d511)).bd fun x512 d513 => (Res.ok ((), d513)).bd fun y514 d515 => Res.ok ((x512, y514), d515)).bd fun x516 d517 => (f_weights_of x516).at d517).bd fun x522 d523 => ((Res.ok (start_, d523)).bd fun x518 d519 => (Res.ok ((), d519)).bd fun y520 d521 => Res.ok ((x518, y520), d521)).bd fun y524 d525 => Res.ok ((x522, y524), d525)).bd fun x526 d527 => Res.ok (x526.1.zip x526.2.1, d527)).bd fun x534 d535 => lcA (fT (fun a528 (d533 : ((List Int) × (List Int) × Int × Unit) × Unit) => Res.ok (true, d533)) (fun a528 (d533 : ((List Int) × (List Int) × Int × Unit) × Unit) => (Res.ok (a528.1, d533)).bd fun x529 d530 => (Res.ok (a528.2, d530)).bd fun y531 d532 => optAt (gMul x529 y531) d532)) x534 d535).noex).bd fun x536 d537 => (Res.ok ((), d537)).bd fun y538 d539 => Res.ok ((x536, y538), d539)).bd fun x540 d541 => optAt (gSum x540) d541).bd fun x542 d543 => optAt (gNeg x542) d543).bs (fun d => ((), ())) fun v_centre544 d545 => appK (fun (d546 : ((List Int) × (List Int) × Int × Int × Unit) × Unit) => Bk.nx d546) ((d545.1.1, (d545.1.2.1, (d545.1.2.2.1, (v_centre544, ())))), d545.2)) ((d510.1.1, (d510.1.2.1, (v_number509, ()))), d510.2)) ((d497.1.1, (v_step496, ())), d497.2)) ((v_start493, ()), d494.2)
noncomputable def f_LineUinitU (a : (List Int) × (List Int) × Unit) : Res Er T_Line := runZ (l_LineUinitU a.1 a.2.1 ((), ()))
theorem ok_LineUinitU (T : Txt K mg A) : FnOk P w K mg base (L2.CX P w) 4 A.a_LineUinitU A.f_LineUinitU ["self", "start", "step"] (spI K (clA A) A.a_cLine (.cons (aTup aI) (.cons (aTup aI) .nil)) (fl_Line K) f_LineUinitU) := by
  refine T.F_LineUinitU.okX sc_LineUinitU (fun vs H Q E h => ?_) (fun cdv A' outer s H vs Q E hr h => ⟨_, (pss_cons (ps_expr (pe_call (ok_check_any_place T) (hr.mono (by decide)) rfl T.g_check_any_place T.k_check_any_place T.b_check_any_place .nil (passes_call (takes_of rfl rfl rfl rfl) (fun _ _ _ _ h => h)) (pa_cons (pv 1) pa_nil)))
 (pss_cons (ps_expr (pe_call (ok_check_place T) (hr.mono (by decide)) rfl T.g_check_place T.k_check_place T.b_check_place .nil (passes_call (takes_of rfl rfl rfl rfl) (fun _ _ _ _ h => h)) (pa_cons (pv 2) (pa_cons (pe_callB (klen rfl) (by rfl) T.n_len (by decide +kernel) (pa_cons (pv 1) pa_nil)) pa_nil))))
 (pss_cons (ps_if (pt_cmpR op_ne (pe_call (ok_common_divisor T) (hr.mono (by decide)) rfl T.g_common_divisor T.k_common_divisor T.b_common_divisor .nil pass0 (pa_cons (pv 2) pa_nil)) pe_int (nomark _))
 (pss_one (ps_raise rfl (takes_of rfl rfl rfl rfl) (pmk_oex T.o_InvalidStep T.i_InvalidStep T.t_init (ok_init T) (hr.mono (by decide)) T.b_init .nil pass0 rfl T.g_InvalidStep (pa_cons (pv 2) pa_nil))))
 pss_nil)
 (pss_cons (ps_fld (pv 0) (pv 1) rfl)
 (pss_cons (ps_fld (pv 0) (pv 2) rfl)
 (pss_cons (ps_fld (pv 0) (pe_call (ok_number_of T) (hr.mono (by decide)) rfl T.g_number_of T.k_number_of T.b_number_of .nil pass0 (pa_cons (pv 1) (pa_cons (pv 2) pa_nil))) rfl)
 (pss_cons (ps_fld (pv 0) (pe_un un_neg (pe_callB (ksum rfl rfl) (by rfl) T.n_sum (by decide +kernel) (pa_cons (pe_lc (own := [("weight", 3), ("number", 4)]) (g := (gTup K 2 (gCons (gName 3) (gCons (gName 4) gNil)))) rfl sc_LineUinitU.nd (kpi_zipA rfl rfl T.n_zip (pa_cons (pe_call (ok_weights_of T) (hr.mono (by decide)) rfl T.g_weights_of T.k_weights_of T.b_weights_of .nil pass0 (pa_cons (pv 2) pa_nil)) (pa_cons (pv 1) pa_nil))) (blkOk_by (own := [("weight", 3), ("number", 4)]) (N := N_LineUinitU) (sc := defScope s_LineUinitU) (by decide +kernel)) (fun _ _ _ _ _ => pg_tup rfl (pgs_cons (pg_name (i := 3) sc_LineUinitU.nd rfl (Or.inl rfl)) (pgs_cons (pg_name (i := 4) sc_LineUinitU.nd rfl (Or.inl rfl)) pgs_nil))) (fun _ _ _ _ _ => pts_nil) (fun _ _ _ _ _ => (pe_op op_mulA (pv 3) (pv 4)))) pa_nil))) rfl)
 pss_nil))))))), ?_⟩)
  · obtain ⟨p, dx, us, a, rfl, _, ha, _⟩ := h
    exact congrArg (· + 1) ((al_len (cs := []) ha).trans rfl)
  · refine run_I (K := K) (f := f_LineUinitU) (cs := [true, true]) (m := fun a => l_LineUinitU a.1 a.2.1) (clA A) (.yes (aTup.dat aI.dat) (.yes (aTup.dat aI.dat) .nil)) (fun _ => rfl) h fun p S a => ?_
    show TSj _ [.ow 0, .fz ((aTup aI).at (a.1)), .fz ((aTup aI).at (a.2.1)), .no, .no] (dI0 _) _ (l_LineUinitU a.1 a.2.1) _ _ _
    unfold l_LineUinitU
    exact (ts_drop ext_I (tj_callE (c := true) (fun _ => rfl) (ta_cons (tj_var (i := 1) rfl) ta_nil))
 (fun _ => (ts_drop ext_I (tj_callE (c := true) (fun _ => rfl) (ta_cons (tj_var (i := 2) rfl) (ta_cons (tj_cb cb_lenT (ta_cons (tj_var (i := 1) rfl) ta_nil)) ta_nil)))
 (fun _ => (ts_if (τ := Unit) (Δ' := (.cons (oIns A.a_cLine .nil) .nil)) (g := fun (j485 : Unit) => [.ow 0, .fz ((aTup aI).at (a.1)), .fz ((aTup aI).at (a.2.1)), .no, .no]) ext_I (tt_test (tj_op ot_ne (tj_callZ (c := true) (ta_cons (tj_var (i := 2) rfl) ta_nil)) tj_int))
 (ts_raise (n := .InvalidStep) (ev := .tup) rfl ext_I inferInstance T.o_InvalidStep T.v_InvalidStep (fun _ _ => rfl) (ta_cons (tj_var (i := 2) rfl) ta_nil))
 (ts_nxle (.keep (.keep (.keep (.keep (.keep .nil))))))
 (fun j485 => (ts_fld (n := "_start") (i := 0) .nil rfl T.cl_Line T.na_Line_start (Nat.le_of_ble_eq_true rfl) ext_I (tj_var (i := 1) rfl)
 (ts_fld (n := "_step") (i := 0) (.cons ne_Line_step_start .nil) rfl T.cl_Line T.na_Line_step (Nat.le_of_ble_eq_true rfl) ext_I (tj_var (i := 2) rfl)
 (ts_fld (n := "_number") (i := 0) (.cons ne_Line_number_start (.cons ne_Line_number_step .nil)) rfl T.cl_Line T.na_Line_number (Nat.le_of_ble_eq_true rfl) ext_I (tj_callZ (c := true) (ta_cons (tj_var (i := 1) rfl) (ta_cons (tj_var (i := 2) rfl) ta_nil)))
 (ts_fld (n := "_centre") (i := 0) (.cons ne_Line_centre_start (.cons ne_Line_centre_step (.cons ne_Line_centre_number .nil))) rfl T.cl_Line T.na_Line_centre (Nat.le_of_ble_eq_true rfl) ext_I (tj_un ut_neg (tj_cb cb_sum (ta_cons (TNj.te (TNj.calm (tn_lc (c2 := true) (vs := [3, 4]) (Γw := [.ow 0, .fz ((aTup aI).at (a.1)), .fz ((aTup aI).at (a.2.1)), .no, .no]) (Γb := fun a528 => [.ow 0, .fz ((aTup aI).at (a.1)), .fz ((aTup aI).at (a.2.1)), .fz (aI.at a528.1), .fz (aI.at a528.2)]) rfl (.inl rfl) rfl (ti_zipT (ta_cons (tj_call (c := true) rfl (ta_cons (tj_var (i := 2) rfl) ta_nil)) (ta_cons (tj_var (i := 1) rfl) ta_nil))) (fun _ => (tg_t2 tg_name (fun _ => tg_name))) (by decide) (fun _ a528 => tt_yes) (fun _ a528 => (tj_op ot_mul (tj_var (i := 3) rfl) (tj_var (i := 4) rfl)))))) ta_nil)))
 ts_nxI))))))))))

noncomputable def l_law (script_ : (List Int)) : Unit → Bk (Er × Unit) Empty Empty (Bool × Unit) := fun d =>
 ((((((((Res.ok (script_, d)).bd fun x1536 d1537 => (Res.ok ((), d1537)).bd fun y1538 d1539 => Res.ok ((x1536, y1538), d1539)).bd fun x1540 d1541 => optAt (gLen x1540) d1541).bd fun x1546 d1547 => ((Res.ok ((5 : Int), d1547)).bd fun x1542 d1543 => (Res.ok ((), d1543)).bd fun y1544 d1545 => Res.ok ((x1542, y1544), d1545)).bd fun y1548 d1549 => Res.ok ((x1546, y1548), d1549)).bd fun x1550 d1551 => optAt (gMin2 x1550) d1551).bd fun x1552 d1553 => (Res.ok ((1 : Int), d1553)).bd fun y1554 d1555 => optAt (gAdd x1552 y1554) d1555).bd fun x1556 d1557 => (Res.ok ((), d1557)).bd fun y1558 d1559 => Res.ok ((x1556, y1558), d1559)).bd fun x1560 d1561 => optAt (gRng1 x1560.1) d1561).bs (fun d => d) fun x1801 d1799 => ((forB (κ := _) (fun a1562 (s1563 : Unit) (d1800 : Unit) =>
 (((Res.ok (script_, d1800)).bd fun x1568 d1569 => ((Res.ok (a1562, d1569)).bd fun x1564 d1565 => (Res.ok ((), d1565)).bd fun y1566 d1567 => Res.ok ((x1564, y1566), d1567)).bd fun y1570 d1571 => Res.ok ((x1568, y1570), d1571)).bd fun x1572 d1573 => (f_law_pool x1572).at d1573).bs (fun d => d) fun pool_here1574 d1575 => appK (fun (d1797 : List Int × Unit) => ((Res.ok ((2 : Int), d1797)).bd fun x1582 d1583 => (((Res.ok ((2 : Int), d1583)).bd fun x1576 d1577 => (Res.ok ((), d1577)).bd fun y1578 d1579 => Res.ok ((x1576, y1578), d1579)).bd fun x1580 d1581 => (f_law_take x1580 d1581.1).on (fun b d => (b, d.2)) d1581).bd fun y1584 d1585 => optAt (gAdd x1582 y1584) d1585).bs (fun d => ()) fun size1586 d1587 =>
 ((Res.ok ((), d1587)).bd fun x1588 d1589 => (f_law_number x1588 d1589.1).on (fun b d => (b, d.2)) d1589).bs (fun d => ()) fun number_here1590 d1591 =>
 (((Res.ok (number_here1590, d1591)).bd fun x1596 d1597 => ((Res.ok (size1586, d1597)).bd fun x1592 d1593 => (Res.ok ((), d1593)).bd fun y1594 d1595 => Res.ok ((x1592, y1594), d1595)).bd fun y1598 d1599 => Res.ok ((x1596, y1598), d1599)).bd fun x1600 d1601 => (f_law_line x1600 d1601.1).on (fun b d => (b, d.2)) d1601).bs (fun d => ()) fun p1602 d1603 =>
 (((Res.ok (p1602.1, d1603)).bd fun x1608 d1609 => ((Res.ok (p1602.2.1, d1609)).bd fun x1604 d1605 => (Res.ok ((), d1605)).bd fun y1606 d1607 => Res.ok ((x1604, y1606), d1607)).bd fun y1610 d1611 => Res.ok ((x1608, y1610), d1611)).bd fun x1612 d1613 => (f_LineUinitU x1612).at d1613).bs (fun d => ()) fun line_here1614 d1615 =>
 ((((Res.ok ((4 : Int), d1615)).bd fun x1616 d1617 => (Res.ok ((), d1617)).bd fun y1618 d1619 => Res.ok ((x1616, y1618), d1619)).bd fun x1620 d1621 => optAt (gRng1 x1620.1) d1621).bd fun x1626 d1627 => lcA (fT (fun a1622 (d1625 : List Int × Unit) => Res.ok (true, d1625)) (fun a1622 (d1625 : List Int × Unit) => (Res.ok ((), d1625)).bd fun x1623 d1624 => (f_law_spot x1623 d1624.1).on (fun b d => (b, d.2)) d1624)) x1626 d1627).bs (fun d => ()) fun spots1628 d1629 =>
 ((Res.ok (spots1628, d1629)).bd fun x1668 d1669 => (((((((Res.ok ((), d1669)).bd fun x1630 d1631 => (f_law_spot x1630 d1631.1).on (fun b d => (b, d.2)) d1631).bd fun x1632 d1633 => (Res.ok ((30031 : Int), d1633)).bd fun y1634 d1635 => optAt (gDiv x1632 y1634) d1635).bd fun x1636 d1637 => (Res.ok (number_here1590, d1637)).bd fun y1638 d1639 => optAt (gMul x1636 y1638) d1639).bd fun x1640 d1641 => (Res.ok ((1 : Int), d1641)).bd fun y1642 d1643 => optAt (gAdd x1640 y1642) d1643).bd fun x1662 d1663 => ((Res.ok ((1 : Int), d1663)).bd fun x1658 d1659 => (((Res.ok ((1 : Int), d1659)).bd fun x1644 d1645 => optAt (gNeg x1644) d1645).bd fun x1654 d1655 => ((Res.ok ((0 : Int), d1655)).bd fun x1650 d1651 => ((Res.ok (number_here1590, d1651)).bd fun x1646 d1647 => (Res.ok ((), d1647)).bd fun y1648 d1649 => Res.ok ((x1646, y1648), d1649)).bd fun y1652 d1653 => Res.ok ((x1650, y1652), d1653)).bd fun y1656 d1657 => Res.ok ((x1654, y1656), d1657)).bd fun y1660 d1661 => Res.ok ((x1658, y1660), d1661)).bd fun y1664 d1665 => Res.ok ((x1662, y1664), d1665)).bd fun x1666 d1667 => Res.ok (([x1666.1, x1666.2.1, x1666.2.2.1, x1666.2.2.2.1, x1666.2.2.2.2.1] : List Int), d1667)).bd fun y1670 d1671 => optAt (gCat x1668 y1670) d1671).bs (fun d => ()) fun spots1672 d1673 =>
 (((Res.ok (line_here1614, d1673)).bd fun o1686 d1687 => ((((Res.ok (spots1672, d1687)).bd fun x1674 d1675 => (Res.ok ((0 : Int), d1675)).bd fun y1676 d1677 => optAt (gIx x1674 y1676) d1677).bd fun x1678 d1679 => (Res.ok (p1602.2.2, d1679)).bd fun y1680 d1681 => optAt (gSbt x1678 y1680) d1681).bd fun x1682 d1683 => (Res.ok ((), d1683)).bd fun y1684 d1685 => Res.ok ((x1682, y1684), d1685)).bd fun x1688 d1689 => (f_Lineseen_at (o1686, x1688)).at d1689).bd fun x1714 d1715 => (((((((Res.ok (spots1672, d1715)).bd fun x1690 d1691 => (Res.ok ((0 : Int), d1691)).bd fun y1692 d1693 => optAt (gIx x1690 y1692) d1693).bd fun x1698 d1699 => ((Res.ok (number_here1590, d1699)).bd fun x1694 d1695 => (Res.ok ((), d1695)).bd fun y1696 d1697 => Res.ok ((x1694, y1696), d1697)).bd fun y1700 d1701 => Res.ok ((x1698, y1700), d1701)).bd fun x1702 d1703 => Res.ok (([x1702.1, x1702.2.1] : List Int), d1703)).bd fun x1704 d1705 => (Res.ok ((), d1705)).bd fun y1706 d1707 => Res.ok ((x1704, y1706), d1707)).bd fun x1708 d1709 => (f_law_gcd x1708).at d1709).bd fun x1710 d1711 => (Res.ok ((1 : Int), d1711)).bd fun y1712 d1713 => optAt (gEqI x1710 y1712) d1713).bd fun y1716 d1717 => optAt (gNeB x1714 y1716) d1717).bs (fun d => ()) fun b1795 d1796 => ((if b1795 = true then (Res.ok (false, d1796)).bs (fun d => ()) fun r1720 d1721 => Bk.rt (r1720, ()) else Bk.nx ((), d1796) : Bk _ ((Unit) × (List Int × Unit)) _ _)).sq fun j1718 d1719 =>
 ((Res.ok (spots1672, d1719)).bd fun x1724 d1725 => ((Res.ok (spots1672, d1725)).bd fun x1722 d1723 => Res.ok (x1722.reverse, d1723)).bd fun y1726 d1727 => optAt (gCat x1724 y1726) d1727).bs (fun d => ()) fun x1791 d1789 => ((forB (κ := _) (fun a1728 (s1729 : Unit) (d1790 : List Int × Unit) =>
 ((Res.ok (line_here1614, d1790)).bd fun o1738 d1739 => (((Res.ok (a1728, d1739)).bd fun x1730 d1731 => (Res.ok (p1602.2.2, d1731)).bd fun y1732 d1733 => optAt (gSbt x1730 y1732) d1733).bd fun x1734 d1735 => (Res.ok ((), d1735)).bd fun y1736 d1737 => Res.ok ((x1734, y1736), d1737)).bd fun x1740 d1741 => (f_Lineseen_at (o1738, x1740)).at d1741).bs (fun d => d) fun seen1742 d1743 =>
 (((((Res.ok (seen1742, d1743)).bd fun x1748 d1749 => ((Res.ok ((), d1749)).bd fun x1744 d1745 => (Res.ok ((), d1745)).bd fun y1746 d1747 => Res.ok ((x1744, y1746), d1747)).bd fun y1750 d1751 => Res.ok ((x1748, y1750), d1751)).bd fun x1752 d1753 => optAt ((gCst true) x1752) d1753).bd fun x1754 d1755 => Res.ok (!x1754, d1755)).bd fun x1780 d1781 => if x1780 = true then Res.ok (true, d1781) else (Res.ok (seen1742, d1781)).bd fun x1776 d1777 => ((((((Res.ok (a1728, d1777)).bd fun x1760 d1761 => ((Res.ok (number_here1590, d1761)).bd fun x1756 d1757 => (Res.ok ((), d1757)).bd fun y1758 d1759 => Res.ok ((x1756, y1758), d1759)).bd fun y1762 d1763 => Res.ok ((x1760, y1762), d1763)).bd fun x1764 d1765 => Res.ok (([x1764.1, x1764.2.1] : List Int), d1765)).bd fun x1766 d1767 => (Res.ok ((), d1767)).bd fun y1768 d1769 => Res.ok ((x1766, y1768), d1769)).bd fun x1770 d1771 => (f_law_gcd x1770).at d1771).bd fun x1772 d1773 => (Res.ok ((1 : Int), d1773)).bd fun y1774 d1775 => optAt (gEqI x1772 y1774) d1775).bd fun y1778 d1779 => optAt (gNeB x1776 y1778) d1779).bs (fun d => d) fun b1786 d1787 => ((if b1786 = true then (Res.ok (false, d1787)).bs (fun d => d) fun r1784 d1785 => Bk.rt (r1784, d1785) else Bk.nx ((), d1787) : Bk _ ((Unit) × (List Int × Unit)) _ _)).sq fun j1782 d1783 =>
 Bk.nx ((), d1783)) x1791 () d1789).mapU (fun d => ())).sq fun s1788 d1794 =>
 appK2 (fun (o1792 : List Int) (d1793 : Unit) => Bk.nx ((), d1793)) d1794.1 ()) (pool_here1574, ())) x1801 () d1799).mapU (fun d => d)).sq fun s1798 d1804 =>
 (Res.ok (true, d1804)).bs (fun d => d) fun r1802 d1803 => Bk.rt (r1802, d1803)
noncomputable def f_law (a : (List Int) × Unit) : Res Er Bool := runP (l_law a.1 ())
theorem ok_lawF (T : Txt K mg A) : FnOk P w K mg base CX0 6 A.a_law A.f_law ["_law_script"] (spP (.cons (aLst K aI) .nil) aB f_law) := by
  refine T.F_law.ok sc_law (fun vs H Q E h => ?_) (fun cdv A' outer s H vs Q E hr h => ⟨_, (pss_cons (ps_for PassesOwn.never rfl (pi_range1 rfl T.n_range (pa_cons (pe_op op_add (pe_callB (call_min2 rfl) (by rfl) T.n_min (by decide +kernel) (pa_cons (pe_callB (klen rfl) (by rfl) T.n_len (by decide +kernel) (pa_cons (pv 0) pa_nil)) (pa_cons pe_int pa_nil))) pe_int) pa_nil)) (pg_name (i := 1) sc_law.nd rfl (Or.inl rfl))
 (pss_cons (ps_set (i := 2) sc_law.nd rfl (Or.inr rfl) (pe_call (ok_law_pool T) (hr.mono (by decide)) rfl T.g_law_pool T.k_law_pool T.b_law_pool .nil pass0 (pa_cons (pv 0) (pa_cons (pv 1) pa_nil))))
 (pss_cons (ps_set (i := 3) sc_law.nd rfl (Or.inl rfl) (pe_op op_add pe_int (pe_call (ok_law_take T) (hr.mono (by decide)) rfl T.g_law_take T.k_law_take T.b_law_take .nil pass0 (pa_cons (pv 2) (pa_cons pe_int pa_nil)))))
 (pss_cons (ps_set (i := 4) sc_law.nd rfl (Or.inl rfl) (pe_call (ok_law_number T) (hr.mono (by decide)) rfl T.g_law_number T.k_law_number T.b_law_number .nil pass0 (pa_cons (pv 2) pa_nil)))
 (pss_cons (ps_asg (pe_call (ok_law_line T) (hr.mono (by decide)) rfl T.g_law_line T.k_law_line T.b_law_line .nil pass0 (pa_cons (pv 2) (pa_cons (pv 4) (pa_cons (pv 3) pa_nil)))) (pg_tup rfl (pgs_cons (pg_name (i := 5) sc_law.nd rfl (Or.inl rfl)) (pgs_cons (pg_name (i := 6) sc_law.nd rfl (Or.inl rfl)) (pgs_cons (pg_name (i := 7) sc_law.nd rfl (Or.inl rfl)) pgs_nil)))))
 (pss_cons (ps_set (i := 8) sc_law.nd rfl (Or.inl rfl) (pe_make T.mk_Line (ok_LineUinitU T) (hr.mono (by decide)) rfl T.g_Line T.b_LineUinitU .nil passL (pa_cons (pv 5) (pa_cons (pv 6) pa_nil))))
 (pss_cons (ps_setLc (i := 9) (own := [("_law_turn", 12)]) (g := (gName 12)) rfl sc_law.nd rfl rfl (sw_true rfl rfl rfl (by decide +kernel)) (pi_range1 rfl T.n_range (pa_cons pe_int pa_nil)) (blkOk_by (own := [("_law_turn", 12)]) (N := N_law) (sc := defScope s_law) (by decide +kernel)) (fun _ _ _ _ _ => pg_name (i := 12) sc_law.nd rfl (Or.inl rfl)) (fun _ _ _ _ _ => pts_nil) (fun _ _ _ _ _ => (pe_call (ok_law_spot T) (hr.mono (by decide)) rfl T.g_law_spot T.k_law_spot T.b_law_spot .nil pass0 (pa_cons (pv 2) pa_nil))))
 (pss_cons (ps_set (i := 9) sc_law.nd rfl (Or.inl rfl) (pe_op (kcatR rfl) (pv 9) (pe_lst (pa_cons (pe_op op_add (pe_op op_mulA (pe_op op_fdivW (pe_call (ok_law_spot T) (hr.mono (by decide)) rfl T.g_law_spot T.k_law_spot T.b_law_spot .nil pass0 (pa_cons (pv 2) pa_nil)) pe_int) (pv 4)) pe_int) (pa_cons pe_int (pa_cons (pe_un un_neg pe_int) (pa_cons pe_int (pa_cons (pv 4) pa_nil))))))))
 (pss_cons (ps_if (pt_cmpR op_ne (pe_methK0 (pv 8) T.cl_Line ⟨T.at_Lineseen_at, T.fn_Lineseen_at, T.k_Lineseen_at⟩ (ok_Lineseen_at T) (hr.mono (by decide)) T.kb_Lineseen_at pass0 (pk_cons (pe_op op_sub (pe_ix (kix_list rfl) (pv 9) pe_int (fun _ _ => rfl)) (pv 7)) pk_nil)) (pe_cmpR op_eq (pe_call (ok_law_gcd T) (hr.mono (by decide)) rfl T.g_law_gcd T.k_law_gcd T.b_law_gcd .nil pass0 (pa_cons (pe_lst (pa_cons (pe_ix (kix_list rfl) (pv 9) pe_int (fun _ _ => rfl)) (pa_cons (pv 4) pa_nil))) pa_nil)) pe_int (nomark _)) (nomark _))
 (pss_one (ps_ret pe_bl))
 pss_nil)
 (pss_cons (ps_for PassesOwn.never rfl (kpi_list rfl (pe_op (kcatR rfl) (pv 9) (kpe_revL rfl (pv 9)))) (pg_name (i := 10) sc_law.nd rfl (Or.inl rfl))
 (pss_cons (ps_set (i := 11) sc_law.nd rfl (Or.inl rfl) (pe_meth (pv 8) T.cl_Line ⟨T.at_Lineseen_at, T.fn_Lineseen_at, T.k_Lineseen_at⟩ (ok_Lineseen_at T) (hr.mono (by decide)) T.b_Lineseen_at .nil pass0 (pa_cons (pe_op op_sub (pv 10) (pv 7)) pa_nil)))
 (pss_cons (ps_if (PW.pt (pw_or (pt_not (pt_val (pe_callB (kisi rfl) (by rfl) T.n_isinstance (by decide +kernel) (pa_cons (pv 11) (pa_cons (pe_bltn (v := .ty "bool") (u := .type "bool") (by rfl) T.n_bool (by decide +kernel) rfl) pa_nil))))) (pw_or1 (pt_cmpR op_ne (pv 11) (pe_cmpR op_eq (pe_call (ok_law_gcd T) (hr.mono (by decide)) rfl T.g_law_gcd T.k_law_gcd T.b_law_gcd .nil pass0 (pa_cons (pe_lst (pa_cons (pv 10) (pa_cons (pv 4) pa_nil))) pa_nil)) pe_int (nomark _)) (nomark _)))))
 (pss_one (ps_ret pe_bl))
 pss_nil)
 pss_nil)))
 pss_nil))))))))))
 (pss_one (ps_ret pe_bl))), ?_⟩)
  · obtain ⟨a, ha, _⟩ := h
    exact (al_len (cs := []) ha).trans rfl
  · refine run_P (K := K) (f := f_law) (cs := [false]) (m := fun a => l_law a.1) (clA A) (.no .nil) (fun _ => rfl) h fun S a => ?_
    show TSj _ [.bo ((aLst K aI).at (a.1)), .no, .no, .no, .no, .no, .no, .no, .no, .no, .no, .no, .no] .nil _ (l_law a.1) _ _ _
    unfold l_law
    exact (ts_for (c2 := true) (τ := Unit) (gl := fun (s1563 : Unit) => [.bo ((aLst K aI).at (a.1)), .no, .no, .no, .no, .no, .no, .no, .no, .no, .no, .no, .no]) (s0 := ()) (Γb := fun (s1563 : Unit) a1562 => [.bo ((aLst K aI).at (a.1)), .fz (aI.at a1562), .no, .no, .no, .no, .no, .no, .no, .no, .no, .no, .no]) ext_P (.inl rfl) (ti_rng1 (ta_cons (tj_op ot_add (tj_cb cb_min2 (ta_cons (TEj.dat (c' := true) aI.dat (tj_cb cb_lenL (ta_cons (tj_bor (i := 0) rfl) ta_nil))) (ta_cons tj_int ta_nil))) tj_int) ta_nil)) (.keep (.keep (.keep (.keep (.keep (.keep (.keep (.keep (.keep (.keep (.keep (.keep (.keep .nil))))))))))))) (fun _ _ _ => tg_name)
 (fun _ _ s1563 a1562 => (ts_asgO (i := 2) (Γ' := [.bo ((aLst K aI).at (a.1)), .fz (aI.at a1562), .ow 0, .no, .no, .no, .no, .no, .no, .no, .no, .no, .no]) ext_loop .nil Sn.nil (tn_call (c := false) rfl (ta_cons (tj_bor (i := 0) rfl) (ta_cons (TEj.weak (tj_var (i := 1) rfl)) ta_nil))) rfl
 (ts_asg (i := 3) (c := true) (Γ' := fun size1586 => [.bo ((aLst K aI).at (a.1)), .fz (aI.at a1562), .ow 0, .fz (aI.at size1586), .no, .no, .no, .no, .no, .no, .no, .no, .no]) (ext_push Sn.nil (Nat.le_of_ble_eq_true rfl) ext_loop) (tj_op ot_add tj_int (tj_callW (c := true) (i := 2) (j := 0) rfl rfl Ix.z (ta_cons tj_int ta_nil))) (fun _ => rfl)
 (fun size1586 => (ts_asg (i := 4) (c := true) (Γ' := fun number_here1590 => [.bo ((aLst K aI).at (a.1)), .fz (aI.at a1562), .ow 0, .fz (aI.at size1586), .fz (aI.at number_here1590), .no, .no, .no, .no, .no, .no, .no, .no]) (ext_push Sn.nil (Nat.le_of_ble_eq_true rfl) ext_loop) (tj_callW (c := true) (i := 2) (j := 0) rfl rfl Ix.z ta_nil) (fun _ => rfl)
 (fun number_here1590 => (ts_asgG (c := true) (Γ' := fun p1602 => [.bo ((aLst K aI).at (a.1)), .fz (aI.at a1562), .ow 0, .fz (aI.at size1586), .fz (aI.at number_here1590), .fz ((aTup aI).at p1602.1), .fz ((aTup aI).at p1602.2.1), .fz (aI.at p1602.2.2), .no, .no, .no, .no, .no]) (ext_push Sn.nil (Nat.le_of_ble_eq_true rfl) ext_loop) (tj_callW (c := true) (i := 2) (j := 0) rfl rfl Ix.z (ta_cons (tj_var (i := 4) rfl) (ta_cons (tj_var (i := 3) rfl) ta_nil))) (tg_t3 tg_name (fun _ => tg_name) (fun _ _ => tg_name))
 (fun p1602 => (ts_asg (i := 8) (c := true) (Γ' := fun line_here1614 => [.bo ((aLst K aI).at (a.1)), .fz (aI.at a1562), .ow 0, .fz (aI.at size1586), .fz (aI.at number_here1590), .fz ((aTup aI).at p1602.1), .fz ((aTup aI).at p1602.2.1), .fz (aI.at p1602.2.2), .fz ((aIns A.a_cLine (fl_Line K)).at line_here1614), .no, .no, .no, .no]) (ext_push Sn.nil (Nat.le_of_ble_eq_true rfl) ext_loop) (tj_make0 (c := true) rfl (ta_cons (tj_var (i := 5) rfl) (ta_cons (tj_var (i := 6) rfl) ta_nil))) (fun _ => rfl)
 (fun line_here1614 => (ts_asg (i := 9) (c := true) (Γ' := fun spots1628 => [.bo ((aLst K aI).at (a.1)), .fz (aI.at a1562), .ow 0, .fz (aI.at size1586), .fz (aI.at number_here1590), .fz ((aTup aI).at p1602.1), .fz ((aTup aI).at p1602.2.1), .fz (aI.at p1602.2.2), .fz ((aIns A.a_cLine (fl_Line K)).at line_here1614), .fz ((aLst K aI).at spots1628), .no, .no, .no]) (ext_push Sn.nil (Nat.le_of_ble_eq_true rfl) ext_loop) (TNj.te (tn_lc (c2 := true) (vs := [12]) (Γw := [.bo ((aLst K aI).at (a.1)), .fz (aI.at a1562), .ow 0, .fz (aI.at size1586), .fz (aI.at number_here1590), .fz ((aTup aI).at p1602.1), .fz ((aTup aI).at p1602.2.1), .fz (aI.at p1602.2.2), .fz ((aIns A.a_cLine (fl_Line K)).at line_here1614), .no, .no, .no, .no]) (Γb := fun a1622 => [.bo ((aLst K aI).at (a.1)), .fz (aI.at a1562), .ow 0, .fz (aI.at size1586), .fz (aI.at number_here1590), .fz ((aTup aI).at p1602.1), .fz ((aTup aI).at p1602.2.1), .fz (aI.at p1602.2.2), .fz ((aIns A.a_cLine (fl_Line K)).at line_here1614), .no, .no, .no, .fz (aI.at a1622)]) rfl (.inl rfl) rfl (ti_rng1 (ta_cons tj_int ta_nil)) (fun _ => tg_name) (by decide) (fun _ a1622 => tt_yes) (fun _ a1622 => (tj_callW (c := true) (i := 2) (j := 0) rfl rfl Ix.z ta_nil)))) (fun _ => rfl)
 (fun spots1628 => (ts_asg (i := 9) (c := true) (Γ' := fun spots1672 => [.bo ((aLst K aI).at (a.1)), .fz (aI.at a1562), .ow 0, .fz (aI.at size1586), .fz (aI.at number_here1590), .fz ((aTup aI).at p1602.1), .fz ((aTup aI).at p1602.2.1), .fz (aI.at p1602.2.2), .fz ((aIns A.a_cLine (fl_Line K)).at line_here1614), .fz ((aLst K aI).at spots1672), .no, .no, .no]) (ext_push Sn.nil (Nat.le_of_ble_eq_true rfl) ext_loop) (TNj.te (tn_op on_cat (tj_var (i := 9) rfl) (TNj.te (tn_lst (R := aI) (.cons (.cons (.cons (.cons (.cons .nil))))) (by intro a; show 5 ≤ sizeLine; decide) (ta_cons (tj_op ot_add (tj_op ot_mul (tj_op ot_div (tj_callW (c := true) (i := 2) (j := 0) rfl rfl Ix.z ta_nil) tj_int) (tj_var (i := 4) rfl)) tj_int) (ta_cons tj_int (ta_cons (tj_un ut_neg tj_int) (ta_cons tj_int (ta_cons (tj_var (i := 4) rfl) ta_nil))))))))) (fun _ => rfl)
 (fun spots1672 => (ts_if (τ := Unit) (Δ' := (.cons (oLst aI) .nil)) (g := fun (j1718 : Unit) => [.bo ((aLst K aI).at (a.1)), .fz (aI.at a1562), .ow 0, .fz (aI.at size1586), .fz (aI.at number_here1590), .fz ((aTup aI).at p1602.1), .fz ((aTup aI).at p1602.2.1), .fz (aI.at p1602.2.2), .fz ((aIns A.a_cLine (fl_Line K)).at line_here1614), .fz ((aLst K aI).at spots1672), .no, .no, .no]) (ext_push Sn.nil (Nat.le_of_ble_eq_true rfl) ext_loop) (tt_test (tj_op ot_neB (tj_methK (fl := fl_Line K) (c := true) hs_Line_seen_at al_j1 (sv_P rfl) (tj_var (i := 8) rfl) (ta_cons (tj_op ot_sub (tj_op ot_ixL (tj_var (i := 9) rfl) tj_int) (tj_var (i := 7) rfl)) ta_nil)) (tj_op ot_eq (tj_call (c := true) rfl (ta_cons (TNj.te (tn_lst (R := aI) (.cons (.cons .nil)) (by intro a; show 2 ≤ sizeLine; decide) (ta_cons (tj_op ot_ixL (tj_var (i := 9) rfl) tj_int) (ta_cons (tj_var (i := 4) rfl) ta_nil)))) ta_nil)) tj_int)))
 (ts_ret (ext_push Sn.nil (Nat.le_of_ble_eq_true rfl) ext_loop) tj_bl)
 (ts_nxle (.keep (.keep (.keep (.keep (.keep (.keep (.keep (.keep (.keep (.keep (.keep (.keep (.keep .nil))))))))))))))
 (fun j1718 => (ts_for (c2 := true) (τ := Unit) (gl := fun (s1729 : Unit) => [.bo ((aLst K aI).at (a.1)), .fz (aI.at a1562), .ow 0, .fz (aI.at size1586), .fz (aI.at number_here1590), .fz ((aTup aI).at p1602.1), .fz ((aTup aI).at p1602.2.1), .fz (aI.at p1602.2.2), .fz ((aIns A.a_cLine (fl_Line K)).at line_here1614), .fz ((aLst K aI).at spots1672), .no, .no, .no]) (s0 := ()) (Γb := fun (s1729 : Unit) a1728 => [.bo ((aLst K aI).at (a.1)), .fz (aI.at a1562), .ow 0, .fz (aI.at size1586), .fz (aI.at number_here1590), .fz ((aTup aI).at p1602.1), .fz ((aTup aI).at p1602.2.1), .fz (aI.at p1602.2.2), .fz ((aIns A.a_cLine (fl_Line K)).at line_here1614), .fz ((aLst K aI).at spots1672), .fz (aI.at a1728), .no, .no]) (ext_push Sn.nil (Nat.le_of_ble_eq_true rfl) ext_loop) (.inl rfl) (ti_list (TNj.te (tn_op on_cat (tj_var (i := 9) rfl) (TNj.te (tn_revL (tj_var (i := 9) rfl)))))) (.keep (.keep (.keep (.keep (.keep (.keep (.keep (.keep (.keep (.keep (.keep (.keep (.keep .nil))))))))))))) (fun _ _ _ => tg_name)
 (fun _ _ s1729 a1728 => (ts_asg (i := 11) (c := true) (Γ' := fun seen1742 => [.bo ((aLst K aI).at (a.1)), .fz (aI.at a1562), .ow 0, .fz (aI.at size1586), .fz (aI.at number_here1590), .fz ((aTup aI).at p1602.1), .fz ((aTup aI).at p1602.2.1), .fz (aI.at p1602.2.2), .fz ((aIns A.a_cLine (fl_Line K)).at line_here1614), .fz ((aLst K aI).at spots1672), .fz (aI.at a1728), .fz (aB.at seen1742), .no]) ext_loop (tj_meth (fl := fl_Line K) (c := true) hs_Line_seen_at (sv_P rfl) (tj_var (i := 8) rfl) (ta_cons (tj_op ot_sub (tj_var (i := 10) rfl) (tj_var (i := 7) rfl)) ta_nil)) (fun _ => rfl)
 (fun seen1742 => (ts_if (τ := Unit) (Δ' := (.cons (oLst aI) .nil)) (g := fun (j1782 : Unit) => [.bo ((aLst K aI).at (a.1)), .fz (aI.at a1562), .ow 0, .fz (aI.at size1586), .fz (aI.at number_here1590), .fz ((aTup aI).at p1602.1), .fz ((aTup aI).at p1602.2.1), .fz (aI.at p1602.2.2), .fz ((aIns A.a_cLine (fl_Line K)).at line_here1614), .fz ((aLst K aI).at spots1672), .fz (aI.at a1728), .fz (aB.at seen1742), .no]) ext_loop (tt_or (tt_not (tt_B (tj_cb (cb_isi (b := true) ty_B (kit_ty (by decide +kernel))) (ta_cons (tj_var (i := 11) rfl) (ta_cons tj_ty ta_nil))))) (tt_test (tj_op ot_neB (tj_var (i := 11) rfl) (tj_op ot_eq (tj_call (c := true) rfl (ta_cons (TNj.te (tn_lst (R := aI) (.cons (.cons .nil)) (by intro a; show 2 ≤ sizeLine; decide) (ta_cons (tj_var (i := 10) rfl) (ta_cons (tj_var (i := 4) rfl) ta_nil)))) ta_nil)) tj_int))))
 (ts_ret ext_loop tj_bl)
 (ts_nxle (.keep (.keep (.keep (.keep (.keep (.keep (.keep (.keep (.keep (.keep (.keep (.keep (.keep .nil))))))))))))))
 (fun j1782 => (ts_nxle (.keep (.keep (.keep (.keep (.keep (.keep (.keep (.keep (.keep (.keep (.drop (.drop (.keep .nil)))))))))))))))))))
 (fun s1788 => (ts_pop (Γ2 := fun o1792 => [.bo ((aLst K aI).at (a.1)), .fz (aI.at a1562), .no, .fz (aI.at size1586), .fz (aI.at number_here1590), .fz ((aTup aI).at p1602.1), .fz ((aTup aI).at p1602.2.1), .fz (aI.at p1602.2.2), .fz ((aIns A.a_cLine (fl_Line K)).at line_here1614), .fz ((aLst K aI).at spots1672), .no, .no, .no]) (omv_L (K := K)) Sn.nil (Nat.le_of_ble_eq_true rfl) (fun o1792 => (.bo (.val (.no (.val (.val (.val (.val (.val (.val (.val (.no (.no (.no .nil)))))))))))))) (fun o1792 => (ts_nxle (.keep (.drop (.keep (.drop (.drop (.drop (.drop (.drop (.drop (.drop (.keep (.keep (.keep .nil))))))))))))))))))))))))))))))))))
 (fun s1798 => (ts_ret ext_P tj_bl)))
theorem foldl_gcd : ∀ (ns : List Int) (g : Nat), ns.foldl (fun (s : Int) (a : Int) => ((Nat.gcd s.natAbs a.natAbs : Nat) : Int)) (g : Int) = ((Nat.gcd g (gcdL ns) : Nat) : Int)
  | [], g => by simp [gcdL]
  | a :: r, g => by
    rw [List.foldl_cons, gcdL]
    rw [Int.natAbs_natCast, foldl_gcd r, Nat.gcd_assoc]
theorem wh_gen {τ ρ κ : Type} {t : τ → Unit → Res (Er × Unit) (Bool × Unit)} {b : τ → Unit → Bk (Er × Unit) (τ × Unit) (τ × Unit) (ρ × Unit)} {P : τ → Prop} {c : τ → Bool} {step : τ → τ} {μ : τ → Nat} (ht : ∀ s, P s → t s () = .ok (c s, ())) (hb : ∀ s, P s → c s = true → b s () = .nx (step s, ()) ∧ P (step s) ∧ μ (step s) < μ s) : ∀ (n : Nat) (s : τ), P s → μ s < n → ∃ s', (whB t b n s () : Bk (Er × Unit) (τ × Unit) κ (ρ × Unit)) = .nx (s', ()) ∧ P s' ∧ c s' = false
  | 0, s, _, h => absurd h (Nat.not_lt_zero _)
  | n + 1, s, hP, h => by
    unfold whB
    rw [ht s hP, Res.ok_bs]
    by_cases hc : c s = true
    · obtain ⟨h1, h2, h3⟩ := hb s hP hc
      rw [if_pos hc, h1]
      exact wh_gen ht hb n (step s) h2 (by omega)
    · rw [if_neg hc]
      exact ⟨s, rfl, hP, by simpa using hc⟩
theorem wh_go {τ ρ κ β' υ' : Type} {t : τ → Unit → Res (Er × Unit) (Bool × Unit)} {b : τ → Unit → Bk (Er × Unit) (τ × Unit) (τ × Unit) (ρ × Unit)} {g : Unit → υ'} {kk : τ → Unit → Bk (Er × υ') β' κ (ρ × υ')} {n : Nat} {s : τ} {d : Unit} (Q : Bk (Er × υ') β' κ (ρ × υ') → Prop) (P : τ → Prop) (c : τ → Bool) (step : τ → τ) (μ : τ → Nat) (h0 : P s) (hn : μ s < n) (ht : ∀ s, P s → t s () = .ok (c s, ())) (hb : ∀ s, P s → c s = true → b s () = .nx (step s, ()) ∧ P (step s) ∧ μ (step s) < μ s) (hk : ∀ s', P s' → c s' = false → Q (kk s' ())) : Q (((whB (κ := κ) t b n s d).mapU g).sq kk) := by
  obtain ⟨s', e, h1, h2⟩ := wh_gen (κ := κ) ht hb n s h0 hn
  rw [show d = () from rfl, e]
  exact hk s' h1 h2
theorem fd_spec {a b : Int} (hb : b ≠ 0) : (0 < b → 0 ≤ a - a.fdiv b * b ∧ a - a.fdiv b * b < b) ∧ (b < 0 → b < a - a.fdiv b * b ∧ a - a.fdiv b * b ≤ 0) := by
  have h1 := Int.mul_ediv_add_emod a b
  have h2 := Int.emod_nonneg a hb
  have h3 := Int.emod_lt a hb
  rw [Int.fdiv_eq_ediv]
  have e : a / b * b = b * (a / b) := Int.mul_comm ..
  by_cases hc : 0 ≤ b ∨ b ∣ a
  · rw [if_pos hc]
    have e0 : (a / b - 0) * b = b * (a / b) := by rw [Int.sub_zero, e]
    rw [e0]
    refine ⟨fun h => ?_, fun h => ?_⟩
    · omega
    · have hd : b ∣ a := hc.resolve_left (by omega)
      have := Int.emod_eq_zero_of_dvd hd
      omega
  · rw [if_neg hc]
    have e0 : (a / b - 1) * b = b * (a / b) - b := by rw [Int.sub_mul, e, Int.one_mul]
    rw [e0]
    refine ⟨fun h => absurd (.inl (by omega)) hc, fun h => ?_⟩
    have hne : a % b ≠ 0 := fun z => hc (.inr (Int.dvd_of_emod_eq_zero z))
    omega
/-- of one sign, the second not farther from 0 -/
def Sgn (o t : Int) : Prop := (0 < o ∧ 0 ≤ t ∧ t ≤ o) ∨ (o < 0 ∧ t ≤ 0 ∧ o ≤ t)
theorem co_bd {x z o t b e : Int} (hs : Sgn o t) (hx : x * z ≤ 0) (h : x * t - z * o = e * b) (he : e = 1 ∨ e = -1) : z.natAbs ≤ b.natAbs := by
  have hb : (e * b).natAbs = b.natAbs := by rcases he with rfl | rfl <;> simp
  rw [← hb, ← h]
  rcases Int.lt_trichotomy z 0 with hz | hz | hz
  · have hx0 : 0 ≤ x := by
      refine Classical.byContradiction fun hc => ?_
      have := Int.mul_pos_of_neg_of_neg (show x < 0 by omega) hz
      omega
    rcases hs with ⟨h1, h2, _⟩ | ⟨h1, h2, _⟩
    · have p1 := Int.mul_nonneg hx0 h2
      have p2 : z * o ≤ z * 1 := Int.mul_le_mul_of_nonpos_left (by omega) (by omega)
      omega
    · have p1 : x * t ≤ 0 := Int.mul_nonpos_of_nonneg_of_nonpos hx0 h2
      have p2 : z * (-1) ≤ z * o := Int.mul_le_mul_of_nonpos_left (by omega) (by omega)
      omega
  · subst hz; simp
  · have hx0 : x ≤ 0 := by
      refine Classical.byContradiction fun hc => ?_
      have := Int.mul_pos (show 0 < x by omega) hz
      omega
    rcases hs with ⟨h1, h2, _⟩ | ⟨h1, h2, _⟩
    · have p1 : x * t ≤ 0 := Int.mul_nonpos_of_nonpos_of_nonneg hx0 h2
      have p2 : z * 1 ≤ z * o := Int.mul_le_mul_of_nonneg_left (by omega) (by omega)
      omega
    · have p1 : 0 ≤ x * t := Int.mul_nonneg_of_nonpos_of_nonpos hx0 h2
      have p2 : z * o ≤ z * (-1) := Int.mul_le_mul_of_nonneg_left (by omega) (by omega)
      omega
abbrev TW := Int × Int × List Int × List Int
structure JW (A B : Int) (s : TW) (w0 w1 f0 f1 : Int) : Prop where
  w : s.2.2.1 = [w0, w1]
  f : s.2.2.2 = [f0, f1]
  one : w0 * A + w1 * B = s.1
  oth : f0 * A + f1 * B = s.2.1
  det : w0 * f1 - w1 * f0 = 1 ∨ w0 * f1 - w1 * f0 = -1
structure GW (B r m : Int) (s : TW) (w0 w1 f0 f1 x y z t : Int) : Prop where
  one : s.1 = x * B + y * r
  oth : s.2.1 = z * B + t * r
  det : x * t - y * z = 1 ∨ x * t - y * z = -1
  xz : x * z ≤ 0
  yt : y * t ≤ 0
  e1 : w0 = y
  e2 : w1 = x - m * y
  e3 : f0 = t
  e4 : f1 = z - m * t
  sg : Sgn s.1 s.2.1
  big : s.1.natAbs ≤ B.natAbs
  bx : x.natAbs ≤ B.natAbs + 1
  by_ : y.natAbs ≤ B.natAbs + 1
  bz : z.natAbs ≤ B.natAbs + 1
  bt : t.natAbs ≤ B.natAbs + 1
def stepW (s : TW) : TW := (s.2.1, s.1 - s.1.fdiv s.2.1 * s.2.1, s.2.2.2, [s.2.2.1.getD 0 0 - s.1.fdiv s.2.1 * s.2.2.2.getD 0 0, s.2.2.1.getD 1 0 - s.1.fdiv s.2.1 * s.2.2.2.getD 1 0])
theorem JW.step {A B w0 w1 f0 f1 : Int} {s : TW} (h : JW A B s w0 w1 f0 f1) : JW A B (stepW s) f0 f1 (w0 - s.1.fdiv s.2.1 * f0) (w1 - s.1.fdiv s.2.1 * f1) := by
  have h1 := h.one
  have h2 := h.oth
  have h3 := h.det
  generalize hq : s.1.fdiv s.2.1 = q
  refine ⟨h.f, ?_, h2, ?_, ?_⟩
  · show [s.2.2.1.getD 0 0 - s.1.fdiv s.2.1 * s.2.2.2.getD 0 0, s.2.2.1.getD 1 0 - s.1.fdiv s.2.1 * s.2.2.2.getD 1 0] = _
    rw [h.w, h.f, hq]
    rfl
  · show _ = s.1 - s.1.fdiv s.2.1 * s.2.1
    rw [hq]
    grind
  · rcases h3 with h3 | h3
    · exact .inr (by grind)
    · exact .inl (by grind)
theorem sgn_step {o t : Int} (h : Sgn o t) (ht : t ≠ 0) : Sgn t (o - o.fdiv t * t) ∧ 1 ≤ o.fdiv t ∧ (o - o.fdiv t * t).natAbs < t.natAbs := by
  obtain ⟨h1, h2⟩ := fd_spec (a := o) ht
  generalize hq : o.fdiv t = q at *
  rcases h with ⟨a, b, c⟩ | ⟨a, b, c⟩
  · obtain ⟨r1, r2⟩ := h1 (by omega)
    refine ⟨.inl ⟨by omega, r1, by omega⟩, ?_, by omega⟩
    refine Classical.byContradiction fun hc => ?_
    have : q * t ≤ 0 := Int.mul_nonpos_of_nonpos_of_nonneg (by omega) b
    omega
  · obtain ⟨r1, r2⟩ := h2 (by omega)
    refine ⟨.inr ⟨by omega, r2, by omega⟩, ?_, by omega⟩
    refine Classical.byContradiction fun hc => ?_
    have : 0 ≤ q * t := Int.mul_nonneg_of_nonpos_of_nonpos (by omega) b
    omega
theorem opp_step {x z q : Int} (h : x * z ≤ 0) (hq : 0 ≤ q) : z * (x - q * z) ≤ 0 := by
  have h1 : 0 ≤ z * z := by
    rcases Int.le_total 0 z with h | h
    · exact Int.mul_nonneg h h
    · exact Int.mul_nonneg_of_nonpos_of_nonpos h h
  have h2 : 0 ≤ q * (z * z) := Int.mul_nonneg hq h1
  grind
theorem GW.step {B r m w0 w1 f0 f1 x y z t : Int} {s : TW} (h : GW B r m s w0 w1 f0 f1 x y z t) (hr : r.natAbs ≤ B.natAbs) (h0 : s.2.1 ≠ 0) : GW B r m (stepW s) f0 f1 (w0 - s.1.fdiv s.2.1 * f0) (w1 - s.1.fdiv s.2.1 * f1) z t (x - s.1.fdiv s.2.1 * z) (y - s.1.fdiv s.2.1 * t) := by
  obtain ⟨g1, g2, g3⟩ := sgn_step h.sg h0
  have o1 := h.one
  have o2 := h.oth
  have o3 := h.det
  have o4 := h.sg
  have o5 := h.big
  have hone : (stepW s).1 = s.2.1 := rfl
  have hoth : (stepW s).2.1 = s.1 - s.1.fdiv s.2.1 * s.2.1 := rfl
  have c1 : z * (x - s.1.fdiv s.2.1 * z) ≤ 0 := opp_step h.xz (by omega)
  have c2 : t * (y - s.1.fdiv s.2.1 * t) ≤ 0 := opp_step h.yt (by omega)
  have e1 := h.e1
  have e2 := h.e2
  have e3 := h.e3
  have e4 := h.e4
  have d1 : z * (s.1 - s.1.fdiv s.2.1 * s.2.1) - (x - s.1.fdiv s.2.1 * z) * s.2.1 = -(x * t - y * z) * r := by
    generalize s.1.fdiv s.2.1 = q
    rw [o1, o2]
    grind
  have d2 : t * (s.1 - s.1.fdiv s.2.1 * s.2.1) - (y - s.1.fdiv s.2.1 * t) * s.2.1 = (x * t - y * z) * B := by
    generalize s.1.fdiv s.2.1 = q
    rw [o1, o2]
    grind
  have b1 := co_bd (b := r) g1 c1 d1 (by omega)
  have b2 := co_bd (b := B) g1 c2 d2 o3
  generalize hq : s.1.fdiv s.2.1 = q at *
  refine ⟨hone.trans o2, ?_, ?_, c1, c2, e3, e4, ?_, ?_, ?_, ?_, h.bz, h.bt, by omega, by omega⟩
  · rw [hoth]
    grind
  · rcases o3 with o3 | o3
    · exact .inr (by grind)
    · exact .inl (by grind)
  · rw [e1, e3]
  · rw [e2, e4]
    grind
  · rw [hone, hoth]
    exact g1
  · rw [hone]
    rcases o4 with ⟨u, v, w⟩ | ⟨u, v, w⟩ <;> omega
theorem fdiv_bd {a b : Int} {k : Nat} (hb : b ≠ 0) (ha : a.natAbs < 2 ^ k) (hb2 : b.natAbs < 2 ^ k) : (a.fdiv b).natAbs < 2 ^ (k + 1) := by
  obtain ⟨h1, h2⟩ := fd_spec (a := a) hb
  have h3 : (a.fdiv b).natAbs ≤ (a.fdiv b * b).natAbs := by
    rw [Int.natAbs_mul]
    exact Nat.le_mul_of_pos_right _ (by omega)
  have h4 : (a.fdiv b * b).natAbs ≤ a.natAbs + b.natAbs := by
    generalize a.fdiv b * b = p at *
    rcases Int.lt_or_lt_of_ne hb with z | z
    · have := h2 z; omega
    · have := h1 z; omega
  rw [Nat.pow_succ]
  omega
theorem mul_sm {a b : Int} {x y : Nat} (ha : a.natAbs < 2 ^ x) (hb : b.natAbs < 2 ^ y) : (a * b).natAbs < 2 ^ (x + y) := by
  rw [Int.natAbs_mul, Nat.pow_add]
  exact Nat.mul_lt_mul'' ha hb
theorem sub_sm {a b : Int} {x : Nat} (ha : a.natAbs < 2 ^ x) (hb : b.natAbs < 2 ^ x) : (a - b).natAbs < 2 ^ (x + 1) := by
  rw [Nat.pow_succ]
  omega
theorem up_sm {a : Int} {x y : Nat} (ha : a.natAbs < 2 ^ x) (h : x ≤ y) : a.natAbs < 2 ^ y := Nat.lt_of_lt_of_le ha (Nat.pow_le_pow_right (by decide) h)
theorem GW.size {B r m w0 w1 f0 f1 x y z t : Int} {s : TW} {k : Nat} (h : GW B r m s w0 w1 f0 f1 x y z t) (hB : B.natAbs < 2 ^ k) (hm : m.natAbs < 2 ^ (k + 1)) : w0.natAbs < 2 ^ (2 * k + 3) ∧ w1.natAbs < 2 ^ (2 * k + 3) ∧ f0.natAbs < 2 ^ (2 * k + 3) ∧ f1.natAbs < 2 ^ (2 * k + 3) := by
  have one : ∀ {v : Int}, v.natAbs ≤ B.natAbs + 1 → v.natAbs < 2 ^ (k + 1) := fun {v} hv => by
    rw [Nat.pow_succ]
    have := Nat.two_pow_pos k
    omega
  have bx := one h.bx
  have b2 := one h.by_
  have bz := one h.bz
  have bt := one h.bt
  have my := mul_sm hm b2
  have mt := mul_sm hm bt
  have e : k + 1 + (k + 1) = 2 * k + 2 := by omega
  rw [e] at my mt
  refine ⟨?_, ?_, ?_, ?_⟩
  · rw [h.e1]; exact up_sm b2 (by omega)
  · rw [h.e2]; exact sub_sm (up_sm bx (by omega)) my
  · rw [h.e3]; exact up_sm bt (by omega)
  · rw [h.e4]; exact sub_sm (up_sm bz (by omega)) mt
def PW (A B : Int) (s : TW) : Prop := ∃ w0 w1 f0 f1, JW A B s w0 w1 f0 f1 ∧ (s = (A, B, [1, 0], [0, 1]) ∨ ∃ x y z t, GW B (A - A.fdiv B * B) (A.fdiv B) s w0 w1 f0 f1 x y z t ∧ B ≠ 0)
theorem PW.start (A B : Int) : PW A B (A, B, [1, 0], [0, 1]) := ⟨1, 0, 0, 1, ⟨rfl, rfl, by show 1 * A + 0 * B = A; omega, by show 0 * A + 1 * B = B; omega, .inl rfl⟩, .inl rfl⟩
theorem PW.size {A B : Int} {s : TW} {k : Nat} (h : PW A B s) (hA : A.natAbs < 2 ^ k) (hB : B.natAbs < 2 ^ k) : ∃ w0 w1 f0 f1, JW A B s w0 w1 f0 f1 ∧ w0.natAbs < 2 ^ (2 * k + 3) ∧ w1.natAbs < 2 ^ (2 * k + 3) ∧ f0.natAbs < 2 ^ (2 * k + 3) ∧ f1.natAbs < 2 ^ (2 * k + 3) ∧ s.1.natAbs < 2 ^ k ∧ s.2.1.natAbs < 2 ^ k := by
  obtain ⟨w0, w1, f0, f1, hJ, hs⟩ := h
  have p1 : 1 < 2 ^ (2 * k + 3) := Nat.one_lt_two_pow (by omega)
  rcases hs with rfl | ⟨x, y, z, t, hG, hB0⟩
  · have e1 := hJ.w
    have e2 := hJ.f
    have e1 : ([1, 0] : List Int) = [w0, w1] := e1
    have e2 : ([0, 1] : List Int) = [f0, f1] := e2
    injection e1 with a1 e1
    injection e1 with a2 _
    injection e2 with a3 e2
    injection e2 with a4 _
    subst a1 a2 a3 a4
    exact ⟨1, 0, 0, 1, hJ, p1, by show 0 < _; omega, by show 0 < _; omega, p1, hA, hB⟩
  · obtain ⟨s1, s2, s3, s4⟩ := hG.size hB (fdiv_bd hB0 hA hB)
    have b1 := hG.big
    have b2 : s.2.1.natAbs ≤ s.1.natAbs := by rcases hG.sg with ⟨_, _, _⟩ | ⟨_, _, _⟩ <;> omega
    exact ⟨w0, w1, f0, f1, hJ, s1, s2, s3, s4, by omega, by omega⟩
theorem PW.step {A B : Int} {s : TW} (h : PW A B s) (h0 : s.2.1 ≠ 0) : PW A B (stepW s) ∧ (stepW s).2.1.natAbs < s.2.1.natAbs := by
  obtain ⟨w0, w1, f0, f1, hJ, hs⟩ := h
  have hdec : (stepW s).2.1.natAbs < s.2.1.natAbs := by
    show (s.1 - s.1.fdiv s.2.1 * s.2.1).natAbs < _
    obtain ⟨h1, h2⟩ := fd_spec (a := s.1) h0
    generalize s.1.fdiv s.2.1 * s.2.1 = p at *
    rcases Int.lt_or_lt_of_ne h0 with z | z
    · have := h2 z; omega
    · have := h1 z; omega
  refine ⟨⟨_, _, _, _, hJ.step, .inr ?_⟩, hdec⟩
  rcases hs with rfl | ⟨x, y, z, t, hG, hB0⟩
  · have h0 : B ≠ 0 := h0
    have e1 : ([1, 0] : List Int) = [w0, w1] := hJ.w
    have e2 : ([0, 1] : List Int) = [f0, f1] := hJ.f
    injection e1 with a1 e1
    injection e1 with a2 _
    injection e2 with a3 e2
    injection e2 with a4 _
    subst a1 a2 a3 a4
    obtain ⟨h1, h2⟩ := fd_spec (a := A) h0
    have hd : (A - A.fdiv B * B).natAbs < B.natAbs := hdec
    refine ⟨1, 0, 0, 1, ⟨?_, ?_, .inl rfl, by decide, by decide, rfl, ?_, ?_, ?_, ?_, ?_, ?_, ?_, ?_, ?_⟩, h0⟩
    · show B = 1 * B + 0 * _; omega
    · show A - A.fdiv B * B = 0 * B + 1 * _; omega
    · show (1 : Int) = 1 - A.fdiv B * 0; omega
    · show (1 : Int) - A.fdiv B * 0 = 1; omega
    · rfl
    · show Sgn B (A - A.fdiv B * B)
      rcases Int.lt_or_lt_of_ne h0 with z | z
      · have := h2 z; exact .inr ⟨z, by omega, by omega⟩
      · have := h1 z; exact .inl ⟨z, by omega, by omega⟩
    · show B.natAbs ≤ B.natAbs; omega
    · show 1 ≤ _; omega
    · show 0 ≤ _; omega
    · show 0 ≤ _; omega
    · show 1 ≤ _; omega
  · refine ⟨_, _, _, _, hG.step ?_ h0, hB0⟩
    obtain ⟨h1, h2⟩ := fd_spec (a := A) hB0
    generalize A.fdiv B * B = p at *
    rcases Int.lt_or_lt_of_ne hB0 with z | z
    · have := h2 z; omega
    · have := h1 z; omega
theorem less2_ok (a b c d : Int) : f_less ([a, b], [c, d], ()) = .ok [a - c, b - d] := by
  unfold f_less l_less
  simp (config := { implicitDefEqProofs := false }) only [gIsU_n, gIsU_l, gIsU_r, Res.ok_bd, Res.bd_assoc, Res.bd_bs, Res.ok_bs, Res.ok_at, Res.ok_on, Res.ok_drop, Res.ok_wi, Res.ok_with, Res.noex_ok, optAt_some, appK_eq, appK2_eq, Bk.nx_sq, Bk.rt_sq, Bk.mapU_nx, Bk.mapU_rt, Bk.ex_sq, Res.ex_bs, Res.ex_at, Res.ex_bd, gAdd_e, gSbt_e, gLt_e, gLe_e, gGt_e, gGe_e, gEqI_e, gNeI_e, gEqB_e, gNeB_e, gIs_e, gIsnt_e, gId_e, gNeg_e, gLen_e, gCst_e, gMax2_e, gMin2_e, gAbs_e, gGcd_e, gBoolInt_e, gSum_e, gAny_e, gAll_e, gMem_e, gNmem_e, gIsN_e, gIsntN_e, gIsS_e, fT_yes, gEq_tup, gNe_tup, gEq_lst, gNe_lst, gEq_lstT, gNe_lstT, gIn_tup, gNin_tup, eq_self, if_true, if_false, Bool.false_eq_true, Bool.not_true, Bool.not_false, decide_true, Option.isNone, Option.isSome, gGet, reduceCtorEq, ]
  rw [lcA_map (g := fun q : Int × Int => q.1 - q.2) (by rw [sizeL]; exact Nat.le_of_ble_eq_true rfl) (fun q _ => by simp (config := { implicitDefEqProofs := false }) only [gIsU_n, gIsU_l, gIsU_r, Res.ok_bd, Res.bd_assoc, Res.bd_bs, Res.ok_bs, Res.ok_at, Res.ok_on, Res.ok_drop, Res.ok_wi, Res.ok_with, Res.noex_ok, optAt_some, appK_eq, appK2_eq, Bk.nx_sq, Bk.rt_sq, Bk.mapU_nx, Bk.mapU_rt, Bk.ex_sq, Res.ex_bs, Res.ex_at, Res.ex_bd, gAdd_e, gSbt_e, gLt_e, gLe_e, gGt_e, gGe_e, gEqI_e, gNeI_e, gEqB_e, gNeB_e, gIs_e, gIsnt_e, gId_e, gNeg_e, gLen_e, gCst_e, gMax2_e, gMin2_e, gAbs_e, gGcd_e, gBoolInt_e, gSum_e, gAny_e, gAll_e, gMem_e, gNmem_e, gIsN_e, gIsntN_e, gIsS_e, fT_yes, gEq_tup, gNe_tup, gEq_lst, gNe_lst, gEq_lstT, gNe_lstT, gIn_tup, gNin_tup, eq_self, if_true, if_false, Bool.false_eq_true, Bool.not_true, Bool.not_false, decide_true, Option.isNone, Option.isSome, gGet, reduceCtorEq, ])]
  rfl
theorem tw_ok {A B : Int} {k : Nat} (hA : A.natAbs < 2 ^ k) (hB : B.natAbs < 2 ^ k) (hk : k ≤ 1000) : ∃ u v, f_two_weights (A, B, ()) = .ok [u, v] ∧ u * A + v * B = ((Nat.gcd A.natAbs B.natAbs : Nat) : Int) ∧ u.natAbs < 2 ^ (2 * k + 3) ∧ v.natAbs < 2 ^ (2 * k + 3) := by
  have hk0 : 0 < k ∨ (A = 0 ∧ B = 0) := by
    rcases Nat.eq_zero_or_pos k with z | z
    · subst z
      exact .inr (by omega)
    · exact .inl z
  unfold f_two_weights l_two_weights
  simp (config := { implicitDefEqProofs := false }) only [gIsU_n, gIsU_l, gIsU_r, Res.ok_bd, Res.bd_assoc, Res.bd_bs, Res.ok_bs, Res.ok_at, Res.ok_on, Res.ok_drop, Res.ok_wi, Res.ok_with, Res.noex_ok, optAt_some, appK_eq, appK2_eq, Bk.nx_sq, Bk.rt_sq, Bk.mapU_nx, Bk.mapU_rt, Bk.ex_sq, Res.ex_bs, Res.ex_at, Res.ex_bd, gAdd_e, gSbt_e, gLt_e, gLe_e, gGt_e, gGe_e, gEqI_e, gNeI_e, gEqB_e, gNeB_e, gIs_e, gIsnt_e, gId_e, gNeg_e, gLen_e, gCst_e, gMax2_e, gMin2_e, gAbs_e, gGcd_e, gBoolInt_e, gSum_e, gAny_e, gAll_e, gMem_e, gNmem_e, gIsN_e, gIsntN_e, gIsS_e, fT_yes, gEq_tup, gNe_tup, gEq_lst, gNe_lst, gEq_lstT, gNe_lstT, gIn_tup, gNin_tup, eq_self, if_true, if_false, Bool.false_eq_true, Bool.not_true, Bool.not_false, decide_true, Option.isNone, Option.isSome, gGet, reduceCtorEq, ]
  refine wh_go (fun b => ∃ u v, runP b = Res.ok [u, v] ∧ u * A + v * B = ((Nat.gcd A.natAbs B.natAbs : Nat) : Int) ∧ u.natAbs < 2 ^ (2 * k + 3) ∧ v.natAbs < 2 ^ (2 * k + 3)) (PW A B) (fun s => !decide (s.2.1 = 0)) stepW (fun s => s.2.1.natAbs) (PW.start A B) (Nat.lt_succ_self _) (fun s _ => rfl) (fun s hP hc => ?_) (fun s' hP hc => ?_)
  · have hc : (!decide (s.2.1 = 0)) = true := hc
    have h0 : s.2.1 ≠ 0 := fun z => by rw [decide_eq_true z] at hc; cases hc
    obtain ⟨w0, w1, f0, f1, hJ, b1, b2, b3, b4, b5, b6⟩ := hP.size hA hB
    have hq := fdiv_bd h0 b5 b6
    have hk1 : 0 < k := hk0.resolve_right fun z => h0 (by obtain ⟨_, _⟩ := z; have := hJ.oth; simp_all)
    have m1 : gMul (s.1.fdiv s.2.1) s.2.1 = some (s.1.fdiv s.2.1 * s.2.1) := gMul_m hq b6 (by omega) hk1 (by omega)
    have m2 : gMul (s.1.fdiv s.2.1) f0 = some (s.1.fdiv s.2.1 * f0) := gMul_m hq b3 (by omega) (by omega) (by omega)
    have m3 : gMul (s.1.fdiv s.2.1) f1 = some (s.1.fdiv s.2.1 * f1) := gMul_m hq b4 (by omega) (by omega) (by omega)
    have g0 : gIx [f0, f1] 0 = some f0 := rfl
    have g1 : gIx [f0, f1] 1 = some f1 := rfl
    refine ⟨?_, hP.step h0⟩
    simp (config := { implicitDefEqProofs := false }) only [gIsU_n, gIsU_l, gIsU_r, Res.ok_bd, Res.bd_assoc, Res.bd_bs, Res.ok_bs, Res.ok_at, Res.ok_on, Res.ok_drop, Res.ok_wi, Res.ok_with, Res.noex_ok, optAt_some, appK_eq, appK2_eq, Bk.nx_sq, Bk.rt_sq, Bk.mapU_nx, Bk.mapU_rt, Bk.ex_sq, Res.ex_bs, Res.ex_at, Res.ex_bd, gAdd_e, gSbt_e, gLt_e, gLe_e, gGt_e, gGe_e, gEqI_e, gNeI_e, gEqB_e, gNeB_e, gIs_e, gIsnt_e, gId_e, gNeg_e, gLen_e, gCst_e, gMax2_e, gMin2_e, gAbs_e, gGcd_e, gBoolInt_e, gSum_e, gAny_e, gAll_e, gMem_e, gNmem_e, gIsN_e, gIsntN_e, gIsS_e, fT_yes, gEq_tup, gNe_tup, gEq_lst, gNe_lst, gEq_lstT, gNe_lstT, gIn_tup, gNin_tup, eq_self, if_true, if_false, Bool.false_eq_true, Bool.not_true, Bool.not_false, decide_true, Option.isNone, Option.isSome, gGet, reduceCtorEq, gDivF_ok h0 b6 hk1 (by omega), m1, hJ.f, hJ.w, g0, g1, m2, m3, less2_ok]
    unfold stepW
    rw [hJ.w, hJ.f]
    rfl
  have h0 : s'.2.1 = 0 := by simpa using hc
  obtain ⟨w0, w1, f0, f1, hJ, b1, b2, b3, b4, b5, b6⟩ := hP.size hA hB
  have e1 := hJ.one
  have e2 := hJ.oth
  have e3 := hJ.det
  rw [h0] at e2
  have g0 : gIx [w0, w1] 0 = some w0 := rfl
  have g1 : gIx [w0, w1] 1 = some w1 := rfl
  have hgcd : (s'.1.natAbs : Int) = ((Nat.gcd A.natAbs B.natAbs : Nat) : Int) := by
    have dA : s'.1 ∣ A := by
      rcases e3 with e3 | e3
      · exact ⟨f1, by grind⟩
      · exact ⟨-f1, by grind⟩
    have dB : s'.1 ∣ B := by
      rcases e3 with e3 | e3
      · exact ⟨-f0, by grind⟩
      · exact ⟨f0, by grind⟩
    congr 1
    refine Nat.dvd_antisymm (Nat.dvd_gcd (Int.natAbs_dvd_natAbs.mpr dA) (Int.natAbs_dvd_natAbs.mpr dB)) ?_
    have h1 : ((Nat.gcd A.natAbs B.natAbs : Nat) : Int) ∣ A := Int.ofNat_dvd_left.mpr (Nat.gcd_dvd_left _ _)
    have h2 : ((Nat.gcd A.natAbs B.natAbs : Nat) : Int) ∣ B := Int.ofNat_dvd_left.mpr (Nat.gcd_dvd_right _ _)
    have h3 : ((Nat.gcd A.natAbs B.natAbs : Nat) : Int) ∣ s'.1 := by
      rw [← e1]
      exact Int.dvd_add (Int.dvd_mul_of_dvd_right h1) (Int.dvd_mul_of_dvd_right h2)
    exact Int.ofNat_dvd_left.mp h3
  by_cases hp : 0 ≤ s'.1
  · simp (config := { implicitDefEqProofs := false }) only [gIsU_n, gIsU_l, gIsU_r, Res.ok_bd, Res.bd_assoc, Res.bd_bs, Res.ok_bs, Res.ok_at, Res.ok_on, Res.ok_drop, Res.ok_wi, Res.ok_with, Res.noex_ok, optAt_some, appK_eq, appK2_eq, Bk.nx_sq, Bk.rt_sq, Bk.mapU_nx, Bk.mapU_rt, Bk.ex_sq, Res.ex_bs, Res.ex_at, Res.ex_bd, gAdd_e, gSbt_e, gLt_e, gLe_e, gGt_e, gGe_e, gEqI_e, gNeI_e, gEqB_e, gNeB_e, gIs_e, gIsnt_e, gId_e, gNeg_e, gLen_e, gCst_e, gMax2_e, gMin2_e, gAbs_e, gGcd_e, gBoolInt_e, gSum_e, gAny_e, gAll_e, gMem_e, gNmem_e, gIsN_e, gIsntN_e, gIsS_e, fT_yes, gEq_tup, gNe_tup, gEq_lst, gNe_lst, gEq_lstT, gNe_lstT, gIn_tup, gNin_tup, eq_self, if_true, if_false, Bool.false_eq_true, Bool.not_true, Bool.not_false, decide_true, Option.isNone, Option.isSome, gGet, reduceCtorEq, decide_eq_true hp, hJ.w]
    refine ⟨w0, w1, rfl, ?_, b1, b2⟩
    rw [e1, ← hgcd]
    omega
  · simp (config := { implicitDefEqProofs := false }) only [gIsU_n, gIsU_l, gIsU_r, Res.ok_bd, Res.bd_assoc, Res.bd_bs, Res.ok_bs, Res.ok_at, Res.ok_on, Res.ok_drop, Res.ok_wi, Res.ok_with, Res.noex_ok, optAt_some, appK_eq, appK2_eq, Bk.nx_sq, Bk.rt_sq, Bk.mapU_nx, Bk.mapU_rt, Bk.ex_sq, Res.ex_bs, Res.ex_at, Res.ex_bd, gAdd_e, gSbt_e, gLt_e, gLe_e, gGt_e, gGe_e, gEqI_e, gNeI_e, gEqB_e, gNeB_e, gIs_e, gIsnt_e, gId_e, gNeg_e, gLen_e, gCst_e, gMax2_e, gMin2_e, gAbs_e, gGcd_e, gBoolInt_e, gSum_e, gAny_e, gAll_e, gMem_e, gNmem_e, gIsN_e, gIsntN_e, gIsS_e, fT_yes, gEq_tup, gNe_tup, gEq_lst, gNe_lst, gEq_lstT, gNe_lstT, gIn_tup, gNin_tup, eq_self, if_true, if_false, Bool.false_eq_true, Bool.not_true, Bool.not_false, decide_true, Option.isNone, Option.isSome, gGet, reduceCtorEq, decide_eq_false hp, hJ.w, g0, g1]
    refine ⟨-w0, -w1, rfl, ?_, by rw [Int.natAbs_neg]; exact b1, by rw [Int.natAbs_neg]; exact b2⟩
    rw [← hgcd, Int.neg_mul, Int.neg_mul]
    omega
def dot : List Int → List Int → Int
  | w :: ws, x :: xs => w * x + dot ws xs
  | _, _ => 0
theorem dot_snoc : ∀ {ws xs : List Int} (w x : Int), ws.length = xs.length → dot (ws ++ [w]) (xs ++ [x]) = dot ws xs + w * x
  | [], [], w, x, _ => by show w * x + 0 = 0 + w * x; omega
  | [], _ :: _, _, _, h => nomatch h
  | _ :: _, [], _, _, h => nomatch h
  | a :: ws, b :: xs, w, x, h => by
    show a * b + dot (ws ++ [w]) (xs ++ [x]) = a * b + dot ws xs + w * x
    rw [dot_snoc w x (Nat.succ.inj h)]
    omega
theorem dot_scale (c : Int) : ∀ (ws xs : List Int), dot (ws.map fun w => c * w) xs = c * dot ws xs
  | [], xs => by cases xs <;> exact (Int.mul_zero c).symm
  | w :: ws, [] => (Int.mul_zero c).symm
  | w :: ws, x :: xs => by
    show c * w * x + dot (ws.map fun w => c * w) xs = c * (w * x + dot ws xs)
    rw [dot_scale c ws xs, Int.mul_add, Int.mul_assoc]
theorem cd_ok (ns : List Int) : f_common_divisor (ns, ()) = .ok ((gcdL ns : Nat) : Int) := by
  unfold f_common_divisor l_common_divisor
  rw [Res.ok_bs, Res.ok_bs, forB_fold (g := fun s a => ((Nat.gcd s.natAbs a.natAbs : Nat) : Int)) (fun a _ s => by simp)]
  rw [show ((0 : Int)) = ((0 : Nat) : Int) from rfl, foldl_gcd, Nat.gcd_zero_left]
  rfl
theorem cdL_ok (ns : List Int) : f_common_divisorL (ns, ()) = .ok ((gcdL ns : Nat) : Int) := by
  unfold f_common_divisorL l_common_divisorL
  rw [Res.ok_bs, Res.ok_bs, forB_fold (g := fun s a => ((Nat.gcd s.natAbs a.natAbs : Nat) : Int)) (fun a _ s => by simp)]
  rw [show ((0 : Int)) = ((0 : Nat) : Int) from rfl, foldl_gcd, Nat.gcd_zero_left]
  rfl
theorem weights_ok {p : List Int} {k : Nat} (hp : ∀ x ∈ p, x.natAbs < 2 ^ k) (hk : k ≤ 1000) (hk1 : 1 ≤ k) (hl : p.length ≤ 3) : ∃ w, f_weights_of (p, ()) = .ok w ∧ w.length = p.length ∧ dot w p = ((gcdL p : Nat) : Int) ∧ ∀ x ∈ w, x.natAbs < 2 ^ ((2 * k + 3) * 3) := by
  unfold f_weights_of l_weights_of
  simp (config := { implicitDefEqProofs := false }) only [gIsU_n, gIsU_l, gIsU_r, Res.ok_bd, Res.bd_assoc, Res.bd_bs, Res.ok_bs, Res.ok_at, Res.ok_on, Res.ok_drop, Res.ok_wi, Res.ok_with, Res.noex_ok, optAt_some, appK_eq, appK2_eq, Bk.nx_sq, Bk.rt_sq, Bk.mapU_nx, Bk.mapU_rt, Bk.ex_sq, Res.ex_bs, Res.ex_at, Res.ex_bd, gAdd_e, gSbt_e, gLt_e, gLe_e, gGt_e, gGe_e, gEqI_e, gNeI_e, gEqB_e, gNeB_e, gIs_e, gIsnt_e, gId_e, gNeg_e, gLen_e, gCst_e, gMax2_e, gMin2_e, gAbs_e, gGcd_e, gBoolInt_e, gSum_e, gAny_e, gAll_e, gMem_e, gNmem_e, gIsN_e, gIsntN_e, gIsS_e, fT_yes, gEq_tup, gNe_tup, gEq_lst, gNe_lst, gEq_lstT, gNe_lstT, gIn_tup, gNin_tup, eq_self, if_true, if_false, Bool.false_eq_true, Bool.not_true, Bool.not_false, decide_true, Option.isNone, Option.isSome, gGet, reduceCtorEq, ]
  refine forB_go (fun b => ∃ w, runP b = Res.ok w ∧ w.length = p.length ∧ dot w p = ((gcdL p : Nat) : Int) ∧ ∀ x ∈ w, x.natAbs < 2 ^ ((2 * k + 3) * 3)) (fun (i : Nat) (s : List Int × Int) (_ : Unit) => s.1.length = i ∧ s.2 = ((gcdL (p.take i) : Nat) : Int) ∧ dot s.1 (p.take i) = s.2 ∧ ∀ x ∈ s.1, x.natAbs < 2 ^ ((2 * k + 3) * i)) ⟨rfl, rfl, rfl, fun _ z => absurd z List.not_mem_nil⟩ (fun i a s d hi ⟨h1, h2, h3, h4⟩ => ?_) (fun s' d' ⟨h1, h2, h3, h4⟩ => ?_)
  · have hil := (List.getElem?_eq_some_iff.mp hi).1
    have ha := hp a (List.mem_of_getElem? hi)
    have hg : (gcdL (p.take i)) < 2 ^ k := gcdL_lt (Nat.two_pow_pos k) _ fun x hx => hp x (List.mem_of_mem_take hx)
    have hg2 : s.2.natAbs < 2 ^ k := by rw [h2, Int.natAbs_natCast]; exact hg
    obtain ⟨u, v, e, e2, b1, b2⟩ := tw_ok hg2 ha hk
    have etake : p.take (i + 1) = p.take i ++ [a] := by rw [List.take_succ, hi]; rfl
    have egcd : gcdL (p.take (i + 1)) = Nat.gcd s.2.natAbs a.natAbs := by rw [etake, gcdL_append, gcdL_one, h2, Int.natAbs_natCast]
    have eG : gGcd (s.2, a, ()) = some ((Nat.gcd s.2.natAbs a.natAbs : Nat) : Int) := rfl
    refine ⟨(s.1.map (fun w => u * w) ++ [v], ((Nat.gcd s.2.natAbs a.natAbs : Nat) : Int)), (), .inl ?_, ?_, ?_, ?_, ?_⟩
    · simp (config := { implicitDefEqProofs := false }) only [gIsU_n, gIsU_l, gIsU_r, Res.ok_bd, Res.bd_assoc, Res.bd_bs, Res.ok_bs, Res.ok_at, Res.ok_on, Res.ok_drop, Res.ok_wi, Res.ok_with, Res.noex_ok, optAt_some, appK_eq, appK2_eq, Bk.nx_sq, Bk.rt_sq, Bk.mapU_nx, Bk.mapU_rt, Bk.ex_sq, Res.ex_bs, Res.ex_at, Res.ex_bd, gAdd_e, gSbt_e, gLt_e, gLe_e, gGt_e, gGe_e, gEqI_e, gNeI_e, gEqB_e, gNeB_e, gIs_e, gIsnt_e, gId_e, gNeg_e, gLen_e, gCst_e, gMax2_e, gMin2_e, gAbs_e, gGcd_e, gBoolInt_e, gSum_e, gAny_e, gAll_e, gMem_e, gNmem_e, gIsN_e, gIsntN_e, gIsS_e, fT_yes, gEq_tup, gNe_tup, gEq_lst, gNe_lst, gEq_lstT, gNe_lstT, gIn_tup, gNin_tup, eq_self, if_true, if_false, Bool.false_eq_true, Bool.not_true, Bool.not_false, decide_true, Option.isNone, Option.isSome, gGet, reduceCtorEq, e, cvt2_e]
      rw [lcA_map (g := fun w => u * w) (by rw [sizeL]; omega) (fun w hw => by
        have hi0 : 0 < i := by rw [← h1]; exact List.length_pos_of_mem hw
        have hpos : 0 < (2 * k + 3) * i := Nat.mul_pos (by omega) hi0
        have hle : (2 * k + 3) * i ≤ (2 * k + 3) * 3 := Nat.mul_le_mul_left _ (by omega)
        simp (config := { implicitDefEqProofs := false }) only [gIsU_n, gIsU_l, gIsU_r, Res.ok_bd, Res.bd_assoc, Res.bd_bs, Res.ok_bs, Res.ok_at, Res.ok_on, Res.ok_drop, Res.ok_wi, Res.ok_with, Res.noex_ok, optAt_some, appK_eq, appK2_eq, Bk.nx_sq, Bk.rt_sq, Bk.mapU_nx, Bk.mapU_rt, Bk.ex_sq, Res.ex_bs, Res.ex_at, Res.ex_bd, gAdd_e, gSbt_e, gLt_e, gLe_e, gGt_e, gGe_e, gEqI_e, gNeI_e, gEqB_e, gNeB_e, gIs_e, gIsnt_e, gId_e, gNeg_e, gLen_e, gCst_e, gMax2_e, gMin2_e, gAbs_e, gGcd_e, gBoolInt_e, gSum_e, gAny_e, gAll_e, gMem_e, gNmem_e, gIsN_e, gIsntN_e, gIsS_e, fT_yes, gEq_tup, gNe_tup, gEq_lst, gNe_lst, gEq_lstT, gNe_lstT, gIn_tup, gNin_tup, eq_self, if_true, if_false, Bool.false_eq_true, Bool.not_true, Bool.not_false, decide_true, Option.isNone, Option.isSome, gGet, reduceCtorEq, gMul_m b1 (h4 w hw) (by omega) hpos (by omega)])]
      simp (config := { implicitDefEqProofs := false }) only [gIsU_n, gIsU_l, gIsU_r, Res.ok_bd, Res.bd_assoc, Res.bd_bs, Res.ok_bs, Res.ok_at, Res.ok_on, Res.ok_drop, Res.ok_wi, Res.ok_with, Res.noex_ok, optAt_some, appK_eq, appK2_eq, Bk.nx_sq, Bk.rt_sq, Bk.mapU_nx, Bk.mapU_rt, Bk.ex_sq, Res.ex_bs, Res.ex_at, Res.ex_bd, gAdd_e, gSbt_e, gLt_e, gLe_e, gGt_e, gGe_e, gEqI_e, gNeI_e, gEqB_e, gNeB_e, gIs_e, gIsnt_e, gId_e, gNeg_e, gLen_e, gCst_e, gMax2_e, gMin2_e, gAbs_e, gGcd_e, gBoolInt_e, gSum_e, gAny_e, gAll_e, gMem_e, gNmem_e, gIsN_e, gIsntN_e, gIsS_e, fT_yes, gEq_tup, gNe_tup, gEq_lst, gNe_lst, gEq_lstT, gNe_lstT, gIn_tup, gNin_tup, eq_self, if_true, if_false, Bool.false_eq_true, Bool.not_true, Bool.not_false, decide_true, Option.isNone, Option.isSome, gGet, reduceCtorEq, gCat_ok (xs := s.1.map fun w => u * w) (ys := [v]) (by rw [List.length_map, List.length_singleton]; omega), eG]
    · show (s.1.map (fun w => u * w) ++ [v]).length = i + 1
      rw [List.length_append, List.length_map, h1]; rfl
    · rw [egcd]
    · show dot (s.1.map (fun w => u * w) ++ [v]) (p.take (i + 1)) = ((Nat.gcd s.2.natAbs a.natAbs : Nat) : Int)
      rw [etake, dot_snoc _ _ (by rw [List.length_map, h1, List.length_take]; omega), dot_scale, h3, e2]
    · intro x hx
      have e5 : (2 * k + 3) * (i + 1) = (2 * k + 3) + (2 * k + 3) * i := by rw [Nat.mul_add, Nat.mul_one, Nat.add_comm]
      rcases List.mem_append.mp hx with z | z
      · obtain ⟨w, hw, rfl⟩ := List.mem_map.mp z
        rw [e5]
        exact mul_sm b1 (h4 w hw)
      · rw [List.mem_singleton.mp z, e5]
        exact up_sm b2 (by omega)
  · rw [List.take_length] at h2 h3
    exact ⟨s'.1, rfl, h1, by rw [h3, h2], fun x hx => up_sm (h4 x hx) (Nat.mul_le_mul_left _ hl)⟩
theorem two_of {l : List Int} (h : l.length = 2) : ∃ a b, l = [a, b] := by
  match l, h with
  | [a, b], _ => exact ⟨a, b, rfl⟩
theorem three_of {l : List Int} (h : l.length = 3) : ∃ a b c, l = [a, b, c] := by
  match l, h with
  | [a, b, c], _ => exact ⟨a, b, c, rfl⟩
def minL : List Int → List Int → List Int
  | [a, b], [x, y] => [a * y - b * x]
  | [a, b, c], [x, y, z] => [a * y - b * x, a * z - c * x, b * z - c * y]
  | _, _ => []
theorem number_ok {n k : Nat} {s t : List Int} (hn : n = 2 ∨ n = 3) (hs : s.length = n) (ht : t.length = n) (bs : ∀ x ∈ s, x.natAbs < 2 ^ k) (bt : ∀ x ∈ t, x.natAbs < 2 ^ k) (hk : 1 ≤ k ∧ k ≤ 1000) : f_number_of (s, t, ()) = .ok ((gcdL (minL s t) : Nat) : Int) := by
  have inn : ∀ {l : List Int} {i : Nat}, i < l.length → l.getD i 0 ∈ l := fun {l i} h => by rw [List.getD_eq_getElem?_getD, List.getElem?_eq_getElem h]; exact List.getElem_mem _
  unfold f_number_of l_number_of
  simp (config := { implicitDefEqProofs := false }) only [gIsU_n, gIsU_l, gIsU_r, Res.ok_bd, Res.bd_assoc, Res.bd_bs, Res.ok_bs, Res.ok_at, Res.ok_on, Res.ok_drop, Res.ok_wi, Res.ok_with, Res.noex_ok, optAt_some, appK_eq, appK2_eq, Bk.nx_sq, Bk.rt_sq, Bk.mapU_nx, Bk.mapU_rt, Bk.ex_sq, Res.ex_bs, Res.ex_at, Res.ex_bd, gAdd_e, gSbt_e, gLt_e, gLe_e, gGt_e, gGe_e, gEqI_e, gNeI_e, gEqB_e, gNeB_e, gIs_e, gIsnt_e, gId_e, gNeg_e, gLen_e, gCst_e, gMax2_e, gMin2_e, gAbs_e, gGcd_e, gBoolInt_e, gSum_e, gAny_e, gAll_e, gMem_e, gNmem_e, gIsN_e, gIsntN_e, gIsS_e, fT_yes, gEq_tup, gNe_tup, gEq_lst, gNe_lst, gEq_lstT, gNe_lstT, gIn_tup, gNin_tup, eq_self, if_true, if_false, Bool.false_eq_true, Bool.not_true, Bool.not_false, decide_true, Option.isNone, Option.isSome, gGet, reduceCtorEq, hs, gRng1_nat n (by omega)]
  rw [lcD_map2 (ms := fun j : Int => rng 0 j.toNat) (g := fun (j i : Int) => s.getD i.toNat 0 * t.getD j.toNat 0 - s.getD j.toNat 0 * t.getD i.toNat 0) (fun j hj => by
    obtain ⟨h1, h2⟩ := rng_mem.mp hj
    obtain ⟨j, rfl⟩ := Int.eq_ofNat_of_zero_le h1
    simp (config := { implicitDefEqProofs := false }) only [gIsU_n, gIsU_l, gIsU_r, Res.ok_bd, Res.bd_assoc, Res.bd_bs, Res.ok_bs, Res.ok_at, Res.ok_on, Res.ok_drop, Res.ok_wi, Res.ok_with, Res.noex_ok, optAt_some, appK_eq, appK2_eq, Bk.nx_sq, Bk.rt_sq, Bk.mapU_nx, Bk.mapU_rt, Bk.ex_sq, Res.ex_bs, Res.ex_at, Res.ex_bd, gAdd_e, gSbt_e, gLt_e, gLe_e, gGt_e, gGe_e, gEqI_e, gNeI_e, gEqB_e, gNeB_e, gIs_e, gIsnt_e, gId_e, gNeg_e, gLen_e, gCst_e, gMax2_e, gMin2_e, gAbs_e, gGcd_e, gBoolInt_e, gSum_e, gAny_e, gAll_e, gMem_e, gNmem_e, gIsN_e, gIsntN_e, gIsS_e, fT_yes, gEq_tup, gNe_tup, gEq_lst, gNe_lst, gEq_lstT, gNe_lstT, gIn_tup, gNin_tup, eq_self, if_true, if_false, Bool.false_eq_true, Bool.not_true, Bool.not_false, decide_true, Option.isNone, Option.isSome, gGet, reduceCtorEq, gRng1_nat j (by omega)]
    rfl) (fun j hj i hi => by
    obtain ⟨h1, h2⟩ := rng_mem.mp hj
    obtain ⟨j, rfl⟩ := Int.eq_ofNat_of_zero_le h1
    obtain ⟨h3, h4⟩ := rng_mem.mp hi
    obtain ⟨i, rfl⟩ := Int.eq_ofNat_of_zero_le h3
    have hin : i < n := by rw [Int.toNat_natCast] at h4; omega
    simp (config := { implicitDefEqProofs := false }) only [gIsU_n, gIsU_l, gIsU_r, Res.ok_bd, Res.bd_assoc, Res.bd_bs, Res.ok_bs, Res.ok_at, Res.ok_on, Res.ok_drop, Res.ok_wi, Res.ok_with, Res.noex_ok, optAt_some, appK_eq, appK2_eq, Bk.nx_sq, Bk.rt_sq, Bk.mapU_nx, Bk.mapU_rt, Bk.ex_sq, Res.ex_bs, Res.ex_at, Res.ex_bd, gAdd_e, gSbt_e, gLt_e, gLe_e, gGt_e, gGe_e, gEqI_e, gNeI_e, gEqB_e, gNeB_e, gIs_e, gIsnt_e, gId_e, gNeg_e, gLen_e, gCst_e, gMax2_e, gMin2_e, gAbs_e, gGcd_e, gBoolInt_e, gSum_e, gAny_e, gAll_e, gMem_e, gNmem_e, gIsN_e, gIsntN_e, gIsS_e, fT_yes, gEq_tup, gNe_tup, gEq_lst, gNe_lst, gEq_lstT, gNe_lstT, gIn_tup, gNin_tup, eq_self, if_true, if_false, Bool.false_eq_true, Bool.not_true, Bool.not_false, decide_true, Option.isNone, Option.isSome, gGet, reduceCtorEq, gIx_at (xs := s) (i := i) (by omega), gIx_at (xs := t) (i := j) (by omega), gIx_at (xs := s) (i := j) (by omega), gIx_at (xs := t) (i := i) (by omega)]
    rw [gMul_m (bs _ (inn (show i < s.length by omega))) (bt _ (inn (show j < t.length by omega))) (by omega) (by omega) (by omega)]
    simp (config := { implicitDefEqProofs := false }) only [gIsU_n, gIsU_l, gIsU_r, Res.ok_bd, Res.bd_assoc, Res.bd_bs, Res.ok_bs, Res.ok_at, Res.ok_on, Res.ok_drop, Res.ok_wi, Res.ok_with, Res.noex_ok, optAt_some, appK_eq, appK2_eq, Bk.nx_sq, Bk.rt_sq, Bk.mapU_nx, Bk.mapU_rt, Bk.ex_sq, Res.ex_bs, Res.ex_at, Res.ex_bd, gAdd_e, gSbt_e, gLt_e, gLe_e, gGt_e, gGe_e, gEqI_e, gNeI_e, gEqB_e, gNeB_e, gIs_e, gIsnt_e, gId_e, gNeg_e, gLen_e, gCst_e, gMax2_e, gMin2_e, gAbs_e, gGcd_e, gBoolInt_e, gSum_e, gAny_e, gAll_e, gMem_e, gNmem_e, gIsN_e, gIsntN_e, gIsS_e, fT_yes, gEq_tup, gNe_tup, gEq_lst, gNe_lst, gEq_lstT, gNe_lstT, gIn_tup, gNin_tup, eq_self, if_true, if_false, Bool.false_eq_true, Bool.not_true, Bool.not_false, decide_true, Option.isNone, Option.isSome, gGet, reduceCtorEq, ]
    rw [gMul_m (bs _ (inn (show j < s.length by omega))) (bt _ (inn (show i < t.length by omega))) (by omega) (by omega) (by omega)]
    rfl) (by
    rw [sizeL]
    rcases hn with rfl | rfl <;> exact Nat.le_of_ble_eq_true rfl)]
  simp (config := { implicitDefEqProofs := false }) only [gIsU_n, gIsU_l, gIsU_r, Res.ok_bd, Res.bd_assoc, Res.bd_bs, Res.ok_bs, Res.ok_at, Res.ok_on, Res.ok_drop, Res.ok_wi, Res.ok_with, Res.noex_ok, optAt_some, appK_eq, appK2_eq, Bk.nx_sq, Bk.rt_sq, Bk.mapU_nx, Bk.mapU_rt, Bk.ex_sq, Res.ex_bs, Res.ex_at, Res.ex_bd, gAdd_e, gSbt_e, gLt_e, gLe_e, gGt_e, gGe_e, gEqI_e, gNeI_e, gEqB_e, gNeB_e, gIs_e, gIsnt_e, gId_e, gNeg_e, gLen_e, gCst_e, gMax2_e, gMin2_e, gAbs_e, gGcd_e, gBoolInt_e, gSum_e, gAny_e, gAll_e, gMem_e, gNmem_e, gIsN_e, gIsntN_e, gIsS_e, fT_yes, gEq_tup, gNe_tup, gEq_lst, gNe_lst, gEq_lstT, gNe_lstT, gIn_tup, gNin_tup, eq_self, if_true, if_false, Bool.false_eq_true, Bool.not_true, Bool.not_false, decide_true, Option.isNone, Option.isSome, gGet, reduceCtorEq, cdL_ok]
  rcases hn with rfl | rfl
  · obtain ⟨a, b, rfl⟩ := two_of hs
    obtain ⟨x, y, rfl⟩ := two_of ht
    rfl
  · obtain ⟨a, b, c, rfl⟩ := three_of hs
    obtain ⟨x, y, z, rfl⟩ := three_of ht
    rfl
abbrev LineT := List Int × List Int × Int × Int × Unit
theorem any_ok {s : List Int} (h : s.length = 2 ∨ s.length = 3) : f_check_any_place (s, ()) = .ok () := by
  have e : (s.length : Int) ∈ ([2, 3] : List Int) := by
    rcases h with h | h <;> rw [h] <;> decide
  unfold f_check_any_place l_check_any_place
  simp (config := { implicitDefEqProofs := false }) only [gIsU_n, gIsU_l, gIsU_r, Res.ok_bd, Res.bd_assoc, Res.bd_bs, Res.ok_bs, Res.ok_at, Res.ok_on, Res.ok_drop, Res.ok_wi, Res.ok_with, Res.noex_ok, optAt_some, appK_eq, appK2_eq, Bk.nx_sq, Bk.rt_sq, Bk.mapU_nx, Bk.mapU_rt, Bk.ex_sq, Res.ex_bs, Res.ex_at, Res.ex_bd, gAdd_e, gSbt_e, gLt_e, gLe_e, gGt_e, gGe_e, gEqI_e, gNeI_e, gEqB_e, gNeB_e, gIs_e, gIsnt_e, gId_e, gNeg_e, gLen_e, gCst_e, gMax2_e, gMin2_e, gAbs_e, gGcd_e, gBoolInt_e, gSum_e, gAny_e, gAll_e, gMem_e, gNmem_e, gIsN_e, gIsntN_e, gIsS_e, fT_yes, gEq_tup, gNe_tup, gEq_lst, gNe_lst, gEq_lstT, gNe_lstT, gIn_tup, gNin_tup, eq_self, if_true, if_false, Bool.false_eq_true, Bool.not_true, Bool.not_false, decide_true, Option.isNone, Option.isSome, gGet, reduceCtorEq, decide_eq_true e]
  rfl
theorem lplace_ok {s : List Int} {n : Int} (h : (s.length : Int) = n) : f_check_place (s, n, ()) = .ok () := by
  unfold f_check_place l_check_place
  simp (config := { implicitDefEqProofs := false }) only [gIsU_n, gIsU_l, gIsU_r, Res.ok_bd, Res.bd_assoc, Res.bd_bs, Res.ok_bs, Res.ok_at, Res.ok_on, Res.ok_drop, Res.ok_wi, Res.ok_with, Res.noex_ok, optAt_some, appK_eq, appK2_eq, Bk.nx_sq, Bk.rt_sq, Bk.mapU_nx, Bk.mapU_rt, Bk.ex_sq, Res.ex_bs, Res.ex_at, Res.ex_bd, gAdd_e, gSbt_e, gLt_e, gLe_e, gGt_e, gGe_e, gEqI_e, gNeI_e, gEqB_e, gNeB_e, gIs_e, gIsnt_e, gId_e, gNeg_e, gLen_e, gCst_e, gMax2_e, gMin2_e, gAbs_e, gGcd_e, gBoolInt_e, gSum_e, gAny_e, gAll_e, gMem_e, gNmem_e, gIsN_e, gIsntN_e, gIsS_e, fT_yes, gEq_tup, gNe_tup, gEq_lst, gNe_lst, gEq_lstT, gNe_lstT, gIn_tup, gNin_tup, eq_self, if_true, if_false, Bool.false_eq_true, Bool.not_true, Bool.not_false, decide_true, Option.isNone, Option.isSome, gGet, reduceCtorEq, decide_eq_true h]
  rfl
theorem dot_sum : ∀ w s : List Int, ((w.zip s).map fun q => q.1 * q.2).sum = dot w s
  | [], _ => rfl
  | _ :: _, [] => rfl
  | a :: w, b :: s => by
    rw [List.zip_cons_cons, List.map_cons, List.sum_cons, dot_sum w s]
    rfl
theorem line_ok {n k : Nat} {s t : List Int} (hn : n = 2 ∨ n = 3) (hs : s.length = n) (ht : t.length = n) (bs : ∀ x ∈ s, x.natAbs < 2 ^ k) (bt : ∀ x ∈ t, x.natAbs < 2 ^ k) (hk : 1 ≤ k ∧ k ≤ 1000) (h1 : gcdL t = 1) : ∃ w, w.length = n ∧ dot w t = 1 ∧ (∀ x ∈ w, x.natAbs < 2 ^ ((2 * k + 3) * 3)) ∧ f_LineUinitU (s, t, ()) = .ok (s, t, ((gcdL (minL s t) : Nat) : Int), -(dot w s), ()) := by
  obtain ⟨w, e, wl, wd, wb⟩ := weights_ok bt hk.2 hk.1 (by omega)
  refine ⟨w, by omega, by rw [wd, h1]; rfl, wb, ?_⟩
  unfold f_LineUinitU l_LineUinitU
  have e1 : ((gcdL t : Nat) : Int) = 1 := by rw [h1]; rfl
  simp (config := { implicitDefEqProofs := false }) only [gIsU_n, gIsU_l, gIsU_r, Res.ok_bd, Res.bd_assoc, Res.bd_bs, Res.ok_bs, Res.ok_at, Res.ok_on, Res.ok_drop, Res.ok_wi, Res.ok_with, Res.noex_ok, optAt_some, appK_eq, appK2_eq, Bk.nx_sq, Bk.rt_sq, Bk.mapU_nx, Bk.mapU_rt, Bk.ex_sq, Res.ex_bs, Res.ex_at, Res.ex_bd, gAdd_e, gSbt_e, gLt_e, gLe_e, gGt_e, gGe_e, gEqI_e, gNeI_e, gEqB_e, gNeB_e, gIs_e, gIsnt_e, gId_e, gNeg_e, gLen_e, gCst_e, gMax2_e, gMin2_e, gAbs_e, gGcd_e, gBoolInt_e, gSum_e, gAny_e, gAll_e, gMem_e, gNmem_e, gIsN_e, gIsntN_e, gIsS_e, fT_yes, gEq_tup, gNe_tup, gEq_lst, gNe_lst, gEq_lstT, gNe_lstT, gIn_tup, gNin_tup, eq_self, if_true, if_false, Bool.false_eq_true, Bool.not_true, Bool.not_false, decide_true, Option.isNone, Option.isSome, gGet, reduceCtorEq, any_ok (show s.length = 2 ∨ s.length = 3 by omega), lplace_ok (s := t) (n := (s.length : Int)) (by omega), cd_ok, decide_eq_true e1, number_ok hn hs ht bs bt hk, e]
  rw [lcA_map (g := fun q : Int × Int => q.1 * q.2) (by rw [List.length_zip, sizeL]; omega) (fun q hq => by
    obtain ⟨a, b⟩ := List.of_mem_zip (a := q.1) (b := q.2) hq
    simp (config := { implicitDefEqProofs := false }) only [gIsU_n, gIsU_l, gIsU_r, Res.ok_bd, Res.bd_assoc, Res.bd_bs, Res.ok_bs, Res.ok_at, Res.ok_on, Res.ok_drop, Res.ok_wi, Res.ok_with, Res.noex_ok, optAt_some, appK_eq, appK2_eq, Bk.nx_sq, Bk.rt_sq, Bk.mapU_nx, Bk.mapU_rt, Bk.ex_sq, Res.ex_bs, Res.ex_at, Res.ex_bd, gAdd_e, gSbt_e, gLt_e, gLe_e, gGt_e, gGe_e, gEqI_e, gNeI_e, gEqB_e, gNeB_e, gIs_e, gIsnt_e, gId_e, gNeg_e, gLen_e, gCst_e, gMax2_e, gMin2_e, gAbs_e, gGcd_e, gBoolInt_e, gSum_e, gAny_e, gAll_e, gMem_e, gNmem_e, gIsN_e, gIsntN_e, gIsS_e, fT_yes, gEq_tup, gNe_tup, gEq_lst, gNe_lst, gEq_lstT, gNe_lstT, gIn_tup, gNin_tup, eq_self, if_true, if_false, Bool.false_eq_true, Bool.not_true, Bool.not_false, decide_true, Option.isNone, Option.isSome, gGet, reduceCtorEq, gMul_m (wb _ a) (bs _ b) (by omega) (by omega) (by omega)])]
  simp (config := { implicitDefEqProofs := false }) only [gIsU_n, gIsU_l, gIsU_r, Res.ok_bd, Res.bd_assoc, Res.bd_bs, Res.ok_bs, Res.ok_at, Res.ok_on, Res.ok_drop, Res.ok_wi, Res.ok_with, Res.noex_ok, optAt_some, appK_eq, appK2_eq, Bk.nx_sq, Bk.rt_sq, Bk.mapU_nx, Bk.mapU_rt, Bk.ex_sq, Res.ex_bs, Res.ex_at, Res.ex_bd, gAdd_e, gSbt_e, gLt_e, gLe_e, gGt_e, gGe_e, gEqI_e, gNeI_e, gEqB_e, gNeB_e, gIs_e, gIsnt_e, gId_e, gNeg_e, gLen_e, gCst_e, gMax2_e, gMin2_e, gAbs_e, gGcd_e, gBoolInt_e, gSum_e, gAny_e, gAll_e, gMem_e, gNmem_e, gIsN_e, gIsntN_e, gIsS_e, fT_yes, gEq_tup, gNe_tup, gEq_lst, gNe_lst, gEq_lstT, gNe_lstT, gIn_tup, gNin_tup, eq_self, if_true, if_false, Bool.false_eq_true, Bool.not_true, Bool.not_false, decide_true, Option.isNone, Option.isSome, gGet, reduceCtorEq, dot_sum]
  rfl
theorem lgcd_in {f v : Nat} : ∀ {κ : Type}, ((whB (κ := κ) (fun (s : Int × Int) (d : Unit) => Res.ok (!decide (s.2 = 0), d)) (fun (s : Int × Int) (d : Unit) => (optAt (gMod s.1 s.2) d).bs (fun d => d) fun a d => (Bk.nx ((s.2, a), d) : Bk (Er × Unit) ((Int × Int) × Unit) ((Int × Int) × Unit) (Int × Unit))) (v + 1) ((f : Int), (v : Int)) ())) = .nx ((((Nat.gcd f v : Nat) : Int), 0), ()) := by
  intro κ
  obtain ⟨s', e, ⟨a, b, rfl, h⟩, hc⟩ := wh_gen (κ := κ) (ρ := Int) (t := fun (s : Int × Int) (d : Unit) => Res.ok (!decide (s.2 = 0), d)) (b := fun (s : Int × Int) (d : Unit) => (optAt (gMod s.1 s.2) d).bs (fun d => d) fun a d => Bk.nx ((s.2, a), d)) (P := fun s => ∃ a b : Nat, s = ((a : Int), (b : Int)) ∧ Nat.gcd a b = Nat.gcd f v) (c := fun s => !decide (s.2 = 0)) (step := fun s => (s.2, s.1 % s.2)) (μ := fun s => s.2.natAbs) (fun s _ => rfl) (fun s hP hc => by
    obtain ⟨a, b, rfl, h⟩ := hP
    have hc : (!decide ((b : Int) = 0)) = true := hc
    have hb : b ≠ 0 := fun z => by subst z; cases hc
    refine ⟨?_, ⟨b, a % b, by rw [Int.natCast_emod], by rw [← h, Nat.gcd_comm b (a % b), ← Nat.gcd_rec, Nat.gcd_comm]⟩, ?_⟩
    · simp (config := { implicitDefEqProofs := false }) only [gIsU_n, gIsU_l, gIsU_r, Res.ok_bd, Res.bd_assoc, Res.bd_bs, Res.ok_bs, Res.ok_at, Res.ok_on, Res.ok_drop, Res.ok_wi, Res.ok_with, Res.noex_ok, optAt_some, appK_eq, appK2_eq, Bk.nx_sq, Bk.rt_sq, Bk.mapU_nx, Bk.mapU_rt, Bk.ex_sq, Res.ex_bs, Res.ex_at, Res.ex_bd, gAdd_e, gSbt_e, gLt_e, gLe_e, gGt_e, gGe_e, gEqI_e, gNeI_e, gEqB_e, gNeB_e, gIs_e, gIsnt_e, gId_e, gNeg_e, gLen_e, gCst_e, gMax2_e, gMin2_e, gAbs_e, gGcd_e, gBoolInt_e, gSum_e, gAny_e, gAll_e, gMem_e, gNmem_e, gIsN_e, gIsntN_e, gIsS_e, fT_yes, gEq_tup, gNe_tup, gEq_lst, gNe_lst, gEq_lstT, gNe_lstT, gIn_tup, gNin_tup, eq_self, if_true, if_false, Bool.false_eq_true, Bool.not_true, Bool.not_false, decide_true, Option.isNone, Option.isSome, gGet, reduceCtorEq, gMod_p (a := (a : Int)) (b := (b : Int)) (by omega)]
    · show ((a : Int) % (b : Int)).natAbs < ((b : Int)).natAbs
      rw [← Int.natCast_emod, Int.natAbs_natCast, Int.natAbs_natCast]
      exact Nat.mod_lt _ (by omega)) (v + 1) ((f : Int), (v : Int)) ⟨f, v, rfl, rfl⟩ (by show ((v : Int)).natAbs < v + 1; omega)
  have hc : (!decide ((b : Int) = 0)) = false := hc
  have hb : b = 0 := by
    have : (b : Int) = 0 := by simpa using hc
    omega
  subst hb
  rw [Nat.gcd_zero_right] at h
  rw [e, h]
  rfl
theorem lgcd_ok (ns : List Int) : f_law_gcd (ns, ()) = .ok ((gcdL ns : Nat) : Int) := by
  unfold f_law_gcd l_law_gcd
  simp (config := { implicitDefEqProofs := false }) only [gIsU_n, gIsU_l, gIsU_r, Res.ok_bd, Res.bd_assoc, Res.bd_bs, Res.ok_bs, Res.ok_at, Res.ok_on, Res.ok_drop, Res.ok_wi, Res.ok_with, Res.noex_ok, optAt_some, appK_eq, appK2_eq, Bk.nx_sq, Bk.rt_sq, Bk.mapU_nx, Bk.mapU_rt, Bk.ex_sq, Res.ex_bs, Res.ex_at, Res.ex_bd, gAdd_e, gSbt_e, gLt_e, gLe_e, gGt_e, gGe_e, gEqI_e, gNeI_e, gEqB_e, gNeB_e, gIs_e, gIsnt_e, gId_e, gNeg_e, gLen_e, gCst_e, gMax2_e, gMin2_e, gAbs_e, gGcd_e, gBoolInt_e, gSum_e, gAny_e, gAll_e, gMem_e, gNmem_e, gIsN_e, gIsntN_e, gIsS_e, fT_yes, gEq_tup, gNe_tup, gEq_lst, gNe_lst, gEq_lstT, gNe_lstT, gIn_tup, gNin_tup, eq_self, if_true, if_false, Bool.false_eq_true, Bool.not_true, Bool.not_false, decide_true, Option.isNone, Option.isSome, gGet, reduceCtorEq, ]
  rw [forB_foldI (g := fun (s : Int) a => ((Nat.gcd s.natAbs a.natAbs : Nat) : Int)) (fun s => 0 ≤ s) (Int.le_refl 0) (fun a _ s hs => by
    obtain ⟨f, rfl⟩ := Int.eq_ofNat_of_zero_le hs
    have key := lgcd_in (f := f) (v := a.natAbs) (κ := Int × Unit)
    refine ⟨?_, by omega⟩
    rw [Int.natAbs_natCast, key, Int.natAbs_natCast]
    rfl)]
  rw [show ((0 : Int)) = ((0 : Nat) : Int) from rfl, foldl_gcd, Nat.gcd_zero_left]
  rfl
structure LI (n : Nat) (s t : List Int) (al : Int) (num ks kt : Nat) : Prop where
  dim : n = 2 ∨ n = 3
  ls : s.length = n
  lt : t.length = n
  bs : ∀ x ∈ s, x.natAbs < 2 ^ ks
  bt : ∀ x ∈ t, x.natAbs < 2 ^ kt
  gt : gcdL t = 1
  gm : gcdL (minL s t) = num
  rel : ∀ w : List Int, w.length = n → ∃ e, dot w s = al * dot w t + num * e
theorem sh_sm {x b y : Int} {k : Nat} (hx : x.natAbs < 2 ^ k) (hy : y.natAbs < 2 ^ k) (hb : b.natAbs ≤ 1000000) : (x + b * y).natAbs < 2 ^ (k + 21) := by
  have h1 : (b * y).natAbs < 2 ^ (20 + k) := mul_sm (show b.natAbs < 2 ^ 20 by omega) hy
  have e1 : 2 ^ (k + 21) = 2 * 2 ^ (20 + k) := by rw [show k + 21 = (20 + k) + 1 by omega, Nat.pow_succ]; omega
  have e2 : 2 ^ k ≤ 2 ^ (20 + k) := Nat.pow_le_pow_right (by decide) (by omega)
  omega
theorem at0 {a x : Int} {r : List Int} (h : (a :: r)[0]? = some x) : a = x := Option.some.inj h
theorem at1 {a b x : Int} {r : List Int} (h : (b :: a :: r)[1]? = some x) : a = x := Option.some.inj h
theorem at2 {a b c x : Int} {r : List Int} (h : (c :: b :: a :: r)[2]? = some x) : a = x := Option.some.inj h
theorem LI.shear {n i j num ks kt : Nat} {s t : List Int} {al b x y u v : Int} (h : LI n s t al num ks kt) (hij : i ≠ j) (hx : s[i]? = some x) (hy : s[j]? = some y) (hu : t[i]? = some u) (hv : t[j]? = some v) (hb : b.natAbs ≤ 1000000) : LI n (s.set i (x + b * y)) (t.set i (u + b * v)) al num (ks + 21) (kt + 21) := by
  have ls := h.ls
  have lt := h.lt
  have gt := h.gt
  have gm := h.gm
  have rel := h.rel
  have hi := (List.getElem?_eq_some_iff.mp hx).1
  have hj := (List.getElem?_eq_some_iff.mp hy).1
  refine ⟨h.dim, by rw [List.length_set, ls], by rw [List.length_set, lt], fun z hz => ?_, fun z hz => ?_, ?_, ?_, ?_⟩
  · rcases List.mem_or_eq_of_mem_set hz with q | rfl
    · exact up_sm (h.bs z q) (by omega)
    · exact sh_sm (h.bs x (List.mem_of_getElem? hx)) (h.bs y (List.mem_of_getElem? hy)) hb
  · rcases List.mem_or_eq_of_mem_set hz with q | rfl
    · exact up_sm (h.bt z q) (by omega)
    · exact sh_sm (h.bt u (List.mem_of_getElem? hu)) (h.bt v (List.mem_of_getElem? hv)) hb
  · rw [gcdL_shear (fun z => hij z.symm) hu hv, gt]
  · rcases h.dim with e | e <;> subst e
    · obtain ⟨a, c, rfl⟩ := two_of ls
      obtain ⟨p, q, rfl⟩ := two_of lt
      have : (i = 0 ∧ j = 1) ∨ (i = 1 ∧ j = 0) := by rw [ls] at hi hj; omega
      rcases this with ⟨rfl, rfl⟩ | ⟨rfl, rfl⟩
      · have ex := at0 hx
        have ey := at1 hy
        have eu := at0 hu
        have ev := at1 hv
        subst ex ey eu ev
        rw [← gm]
        show gcdL [(a + b * c) * q - c * (p + b * q)] = gcdL [a * q - c * p]
        congr 2
        grind
      · have ex := at1 hx
        have ey := at0 hy
        have eu := at1 hu
        have ev := at0 hv
        subst ex ey eu ev
        rw [← gm]
        show gcdL [a * (q + b * p) - (c + b * a) * p] = gcdL [a * q - c * p]
        congr 2
        grind
    · obtain ⟨a, c, f, rfl⟩ := three_of ls
      obtain ⟨p, q, r, rfl⟩ := three_of lt
      have : (i = 0 ∧ j = 1) ∨ (i = 0 ∧ j = 2) ∨ (i = 1 ∧ j = 0) ∨ (i = 1 ∧ j = 2) ∨ (i = 2 ∧ j = 0) ∨ (i = 2 ∧ j = 1) := by rw [ls] at hi hj; omega
      have e0 : minL [a, c, f] [p, q, r] = [a * q - c * p, a * r - f * p, c * r - f * q] := rfl
      rw [e0] at gm
      rw [← gm]
      generalize hA : a * q - c * p = A
      generalize hB : a * r - f * p = B
      generalize hC : c * r - f * q = C
      rcases this with ⟨rfl, rfl⟩ | ⟨rfl, rfl⟩ | ⟨rfl, rfl⟩ | ⟨rfl, rfl⟩ | ⟨rfl, rfl⟩ | ⟨rfl, rfl⟩
      · have ex := at0 hx
        have ey := at1 hy
        have eu := at0 hu
        have ev := at1 hv
        subst ex ey eu ev
        show gcdL [(a + b * c) * q - c * (p + b * q), (a + b * c) * r - f * (p + b * q), c * r - f * q] = _
        rw [show (a + b * c) * q - c * (p + b * q) = A by grind, show (a + b * c) * r - f * (p + b * q) = B + b * C by grind, hC]
        exact gcdL_shear (l := [A, B, C]) (i := 1) (j := 2) (by decide) rfl rfl
      · have ex := at0 hx
        have ey := at2 hy
        have eu := at0 hu
        have ev := at2 hv
        subst ex ey eu ev
        show gcdL [(a + b * f) * q - c * (p + b * r), (a + b * f) * r - f * (p + b * r), c * r - f * q] = _
        rw [show (a + b * f) * q - c * (p + b * r) = A + (-b) * C by grind, show (a + b * f) * r - f * (p + b * r) = B by grind, hC]
        exact gcdL_shear (l := [A, B, C]) (i := 0) (j := 2) (by decide) rfl rfl
      · have ex := at1 hx
        have ey := at0 hy
        have eu := at1 hu
        have ev := at0 hv
        subst ex ey eu ev
        show gcdL [a * (q + b * p) - (c + b * a) * p, a * r - f * p, (c + b * a) * r - f * (q + b * p)] = _
        rw [show a * (q + b * p) - (c + b * a) * p = A by grind, hB, show (c + b * a) * r - f * (q + b * p) = C + b * B by grind]
        exact gcdL_shear (l := [A, B, C]) (i := 2) (j := 1) (by decide) rfl rfl
      · have ex := at1 hx
        have ey := at2 hy
        have eu := at1 hu
        have ev := at2 hv
        subst ex ey eu ev
        show gcdL [a * (q + b * r) - (c + b * f) * p, a * r - f * p, (c + b * f) * r - f * (q + b * r)] = _
        rw [show a * (q + b * r) - (c + b * f) * p = A + b * B by grind, hB, show (c + b * f) * r - f * (q + b * r) = C by grind]
        exact gcdL_shear (l := [A, B, C]) (i := 0) (j := 1) (by decide) rfl rfl
      · have ex := at2 hx
        have ey := at0 hy
        have eu := at2 hu
        have ev := at0 hv
        subst ex ey eu ev
        show gcdL [a * q - c * p, a * (r + b * p) - (f + b * a) * p, c * (r + b * p) - (f + b * a) * q] = _
        rw [hA, show a * (r + b * p) - (f + b * a) * p = B by grind, show c * (r + b * p) - (f + b * a) * q = C + (-b) * A by grind]
        exact gcdL_shear (l := [A, B, C]) (i := 2) (j := 0) (by decide) rfl rfl
      · have ex := at2 hx
        have ey := at1 hy
        have eu := at2 hu
        have ev := at1 hv
        subst ex ey eu ev
        show gcdL [a * q - c * p, a * (r + b * q) - (f + b * c) * p, c * (r + b * q) - (f + b * c) * q] = _
        rw [hA, show a * (r + b * q) - (f + b * c) * p = B + b * A by grind, show c * (r + b * q) - (f + b * c) * q = C by grind]
        exact gcdL_shear (l := [A, B, C]) (i := 1) (j := 0) (by decide) rfl rfl
  · intro w hw
    rcases h.dim with e | e <;> subst e
    · obtain ⟨a, c, rfl⟩ := two_of ls
      obtain ⟨p, q, rfl⟩ := two_of lt
      obtain ⟨w0, w1, rfl⟩ := two_of hw
      have : (i = 0 ∧ j = 1) ∨ (i = 1 ∧ j = 0) := by rw [ls] at hi hj; omega
      rcases this with ⟨rfl, rfl⟩ | ⟨rfl, rfl⟩
      · have ex := at0 hx
        have ey := at1 hy
        have eu := at0 hu
        have ev := at1 hv
        subst ex ey eu ev
        obtain ⟨e, he⟩ := rel [w0, w1 + b * w0] rfl
        refine ⟨e, ?_⟩
        have he : w0 * a + ((w1 + b * w0) * c + 0) = al * (w0 * p + ((w1 + b * w0) * q + 0)) + num * e := he
        show w0 * (a + b * c) + (w1 * c + 0) = al * (w0 * (p + b * q) + (w1 * q + 0)) + num * e
        grind
      · have ex := at1 hx
        have ey := at0 hy
        have eu := at1 hu
        have ev := at0 hv
        subst ex ey eu ev
        obtain ⟨e, he⟩ := rel [w0 + b * w1, w1] rfl
        refine ⟨e, ?_⟩
        have he : (w0 + b * w1) * a + (w1 * c + 0) = al * ((w0 + b * w1) * p + (w1 * q + 0)) + num * e := he
        show w0 * a + (w1 * (c + b * a) + 0) = al * (w0 * p + (w1 * (q + b * p) + 0)) + num * e
        grind
    · obtain ⟨a, c, f, rfl⟩ := three_of ls
      obtain ⟨p, q, r, rfl⟩ := three_of lt
      obtain ⟨w0, w1, w2, rfl⟩ := three_of hw
      have : (i = 0 ∧ j = 1) ∨ (i = 0 ∧ j = 2) ∨ (i = 1 ∧ j = 0) ∨ (i = 1 ∧ j = 2) ∨ (i = 2 ∧ j = 0) ∨ (i = 2 ∧ j = 1) := by rw [ls] at hi hj; omega
      have D : ∀ w0 w1 w2 x y z : Int, dot [w0, w1, w2] [x, y, z] = w0 * x + (w1 * y + (w2 * z + 0)) := fun _ _ _ _ _ _ => rfl
      rcases this with ⟨rfl, rfl⟩ | ⟨rfl, rfl⟩ | ⟨rfl, rfl⟩ | ⟨rfl, rfl⟩ | ⟨rfl, rfl⟩ | ⟨rfl, rfl⟩
      · have ex := at0 hx
        have ey := at1 hy
        have eu := at0 hu
        have ev := at1 hv
        subst ex ey eu ev
        obtain ⟨e, he⟩ := rel [w0, w1 + b * w0, w2] rfl
        refine ⟨e, ?_⟩
        show dot [w0, w1, w2] [a + b * c, c, f] = al * dot [w0, w1, w2] [p + b * q, q, r] + num * e
        rw [D, D] at he ⊢
        grind
      · have ex := at0 hx
        have ey := at2 hy
        have eu := at0 hu
        have ev := at2 hv
        subst ex ey eu ev
        obtain ⟨e, he⟩ := rel [w0, w1, w2 + b * w0] rfl
        refine ⟨e, ?_⟩
        show dot [w0, w1, w2] [a + b * f, c, f] = al * dot [w0, w1, w2] [p + b * r, q, r] + num * e
        rw [D, D] at he ⊢
        grind
      · have ex := at1 hx
        have ey := at0 hy
        have eu := at1 hu
        have ev := at0 hv
        subst ex ey eu ev
        obtain ⟨e, he⟩ := rel [w0 + b * w1, w1, w2] rfl
        refine ⟨e, ?_⟩
        show dot [w0, w1, w2] [a, c + b * a, f] = al * dot [w0, w1, w2] [p, q + b * p, r] + num * e
        rw [D, D] at he ⊢
        grind
      · have ex := at1 hx
        have ey := at2 hy
        have eu := at1 hu
        have ev := at2 hv
        subst ex ey eu ev
        obtain ⟨e, he⟩ := rel [w0, w1, w2 + b * w1] rfl
        refine ⟨e, ?_⟩
        show dot [w0, w1, w2] [a, c + b * f, f] = al * dot [w0, w1, w2] [p, q + b * r, r] + num * e
        rw [D, D] at he ⊢
        grind
      · have ex := at2 hx
        have ey := at0 hy
        have eu := at2 hu
        have ev := at0 hv
        subst ex ey eu ev
        obtain ⟨e, he⟩ := rel [w0 + b * w2, w1, w2] rfl
        refine ⟨e, ?_⟩
        show dot [w0, w1, w2] [a, c, f + b * a] = al * dot [w0, w1, w2] [p, q, r + b * p] + num * e
        rw [D, D] at he ⊢
        grind
      · have ex := at2 hx
        have ey := at1 hy
        have eu := at2 hu
        have ev := at1 hv
        subst ex ey eu ev
        obtain ⟨e, he⟩ := rel [w0, w1 + b * w2, w2] rfl
        refine ⟨e, ?_⟩
        show dot [w0, w1, w2] [a, c, f + b * c] = al * dot [w0, w1, w2] [p, q, r + b * q] + num * e
        rw [D, D] at he ⊢
        grind
theorem LI.rev {n num ks kt : Nat} {s t : List Int} {al : Int} (h : LI n s t al num ks kt) : LI n s.reverse t.reverse al num ks kt := by
  refine ⟨h.dim, by rw [List.length_reverse, h.ls], by rw [List.length_reverse, h.lt], fun x hx => h.bs x (List.mem_reverse.mp hx), fun x hx => h.bt x (List.mem_reverse.mp hx), by rw [gcdL_reverse, h.gt], ?_, fun w hw => ?_⟩
  · have ls := h.ls
    have lt := h.lt
    have gm := h.gm
    rcases h.dim with e | e <;> subst e
    · obtain ⟨a, c, rfl⟩ := two_of ls
      obtain ⟨p, q, rfl⟩ := two_of lt
      rw [← gm]
      show gcdL [c * p - a * q] = gcdL [a * q - c * p]
      rw [← gcdL_neg [a * q - c * p]]
      congr 2
      grind
    · obtain ⟨a, c, f, rfl⟩ := three_of ls
      obtain ⟨p, q, r, rfl⟩ := three_of lt
      rw [← gm]
      show gcdL [f * q - c * r, f * p - a * r, c * p - a * q] = gcdL [a * q - c * p, a * r - f * p, c * r - f * q]
      rw [← gcdL_reverse [a * q - c * p, a * r - f * p, c * r - f * q], ← gcdL_neg]
      congr 1
      show [0 - (f * q - c * r), 0 - (f * p - a * r), 0 - (c * p - a * q)] = [c * r - f * q, a * r - f * p, a * q - c * p]
      rw [show 0 - (f * q - c * r) = c * r - f * q by omega, show 0 - (f * p - a * r) = a * r - f * p by omega, show 0 - (c * p - a * q) = a * q - c * p by omega]
  · have hd : ∀ {w s : List Int}, w.length = n → s.length = n → dot w s.reverse = dot w.reverse s := fun {w s} h1 h2 => by
      rcases h.dim with e | e <;> subst e
      · obtain ⟨a, c, rfl⟩ := two_of h1
        obtain ⟨p, q, rfl⟩ := two_of h2
        show a * q + (c * p + 0) = c * p + (a * q + 0)
        omega
      · obtain ⟨a, c, f, rfl⟩ := three_of h1
        obtain ⟨p, q, r, rfl⟩ := three_of h2
        show a * r + (c * q + (f * p + 0)) = f * p + (c * q + (a * r + 0))
        omega
    obtain ⟨e, he⟩ := h.rel w.reverse (by rw [List.length_reverse, hw])
    exact ⟨e, by rw [hd hw h.ls, hd hw h.lt]; exact he⟩
def Pool (w : List Int) : Prop := ∃ a, w = [a]
theorem take_ok {w : List Int} {m : Int} (hw : Pool w) (h1 : 1 ≤ m) (h2 : m < 2 ^ 250) : ∃ r w', f_law_take (m, ()) w = .ok (r, w') ∧ 0 ≤ r ∧ r < m ∧ Pool w' := by
  obtain ⟨a, rfl⟩ := hw
  have e1 : gMod a m = some (a % m) := gMod_p (by omega)
  have e2 : gDiv a m = some (a / m) := gDiv_p (x := 250) (by omega) (by omega) (by decide) (by decide)
  have i0 : gIx [a] 0 = some a := rfl
  have s0 : ∀ x : Int, setA [a] 0 x = some [x] := fun x => rfl
  refine ⟨a % m, [a / m], ?_, Int.emod_nonneg _ (by omega), Int.emod_lt_of_pos _ (by omega), _, rfl⟩
  unfold f_law_take l_law_take
  simp (config := { implicitDefEqProofs := false }) only [gIsU_n, gIsU_l, gIsU_r, Res.ok_bd, Res.bd_assoc, Res.bd_bs, Res.ok_bs, Res.ok_at, Res.ok_on, Res.ok_drop, Res.ok_wi, Res.ok_with, Res.noex_ok, optAt_some, appK_eq, appK2_eq, Bk.nx_sq, Bk.rt_sq, Bk.mapU_nx, Bk.mapU_rt, Bk.ex_sq, Res.ex_bs, Res.ex_at, Res.ex_bd, gAdd_e, gSbt_e, gLt_e, gLe_e, gGt_e, gGe_e, gEqI_e, gNeI_e, gEqB_e, gNeB_e, gIs_e, gIsnt_e, gId_e, gNeg_e, gLen_e, gCst_e, gMax2_e, gMin2_e, gAbs_e, gGcd_e, gBoolInt_e, gSum_e, gAny_e, gAll_e, gMem_e, gNmem_e, gIsN_e, gIsntN_e, gIsS_e, fT_yes, gEq_tup, gNe_tup, gEq_lst, gNe_lst, gEq_lstT, gNe_lstT, gIn_tup, gNin_tup, eq_self, if_true, if_false, Bool.false_eq_true, Bool.not_true, Bool.not_false, decide_true, Option.isNone, Option.isSome, gGet, reduceCtorEq, i0, e1, e2, setJ_some (s0 (a / m))]
  rfl
theorem pool_ok (s : List Int) {k : Int} (h0 : 0 ≤ k) (h1 : k < 1000) : ∃ w, f_law_pool (s, k, ()) = .ok w ∧ Pool w := by
  have p18 : gPow 10 18 = some (10 ^ 18) := rfl
  have p9 : gPow 10 9 = some (10 ^ 9) := rfl
  have e1 : ∀ x : Int, gMod x (10 ^ 18 + 9) = some (x % (10 ^ 18 + 9)) := fun x => gMod_p (by decide)
  have e2 : gMul 1000000007 (k + 2) = some (1000000007 * (k + 2)) := gMul_l (by decide)
  have e3 : ∀ x : Int, gDiv x (10 ^ 9) = some (x / 10 ^ 9) := fun x => gDiv_p (x := 40) (by decide) (by decide) (by decide) (by decide)
  have e4 : ∀ x : Int, gPow (x % (10 ^ 18 + 9) + 1000000007 * (k + 2)) 41 = some ((x % (10 ^ 18 + 9) + 1000000007 * (k + 2)) ^ (41 : Int).toNat) := fun x => gPow_p (by
    have := Int.emod_nonneg x (b := 10 ^ 18 + 9) (by decide)
    have := Int.emod_lt_of_pos x (b := 10 ^ 18 + 9) (by decide)
    omega)
  unfold f_law_pool l_law_pool
  simp (config := { implicitDefEqProofs := false }) only [gIsU_n, gIsU_l, gIsU_r, Res.ok_bd, Res.bd_assoc, Res.bd_bs, Res.ok_bs, Res.ok_at, Res.ok_on, Res.ok_drop, Res.ok_wi, Res.ok_with, Res.noex_ok, optAt_some, appK_eq, appK2_eq, Bk.nx_sq, Bk.rt_sq, Bk.mapU_nx, Bk.mapU_rt, Bk.ex_sq, Res.ex_bs, Res.ex_at, Res.ex_bd, gAdd_e, gSbt_e, gLt_e, gLe_e, gGt_e, gGe_e, gEqI_e, gNeI_e, gEqB_e, gNeB_e, gIs_e, gIsnt_e, gId_e, gNeg_e, gLen_e, gCst_e, gMax2_e, gMin2_e, gAbs_e, gGcd_e, gBoolInt_e, gSum_e, gAny_e, gAll_e, gMem_e, gNmem_e, gIsN_e, gIsntN_e, gIsS_e, fT_yes, gEq_tup, gNe_tup, gEq_lst, gNe_lst, gEq_lstT, gNe_lstT, gIn_tup, gNin_tup, eq_self, if_true, if_false, Bool.false_eq_true, Bool.not_true, Bool.not_false, decide_true, Option.isNone, Option.isSome, gGet, reduceCtorEq, p18, p9, e2]
  refine Bk.if_go (fun b => ∃ w, runP b = Res.ok w ∧ ∃ a, w = [a]) (fun (_ : Int) (_ : Unit) => True) (fun h => ?_) (fun _ => ⟨0, (), rfl, trivial⟩) (fun cell d _ => ?_)
  · obtain ⟨v, e, _⟩ := gIx_ok (xs := s) h0 (of_decide_eq_true h)
    exact ⟨v, (), by simp (config := { implicitDefEqProofs := false }) only [gIsU_n, gIsU_l, gIsU_r, Res.ok_bd, Res.bd_assoc, Res.bd_bs, Res.ok_bs, Res.ok_at, Res.ok_on, Res.ok_drop, Res.ok_wi, Res.ok_with, Res.noex_ok, optAt_some, appK_eq, appK2_eq, Bk.nx_sq, Bk.rt_sq, Bk.mapU_nx, Bk.mapU_rt, Bk.ex_sq, Res.ex_bs, Res.ex_at, Res.ex_bd, gAdd_e, gSbt_e, gLt_e, gLe_e, gGt_e, gGe_e, gEqI_e, gNeI_e, gEqB_e, gNeB_e, gIs_e, gIsnt_e, gId_e, gNeg_e, gLen_e, gCst_e, gMax2_e, gMin2_e, gAbs_e, gGcd_e, gBoolInt_e, gSum_e, gAny_e, gAll_e, gMem_e, gNmem_e, gIsN_e, gIsntN_e, gIsS_e, fT_yes, gEq_tup, gNe_tup, gEq_lst, gNe_lst, gEq_lstT, gNe_lstT, gIn_tup, gNin_tup, eq_self, if_true, if_false, Bool.false_eq_true, Bool.not_true, Bool.not_false, decide_true, Option.isNone, Option.isSome, gGet, reduceCtorEq, e], trivial⟩
  · by_cases h : 10 ^ 18 ≤ cell
    · refine ⟨[cell - 10 ^ 18], ?_, _, rfl⟩
      simp (config := { implicitDefEqProofs := false }) only [gIsU_n, gIsU_l, gIsU_r, Res.ok_bd, Res.bd_assoc, Res.bd_bs, Res.ok_bs, Res.ok_at, Res.ok_on, Res.ok_drop, Res.ok_wi, Res.ok_with, Res.noex_ok, optAt_some, appK_eq, appK2_eq, Bk.nx_sq, Bk.rt_sq, Bk.mapU_nx, Bk.mapU_rt, Bk.ex_sq, Res.ex_bs, Res.ex_at, Res.ex_bd, gAdd_e, gSbt_e, gLt_e, gLe_e, gGt_e, gGe_e, gEqI_e, gNeI_e, gEqB_e, gNeB_e, gIs_e, gIsnt_e, gId_e, gNeg_e, gLen_e, gCst_e, gMax2_e, gMin2_e, gAbs_e, gGcd_e, gBoolInt_e, gSum_e, gAny_e, gAll_e, gMem_e, gNmem_e, gIsN_e, gIsntN_e, gIsS_e, fT_yes, gEq_tup, gNe_tup, gEq_lst, gNe_lst, gEq_lstT, gNe_lstT, gIn_tup, gNin_tup, eq_self, if_true, if_false, Bool.false_eq_true, Bool.not_true, Bool.not_false, decide_true, Option.isNone, Option.isSome, gGet, reduceCtorEq, decide_eq_true h]
      rfl
    · refine ⟨_, ?_, ((cell % (10 ^ 18 + 9) + 1000000007 * (k + 2)) ^ (41 : Int).toNat) / 10 ^ 9, rfl⟩
      simp (config := { implicitDefEqProofs := false }) only [gIsU_n, gIsU_l, gIsU_r, Res.ok_bd, Res.bd_assoc, Res.bd_bs, Res.ok_bs, Res.ok_at, Res.ok_on, Res.ok_drop, Res.ok_wi, Res.ok_with, Res.noex_ok, optAt_some, appK_eq, appK2_eq, Bk.nx_sq, Bk.rt_sq, Bk.mapU_nx, Bk.mapU_rt, Bk.ex_sq, Res.ex_bs, Res.ex_at, Res.ex_bd, gAdd_e, gSbt_e, gLt_e, gLe_e, gGt_e, gGe_e, gEqI_e, gNeI_e, gEqB_e, gNeB_e, gIs_e, gIsnt_e, gId_e, gNeg_e, gLen_e, gCst_e, gMax2_e, gMin2_e, gAbs_e, gGcd_e, gBoolInt_e, gSum_e, gAny_e, gAll_e, gMem_e, gNmem_e, gIsN_e, gIsntN_e, gIsS_e, fT_yes, gEq_tup, gNe_tup, gEq_lst, gNe_lst, gEq_lstT, gNe_lstT, gIn_tup, gNin_tup, eq_self, if_true, if_false, Bool.false_eq_true, Bool.not_true, Bool.not_false, decide_true, Option.isNone, Option.isSome, gGet, reduceCtorEq, decide_eq_false h, e1, e4, e3]
      rfl
theorem far_ok {w : List Int} (hw : Pool w) : ∃ r w', f_law_far () w = .ok (r, w') ∧ r.natAbs ≤ 10 ^ 38 ∧ Pool w' := by
  obtain ⟨r1, w1, g1, a1, b1, s1⟩ := take_ok (m := 4) hw (by decide) (by decide)
  have p12 : gPow 10 12 = some (10 ^ 12) := rfl
  have p38 : gPow 10 38 = some (10 ^ 38) := rfl
  obtain ⟨m, em, hm⟩ := gIx_ok (xs := ([21, 21, 10 ^ 12, 10 ^ 38] : List Int)) a1 b1
  have hm2 : 21 ≤ m ∧ m ≤ 10 ^ 38 := by
    simp only [List.mem_cons, List.not_mem_nil, or_false] at hm
    rcases hm with rfl | rfl | rfl | rfl <;> decide
  obtain ⟨r2, w2, g2, a2, b2, s2⟩ := take_ok (m := 2 * m + 1) s1 (by omega) (by omega)
  unfold f_law_far l_law_far
  simp (config := { implicitDefEqProofs := false }) only [gIsU_n, gIsU_l, gIsU_r, Res.ok_bd, Res.bd_assoc, Res.bd_bs, Res.ok_bs, Res.ok_at, Res.ok_on, Res.ok_drop, Res.ok_wi, Res.ok_with, Res.noex_ok, optAt_some, appK_eq, appK2_eq, Bk.nx_sq, Bk.rt_sq, Bk.mapU_nx, Bk.mapU_rt, Bk.ex_sq, Res.ex_bs, Res.ex_at, Res.ex_bd, gAdd_e, gSbt_e, gLt_e, gLe_e, gGt_e, gGe_e, gEqI_e, gNeI_e, gEqB_e, gNeB_e, gIs_e, gIsnt_e, gId_e, gNeg_e, gLen_e, gCst_e, gMax2_e, gMin2_e, gAbs_e, gGcd_e, gBoolInt_e, gSum_e, gAny_e, gAll_e, gMem_e, gNmem_e, gIsN_e, gIsntN_e, gIsS_e, fT_yes, gEq_tup, gNe_tup, gEq_lst, gNe_lst, gEq_lstT, gNe_lstT, gIn_tup, gNin_tup, eq_self, if_true, if_false, Bool.false_eq_true, Bool.not_true, Bool.not_false, decide_true, Option.isNone, Option.isSome, gGet, reduceCtorEq, p12, p38, g1, em, gMul_l (a := 2) (b := m) (by decide), g2]
  exact ⟨r2 - m, w2, rfl, by omega, s2⟩
theorem spot_ok {w : List Int} (hw : Pool w) : ∃ r w', f_law_spot () w = .ok (r, w') ∧ r.natAbs ≤ 10 ^ 39 ∧ Pool w' := by
  obtain ⟨r1, w1, g1, a1, b1, s1⟩ := take_ok (m := 3) hw (by decide) (by decide)
  have p39 : gPow 10 39 = some (10 ^ 39) := rfl
  obtain ⟨m, em, hm⟩ := gIx_ok (xs := ([31, 40000, 10 ^ 39] : List Int)) a1 b1
  have hm2 : 31 ≤ m ∧ m ≤ 10 ^ 39 := by
    simp only [List.mem_cons, List.not_mem_nil, or_false] at hm
    rcases hm with rfl | rfl | rfl <;> decide
  obtain ⟨r2, w2, g2, a2, b2, s2⟩ := take_ok (m := 2 * m + 1) s1 (by omega) (by omega)
  unfold f_law_spot l_law_spot
  simp (config := { implicitDefEqProofs := false }) only [gIsU_n, gIsU_l, gIsU_r, Res.ok_bd, Res.bd_assoc, Res.bd_bs, Res.ok_bs, Res.ok_at, Res.ok_on, Res.ok_drop, Res.ok_wi, Res.ok_with, Res.noex_ok, optAt_some, appK_eq, appK2_eq, Bk.nx_sq, Bk.rt_sq, Bk.mapU_nx, Bk.mapU_rt, Bk.ex_sq, Res.ex_bs, Res.ex_at, Res.ex_bd, gAdd_e, gSbt_e, gLt_e, gLe_e, gGt_e, gGe_e, gEqI_e, gNeI_e, gEqB_e, gNeB_e, gIs_e, gIsnt_e, gId_e, gNeg_e, gLen_e, gCst_e, gMax2_e, gMin2_e, gAbs_e, gGcd_e, gBoolInt_e, gSum_e, gAny_e, gAll_e, gMem_e, gNmem_e, gIsN_e, gIsntN_e, gIsS_e, fT_yes, gEq_tup, gNe_tup, gEq_lst, gNe_lst, gEq_lstT, gNe_lstT, gIn_tup, gNin_tup, eq_self, if_true, if_false, Bool.false_eq_true, Bool.not_true, Bool.not_false, decide_true, Option.isNone, Option.isSome, gGet, reduceCtorEq, p39, g1, em, gMul_l (a := 2) (b := m) (by decide), g2]
  exact ⟨r2 - m, w2, rfl, by omega, s2⟩
theorem num_ok {w : List Int} (hw : Pool w) : ∃ (r : Nat) (w' : List Int), f_law_number () w = .ok ((r : Int), w') ∧ r ≤ 30030 ∧ Pool w' := by
  obtain ⟨r1, w1, g1, a1, b1, s1⟩ := take_ok (m := 4) hw (by decide) (by decide)
  unfold f_law_number l_law_number
  simp (config := { implicitDefEqProofs := false }) only [gIsU_n, gIsU_l, gIsU_r, Res.ok_bd, Res.bd_assoc, Res.bd_bs, Res.ok_bs, Res.ok_at, Res.ok_on, Res.ok_drop, Res.ok_wi, Res.ok_with, Res.noex_ok, optAt_some, appK_eq, appK2_eq, Bk.nx_sq, Bk.rt_sq, Bk.mapU_nx, Bk.mapU_rt, Bk.ex_sq, Res.ex_bs, Res.ex_at, Res.ex_bd, gAdd_e, gSbt_e, gLt_e, gLe_e, gGt_e, gGe_e, gEqI_e, gNeI_e, gEqB_e, gNeB_e, gIs_e, gIsnt_e, gId_e, gNeg_e, gLen_e, gCst_e, gMax2_e, gMin2_e, gAbs_e, gGcd_e, gBoolInt_e, gSum_e, gAny_e, gAll_e, gMem_e, gNmem_e, gIsN_e, gIsntN_e, gIsS_e, fT_yes, gEq_tup, gNe_tup, gEq_lst, gNe_lst, gEq_lstT, gNe_lstT, gIn_tup, gNin_tup, eq_self, if_true, if_false, Bool.false_eq_true, Bool.not_true, Bool.not_false, decide_true, Option.isNone, Option.isSome, gGet, reduceCtorEq, g1]
  by_cases h : r1 < 3
  · obtain ⟨m, em, hm⟩ := gIx_ok (xs := ([31, 2311, 30031] : List Int)) a1 (by show r1 < 3; omega)
    have hm2 : 31 ≤ m ∧ m ≤ 30031 := by
      simp only [List.mem_cons, List.not_mem_nil, or_false] at hm
      omega
    obtain ⟨r2, w2, g2, a2, b2, s2⟩ := take_ok (m := m) s1 (by omega) (by omega)
    obtain ⟨k, rfl⟩ := Int.eq_ofNat_of_zero_le a2
    simp (config := { implicitDefEqProofs := false }) only [gIsU_n, gIsU_l, gIsU_r, Res.ok_bd, Res.bd_assoc, Res.bd_bs, Res.ok_bs, Res.ok_at, Res.ok_on, Res.ok_drop, Res.ok_wi, Res.ok_with, Res.noex_ok, optAt_some, appK_eq, appK2_eq, Bk.nx_sq, Bk.rt_sq, Bk.mapU_nx, Bk.mapU_rt, Bk.ex_sq, Res.ex_bs, Res.ex_at, Res.ex_bd, gAdd_e, gSbt_e, gLt_e, gLe_e, gGt_e, gGe_e, gEqI_e, gNeI_e, gEqB_e, gNeB_e, gIs_e, gIsnt_e, gId_e, gNeg_e, gLen_e, gCst_e, gMax2_e, gMin2_e, gAbs_e, gGcd_e, gBoolInt_e, gSum_e, gAny_e, gAll_e, gMem_e, gNmem_e, gIsN_e, gIsntN_e, gIsS_e, fT_yes, gEq_tup, gNe_tup, gEq_lst, gNe_lst, gEq_lstT, gNe_lstT, gIn_tup, gNin_tup, eq_self, if_true, if_false, Bool.false_eq_true, Bool.not_true, Bool.not_false, decide_true, Option.isNone, Option.isSome, gGet, reduceCtorEq, decide_eq_true h, em, g2]
    exact ⟨k, w2, rfl, by omega, s2⟩
  · simp (config := { implicitDefEqProofs := false }) only [gIsU_n, gIsU_l, gIsU_r, Res.ok_bd, Res.bd_assoc, Res.bd_bs, Res.ok_bs, Res.ok_at, Res.ok_on, Res.ok_drop, Res.ok_wi, Res.ok_with, Res.noex_ok, optAt_some, appK_eq, appK2_eq, Bk.nx_sq, Bk.rt_sq, Bk.mapU_nx, Bk.mapU_rt, Bk.ex_sq, Res.ex_bs, Res.ex_at, Res.ex_bd, gAdd_e, gSbt_e, gLt_e, gLe_e, gGt_e, gGe_e, gEqI_e, gNeI_e, gEqB_e, gNeB_e, gIs_e, gIsnt_e, gId_e, gNeg_e, gLen_e, gCst_e, gMax2_e, gMin2_e, gAbs_e, gGcd_e, gBoolInt_e, gSum_e, gAny_e, gAll_e, gMem_e, gNmem_e, gIsN_e, gIsntN_e, gIsS_e, fT_yes, gEq_tup, gNe_tup, gEq_lst, gNe_lst, gEq_lstT, gNe_lstT, gIn_tup, gNin_tup, eq_self, if_true, if_false, Bool.false_eq_true, Bool.not_true, Bool.not_false, decide_true, Option.isNone, Option.isSome, gGet, reduceCtorEq, decide_eq_false h]
    refine forB_go (fun b => ∃ (r : Nat) (w' : List Int), runW b = Res.ok ((r : Int), w') ∧ r ≤ 30030 ∧ Pool w') (fun (i : Nat) (s : Int) (d : List Int × Unit) => (0 ≤ s ∧ s ≤ ([1, 2, 6, 30, 210, 2310, 30030] : List Int).getD i 30030) ∧ Pool d.1) ⟨by decide, s1⟩ (fun i a s d hi ⟨h1, h2⟩ => ?_) (fun s' d' ⟨h1, h2⟩ => ?_)
    · obtain ⟨w2, u⟩ := d
      obtain ⟨r2, w3, g2, a2, b2, s2⟩ := take_ok (m := 2) h2 (by decide) (by decide)
      have hil := (List.getElem?_eq_some_iff.mp hi).1
      have hil : i < 6 := hil
      have hm : ∀ x y : Int, gMul x y = some (x * y) ∨ ¬ (-(2 ^ 64) < y ∧ y < 2 ^ 64) := fun x y => by
        by_cases h : -(2 ^ 64) < y ∧ y < 2 ^ 64
        · exact .inl (gMul_r h)
        · exact .inr h
      have hcase : i = 0 ∨ i = 1 ∨ i = 2 ∨ i = 3 ∨ i = 4 ∨ i = 5 := by omega
      have key : gMul s a = some (s * a) ∧ 0 ≤ s * a ∧ s * a ≤ ([1, 2, 6, 30, 210, 2310, 30030] : List Int).getD (i + 1) 30030 ∧ s ≤ ([1, 2, 6, 30, 210, 2310, 30030] : List Int).getD (i + 1) 30030 := by
        rcases hcase with rfl | rfl | rfl | rfl | rfl | rfl
        · obtain rfl : (2 : Int) = a := Option.some.inj hi
          have h1 : 0 ≤ s ∧ s ≤ 1 := h1
          exact ⟨gMul_r (by decide), by omega, by show s * 2 ≤ 2; omega, by show s ≤ 2; omega⟩
        · obtain rfl : (3 : Int) = a := Option.some.inj hi
          have h1 : 0 ≤ s ∧ s ≤ 2 := h1
          exact ⟨gMul_r (by decide), by omega, by show s * 3 ≤ 6; omega, by show s ≤ 6; omega⟩
        · obtain rfl : (5 : Int) = a := Option.some.inj hi
          have h1 : 0 ≤ s ∧ s ≤ 6 := h1
          exact ⟨gMul_r (by decide), by omega, by show s * 5 ≤ 30; omega, by show s ≤ 30; omega⟩
        · obtain rfl : (7 : Int) = a := Option.some.inj hi
          have h1 : 0 ≤ s ∧ s ≤ 30 := h1
          exact ⟨gMul_r (by decide), by omega, by show s * 7 ≤ 210; omega, by show s ≤ 210; omega⟩
        · obtain rfl : (11 : Int) = a := Option.some.inj hi
          have h1 : 0 ≤ s ∧ s ≤ 210 := h1
          exact ⟨gMul_r (by decide), by omega, by show s * 11 ≤ 2310; omega, by show s ≤ 2310; omega⟩
        · obtain rfl : (13 : Int) = a := Option.some.inj hi
          have h1 : 0 ≤ s ∧ s ≤ 2310 := h1
          exact ⟨gMul_r (by decide), by omega, by show s * 13 ≤ 30030; omega, by show s ≤ 30030; omega⟩
      obtain ⟨k1, k2, k3, k4⟩ := key
      by_cases hr : r2 = 1
      · refine ⟨s * a, (w3, u), .inl ?_, ⟨k2, k3⟩, s2⟩
        simp (config := { implicitDefEqProofs := false }) only [gIsU_n, gIsU_l, gIsU_r, Res.ok_bd, Res.bd_assoc, Res.bd_bs, Res.ok_bs, Res.ok_at, Res.ok_on, Res.ok_drop, Res.ok_wi, Res.ok_with, Res.noex_ok, optAt_some, appK_eq, appK2_eq, Bk.nx_sq, Bk.rt_sq, Bk.mapU_nx, Bk.mapU_rt, Bk.ex_sq, Res.ex_bs, Res.ex_at, Res.ex_bd, gAdd_e, gSbt_e, gLt_e, gLe_e, gGt_e, gGe_e, gEqI_e, gNeI_e, gEqB_e, gNeB_e, gIs_e, gIsnt_e, gId_e, gNeg_e, gLen_e, gCst_e, gMax2_e, gMin2_e, gAbs_e, gGcd_e, gBoolInt_e, gSum_e, gAny_e, gAll_e, gMem_e, gNmem_e, gIsN_e, gIsntN_e, gIsS_e, fT_yes, gEq_tup, gNe_tup, gEq_lst, gNe_lst, gEq_lstT, gNe_lstT, gIn_tup, gNin_tup, eq_self, if_true, if_false, Bool.false_eq_true, Bool.not_true, Bool.not_false, decide_true, Option.isNone, Option.isSome, gGet, reduceCtorEq, g2, decide_eq_true hr, k1]
      · refine ⟨s, (w3, u), .inl ?_, ⟨h1.1, k4⟩, s2⟩
        simp (config := { implicitDefEqProofs := false }) only [gIsU_n, gIsU_l, gIsU_r, Res.ok_bd, Res.bd_assoc, Res.bd_bs, Res.ok_bs, Res.ok_at, Res.ok_on, Res.ok_drop, Res.ok_wi, Res.ok_with, Res.noex_ok, optAt_some, appK_eq, appK2_eq, Bk.nx_sq, Bk.rt_sq, Bk.mapU_nx, Bk.mapU_rt, Bk.ex_sq, Res.ex_bs, Res.ex_at, Res.ex_bd, gAdd_e, gSbt_e, gLt_e, gLe_e, gGt_e, gGe_e, gEqI_e, gNeI_e, gEqB_e, gNeB_e, gIs_e, gIsnt_e, gId_e, gNeg_e, gLen_e, gCst_e, gMax2_e, gMin2_e, gAbs_e, gGcd_e, gBoolInt_e, gSum_e, gAny_e, gAll_e, gMem_e, gNmem_e, gIsN_e, gIsntN_e, gIsS_e, fT_yes, gEq_tup, gNe_tup, gEq_lst, gNe_lst, gEq_lstT, gNe_lstT, gIn_tup, gNin_tup, eq_self, if_true, if_false, Bool.false_eq_true, Bool.not_true, Bool.not_false, decide_true, Option.isNone, Option.isSome, gGet, reduceCtorEq, g2, decide_eq_false hr]
    · have h1 : 0 ≤ s' ∧ s' ≤ 30030 := h1
      obtain ⟨k, rfl⟩ := Int.eq_ofNat_of_zero_le h1.1
      exact ⟨k, d'.1, rfl, by omega, h2⟩
theorem LI.up {n num ks kt ks' kt' : Nat} {s t : List Int} {al : Int} (h : LI n s t al num ks kt) (h1 : ks ≤ ks') (h2 : kt ≤ kt') : LI n s t al num ks' kt' := ⟨h.dim, h.ls, h.lt, fun x hx => up_sm (h.bs x hx) h1, fun x hx => up_sm (h.bt x hx) h2, h.gt, h.gm, h.rel⟩
theorem LI.two {al : Int} {num : Nat} (ha : al.natAbs ≤ 10 ^ 38) (hN : num ≤ 30030) : LI 2 [al, num] [1, 0] al num 131 2 := by
  refine ⟨.inl rfl, rfl, rfl, fun x hx => ?_, fun x hx => ?_, rfl, ?_, fun w hw => ?_⟩
  · simp only [List.mem_cons, List.not_mem_nil, or_false] at hx
    rcases hx with rfl | rfl
    · exact Nat.lt_of_le_of_lt ha (by decide)
    · rw [Int.natAbs_natCast]; exact Nat.lt_of_le_of_lt hN (by decide)
  · simp only [List.mem_cons, List.not_mem_nil, or_false] at hx
    rcases hx with rfl | rfl <;> decide
  · show gcdL [al * 0 - num * 1] = num
    rw [gcdL_one]
    omega
  · obtain ⟨w0, w1, rfl⟩ := two_of hw
    refine ⟨w1, ?_⟩
    show w0 * al + (w1 * (num : Int) + 0) = al * (w0 * 1 + (w1 * 0 + 0)) + num * w1
    grind
theorem LI.three {al o v : Int} {num : Nat} (ha : al.natAbs ≤ 10 ^ 38) (hN : num ≤ 30030) (ho : o.natAbs ≤ 4) (hv : v.natAbs ≤ 4) (hg : gcdL [o, v] = 1) : LI 3 [al, num * o, num * v] [1, 0, 0] al num 131 2 := by
  have bd : ∀ z : Int, z.natAbs ≤ 4 → ((num : Int) * z).natAbs < 2 ^ 131 := fun z hz => up_sm (mul_sm (x := 15) (y := 3) (show ((num : Int)).natAbs < 2 ^ 15 by omega) (show z.natAbs < 2 ^ 3 by omega)) (by decide)
  refine ⟨.inr rfl, rfl, rfl, fun x hx => ?_, fun x hx => ?_, rfl, ?_, fun w hw => ?_⟩
  · simp only [List.mem_cons, List.not_mem_nil, or_false] at hx
    rcases hx with rfl | rfl | rfl
    · exact Nat.lt_of_le_of_lt ha (by decide)
    · exact bd o ho
    · exact bd v hv
  · simp only [List.mem_cons, List.not_mem_nil, or_false] at hx
    rcases hx with rfl | rfl | rfl <;> decide
  · show gcdL [al * 0 - num * o * 1, al * 0 - num * v * 1, num * o * 0 - num * v * 0] = num
    have e : [al * 0 - num * o * 1, al * 0 - num * v * 1, num * o * 0 - num * v * 0] = [0 - o * num, 0 - v * num, 0] := by
      rw [show al * 0 - (num : Int) * o * 1 = 0 - o * num by grind, show al * 0 - (num : Int) * v * 1 = 0 - v * num by grind, show (num : Int) * o * 0 - num * v * 0 = 0 by omega]
    rw [e]
    have e2 := gcdL_neg [o * num, v * num]
    have e3 := gcdL_mul [o, v] (num : Int)
    have e4 : gcdL [0 - o * num, 0 - v * (num : Int), 0] = gcdL [0 - o * num, 0 - v * (num : Int)] := by
      show Nat.gcd _ (Nat.gcd _ (Nat.gcd 0 0)) = Nat.gcd _ (Nat.gcd _ 0)
      rfl
    rw [e4]
    have e2 : gcdL [0 - o * num, 0 - v * (num : Int)] = gcdL [o * num, v * num] := e2
    have e3 : gcdL [o * num, v * (num : Int)] = gcdL [o, v] * ((num : Int)).natAbs := e3
    rw [e2, e3, hg, Nat.one_mul, Int.natAbs_natCast]
  · obtain ⟨w0, w1, w2, rfl⟩ := three_of hw
    refine ⟨w1 * o + w2 * v, ?_⟩
    show w0 * al + (w1 * (num * o) + (w2 * (num * v) + 0)) = al * (w0 * 1 + (w1 * 0 + (w2 * 0 + 0))) + num * (w1 * o + w2 * v)
    grind
theorem ldraw_ok {w : List Int} {n num : Nat} (hw : Pool w) (hn : n = 2 ∨ n = 3) (hN : num ≤ 30030) : ∃ s t al w', f_law_line ((num : Int), (n : Int), ()) w = .ok ((s, t, al), w') ∧ LI n s t al num 200 100 ∧ al.natAbs ≤ 10 ^ 38 ∧ Pool w' := by
  obtain ⟨al, w1, g1, b1, s1⟩ := far_ok hw
  unfold f_law_line l_law_line
  simp (config := { implicitDefEqProofs := false }) only [gIsU_n, gIsU_l, gIsU_r, Res.ok_bd, Res.bd_assoc, Res.bd_bs, Res.ok_bs, Res.ok_at, Res.ok_on, Res.ok_drop, Res.ok_wi, Res.ok_with, Res.noex_ok, optAt_some, appK_eq, appK2_eq, Bk.nx_sq, Bk.rt_sq, Bk.mapU_nx, Bk.mapU_rt, Bk.ex_sq, Res.ex_bs, Res.ex_at, Res.ex_bd, gAdd_e, gSbt_e, gLt_e, gLe_e, gGt_e, gGe_e, gEqI_e, gNeI_e, gEqB_e, gNeB_e, gIs_e, gIsnt_e, gId_e, gNeg_e, gLen_e, gCst_e, gMax2_e, gMin2_e, gAbs_e, gGcd_e, gBoolInt_e, gSum_e, gAny_e, gAll_e, gMem_e, gNmem_e, gIsN_e, gIsntN_e, gIsS_e, fT_yes, gEq_tup, gNe_tup, gEq_lst, gNe_lst, gEq_lstT, gNe_lstT, gIn_tup, gNin_tup, eq_self, if_true, if_false, Bool.false_eq_true, Bool.not_true, Bool.not_false, decide_true, Option.isNone, Option.isSome, gGet, reduceCtorEq, g1]
  refine Bk.if_go (fun b => ∃ s t al' w', runW b = Res.ok ((s, t, al'), w') ∧ LI n s t al' num 200 100 ∧ al'.natAbs ≤ 10 ^ 38 ∧ Pool w') (fun (_ : Unit) (d : List Int × List Int × List Int × Unit) => LI n d.2.1 d.2.2.1 al num 131 2 ∧ Pool d.1) (fun h3 => ?_) (fun h3 => ?_) (fun _ d ⟨hL, hP⟩ => ?_)
  · have h3 := of_decide_eq_true h3
    obtain rfl : n = 3 := by omega
    obtain ⟨ra, w2, g2, a2, b2, s2⟩ := take_ok (m := 9) s1 (by decide) (by decide)
    obtain ⟨rb, w3, g3, a3, b3, s3⟩ := take_ok (m := 9) s2 (by decide) (by decide)
    simp (config := { implicitDefEqProofs := false }) only [gIsU_n, gIsU_l, gIsU_r, Res.ok_bd, Res.bd_assoc, Res.bd_bs, Res.ok_bs, Res.ok_at, Res.ok_on, Res.ok_drop, Res.ok_wi, Res.ok_with, Res.noex_ok, optAt_some, appK_eq, appK2_eq, Bk.nx_sq, Bk.rt_sq, Bk.mapU_nx, Bk.mapU_rt, Bk.ex_sq, Res.ex_bs, Res.ex_at, Res.ex_bd, gAdd_e, gSbt_e, gLt_e, gLe_e, gGt_e, gGe_e, gEqI_e, gNeI_e, gEqB_e, gNeB_e, gIs_e, gIsnt_e, gId_e, gNeg_e, gLen_e, gCst_e, gMax2_e, gMin2_e, gAbs_e, gGcd_e, gBoolInt_e, gSum_e, gAny_e, gAll_e, gMem_e, gNmem_e, gIsN_e, gIsntN_e, gIsS_e, fT_yes, gEq_tup, gNe_tup, gEq_lst, gNe_lst, gEq_lstT, gNe_lstT, gIn_tup, gNin_tup, eq_self, if_true, if_false, Bool.false_eq_true, Bool.not_true, Bool.not_false, decide_true, Option.isNone, Option.isSome, gGet, reduceCtorEq, g2, g3, lgcd_ok]
    have mk : ∀ o v : Int, o.natAbs ≤ 4 → v.natAbs ≤ 4 → gcdL [o, v] = 1 → LI 3 [al, num * o, num * v] [1, 0, 0] al num 131 2 := fun o v ho hv hg => LI.three b1 hN ho hv hg
    have gm : ∀ z : Int, gMul (num : Int) z = some ((num : Int) * z) := fun z => gMul_l (by omega)
    by_cases hz : ((gcdL [ra - 4, rb - 4] : Nat) : Int) = 0
    · have hz2 := gcdL_zero (l := [ra - 4, rb - 4]) (by omega) (rb - 4) (by simp)
      have d1 : gDiv 1 1 = some (1 / 1) := gDiv_p (x := 1) (by decide) (by decide) (by decide) (by decide)
      have d2 : gDiv (rb - 4) 1 = some ((rb - 4) / 1) := gDiv_p (x := 1) (by decide) (by decide) (by decide) (by decide)
      simp (config := { implicitDefEqProofs := false }) only [gIsU_n, gIsU_l, gIsU_r, Res.ok_bd, Res.bd_assoc, Res.bd_bs, Res.ok_bs, Res.ok_at, Res.ok_on, Res.ok_drop, Res.ok_wi, Res.ok_with, Res.noex_ok, optAt_some, appK_eq, appK2_eq, Bk.nx_sq, Bk.rt_sq, Bk.mapU_nx, Bk.mapU_rt, Bk.ex_sq, Res.ex_bs, Res.ex_at, Res.ex_bd, gAdd_e, gSbt_e, gLt_e, gLe_e, gGt_e, gGe_e, gEqI_e, gNeI_e, gEqB_e, gNeB_e, gIs_e, gIsnt_e, gId_e, gNeg_e, gLen_e, gCst_e, gMax2_e, gMin2_e, gAbs_e, gGcd_e, gBoolInt_e, gSum_e, gAny_e, gAll_e, gMem_e, gNmem_e, gIsN_e, gIsntN_e, gIsS_e, fT_yes, gEq_tup, gNe_tup, gEq_lst, gNe_lst, gEq_lstT, gNe_lstT, gIn_tup, gNin_tup, eq_self, if_true, if_false, Bool.false_eq_true, Bool.not_true, Bool.not_false, decide_true, Option.isNone, Option.isSome, gGet, reduceCtorEq, decide_eq_true hz, cvt2_e, d1, d2, gm]
      exact ⟨(), _, rfl, mk (1 / 1) ((rb - 4) / 1) (by decide) (by rw [hz2]; decide) (by rw [hz2]; rfl), s3⟩
    · have hg0 : gcdL [ra - 4, rb - 4] ≠ 0 := by omega
      have hg9 : gcdL [ra - 4, rb - 4] < 9 := gcdL_lt (by decide) _ fun x hx => by
        simp only [List.mem_cons, List.not_mem_nil, or_false] at hx
        omega
      have hd : ∀ x : Int, gDiv x ((gcdL [ra - 4, rb - 4] : Nat) : Int) = some (x / ((gcdL [ra - 4, rb - 4] : Nat) : Int)) := fun x => gDiv_p (x := 4) (by omega) (by omega) (by decide) (by decide)
      have hf := firstL_gcd (l := [ra - 4, rb - 4]) hg0
      have hle : ∀ x : Int, x.natAbs ≤ 4 → (x / ((gcdL [ra - 4, rb - 4] : Nat) : Int)).natAbs ≤ 4 := fun x hx => by
        generalize gcdL [ra - 4, rb - 4] = g at *
        have hc : g = 1 ∨ g = 2 ∨ g = 3 ∨ g = 4 ∨ g = 5 ∨ g = 6 ∨ g = 7 ∨ g = 8 := by omega
        rcases hc with rfl | rfl | rfl | rfl | rfl | rfl | rfl | rfl <;> omega
      simp (config := { implicitDefEqProofs := false }) only [gIsU_n, gIsU_l, gIsU_r, Res.ok_bd, Res.bd_assoc, Res.bd_bs, Res.ok_bs, Res.ok_at, Res.ok_on, Res.ok_drop, Res.ok_wi, Res.ok_with, Res.noex_ok, optAt_some, appK_eq, appK2_eq, Bk.nx_sq, Bk.rt_sq, Bk.mapU_nx, Bk.mapU_rt, Bk.ex_sq, Res.ex_bs, Res.ex_at, Res.ex_bd, gAdd_e, gSbt_e, gLt_e, gLe_e, gGt_e, gGe_e, gEqI_e, gNeI_e, gEqB_e, gNeB_e, gIs_e, gIsnt_e, gId_e, gNeg_e, gLen_e, gCst_e, gMax2_e, gMin2_e, gAbs_e, gGcd_e, gBoolInt_e, gSum_e, gAny_e, gAll_e, gMem_e, gNmem_e, gIsN_e, gIsntN_e, gIsS_e, fT_yes, gEq_tup, gNe_tup, gEq_lst, gNe_lst, gEq_lstT, gNe_lstT, gIn_tup, gNin_tup, eq_self, if_true, if_false, Bool.false_eq_true, Bool.not_true, Bool.not_false, decide_true, Option.isNone, Option.isSome, gGet, reduceCtorEq, decide_eq_false hz, hd, gm]
      refine ⟨(), _, rfl, mk _ _ (hle _ (by omega)) (hle _ (by omega)) ?_, s3⟩
      have e : firstL [ra - 4, rb - 4] = [(ra - 4) / ((gcdL [ra - 4, rb - 4] : Nat) : Int), (rb - 4) / ((gcdL [ra - 4, rb - 4] : Nat) : Int)] := by
        unfold firstL
        first | rfl | (rw [if_neg hg0]; rfl)
      rw [e] at hf
      exact hf
  · have h3 : ¬ ((n : Int) = 3) := of_decide_eq_false (by simpa using h3)
    obtain rfl : n = 2 := by omega
    exact ⟨(), _, rfl, LI.two b1 hN, s1⟩
  · have r3 : gRng1 3 = some (rng 0 3) := gRng1_nat 3 (by decide)
    have p6 : gPow 10 6 = some (10 ^ 6) := rfl
    simp (config := { implicitDefEqProofs := false }) only [gIsU_n, gIsU_l, gIsU_r, Res.ok_bd, Res.bd_assoc, Res.bd_bs, Res.ok_bs, Res.ok_at, Res.ok_on, Res.ok_drop, Res.ok_wi, Res.ok_with, Res.noex_ok, optAt_some, appK_eq, appK2_eq, Bk.nx_sq, Bk.rt_sq, Bk.mapU_nx, Bk.mapU_rt, Bk.ex_sq, Res.ex_bs, Res.ex_at, Res.ex_bd, gAdd_e, gSbt_e, gLt_e, gLe_e, gGt_e, gGe_e, gEqI_e, gNeI_e, gEqB_e, gNeB_e, gIs_e, gIsnt_e, gId_e, gNeg_e, gLen_e, gCst_e, gMax2_e, gMin2_e, gAbs_e, gGcd_e, gBoolInt_e, gSum_e, gAny_e, gAll_e, gMem_e, gNmem_e, gIsN_e, gIsntN_e, gIsS_e, fT_yes, gEq_tup, gNe_tup, gEq_lst, gNe_lst, gEq_lstT, gNe_lstT, gIn_tup, gNin_tup, eq_self, if_true, if_false, Bool.false_eq_true, Bool.not_true, Bool.not_false, decide_true, Option.isNone, Option.isSome, gGet, reduceCtorEq, r3]
    refine forB_go (fun b => ∃ s t al' w', runW b = Res.ok ((s, t, al'), w') ∧ LI n s t al' num 200 100 ∧ al'.natAbs ≤ 10 ^ 38 ∧ Pool w') (fun (i : Nat) (_ : Unit) (d : List Int × List Int × List Int × Unit) => LI n d.2.1 d.2.2.1 al num (131 + 21 * i) (2 + 21 * i) ∧ Pool d.1) ⟨hL, hP⟩ (fun k a s d hi ⟨h1, h2⟩ => ?_) (fun s' d' ⟨h1, h2⟩ => ?_)
    · obtain ⟨w4, S, T, u⟩ := d
      have h1 : LI n S T al num (131 + 21 * k) (2 + 21 * k) := h1
      obtain ⟨i, w5, g5, a5, b5, s5⟩ := take_ok (m := (n : Int)) h2 (by omega) (by omega)
      obtain ⟨i, rfl⟩ := Int.eq_ofNat_of_zero_le a5
      obtain ⟨q, w6, g6, a6, b6, s6⟩ := take_ok (m := (n : Int) - 1) s5 (by omega) (by omega)
      obtain ⟨q2, w7, g7, a7, b7, s7⟩ := take_ok (m := 2) s6 (by decide) (by decide)
      obtain ⟨m, em, hm⟩ := gIx_ok (xs := ([2, 10 ^ 6] : List Int)) a7 b7
      have hm2 : m = 2 ∨ m = 10 ^ 6 := by simpa using hm
      obtain ⟨q3, w8, g8, a8, b8, s8⟩ := take_ok (m := 2 * m + 1) s7 (by omega) (by omega)
      obtain ⟨j, ej, hj, hij⟩ : ∃ j : Nat, ((i : Int) + 1 + q) % (n : Int) = (j : Int) ∧ j < n ∧ i ≠ j := by
        refine ⟨(((i : Int) + 1 + q) % (n : Int)).toNat, ?_, ?_, ?_⟩ <;> rcases hn with rfl | rfl <;> omega
      have ls := h1.ls
      have lt := h1.lt
      have hx : S[i]? = some (S[i]'(by omega)) := List.getElem?_eq_getElem (by omega)
      have hy : S[j]? = some (S[j]'(by omega)) := List.getElem?_eq_getElem (by omega)
      have hu : T[i]? = some (T[i]'(by omega)) := List.getElem?_eq_getElem (by omega)
      have hv : T[j]? = some (T[j]'(by omega)) := List.getElem?_eq_getElem (by omega)
      have hL2 := h1.shear (b := q3 - m) hij hx hy hu hv (by omega)
      generalize S[i]'(by omega) = x at hx hL2
      generalize S[j]'(by omega) = y at hy hL2
      generalize T[i]'(by omega) = z at hu hL2
      generalize T[j]'(by omega) = v at hv hL2
      have gm : ∀ c : Int, gMul (q3 - m) c = some ((q3 - m) * c) := fun c => gMul_l (by omega)
      refine ⟨(), (w8, S.set i (x + (q3 - m) * y), T.set i (z + (q3 - m) * v), u), .inl ?_, hL2.up (by omega) (by omega), s8⟩
      simp (config := { implicitDefEqProofs := false }) only [gIsU_n, gIsU_l, gIsU_r, Res.ok_bd, Res.bd_assoc, Res.bd_bs, Res.ok_bs, Res.ok_at, Res.ok_on, Res.ok_drop, Res.ok_wi, Res.ok_with, Res.noex_ok, optAt_some, appK_eq, appK2_eq, Bk.nx_sq, Bk.rt_sq, Bk.mapU_nx, Bk.mapU_rt, Bk.ex_sq, Res.ex_bs, Res.ex_at, Res.ex_bd, gAdd_e, gSbt_e, gLt_e, gLe_e, gGt_e, gGe_e, gEqI_e, gNeI_e, gEqB_e, gNeB_e, gIs_e, gIsnt_e, gId_e, gNeg_e, gLen_e, gCst_e, gMax2_e, gMin2_e, gAbs_e, gGcd_e, gBoolInt_e, gSum_e, gAny_e, gAll_e, gMem_e, gNmem_e, gIsN_e, gIsntN_e, gIsS_e, fT_yes, gEq_tup, gNe_tup, gEq_lst, gNe_lst, gEq_lstT, gNe_lstT, gIn_tup, gNin_tup, eq_self, if_true, if_false, Bool.false_eq_true, Bool.not_true, Bool.not_false, decide_true, Option.isNone, Option.isSome, gGet, reduceCtorEq, g5, g6, gMod_p (a := (i : Int) + 1 + q) (b := (n : Int)) (by omega), ej, p6, g7, em, gMul_l (a := 2) (b := m) (by decide), g8, gIx_nat hx, gIx_nat hy, gm]
      rw [setJ_some (setA_ok (xs := S) (i := (i : Int)) (by omega) (by omega))]
      simp (config := { implicitDefEqProofs := false }) only [gIsU_n, gIsU_l, gIsU_r, Res.ok_bd, Res.bd_assoc, Res.bd_bs, Res.ok_bs, Res.ok_at, Res.ok_on, Res.ok_drop, Res.ok_wi, Res.ok_with, Res.noex_ok, optAt_some, appK_eq, appK2_eq, Bk.nx_sq, Bk.rt_sq, Bk.mapU_nx, Bk.mapU_rt, Bk.ex_sq, Res.ex_bs, Res.ex_at, Res.ex_bd, gAdd_e, gSbt_e, gLt_e, gLe_e, gGt_e, gGe_e, gEqI_e, gNeI_e, gEqB_e, gNeB_e, gIs_e, gIsnt_e, gId_e, gNeg_e, gLen_e, gCst_e, gMax2_e, gMin2_e, gAbs_e, gGcd_e, gBoolInt_e, gSum_e, gAny_e, gAll_e, gMem_e, gNmem_e, gIsN_e, gIsntN_e, gIsS_e, fT_yes, gEq_tup, gNe_tup, gEq_lst, gNe_lst, gEq_lstT, gNe_lstT, gIn_tup, gNin_tup, eq_self, if_true, if_false, Bool.false_eq_true, Bool.not_true, Bool.not_false, decide_true, Option.isNone, Option.isSome, gGet, reduceCtorEq, gIx_nat hu, gIx_nat hv, gm]
      rw [setJ_some (setA_ok (xs := T) (i := (i : Int)) (by omega) (by omega))]
      rfl
    · obtain ⟨w4, S, T, u⟩ := d'
      have h1 : LI n S T al num (131 + 21 * 3) (2 + 21 * 3) := h1
      obtain ⟨q2, w7, g7, a7, b7, s7⟩ := take_ok (m := 2) h2 (by decide) (by decide)
      by_cases hq : q2 = 1
      · simp (config := { implicitDefEqProofs := false }) only [gIsU_n, gIsU_l, gIsU_r, Res.ok_bd, Res.bd_assoc, Res.bd_bs, Res.ok_bs, Res.ok_at, Res.ok_on, Res.ok_drop, Res.ok_wi, Res.ok_with, Res.noex_ok, optAt_some, appK_eq, appK2_eq, Bk.nx_sq, Bk.rt_sq, Bk.mapU_nx, Bk.mapU_rt, Bk.ex_sq, Res.ex_bs, Res.ex_at, Res.ex_bd, gAdd_e, gSbt_e, gLt_e, gLe_e, gGt_e, gGe_e, gEqI_e, gNeI_e, gEqB_e, gNeB_e, gIs_e, gIsnt_e, gId_e, gNeg_e, gLen_e, gCst_e, gMax2_e, gMin2_e, gAbs_e, gGcd_e, gBoolInt_e, gSum_e, gAny_e, gAll_e, gMem_e, gNmem_e, gIsN_e, gIsntN_e, gIsS_e, fT_yes, gEq_tup, gNe_tup, gEq_lst, gNe_lst, gEq_lstT, gNe_lstT, gIn_tup, gNin_tup, eq_self, if_true, if_false, Bool.false_eq_true, Bool.not_true, Bool.not_false, decide_true, Option.isNone, Option.isSome, gGet, reduceCtorEq, g7, decide_eq_true hq]
        exact ⟨_, _, _, w7, rfl, h1.rev.up (by decide) (by decide), b1, s7⟩
      · simp (config := { implicitDefEqProofs := false }) only [gIsU_n, gIsU_l, gIsU_r, Res.ok_bd, Res.bd_assoc, Res.bd_bs, Res.ok_bs, Res.ok_at, Res.ok_on, Res.ok_drop, Res.ok_wi, Res.ok_with, Res.noex_ok, optAt_some, appK_eq, appK2_eq, Bk.nx_sq, Bk.rt_sq, Bk.mapU_nx, Bk.mapU_rt, Bk.ex_sq, Res.ex_bs, Res.ex_at, Res.ex_bd, gAdd_e, gSbt_e, gLt_e, gLe_e, gGt_e, gGe_e, gEqI_e, gNeI_e, gEqB_e, gNeB_e, gIs_e, gIsnt_e, gId_e, gNeg_e, gLen_e, gCst_e, gMax2_e, gMin2_e, gAbs_e, gGcd_e, gBoolInt_e, gSum_e, gAny_e, gAll_e, gMem_e, gNmem_e, gIsN_e, gIsntN_e, gIsS_e, fT_yes, gEq_tup, gNe_tup, gEq_lst, gNe_lst, gEq_lstT, gNe_lstT, gIn_tup, gNin_tup, eq_self, if_true, if_false, Bool.false_eq_true, Bool.not_true, Bool.not_false, decide_true, Option.isNone, Option.isSome, gGet, reduceCtorEq, g7, decide_eq_false hq]
        exact ⟨_, _, _, w7, rfl, h1.up (by decide) (by decide), b1, s7⟩
theorem made_ok {n num : Nat} {s t : List Int} {al : Int} (h : LI n s t al num 200 100) : ∃ c e : Int, f_LineUinitU (s, t, ()) = .ok (s, t, (num : Int), c, ()) ∧ c = -(al + num * e) := by
  obtain ⟨w, wl, wd, wb, e⟩ := line_ok (k := 200) h.dim h.ls h.lt h.bs (fun x hx => up_sm (h.bt x hx) (by decide)) (by decide) h.gt
  obtain ⟨e1, he⟩ := h.rel w wl
  rw [h.gm] at e
  exact ⟨_, e1, e, by rw [he, wd, Int.mul_one]⟩
theorem gcd_move (x num e : Int) : gcdL [x + e * num, num] = gcdL [x, num] := gcdL_shear (l := [x, num]) (i := 0) (j := 1) (by decide) rfl rfl
theorem gcd2 (x : Int) (num : Nat) : gcdL [x, (num : Int)] = Nat.gcd x.natAbs num := by
  show Nat.gcd x.natAbs (Nat.gcd ((num : Int)).natAbs 0) = _
  rw [Nat.gcd_zero_right, Int.natAbs_natCast]
theorem seen_ok {L : LineT} {s t : List Int} {num : Nat} {al e c x : Int} (hL : L = (s, t, (num : Int), c, ())) (hc : c = -(al + num * e)) : f_Lineseen_at (L, x - al, ()) = .ok (decide (((gcdL [x, (num : Int)] : Nat) : Int) = 1)) := by
  subst hL hc
  unfold f_Lineseen_at l_Lineseen_at
  have e1 : x - al - -(al + num * e) = x + e * num := by grind
  have e2 : gGcd (x + e * num, (num : Int), ()) = some ((Nat.gcd (x + e * num).natAbs ((num : Int)).natAbs : Nat) : Int) := rfl
  have e3 : Nat.gcd (x + e * num).natAbs ((num : Int)).natAbs = gcdL [x, (num : Int)] := by
    rw [Int.natAbs_natCast, ← gcd2, gcd_move]
  simp (config := { implicitDefEqProofs := false }) only [gIsU_n, gIsU_l, gIsU_r, Res.ok_bd, Res.bd_assoc, Res.bd_bs, Res.ok_bs, Res.ok_at, Res.ok_on, Res.ok_drop, Res.ok_wi, Res.ok_with, Res.noex_ok, optAt_some, appK_eq, appK2_eq, Bk.nx_sq, Bk.rt_sq, Bk.mapU_nx, Bk.mapU_rt, Bk.ex_sq, Res.ex_bs, Res.ex_at, Res.ex_bd, gAdd_e, gSbt_e, gLt_e, gLe_e, gGt_e, gGe_e, gEqI_e, gNeI_e, gEqB_e, gNeB_e, gIs_e, gIsnt_e, gId_e, gNeg_e, gLen_e, gCst_e, gMax2_e, gMin2_e, gAbs_e, gGcd_e, gBoolInt_e, gSum_e, gAny_e, gAll_e, gMem_e, gNmem_e, gIsN_e, gIsntN_e, gIsS_e, fT_yes, gEq_tup, gNe_tup, gEq_lst, gNe_lst, gEq_lstT, gNe_lstT, gIn_tup, gNin_tup, eq_self, if_true, if_false, Bool.false_eq_true, Bool.not_true, Bool.not_false, decide_true, Option.isNone, Option.isSome, gGet, reduceCtorEq, e1, e2, e3]
  rfl
theorem law_true : ∀ ns : List Int, ns.length ≤ 63 → (∀ z ∈ ns, Builtin.Int.intBits z ≤ 1048576) → f_law (ns, ()) = .ok true := fun ns hlen _ => by
  unfold f_law l_law
  obtain ⟨mm, hmm, hm4⟩ : ∃ m : Nat, min ((ns.length : Nat) : Int) 5 + 1 = (m : Int) ∧ m ≤ 6 := ⟨(min ((ns.length : Nat) : Int) 5 + 1).toNat, by omega, by omega⟩
  simp (config := { implicitDefEqProofs := false }) only [gIsU_n, gIsU_l, gIsU_r, Res.ok_bd, Res.bd_assoc, Res.bd_bs, Res.ok_bs, Res.ok_at, Res.ok_on, Res.ok_drop, Res.ok_wi, Res.ok_with, Res.noex_ok, optAt_some, appK_eq, appK2_eq, Bk.nx_sq, Bk.rt_sq, Bk.mapU_nx, Bk.mapU_rt, Bk.ex_sq, Res.ex_bs, Res.ex_at, Res.ex_bd, gAdd_e, gSbt_e, gLt_e, gLe_e, gGt_e, gGe_e, gEqI_e, gNeI_e, gEqB_e, gNeB_e, gIs_e, gIsnt_e, gId_e, gNeg_e, gLen_e, gCst_e, gMax2_e, gMin2_e, gAbs_e, gGcd_e, gBoolInt_e, gSum_e, gAny_e, gAll_e, gMem_e, gNmem_e, gIsN_e, gIsntN_e, gIsS_e, fT_yes, gEq_tup, gNe_tup, gEq_lst, gNe_lst, gEq_lstT, gNe_lstT, gIn_tup, gNin_tup, eq_self, if_true, if_false, Bool.false_eq_true, Bool.not_true, Bool.not_false, decide_true, Option.isNone, Option.isSome, gGet, reduceCtorEq, hmm, gRng1_nat mm (by omega)]
  rw [forB_same (fun a ha => ?_)]
  · rfl
  · obtain ⟨h1, h2⟩ := rng_mem.mp ha
    obtain ⟨w, ew, sw⟩ := pool_ok ns (k := a) h1 (by omega)
    obtain ⟨r0, w0, g0, a0, b0, s0⟩ := take_ok (m := 2) sw (by decide) (by decide)
    obtain ⟨n, hn, hd⟩ : ∃ n : Nat, 2 + r0 = (n : Int) ∧ (n = 2 ∨ n = 3) := ⟨(2 + r0).toNat, by omega, by omega⟩
    obtain ⟨num, w1, g1, hN, s1⟩ := num_ok s0
    obtain ⟨s, t, al, w2, g2, hL, hal, s2⟩ := ldraw_ok s1 hd hN
    obtain ⟨c, e, eL, hc⟩ := made_ok hL
    have r4 : gRng1 4 = some (rng 0 4) := gRng1_nat 4 (by decide)
    simp (config := { implicitDefEqProofs := false }) only [gIsU_n, gIsU_l, gIsU_r, Res.ok_bd, Res.bd_assoc, Res.bd_bs, Res.ok_bs, Res.ok_at, Res.ok_on, Res.ok_drop, Res.ok_wi, Res.ok_with, Res.noex_ok, optAt_some, appK_eq, appK2_eq, Bk.nx_sq, Bk.rt_sq, Bk.mapU_nx, Bk.mapU_rt, Bk.ex_sq, Res.ex_bs, Res.ex_at, Res.ex_bd, gAdd_e, gSbt_e, gLt_e, gLe_e, gGt_e, gGe_e, gEqI_e, gNeI_e, gEqB_e, gNeB_e, gIs_e, gIsnt_e, gId_e, gNeg_e, gLen_e, gCst_e, gMax2_e, gMin2_e, gAbs_e, gGcd_e, gBoolInt_e, gSum_e, gAny_e, gAll_e, gMem_e, gNmem_e, gIsN_e, gIsntN_e, gIsS_e, fT_yes, gEq_tup, gNe_tup, gEq_lst, gNe_lst, gEq_lstT, gNe_lstT, gIn_tup, gNin_tup, eq_self, if_true, if_false, Bool.false_eq_true, Bool.not_true, Bool.not_false, decide_true, Option.isNone, Option.isSome, gGet, reduceCtorEq, ew, g0, hn, g1, g2, eL, r4]
    obtain ⟨spots, w3, e3, l3, _, s3⟩ := lc_wellM (S := Pool) (P := fun _ : Int => True) (e := ()) (xs := rng 0 4) (w := w2) (f := fT (fun (_ : Int) (d : List Int × Unit) => Res.ok (true, d)) fun (_ : Int) (d : List Int × Unit) => (f_law_spot () d.1).on (fun b d => (b, d.2)) d) (by rw [rng_len, sizeL]; omega) s2 (fun a _ w hw => by
      obtain ⟨r, w', g, _, rs⟩ := spot_ok hw
      exact ⟨r, w', by
        unfold fT
        simp (config := { implicitDefEqProofs := false }) only [gIsU_n, gIsU_l, gIsU_r, Res.ok_bd, Res.bd_assoc, Res.bd_bs, Res.ok_bs, Res.ok_at, Res.ok_on, Res.ok_drop, Res.ok_wi, Res.ok_with, Res.noex_ok, optAt_some, appK_eq, appK2_eq, Bk.nx_sq, Bk.rt_sq, Bk.mapU_nx, Bk.mapU_rt, Bk.ex_sq, Res.ex_bs, Res.ex_at, Res.ex_bd, gAdd_e, gSbt_e, gLt_e, gLe_e, gGt_e, gGe_e, gEqI_e, gNeI_e, gEqB_e, gNeB_e, gIs_e, gIsnt_e, gId_e, gNeg_e, gLen_e, gCst_e, gMax2_e, gMin2_e, gAbs_e, gGcd_e, gBoolInt_e, gSum_e, gAny_e, gAll_e, gMem_e, gNmem_e, gIsN_e, gIsntN_e, gIsS_e, fT_yes, gEq_tup, gNe_tup, gEq_lst, gNe_lst, gEq_lstT, gNe_lstT, gIn_tup, gNin_tup, eq_self, if_true, if_false, Bool.false_eq_true, Bool.not_true, Bool.not_false, decide_true, Option.isNone, Option.isSome, gGet, reduceCtorEq, g], trivial, rs⟩)
    obtain ⟨r, w4, g4, _, s4⟩ := spot_ok s3
    have d1 : gDiv r 30031 = some (r / 30031) := gDiv_p (x := 20) (by decide) (by decide) (by decide) (by decide)
    have m1 : gMul (r / 30031) (num : Int) = some (r / 30031 * num) := gMul_r (by omega)
    rw [rng_len] at l3
    simp (config := { implicitDefEqProofs := false }) only [gIsU_n, gIsU_l, gIsU_r, Res.ok_bd, Res.bd_assoc, Res.bd_bs, Res.ok_bs, Res.ok_at, Res.ok_on, Res.ok_drop, Res.ok_wi, Res.ok_with, Res.noex_ok, optAt_some, appK_eq, appK2_eq, Bk.nx_sq, Bk.rt_sq, Bk.mapU_nx, Bk.mapU_rt, Bk.ex_sq, Res.ex_bs, Res.ex_at, Res.ex_bd, gAdd_e, gSbt_e, gLt_e, gLe_e, gGt_e, gGe_e, gEqI_e, gNeI_e, gEqB_e, gNeB_e, gIs_e, gIsnt_e, gId_e, gNeg_e, gLen_e, gCst_e, gMax2_e, gMin2_e, gAbs_e, gGcd_e, gBoolInt_e, gSum_e, gAny_e, gAll_e, gMem_e, gNmem_e, gIsN_e, gIsntN_e, gIsS_e, fT_yes, gEq_tup, gNe_tup, gEq_lst, gNe_lst, gEq_lstT, gNe_lstT, gIn_tup, gNin_tup, eq_self, if_true, if_false, Bool.false_eq_true, Bool.not_true, Bool.not_false, decide_true, Option.isNone, Option.isSome, gGet, reduceCtorEq, e3, g4, d1, m1]
    have c1 : gCat spots [r / 30031 * num + 1, 1, -1, 0, (num : Int)] = some (spots ++ [r / 30031 * num + 1, 1, -1, 0, (num : Int)]) := gCat_ok (by rw [l3]; exact Nat.le_of_ble_eq_true rfl)
    simp (config := { implicitDefEqProofs := false }) only [gIsU_n, gIsU_l, gIsU_r, Res.ok_bd, Res.bd_assoc, Res.bd_bs, Res.ok_bs, Res.ok_at, Res.ok_on, Res.ok_drop, Res.ok_wi, Res.ok_with, Res.noex_ok, optAt_some, appK_eq, appK2_eq, Bk.nx_sq, Bk.rt_sq, Bk.mapU_nx, Bk.mapU_rt, Bk.ex_sq, Res.ex_bs, Res.ex_at, Res.ex_bd, gAdd_e, gSbt_e, gLt_e, gLe_e, gGt_e, gGe_e, gEqI_e, gNeI_e, gEqB_e, gNeB_e, gIs_e, gIsnt_e, gId_e, gNeg_e, gLen_e, gCst_e, gMax2_e, gMin2_e, gAbs_e, gGcd_e, gBoolInt_e, gSum_e, gAny_e, gAll_e, gMem_e, gNmem_e, gIsN_e, gIsntN_e, gIsS_e, fT_yes, gEq_tup, gNe_tup, gEq_lst, gNe_lst, gEq_lstT, gNe_lstT, gIn_tup, gNin_tup, eq_self, if_true, if_false, Bool.false_eq_true, Bool.not_true, Bool.not_false, decide_true, Option.isNone, Option.isSome, gGet, reduceCtorEq, c1]
    have hsl : (spots ++ [r / 30031 * num + 1, 1, -1, 0, (num : Int)]).length = 9 := by rw [List.length_append, l3]; rfl
    generalize spots ++ [r / 30031 * num + 1, 1, -1, 0, (num : Int)] = X at hsl
    obtain ⟨x0, ex, _⟩ := gIx_ok (xs := X) (i := 0) (by decide) (by omega)
    simp (config := { implicitDefEqProofs := false }) only [gIsU_n, gIsU_l, gIsU_r, Res.ok_bd, Res.bd_assoc, Res.bd_bs, Res.ok_bs, Res.ok_at, Res.ok_on, Res.ok_drop, Res.ok_wi, Res.ok_with, Res.noex_ok, optAt_some, appK_eq, appK2_eq, Bk.nx_sq, Bk.rt_sq, Bk.mapU_nx, Bk.mapU_rt, Bk.ex_sq, Res.ex_bs, Res.ex_at, Res.ex_bd, gAdd_e, gSbt_e, gLt_e, gLe_e, gGt_e, gGe_e, gEqI_e, gNeI_e, gEqB_e, gNeB_e, gIs_e, gIsnt_e, gId_e, gNeg_e, gLen_e, gCst_e, gMax2_e, gMin2_e, gAbs_e, gGcd_e, gBoolInt_e, gSum_e, gAny_e, gAll_e, gMem_e, gNmem_e, gIsN_e, gIsntN_e, gIsS_e, fT_yes, gEq_tup, gNe_tup, gEq_lst, gNe_lst, gEq_lstT, gNe_lstT, gIn_tup, gNin_tup, eq_self, if_true, if_false, Bool.false_eq_true, Bool.not_true, Bool.not_false, decide_true, Option.isNone, Option.isSome, gGet, reduceCtorEq, ex, seen_ok (x := x0) rfl hc, lgcd_ok]
    simp (config := { implicitDefEqProofs := false }) only [gIsU_n, gIsU_l, gIsU_r, Res.ok_bd, Res.bd_assoc, Res.bd_bs, Res.ok_bs, Res.ok_at, Res.ok_on, Res.ok_drop, Res.ok_wi, Res.ok_with, Res.noex_ok, optAt_some, appK_eq, appK2_eq, Bk.nx_sq, Bk.rt_sq, Bk.mapU_nx, Bk.mapU_rt, Bk.ex_sq, Res.ex_bs, Res.ex_at, Res.ex_bd, gAdd_e, gSbt_e, gLt_e, gLe_e, gGt_e, gGe_e, gEqI_e, gNeI_e, gEqB_e, gNeB_e, gIs_e, gIsnt_e, gId_e, gNeg_e, gLen_e, gCst_e, gMax2_e, gMin2_e, gAbs_e, gGcd_e, gBoolInt_e, gSum_e, gAny_e, gAll_e, gMem_e, gNmem_e, gIsN_e, gIsntN_e, gIsS_e, fT_yes, gEq_tup, gNe_tup, gEq_lst, gNe_lst, gEq_lstT, gNe_lstT, gIn_tup, gNin_tup, eq_self, if_true, if_false, Bool.false_eq_true, Bool.not_true, Bool.not_false, decide_true, Option.isNone, Option.isSome, gGet, reduceCtorEq, gCat_ok (xs := X) (ys := X.reverse) (by rw [List.length_reverse]; omega)]
    rw [forB_same (fun x hx => ?_)]
    · rfl
    · simp (config := { implicitDefEqProofs := false }) only [gIsU_n, gIsU_l, gIsU_r, Res.ok_bd, Res.bd_assoc, Res.bd_bs, Res.ok_bs, Res.ok_at, Res.ok_on, Res.ok_drop, Res.ok_wi, Res.ok_with, Res.noex_ok, optAt_some, appK_eq, appK2_eq, Bk.nx_sq, Bk.rt_sq, Bk.mapU_nx, Bk.mapU_rt, Bk.ex_sq, Res.ex_bs, Res.ex_at, Res.ex_bd, gAdd_e, gSbt_e, gLt_e, gLe_e, gGt_e, gGe_e, gEqI_e, gNeI_e, gEqB_e, gNeB_e, gIs_e, gIsnt_e, gId_e, gNeg_e, gLen_e, gCst_e, gMax2_e, gMin2_e, gAbs_e, gGcd_e, gBoolInt_e, gSum_e, gAny_e, gAll_e, gMem_e, gNmem_e, gIsN_e, gIsntN_e, gIsS_e, fT_yes, gEq_tup, gNe_tup, gEq_lst, gNe_lst, gEq_lstT, gNe_lstT, gIn_tup, gNin_tup, eq_self, if_true, if_false, Bool.false_eq_true, Bool.not_true, Bool.not_false, decide_true, Option.isNone, Option.isSome, gGet, reduceCtorEq, seen_ok (x := x) rfl hc, lgcd_ok]

theorem ok_law (T : Txt K mg A) : FnOk P w K mg base CX0 6 A.a_law A.f_law ["_law_script"] (spLaw K) := (ok_lawF T).imp (law_sp law_true)
end
theorem all_mk {l : PySem.W.OpenLaw} {w : World} {K : PySem.W.Frag} {h : Heap} {mg : Str → Option Value} {fa : Addr} (X : K.In h) (G : h.Ns mainGlobals mg) (hfa : mg "law" = some (.ref fa))
    {cLine : Addr}
    (aCLine : PySem.W.nsIn K mainGlobals "Line" = some (some (.ref cLine)))
    (pgLine : PySem.W.plainGet K cLine Str.empty = true)
    (hdLine : PySem.W.hasDictIn K cLine = true)
    (poLine : PySem.W.plainOver K cLine = true)
    (saLine : PySem.W.findIn K (.ref cLine) "__setattr__" = some (some (.builtin "object.__setattr__")))
    (mkLine : PySem.W.makesIn K cLine = true)
    (kcLine : PySem.W.keepIn K (.ref cLine) = true)
    (haLine : PySem.W.findIn K (.ref cLine) "__class__" = some (some (.builtin "object.__class__")))
    (hnLine : PySem.W.specialIn K (.builtin "object.__class__") "__get__" = some (some (.builtin "getset_descriptor.__get__")))
    (htLine : PySem.W.takesIn K (.builtin "object.__class__") = some true)
    (hmLine : PySem.W.mroIn K cLine (.type "object") = some true)
    (naLine_start : PySem.W.findIn K (.ref cLine) "_start" = some none)
    (naLine_step : PySem.W.findIn K (.ref cLine) "_step" = some none)
    (naLine_number : PySem.W.findIn K (.ref cLine) "_number" = some none)
    (naLine_centre : PySem.W.findIn K (.ref cLine) "_centre" = some none)
    {od0 an0 : Option Addr} {sl0 : Array (Option Value)} {oc0 kV0 dc0 pm0 cd0 ct0 : Value} {f0 : Addr}
    (a0 : PySem.W.nsIn K mainGlobals "common_divisor" = some (some (.ref f0)))
    (l0 : K.lookup f0 = some ⟨oc0, od0, .func (PySem.W.fnOf "common_divisor" "common_divisor" (defArgs s_common_divisor) (defBody s_common_divisor) (defScope s_common_divisor) .none kV0 dc0 pm0 an0 cd0 ct0), sl0⟩)
    (c0 : PySem.W.codeIn K cd0 "common_divisor" = true)
    (k0 : PySem.W.keepIn K (.ref f0) = true)
    {od1 an1 : Option Addr} {sl1 : Array (Option Value)} {oc1 kV1 dc1 pm1 cd1 ct1 : Value} {f1 : Addr}
    (a1 : PySem.W.nsIn K mainGlobals "less" = some (some (.ref f1)))
    (l1 : K.lookup f1 = some ⟨oc1, od1, .func (PySem.W.fnOf "less" "less" (defArgs s_less) (defBody s_less) (defScope s_less) .none kV1 dc1 pm1 an1 cd1 ct1), sl1⟩)
    (c1 : PySem.W.codeIn K cd1 "less" = true)
    (k1 : PySem.W.keepIn K (.ref f1) = true)
    {od2 an2 : Option Addr} {sl2 : Array (Option Value)} {oc2 kV2 dc2 pm2 cd2 ct2 : Value} {f2 : Addr}
    (a2 : PySem.W.findIn K (.ref cLine) "seen_at" = some (some (.ref f2)))
    (i2 : PySem.W.isFn K (.ref f2) = true)
    (l2 : K.lookup f2 = some ⟨oc2, od2, .func (PySem.W.fnOf "seen_at" "Line.seen_at" (defArgs s_Lineseen_at) (defBody s_Lineseen_at) (defScope s_Lineseen_at) .none kV2 dc2 pm2 an2 cd2 ct2), sl2⟩)
    (c2 : PySem.W.codeIn K cd2 "Line.seen_at" = true)
    (k2 : PySem.W.keepIn K (.ref f2) = true)
    {od3 an3 : Option Addr} {sl3 : Array (Option Value)} {oc3 kV3 dc3 pm3 cd3 ct3 : Value} {f3 : Addr}
    (a3 : PySem.W.findIn K (.ref cLine) "__eq__" = some (some (.ref f3)))
    (i3 : PySem.W.isFn K (.ref f3) = true)
    (l3 : K.lookup f3 = some ⟨oc3, od3, .func (PySem.W.fnOf "__eq__" "Line.__eq__" (defArgs s_LineUeqU) (defBody s_LineUeqU) (defScope s_LineUeqU) .none kV3 dc3 pm3 an3 cd3 ct3), sl3⟩)
    (c3 : PySem.W.codeIn K cd3 "Line.__eq__" = true)
    (k3 : PySem.W.keepIn K (.ref f3) = true)
    {od4 an4 : Option Addr} {sl4 : Array (Option Value)} {oc4 kV4 dc4 pm4 cd4 ct4 : Value} {f4 : Addr}
    (a4 : PySem.W.nsIn K mainGlobals "_law_pool" = some (some (.ref f4)))
    (l4 : K.lookup f4 = some ⟨oc4, od4, .func (PySem.W.fnOf "_law_pool" "_law_pool" (defArgs s_law_pool) (defBody s_law_pool) (defScope s_law_pool) .none kV4 dc4 pm4 an4 cd4 ct4), sl4⟩)
    (c4 : PySem.W.codeIn K cd4 "_law_pool" = true)
    (k4 : PySem.W.keepIn K (.ref f4) = true)
    {od5 an5 : Option Addr} {sl5 : Array (Option Value)} {oc5 kV5 dc5 pm5 cd5 ct5 : Value} {f5 : Addr}
    (a5 : PySem.W.nsIn K mainGlobals "_law_take" = some (some (.ref f5)))
    (l5 : K.lookup f5 = some ⟨oc5, od5, .func (PySem.W.fnOf "_law_take" "_law_take" (defArgs s_law_take) (defBody s_law_take) (defScope s_law_take) .none kV5 dc5 pm5 an5 cd5 ct5), sl5⟩)
    (c5 : PySem.W.codeIn K cd5 "_law_take" = true)
    (k5 : PySem.W.keepIn K (.ref f5) = true)
    {od6 an6 : Option Addr} {sl6 : Array (Option Value)} {oc6 kV6 dc6 pm6 cd6 ct6 : Value} {f6 : Addr}
    (a6 : PySem.W.nsIn K mainGlobals "_law_gcd" = some (some (.ref f6)))
    (l6 : K.lookup f6 = some ⟨oc6, od6, .func (PySem.W.fnOf "_law_gcd" "_law_gcd" (defArgs s_law_gcd) (defBody s_law_gcd) (defScope s_law_gcd) .none kV6 dc6 pm6 an6 cd6 ct6), sl6⟩)
    (c6 : PySem.W.codeIn K cd6 "_law_gcd" = true)
    (k6 : PySem.W.keepIn K (.ref f6) = true)
    {od7 an7 : Option Addr} {sl7 : Array (Option Value)} {oc7 kV7 dc7 pm7 cd7 ct7 : Value} {f7 : Addr}
    (a7 : PySem.W.nsIn K mainGlobals "two_weights" = some (some (.ref f7)))
    (l7 : K.lookup f7 = some ⟨oc7, od7, .func (PySem.W.fnOf "two_weights" "two_weights" (defArgs s_two_weights) (defBody s_two_weights) (defScope s_two_weights) .none kV7 dc7 pm7 an7 cd7 ct7), sl7⟩)
    (c7 : PySem.W.codeIn K cd7 "two_weights" = true)
    (k7 : PySem.W.keepIn K (.ref f7) = true)
    {od8 an8 : Option Addr} {sl8 : Array (Option Value)} {oc8 kV8 dc8 pm8 cd8 ct8 : Value} {f8 : Addr}
    (a8 : PySem.W.nsIn K mainGlobals "number_of" = some (some (.ref f8)))
    (l8 : K.lookup f8 = some ⟨oc8, od8, .func (PySem.W.fnOf "number_of" "number_of" (defArgs s_number_of) (defBody s_number_of) (defScope s_number_of) .none kV8 dc8 pm8 an8 cd8 ct8), sl8⟩)
    (c8 : PySem.W.codeIn K cd8 "number_of" = true)
    (k8 : PySem.W.keepIn K (.ref f8) = true)
    {od9 an9 : Option Addr} {sl9 : Array (Option Value)} {oc9 kV9 dc9 pm9 cd9 ct9 : Value} {f9 : Addr}
    (a9 : PySem.W.nsIn K mainGlobals "_law_far" = some (some (.ref f9)))
    (l9 : K.lookup f9 = some ⟨oc9, od9, .func (PySem.W.fnOf "_law_far" "_law_far" (defArgs s_law_far) (defBody s_law_far) (defScope s_law_far) .none kV9 dc9 pm9 an9 cd9 ct9), sl9⟩)
    (c9 : PySem.W.codeIn K cd9 "_law_far" = true)
    (k9 : PySem.W.keepIn K (.ref f9) = true)
    {od10 an10 : Option Addr} {sl10 : Array (Option Value)} {oc10 kV10 dc10 pm10 cd10 ct10 : Value} {f10 : Addr}
    (a10 : PySem.W.nsIn K mainGlobals "_law_number" = some (some (.ref f10)))
    (l10 : K.lookup f10 = some ⟨oc10, od10, .func (PySem.W.fnOf "_law_number" "_law_number" (defArgs s_law_number) (defBody s_law_number) (defScope s_law_number) .none kV10 dc10 pm10 an10 cd10 ct10), sl10⟩)
    (c10 : PySem.W.codeIn K cd10 "_law_number" = true)
    (k10 : PySem.W.keepIn K (.ref f10) = true)
    {od11 an11 : Option Addr} {sl11 : Array (Option Value)} {oc11 kV11 dc11 pm11 cd11 ct11 : Value} {f11 : Addr}
    (a11 : PySem.W.nsIn K mainGlobals "_law_spot" = some (some (.ref f11)))
    (l11 : K.lookup f11 = some ⟨oc11, od11, .func (PySem.W.fnOf "_law_spot" "_law_spot" (defArgs s_law_spot) (defBody s_law_spot) (defScope s_law_spot) .none kV11 dc11 pm11 an11 cd11 ct11), sl11⟩)
    (c11 : PySem.W.codeIn K cd11 "_law_spot" = true)
    (k11 : PySem.W.keepIn K (.ref f11) = true)
    {od12 an12 : Option Addr} {sl12 : Array (Option Value)} {oc12 kV12 dc12 pm12 cd12 ct12 : Value} {f12 : Addr}
    (a12 : PySem.W.nsIn K mainGlobals "weights_of" = some (some (.ref f12)))
    (l12 : K.lookup f12 = some ⟨oc12, od12, .func (PySem.W.fnOf "weights_of" "weights_of" (defArgs s_weights_of) (defBody s_weights_of) (defScope s_weights_of) .none kV12 dc12 pm12 an12 cd12 ct12), sl12⟩)
    (c12 : PySem.W.codeIn K cd12 "weights_of" = true)
    (k12 : PySem.W.keepIn K (.ref f12) = true)
    {od13 an13 : Option Addr} {sl13 : Array (Option Value)} {oc13 kV13 dc13 pm13 cd13 ct13 : Value} {f13 : Addr}
    (a13 : PySem.W.nsIn K mainGlobals "check_place" = some (some (.ref f13)))
    (l13 : K.lookup f13 = some ⟨oc13, od13, .func (PySem.W.fnOf "check_place" "check_place" (defArgs s_check_place) (defBody s_check_place) (defScope s_check_place) .none kV13 dc13 pm13 an13 cd13 ct13), sl13⟩)
    (c13 : PySem.W.codeIn K cd13 "check_place" = true)
    (k13 : PySem.W.keepIn K (.ref f13) = true)
    {od14 an14 : Option Addr} {sl14 : Array (Option Value)} {oc14 kV14 dc14 pm14 cd14 ct14 : Value} {f14 : Addr}
    (a14 : PySem.W.nsIn K mainGlobals "check_any_place" = some (some (.ref f14)))
    (l14 : K.lookup f14 = some ⟨oc14, od14, .func (PySem.W.fnOf "check_any_place" "check_any_place" (defArgs s_check_any_place) (defBody s_check_any_place) (defScope s_check_any_place) .none kV14 dc14 pm14 an14 cd14 ct14), sl14⟩)
    (c14 : PySem.W.codeIn K cd14 "check_any_place" = true)
    (k14 : PySem.W.keepIn K (.ref f14) = true)
    {od15 an15 : Option Addr} {sl15 : Array (Option Value)} {oc15 kV15 dc15 pm15 cd15 ct15 : Value} {f15 : Addr}
    (a15 : PySem.W.nsIn K mainGlobals "_law_line" = some (some (.ref f15)))
    (l15 : K.lookup f15 = some ⟨oc15, od15, .func (PySem.W.fnOf "_law_line" "_law_line" (defArgs s_law_line) (defBody s_law_line) (defScope s_law_line) .none kV15 dc15 pm15 an15 cd15 ct15), sl15⟩)
    (c15 : PySem.W.codeIn K cd15 "_law_line" = true)
    (k15 : PySem.W.keepIn K (.ref f15) = true)
    {od16 an16 : Option Addr} {sl16 : Array (Option Value)} {oc16 kV16 dc16 pm16 cd16 ct16 : Value} {f16 : Addr}
    (a16 : PySem.W.findIn K (.ref cLine) "__init__" = some (some (.ref f16)))
    (i16 : PySem.W.isFn K (.ref f16) = true)
    (l16 : K.lookup f16 = some ⟨oc16, od16, .func (PySem.W.fnOf "__init__" "Line.__init__" (defArgs s_LineUinitU) (defBody s_LineUinitU) (defScope s_LineUinitU) .none kV16 dc16 pm16 an16 cd16 ct16), sl16⟩)
    (c16 : PySem.W.codeIn K cd16 "Line.__init__" = true)
    (k16 : PySem.W.keepIn K (.ref f16) = true)
    {od17 an17 : Option Addr} {sl17 : Array (Option Value)} {oc17 kV17 dc17 pm17 cd17 ct17 : Value} {f17 : Addr}
    (a17 : PySem.W.nsIn K mainGlobals "law" = some (some (.ref f17)))
    (l17 : K.lookup f17 = some ⟨oc17, od17, .func (PySem.W.fnOf "law" "law" (defArgs s_law) (defBody s_law) (defScope s_law) .none kV17 dc17 pm17 an17 cd17 ct17), sl17⟩)
    (c17 : PySem.W.codeIn K cd17 "law" = true)
    (k17 : PySem.W.keepIn K (.ref f17) = true)
    (z_abs : PySem.W.nsIn K mainGlobals "abs" = some none)
    (z_bool : PySem.W.nsIn K mainGlobals "bool" = some none)
    (z_gcd : PySem.W.nsIn K mainGlobals "gcd" = some (some (.builtin "math.gcd")))
    (z_int : PySem.W.nsIn K mainGlobals "int" = some none)
    (z_isinstance : PySem.W.nsIn K mainGlobals "isinstance" = some none)
    (z_len : PySem.W.nsIn K mainGlobals "len" = some none)
    (z_min : PySem.W.nsIn K mainGlobals "min" = some none)
    (z_range : PySem.W.nsIn K mainGlobals "range" = some none)
    (z_sum : PySem.W.nsIn K mainGlobals "sum" = some none)
    (z_tuple : PySem.W.nsIn K mainGlobals "tuple" = some none)
    (z_zip : PySem.W.nsIn K mainGlobals "zip" = some none)
    {odI anI : Option Addr} {slI : Array (Option Value)} {ocI kVI dcI pmI cdI ctI : Value} {fI : Addr}
    (lI : K.lookup fI = some ⟨ocI, odI, .func (PySem.W.fnOf "__init__" "PostError.__init__" (defArgs s_init) (defBody s_init) (defScope s_init) .none kVI dcI pmI anI cdI ctI), slI⟩)
    (cI : PySem.W.codeIn K cdI "PostError.__init__" = true)
    (kI : PySem.W.keepIn K (.ref fI) = true)
    (tI : PySem.W.typeIn K (.ref fI) = some (.type "function"))
    (hnC : PySem.W.specialIn K (.builtin "object.__class__") "__get__" = some (some (.builtin "getset_descriptor.__get__")))
    (htC : PySem.W.takesIn K (.builtin "object.__class__") = some true)
    {cPostError : Addr}
    (aCPostError : PySem.W.nsIn K mainGlobals "PostError" = some (some (.ref cPostError)))
    (eCPostError : PySem.W.subIn K (.ref cPostError) (.type "BaseException") = some true)
    (tCPostError : PySem.W.typeIn K (.ref cPostError) = some (.type "type"))
    (hCPostError : PySem.W.hasDictIn K cPostError = true)
    {cInvalidPlace : Addr}
    (aCInvalidPlace : PySem.W.nsIn K mainGlobals "InvalidPlace" = some (some (.ref cInvalidPlace)))
    (eCInvalidPlace : PySem.W.subIn K (.ref cInvalidPlace) (.type "BaseException") = some true)
    (tCInvalidPlace : PySem.W.typeIn K (.ref cInvalidPlace) = some (.type "type"))
    (hCInvalidPlace : PySem.W.hasDictIn K cInvalidPlace = true)
    {nmInvalidPlace qInvalidPlace : Str} {NInvalidPlace : Addr} {bsInvalidPlace : List Value} {snInvalidPlace : List Str} {subInvalidPlace : List Value} {abInvalidPlace : Bool} {colInvalidPlace : Option Bool} {ddInvalidPlace : Option Addr} {m0InvalidPlace m1InvalidPlace m2InvalidPlace m3InvalidPlace m5InvalidPlace : Option Value}
    (xLInvalidPlace : K.lookup cInvalidPlace = some (excClassObj nmInvalidPlace qInvalidPlace cInvalidPlace NInvalidPlace bsInvalidPlace [.ref cPostError, .type "ValueError", .type "Exception", .type "BaseException", .type "object"] true snInvalidPlace subInvalidPlace abInvalidPlace colInvalidPlace ddInvalidPlace m0InvalidPlace m1InvalidPlace m2InvalidPlace m3InvalidPlace m5InvalidPlace "ValueError.__new__"))
    (saInvalidPlace : PySem.W.findIn K (.ref cInvalidPlace) "__setattr__" = some (some (.builtin "object.__setattr__")))
    (gaInvalidPlace : PySem.W.findIn K (.ref cInvalidPlace) "__getattribute__" = some (some (.builtin "BaseException.__getattribute__")))
    (ggInvalidPlace : PySem.W.findIn K (.ref cInvalidPlace) "__getattr__" = some none)
    (nvInvalidPlace : PySem.W.findIn K (.ref cInvalidPlace) "value" = some none)
    (iCInvalidPlace : PySem.W.findIn K (.ref cInvalidPlace) "__init__" = some (some (.ref fI)))
    (kCInvalidPlace : PySem.W.keepIn K (.ref cInvalidPlace) = true)
    (acInvalidPlace : PySem.W.findIn K (.ref cInvalidPlace) "__class__" = some (some (.builtin "object.__class__")))
    (omInvalidPlace : PySem.W.mroIn K cInvalidPlace (.type "object") = some true)
    (spInvalidPlace : PySem.W.subIn K (.ref cInvalidPlace) (.ref cPostError) = some true)
    {cInvalidStep : Addr}
    (aCInvalidStep : PySem.W.nsIn K mainGlobals "InvalidStep" = some (some (.ref cInvalidStep)))
    (eCInvalidStep : PySem.W.subIn K (.ref cInvalidStep) (.type "BaseException") = some true)
    (tCInvalidStep : PySem.W.typeIn K (.ref cInvalidStep) = some (.type "type"))
    (hCInvalidStep : PySem.W.hasDictIn K cInvalidStep = true)
    {nmInvalidStep qInvalidStep : Str} {NInvalidStep : Addr} {bsInvalidStep : List Value} {snInvalidStep : List Str} {subInvalidStep : List Value} {abInvalidStep : Bool} {colInvalidStep : Option Bool} {ddInvalidStep : Option Addr} {m0InvalidStep m1InvalidStep m2InvalidStep m3InvalidStep m5InvalidStep : Option Value}
    (xLInvalidStep : K.lookup cInvalidStep = some (excClassObj nmInvalidStep qInvalidStep cInvalidStep NInvalidStep bsInvalidStep [.ref cPostError, .type "ValueError", .type "Exception", .type "BaseException", .type "object"] true snInvalidStep subInvalidStep abInvalidStep colInvalidStep ddInvalidStep m0InvalidStep m1InvalidStep m2InvalidStep m3InvalidStep m5InvalidStep "ValueError.__new__"))
    (saInvalidStep : PySem.W.findIn K (.ref cInvalidStep) "__setattr__" = some (some (.builtin "object.__setattr__")))
    (gaInvalidStep : PySem.W.findIn K (.ref cInvalidStep) "__getattribute__" = some (some (.builtin "BaseException.__getattribute__")))
    (ggInvalidStep : PySem.W.findIn K (.ref cInvalidStep) "__getattr__" = some none)
    (nvInvalidStep : PySem.W.findIn K (.ref cInvalidStep) "value" = some none)
    (iCInvalidStep : PySem.W.findIn K (.ref cInvalidStep) "__init__" = some (some (.ref fI)))
    (kCInvalidStep : PySem.W.keepIn K (.ref cInvalidStep) = true)
    (acInvalidStep : PySem.W.findIn K (.ref cInvalidStep) "__class__" = some (some (.builtin "object.__class__")))
    (omInvalidStep : PySem.W.mroIn K cInvalidStep (.type "object") = some true)
    (spInvalidStep : PySem.W.subIn K (.ref cInvalidStep) (.ref cPostError) = some true)
    : ∃ fd : FuncData, (∀ (s : Shared) (v : Value), BindsTo s fd ⟨[v], []⟩ [("_law_script", v)]) ∧ ∀ base : Heap, K.In base → base.Ns mainGlobals mg → FnOk l.prog w K mg base CX0 6 fa fd ["_law_script"] (spLaw K) := by
  have e := hfa.symm.trans (PySem.W.mg_of X G a17)
  cases e
  have F0 := fun_mk (st := s_common_divisor) l0 c0 k0
  have b0 := F0.binds (ps := ["place"]) fun _ _ _ _ _ _ us hl => match us, hl with | [_], _ => rfl
  have F1 := fun_mk (st := s_less) l1 c1 k1
  have b1 := F1.binds (ps := ["place", "other"]) fun _ _ _ _ _ _ us hl => match us, hl with | [_, _], _ => rfl
  have F2 := fun_mk (st := s_Lineseen_at) l2 c2 k2
  have b2 := F2.binds (ps := ["self", "t"]) fun _ _ _ _ _ _ us hl => match us, hl with | [_, _], _ => rfl
  have F3 := fun_mk (st := s_LineUeqU) l3 c3 k3
  have b3 := F3.binds (ps := ["self", "other"]) fun _ _ _ _ _ _ us hl => match us, hl with | [_, _], _ => rfl
  have F4 := fun_mk (st := s_law_pool) l4 c4 k4
  have b4 := F4.binds (ps := ["_law_script", "_law_k"]) fun _ _ _ _ _ _ us hl => match us, hl with | [_, _], _ => rfl
  have F5 := fun_mk (st := s_law_take) l5 c5 k5
  have b5 := F5.binds (ps := ["_law_pool_here", "_law_parts"]) fun _ _ _ _ _ _ us hl => match us, hl with | [_, _], _ => rfl
  have F6 := fun_mk (st := s_law_gcd) l6 c6 k6
  have b6 := F6.binds (ps := ["_law_values"]) fun _ _ _ _ _ _ us hl => match us, hl with | [_], _ => rfl
  have F7 := fun_mk (st := s_two_weights) l7 c7 k7
  have b7 := F7.binds (ps := ["one", "other"]) fun _ _ _ _ _ _ us hl => match us, hl with | [_, _], _ => rfl
  have F8 := fun_mk (st := s_number_of) l8 c8 k8
  have b8 := F8.binds (ps := ["start", "step"]) fun _ _ _ _ _ _ us hl => match us, hl with | [_, _], _ => rfl
  have F9 := fun_mk (st := s_law_far) l9 c9 k9
  have b9 := F9.binds (ps := ["_law_pool_here"]) fun _ _ _ _ _ _ us hl => match us, hl with | [_], _ => rfl
  have F10 := fun_mk (st := s_law_number) l10 c10 k10
  have b10 := F10.binds (ps := ["_law_pool_here"]) fun _ _ _ _ _ _ us hl => match us, hl with | [_], _ => rfl
  have F11 := fun_mk (st := s_law_spot) l11 c11 k11
  have b11 := F11.binds (ps := ["_law_pool_here"]) fun _ _ _ _ _ _ us hl => match us, hl with | [_], _ => rfl
  have F12 := fun_mk (st := s_weights_of) l12 c12 k12
  have b12 := F12.binds (ps := ["place"]) fun _ _ _ _ _ _ us hl => match us, hl with | [_], _ => rfl
  have F13 := fun_mk (st := s_check_place) l13 c13 k13
  have b13 := F13.binds (ps := ["place", "size"]) fun _ _ _ _ _ _ us hl => match us, hl with | [_, _], _ => rfl
  have F14 := fun_mk (st := s_check_any_place) l14 c14 k14
  have b14 := F14.binds (ps := ["place"]) fun _ _ _ _ _ _ us hl => match us, hl with | [_], _ => rfl
  have F15 := fun_mk (st := s_law_line) l15 c15 k15
  have b15 := F15.binds (ps := ["_law_pool_here", "_law_number_here", "_law_size"]) fun _ _ _ _ _ _ us hl => match us, hl with | [_, _, _], _ => rfl
  have F16 := fun_mk (st := s_LineUinitU) l16 c16 k16
  have b16 := F16.binds (ps := ["self", "start", "step"]) fun _ _ _ _ _ _ us hl => match us, hl with | [_, _, _], _ => rfl
  have F17 := fun_mk (st := s_law) l17 c17 k17
  have b17 := F17.binds (ps := ["_law_script"]) fun _ _ _ _ _ _ us hl => match us, hl with | [_], _ => rfl
  have FI := fun_mk (st := s_init) lI cI kI
  have bI := FI.binds (ps := ["self", "value"]) fun _ _ _ _ _ _ us hl => match us, hl with | [_, _], _ => rfl
  have kb_Lineseen_at : KBn K (PySem.W.fnOf "seen_at" "Line.seen_at" (defArgs s_Lineseen_at) (defBody s_Lineseen_at) (defScope s_Lineseen_at) .none kV2 dc2 pm2 an2 cd2 ct2) ["self", "t"] 1 ["t"] kwM kwM := ⟨fun _ us ws _ h1 hl => match us, ws, h1, hl with | [_], [_], _, _ => .of_eq rfl, fun h k => kwM_rel h k⟩
  let A : Ad := { a_common_divisor := f0, f_common_divisor := PySem.W.fnOf "common_divisor" "common_divisor" (defArgs s_common_divisor) (defBody s_common_divisor) (defScope s_common_divisor) .none kV0 dc0 pm0 an0 cd0 ct0, a_less := f1, f_less := PySem.W.fnOf "less" "less" (defArgs s_less) (defBody s_less) (defScope s_less) .none kV1 dc1 pm1 an1 cd1 ct1, a_Lineseen_at := f2, f_Lineseen_at := PySem.W.fnOf "seen_at" "Line.seen_at" (defArgs s_Lineseen_at) (defBody s_Lineseen_at) (defScope s_Lineseen_at) .none kV2 dc2 pm2 an2 cd2 ct2, a_LineUeqU := f3, f_LineUeqU := PySem.W.fnOf "__eq__" "Line.__eq__" (defArgs s_LineUeqU) (defBody s_LineUeqU) (defScope s_LineUeqU) .none kV3 dc3 pm3 an3 cd3 ct3, a_law_pool := f4, f_law_pool := PySem.W.fnOf "_law_pool" "_law_pool" (defArgs s_law_pool) (defBody s_law_pool) (defScope s_law_pool) .none kV4 dc4 pm4 an4 cd4 ct4, a_law_take := f5, f_law_take := PySem.W.fnOf "_law_take" "_law_take" (defArgs s_law_take) (defBody s_law_take) (defScope s_law_take) .none kV5 dc5 pm5 an5 cd5 ct5, a_law_gcd := f6, f_law_gcd := PySem.W.fnOf "_law_gcd" "_law_gcd" (defArgs s_law_gcd) (defBody s_law_gcd) (defScope s_law_gcd) .none kV6 dc6 pm6 an6 cd6 ct6, a_two_weights := f7, f_two_weights := PySem.W.fnOf "two_weights" "two_weights" (defArgs s_two_weights) (defBody s_two_weights) (defScope s_two_weights) .none kV7 dc7 pm7 an7 cd7 ct7, a_number_of := f8, f_number_of := PySem.W.fnOf "number_of" "number_of" (defArgs s_number_of) (defBody s_number_of) (defScope s_number_of) .none kV8 dc8 pm8 an8 cd8 ct8, a_law_far := f9, f_law_far := PySem.W.fnOf "_law_far" "_law_far" (defArgs s_law_far) (defBody s_law_far) (defScope s_law_far) .none kV9 dc9 pm9 an9 cd9 ct9, a_law_number := f10, f_law_number := PySem.W.fnOf "_law_number" "_law_number" (defArgs s_law_number) (defBody s_law_number) (defScope s_law_number) .none kV10 dc10 pm10 an10 cd10 ct10, a_law_spot := f11, f_law_spot := PySem.W.fnOf "_law_spot" "_law_spot" (defArgs s_law_spot) (defBody s_law_spot) (defScope s_law_spot) .none kV11 dc11 pm11 an11 cd11 ct11, a_weights_of := f12, f_weights_of := PySem.W.fnOf "weights_of" "weights_of" (defArgs s_weights_of) (defBody s_weights_of) (defScope s_weights_of) .none kV12 dc12 pm12 an12 cd12 ct12, a_check_place := f13, f_check_place := PySem.W.fnOf "check_place" "check_place" (defArgs s_check_place) (defBody s_check_place) (defScope s_check_place) .none kV13 dc13 pm13 an13 cd13 ct13, a_check_any_place := f14, f_check_any_place := PySem.W.fnOf "check_any_place" "check_any_place" (defArgs s_check_any_place) (defBody s_check_any_place) (defScope s_check_any_place) .none kV14 dc14 pm14 an14 cd14 ct14, a_law_line := f15, f_law_line := PySem.W.fnOf "_law_line" "_law_line" (defArgs s_law_line) (defBody s_law_line) (defScope s_law_line) .none kV15 dc15 pm15 an15 cd15 ct15, a_LineUinitU := f16, f_LineUinitU := PySem.W.fnOf "__init__" "Line.__init__" (defArgs s_LineUinitU) (defBody s_LineUinitU) (defScope s_LineUinitU) .none kV16 dc16 pm16 an16 cd16 ct16, a_law := fa, f_law := PySem.W.fnOf "law" "law" (defArgs s_law) (defBody s_law) (defScope s_law) .none kV17 dc17 pm17 an17 cd17 ct17, a_init := fI, a_initF := PySem.W.fnOf "__init__" "PostError.__init__" (defArgs s_init) (defBody s_init) (defScope s_init) .none kVI dcI pmI anI cdI ctI, a_cPostError := cPostError, a_cInvalidPlace := cInvalidPlace, a_cInvalidStep := cInvalidStep, a_cLine := cLine }
  have T : Txt K mg A := {
    g_common_divisor := PySem.W.mg_of X G a0, k_common_divisor := k0, F_common_divisor := F0, b_common_divisor := b0,
    g_less := PySem.W.mg_of X G a1, k_less := k1, F_less := F1, b_less := b1,
    at_Lineseen_at := a2, fn_Lineseen_at := i2, k_Lineseen_at := k2, F_Lineseen_at := F2, b_Lineseen_at := b2,
    at_LineUeqU := a3, fn_LineUeqU := i3, k_LineUeqU := k3, F_LineUeqU := F3, b_LineUeqU := b3,
    g_law_pool := PySem.W.mg_of X G a4, k_law_pool := k4, F_law_pool := F4, b_law_pool := b4,
    g_law_take := PySem.W.mg_of X G a5, k_law_take := k5, F_law_take := F5, b_law_take := b5,
    g_law_gcd := PySem.W.mg_of X G a6, k_law_gcd := k6, F_law_gcd := F6, b_law_gcd := b6,
    g_two_weights := PySem.W.mg_of X G a7, k_two_weights := k7, F_two_weights := F7, b_two_weights := b7,
    g_number_of := PySem.W.mg_of X G a8, k_number_of := k8, F_number_of := F8, b_number_of := b8,
    g_law_far := PySem.W.mg_of X G a9, k_law_far := k9, F_law_far := F9, b_law_far := b9,
    g_law_number := PySem.W.mg_of X G a10, k_law_number := k10, F_law_number := F10, b_law_number := b10,
    g_law_spot := PySem.W.mg_of X G a11, k_law_spot := k11, F_law_spot := F11, b_law_spot := b11,
    g_weights_of := PySem.W.mg_of X G a12, k_weights_of := k12, F_weights_of := F12, b_weights_of := b12,
    g_check_place := PySem.W.mg_of X G a13, k_check_place := k13, F_check_place := F13, b_check_place := b13,
    g_check_any_place := PySem.W.mg_of X G a14, k_check_any_place := k14, F_check_any_place := F14, b_check_any_place := b14,
    g_law_line := PySem.W.mg_of X G a15, k_law_line := k15, F_law_line := F15, b_law_line := b15,
    at_LineUinitU := a16, fn_LineUinitU := i16, k_LineUinitU := k16, F_LineUinitU := F16, b_LineUinitU := b16,
    g_law := PySem.W.mg_of X G a17, k_law := k17, F_law := F17, b_law := b17,
    kb_Lineseen_at := kb_Lineseen_at,
    n_abs := PySem.W.mg_none_of X G z_abs,
    n_bool := PySem.W.mg_none_of X G z_bool,
    m_gcd := PySem.W.mg_of X G z_gcd,
    n_int := PySem.W.mg_none_of X G z_int,
    n_isinstance := PySem.W.mg_none_of X G z_isinstance,
    n_len := PySem.W.mg_none_of X G z_len,
    n_min := PySem.W.mg_none_of X G z_min,
    n_range := PySem.W.mg_none_of X G z_range,
    n_sum := PySem.W.mg_none_of X G z_sum,
    n_tuple := PySem.W.mg_none_of X G z_tuple,
    n_zip := PySem.W.mg_none_of X G z_zip,
    F_init := FI,
    b_init := bI,
    t_init := tI,
    g_PostError := PySem.W.mg_of X G aCPostError,
    g_InvalidPlace := PySem.W.mg_of X G aCInvalidPlace,
    o_InvalidPlace := ⟨⟨_, _, _, _, _, _, _, _, _, _, _, _, _, _, _, xLInvalidPlace, by rfl⟩, saInvalidPlace, eCInvalidPlace, tCInvalidPlace, kCInvalidPlace⟩,
    i_InvalidPlace := iCInvalidPlace,
    v_InvalidPlace := nvInvalidPlace,
    x_InvalidPlace := ⟨gaInvalidPlace, ggInvalidPlace, eCInvalidPlace, hCInvalidPlace⟩,
    e_InvalidPlace := ⟨gaInvalidPlace, ggInvalidPlace, eCInvalidPlace, hCInvalidPlace, acInvalidPlace, hnC, htC, omInvalidPlace⟩,
    m_InvalidPlace := PySem.W.exm_ref eCPostError hCPostError tCPostError spInvalidPlace,
    g_InvalidStep := PySem.W.mg_of X G aCInvalidStep,
    o_InvalidStep := ⟨⟨_, _, _, _, _, _, _, _, _, _, _, _, _, _, _, xLInvalidStep, by rfl⟩, saInvalidStep, eCInvalidStep, tCInvalidStep, kCInvalidStep⟩,
    i_InvalidStep := iCInvalidStep,
    v_InvalidStep := nvInvalidStep,
    x_InvalidStep := ⟨gaInvalidStep, ggInvalidStep, eCInvalidStep, hCInvalidStep⟩,
    e_InvalidStep := ⟨gaInvalidStep, ggInvalidStep, eCInvalidStep, hCInvalidStep, acInvalidStep, hnC, htC, omInvalidStep⟩,
    m_InvalidStep := PySem.W.exm_ref eCPostError hCPostError tCPostError spInvalidStep,
    g_Line := PySem.W.mg_of X G aCLine,
    cl_Line := ⟨pgLine, hdLine, poLine, saLine⟩,
    mk_Line := ⟨mkLine, a16, i16, kcLine⟩,
    ty_Line := fun H a dx fs e => .ins e ⟨pgLine, hdLine, poLine, saLine⟩ haLine hnLine htLine hmLine,
    ks_Line := kit_same,
    na_Line_start := naLine_start,
    na_Line_step := naLine_step,
    na_Line_number := naLine_number,
    na_Line_centre := naLine_centre }
  exact ⟨A.f_law, fun s v => .of_eq rfl, fun base _ _ => ok_law T⟩
theorem walk {l : PySem.W.OpenLaw} {q : Program} {loose : List Str} {XP : (Str → Option Value) → Heap → Prop} {YP : World → Heap → Prop} {d : DefRec} {K : Params → PySem.W.Frag} (hn : l.most = some 63) (hdf : d.params.defaults = [])
    (hY : ∀ (w : World) (h : Heap), YP w h → (K w.params).In h)
    (F : ∀ (w : World) (mg : Str → Option Value) (fa : Addr) (h : Heap), (K w.params).In h → h.Ns mainGlobals mg → mg d.name = some (.ref fa) →
      ∃ fd : FuncData, (∀ (s : Shared) (u : Value), BindsTo s fd ⟨[u], []⟩ [("_law_script", u)]) ∧ ∀ base : Heap, (K w.params).In base → base.Ns mainGlobals mg → FnOk l.prog w (K w.params) mg base CX0 6 fa fd ["_law_script"] (spLaw (K w.params))) :
    PySem.W.WalkO q loose XP YP l.row.toRowW d [] (fun f vs => PySem.call f vs) :=
  L2.walk_ofB (n := 63) (k := 6) (x := "_law_script") (CX := fun _ => CX0) (sp := fun w => spLaw (K w.params)) hn (by decide) hdf ⟨rfl, by decide, by decide⟩ hY F (fun _ _ a ns hl hb _ hS => ⟨a, ns, rfl, hS, hl, hb, fun _ => rfl⟩) fun _ _ _ _ _ z => z
end K52
open PySem PySem.W PyProof.Rows
set_option maxRecDepth 100000 in
set_option maxHeartbeats 0 in
theorem PySem.Challenge.cw_seenposts_k52_posts_seen_on_lines_holds : PySem.Challenge.rw_seenposts_k52_posts_seen_on_lines.Holds := by
  w_on; o_law; k_head; (case hw => w_witness2)
  k_fill
  refine K52.walk (l := PySem.Challenge.rw_seenposts_k52_posts_seen_on_lines) rfl rfl (fun w h Y => PySem.W.kIn_of Y) ?F
  case F =>
    intro w mg fa h KX G hmg
    refine' K52.all_mk KX G hmg ?aCLine ?pgLine ?hdLine ?poLine ?saLine ?mkLine ?kcLine ?haLine ?hnLine ?htLine ?hmLine ?naLine_start ?naLine_step ?naLine_number ?naLine_centre ?a0 ?l0 ?c0 ?k0 ?a1 ?l1 ?c1 ?k1 ?a2 ?i2 ?l2 ?c2 ?k2 ?a3 ?i3 ?l3 ?c3 ?k3 ?a4 ?l4 ?c4 ?k4 ?a5 ?l5 ?c5 ?k5 ?a6 ?l6 ?c6 ?k6 ?a7 ?l7 ?c7 ?k7 ?a8 ?l8 ?c8 ?k8 ?a9 ?l9 ?c9 ?k9 ?a10 ?l10 ?c10 ?k10 ?a11 ?l11 ?c11 ?k11 ?a12 ?l12 ?c12 ?k12 ?a13 ?l13 ?c13 ?k13 ?a14 ?l14 ?c14 ?k14 ?a15 ?l15 ?c15 ?k15 ?a16 ?i16 ?l16 ?c16 ?k16 ?a17 ?l17 ?c17 ?k17 ?z_abs ?z_bool ?z_gcd ?z_int ?z_isinstance ?z_len ?z_min ?z_range ?z_sum ?z_tuple ?z_zip ?lI ?cI ?kI ?tI ?hnC ?htC ?aCPostError ?eCPostError ?tCPostError ?hCPostError ?aCInvalidPlace ?eCInvalidPlace ?tCInvalidPlace ?hCInvalidPlace ?xLInvalidPlace ?saInvalidPlace ?gaInvalidPlace ?ggInvalidPlace ?nvInvalidPlace ?iCInvalidPlace ?kCInvalidPlace ?acInvalidPlace ?omInvalidPlace ?spInvalidPlace ?aCInvalidStep ?eCInvalidStep ?tCInvalidStep ?hCInvalidStep ?xLInvalidStep ?saInvalidStep ?gaInvalidStep ?ggInvalidStep ?nvInvalidStep ?iCInvalidStep ?kCInvalidStep ?acInvalidStep ?omInvalidStep ?spInvalidStep
    (case aCLine => k_is)
    (case pgLine => k_is)
    (case hdLine => k_is)
    (case poLine => k_is)
    (case saLine => k_is)
    (case mkLine => k_is)
    (case kcLine => k_is)
    (case haLine => k_is)
    (case hnLine => k_is)
    (case htLine => k_is)
    (case hmLine => k_is)
    (case naLine_start => k_is)
    (case naLine_step => k_is)
    (case naLine_number => k_is)
    (case naLine_centre => k_is)
    (case a0 => k_is)
    (case l0 => k_is)
    (case c0 => k_is)
    (case k0 => k_is)
    (case a1 => k_is)
    (case l1 => k_is)
    (case c1 => k_is)
    (case k1 => k_is)
    (case a2 => k_is)
    (case i2 => k_is)
    (case l2 => k_is)
    (case c2 => k_is)
    (case k2 => k_is)
    (case a3 => k_is)
    (case i3 => k_is)
    (case l3 => k_is)
    (case c3 => k_is)
    (case k3 => k_is)
    (case a4 => k_is)
    (case l4 => k_is)
    (case c4 => k_is)
    (case k4 => k_is)
    (case a5 => k_is)
    (case l5 => k_is)
    (case c5 => k_is)
    (case k5 => k_is)
    (case a6 => k_is)
    (case l6 => k_is)
    (case c6 => k_is)
    (case k6 => k_is)
    (case a7 => k_is)
    (case l7 => k_is)
    (case c7 => k_is)
    (case k7 => k_is)
    (case a8 => k_is)
    (case l8 => k_is)
    (case c8 => k_is)
    (case k8 => k_is)
    (case a9 => k_is)
    (case l9 => k_is)
    (case c9 => k_is)
    (case k9 => k_is)
    (case a10 => k_is)
    (case l10 => k_is)
    (case c10 => k_is)
    (case k10 => k_is)
    (case a11 => k_is)
    (case l11 => k_is)
    (case c11 => k_is)
    (case k11 => k_is)
    (case a12 => k_is)
    (case l12 => k_is)
    (case c12 => k_is)
    (case k12 => k_is)
    (case a13 => k_is)
    (case l13 => k_is)
    (case c13 => k_is)
    (case k13 => k_is)
    (case a14 => k_is)
    (case l14 => k_is)
    (case c14 => k_is)
    (case k14 => k_is)
    (case a15 => k_is)
    (case l15 => k_is)
    (case c15 => k_is)
    (case k15 => k_is)
    (case a16 => k_is)
    (case i16 => k_is)
    (case l16 => k_is)
    (case c16 => k_is)
    (case k16 => k_is)
    (case a17 => k_is)
    (case l17 => k_is)
    (case c17 => k_is)
    (case k17 => k_is)
    (case z_abs => k_is)
    (case z_bool => k_is)
    (case z_gcd => k_is)
    (case z_int => k_is)
    (case z_isinstance => k_is)
    (case z_len => k_is)
    (case z_min => k_is)
    (case z_range => k_is)
    (case z_sum => k_is)
    (case z_tuple => k_is)
    (case z_zip => k_is)
    (case aCPostError => k_is)
    (case eCPostError => k_is)
    (case tCPostError => k_is)
    (case hCPostError => k_is)
    (case aCInvalidPlace => k_is)
    (case eCInvalidPlace => k_is)
    (case tCInvalidPlace => k_is)
    (case hCInvalidPlace => k_is)
    (case xLInvalidPlace => k_is)
    (case saInvalidPlace => k_is)
    (case gaInvalidPlace => k_is)
    (case ggInvalidPlace => k_is)
    (case nvInvalidPlace => k_is)
    (case iCInvalidPlace => k_is)
    (case kCInvalidPlace => k_is)
    (case acInvalidPlace => k_is)
    (case omInvalidPlace => k_is)
    (case spInvalidPlace => k_is)
    (case aCInvalidStep => k_is)
    (case eCInvalidStep => k_is)
    (case tCInvalidStep => k_is)
    (case hCInvalidStep => k_is)
    (case xLInvalidStep => k_is)
    (case saInvalidStep => k_is)
    (case gaInvalidStep => k_is)
    (case ggInvalidStep => k_is)
    (case nvInvalidStep => k_is)
    (case iCInvalidStep => k_is)
    (case kCInvalidStep => k_is)
    (case acInvalidStep => k_is)
    (case omInvalidStep => k_is)
    (case spInvalidStep => k_is)
    (case lI => k_is)
    (case cI => k_is)
    (case kI => k_is)
    (case tI => k_is)
    (case hnC => k_is)
    (case htC => k_is)
#print axioms PySem.Challenge.cw_seenposts_k52_posts_seen_on_lines_holds
