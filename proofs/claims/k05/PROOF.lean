import PyProof.Rows.All
import Wide.All
import OpenK.AllK
import Wide.FinOn
import HandS.ForMost
import HandS.ForExc
import HandS.More
import HandS.TupAny
import HandS.Conv
import HandS.Style
import HandS.Strs
import HandS.SortInts
import HandS.Sort
import HandS.DeepEq
import HandS.RaiseMore
import HandS.Lambda
import HandS.EndTab
import HandS.IsInst
import HandS.ExcIs
import HandS.ExcField
import HandS.ExcInit
import HandS.ExcValue
import HandS.CallLocal
import HandS.CallSlots
import HandS.Nested
import PyProof.ReprRoads
import PyProof.ReprLen
import KE.DataMinMax
import PySem.Challenge.RW_tautrounds_k05_whole_rounds_exactly_if
import KE.SortData
import HandS.TupMul
import HandS.EndBits
import KE.KNest
import KE.KNestM
import KE.RegKIsAll
set_option Elab.async false
set_option linter.all false
set_option maxRecDepth 100000
set_option maxHeartbeats 4000000
namespace SrtO
open PySem PyProof.Rows Srt
section
variable {prog : Program} {w : World} {A : Around} {E : Value → Shared → Prop} {s : Shared}
theorem tt_collect_tup {l : Addr} {vs : List Value} {Q : List Value → Shared → Prop} (hl : IsTup s.heap l vs.toArray)
    (h : Q vs { s with heap := (s.heap.push (seqObj "list" #[] 0)).update s.heap.objs.size (Obj.mapSeq (· ++ vs.toArray)) }) (hsz : vs.length ≤ sizeLine) :
    wpAny (model prog w) A (collect (.ref l)) Q E s := by
  obtain ⟨o, ho, hc, n, hd⟩ := id hl
  unfold collect
  refine wpAny_bind (wpAny_runValue (codeAny_builtin entry_proto_collect' ?_))
  show wpAny _ _ (do again (.builtin "list.__iadd__" ⟨[← newList [], .ref l], []⟩)) _ _ s
  refine wpAny_bind (wpAny_newList (wpAny_pure ⟨Code.quiet_builtin _ (by decide +kernel), codeAny_builtin entry_list_iadd' ?_⟩))
  show wpAny _ _ (Builtin.List.listExtendWith (.ref s.heap.objs.size) (.ref l) (.ref s.heap.objs.size)) _ _ { s with heap := s.heap.push (seqObj "list" #[] 0) }
  unfold Builtin.List.listExtendWith
  have ho' : (s.heap.push (seqObj "list" #[] 0)).get? l = some o := Heap.get?_push_of_some _ ho
  refine wpAny_bind (wpAny_typeOf (T := "tuple") ⟨o, ho', hc⟩ ?_)
  have ht : (Value.type "tuple" == Value.type "tuple") = true := by rfl
  rw [if_pos (by rw [ht]; simp)]
  refine wpAny_bind (listItems_at ho' hd ?_)
  refine wpAny_bind (listItems_at (xs := #[]) (n := 0) (Heap.get?_push_size _ rfl) rfl ?_)
  rw [if_neg (by simp)]
  refine wpAny_bind (listUpdate_at (xs := #[]) (n := 0) (Heap.get?_push_size _ rfl) rfl ?_ (Nat.zero_le _) (by show (#[] ++ vs.toArray).size ≤ sizeLine + 1; simp only [Array.size_append, List.size_toArray, List.length_nil]; omega))
  refine wpAny_pure ?_
  show wpAny (model prog w) A (do
      let o ← load s.heap.objs.size
      match o.data with
      | .seq xs _ => pure xs.toList
      | _ => unsupported "internal:collect") Q E { s with heap := (s.heap.push (seqObj "list" #[] 0)).update s.heap.objs.size (Obj.mapSeq (· ++ vs.toArray)) }
  refine wpAny_bind (wpAny_load (get?_update_seq (Heap.get?_push_size _ rfl) _) ?_)
  show wpAny _ _ (pure ((#[] : Array Value) ++ vs.toArray).toList) Q E _
  rw [show ((#[] : Array Value) ++ vs.toArray).toList = vs by simp]
  exact wpAny_pure h
theorem tt_sorted_tup {l : Addr} {vs : List Value} {ltv : Value → Value → Bool} {Q : Value → Shared → Prop} (O : Swo ltv) (hl : IsTup s.heap l vs.toArray) (hz : vs.length ≤ sizeLine)
    (hS : 2 ≤ vs.length → ∀ (h₁ : Heap) (a : Addr), h₁.get? a = some (seqObj "list" vs.toArray 0) → (∀ b o, s.heap.get? b = some o → b ≠ a ∧ h₁.get? b = some o) → SortableO prog w A.in1.in1 { s with heap := h₁ } a vs ltv)
    (h : ∀ out : List Value, Srtd ltv out → Stb ltv out vs → Q (.ref (s.heap.objs.size + 1)) { s with heap := sortedAll s.heap vs out.toArray }) :
    wpAny (model prog w) A (call (.builtin "sorted") [.ref l]) Q E s := by
  refine Calls.call_function_entry kind_sorted plain_sorted entry_sorted (args_sorted1 _) ?_
  unfold Builtin.«sorted»
  refine wpAny_bind (m := checkCount "sorted" 1 1 _) (wpAny_pure ?_)
  refine wpAny_bind (tt_collect_tup hl ?_ hz)
  refine wpAny_bind (wpAny_newList ?_ hz)
  have hsz : ((s.heap.push (seqObj "list" #[] 0)).update s.heap.objs.size (Obj.mapSeq (· ++ vs.toArray))).objs.size = s.heap.objs.size + 1 := by
    rw [Heap.size_update, size_push']
  have hoL : (((s.heap.push (seqObj "list" #[] 0)).update s.heap.objs.size (Obj.mapSeq (· ++ vs.toArray))).push (seqObj "list" vs.toArray 0)).get? (s.heap.objs.size + 1) = some (seqObj "list" vs.toArray 0) := by
    rw [← hsz]; exact Heap.get?_push_size _ rfl
  have keep : ∀ b o, s.heap.get? b = some o → b ≠ s.heap.objs.size + 1 ∧ (((s.heap.push (seqObj "list" #[] 0)).update s.heap.objs.size (Obj.mapSeq (· ++ vs.toArray))).push (seqObj "list" vs.toArray 0)).get? b = some o := fun b o q => by
    have hlt : b < s.heap.objs.size := Heap.lt_size q
    refine ⟨Nat.ne_of_lt (Nat.lt_succ_of_lt hlt), Heap.get?_push_of_some _ ?_⟩
    rw [Heap.get?_update_ne _ _ _ _ (Nat.ne_of_lt hlt)]
    exact Heap.get?_push_of_some _ q
  show wpAny _ _ _ _ _ { s with heap := ((s.heap.push (seqObj "list" #[] 0)).update s.heap.objs.size (Obj.mapSeq (· ++ vs.toArray))).push (seqObj "list" vs.toArray 0) }
  rw [hsz]
  refine wpAny_bind (wpAny_holding (wpAny_call_entry slot_list_sort ⟨_, hoL, rfl⟩ entry_list_sort (list_sort_ord O hoL hz (fun h2 => hS h2 _ _ hoL keep) fun out hs hb => ⟨_, rfl, ?_⟩) (args_list_sort _)))
  exact wpAny_pure ⟨_, rfl, h out hs hb⟩
end
end SrtO
namespace L2
open PySem PySem.Spec PyProof.Rows
section
variable {X : Cx}
def rSortedIT (K : PySem.W.Frag) : List V → Hp → VK → Prop := fun vs H Q => ∃ (a : Addr) (ns : List Int), vs = [V.ref a] ∧ SqT K H a (ns.map V.int) ∧
  ∀ (ns' : List Int) (p : Addr), ns'.Perm ns → ns'.Pairwise (· ≤ ·) → H p = none → Q (.ref p) (upd H p (.lst (ns'.map V.int)))
theorem cr_sortedIT : CallR X (.builtin "sorted") (rSortedIT X.K) := by
  intro pins s σ H vs us Q I r h
  obtain ⟨a, ns, rfl, hs, q⟩ := h
  obtain ⟨its, rv, hl, hz⟩ := I.tuple hs
  rw [Vals.ref1 r]
  have hi := rv.ints
  refine SrtO.tt_sorted_tup SrtO.swo_int hl (by rw [← rv.length]; exact hz) (fun h2 h₁ a' _ _ => SrtO.ints_sortable hi h2) fun out h1 h2 => ?_
  obtain ⟨k1, k2, k3⟩ := SrtO.ints_out hi h1 h2
  obtain ⟨ep, he'⟩ := PyProof.Rows.sortedAll_at s.heap its out.toArray
  have hlen : ((out.map SrtO.iv).map V.int).length ≤ sizeLine := by
    rw [List.length_map, k2.length_eq]
    rw [List.length_map] at hz
    exact hz
  exact ⟨.ref _, upd H (s.heap.objs.size + 1) (.lst ((out.map SrtO.iv).map V.int)), I.laid (t' := s.toks) (fun _ _ => PyProof.Rows.sortedAll_old) (Nat.le_succ _) ⟨hlen, out, ep, vals_of_ints k1, he'⟩, rfl, q _ _ k2 k3 (I.hok.fresh (Nat.le_succ _))⟩
def rSortedS2 (K : PySem.W.Frag) : List V → Hp → VK → Prop := fun vs H Q => rSortedI K vs H Q ∨ rSortedIT K vs H Q
theorem cr_sortedS2 : CallR X (.builtin "sorted") (rSortedS2 X.K) := by
  intro pins s σ H vs us Q I r h
  rcases h with h | h
  · exact cr_sortedI pins s σ H vs us Q I r h
  · exact cr_sortedIT pins s σ H vs us Q I r h
theorem mt_tup_indexI : MtR X "tuple.index" (fun x xs H Q => ∃ p, ∃ ys : List Int, ∃ z j, x = .ref p ∧ xs = [.int z] ∧ SqT X.K H p (ys.map V.int) ∧ ys[j]? = some z ∧ (∀ m, m < j → ys[m]? ≠ some z) ∧ Q (.int (j : Nat)) H) := by
  intro pins s σ H x xs v us Q I rx rs h
  obtain ⟨p, ys, z, j, rfl, rfl, hq, hy, hno, q⟩ := h
  cases rx
  obtain ⟨u, rfl, t, rfl⟩ := vals1 rs
  obtain ⟨its, r, pl, hz⟩ := I.tuple hq
  obtain ⟨⟨cls, dd, dt, sl⟩, ho, hc, n, hd⟩ := pl
  simp only at hc hd
  subst hc
  subst hd
  have hl : its.toArray.size = ys.length := by rw [List.size_toArray, ← r.length, List.length_map]
  have hj : j < its.toArray.size := by rw [hl]; exact (List.getElem?_eq_some_iff.mp hy).1
  have at' : ∀ (m : Nat) (hm : m < its.toArray.size), ∃ y t', ys[m]? = some y ∧ its.toArray[m] = Value.int y t' := fun m hm => by
    have hm' : m < ys.length := by rw [← hl]; exact hm
    obtain ⟨w, hw, t', hw'⟩ := r.get (i := m) (x := .int ys[m]) (by simp [hm'])
    refine ⟨ys[m], t', List.getElem?_eq_getElem hm', ?_⟩
    have e := (List.getElem?_eq_some_iff.mp hw).2
    rw [← hw', ← e]
    simp
  have flat : ∀ ys : List Int, (ys.map V.int).all flatV = true := fun ys => by
    induction ys with
    | nil => rfl
    | cons a b ih => rw [List.map_cons, List.all_cons, ih]; rfl
  refine call_meets PySem.F.slot_tuple_index ⟨_, ho, rfl⟩ PySem.F.entry_tuple_index (PySem.F.args_tuple_index_2 _ _) (TI.tuple_indexAt p its.toArray n dd sl (.int z t) (eqU (.int z)) j hj ?_ ?_)
    ⟨ho, fun w hw => mem_eqAt (x := .int z) ⟨t, rfl⟩ rfl r (flat ys) w (by simpa using hw), ⟨.int (j : Nat), H, I.tok _, ⟨_, rfl⟩, q⟩⟩
  · obtain ⟨y, t', h1, h2⟩ := at' j hj
    rw [hy] at h1
    cases h1
    rw [h2]
    show (z == z) = true
    exact beq_self_eq_true z
  · intro m hm hmj
    obtain ⟨y, t', h1, h2⟩ := at' m hm
    rw [h2]
    show (y == z) = false
    exact beq_eq_false_iff_ne.mpr fun e => hno m hmj (by rw [h1, e])
end
end L2
set_option maxRecDepth 100000
set_option maxHeartbeats 4000000
namespace HT
open PySem PySem.Spec PyProof.Rows
section
variable {prog : Program} {w : World} {A : Around} {E : Value → Shared → Prop} {s : Shared}
theorem tt_adjust_rev (n : Nat) : Builtin.Slice.sliceAdjust none none (-1) (n : Int) = ((n : Int) - 1, -1) := by
  unfold Builtin.Slice.sliceAdjust
  simp only [show (-1 : Int) < 0 by decide, if_true]
theorem tt_places_rev (n : Nat) : Builtin.Slice.slicePlaces ((n : Int) - 1) (-1) (-1) = n := by
  unfold Builtin.Slice.slicePlaces
  simp only [show ¬ ((-1 : Int) > 0) by decide, if_false, Int.neg_neg, Int.ediv_one]
  split <;> omega
theorem tt_applied_rev {sl : Addr} {vs : Value} {n : Nat} {Q : Int × Int × Nat → Shared → Prop} (hs : s.heap.IsSliceOf sl .none .none vs) (ps : IsPart vs (some (-1)))
    (h : Q ((n : Int) - 1, -1, n) s) : wpAny (model prog w) A (Builtin.Slice.sliceApplied (.ref sl) (pure (n : Int))) Q E s := by
  obtain ⟨os, hos, hcs, hds⟩ := id hs
  unfold Builtin.Slice.sliceApplied Builtin.Slice.sliceFields
  refine wpAny_bind (wpAny_bind (wpAny_field hos hds (x := .none) rfl (wpAny_bind (wpAny_field hos hds (x := .none) rfl (wpAny_bind (wpAny_field hos hds (x := vs) rfl (wpAny_pure ?_)))))))
  refine wpAny_bind (slicePart_ ps ?_)
  show wpAny _ _ (if ((-1 : Int) == 0) = true then _ else _) _ _ s
  rw [if_neg (by decide)]
  refine wpAny_bind (slicePart_ .none (wpAny_bind (slicePart_ .none (wpAny_bind (wpAny_pure ?_)))))
  show wpAny _ _ (match Builtin.Slice.sliceAdjust none none (-1) (n : Int) with | (lo, hi) => pure (lo, (-1 : Int), Builtin.Slice.slicePlaces lo hi (-1))) _ _ s
  rw [tt_adjust_rev n]
  show wpAny _ _ (pure ((n : Int) - 1, (-1 : Int), Builtin.Slice.slicePlaces ((n : Int) - 1) (-1) (-1))) _ _ s
  rw [tt_places_rev n]
  exact wpAny_pure h
theorem tt_fm {α β : Type} {f g : α → Option β} : ∀ {l : List α}, (∀ x ∈ l, f x = g x) → l.filterMap f = l.filterMap g
  | [], _ => rfl
  | a :: l, h => by
    rw [List.filterMap_cons, List.filterMap_cons, h a List.mem_cons_self, tt_fm fun x hx => h x (List.mem_cons_of_mem _ hx)]
theorem tt_pick_rev (xs : Array Value) : ((List.range xs.size).filterMap fun (m : Nat) => xs[(((xs.size : Int) - 1) + (m : Int) * (-1)).toNat]?).toArray = xs.toList.reverse.toArray := by
  have e : (List.range xs.size).filterMap (fun (m : Nat) => xs[(((xs.size : Int) - 1) + (m : Int) * (-1)).toNat]?) = xs.toList.reverse := by
    have h1 : ∀ m ∈ List.range xs.size, xs[(((xs.size : Int) - 1) + (m : Int) * (-1)).toNat]? = some (xs.toList.reverse.getD m .none) := fun m hm => by
      have hm := List.mem_range.mp hm
      have e1 : (((xs.size : Int) - 1) + (m : Int) * (-1)).toNat = xs.size - 1 - m := by omega
      rw [e1, List.getD_eq_getElem?_getD, List.getElem?_reverse (by simpa using hm)]
      have e2 : xs.size - 1 - m < xs.size := by omega
      simp [e2]
    have h2 : (List.range xs.size).filterMap (fun (m : Nat) => xs[(((xs.size : Int) - 1) + (m : Int) * (-1)).toNat]?) = (List.range xs.size).map fun m => xs.toList.reverse.getD m .none := by
      rw [← List.filterMap_eq_map]
      exact tt_fm h1
    rw [h2]
    refine List.ext_getElem? fun i => ?_
    rw [List.getElem?_map]
    by_cases hi : i < xs.size
    · rw [List.getElem?_range hi]
      have : i < xs.toList.reverse.length := by simpa using hi
      rw [List.getElem?_eq_getElem this]
      simp [List.getD_eq_getElem?_getD, List.getElem?_eq_getElem this]
    · rw [List.getElem?_eq_none (by simpa using hi), List.getElem?_eq_none (by simpa using hi)]
      rfl
  rw [e]
theorem tt_getItem_tuple_rev {t sl : Addr} {items : Array Value} {vs : Value} {Q : Value → Shared → Prop} (ht : IsTup s.heap t items) (hs : s.heap.IsSliceOf sl .none .none vs) (ps : IsPart vs (some (-1)))
    (h : Q (.ref s.heap.objs.size) { s with heap := s.heap.push { cls := .type "tuple", data := .seq items.toList.reverse.toArray } })
    (hsz : items.size ≤ sizeLine) : wpAny (model prog w) A (getItem (.ref t) (.ref sl)) Q E s := by
  have htake : sizeOk (.seq items.toList.reverse.toArray) := by
    show items.toList.reverse.toArray.size ≤ sizeLine
    rw [List.size_toArray, List.length_reverse, Array.length_toList]
    exact hsz
  obtain ⟨os, hos, hcs, hds⟩ := id hs
  have hTs : s.TypeIs (.ref sl) "slice" := ⟨os, hos, hcs⟩
  unfold getItem
  try with_reducible refine wpAny_holding ?_
  first | refine wpAny_bind (wpAny_pure ?_) | skip
  refine wpAny_bind (wpAny_sequenceKey ht.typeIs (by decide) ?_)
  refine wpAny_bind (wpAny_callSpecial?_slot (name := Str.ofString "__getitem__") ht.typeIs PyProof.Rows.slot_tuple_getitem
    (wpAny_call_entry PyProof.Rows.slot_tuple_getitem ht.typeIs entry_tuple_getitem ?_ (args_tuple_getitem _ _)))
  show wpAny _ _ (Builtin.Tuple.tupleItemsOf (.ref t) >>= _) _ _ s
  refine wpAny_bind (tupleItemsOf_ ht ?_)
  refine wpAny_bind (wpAny_typeOf hTs ?_)
  rw [if_pos (by decide)]
  refine wpAny_bind (tt_applied_rev hs ps ?_)
  have hno : ¬ (((items.size : Int) - 1 == 0 && (-1 : Int) == 1 && items.size == items.size) = true) := by
    intro q
    rw [Bool.and_eq_true, Bool.and_eq_true] at q
    exact absurd q.1.2 (by decide)
  show wpAny _ _ (if ((items.size : Int) - 1 == 0 && (-1 : Int) == 1 && items.size == items.size) = true then _ else _) _ _ s
  rw [if_neg hno, tt_pick_rev]
  first
    | exact wpAny_bind (m := Builtin.Tuple.tupleExact _) (wpAny_newObj_type (wpAny_pure ⟨_, rfl, wpAny_pure h⟩) htake)
    | exact wpAny_bind (m := Builtin.Tuple.tupleExact _) (wpAny_newObj_type (wpAny_bind (wpAny_pure (wpAny_pure ⟨_, rfl, wpAny_pure h⟩))) htake)
    | exact wpAny_bind (wpAny_bind (m := Builtin.Tuple.tupleExact _) (wpAny_newObj_type (wpAny_pure (wpAny_pure ⟨_, rfl, wpAny_pure h⟩)) htake))
    | exact wpAny_bind (wpAny_bind (m := Builtin.Tuple.tupleExact _) (wpAny_newObj_type (wpAny_pure ⟨_, rfl, wpAny_pure h⟩) htake))
end
end HT
namespace L2
open PySem PySem.Spec PyProof.Rows
section
variable {X : Cx}
def tRevT (K : PySem.W.Frag) (te : TE) : TE := fun σ H Q => te σ H fun x H1 => ∃ a xs, x = .ref a ∧ SqT K H1 a xs ∧ ∀ p, H1 p = none → Q (.ref p) (upd H1 p (.tup xs.reverse))
theorem pe_revT {e : Expr} {te : TE} {k : Nat} {p1 p2 p3 pos : Pos} (he : PE X e te) : PE X (.Subscript e (.Slice none none (some (.UnaryOp .USub (.Constant (.int 1) k p1) p2)) p3) pos) (tRevT X.K te) := by
  refine ⟨fun pins s σ H Q I h => ?_⟩
  refine Subscript_ (thn (he.run pins s σ H _ I h) fun v s1 ⟨x, H1, I1, r1, q1⟩ => ?_)
  obtain ⟨a, xs, ex, hx, q⟩ := q1
  subst ex
  cases r1
  have hst : PO X (some (.UnaryOp .USub (.Constant (.int 1) k p1) p2)) (tPart (tUn (rU fun i => .int (-i)) (tC (.int 1)))) := po_some (pe_un un_neg pe_int)
  refine wpAny_Slice (wpAny_pure ?_)
  refine wpAny_pure ?_
  refine thn (hst.run pins s1 σ H1 (fun o H4 => o = some (-1) ∧ H4 = H1) I1 ⟨1, rfl, -1, rfl, rfl, rfl⟩) fun vs s4 ⟨o, H4, I4, ps, eo, e4⟩ => ?_
  subst eo e4
  have I5 : Inv X pins σ H4 { s4 with heap := s4.heap.push { cls := .type "slice", data := .fields #[.none, .none, vs] } } := I4.kept (t' := s4.toks) fun b ob q => Heap.get?_push_of_some _ q
  obtain ⟨its, r, ht, hz⟩ := I5.tuple hx
  have hlen := r.length
  show wpAny (model X.prog X.w) X.A (subscriptTail e (.Slice none none (some (.UnaryOp .USub (.Constant (.int 1) k p1) p2)) p3) (.ref a) (.ref s4.heap.objs.size)) (EP X pins σ Q) X.xe { s4 with heap := s4.heap.push { cls := .type "slice", data := .fields #[.none, .none, vs] } }
  refine tail_any (ops := [.ref a, .ref s4.heap.objs.size]) ht.typeIs (PyProof.Rows.slot_tuple_getitem.lookup) ?_ (by with_unfolding_all rfl)
  refine HT.tt_getItem_tuple_rev ht (Heap.IsSliceOf.new _ .none .none vs) ps ?_ (by rw [List.size_toArray]; omega)
  refine ⟨.ref _, _, I5.laid (t' := s4.toks) (o := .tup xs.reverse) (fun b ob q => Heap.get?_push_of_some _ q) (Nat.le_refl _) ?_, rfl, q _ (I5.hok.fresh (Nat.le_refl _))⟩
  exact ⟨by rw [List.length_reverse]; exact hz, _, r.reverse, IsTup.new _ _⟩
end
section
variable {X : Cx} {K : PySem.W.Frag}
theorem ix_listK (h : X.K = K) : IxR X (rIxL K) := by subst h; exact ix_list
theorem ix_tupK (h : X.K = K) : IxR X (rIxT K) := by subst h; exact ix_tup
theorem call_len_seqK (h : X.K = K) : CallR X (.builtin "len") (fun xs H Q => ∃ p ys, xs = [.ref p] ∧ (SqL K H p ys ∨ SqT K H p ys) ∧ Q (.int ys.length) H) := by subst h; exact call_len_seq
theorem op_in_seqK (h : X.K = K) : OpR X (compareOp .In) (rIn K false) := by subst h; exact op_in_seq
theorem op_notIn_seqK (h : X.K = K) : OpR X (compareOp .NotIn) (rIn K true) := by subst h; exact op_notIn_seq
theorem op_eqDK (h : X.K = K) (hu : X.A.units + 64 < cLine) : OpR X (compareOp .Eq) (rEqD K) := by subst h; exact op_eqD hu
theorem op_neDK (h : X.K = K) (hu : X.A.units + 64 < cLine) : OpR X (compareOp .NotEq) (rNeD K) := by subst h; exact op_neD hu
theorem op_catAK (h : X.K = K) : OpR X (binaryOp .Add) (rCatA K) := by subst h; exact op_catA
theorem sl_listK (h : X.K = K) : SlR X (rSlL K) := by subst h; exact sl_list
theorem sl_tupAK (h : X.K = K) : SlR X (rSlA K) := by subst h; exact sl_tupA
theorem call_tuple_ofK (h : X.K = K) : CallR X (.type "tuple") (fun xs H Q => ∃ p ys, xs = [.ref p] ∧ ((SqL K H p ys ∧ ∀ l, H l = none → Q (.ref l) (upd H l (.tup ys))) ∨ (SqT K H p ys ∧ Q (.ref p) H))) := by subst h; exact call_tuple_of
theorem call_list_ofK (h : X.K = K) : CallR X (.type "list") (fun xs H Q => ∃ p ys, xs = [.ref p] ∧ (SqL K H p ys ∨ SqT K H p ys) ∧ ∀ l, H l = none → Q (.ref l) (upd H l (.lst ys))) := by subst h; exact call_list_of
theorem call_type1K (h : X.K = K) : CallR X (.type "type") (rTyp K) := by subst h; exact call_type1
theorem pe_fldK {e : Expr} {ta : TE} {f : Str} {pos : Pos} (h : X.K = K) (he : PE X e ta) (hb : attributeBase e f X.env (eval e X.env) = eval e X.env) : PE X (.Attribute e f pos) (tFld K ta f) := by subst h; exact pe_fld he hb
theorem mt_tup_indexIK (h : X.K = K) : MtR X "tuple.index" (fun x xs H Q => ∃ p, ∃ ys : List Int, ∃ z j, x = .ref p ∧ xs = [.int z] ∧ SqT K H p (ys.map V.int) ∧ ys[j]? = some z ∧ (∀ m, m < j → ys[m]? ≠ some z) ∧ Q (.int (j : Nat)) H) := by subst h; exact mt_tup_indexI
theorem pe_bmK {T name id : String} {r : V → List V → Hp → VK → Prop} {o e : Expr} {es : List Expr} {to : TE} {t : TA} {apos cpos : Pos} (hk : X.K = K) (pa : PlainAttrs T) (slot : Slot T name id) (hty : typeOf (.builtin id) = pure (.type "method_descriptor")) (hm : MtR X id r) (ho : PE X o to) (ha : PA X (e :: es) t)
    (hbase : attributeBase o name X.env (eval o X.env) = eval o X.env := by rfl)
    (hfew : ((backTo cpos (starEach (e :: es) X.env)).all (fun x => !x.1) && (backToKw cpos (keywordEach [] X.env)).all (fun x => x.1.isSome)
      && decide ((e :: es).length + ([] : List Keyword).length + (if ([] : List Keyword).isEmpty then 0 else 1) < 30)) = true := by rfl)
    (hline : (apos.endLine == cpos.line) = true := by rfl) (hpl : (backTo cpos (starEach es X.env)).any (·.1) = false := by rfl) (hs : starEach (e :: es) X.env = (false, eval e X.env) :: starEach es X.env := by rfl) :
    PE X (.Call (.Attribute o name apos) (e :: es) [] cpos) (tBM K T r to t) := by
  subst hk
  first
    | exact pe_bm pa slot hty hm ho ha hbase hfew hline hpl hs
    | exact pe_bm pa slot hty hm ho ha hbase hfew hline hs hpl
    | exact pe_bm pa slot hty hm ho ha hbase hfew hline
    | exact pe_bm pa slot hty hm ho ha
end
end L2
set_option maxRecDepth 100000
set_option maxHeartbeats 4000000
namespace PySem.W
open PySem PySem.Spec PySem.Calls PyProof.Rows
section
variable {prog : Program} {w : World} {A : Around} {E : Value → Shared → Prop} {s : Shared} {K : Frag} {x D : Addr} {ox : Obj}
theorem tt_findObj_data {C : Addr} {od : Option Obj} {name : Str} {a g : Value} (hc : (clsIn K C).isSome = true) (ha : findIn K (.ref C) name = some (some a)) (hg : specialIn K a "__get__" = some (some g)) (ht : takesIn K a = some true) : findObj K C od name = some (.bind g a) := by
  obtain ⟨cd, hc⟩ := Option.isSome_iff_exists.mp hc
  unfold findObj
  rw [hc, Option.bind_some, ha, Option.bind_some]
  simp [hg, ht]
theorem tt_kin_classE {od : Option Obj} {Q : Option Value → Shared → Prop} (hga : findIn K (.ref D) "__getattribute__" = some (some (.builtin "BaseException.__getattribute__"))) (hgt : findIn K (.ref D) "__getattr__" = some none) (hsub : subIn K (.ref D) (.type "BaseException") = some true)
    (hdct : hasDictIn K D = true) (ha : findIn K (.ref D) "__class__" = some (some (.builtin "object.__class__")))
    (hn : specialIn K (.builtin "object.__class__") "__get__" = some (some (.builtin "getset_descriptor.__get__"))) (htk : takesIn K (.builtin "object.__class__") = some true) (hm : mroIn K D (.type "object") = some true)
    (X : K.In s.heap) (I : InstAt s.heap x ox D od) (h : Q (some (.ref D)) { s with toks := s.toks + 1 }) : wpAny (model prog w) A (getAttr? (.ref x) "__class__") Q E s := by
  have hf : findObj K D od "__class__" = some (.bind (.builtin "getset_descriptor.__get__") (.builtin "object.__class__")) := tt_findObj_data (by obtain ⟨cd, hc, _⟩ := any_some hdct; rw [hc]; rfl) ha hn htk
  obtain ⟨hp, g, d, t, os⟩ := s
  have L0 := I.type (M := model prog w)
  have L1 := looks_findIn (M := model prog w) X hga
  have L2 := looks_findIn (M := model prog w) X hgt
  have L3 := looks_find (M := model prog w) X I hf
  have sub : Looks (model prog w) hp (isInstance (.ref x) (.type "BaseException")) true := L0.andThen (looks_subIn X hsub)
  have hx0 : (false && onTheHeap (Value.builtin "BaseException.__getattribute__")) = false := rfl
  have hx2 : (Value.builtin "BaseException.__getattribute__" == Value.builtin "object.__getattribute__") = false := by decide +kernel
  have hx1 : (onTheHeap (Value.ref D) && Value.builtin "BaseException.__getattribute__" == Value.builtin "object.__getattribute__") = false := by rw [hx2]; rfl
  unfold getAttr? getAttrBy? getAttrBy
  refine wpAny_bind (wpAny_mkText (wpAny_bind (wpAny_attempt (wpAny_holding (wpAny_bind (L0.at (wpAny_bind (L1.at ?_))))))))
  show wpAny _ _ (if (onTheHeap (Value.ref D) && Value.builtin "BaseException.__getattribute__" == Value.builtin "object.__getattribute__") = true then _ else _) _ _ _
  rw [hx1, if_neg Bool.false_ne_true]
  unfold getAttrByItsOwn hookBefore
  refine wpAny_bind ?_
  rw [if_pos (show onTheHeap (Value.ref D) = true from rfl)]
  refine L2.at ?_
  refine wpAny_bind (wpAny_attempt (wpAny_holding ?_))
  unfold callGetattribute
  rw [hx0, if_neg Bool.false_ne_true]
  unfold boundAndCalled
  rw [PySem.F.excAttr_ValueError.ga.bind (.ref x)]
  refine wpAny_bind (wpAny_pure ?_)
  show wpAny _ _ (call (.builtin "BaseException.__getattribute__") [.ref x, .str "__class__" t]) _ _ _
  refine wpAny_call (codeAny_call_builtin PySem.F.excAttr_ValueError.ga.plain PySem.F.entry_bexc_ga ?_)
  refine @check_slot (model prog w) _ _ ⟨hp, g, d, t + 1, os⟩ "BaseException.__getattribute__" "BaseException" "__getattribute__" (.ref x) [.str "__class__" t] [] _ (by decide +kernel) (by decide +kernel) sub (PySem.F.args_bexc_ga (.ref x) (.str "__class__" t)) ?_
  unfold Builtin.«object.__getattribute__»
  refine wpAny_bind (wpAny_of_eq (a := ((Value.ref x : Value), [Value.str "__class__" t])) (by first | rfl | (simp only [slotArgs]; rfl)) ?_)
  refine wpAny_bind (wpAny_pure (wpAny_bind (L0.at (wpAny_bind (L3.at ?_)))))
  show wpAny _ _ (holding [Value.builtin "object.__class__"] (call (.builtin "getset_descriptor.__get__") [.builtin "object.__class__", .ref x, .ref D]) >>= ret) _ _ _
  refine wpAny_bind (wpAny_holding (wpAny_call (class_get (s := ⟨hp, g, d, t + 1, os⟩) (ox := ox) (od := od) X I hm ?_)))
  refine wpAny_pure ?_
  show wpAny _ _ (handedOut (.ref D)) _ _ _
  rw [handedOut_of (v := .ref D) rfl]
  first
    | exact wpAny_pure (wpAny_pure h)
    | exact wpAny_pure h
    | exact wpAny_pure (wpAny_bind (wpAny_pure (wpAny_pure h)))
theorem tt_kitx_exc {od : Option Obj} (hga : findIn K (.ref D) "__getattribute__" = some (some (.builtin "BaseException.__getattribute__"))) (hgt : findIn K (.ref D) "__getattr__" = some none) (hsub : subIn K (.ref D) (.type "BaseException") = some true) (hdct : hasDictIn K D = true) (ha : findIn K (.ref D) "__class__" = some (some (.builtin "object.__class__")))
    (hn : specialIn K (.builtin "object.__class__") "__get__" = some (some (.builtin "getset_descriptor.__get__"))) (htk : takesIn K (.builtin "object.__class__") = some true) (hm : mroIn K D (.type "object") = some true) :
    KitX K (.ref x) (.ref D) (fun h => InstAt h x ox D od) where
  ty := fun _ _ _ I => I.type
  it := fun _ _ X _ => by
    obtain ⟨cdD, hcD, _⟩ := any_some hdct
    unfold clsIn at hcD
    split at hcD
    · rename_i c' d' cd' sl' ho
      intro A' Q' E' s' k q
      unfold isType loadHead
      exact wpAny_bind (wpAny_loadPart (k _ _ (X _ _ ho)) (wpAny_pure q))
    · cases hcD
  ne := fun h tp dd its n sl X htp => by
    obtain ⟨cdD, hcD, _⟩ := any_some hdct
    refine Bool.eq_false_iff.mpr fun q => ?_
    have e : D = tp := Value.ref.inj (beq_iff_eq.mp q)
    subst e
    unfold clsIn at hcD
    split at hcD
    · rename_i c' d' cd' sl' ho
      have z := (X _ _ ho).symm.trans htp
      cases z
    · cases hcD
  ca := fun X I k => tt_kin_classE hga hgt hsub hdct ha hn htk hm X I k
end
end PySem.W
namespace L2
open PySem PySem.Spec PyProof.Rows
def exh (cls : Value) (d : Option Addr) (a : Addr) : HO := .ext fun h => ∃ (oe : Obj) (vs : Array Value), h.get? a = some oe ∧ Zc cls d oe ∧ oe.data = .fields vs
theorem exh_ok {P : Program} {w : World} {H : Hp} {h : Heap} {a : Addr} {cls : Value} {d : Option Addr} {oe : Obj} {vs : Array Value} (e : h.get? a = some oe) (z : Zc cls d oe) (hd : oe.data = .fields vs) : ObjOk P w H h a (exh cls d a) :=
  ⟨⟨oe, vs, e, z, hd⟩, ⟨oe, e⟩, fun _ _ ⟨o, v, q, r⟩ k => ⟨o, v, k o q, r⟩⟩
theorem exh_at {P : Program} {w : World} {H : Hp} {h : Heap} {a : Addr} {cls : Value} {d : Option Addr} (hok : HOk P w H h) (e : H a = some (exh cls d a)) : ∃ (oe : Obj) (vs : Array Value), h.get? a = some oe ∧ Zc cls d oe ∧ oe.data = .fields vs := by
  have x : ObjOk P w H h a (.ext fun h => ∃ (oe : Obj) (vs : Array Value), h.get? a = some oe ∧ Zc cls d oe ∧ oe.data = .fields vs) := hok a _ e
  exact x.1
def XdOk (H : Hp) (d : Option Addr) : Prop := d = none ∨ ∃ (dd : Addr) (fs : List (Str × V)), d = some dd ∧ H dd = some (.xd fs)
section
variable {X : Cx} {pins : List (Addr × Obj)} {σ : St} {H : Hp} {s : Shared}
theorem exh_inst {a D : Addr} {d : Option Addr} (I : Inv X pins σ H s) (e : H a = some (exh (.ref D) d a)) (hd : XdOk H d) : ∃ (oe : Obj) (od : Option Obj), PySem.W.InstAt s.heap a oe D od := by
  obtain ⟨⟨oc, odc, oda, osl⟩, vs, h1, ⟨h2, h3⟩, h4⟩ := exh_at I.hok e
  dsimp only at h2 h3 h4
  subst h2 h3 h4
  rcases hd with rfl | ⟨dd, fs, rfl, ed⟩
  · exact ⟨_, none, ⟨h1, rfl, rfl, trivial⟩⟩
  · have hx : ObjOk X.prog X.w H s.heap dd (.xd fs) := I.hok dd _ ed
    obtain ⟨mA, ⟨o, _, _, ho, _⟩, _⟩ := hx
    exact ⟨_, some o, ⟨h1, rfl, rfl, ho⟩⟩
def rIsH (K : PySem.W.Frag) : List V → Hp → VK → Prop := fun xs H Q => ∃ (a D : Addr) (d : Option Addr) (c : V) (cv : Value) (b : Bool), xs = [.ref a, c] ∧ H a = some (exh (.ref D) d a) ∧ XdOk H d ∧ ExcC K D ∧ ClsV c cv ∧ PySem.W.kitOne K (.ref D) cv = some b ∧ Q (.bl b) H
theorem call_isH : CallR X (.builtin "isinstance") (rIsH X.K) := by
  intro pins s σ H xs us Q I r h
  obtain ⟨a, D, d, c, cv, b, rfl, ea, hd, C, hc, e, q⟩ := h
  cases r with
  | cons rx rr =>
    cases rr with
    | cons rt rr =>
      cases rr
      cases rx
      have ec := hc.eq rt
      subst ec
      obtain ⟨oe, od, J⟩ := exh_inst I ea hd
      exact PySem.W.kia_one (PySem.W.tt_kitx_exc C.hg C.hk C.hs C.hd C.ha C.hn C.ht C.hm) I.kIn J e (fun z => nomatch z) fun tk => ⟨.bl b, H, I.kept (t' := tk) fun _ _ z => z, rfl, q⟩
def rIsA (K : PySem.W.Frag) : List V → Hp → VK → Prop := fun xs H Q => rIsH K xs H Q ∨ rIsi K xs H Q
theorem call_isA : CallR X (.builtin "isinstance") (rIsA X.K) := by
  intro pins s σ H xs us Q I r h
  rcases h with h | h
  · exact call_isH pins s σ H xs us Q I r h
  · exact call_isi pins s σ H xs us Q I r h
def tXfH (K : PySem.W.Frag) (n : Str) (te : TE) : TE := fun σ H Q => te σ H fun x H1 => ∃ (a C dd : Addr) (fs : List (Str × V)) (v : V), x = .ref a ∧ H1 a = some (exh (.ref C) (some dd) a) ∧ H1 dd = some (.xd fs) ∧ XfC K C ∧ PySem.W.findIn K (.ref C) n = some none ∧ fs.lookup n = some v ∧ Q v H1
theorem pe_xfH {e : Expr} {te : TE} {pos : Pos} {n : Str} (he : PE X e te) (hb : attributeBase e n X.env (eval e X.env) = eval e X.env := by rfl) :
    PE X (.Attribute e n pos) (tXfH X.K n te) := by
  refine ⟨fun pins s σ H Q I h => ?_⟩
  refine attr_of hb (thn (he.run pins s σ H _ I h) fun u s1 hh => ?_)
  obtain ⟨x, H1, I1, rx, a, C, dd, fs, v, ex, ea, ed, T, hno, l, q⟩ := hh
  subst ex
  obtain rfl : u = Value.ref a := rx
  obtain ⟨oe, vs, ha, hz, hd⟩ := exh_at I1.hok ea
  have hx : ObjOk X.prog X.w H1 s1.heap dd (.xd fs) := I1.hok dd _ ed
  obtain ⟨mA, hns, hr⟩ := hx
  obtain ⟨od, ho, hl⟩ := lookIn_ns hns
  obtain ⟨u, hu, ru⟩ := RelO.some_of (v := v) (o := mA n) (by rw [← l]; exact hr n)
  have J : PySem.W.InstAt s1.heap a oe C (some od) := ⟨ha, hz.1, by unfold PySem.W.notCls; rw [hd] <;> rfl, by rw [hz.2]; exact ho⟩
  exact HandSPX.exc_get I1.kIn J T.ga T.gg T.exC (PySem.W.findObj_own T.hdC hno rfl (by rw [hl, hu])) (handed_of ru) ⟨v, H1, I1.tok _, ru, q⟩
theorem Inv.adopt {a : Addr} {o : Obj} {φ : Heap → Prop} (I : Inv X pins σ H s) (he : s.heap.get? a = some o) (na : H a = none) (n0 : X.s_0.heap.get? a = none) (nL : a ≠ X.env.locals) (np : ∀ p ∈ X.pn ++ pins, p.1 ≠ a)
    (nc : ∀ x c, X.env.cells.lookup x = some c → c ≠ a) (ok : ObjOk X.prog X.w (upd H a (.ext φ)) s.heap a (.ext φ)) : Inv X pins σ (upd H a (.ext φ)) s := by
  refine ⟨I.ok, I.os, I.bare, ⟨I.base.keep, I.base.slot, fun b u q n hx => ?_, I.base.there, fun b xs q => ?_, fun b u v q => ?_, fun b ps q => ?_⟩, I.loc, I.cell, ?_, fun x c e => ?_, fun p hp => ?_, fun b u e => ?_, I.len⟩
  · rw [upd_ne (fun z => by rw [z, n0] at q; cases q)]
    exact I.base.free b u q n hx
  · have z := I.base.tups b xs q
    rw [upd_ne (ne_of_none z na)]
    exact z
  · have z := I.base.frzs b u v q
    rw [upd_ne (ne_of_none z na)]
    exact z
  · obtain ⟨m, z⟩ := I.base.tbls b ps q
    exact ⟨m, by rw [upd_ne (ne_of_none z na)]; exact z⟩
  · rw [upd_ne nL.symm]
    exact I.free
  · rw [upd_ne (nc x c e)]
    exact I.freeC x c e
  · obtain ⟨e1, e2, e3⟩ := I.pin p hp
    exact ⟨e1, by rw [upd_ne (np p hp)]; exact e2, e3⟩
  · by_cases hb : b = a
    · subst hb
      rw [upd_same] at e
      cases e
      exact ok
    · rw [upd_ne hb] at e
      exact (I.hok b u e).stay (fun c v _ q => q) (fun c q => by rw [upd_ne (ne_of_none q na)]; exact q) fun c xs q => by rw [upd_ne (ne_of_none q na)]; exact q
end
end L2
set_option maxRecDepth 100000
set_option maxHeartbeats 4000000
namespace L2
open PySem PySem.Spec PyProof.Rows
def wKeep (K : PySem.W.Frag) (c : Value) (i : Nat) (ts : Addr → Value → Option Addr → TS) (Wout : WX) (D : Ends) : WX := fun cls d σ H =>
  ∃ b, PySem.W.exmOne K cls c = some b ∧ (b = true → ∀ a, H a = none → ts a cls d { nx := fun σ' H' => H' a = none ∧ D.nx (σ'.set i none) (upd H' a (exh cls d a)), rt := fun _ _ => False, bk := fun _ _ => False, ct := fun _ _ => False } (σ.set i (some (.ref a))) H) ∧
    (b = false → Wout cls d σ H)
section
variable {X : Cx} {x n : Str} {c : Value} {i : Nat} {body suite : List Stmt} {b₀ : Stmt} {np pos pos' : Pos} {tb : WX → TS} {ts : Addr → Value → Option Addr → TS} {Wout : WX}
theorem ps_try_keep (hs : X.stack = X.env :: X.outer) (hf : X.env.frame = some X.env.locals) (hex : X.ex = []) (hN : X.N.Nodup) (hi : X.N[i]? = some n) (hln : X.env.kindOf n = some .local) (hc : Names X x c) (tk : Takes X Wout)
    (hb : ∀ (W : WX) (pn : List (Addr × Obj)) (xe : Value → Shared → Prop), Takes (X.tr pn xe) W → PassesOwn (model X.prog X.w) X.A X.env xe → PSs (X.tr pn xe) body (tb W))
    (hsu : ∀ (a : Addr) (oe : Obj) (cls : Value) (d : Option Addr) (pn : List (Addr × Obj)), Zc cls d oe → (∃ vs, oe.data = .fields vs) → PSs (X.suite a ((a, oe) :: pn)) (b₀ :: suite) (ts a cls d)) :
    PS X (.Try body [.ExceptHandler (some (.Name x np)) (some n) (b₀ :: suite) pos'] [] [] pos) (fun D σ H => tb (wKeep X.K c i ts Wout D) D σ H) := by
  refine ⟨fun pins s σ H D I h => ?_⟩
  have ok := I.ok
  have hfr : X.A.frames = some (X.env :: X.outer) := by rw [ok.frames, hs]
  have hloc : Loc X.env.scope n := .inl hln
  refine wpAny_Try_except ?_
  refine wpAny_mono ((hb (wKeep X.K c i ts Wout D) (X.pn ++ pins) (fun e s₁ => wpAny (model X.prog X.w) X.A (noteFrame e X.env) (fun _ s₂ => wpAny (model X.prog X.w) X.A (setFlight e none) (fun _ s₃ =>
    wpAny (model X.prog X.w) X.A (handleBy e X.env [.ExceptHandler (some (.Name x np)) (some n) (b₀ :: suite) pos']) (SP X pins D) X.xe s₃) X.xe s₂) X.xe s₁) (fun u s' xx => ?_) PassesOwn.looking).run [] s σ H D (I.toTry _) h) (fun f s1 hsp => ?_) (fun e s1 he => he)
  ·
    obtain ⟨a, B, sI, pins', σ', H', cls, d, rfl, J', nb, up, sky, na, os, ag, b, hb1, hyes, hno⟩ := xx
    have J : Inv X pins σ' H' sI := J'.ofTry ok
    have sky' : Sky B (X.env :: X.outer) a (Zc cls d) X.env.locals s'.heap := by rw [← hs]; exact sky
    show wpAny (model X.prog X.w) X.A (noteFrame (.ref a) X.env) _ _ _
    refine Sky.land Zc.steady hfr hf sky' fun h3 fl3 up3 => ?_
    have J3 : Inv X pins σ' H' { s' with heap := h3 } := J.landed nb fl3.1 (up.trans up3) os ag
    obtain ⟨oe3, vs3, he3, hz3, hd3⟩ := fl3.there
    have notFr : ∀ {h : Heap} {o : Obj} {vs : Array Value}, h.FunFrames B (X.env :: X.outer) → h.get? a = some o → o.data = .fields vs → a ∉ frs (X.env :: X.outer) := fun {h o vs} ff e dd hm => by
      obtain ⟨_, o', e', hnf⟩ := ff.mem hm
      rw [e] at e'; cases e'
      exact hnf _ dd
    have nfr := notFr fl3.2.2.1 he3 hd3
    have nL : a ≠ X.env.locals := fun z => nfr (List.mem_filterMap.mpr ⟨X.env, List.mem_cons_self, by rw [hf, z]⟩)
    have nF : a ∉ X.fs := fun hm => by
      obtain ⟨e, he, q⟩ := List.mem_filterMap.mp hm
      exact nfr (List.mem_filterMap.mpr ⟨e, List.mem_cons_of_mem _ he, q⟩)
    have nB : B.get? a = none := fl3.2.1
    have nfr' : a ∉ frs X.stack := by rw [hs]; exact nfr
    have nI : sI.heap.get? a = none := by
      cases q : sI.heap.get? a with
      | none => rfl
      | some o =>
        have z := nb a o q nfr'
        rw [nB] at z
        cases z
    have n0 : X.s_0.heap.get? a = none := by
      cases q : X.s_0.heap.get? a with
      | none => rfl
      | some o =>
        obtain ⟨o', q'⟩ := J.base.there a o q (by rw [hex]; exact fun z => nomatch z)
        rw [nI] at q'
        cases q'
    have npin : ∀ p ∈ X.pn ++ pins, p.1 ≠ a := fun p hp z => by
      obtain ⟨e, _⟩ := J.pin p hp
      rw [z, nI] at e
      cases e
    have S3 := J3.suite he3 hd3 na nL nF
    refine wpAny_handleBy_cons (codeAny_handlers_test ?_) (by intro q; cases q)
    have LT : PySem.W.Looks (model X.prog X.w) h3 (typeOf (.ref a)) cls := fun A Q E s k q => wpAny_typeOf_ref (k _ _ he3) (by rw [hz3.1]; exact q)
    have LM := PySem.W.exm_one (M := model X.prog X.w) (J3.kIn) LT hb1
    have test : ∀ {Q : Value → Shared → Prop} {E : Value → Shared → Prop}, Q c { s' with heap := h3 } → wpAny (model X.prog X.w) (X.A.mark (some (.ref a))) (eval (.Name x np) X.env) Q E { s' with heap := h3 } := fun {Q E} q => by
      obtain ⟨hg, hdbg, hm | ⟨hm, hv, hnn⟩⟩ := hc
      · exact ld_glob (X := X.suite a ((a, oe3) :: (X.pn ++ pins))) S3 hg hm q hdbg
      · exact ld_blt (X := X.suite a ((a, oe3) :: (X.pn ++ pins))) S3 hg hm hv q hnn hdbg
    refine test (LM.here ?_)
    cases b with
    | true =>
      refine codeAny_handlers_suite_as ?_
      refine HandSPX.lands_againZ fl3 fun h4 fl4 up4 => ?_
      have J4 : Inv X pins σ' H' { s' with heap := h4 } := J.landed nb fl4.1 ((up.trans up3).trans up4) os ag
      obtain ⟨oe4, vs4, he4, hz4, hd4⟩ := fl4.there
      have S4 := J4.suite he4 hd4 na nL nF
      refine store_ok (X := X.suite a ((a, oe4) :: (X.pn ++ pins))) (v := .ref a) S4 hN hi hloc rfl (fun s5 S5 => ?_) (.inr hln)
      refine wpAny_mono ((hsu a oe4 cls d (X.pn ++ pins) hz4 ⟨_, hd4⟩).run [] s5 _ H' _ S5 (hyes rfl a na)) (fun f s6 hsp => ?_) (fun _ _ z => False.elim z)
      cases f with
      | next =>
        obtain ⟨σ6, H6, S6, n6, q6⟩ := hsp
        obtain ⟨he6, _⟩ := S6.pin (a, oe4) (List.mem_append.mpr (.inl List.mem_cons_self))
        have J6 : Inv X pins σ6 H6 s6 := S6.unsuite ok
        have nc : ∀ y c, X.env.cells.lookup y = some c → c ≠ a := fun y c e z => by
          obtain ⟨v, o, ho, hv⟩ := J6.cell y c e
          rw [z, he6] at ho
          cases ho
          rw [hd4] at hv
          cases hv
        have J7 : Inv X pins σ6 (upd H6 a (exh cls d a)) s6 := J6.adopt he6 n6 n0 nL npin nc (exh_ok he6 hz4 hd4)
        exact gone_ok J7 hN hi hln fun s7 J8 => ⟨_, _, J8, q6⟩
      | brk =>
        obtain ⟨σ6, H6, S6, q6⟩ := hsp
        exact False.elim q6
      | cont =>
        obtain ⟨σ6, H6, S6, q6⟩ := hsp
        exact False.elim q6
      | ret u =>
        obtain ⟨v6, σ6, H6, S6, r6, q6⟩ := hsp
        exact False.elim q6
    | false =>
      show wpAny _ X.A (handleBy (.ref a) X.env []) _ _ _
      refine wpAny_handleBy_nil ?_
      obtain ⟨k1, k2, k3, oe, vs, T, oT, ts', he, hz, hd, h1, hr⟩ := id fl3
      unfold PySem.passOn
      refine wpAny_bind (wpAny_field he hd h1 ?_)
      rw [if_neg (show ¬ ((Value.ref T == Value.none) = true) from by simp)]
      have fin : wpAny (model X.prog X.w) X.A (setFlight (.ref a) X.env.frame) (fun _ s4 => wpAny (model X.prog X.w) X.A (throw (.ref a) : Sem Flow) (SP X pins D) X.xe s4) X.xe { s' with heap := h3 } := by
        rw [hf]
        refine HandSPX.setFlight_upZ fl3 fun h4 hh4 up4 => wpAny_throw (tk _ _ ?_)
        exact ⟨a, B, sI, pins, σ', H', cls, d, rfl, J, nb, (up.trans up3).trans up4, .inr (.inr (by rw [hs]; exact hh4)), na, os, ag, hno rfl⟩
      first
        | exact wpAny_bind (wpAny_pure (wpAny_bind fin))
        | exact wpAny_bind fin
  · cases f with
    | next =>
      obtain ⟨σ', H', J', q⟩ := hsp
      exact wpAny_execs_nil ⟨σ', H', J'.ofTry ok, q⟩
    | brk =>
      obtain ⟨σ', H', J', q⟩ := hsp
      exact ⟨σ', H', J'.ofTry ok, q⟩
    | cont =>
      obtain ⟨σ', H', J', q⟩ := hsp
      exact ⟨σ', H', J'.ofTry ok, q⟩
    | ret u =>
      obtain ⟨v, σ', H', J', r, q⟩ := hsp
      exact ⟨v, σ', H', J'.ofTry ok, r, q⟩
end
end L2
set_option maxRecDepth 100000
set_option maxHeartbeats 4000000
namespace LamX
open PySem PySem.Spec PyProof.Rows L2
section
variable {X : Cx} {pins : List (Addr × Obj)} {σ : L2.St} {H : Hp} {s : Shared}
theorem tt_act {CXg : CXT} {Eg : XK} {names : List Str} {qg : Str} {sg : Scope} {g fl co : Addr} {cdg pm ctv : Value} {ps : Arguments} {bd : Expr} {lsc : Scope} {k i : Nat} {a : Str} {pn : List (Addr × Obj)} {xe : Value → Shared → Prop} {W : WX} {Ew : L2.St → XK} {rd : XK → TE} {p1 p2 : Pos}
    (I : Inv X pins σ H s) (L : LamS X.env.scope lsc) (h1 : s.heap.get? fl = some (PySem.W.kla_obj "<lambda>" (X.env.qual ++ "<lambda>") ps bd lsc (cloFrom X.env.cells lsc.names []) pm co ctv)) (h2 : H fl = none) (h3 : fl ∉ frs X.stack)
    (noArgs : bindArgs (PySem.W.kla_fn "<lambda>" (X.env.qual ++ "<lambda>") ps bd lsc (cloFrom X.env.cells lsc.names []) pm (.ref co) ctv) ⟨[], []⟩ = pure [])
    (tk : Takes ((cxOf CXg X.prog X.w X.K X.mg X.base names qg sg g cdg X.A X.stack s H Eg).tr pn xe) W) (wish : ∀ τ cls d H', Ew τ cls d H' → W cls d τ H') (room : Room (k + 1) (X.A.deeper (envOfC qg sg s.heap.objs.size g cdg)))
    (body : ∀ (E : XK) (A : Around) (outer : List Env) (s : Shared) (H : Hp), Room k (A.deeper (lamEnv X lsc s.heap.objs.size fl co)) → PE (lamCx X A outer s H E lsc fl co) bd (rd E))
    (at_ : names[i]? = some a) (vis : Vis sg a) (n1 : (a == ("__debug__" : Str)) = false) (n2 : (a == ("__classdict__" : Str)) = false) :
    PE ((cxOf CXg X.prog X.w X.K X.mg X.base names qg sg g cdg X.A X.stack s H Eg).tr pn xe) (.Call (.Name a p1) [] [] p2)
      (fun τ G Q => τ[i]? = some (some (.ref fl)) ∧ G co = some (CodeO co (X.env.qual ++ "<lambda>")) ∧ rd (Ew τ) σ G Q) := by
  refine ⟨fun pz sz τ G Q J hyp => ?_⟩
  obtain ⟨slot, code, want⟩ := hyp
  have load := (pe_var (pos := p1) (i := i) at_ vis n1 n2).run pz sz τ G (fun v G' => v = .ref fl ∧ G' = G) J ⟨.ref fl, slot, rfl, rfl⟩
  refine wpAny_Call_Name_kw (thn load fun u s1 ⟨v, G', J1, ru, ev, eG⟩ => ?_)
  subst ev eG
  obtain rfl : u = Value.ref fl := ru
  have here : s1.heap.get? fl = some (PySem.W.kla_obj "<lambda>" (X.env.qual ++ "<lambda>") ps bd lsc (cloFrom X.env.cells lsc.names []) pm co ctv) := J1.base.keep fl _ h1 h2 h3 (fun z => nomatch (show fl ∈ ([] : List Addr) from z))
  refine PySem.W.callWith_F0 ⟨_, _, _, _, here⟩ ?_
  have since : Un (frs X.stack) [] H G' s.heap s1.heap := J1.base
  obtain ⟨⟨oc, fields, tok, ho, hf, hq⟩, _, _⟩ := J1.hok co _ code
  have run : codeAny (model X.prog X.w) (X.A.deeper (envOfC qg sg s.heap.objs.size g cdg)) (.call (.ref fl) ⟨[], []⟩) (CR (L2.CX X.prog X.w) (envOfC qg sg s.heap.objs.size g cdg :: X.stack) X.prog X.w G' s1 Q (Ew τ)) s1 := by
    refine PySem.W.kla_callFunE room.depth here rfl L.co L.gen rfl ⟨co, oc, fields, tok, rfl, ho, hf, hq⟩ ?_
    rw [noArgs]
    refine wpAny_pure (wpAny_newFunctionEnv (fun y hy => (L.own y hy).2) (fun y hy => absurd hy (by simp)) (fun h' ns but => ⟨J1.nolimit.fresh _ but, ?_⟩) L.kind)
    have stays : ∀ b o, s1.heap.get? b = some o → h'.get? b = some o := fun b o e => but.extBut b o (Nat.ne_of_lt (Heap.lt_size e)) (Heap.get?_push_of_some _ e)
    have start : Inv (lamCx X (X.A.deeper (envOfC qg sg s.heap.objs.size g cdg)) (envOfC qg sg s.heap.objs.size g cdg :: X.stack) s1 G' (Ew τ) lsc fl co) [] σ G' { s1 with heap := h', toks := s1.toks + ([] : List (Str × Value)).length } :=
      lam_start2 I L J1.env0 room.hd since ns stays
    show codeAny _ _ (.expr bd (lamEnv X lsc s1.heap.objs.size fl co)) _ _
    refine PySem.W.kla_codeExpr (wpAny_mono ((body (Ew τ) _ _ s1 G' (room.deeper _)).run [] _ _ G' Q start want) (fun v s' ⟨x, G2, J2, rx, q⟩ => ?_) fun e s' q => q)
    exact ⟨x, G2, J2.os, J2.bare, J2.base, J2.hok, rx, q⟩
  refine wpAny_call (codeAny_mono run fun r s' q => ?_)
  match r with
  | .error e => exact tk e s' (XE.of_call J1 (fun cls d G2 z => wish τ cls d G2 z) q)
  | .ok (.ret u) => exact J1.after q
  | .ok .next => exact False.elim q
  | .ok .brk => exact False.elim q
  | .ok .cont => exact False.elim q
end
def GivesToS (X : Cx) (names : List Str) (x : Str) (sg : Scope) (g : Addr) (cdg : Value) (bg : List Stmt) (a : Str) (q : Str) (TT : (XK → Hp → VK → Prop) → Hp → VK → Prop) : Prop :=
  ∀ (fl co : Addr) (s : Shared) (H : Hp) (Q : VK) (tl : XK → Hp → VK → Prop),
    (∀ (W : WX) (pn : List (Addr × Obj)) (xe : Value → Shared → Prop) (Ew : L2.St → XK) (p1 p2 : Pos), Takes ((cxOf C8.CX0 X.prog X.w X.K X.mg X.base names x sg g cdg X.A X.stack s H C8.E0).tr pn xe) W → (∀ τ cls d H', Ew τ cls d H' → W cls d τ H') →
      PE ((cxOf C8.CX0 X.prog X.w X.K X.mg X.base names x sg g cdg X.A X.stack s H C8.E0).tr pn xe) (.Call (.Name a p1) [] [] p2) (fun τ G Q => τ[0]? = some (some (.ref fl)) ∧ G co = some (CodeO co q) ∧ tl (Ew τ) G Q)) →
    H co = some (CodeO co q) → TT tl H Q →
    ∃ t, PSs (cxOf C8.CX0 X.prog X.w X.K X.mg X.base names x sg g cdg X.A X.stack s H C8.E0).nox bg t ∧ t { nx := fun _ H' => Q .non H', rt := Q } (L2.start names [.ref fl]) H
section
variable {X : Cx}
theorem tt_lamcall {T : List (Addr × Str)} {TT : (XK → Hp → VK → Prop) → Hp → VK → Prop} {x a : Str} {g c P : Addr} {k : Nat} {pg : Arguments} {bg : List Stmt} {sg : Scope} {dV kV doc pm cdv ct oc : Value} {an od : Option Addr} {osl : Array (Option Value)} {names : List Str}
    {ps : Arguments} {bd : Expr} {lsc : Scope} {t : XK → TE} {p lpos pos : Pos} (hg : Gl X x) (hm : X.mg x = some (.ref g)) (hk : PySem.W.keepIn X.K (.ref g) = true)
    (lk : X.K.lookup g = some ⟨oc, od, .func (PySem.W.fnOf x x pg bg sg dV kV doc pm an cdv ct), osl⟩) (hcg : PySem.W.codeIn X.K cdv x = true) (hb : L2.Binds X.K (PySem.W.fnOf x x pg bg sg dV kV doc pm an cdv ct) [a] []) (Sg : FnScope names [a] sg) (at_ : names[0]? = some a) (vis : Vis sg a)
    (hG : GivesToS X names x sg g cdv bg a (X.env.qual ++ "<lambda>") TT)
    (TB : TabB X.base X.mg c P) (hcode : X.env.code = .ref c) (hmT : (P, X.env.qual ++ "<lambda>") ∈ T) (hu : ∀ p ∈ T, p.1 = P → p.2 = X.env.qual ++ "<lambda>") (hr : Room (k + 2) X.A) (L : LamS X.env.scope lsc) (hdef : defaultsOf ps X.env = ([], []))
    (noArgs : ∀ (q : Str) (cl : List (Str × Addr)) (pm cv ctv : Value), bindArgs (PySem.W.kla_fn "<lambda>" q ps bd lsc cl pm cv ctv) ⟨[], []⟩ = pure [])
    (body : ∀ (A : Around) (outer : List Env) (s : Shared) (H : Hp) (E : XK) (fl co : Addr), Room k (A.deeper (lamEnv X lsc s.heap.objs.size fl co)) → PE (lamCx X A outer s H E lsc fl co) bd (t E))
    (n0 : (x == ("__debug__" : Str)) = false := by decide) (n1 : (a == ("__debug__" : Str)) = false := by decide) (n2 : (a == ("__classdict__" : Str)) = false := by decide) :
    PE X (.Call (.Name x p) [.Lambda ps bd lsc lpos] [] pos) (tLam T TT t) := by
  refine ⟨fun pins s σ H Q I hyp => ?_⟩
  obtain ⟨tabs, want⟩ := hyp
  refine wpAny_Call_Name_kw (ld_glob I hg hm ?_ n0)
  refine PySem.W.callWith_K (h₀ := X.base) I.ok.mod.kin hk ?_ (by rfl) (by rfl)
  show wpAny _ _ (spliced ((false, eval (.Lambda ps bd lsc lpos) X.env) :: backTo pos (starEach [] X.env))) _ _ s
  refine Calls.spliced_cons (lam_make2 I TB hcode hmT hu tabs hdef (L.has I.ok) fun fl co pm' ctv G s' J eN tabs' f1 f2 f3 fc => ?_)
  refine Calls.spliced_nil ⟨J.kIn, ?_⟩
  have run : codeAny (model X.prog X.w) X.A (.call (.ref g) ⟨[.ref fl], []⟩) (CR C8.CX0 X.stack X.prog X.w G s' Q C8.E0) s' := by
    refine run_ofS (N := names) (ps := [a]) (us := [.ref fl]) (vs := [.ref fl]) lk hcg Sg hr J.env0 (hb s' [.ref fl] J.kIn rfl) (.cons rfl .nil) rfl fun hr' => ?_
    obtain ⟨t', ht', hq'⟩ := hG fl co s' G Q (fun E G' Q' => t E σ G' Q') (fun W pn xe Ew p1 p2 tk wish => tt_act (i := 0) J L f1 f2 f3 (noArgs _ _ _ _ _) tk wish hr' (fun E A outer s H room => body A outer s H E fl co room) at_ vis n1 n2) fc (want G eN tabs')
    exact ⟨t', ht'.nox, hq'⟩
  refine wpAny_call (codeAny_mono run fun r s2 q => ?_)
  match r with
  | .error e => exact (show False from q).elim
  | .ok (.ret u) => exact J.after q
  | .ok .next => exact False.elim q
  | .ok .brk => exact False.elim q
  | .ok .cont => exact False.elim q
end
end LamX
set_option maxRecDepth 100000
set_option maxHeartbeats 4000000
namespace L2
open PySem PySem.Spec PyProof.Rows HT
section
variable {X : Cx} {K : PySem.W.Frag}
def FzT (H : Hp) (a : Addr) (xs : List V) : Prop := ∃ ob : Obj, H a = some (.frz ob (.tup xs)) ∧ ob.dict = none
theorem FzT.sq {H : Hp} {a : Addr} {xs : List V} (h : FzT H a xs) : SqT K H a xs := by
  obtain ⟨ob, h, _⟩ := h
  exact .inl (.inr ⟨ob, h⟩)
theorem FzT.new {H : Hp} {p : Addr} {ob : Obj} {xs : List V} (h : ob.dict = none) : FzT (upd H p (.frz ob (.tup xs))) p xs := ⟨ob, upd_same, h⟩
def NwT (H : Hp) (xs : List V) (Q : VK) : Prop := ∀ (p : Addr) (ob : Obj), H p = none → ob.dict = none → Q (.ref p) (upd H p (.frz ob (.tup xs)))
def rTupF (K : PySem.W.Frag) : List V → Hp → VK → Prop := fun xs H Q => ∃ p ys, xs = [.ref p] ∧ ((SqL K H p ys ∧ NwT H ys Q) ∨ (SqT K H p ys ∧ Q (.ref p) H))
theorem call_tuple_ofF : CallR X (.type "tuple") (rTupF X.K) := by
  intro pins s σ H xs us Q I r h
  obtain ⟨p, ys, rfl, h⟩ := h
  obtain ⟨u, rfl, rx⟩ := vals1 r
  cases rx
  rcases h with ⟨hq, q⟩ | ⟨hq, q⟩
  · obtain ⟨its, rv, pl, hz⟩ := I.list hq
    have hn := rv.length
    refine call_tuple_list pl.isList (fun h' kp => ?_) (by simp only [List.size_toArray] <;> omega)
    have J : Inv X pins σ H { s with heap := h' } := I.kept (t' := s.toks) kp
    have J2 : Inv X pins σ (upd H h'.objs.size (.frz { cls := .type "tuple", data := .seq its.toArray } (.tup ys))) { s with heap := h'.push { cls := .type "tuple", data := .seq its.toArray } } :=
      J.laid (t' := s.toks) (fun b o e => Heap.get?_push_of_some _ e) (Nat.le_refl _) ⟨Heap.get?_push_size _ rfl, hz, its, rv, IsTup.new _ _⟩
    exact ⟨.ref h'.objs.size, _, J2, rfl, q _ _ (J.hok.fresh (Nat.le_refl _)) rfl⟩
  · obtain ⟨its, rv, pl, hz⟩ := I.tuple hq
    exact call_tuple_same pl ⟨.ref p, H, I, rfl, q⟩
def rCatF (K : PySem.W.Frag) : R2 := fun x y H Q => ∃ a b xs ys, x = .ref a ∧ y = .ref b ∧ SqT K H a xs ∧ SqT K H b ys ∧ xs ≠ [] ∧ xs.length + ys.length ≤ sizeLine ∧
  (ys = [] → Q (.ref a) H) ∧ (ys ≠ [] → NwT H (xs ++ ys) Q)
theorem op_catF : OpR X (binaryOp .Add) (rCatF X.K) := by
  intro pins s σ H x y v u Q I rx ry h
  obtain ⟨a, b, xs, ys, rfl, rfl, ha, hb, hx, hz, q1, q2⟩ := h
  cases rx
  cases ry
  obtain ⟨its, r1, p1, _⟩ := I.tuple ha
  obtain ⟨its2, r2, p2, _⟩ := I.tuple hb
  refine HT.cat_tup p1 p2 (fun z => hx (r1.nil_iff.mp z)) (fun z => ⟨.ref a, H, I, rfl, q1 (r2.nil_iff.mp z)⟩) (fun z => ?_) (by rw [← r1.length, ← r2.length]; exact hz)
  refine ⟨.ref s.heap.objs.size, _, I.laid (t' := s.toks) (fun b ob q => Heap.get?_push_of_some _ q) (Nat.le_refl _) ?_, rfl, q2 (fun w => z (r2.nil_iff.mpr w)) _ { cls := .type "tuple", data := .seq (its ++ its2).toArray } (I.hok.fresh (Nat.le_refl _)) rfl⟩
  exact ⟨Heap.get?_push_size _ rfl, by rw [List.length_append]; exact hz, _, r1.append r2, IsTup.new _ _⟩
def tyF (K : PySem.W.Frag) (T : String) (x : V) (H : Hp) : Prop := tyV K T x H ∨ (T = "tuple" ∧ ∃ p xs, x = .ref p ∧ FzT H p xs)
theorem tyF_is {pins : List (Addr × Obj)} {σ : St} {H : Hp} {s : Shared} {T : String} {x : V} {v : Value} (I : Inv X pins σ H s) (r : RelV x v) (ty : tyF X.K T x H) :
    s.TypeIs v T ∧ ∀ a, v = .ref a → ∃ ob, s.heap.get? a = some ob ∧ ob.dict = none := by
  rcases ty with ty | ⟨rfl, p, xs, rfl, ob, h, hd⟩
  · exact tyV_is I r ty
  · cases r
    obtain ⟨e, _, its, _, o, e2, hc, _⟩ := (show ObjOk X.prog X.w H s.heap p (.frz ob (.tup xs)) from I.hok p _ h)
    rw [e] at e2
    cases e2
    refine ⟨⟨ob, e, hc⟩, fun a z => ?_⟩
    cases z
    exact ⟨ob, e, hd⟩
def tBMF (K : PySem.W.Frag) (T : String) (r : V → List V → Hp → VK → Prop) (to : TE) (t : TA) : TE := fun σ H Q => to σ H fun x H1 => tyF K T x H1 ∧ t σ H1 fun xs H2 => r x xs H2 Q
variable {o e : Expr} {es : List Expr} {to : TE} {t : TA} {name : Str} {apos cpos : Pos} {T id : String} {r : V → List V → Hp → VK → Prop}
theorem pe_bmF (pa : PlainAttrs T) (slot : Slot T name id) (hty : typeOf (.builtin id) = pure (.type "method_descriptor")) (hm : MtR X id r) (ho : PE X o to) (ha : PA X (e :: es) t)
    (hbase : attributeBase o name X.env (eval o X.env) = eval o X.env := by rfl)
    (hfew : ((backTo cpos (starEach (e :: es) X.env)).all (fun x => !x.1) && (backToKw cpos (keywordEach [] X.env)).all (fun x => x.1.isSome)
      && decide ((e :: es).length + ([] : List Keyword).length + (if ([] : List Keyword).isEmpty then 0 else 1) < 30)) = true := by rfl)
    (hline : (apos.endLine == cpos.line) = true := by rfl) (hs : starEach (e :: es) X.env = (false, eval e X.env) :: starEach es X.env := by rfl) (hplain : (backTo cpos (starEach es X.env)).any (·.1) = false := by rfl) :
    PE X (.Call (.Attribute o name apos) (e :: es) [] cpos) (tBMF X.K T r to t) := by
  refine ⟨fun pins s σ H Q I h => ?_⟩
  refine wpAny_Call_method_late hbase hfew hline rfl (thn (ho.run pins s σ H _ I h) fun v s1 ⟨x, H1, I1, r1, ty, q1⟩ => ?_)
  obtain ⟨h1, h2⟩ := tyF_is I1 r1 ty
  refine ⟨T, id, pa, slot, hty, h1, h2, ?_⟩
  have hA := ha.run cpos pins s1 σ H1 _ I1 q1
  rw [hs] at hA ⊢
  refine Calls.callWith_builtin (by show (false || (backTo cpos (starEach es X.env)).any (·.1)) = false; rw [hplain] <;> rfl) (Calls.evalArgs_plain ?_)
  exact thn hA fun us s2 ⟨vs, H2, I2, r2, q2⟩ => hm pins s2 σ H2 x vs v us Q I2 r1 r2 q2
theorem pe_bmFK (hk : X.K = K) (pa : PlainAttrs T) (slot : Slot T name id) (hty : typeOf (.builtin id) = pure (.type "method_descriptor")) (hm : MtR X id r) (ho : PE X o to) (ha : PA X (e :: es) t)
    (hbase : attributeBase o name X.env (eval o X.env) = eval o X.env := by rfl)
    (hfew : ((backTo cpos (starEach (e :: es) X.env)).all (fun x => !x.1) && (backToKw cpos (keywordEach [] X.env)).all (fun x => x.1.isSome)
      && decide ((e :: es).length + ([] : List Keyword).length + (if ([] : List Keyword).isEmpty then 0 else 1) < 30)) = true := by rfl)
    (hline : (apos.endLine == cpos.line) = true := by rfl) (hs : starEach (e :: es) X.env = (false, eval e X.env) :: starEach es X.env := by rfl) (hplain : (backTo cpos (starEach es X.env)).any (·.1) = false := by rfl) :
    PE X (.Call (.Attribute o name apos) (e :: es) [] cpos) (tBMF K T r to t) := by
  subst hk
  exact pe_bmF pa slot hty hm ho ha hbase hfew hline hs hplain
end
end L2
set_option maxRecDepth 100000
set_option maxHeartbeats 4000000
namespace L2
open PySem PySem.Spec PyProof.Rows
def Swaps (fd : FuncData) (a b : Str) : Prop := ∀ (s : Shared) (v u : Value), BindsTo s fd ⟨[], [(b, v), (a, u)]⟩ [(a, u), (b, v)]
theorem Fun.swaps {K : PySem.W.Frag} {x qual : Str} {st : Stmt} {f : Addr} {fd : FuncData} {a b : Str} (F : Fun K x qual st f fd)
    (h : ∀ (kV doc pm : Value) (an : Option Addr) (cdv ct v u : Value), bindArgs (PySem.W.fnOf x qual (defArgs st) (defBody st) (defScope st) .none kV doc pm an cdv ct) ⟨[], [(b, v), (a, u)]⟩ = pure [(a, u), (b, v)]) : Swaps fd a b := by
  obtain ⟨oc, od, kV, doc, pm, an, cdv, ct, osl, rfl, lk, hcd⟩ := F.ex
  exact fun s v u => BindsTo.of_eq (h kV doc pm an cdv ct v u)
def tSw (sp : Sp) (E : XK) (t1 t2 : TE) : TE := fun σ H Q => tCons t1 (tCons t2 tNil) σ H fun zs H2 => sp zs.reverse H2 Q E
section
variable {X : Cx} {CX : CXT} {k : Nat} {f : Addr} {fd : FuncData} {a b : Str} {sp : Sp} {E : XK} {x : Str} {p p1 p2 pos : Pos} {e1 e2 : Expr} {t1 t2 : TE}
theorem run_sw {pins : List (Addr × Obj)} {σ : St} {H : Hp} {s : Shared} {Q : VK} {v u : V} {v' u' : Value} (F : FnOk X.prog X.w X.K X.mg X.base CX k f fd [a, b] sp) (hr : Room k X.A) (hb : Swaps fd a b) (hx : Passes CX X E)
    (I : Inv X pins σ H s) (r1 : RelV v v') (r2 : RelV u u') (h : sp [u, v] H Q E) : wpAny (model X.prog X.w) X.A (call (.ref f) [] [(b, v'), (a, u')]) (EP X pins σ Q) X.xe s := by
  refine wpAny_call (codeAny_mono (F.run X.A X.stack s H ⟨[], [(b, v'), (a, u')]⟩ [u', v'] [u, v] Q E hr I.env0 (hb s v' u') (.cons r2 (.cons r1 .nil)) h) fun r s' hq => ?_)
  cases r with
  | error e => exact hx pins σ H s e s' I hq
  | ok fl =>
    cases fl with
    | ret u => exact I.after hq
    | next => exact False.elim hq
    | brk => exact False.elim hq
    | cont => exact False.elim hq
theorem pe_callSw (F : FnOk X.prog X.w X.K X.mg X.base CX k f fd [a, b] sp) (hr : Room k X.A) (hg : Gl X x) (hm : X.mg x = some (.ref f)) (hk : PySem.W.keepIn X.K (.ref f) = true) (hb : Swaps fd a b) (hx : Passes CX X E)
    (h1 : PE X e1 t1) (h2 : PE X e2 t2) (hdb : (x == ("__debug__" : Str)) = false := by decide)
    (hall : (backToKw pos (keywordEach [⟨some b, e1, p1⟩, ⟨some a, e2, p2⟩] X.env)).all (·.1.isSome) = true := by rfl) (hks : (backToKw pos (keywordEach [⟨some b, e1, p1⟩, ⟨some a, e2, p2⟩] X.env)).filterMap (·.1) = [b, a] := by rfl)
    (hpl : ((backTo pos (starEach [] X.env)).any (·.1) || (backToKw pos (keywordEach [⟨some b, e1, p1⟩, ⟨some a, e2, p2⟩] X.env)).any (·.1.isNone)) = false := by rfl) :
    PE X (.Call (.Name x p) [] [⟨some b, e1, p1⟩, ⟨some a, e2, p2⟩] pos) (tSw sp E t1 t2) := by
  refine ⟨fun pins s σ H Q I h => ?_⟩
  refine wpAny_Call_Name_kw (ld_glob I hg hm ?_ hdb)
  refine PySem.W.callWith_KW0 (h₀ := X.base) I.ok.mod.kin hk hall ?_ hpl
  refine thn ((pk_cons h1 (pk_cons h2 pk_nil)).run pos pins s σ H _ I h) fun ws s2 ⟨zs, H2, J, rz, q⟩ => ⟨J.kIn, ?_⟩
  rw [hks]
  have hl := F.len _ _ _ _ q
  rw [List.length_reverse] at hl
  cases rz with
  | nil => exact absurd hl (by simp)
  | cons r1 rz =>
    cases rz with
    | nil => exact absurd hl (by simp)
    | cons r2 rz =>
      cases rz with
      | nil => exact run_sw F hr hb hx J r1 r2 q
      | cons r3 rz => exact absurd hl (by simp)
end
end L2
set_option maxRecDepth 100000
set_option maxHeartbeats 4000000
namespace L2
open PySem PySem.Spec PyProof.Rows
section
variable {X : Cx}
def rShow (K : PySem.W.Frag) : List V → Hp → VK → Prop := fun xs H Q => ∃ (a : Addr) (d : PyData), xs = [.ref a] ∧ Dp K H (.ref a) d ∧ d.showable = true ∧ d.hasDict = false ∧ d.depth ≤ 60 ∧ d.shown.length ≤ sizeLine ∧ Q (.str d.shown) H
theorem call_show (hg : X.A.guards = some []) (hu : X.A.units + 64 < cLine) : CallR X (.builtin "repr") (rShow X.K) := by
  intro pins s σ H xs us Q I r h
  obtain ⟨a, d, rfl, hd, h1, h2, h3, h4, q⟩ := h
  obtain ⟨u, rfl, rx⟩ := vals1 r
  cases rx
  obtain ⟨as, rd⟩ := Dp.reads I d (.ref a) (.ref a) hd rfl
  exact repr_of_reads' rd h1 (fun z => absurd (h2.symm.trans z) (by decide)) hg (by omega) (fun b o e => e) (fun h' u tk k => ⟨.str d.shown, H, I.kept (t' := tk) k, ⟨u, rfl⟩, q⟩) h4
end
end L2
set_option maxRecDepth 100000
set_option maxHeartbeats 4000000
namespace L2
open PySem PySem.Spec PyProof.Rows
open PySem.W (alike alikeAll minD min_list_data)
def rowD (m : List Int) : PyData := .tuple (m.map PyData.int)
theorem alike_ints : ∀ a b : List Int, alikeAll (a.map PyData.int) (b.map PyData.int) = true
  | [], _ => by simp [alikeAll]
  | _ :: _, [] => by simp [alikeAll]
  | x :: a, y :: b => by
    show (alike (.int x) (.int y) && alikeAll (a.map PyData.int) (b.map PyData.int)) = true
    rw [alike_ints a b]
    rfl
theorem depth_ints : ∀ a : List Int, PyData.depthAll (a.map PyData.int) = 0
  | [] => rfl
  | x :: a => by
    show max 0 (PyData.depthAll (a.map PyData.int)) = 0
    rw [depth_ints a]
    rfl
theorem depth_rows : ∀ rs : List (List Int), PyData.depthAll (rs.map rowD) ≤ 1
  | [] => Nat.zero_le _
  | r :: rs => by
    show max (PyData.depthAll (r.map PyData.int) + 1) (PyData.depthAll (rs.map rowD)) ≤ 1
    rw [depth_ints r]
    have := depth_rows rs
    omega
theorem rowD_inj {a b : List Int} (h : rowD a = rowD b) : a = b := by
  unfold rowD at h
  injection h with h
  induction a generalizing b with
  | nil =>
    cases b with
    | nil => rfl
    | cons y b => cases h
  | cons x a ih =>
    cases b with
    | nil => cases h
    | cons y b =>
      rw [List.map_cons, List.map_cons] at h
      injection h with h1 h2
      injection h1 with h1
      rw [h1, ih h2]
theorem pair_at {α β : Type} {F : α → β → Prop} : ∀ {l : List α} {k : List β}, Paired F l k → ∀ {i : Nat} {a : α} {b : β}, l[i]? = some a → k[i]? = some b → F a b
  | _, _, .nil, i, a, b, h, _ => by simp at h
  | _, _, .cons r _, 0, a, b, h, g => by
    simp at h g
    subst h
    subst g
    exact r
  | _, _, .cons _ t, i + 1, a, b, h, g => pair_at t (by simpa using h) (by simpa using g)
section
variable {X : Cx}
theorem dpAll_intsL {K : PySem.W.Frag} (H : Hp) : ∀ ls : List Int, DpAll K H (ls.map V.int) (ls.map PyData.int)
  | [] => .nil
  | a :: l => .cons (.int a) (dpAll_intsL H l)
theorem dpAll_rows {K : PySem.W.Frag} {H : Hp} : ∀ {ps : List Addr} {rows : List (List Int)}, Paired (fun p m => SqT K H p (m.map V.int)) ps rows → DpAll K H (ps.map V.ref) (rows.map rowD)
  | _, _, .nil => .nil
  | _, _, .cons h t => .cons (.tup h (dpAll_intsL H _)) (dpAll_rows t)
def rMinT (K : PySem.W.Frag) : List V → Hp → VK → Prop := fun vs H Q => ∃ (l : Addr) (ps : List Addr) (r0 : List Int) (rs : List (List Int)), vs = [.ref l] ∧ SqL K H l (ps.map V.ref) ∧ Paired (fun p m => SqT K H p (m.map V.int)) ps (r0 :: rs) ∧
  ∀ (i : Nat) (p : Addr), ps[i]? = some p → (∀ m, (r0 :: rs)[i]? = some m → rowD m = minD (rowD r0) (rs.map rowD)) → Q (.ref p) H
theorem cr_minT (hc : X.calm = true) (hu : X.A.units + 64 < cLine) : CallR X (.builtin "min") (rMinT X.K) := by
  intro pins s σ H vs us Q I r h
  obtain ⟨l, ps, r0, rs, rfl, hs, hp, q⟩ := h
  obtain ⟨its, rv, hl, _⟩ := I.list hs
  rw [Vals.ref1 r]
  obtain ⟨as, hr⟩ := Dp.readsAll I _ _ its (dpAll_rows hp) rv
  have hd := depth_rows (r0 :: rs)
  refine min_list_data (I.ok.hd hc) hl.isList (x := rowD r0) (xs := rs.map rowD) (as := as) hr ⟨fun x hx y hy => ?_, fun x hx => ?_⟩ (by show X.A.units + 1 + PyData.depthAll ((r0 :: rs).map rowD) < cLine; omega) fun i v h' tk bs hv hm hk => ?_
  · obtain ⟨a, _, rfl⟩ := List.mem_map.mp (show x ∈ (r0 :: rs).map rowD from hx)
    obtain ⟨b, _, rfl⟩ := List.mem_map.mp (show y ∈ (r0 :: rs).map rowD from hy)
    exact alike_ints a b
  · obtain ⟨a, _, rfl⟩ := List.mem_map.mp (show x ∈ (r0 :: rs).map rowD from hx)
    exact fun z => by cases z
  · have hv' : its[i]? = some v := by simpa using hv
    have hi : i < ps.length := by
      have h1 := (List.getElem?_eq_some_iff.mp hv').1
      have h2 := rv.length
      rw [List.length_map] at h2
      omega
    obtain ⟨v2, e2, rel⟩ := rv.get (i := i) (x := V.ref ps[i]) (by simp [hi])
    rw [hv'] at e2
    cases e2
    obtain rfl : v = .ref ps[i] := rel
    refine ⟨.ref ps[i], H, I.kept (t' := tk) hk, rfl, q i ps[i] (List.getElem?_eq_getElem hi) fun m hm2 => ?_⟩
    obtain ⟨as0, r0'⟩ := Dp.reads I (rowD m) (.ref ps[i]) (.ref ps[i]) (.tup (pair_at hp (List.getElem?_eq_getElem hi) hm2) (dpAll_intsL H m)) rfl
    exact (reads_det (fun b o e _ => hk b o e) r0' hm).1.symm
end
end L2
set_option maxRecDepth 100000
set_option maxHeartbeats 4000000
namespace L2
open PySem PySem.Spec PyProof.Rows
def Swaps3 (fd : FuncData) (a b c : Str) : Prop := ∀ (s : Shared) (v u z : Value), BindsTo s fd ⟨[], [(c, v), (b, u), (a, z)]⟩ [(a, z), (b, u), (c, v)]
theorem Fun.swaps3 {K : PySem.W.Frag} {x qual : Str} {st : Stmt} {f : Addr} {fd : FuncData} {a b c : Str} (F : Fun K x qual st f fd)
    (h : ∀ (kV doc pm : Value) (an : Option Addr) (cdv ct v u z : Value), bindArgs (PySem.W.fnOf x qual (defArgs st) (defBody st) (defScope st) .none kV doc pm an cdv ct) ⟨[], [(c, v), (b, u), (a, z)]⟩ = pure [(a, z), (b, u), (c, v)]) : Swaps3 fd a b c := by
  obtain ⟨oc, od, kV, doc, pm, an, cdv, ct, osl, rfl, lk, hcd⟩ := F.ex
  exact fun s v u z => BindsTo.of_eq (h kV doc pm an cdv ct v u z)
def tSw3 (sp : Sp) (E : XK) (t1 t2 t3 : TE) : TE := fun σ H Q => tCons t1 (tCons t2 (tCons t3 tNil)) σ H fun zs H2 => sp zs.reverse H2 Q E
section
variable {X : Cx} {CX : CXT} {k : Nat} {f : Addr} {fd : FuncData} {a b c : Str} {sp : Sp} {E : XK} {x : Str} {p p1 p2 p3 pos : Pos} {e1 e2 e3 : Expr} {t1 t2 t3 : TE}
theorem run_sw3 {pins : List (Addr × Obj)} {σ : St} {H : Hp} {s : Shared} {Q : VK} {v u z : V} {v' u' z' : Value} (F : FnOk X.prog X.w X.K X.mg X.base CX k f fd [a, b, c] sp) (hr : Room k X.A) (hb : Swaps3 fd a b c) (hx : Passes CX X E)
    (I : Inv X pins σ H s) (r1 : RelV v v') (r2 : RelV u u') (r3 : RelV z z') (h : sp [z, u, v] H Q E) : wpAny (model X.prog X.w) X.A (call (.ref f) [] [(c, v'), (b, u'), (a, z')]) (EP X pins σ Q) X.xe s := by
  refine wpAny_call (codeAny_mono (F.run X.A X.stack s H ⟨[], [(c, v'), (b, u'), (a, z')]⟩ [z', u', v'] [z, u, v] Q E hr I.env0 (hb s v' u' z') (.cons r3 (.cons r2 (.cons r1 .nil))) h) fun r s' hq => ?_)
  cases r with
  | error e => exact hx pins σ H s e s' I hq
  | ok fl =>
    cases fl with
    | ret u => exact I.after hq
    | next => exact False.elim hq
    | brk => exact False.elim hq
    | cont => exact False.elim hq
theorem pe_callSw3 (F : FnOk X.prog X.w X.K X.mg X.base CX k f fd [a, b, c] sp) (hr : Room k X.A) (hg : Gl X x) (hm : X.mg x = some (.ref f)) (hk : PySem.W.keepIn X.K (.ref f) = true) (hb : Swaps3 fd a b c) (hx : Passes CX X E)
    (h1 : PE X e1 t1) (h2 : PE X e2 t2) (h3 : PE X e3 t3) (hdb : (x == ("__debug__" : Str)) = false := by decide)
    (hall : (backToKw pos (keywordEach [⟨some c, e1, p1⟩, ⟨some b, e2, p2⟩, ⟨some a, e3, p3⟩] X.env)).all (·.1.isSome) = true := by rfl) (hks : (backToKw pos (keywordEach [⟨some c, e1, p1⟩, ⟨some b, e2, p2⟩, ⟨some a, e3, p3⟩] X.env)).filterMap (·.1) = [c, b, a] := by rfl)
    (hpl : ((backTo pos (starEach [] X.env)).any (·.1) || (backToKw pos (keywordEach [⟨some c, e1, p1⟩, ⟨some b, e2, p2⟩, ⟨some a, e3, p3⟩] X.env)).any (·.1.isNone)) = false := by rfl) :
    PE X (.Call (.Name x p) [] [⟨some c, e1, p1⟩, ⟨some b, e2, p2⟩, ⟨some a, e3, p3⟩] pos) (tSw3 sp E t1 t2 t3) := by
  refine ⟨fun pins s σ H Q I h => ?_⟩
  refine wpAny_Call_Name_kw (ld_glob I hg hm ?_ hdb)
  refine PySem.W.callWith_KW0 (h₀ := X.base) I.ok.mod.kin hk hall ?_ hpl
  refine thn ((pk_cons h1 (pk_cons h2 (pk_cons h3 pk_nil))).run pos pins s σ H _ I h) fun ws s2 ⟨zs, H2, J, rz, q⟩ => ⟨J.kIn, ?_⟩
  rw [hks]
  have hl := F.len _ _ _ _ q
  rw [List.length_reverse] at hl
  cases rz with
  | nil => exact absurd hl (by simp)
  | cons r1 rz =>
    cases rz with
    | nil => exact absurd hl (by simp)
    | cons r2 rz =>
      cases rz with
      | nil => exact absurd hl (by simp)
      | cons r3 rz =>
        cases rz with
        | nil => exact run_sw3 F hr hb hx J r1 r2 r3 q
        | cons r4 rz => exact absurd hl (by simp)
end
end L2
namespace Wd
def mate (x : Int) : Int := if x % 2 = 0 then x + 1 else x - 1
theorem mate_mate (x : Int) : mate (mate x) = x := by unfold mate; split <;> split <;> omega
theorem mate_eq {a b : Int} : b = mate a ↔ a = mate b := ⟨fun h => by rw [h, mate_mate], fun h => by rw [h, mate_mate]⟩
theorem mate_range {n x : Int} (h0 : 0 ≤ x) (h1 : x < 2 * n) : 0 ≤ mate x ∧ mate x < 2 * n := by unfold mate; split <;> omega
def push (st : List Int) (x : Int) : List Int := if st.getLast? = some (mate x) then st.dropLast else st ++ [x]
def freed (w : List Int) : List Int := w.foldl push []
def undo (w : List Int) : List Int := w.reverse.map mate
def Rd (st : List Int) : Prop := ∀ i a b, st[i]? = some a → st[i + 1]? = some b → b ≠ mate a
theorem rd_nil : Rd [] := fun i a b h => by simp at h
theorem last_get {st : List Int} {a : Int} : st.getLast? = some a ↔ st ≠ [] ∧ st[st.length - 1]? = some a := by
  rw [List.getLast?_eq_getElem?]
  constructor
  · intro h
    refine ⟨fun e => ?_, h⟩
    subst e
    simp at h
  · exact fun h => h.2
theorem rd_push {st : List Int} {x : Int} (h : Rd st) : Rd (push st x) := by
  unfold push
  split
  · intro i a b h1 h2
    have e1 : i + 1 < st.dropLast.length := (List.getElem?_eq_some_iff.mp h2).1
    rw [List.length_dropLast] at e1
    rw [List.getElem?_dropLast, if_pos (by omega)] at h1
    rw [List.getElem?_dropLast, if_pos (by omega)] at h2
    exact h i a b h1 h2
  · rename_i hn
    intro i a b h1 h2
    have e1 : i + 1 < (st ++ [x]).length := (List.getElem?_eq_some_iff.mp h2).1
    rw [List.length_append, List.length_singleton] at e1
    by_cases hi : i + 1 < st.length
    · rw [List.getElem?_append_left (by omega)] at h1
      rw [List.getElem?_append_left hi] at h2
      exact h i a b h1 h2
    · have ei : i + 1 = st.length := by omega
      rw [List.getElem?_append_left (by omega)] at h1
      rw [List.getElem?_append_right (by omega)] at h2
      have e0 : i + 1 - st.length = 0 := by omega
      rw [e0] at h2
      have hb : x = b := by simpa using h2
      subst hb
      intro z
      apply hn
      rw [last_get]
      refine ⟨fun e => by rw [e] at ei; simp at ei, ?_⟩
      have e2 : st.length - 1 = i := by omega
      rw [e2, h1, mate_eq.mp z]
theorem snoc_of_last {st : List Int} {a : Int} (h : st.getLast? = some a) : st.dropLast ++ [a] = st := by
  have hne := (last_get.mp h).1
  have e := List.dropLast_concat_getLast hne
  have e2 : st.getLast hne = a := by
    rw [List.getLast?_eq_some_getLast hne] at h
    exact Option.some.inj h
  rw [e2] at e
  exact e
theorem push_push {st : List Int} {x : Int} (h : Rd st) : push (push st (mate x)) x = st := by
  unfold push
  split
  · rename_i h1
    rw [mate_mate] at h1
    have e := snoc_of_last h1
    have n : ¬ st.dropLast.getLast? = some (mate x) := by
      intro z
      obtain ⟨z1, z2⟩ := last_get.mp z
      have l0 : 0 < st.dropLast.length := List.length_pos_iff.mpr z1
      have hl : st.dropLast.length = st.length - 1 := List.length_dropLast
      have g1 : st[st.dropLast.length - 1]? = some (mate x) := by
        rw [← z2, List.getElem?_dropLast, if_pos (by omega)]
      have g2 : st[st.dropLast.length - 1 + 1]? = some x := by
        have := (last_get.mp h1).2
        have e3 : st.dropLast.length - 1 + 1 = st.length - 1 := by omega
        rw [e3]
        exact this
      exact h _ _ _ g1 g2 (mate_mate x).symm
    rw [if_neg n, e]
  · rename_i h1
    rw [if_pos (by simp), List.dropLast_concat]
theorem rd_fold : ∀ (w : List Int) {st : List Int}, Rd st → Rd (w.foldl push st)
  | [], _, h => h
  | a :: w, _, h => rd_fold w (rd_push h)
theorem snoc_ind {P : List Int → Prop} (h0 : P []) (h1 : ∀ l a, P l → P (l ++ [a])) (l : List Int) : P l := by
  have h : ∀ r : List Int, P r.reverse := by
    intro r
    induction r with
    | nil => exact h0
    | cons a r ih => rw [List.reverse_cons]; exact h1 _ _ ih
  have := h l.reverse
  rwa [List.reverse_reverse] at this
theorem fold_freed {st : List Int} (h : Rd st) (b : List Int) : b.foldl push st = (freed b).foldl push st := by
  induction b using snoc_ind with
  | h0 => rfl
  | h1 l a ih =>
    have e : freed (l ++ [a]) = push (freed l) a := by unfold freed; rw [List.foldl_append]; rfl
    rw [e, List.foldl_append, ih]
    show push ((freed l).foldl push st) a = _
    by_cases c : (freed l).getLast? = some (mate a)
    · have e2 := snoc_of_last c
      unfold push
      rw [if_pos c]
      show push ((freed l).foldl push st) a = _
      conv => lhs; rw [← e2, List.foldl_append]
      exact push_push (rd_fold _ h)
    · have e2 : push (freed l) a = freed l ++ [a] := by unfold push; rw [if_neg c]
      rw [e2, List.foldl_append]
      rfl
theorem rd_freed (w : List Int) : Rd (freed w) := rd_fold w rd_nil
theorem freed_freed (w : List Int) : freed (freed w) = freed w := (fold_freed rd_nil w).symm
theorem freed_app (a b : List Int) : freed (a ++ b) = freed (freed a ++ freed b) := by
  have e1 : freed (a ++ b) = (freed b).foldl push (freed a) := by
    unfold freed
    rw [List.foldl_append]
    exact fold_freed (rd_fold a rd_nil) b
  have e2 : freed (freed a ++ freed b) = (freed b).foldl push (freed a) := by
    show (freed a ++ freed b).foldl push [] = _
    rw [List.foldl_append]
    show (freed b).foldl push (freed (freed a)) = _
    rw [freed_freed]
  rw [e1, e2]
theorem undo_cons (a : Int) (w : List Int) : undo (a :: w) = undo w ++ [mate a] := by
  unfold undo
  rw [List.reverse_cons, List.map_append]
  rfl
theorem fold_undo : ∀ (w : List Int) {st : List Int}, Rd st → (w ++ undo w).foldl push st = st
  | [], _, _ => rfl
  | a :: w, st, h => by
    rw [undo_cons, List.cons_append, List.foldl_cons, ← List.append_assoc, List.foldl_append, fold_undo w (rd_push h)]
    show push (push st a) (mate a) = st
    have := push_push (x := mate a) h
    rw [mate_mate] at this
    exact this
theorem freed_undo (w : List Int) : freed (w ++ undo w) = [] := fold_undo w rd_nil
theorem freed_cut (u v : List Int) (b : Int) : freed (u ++ mate b :: b :: v) = freed (u ++ v) := by
  unfold freed
  rw [List.foldl_append, List.foldl_append, List.foldl_cons, List.foldl_cons, push_push (rd_fold u rd_nil)]
theorem freed_of_rd (w : List Int) : Rd w → freed w = w := by
  induction w using snoc_ind with
  | h0 => intro _; rfl
  | h1 l a ih =>
    intro h
    have hl : Rd l := fun i x y h1 h2 => h i x y (by rw [List.getElem?_append_left (List.getElem?_eq_some_iff.mp h1).1]; exact h1) (by rw [List.getElem?_append_left (List.getElem?_eq_some_iff.mp h2).1]; exact h2)
    have e : freed (l ++ [a]) = push (freed l) a := by unfold freed; rw [List.foldl_append]; rfl
    rw [e, ih hl]
    unfold push
    rw [if_neg]
    intro z
    obtain ⟨z1, z2⟩ := last_get.mp z
    have l0 : 0 < l.length := List.length_pos_iff.mpr z1
    refine h (l.length - 1) (mate a) a (by rw [List.getElem?_append_left (by omega)]; exact z2) ?_ (mate_mate a).symm
    have e3 : l.length - 1 + 1 = l.length := by omega
    rw [e3, List.getElem?_append_right (Nat.le_refl _)]
    simp
theorem mem_push {st : List Int} {x y : Int} (h : y ∈ push st x) : y ∈ st ∨ y = x := by
  unfold push at h
  split at h
  · exact .inl (List.dropLast_subset _ h)
  · simpa using h
theorem mem_fold : ∀ (w : List Int) {st : List Int} {y : Int}, y ∈ w.foldl push st → y ∈ st ∨ y ∈ w
  | [], _, _, h => .inl h
  | a :: w, _, y, h => by
    rcases mem_fold w h with h | h
    · rcases mem_push h with h | h
      · exact .inl h
      · exact .inr (by rw [h]; exact List.mem_cons_self)
    · exact .inr (List.mem_cons_of_mem _ h)
theorem mem_freed {w : List Int} {y : Int} (h : y ∈ freed w) : y ∈ w := by
  rcases mem_fold w h with h | h
  · cases h
  · exact h
theorem len_push (st : List Int) (x : Int) : (push st x).length ≤ st.length + 1 := by
  unfold push
  split
  · rw [List.length_dropLast]; omega
  · rw [List.length_append]; simp
theorem len_fold : ∀ (w : List Int) (st : List Int), (w.foldl push st).length ≤ st.length + w.length
  | [], _ => by simp
  | a :: w, st => by
    have h1 := len_fold w (push st a)
    have h2 := len_push st a
    rw [List.foldl_cons, List.length_cons]
    omega
theorem len_freed (w : List Int) : (freed w).length ≤ w.length := by
  have h := len_fold w []
  show (w.foldl push []).length ≤ _
  simp only [List.length_nil, Nat.zero_add] at h
  exact h
theorem freed_snoc (w : List Int) (a : Int) : freed (w ++ [a]) = push (freed w) a := by unfold freed; rw [List.foldl_append]; rfl
theorem undo_len (w : List Int) : (undo w).length = w.length := by unfold undo; rw [List.length_map, List.length_reverse]
end Wd
set_option maxRecDepth 100000
set_option maxHeartbeats 4000000
namespace Tt
open PySem L2
structure DefAt (K : PySem.W.Frag) (mg : Str → Option Value) (x : Str) (st : Stmt) (ps : List Str) where
  a : Addr
  fd : FuncData
  F : Fun K x x st a fd
  g : mg x = some (.ref a)
  b : Binds K fd ps []
theorem DefAt.k {K : PySem.W.Frag} {mg : Str → Option Value} {x : Str} {st : Stmt} {ps : List Str} (d : DefAt K mg x st ps) : PySem.W.keepIn K (.ref d.a) = true := d.F.kp
structure Ex0 (K : PySem.W.Frag) (mg : Str → Option Value) (x : Str) where
  C : Addr
  g : mg x = some (.ref C)
  k : PySem.W.keepIn K (.ref C) = true
  q : PySem.W.excIn K C [.type "ValueError", .type "Exception", .type "BaseException", .type "object"] "ValueError.__new__" = true
  ty : PySem.W.typeIn K (.ref C) = some (.type "type")
  ec : ExcC K C
structure Ex1 (K : PySem.W.Frag) (mg : Str → Option Value) (x qual : Str) (st : Stmt) (ps : List Str) (field : Str) where
  C : Addr
  fI : Addr
  fd : FuncData
  g : mg x = some (.ref C)
  o : OexC K C
  i : PySem.W.findIn K (.ref C) "__init__" = some (some (.ref fI))
  t : PySem.W.typeIn K (.ref fI) = some (.type "function")
  F : Fun K "__init__" qual st fI fd
  b : Binds K fd ps []
  n : PySem.W.findIn K (.ref C) field = some none
  xf : XfC K C
  ec : ExcC K C
structure ClsAt (K : PySem.W.Frag) (mg : Str → Option Value) (x qual : Str) (st : Stmt) (ps : List Str) (attrs : List Str) where
  C : Addr
  fI : Addr
  fd : FuncData
  g : mg x = some (.ref C)
  c : Cls K C
  n : ∀ f ∈ attrs, NoAttr K C f
  kk : Mk K C fI
  F : Fun K "__init__" qual st fI fd
  b : Binds K fd ps []
  ha : PySem.W.findIn K (.ref C) "__class__" = some (some (.builtin "object.__class__"))
  hn : PySem.W.specialIn K (.builtin "object.__class__") "__get__" = some (some (.builtin "getset_descriptor.__get__"))
  ht : PySem.W.takesIn K (.builtin "object.__class__") = some true
  hm : PySem.W.mroIn K C (.type "object") = some true
structure FunC (K : PySem.W.Frag) (x qual : Str) (st : Stmt) (f : Addr) (fd : FuncData) (cdv : Value) : Prop where
  ex : ∃ (oc : Value) (od : Option Addr) (kV doc pm : Value) (an : Option Addr) (ct : Value) (osl : Array (Option Value)),
    fd = PySem.W.fnOf x qual (defArgs st) (defBody st) (defScope st) .none kV doc pm an cdv ct ∧ K.lookup f = some ⟨oc, od, .func fd, osl⟩ ∧ PySem.W.codeIn K cdv qual = true
theorem FunC.ok {P : Program} {w : World} {K : PySem.W.Frag} {mg : Str → Option Value} {base : Heap} {x qual : Str} {st : Stmt} {f : Addr} {fd : FuncData} {cdv : Value} {N ps : List Str} {k : Nat} {sp : Sp} (F : FunC K x qual st f fd cdv) (S : FnScope N ps (defScope st)) (len : ∀ vs H Q E, sp vs H Q E → vs.length = ps.length)
    (body : ∀ (A : Around) (outer : List Env) (s : Shared) (H : Hp) (vs : List V) (Q : VK) (E : XK), Room k (A.deeper (PyProof.Rows.envOfC qual (defScope st) s.heap.objs.size f cdv)) → sp vs H Q E →
      ∃ t, PSs (cxOf CX0 P w K mg base N qual (defScope st) f cdv A outer s H E).nox (defBody st) t ∧ t { nx := fun _ H' => Q .non H', rt := Q } (L2.start N vs) H) : FnOk P w K mg base CX0 (k + 1) f fd ps sp := by
  obtain ⟨oc, od, kV, doc, pm, an, ct, osl, rfl, lk, hc⟩ := F.ex
  refine fn_of lk hc S len fun A outer s H vs Q E hr h => ?_
  obtain ⟨t, h1, h2⟩ := body A outer s H vs Q E hr h
  exact ⟨t, h1.nox, h2⟩
def top (i : Nat) : Stmt := PySem.Challenge.pw_tautrounds_k05_whole_rounds_exactly_if.main.body.getD i (.Pass ⟨0, 0, 0, 0⟩)
abbrev s_BadSkin_init : Stmt := inClass (top 3) 0
abbrev N_BadSkin_init : List Str := ["self", "part"]
theorem sc_BadSkin_init : FnScope N_BadSkin_init ["self", "part"] (defScope s_BadSkin_init) := ⟨rfl, rfl, rfl, by decide +kernel, rfl, by decide +kernel, by decide +kernel⟩
abbrev s_is_number : Stmt := top 6
abbrev N_is_number : List Str := ["thing"]
theorem sc_is_number : FnScope N_is_number ["thing"] (defScope s_is_number) := ⟨rfl, rfl, rfl, by decide +kernel, rfl, by decide +kernel, by decide +kernel⟩
abbrev s_is_within : Stmt := top 7
abbrev N_is_within : List Str := ["thing", "low", "high"]
theorem sc_is_within : FnScope N_is_within ["thing", "low", "high"] (defScope s_is_within) := ⟨rfl, rfl, rfl, by decide +kernel, rfl, by decide +kernel, by decide +kernel⟩
abbrev s_is_tuple : Stmt := top 8
abbrev N_is_tuple : List Str := ["thing"]
theorem sc_is_tuple : FnScope N_is_tuple ["thing"] (defScope s_is_tuple) := ⟨rfl, rfl, rfl, by decide +kernel, rfl, by decide +kernel, by decide +kernel⟩
abbrev s_is_list : Stmt := top 9
abbrev N_is_list : List Str := ["thing"]
theorem sc_is_list : FnScope N_is_list ["thing"] (defScope s_is_list) := ⟨rfl, rfl, rfl, by decide +kernel, rfl, by decide +kernel, by decide +kernel⟩
abbrev s_is_row : Stmt := top 11
abbrev N_is_row : List Str := ["row", "end"]
theorem sc_is_row : FnScope N_is_row ["row"] (defScope s_is_row) := ⟨rfl, rfl, rfl, by decide +kernel, rfl, by decide +kernel, by decide +kernel⟩
abbrev s_Skin_init : Stmt := inClass (top 12) 0
abbrev N_Skin_init : List Str := ["self", "row", "start", "end"]
theorem sc_Skin_init : FnScope N_Skin_init ["self", "row"] (defScope s_Skin_init) := ⟨rfl, rfl, rfl, by decide +kernel, rfl, by decide +kernel, by decide +kernel⟩
abbrev s_Skin_eq : Stmt := inClass (top 12) 1
abbrev N_Skin_eq : List Str := ["self", "other"]
theorem sc_Skin_eq : FnScope N_Skin_eq ["self", "other"] (defScope s_Skin_eq) := ⟨rfl, rfl, rfl, by decide +kernel, rfl, by decide +kernel, by decide +kernel⟩
abbrev s_check_skin : Stmt := top 13
abbrev N_check_skin : List Str := ["skin"]
theorem sc_check_skin : FnScope N_check_skin ["skin"] (defScope s_check_skin) := ⟨rfl, rfl, rfl, by decide +kernel, rfl, by decide +kernel, by decide +kernel⟩
abbrev s_is_end : Stmt := top 14
abbrev N_is_end : List Str := ["skin", "thing"]
theorem sc_is_end : FnScope N_is_end ["skin", "thing"] (defScope s_is_end) := ⟨rfl, rfl, rfl, by decide +kernel, rfl, by decide +kernel, by decide +kernel⟩
abbrev s_least_turn : Stmt := top 15
abbrev N_least_turn : List Str := ["word", "many", "one", "other", "alike", "first", "second", "start"]
theorem sc_least_turn : FnScope N_least_turn ["word"] (defScope s_least_turn) := ⟨rfl, rfl, rfl, by decide +kernel, rfl, by decide +kernel, by decide +kernel⟩
abbrev s_is_any_word : Stmt := top 18
abbrev N_is_any_word : List Str := ["skin", "thing", "letter"]
theorem sc_is_any_word : FnScope N_is_any_word ["skin", "thing"] (defScope s_is_any_word) := ⟨rfl, rfl, rfl, by decide +kernel, rfl, by decide +kernel, by decide +kernel⟩
abbrev s_has_letters : Stmt := top 19
abbrev N_has_letters : List Str := ["skin", "thing", "most"]
theorem sc_has_letters : FnScope N_has_letters ["skin", "thing", "most"] (defScope s_has_letters) := ⟨rfl, rfl, rfl, by decide +kernel, rfl, by decide +kernel, by decide +kernel⟩
abbrev s_check_word : Stmt := top 20
abbrev N_check_word : List Str := ["skin", "word"]
theorem sc_check_word : FnScope N_check_word ["skin", "word"] (defScope s_check_word) := ⟨rfl, rfl, rfl, by decide +kernel, rfl, by decide +kernel, by decide +kernel⟩
abbrev s_cut_free : Stmt := top 21
abbrev N_cut_free : List Str := ["word", "left", "letter"]
theorem sc_cut_free : FnScope N_cut_free ["word"] (defScope s_cut_free) := ⟨rfl, rfl, rfl, by decide +kernel, rfl, by decide +kernel, by decide +kernel⟩
abbrev s_gone_back : Stmt := top 22
abbrev N_gone_back : List Str := ["word", "letter"]
theorem sc_gone_back : FnScope N_gone_back ["word"] (defScope s_gone_back) := ⟨rfl, rfl, rfl, by decide +kernel, rfl, by decide +kernel, by decide +kernel⟩
abbrev s_closed_letters : Stmt := top 25
abbrev N_closed_letters : List Str := ["word", "left", "cut"]
theorem sc_closed_letters : FnScope N_closed_letters ["word"] (defScope s_closed_letters) := ⟨rfl, rfl, rfl, by decide +kernel, rfl, by decide +kernel, by decide +kernel⟩
abbrev s_closed_up : Stmt := top 26
abbrev N_closed_up : List Str := ["word", "left"]
theorem sc_closed_up : FnScope N_closed_up ["word"] (defScope s_closed_up) := ⟨rfl, rfl, rfl, by decide +kernel, rfl, by decide +kernel, by decide +kernel⟩
abbrev s_round_of : Stmt := top 27
abbrev N_round_of : List Str := ["skin", "word"]
theorem sc_round_of : FnScope N_round_of ["skin", "word"] (defScope s_round_of) := ⟨rfl, rfl, rfl, by decide +kernel, rfl, by decide +kernel, by decide +kernel⟩
abbrev s_is_fit_round : Stmt := top 28
abbrev N_is_fit_round : List Str := ["skin", "thing"]
theorem sc_is_fit_round : FnScope N_is_fit_round ["skin", "thing"] (defScope s_is_fit_round) := ⟨rfl, rfl, rfl, by decide +kernel, rfl, by decide +kernel, by decide +kernel⟩
abbrev s_is_round : Stmt := top 29
abbrev N_is_round : List Str := ["skin", "thing"]
theorem sc_is_round : FnScope N_is_round ["skin", "thing"] (defScope s_is_round) := ⟨rfl, rfl, rfl, by decide +kernel, rfl, by decide +kernel, by decide +kernel⟩
abbrev s_check_round : Stmt := top 30
abbrev N_check_round : List Str := ["skin", "loop"]
theorem sc_check_round : FnScope N_check_round ["skin", "loop"] (defScope s_check_round) := ⟨rfl, rfl, rfl, by decide +kernel, rfl, by decide +kernel, by decide +kernel⟩
abbrev s_gone_round_back : Stmt := top 31
abbrev N_gone_round_back : List Str := ["loop"]
theorem sc_gone_round_back : FnScope N_gone_round_back ["loop"] (defScope s_gone_round_back) := ⟨rfl, rfl, rfl, by decide +kernel, rfl, by decide +kernel, by decide +kernel⟩
abbrev s_turned_about : Stmt := top 32
abbrev N_turned_about : List Str := ["skin", "loop"]
theorem sc_turned_about : FnScope N_turned_about ["skin", "loop"] (defScope s_turned_about) := ⟨rfl, rfl, rfl, by decide +kernel, rfl, by decide +kernel, by decide +kernel⟩
abbrev s_l_begun : Stmt := top 34
abbrev N_l_begun : List Str := ["script", "large", "grain"]
theorem sc_l_begun : FnScope N_l_begun ["script"] (defScope s_l_begun) := ⟨rfl, rfl, rfl, by decide +kernel, rfl, by decide +kernel, by decide +kernel⟩
abbrev s_l_mixed : Stmt := top 35
abbrev N_l_mixed : List Str := ["draw", "turn", "found", "great", "blend", "grain"]
theorem sc_l_mixed : FnScope N_l_mixed ["draw"] (defScope s_l_mixed) := ⟨rfl, rfl, rfl, by decide +kernel, rfl, by decide +kernel, by decide +kernel⟩
abbrev s_l_take : Stmt := top 36
abbrev N_l_take : List Str := ["draw", "amount", "found"]
theorem sc_l_take : FnScope N_l_take ["draw", "amount"] (defScope s_l_take) := ⟨rfl, rfl, rfl, by decide +kernel, rfl, by decide +kernel, by decide +kernel⟩
abbrev s_l_pick : Stmt := top 37
abbrev N_l_pick : List Str := ["draw", "some"]
theorem sc_l_pick : FnScope N_l_pick ["draw", "some"] (defScope s_l_pick) := ⟨rfl, rfl, rfl, by decide +kernel, rfl, by decide +kernel, by decide +kernel⟩
abbrev s_l_shuffled : Stmt := top 38
abbrev N_l_shuffled : List Str := ["draw", "some", "left", "found"]
theorem sc_l_shuffled : FnScope N_l_shuffled ["draw", "some"] (defScope s_l_shuffled) := ⟨rfl, rfl, rfl, by decide +kernel, rfl, by decide +kernel, by decide +kernel⟩
abbrev s_l_caught : Stmt := top 39
abbrev N_l_caught : List Str := ["work", "caught", "error"]
theorem sc_l_caught : FnScope N_l_caught ["work"] (defScope s_l_caught) := ⟨rfl, rfl, rfl, by decide +kernel, rfl, by decide +kernel, by decide +kernel⟩
abbrev s_l_skin_error : Stmt := top 40
abbrev N_l_skin_error : List Str := ["error"]
theorem sc_l_skin_error : FnScope N_l_skin_error ["error"] (defScope s_l_skin_error) := ⟨rfl, rfl, rfl, by decide +kernel, rfl, by decide +kernel, by decide +kernel⟩
abbrev s_l_mate : Stmt := top 41
abbrev N_l_mate : List Str := ["end"]
theorem sc_l_mate : FnScope N_l_mate ["end"] (defScope s_l_mate) := ⟨rfl, rfl, rfl, by decide +kernel, rfl, by decide +kernel, by decide +kernel⟩
abbrev s_l_row : Stmt := top 42
abbrev N_l_row : List Str := ["draw", "most"]
theorem sc_l_row : FnScope N_l_row ["draw", "most"] (defScope s_l_row) := ⟨rfl, rfl, rfl, by decide +kernel, rfl, by decide +kernel, by decide +kernel⟩
abbrev s_l_least_turn : Stmt := top 43
abbrev N_l_least_turn : List Str := ["word_here", "at"]
theorem sc_l_least_turn : FnScope N_l_least_turn ["word_here"] (defScope s_l_least_turn) := ⟨rfl, rfl, rfl, by decide +kernel, rfl, by decide +kernel, by decide +kernel⟩
abbrev s_l_freed : Stmt := top 44
abbrev N_l_freed : List Str := ["word_here", "found", "letter"]
theorem sc_l_freed : FnScope N_l_freed ["word_here"] (defScope s_l_freed) := ⟨rfl, rfl, rfl, by decide +kernel, rfl, by decide +kernel, by decide +kernel⟩
abbrev s_l_undone : Stmt := top 45
abbrev N_l_undone : List Str := ["word_here", "letter"]
theorem sc_l_undone : FnScope N_l_undone ["word_here"] (defScope s_l_undone) := ⟨rfl, rfl, rfl, by decide +kernel, rfl, by decide +kernel, by decide +kernel⟩
abbrev s_l_rounded : Stmt := top 46
abbrev N_l_rounded : List Str := ["word_here", "found"]
theorem sc_l_rounded : FnScope N_l_rounded ["word_here"] (defScope s_l_rounded) := ⟨rfl, rfl, rfl, by decide +kernel, rfl, by decide +kernel, by decide +kernel⟩
abbrev s_l_core : Stmt := top 47
abbrev N_l_core : List Str := ["draw", "ends_here", "size", "found", "some", "letter"]
theorem sc_l_core : FnScope N_l_core ["draw", "ends_here", "size"] (defScope s_l_core) := ⟨rfl, rfl, rfl, by decide +kernel, rfl, by decide +kernel, by decide +kernel⟩
abbrev s_l_is_turn : Stmt := top 48
abbrev N_l_is_turn : List Str := ["one", "other", "twice", "at"]
theorem sc_l_is_turn : FnScope N_l_is_turn ["one", "other"] (defScope s_l_is_turn) := ⟨rfl, rfl, rfl, by decide +kernel, rfl, by decide +kernel, by decide +kernel⟩
abbrev s_l_stripped : Stmt := top 49
abbrev N_l_stripped : List Str := ["word_here", "found"]
theorem sc_l_stripped : FnScope N_l_stripped ["word_here"] (defScope s_l_stripped) := ⟨rfl, rfl, rfl, by decide +kernel, rfl, by decide +kernel, by decide +kernel⟩
abbrev s_l_led : Stmt := top 50
abbrev N_l_led : List Str := ["draw", "ends_here", "word_here", "most", "found", "lap", "way", "at", "letter", "size", "ahead", "place", "end"]
theorem sc_l_led : FnScope N_l_led ["draw", "ends_here", "word_here", "most"] (defScope s_l_led) := ⟨rfl, rfl, rfl, by decide +kernel, rfl, by decide +kernel, by decide +kernel⟩
abbrev s_l_is_loop : Stmt := top 51
abbrev N_l_is_loop : List Str := ["thing", "ends_here", "item"]
theorem sc_l_is_loop : FnScope N_l_is_loop ["thing", "ends_here"] (defScope s_l_is_loop) := ⟨rfl, rfl, rfl, by decide +kernel, rfl, by decide +kernel, by decide +kernel⟩
abbrev s_l_near : Stmt := top 52
abbrev N_l_near : List Str := ["draw", "ends_here", "loop_here", "at", "odd", "some"]
theorem sc_l_near : FnScope N_l_near ["draw", "ends_here", "loop_here"] (defScope s_l_near) := ⟨rfl, rfl, rfl, by decide +kernel, rfl, by decide +kernel, by decide +kernel⟩
abbrev s_l_judged : Stmt := top 53
abbrev N_l_judged : List Str := ["draw", "skin", "loop_here", "lap", "thing", "due", "error"]
theorem sc_l_judged : FnScope N_l_judged ["draw", "skin", "loop_here"] (defScope s_l_judged) := ⟨rfl, rfl, rfl, by decide +kernel, rfl, by decide +kernel, by decide +kernel⟩
abbrev s_law : Stmt := top 54
abbrev N_law : List Str := ["script", "draw", "turn", "skin", "ends_here", "core_here", "due", "one", "bent", "other", "half", "bad"]
theorem sc_law : FnScope N_law ["script"] (defScope s_law) := ⟨rfl, rfl, rfl, by decide +kernel, rfl, by decide +kernel, by decide +kernel⟩
structure Txt (K : PySem.W.Frag) (mg : Str → Option Value) where
  RoundError : Ex0 K mg "RoundError"
  BadRound : Ex0 K mg "BadRound"
  BadSkin : Ex1 K mg "BadSkin" "BadSkin.__init__" s_BadSkin_init ["self", "part"] "part"
  BadWord : Ex0 K mg "BadWord"
  is_number : DefAt K mg "is_number" s_is_number ["thing"]
  is_within : DefAt K mg "is_within" s_is_within ["thing", "low", "high"]
  is_tuple : DefAt K mg "is_tuple" s_is_tuple ["thing"]
  is_list : DefAt K mg "is_list" s_is_list ["thing"]
  is_row : DefAt K mg "is_row" s_is_row ["row"]
  Skin : ClsAt K mg "Skin" "Skin.__init__" s_Skin_init ["self", "row"] ["row", "bands", "places"]
  check_skin : DefAt K mg "check_skin" s_check_skin ["skin"]
  is_end : DefAt K mg "is_end" s_is_end ["skin", "thing"]
  least_turn : DefAt K mg "least_turn" s_least_turn ["word"]
  is_any_word : DefAt K mg "is_any_word" s_is_any_word ["skin", "thing"]
  has_letters : DefAt K mg "has_letters" s_has_letters ["skin", "thing", "most"]
  check_word : DefAt K mg "check_word" s_check_word ["skin", "word"]
  cut_free : DefAt K mg "cut_free" s_cut_free ["word"]
  gone_back : DefAt K mg "gone_back" s_gone_back ["word"]
  closed_letters : DefAt K mg "closed_letters" s_closed_letters ["word"]
  closed_up : DefAt K mg "closed_up" s_closed_up ["word"]
  round_of : DefAt K mg "round_of" s_round_of ["skin", "word"]
  is_fit_round : DefAt K mg "is_fit_round" s_is_fit_round ["skin", "thing"]
  is_round : DefAt K mg "is_round" s_is_round ["skin", "thing"]
  check_round : DefAt K mg "check_round" s_check_round ["skin", "loop"]
  gone_round_back : DefAt K mg "gone_round_back" s_gone_round_back ["loop"]
  turned_about : DefAt K mg "turned_about" s_turned_about ["skin", "loop"]
  l_begun : DefAt K mg "_law_begun" s_l_begun ["script"]
  l_mixed : DefAt K mg "_law_mixed" s_l_mixed ["draw"]
  l_take : DefAt K mg "_law_take" s_l_take ["draw", "amount"]
  l_pick : DefAt K mg "_law_pick" s_l_pick ["draw", "some"]
  l_shuffled : DefAt K mg "_law_shuffled" s_l_shuffled ["draw", "some"]
  l_caught : DefAt K mg "_law_caught" s_l_caught ["work"]
  l_skin_error : DefAt K mg "_law_skin_error" s_l_skin_error ["error"]
  l_mate : DefAt K mg "_law_mate" s_l_mate ["end"]
  l_row : DefAt K mg "_law_row" s_l_row ["draw", "most"]
  l_least_turn : DefAt K mg "_law_least_turn" s_l_least_turn ["word_here"]
  l_freed : DefAt K mg "_law_freed" s_l_freed ["word_here"]
  l_undone : DefAt K mg "_law_undone" s_l_undone ["word_here"]
  l_rounded : DefAt K mg "_law_rounded" s_l_rounded ["word_here"]
  l_core : DefAt K mg "_law_core" s_l_core ["draw", "ends_here", "size"]
  l_is_turn : DefAt K mg "_law_is_turn" s_l_is_turn ["one", "other"]
  l_stripped : DefAt K mg "_law_stripped" s_l_stripped ["word_here"]
  l_led : DefAt K mg "_law_led" s_l_led ["draw", "ends_here", "word_here", "most"]
  l_is_loop : DefAt K mg "_law_is_loop" s_l_is_loop ["thing", "ends_here"]
  l_near : DefAt K mg "_law_near" s_l_near ["draw", "ends_here", "loop_here"]
  l_judged : DefAt K mg "_law_judged" s_l_judged ["draw", "skin", "loop_here"]
  law : DefAt K mg "law" s_law ["script"]
  zabs : mg "abs" = none
  zall : mg "all" = none
  zbool : mg "bool" = none
  zint : mg "int" = none
  zisinstance : mg "isinstance" = none
  zlen : mg "len" = none
  zlist : mg "list" = none
  zmax : mg "max" = none
  zmin : mg "min" = none
  zrange : mg "range" = none
  zrepr : mg "repr" = none
  zsorted : mg "sorted" = none
  ztuple : mg "tuple" = none
  ztype : mg "type" = none
  v_MOST_LETTERS : Value
  c_MOST_LETTERS : mg "MOST_LETTERS" = some v_MOST_LETTERS
  r_MOST_LETTERS : RelV (.int 200) v_MOST_LETTERS
  v_MOST_IN_ROUND : Value
  c_MOST_IN_ROUND : mg "MOST_IN_ROUND" = some v_MOST_IN_ROUND
  r_MOST_IN_ROUND : RelV (.int 40) v_MOST_IN_ROUND
  kSS : PySem.W.kitOne K (.ref Skin.C) (.ref Skin.C) = some true
  kST : PySem.W.kitOne K (.type "tuple") (.ref Skin.C) = some false
  kSN : PySem.W.kitOne K (.type "NoneType") (.ref Skin.C) = some false
  kWW : PySem.W.kitOne K (.ref BadWord.C) (.ref BadWord.C) = some true
  kSkSk : PySem.W.kitOne K (.ref BadSkin.C) (.ref BadSkin.C) = some true
  sWR : PySem.W.subIn K (.ref BadWord.C) (.ref RoundError.C) = some true
  sSR : PySem.W.subIn K (.ref BadSkin.C) (.ref RoundError.C) = some true
  jc : Addr
  jP : Addr
  jF : FunC K "_law_judged" "_law_judged" s_l_judged l_judged.a l_judged.fd (.ref jc)
  kLiT : PySem.W.kitOne K (.type "list") (.type "tuple") = some false
  kNoT : PySem.W.kitOne K (.type "NoneType") (.type "tuple") = some false
  kInT : PySem.W.kitOne K (.type "int") (.type "tuple") = some false
  kStT : PySem.W.kitOne K (.type "str") (.type "tuple") = some false
  kBoI : PySem.W.kitOne K (.type "bool") (.type "int") = some true
  kNoI : PySem.W.kitOne K (.type "NoneType") (.type "int") = some false
  kStI : PySem.W.kitOne K (.type "str") (.type "int") = some false
  kInB : PySem.W.kitOne K (.type "int") (.type "bool") = some false
  kRR : PySem.W.kitOne K (.ref BadRound.C) (.ref BadRound.C) = some true
  sRR : PySem.W.subIn K (.ref BadRound.C) (.ref RoundError.C) = some true
  lc : Addr
  lP : Addr
  lF : FunC K "law" "law" s_law law.a law.fd (.ref lc)
  ne : jP ≠ lP
structure Dw where
  d : Addr
  l : Addr
  c : Addr
def drK (D : Dw) (r t : Int) : List (Key × V) := [(Sum.inr "large", .ref D.l), (Sum.inr "rest", .int r), (Sum.inr "cells", .ref D.c), (Sum.inr "turn", .int t)]
structure DrAt (D : Dw) (H : Hp) (ls cs : List Int) (r t : Int) : Prop where
  hd : H D.d = some (.dK (drK D r t))
  hl : H D.l = some (.lst (ls.map V.int))
  hc : H D.c = some (.lst (cs.map V.int))
  ne : D.l ≠ D.c
  nl : ls.length ≤ 63
  nc : cs.length ≤ 63
def DrOk (D : Dw) (H : Hp) : Prop := ∃ ls cs r t, DrAt D H ls cs r t
def Kp (D : Dw) (H H' : Hp) : Prop := ∀ b o, H b = some o → b ≠ D.d → b ≠ D.l → H' b = some o
theorem Kp.refl {D : Dw} {H : Hp} : Kp D H H := fun _ _ h _ _ => h
theorem Kp.trans {D : Dw} {H H1 H2 : Hp} (a : Kp D H H1) (b : Kp D H1 H2) : Kp D H H2 := fun c o h n m => b c o (a c o h n m) n m
theorem Kp.of {D : Dw} {H H' : Hp} (a : Same H H') : Kp D H H' := fun c o h _ _ => a c o h
theorem Kp.new {D : Dw} {H : Hp} {p : Addr} {o : HO} (h : H p = none) : Kp D H (upd H p o) := fun c u e _ _ => by
  rw [upd_ne (ne_of_none e h)]
  exact e
theorem DrAt.dne {D : Dw} {H : Hp} {ls cs : List Int} {r t : Int} (h : DrAt D H ls cs r t) {b : Addr} {o : HO} (e : H b = some o) (n : ∀ kvs, o ≠ .dK kvs) : b ≠ D.d := fun z => by
  rw [z, h.hd] at e
  exact n _ (Option.some.inj e).symm
theorem DrAt.lne {D : Dw} {H : Hp} {ls cs : List Int} {r t : Int} (h : DrAt D H ls cs r t) {b : Addr} {o : HO} (e : H b = some o) (n : ∀ xs, o ≠ .lst xs) : b ≠ D.l := fun z => by
  rw [z, h.hl] at e
  exact n _ (Option.some.inj e).symm
theorem DrAt.new {D : Dw} {H : Hp} {ls cs : List Int} {r t : Int} (h : DrAt D H ls cs r t) {p : Addr} {o : HO} (n : H p = none) : DrAt D (upd H p o) ls cs r t :=
  ⟨by rw [upd_ne (ne_of_none h.hd n)]; exact h.hd, by rw [upd_ne (ne_of_none h.hl n)]; exact h.hl, by rw [upd_ne (ne_of_none h.hc n)]; exact h.hc, h.ne, h.nl, h.nc⟩
theorem DrAt.same {D : Dw} {H H' : Hp} {ls cs : List Int} {r t : Int} (h : DrAt D H ls cs r t) (s : Same H H') : DrAt D H' ls cs r t := ⟨s _ _ h.hd, s _ _ h.hl, s _ _ h.hc, h.ne, h.nl, h.nc⟩
theorem DrAt.nelc {D : Dw} {H : Hp} {ls cs : List Int} {r t : Int} (h : DrAt D H ls cs r t) : D.l ≠ D.d := h.dne h.hl (fun _ z => nomatch z)
theorem DrAt.necd {D : Dw} {H : Hp} {ls cs : List Int} {r t : Int} (h : DrAt D H ls cs r t) : D.c ≠ D.d := h.dne h.hc (fun _ z => nomatch z)
theorem DrAt.put {D : Dw} {H : Hp} {ls cs : List Int} {r t r' t' : Int} (h : DrAt D H ls cs r t) : DrAt D (upd H D.d (.dK (drK D r' t'))) ls cs r' t' :=
  ⟨upd_same, by rw [upd_ne h.nelc]; exact h.hl, by rw [upd_ne h.necd]; exact h.hc, h.ne, h.nl, h.nc⟩
theorem Kp.put {D : Dw} {H : Hp} {o : HO} : Kp D H (upd H D.d o) := fun b u e n _ => by rw [upd_ne n]; exact e
theorem Kp.putl {D : Dw} {H : Hp} {o : HO} : Kp D H (upd H D.l o) := fun b u e _ n => by rw [upd_ne n]; exact e
theorem DrAt.pop {D : Dw} {H : Hp} {ls cs ls' : List Int} {r t : Int} (h : DrAt D H ls cs r t) (n : ls'.length ≤ 63) : DrAt D (upd H D.l (.lst (ls'.map V.int))) ls' cs r t :=
  ⟨by rw [upd_ne h.nelc.symm]; exact h.hd, upd_same, by rw [upd_ne h.ne.symm]; exact h.hc, h.ne, n, h.nc⟩
theorem val_large (D : Dw) (r t : Int) : valV (drK D r t) (Sum.inr "large") = some (.ref D.l) := rfl
theorem val_rest (D : Dw) (r t : Int) : valV (drK D r t) (Sum.inr "rest") = some (.int r) := rfl
theorem val_cells (D : Dw) (r t : Int) : valV (drK D r t) (Sum.inr "cells") = some (.ref D.c) := rfl
theorem val_turn (D : Dw) (r t : Int) : valV (drK D r t) (Sum.inr "turn") = some (.int t) := rfl
theorem put_rest (D : Dw) (r t r' : Int) : putK (drK D r t) (Sum.inr "rest") (.int r') = drK D r' t := rfl
theorem put_turn (D : Dw) (r t t' : Int) : putK (drK D r t) (Sum.inr "turn") (.int t') = drK D r t' := rfl
end Tt
set_option maxRecDepth 100000
set_option maxHeartbeats 4000000
namespace Tt
open PySem L2
local macro_rules | `(tactic| walk_at "v") => `(tactic| refine ⟨_, rfl, ?_⟩)
local macro_rules | `(tactic| walk_at "ii") => `(tactic| refine ⟨_, _, rfl, rfl, ?_⟩)
section
variable {P : Program} {w : World} {K : PySem.W.Frag} {mg : Str → Option Value} {base : Heap}
def spMixed : Sp := fun vs H Q _ => ∃ D : Dw, vs = [.ref D.d] ∧ DrOk D H ∧ ∀ z H', DrOk D H' → Kp D H H' → Q (.int z) H'
theorem ok_l_mixed (T : Txt K mg) : FnOk P w K mg base CX0 1 T.l_mixed.a T.l_mixed.fd ["draw"] spMixed := by
  refine T.l_mixed.F.ok sc_l_mixed (fun vs H Q E h => ?_) (fun cdv A outer s H vs Q E hr h => ?_)
  · obtain ⟨D, rfl, _⟩ := h
    rfl
  · obtain ⟨D, rfl, ⟨ls, cs, r, t, dr⟩, k⟩ := h
    have hu := hu_of hr
    have nd := sc_l_mixed.nd
    refine ⟨_, pss_cons (ps_dput hu (pv 0) pe_str (pe_op op_add (pe_dget hu (pv 0) pe_str (fun _ _ => rfl)) pe_int) rfl)
      (pss_cons (ps_par (i := 1) (j := 2) rfl nd rfl rfl (by decide) rfl rfl (pa_cons (pe_callTy call_int1 (by rfl) T.zint (by decide +kernel) (pa_cons (pe_dget hu (pv 0) pe_str (fun _ _ => rfl)) pa_nil)) (pa_cons pe_int pa_nil)) rfl)
      (pss_cons (ps_for PassesOwn.never rfl (pi_list (pe_lst (pa_cons pe_int (pa_cons pe_int (pa_cons pe_int pa_nil))))) (pg_name (i := 3) nd rfl (Or.inl rfl))
        (pss_cons (ps_set (i := 4) nd rfl (Or.inl rfl) (pe_op op_mod (pe_op op_add (pe_op op_mul (pv 1) pe_int) (pe_op op_fdiv (pv 3) pe_int)) (pv 3)))
        (pss_cons (ps_for PassesOwn.never rfl (pi_list (pe_dget hu (pv 0) pe_str (fun _ _ => rfl))) (pg_name (i := 5) nd rfl (Or.inl rfl))
          (pss_one (ps_set (i := 4) nd rfl (Or.inl rfl) (pe_op op_mod (pe_op op_add (pe_op op_mul (pv 4) pe_int) (pe_callTy call_int1 (by rfl) T.zint (by decide +kernel) (pa_cons (pv 5) pa_nil))) (pv 3)))))
        (pss_one (ps_set (i := 2) nd rfl (Or.inl rfl) (pe_op op_add (pe_op op_mul (pv 2) pe_int) (pe_op op_mod (pe_op op_pow (pv 4) pe_int) (pv 3))))))))
      (pss_one (ps_ret (pv 2))))), ?_⟩
    refine ⟨_, rfl, _, _, rfl, DGet.k (k := Sum.inr "turn") dr.hd, _, _, rfl, rfl, _, rfl, _, _, rfl, DPut.k (k := Sum.inr "turn") dr.hd (small1000 (by show 4 ≤ 1000; decide)), ?_⟩
    have dr1 : DrAt D (upd H D.d (.dK (drK D r (t + 1)))) ls cs r (t + 1) := dr.put
    have k1 : Kp D H (upd H D.d (.dK (drK D r (t + 1)))) := Kp.put
    generalize hH1 : upd H D.d (.dK (drK D r (t + 1))) = H1 at dr1 k1
    have eH1 : upd H D.d (.dK (putK (drK D r t) (Sum.inr "turn") (.int (t + 1)))) = H1 := hH1
    rw [eH1]
    refine ⟨_, rfl, _, _, rfl, DGet.k (k := Sum.inr "turn") dr1.hd, .inl ⟨_, rfl, ?_⟩⟩
    refine ⟨_, _, rfl, ?_⟩
    refine ⟨(by show 3 ≤ sizeLine; decide), fun p hp => ?_⟩
    have dr2 := dr1.new (o := .lst [.int 2147483629, .int 2147483587, .int 2147483579]) hp
    have k2 : Kp D H1 (upd H1 p (.lst [.int 2147483629, .int 2147483587, .int 2147483579])) := Kp.new hp
    refine ⟨p, rfl, ⟨_, SqL.of upd_same⟩, ?_⟩
    have hp2 : (upd H1 p (.lst [.int 2147483629, .int 2147483587, .int 2147483579])) p = some (.lst [.int 2147483629, .int 2147483587, .int 2147483579]) := upd_same
    generalize upd H1 p (.lst [.int 2147483629, .int 2147483587, .int 2147483579]) = H2 at dr2 k2 hp2
    refine for_list (K := K) (a := p) (xs := [.int 2147483629, .int 2147483587, .int 2147483579]) (fun i σ H' => H' = H2 ∧ ∃ f v3 v4 v5, σ = [some (.ref D.d), some (.int (t + 1)), some (.int f), v3, v4, v5])
      ⟨rfl, 0, _, _, _, rfl⟩ (fun i σ H' _ q => by rw [q.1]; exact SqL.of hp2) ?_ ?_
    · rintro i x σ H' hi ⟨rfl, f, v3, v4, v5, rfl⟩
      obtain ⟨g, rfl, g0, g1⟩ : ∃ g : Int, x = .int g ∧ 0 < g ∧ g < 2147483648 := by
        match i, hi with
        | 0, hi => exact ⟨_, (Option.some.inj hi).symm, by decide, by decide⟩
        | 1, hi => exact ⟨_, (Option.some.inj hi).symm, by decide, by decide⟩
        | 2, hi => exact ⟨_, (Option.some.inj hi).symm, by decide, by decide⟩
      refine ⟨_, rfl, _, _, rfl, rfl, .inr ⟨by decide, by decide⟩, _, rfl, _, _, rfl, rfl, ⟨by decide, by decide⟩, _, _, rfl, rfl, _, rfl, _, _, rfl, rfl, g0, ?_⟩
      refine ⟨_, rfl, _, _, rfl, DGet.k (k := Sum.inr "cells") dr2.hd, _, rfl, ⟨_, SqL.of dr2.hc⟩, ?_⟩
      refine for_list (K := K) (a := D.c) (xs := cs.map V.int) (fun i σ H'' => H'' = H' ∧ ∃ b v5, (0 ≤ b ∧ b < g) ∧ σ = [some (.ref D.d), some (.int (t + 1)), some (.int f), some (.int g), some (.int b), v5])
        ⟨rfl, _, _, ⟨Int.emod_nonneg _ (by omega), Int.emod_lt_of_pos _ g0⟩, rfl⟩ (fun i σ H'' _ q => by rw [q.1]; exact SqL.of dr2.hc) ?_ ?_
      · rintro j y σ H'' hj ⟨rfl, b, v5, hb, rfl⟩
        obtain ⟨z, rfl⟩ : ∃ z, y = V.int z := by
          rw [List.getElem?_map] at hj
          cases e : cs[j]? with
          | none => rw [e] at hj; cases hj
          | some z => rw [e] at hj; exact ⟨z, (Option.some.inj hj).symm⟩
        refine ⟨_, rfl, _, _, rfl, rfl, .inr ⟨by decide, by decide⟩, _, rfl, .inl ⟨_, rfl, _, _, rfl, rfl, _, rfl, _, _, rfl, rfl, g0, ?_⟩⟩
        exact ⟨rfl, _, _, ⟨Int.emod_nonneg _ (by omega), Int.emod_lt_of_pos _ g0⟩, rfl⟩
      · rintro σ H'' ⟨rfl, b, v5, hb, rfl⟩
        refine ⟨_, rfl, _, _, rfl, rfl, .inr ⟨by decide, by decide⟩, _, rfl, _, _, rfl, rfl, ⟨by decide, by decide, by omega⟩, _, rfl, _, _, rfl, rfl, g0, _, _, rfl, rfl, ?_⟩
        exact ⟨rfl, _, _, _, _, rfl⟩
    · rintro σ H' ⟨rfl, f, v3, v4, v5, rfl⟩
      refine ⟨_, rfl, ?_⟩
      exact k _ _ ⟨_, _, _, _, dr2⟩ (k1.trans k2)
end
end Tt
set_option maxRecDepth 100000
set_option maxHeartbeats 4000000
namespace Tt
open PySem L2
section
variable {P : Program} {w : World} {K : PySem.W.Frag} {mg : Str → Option Value} {base : Heap}
theorem dpAll_ints (H : Hp) : ∀ ls : List Int, DpAll K H (ls.map V.int) (ls.map PyData.int)
  | [] => .nil
  | a :: l => .cons (.int a) (dpAll_ints H l)
theorem shapedAll_ints : ∀ ls : List Int, SeqAt.shaped (.list (ls.map PyData.int)) = true
  | [] => by first | rfl | decide
  | a :: l => by
    have h := shapedAll_ints l
    first | exact h | (simp [SeqAt.shaped] at h ⊢) | trace_state
theorem eqv_nil (ls : List Int) : PyData.eqv (.list (ls.map PyData.int)) (.list []) = decide (ls = []) := by
  cases ls with
  | nil => rfl
  | cons a l => simp [PyData.eqv] <;> rfl
theorem yes_t {σ : L2.St} {H : Hp} {A B : Hp → Prop} (h : A H) : tYes σ H (fun b H3 => if b = true then A H3 else B H3) := by
  show if true = true then A H else B H
  rw [if_pos rfl]
  exact h
theorem ints_at {cs : List Int} {j : Nat} {y : V} (hj : (cs.map V.int)[j]? = some y) : ∃ z, y = V.int z ∧ cs[j]? = some z := by
  rw [List.getElem?_map] at hj
  cases e : cs[j]? with
  | none => rw [e] at hj; cases hj
  | some z => rw [e] at hj; exact ⟨z, (Option.some.inj hj).symm, rfl⟩
def spTake : Sp := fun vs H Q _ => ∃ (D : Dw) (m : Int), vs = [.ref D.d, .int m] ∧ 0 < m ∧ m < 1073741824 ∧ DrOk D H ∧ ∀ n H', 0 ≤ n → n < m → DrOk D H' → Kp D H H' → Q (.int n) H'
theorem ok_l_take (T : Txt K mg) : FnOk P w K mg base CX0 2 T.l_take.a T.l_take.fd ["draw", "amount"] spTake := by
  refine T.l_take.F.ok sc_l_take (fun vs H Q E h => ?_) (fun cdv A outer s H vs Q E hr h => ?_)
  · obtain ⟨D, m, rfl, _⟩ := h
    rfl
  · obtain ⟨D, m, rfl, m0, m1, ⟨ls, cs, r, t, dr⟩, k⟩ := h
    have hu := hu_of hr
    have nd := sc_l_take.nd
    refine ⟨_, (pss_cons (ps_if (pt_cmpR op_eq (pe_dget hu (pv 0) pe_str (fun _ _ => rfl)) pe_int (nomark _))
      (pss_one (ps_dput hu (pv 0) pe_str (pe_ifExp (pt_cmpR (op_neD hr.units) (pe_dget hu (pv 0) pe_str (fun _ _ => rfl)) (pe_lst pa_nil) (nomark _)) (pe_bm PySem.F.plainAttrs_list PySem.F.slot_list_pop PySem.F.type_list_pop mt_popAt (pe_dget hu (pv 0) pe_str (fun _ _ => rfl)) (pa_cons pe_int pa_nil)) (pe_call (ok_l_mixed T) (hr.mono (by decide)) (by rfl) T.l_mixed.g T.l_mixed.k T.l_mixed.b .nil pass0 (pa_cons (pv 0) pa_nil))) rfl))
      pss_nil)
    (pss_cons (ps_set (i := 2) nd rfl (Or.inl rfl) (pe_op op_mod (pe_callTy call_int1 (by rfl) T.zint (by decide +kernel) (pa_cons (pe_dget hu (pv 0) pe_str (fun _ _ => rfl)) pa_nil)) (pv 1)))
    (pss_cons (ps_dput hu (pv 0) pe_str (pe_op op_fdiv (pe_callTy call_int1 (by rfl) T.zint (by decide +kernel) (pa_cons (pe_dget hu (pv 0) pe_str (fun _ _ => rfl)) pa_nil)) (pv 1)) rfl)
    (pss_one (ps_ret (pv 2)))))), ?_⟩
    refine ⟨_, rfl, _, _, rfl, DGet.k (k := Sum.inr "rest") dr.hd, rfl, _, rfl, ?_⟩
    have fin : ∀ r' ls' cs' t' H', DrAt D H' ls' cs' r' t' → Kp D H H' → tSeq (tAsg (tOp (rI (fun _ j => 0 < j) fun i j => .int (i % j)) (tCB (fun xs H Q => (∃ i, xs = [.int i] ∧ Q (.int i) H) ∨ ∃ k, xs = [.bl k] ∧ Q (.int (if k then 1 else 0)) H) (tCons (tDGet (tVar 0) (tC (.str "rest"))) tNil)) (tVar 1)) (gName 2))
        (tSeq (sDPut (tVar 0) (tC (.str "rest")) (tOp (rI CDiv fun i j => .int (i / j)) (tCB (fun xs H Q => (∃ i, xs = [.int i] ∧ Q (.int i) H) ∨ ∃ k, xs = [.bl k] ∧ Q (.int (if k then 1 else 0)) H) (tCons (tDGet (tVar 0) (tC (.str "rest"))) tNil)) (tVar 1))) (tRet (tVar 2))) { nx := fun _ H' => Q .non H', rt := Q } [some (.ref D.d), some (.int m), none] H' := by
      intro r' ls' cs' t' H' d' k'
      refine ⟨_, rfl, _, _, rfl, DGet.k (k := Sum.inr "rest") d'.hd, .inl ⟨_, rfl, _, rfl, _, _, rfl, rfl, m0, ?_⟩⟩
      refine ⟨_, rfl, _, _, rfl, DGet.k (k := Sum.inr "rest") d'.hd, .inl ⟨_, rfl, _, rfl, _, _, rfl, rfl, ⟨m0, m1⟩, _, rfl, _, _, rfl, DPut.k (k := Sum.inr "rest") d'.hd (small1000 (by show 4 ≤ 1000; decide)), ?_⟩⟩
      refine ⟨_, rfl, k _ _ (Int.emod_nonneg _ (by omega)) (Int.emod_lt_of_pos _ m0) ⟨ls', cs', r' / m, t', ?_⟩ (k'.trans ?_)⟩
      · exact d'.put
      · exact Kp.put
    refine ite2 (fun _ => ?_) (fun _ => fin r ls cs t H dr Kp.refl)
    refine ⟨_, rfl, _, _, rfl, DGet.k (k := Sum.inr "large") dr.hd, (by show 0 ≤ sizeLine; decide), fun p hp => ?_⟩
    have dr1 := dr.new (o := .lst []) hp
    have k1 : Kp D H (upd H p (.lst [])) := Kp.new hp
    refine ⟨_, _, .lst (SqL.of dr1.hl) (dpAll_ints _ ls), .lst (SqL.of upd_same) .nil, shapedAll_ints ls, rfl, _, rfl, ?_⟩
    rw [eqv_nil]
    cases ls with
    | nil =>
      refine iteF ?_
      refine ⟨_, rfl, D, rfl, ⟨_, _, _, _, dr1⟩, fun z H2 ⟨ls2, cs2, r2, t2, d2⟩ k2 => ?_⟩
      refine ⟨_, rfl, _, _, rfl, DPut.k (k := Sum.inr "rest") d2.hd (small1000 (by show 4 ≤ 1000; decide)), ?_⟩
      exact fin z ls2 cs2 t2 _ (d2.put : DrAt D (upd H2 D.d (.dK (drK D z t2))) ls2 cs2 z t2) ((k1.trans k2).trans Kp.put)
    | cons a l =>
      refine iteT ?_
      refine ⟨_, rfl, _, _, rfl, DGet.k (k := Sum.inr "large") dr1.hd, .inl ⟨rfl, _, SqL.of dr1.hl⟩, D.l, _, 0, 0, _, rfl, rfl, dr1.hl, by decide, by decide, by simp [seqIndex?], rfl, ?_⟩
      have d2 : DrAt D (upd (upd H p (.lst [])) D.l (.lst (l.map V.int))) l cs r t := dr1.pop (Nat.le_trans (Nat.le_succ _) dr.nl)
      refine ⟨_, rfl, _, _, rfl, DPut.k (k := Sum.inr "rest") d2.hd (small1000 (by show 4 ≤ 1000; decide)), ?_⟩
      exact fin a l cs t _ (d2.put : DrAt D (upd _ D.d (.dK (drK D a t))) l cs a t) ((k1.trans Kp.putl).trans Kp.put)
def spPick (K : PySem.W.Frag) : Sp := fun vs H Q _ => ∃ (D : Dw) (p : Addr) (xs : List V), vs = [.ref D.d, .ref p] ∧ (SqL K H p xs ∨ SqT K H p xs) ∧ p ≠ D.l ∧ xs ≠ [] ∧ xs.length < 1073741824 ∧ DrOk D H ∧
  ∀ (i : Nat) x H', xs[i]? = some x → DrOk D H' → Kp D H H' → Q x H'
theorem Kp.seqL {D : Dw} {H H' : Hp} {p : Addr} {xs : List V} (k : Kp D H H') (dr : DrOk D H) (n : p ≠ D.l) (h : SqL K H p xs) : SqL K H' p xs := by
  obtain ⟨ls, cs, r, t, d⟩ := dr
  rcases h with (h | ⟨o, h⟩) | h
  · exact .inl (.inl (k _ _ h (d.dne h fun _ z => nomatch z) n))
  · exact .inl (.inr ⟨o, k _ _ h (d.dne h fun _ z => nomatch z) n⟩)
  · exact .inr h
theorem Kp.seqT {D : Dw} {H H' : Hp} {p : Addr} {xs : List V} (k : Kp D H H') (dr : DrOk D H) (h : SqT K H p xs) : SqT K H' p xs := by
  obtain ⟨ls, cs, r, t, d⟩ := dr
  rcases h with (h | ⟨o, h⟩) | h
  · exact .inl (.inl (k _ _ h (d.dne h fun _ z => nomatch z) (d.lne h fun _ z => nomatch z)))
  · exact .inl (.inr ⟨o, k _ _ h (d.dne h fun _ z => nomatch z) (d.lne h fun _ z => nomatch z)⟩)
  · exact .inr h
theorem ok_l_pick (T : Txt K mg) : FnOk P w K mg base CX0 3 T.l_pick.a T.l_pick.fd ["draw", "some"] (spPick K) := by
  refine T.l_pick.F.ok sc_l_pick (fun vs H Q E h => ?_) (fun cdv A outer s H vs Q E hr h => ?_)
  · obtain ⟨D, p, xs, rfl, _⟩ := h
    rfl
  · obtain ⟨D, p, xs, rfl, hs, np, ne, ln, dr, k⟩ := h
    have hu := hu_of hr
    have nd := sc_l_pick.nd
    refine ⟨_, (pss_one (ps_ret (pe_ix (IxR.or ix_list ix_tup) (pv 1) (pe_call (ok_l_take T) (hr.mono (by decide)) (by rfl) T.l_take.g T.l_take.k T.l_take.b .nil pass0 (pa_cons (pv 0) (pa_cons (pe_callB call_len_seq (by rfl) T.zlen (by decide +kernel) (pa_cons (pv 1) pa_nil)) pa_nil))) (fun _ _ => rfl)))), ?_⟩
    have l0 : 0 < xs.length := List.length_pos_iff.mpr ne
    refine ⟨_, rfl, _, rfl, _, rfl, p, xs, rfl, hs, D, (xs.length : Int), rfl, by omega, by omega, dr, fun n H' n0 n1 dr' k' => ?_⟩
    obtain ⟨m, rfl⟩ := Int.eq_ofNat_of_zero_le n0
    have hn : m < xs.length := by omega
    have hat : atI xs (m : Int) = some xs[m] := atI_nat (List.getElem?_eq_getElem hn)
    have fin : Q xs[m] H' := k m _ H' (List.getElem?_eq_getElem hn) dr' k'
    rcases hs with hs | hs
    · exact .inl ⟨p, xs, m, _, rfl, rfl, k'.seqL dr np hs, hat, fin⟩
    · exact .inr ⟨p, xs, m, _, rfl, rfl, k'.seqT dr hs, hat, fin⟩
def spBegun (K : PySem.W.Frag) : Sp := fun vs H Q _ => ∃ (a : Addr) (ns : List Int), vs = [.ref a] ∧ SqL K H a (ns.map V.int) ∧ ns.length ≤ 63 ∧ ∀ (D : Dw) H', DrOk D H' → Same H H' → Q (.ref D.d) H'
theorem ok_l_begun (T : Txt K mg) : FnOk P w K mg base CX0 1 T.l_begun.a T.l_begun.fd ["script"] (spBegun K) := by
  refine T.l_begun.F.ok sc_l_begun (fun vs H Q E h => ?_) (fun cdv A outer s H vs Q E hr h => ?_)
  · obtain ⟨a, ns, rfl, _⟩ := h
    rfl
  · obtain ⟨a, ns, rfl, hs, hl, k⟩ := h
    have hu := hu_of hr
    have nd := sc_l_begun.nd
    refine ⟨_, (pss_cons (ps_setLc (i := 1) (own := [("grain", 2)]) (g := gName 2) rfl nd rfl rfl (sw_true rfl rfl rfl (by decide +kernel)) (pi_list (pv 0)) (blkOk_by (own := [("grain", 2)]) (N := N_l_begun) (sc := defScope s_l_begun) (by decide +kernel)) (fun _ _ _ _ _ => pg_name (i := 2) nd rfl (Or.inl rfl)) (fun _ _ _ _ _ => pts_one (pt_cmpR op_ge (pe_callB call_abs (by rfl) T.zabs (by decide +kernel) (pa_cons (pv 2) pa_nil)) (pe_op op_pow pe_int pe_int) (nomark _))) (fun _ _ _ _ _ => (pe_op op_sub (pe_callB call_abs (by rfl) T.zabs (by decide +kernel) (pa_cons (pv 2) pa_nil)) (pe_op op_pow pe_int pe_int))))
    (pss_one (ps_ret (pe_disp (pps_cons pe_str (pv 1) (pps_cons pe_str pe_int (pps_cons pe_str (pe_lc (own := [("grain", 2)]) (g := gName 2) rfl nd (pi_list (pv 0)) (blkOk_by (own := [("grain", 2)]) (N := N_l_begun) (sc := defScope s_l_begun) (by decide +kernel)) (fun _ _ _ _ _ => pg_name (i := 2) nd rfl (Or.inl rfl)) (fun _ _ _ _ _ => pts_nil) (fun _ _ _ _ _ => (pe_callB call_abs (by rfl) T.zabs (by decide +kernel) (pa_cons (pv 2) pa_nil)))) (pps_cons pe_str pe_int pps_nil)))) (by rfl) (by rfl) (fun z => by cases z) (by decide))))), ?_⟩
    refine ⟨_, rfl, a, rfl, ⟨_, hs⟩, fun D1 hD1 => lc_list (K := K) (a := a) (xs := ns.map V.int) (fun i H' => ∃ ls : List Int, ls.length ≤ i ∧ H' D1 = some (.lst (ls.map V.int)) ∧ Same H H')
      ⟨[], Nat.le_refl _, upd_same, fun b o e => by rw [upd_ne (ne_of_none e hD1)]; exact e⟩ (fun i H' _ ⟨_, _, _, s⟩ => s.seq hs) ?_ ?_⟩
    · rintro i y H' hi ⟨ls, hls, h1, s1⟩
      obtain ⟨z, rfl, hz⟩ := ints_at hi
      have hi63 : i < ns.length := (List.getElem?_eq_some_iff.mp hz).1
      refine ⟨rfl, _, rfl, _, rfl, _, _, rfl, rfl, ⟨by decide, by decide, by decide⟩, _, _, rfl, rfl, _, rfl, ?_⟩
      refine ite2 (fun _ => ?_) (fun _ => ⟨ls, by omega, h1, s1⟩)
      refine ⟨_, rfl, _, rfl, _, _, rfl, rfl, ⟨by decide, by decide, by decide⟩, _, _, rfl, rfl, _, h1, ?_, ?_⟩
      · rw [List.length_map]
        exact small1000 (by omega)
      · refine ⟨ls ++ [(if z < 0 then -z else z) - 10 ^ (18 : Int).toNat], by rw [List.length_append]; show ls.length + 1 ≤ i + 1; omega, ?_, ?_⟩
        · rw [upd_same, List.map_append]
          rfl
        · intro b o e
          have e1 := s1 b o e
          rw [upd_ne (ne_of_none e hD1)]
          exact e1
    · rintro H1 ⟨ls, hls, h1, s1⟩
      rw [List.length_map] at hls
      refine fun p hp => ?_
      refine ⟨_, rfl, ?_⟩
      have s2 : Same H (upd H1 p (.dK [])) := fun b o e => by rw [upd_ne (ne_of_none (s1 b o e) hp)]; exact s1 b o e
      refine ⟨_, rfl, a, rfl, ⟨_, s2.seq hs⟩, fun D2 hD2 => lc_list (K := K) (a := a) (xs := ns.map V.int) (fun i H' => ∃ cs : List Int, cs.length ≤ i ∧ H' D2 = some (.lst (cs.map V.int)) ∧ Same (upd H1 p (.dK [])) H')
        ⟨[], Nat.le_refl _, upd_same, fun b o e => by rw [upd_ne (ne_of_none e hD2)]; exact e⟩ (fun i H' _ ⟨_, _, _, s⟩ => s.seq (s2.seq hs)) ?_ ?_⟩
      · rintro i y H' hi ⟨cs, hcs, h2, s3⟩
        obtain ⟨z, rfl, hz⟩ := ints_at hi
        have hi63 : i < ns.length := (List.getElem?_eq_some_iff.mp hz).1
        refine ⟨rfl, yes_t ?_⟩
        refine ⟨_, rfl, _, rfl, _, h2, by rw [List.length_map]; exact small1000 (by omega), ?_⟩
        refine ⟨cs ++ [if z < 0 then -z else z], by rw [List.length_append]; show cs.length + 1 ≤ i + 1; omega, ?_, ?_⟩
        · rw [upd_same, List.map_append]
          rfl
        · intro b o e
          rw [upd_ne (ne_of_none e hD2)]
          exact s3 b o e
      · rintro H2 ⟨cs, hcs, h2, s3⟩
        rw [List.length_map] at hcs
        have hp2 : H2 p = some (.dK []) := s3 _ _ upd_same
        have nDp : D2 ≠ p := fun z => by rw [z, upd_same] at hD2; cases hD2
        have nD1p : D1 ≠ p := ne_of_none h1 hp
        have h12 : H2 D1 = some (.lst (ls.map V.int)) := s3 _ _ (by rw [upd_ne nD1p]; exact h1)
        have nD12 : D1 ≠ D2 := fun z => by
          rw [← z, upd_ne nD1p, h1] at hD2
          cases hD2
        refine ⟨hp2, drK ⟨p, D1, D2⟩ 0 0, rfl, by show 4 ≤ 15; decide, ?_⟩
        refine k ⟨p, D1, D2⟩ _ ⟨ls, cs, 0, 0, ⟨upd_same, by rw [upd_ne nD1p]; exact h12, by rw [upd_ne nDp]; exact h2, nD12, by omega, by omega⟩⟩ ?_
        intro b o e
        rw [upd_ne (ne_of_none (s1 b o e) hp)]
        exact s3 _ _ (s2 b o e)
end
end Tt
set_option maxRecDepth 100000
set_option maxHeartbeats 4000000
namespace Tt
open PySem L2
section
variable {P : Program} {w : World} {K : PySem.W.Frag} {mg : Str → Option Value} {base : Heap}
def Off (D : Dw) (b : Addr) : Prop := b ≠ D.d ∧ b ≠ D.l ∧ b ≠ D.c
theorem DrOk.off {D : Dw} {H : Hp} {b : Addr} (h : DrOk D H) (n : H b = none) : Off D b := by
  obtain ⟨ls, cs, r, t, d⟩ := h
  exact ⟨(ne_of_none d.hd n).symm, (ne_of_none d.hl n).symm, (ne_of_none d.hc n).symm⟩
theorem DrOk.new {D : Dw} {H : Hp} {p : Addr} {o : HO} (h : DrOk D H) (n : H p = none) : DrOk D (upd H p o) := by
  obtain ⟨ls, cs, r, t, d⟩ := h
  exact ⟨ls, cs, r, t, d.new n⟩
theorem DrOk.put {D : Dw} {H : Hp} {p : Addr} {o : HO} (h : DrOk D H) (n : Off D p) : DrOk D (upd H p o) := by
  obtain ⟨ls, cs, r, t, d⟩ := h
  exact ⟨ls, cs, r, t, ⟨by rw [upd_ne n.1.symm]; exact d.hd, by rw [upd_ne n.2.1.symm]; exact d.hl, by rw [upd_ne n.2.2.symm]; exact d.hc, d.ne, d.nl, d.nc⟩⟩
theorem DrOk.same {D : Dw} {H H' : Hp} (h : DrOk D H) (s : Same H H') : DrOk D H' := by
  obtain ⟨ls, cs, r, t, d⟩ := h
  exact ⟨ls, cs, r, t, d.same s⟩
theorem Kp.at {D : Dw} {H H' : Hp} {b : Addr} {o : HO} (k : Kp D H H') (n : Off D b) (h : H b = some o) : H' b = some o := k b o h n.1 n.2.1
theorem DrOk.tup {D : Dw} {H H' : Hp} {b : Addr} {xs : List V} (h : DrOk D H) (k : Kp D H H') (e : H b = some (.tup xs)) : H' b = some (.tup xs) := by
  obtain ⟨ls, cs, r, t, d⟩ := h
  exact k b _ e (d.dne e fun _ z => nomatch z) (d.lne e fun _ z => nomatch z)
theorem perm_erase : ∀ {l : List Int} {i : Nat} {a : Int}, l[i]? = some a → (a :: l.eraseIdx i).Perm l
  | [], _, _, h => by simp at h
  | b :: l, 0, a, h => by
    have e : b = a := by simpa using h
    subst e
    exact List.Perm.refl _
  | b :: l, i + 1, a, h => by
    have h' : l[i]? = some a := by simpa using h
    rw [List.eraseIdx_cons_succ]
    exact (List.Perm.swap b a _).trans ((perm_erase h').cons b)
theorem eraseIdx_mapI : ∀ (l : List Int) (i : Nat), (l.map V.int).eraseIdx i = (l.eraseIdx i).map V.int
  | [], _ => rfl
  | _ :: _, 0 => rfl
  | a :: l, i + 1 => by
    rw [List.map_cons, List.eraseIdx_cons_succ, eraseIdx_mapI l i, List.eraseIdx_cons_succ, List.map_cons]
def spMate : Sp := fun vs H Q _ => ∃ x : Int, vs = [.int x] ∧ Q (.int (Wd.mate x)) H
theorem ok_l_mate (T : Txt K mg) : FnOk P w K mg base CX0 1 T.l_mate.a T.l_mate.fd ["end"] spMate := by
  refine T.l_mate.F.ok sc_l_mate (fun vs H Q E h => ?_) (fun cdv A outer s H vs Q E hr h => ?_)
  · obtain ⟨x, rfl, _⟩ := h
    rfl
  · obtain ⟨x, rfl, k⟩ := h
    have nd := sc_l_mate.nd
    refine ⟨_, (pss_one (ps_ret (pe_ifExp (pt_cmpR op_eq (pe_op op_mod (pe_callTy call_int1 (by rfl) T.zint (by decide +kernel) (pa_cons (pv 0) pa_nil)) pe_int) pe_int (nomark _)) (pe_op op_add (pv 0) pe_int) (pe_op op_sub (pv 0) pe_int)))), ?_⟩
    refine ⟨_, rfl, .inl ⟨_, rfl, _, _, rfl, rfl, (by show (0 : Int) < 2; decide), rfl, _, rfl, ?_⟩⟩
    refine ite2 (fun c => ?_) (fun c => ?_)
    · have c' : x % 2 = 0 := by simpa using c
      refine ⟨_, rfl, _, _, rfl, rfl, ?_⟩
      have e : Wd.mate x = x + 1 := by unfold Wd.mate; rw [if_pos c']
      rw [e] at k
      exact k
    · have c' : ¬ x % 2 = 0 := by simpa using c
      refine ⟨_, rfl, _, _, rfl, rfl, ?_⟩
      have e : Wd.mate x = x - 1 := by unfold Wd.mate; rw [if_neg c']
      rw [e] at k
      exact k
theorem eqv_list_nil (H : Hp) : ∀ {xs : List V} {ds : List PyData}, DpAll K H xs ds → (PyData.eqv (.list ds) (.list []) = decide (xs = []))
  | [], _, .nil => rfl
  | _ :: _, _, .cons _ _ => by simp [PyData.eqv] <;> rfl
def spShuf (K : PySem.W.Frag) : Sp := fun vs H Q _ => ∃ (D : Dw) (p : Addr) (ns : List Int), vs = [.ref D.d, .ref p] ∧ (SqL K H p (ns.map V.int) ∨ SqT K H p (ns.map V.int)) ∧ ns.length ≤ 1000 ∧ DrOk D H ∧
  ∀ (ns' : List Int) q H', ns'.Perm ns → DrOk D H' → Kp D H H' → H q = none → H' q = some (.lst (ns'.map V.int)) → Q (.ref q) H'
theorem ok_l_shuffled (T : Txt K mg) : FnOk P w K mg base CX0 3 T.l_shuffled.a T.l_shuffled.fd ["draw", "some"] (spShuf K) := by
  refine T.l_shuffled.F.ok sc_l_shuffled (fun vs H Q E h => ?_) (fun cdv A outer s H vs Q E hr h => ?_)
  · obtain ⟨D, p, ns, rfl, _⟩ := h
    rfl
  · obtain ⟨D, p, ns, rfl, hs, hl, dr, k⟩ := h
    have hu := hu_of hr
    have nd := sc_l_shuffled.nd
    refine ⟨_, (pss_cons (ps_par (i := 2) (j := 3) rfl nd rfl rfl (by decide) rfl rfl (pa_cons (pe_callTy call_list_of (by rfl) T.zlist (by decide +kernel) (pa_cons (pv 1) pa_nil)) (pa_cons (pe_lst pa_nil) pa_nil)) rfl)
    (pss_cons (ps_while PassesOwn.never (pt_cmpR (op_neD hr.units) (pv 2) (pe_lst pa_nil) (nomark _))
      (pss_one (ps_expr (pe_bm PySem.F.plainAttrs_list PySem.F.slot_list_append PySem.F.type_list_append mt_append (pv 3) (pa_cons (pe_bm PySem.F.plainAttrs_list PySem.F.slot_list_pop PySem.F.type_list_pop mt_popAt (pv 2) (pa_cons (pe_call (ok_l_take T) (hr.mono (by decide)) (by rfl) T.l_take.g T.l_take.k T.l_take.b .nil pass0 (pa_cons (pv 0) (pa_cons (pe_callB call_len_seq (by rfl) T.zlen (by decide +kernel) (pa_cons (pv 2) pa_nil)) pa_nil))) pa_nil)) pa_nil)))))
    (pss_one (ps_ret (pv 3))))), ?_⟩
    refine ⟨_, rfl, p, _, rfl, hs, fun l hl0 => ⟨(by show 0 ≤ sizeLine; decide), fun q hq => ⟨_, _, rfl, ?_⟩⟩⟩
    have d1 := (dr.new (o := .lst (ns.map V.int)) hl0).new (o := .lst []) hq
    have k1 : Kp D H (upd (upd H l (.lst (ns.map V.int))) q (.lst [])) := (Kp.new hl0).trans (Kp.new hq)
    have nlq : l ≠ q := ne_of_none upd_same hq
    have nl : Off D l := dr.off hl0
    have nq : Off D q := (dr.new (o := .lst (ns.map V.int)) hl0).off hq
    have hqH : H q = none := by rw [upd_ne nlq.symm] at hq; exact hq
    have a1 : (upd (upd H l (.lst (ns.map V.int))) q (.lst [])) l = some (.lst (ns.map V.int)) := by rw [upd_ne nlq]; exact upd_same
    have a2 : (upd (upd H l (.lst (ns.map V.int))) q (.lst [])) q = some (.lst []) := upd_same
    generalize upd (upd H l (.lst (ns.map V.int))) q (.lst []) = H1 at d1 k1 a1 a2
    refine while_by (fun σ H' => ∃ (le fo : List Int), σ = [some (.ref D.d), some (.ref p), some (.ref l), some (.ref q)] ∧ H' l = some (.lst (le.map V.int)) ∧ H' q = some (.lst (fo.map V.int)) ∧ (fo ++ le).Perm ns ∧ DrOk D H' ∧ Kp D H H')
      (fun σ H' => match H' l with | some (.lst xs) => xs.length | _ => 0) ⟨ns, [], rfl, a1, a2, List.Perm.refl _, d1, k1⟩ ?_ ?_
    · rintro σ H' ⟨le, fo, rfl, h1, h2, pm, dr', k'⟩
      have hlen : fo.length + le.length = ns.length := by rw [← pm.length_eq, List.length_append]
      refine ⟨_, rfl, (by show 0 ≤ sizeLine; decide), fun e he => ?_⟩
      have e1 : (upd H' e (.lst [])) l = some (.lst (le.map V.int)) := by rw [upd_ne (ne_of_none h1 he)]; exact h1
      have e2 : (upd H' e (.lst [])) q = some (.lst (fo.map V.int)) := by rw [upd_ne (ne_of_none h2 he)]; exact h2
      have d2 : DrOk D (upd H' e (.lst [])) := dr'.new he
      have k2 : Kp D H (upd H' e (.lst [])) := k'.trans (Kp.new he)
      refine ⟨_, _, .lst (SqL.of e1) (dpAll_ints _ le), .lst (SqL.of upd_same) .nil, shapedAll_ints le, rfl, _, rfl, ?_⟩
      rw [eqv_nil]
      refine ite2 (fun c => ?_) (fun c => ?_)
      · have hne : le ≠ [] := by simpa using c
        have l0 : 0 < le.length := List.length_pos_iff.mpr hne
        refine ⟨_, rfl, .inl ⟨rfl, _, SqL.of e2⟩, _, rfl, .inl ⟨rfl, _, SqL.of e1⟩, _, rfl, _, rfl, l, _, rfl, .inl (SqL.of e1), D, _, rfl, ?_⟩
        rw [List.length_map]
        refine ⟨by omega, by omega, d2, fun n H3 n0 n1 d3 k3 => ?_⟩
        obtain ⟨m, rfl⟩ := Int.eq_ofNat_of_zero_le n0
        have hm : m < le.length := by omega
        have f1 : H3 l = some (.lst (le.map V.int)) := k3.at nl e1
        have f2 : H3 q = some (.lst (fo.map V.int)) := k3.at nq e2
        refine ⟨l, _, _, m, V.int le[m], rfl, rfl, f1, by omega, by omega, ?_, ?_, ?_⟩
        · rw [List.length_map]
          have e0 : ¬ ((m : Int) < 0) := by omega
          simp [seqIndex?, e0, hm]
        · rw [List.getElem?_map, List.getElem?_eq_getElem hm]
          rfl
        · have nlq' : q ≠ l := nlq.symm
          have g2 : (upd H3 l (.lst ((le.map V.int).eraseIdx m))) q = some (.lst (fo.map V.int)) := by rw [upd_ne nlq']; exact f2
          refine ⟨q, _, _, rfl, rfl, g2, by rw [List.length_map]; exact small1000 (by omega), ?_⟩
          have ee : (le.map V.int).eraseIdx m = (le.eraseIdx m).map V.int := eraseIdx_mapI le m
          refine ⟨⟨le.eraseIdx m, fo ++ [le[m]], rfl, ?_, ?_, ?_, ?_, ?_⟩, ?_⟩
          · rw [upd_ne nlq, upd_same, ee]
          · rw [upd_same, List.map_append]
            rfl
          · refine List.Perm.trans ?_ pm
            rw [List.append_assoc]
            exact (perm_erase (List.getElem?_eq_getElem hm)).append_left fo
          · exact (d3.put nl).put nq
          · intro b o hb n1 n2
            have hbl : b ≠ l := ne_of_none hb hl0
            have hbq : b ≠ q := ne_of_none hb hqH
            rw [upd_ne hbq, upd_ne hbl]
            exact k3 _ _ (k2 _ _ hb n1 n2) n1 n2
          · show (match (upd (upd H3 l _) q _) l with | some (.lst xs) => xs.length | _ => 0) < (match H' l with | some (.lst xs) => xs.length | _ => 0)
            rw [upd_ne nlq, upd_same, h1, ee]
            show ((le.eraseIdx m).map V.int).length < (le.map V.int).length
            rw [List.length_map, List.length_map, List.length_eraseIdx_of_lt hm]
            omega
      · have hne : le = [] := by simpa using c
        subst hne
        refine ⟨_, rfl, ?_⟩
        rw [List.append_nil] at pm
        exact k fo q _ pm d2 k2 hqH e2
    · rintro σ H Q Q' hq ⟨v, h1, h2, h3⟩
      exact ⟨v, h1, h2, fun p hp => by obtain ⟨d, e, a1, a2, a3, a4, b, eb, h⟩ := h3 p hp; exact ⟨d, e, a1, a2, a3, a4, b, eb, hq _ _ h⟩⟩
end
end Tt
set_option maxRecDepth 100000
set_option maxHeartbeats 4000000
namespace Tt
open PySem L2
section
variable {P : Program} {w : World} {K : PySem.W.Frag} {mg : Str → Option Value} {base : Heap}
theorem xor_mate {x : Int} (h0 : 0 ≤ x) (h1 : x < 12) : Builtin.bitXor x 1 = Wd.mate x := by
  have h : ∀ n : Fin 12, Builtin.bitXor ((n.val : Nat) : Int) 1 = Wd.mate ((n.val : Nat) : Int) := by decide
  obtain ⟨n, rfl⟩ := Int.eq_ofNat_of_zero_le h0
  exact h ⟨n, by omega⟩
theorem same_new {H : Hp} {p : Addr} {o : HO} (n : H p = none) : Same H (upd H p o) := fun b u e => by
  rw [upd_ne (ne_of_none e n)]
  exact e
theorem ints_get {st : List Int} {i : Nat} {a : Int} (h : st[i]? = some a) : (st.map V.int)[i]? = some (V.int a) := by rw [List.getElem?_map, h]; rfl
theorem atI_last {st : List Int} (h : st ≠ []) : ∃ a, st.getLast? = some a ∧ atI (st.map V.int) (-1) = some (V.int a) := by
  have l0 : 0 < st.length := List.length_pos_iff.mpr h
  have hl : st.length - 1 < st.length := by omega
  refine ⟨st[st.length - 1], by rw [List.getLast?_eq_getElem?, List.getElem?_eq_getElem hl], ?_⟩
  unfold atI
  have e : ixN (st.map V.int).length (-1) = some (st.length - 1) := by
    rw [List.length_map]
    unfold ixN
    simp
    omega
  rw [e]
  exact ints_get (List.getElem?_eq_getElem hl)
def spFreed (K : PySem.W.Frag) : Sp := fun vs H Q _ => ∃ (p : Addr) (ns : List Int), vs = [.ref p] ∧ SqT K H p (ns.map V.int) ∧ ns.length ≤ 500 ∧ (∀ x ∈ ns, 0 ≤ x ∧ x < 12) ∧
  ∀ q H', Same H H' → H' q = some (.tup ((Wd.freed ns).map V.int)) → Q (.ref q) H'
theorem same_seqT {K : PySem.W.Frag} {H H' : Hp} {a : Addr} {xs : List V} (e : Same H H') (h : SqT K H a xs) : SqT K H' a xs := by
  rcases h with (h | ⟨o, h⟩) | h
  · exact .inl (.inl (e _ _ h))
  · exact .inl (.inr ⟨o, e _ _ h⟩)
  · exact .inr h
theorem ok_l_freed (T : Txt K mg) : FnOk P w K mg base CX0 2 T.l_freed.a T.l_freed.fd ["word_here"] (spFreed K) := by
  refine T.l_freed.F.ok sc_l_freed (fun vs H Q E h => ?_) (fun cdv A outer s H vs Q E hr h => ?_)
  · obtain ⟨p, ns, rfl, _⟩ := h
    rfl
  · obtain ⟨p, ns, rfl, hs, hl, hb, k⟩ := h
    have nd := sc_l_freed.nd
    refine ⟨_, (pss_cons (ps_set (i := 1) nd rfl (Or.inl rfl) (pe_lst pa_nil))
    (pss_cons (ps_for PassesOwn.never rfl (pi_tup (pv 0)) (pg_name (i := 2) nd rfl (Or.inl rfl))
      (pss_one (ps_if (PW.pt (pw_and (pt_cmpR (op_neD hr.units) (pv 1) (pe_lst pa_nil) (nomark _)) (pw_and1 (pt_cmpR op_eq (pe_ix ix_list (pv 1) (pe_un un_neg pe_int) (fun _ _ => rfl)) (pe_call (ok_l_mate T) (hr.mono (by decide)) (by rfl) T.l_mate.g T.l_mate.k T.l_mate.b .nil pass0 (pa_cons (pv 2) pa_nil)) (nomark _)))))
        (pss_one (ps_expr (pe_bm0 PySem.F.plainAttrs_list PySem.F.slot_list_pop PySem.F.type_list_pop mt_pop (pv 1))))
        (pss_one (ps_expr (pe_bm PySem.F.plainAttrs_list PySem.F.slot_list_append PySem.F.type_list_append mt_append (pv 1) (pa_cons (pv 2) pa_nil)))))))
    (pss_one (ps_ret (pe_callTy call_tuple_of (by rfl) T.ztuple (by decide +kernel) (pa_cons (pv 1) pa_nil)))))), ?_⟩
    refine ⟨(by show 0 ≤ sizeLine; decide), fun f hf => ?_⟩
    have s1 : Same H (upd H f (.lst [])) := same_new hf
    refine ⟨_, rfl, p, rfl, ⟨_, same_seqT s1 hs⟩, ?_⟩
    refine for_tup (K := K) (a := p) (xs := ns.map V.int) (fun i σ H' => ∃ v2, σ = [some (.ref p), some (.ref f), v2] ∧ Same H H' ∧ H' f = some (.lst ((Wd.freed (ns.take i)).map V.int)))
      ⟨_, rfl, s1, upd_same⟩ (fun i σ H' _ ⟨_, _, s, _⟩ => same_seqT s hs) ?_ ?_
    · rintro i y σ H' hi ⟨v2, rfl, s2, h2⟩
      obtain ⟨x, rfl, hx⟩ := ints_at hi
      have hil : i < ns.length := (List.getElem?_eq_some_iff.mp hx).1
      have hxm : x ∈ ns := List.mem_of_getElem? hx
      have ht : ns.take (i + 1) = ns.take i ++ [x] := by rw [List.take_add_one, hx]; rfl
      have hsz : (Wd.freed (ns.take i)).length ≤ 500 := Nat.le_trans (Wd.len_freed _) (by rw [List.length_take]; omega)
      refine ⟨_, rfl, (by show 0 ≤ sizeLine; decide), fun e he => ?_⟩
      have e1 : (upd H' e (.lst [])) f = some (.lst ((Wd.freed (ns.take i)).map V.int)) := by rw [upd_ne (ne_of_none h2 he)]; exact h2
      have s3 : Same H (upd H' e (.lst [])) := s2.trans (same_new he)
      refine ⟨_, _, .lst (SqL.of e1) (dpAll_ints _ _), .lst (SqL.of upd_same) .nil, shapedAll_ints _, rfl, _, rfl, ?_⟩
      rw [eqv_nil]
      have grow : ¬ (Wd.freed (ns.take i)).getLast? = some (Wd.mate x) → Same H (upd (upd H' e (.lst [])) f (.lst ((Wd.freed (ns.take i)).map V.int ++ [V.int x]))) ∧ (upd (upd H' e (.lst [])) f (.lst ((Wd.freed (ns.take i)).map V.int ++ [V.int x]))) f = some (.lst ((Wd.freed (ns.take (i + 1))).map V.int)) := fun hn => by
        refine ⟨fun b o hb => ?_, ?_⟩
        · rw [upd_ne (ne_of_none hb hf)]
          exact s3 b o hb
        · rw [upd_same, ht, Wd.freed_snoc]
          unfold Wd.push
          rw [if_neg hn, List.map_append]
          rfl
      refine ite2 (fun c => ?_) (fun c => ?_)
      · have hne : Wd.freed (ns.take i) ≠ [] := by simpa using c
        obtain ⟨a, ha, hat⟩ := atI_last hne
        refine ⟨_, rfl, _, rfl, f, _, _, _, rfl, rfl, SqL.of e1, hat, ?_⟩
        refine ⟨_, rfl, x, rfl, rfl, _, rfl, ?_⟩
        refine ite2 (fun c2 => ?_) (fun c2 => ?_)
        · have hax : a = Wd.mate x := by simpa using c2
          refine ⟨_, rfl, .inl ⟨rfl, _, SqL.of e1⟩, f, _, V.int a, rfl, rfl, e1, ?_, ?_⟩
          · rw [List.length_map]
            exact ints_get (Wd.last_get.mp ha).2
          · refine ⟨_, rfl, fun b o hb => ?_, ?_⟩
            · rw [upd_ne (ne_of_none hb hf)]
              exact s3 b o hb
            · rw [upd_same, ht, Wd.freed_snoc]
              unfold Wd.push
              rw [if_pos (by rw [ha, hax]), List.map_dropLast]
        · have hax : ¬ a = Wd.mate x := by simpa using c2
          refine ⟨_, rfl, .inl ⟨rfl, _, SqL.of e1⟩, _, rfl, f, _, _, rfl, rfl, e1, by rw [List.length_map]; exact small1000 (by omega), ?_⟩
          exact ⟨_, rfl, grow (by rw [ha]; intro z; exact hax (Option.some.inj z))⟩
      · have hne : Wd.freed (ns.take i) = [] := by simpa using c
        refine ite2 (fun z => absurd z Bool.false_ne_true) (fun _ => ?_)
        refine ⟨_, rfl, .inl ⟨rfl, _, SqL.of e1⟩, _, rfl, f, _, _, rfl, rfl, e1, by rw [List.length_map]; exact small1000 (by omega), ?_⟩
        exact ⟨_, rfl, grow (by rw [hne]; intro z; cases z)⟩
    · rintro σ H' ⟨v2, rfl, s2, h2⟩
      rw [List.length_map, List.take_length] at h2
      refine ⟨_, rfl, f, _, rfl, .inl ⟨SqL.of h2, fun q hq => ?_⟩⟩
      exact k q _ (s2.trans (same_new hq)) upd_same
end
end Tt
set_option maxRecDepth 100000
set_option maxHeartbeats 4000000
namespace Tt
open PySem L2
section
variable {P : Program} {w : World} {K : PySem.W.Frag} {mg : Str → Option Value} {base : Heap}
theorem ok_cut_free (T : Txt K mg) : FnOk P w K mg base CX0 2 T.cut_free.a T.cut_free.fd ["word"] (spFreed K) := by
  refine T.cut_free.F.ok sc_cut_free (fun vs H Q E h => ?_) (fun cdv A outer s H vs Q E hr h => ?_)
  · obtain ⟨p, ns, rfl, _⟩ := h
    rfl
  · obtain ⟨p, ns, rfl, hs, hl, hb, k⟩ := h
    have nd := sc_cut_free.nd
    refine ⟨_, (pss_cons (ps_set (i := 1) nd rfl (Or.inl rfl) (pe_lst pa_nil))
    (pss_cons (ps_for PassesOwn.never rfl (pi_tup (pv 0)) (pg_name (i := 2) nd rfl (Or.inl rfl))
      (pss_one (ps_if (PW.pt (pw_and (pt_truth (pv 1) (fun _ => rfl)) (pw_and1 (pt_cmpR op_eq (pe_ix ix_list (pv 1) (pe_un un_neg pe_int) (fun _ _ => rfl)) (pe_op op_xor (pv 2) pe_int) (nomark _)))))
        (pss_one (ps_expr (pe_bm0 PySem.F.plainAttrs_list PySem.F.slot_list_pop PySem.F.type_list_pop mt_pop (pv 1))))
        (pss_one (ps_expr (pe_bm PySem.F.plainAttrs_list PySem.F.slot_list_append PySem.F.type_list_append mt_append (pv 1) (pa_cons (pv 2) pa_nil)))))))
    (pss_one (ps_ret (pe_callTy call_tuple_of (by rfl) T.ztuple (by decide +kernel) (pa_cons (pv 1) pa_nil)))))), ?_⟩
    refine ⟨(by show 0 ≤ sizeLine; decide), fun f hf => ?_⟩
    have s1 : Same H (upd H f (.lst [])) := same_new hf
    refine ⟨_, rfl, p, rfl, ⟨_, same_seqT s1 hs⟩, ?_⟩
    refine for_tup (K := K) (a := p) (xs := ns.map V.int) (fun i σ H' => ∃ v2, σ = [some (.ref p), some (.ref f), v2] ∧ Same H H' ∧ H' f = some (.lst ((Wd.freed (ns.take i)).map V.int)))
      ⟨_, rfl, s1, upd_same⟩ (fun i σ H' _ ⟨_, _, s, _⟩ => same_seqT s hs) ?_ ?_
    · rintro i y σ H' hi ⟨v2, rfl, s3, e1⟩
      obtain ⟨x, rfl, hx⟩ := ints_at hi
      have hil : i < ns.length := (List.getElem?_eq_some_iff.mp hx).1
      have hxm : x ∈ ns := List.mem_of_getElem? hx
      have ht : ns.take (i + 1) = ns.take i ++ [x] := by rw [List.take_add_one, hx]; rfl
      have hsz : (Wd.freed (ns.take i)).length ≤ 500 := Nat.le_trans (Wd.len_freed _) (by rw [List.length_take]; omega)
      have grow : ¬ (Wd.freed (ns.take i)).getLast? = some (Wd.mate x) → Same H (upd H' f (.lst ((Wd.freed (ns.take i)).map V.int ++ [V.int x]))) ∧ (upd H' f (.lst ((Wd.freed (ns.take i)).map V.int ++ [V.int x]))) f = some (.lst ((Wd.freed (ns.take (i + 1))).map V.int)) := fun hn => by
        refine ⟨fun b o hb => ?_, ?_⟩
        · rw [upd_ne (ne_of_none hb hf)]
          exact s3 b o hb
        · rw [upd_same, ht, Wd.freed_snoc]
          unfold Wd.push
          rw [if_neg hn, List.map_append]
          rfl
      refine ⟨_, rfl, !((Wd.freed (ns.take i)).map V.int).isEmpty, .inl ⟨_, SqL.of e1, rfl⟩, ?_⟩
      refine ite2 (fun c => ?_) (fun c => ?_)
      · have hne : Wd.freed (ns.take i) ≠ [] := by simpa using c
        obtain ⟨a, ha, hat⟩ := atI_last hne
        refine ⟨_, rfl, _, rfl, f, _, _, _, rfl, rfl, SqL.of e1, hat, ?_⟩
        refine ⟨_, rfl, _, _, rfl, rfl, rfl, _, rfl, ?_⟩
        refine ite2 (fun c2 => ?_) (fun c2 => ?_)
        · have hax : a = Wd.mate x := by
            have c3 : decide (V.int a = V.int (Builtin.bitXor x 1)) = true := c2
            rw [xor_mate (hb x hxm).1 (hb x hxm).2] at c3
            simpa using c3
          refine ⟨_, rfl, .inl ⟨rfl, _, SqL.of e1⟩, f, _, V.int a, rfl, rfl, e1, ?_, ?_⟩
          · rw [List.length_map]
            exact ints_get (Wd.last_get.mp ha).2
          · refine ⟨_, rfl, fun b o hb => ?_, ?_⟩
            · rw [upd_ne (ne_of_none hb hf)]
              exact s3 b o hb
            · rw [upd_same, ht, Wd.freed_snoc]
              unfold Wd.push
              rw [if_pos (by rw [ha, hax]), List.map_dropLast]
        · have hax : ¬ a = Wd.mate x := by
            have c3 : ¬ decide (V.int a = V.int (Builtin.bitXor x 1)) = true := c2
            rw [xor_mate (hb x hxm).1 (hb x hxm).2] at c3
            simpa using c3
          refine ⟨_, rfl, .inl ⟨rfl, _, SqL.of e1⟩, _, rfl, f, _, _, rfl, rfl, e1, by rw [List.length_map]; exact small1000 (by omega), ?_⟩
          exact ⟨_, rfl, grow (by rw [ha]; intro z; exact hax (Option.some.inj z))⟩
      · have hne : Wd.freed (ns.take i) = [] := by simpa using c
        refine ite2 (fun z => absurd z Bool.false_ne_true) (fun _ => ?_)
        refine ⟨_, rfl, .inl ⟨rfl, _, SqL.of e1⟩, _, rfl, f, _, _, rfl, rfl, e1, by rw [List.length_map]; exact small1000 (by omega), ?_⟩
        exact ⟨_, rfl, grow (by rw [hne]; intro z; cases z)⟩
    · rintro σ H' ⟨v2, rfl, s2, h2⟩
      rw [List.length_map, List.take_length] at h2
      refine ⟨_, rfl, f, _, rfl, .inl ⟨SqL.of h2, fun q hq => ?_⟩⟩
      exact k q _ (s2.trans (same_new hq)) upd_same
def spUndo (K : PySem.W.Frag) : Sp := fun vs H Q _ => ∃ (p : Addr) (ns : List Int), vs = [.ref p] ∧ SqT K H p (ns.map V.int) ∧ ns.length ≤ 500 ∧ (∀ x ∈ ns, 0 ≤ x ∧ x < 12) ∧
  ∀ q H', Same H H' → H' q = some (.tup ((Wd.undo ns).map V.int)) → Q (.ref q) H'
theorem ok_l_undone (T : Txt K mg) : FnOk P w K mg base CX0 2 T.l_undone.a T.l_undone.fd ["word_here"] (spUndo K) := by
  refine T.l_undone.F.ok sc_l_undone (fun vs H Q E h => ?_) (fun cdv A outer s H vs Q E hr h => ?_)
  · obtain ⟨p, ns, rfl, _⟩ := h
    rfl
  · obtain ⟨p, ns, rfl, hs, hl, hb, k⟩ := h
    have nd := sc_l_undone.nd
    refine ⟨_, (pss_one (ps_ret (pe_callTy call_tuple_of (by rfl) T.ztuple (by decide +kernel) (pa_cons (pe_lc (own := [("letter", 1)]) (g := gName 1) rfl nd (pi_tup (pe_revT (pv 0))) (blkOk_by (own := [("letter", 1)]) (N := N_l_undone) (sc := defScope s_l_undone) (by decide +kernel)) (fun _ _ _ _ _ => pg_name (i := 1) nd rfl (Or.inl rfl)) (fun _ _ _ _ _ => pts_nil) (fun _ _ _ _ _ => (pe_call (ok_l_mate T) (hr.mono (by decide)) (by rfl) T.l_mate.g T.l_mate.k T.l_mate.b .nil pass0 (pa_cons (pv 1) pa_nil)))) pa_nil)))), ?_⟩
    refine ⟨_, rfl, p, _, rfl, hs, fun q hq => ?_⟩
    have s1 : Same H (upd H q (.tup (ns.map V.int).reverse)) := same_new hq
    have e1 : (upd H q (.tup (ns.map V.int).reverse)) q = some (.tup (ns.reverse.map V.int)) := by rw [upd_same, List.map_reverse]
    generalize upd H q (.tup (ns.map V.int).reverse) = H1 at s1 e1
    refine ⟨q, rfl, ⟨_, SqT.of e1⟩, fun D1 hD1 => lc_tup (K := K) (a := q) (xs := ns.reverse.map V.int) (fun i H' => H' D1 = some (.lst (((ns.reverse.take i).map Wd.mate).map V.int)) ∧ Same H1 H')
      ⟨upd_same, same_new hD1⟩ (fun i H' _ z => SqT.of (z.2 _ _ e1)) ?_ ?_⟩
    · rintro i y H' hi ⟨h1, s2⟩
      obtain ⟨x, rfl, hx⟩ := ints_at hi
      have hil : i < ns.reverse.length := (List.getElem?_eq_some_iff.mp hx).1
      rw [List.length_reverse] at hil
      have ht : ns.reverse.take (i + 1) = ns.reverse.take i ++ [x] := by rw [List.take_add_one, hx]; rfl
      refine ⟨rfl, yes_t ?_⟩
      refine ⟨_, rfl, x, rfl, _, h1, ?_, ?_⟩
      · rw [List.length_map, List.length_map, List.length_take]
        exact small1000 (by omega)
      · refine ⟨?_, fun b o hb => ?_⟩
        · rw [upd_same, ht, List.map_append, List.map_append]
          rfl
        · rw [upd_ne (ne_of_none hb hD1)]
          exact s2 b o hb
    · rintro H' ⟨h1, s2⟩
      have e2 : ns.reverse.take (ns.reverse.map V.int).length = ns.reverse := by rw [List.length_map, List.take_length]
      rw [e2] at h1
      refine ⟨D1, _, rfl, .inl ⟨SqL.of h1, fun l hl => ?_⟩⟩
      exact k l _ ((s1.trans s2).trans (same_new hl)) upd_same
theorem ok_gone_back (T : Txt K mg) : FnOk P w K mg base CX0 2 T.gone_back.a T.gone_back.fd ["word"] (spUndo K) := by
  refine T.gone_back.F.ok sc_gone_back (fun vs H Q E h => ?_) (fun cdv A outer s H vs Q E hr h => ?_)
  · obtain ⟨p, ns, rfl, _⟩ := h
    rfl
  · obtain ⟨p, ns, rfl, hs, hl, hb, k⟩ := h
    have nd := sc_gone_back.nd
    refine ⟨_, (pss_one (ps_ret (pe_callTy call_tuple_of (by rfl) T.ztuple (by decide +kernel) (pa_cons (pe_lc (own := [("letter", 1)]) (g := gName 1) rfl nd (pi_tup (pe_revT (pv 0))) (blkOk_by (own := [("letter", 1)]) (N := N_gone_back) (sc := defScope s_gone_back) (by decide +kernel)) (fun _ _ _ _ _ => pg_name (i := 1) nd rfl (Or.inl rfl)) (fun _ _ _ _ _ => pts_nil) (fun _ _ _ _ _ => (pe_op op_xor (pv 1) pe_int))) pa_nil)))), ?_⟩
    refine ⟨_, rfl, p, _, rfl, hs, fun q hq => ?_⟩
    have s1 : Same H (upd H q (.tup (ns.map V.int).reverse)) := same_new hq
    have e1 : (upd H q (.tup (ns.map V.int).reverse)) q = some (.tup (ns.reverse.map V.int)) := by rw [upd_same, List.map_reverse]
    generalize upd H q (.tup (ns.map V.int).reverse) = H1 at s1 e1
    refine ⟨q, rfl, ⟨_, SqT.of e1⟩, fun D1 hD1 => lc_tup (K := K) (a := q) (xs := ns.reverse.map V.int) (fun i H' => H' D1 = some (.lst (((ns.reverse.take i).map Wd.mate).map V.int)) ∧ Same H1 H')
      ⟨upd_same, same_new hD1⟩ (fun i H' _ z => SqT.of (z.2 _ _ e1)) ?_ ?_⟩
    · rintro i y H' hi ⟨h1, s2⟩
      obtain ⟨x, rfl, hx⟩ := ints_at hi
      have hil : i < ns.reverse.length := (List.getElem?_eq_some_iff.mp hx).1
      have hxm : x ∈ ns := by
        have := List.mem_of_getElem? hx
        rwa [List.mem_reverse] at this
      rw [List.length_reverse] at hil
      have ht : ns.reverse.take (i + 1) = ns.reverse.take i ++ [x] := by rw [List.take_add_one, hx]; rfl
      refine ⟨rfl, yes_t ?_⟩
      refine ⟨_, rfl, _, _, rfl, rfl, ?_⟩
      refine ⟨_, h1, ?_, ?_⟩
      · rw [List.length_map, List.length_map, List.length_take]
        exact small1000 (by omega)
      · refine ⟨?_, fun b o hb => ?_⟩
        · rw [upd_same, ht, List.map_append, List.map_append]
          show some (HO.lst (_ ++ [V.int (Builtin.bitXor x 1)])) = _
          rw [xor_mate (hb x hxm).1 (hb x hxm).2]
          rfl
        · rw [upd_ne (ne_of_none hb hD1)]
          exact s2 b o hb
    · rintro H' ⟨h1, s2⟩
      have e2 : ns.reverse.take (ns.reverse.map V.int).length = ns.reverse := by rw [List.length_map, List.take_length]
      rw [e2] at h1
      refine ⟨D1, _, rfl, .inl ⟨SqL.of h1, fun l hl => ?_⟩⟩
      exact k l _ ((s1.trans s2).trans (same_new hl)) upd_same
def rgI (n : Nat) : List Int := (List.range n).map fun (i : Nat) => (i : Int)
theorem rgV_rgI {n : Int} (h : 0 ≤ n) : rgV 0 n = (rgI n.toNat).map V.int := by
  unfold rgV rgI
  rw [List.map_map, Int.sub_zero]
  exact List.map_congr_left fun a _ => by show V.int (0 + (a : Nat)) = _; rw [Int.zero_add]; rfl
theorem rgI_len (n : Nat) : (rgI n).length = n := by unfold rgI; rw [List.length_map, List.length_range]
def spRow (K : PySem.W.Frag) : Sp := fun vs H Q _ => ∃ (D : Dw) (m : Int), vs = [.ref D.d, .int m] ∧ 0 < m ∧ m ≤ 6 ∧ DrOk D H ∧
  ∀ (n : Nat) (row : List Int) q H', 1 ≤ n → (n : Int) ≤ m → row.Perm (rgI (2 * n)) → DrOk D H' → Kp D H H' → FzT H' q (row.map V.int) → Q (.ref q) H'
theorem ok_l_row (T : Txt K mg) : FnOk P w K mg base CX0 4 T.l_row.a T.l_row.fd ["draw", "most"] (spRow K) := by
  refine T.l_row.F.ok sc_l_row (fun vs H Q E h => ?_) (fun cdv A outer s H vs Q E hr h => ?_)
  · obtain ⟨D, m, rfl, _⟩ := h
    rfl
  · obtain ⟨D, m, rfl, m0, m6, dr, k⟩ := h
    have nd := sc_l_row.nd
    refine ⟨_, (pss_one (ps_ret (pe_callTy call_tuple_ofF (by rfl) T.ztuple (by decide +kernel) (pa_cons (pe_call (ok_l_shuffled T) (hr.mono (by decide)) (by rfl) T.l_shuffled.g T.l_shuffled.k T.l_shuffled.b .nil pass0 (pa_cons (pv 0) (pa_cons (pe_listRg rfl (by rfl) T.zlist (prg_1 (by rfl) T.zrange (pe_op op_add pe_int (pe_op op_mul pe_int (pe_call (ok_l_take T) (hr.mono (by decide)) (by rfl) T.l_take.g T.l_take.k T.l_take.b .nil pass0 (pa_cons (pv 0) (pa_cons (pv 1) pa_nil))))))) pa_nil))) pa_nil)))), ?_⟩
    refine ⟨_, rfl, _, rfl, _, rfl, D, m, rfl, m0, by omega, dr, fun n H1 n0 n1 d1 k1 => ?_⟩
    refine ⟨_, _, rfl, rfl, .inl ⟨by decide, by decide⟩, _, _, rfl, rfl, _, rfl, RgOk.of_le (by omega) (by omega) (by omega) (by omega), fun l hl => ?_⟩
    obtain ⟨j, rfl⟩ := Int.eq_ofNat_of_zero_le n0
    have ej : (2 + 2 * (j : Int)).toNat = 2 * (j + 1) := by omega
    rw [rgV_rgI (by omega), ej] 
    have d2 := d1.new (o := .lst ((rgI (2 * (j + 1))).map V.int)) hl
    refine ⟨D, l, rgI (2 * (j + 1)), rfl, .inl (SqL.of upd_same), by rw [rgI_len]; omega, d2, fun ns' q H3 pm d3 k3 hq h3 => ?_⟩
    refine ⟨q, _, rfl, .inl ⟨SqL.of h3, fun t ob ht hd => ?_⟩⟩
    exact k (j + 1) ns' t _ (by omega) (by omega) pm (d3.new ht) ((k1.trans (Kp.new hl)).trans (k3.trans (Kp.new ht))) (FzT.new hd)
end
end Tt
set_option maxRecDepth 100000
set_option maxHeartbeats 4000000
namespace Tt
open PySem L2
def lenAt (i : Nat) : L2.St → Hp → Nat := fun σ H' => match σ[i]? with
  | some (some (V.ref f)) => (match H' f with
    | some (HO.lst xs) => 1000 - xs.length
    | _ => 0)
  | _ => 0
theorem lenAt_of {i : Nat} {σ : L2.St} {H : Hp} {f : Addr} {xs : List V} (h : σ[i]? = some (some (.ref f))) (e : H f = some (.lst xs)) : lenAt i σ H = 1000 - xs.length := by
  unfold lenAt
  rw [h]
  show (match H f with | some (HO.lst xs) => 1000 - xs.length | _ => 0) = _
  rw [e]
def lenOf (i : Nat) : L2.St → Hp → Nat := fun σ H' => match σ[i]? with
  | some (some (V.ref f)) => (match H' f with
    | some (HO.lst xs) => xs.length
    | _ => 0)
  | _ => 0
theorem lenOf_of {i : Nat} {σ : L2.St} {H : Hp} {f : Addr} {xs : List V} (h : σ[i]? = some (some (.ref f))) (e : H f = some (.lst xs)) : lenOf i σ H = xs.length := by
  unfold lenOf
  rw [h]
  show (match H f with | some (HO.lst xs) => xs.length | _ => 0) = _
  rw [e]
theorem upk {H : Hp} {p b : Addr} {o u : HO} (n : H p = none) (h : H b = some o) : (upd H p u) b = some o := by
  rw [upd_ne (ne_of_none h n)]
  exact h
theorem cut_to (xs : List V) {n : Nat} (h : n ≤ xs.length) : cutV xs none (some (n : Int)) = xs.take n := by
  unfold cutV
  have e : HT.sIx xs.length xs.length (some (n : Int)) = n := by rw [HT.sIx_nat]; omega
  have e0 : HT.sIx xs.length 0 none = 0 := rfl
  rw [e, e0]
  simp
theorem cut_from (xs : List V) {n : Nat} : cutV xs (some (n : Int)) none = xs.drop n := by
  unfold cutV
  have e : HT.sIx xs.length 0 (some (n : Int)) = min n xs.length := HT.sIx_nat ..
  have e0 : HT.sIx xs.length xs.length none = xs.length := rfl
  rw [e, e0, List.take_of_length_le (by rw [List.length_drop]; omega)]
  by_cases h : n ≤ xs.length
  · rw [Nat.min_eq_left h]
  · rw [Nat.min_eq_right (by omega), List.drop_eq_nil_of_le (Nat.le_refl _), List.drop_eq_nil_of_le (by omega)]
section
variable {P : Program} {w : World} {K : PySem.W.Frag} {mg : Str → Option Value} {base : Heap}
def Lt (e : Int) (ns : List Int) : Prop := ∀ x ∈ ns, 0 ≤ x ∧ x < e
theorem Lt.app {e : Int} {a b : List Int} (ha : Lt e a) (hb : Lt e b) : Lt e (a ++ b) := fun x hx => (List.mem_append.mp hx).elim (ha x) (hb x)
theorem Lt.take {e : Int} {a : List Int} (ha : Lt e a) (n : Nat) : Lt e (a.take n) := fun x hx => ha x (List.mem_of_mem_take hx)
theorem Lt.drop {e : Int} {a : List Int} (ha : Lt e a) (n : Nat) : Lt e (a.drop n) := fun x hx => ha x (List.mem_of_mem_drop hx)
theorem Lt.undo {e : Int} {a : List Int} (ev : e % 2 = 0) (ha : Lt e a) : Lt e (Wd.undo a) := fun x hx => by
  unfold Wd.undo at hx
  obtain ⟨y, hy, rfl⟩ := List.mem_map.mp hx
  have h := ha y (by simpa using hy)
  have hb := Wd.mate_range (n := e / 2) h.1 (by omega)
  exact ⟨hb.1, by omega⟩
end
end Tt
set_option maxRecDepth 100000
set_option maxHeartbeats 4000000
namespace Tt
open PySem L2
open LamX (GivesToS CodeO)
def TTc (K : PySem.W.Frag) (RE : Addr) : (XK → Hp → VK → Prop) → Hp → VK → Prop := fun tl H Q =>
  tl (fun cls d H' => PySem.W.exmOne K cls (.ref RE) = some true ∧ ∀ a, H' a = none → Q (.ref a) (upd H' a (exh cls d a))) H (fun _ H' => Q .non H')
theorem caught_gives {X : Cx} {q : Str} {cdg : Value} {g RE : Addr} (hme : X.mg "RoundError" = some (.ref RE)) :
    GivesToS X N_l_caught "_law_caught" (defScope s_l_caught) g cdg (defBody s_l_caught) "work" q (TTc X.K RE) := by
  intro f c' s H Q tl act hc h
  have nd := sc_l_caught.nd
  refine ⟨_, pss_cons (ps_set (i := 1) nd rfl (Or.inl rfl) pe_non)
    (pss_cons (ps_try_keep (X := (cxOf C8.CX0 X.prog X.w X.K X.mg X.base N_l_caught "_law_caught" (defScope s_l_caught) g cdg X.A X.stack s H C8.E0).nox) (c := .ref RE) (i := 2)
      (tb := fun W D σ H => ∃ Ew : L2.St → XK, (∀ τ cls d H', Ew τ cls d H' → W cls d τ H') ∧ σ[0]? = some (some (.ref f)) ∧ H c' = some (CodeO c' q) ∧ tl (Ew σ) H (fun _ H' => D.nx σ H'))
      rfl rfl rfl nd rfl rfl ⟨rfl, by decide, .inl hme⟩ LamX.takes0 (fun W pn xe tk _ => ?_) (fun a oe cls d pn _ _ => pss_one (ps_set (i := 1) nd rfl (Or.inl rfl) (pv 2))))
    (pss_one (ps_ret (pv 1)))), ?_⟩
  · refine ⟨fun pins s' σ H' D I h' => ?_⟩
    obtain ⟨Ew, hW, h1, h2, h3⟩ := h'
    exact (pss_one (ps_expr (act W pn xe Ew _ _ tk hW))).run pins s' σ H' D I ⟨h1, h2, h3⟩
  · refine ⟨fun τ cls d H' => τ = [some (.ref f), some .non, none] ∧ PySem.W.exmOne X.K cls (.ref RE) = some true ∧ ∀ a, H' a = none → Q (.ref a) (upd H' a (exh cls d a)), ?_, rfl, hc, ?_⟩
    · rintro τ cls d H' ⟨rfl, h1, h2⟩
      refine ⟨true, h1, fun _ a ha => ?_, fun z => nomatch z⟩
      exact ⟨_, rfl, ha, _, rfl, h2 a ha⟩
    · have e1 : (fun (cls : Value) (d : Option Addr) (H' : Hp) => ([some (.ref f), some .non, none] : L2.St) = [some (.ref f), some .non, none] ∧ PySem.W.exmOne X.K cls (.ref RE) = some true ∧ ∀ a, H' a = none → Q (.ref a) (upd H' a (exh cls d a))) =
          fun cls d H' => PySem.W.exmOne X.K cls (.ref RE) = some true ∧ ∀ a, H' a = none → Q (.ref a) (upd H' a (exh cls d a)) :=
        funext fun cls => funext fun d => funext fun H' => propext ⟨fun z => z.2, fun z => ⟨rfl, z⟩⟩
      have e2 : (fun (_ : V) (H' : Hp) => ∃ v, ([some (.ref f), some .non, none] : L2.St)[1]? = some (some v) ∧ Q v H') = fun _ H' => Q .non H' :=
        funext fun _ => funext fun H' => propext ⟨fun ⟨v, h1, h2⟩ => by cases h1; exact h2, fun z => ⟨_, rfl, z⟩⟩
      have h' : tl (fun (cls : Value) (d : Option Addr) (H' : Hp) => ([some (.ref f), some .non, none] : L2.St) = [some (.ref f), some .non, none] ∧ PySem.W.exmOne X.K cls (.ref RE) = some true ∧ ∀ a, H' a = none → Q (.ref a) (upd H' a (exh cls d a))) H
          (fun (_ : V) (H' : Hp) => ∃ v, ([some (.ref f), some .non, none] : L2.St)[1]? = some (some v) ∧ Q v H') := by
        rw [e1, e2]
        exact h
      exact h'
end Tt
set_option maxRecDepth 100000
set_option maxHeartbeats 4000000
namespace Tt
open PySem L2
section
variable {P : Program} {w : World} {K : PySem.W.Frag} {mg : Str → Option Value} {base : Heap}
theorem passF {P : Program} {w : World} {X : Cx} : Passes (L2.CX P w) X (fun _ _ _ => False) := fun _ _ _ _ _ _ _ h => by
  obtain ⟨_, _, _, _, _, _, _, _, _, _, _, _, z⟩ := h
  exact z.elim
def inB (lo hi : Int) : V → Bool
  | .int i => decide (lo ≤ i) && decide (i ≤ hi)
  | _ => false
def isI : V → Bool
  | .int _ => true
  | _ => false
theorem TyB.isI {H : Hp} {x : V} {S : String} (t : TyB K H x S) : decide (S = "int") = isI x := by cases t <;> rfl
theorem TyB.isT {H : Hp} {x : V} {S : String} (t : TyB K H x S) : (∃ a xs, x = .ref a ∧ SqT K H a xs ∧ S = "tuple") ∨ decide (S = "tuple") = false := by
  cases t with
  | tup h => exact .inl ⟨_, _, rfl, h, rfl⟩
  | _ => exact .inr rfl
def spNumber (K : PySem.W.Frag) : Sp := fun vs H Q _ => ∃ (x : V) (S : String), vs = [x] ∧ TyB K H x S ∧ Q (.bl (isI x)) H
theorem ok_is_number (T : Txt K mg) : FnOk P w K mg base CX0 1 T.is_number.a T.is_number.fd ["thing"] (spNumber K) := by
  refine T.is_number.F.ok sc_is_number (fun vs H Q E h => ?_) (fun cdv A outer s H vs Q E hr h => ?_)
  · obtain ⟨x, S, rfl, _⟩ := h
    rfl
  · obtain ⟨x, S, rfl, t, k⟩ := h
    refine ⟨_, (pss_one (ps_ret (pe_cmpR op_isTyB (pe_callTy call_type1 (by rfl) T.ztype (by decide +kernel) (pa_cons (pv 0) pa_nil)) (pe_bltn (v := .ty "int") (by rfl) T.zint (by decide +kernel) rfl) (nomark _)))), ?_⟩
    refine ⟨x, rfl, x, S, rfl, t, _, _, rfl, rfl, ?_⟩
    rw [← TyB.isI t] at k
    exact k
def spWithin (K : PySem.W.Frag) : Sp := fun vs H Q _ => ∃ (x : V) (lo hi : Int) (S : String), vs = [x, .int lo, .int hi] ∧ TyB K H x S ∧ Q (.bl (inB lo hi x)) H
theorem ok_is_within (T : Txt K mg) : FnOk P w K mg base CX0 2 T.is_within.a T.is_within.fd ["thing", "low", "high"] (spWithin K) := by
  refine T.is_within.F.ok sc_is_within (fun vs H Q E h => ?_) (fun cdv A outer s H vs Q E hr h => ?_)
  · obtain ⟨x, lo, hi, S, rfl, _⟩ := h
    rfl
  · obtain ⟨x, lo, hi, S, rfl, t, k⟩ := h
    refine ⟨_, (pss_one (ps_ret (pe_and (pe_call (ok_is_number T) (hr.mono (by decide)) (by rfl) T.is_number.g T.is_number.k T.is_number.b .nil pass0 (pa_cons (pv 0) pa_nil)) (pe_one (pe_chain op_le op_le (pv 1) (pv 0) (pv 2)))))), ?_⟩
    refine ⟨x, rfl, x, S, rfl, t, _, rfl, ?_⟩
    cases x with
    | int i =>
      refine iteT ⟨_, rfl, _, rfl, _, _, rfl, rfl, _, rfl, ?_⟩
      have k' : Q (.bl (decide (lo ≤ i) && decide (i ≤ hi))) H := k
      refine ite2 (fun c => ?_) (fun c => ?_)
      · rw [c, Bool.true_and] at k'
        exact ⟨_, rfl, _, _, rfl, rfl, k'⟩
      · have c' : decide (lo ≤ i) = false := by simpa using c
        rw [c', Bool.false_and] at k'
        exact k'
    | _ => exact iteF k
def spTuple (K : PySem.W.Frag) : Sp := fun vs H Q _ => ∃ (x : V) (S : String), vs = [x] ∧ TyB K H x S ∧ Q (.bl (decide (S = "tuple"))) H
theorem ok_is_tuple (T : Txt K mg) : FnOk P w K mg base CX0 1 T.is_tuple.a T.is_tuple.fd ["thing"] (spTuple K) := by
  refine T.is_tuple.F.ok sc_is_tuple (fun vs H Q E h => ?_) (fun cdv A outer s H vs Q E hr h => ?_)
  · obtain ⟨x, S, rfl, _⟩ := h
    rfl
  · obtain ⟨x, S, rfl, t, k⟩ := h
    refine ⟨_, (pss_one (ps_ret (pe_cmpR op_isTyB (pe_callTy call_type1 (by rfl) T.ztype (by decide +kernel) (pa_cons (pv 0) pa_nil)) (pe_bltn (v := .ty "tuple") (by rfl) T.ztuple (by decide +kernel) rfl) (nomark _)))), ?_⟩
    exact ⟨x, rfl, x, S, rfl, t, _, _, rfl, rfl, k⟩
def spList (K : PySem.W.Frag) : Sp := fun vs H Q _ => ∃ (x : V) (S : String), vs = [x] ∧ TyB K H x S ∧ Q (.bl (decide (S = "list") || decide (S = "tuple"))) H
theorem ok_is_list (T : Txt K mg) : FnOk P w K mg base CX0 2 T.is_list.a T.is_list.fd ["thing"] (spList K) := by
  refine T.is_list.F.ok sc_is_list (fun vs H Q E h => ?_) (fun cdv A outer s H vs Q E hr h => ?_)
  · obtain ⟨x, S, rfl, _⟩ := h
    rfl
  · obtain ⟨x, S, rfl, t, k⟩ := h
    refine ⟨_, (pss_one (ps_ret (pe_or (pe_cmpR op_isTyB (pe_callTy call_type1 (by rfl) T.ztype (by decide +kernel) (pa_cons (pv 0) pa_nil)) (pe_bltn (v := .ty "list") (by rfl) T.zlist (by decide +kernel) rfl) (nomark _)) (pe_one (pe_call (ok_is_tuple T) (hr.mono (by decide)) (by rfl) T.is_tuple.g T.is_tuple.k T.is_tuple.b .nil pass0 (pa_cons (pv 0) pa_nil)))))), ?_⟩
    refine ⟨x, rfl, x, S, rfl, t, _, _, rfl, rfl, _, rfl, ?_⟩
    refine ite2 (fun c => ?_) (fun c => ?_)
    · rw [c] at k
      exact k
    · have c' : decide (S = "list") = false := by simpa using c
      rw [c', Bool.false_or] at k
      exact ⟨x, rfl, x, S, rfl, t, k⟩
def skF (r q : Addr) (n : Int) : List (Str × V) := [("row", .ref r), ("bands", .int n), ("places", .ref q)]
def places (row : List Int) : List Int := (List.range row.length).map fun (e : Nat) => (((row.idxOf (e : Int) : Nat)) : Int)
def SkAt (T : Txt K mg) (H : Hp) (p : Addr) (row : List Int) : Prop := ∃ dx r q, H p = some (.ins T.Skin.C dx (skF r q (row.length / 2 : Nat))) ∧ FzT H r (row.map V.int) ∧ FzT H q ((places row).map V.int)
theorem FzT.same {H H' : Hp} {a : Addr} {xs : List V} (h : FzT H a xs) (s : Same H H') : FzT H' a xs := by
  obtain ⟨ob, h1, h2⟩ := h
  exact ⟨ob, s _ _ h1, h2⟩
theorem FzT.kp {D : Dw} {H H' : Hp} {a : Addr} {xs : List V} (h : FzT H a xs) (dr : DrOk D H) (k : Kp D H H') : FzT H' a xs := by
  obtain ⟨ob, h1, h2⟩ := h
  obtain ⟨ls, cs, rr, t, d⟩ := dr
  exact ⟨ob, k _ _ h1 (d.dne h1 fun _ z => nomatch z) (d.lne h1 fun _ z => nomatch z), h2⟩
theorem SkAt.same {T : Txt K mg} {H H' : Hp} {p : Addr} {row : List Int} (h : SkAt T H p row) (s : Same H H') : SkAt T H' p row := by
  obtain ⟨dx, r, q, h1, h2, h3⟩ := h
  exact ⟨dx, r, q, s _ _ h1, FzT.same h2 s, FzT.same h3 s⟩
theorem SkAt.kp {T : Txt K mg} {D : Dw} {H H' : Hp} {p : Addr} {row : List Int} (h : SkAt T H p row) (dr : DrOk D H) (k : Kp D H H') : SkAt T H' p row := by
  obtain ⟨dx, r, q, h1, h2, h3⟩ := h
  obtain ⟨ls, cs, rr, t, d⟩ := id dr
  exact ⟨dx, r, q, k _ _ h1 (d.dne h1 fun _ z => nomatch z) (d.lne h1 fun _ z => nomatch z), FzT.kp h2 dr k, FzT.kp h3 dr k⟩
theorem skF_row (r q : Addr) (n : Int) : (skF r q n).lookup ("row" : Str) = some (V.ref r) := rfl
theorem skF_bands (r q : Addr) (n : Int) : (skF r q n).lookup ("bands" : Str) = some (V.int n) := rfl
theorem nRow (T : Txt K mg) : NoAttr K T.Skin.C "row" := T.Skin.n _ (by decide)
theorem nBands (T : Txt K mg) : NoAttr K T.Skin.C "bands" := T.Skin.n _ (by decide)
theorem nPlaces (T : Txt K mg) : NoAttr K T.Skin.C "places" := T.Skin.n _ (by decide)
inductive SkV (T : Txt K mg) (H : Hp) : V → Bool → Prop where
  | skin {p dx : Addr} {fs : List (Str × V)} (h : H p = some (.ins T.Skin.C dx fs)) : SkV T H (.ref p) true
  | non : SkV T H .non false
  | tup {p : Addr} {xs : List V} (h : FzT H p xs) : SkV T H (.ref p) false
theorem SkV.same {T : Txt K mg} {H H' : Hp} {v : V} {b : Bool} (h : SkV T H v b) (s : Same H H') : SkV T H' v b := by
  cases h with
  | skin h => exact .skin (s _ _ h)
  | non => exact .non
  | tup h => exact .tup (FzT.same h s)
theorem SkAt.v {T : Txt K mg} {H : Hp} {p : Addr} {row : List Int} (h : SkAt T H p row) : SkV T H (.ref p) true := by
  obtain ⟨dx, r, q, h1, _⟩ := h
  exact .skin h1
theorem SkV.isi {T : Txt K mg} {H : Hp} {v : V} {b : Bool} (h : SkV T H v b) : ∃ t, TyX K H v t ∧ PySem.W.kitOne K t (.ref T.Skin.C) = some b := by
  cases h with
  | skin h => exact ⟨_, .base (.ins h T.Skin.c T.Skin.ha T.Skin.hn T.Skin.ht T.Skin.hm), T.kSS⟩
  | non => exact ⟨_, .base .non, T.kSN⟩
  | tup h =>
    obtain ⟨ob, h1, _⟩ := h
    exact ⟨_, .fTuple h1, T.kST⟩
def SkErr (T : Txt K mg) (H : Hp) (E : XK) : Prop := ∀ d H', Same H H' → H' d = some (.xd [("part", .non)]) → E (.ref T.BadSkin.C) (some d) H'
def spExI (T : Txt K mg) : Sp := fun vs H Q _ => ∃ (a : Addr) (v : V), vs = [.ref a, v] ∧ H a = some (exo a T.BadSkin.C none) ∧
  ∀ dx, H dx = none → dx ≠ a → Q .non (upd (upd H dx (exd dx [("part", v)])) a (exo a T.BadSkin.C (some dx)))
theorem ok_BadSkin_init (T : Txt K mg) : FnOk P w K mg base CX0 1 T.BadSkin.fI T.BadSkin.fd ["self", "part"] (spExI T) := by
  refine T.BadSkin.F.ok sc_BadSkin_init (fun vs H Q E h => ?_) (fun cdv A outer s H vs Q E hr h => ?_)
  · obtain ⟨a, v, rfl, _⟩ := h
    rfl
  · obtain ⟨a, v, rfl, ha, k⟩ := h
    refine ⟨_, (pss_one (ps_ost (pv 0) (pv 1))), ?_⟩
    exact ⟨v, rfl, _, rfl, a, T.BadSkin.C, rfl, T.BadSkin.o, T.BadSkin.n, .inl ⟨ha, fun dx n ne => k dx n ne⟩⟩
def spCheckSkin (T : Txt K mg) : Sp := fun vs H Q E => ∃ (v : V) (b : Bool), vs = [v] ∧ SkV T H v b ∧ (b = true → Q .non H) ∧ (b = false → SkErr T H E)
theorem ok_check_skin (T : Txt K mg) : FnOk P w K mg base (L2.CX P w) 3 T.check_skin.a T.check_skin.fd ["skin"] (spCheckSkin T) := by
  refine T.check_skin.F.okX sc_check_skin (fun vs H Q E h => ?_) (fun cdv A outer s H vs Q E hr h => ?_)
  · obtain ⟨v, b, rfl, _⟩ := h
    rfl
  · obtain ⟨v, b, rfl, hv, kT, kF⟩ := h
    refine ⟨_, (pss_one (ps_if (pt_not (pt_val (pe_callB call_isA (by rfl) T.zisinstance (by decide +kernel) (pa_cons (pv 0) (pa_cons (pe_glob (v := .ref T.Skin.C) rfl T.Skin.g rfl) pa_nil)))))
      (pss_one (ps_raise rfl (takes_of rfl rfl rfl rfl) (pmk_oex T.BadSkin.o T.BadSkin.i T.BadSkin.t (ok_BadSkin_init T) (hr.mono (by decide)) T.BadSkin.b .nil pass0 (by rfl) T.BadSkin.g (pa_cons pe_non pa_nil))))
      pss_nil)), ?_⟩
    obtain ⟨t, ht, hk⟩ := hv.isi
    refine ⟨v, rfl, .inr ⟨v, _, t, _, b, rfl, .own T.Skin.C, ht, hk, b, rfl, ?_⟩⟩
    cases b with
    | true => exact iteF (kT rfl)
    | false =>
      refine iteT ⟨(by show 1 ≤ 1000; decide), fun a ha => ?_⟩
      refine ⟨a, .non, rfl, upd_same, fun dx ndx ne => ⟨rfl, dx, ([("part", V.non)] : List (Str × V)), upd_same, ?_, ?_, ?_⟩⟩
      · rw [upd_ne ne, upd_same]
      · rw [upd_ne ne] at ndx
        exact ndx
      · have ndx' : H dx = none := by rw [upd_ne ne] at ndx; exact ndx
        refine kF rfl dx _ (fun b o hb => ?_) upd_same
        have nb : b ≠ a := ne_of_none hb ha
        have nb2 : b ≠ dx := ne_of_none hb ndx'
        rw [upd_ne nb2, del_ne nb, upd_ne nb, upd_ne nb2, upd_ne nb]
        exact hb
end
end Tt
set_option maxRecDepth 100000
set_option maxHeartbeats 4000000
namespace Tt
open PySem L2
section
variable {P : Program} {w : World} {K : PySem.W.Frag} {mg : Str → Option Value} {base : Heap}
theorem eqv_ints : ∀ a b : List Int, PyData.eqv (.list (a.map PyData.int)) (.list (b.map PyData.int)) = decide (a = b)
  | [], [] => rfl
  | [], _ :: _ => by simp [PyData.eqv] <;> rfl
  | _ :: _, [] => by simp [PyData.eqv] <;> rfl
  | x :: a, y :: b => by
    have h := eqv_ints a b
    simp [PyData.eqv, PyData.eqvAll] at h ⊢
    rw [h]
    rfl
theorem perm_sorted {n : Nat} {ns' ns : List Int} (h : ns'.Perm ns) (p : ns'.Pairwise (· ≤ ·)) (q : ns.Perm (rgI n)) : ns' = rgI n := by
  refine List.Perm.eq_of_pairwise (fun a b _ _ h1 h2 => Int.le_antisymm h1 h2) p ?_ (h.trans q)
  unfold rgI
  rw [List.pairwise_map]
  exact List.pairwise_lt_range.imp fun {a b} h => by show (a : Int) ≤ b; omega
theorem perm_len {n : Nat} {row : List Int} (h : row.Perm (rgI n)) : row.length = n := by rw [h.length_eq, rgI_len]
theorem perm_mem {n : Nat} {row : List Int} (h : row.Perm (rgI n)) {x : Int} : x ∈ row ↔ 0 ≤ x ∧ x < n := by
  rw [h.mem_iff]
  unfold rgI
  rw [List.mem_map]
  constructor
  · rintro ⟨a, ha, rfl⟩
    have := List.mem_range.mp ha
    omega
  · rintro ⟨h0, h1⟩
    exact ⟨x.toNat, List.mem_range.mpr (by omega), by omega⟩
def spRowOk (K : PySem.W.Frag) : Sp := fun vs H Q _ => ∃ (t : Addr) (n : Nat) (row : List Int), vs = [.ref t] ∧ SqT K H t (row.map V.int) ∧ 1 ≤ n ∧ n ≤ 6 ∧ row.Perm (rgI (2 * n)) ∧ ∀ H', Same H H' → Q (.bl true) H'
theorem ok_is_row (T : Txt K mg) : FnOk P w K mg base CX0 3 T.is_row.a T.is_row.fd ["row"] (spRowOk K) := by
  refine T.is_row.F.ok sc_is_row (fun vs H Q E h => ?_) (fun cdv A outer s H vs Q E hr h => ?_)
  · obtain ⟨t, n, row, rfl, _⟩ := h
    rfl
  · obtain ⟨t, n, row, rfl, hs, n1, n6, pm, k⟩ := h
    have nd := sc_is_row.nd
    have hlen := perm_len pm
    refine ⟨_, (pss_cons (ps_if (PW.pt (pw_or (pt_not (pt_val (pe_call (ok_is_list T) (hr.mono (by decide)) (by rfl) T.is_list.g T.is_list.k T.is_list.b .nil pass0 (pa_cons (pv 0) pa_nil)))) (pw_or1 (pt_cmpR op_notIn_seq (pe_callB call_len_seq (by rfl) T.zlen (by decide +kernel) (pa_cons (pv 0) pa_nil)) (pe_tup (pa_cons pe_int (pa_cons pe_int (pa_cons pe_int (pa_cons pe_int (pa_cons pe_int (pa_cons pe_int pa_nil))))))) rfl))))
      (pss_one (ps_ret pe_bl))
      pss_nil)
    (pss_one (ps_ret (pe_and (pe_callB (cr_all rfl) (by rfl) T.zall (by decide +kernel) (pa_cons (pe_lc (own := [("end", 1)]) (g := gName 1) rfl nd (pi_tup (pv 0)) (blkOk_by (own := [("end", 1)]) (N := N_is_row) (sc := defScope s_is_row) (by decide +kernel)) (fun _ _ _ _ _ => pg_name (i := 1) nd rfl (Or.inl rfl)) (fun _ _ _ _ _ => pts_nil) (fun _ _ _ _ _ => (pe_call (ok_is_number T) (hr.mono (by decide)) (by rfl) T.is_number.g T.is_number.k T.is_number.b .nil pass0 (pa_cons (pv 1) pa_nil)))) pa_nil)) (pe_one (pe_cmpR (op_eqD hr.units) (pe_callB cr_sortedS2 (by rfl) T.zsorted (by decide +kernel) (pa_cons (pv 0) pa_nil)) (pe_listRg rfl (by rfl) T.zlist (prg_1 (by rfl) T.zrange (pe_callB call_len_seq (by rfl) T.zlen (by decide +kernel) (pa_cons (pv 0) pa_nil)))) (nomark _))))))), ?_⟩
    refine ⟨_, rfl, _, _, rfl, .tup hs, _, rfl, iteF ?_⟩
    refine ⟨_, rfl, t, _, rfl, .inr hs, (by show 6 ≤ sizeLine; decide), fun p hp => ?_⟩
    refine ⟨p, _, rfl, .inr (SqT.of upd_same), rfl, rfl, _, rfl, ?_⟩
    have hin : inV (.int ((row.map V.int).length : Int)) [.int 2, .int 4, .int 6, .int 8, .int 10, .int 12] = true := by
      rw [List.length_map, hlen]
      have : n = 1 ∨ n = 2 ∨ n = 3 ∨ n = 4 ∨ n = 5 ∨ n = 6 := by omega
      rcases this with rfl | rfl | rfl | rfl | rfl | rfl <;> rfl
    refine ite2 (fun c => ?_) (fun _ => ?_)
    · exfalso
      have c' : (!inV (.int ((row.map V.int).length : Int)) [.int 2, .int 4, .int 6, .int 8, .int 10, .int 12]) = true := c
      rw [hin] at c'
      exact Bool.noConfusion c'
    · have s1 : Same H (upd H p (.tup [.int 2, .int 4, .int 6, .int 8, .int 10, .int 12])) := same_new hp
      generalize upd H p (.tup [.int 2, .int 4, .int 6, .int 8, .int 10, .int 12]) = H1 at s1
      refine ⟨_, rfl, t, rfl, ⟨_, same_seqT s1 hs⟩, fun D1 hD1 => lc_tup (K := K) (a := t) (xs := row.map V.int) (fun i H' => H' D1 = some (.lst ((List.replicate i true).map V.bl)) ∧ Same H1 H')
        ⟨upd_same, same_new hD1⟩ (fun i H' _ z => same_seqT (s1.trans z.2) hs) ?_ ?_⟩
      · rintro i y H' hi ⟨h1, s2⟩
        obtain ⟨x, rfl, hx⟩ := ints_at hi
        have hil : i < row.length := (List.getElem?_eq_some_iff.mp hx).1
        refine ⟨rfl, yes_t ?_⟩
        refine ⟨_, rfl, _, _, rfl, .int x, _, h1, ?_, ?_, ?_⟩
        · rw [List.length_map, List.length_replicate]
          exact small1000 (by omega)
        · rw [upd_same, List.replicate_succ', List.map_append]
          rfl
        · intro b o hb
          rw [upd_ne (ne_of_none hb hD1)]
          exact s2 b o hb
      · rintro H' ⟨h1, s2⟩
        have s3 : Same H H' := s1.trans s2
        refine ⟨D1, List.replicate (row.map V.int).length true, rfl, SqL.of h1, _, rfl, ?_⟩
        have hall : (List.replicate (row.map V.int).length true).all id = true := by simp
        rw [hall]
        refine iteT ?_
        refine ⟨_, rfl, .inr ⟨t, row, rfl, same_seqT s3 hs, fun ns' p2 pm2 pw hp2 => ?_⟩⟩
        have s4 : Same H (upd H' p2 (.lst (ns'.map V.int))) := s3.trans (same_new hp2)
        refine ⟨_, rfl, t, _, rfl, .inr (same_seqT s4 hs), _, rfl, RgOk.of_le (by omega) ?_ (by omega) (by omega), fun q hq => ?_⟩
        · rw [List.length_map]
          omega
        · have eN : ns' = rgI (2 * n) := perm_sorted pm2 pw pm
          have e1 : (upd (upd H' p2 (.lst (ns'.map V.int))) q (.lst (rgV 0 ((row.map V.int).length : Int)))) q = some (.lst ((rgI (2 * n)).map V.int)) := by
            rw [upd_same, rgV_rgI (by omega), List.length_map, hlen, Int.toNat_natCast]
          have e2 : (upd (upd H' p2 (.lst (ns'.map V.int))) q (.lst (rgV 0 ((row.map V.int).length : Int)))) p2 = some (.lst (ns'.map V.int)) := upk hq upd_same
          refine ⟨_, _, .lst (SqL.of e2) (dpAll_ints _ ns'), .lst (SqL.of e1) (dpAll_ints _ _), shapedAll_ints _, shapedAll_ints _, ?_⟩
          rw [eqv_ints, decide_eq_true eN]
          exact k _ (s4.trans (same_new hq))
def spSkinI (T : Txt K mg) : Sp := fun vs H Q _ => ∃ (p t dx : Addr) (n : Nat) (row : List Int), vs = [.ref p, .ref t] ∧ H p = some (.ins T.Skin.C dx []) ∧ FzT H t (row.map V.int) ∧ 1 ≤ n ∧ n ≤ 6 ∧ row.Perm (rgI (2 * n)) ∧
  ∀ (s : Nat) H', row[s]? = some 0 → SkAt T H' p (row.drop s ++ row.take s) → (∀ b o, H b = some o → b ≠ p → H' b = some o) → Q .non H'
theorem turn_perm (row : List Int) (s : Nat) : (row.drop s ++ row.take s).Perm row := by
  have h : (row.drop s ++ row.take s).Perm (row.take s ++ row.drop s) := List.perm_append_comm
  rw [List.take_append_drop] at h
  exact h
theorem idx_at {row : List Int} {x : Int} (h : x ∈ row) : row[row.idxOf x]? = some x ∧ ∀ m, m < row.idxOf x → row[m]? ≠ some x := by
  have hl : row.idxOf x < row.length := List.idxOf_lt_length_of_mem h
  refine ⟨by rw [List.getElem?_eq_getElem hl, List.getElem_idxOf hl], fun m hm e => ?_⟩
  obtain ⟨h1, h2⟩ := List.getElem?_eq_some_iff.mp e
  exact absurd h2 (by simpa using List.not_of_lt_findIdx (xs := row) (p := (· == x)) (i := m) hm)
theorem slT_from {xs : List V} {a : Addr} {H : Hp} {Q : VK} {n : Nat} (hx : 0 < xs.length) (h : SqT K H a xs) (q0 : n = 0 → Q (.ref a) H) (q1 : n ≠ 0 → ∀ p, H p = none → Q (.ref p) (upd H p (.tup (xs.drop n)))) : rSlA K (.ref a) (some (n : Int)) none H Q := by
  refine ⟨a, xs, rfl, h, fun z => q0 ?_, fun nz p hp => ?_⟩
  · rw [HT.sIx_nat] at z
    omega
  · rw [cut_from]
    refine q1 (fun e => nz ?_) p hp
    subst e
    exact ⟨by rw [HT.sIx_nat]; omega, rfl⟩
theorem slT_to {xs : List V} {a : Addr} {H : Hp} {Q : VK} {n : Nat} (hx : n < xs.length) (h : SqT K H a xs) (q1 : ∀ p, H p = none → Q (.ref p) (upd H p (.tup (xs.take n)))) : rSlA K (.ref a) none (some (n : Int)) H Q := by
  refine ⟨a, xs, rfl, h, fun z => ?_, fun _ p hp => ?_⟩
  · rw [HT.sIx_nat] at z
    exfalso
    omega
  · rw [cut_to _ (by omega)]
    exact q1 p hp
theorem noPart_i {σ : L2.St} {H : Hp} {Q : Option Int → Hp → Prop} (h : Q none H) : tNoPart σ H Q := h
def tTurned (K : PySem.W.Frag) : TE := tOp (rCatF K) (tCB (rTupF K) (tCons (tSl (rSlA K) (tVar 1) (tPart (tVar 2)) tNoPart) tNil)) (tCB (rTupF K) (tCons (tSl (rSlA K) (tVar 1) tNoPart (tPart (tVar 2))) tNil))
theorem row_turned {σ : L2.St} {H : Hp} {Q : VK} {t : Addr} {st : Nat} {row : List Int} (h1 : σ[1]? = some (some (.ref t))) (h2 : σ[2]? = some (some (.int (st : Nat)))) (ht : FzT H t (row.map V.int)) (hst : st < row.length) (hl : row.length ≤ 12)
    (k : ∀ (r : Addr) (H4 : Hp), Same H H4 → FzT H4 r ((row.drop st ++ row.take st).map V.int) → Q (.ref r) H4) : tTurned K σ H Q := by
  have hx : 0 < (row.map V.int).length := by rw [List.length_map]; omega
  have hd : ((row.drop st).map V.int) ≠ [] := fun z => by
    have := congrArg List.length z
    rw [List.length_map, List.length_drop] at this
    simp at this
    omega
  have hz : ((row.drop st).map V.int).length + ((row.take st).map V.int).length ≤ sizeLine := by
    rw [List.length_map, List.length_map, List.length_drop, List.length_take]
    have : (12 : Nat) ≤ sizeLine := by decide
    omega
  have step : ∀ (a : Addr) (H2 : Hp), Same H H2 → SqT K H2 a ((row.drop st).map V.int) → (st = 0 → a = t) →
      tCB (rTupF K) (tCons (tSl (rSlA K) (tVar 1) tNoPart (tPart (tVar 2))) tNil) σ H2 fun y H3 => rCatF K (.ref a) y H3 Q := by
    intro a H2 s2 ha hat
    refine ⟨_, h1, noPart_i ⟨_, h2, st, rfl, ?_⟩⟩
    refine slT_to (K := K) (by rw [List.length_map]; exact hst) (FzT.same ht s2).sq (fun b hb => ?_)
    have e1 : (upd H2 b (.tup ((row.map V.int).take st))) b = some (.tup ((row.take st).map V.int)) := by rw [upd_same, List.map_take]
    have s3 : Same H2 (upd H2 b (.tup ((row.map V.int).take st))) := same_new hb
    refine ⟨b, _, rfl, .inr ⟨SqT.of e1, ?_⟩⟩
    refine ⟨a, b, _, _, rfl, rfl, same_seqT s3 ha, SqT.of e1, hd, hz, fun z => ?_, fun z r ob hr hob => ?_⟩
    · have z0 : st = 0 := by
        have := congrArg List.length z
        rw [List.length_map, List.length_take, List.length_nil] at this
        omega
      subst z0
      rw [hat rfl]
      refine k t _ (s2.trans s3) ?_
      rw [show List.drop 0 row ++ List.take 0 row = row by simp]
      exact FzT.same (FzT.same ht s2) s3
    · refine k r _ ((s2.trans s3).trans (same_new hr)) ?_
      rw [List.map_append]
      exact FzT.new hob
  refine ⟨_, h1, _, h2, st, rfl, noPart_i ?_⟩
  refine slT_from (K := K) hx ht.sq (fun z => ?_) (fun nz a ha => ?_)
  · refine ⟨t, _, rfl, .inr ⟨ht.sq, ?_⟩⟩
    refine step t H (fun _ _ h => h) ?_ (fun _ => rfl)
    rw [z, List.drop_zero]
    exact ht.sq
  · have e1 : (upd H a (.tup ((row.map V.int).drop st))) a = some (.tup ((row.drop st).map V.int)) := by rw [upd_same, List.map_drop]
    refine ⟨a, _, rfl, .inr ⟨SqT.of e1, ?_⟩⟩
    refine step a _ (same_new ha) (SqT.of e1) (fun z => absurd z nz)
theorem FzT.ne {H : Hp} {a p : Addr} {xs : List V} {u o : HO} (h : FzT H a xs) (e : H p = some u) (n : ∀ ob x, u ≠ .frz ob x) : FzT (upd H p o) a xs := by
  obtain ⟨ob, h1, h2⟩ := h
  refine ⟨ob, ?_, h2⟩
  rw [upd_ne]
  · exact h1
  · intro z
    subst z
    rw [e] at h1
    exact n _ _ (Option.some.inj h1)
theorem place_at {row : List Int} {i : Nat} (h : i < row.length) : (places row)[i]? = some (((row.idxOf (i : Int) : Nat)) : Int) := by
  unfold places
  rw [List.getElem?_map, List.getElem?_range h]
  rfl
theorem ok_Skin_init (T : Txt K mg) : FnOk P w K mg base (L2.CX P w) 4 T.Skin.fI T.Skin.fd ["self", "row"] (spSkinI T) := by
  refine T.Skin.F.okX sc_Skin_init (fun vs H Q E h => ?_) (fun cdv A outer s H vs Q E hr h => ?_)
  · obtain ⟨p, t, dx, n, row, rfl, _⟩ := h
    rfl
  · obtain ⟨p, t, dx, n, row, rfl, hp, ht, n1, n6, pm, k⟩ := h
    have nd := sc_Skin_init.nd
    have hu := hu_of hr
    have hlen := perm_len pm
    refine ⟨_, (pss_cons (ps_if (pt_not (pt_val (pe_call (ok_is_row T) (hr.mono (by decide)) (by rfl) T.is_row.g T.is_row.k T.is_row.b .nil pass0 (pa_cons (pv 1) pa_nil))))
      (pss_one (ps_raise rfl (takes_of rfl rfl rfl rfl) (pmk_oex T.BadSkin.o T.BadSkin.i T.BadSkin.t (ok_BadSkin_init T) (hr.mono (by decide)) T.BadSkin.b .nil pass0 (by rfl) T.BadSkin.g (pa_cons pe_str pa_nil))))
      pss_nil)
    (pss_cons (ps_set (i := 2) nd rfl (Or.inl rfl) (pe_bmF PySem.F.plainAttrs_tuple PySem.F.slot_tuple_index PySem.F.type_tuple_index mt_tup_indexI (pv 1) (pa_cons pe_int pa_nil)))
    (pss_cons (ps_fld (pv 0) (pe_op op_catF (pe_callTy call_tuple_ofF (by rfl) T.ztuple (by decide +kernel) (pa_cons (pe_slice sl_tupA (pv 1) (po_some (pv 2)) po_none) pa_nil)) (pe_callTy call_tuple_ofF (by rfl) T.ztuple (by decide +kernel) (pa_cons (pe_slice sl_tupA (pv 1) po_none (po_some (pv 2))) pa_nil))) rfl)
    (pss_cons (ps_fld (pv 0) (pe_op op_fdiv (pe_callB call_len_seq (by rfl) T.zlen (by decide +kernel) (pa_cons (pv 1) pa_nil)) pe_int) rfl)
    (pss_one (ps_fld (pv 0) (pe_callTy call_tuple_ofF (by rfl) T.ztuple (by decide +kernel) (pa_cons (pe_lc (own := [("end", 3)]) (g := gName 3) rfl nd (pi_range1 rfl T.zrange (pa_cons (pe_callB call_len_seq (by rfl) T.zlen (by decide +kernel) (pa_cons (pv 1) pa_nil)) pa_nil)) (blkOk_by (own := [("end", 3)]) (N := N_Skin_init) (sc := defScope s_Skin_init) (by decide +kernel)) (fun _ _ _ _ _ => pg_name (i := 3) nd rfl (Or.inl rfl)) (fun _ _ _ _ _ => pts_nil) (fun _ _ _ _ _ => (pe_bmFK (K := K) rfl PySem.F.plainAttrs_tuple PySem.F.slot_tuple_index PySem.F.type_tuple_index (mt_tup_indexIK (K := K) rfl) (pe_fldK (K := K) rfl (pv 0) rfl) (pa_cons (pv 3) pa_nil)))) pa_nil)) rfl)))))), ?_⟩
    refine ⟨_, rfl, t, n, row, rfl, ht.sq, n1, n6, pm, fun H1 s1 => ⟨_, rfl, iteF ?_⟩⟩
    have ht1 := FzT.same ht s1
    have hp1 := s1 _ _ hp
    have h0 : (0 : Int) ∈ row := (perm_mem pm).mpr (by omega)
    obtain ⟨i0, i1⟩ := idx_at h0
    have hst : row.idxOf 0 < row.length := List.idxOf_lt_length_of_mem h0
    refine ⟨_, rfl, .inr ⟨rfl, t, _, rfl, ht1⟩, t, row, 0, row.idxOf 0, rfl, rfl, ht1.sq, i0, i1, ?_⟩
    generalize row.idxOf 0 = st at i0 hst
    clear i1
    refine row_turned (K := K) rfl rfl ht1 hst (by omega) (fun r H4 s4 fr => ?_)
    generalize hrow : row.drop st ++ row.take st = row2 at fr
    have pm2 : row2.Perm (rgI (2 * n)) := by rw [← hrow]; exact (turn_perm row st).trans pm
    have hlen2 : row2.length = 2 * n := perm_len pm2
    have hp4 : H4 p = some (.ins T.Skin.C dx []) := s4 _ _ hp1
    refine ⟨_, rfl, p, T.Skin.C, dx, [], rfl, hp4, T.Skin.c, nRow T, (by show 0 < 1000; decide), ?_⟩
    have hp5 : (upd H4 p (.ins T.Skin.C dx (putF "row" (.ref r) []))) p = some (.ins T.Skin.C dx [("row", .ref r)]) := upd_same
    have fr5 : FzT (upd H4 p (.ins T.Skin.C dx (putF "row" (.ref r) []))) r (row2.map V.int) := FzT.ne fr hp4 (fun _ _ z => nomatch z)
    have ft5 : FzT (upd H4 p (.ins T.Skin.C dx (putF "row" (.ref r) []))) t (row.map V.int) := FzT.ne (FzT.same ht1 s4) hp4 (fun _ _ z => nomatch z)
    have k5 : ∀ b o, H b = some o → b ≠ p → (upd H4 p (.ins T.Skin.C dx (putF "row" (.ref r) []))) b = some o := fun b o hb nb => by
      rw [upd_ne nb]
      exact s4 _ _ (s1 _ _ hb)
    generalize upd H4 p (.ins T.Skin.C dx (putF "row" (.ref r) [])) = H5 at hp5 fr5 ft5 k5
    refine ⟨_, rfl, t, _, rfl, .inr ft5.sq, _, _, rfl, rfl, ⟨by decide, by decide⟩, ?_⟩
    refine ⟨_, rfl, p, T.Skin.C, dx, _, rfl, hp5, T.Skin.c, nBands T, (by show 1 < 1000; decide), ?_⟩
    have ebands : ((row.map V.int).length : Int) / 2 = ((row2.length / 2 : Nat) : Int) := by
      rw [List.length_map, hlen2, hlen]
      rfl
    have eV : ((fun (i j : Int) => V.int (i / j)) ((row.map V.int).length : Int) 2) = V.int ((row2.length / 2 : Nat) : Int) := congrArg V.int ebands
    rw [eV]
    have hp6 : (upd H5 p (.ins T.Skin.C dx (putF "bands" (.int ((row2.length / 2 : Nat) : Int)) [("row", .ref r)]))) p = some (.ins T.Skin.C dx [("row", .ref r), ("bands", .int ((row2.length / 2 : Nat) : Int))]) := upd_same
    have fr6 : FzT (upd H5 p (.ins T.Skin.C dx (putF "bands" (.int ((row2.length / 2 : Nat) : Int)) [("row", .ref r)]))) r (row2.map V.int) := FzT.ne fr5 hp5 (fun _ _ z => nomatch z)
    have ft6 : FzT (upd H5 p (.ins T.Skin.C dx (putF "bands" (.int ((row2.length / 2 : Nat) : Int)) [("row", .ref r)]))) t (row.map V.int) := FzT.ne ft5 hp5 (fun _ _ z => nomatch z)
    have k6 : ∀ b o, H b = some o → b ≠ p → (upd H5 p (.ins T.Skin.C dx (putF "bands" (.int ((row2.length / 2 : Nat) : Int)) [("row", .ref r)]))) b = some o := fun b o hb nb => by
      rw [upd_ne nb]
      exact k5 b o hb nb
    generalize upd H5 p (.ins T.Skin.C dx (putF "bands" (.int ((row2.length / 2 : Nat) : Int)) [("row", .ref r)])) = H6 at hp6 fr6 ft6 k6
    refine ⟨_, rfl, t, _, rfl, .inr ft6.sq, _, rfl, by omega, by rw [List.length_map]; omega, fun D1 hD1 => ?_⟩
    refine lc_range (lo := 0) (n := ((row.map V.int).length : Int).toNat) (fun i H' => H' D1 = some (.lst (((places row2).take i).map V.int)) ∧ Same H6 H')
      ⟨upd_same, same_new hD1⟩ ?_ ?_
    · rintro i H' hi ⟨h1, s2⟩
      have hi2 : i < row2.length := by rw [List.length_map, hlen] at hi; omega
      have hm : (i : Int) ∈ row2 := (perm_mem pm2).mpr (by omega)
      obtain ⟨j0, j1⟩ := idx_at hm
      refine ⟨rfl, yes_t ?_⟩
      refine ⟨_, rfl, p, _, _, _, _, rfl, s2 _ _ hp6, T.Skin.c, nRow T, rfl, .inr ⟨rfl, r, _, rfl, FzT.same fr6 s2⟩, ?_⟩
      refine ⟨_, rfl, r, row2, i, _, rfl, by rw [Int.zero_add], (FzT.same fr6 s2).sq, j0, j1, ?_⟩
      refine ⟨_, h1, ?_, ?_⟩
      · rw [List.length_map, List.length_take]
        exact small1000 (by omega)
      · refine ⟨?_, fun b o hb => ?_⟩
        · rw [upd_same, List.take_add_one, place_at hi2, List.map_append]
          rfl
        · rw [upd_ne (ne_of_none hb hD1)]
          exact s2 b o hb
    · rintro H' ⟨h1, s2⟩
      have e2 : (places row2).take ((row.map V.int).length : Int).toNat = places row2 := by
        refine List.take_of_length_le ?_
        unfold places
        rw [List.length_map, List.length_map, List.length_range]
        omega
      rw [e2] at h1
      refine ⟨D1, _, rfl, .inl ⟨SqL.of h1, fun q ob hq hob => ?_⟩⟩
      have s3 : Same H6 (upd H' q (.frz ob (.tup ((places row2).map V.int)))) := s2.trans (same_new hq)
      have fq : FzT (upd H' q (.frz ob (.tup ((places row2).map V.int)))) q ((places row2).map V.int) := FzT.new hob
      generalize upd H' q (.frz ob (.tup ((places row2).map V.int))) = H7 at s3 fq
      refine ⟨_, rfl, p, T.Skin.C, dx, _, rfl, s3 _ _ hp6, T.Skin.c, nPlaces T, (by show 2 < 1000; decide), ?_⟩
      refine k st _ i0 ?_ (fun b o hb nb => ?_)
      · rw [hrow]
        exact ⟨dx, r, q, upd_same, FzT.ne (FzT.same fr6 s3) (s3 _ _ hp6) (fun _ _ z => nomatch z), FzT.ne fq (s3 _ _ hp6) (fun _ _ z => nomatch z)⟩
      · rw [upd_ne nb]
        exact s3 _ _ (k6 b o hb nb)
end
end Tt
set_option maxRecDepth 100000
set_option maxHeartbeats 4000000
namespace Tt
open PySem L2
section
variable {P : Program} {w : World} {K : PySem.W.Frag} {mg : Str → Option Value} {base : Heap}
theorem TyB.same {H H' : Hp} {x : V} {S : String} (t : TyB K H x S) (s : Same H H') : TyB K H' x S := by
  cases t with
  | non => exact .non
  | bl b => exact .bl b
  | int i => exact .int i
  | str x => exact .str x
  | byt b => exact .byt b
  | @lst a xs h =>
    have h' : SqL K H' a xs := by
      rcases h with (h | ⟨o, h⟩) | h
      · exact .inl (.inl (s _ _ h))
      · exact .inl (.inr ⟨o, s _ _ h⟩)
      · exact .inr h
    exact .lst h'
  | tup h => exact .tup (same_seqT s h)
  | dK h => exact .dK (s _ _ h)
def hiE (row : List Int) : Int := 2 * ((row.length / 2 : Nat) : Int) - 1
def spIsEnd (T : Txt K mg) : Sp := fun vs H Q _ => ∃ (p : Addr) (row : List Int) (x : V) (S : String), vs = [.ref p, x] ∧ SkAt T H p row ∧ row.length ≤ 12 ∧ TyB K H x S ∧ Q (.bl (inB 0 (hiE row) x)) H
theorem ok_is_end (T : Txt K mg) : FnOk P w K mg base CX0 3 T.is_end.a T.is_end.fd ["skin", "thing"] (spIsEnd T) := by
  refine T.is_end.F.ok sc_is_end (fun vs H Q E h => ?_) (fun cdv A outer s H vs Q E hr h => ?_)
  · obtain ⟨p, row, x, S, rfl, _⟩ := h
    rfl
  · obtain ⟨p, row, x, S, rfl, ⟨dx, r, q, h1, h2, h3⟩, hl, t, k⟩ := h
    refine ⟨_, (pss_one (ps_ret (pe_call (ok_is_within T) (hr.mono (by decide)) (by rfl) T.is_within.g T.is_within.k T.is_within.b .nil pass0 (pa_cons (pv 1) (pa_cons pe_int (pa_cons (pe_op op_sub (pe_op op_mul pe_int (pe_fld (pv 0) rfl)) pe_int) pa_nil)))))), ?_⟩
    refine ⟨x, rfl, _, rfl, p, T.Skin.C, dx, _, _, rfl, h1, T.Skin.c, nBands T, skF_bands .., _, _, rfl, rfl, .inl ⟨by decide, by decide⟩, _, _, rfl, rfl, ?_⟩
    exact ⟨x, 0, hiE row, S, rfl, t, k⟩
inductive WV (K : PySem.W.Frag) (m : Int) (row : List Int) (H : Hp) : V → Bool → Prop where
  | tup {p : Addr} {xs : List V} (h : SqT K H p xs) (n : xs.length < 1000) (ty : ∀ y ∈ xs, ∃ S, TyB K H y S) : WV K m row H (.ref p) (decide ((xs.length : Int) ≤ m) && xs.all (inB 0 (hiE row)))
  | non {x : V} {S : String} (h : TyB K H x S) (n : decide (S = "tuple") = false) : WV K m row H x false
theorem WV.same {m : Int} {row : List Int} {H H' : Hp} {x : V} {b : Bool} (h : WV K m row H x b) (s : Same H H') : WV K m row H' x b := by
  cases h with
  | tup h n ty => exact .tup (same_seqT s h) n fun y hy => (ty y hy).elim fun S t => ⟨S, TyB.same t s⟩
  | non h n => exact .non (TyB.same h s) n
def spAny (T : Txt K mg) : Sp := fun vs H Q _ => ∃ (p : Addr) (row : List Int) (t : Addr) (xs : List V), vs = [.ref p, .ref t] ∧ SkAt T H p row ∧ row.length ≤ 12 ∧ SqT K H t xs ∧ xs.length < 1000 ∧ (∀ y ∈ xs, ∃ S, TyB K H y S) ∧ ∀ H', Same H H' → Q (.bl (xs.all (inB 0 (hiE row)))) H'
theorem ok_is_any_word (T : Txt K mg) : FnOk P w K mg base CX0 4 T.is_any_word.a T.is_any_word.fd ["skin", "thing"] (spAny T) := by
  refine T.is_any_word.F.ok sc_is_any_word (fun vs H Q E h => ?_) (fun cdv A outer s H vs Q E hr h => ?_)
  · obtain ⟨p, row, t, xs, rfl, _⟩ := h
    rfl
  · obtain ⟨p, row, t, xs, rfl, hs, hl, h, n, ty, k⟩ := h
    have nd := sc_is_any_word.nd
    refine ⟨_, (pss_one (ps_ret (pe_and (pe_call (ok_is_tuple T) (hr.mono (by decide)) (by rfl) T.is_tuple.g T.is_tuple.k T.is_tuple.b .nil pass0 (pa_cons (pv 1) pa_nil)) (pe_one (pe_callB (cr_all rfl) (by rfl) T.zall (by decide +kernel) (pa_cons (pe_lc (own := [("letter", 2)]) (g := gName 2) rfl nd (pi_tup (pv 1)) (blkOk_by (own := [("letter", 2)]) (N := N_is_any_word) (sc := defScope s_is_any_word) (by decide +kernel)) (fun _ _ _ _ _ => pg_name (i := 2) nd rfl (Or.inl rfl)) (fun _ _ _ _ _ => pts_nil) (fun _ _ _ _ _ => (pe_call (ok_is_end T) (hr.mono (by decide)) (by rfl) T.is_end.g T.is_end.k T.is_end.b .nil pass0 (pa_cons (pv 0) (pa_cons (pv 2) pa_nil))))) pa_nil)))))), ?_⟩
    refine ⟨_, rfl, _, _, rfl, .tup h, _, rfl, iteT ?_⟩
    refine ⟨_, rfl, t, rfl, ⟨_, h⟩, fun D1 hD1 => lc_tup (K := K) (a := t) (xs := xs) (fun i H' => H' D1 = some (.lst (((xs.take i).map (inB 0 (hiE row))).map V.bl)) ∧ Same H H')
      ⟨upd_same, same_new hD1⟩ (fun i H' _ z => same_seqT z.2 h) ?_ ?_⟩
    · rintro i y H' hi ⟨h1, s2⟩
      have hil : i < xs.length := (List.getElem?_eq_some_iff.mp hi).1
      obtain ⟨S, ty'⟩ := ty y (List.mem_of_getElem? hi)
      refine ⟨rfl, yes_t ?_⟩
      refine ⟨_, rfl, _, rfl, p, row, y, S, rfl, hs.same s2, hl, TyB.same ty' s2, ?_⟩
      refine ⟨_, h1, ?_, ?_⟩
      · rw [List.length_map, List.length_map, List.length_take]
        exact small1000 (by omega)
      · refine ⟨?_, fun b o hb => ?_⟩
        · rw [upd_same, List.take_add_one, hi, List.map_append, List.map_append]
          rfl
        · rw [upd_ne (ne_of_none hb hD1)]
          exact s2 b o hb
    · rintro H' ⟨h1, s2⟩
      have e2 : xs.take xs.length = xs := List.take_length
      rw [e2] at h1
      refine ⟨D1, _, rfl, SqL.of h1, ?_⟩
      have e3 : (xs.map (inB 0 (hiE row))).all id = xs.all (inB 0 (hiE row)) := by rw [List.all_map]; rfl
      rw [e3]
      exact k H' s2
def spHas (T : Txt K mg) : Sp := fun vs H Q _ => ∃ (p : Addr) (row : List Int) (x : V) (m : Int) (b : Bool), vs = [.ref p, x, .int m] ∧ SkAt T H p row ∧ row.length ≤ 12 ∧ WV K m row H x b ∧ ∀ H', Same H H' → Q (.bl b) H'
theorem ok_has_letters (T : Txt K mg) : FnOk P w K mg base CX0 5 T.has_letters.a T.has_letters.fd ["skin", "thing", "most"] (spHas T) := by
  refine T.has_letters.F.ok sc_has_letters (fun vs H Q E h => ?_) (fun cdv A outer s H vs Q E hr h => ?_)
  · obtain ⟨p, row, x, m, b, rfl, _⟩ := h
    rfl
  · obtain ⟨p, row, x, m, b, rfl, hs, hl, hv, k⟩ := h
    have nd := sc_has_letters.nd
    refine ⟨_, (pss_one (ps_ret (pe_and (pe_call (ok_is_tuple T) (hr.mono (by decide)) (by rfl) T.is_tuple.g T.is_tuple.k T.is_tuple.b .nil pass0 (pa_cons (pv 1) pa_nil)) (pe_and (pe_cmpR op_le (pe_callB call_len_seq (by rfl) T.zlen (by decide +kernel) (pa_cons (pv 1) pa_nil)) (pv 2) (nomark _)) (pe_one (pe_call (ok_is_any_word T) (hr.mono (by decide)) (by rfl) T.is_any_word.g T.is_any_word.k T.is_any_word.b .nil pass0 (pa_cons (pv 0) (pa_cons (pv 1) pa_nil)))))))), ?_⟩
    cases hv with
    | non h n => 
      refine ⟨_, rfl, _, _, rfl, h, _, rfl, ?_⟩
      rw [n]
      exact iteF (k _ fun _ _ z => z)
    | @tup t xs h n ty =>
      refine ⟨_, rfl, _, _, rfl, .tup h, _, rfl, iteT ?_⟩
      refine ⟨_, rfl, t, _, rfl, .inr h, _, rfl, _, _, rfl, rfl, _, rfl, ?_⟩
      refine ite2 (fun c => ?_) (fun c => ?_)
      · rw [c, Bool.true_and] at k
        exact ⟨_, rfl, _, rfl, p, row, t, xs, rfl, hs, hl, h, n, ty, k⟩
      · have c' : decide ((xs.length : Int) ≤ m) = false := by simpa using c
        rw [c', Bool.false_and] at k
        exact k _ fun _ _ z => z
end
end Tt
set_option maxRecDepth 100000
set_option maxHeartbeats 4000000
namespace Tt
open PySem L2
section
variable {P : Program} {w : World} {K : PySem.W.Frag} {mg : Str → Option Value} {base : Heap}
theorem slT_gen {xs : List V} {a : Addr} {H : Hp} {Q : VK} {n : Nat} (h : SqT K H a xs) (q : ∀ b H', Same H H' → SqT K H' b (xs.take n) → Q (.ref b) H') : rSlA K (.ref a) none (some (n : Int)) H Q := by
  by_cases hn : n < xs.length
  · refine slT_to hn h fun p hp => q p _ (same_new hp) (SqT.of upd_same)
  · refine ⟨a, xs, rfl, h, fun _ => q a H (fun _ _ z => z) ?_, fun z => absurd ⟨rfl, ?_⟩ z⟩
    · rw [List.take_of_length_le (by omega)]
      exact h
    · rw [HT.sIx_nat]
      omega
theorem catA_gen {xs ys : List V} {a b : Addr} {H : Hp} {Q : VK} (ha : SqT K H a xs) (hb : SqT K H b ys) (hz : xs.length + ys.length ≤ sizeLine) (q : ∀ c H', Same H H' → SqT K H' c (xs ++ ys) → Q (.ref c) H') : rCatA K (.ref a) (.ref b) H Q := by
  refine ⟨a, b, xs, ys, rfl, rfl, ha, hb, hz, fun z => ?_, fun _ z => ?_, fun _ _ p hp => q p _ (same_new hp) (SqT.of upd_same)⟩
  · subst z
    exact q b H (fun _ _ z => z) hb
  · subst z
    exact q a H (fun _ _ z => z) (by rw [List.append_nil]; exact ha)
theorem slT_genD {xs : List V} {a : Addr} {H : Hp} {Q : VK} {n : Nat} (h : SqT K H a xs) (q : ∀ b H', Same H H' → SqT K H' b (xs.drop n) → Q (.ref b) H') : rSlA K (.ref a) (some (n : Int)) none H Q := by
  by_cases hx : 0 < xs.length
  · refine slT_from hx h (fun z => ?_) fun _ p hp => q p _ (same_new hp) (SqT.of upd_same)
    subst z
    exact q a H (fun _ _ z => z) (by rw [List.drop_zero]; exact h)
  · have e : xs = [] := List.length_eq_zero_iff.mp (by omega)
    subst e
    refine ⟨a, [], rfl, h, fun _ => q a H (fun _ _ z => z) (by rw [List.drop_nil]; exact h), fun z => absurd ⟨by rw [HT.sIx_nat]; simp, rfl⟩ z⟩
end
end Tt
set_option maxRecDepth 100000
set_option maxHeartbeats 4000000
namespace Tt
open PySem L2
section
variable {P : Program} {w : World} {K : PySem.W.Frag} {mg : Str → Option Value} {base : Heap}
def SkOr (T : Txt K mg) (v : V) (H : Hp) (E : XK) (k : Addr → List Int → Prop) : Prop := (SkV T H v false ∧ SkErr T H E) ∨ ∃ (p : Addr) (row : List Int), v = .ref p ∧ SkAt T H p row ∧ (row.length ≤ 12 ∧ row.length % 2 = 0) ∧ k p row
theorem word_wv {m : Int} {row : List Int} {H : Hp} {t : Addr} {ns : List Int} (hl : row.length % 2 = 0) (h : SqT K H t (ns.map V.int)) (n2 : ns.length ≤ 500) (hm : (ns.length : Int) ≤ m) (hb : Lt (row.length : Int) ns) : WV K m row H (.ref t) true := by
  have e : (decide (((ns.map V.int).length : Int) ≤ m) && (ns.map V.int).all (inB 0 (hiE row))) = true := by
    rw [List.length_map, decide_eq_true hm, Bool.true_and, List.all_eq_true]
    intro y hy
    obtain ⟨x, hx, rfl⟩ := List.mem_map.mp hy
    obtain ⟨h0, h1⟩ := hb x hx
    show (decide (0 ≤ x) && decide (x ≤ hiE row)) = true
    unfold hiE
    rw [Bool.and_eq_true]
    exact ⟨decide_eq_true h0, decide_eq_true (by omega)⟩
  rw [← e]
  refine .tup h (by rw [List.length_map]; omega) fun y hy => ?_
  obtain ⟨x, _, rfl⟩ := List.mem_map.mp hy
  exact ⟨_, .int x⟩
end
end Tt
set_option maxRecDepth 100000
set_option maxHeartbeats 4000000
namespace Tt
open PySem L2
section
variable {P : Program} {w : World} {K : PySem.W.Frag} {mg : Str → Option Value} {base : Heap}
def spCheckWord (T : Txt K mg) : Sp := fun vs H Q E => ∃ (p : Addr) (row : List Int) (x : V) (b : Bool), vs = [.ref p, x] ∧ SkAt T H p row ∧ row.length ≤ 12 ∧ WV K 200 row H x b ∧ (b = true → ∀ H', Same H H' → Q .non H') ∧ (b = false → ∀ H', Same H H' → E (.ref T.BadWord.C) none H')
theorem ok_check_word (T : Txt K mg) : FnOk P w K mg base (L2.CX P w) 6 T.check_word.a T.check_word.fd ["skin", "word"] (spCheckWord T) := by
  refine T.check_word.F.okX sc_check_word (fun vs H Q E h => ?_) (fun cdv A outer s H vs Q E hr h => ?_)
  · obtain ⟨p, row, x, b, rfl, _⟩ := h
    rfl
  · obtain ⟨p, row, x, b, rfl, hs, hl, hw, k1, k2⟩ := h
    refine ⟨_, (pss_one (ps_if (pt_not (pt_val (pe_call (ok_has_letters T) (hr.mono (by decide)) (by rfl) T.has_letters.g T.has_letters.k T.has_letters.b .nil pass0 (pa_cons (pv 0) (pa_cons (pv 1) (pa_cons (pe_glob rfl T.c_MOST_LETTERS T.r_MOST_LETTERS) pa_nil))))))
      (pss_one (ps_raise rfl (takes_of rfl rfl rfl rfl) (pmk_own PySem.F.excBase_ValueError T.BadWord.q T.BadWord.g T.BadWord.k (raises_own T.BadWord.ec.hs T.BadWord.ty) rfl)))
      pss_nil)), ?_⟩
    refine ⟨_, rfl, _, rfl, p, row, x, 200, b, rfl, hs, hl, hw, fun H1 s1 => ⟨_, rfl, ?_⟩⟩
    cases b with
    | true => exact iteF (k1 rfl H1 s1)
    | false =>
      refine iteT ?_
      exact k2 rfl H1 s1
end
end Tt
set_option maxHeartbeats 1000000
namespace Wd
def strip (w : List Int) : List Int := if h : 2 ≤ w.length ∧ w.head? = w.getLast?.map mate then strip (w.drop 1).dropLast else w
termination_by w.length
decreasing_by
  rw [List.length_dropLast, List.length_drop]
  omega
theorem strip_yes {a : Int} {m : List Int} : strip (mate a :: (m ++ [a])) = strip m := by
  rw [strip]
  rw [dif_pos]
  · simp
  · refine ⟨by simp, ?_⟩
    have : (mate a :: (m ++ [a])).getLast? = some a := by simp [List.getLast?_cons]
    rw [this]
    rfl
theorem strip_no {w : List Int} (h : w.head? ≠ w.getLast?.map mate) : strip w = w := by
  rw [strip, dif_neg]
  exact fun z => h z.2
theorem strip_short {w : List Int} (h : w.length < 2) : strip w = w := by
  rw [strip, dif_neg]
  exact fun z => by omega
def core (w : List Int) : List Int := strip (freed w)
def Turn (a b : List Int) : Prop := ∃ u v, a = u ++ v ∧ b = v ++ u
theorem Turn.refl (a : List Int) : Turn a a := ⟨[], a, rfl, by simp⟩
theorem Turn.symm {a b : List Int} (h : Turn a b) : Turn b a := by
  obtain ⟨u, v, h1, h2⟩ := h
  exact ⟨v, u, h2, h1⟩
theorem app_split {u v p q : List Int} (h : u ++ v = p ++ q) : (∃ m, p = u ++ m ∧ v = m ++ q) ∨ ∃ m, u = p ++ m ∧ q = m ++ v := by
  rcases List.append_eq_append_iff.mp h with ⟨m, h1, h2⟩ | ⟨m, h1, h2⟩
  · exact .inl ⟨m, h1, h2⟩
  · exact .inr ⟨m, h1, h2⟩
theorem Turn.trans {a b c : List Int} (h : Turn a b) (k : Turn b c) : Turn a c := by
  obtain ⟨u, v, rfl, rfl⟩ := h
  obtain ⟨p, q, h1, rfl⟩ := k
  rcases app_split h1 with ⟨m, rfl, rfl⟩ | ⟨m, rfl, rfl⟩
  · exact ⟨m, q ++ v, by simp, by simp⟩
  · exact ⟨u ++ p, m, by simp, by simp⟩
theorem freed_head {a : Int} {r : List Int} (h : Rd r) : freed (a :: r) = if r.head? = some (mate a) then r.drop 1 else a :: r := by
  split
  · rename_i hh
    cases r with
    | nil => simp at hh
    | cons b r' =>
      have hb : b = mate a := by simpa using hh
      subst hb
      have h1 := freed_cut [] r' (mate a)
      rw [mate_mate] at h1
      simp only [List.nil_append] at h1
      rw [h1]
      simp only [List.drop_succ_cons, List.drop_zero]
      refine freed_of_rd r' fun i x y hx hy => h (i + 1) x y ?_ ?_
      · simpa using hx
      · simpa using hy
  · rename_i hh
    refine freed_of_rd _ fun i x y hx hy => ?_
    cases i with
    | zero =>
      have ex : a = x := by simpa using hx
      subst ex
      cases r with
      | nil => simp at hy
      | cons b r' =>
        have ey : b = y := by simpa using hy
        subst ey
        intro z
        exact hh (by simp [z])
    | succ i => exact h i x y (by simpa using hx) (by simpa using hy)
theorem last_snoc {r : List Int} {b : Int} (h : r.getLast? = some b) : r.dropLast ++ [b] = r := snoc_of_last h
theorem rd_sub {u m v : List Int} (h : Rd (u ++ m ++ v)) : Rd m := fun i x y hx hy => by
  refine h (u.length + i) x y ?_ ?_
  · rw [List.append_assoc, List.getElem?_append_right (by omega)]
    have e : u.length + i - u.length = i := by omega
    rw [e, List.getElem?_append_left (List.getElem?_eq_some_iff.mp hx).1]
    exact hx
  · rw [List.append_assoc, List.getElem?_append_right (by omega)]
    have e : u.length + i + 1 - u.length = i + 1 := by omega
    rw [e, List.getElem?_append_left (List.getElem?_eq_some_iff.mp hy).1]
    exact hy
theorem rd_two {u v : List Int} {x y : Int} (h : Rd (u ++ [x, y] ++ v)) : y ≠ mate x := rd_sub h 0 x y rfl rfl
theorem core_step (a : Int) (w : List Int) : Turn (core (a :: w)) (core (w ++ [a])) := by
  have e1 : freed (a :: w) = freed (a :: freed w) := by
    have h := freed_app [a] w
    have h2 := freed_app [a] (freed w)
    rw [freed_freed] at h2
    exact h.trans h2.symm
  have hr : Rd (freed w) := rd_freed w
  unfold core
  rw [freed_snoc, e1, freed_head hr]
  generalize freed w = r at hr
  unfold push
  by_cases hd : r.head? = some (mate a) <;> by_cases tl : r.getLast? = some (mate a)
  · rw [if_pos hd, if_pos tl]
    cases r with
    | nil => exact Turn.refl _
    | cons b r1 =>
      have hb : b = mate a := by simpa using hd
      subst hb
      rw [List.drop_succ_cons, List.drop_zero]
      by_cases h1 : r1 = []
      · subst h1
        exact Turn.refl _
      · have t1 : r1.getLast? = some (mate a) := by
          rw [List.getLast?_cons] at tl
          cases h2 : r1.getLast? with
          | none => exact absurd (List.getLast?_eq_none_iff.mp h2) h1
          | some z =>
            rw [h2] at tl
            exact tl
        have e := last_snoc t1
        generalize r1.dropLast = m at e
        subst e
        have e2 : (mate a :: (m ++ [mate a])).dropLast = mate a :: m := by
          rw [← List.cons_append, List.dropLast_concat]
        rw [e2]
        by_cases h2 : m = []
        · subst h2
          exact Turn.refl _
        · have n1 : (m ++ [mate a]).head? ≠ (m ++ [mate a]).getLast?.map mate := by
            rw [List.getLast?_append]
            cases m with
            | nil => exact absurd rfl h2
            | cons x m' =>
              have := rd_two (u := []) (v := m' ++ [mate a]) (x := mate a) (y := x) (by simpa using hr)
              simp [mate_mate] at this ⊢
              exact this
          have n2 : (mate a :: m).head? ≠ (mate a :: m).getLast?.map mate := by
            cases h3 : m.getLast? with
            | none => exact absurd (List.getLast?_eq_none_iff.mp h3) h2
            | some z =>
              rw [List.getLast?_cons, h3]
              have e3 := last_snoc h3
              have := rd_two (u := mate a :: m.dropLast) (v := []) (x := z) (y := mate a) (by
                have e4 : mate a :: m.dropLast ++ [z, mate a] ++ [] = mate a :: (m ++ [mate a]) := by
                  rw [← e3]
                  simp
                rw [e4]
                exact hr)
              simp only [List.head?_cons, Option.getD_some, Option.map_some]
              exact fun z' => this (Option.some.inj z')
          rw [strip_no n1, strip_no n2]
          exact ⟨m, [mate a], rfl, rfl⟩
  · rw [if_pos hd, if_neg tl]
    cases r with
    | nil => simp at hd
    | cons b r1 =>
      have hb : b = mate a := by simpa using hd
      subst hb
      rw [List.drop_succ_cons, List.drop_zero, List.cons_append, strip_yes]
      exact Turn.refl _
  · rw [if_neg hd, if_pos tl]
    have e := last_snoc tl
    generalize r.dropLast = m at e
    subst e
    have h := strip_yes (a := mate a) (m := m)
    rw [mate_mate] at h
    rw [h]
    exact Turn.refl _
  · rw [if_neg hd, if_neg tl]
    cases r with
    | nil => exact Turn.refl _
    | cons b r1 =>
      have n1 : (a :: b :: r1).head? ≠ (a :: b :: r1).getLast?.map mate := by
        rw [List.getLast?_cons]
        cases h3 : (b :: r1).getLast? with
        | none => exact absurd (List.getLast?_eq_none_iff.mp h3) (by simp)
        | some z =>
          rw [h3] at tl
          simp only [List.head?_cons, Option.getD_some, Option.map_some]
          exact fun q => tl (by rw [Option.some.inj q, mate_mate])
      have n2 : (b :: r1 ++ [a]).head? ≠ (b :: r1 ++ [a]).getLast?.map mate := by
        rw [List.getLast?_append]
        simp at hd ⊢
        exact hd
      rw [strip_no n1, strip_no n2]
      exact ⟨[a], b :: r1, rfl, rfl⟩
theorem core_turn : ∀ u w : List Int, Turn (core (u ++ w)) (core (w ++ u))
  | [], w => by
    rw [List.append_nil]
    exact Turn.refl _
  | a :: u, w => by
    have h1 := core_step a (u ++ w)
    have h2 := core_turn u (w ++ [a])
    have e1 : (u ++ w) ++ [a] = u ++ (w ++ [a]) := by simp
    have e2 : (w ++ [a]) ++ u = w ++ (a :: u) := by simp
    rw [e1] at h1
    rw [e2] at h2
    exact h1.trans h2
theorem undo_undo (u : List Int) : undo (undo u) = u := by
  unfold undo
  rw [← List.map_reverse, List.reverse_reverse, List.map_map]
  have : mate ∘ mate = id := by
    funext x
    exact mate_mate x
  rw [this, List.map_id]
theorem core_freed {a b : List Int} (h : freed a = freed b) : core a = core b := by
  unfold core
  rw [h]
theorem core_conj (u w : List Int) : Turn (core (u ++ w ++ undo u)) (core w) := by
  have h := core_turn u (w ++ undo u)
  rw [← List.append_assoc] at h
  refine h.trans ?_
  have e : freed (w ++ undo u ++ u) = freed w := by
    rw [List.append_assoc, freed_app]
    have h2 := freed_undo (undo u)
    rw [undo_undo] at h2
    rw [h2, List.append_nil, freed_freed]
  rw [core_freed e]
  exact Turn.refl _
theorem core_pair (u v : List Int) (b : Int) : core (u ++ b :: mate b :: v) = core (u ++ v) := by
  refine core_freed ?_
  have h := freed_cut u v (mate b)
  rw [mate_mate] at h
  exact h
def mid (w : List Int) (c : Nat) : List Int := (w.drop c).take (w.length - 2 * c)
theorem mid_zero (w : List Int) : mid w 0 = w := by
  unfold mid
  rw [List.drop_zero, Nat.mul_zero, Nat.sub_zero, List.take_length]
theorem mid_step {w : List Int} {c : Nat} {a b : Int} (h : 2 * c + 2 ≤ w.length) (ha : w[c]? = some a) (hb : w[w.length - 1 - c]? = some b) : mid w c = a :: (mid w (c + 1) ++ [b]) := by
  unfold mid
  have e1 : w.drop c = a :: w.drop (c + 1) := by
    have hc : c < w.length := by omega
    rw [List.drop_eq_getElem_cons hc]
    rw [List.getElem?_eq_getElem hc] at ha
    rw [Option.some.inj ha]
  have e2 : w.length - 2 * c = (w.length - 2 * (c + 1) + 1) + 1 := by omega
  rw [e1, e2, List.take_succ_cons, List.take_add_one]
  have e3 : (w.drop (c + 1))[w.length - 2 * (c + 1)]? = some b := by
    rw [List.getElem?_drop]
    have : c + 1 + (w.length - 2 * (c + 1)) = w.length - 1 - c := by omega
    rw [this]
    exact hb
  rw [e3]
  rfl
theorem mid_yes {w : List Int} {c : Nat} {a b : Int} (h : 2 * c + 2 ≤ w.length) (ha : w[c]? = some a) (hb : w[w.length - 1 - c]? = some b) (e : a = mate b) : strip (mid w c) = strip (mid w (c + 1)) := by
  rw [mid_step h ha hb, e, strip_yes]
theorem mid_no {w : List Int} {c : Nat} {a b : Int} (h : 2 * c + 2 ≤ w.length) (ha : w[c]? = some a) (hb : w[w.length - 1 - c]? = some b) (e : a ≠ mate b) : strip (mid w c) = mid w c := by
  refine strip_no ?_
  rw [mid_step h ha hb]
  have : (a :: (mid w (c + 1) ++ [b])).getLast? = some b := by simp [List.getLast?_cons]
  rw [this]
  simpa using e
theorem mid_short {w : List Int} {c : Nat} (h : w.length < 2 * c + 2) : strip (mid w c) = mid w c := by
  refine strip_short ?_
  unfold mid
  rw [List.length_take, List.length_drop]
  omega
theorem mid_mem {w : List Int} {c : Nat} {x : Int} (h : x ∈ mid w c) : x ∈ w := List.mem_of_mem_drop (List.mem_of_mem_take h)
theorem mid_len (w : List Int) (c : Nat) : (mid w c).length ≤ w.length := by
  unfold mid
  rw [List.length_take, List.length_drop]
  omega
end Wd
set_option maxRecDepth 100000
set_option maxHeartbeats 4000000
namespace Tt
open PySem L2
section
variable {P : Program} {w : World} {K : PySem.W.Frag} {mg : Str → Option Value} {base : Heap}
def turnAt (ns : List Int) (i : Nat) : List Int := ns.drop i ++ ns.take i
def turns (ns : List Int) : List (List Int) := (List.range ns.length).map (turnAt ns)
def minR (r0 : List Int) (rs : List (List Int)) : List Int := rs.foldl (fun a y => if PySem.W.dataLt (rowD y) (rowD a) then y else a) r0
theorem minR_D : ∀ (rs : List (List Int)) (r0 : List Int), PySem.W.minD (rowD r0) (rs.map rowD) = rowD (minR r0 rs)
  | [], _ => rfl
  | y :: rs, r0 => by
    show PySem.W.minD (if PySem.W.dataLt (rowD y) (rowD r0) then rowD y else rowD r0) (rs.map rowD) = rowD (minR (if PySem.W.dataLt (rowD y) (rowD r0) then y else r0) rs)
    by_cases h : PySem.W.dataLt (rowD y) (rowD r0) = true
    · rw [if_pos h, if_pos h]
      exact minR_D rs y
    · rw [if_neg h, if_neg h]
      exact minR_D rs r0
def leastT (ns : List Int) : List Int := match turns ns with
  | [] => []
  | r0 :: rs => minR r0 rs
theorem turns_len (ns : List Int) : (turns ns).length = ns.length := by unfold turns; rw [List.length_map, List.length_range]
theorem turns_get {ns : List Int} {i : Nat} (h : i < ns.length) : (turns ns)[i]? = some (turnAt ns i) := by
  unfold turns
  rw [List.getElem?_map, List.getElem?_range h]
  rfl
theorem pair_snoc {α β : Type} {F : α → β → Prop} : ∀ {l : List α} {k : List β} {a : α} {b : β}, Paired F l k → F a b → Paired F (l ++ [a]) (k ++ [b])
  | _, _, _, _, .nil, r => .cons r .nil
  | _, _, _, _, .cons r t, q => .cons r (pair_snoc t q)
theorem pair_mono {α β : Type} {F G : α → β → Prop} (f : ∀ a b, F a b → G a b) : ∀ {l : List α} {k : List β}, Paired F l k → Paired G l k
  | _, _, .nil => .nil
  | _, _, .cons r t => .cons (f _ _ r) (pair_mono f t)
theorem sqT_put {H : Hp} {p l : Addr} {xs ys : List V} {o : HO} (h : SqT K H p xs) (e : H l = some (.lst ys)) : SqT K (upd H l o) p xs := by
  rcases h with (h | ⟨ob, h⟩) | h
  · exact .inl (.inl (by rw [upd_ne (ne_of h e (fun z => nomatch z))]; exact h))
  · exact .inl (.inr ⟨ob, by rw [upd_ne (ne_of h e (fun z => nomatch z))]; exact h⟩)
  · exact .inr h
def spLeast (K : PySem.W.Frag) : Sp := fun vs H Q _ => ∃ (p : Addr) (ns : List Int), vs = [.ref p] ∧ SqT K H p (ns.map V.int) ∧ ns ≠ [] ∧ ns.length ≤ 400 ∧
  ∀ q H', Same H H' → SqT K H' q ((leastT ns).map V.int) → Q (.ref q) H'
end
end Tt
set_option maxRecDepth 100000
set_option maxHeartbeats 4000000
namespace Tt
open PySem L2
theorem row_lt (a b : List Int) : PySem.W.dataLt (rowD a) (rowD b) = decide (a < b) := by
  unfold rowD
  rw [PySem.W.dataLt_tuple]
  exact PySem.W.dataLt_ints a b
theorem minR_mem : ∀ (rs : List (List Int)) (r0 : List Int), minR r0 rs ∈ r0 :: rs
  | [], _ => List.mem_singleton.mpr rfl
  | y :: rs, r0 => by
    have h := minR_mem rs (if PySem.W.dataLt (rowD y) (rowD r0) then y else r0)
    show minR (if PySem.W.dataLt (rowD y) (rowD r0) then y else r0) rs ∈ _
    rcases List.mem_cons.mp h with h | h
    · rw [h]
      split
      · exact List.mem_cons_of_mem _ List.mem_cons_self
      · exact List.mem_cons_self
    · exact List.mem_cons_of_mem _ (List.mem_cons_of_mem _ h)
theorem minR_le : ∀ (rs : List (List Int)) (r0 y : List Int), y ∈ r0 :: rs → ¬ y < minR r0 rs
  | [], r0, y, h => by
    rw [List.mem_singleton.mp h]
    exact List.lt_irrefl _
  | z :: rs, r0, y, h => by
    show ¬ y < minR (if PySem.W.dataLt (rowD z) (rowD r0) then z else r0) rs
    have ih := minR_le rs (if PySem.W.dataLt (rowD z) (rowD r0) then z else r0)
    rw [row_lt] at ih ⊢
    by_cases c : z < r0
    · simp only [c, decide_true, if_true] at ih ⊢
      rcases List.mem_cons.mp h with rfl | h
      · exact fun q => ih z List.mem_cons_self (List.lt_trans c q)
      · rcases List.mem_cons.mp h with rfl | h
        · exact ih _ List.mem_cons_self
        · exact ih _ (List.mem_cons_of_mem _ h)
    · simp only [c, decide_false] at ih ⊢
      rcases List.mem_cons.mp h with rfl | h
      · exact ih _ List.mem_cons_self
      · rcases List.mem_cons.mp h with rfl | h
        · intro q
          have h1 := ih r0 List.mem_cons_self
          exact h1 (by
            rcases Classical.em (r0 < y) with k | k
            · exact List.lt_trans k q
            · have : r0 = y := List.le_antisymm (as := r0) (bs := y) (by simpa using c) (by simpa using k)
              subst this
              exact q)
        · exact ih _ (List.mem_cons_of_mem _ h)
theorem turnAt_turn {ns : List Int} (i : Nat) : Wd.Turn ns (turnAt ns i) := ⟨ns.take i, ns.drop i, (List.take_append_drop i ns).symm, rfl⟩
theorem mem_turns {ns t : List Int} (hne : ns ≠ []) : t ∈ turns ns ↔ Wd.Turn ns t := by
  constructor
  · intro h
    unfold turns at h
    obtain ⟨i, _, rfl⟩ := List.mem_map.mp h
    exact turnAt_turn i
  · rintro ⟨u, v, rfl, rfl⟩
    unfold turns
    by_cases hv : v = []
    · subst hv
      refine List.mem_map.mpr ⟨0, List.mem_range.mpr ?_, ?_⟩
      · exact List.length_pos_iff.mpr hne
      · unfold turnAt
        simp
    · refine List.mem_map.mpr ⟨u.length, List.mem_range.mpr ?_, ?_⟩
      · rw [List.length_append]
        have := List.length_pos_iff.mpr hv
        omega
      · unfold turnAt
        simp
theorem leastT_facts {ns : List Int} (hne : ns ≠ []) : leastT ns ∈ turns ns ∧ ∀ t ∈ turns ns, ¬ t < leastT ns := by
  unfold leastT
  cases ht : turns ns with
  | nil =>
    have := turns_len ns
    rw [ht] at this
    exact absurd (List.length_eq_zero_iff.mp this.symm) hne
  | cons r0 rs => exact ⟨minR_mem rs r0, fun t h => minR_le rs r0 t h⟩
theorem leastT_turn {ns : List Int} (hne : ns ≠ []) : Wd.Turn ns (leastT ns) := (mem_turns hne).mp (leastT_facts hne).1
theorem turn_nil {a b : List Int} (h : Wd.Turn a b) : a = [] ↔ b = [] := by
  obtain ⟨u, v, rfl, rfl⟩ := h
  simp [and_comm]
theorem leastT_eq {a b : List Int} (h : Wd.Turn a b) : leastT a = leastT b := by
  by_cases ha : a = []
  · have hb := (turn_nil h).mp ha
    rw [ha, hb]
  · have hb : b ≠ [] := fun z => ha ((turn_nil h).mpr z)
    obtain ⟨a1, a2⟩ := leastT_facts ha
    obtain ⟨b1, b2⟩ := leastT_facts hb
    have m1 : leastT b ∈ turns a := (mem_turns ha).mpr (h.trans ((mem_turns hb).mp b1))
    have m2 : leastT a ∈ turns b := (mem_turns hb).mpr (h.symm.trans ((mem_turns ha).mp a1))
    have l1 := a2 _ m1
    have l2 := b2 _ m2
    exact List.le_antisymm (as := leastT a) (bs := leastT b) (by simpa using l1) (by simpa using l2)
theorem turn_of_leastT {a b : List Int} (h : leastT a = leastT b) : Wd.Turn a b := by
  by_cases ha : a = [] <;> by_cases hb : b = []
  · rw [ha, hb]
    exact Wd.Turn.refl _
  · have h2 := (turn_nil (leastT_turn hb))
    rw [← h, ha] at h2
    exact absurd (h2.mpr rfl) hb
  · have h2 := (turn_nil (leastT_turn ha))
    rw [h, hb] at h2
    exact absurd (h2.mpr rfl) ha
  · have h1 := leastT_turn ha
    rw [h] at h1
    exact h1.trans (leastT_turn hb).symm
def closedT (ns : List Int) : List Int := leastT (Wd.core ns)
theorem leastT_nil : leastT [] = [] := rfl
theorem closedT_freed {a b : List Int} (h : Wd.Turn (Wd.core a) (Wd.core b)) : closedT a = closedT b := leastT_eq h
end Tt
set_option maxRecDepth 100000
set_option maxHeartbeats 4000000
namespace Tt
open PySem L2
theorem turnAt_lenL (ns : List Int) (i : Nat) : (turnAt ns i).length = ns.length := by
  unfold turnAt
  rw [List.length_append, List.length_drop, List.length_take]
  omega
theorem turnAt_mem {ns : List Int} {i : Nat} (h : i < ns.length) : turnAt ns i ∈ turns ns := List.mem_map.mpr ⟨i, List.mem_range.mpr h, rfl⟩
theorem turnAt_add {ns : List Int} {i t : Nat} (h : i + t ≤ ns.length) : turnAt (turnAt ns i) t = turnAt ns (i + t) := by
  unfold turnAt
  have e1 : (ns.drop i ++ ns.take i).drop t = ns.drop (i + t) ++ ns.take i := by
    rw [List.drop_append_of_le_length (by rw [List.length_drop]; omega), List.drop_drop]
  have e2 : (ns.drop i ++ ns.take i).take t = (ns.drop i).take t := List.take_append_of_le_length (by rw [List.length_drop]; omega)
  rw [e1, e2, List.append_assoc, ← List.take_add]
theorem turnAt_wrap {ns : List Int} {i t : Nat} (hi : i ≤ ns.length) (ht : t ≤ ns.length) (h : ns.length ≤ i + t) : turnAt (turnAt ns i) t = turnAt ns (i + t - ns.length) := by
  unfold turnAt
  have l1 : (ns.drop i).length = ns.length - i := List.length_drop
  have e1 : (ns.drop i ++ ns.take i).drop t = (ns.take i).drop (i + t - ns.length) := by
    rw [List.drop_append, List.drop_eq_nil_of_le (by omega), List.nil_append, l1]
    congr 1
    omega
  have e2 : (ns.drop i ++ ns.take i).take t = ns.drop i ++ (ns.take i).take (i + t - ns.length) := by
    rw [List.take_append, List.take_of_length_le (by omega), l1]
    congr 2
    omega
  have e3 : (ns.take i).take (i + t - ns.length) = ns.take (i + t - ns.length) := by
    rw [List.take_take]
    congr 1
    omega
  have e4 : (ns.take i).drop (i + t - ns.length) ++ ns.drop i = ns.drop (i + t - ns.length) := by
    have h2 : ns.drop (i + t - ns.length) = (ns.take i ++ ns.drop i).drop (i + t - ns.length) := by rw [List.take_append_drop]
    rw [h2, List.drop_append_of_le_length (by rw [List.length_take]; omega)]
  rw [e1, e2, e3, ← List.append_assoc, e4]
theorem turnAt_turn_mem {ns : List Int} {i t : Nat} (hi : i < ns.length) (ht : t < ns.length) : turnAt (turnAt ns i) t ∈ turns ns := by
  by_cases h : i + t < ns.length
  · rw [turnAt_add (by omega)]
    exact turnAt_mem h
  · rw [turnAt_wrap (by omega) (by omega) (by omega)]
    exact turnAt_mem (by omega)
theorem turnAt_get {ns : List Int} {i k : Nat} (hi : i < ns.length) (hk : k < ns.length) : (turnAt ns i)[k]? = ns[(i + k) % ns.length]? := by
  unfold turnAt
  by_cases h : i + k < ns.length
  · rw [List.getElem?_append_left (by rw [List.length_drop]; omega), List.getElem?_drop, Nat.mod_eq_of_lt h]
  · rw [List.getElem?_append_right (by rw [List.length_drop]; omega), List.length_drop, List.getElem?_take, if_pos (by omega)]
    have e : (i + k) % ns.length = i + k - ns.length := by
      rw [Nat.mod_eq_sub_mod (by omega), Nat.mod_eq_of_lt (by omega)]
    rw [e]
    congr 1
    omega
theorem lt_ahead {x y : Int} (h : y < x) : ∀ (p a b : List Int), p ++ y :: b < p ++ x :: a
  | [], _, _ => List.cons_lt_cons_iff.mpr (.inl h)
  | c :: p, a, b => List.cons_lt_cons_iff.mpr (.inr ⟨rfl, lt_ahead h p a b⟩)
theorem cut_at {A : List Int} {k : Nat} {x : Int} (h : A[k]? = some x) : A = A.take k ++ x :: A.drop (k + 1) := by
  obtain ⟨hk, e⟩ := List.getElem?_eq_some_iff.mp h
  rw [← e, ← List.drop_eq_getElem_cons hk, List.take_append_drop]
theorem turn_lt {A B : List Int} {k t : Nat} {x y : Int} (ht : t ≤ k) (hp : A.take k = B.take k) (hx : A[k]? = some x) (hy : B[k]? = some y) (h : y < x) : turnAt B t < turnAt A t := by
  have ka := (List.getElem?_eq_some_iff.mp hx).1
  have kb := (List.getElem?_eq_some_iff.mp hy).1
  have eA := cut_at hx
  have eB := cut_at hy
  rw [← hp] at eB
  have lp : (A.take k).length = k := by rw [List.length_take]; omega
  generalize A.take k = p at eA eB lp
  generalize A.drop (k + 1) = a at eA
  generalize B.drop (k + 1) = b at eB
  subst eA
  subst eB
  unfold turnAt
  rw [List.drop_append_of_le_length (by omega), List.drop_append_of_le_length (by omega), List.take_append_of_le_length (by omega), List.take_append_of_le_length (by omega), List.append_assoc, List.append_assoc]
  exact lt_ahead h _ _ _
def NoL (ns : List Int) (p : Nat) : Prop := ∃ t ∈ turns ns, t < turnAt ns p
theorem noL_of {ns : List Int} {i j k t : Nat} {x y : Int} (hi : i + t < ns.length) (hj : j < ns.length) (hk : k < ns.length) (ht : t ≤ k) (hp : (turnAt ns i).take k = (turnAt ns j).take k)
    (hx : (turnAt ns i)[k]? = some x) (hy : (turnAt ns j)[k]? = some y) (h : y < x) : NoL ns (i + t) := by
  refine ⟨_, turnAt_turn_mem hj (t := t) (by omega), ?_⟩
  rw [← turnAt_add (by omega)]
  exact turn_lt ht hp hx hy h
def Beaten (ns : List Int) (i j : Nat) : Prop := i ≠ j ∧ ∀ p, p < ns.length → p < max i j → p ≠ min i j → NoL ns p
theorem Beaten.symm {ns : List Int} {i j : Nat} (h : Beaten ns i j) : Beaten ns j i := ⟨fun e => h.1 e.symm, fun p h1 h2 h3 => h.2 p h1 (by omega) (by omega)⟩
theorem Beaten.step {ns : List Int} {i j k : Nat} (h : Beaten ns i j) (n : ∀ t, t ≤ k → i + t < ns.length → NoL ns (i + t)) : (i + k + 1 ≠ j → Beaten ns (i + k + 1) j) ∧ (i + k + 1 = j → Beaten ns j (j + 1)) := by
  have own : ∀ p, p < ns.length → i ≤ p → p ≤ i + k → NoL ns p := fun p h1 h2 h3 => by
    have := n (p - i) (by omega) (by omega)
    have e : i + (p - i) = p := by omega
    rw [e] at this
    exact this
  have hh := h.1
  refine ⟨fun e => ⟨e, fun p h1 h2 h3 => ?_⟩, fun e => ⟨by omega, fun p h1 h2 h3 => ?_⟩⟩
  · by_cases c : i ≤ p ∧ p ≤ i + k
    · exact own p h1 c.1 c.2
    · exact h.2 p h1 (by omega) (by omega)
  · by_cases c : i ≤ p ∧ p ≤ i + k
    · exact own p h1 c.1 c.2
    · exact h.2 p h1 (by omega) (by omega)
theorem least_far {ns L : List Int} {i j : Nat} (b : Beaten ns i j) (hf : ns.length ≤ max i j) (hL : L ∈ turns ns) (hm : ∀ t ∈ turns ns, ¬ t < L) : turnAt ns (min i j) = L ∧ min i j < ns.length := by
  obtain ⟨p, hp, rfl⟩ := List.mem_map.mp hL
  have hp' := List.mem_range.mp hp
  have e : p = min i j := Classical.byContradiction fun z => by
    obtain ⟨t, h1, h2⟩ := b.2 p hp' (by omega) z
    exact hm t h1 h2
  exact ⟨by rw [e], by omega⟩
theorem least_like {ns L : List Int} {i j : Nat} (b : Beaten ns i j) (hi : i < ns.length) (hj : j < ns.length) (ha : turnAt ns i = turnAt ns j) (hL : L ∈ turns ns) (hm : ∀ t ∈ turns ns, ¬ t < L) : turnAt ns (min i j) = L := by
  have hh := b.1
  have main : ∀ p, p < ns.length → turnAt ns p = L → turnAt ns (min i j) = L := fun p => by
    induction p using Nat.strongRecOn with
    | ind p ih =>
      intro h1 h2
      by_cases c : p < max i j
      · have e : p = min i j := Classical.byContradiction fun z => by
          obtain ⟨t, q1, q2⟩ := b.2 p h1 c z
          rw [h2] at q2
          exact hm t q1 q2
        rw [← e]
        exact h2
      · have e1 : turnAt ns (max i j) = turnAt ns (min i j) := by
          by_cases c2 : i < j
          · rw [Nat.max_eq_right (by omega), Nat.min_eq_left (by omega), ha]
          · rw [Nat.max_eq_left (by omega), Nat.min_eq_right (by omega), ha]
        have e2 := turnAt_add (ns := ns) (i := max i j) (t := p - max i j) (by omega)
        have e3 : max i j + (p - max i j) = p := by omega
        rw [e3, e1, turnAt_add (by omega)] at e2
        exact ih (min i j + (p - max i j)) (by omega) (by omega) (e2.trans h2)
  obtain ⟨p, hp, e⟩ := List.mem_map.mp hL
  exact main p (List.mem_range.mp hp) e
theorem take_more {A B : List Int} {k : Nat} {x : Int} (hp : A.take k = B.take k) (hx : A[k]? = some x) (hy : B[k]? = some x) : A.take (k + 1) = B.take (k + 1) := by
  rw [List.take_add_one, List.take_add_one, hp, hx, hy]
theorem leastT_far {ns : List Int} {i j : Nat} (hne : ns ≠ []) (b : Beaten ns i j) (hf : ns.length ≤ max i j) : turnAt ns (min i j) = leastT ns ∧ min i j < ns.length :=
  least_far b hf (leastT_facts hne).1 (leastT_facts hne).2
theorem leastT_like {ns : List Int} {i j : Nat} (hne : ns ≠ []) (b : Beaten ns i j) (hi : i < ns.length) (hj : j < ns.length) (ha : (turnAt ns i).take ns.length = (turnAt ns j).take ns.length) : turnAt ns (min i j) = leastT ns := by
  rw [List.take_of_length_le (by rw [turnAt_lenL]; exact Nat.le_refl _), List.take_of_length_le (by rw [turnAt_lenL]; exact Nat.le_refl _)] at ha
  exact least_like b hi hj ha (leastT_facts hne).1 (leastT_facts hne).2
theorem turn_letter {ns : List Int} {i k : Nat} (hi : i < ns.length) (hk : k < ns.length) : ∃ x, ns[(i + k) % ns.length]? = some x ∧ (turnAt ns i)[k]? = some x := by
  have h : (i + k) % ns.length < ns.length := Nat.mod_lt _ (by omega)
  refine ⟨_, List.getElem?_eq_getElem h, ?_⟩
  rw [turnAt_get hi hk]
  exact List.getElem?_eq_getElem h
theorem beaten_zero (ns : List Int) : Beaten ns 0 1 := ⟨by omega, fun p _ h2 h3 => absurd h2 (by omega)⟩
end Tt
set_option maxRecDepth 100000
set_option maxHeartbeats 4000000
namespace Tt
open PySem L2
section
variable {P : Program} {w : World} {K : PySem.W.Frag} {mg : Str → Option Value} {base : Heap}
theorem while_by3 {c : TT} {tb : TS} {D : Ends} {σ : L2.St} {H : Hp} (Pv : L2.St → Hp → Prop) (μ : L2.St → Hp → Nat) (h0 : Pv σ H)
    (hs : ∀ σ H, Pv σ H → c σ H fun b H1 => if b = true then ∃ N : L2.St → Hp → Prop, (∀ σ' H', N σ' H' → ∃ m', m' < μ σ H ∧ (m' = μ σ' H' ∧ Pv σ' H')) ∧ tb { D with nx := N, ct := N, bk := D.nx } σ H1 else D.nx σ H1) : tWhile c tb D σ H := by
  refine ⟨fun m σ H => m = μ σ H ∧ Pv σ H, ⟨_, rfl, h0⟩, ?_⟩
  rintro m σ H ⟨rfl, p⟩
  exact hs σ H p
theorem let_one {J C G : Prop} (main : (J → C) → G) (rest : J → C) : G := main rest
def readTo (n : Nat) : L2.St → Hp → Nat := fun σ _ => match σ[2]?, σ[3]?, σ[4]? with
  | some (some (V.int i)), some (some (V.int j)), some (some (V.int k)) => 3 * n - (i.toNat + j.toNat + k.toNat)
  | _, _, _ => 0
theorem ok_least_turn (T : Txt K mg) : FnOk P w K mg base CX0 2 T.least_turn.a T.least_turn.fd ["word"] (spLeast K) := by
  refine T.least_turn.F.ok sc_least_turn (fun vs H Q E h => ?_) (fun cdv A outer s H vs Q E hr h => ?_)
  · obtain ⟨p, ns, rfl, _⟩ := h
    rfl
  · obtain ⟨p, ns, rfl, hp, hne, hl, k⟩ := h
    have nd := sc_least_turn.nd
    refine ⟨_, (pss_cons (ps_set (i := 1) nd rfl (Or.inl rfl) (pe_callB call_len_seq (by rfl) T.zlen (by decide +kernel) (pa_cons (pv 0) pa_nil)))
    (pss_cons (ps_asg (pe_tup (pa_cons pe_int (pa_cons pe_int (pa_cons pe_int pa_nil)))) (pg_tup rfl (pgs_cons (pg_name (i := 2) nd rfl (Or.inl rfl)) (pgs_cons (pg_name (i := 3) nd rfl (Or.inl rfl)) (pgs_cons (pg_name (i := 4) nd rfl (Or.inl rfl)) pgs_nil)))))
    (pss_cons (ps_while PassesOwn.never (PW.pt (pw_and (pt_cmpR op_lt (pv 2) (pv 1) (nomark _)) (pw_and (pt_cmpR op_lt (pv 3) (pv 1) (nomark _)) (pw_and1 (pt_cmpR op_lt (pv 4) (pv 1) (nomark _))))))
      (pss_cons (ps_par (i := 5) (j := 6) rfl nd rfl rfl (by decide) rfl rfl (pa_cons (pe_ix ix_tup (pv 0) (pe_op op_mod (pe_op op_add (pv 2) (pv 4)) (pv 1)) (fun _ _ => rfl)) (pa_cons (pe_ix ix_tup (pv 0) (pe_op op_mod (pe_op op_add (pv 3) (pv 4)) (pv 1)) (fun _ _ => rfl)) pa_nil)) rfl)
      (pss_cons (ps_if (pt_cmpR op_eq (pv 5) (pv 6) (nomark _))
        (pss_cons (ps_aug (i := 4) nd rfl (Or.inl rfl) pe_int ip_add)
        (pss_one ps_continue))
        pss_nil)
      (pss_cons (ps_if (pt_cmpR op_gt (pv 5) (pv 6) (nomark _))
        (pss_one (ps_aug (i := 2) nd rfl (Or.inl rfl) (pe_op op_add (pv 4) pe_int) ip_add))
        (pss_one (ps_aug (i := 3) nd rfl (Or.inl rfl) (pe_op op_add (pv 4) pe_int) ip_add)))
      (pss_cons (ps_if (pt_cmpR op_eq (pv 2) (pv 3) (nomark _))
        (pss_one (ps_aug (i := 3) nd rfl (Or.inl rfl) pe_int ip_add))
        pss_nil)
      (pss_one (ps_set (i := 4) nd rfl (Or.inl rfl) pe_int)))))))
    (pss_cons (ps_set (i := 7) nd rfl (Or.inl rfl) (pe_callB (call_min2 rfl) (by rfl) T.zmin (by decide +kernel) (pa_cons (pv 2) (pa_cons (pv 3) pa_nil))))
    (pss_one (ps_ret (pe_op op_catA (pe_slice sl_tupA (pv 0) (po_some (pv 7)) po_none) (pe_slice sl_tupA (pv 0) po_none (po_some (pv 7)))))))))), ?_⟩
    have lm : (ns.map V.int).length = ns.length := List.length_map ..
    have l0 := List.length_pos_iff.mpr hne
    refine ⟨_, rfl, p, _, rfl, .inr hp, ?_⟩
    rw [lm]
    refine ⟨(by show 3 ≤ sizeLine; decide), fun a3 ha3 => ⟨a3, _, rfl, SqT.of upd_same, rfl, _, _, rfl, _, _, rfl, _, _, rfl, rfl, ?_⟩⟩
    have s0 : Same H (upd H a3 (.tup [.int 0, .int 1, .int 0])) := same_new ha3
    have hp0 := same_seqT s0 hp
    generalize upd H a3 (.tup [.int 0, .int 1, .int 0]) = H0 at s0 hp0
    refine while_by3 (fun σ H' => H' = H0 ∧ ∃ (i j c : Nat) (f g : Option V), σ = [some (.ref p), some (.int (ns.length : Int)), some (.int (i : Int)), some (.int (j : Int)), some (.int (c : Int)), f, g, none] ∧ Beaten ns i j ∧ c ≤ ns.length ∧ (0 < c → i < ns.length ∧ j < ns.length) ∧ (turnAt ns i).take c = (turnAt ns j).take c) (readTo ns.length)
      ⟨rfl, 0, 1, 0, none, none, rfl, beaten_zero ns, Nat.zero_le _, (fun z => absurd z (by omega)), rfl⟩ ?_
    rintro σ H' ⟨rfl, i, j, c, f, g, rfl, bt, hc, hij, ht⟩
    apply let_one (J := turnAt ns (min i j) = leastT ns ∧ min i j < ns.length)
    · intro out
      refine ⟨_, rfl, _, rfl, _, _, rfl, rfl, _, rfl, ite2 (fun c1 => ?_) (fun c1 => ?_)⟩
      · refine ⟨_, rfl, _, rfl, _, _, rfl, rfl, _, rfl, ite2 (fun c2 => ?_) (fun c2 => ?_)⟩
        · refine ⟨_, rfl, _, rfl, _, _, rfl, rfl, _, rfl, ite2 (fun c3 => ?_) (fun c3 => ?_)⟩
          · have g1 : i < ns.length := by simpa using c1
            have g2 : j < ns.length := by simpa using c2
            have g3 : c < ns.length := by simpa using c3
            obtain ⟨x, x1, x2⟩ := turn_letter g1 g3
            obtain ⟨y, y1, y2⟩ := turn_letter g2 g3
            have a1 : atI (ns.map V.int) (((i : Int) + (c : Int)) % (ns.length : Int)) = some (V.int x) := atI_nat (j := (i + c) % ns.length) (ints_get x1)
            have a2 : atI (ns.map V.int) (((j : Int) + (c : Int)) % (ns.length : Int)) = some (V.int y) := atI_nat (j := (j + c) % ns.length) (ints_get y1)
            refine ⟨fun σ' H'' => readTo ns.length σ' H'' < _ ∧ H'' = H' ∧ _, fun σ' H'' h => ⟨_, h.1, rfl, h.2⟩, ?_⟩
            have lt0 : ∀ (i' j' c' : Nat) (f' g' : Option V), i + j + c < i' + j' + c' → readTo ns.length [some (.ref p), some (.int (ns.length : Int)), some (.int (i' : Int)), some (.int (j' : Int)), some (.int (c' : Int)), f', g', none] H' < readTo ns.length [some (.ref p), some (.int (ns.length : Int)), some (.int (i : Int)), some (.int (j : Int)), some (.int (c : Int)), f, g, none] H' := fun i' j' c' f' g' h => by
              show 3 * ns.length - ((i' : Int).toNat + (j' : Int).toNat + (c' : Int).toNat) < 3 * ns.length - ((i : Int).toNat + (j : Int).toNat + (c : Int).toNat)
              omega
            have fin : ∀ (i' j' : Nat), i + j + c < i' + j' → Beaten ns i' j' → ∀ G : Prop, (readTo ns.length [some (.ref p), some (.int (ns.length : Int)), some (.int (i' : Int)), some (.int (j' : Int)), some (.int 0), some (V.int x), some (V.int y), none] H' < readTo ns.length [some (.ref p), some (.int (ns.length : Int)), some (.int (i : Int)), some (.int (j : Int)), some (.int (c : Int)), f, g, none] H' ∧ H' = H' ∧ (∃ (i c2 c : Nat) (f g : Option V), [some (.ref p), some (.int (ns.length : Int)), some (.int (i' : Int)), some (.int (j' : Int)), some (.int 0), some (V.int x), some (V.int y), none] = [some (.ref p), some (.int (ns.length : Int)), some (.int (i : Int)), some (.int (c2 : Int)), some (.int (c : Int)), f, g, none] ∧ Beaten ns i c2 ∧ c ≤ ns.length ∧ (0 < c → i < ns.length ∧ c2 < ns.length) ∧ (turnAt ns i).take c = (turnAt ns c2).take c) → G) → G := fun i' j' h b G k => k ⟨lt0 i' j' 0 _ _ (by omega), rfl, i', j', 0, _, _, rfl, b, Nat.zero_le _, (fun z => absurd z (by omega)), rfl⟩
            refine ⟨_, rfl, ?_⟩
            refine ⟨_, rfl, _, rfl, _, _, rfl, rfl, _, rfl, _, _, rfl, rfl, by omega, p, _, _, _, rfl, rfl, hp0, a1, ?_⟩
            refine ⟨_, rfl, _, rfl, _, rfl, _, _, rfl, rfl, _, rfl, _, _, rfl, rfl, by omega, p, _, _, _, rfl, rfl, hp0, a2, _, _, rfl, ?_⟩
            refine ⟨_, rfl, _, rfl, rfl, _, rfl, ite2 (fun c4 => ?_) (fun c4 => ?_)⟩
            · have g4 : x = y := by simpa using c4
              subst g4
              refine ⟨_, rfl, _, _, rfl, rfl, lt0 i j (c + 1) _ _ (by omega), rfl, i, j, c + 1, _, _, rfl, bt, g3, fun _ => ⟨g1, g2⟩, take_more ht x2 y2⟩
            · have g4 : ¬ x = y := by simpa using c4
              refine ⟨_, rfl, _, rfl, _, _, rfl, rfl, _, rfl, ite2 (fun c5 => ?_) (fun c5 => ?_)⟩
              · have g5 : y < x := by simpa using c5
                have bs := bt.step (k := c) fun t t1 t2 => noL_of t2 g2 g3 t1 ht x2 y2 g5
                refine ⟨_, rfl, _, rfl, _, _, rfl, rfl, _, _, rfl, rfl, ?_⟩
                refine ⟨_, rfl, _, rfl, rfl, _, rfl, ite2 (fun c6 => ?_) (fun c6 => ?_)⟩
                · have g6 : i + c + 1 = j := by
                    have : (i : Int) + ((c : Int) + 1) = (j : Int) := by simpa using c6
                    omega
                  have b2 := bs.2 g6
                  refine ⟨_, rfl, _, _, rfl, rfl, ?_⟩
                  refine fin (i + (c + 1)) (j + 1) (by omega) ?_ _ fun z => z
                  have e : i + (c + 1) = j := by omega
                  rw [e]
                  exact b2
                · have g6 : i + c + 1 ≠ j := fun z => c6 (by
                    have : (i : Int) + ((c : Int) + 1) = (j : Int) := by omega
                    simp [this])
                  exact fin (i + (c + 1)) j (by omega) (bs.1 g6) _ fun z => z
              · have g5 : x < y := by
                  have : ¬ y < x := by simpa using c5
                  omega
                have bs := bt.symm.step (k := c) fun t t1 t2 => noL_of t2 g1 g3 t1 ht.symm y2 x2 g5
                refine ⟨_, rfl, _, rfl, _, _, rfl, rfl, _, _, rfl, rfl, ?_⟩
                refine ⟨_, rfl, _, rfl, rfl, _, rfl, ite2 (fun c6 => ?_) (fun c6 => ?_)⟩
                · have g6 : j + c + 1 = i := by
                    have : (i : Int) = (j : Int) + ((c : Int) + 1) := by simpa using c6
                    omega
                  have b2 := bs.2 g6
                  refine ⟨_, rfl, _, _, rfl, rfl, ?_⟩
                  refine fin i (j + (c + 1) + 1) (by omega) ?_ _ fun z => z
                  have e : j + (c + 1) = i := by omega
                  rw [e]
                  exact b2
                · have g6 : j + c + 1 ≠ i := fun z => c6 (by
                    have : (i : Int) = (j : Int) + ((c : Int) + 1) := by omega
                    simp [this])
                  exact fin i (j + (c + 1)) (by omega) (bs.1 g6).symm _ fun z => z
          · have g1 : i < ns.length := by simpa using c1
            have g2 : j < ns.length := by simpa using c2
            have g3 : c = ns.length := by
              have : ¬ c < ns.length := by simpa using c3
              omega
            subst g3
            exact out ⟨leastT_like hne bt g1 g2 ht, by omega⟩
        · have g2 : ns.length ≤ j := by simpa using c2
          exact iteF (out (leastT_far hne bt (by omega)))
      · have g1 : ns.length ≤ i := by simpa using c1
        exact iteF (out (leastT_far hne bt (by omega)))
    rintro ⟨e1, e2⟩
    refine ⟨_, rfl, _, rfl, _, _, rfl, ?_⟩
    have em : (if (j : Int) < (i : Int) then (j : Int) else (i : Int)) = ((min i j : Nat) : Int) := by
      split <;> omega
    rw [em]
    have hp3 := hp0
    generalize min i j = m at e1 e2
    refine ⟨_, rfl, _, rfl, (m : Int), rfl, noPart_i ?_⟩
    refine slT_genD (K := K) hp0 fun b1 H2 s3 hb1 => ?_
    refine ⟨_, rfl, noPart_i ⟨_, rfl, (m : Int), rfl, ?_⟩⟩
    refine slT_gen (K := K) (same_seqT s3 hp0) fun b2 H3 s4 hb2 => ?_
    refine catA_gen (K := K) (same_seqT s4 hb1) hb2 ?_ fun q H4 s5 hq => ?_
    · rw [List.length_drop, List.length_take, lm]
      exact Nat.le_of_lt (small1000 (by omega))
    refine k q H4 (((s0.trans s3).trans s4).trans s5) ?_
    rw [← e1]
    have e : (turnAt ns m).map V.int = (ns.map V.int).drop m ++ (ns.map V.int).take m := by
      unfold turnAt
      rw [List.map_append, List.map_drop, List.map_take]
    rw [e]
    exact hq
end
end Tt
set_option maxRecDepth 100000
set_option maxHeartbeats 4000000
namespace Tt
open PySem L2
section
variable {P : Program} {w : World} {K : PySem.W.Frag} {mg : Str → Option Value} {base : Heap}
theorem slT_mid {xs : List V} {a : Addr} {H : Hp} {Q : VK} {c : Nat} (hc : 2 * c ≤ xs.length) (h : SqT K H a xs) (q : ∀ b H', Same H H' → SqT K H' b ((xs.drop c).take (xs.length - 2 * c)) → Q (.ref b) H') : rSlA K (.ref a) (some (c : Int)) (some ((xs.length - c : Nat) : Int)) H Q := by
  have e1 : HT.sIx xs.length 0 (some (c : Int)) = c := by rw [HT.sIx_nat]; omega
  have e2 : HT.sIx xs.length xs.length (some ((xs.length - c : Nat) : Int)) = xs.length - c := by rw [HT.sIx_nat]; omega
  refine ⟨a, xs, rfl, h, fun z => ?_, fun _ p hp => ?_⟩
  · rw [e1, e2] at z
    have z0 := z.1
    subst z0
    refine q a H (fun _ _ z => z) ?_
    rw [List.drop_zero, Nat.mul_zero, Nat.sub_zero, List.take_length]
    exact h
  · refine q p _ (same_new hp) ?_
    unfold cutV
    rw [e1, e2]
    have : xs.length - c - c = xs.length - 2 * c := by omega
    rw [this]
    exact SqT.of upd_same
def spClosedL (K : PySem.W.Frag) : Sp := fun vs H Q _ => ∃ (p : Addr) (ns : List Int), vs = [.ref p] ∧ SqT K H p (ns.map V.int) ∧ ns.length ≤ 400 ∧ (∀ x ∈ ns, 0 ≤ x ∧ x < 12) ∧
  ∀ q H', Same H H' → SqT K H' q ((Wd.core ns).map V.int) → (Wd.core ns).length ≤ 400 → Q (.ref q) H'
def spClosed (K : PySem.W.Frag) : Sp := fun vs H Q _ => ∃ (p : Addr) (ns : List Int), vs = [.ref p] ∧ SqT K H p (ns.map V.int) ∧ ns.length ≤ 400 ∧ (∀ x ∈ ns, 0 ≤ x ∧ x < 12) ∧
  ∀ q H', Same H H' → SqT K H' q ((closedT ns).map V.int) → Q (.ref q) H'
theorem ok_closed_letters (T : Txt K mg) : FnOk P w K mg base CX0 3 T.closed_letters.a T.closed_letters.fd ["word"] (spClosedL K) := by
  refine T.closed_letters.F.ok sc_closed_letters (fun vs H Q E h => ?_) (fun cdv A outer s H vs Q E hr h => ?_)
  · obtain ⟨p, ns, rfl, _⟩ := h
    rfl
  · obtain ⟨p, ns, rfl, hp, hl, hb, k⟩ := h
    have nd := sc_closed_letters.nd
    refine ⟨_, (pss_cons (ps_set (i := 1) nd rfl (Or.inl rfl) (pe_call (ok_cut_free T) (hr.mono (by decide)) (by rfl) T.cut_free.g T.cut_free.k T.cut_free.b .nil pass0 (pa_cons (pv 0) pa_nil)))
    (pss_cons (ps_set (i := 2) nd rfl (Or.inl rfl) pe_int)
    (pss_cons (ps_while PassesOwn.never (PW.pt (pw_and (pt_cmpR op_ge (pe_op op_sub (pe_callB call_len_seq (by rfl) T.zlen (by decide +kernel) (pa_cons (pv 1) pa_nil)) (pe_op op_mul pe_int (pv 2))) pe_int (nomark _)) (pw_and1 (pt_cmpR op_eq (pe_ix ix_tup (pv 1) (pv 2) (fun _ _ => rfl)) (pe_op op_xor (pe_ix ix_tup (pv 1) (pe_op op_sub (pe_op op_sub (pe_callB call_len_seq (by rfl) T.zlen (by decide +kernel) (pa_cons (pv 1) pa_nil)) pe_int) (pv 2)) (fun _ _ => rfl)) pe_int) (nomark _)))))
      (pss_one (ps_aug (i := 2) nd rfl (Or.inl rfl) pe_int ip_add)))
    (pss_one (ps_ret (pe_slice sl_tupA (pv 1) (po_some (pv 2)) (po_some (pe_op op_sub (pe_callB call_len_seq (by rfl) T.zlen (by decide +kernel) (pa_cons (pv 1) pa_nil)) (pv 2))))))))), ?_⟩
    refine ⟨_, rfl, p, ns, rfl, hp, by omega, hb, fun f H1 s1 h1 => ?_⟩
    have lf : (Wd.freed ns).length ≤ 400 := Nat.le_trans (Wd.len_freed ns) hl
    have bf : ∀ x ∈ Wd.freed ns, 0 ≤ x ∧ x < 12 := fun x hx => hb x (Wd.mem_freed hx)
    have ec : Wd.strip (Wd.freed ns) = Wd.core ns := rfl
    generalize Wd.freed ns = fs at h1 lf bf ec
    refine while_by (fun σ H' => H' = H1 ∧ ∃ c : Nat, σ = [some (.ref p), some (.ref f), some (.int (c : Int))] ∧ 2 * c ≤ fs.length ∧ Wd.strip (Wd.mid fs c) = Wd.core ns)
      (fun σ _ => match σ[2]? with | some (some (V.int c)) => 1000 - c.toNat | _ => 0) ⟨rfl, 0, rfl, by omega, by rw [Wd.mid_zero]; exact ec⟩ ?_ ?_
    · rintro σ H' ⟨rfl, c, rfl, hc, em⟩
      have lm : (fs.map V.int).length = fs.length := List.length_map ..
      apply let_one (J := Wd.strip (Wd.mid fs c) = Wd.mid fs c)
      · intro out
        refine ⟨_, rfl, f, _, rfl, .inr (SqT.of h1), _, rfl, _, _, rfl, rfl, .inl ⟨by decide, by decide⟩, _, _, rfl, rfl, _, _, rfl, rfl, _, rfl, ?_⟩
        rw [lm]
        refine ite2 (fun g => ?_) (fun g => ?_)
        · have g' : 2 * c + 2 ≤ fs.length := by
            have : (2 : Int) ≤ (fs.length : Int) - 2 * (c : Int) := by simpa using g
            omega
          obtain ⟨a, ha⟩ : ∃ a, fs[c]? = some a := ⟨_, List.getElem?_eq_getElem (by omega)⟩
          obtain ⟨b, hb2⟩ : ∃ b, fs[fs.length - 1 - c]? = some b := ⟨_, List.getElem?_eq_getElem (by omega)⟩
          refine ⟨_, rfl, _, rfl, f, _, _, _, rfl, rfl, SqT.of h1, atI_nat (ints_get ha), ?_⟩
          refine ⟨_, rfl, _, rfl, f, _, rfl, .inr (SqT.of h1), _, _, rfl, rfl, _, rfl, _, _, rfl, rfl, f, _, _, V.int b, rfl, rfl, SqT.of h1, ?_, ?_⟩
          · have e : ((fs.map V.int).length : Int) - 1 - (c : Int) = ((fs.length - 1 - c : Nat) : Int) := by rw [lm]; omega
            rw [e]
            exact atI_nat (ints_get hb2)
          · refine ⟨_, _, rfl, rfl, rfl, _, rfl, ?_⟩
            have bb := bf b (List.mem_of_getElem? hb2)
            have ex : decide (V.int a = V.int (Builtin.bitXor b 1)) = decide (a = Wd.mate b) := by
              rw [xor_mate bb.1 bb.2]
              simp
            refine ite2 (fun z => ?_) (fun z => ?_)
            · have z' : a = Wd.mate b := of_decide_eq_true (ex.symm.trans z)
              refine ⟨_, rfl, _, _, rfl, rfl, ⟨rfl, c + 1, rfl, by omega, ?_⟩, ?_⟩
              · rw [← Wd.mid_yes g' ha hb2 z']
                exact em
              · show 1000 - ((c : Int) + 1).toNat < 1000 - ((c : Int)).toNat
                omega
            · exact out (Wd.mid_no g' ha hb2 fun z' => z (ex.trans (decide_eq_true z')))
        · refine iteF (out (Wd.mid_short ?_))
          have : ¬ (2 : Int) ≤ (fs.length : Int) - 2 * (c : Int) := by simpa using g
          omega
      intro hm
      have eM : Wd.mid fs c = Wd.core ns := hm.symm.trans em
      have lc : (Wd.core ns).length ≤ 400 := by
        rw [← eM]
        exact Nat.le_trans (Wd.mid_len fs c) lf
      refine ⟨_, rfl, _, rfl, (c : Int), rfl, _, rfl, f, _, rfl, .inr (SqT.of h1), _, rfl, _, _, rfl, rfl, ((fs.length - c : Nat) : Int), ?_, ?_⟩
      · rw [lm]
        exact congrArg V.int (by omega)
      · rw [← lm]
        refine slT_mid (K := K) (by rw [lm]; exact hc) (SqT.of h1) fun b H2 s2 hb2 => ?_
        have e3 : ((fs.map V.int).drop c).take ((fs.map V.int).length - 2 * c) = (Wd.core ns).map V.int := by
          rw [lm, ← eM]
          unfold Wd.mid
          rw [List.map_take, List.map_drop]
        rw [e3] at hb2
        exact k b H2 (s1.trans s2) hb2 lc
    · rintro σ H Q Q' hq ⟨v1, a1, p1, ys1, a2, a3, v2, a4, i1, j1, a5, a6, a7, i2, j2, a8, a9, i3, j3, a10, a11, b1, a12, a13⟩
      refine ⟨v1, a1, p1, ys1, a2, a3, v2, a4, i1, j1, a5, a6, a7, i2, j2, a8, a9, i3, j3, a10, a11, b1, a12, ?_⟩
      cases b1 with
      | false => exact iteF (hq _ _ (by simpa using a13))
      | true =>
        rw [if_pos rfl] at a13
        obtain ⟨c1, d1, c2, d2, q1, xs1, n1, u1, d3, d4, d5, d6, c3, d7, c4, d8, q2, ys2, d9, d10, m1, m2, d11, d12, c5, d13, m3, m4, d14, d15, q3, xs3, n3, u3, d16, d17, d18, d19, m5, m6, d20, d21, d22, b2, d23, d24⟩ := a13
        exact iteT ⟨c1, d1, c2, d2, q1, xs1, n1, u1, d3, d4, d5, d6, c3, d7, c4, d8, q2, ys2, d9, d10, m1, m2, d11, d12, c5, d13, m3, m4, d14, d15, q3, xs3, n3, u3, d16, d17, d18, d19, m5, m6, d20, d21, d22, b2, d23, hq _ _ d24⟩
theorem ok_closed_up (T : Txt K mg) : FnOk P w K mg base CX0 4 T.closed_up.a T.closed_up.fd ["word"] (spClosed K) := by
  refine T.closed_up.F.ok sc_closed_up (fun vs H Q E h => ?_) (fun cdv A outer s H vs Q E hr h => ?_)
  · obtain ⟨p, ns, rfl, _⟩ := h
    rfl
  · obtain ⟨p, ns, rfl, hp, hl, hb, k⟩ := h
    have nd := sc_closed_up.nd
    refine ⟨_, (pss_cons (ps_set (i := 1) nd rfl (Or.inl rfl) (pe_call (ok_closed_letters T) (hr.mono (by decide)) (by rfl) T.closed_letters.g T.closed_letters.k T.closed_letters.b .nil pass0 (pa_cons (pv 0) pa_nil)))
    (pss_one (ps_ret (pe_ifExp (pt_truth (pv 1) (fun _ => rfl)) (pe_call (ok_least_turn T) (hr.mono (by decide)) (by rfl) T.least_turn.g T.least_turn.k T.least_turn.b .nil pass0 (pa_cons (pv 1) pa_nil)) (pe_tup pa_nil))))), ?_⟩
    refine ⟨_, rfl, p, ns, rfl, hp, hl, hb, fun b H2 s2 hb2 lc => ?_⟩
    refine ⟨_, rfl, !((Wd.core ns).map V.int).isEmpty, .inr (.inl ⟨_, hb2, rfl⟩), ?_⟩
    refine ite2 (fun z => ?_) (fun z => ?_)
    · have hne : Wd.core ns ≠ [] := by simpa using z
      exact ⟨_, rfl, b, Wd.core ns, rfl, hb2, hne, lc, fun q H3 s3 hq => k q H3 (s2.trans s3) hq⟩
    · have hnil : Wd.core ns = [] := by simpa using z
      refine ⟨(by show 0 ≤ sizeLine; decide), fun q hq => k q _ (s2.trans (same_new hq)) ?_⟩
      unfold closedT
      rw [hnil, leastT_nil]
      exact SqT.of upd_same
end
end Tt
set_option maxRecDepth 100000
set_option maxHeartbeats 4000000
namespace Tt
open PySem L2
section
variable {P : Program} {w : World} {K : PySem.W.Frag} {mg : Str → Option Value} {base : Heap}
theorem ok_l_least_turn (T : Txt K mg) : FnOk P w K mg base CX0 2 T.l_least_turn.a T.l_least_turn.fd ["word_here"] (spLeast K) := by
  refine T.l_least_turn.F.ok sc_l_least_turn (fun vs H Q E h => ?_) (fun cdv A outer s H vs Q E hr h => ?_)
  · obtain ⟨p, ns, rfl, _⟩ := h
    rfl
  · obtain ⟨p, ns, rfl, hp, hne, hl, k⟩ := h
    have nd := sc_l_least_turn.nd
    refine ⟨_, (pss_one (ps_ret (pe_callB (cr_minT rfl hr.units) (by rfl) T.zmin (by decide +kernel) (pa_cons (pe_lc (own := [("at", 1)]) (g := gName 1) rfl nd (pi_range1 rfl T.zrange (pa_cons (pe_callB call_len_seq (by rfl) T.zlen (by decide +kernel) (pa_cons (pv 0) pa_nil)) pa_nil)) (blkOk_by (own := [("at", 1)]) (N := N_l_least_turn) (sc := defScope s_l_least_turn) (by decide +kernel)) (fun _ _ _ _ _ => pg_name (i := 1) nd rfl (Or.inl rfl)) (fun _ _ _ _ _ => pts_nil) (fun _ _ _ _ _ => (pe_op (op_catAK (K := K) rfl) (pe_slice (sl_tupAK (K := K) rfl) (pv 0) (po_some (pv 1)) po_none) (pe_slice (sl_tupAK (K := K) rfl) (pv 0) po_none (po_some (pv 1)))))) pa_nil)))), ?_⟩
    refine ⟨_, rfl, p, _, rfl, .inr hp, _, rfl, by omega, by rw [List.length_map]; omega, fun D1 hD1 => ?_⟩
    refine lc_range (lo := 0) (n := ((ns.map V.int).length : Int).toNat) (fun i H' => ∃ ps : List Addr, H' D1 = some (.lst (ps.map V.ref)) ∧ Paired (fun p m => SqT K H' p (m.map V.int)) ps ((turns ns).take i) ∧ Same H H')
      ⟨[], upd_same, .nil, same_new hD1⟩ ?_ ?_
    · rintro i H' hi ⟨ps, h1, h2, s2⟩
      have hi2 : i < ns.length := by rw [List.length_map] at hi; omega
      have hpl : ps.length = i := by
        have := h2.length
        rw [List.length_take, turns_len] at this
        omega
      refine ⟨rfl, yes_t ?_⟩
      refine ⟨_, rfl, _, rfl, (i : Int), by rw [Int.zero_add], noPart_i ?_⟩
      refine slT_genD (K := K) (same_seqT s2 hp) fun b1 H2 s3 hb1 => ?_
      refine ⟨_, rfl, noPart_i ⟨_, rfl, (i : Int), by rw [Int.zero_add], ?_⟩⟩
      refine slT_gen (K := K) (same_seqT (s2.trans s3) hp) fun b2 H3 s4 hb2 => ?_
      refine catA_gen (K := K) (same_seqT s4 hb1) hb2 ?_ fun c H4 s5 hc => ?_
      · rw [List.length_drop, List.length_take, List.length_map]
        exact Nat.le_of_lt (small1000 (by omega))
      have sA : Same H' H4 := (s3.trans s4).trans s5
      have h4 := sA _ _ h1
      refine ⟨_, h4, by rw [List.length_map]; exact small1000 (by omega), ps ++ [c], ?_, ?_, fun b o hb => ?_⟩
      · rw [upd_same, List.map_append]
        rfl
      · rw [List.take_add_one, turns_get hi2]
        refine pair_snoc (pair_mono (fun a m z => sqT_put (same_seqT sA z) h4) h2) ?_
        refine sqT_put ?_ h4
        have e : (turnAt ns i).map V.int = (ns.map V.int).drop i ++ (ns.map V.int).take i := by
          unfold turnAt
          rw [List.map_append, List.map_drop, List.map_take]
        rw [e]
        exact hc
      · rw [upd_ne (ne_of_none hb hD1)]
        exact sA _ _ (s2 _ _ hb)
    · rintro H' ⟨ps, h1, h2, s2⟩
      have e : (turns ns).take ((ns.map V.int).length : Int).toNat = turns ns := List.take_of_length_le (by rw [turns_len, List.length_map]; omega)
      rw [e] at h2
      have hl2 := turns_len ns
      cases ht : turns ns with
      | nil =>
        rw [ht] at hl2
        exact absurd (List.length_eq_zero_iff.mp hl2.symm) hne
      | cons r0 rs =>
        rw [ht] at h2
        refine ⟨D1, ps, r0, rs, rfl, SqL.of h1, h2, fun i q hq hm => k q H' s2 ?_⟩
        have hi : i < (r0 :: rs).length := by
          rw [← h2.length]
          exact (List.getElem?_eq_some_iff.mp hq).1
        have em := hm _ (List.getElem?_eq_getElem hi)
        rw [minR_D] at em
        have e2 := rowD_inj em
        have e3 := pair_at h2 hq (List.getElem?_eq_getElem hi)
        rw [e2] at e3
        have e4 : leastT ns = minR r0 rs := by
          unfold leastT
          rw [ht]
        rw [e4]
        exact e3
theorem strip_cut {a b : Int} {m : List Int} (e : a = Wd.mate b) : Wd.strip (a :: (m ++ [b])) = Wd.strip m := by
  rw [e, Wd.strip_yes]
theorem ends_of {fs : List Int} (h : 1 < fs.length) : ∃ (a : Int) (m : List Int) (b : Int), fs = a :: (m ++ [b]) := by
  cases fs with
  | nil => simp at h
  | cons a r =>
    cases hr : r.getLast? with
    | none =>
      have := List.getLast?_eq_none_iff.mp hr
      subst this
      simp at h
    | some b => exact ⟨a, r.dropLast, b, by rw [Wd.last_snoc hr]⟩
theorem cut_in (a b : V) (m : List V) : cutV (a :: (m ++ [b])) (some 1) (some (-1)) = m := by
  unfold cutV
  have e1 : HT.sIx (a :: (m ++ [b])).length 0 (some 1) = 1 := (HT.sIx_nat (a :: (m ++ [b])).length 0 1).trans (by simp)
  have e2 : HT.sIx (a :: (m ++ [b])).length (a :: (m ++ [b])).length (some (-1)) = m.length + 1 := by
    have hn : (-1 : Int) < 0 := by decide
    simp only [HT.sIx, if_pos hn, List.length_cons, List.length_append, List.length_nil]
    omega
  rw [e1, e2]
  simp
theorem ok_l_rounded (T : Txt K mg) : FnOk P w K mg base CX0 3 T.l_rounded.a T.l_rounded.fd ["word_here"] (spClosed K) := by
  refine T.l_rounded.F.ok sc_l_rounded (fun vs H Q E h => ?_) (fun cdv A outer s H vs Q E hr h => ?_)
  · obtain ⟨p, ns, rfl, _⟩ := h
    rfl
  · obtain ⟨p, ns, rfl, hp, hl, hb, k⟩ := h
    have nd := sc_l_rounded.nd
    refine ⟨_, (pss_cons (ps_set (i := 1) nd rfl (Or.inl rfl) (pe_callTy call_list_of (by rfl) T.zlist (by decide +kernel) (pa_cons (pe_call (ok_l_freed T) (hr.mono (by decide)) (by rfl) T.l_freed.g T.l_freed.k T.l_freed.b .nil pass0 (pa_cons (pv 0) pa_nil)) pa_nil)))
    (pss_cons (ps_while PassesOwn.never (PW.pt (pw_and (pt_cmpR op_gt (pe_callB call_len_seq (by rfl) T.zlen (by decide +kernel) (pa_cons (pv 1) pa_nil)) pe_int (nomark _)) (pw_and1 (pt_cmpR op_eq (pe_ix ix_list (pv 1) pe_int (fun _ _ => rfl)) (pe_call (ok_l_mate T) (hr.mono (by decide)) (by rfl) T.l_mate.g T.l_mate.k T.l_mate.b .nil pass0 (pa_cons (pe_ix ix_list (pv 1) (pe_un un_neg pe_int) (fun _ _ => rfl)) pa_nil)) (nomark _)))))
      (pss_one (ps_set (i := 1) nd rfl (Or.inl rfl) (pe_slice sl_list (pv 1) (po_some pe_int) (po_some (pe_un un_neg pe_int))))))
    (pss_one (ps_ret (pe_ifExp (pt_cmpR (op_neD hr.units) (pv 1) (pe_lst pa_nil) (nomark _)) (pe_call (ok_l_least_turn T) (hr.mono (by decide)) (by rfl) T.l_least_turn.g T.l_least_turn.k T.l_least_turn.b .nil pass0 (pa_cons (pe_callTy call_tuple_of (by rfl) T.ztuple (by decide +kernel) (pa_cons (pv 1) pa_nil)) pa_nil)) (pe_tup pa_nil)))))), ?_⟩
    refine ⟨_, rfl, p, ns, rfl, hp, by omega, hb, fun f H1 s1 h1 => ?_⟩
    refine ⟨f, _, rfl, .inr (SqT.of h1), fun l hl2 => ?_⟩
    have lf : (Wd.freed ns).length ≤ 400 := Nat.le_trans (Wd.len_freed ns) hl
    have s2 : Same H (upd H1 l (.lst ((Wd.freed ns).map V.int))) := s1.trans (same_new hl2)
    have e2 : (upd H1 l (.lst ((Wd.freed ns).map V.int))) l = some (.lst ((Wd.freed ns).map V.int)) := upd_same
    have ec : Wd.strip (Wd.freed ns) = Wd.core ns := rfl
    generalize upd H1 l (.lst ((Wd.freed ns).map V.int)) = H2 at s2 e2
    generalize Wd.freed ns = fs at e2 lf ec
    refine while_by (fun σ H' => ∃ (l : Addr) (fs : List Int), σ = [some (.ref p), some (.ref l)] ∧ H' l = some (.lst (fs.map V.int)) ∧ fs.length ≤ 400 ∧ Wd.strip fs = Wd.core ns ∧ Same H H') (lenOf 1) ⟨l, fs, rfl, e2, lf, ec, s2⟩ ?_ ?_
    · rintro σ H' ⟨l, fs, rfl, e2, lf, ec, s2⟩
      apply let_one (J := Wd.strip fs = fs)
      · intro out
        refine ⟨_, rfl, l, _, rfl, .inl (SqL.of e2), _, _, rfl, rfl, _, rfl, ?_⟩
        rw [List.length_map]
        refine ite2 (fun g => ?_) (fun g => ?_)
        · have g' : 1 < fs.length := by
            have : (1 : Int) < (fs.length : Int) := by simpa using g
            omega
          obtain ⟨a, m, b, rfl⟩ := ends_of g'
          have l0 : atI ((a :: (m ++ [b])).map V.int) 0 = some (V.int a) := atI_nat (j := 0) rfl
          have l1 : atI ((a :: (m ++ [b])).map V.int) (-1) = some (V.int b) := by
            have := L2.atI_last (V.int a :: m.map V.int) (V.int b)
            simpa using this
          refine ⟨_, rfl, l, _, 0, V.int a, rfl, rfl, SqL.of e2, l0, ?_⟩
          refine ⟨_, rfl, 1, rfl, l, _, (-1), V.int b, rfl, rfl, SqL.of e2, l1, b, rfl, ?_⟩
          refine ⟨rfl, _, rfl, ite2 (fun z => ?_) (fun z => ?_)⟩
          · have z' : a = Wd.mate b := by simpa using z
            refine ⟨_, rfl, 1, rfl, 1, rfl, (-1), rfl, l, _, rfl, SqL.of e2, fun l' hl' => ?_⟩
            have em : cutV ((a :: (m ++ [b])).map V.int) (some 1) (some (-1)) = m.map V.int := by
              have e : (a :: (m ++ [b])).map V.int = V.int a :: (m.map V.int ++ [V.int b]) := by simp
              rw [e]
              exact cut_in _ _ _
            rw [em]
            have e3 : (upd H' l' (.lst (m.map V.int))) l' = some (.lst (m.map V.int)) := upd_same
            refine ⟨⟨l', m, rfl, e3, ?_, ?_, s2.trans (same_new hl')⟩, ?_⟩
            · rw [List.length_cons, List.length_append] at lf
              omega
            · rw [← strip_cut z']
              exact ec
            · rw [lenOf_of (i := 1) (f := l') rfl e3, lenOf_of (i := 1) (f := l) rfl e2]
              simp
              omega
          · refine out (Wd.strip_no ?_)
            have z' : a ≠ Wd.mate b := by simpa using z
            have : (a :: (m ++ [b])).getLast? = some b := by simp [List.getLast?_cons]
            rw [this]
            simpa using z'
        · refine iteF (out (Wd.strip_short ?_))
          have : ¬ (1 : Int) < (fs.length : Int) := by simpa using g
          omega
      intro hm
      have ef : fs = Wd.core ns := hm.symm.trans ec
      subst ef
      refine ⟨_, rfl, (by show 0 ≤ sizeLine; decide), fun l0 hl0 => ?_⟩
      have sN : Same H' (upd H' l0 (.lst [])) := same_new hl0
      have e0 : (upd H' l0 (.lst [])) l0 = some (.lst []) := upd_same
      have e4 := sN _ _ e2
      refine ⟨.list ((Wd.core ns).map PyData.int), .list [], .lst (SqL.of e4) (dpAll_ints _ _), .lst (SqL.of e0) .nil, shapedAll_ints _, rfl, ?_⟩
      have ev : PyData.eqv (.list ((Wd.core ns).map PyData.int)) (.list []) = decide (Wd.core ns = []) := eqv_ints (Wd.core ns) []
      rw [ev]
      refine ⟨_, rfl, ?_⟩
      by_cases hc : Wd.core ns = []
      · rw [decide_eq_true hc]
        refine iteF ⟨(by show 0 ≤ sizeLine; decide), fun q hq => k q _ ((s2.trans sN).trans (same_new hq)) ?_⟩
        unfold closedT
        rw [hc, leastT_nil]
        exact SqT.of upd_same
      · rw [decide_eq_false hc]
        refine iteT ⟨_, rfl, l, _, rfl, .inl ⟨SqL.of e4, fun t ht => ?_⟩⟩
        exact ⟨t, Wd.core ns, rfl, SqT.of upd_same, hc, lf, fun q H3 s3 hq => k q H3 (((s2.trans sN).trans (same_new ht)).trans s3) hq⟩
    · rintro σ H Q Q' hq ⟨v1, a1, p1, ys1, a2, a3, i1, j1, a4, a5, b1, a6, a7⟩
      refine ⟨v1, a1, p1, ys1, a2, a3, i1, j1, a4, a5, b1, a6, ?_⟩
      cases b1 with
      | false => exact iteF (hq _ _ (by simpa using a7))
      | true =>
        rw [if_pos rfl] at a7
        obtain ⟨c1, d1, q1, xs1, n1, u1, d3, d4, d5, d6, c3, d7, m1, d8, q2, xs2, n2, u2, d9, d10, d11, d12, x1, d13, d14, b2, d15, d16⟩ := a7
        exact iteT ⟨c1, d1, q1, xs1, n1, u1, d3, d4, d5, d6, c3, d7, m1, d8, q2, xs2, n2, u2, d9, d10, d11, d12, x1, d13, d14, b2, d15, hq _ _ d16⟩
end
end Tt
set_option maxRecDepth 100000
set_option maxHeartbeats 4000000
namespace Tt
open PySem L2
section
variable {P : Program} {w : World} {K : PySem.W.Frag} {mg : Str → Option Value} {base : Heap}
def spGoneBack (K : PySem.W.Frag) : Sp := fun vs H Q _ => ∃ (p : Addr) (ns : List Int), vs = [.ref p] ∧ SqT K H p (ns.map V.int) ∧ ns ≠ [] ∧ ns.length ≤ 400 ∧ (∀ x ∈ ns, 0 ≤ x ∧ x < 12) ∧
  ∀ q H', Same H H' → SqT K H' q ((leastT (Wd.undo ns)).map V.int) → Q (.ref q) H'
theorem ok_gone_round_back (T : Txt K mg) : FnOk P w K mg base CX0 3 T.gone_round_back.a T.gone_round_back.fd ["loop"] (spGoneBack K) := by
  refine T.gone_round_back.F.ok sc_gone_round_back (fun vs H Q E h => ?_) (fun cdv A outer s H vs Q E hr h => ?_)
  · obtain ⟨p, ns, rfl, _⟩ := h
    rfl
  · obtain ⟨p, ns, rfl, hp, hne, hl, hb, k⟩ := h
    refine ⟨_, (pss_one (ps_ret (pe_call (ok_least_turn T) (hr.mono (by decide)) (by rfl) T.least_turn.g T.least_turn.k T.least_turn.b .nil pass0 (pa_cons (pe_call (ok_gone_back T) (hr.mono (by decide)) (by rfl) T.gone_back.g T.gone_back.k T.gone_back.b .nil pass0 (pa_cons (pv 0) pa_nil)) pa_nil)))), ?_⟩
    refine ⟨_, rfl, p, ns, rfl, hp, by omega, hb, fun q H1 s1 h1 => ?_⟩
    refine ⟨q, Wd.undo ns, rfl, SqT.of h1, (fun z => hne ?_), by rw [Wd.undo_len]; exact hl, fun q2 H2 s2 h2 => k q2 H2 (s1.trans s2) h2⟩
    have := congrArg List.length z
    rw [Wd.undo_len] at this
    exact List.length_eq_zero_iff.mp this
end
end Tt
set_option maxRecDepth 100000
set_option maxHeartbeats 4000000
namespace Tt
open PySem L2
section
variable {P : Program} {w : World} {K : PySem.W.Frag} {mg : Str → Option Value} {base : Heap}
def spRoundOf (T : Txt K mg) : Sp := fun vs H Q E => ∃ (v x : V), vs = [v, x] ∧ SkOr T v H E fun p row =>
  (WV K 200 row H x false ∧ ∀ H', Same H H' → E (.ref T.BadWord.C) none H') ∨
  ∃ (t : Addr) (ns : List Int), x = .ref t ∧ SqT K H t (ns.map V.int) ∧ ns.length ≤ 200 ∧ Lt (row.length : Int) ns ∧ ∀ q H', Same H H' → SqT K H' q ((closedT ns).map V.int) → Q (.ref q) H'
theorem ok_round_of (T : Txt K mg) : FnOk P w K mg base (L2.CX P w) 7 T.round_of.a T.round_of.fd ["skin", "word"] (spRoundOf T) := by
  refine T.round_of.F.okX sc_round_of (fun vs H Q E h => ?_) (fun cdv A outer s H vs Q E hr h => ?_)
  · obtain ⟨v, x, rfl, _⟩ := h
    rfl
  · obtain ⟨v, x, rfl, h⟩ := h
    refine ⟨_, (pss_cons (ps_expr (pe_callS (ok_check_skin T) (hr.mono (by decide)) (by rfl) T.check_skin.g T.check_skin.k T.check_skin.b (fun σ => passAt (takes_of rfl rfl rfl rfl) σ) (pa_cons (pv 0) pa_nil)))
    (pss_cons (ps_expr (pe_callS (ok_check_word T) (hr.mono (by decide)) (by rfl) T.check_word.g T.check_word.k T.check_word.b (fun σ => passAt (takes_of rfl rfl rfl rfl) σ) (pa_cons (pv 0) (pa_cons (pv 1) pa_nil))))
    (pss_one (ps_ret (pe_call (ok_closed_up T) (hr.mono (by decide)) (by rfl) T.closed_up.g T.closed_up.k T.closed_up.b .nil pass0 (pa_cons (pv 1) pa_nil)))))), ?_⟩
    rcases h with ⟨hv, he⟩ | ⟨p, row, rfl, hs, ⟨hl, h2⟩, h⟩
    · exact ⟨v, rfl, v, false, rfl, hv, (fun z => nomatch z), fun _ => he⟩
    · refine ⟨_, rfl, _, true, rfl, hs.v, (fun _ => ?_), fun z => nomatch z⟩
      rcases h with ⟨hw, k⟩ | ⟨t, ns, rfl, ht, hn, hb, k⟩
      · exact ⟨_, rfl, _, rfl, p, row, x, false, rfl, hs, hl, hw, (fun z => nomatch z), fun _ => k⟩
      · refine ⟨_, rfl, _, rfl, p, row, _, true, rfl, hs, hl, word_wv h2 ht (by omega) (by omega) hb, (fun _ H1 s1 => ?_), fun z => nomatch z⟩
        refine ⟨_, rfl, t, ns, rfl, same_seqT s1 ht, by omega, (fun x hx => ?_), fun q H' s2 hq => k q H' (s1.trans s2) hq⟩
        have := hb x hx
        omega
end
end Tt
set_option maxRecDepth 100000
set_option maxHeartbeats 4000000
namespace Tt
open PySem L2
section
variable {P : Program} {w : World} {K : PySem.W.Frag} {mg : Str → Option Value} {base : Heap}
def RdOr (row : List Int) (x : V) (H : Hp) (K : PySem.W.Frag) (b : Bool) : Prop := (WV K 40 row H x false ∧ b = false) ∨
  ∃ (t : Addr) (ns : List Int), x = .ref t ∧ SqT K H t (ns.map V.int) ∧ ns.length ≤ 40 ∧ Lt (row.length : Int) ns ∧ b = decide (ns ≠ [] ∧ closedT ns = ns)
theorem RdOr.same {row : List Int} {x : V} {H H' : Hp} {b : Bool} (h : RdOr row x H K b) (s : Same H H') : RdOr row x H' K b := by
  rcases h with ⟨h, e⟩ | ⟨t, ns, e, h, l, lt, eb⟩
  · exact .inl ⟨h.same s, e⟩
  · exact .inr ⟨t, ns, e, same_seqT s h, l, lt, eb⟩
def spFit (T : Txt K mg) : Sp := fun vs H Q _ => ∃ (p : Addr) (row : List Int) (x : V) (b : Bool), vs = [.ref p, x] ∧ SkAt T H p row ∧ (row.length ≤ 12 ∧ row.length % 2 = 0) ∧ RdOr row x H K b ∧ ∀ H', Same H H' → Q (.bl b) H'
theorem ok_is_fit_round (T : Txt K mg) : FnOk P w K mg base CX0 6 T.is_fit_round.a T.is_fit_round.fd ["skin", "thing"] (spFit T) := by
  refine T.is_fit_round.F.ok sc_is_fit_round (fun vs H Q E h => ?_) (fun cdv A outer s H vs Q E hr h => ?_)
  · obtain ⟨p, row, x, b, rfl, _⟩ := h
    rfl
  · obtain ⟨p, row, x, b, rfl, hs, ⟨hl, h2⟩, hx, k⟩ := h
    refine ⟨_, (pss_one (ps_ret (pe_and (pe_call (ok_has_letters T) (hr.mono (by decide)) (by rfl) T.has_letters.g T.has_letters.k T.has_letters.b .nil pass0 (pa_cons (pv 0) (pa_cons (pv 1) (pa_cons (pe_glob rfl T.c_MOST_IN_ROUND T.r_MOST_IN_ROUND) pa_nil)))) (pe_and (pe_cmpR op_gt (pe_callB call_len_seq (by rfl) T.zlen (by decide +kernel) (pa_cons (pv 1) pa_nil)) pe_int (nomark _)) (pe_one (pe_cmpR (op_eqD hr.units) (pe_call (ok_closed_up T) (hr.mono (by decide)) (by rfl) T.closed_up.g T.closed_up.k T.closed_up.b .nil pass0 (pa_cons (pv 1) pa_nil)) (pv 1) (nomark _))))))), ?_⟩
    rcases hx with ⟨hw, rfl⟩ | ⟨t, ns, rfl, ht, hn, hlt, rfl⟩
    · refine ⟨_, rfl, _, rfl, p, row, x, 40, false, rfl, hs, hl, hw, fun H1 s1 => ⟨_, rfl, iteF (k H1 s1)⟩⟩
    · refine ⟨_, rfl, _, rfl, p, row, _, 40, true, rfl, hs, hl, word_wv h2 ht (by omega) (by omega) hlt, fun H1 s1 => ⟨_, rfl, iteT ?_⟩⟩
      have ht1 := same_seqT s1 ht
      refine ⟨_, rfl, t, _, rfl, .inr ht1, _, _, rfl, rfl, _, rfl, ?_⟩
      rw [List.length_map]
      refine ite2 (fun g => ?_) (fun g => ?_)
      · have hne : ns ≠ [] := fun z => by
          subst z
          simp at g
        refine ⟨_, rfl, t, ns, rfl, ht1, by omega, (fun y hy => by have := hlt y hy; omega), fun q H2 s2 hq => ?_⟩
        have ht2 := same_seqT s2 ht1
        refine ⟨_, rfl, .tuple ((closedT ns).map PyData.int), .tuple (ns.map PyData.int), .tup hq (dpAll_ints _ _), .tup ht2 (dpAll_ints _ _), shapedAll_ints _, shapedAll_ints _, ?_⟩
        have ev : PyData.eqv (.tuple ((closedT ns).map PyData.int)) (.tuple (ns.map PyData.int)) = decide (closedT ns = ns) := eqv_ints (closedT ns) ns
        rw [ev]
        have eb : decide (closedT ns = ns) = decide (ns ≠ [] ∧ closedT ns = ns) := by simp [hne]
        rw [eb]
        exact k H2 (s1.trans s2)
      · have hne : ns = [] := by
          have : ¬ (0 : Int) < (ns.length : Int) := by simpa using g
          exact List.length_eq_zero_iff.mp (by omega)
        have eb : decide (ns ≠ [] ∧ closedT ns = ns) = false := by simp [hne]
        rw [eb] at k
        have g' : decide (0 < (ns.length : Int)) = false := by simp [hne]
        exact k H1 s1
end
end Tt
set_option maxRecDepth 100000
set_option maxHeartbeats 4000000
namespace Tt
open PySem L2
section
variable {P : Program} {w : World} {K : PySem.W.Frag} {mg : Str → Option Value} {base : Heap}
def spCheckRound (T : Txt K mg) : Sp := fun vs H Q E => ∃ (p : Addr) (row : List Int) (x : V) (b : Bool), vs = [.ref p, x] ∧ SkAt T H p row ∧ (row.length ≤ 12 ∧ row.length % 2 = 0) ∧ RdOr row x H K b ∧ (b = true → ∀ H', Same H H' → Q .non H') ∧ (b = false → ∀ H', Same H H' → E (.ref T.BadRound.C) none H')
theorem ok_check_round (T : Txt K mg) : FnOk P w K mg base (L2.CX P w) 7 T.check_round.a T.check_round.fd ["skin", "loop"] (spCheckRound T) := by
  refine T.check_round.F.okX sc_check_round (fun vs H Q E h => ?_) (fun cdv A outer s H vs Q E hr h => ?_)
  · obtain ⟨p, row, x, b, rfl, _⟩ := h
    rfl
  · obtain ⟨p, row, x, b, rfl, hs, hl, hx, k1, k2⟩ := h
    refine ⟨_, (pss_one (ps_if (pt_not (pt_val (pe_call (ok_is_fit_round T) (hr.mono (by decide)) (by rfl) T.is_fit_round.g T.is_fit_round.k T.is_fit_round.b .nil pass0 (pa_cons (pv 0) (pa_cons (pv 1) pa_nil)))))
      (pss_one (ps_raise rfl (takes_of rfl rfl rfl rfl) (pmk_own PySem.F.excBase_ValueError T.BadRound.q T.BadRound.g T.BadRound.k (raises_own T.BadRound.ec.hs T.BadRound.ty) rfl)))
      pss_nil)), ?_⟩
    refine ⟨_, rfl, _, rfl, p, row, x, b, rfl, hs, hl, hx, fun H1 s1 => ⟨_, rfl, ?_⟩⟩
    cases b with
    | true => exact iteF (k1 rfl H1 s1)
    | false =>
      refine iteT ?_
      exact k2 rfl H1 s1
def spTurnedAbout (T : Txt K mg) : Sp := fun vs H Q E => ∃ (v x : V), vs = [v, x] ∧ SkOr T v H E fun p row =>
  (RdOr row x H K false ∧ ∀ H', Same H H' → E (.ref T.BadRound.C) none H') ∨
  ∃ (t : Addr) (ns : List Int), x = .ref t ∧ SqT K H t (ns.map V.int) ∧ ns.length ≤ 40 ∧ Lt (row.length : Int) ns ∧ ns ≠ [] ∧ closedT ns = ns ∧ ∀ q H', Same H H' → SqT K H' q ((leastT (Wd.undo ns)).map V.int) → Q (.ref q) H'
theorem ok_turned_about (T : Txt K mg) : FnOk P w K mg base (L2.CX P w) 8 T.turned_about.a T.turned_about.fd ["skin", "loop"] (spTurnedAbout T) := by
  refine T.turned_about.F.okX sc_turned_about (fun vs H Q E h => ?_) (fun cdv A outer s H vs Q E hr h => ?_)
  · obtain ⟨v, x, rfl, _⟩ := h
    rfl
  · obtain ⟨v, x, rfl, h⟩ := h
    refine ⟨_, (pss_cons (ps_expr (pe_callS (ok_check_skin T) (hr.mono (by decide)) (by rfl) T.check_skin.g T.check_skin.k T.check_skin.b (fun σ => passAt (takes_of rfl rfl rfl rfl) σ) (pa_cons (pv 0) pa_nil)))
    (pss_cons (ps_expr (pe_callS (ok_check_round T) (hr.mono (by decide)) (by rfl) T.check_round.g T.check_round.k T.check_round.b (fun σ => passAt (takes_of rfl rfl rfl rfl) σ) (pa_cons (pv 0) (pa_cons (pv 1) pa_nil))))
    (pss_one (ps_ret (pe_call (ok_gone_round_back T) (hr.mono (by decide)) (by rfl) T.gone_round_back.g T.gone_round_back.k T.gone_round_back.b .nil pass0 (pa_cons (pv 1) pa_nil)))))), ?_⟩
    rcases h with ⟨hv, he⟩ | ⟨p, row, rfl, hs, hl, h⟩
    · exact ⟨v, rfl, v, false, rfl, hv, (fun z => nomatch z), fun _ => he⟩
    · refine ⟨_, rfl, _, true, rfl, hs.v, (fun _ => ?_), fun z => nomatch z⟩
      rcases h with ⟨hw, k⟩ | ⟨t, ns, rfl, ht, hn, hb, hne, hc, k⟩
      · exact ⟨_, rfl, _, rfl, p, row, x, false, rfl, hs, hl, hw, (fun z => nomatch z), fun _ => k⟩
      · refine ⟨_, rfl, _, rfl, p, row, _, true, rfl, hs, hl, .inr ⟨t, ns, rfl, ht, hn, hb, (decide_eq_true ⟨hne, hc⟩).symm⟩, (fun _ H1 s1 => ?_), fun z => nomatch z⟩
        refine ⟨_, rfl, t, ns, rfl, same_seqT s1 ht, hne, by omega, (fun x hx => ?_), fun q H' s2 hq => k q H' (s1.trans s2) hq⟩
        have := hb x hx
        have := hl.1
        omega
end
end Tt
set_option maxRecDepth 100000
set_option maxHeartbeats 4000000
namespace Tt
open PySem L2
section
variable {P : Program} {w : World} {K : PySem.W.Frag} {mg : Str → Option Value} {base : Heap}
def spIsRound (T : Txt K mg) : Sp := fun vs H Q E => ∃ (v x : V), vs = [v, x] ∧ SkOr T v H E fun p row => ∃ b, RdOr row x H K b ∧ ∀ H', Same H H' → Q (.bl b) H'
theorem ok_is_round (T : Txt K mg) : FnOk P w K mg base (L2.CX P w) 7 T.is_round.a T.is_round.fd ["skin", "thing"] (spIsRound T) := by
  refine T.is_round.F.okX sc_is_round (fun vs H Q E h => ?_) (fun cdv A outer s H vs Q E hr h => ?_)
  · obtain ⟨v, x, rfl, _⟩ := h
    rfl
  · obtain ⟨v, x, rfl, h⟩ := h
    refine ⟨_, (pss_cons (ps_expr (pe_callS (ok_check_skin T) (hr.mono (by decide)) (by rfl) T.check_skin.g T.check_skin.k T.check_skin.b (fun σ => passAt (takes_of rfl rfl rfl rfl) σ) (pa_cons (pv 0) pa_nil)))
    (pss_one (ps_ret (pe_call (ok_is_fit_round T) (hr.mono (by decide)) (by rfl) T.is_fit_round.g T.is_fit_round.k T.is_fit_round.b .nil pass0 (pa_cons (pv 0) (pa_cons (pv 1) pa_nil)))))), ?_⟩
    rcases h with ⟨hv, he⟩ | ⟨p, row, rfl, hs, hl, b, hx, k⟩
    · exact ⟨v, rfl, v, false, rfl, hv, (fun z => nomatch z), fun _ => he⟩
    · exact ⟨_, rfl, _, true, rfl, hs.v, (fun _ => ⟨_, rfl, _, rfl, p, row, x, b, rfl, hs, hl, hx, k⟩), fun z => nomatch z⟩
end
end Tt
set_option maxRecDepth 100000
set_option maxHeartbeats 4000000
namespace Tt
open PySem L2
section
variable {P : Program} {w : World} {K : PySem.W.Frag} {mg : Str → Option Value} {base : Heap}
def spStripped (K : PySem.W.Frag) : Sp := fun vs H Q _ => ∃ (p : Addr) (ns : List Int), vs = [.ref p] ∧ SqT K H p (ns.map V.int) ∧ ns.length ≤ 400 ∧ (∀ x ∈ ns, 0 ≤ x ∧ x < 12) ∧
  ∀ q H', Same H H' → H' q = some (.tup ((Wd.core ns).map V.int)) → Q (.ref q) H'
theorem ok_l_stripped (T : Txt K mg) : FnOk P w K mg base CX0 3 T.l_stripped.a T.l_stripped.fd ["word_here"] (spStripped K) := by
  refine T.l_stripped.F.ok sc_l_stripped (fun vs H Q E h => ?_) (fun cdv A outer s H vs Q E hr h => ?_)
  · obtain ⟨p, ns, rfl, _⟩ := h
    rfl
  · obtain ⟨p, ns, rfl, hp, hl, hb, k⟩ := h
    have nd := sc_l_stripped.nd
    refine ⟨_, (pss_cons (ps_set (i := 1) nd rfl (Or.inl rfl) (pe_callTy call_list_of (by rfl) T.zlist (by decide +kernel) (pa_cons (pe_call (ok_l_freed T) (hr.mono (by decide)) (by rfl) T.l_freed.g T.l_freed.k T.l_freed.b .nil pass0 (pa_cons (pv 0) pa_nil)) pa_nil)))
    (pss_cons (ps_while PassesOwn.never (PW.pt (pw_and (pt_cmpR op_gt (pe_callB call_len_seq (by rfl) T.zlen (by decide +kernel) (pa_cons (pv 1) pa_nil)) pe_int (nomark _)) (pw_and1 (pt_cmpR op_eq (pe_ix ix_list (pv 1) pe_int (fun _ _ => rfl)) (pe_call (ok_l_mate T) (hr.mono (by decide)) (by rfl) T.l_mate.g T.l_mate.k T.l_mate.b .nil pass0 (pa_cons (pe_ix ix_list (pv 1) (pe_un un_neg pe_int) (fun _ _ => rfl)) pa_nil)) (nomark _)))))
      (pss_one (ps_set (i := 1) nd rfl (Or.inl rfl) (pe_slice sl_list (pv 1) (po_some pe_int) (po_some (pe_un un_neg pe_int))))))
    (pss_one (ps_ret (pe_callTy call_tuple_of (by rfl) T.ztuple (by decide +kernel) (pa_cons (pv 1) pa_nil)))))), ?_⟩
    refine ⟨_, rfl, p, ns, rfl, hp, by omega, hb, fun f H1 s1 h1 => ?_⟩
    refine ⟨f, _, rfl, .inr (SqT.of h1), fun l hl2 => ?_⟩
    have lf : (Wd.freed ns).length ≤ 400 := Nat.le_trans (Wd.len_freed ns) hl
    have s2 : Same H (upd H1 l (.lst ((Wd.freed ns).map V.int))) := s1.trans (same_new hl2)
    have e2 : (upd H1 l (.lst ((Wd.freed ns).map V.int))) l = some (.lst ((Wd.freed ns).map V.int)) := upd_same
    have ec : Wd.strip (Wd.freed ns) = Wd.core ns := rfl
    generalize upd H1 l (.lst ((Wd.freed ns).map V.int)) = H2 at s2 e2
    generalize Wd.freed ns = fs at e2 lf ec
    refine while_by (fun σ H' => ∃ (l : Addr) (fs : List Int), σ = [some (.ref p), some (.ref l)] ∧ H' l = some (.lst (fs.map V.int)) ∧ fs.length ≤ 400 ∧ Wd.strip fs = Wd.core ns ∧ Same H H') (lenOf 1) ⟨l, fs, rfl, e2, lf, ec, s2⟩ ?_ ?_
    · rintro σ H' ⟨l, fs, rfl, e2, lf, ec, s2⟩
      apply let_one (J := Wd.strip fs = fs)
      · intro out
        refine ⟨_, rfl, l, _, rfl, .inl (SqL.of e2), _, _, rfl, rfl, _, rfl, ?_⟩
        rw [List.length_map]
        refine ite2 (fun g => ?_) (fun g => ?_)
        · have g' : 1 < fs.length := by
            have : (1 : Int) < (fs.length : Int) := by simpa using g
            omega
          obtain ⟨a, m, b, rfl⟩ := ends_of g'
          have l0 : atI ((a :: (m ++ [b])).map V.int) 0 = some (V.int a) := atI_nat (j := 0) rfl
          have l1 : atI ((a :: (m ++ [b])).map V.int) (-1) = some (V.int b) := by
            have := L2.atI_last (V.int a :: m.map V.int) (V.int b)
            simpa using this
          refine ⟨_, rfl, l, _, 0, V.int a, rfl, rfl, SqL.of e2, l0, ?_⟩
          refine ⟨_, rfl, 1, rfl, l, _, (-1), V.int b, rfl, rfl, SqL.of e2, l1, b, rfl, ?_⟩
          refine ⟨rfl, _, rfl, ite2 (fun z => ?_) (fun z => ?_)⟩
          · have z' : a = Wd.mate b := by simpa using z
            refine ⟨_, rfl, 1, rfl, 1, rfl, (-1), rfl, l, _, rfl, SqL.of e2, fun l' hl' => ?_⟩
            have em : cutV ((a :: (m ++ [b])).map V.int) (some 1) (some (-1)) = m.map V.int := by
              have e : (a :: (m ++ [b])).map V.int = V.int a :: (m.map V.int ++ [V.int b]) := by simp
              rw [e]
              exact cut_in _ _ _
            rw [em]
            have e3 : (upd H' l' (.lst (m.map V.int))) l' = some (.lst (m.map V.int)) := upd_same
            refine ⟨⟨l', m, rfl, e3, ?_, ?_, s2.trans (same_new hl')⟩, ?_⟩
            · rw [List.length_cons, List.length_append] at lf
              omega
            · rw [← strip_cut z']
              exact ec
            · rw [lenOf_of (i := 1) (f := l') rfl e3, lenOf_of (i := 1) (f := l) rfl e2]
              simp
              omega
          · refine out (Wd.strip_no ?_)
            have z' : a ≠ Wd.mate b := by simpa using z
            have : (a :: (m ++ [b])).getLast? = some b := by simp [List.getLast?_cons]
            rw [this]
            simpa using z'
        · refine iteF (out (Wd.strip_short ?_))
          have : ¬ (1 : Int) < (fs.length : Int) := by simpa using g
          omega
      intro hm
      have ef : fs = Wd.core ns := hm.symm.trans ec
      subst ef
      refine ⟨_, rfl, l, _, rfl, .inl ⟨SqL.of e2, fun t ht => ?_⟩⟩
      exact k t _ (s2.trans (same_new ht)) upd_same
    · rintro σ H Q Q' hq ⟨v1, a1, p1, ys1, a2, a3, i1, j1, a4, a5, b1, a6, a7⟩
      refine ⟨v1, a1, p1, ys1, a2, a3, i1, j1, a4, a5, b1, a6, ?_⟩
      cases b1 with
      | false => exact iteF (hq _ _ (by simpa using a7))
      | true =>
        rw [if_pos rfl] at a7
        obtain ⟨c1, d1, q1, xs1, n1, u1, d3, d4, d5, d6, c3, d7, m1, d8, q2, xs2, n2, u2, d9, d10, d11, d12, x1, d13, d14, b2, d15, d16⟩ := a7
        exact iteT ⟨c1, d1, q1, xs1, n1, u1, d3, d4, d5, d6, c3, d7, m1, d8, q2, xs2, n2, u2, d9, d10, d11, d12, x1, d13, d14, b2, d15, hq _ _ d16⟩
end
end Tt
set_option maxRecDepth 100000
set_option maxHeartbeats 4000000
namespace Tt
open PySem L2
section
variable {P : Program} {w : World} {K : PySem.W.Frag} {mg : Str → Option Value} {base : Heap}
theorem slT_rng {xs : List V} {a : Addr} {H : Hp} {Q : VK} {i j : Nat} (hij : i ≤ j) (hj : j ≤ xs.length) (h : SqT K H a xs) (q : ∀ b H', Same H H' → SqT K H' b ((xs.drop i).take (j - i)) → Q (.ref b) H') : rSlA K (.ref a) (some (i : Int)) (some (j : Int)) H Q := by
  have e1 : HT.sIx xs.length 0 (some (i : Int)) = i := by rw [HT.sIx_nat]; omega
  have e2 : HT.sIx xs.length xs.length (some (j : Int)) = j := by rw [HT.sIx_nat]; omega
  refine ⟨a, xs, rfl, h, fun z => ?_, fun _ p hp => ?_⟩
  · rw [e1, e2] at z
    obtain ⟨z0, z1⟩ := z
    subst z0
    subst z1
    refine q a H (fun _ _ z => z) ?_
    rw [List.drop_zero, Nat.sub_zero, List.take_length]
    exact h
  · refine q p _ (same_new hp) ?_
    unfold cutV
    rw [e1, e2]
    exact SqT.of upd_same
def win (b : List Int) (j : Nat) : List Int := ((b ++ b).drop j).take b.length
theorem win_turn {b : List Int} {j : Nat} (h : j ≤ b.length) : win b j = turnAt b j := by
  unfold win turnAt
  rw [List.drop_append_of_le_length h, List.take_append, List.length_drop, List.take_of_length_le (by rw [List.length_drop]; omega)]
  congr 1
  have : b.length - (b.length - j) = j := by omega
  rw [this]
theorem win_all {a b : List Int} (hl : a.length = b.length) : (∃ j, j < max 1 b.length ∧ win b j = a) ↔ Wd.Turn a b := by
  constructor
  · rintro ⟨j, hj, rfl⟩
    by_cases hb : b = []
    · subst hb
      have : win [] j = [] := by simp [win]
      rw [this]
      exact Wd.Turn.refl _
    · have := List.length_pos_iff.mpr hb
      rw [win_turn (by omega)]
      exact (turnAt_turn j).symm
  · intro t
    by_cases hb : b = []
    · subst hb
      have ha : a = [] := (turn_nil t).mpr rfl
      subst ha
      exact ⟨0, by simp, by simp [win]⟩
    · have hm := (mem_turns hb).mpr t.symm
      unfold turns at hm
      obtain ⟨j, hj, e⟩ := List.mem_map.mp hm
      have := List.mem_range.mp hj
      exact ⟨j, by omega, by rw [win_turn (by omega)]; exact e⟩
def spIsTurn (K : PySem.W.Frag) : Sp := fun vs H Q _ => ∃ (p q : Addr) (a b : List Int), vs = [.ref p, .ref q] ∧ SqT K H p (a.map V.int) ∧ SqT K H q (b.map V.int) ∧ a.length ≤ 400 ∧ b.length ≤ 400 ∧
  ∀ (r : Bool) H', Same H H' → (r = true ↔ Wd.Turn a b) → Q (.bl r) H'
theorem ok_l_is_turn (T : Txt K mg) : FnOk P w K mg base CX0 2 T.l_is_turn.a T.l_is_turn.fd ["one", "other"] (spIsTurn K) := by
  refine T.l_is_turn.F.ok sc_l_is_turn (fun vs H Q E h => ?_) (fun cdv A outer s H vs Q E hr h => ?_)
  · obtain ⟨p, q, a, b, rfl, _⟩ := h
    rfl
  · obtain ⟨p, q, a, b, rfl, ha, hb, la, lb, k⟩ := h
    have nd := sc_l_is_turn.nd
    refine ⟨_, (pss_cons (ps_if (pt_cmpR op_ne (pe_callB call_len_seq (by rfl) T.zlen (by decide +kernel) (pa_cons (pv 0) pa_nil)) (pe_callB call_len_seq (by rfl) T.zlen (by decide +kernel) (pa_cons (pv 1) pa_nil)) (nomark _))
      (pss_one (ps_ret pe_bl))
      pss_nil)
    (pss_cons (ps_set (i := 2) nd rfl (Or.inr rfl) (pe_op op_catA (pv 1) (pv 1)))
    (pss_one (ps_ret (pe_cmpR (op_neD hr.units) (pe_lc (own := [("at", 3)]) (g := gName 3) rfl nd (pi_range1 rfl T.zrange (pa_cons (pe_callB (call_max2 rfl) (by rfl) T.zmax (by decide +kernel) (pa_cons pe_int (pa_cons (pe_callB call_len_seq (by rfl) T.zlen (by decide +kernel) (pa_cons (pv 1) pa_nil)) pa_nil))) pa_nil)) (blkOk_by (own := [("at", 3)]) (N := N_l_is_turn) (sc := defScope s_l_is_turn) (by decide +kernel)) (fun _ _ _ _ _ => pg_name (i := 3) nd rfl (Or.inl rfl)) (fun _ _ _ _ _ => pts_one (pt_cmpR (op_eqDK (K := K) rfl hr.units) (pe_slice (sl_tupAK (K := K) rfl) (pv 2) (po_some (pv 3)) (po_some (pe_op op_add (pv 3) (pe_callB (call_len_seqK (K := K) rfl) (by rfl) T.zlen (by decide +kernel) (pa_cons (pv 0) pa_nil))))) (pv 0) (nomark _))) (fun _ _ _ _ _ => pe_int)) (pe_lst pa_nil) (nomark _)))))), ?_⟩
    refine ⟨_, rfl, p, _, rfl, .inr ha, _, rfl, q, _, rfl, .inr hb, rfl, _, rfl, ?_⟩
    rw [List.length_map, List.length_map]
    by_cases hl : a.length = b.length
    · have e0 : (!decide (V.int (a.length : Int) = V.int (b.length : Int))) = false := by simp [hl]
      rw [e0]
      refine iteF ⟨_, rfl, _, rfl, ?_⟩
      refine catA_gen (K := K) hb hb ?_ fun t H1 s1 ht => ?_
      · rw [List.length_map]
        exact Nat.le_of_lt (small1000 (by omega))
      rw [← List.map_append] at ht
      have hb1 := same_seqT s1 hb
      have ha1 := same_seqT s1 ha
      refine ⟨_, rfl, q, _, rfl, .inr hb1, _, _, rfl, _, rfl, ?_, ?_, fun D1 hD1 => ?_⟩
      · split <;> omega
      · rw [List.length_map]
        split <;> omega
      have en : (if ((b.map V.int).length : Int) > 1 then ((b.map V.int).length : Int) else 1).toNat = max 1 b.length := by
        rw [List.length_map]
        split <;> omega
      refine lc_range (lo := 0) (n := (if ((b.map V.int).length : Int) > 1 then ((b.map V.int).length : Int) else 1).toNat) (fun i H' => ∃ c : Nat, c ≤ i ∧ H' D1 = some (.lst ((List.replicate c (1 : Int)).map V.int)) ∧ (c = 0 ↔ ∀ j, j < i → win b j ≠ a) ∧ Same H1 H')
        ⟨0, Nat.le_refl _, upd_same, ⟨fun _ j hj => absurd hj (Nat.not_lt_zero j), fun _ => rfl⟩, same_new hD1⟩ ?_ ?_
      · rintro i H' hi ⟨c, hc, h1, hiff, s2⟩
        rw [en] at hi
        have sA := s1.trans s2
        have ht2 := same_seqT s2 ht
        have ha2 := same_seqT s2 ha1
        have lbb : ((b ++ b).map V.int).length = 2 * b.length := by
          rw [List.length_map, List.length_append]
          omega
        refine ⟨rfl, ?_⟩
        refine ⟨_, rfl, _, rfl, (i : Int), by rw [Int.zero_add], _, rfl, _, rfl, p, _, rfl, .inr ha2, _, _, rfl, rfl, ((i + a.length : Nat) : Int), ?_, ?_⟩
        · rw [List.length_map]
          exact congrArg V.int (by omega)
        · refine slT_rng (K := K) (by omega) (by rw [lbb]; omega) ht2 fun x H3 s3 hx => ?_
          have ew : (((b ++ b).map V.int).drop i).take (i + a.length - i) = (win b i).map V.int := by
            unfold win
            rw [List.map_take, List.map_drop]
            congr 1
            omega
          rw [ew] at hx
          have ha3 := same_seqT s3 ha2
          refine ⟨_, rfl, .tuple ((win b i).map PyData.int), .tuple (a.map PyData.int), .tup hx (dpAll_ints _ _), .tup ha3 (dpAll_ints _ _), shapedAll_ints _, shapedAll_ints _, ?_⟩
          have ev : PyData.eqv (.tuple ((win b i).map PyData.int)) (.tuple (a.map PyData.int)) = decide (win b i = a) := eqv_ints (win b i) a
          rw [ev]
          refine ⟨_, rfl, ?_⟩
          have h3 := s3 _ _ h1
          refine ite2 (fun z => ?_) (fun z => ?_)
          · have z' : win b i = a := of_decide_eq_true z
            refine ⟨_, h3, by rw [List.length_map, List.length_replicate]; exact small1000 (by omega), c + 1, by omega, ?_, ⟨fun z2 => absurd z2 (by omega), fun z2 => absurd z' (z2 i (by omega))⟩, fun bb o hbb => ?_⟩
            · rw [upd_same, List.replicate_succ', List.map_append]
              rfl
            · rw [upd_ne (ne_of_none hbb hD1)]
              exact s3 _ _ (s2 _ _ hbb)
          · have z' : win b i ≠ a := fun e => z (decide_eq_true e)
            refine ⟨c, by omega, h3, ⟨fun c0 j hj => ?_, fun g => hiff.mpr fun j hj => g j (by omega)⟩, s2.trans s3⟩
            rcases Nat.lt_succ_iff_lt_or_eq.mp hj with hj | rfl
            · exact hiff.mp c0 j hj
            · exact z'
      · rintro H' ⟨c, hc, h1, hiff, s2⟩
        rw [en] at hiff
        refine ⟨(by show 0 ≤ sizeLine; decide), fun l hl0 => ?_⟩
        have sN : Same H' (upd H' l (.lst [])) := same_new hl0
        refine ⟨.list ((List.replicate c (1 : Int)).map PyData.int), .list [], .lst (SqL.of (sN _ _ h1)) (dpAll_ints _ _), .lst (SqL.of upd_same) .nil, shapedAll_ints _, rfl, ?_⟩
        have ev : PyData.eqv (.list ((List.replicate c (1 : Int)).map PyData.int)) (.list []) = decide (List.replicate c (1 : Int) = []) := eqv_ints (List.replicate c (1 : Int)) []
        rw [ev]
        refine k _ _ ((s1.trans s2).trans sN) ?_
        rw [← win_all hl]
        have e1 : (!decide (List.replicate c (1 : Int) = [])) = true ↔ c ≠ 0 := by simp
        rw [e1]
        constructor
        · intro hc0
          exact Classical.byContradiction fun g => hc0 (hiff.mpr fun j hj e => g ⟨j, hj, e⟩)
        · rintro ⟨j, hj, e⟩ c0
          exact hiff.mp c0 j hj e
    · have e0 : (!decide (V.int (a.length : Int) = V.int (b.length : Int))) = true := by
        simp
        omega
      rw [e0]
      refine iteT (k false H (fun _ _ z => z) ⟨(fun z => nomatch z), fun t => ?_⟩)
      obtain ⟨u, v, rfl, rfl⟩ := t
      exact absurd (by simp [Nat.add_comm]) hl
end
end Tt
set_option maxRecDepth 100000
set_option maxHeartbeats 4000000
namespace Tt
open PySem L2
section
variable {P : Program} {w : World} {K : PySem.W.Frag} {mg : Str → Option Value} {base : Heap}
theorem let_two {J C : Addr → Hp → Prop} {G : Prop} (main : (∀ l H', J l H' → C l H') → G) (rest : ∀ l H', J l H' → C l H') : G := main rest
def Fl (m : Int) (i : Nat) : List Int := (rgI i).filter fun x => decide (x ≠ m)
theorem rgI_snoc (i : Nat) : rgI (i + 1) = rgI i ++ [(i : Int)] := by
  unfold rgI
  rw [List.range_succ, List.map_append]
  rfl
theorem Fl_yes {m : Int} {i : Nat} (h : (i : Int) ≠ m) : Fl m (i + 1) = Fl m i ++ [(i : Int)] := by
  unfold Fl
  rw [rgI_snoc, List.filter_append]
  simp [h]
theorem Fl_no {m : Int} {i : Nat} (h : (i : Int) = m) : Fl m (i + 1) = Fl m i := by
  unfold Fl
  rw [rgI_snoc, List.filter_append]
  simp [h]
theorem Fl_mem {m x : Int} {i : Nat} : x ∈ Fl m i ↔ (0 ≤ x ∧ x < i) ∧ x ≠ m := by
  unfold Fl
  rw [List.mem_filter, perm_mem (List.Perm.refl (rgI i))]
  simp
theorem Fl_len (m : Int) (i : Nat) : (Fl m i).length ≤ i := by
  unfold Fl
  exact Nat.le_trans (List.length_filter_le _ _) (Nat.le_of_eq (rgI_len i))
def spCore : Sp := fun vs H Q _ => ∃ (D : Dw) (e z : Int), vs = [.ref D.d, .int e, .int z] ∧ 2 ≤ e ∧ e ≤ 12 ∧ e % 2 = 0 ∧ 1 ≤ z ∧ z ≤ 60 ∧ DrOk D H ∧
  ∀ (ns : List Int) q H', (ns.length : Int) = z → Lt e ns → DrOk D H' → Kp D H H' → H' q = some (.tup (ns.map V.int)) → Q (.ref q) H'
theorem ok_l_core (T : Txt K mg) : FnOk P w K mg base CX0 4 T.l_core.a T.l_core.fd ["draw", "ends_here", "size"] spCore := by
  refine T.l_core.F.ok sc_l_core (fun vs H Q E h => ?_) (fun cdv A outer s H vs Q E hr h => ?_)
  · obtain ⟨D, e, z, rfl, _⟩ := h
    rfl
  · obtain ⟨D, e, z, rfl, e2, e12, ev, z1, z60, dr, k⟩ := h
    have nd := sc_l_core.nd
    refine ⟨_, (pss_cons (ps_set (i := 3) nd rfl (Or.inr rfl) (pe_lst (pa_cons (pe_call (ok_l_take T) (hr.mono (by decide)) (by rfl) T.l_take.g T.l_take.k T.l_take.b .nil pass0 (pa_cons (pv 0) (pa_cons (pv 1) pa_nil))) pa_nil)))
    (pss_cons (ps_while PassesOwn.never (pt_cmpR op_lt (pe_callB call_len_seq (by rfl) T.zlen (by decide +kernel) (pa_cons (pv 3) pa_nil)) (pv 2) (nomark _))
      (pss_cons (ps_setLc (i := 4) (own := [("letter", 5)]) (g := gName 5) rfl nd rfl rfl (sw_true rfl rfl rfl (by decide +kernel)) (pi_range1 rfl T.zrange (pa_cons (pv 1) pa_nil)) (blkOk_by (own := [("letter", 5)]) (N := N_l_core) (sc := defScope s_l_core) (by decide +kernel)) (fun _ _ _ _ _ => pg_name (i := 5) nd rfl (Or.inl rfl)) (fun _ _ _ _ _ => pts_one (pt_cmpR op_ne (pv 5) (pe_call (ok_l_mate T) (hr.mono (by decide)) (by rfl) T.l_mate.g T.l_mate.k T.l_mate.b .nil pass0 (pa_cons (pe_ix (ix_listK (K := K) rfl) (pv 3) (pe_un un_neg pe_int) (fun _ _ => rfl)) pa_nil)) (nomark _))) (fun _ _ _ _ _ => (pv 5)))
      (pss_cons (ps_if (PW.pt (pw_and (pt_cmpR op_eq (pe_callB call_len_seq (by rfl) T.zlen (by decide +kernel) (pa_cons (pv 3) pa_nil)) (pe_op op_sub (pv 2) pe_int) (nomark _)) (pw_and1 (pt_cmpR op_gt (pv 1) pe_int (nomark _)))))
        (pss_one (ps_setLc (i := 4) (own := [("letter", 5)]) (g := gName 5) rfl nd rfl rfl (sw_true rfl rfl rfl (by decide +kernel)) (pi_list (pv 4)) (blkOk_by (own := [("letter", 5)]) (N := N_l_core) (sc := defScope s_l_core) (by decide +kernel)) (fun _ _ _ _ _ => pg_name (i := 5) nd rfl (Or.inl rfl)) (fun _ _ _ _ _ => pts_one (pt_cmpR op_ne (pv 5) (pe_call (ok_l_mate T) (hr.mono (by decide)) (by rfl) T.l_mate.g T.l_mate.k T.l_mate.b .nil pass0 (pa_cons (pe_ix (ix_listK (K := K) rfl) (pv 3) pe_int (fun _ _ => rfl)) pa_nil)) (nomark _))) (fun _ _ _ _ _ => (pv 5))))
        pss_nil)
      (pss_one (ps_expr (pe_bm PySem.F.plainAttrs_list PySem.F.slot_list_append PySem.F.type_list_append mt_append (pv 3) (pa_cons (pe_call (ok_l_pick T) (hr.mono (by decide)) (by rfl) T.l_pick.g T.l_pick.k T.l_pick.b .nil pass0 (pa_cons (pv 0) (pa_cons (pv 4) pa_nil))) pa_nil)))))))
    (pss_one (ps_ret (pe_callTy call_tuple_of (by rfl) T.ztuple (by decide +kernel) (pa_cons (pv 3) pa_nil)))))), ?_⟩
    refine ⟨_, rfl, _, rfl, D, e, rfl, by omega, by omega, dr, fun n H1 n0 n1 d1 k1 => ⟨(by show 1 ≤ sizeLine; decide), fun f hf => ?_⟩⟩
    have d2 := d1.new (o := .lst [.int n]) hf
    have k2 : Kp D H (upd H1 f (.lst [.int n])) := k1.trans (Kp.new hf)
    have of : Off D f := d1.off hf
    have h2 : (upd H1 f (.lst [.int n])) f = some (.lst (([n] : List Int).map V.int)) := upd_same
    have hfN : ∀ b o, H b = some o → b ≠ f := fun b o hb q => by
      subst q
      have := k1 b o hb of.1 of.2.1
      rw [hf] at this
      cases this
    generalize upd H1 f (.lst [.int n]) = H2 at d2 k2 h2
    refine while_by (fun σ H' => ∃ (fs : List Int) (v4 v5 : Option V), σ = [some (.ref D.d), some (.int e), some (.int z), some (.ref f), v4, v5] ∧ H' f = some (.lst (fs.map V.int)) ∧ 1 ≤ fs.length ∧ (fs.length : Int) ≤ z ∧ Lt e fs ∧ DrOk D H' ∧ Kp D H H') (lenAt 3)
      ⟨[n], none, none, rfl, h2, Nat.le_refl 1, by show (1 : Int) ≤ z; omega, fun x hx => by rw [List.mem_singleton.mp hx]; exact ⟨n0, n1⟩, d2, k2⟩ ?_ ?_
    · rintro σ H' ⟨fs, v4, v5, rfl, h3, l1, lz, lt, d3, k3⟩
      have hfb : ∀ b o, H b = some o → b ≠ f := hfN
      refine ⟨_, rfl, f, _, rfl, .inl (SqL.of h3), _, rfl, _, _, rfl, rfl, _, rfl, ?_⟩
      rw [List.length_map]
      refine ite2 (fun g => ?_) (fun g => ?_)
      · have g' : (fs.length : Int) < z := by simpa using g
        obtain ⟨la, hla, lat⟩ := atI_last (st := fs) (fun q => by subst q; simp at l1)
        refine ⟨_, rfl, e, rfl, by omega, by omega, fun D1 hD1 => ?_⟩
        refine lc_range (lo := 0) (n := e.toNat) (fun i H4 => H4 D1 = some (.lst ((Fl (Wd.mate la) i).map V.int)) ∧ Same H' H4) ⟨upd_same, same_new hD1⟩ ?_ ?_
        · rintro i H4 hi ⟨h4, s4⟩
          refine ⟨rfl, ?_⟩
          refine ⟨_, rfl, _, rfl, 1, rfl, f, _, (-1), V.int la, rfl, rfl, SqL.of (s4 _ _ h3), lat, la, rfl, rfl, _, rfl, ?_⟩
          have fl := Fl_len (Wd.mate la) i
          refine ite2 (fun c => ?_) (fun c => ?_)
          · have c' : (i : Int) ≠ Wd.mate la := by simpa using c
            refine ⟨_, rfl, _, h4, by rw [List.length_map]; exact small1000 (by omega), ?_, fun b o hb => ?_⟩
            · rw [upd_same, Fl_yes c', List.map_append, Int.zero_add]
              rfl
            · rw [upd_ne (ne_of_none hb hD1)]
              exact s4 b o hb
          · have c' : (i : Int) = Wd.mate la := by simpa using c
            exact ⟨by rw [Fl_no c']; exact h4, s4⟩
        · rintro H4 ⟨h4, s4⟩
          have d4 := d3.same s4
          have oD1 : Off D D1 := d3.off hD1
          have h3' := s4 _ _ h3
          have k4 : Kp D H H4 := k3.trans (Kp.of s4)
          clear s4 d3 k3
          have nf1 : D1 ≠ f := fun q => by
            rw [q] at hD1
            rw [h3] at hD1
            cases hD1
          have hR1 : ∀ x ∈ Fl (Wd.mate la) e.toNat, 0 ≤ x ∧ x < e := fun x hx => by
            have := (Fl_mem.mp hx).1
            omega
          have ne1 : Fl (Wd.mate la) e.toNat ≠ [] := fun q => by
            have z0 : (0 : Int) ∉ Fl (Wd.mate la) e.toNat := by rw [q]; simp
            have z1 : (1 : Int) ∉ Fl (Wd.mate la) e.toNat := by rw [q]; simp
            rw [Fl_mem] at z0 z1
            omega
          have ln1 : (Fl (Wd.mate la) e.toNat).length ≤ 12 := by
            have := Fl_len (Wd.mate la) e.toNat
            omega
          have f60 : fs.length ≤ 60 := by omega
          refine ⟨_, rfl, f, _, rfl, .inl (SqL.of h3'), _, rfl, _, _, rfl, rfl, rfl, _, rfl, ite2 (fun c1 => ?_) (fun c1 => iteF ?_)⟩
          · refine ⟨_, rfl, _, _, rfl, rfl, _, rfl, ite2 (fun c2 => ?_) (fun c2 => ?_)⟩
            · have e4 : (4 : Int) ≤ e := by
                have : (2 : Int) < e := by simpa using c2
                omega
              obtain ⟨f0, hf0⟩ : ∃ f0, fs[0]? = some f0 := ⟨_, List.getElem?_eq_getElem (by omega)⟩
              refine ⟨_, rfl, D1, rfl, ⟨_, SqL.of h4⟩, fun D2 hD2 => ?_⟩
              refine lc_list (K := K) (a := D1) (xs := (Fl (Wd.mate la) e.toNat).map V.int) (fun i H5 => H5 D2 = some (.lst ((((Fl (Wd.mate la) e.toNat).take i).filter fun x => decide (x ≠ Wd.mate f0)).map V.int)) ∧ Same H4 H5) ⟨upd_same, same_new hD2⟩ (fun i H5 _ q => SqL.of (q.2 _ _ h4)) ?_ ?_
              · rintro i y H5 hi ⟨h5, s5⟩
                obtain ⟨x, rfl, hx⟩ := ints_at hi
                have hil : i < (Fl (Wd.mate la) e.toNat).length := (List.getElem?_eq_some_iff.mp hx).1
                have at0 : atI (fs.map V.int) 0 = some (V.int f0) := atI_nat (j := 0) (ints_get hf0)
                have lenF : (((Fl (Wd.mate la) e.toNat).take i).filter fun x => decide (x ≠ Wd.mate f0)).length ≤ i := Nat.le_trans (List.length_filter_le _ _) (by rw [List.length_take]; omega)
                have tk : (Fl (Wd.mate la) e.toNat).take (i + 1) = (Fl (Wd.mate la) e.toNat).take i ++ [x] := by rw [List.take_add_one, hx]; rfl
                refine ⟨rfl, ?_⟩
                refine ⟨_, rfl, _, rfl, f, _, 0, V.int f0, rfl, rfl, SqL.of (s5 _ _ h3'), at0, f0, rfl, rfl, _, rfl, ?_⟩
                refine ite2 (fun c => ?_) (fun c => ?_)
                · have c' : x ≠ Wd.mate f0 := by simpa using c
                  refine ⟨_, rfl, _, h5, by rw [List.length_map]; exact small1000 (by omega), ?_, fun b o hb => ?_⟩
                  · rw [upd_same, tk, List.filter_append, List.map_append]
                    simp [c']
                  · rw [upd_ne (ne_of_none hb hD2)]
                    exact s5 b o hb
                · have c' : x = Wd.mate f0 := by simpa using c
                  refine ⟨?_, s5⟩
                  rw [tk, List.filter_append]
                  simp only [c', ne_eq, not_true_eq_false, decide_false, List.filter_cons, List.filter_nil, Bool.false_eq_true, if_false, List.append_nil]
                  simpa [c'] using h5
              · rintro H5 ⟨h5, s5⟩
                rw [List.length_map, List.take_length] at h5
                have d5 := d4.same s5
                have k5 : Kp D H H5 := k4.trans (Kp.of s5)
                have h6' := s5 _ _ h3'
                have oD2 : Off D D2 := d4.off hD2
                have hR2 : ∀ x ∈ (Fl (Wd.mate la) e.toNat).filter (fun x => decide (x ≠ Wd.mate f0)), 0 ≤ x ∧ x < e := fun x hx => hR1 x (List.mem_filter.mp hx).1
                have ln2 : ((Fl (Wd.mate la) e.toNat).filter (fun x => decide (x ≠ Wd.mate f0))).length ≤ 12 := Nat.le_trans (List.length_filter_le _ _) ln1
                have ne2 : (Fl (Wd.mate la) e.toNat).filter (fun x => decide (x ≠ Wd.mate f0)) ≠ [] := fun q => by
                  have no : ∀ j : Int, 0 ≤ j → j < e → j = Wd.mate la ∨ j = Wd.mate f0 := fun j j0 j1 => Classical.byContradiction fun g => by
                    have hm : j ∈ (Fl (Wd.mate la) e.toNat).filter (fun x => decide (x ≠ Wd.mate f0)) := by
                      refine List.mem_filter.mpr ⟨Fl_mem.mpr ⟨⟨j0, by omega⟩, fun z => g (.inl z)⟩, decide_eq_true fun z => g (.inr z)⟩
                    rw [q] at hm
                    cases hm
                  have a0 := no 0 (by omega) (by omega)
                  have a1 := no 1 (by omega) (by omega)
                  have a2 := no 2 (by omega) (by omega)
                  omega
                refine ⟨_, rfl, .inl ⟨rfl, _, SqL.of h6'⟩, _, rfl, _, rfl, D, D2, (((Fl (Wd.mate la) e.toNat).filter fun x => decide (x ≠ Wd.mate f0))).map V.int, rfl, .inl (SqL.of h5), oD2.2.1, (fun q => ne2 (List.map_eq_nil_iff.mp q)), ?_, d5, fun j y H6 hj d6 k6 => ?_⟩
                · rw [List.length_map]
                  have := ln2
                  omega
                · obtain ⟨v, rfl, hv⟩ := ints_at hj
                  have hvr := hR2 v (List.mem_of_getElem? hv)
                  have h6 := k6.at of h6'
                  refine ⟨f, _, _, rfl, rfl, h6, by rw [List.length_map]; exact small1000 (by omega), ⟨fs ++ [v], _, _, rfl, ?_, ?_, ?_, ?_, d6.put of, fun b o hb q1 q2 => ?_⟩, ?_⟩
                  · rw [upd_same, List.map_append]
                    rfl
                  · rw [List.length_append]
                    omega
                  · rw [List.length_append]
                    show ((fs.length + 1 : Nat) : Int) ≤ z
                    omega
                  · exact lt.app fun x hx => by rw [List.mem_singleton.mp hx]; exact hvr
                  · rw [upd_ne (hfb b o hb)]
                    exact k6 _ _ (k5 _ _ hb q1 q2) q1 q2
                  · rw [lenAt_of (i := 3) (f := f) rfl upd_same, lenAt_of (i := 3) (f := f) rfl h3]
                    rw [List.length_append, List.length_map]
                    show 1000 - (fs.length + 1) < 1000 - fs.length
                    omega
            · skip
              refine ⟨_, rfl, .inl ⟨rfl, _, SqL.of h3'⟩, _, rfl, _, rfl, D, D1, (Fl (Wd.mate la) e.toNat).map V.int, rfl, .inl (SqL.of h4), oD1.2.1, (fun q => ne1 (List.map_eq_nil_iff.mp q)), ?_, d4, fun j y H6 hj d6 k6 => ?_⟩
              · rw [List.length_map]
                have := ln1
                omega
              · obtain ⟨v, rfl, hv⟩ := ints_at hj
                have hvr := hR1 v (List.mem_of_getElem? hv)
                have h6 := k6.at of h3'
                refine ⟨f, _, _, rfl, rfl, h6, by rw [List.length_map]; exact small1000 (by omega), ⟨fs ++ [v], _, _, rfl, ?_, ?_, ?_, ?_, d6.put of, fun b o hb q1 q2 => ?_⟩, ?_⟩
                · rw [upd_same, List.map_append]
                  rfl
                · rw [List.length_append]
                  omega
                · rw [List.length_append]
                  show ((fs.length + 1 : Nat) : Int) ≤ z
                  omega
                · exact lt.app fun x hx => by rw [List.mem_singleton.mp hx]; exact hvr
                · rw [upd_ne (hfb b o hb)]
                  exact k6 _ _ (k4 _ _ hb q1 q2) q1 q2
                · rw [lenAt_of (i := 3) (f := f) rfl upd_same, lenAt_of (i := 3) (f := f) rfl h3]
                  rw [List.length_append, List.length_map]
                  show 1000 - (fs.length + 1) < 1000 - fs.length
                  omega
          · skip
            refine ⟨_, rfl, .inl ⟨rfl, _, SqL.of h3'⟩, _, rfl, _, rfl, D, D1, (Fl (Wd.mate la) e.toNat).map V.int, rfl, .inl (SqL.of h4), oD1.2.1, (fun q => ne1 (List.map_eq_nil_iff.mp q)), ?_, d4, fun j y H6 hj d6 k6 => ?_⟩
            · rw [List.length_map]
              have := ln1
              omega
            · obtain ⟨v, rfl, hv⟩ := ints_at hj
              have hvr := hR1 v (List.mem_of_getElem? hv)
              have h6 := k6.at of h3'
              refine ⟨f, _, _, rfl, rfl, h6, by rw [List.length_map]; exact small1000 (by omega), ⟨fs ++ [v], _, _, rfl, ?_, ?_, ?_, ?_, d6.put of, fun b o hb q1 q2 => ?_⟩, ?_⟩
              · rw [upd_same, List.map_append]
                rfl
              · rw [List.length_append]
                omega
              · rw [List.length_append]
                show ((fs.length + 1 : Nat) : Int) ≤ z
                omega
              · exact lt.app fun x hx => by rw [List.mem_singleton.mp hx]; exact hvr
              · rw [upd_ne (hfb b o hb)]
                exact k6 _ _ (k4 _ _ hb q1 q2) q1 q2
              · rw [lenAt_of (i := 3) (f := f) rfl upd_same, lenAt_of (i := 3) (f := f) rfl h3]
                rw [List.length_append, List.length_map]
                show 1000 - (fs.length + 1) < 1000 - fs.length
                omega
      · have g' : (fs.length : Int) = z := by
          have : ¬ (fs.length : Int) < z := by simpa using g
          omega
        refine ⟨_, rfl, f, _, rfl, .inl ⟨SqL.of h3, fun q hq => ?_⟩⟩
        exact k fs q _ g' lt (d3.new hq) (k3.trans (Kp.new hq)) upd_same
    · rintro σ H Q Q' hq ⟨v, h1, p, ys, h2, h3, v2, h4, i, j, h5, h6, b, h7, h8⟩
      exact ⟨v, h1, p, ys, h2, h3, v2, h4, i, j, h5, h6, b, h7, hq _ _ h8⟩
end
end Tt
set_option maxRecDepth 100000
set_option maxHeartbeats 4000000
namespace Tt
open PySem L2
section
variable {P : Program} {w : World} {K : PySem.W.Frag} {mg : Str → Option Value} {base : Heap}
def spLed (K : PySem.W.Frag) : Sp := fun vs H Q _ => ∃ (D : Dw) (e : Int) (p : Addr) (ns : List Int), vs = [.ref D.d, .int e, .ref p, .int 200] ∧ 0 < e ∧ e ≤ 12 ∧ e % 2 = 0 ∧ SqT K H p (ns.map V.int) ∧ ns.length ≤ 200 ∧ Lt e ns ∧ DrOk D H ∧
  ∀ (ms : List Int) q H', ms.length ≤ 200 → Lt e ms → Wd.Turn (Wd.core ms) (Wd.core ns) → DrOk D H' → Kp D H H' → H' q = some (.tup (ms.map V.int)) → Q (.ref q) H'
theorem ok_l_led (T : Txt K mg) : FnOk P w K mg base CX0 4 T.l_led.a T.l_led.fd ["draw", "ends_here", "word_here", "most"] (spLed K) := by
  refine T.l_led.F.ok sc_l_led (fun vs H Q E h => ?_) (fun cdv A outer s H vs Q E hr h => ?_)
  · obtain ⟨D, e, p, ns, rfl, _⟩ := h
    rfl
  · obtain ⟨D, e, p, ns, rfl, e0, e12, ev, hs, hl, hlt, dr, k⟩ := h
    have nd := sc_l_led.nd
    refine ⟨_, (pss_cons (ps_set (i := 4) nd rfl (Or.inl rfl) (pe_callTy call_list_of (by rfl) T.zlist (by decide +kernel) (pa_cons (pv 2) pa_nil)))
    (pss_cons (ps_for PassesOwn.never rfl (pi_range1 rfl T.zrange (pa_cons (pe_op op_add pe_int (pe_call (ok_l_take T) (hr.mono (by decide)) (by rfl) T.l_take.g T.l_take.k T.l_take.b .nil pass0 (pa_cons (pv 0) (pa_cons pe_int pa_nil)))) pa_nil)) (pg_name (i := 5) nd rfl (Or.inl rfl))
      (pss_cons (ps_par3 (i := 6) (j := 7) (l := 8) rfl nd rfl rfl rfl (by decide) (by decide) (by decide) rfl rfl rfl (pa_cons (pe_call (ok_l_take T) (hr.mono (by decide)) (by rfl) T.l_take.g T.l_take.k T.l_take.b .nil pass0 (pa_cons (pv 0) (pa_cons pe_int pa_nil))) (pa_cons (pe_call (ok_l_take T) (hr.mono (by decide)) (by rfl) T.l_take.g T.l_take.k T.l_take.b .nil pass0 (pa_cons (pv 0) (pa_cons (pe_op op_add (pe_callB call_len_seq (by rfl) T.zlen (by decide +kernel) (pa_cons (pv 4) pa_nil)) pe_int) pa_nil))) (pa_cons (pe_call (ok_l_take T) (hr.mono (by decide)) (by rfl) T.l_take.g T.l_take.k T.l_take.b .nil pass0 (pa_cons (pv 0) (pa_cons (pv 1) pa_nil))) pa_nil))) rfl)
      (pss_cons (ps_if (pt_cmpR op_eq (pv 6) pe_int (nomark _))
        (pss_one (ps_set (i := 4) nd rfl (Or.inl rfl) (pe_op op_cat (pe_slice sl_list (pv 4) (po_some (pv 7)) po_none) (pe_slice sl_list (pv 4) po_none (po_some (pv 7))))))
        pss_nil)
      (pss_cons (ps_if (PW.pt (pw_and (pt_cmpR op_eq (pv 6) pe_int (nomark _)) (pw_and1 (pt_cmpR op_le (pe_op op_add (pe_callB call_len_seq (by rfl) T.zlen (by decide +kernel) (pa_cons (pv 4) pa_nil)) pe_int) (pv 3) (nomark _)))))
        (pss_one (ps_set (i := 4) nd rfl (Or.inl rfl) (pe_op op_cat (pe_op op_cat (pe_slice sl_list (pv 4) po_none (po_some (pv 7))) (pe_lst (pa_cons (pv 8) (pa_cons (pe_call (ok_l_mate T) (hr.mono (by decide)) (by rfl) T.l_mate.g T.l_mate.k T.l_mate.b .nil pass0 (pa_cons (pv 8) pa_nil)) pa_nil)))) (pe_slice sl_list (pv 4) (po_some (pv 7)) po_none))))
        pss_nil)
      (pss_one (ps_if (pt_cmpR op_eq (pv 6) pe_int (nomark _))
        (pss_cons (ps_set (i := 9) nd rfl (Or.inl rfl) (pe_call (ok_l_take T) (hr.mono (by decide)) (by rfl) T.l_take.g T.l_take.k T.l_take.b .nil pass0 (pa_cons (pv 0) (pa_cons (pe_callB (call_max2 rfl) (by rfl) T.zmax (by decide +kernel) (pa_cons pe_int (pa_cons (pe_op op_add (pe_op op_fdiv (pe_op op_sub (pv 3) (pe_callB call_len_seq (by rfl) T.zlen (by decide +kernel) (pa_cons (pv 4) pa_nil))) pe_int) pe_int) pa_nil))) pa_nil))))
        (pss_cons (ps_setLc (i := 10) (own := [("place", 11)]) (g := gName 11) rfl nd rfl rfl (sw_true rfl rfl rfl (by decide +kernel)) (pi_range1 rfl T.zrange (pa_cons (pe_callB (call_min2 rfl) (by rfl) T.zmin (by decide +kernel) (pa_cons (pv 9) (pa_cons pe_int pa_nil))) pa_nil)) (blkOk_by (own := [("place", 11)]) (N := N_l_led) (sc := defScope s_l_led) (by decide +kernel)) (fun _ _ _ _ _ => pg_name (i := 11) nd rfl (Or.inl rfl)) (fun _ _ _ _ _ => pts_nil) (fun _ _ _ _ _ => (pe_call (ok_l_take T) (hr.mono (by decide)) (by rfl) T.l_take.g T.l_take.k T.l_take.b .nil pass0 (pa_cons (pv 0) (pa_cons (pv 1) pa_nil)))))
        (pss_one (ps_set (i := 4) nd rfl (Or.inl rfl) (pe_op op_cat (pe_op op_cat (pv 10) (pv 4)) (pe_lc (own := [("end", 12)]) (g := gName 12) rfl nd (pi_list (pe_revL (pv 10))) (blkOk_by (own := [("end", 12)]) (N := N_l_led) (sc := defScope s_l_led) (by decide +kernel)) (fun _ _ _ _ _ => pg_name (i := 12) nd rfl (Or.inl rfl)) (fun _ _ _ _ _ => pts_nil) (fun _ _ _ _ _ => (pe_call (ok_l_mate T) (hr.mono (by decide)) (by rfl) T.l_mate.g T.l_mate.k T.l_mate.b .nil pass0 (pa_cons (pv 12) pa_nil)))))))))
        pss_nil))))))
    (pss_one (ps_ret (pe_callTy call_tuple_of (by rfl) T.ztuple (by decide +kernel) (pa_cons (pv 4) pa_nil)))))), ?_⟩
    refine ⟨_, rfl, p, _, rfl, .inr hs, fun f hf => ?_⟩
    have d1 := dr.new (o := .lst (ns.map V.int)) hf
    have k1 : Kp D H (upd H f (.lst (ns.map V.int))) := Kp.new hf
    have h1 : (upd H f (.lst (ns.map V.int))) f = some (.lst (ns.map V.int)) := upd_same
    have o1 : Off D f := dr.off hf
    generalize upd H f (.lst (ns.map V.int)) = H1 at d1 k1 h1
    refine ⟨_, rfl, D, 12, rfl, by decide, by decide, d1, fun n H2 n0 n1 d2 k2 => ⟨_, _, rfl, rfl, _, rfl, by omega, by omega, ?_⟩⟩
    refine for_range (lo := 0) (fun i σ H' => ∃ (f : Addr) (fs : List Int) (v5 v6 v7 v8 v9 v10 v11 v12 : Option V), σ = [some (.ref D.d), some (.int e), some (.ref p), some (.int 200), some (.ref f), v5, v6, v7, v8, v9, v10, v11, v12] ∧ Off D f ∧ H' f = some (.lst (fs.map V.int)) ∧ fs.length ≤ 200 ∧ Lt e fs ∧ Wd.Turn (Wd.core fs) (Wd.core ns) ∧ DrOk D H' ∧ Kp D H H')
      ⟨f, ns, _, _, _, _, _, _, _, _, rfl, o1, k2.at o1 h1, hl, hlt, Wd.Turn.refl _, d2, k1.trans k2⟩ ?_ ?_
    · rintro i σ H' hi ⟨f, fs, v5, v6, v7, v8, v9, v10, v11, v12, rfl, o1, h1, hl, hlt, ht, d1, k1⟩
      refine ⟨_, rfl, D, 3, rfl, by decide, by decide, d1, fun w H2 w0 w1 d2 k2 => ?_⟩
      have h2 := k2.at o1 h1
      refine ⟨_, rfl, _, rfl, f, _, rfl, .inl (SqL.of h2), _, _, rfl, rfl, D, _, rfl, ?_⟩
      rw [List.length_map]
      refine ⟨by omega, by omega, d2, fun a H3 a0 a1 d3 k3 => ?_⟩
      have h3 := k3.at o1 h2
      refine ⟨_, rfl, _, rfl, D, e, rfl, e0, by omega, d3, fun b H5 b0 b1 d5 k4 => ?_⟩
      have h5 := k4.at o1 h3
      obtain ⟨m, rfl⟩ := Int.eq_ofNat_of_zero_le a0
      have hm : m ≤ fs.length := by omega
      refine ⟨_, _, _, rfl, ?_⟩
      have k5 : Kp D H H5 := ((k1.trans k2).trans k3).trans k4
      clear k1 k2 k3 k4 d1 d2 d3 h1 h2 h3
      obtain rfl | rfl | rfl : w = 0 ∨ w = 1 ∨ w = 2 := by omega
      ·
        refine ⟨_, rfl, rfl, _, rfl, ite2 (fun _ => ?_) (fun c => absurd (by decide) c)⟩
        refine ⟨_, rfl, _, rfl, _, rfl, f, _, rfl, SqL.of h5, fun p1 hp1 => ?_⟩
        rw [cut_from, ← List.map_drop]
        refine ⟨_, rfl, _, rfl, _, rfl, f, _, rfl, SqL.of (upk hp1 h5), fun p2 hp2 => ?_⟩
        rw [cut_to _ (by rw [List.length_map]; exact hm), ← List.map_take]
        refine ⟨p1, p2, _, _, rfl, rfl, upk hp2 upd_same, upd_same, ?_, fun p3 hp3 => ?_⟩
        · rw [List.length_map, List.length_map, List.length_take, List.length_drop]
          exact Nat.le_of_lt (small1000 (by omega))
        · rw [← List.map_append]
          refine ⟨_, rfl, rfl, _, rfl, ite2 (fun c => absurd c (by decide)) (fun _ => iteF ?_)⟩
          refine ⟨_, rfl, rfl, _, rfl, ite2 (fun c => absurd c (by decide)) (fun _ => ?_)⟩
          have d9 := (d5.new (o := .lst ((fs.drop m).map V.int)) hp1).new (o := .lst ((fs.take m).map V.int)) hp2
          refine ⟨p3, fs.drop m ++ fs.take m, _, _, _, _, _, _, _, _, rfl, d9.off hp3, upd_same, ?_, (hlt.drop m).app (hlt.take m), ?_, d9.new hp3, k5.trans ((Kp.new hp1).trans ((Kp.new hp2).trans (Kp.new hp3)))⟩
          · rw [List.length_append, List.length_take, List.length_drop]
            omega
          · refine Wd.Turn.trans (Wd.core_turn (fs.drop m) (fs.take m)) ?_
            rw [List.take_append_drop]
            exact ht
      ·
        refine ⟨_, rfl, rfl, _, rfl, ite2 (fun c => absurd c (by decide)) (fun _ => ?_)⟩
        refine ⟨_, rfl, rfl, _, rfl, ite2 (fun _ => ?_) (fun c => absurd (by decide) c)⟩
        refine ⟨_, rfl, f, _, rfl, .inl (SqL.of h5), _, _, rfl, rfl, _, rfl, _, _, rfl, rfl, _, rfl, ?_⟩
        rw [List.length_map]
        refine ite2 (fun c => ?_) (fun c => ?_)
        · have c' : (fs.length : Int) + 2 ≤ 200 := by simpa using c
          refine ⟨_, rfl, _, rfl, _, rfl, f, _, rfl, SqL.of h5, fun p1 hp1 => ?_⟩
          rw [cut_to _ (by rw [List.length_map]; exact hm), ← List.map_take]
          refine ⟨_, rfl, _, rfl, b, rfl, (by show 2 ≤ sizeLine; decide), fun p2 hp2 => ?_⟩
          have g1 := upk (u := .lst [.int b, .int (Wd.mate b)]) hp2 (upd_same (H := H5) (a := p1) (o := .lst ((fs.take m).map V.int)))
          refine ⟨p1, p2, _, _, rfl, rfl, g1, upd_same, ?_, fun p3 hp3 => ?_⟩
          · rw [List.length_map, List.length_take]
            show _ + 2 ≤ sizeLine
            exact Nat.le_of_lt (small1000 (by omega))
          · have g2 : (upd (upd (upd H5 p1 (.lst ((fs.take m).map V.int))) p2 (.lst [.int b, .int (Wd.mate b)])) p3 (.lst ((fs.take m).map V.int ++ [.int b, .int (Wd.mate b)]))) f = some (.lst (fs.map V.int)) := upk hp3 (upk hp2 (upk hp1 h5))
            refine ⟨_, rfl, _, rfl, _, rfl, f, _, rfl, SqL.of g2, fun p4 hp4 => ?_⟩
            rw [cut_from, ← List.map_drop]
            refine ⟨p3, p4, _, _, rfl, rfl, upk hp4 upd_same, upd_same, ?_, fun p5 hp5 => ?_⟩
            · rw [List.length_append, List.length_map, List.length_map, List.length_take, List.length_drop]
              show _ + 2 + _ ≤ sizeLine
              exact Nat.le_of_lt (small1000 (by omega))
            · refine ⟨_, rfl, rfl, _, rfl, ite2 (fun c => absurd c (by decide)) (fun _ => ?_)⟩
              have ek : (fs.take m).map V.int ++ [.int b, .int (Wd.mate b)] ++ (fs.drop m).map V.int = (fs.take m ++ b :: Wd.mate b :: fs.drop m).map V.int := by simp
              have d9 := ((((d5.new (o := .lst ((fs.take m).map V.int)) hp1).new (o := .lst [.int b, .int (Wd.mate b)]) hp2).new (o := .lst ((fs.take m).map V.int ++ [.int b, .int (Wd.mate b)])) hp3).new (o := .lst ((fs.drop m).map V.int)) hp4)
              refine ⟨p5, fs.take m ++ b :: Wd.mate b :: fs.drop m, _, _, _, _, _, _, _, _, rfl, d9.off hp5, ?_, ?_, ?_, ?_, d9.new hp5, ?_⟩
              · rw [upd_same, ek]
              · rw [List.length_append, List.length_take]
                show _ + ((fs.drop m).length + 1 + 1) ≤ 200
                rw [List.length_drop]
                omega
              · refine (hlt.take m).app fun x hx => ?_
                have hb := Wd.mate_range (n := e / 2) b0 (by omega)
                rcases List.mem_cons.mp hx with hx | hx
                · rw [hx]
                  exact ⟨b0, b1⟩
                · rcases List.mem_cons.mp hx with hx | hx
                  · rw [hx]
                    exact ⟨hb.1, by omega⟩
                  · exact hlt.drop m x hx
              · rw [Wd.core_pair, List.take_append_drop]
                exact ht
              · exact k5.trans ((Kp.new hp1).trans ((Kp.new hp2).trans ((Kp.new hp3).trans ((Kp.new hp4).trans (Kp.new hp5)))))
        · refine ⟨_, rfl, rfl, _, rfl, ite2 (fun c => absurd c (by decide)) (fun _ => ?_)⟩
          exact ⟨f, fs, _, _, _, _, _, _, _, _, rfl, o1, h5, hl, hlt, ht, d5, k5⟩
      ·
        refine ⟨_, rfl, rfl, _, rfl, ite2 (fun c => absurd c (by decide)) (fun _ => ?_)⟩
        refine ⟨_, rfl, rfl, _, rfl, ite2 (fun c => absurd c (by decide)) (fun _ => iteF ?_)⟩
        refine ⟨_, rfl, rfl, _, rfl, ite2 (fun _ => ?_) (fun c => absurd (by decide) c)⟩
        refine ⟨_, rfl, _, rfl, _, rfl, f, _, rfl, .inl (SqL.of h5), _, _, rfl, rfl, _, _, rfl, rfl, ⟨by decide, by decide⟩, _, _, rfl, rfl, _, _, rfl, D, _, rfl, ?_⟩
        rw [List.length_map]
        refine ⟨by split <;> omega, by split <;> omega, d5, fun z H6 z0 z1 d6 k6 => ?_⟩
        have zb : 2 * z + fs.length ≤ 200 := by
          revert z1
          split <;> omega
        have h6 := k6.at o1 h5
        refine ⟨_, rfl, _, _, rfl, _, rfl, by split <;> omega, by split <;> omega, fun D1 hD1 => ?_⟩
        have off1 : Off D D1 := d6.off hD1
        have nf : f ≠ D1 := fun q => by
          rw [q, hD1] at h6
          cases h6
        refine lc_range (lo := 0) (fun i H' => ∃ ls : List Int, ls.length = i ∧ Lt e ls ∧ H' D1 = some (.lst (ls.map V.int)) ∧ H' f = some (.lst (fs.map V.int)) ∧ DrOk D H' ∧ Kp D H6 H')
          ⟨[], rfl, fun x h => absurd h (by simp), upd_same, by rw [upd_ne nf]; exact h6, d6.new hD1, Kp.new hD1⟩ ?_ ?_
        · rintro i H' hi ⟨ls, hls, hlt2, g1, g2, d7, k7⟩
          have hi' : i < 21 := by
            revert hi
            split <;> omega
          refine ⟨rfl, yes_t ?_⟩
          refine ⟨_, rfl, _, rfl, D, e, rfl, e0, by omega, d7, fun n H2 n0 n1 d8 k8 => ?_⟩
          refine ⟨_, k8.at off1 g1, by rw [List.length_map]; exact small1000 (by omega), ?_⟩
          refine ⟨ls ++ [n], by rw [List.length_append, hls]; rfl, hlt2.app fun x hx => by rw [List.mem_singleton.mp hx]; exact ⟨n0, n1⟩, ?_, ?_, d8.put off1, fun b o hb n1 n2 => ?_⟩
          · rw [upd_same, List.map_append]
            rfl
          · rw [upd_ne nf]
            exact k8.at o1 g2
          · rw [upd_ne (ne_of_none hb hD1)]
            exact k8 _ _ (k7 _ _ hb n1 n2) n1 n2
        · rintro H' ⟨ls, hls, hlt2, g1, g2, d7, k7⟩
          have hl2 : 2 * ls.length + fs.length ≤ 200 := by
            rw [hls]
            split <;> omega
          clear hls
          refine ⟨_, rfl, _, rfl, D1, f, _, _, rfl, rfl, g1, g2, ?_, fun p1 hp1 => ?_⟩
          · rw [List.length_map, List.length_map]
            exact Nat.le_of_lt (small1000 (by omega))
          have g3 := upk (u := .lst (ls.map V.int ++ fs.map V.int)) hp1 g1
          refine ⟨_, rfl, D1, _, rfl, SqL.of g3, fun q hq => ?_⟩
          have g4 : (upd (upd H' p1 (.lst (ls.map V.int ++ fs.map V.int))) q (.lst (ls.map V.int).reverse)) q = some (.lst (ls.reverse.map V.int)) := by rw [upd_same, List.map_reverse]
          have g5 := upk (u := .lst (ls.map V.int).reverse) hq (upd_same (H := H') (a := p1) (o := .lst (ls.map V.int ++ fs.map V.int)))
          have d8 := (d7.new (o := .lst (ls.map V.int ++ fs.map V.int)) hp1).new (o := .lst (ls.map V.int).reverse) hq
          have k8 : Kp D H (upd (upd H' p1 (.lst (ls.map V.int ++ fs.map V.int))) q (.lst (ls.map V.int).reverse)) := k5.trans (k6.trans (k7.trans ((Kp.new hp1).trans (Kp.new hq))))
          generalize upd (upd H' p1 (.lst (ls.map V.int ++ fs.map V.int))) q (.lst (ls.map V.int).reverse) = H7 at g4 g5 d8 k8
          refine ⟨q, rfl, ⟨_, SqL.of g4⟩, fun D2 hD2 => lc_list (K := K) (a := q) (xs := ls.reverse.map V.int) (fun i H' => H' D2 = some (.lst (((ls.reverse.take i).map Wd.mate).map V.int)) ∧ Same H7 H')
            ⟨upd_same, same_new hD2⟩ (fun i H' _ z => SqL.of (z.2 _ _ g4)) ?_ ?_⟩
          · rintro i y H' hi ⟨h1, s2⟩
            obtain ⟨x, rfl, hx⟩ := ints_at hi
            have hil : i < ls.reverse.length := (List.getElem?_eq_some_iff.mp hx).1
            rw [List.length_reverse] at hil
            have ht : ls.reverse.take (i + 1) = ls.reverse.take i ++ [x] := by rw [List.take_add_one, hx]; rfl
            refine ⟨rfl, yes_t ?_⟩
            refine ⟨_, rfl, x, rfl, _, h1, ?_, ?_⟩
            · rw [List.length_map, List.length_map, List.length_take]
              exact small1000 (by omega)
            · refine ⟨?_, fun b o hb => ?_⟩
              · rw [upd_same, ht, List.map_append, List.map_append]
                rfl
              · rw [upd_ne (ne_of_none hb hD2)]
                exact s2 b o hb
          · rintro H' ⟨h1, s2⟩
            have e2 : ls.reverse.take (ls.reverse.map V.int).length = ls.reverse := by rw [List.length_map, List.take_length]
            rw [e2] at h1
            have d9 := d8.same s2
            refine ⟨p1, D2, _, _, rfl, rfl, s2 _ _ g5, h1, ?_, fun p3 hp3 => ?_⟩
            · rw [List.length_append, List.length_map, List.length_map, List.length_map, List.length_map, List.length_reverse]
              exact Nat.le_of_lt (small1000 (by omega))
            · have ek : ls.map V.int ++ fs.map V.int ++ (ls.reverse.map Wd.mate).map V.int = (ls ++ fs ++ Wd.undo ls).map V.int := by
                rw [List.map_append, List.map_append]
                rfl
              refine ⟨p3, ls ++ fs ++ Wd.undo ls, _, _, _, _, _, _, _, _, rfl, d9.off hp3, ?_, ?_, (hlt2.app hlt).app (hlt2.undo ev), (Wd.core_conj ls fs).trans ht, d9.new hp3, (k8.trans (Kp.of s2)).trans (Kp.new hp3)⟩
              · rw [upd_same, ek]
              · rw [List.length_append, List.length_append, Wd.undo_len]
                omega
    · rintro σ H' ⟨f, fs, v5, v6, v7, v8, v9, v10, v11, v12, rfl, o1, h1, hl, hlt, ht, d1, k1⟩
      refine ⟨_, rfl, f, _, rfl, .inl ⟨SqL.of h1, fun q hq => ?_⟩⟩
      exact k fs q _ hl hlt ht (d1.new hq) (k1.trans (Kp.new hq)) upd_same
end
end Tt
set_option maxRecDepth 100000
set_option maxHeartbeats 4000000
namespace Tt
open PySem L2
section
variable {P : Program} {w : World} {K : PySem.W.Frag} {mg : Str → Option Value} {base : Heap}
theorem call_isAK {X : Cx} (h : X.K = K) : CallR X (.builtin "isinstance") (rIsA K) := by subst h; exact call_isA
theorem TyB.x {H : Hp} {x : V} {S : String} (t : TyB K H x S) : TyX K H x (.type S) := by
  cases t with
  | non => exact .base .non
  | bl b => exact .base (.bl b)
  | int i => exact .base (.int i)
  | str x => exact .base (.str x)
  | byt b => exact .byt b
  | lst h =>
    rcases h with (h | ⟨o, h⟩) | ⟨o, its, n, h1, h2, _⟩
    · exact .base (.lst h)
    · exact .base (.frz h)
    · exact .kList h1 h2
  | tup h =>
    rcases h with (h | ⟨o, h⟩) | ⟨o, its, n, h1, h2, _⟩
    · exact .base (.tup h)
    · exact .fTuple h
    · exact .kTuple h1 h2
  | dK h => exact .base (.dK h)
theorem kit_self (S : String) : PySem.W.kitOne K (.type S) (.type S) = some true := by
  unfold PySem.W.kitOne
  rw [if_pos (by simp)]
inductive Itm : V → Prop where
  | int (i : Int) : Itm (.int i)
  | bl (b : Bool) : Itm (.bl b)
  | non : Itm .non
  | str (s : Str) : Itm (.str s)
theorem Itm.ty {H : Hp} {x : V} (h : Itm x) : ∃ S, TyB K H x S := by
  cases h with
  | int i => exact ⟨_, .int i⟩
  | bl b => exact ⟨_, .bl b⟩
  | non => exact ⟨_, .non⟩
  | str s => exact ⟨_, .str s⟩
def intsOf : List V → List Int
  | [] => []
  | .int i :: r => i :: intsOf r
  | _ :: r => intsOf r
theorem intsOf_map : ∀ ns : List Int, intsOf (ns.map V.int) = ns
  | [] => rfl
  | a :: r => congrArg (a :: ·) (intsOf_map r)
theorem intsOf_all {lo hi : Int} : ∀ {xs : List V}, xs.all (inB lo hi) = true → xs = (intsOf xs).map V.int ∧ ∀ x ∈ intsOf xs, lo ≤ x ∧ x ≤ hi
  | [], _ => ⟨rfl, fun _ h => absurd h (by simp [intsOf])⟩
  | y :: r, h => by
    rw [List.all_cons, Bool.and_eq_true] at h
    obtain ⟨h1, h2⟩ := intsOf_all h.2
    cases y with
    | int i =>
      have hi : (decide (lo ≤ i) && decide (i ≤ hi)) = true := h.1
      rw [Bool.and_eq_true, decide_eq_true_eq, decide_eq_true_eq] at hi
      refine ⟨congrArg (V.int i :: ·) h1, fun x hx => ?_⟩
      rcases List.mem_cons.mp (show x ∈ i :: intsOf r from hx) with rfl | hx
      · exact hi
      · exact h2 x hx
    | _ => exact absurd h.1 (by simp [inB])
def tb (e : Int) (xs : List V) : Bool := decide (1 ≤ xs.length ∧ xs.length ≤ 40) && (xs.all (inB 0 (e - 1)) && decide (closedT (intsOf xs) = intsOf xs))
inductive LoopV (K : PySem.W.Frag) (e : Int) (H : Hp) : V → Bool → Prop where
  | non {x : V} {S : String} (h : TyB K H x S) (k : PySem.W.kitOne K (.type S) (.type "tuple") = some false) (n : decide (S = "tuple") = false) : LoopV K e H x false
  | tup {t : Addr} {xs : List V} (h : SqT K H t xs) (n : xs.length ≤ 200) (it : ∀ y ∈ xs, Itm y) : LoopV K e H (.ref t) (tb e xs)
theorem LoopV.same {e : Int} {H H' : Hp} {x : V} {b : Bool} (h : LoopV K e H x b) (s : Same H H') : LoopV K e H' x b := by
  cases h with
  | non h k n => exact .non (TyB.same h s) k n
  | tup h n it => exact .tup (same_seqT s h) n it
def spLoop (K : PySem.W.Frag) : Sp := fun vs H Q _ => ∃ (x : V) (e : Int) (b : Bool), vs = [x, .int e] ∧ e ≤ 12 ∧ LoopV K e H x b ∧ ∀ H', Same H H' → Q (.bl b) H'
theorem ok_l_is_loop (T : Txt K mg) : FnOk P w K mg base CX0 4 T.l_is_loop.a T.l_is_loop.fd ["thing", "ends_here"] (spLoop K) := by
  refine T.l_is_loop.F.ok sc_l_is_loop (fun vs H Q E h => ?_) (fun cdv A outer s H vs Q E hr h => ?_)
  · obtain ⟨x, e, b, rfl, _⟩ := h
    rfl
  · obtain ⟨x, e, b, rfl, e12, hx, k⟩ := h
    have nd := sc_l_is_loop.nd
    refine ⟨_, (pss_cons (ps_if (PW.pt (pw_or (pt_not (pt_val (pe_callB call_isA (by rfl) T.zisinstance (by decide +kernel) (pa_cons (pv 0) (pa_cons (pe_bltn (v := .ty "tuple") (by rfl) T.ztuple (by decide +kernel) rfl) pa_nil))))) (pw_or1 (pt_not (pt_chain op_le op_le pe_int (pe_callB call_len_seq (by rfl) T.zlen (by decide +kernel) (pa_cons (pv 0) pa_nil)) pe_int)))))
      (pss_one (ps_ret pe_bl))
      pss_nil)
    (pss_cons (ps_if (pt_cmpR (op_neD hr.units) (pe_lc (own := [("item", 2)]) (g := gName 2) rfl nd (pi_tup (pv 0)) (blkOk_by (own := [("item", 2)]) (N := N_l_is_loop) (sc := defScope s_l_is_loop) (by decide +kernel)) (fun _ _ _ _ _ => pg_name (i := 2) nd rfl (Or.inl rfl)) (fun _ _ _ _ _ => pts_one (PW.pt (pw_or (pt_not (pt_val (pe_callB (call_isAK (K := K) rfl) (by rfl) T.zisinstance (by decide +kernel) (pa_cons (pv 2) (pa_cons (pe_bltn (v := .ty "int") (by rfl) T.zint (by decide +kernel) rfl) pa_nil))))) (pw_or (pt_val (pe_callB (call_isAK (K := K) rfl) (by rfl) T.zisinstance (by decide +kernel) (pa_cons (pv 2) (pa_cons (pe_bltn (v := .ty "bool") (by rfl) T.zbool (by decide +kernel) rfl) pa_nil)))) (pw_or1 (pt_not (pt_chain op_le op_lt pe_int (pv 2) (pv 1)))))))) (fun _ _ _ _ _ => pe_int)) (pe_lst pa_nil) (nomark _))
      (pss_one (ps_ret pe_bl))
      pss_nil)
    (pss_one (ps_ret (pe_cmpR (op_eqD hr.units) (pe_call (ok_l_rounded T) (hr.mono (by decide)) (by rfl) T.l_rounded.g T.l_rounded.k T.l_rounded.b .nil pass0 (pa_cons (pv 0) pa_nil)) (pv 0) (nomark _)))))), ?_⟩
    rcases hx with ⟨h, kf, n⟩ | ⟨h, n, it⟩
    · refine ⟨_, rfl, .inr ⟨_, _, _, _, false, rfl, .ty _, TyB.x h, kf, _, rfl, iteT (iteT ?_)⟩⟩
      exact k _ fun _ _ z => z
    · rename_i t xs
      have no : tb e xs = false → Q (.bl false) H := fun z => by
        rw [z] at k
        exact k _ fun _ _ z => z
      refine ⟨_, rfl, .inr ⟨_, _, _, _, true, rfl, .ty _, TyB.x (.tup h), kit_self _, _, rfl, iteF ?_⟩⟩
      refine ⟨_, rfl, t, _, rfl, .inr h, _, _, rfl, rfl, _, rfl, ?_⟩
      refine ite2 (fun c1 => ?_) (fun c1 => ?_)
      · have g1 : 1 ≤ xs.length := by
          have : (1 : Int) ≤ (xs.length : Int) := by simpa using c1
          omega
        refine ⟨_, _, rfl, rfl, _, rfl, ?_⟩
        by_cases g2 : xs.length ≤ 40
        · have e2 : decide ((xs.length : Int) ≤ 40) = true := decide_eq_true (by omega)
          rw [e2]
          refine iteF ?_
          refine ⟨_, rfl, t, rfl, ⟨_, h⟩, fun D1 hD1 => lc_tup (K := K) (a := t) (xs := xs) (fun i H' => ∃ c : Nat, c ≤ i ∧ H' D1 = some (.lst ((List.replicate c (1 : Int)).map V.int)) ∧ (c = 0 ↔ (xs.take i).all (inB 0 (e - 1)) = true) ∧ Same H H')
            ⟨0, Nat.le_refl _, upd_same, ⟨fun _ => rfl, fun _ => rfl⟩, same_new hD1⟩ (fun i H' _ z => same_seqT z.choose_spec.2.2.2 h) ?_ ?_⟩
          · rintro i y H' hi ⟨c, hc, h1, hiff, s2⟩
            have hil : i < xs.length := (List.getElem?_eq_some_iff.mp hi).1
            have iy := it y (List.mem_of_getElem? hi)
            have tk : (xs.take (i + 1)).all (inB 0 (e - 1)) = ((xs.take i).all (inB 0 (e - 1)) && inB 0 (e - 1) y) := by
              rw [List.take_add_one, hi, List.all_append]
              simp
            have yes : inB 0 (e - 1) y = false → ∃ acc, H' D1 = some (.lst acc) ∧ acc.length < sizeLine ∧ (∃ c : Nat, c ≤ i + 1 ∧ (upd H' D1 (.lst (acc ++ [.int 1]))) D1 = some (.lst ((List.replicate c (1 : Int)).map V.int)) ∧ (c = 0 ↔ (xs.take (i + 1)).all (inB 0 (e - 1)) = true) ∧ Same H (upd H' D1 (.lst (acc ++ [.int 1])))) := fun q => by
              refine ⟨_, h1, by rw [List.length_map, List.length_replicate]; exact small1000 (by omega), c + 1, by omega, ?_, ?_, fun b o hb => ?_⟩
              · rw [upd_same, List.replicate_succ', List.map_append]
                rfl
              · rw [tk, q, Bool.and_false]
                simp
              · rw [upd_ne (ne_of_none hb hD1)]
                exact s2 b o hb
            have nay : inB 0 (e - 1) y = true → (∃ c : Nat, c ≤ i + 1 ∧ H' D1 = some (.lst ((List.replicate c (1 : Int)).map V.int)) ∧ (c = 0 ↔ (xs.take (i + 1)).all (inB 0 (e - 1)) = true) ∧ Same H H') := fun q => by
              refine ⟨c, by omega, h1, ?_, s2⟩
              rw [tk, q, Bool.and_true]
              exact hiff
            refine ⟨rfl, ?_⟩
            cases iy with
            | non => exact ⟨_, rfl, .inr ⟨_, _, _, _, false, rfl, .ty _, TyB.x (.non), T.kNoI, _, rfl, iteT (iteT (yes rfl))⟩⟩
            | str z => exact ⟨_, rfl, .inr ⟨_, _, _, _, false, rfl, .ty _, TyB.x (.str z), T.kStI, _, rfl, iteT (iteT (yes rfl))⟩⟩
            | bl z => exact ⟨_, rfl, .inr ⟨_, _, _, _, true, rfl, .ty _, TyB.x (.bl z), T.kBoI, _, rfl, iteF ⟨_, rfl, .inr ⟨_, _, _, _, true, rfl, .ty _, TyB.x (.bl z), kit_self _, _, rfl, iteT (iteT (yes rfl))⟩⟩⟩⟩
            | int z =>
              refine ⟨_, rfl, .inr ⟨_, _, _, _, true, rfl, .ty _, TyB.x (.int z), kit_self _, _, rfl, iteF ⟨_, rfl, .inr ⟨_, _, _, _, false, rfl, .ty _, TyB.x (.int z), T.kInB, _, rfl, iteF ?_⟩⟩⟩⟩
              refine ⟨_, rfl, _, _, rfl, rfl, _, rfl, ite2 (fun c1 => ?_) (fun c1 => ?_)⟩
              · refine ⟨_, rfl, _, _, rfl, rfl, _, rfl, ?_⟩
                have c1' : 0 ≤ z := by simpa using c1
                by_cases c2 : z < e
                · rw [decide_eq_true c2]
                  refine iteF (nay ?_)
                  show (decide (0 ≤ z) && decide (z ≤ e - 1)) = true
                  rw [decide_eq_true c1', decide_eq_true (by omega)]
                  rfl
                · rw [decide_eq_false c2]
                  refine iteT (yes ?_)
                  show (decide (0 ≤ z) && decide (z ≤ e - 1)) = false
                  rw [decide_eq_false (show ¬ z ≤ e - 1 by omega), Bool.and_false]
              · refine ⟨_, rfl, iteT (yes ?_)⟩
                have c1' : ¬ 0 ≤ z := by simpa using c1
                show (decide (0 ≤ z) && decide (z ≤ e - 1)) = false
                rw [decide_eq_false c1', Bool.false_and]
          · rintro H' ⟨c, hc, h1, hiff, s2⟩
            rw [List.take_length] at hiff
            refine ⟨(by show 0 ≤ sizeLine; decide), fun l hl0 => ?_⟩
            have sN : Same H' (upd H' l (.lst [])) := same_new hl0
            refine ⟨.list ((List.replicate c (1 : Int)).map PyData.int), .list [], .lst (SqL.of (sN _ _ h1)) (dpAll_ints _ _), .lst (SqL.of upd_same) .nil, shapedAll_ints _, rfl, ?_⟩
            have ev : PyData.eqv (.list ((List.replicate c (1 : Int)).map PyData.int)) (.list []) = decide (List.replicate c (1 : Int) = []) := eqv_ints (List.replicate c (1 : Int)) []
            rw [ev]
            have s3 : Same H (upd H' l (.lst [])) := s2.trans sN
            generalize upd H' l (.lst []) = H2 at s3
            refine ⟨_, rfl, ?_⟩
            by_cases c0 : c = 0
            · have al := hiff.mp c0
              obtain ⟨ex, hr2⟩ := intsOf_all al
              have e1 : (!decide (List.replicate c (1 : Int) = [])) = false := by simp [c0]
              rw [e1]
              refine iteF ?_
              have hlen : (intsOf xs).length ≤ 40 := by
                have := congrArg List.length ex
                rw [List.length_map] at this
                omega
              have ht2 := same_seqT s3 h
              rw [ex] at ht2
              refine ⟨_, rfl, t, intsOf xs, rfl, ht2, by omega, (fun y hy => by have := hr2 y hy; omega), fun q H3 s4 hq => ?_⟩
              have ht3 := same_seqT s4 ht2
              refine ⟨_, rfl, .tuple ((closedT (intsOf xs)).map PyData.int), .tuple ((intsOf xs).map PyData.int), .tup hq (dpAll_ints _ _), .tup ht3 (dpAll_ints _ _), shapedAll_ints _, shapedAll_ints _, ?_⟩
              have ev2 : PyData.eqv (.tuple ((closedT (intsOf xs)).map PyData.int)) (.tuple ((intsOf xs).map PyData.int)) = decide (closedT (intsOf xs) = intsOf xs) := eqv_ints (closedT (intsOf xs)) (intsOf xs)
              rw [ev2]
              have eb : tb e xs = decide (closedT (intsOf xs) = intsOf xs) := by
                unfold tb
                rw [al, decide_eq_true ⟨g1, g2⟩, Bool.true_and, Bool.true_and]
              rw [← eb]
              exact k _ (s3.trans s4)
            · have e1 : (!decide (List.replicate c (1 : Int) = [])) = true := by simp [c0]
              rw [e1]
              refine iteT ?_
              have al : xs.all (inB 0 (e - 1)) = false := by
                cases q : xs.all (inB 0 (e - 1)) with
                | false => rfl
                | true => exact absurd (hiff.mpr q) c0
              have eb : tb e xs = false := by
                unfold tb
                rw [al, Bool.false_and, Bool.and_false]
              rw [eb] at k
              exact k _ s3
        · have e2 : decide ((xs.length : Int) ≤ 40) = false := decide_eq_false (by omega)
          rw [e2]
          refine iteT (no ?_)
          unfold tb
          rw [decide_eq_false (fun z => g2 z.2), Bool.false_and]
      · have g1 : ¬ 1 ≤ xs.length := by
          have : ¬ (1 : Int) ≤ (xs.length : Int) := by simpa using c1
          omega
        refine ⟨_, rfl, iteT (no ?_)⟩
        unfold tb
        rw [decide_eq_false (fun z => g1 z.1), Bool.false_and]
end
end Tt
set_option maxRecDepth 100000
set_option maxHeartbeats 4000000
namespace Tt
open PySem L2
section
variable {P : Program} {w : World} {K : PySem.W.Frag} {mg : Str → Option Value} {base : Heap}
inductive NrV (K : PySem.W.Frag) (D : Dw) (H : Hp) : V → Prop where
  | int (i : Int) : NrV K D H (.int i)
  | non : NrV K D H .non
  | str (s : Str) : NrV K D H (.str s)
  | lst {a : Addr} {xs : List V} (h : H a = some (.lst xs)) (o : Off D a) : NrV K D H (.ref a)
  | tup {t : Addr} {xs : List V} (h : SqT K H t xs) (n : xs.length ≤ 200) (it : ∀ y ∈ xs, Itm y) : NrV K D H (.ref t)
theorem NrV.same {D : Dw} {H H' : Hp} {x : V} (h : NrV K D H x) (s : Same H H') : NrV K D H' x := by
  cases h with
  | int i => exact .int i
  | non => exact .non
  | str z => exact .str z
  | lst h o => exact .lst (s _ _ h) o
  | tup h n it => exact .tup (same_seqT s h) n it
theorem NrV.kp {D : Dw} {H H' : Hp} {x : V} (h : NrV K D H x) (dr : DrOk D H) (k : Kp D H H') : NrV K D H' x := by
  cases h with
  | int i => exact .int i
  | non => exact .non
  | str z => exact .str z
  | lst h o => exact .lst (k.at o h) o
  | tup h n it => exact .tup (k.seqT dr h) n it
theorem NrV.loop {T : Txt K mg} {D : Dw} {H : Hp} {x : V} (h : NrV K D H x) (e : Int) : ∃ b, LoopV K e H x b := by
  cases h with
  | int i => exact ⟨_, .non (.int i) T.kInT rfl⟩
  | non => exact ⟨_, .non .non T.kNoT rfl⟩
  | str z => exact ⟨_, .non (.str z) T.kStT rfl⟩
  | @lst a xs h o =>
    have h' : SqL K H a xs := SqL.of h
    exact ⟨_, .non (.lst h') T.kLiT rfl⟩
  | tup h n it => exact ⟨_, .tup h n it⟩
theorem Itm.ints {ns : List Int} : ∀ y ∈ ns.map V.int, Itm y := fun y hy => by
  obtain ⟨z, _, rfl⟩ := List.mem_map.mp hy
  exact .int z
structure Nc (K : PySem.W.Frag) (D : Dw) (t : Addr) (ns : List Int) (L : List V) (H0 H : Hp) : Prop where
  dr : DrOk D H
  wd : SqT K H t (ns.map V.int)
  al : ∀ y ∈ L, NrV K D H y
  kp : Kp D H0 H
theorem Nc.same {D : Dw} {t : Addr} {ns : List Int} {L : List V} {H0 H H' : Hp} (c : Nc K D t ns L H0 H) (s : Same H H') : Nc K D t ns L H0 H' :=
  ⟨c.dr.same s, same_seqT s c.wd, fun y hy => (c.al y hy).same s, c.kp.trans (.of s)⟩
theorem Nc.add {D : Dw} {t : Addr} {ns : List Int} {L : List V} {H0 H : Hp} {x : V} (c : Nc K D t ns L H0 H) (n : NrV K D H x) : Nc K D t ns (L ++ [x]) H0 H :=
  ⟨c.dr, c.wd, fun y hy => (List.mem_append.mp hy).elim (c.al y) fun h => by rw [List.mem_singleton.mp h]; exact n, c.kp⟩
theorem Itm.app {xs ys : List V} (h : ∀ y ∈ xs, Itm y) (k : ∀ y ∈ ys, Itm y) : ∀ y ∈ xs ++ ys, Itm y := fun y hy => (List.mem_append.mp hy).elim (h y) (k y)
theorem flat_mem {xs : List V} {n : Nat} {y : V} (h : y ∈ (List.replicate n xs).flatten) : y ∈ xs := by
  obtain ⟨l, hl, hy⟩ := List.mem_flatten.mp h
  rw [List.eq_of_mem_replicate hl] at hy
  exact hy
theorem strip_len : ∀ (n : Nat) (w : List Int), w.length ≤ n → (Wd.strip w).length ≤ w.length
  | 0, w, h => by
    unfold Wd.strip
    split
    · omega
    · exact Nat.le_refl _
  | n + 1, w, h => by
    unfold Wd.strip
    split
    · have hl : ((w.drop 1).dropLast).length = w.length - 1 - 1 := by simp
      refine Nat.le_trans (strip_len n _ (by omega)) ?_
      omega
    · exact Nat.le_refl _
theorem closedT_len (ns : List Int) : (closedT ns).length ≤ ns.length := by
  unfold closedT
  have h1 : (Wd.core ns).length ≤ ns.length := Nat.le_trans (strip_len _ _ (Nat.le_refl _)) (Wd.len_freed ns)
  by_cases hc : Wd.core ns = []
  · rw [hc, leastT_nil]
    exact Nat.zero_le _
  · obtain ⟨u, v, e1, e2⟩ := leastT_turn hc
    rw [e2, List.length_append]
    rw [e1, List.length_append] at h1
    omega
def spNear (K : PySem.W.Frag) : Sp := fun vs H Q _ => ∃ (D : Dw) (e : Int) (t : Addr) (ns : List Int), vs = [.ref D.d, .int e, .ref t] ∧ 0 < e ∧ e ≤ 12 ∧ SqT K H t (ns.map V.int) ∧ ns ≠ [] ∧ ns.length ≤ 60 ∧ (∀ x ∈ ns, 0 ≤ x ∧ x < 12) ∧ DrOk D H ∧
  ∀ x H', DrOk D H' → Kp D H H' → NrV K D H' x → Q x H'
theorem ok_l_near (T : Txt K mg) : FnOk P w K mg base CX0 4 T.l_near.a T.l_near.fd ["draw", "ends_here", "loop_here"] (spNear K) := by
  refine T.l_near.F.ok sc_l_near (fun vs H Q E h => ?_) (fun cdv A outer s H vs Q E hr h => ?_)
  · obtain ⟨D, e, t, ns, rfl, _⟩ := h
    rfl
  · obtain ⟨D, e, t, ns, rfl, e0, e12, ht, hne, hn, hb, dr, k⟩ := h
    have nd := sc_l_near.nd
    have l0 : 0 < ns.length := List.length_pos_iff.mpr hne
    have lm : (ns.map V.int).length = ns.length := List.length_map ..
    refine ⟨_, (pss_cons (ps_set (i := 3) nd rfl (Or.inl rfl) (pe_call (ok_l_take T) (hr.mono (by decide)) (by rfl) T.l_take.g T.l_take.k T.l_take.b .nil pass0 (pa_cons (pv 0) (pa_cons (pe_callB call_len_seq (by rfl) T.zlen (by decide +kernel) (pa_cons (pv 2) pa_nil)) pa_nil))))
    (pss_cons (ps_set (i := 4) nd rfl (Or.inl rfl) (pe_call (ok_l_pick T) (hr.mono (by decide)) (by rfl) T.l_pick.g T.l_pick.k T.l_pick.b .nil pass0 (pa_cons (pv 0) (pa_cons (pe_lst (pa_cons pe_bl (pa_cons pe_non (pa_cons pe_str (pa_cons (pv 1) (pa_cons (pe_un un_neg pe_int) (pa_cons (pe_call (ok_l_take T) (hr.mono (by decide)) (by rfl) T.l_take.g T.l_take.k T.l_take.b .nil pass0 (pa_cons (pv 0) (pa_cons (pv 1) pa_nil))) (pa_cons pe_bl pa_nil)))))))) pa_nil))))
    (pss_cons (ps_set (i := 5) nd rfl (Or.inl rfl) (pe_lst (pa_cons (pe_op op_catA (pe_slice sl_tupA (pv 2) (po_some (pv 3)) po_none) (pe_slice sl_tupA (pv 2) po_none (po_some (pv 3)))) (pa_cons (pe_op op_catA (pe_op op_catA (pe_slice sl_tupA (pv 2) po_none (po_some (pv 3))) (pe_tup (pa_cons (pv 4) pa_nil))) (pe_slice sl_tupA (pv 2) (po_some (pe_op op_add (pv 3) pe_int)) po_none)) (pa_cons (pe_callTy call_list_of (by rfl) T.zlist (by decide +kernel) (pa_cons (pv 2) pa_nil)) (pa_cons (pe_tup pa_nil) (pa_cons pe_non (pa_cons pe_int (pa_cons pe_str pa_nil)))))))))
    (pss_cons (ps_set (i := 5) nd rfl (Or.inl rfl) (pe_op op_cat (pv 5) (pe_lst (pa_cons (pe_op op_catA (pv 2) (pe_tup (pa_cons (pe_call (ok_l_mate T) (hr.mono (by decide)) (by rfl) T.l_mate.g T.l_mate.k T.l_mate.b .nil pass0 (pa_cons (pe_ix ix_tup (pv 2) (pe_un un_neg pe_int) (fun _ _ => rfl)) pa_nil)) pa_nil))) (pa_cons (pe_op op_catA (pv 2) (pe_slice sl_tupA (pv 2) po_none (po_some pe_int))) (pa_cons (pe_call (ok_l_undone T) (hr.mono (by decide)) (by rfl) T.l_undone.g T.l_undone.k T.l_undone.b .nil pass0 (pa_cons (pv 2) pa_nil)) (pa_cons (pe_call (ok_l_rounded T) (hr.mono (by decide)) (by rfl) T.l_rounded.g T.l_rounded.k T.l_rounded.b .nil pass0 (pa_cons (pe_call (ok_l_undone T) (hr.mono (by decide)) (by rfl) T.l_undone.g T.l_undone.k T.l_undone.b .nil pass0 (pa_cons (pv 2) pa_nil)) pa_nil)) pa_nil)))))))
    (pss_one (ps_ret (pe_call (ok_l_pick T) (hr.mono (by decide)) (by rfl) T.l_pick.g T.l_pick.k T.l_pick.b .nil pass0 (pa_cons (pv 0) (pa_cons (pe_op op_cat (pv 5) (pe_lst (pa_cons (pe_slice sl_tupA (pe_op op_repT (pv 2) pe_int) po_none (po_some pe_int)) (pa_cons (pe_op op_repT (pe_tup (pa_cons pe_int pa_nil)) pe_int) (pa_cons (pe_op op_repT (pe_tup (pa_cons pe_int pa_nil)) pe_int) (pa_cons (pe_op op_catA (pv 2) (pv 2)) pa_nil)))))) pa_nil))))))))), ?_⟩
    refine ⟨_, rfl, _, rfl, t, _, rfl, .inr ht, D, _, rfl, ?_⟩
    rw [List.length_map]
    refine ⟨by omega, by omega, dr, fun a H1 a0 a1 d1 k1 => ?_⟩
    obtain ⟨a, rfl⟩ := Int.eq_ofNat_of_zero_le a0
    refine ⟨_, rfl, _, rfl, 1, rfl, _, rfl, _, rfl, D, e, rfl, e0, by omega, d1, fun n H2 n0 n1 d2 k2 => ⟨(by show 7 ≤ sizeLine; decide), fun l hl => ?_⟩⟩
    refine ⟨D, l, _, rfl, .inl (SqL.of upd_same), (d2.off hl).2.1, by simp, (by show 7 < 1073741824; decide), d2.new hl, fun i x H3 hi d3 k3 => ?_⟩
    have hx : Itm x := by
      have hx := List.mem_of_getElem? hi
      simp only [List.mem_cons, List.not_mem_nil, or_false] at hx
      rcases hx with rfl | rfl | rfl | rfl | rfl | rfl | rfl
      · exact .bl _
      · exact .non
      · exact .str _
      · exact .int _
      · exact .int _
      · exact .int _
      · exact .bl _
    have kk : Kp D H H3 := (k1.trans k2).trans ((Kp.new hl).trans k3)
    have c3 : Nc K D t ns [] H H3 := ⟨d3, kk.seqT dr ht, fun _ h => absurd h (by simp), kk⟩
    clear kk k1 k2 k3 hl d1 d2 d3 hi
    refine ⟨_, rfl, _, rfl, _, rfl, noPart_i ?_⟩
    refine slT_genD (K := K) c3.wd fun b1 H4 s4 g1 => ?_
    have c4 := c3.same s4
    refine ⟨_, rfl, noPart_i ⟨_, rfl, _, rfl, ?_⟩⟩
    refine slT_gen (K := K) c4.wd fun b2 H5 s5 g2 => ?_
    have g1 := same_seqT s5 g1
    refine catA_gen (K := K) g1 g2 ?_ fun b3 H6 s6 g3 => ?_
    · rw [List.length_take, List.length_drop, lm]
      exact Nat.le_of_lt (small1000 (by omega))
    have c6 := ((c4.same s5).same s6).add (.tup g3 (by rw [List.length_append, List.length_take, List.length_drop, lm]; omega) (Itm.app (fun y hy => Itm.ints y (List.mem_of_mem_drop hy)) (fun y hy => Itm.ints y (List.mem_of_mem_take hy))))
    clear c3 c4 g1 g2 g3 s4 s5 s6
    refine ⟨_, rfl, noPart_i ⟨_, rfl, _, rfl, ?_⟩⟩
    refine slT_gen (K := K) c6.wd fun b4 H7 s7 g1 => ?_
    refine ⟨_, rfl, (by show 1 ≤ sizeLine; decide), fun q1 hq1 => ?_⟩
    have g1 := same_seqT (same_new (o := .tup [x]) hq1) g1
    refine catA_gen (K := K) g1 (SqT.of upd_same) ?_ fun b5 H8 s8 g2 => ?_
    · rw [List.length_take, lm]
      show _ + 1 ≤ sizeLine
      exact Nat.le_of_lt (small1000 (by omega))
    have c8 := ((c6.same s7).same (same_new hq1)).same s8
    refine ⟨_, rfl, _, rfl, _, _, rfl, rfl, _, rfl, noPart_i ?_⟩
    refine slT_genD (K := K) (n := a + 1) c8.wd fun b6 H9 s9 g3 => ?_
    have g2 := same_seqT s9 g2
    refine catA_gen (K := K) g2 g3 ?_ fun b7 H10 s10 g4 => ?_
    · rw [List.length_append, List.length_take, List.length_drop, lm]
      show _ + 1 + _ ≤ sizeLine
      exact Nat.le_of_lt (small1000 (by omega))
    have c10 := ((c8.same s9).same s10).add (.tup g4 (by rw [List.length_append, List.length_append, List.length_take, List.length_drop, lm]; show _ + 1 + _ ≤ 200; omega) (Itm.app (Itm.app (fun y hy => Itm.ints y (List.mem_of_mem_take hy)) (fun y hy => by rw [List.mem_singleton.mp hy]; exact hx)) (fun y hy => Itm.ints y (List.mem_of_mem_drop hy))))
    clear c6 c8 g1 g2 g3 g4 s7 s8 s9 s10 hq1
    refine ⟨_, rfl, t, _, rfl, .inr c10.wd, fun l2 hl2 => ?_⟩
    have c11 := (c10.same (same_new (o := .lst (ns.map V.int)) hl2)).add (.lst upd_same (c10.dr.off hl2))
    refine ⟨(by show 0 ≤ sizeLine; decide), fun t2 ht2 => ?_⟩
    have c12 := (((c11.same (same_new (o := .tup []) ht2)).add (.tup (SqT.of upd_same) (by show 0 ≤ 200; decide) (fun _ h => absurd h (by simp)))).add .non).add (.int 5) |>.add (.str "ab")
    refine ⟨(by show 7 ≤ sizeLine; decide), fun l4 hl4 => ?_⟩
    have o4 : Off D l4 := c12.dr.off hl4
    have c13 := c12.same (same_new (o := .lst [.ref b3, .ref b7, .ref l2, .ref t2, .non, .int 5, .str "ab"]) hl4)
    have g13 : (upd (upd (upd H10 l2 (.lst (ns.map V.int))) t2 (.tup [])) l4 (.lst [.ref b3, .ref b7, .ref l2, .ref t2, .non, .int 5, .str "ab"])) l4 = some (.lst [.ref b3, .ref b7, .ref l2, .ref t2, .non, .int 5, .str "ab"]) := upd_same
    generalize upd (upd (upd H10 l2 (.lst (ns.map V.int))) t2 (.tup [])) l4 (.lst [.ref b3, .ref b7, .ref l2, .ref t2, .non, .int 5, .str "ab"]) = H13 at c13 g13
    clear c10 c11 c12 hl2 ht2 hl4
    obtain ⟨la, hla, lat⟩ := atI_last hne
    have bu : ∀ x ∈ Wd.undo ns, 0 ≤ x ∧ x < 12 := Lt.undo (e := 12) (by decide) hb
    refine ⟨_, rfl, _, rfl, _, rfl, 1, rfl, t, _, (-1), V.int la, rfl, rfl, c13.wd, lat, la, rfl, (by show 1 ≤ sizeLine; decide), fun q1 hq1 => ?_⟩
    have c14 := c13.same (same_new (o := .tup [.int (Wd.mate la)]) hq1)
    have g14 := upk (u := .tup [.int (Wd.mate la)]) hq1 g13
    refine catA_gen (K := K) c14.wd (SqT.of upd_same) ?_ fun d1 H15 s15 f1 => ?_
    · rw [lm]
      show _ + 1 ≤ sizeLine
      exact Nat.le_of_lt (small1000 (by omega))
    have c15 := (c14.same s15).add (.tup f1 (by rw [List.length_append, lm]; show _ + 1 ≤ 200; omega) (Itm.app Itm.ints (fun y hy => by rw [List.mem_singleton.mp hy]; exact .int _)))
    have g15 := s15 _ _ g14
    clear c13 c14 g13 g14 s15 f1 hq1
    refine ⟨_, rfl, _, rfl, noPart_i ⟨1, rfl, ?_⟩⟩
    refine slT_gen (K := K) (n := 1) c15.wd fun d2 H16 s16 f2 => ?_
    refine catA_gen (K := K) (c15.same s16).wd f2 ?_ fun d3 H17 s17 f3 => ?_
    · rw [List.length_take, lm]
      exact Nat.le_of_lt (small1000 (by omega))
    have c17 := ((c15.same s16).same s17).add (.tup f3 (by rw [List.length_append, List.length_take, lm]; omega) (Itm.app Itm.ints (fun y hy => Itm.ints y (List.mem_of_mem_take hy))))
    have g17 := s17 _ _ (s16 _ _ g15)
    clear c15 g15 s16 s17 f2 f3
    refine ⟨_, rfl, t, ns, rfl, c17.wd, by omega, hb, fun d4 H18 s18 f4 => ?_⟩
    have c18 := (c17.same s18).add (.tup (SqT.of f4) (by rw [List.length_map, Wd.undo_len]; omega) Itm.ints)
    have g18 := s18 _ _ g17
    clear c17 g17 s18 f4
    refine ⟨_, rfl, t, ns, rfl, c18.wd, by omega, hb, fun d5 H19 s19 f5 => ⟨d5, Wd.undo ns, rfl, SqT.of f5, by rw [Wd.undo_len]; omega, bu, fun d6 H20 s20 f6 => ?_⟩⟩
    have c20 := ((c18.same s19).same s20).add (.tup f6 (by have := closedT_len (Wd.undo ns); rw [Wd.undo_len] at this; rw [List.length_map]; omega) Itm.ints)
    have g20 := s20 _ _ (s19 _ _ g18)
    clear c18 g18 s19 s20 f5 f6
    refine ⟨(by show 4 ≤ sizeLine; decide), fun l5 hl5 => ⟨l4, l5, _, _, rfl, rfl, upk hl5 g20, upd_same, (by show 7 + 4 ≤ sizeLine; decide), fun l6 hl6 => ?_⟩⟩
    have c21 := c20.same (same_new (o := .lst [.ref d1, .ref d3, .ref d4, .ref d6]) hl5)
    have o6 : Off D l6 := c21.dr.off hl6
    have c22 := c21.same (same_new (o := .lst ([.ref b3, .ref b7, .ref l2, .ref t2, .non, .int 5, .str "ab"] ++ [.ref d1, .ref d3, .ref d4, .ref d6])) hl6)
    have g22 : (upd (upd H20 l5 (.lst [.ref d1, .ref d3, .ref d4, .ref d6])) l6 (.lst ([.ref b3, .ref b7, .ref l2, .ref t2, .non, .int 5, .str "ab"] ++ [.ref d1, .ref d3, .ref d4, .ref d6]))) l6 = some (.lst ([.ref b3, .ref b7, .ref l2, .ref t2, .non, .int 5, .str "ab"] ++ [.ref d1, .ref d3, .ref d4, .ref d6])) := upd_same
    generalize upd (upd H20 l5 (.lst [.ref d1, .ref d3, .ref d4, .ref d6])) l6 (.lst ([.ref b3, .ref b7, .ref l2, .ref t2, .non, .int 5, .str "ab"] ++ [.ref d1, .ref d3, .ref d4, .ref d6])) = H22 at c22 g22
    clear c20 c21 g20 hl5 hl6
    have nm : ns.map V.int ≠ [] := fun z => hne (List.map_eq_nil_iff.mp z)
    refine ⟨_, rfl, _, rfl, _, rfl, t, 41, _, rfl, rfl, c22.wd, nm, by decide, by decide, by rw [lm]; omega, fun e1 he1 => noPart_i ⟨41, rfl, ?_⟩⟩
    have c23 := c22.same (same_new (o := .tup (List.replicate (41 : Int).toNat (ns.map V.int)).flatten) he1)
    have g23 := upk (u := .tup (List.replicate (41 : Int).toNat (ns.map V.int)).flatten) he1 g22
    refine slT_gen (K := K) (n := 41) (SqT.of upd_same) fun e2 H24 s24 f1 => ?_
    have c24 := (c23.same s24).add (.tup f1 (by rw [List.length_take]; omega) (fun y hy => Itm.ints y (flat_mem (List.mem_of_mem_take hy))))
    have g24 := s24 _ _ g23
    clear c22 c23 g22 g23 s24 f1 he1
    refine ⟨(by show 1 ≤ sizeLine; decide), fun e3 he3 => ⟨e3, 40, _, rfl, rfl, SqT.of upd_same, by simp, by decide, by decide, by decide, fun e4 he4 => ?_⟩⟩
    have c25 := ((c24.same (same_new (o := .tup [.int 0]) he3)).same (same_new (o := .tup (List.replicate (40 : Int).toNat [V.int 0]).flatten) he4)).add (.tup (SqT.of upd_same) (by decide) (fun y hy => by have := flat_mem hy; rw [List.mem_singleton.mp this]; exact .int _))
    have g25 := upk (u := .tup (List.replicate (40 : Int).toNat [V.int 0]).flatten) he4 (upk (u := .tup [.int 0]) he3 g24)
    generalize upd (upd H24 e3 (.tup [.int 0])) e4 (.tup (List.replicate (40 : Int).toNat [V.int 0]).flatten) = H25 at c25 g25
    clear c24 g24 he3 he4
    refine ⟨(by show 1 ≤ sizeLine; decide), fun e5 he5 => ⟨e5, 41, _, rfl, rfl, SqT.of upd_same, by simp, by decide, by decide, by decide, fun e6 he6 => ?_⟩⟩
    have c26 := ((c25.same (same_new (o := .tup [.int 0]) he5)).same (same_new (o := .tup (List.replicate (41 : Int).toNat [V.int 0]).flatten) he6)).add (.tup (SqT.of upd_same) (by decide) (fun y hy => by have := flat_mem hy; rw [List.mem_singleton.mp this]; exact .int _))
    have g26 := upk (u := .tup (List.replicate (41 : Int).toNat [V.int 0]).flatten) he6 (upk (u := .tup [.int 0]) he5 g25)
    generalize upd (upd H25 e5 (.tup [.int 0])) e6 (.tup (List.replicate (41 : Int).toNat [V.int 0]).flatten) = H26 at c26 g26
    clear c25 g25 he5 he6
    refine ⟨_, rfl, _, rfl, ?_⟩
    refine catA_gen (K := K) c26.wd c26.wd ?_ fun e7 H27 s27 f7 => ?_
    · rw [lm]
      exact Nat.le_of_lt (small1000 (by omega))
    have c27 := (c26.same s27).add (.tup f7 (by rw [List.length_append, lm]; omega) (Itm.app Itm.ints Itm.ints))
    have g27 := s27 _ _ g26
    clear c26 g26 s27 f7
    refine ⟨(by show 4 ≤ sizeLine; decide), fun l7 hl7 => ⟨l6, l7, _, _, rfl, rfl, upk hl7 g27, upd_same, (by show 11 + 4 ≤ sizeLine; decide), fun l8 hl8 => ?_⟩⟩
    have c28 := c27.same (same_new (o := .lst [.ref e2, .ref e4, .ref e6, .ref e7]) hl7)
    have o8 : Off D l8 := c28.dr.off hl8
    have c29 := c28.same (same_new (o := .lst ([.ref b3, .ref b7, .ref l2, .ref t2, .non, .int 5, .str "ab"] ++ [.ref d1, .ref d3, .ref d4, .ref d6] ++ [.ref e2, .ref e4, .ref e6, .ref e7])) hl8)
    refine ⟨D, l8, _, rfl, .inl (SqL.of upd_same), o8.2.1, by simp, (by show 15 < 1073741824; decide), c29.dr, fun i y H30 hi d30 k30 => ?_⟩
    exact k y H30 d30 (c29.kp.trans k30) ((c29.al y (List.mem_of_getElem? hi)).kp c29.dr k30)
end
end Tt
set_option maxRecDepth 100000
set_option maxHeartbeats 4000000
namespace Tt
open PySem L2
open LamX (Tabs TabS TabB ExtN CodeO tLam)
structure FnG (P : Program) (w : World) (K : PySem.W.Frag) (mg : Str → Option Value) (base : Heap) (CX : CXT) (k : Nat) (f : Addr) (fd : FuncData) (ps : List Str) (sp : Sp) : Prop where
  len : ∀ vs H Q E, sp vs H Q E → vs.length = ps.length
  run : ∀ (A : Around) (outer : List Env) (s : Shared) (H : Hp) (args : Args) (us : List Value) (vs : List V) (Q : VK) (E : XK), A.guards = some [] → Room k A → Env0 P w K mg base A outer s H → BindsTo s fd args (ps.zip us) → Vals vs us → sp vs H Q E →
    codeAny (model P w) A (.call (.ref f) args) (CR CX outer P w H s Q E) s
theorem FunC.okG {P : Program} {w : World} {K : PySem.W.Frag} {mg : Str → Option Value} {base : Heap} {x qual : Str} {st : Stmt} {f : Addr} {fd : FuncData} {cdv : Value} {N ps : List Str} {k : Nat} {sp : Sp} (F : FunC K x qual st f fd cdv) (S : FnScope N ps (defScope st)) (len : ∀ vs H Q E, sp vs H Q E → vs.length = ps.length)
    (body : ∀ (A : Around) (outer : List Env) (s : Shared) (H : Hp) (vs : List V) (Q : VK) (E : XK), A.guards = some [] → Room k (A.deeper (PyProof.Rows.envOfC qual (defScope st) s.heap.objs.size f cdv)) → sp vs H Q E →
      ∃ t, PSs (cxOf CX0 P w K mg base N qual (defScope st) f cdv A outer s H E).nox (defBody st) t ∧ t { nx := fun _ H' => Q .non H', rt := Q } (L2.start N vs) H) : FnG P w K mg base CX0 (k + 1) f fd ps sp := by
  refine ⟨len, fun A outer s H args us vs Q E hg hr e0 hb r hsp => ?_⟩
  obtain ⟨oc, od, kV, doc, pm, an, ct, osl, rfl, lk, hc⟩ := F.ex
  refine LamX.run_ofS (N := N) (ps := ps) (k := k) (us := us) (vs := vs) lk hc S hr e0 hb r (len _ _ _ _ hsp) fun hr' => ?_
  obtain ⟨t, h1, h2⟩ := body A outer s H vs Q E hg hr' hsp
  exact ⟨t, h1.nox, h2⟩
theorem FunG {P : Program} {w : World} {K : PySem.W.Frag} {mg : Str → Option Value} {base : Heap} {x qual : Str} {st : Stmt} {f : Addr} {fd : FuncData} {N ps : List Str} {k : Nat} {sp : Sp} (F : Fun K x qual st f fd) (S : FnScope N ps (defScope st)) (len : ∀ vs H Q E, sp vs H Q E → vs.length = ps.length)
    (body : ∀ (cdv : Value) (A : Around) (outer : List Env) (s : Shared) (H : Hp) (vs : List V) (Q : VK) (E : XK), A.guards = some [] → Room k (A.deeper (PyProof.Rows.envOfC qual (defScope st) s.heap.objs.size f cdv)) → sp vs H Q E →
      ∃ t, PSs (cxOf CX0 P w K mg base N qual (defScope st) f cdv A outer s H E).nox (defBody st) t ∧ t { nx := fun _ H' => Q .non H', rt := Q } (L2.start N vs) H) : FnG P w K mg base CX0 (k + 1) f fd ps sp := by
  refine ⟨len, fun A outer s H args us vs Q E hg hr e0 hb r hsp => ?_⟩
  obtain ⟨oc, od, kV, doc, pm, an, cdv, ct, osl, rfl, lk, hc⟩ := F.ex
  refine LamX.run_ofS (N := N) (ps := ps) (k := k) (us := us) (vs := vs) lk hc S hr e0 hb r (len _ _ _ _ hsp) fun hr' => ?_
  obtain ⟨t, h1, h2⟩ := body cdv A outer s H vs Q E hg hr' hsp
  exact ⟨t, h1.nox, h2⟩
section
variable {X : Cx} {CX : CXT} {k : Nat} {f : Addr} {fd : FuncData} {ps : List Str} {sp : Sp} {ds : List Value} {dvs : List V} {E : XK} {x : Str} {p pos : Pos} {e : Expr} {es : List Expr} {t : TA}
theorem pe_callG (F : FnG X.prog X.w X.K X.mg X.base CX k f fd ps sp) (hgd : X.A.guards = some []) (hr : Room k X.A) (hg : Gl X x) (hm : X.mg x = some (.ref f)) (hk : PySem.W.keepIn X.K (.ref f) = true) (hb : Binds X.K fd ps ds) (hd : Vals dvs ds) (hx : Passes CX X E)
    (ha : PA X (e :: es) t) (hdb : (x == ("__debug__" : Str)) = false := by decide) (he : starEach (e :: es) X.env = (false, eval e X.env) :: starEach es X.env := by rfl) (hpl : (backTo pos (starEach es X.env)).any (·.1) = false := by rfl) :
    PE X (.Call (.Name x p) (e :: es) [] pos) (tCall sp dvs E t) := by
  refine ⟨fun pins s σ H Q I h => ?_⟩
  refine wpAny_Call_Name_kw (ld_glob I hg hm ?_ hdb)
  refine PySem.W.callWith_K (h₀ := X.base) I.ok.mod.kin hk (thn (ha.run pos pins s σ H _ I h) fun us s1 ⟨vs, H1, I1, r, q⟩ => ⟨I1.kIn, ?_⟩) he hpl
  have r2 : Vals (vs ++ dvs) (us ++ ds) := r.append hd
  have hl : (us ++ ds).length = ps.length := by rw [← r2.length]; exact F.len _ _ _ _ q
  refine wpAny_call (codeAny_mono (F.run X.A X.stack s1 H1 ⟨us, []⟩ (us ++ ds) (vs ++ dvs) Q E hgd hr I1.env0 (hb s1 us I1.kIn hl) r2 q) fun r s' hq => ?_)
  cases r with
  | error e => exact hx pins σ H1 s1 e s' I1 hq
  | ok fl =>
    cases fl with
    | ret u => exact I1.after hq
    | next => exact False.elim hq
    | brk => exact False.elim hq
    | cont => exact False.elim hq
end
section
variable {X : Cx} {E : XK}
theorem pe_caught (T : Txt X.K X.mg) {Ts : List (Addr × Str)} {c P : Addr} {k : Nat} {ps : Arguments} {bd : Expr} {lsc : Scope} {t : XK → TE} {p lpos pos : Pos} (hg : Gl X "_law_caught") (TB : TabB X.base X.mg c P) (hcode : X.env.code = .ref c) (hmT : (P, X.env.qual ++ "<lambda>") ∈ Ts) (hu : ∀ p ∈ Ts, p.1 = P → p.2 = X.env.qual ++ "<lambda>")
    (hr : Room (k + 2) X.A) (L : LamX.LamS X.env.scope lsc) (hdef : defaultsOf ps X.env = ([], []))
    (noArgs : ∀ (q : Str) (cl : List (Str × Addr)) (pm cv ctv : Value), bindArgs (PySem.W.kla_fn "<lambda>" q ps bd lsc cl pm cv ctv) ⟨[], []⟩ = pure [])
    (body : ∀ (A : Around) (outer : List Env) (s : Shared) (H : Hp) (E : XK) (fl co : Addr), Room k (A.deeper (LamX.lamEnv X lsc s.heap.objs.size fl co)) → PE (LamX.lamCx X A outer s H E lsc fl co) bd (t E)) :
    PE X (.Call (.Name "_law_caught" p) [.Lambda ps bd lsc lpos] [] pos) (tLam Ts (TTc X.K T.RoundError.C) t) := by
  obtain ⟨oc, od, kV, doc, pm, an, cdv, ct, osl, e, lk, hc⟩ := T.l_caught.F.ex
  have hb := T.l_caught.b
  rw [e] at lk hb
  exact LamX.tt_lamcall hg T.l_caught.g T.l_caught.k lk hc hb sc_l_caught rfl (Or.inl rfl) (caught_gives T.RoundError.g) TB hcode hmT hu hr L hdef noArgs body
theorem lamP {A : Around} {outer : List Env} {s : Shared} {H : Hp} {lsc : Scope} {fl co : Addr} : Passes (L2.CX X.prog X.w) (LamX.lamCx X A outer s H E lsc fl co) E := passes_call (takes_of rfl rfl rfl rfl) fun _ _ _ _ h => h
end
section
variable {P : Program} {w : World} {K : PySem.W.Frag} {mg : Str → Option Value} {base : Heap}
theorem sqT_ext {H H' : Hp} {a : Addr} {xs : List V} (e : ExtN H H') (h : SqT K H a xs) : SqT K H' a xs := by
  rcases h with (h | ⟨o, h⟩) | h
  · exact .inl (.inl (e _ _ h fun _ z => nomatch z))
  · exact .inl (.inr ⟨o, e _ _ h fun _ z => nomatch z⟩)
  · exact .inr h
theorem sqL_ext {H H' : Hp} {a : Addr} {xs : List V} (e : ExtN H H') (h : SqL K H a xs) : SqL K H' a xs := by
  rcases h with (h | ⟨o, h⟩) | h
  · exact .inl (.inl (e _ _ h fun _ z => nomatch z))
  · exact .inl (.inr ⟨o, e _ _ h fun _ z => nomatch z⟩)
  · exact .inr h
theorem tyB_ext {H H' : Hp} {x : V} {S : String} (t : TyB K H x S) (e : ExtN H H') : TyB K H' x S := by
  cases t with
  | non => exact .non
  | bl b => exact .bl b
  | int i => exact .int i
  | str x => exact .str x
  | byt b => exact .byt b
  | @lst a xs h =>
    have h' : SqL K H' a xs := sqL_ext e h
    exact .lst h'
  | tup h => exact .tup (sqT_ext e h)
  | dK h => exact .dK (e _ _ h fun _ z => nomatch z)
theorem wv_ext {m : Int} {row : List Int} {H H' : Hp} {x : V} {b : Bool} (h : WV K m row H x b) (e : ExtN H H') : WV K m row H' x b := by
  cases h with
  | tup h n ty => exact .tup (sqT_ext e h) n fun y hy => (ty y hy).elim fun S t => ⟨S, tyB_ext t e⟩
  | non h n => exact .non (tyB_ext h e) n
theorem fzT_ext {H H' : Hp} {a : Addr} {xs : List V} (e : ExtN H H') (h : FzT H a xs) : FzT H' a xs := by
  obtain ⟨ob, h1, h2⟩ := h
  exact ⟨ob, e _ _ h1 (fun _ z => nomatch z), h2⟩
theorem skAt_ext {T : Txt K mg} {H H' : Hp} {p : Addr} {row : List Int} (h : SkAt T H p row) (e : ExtN H H') : SkAt T H' p row := by
  obtain ⟨dx, r, q, h1, h2, h3⟩ := h
  exact ⟨dx, r, q, e _ _ h1 (fun _ z => nomatch z), fzT_ext e h2, fzT_ext e h3⟩
theorem drOk_ext {D : Dw} {H H' : Hp} (h : DrOk D H) (e : ExtN H H') : DrOk D H' := by
  obtain ⟨ls, cs, r, t, d⟩ := h
  exact ⟨ls, cs, r, t, e _ _ d.hd (fun _ z => nomatch z), e _ _ d.hl (fun _ z => nomatch z), e _ _ d.hc (fun _ z => nomatch z), d.ne, d.nl, d.nc⟩
def KpN (D : Dw) (H H' : Hp) : Prop := ∀ b o, H b = some o → b ≠ D.d → b ≠ D.l → (∀ ps, o ≠ .tbl ps) → H' b = some o
theorem KpN.of {D : Dw} {H H' : Hp} (k : Kp D H H') : KpN D H H' := fun b o h n m _ => k b o h n m
theorem KpN.ext {D : Dw} {H H' : Hp} (k : ExtN H H') : KpN D H H' := fun b o h _ _ t => k b o h t
theorem KpN.trans {D : Dw} {H H1 H2 : Hp} (a : KpN D H H1) (b : KpN D H1 H2) : KpN D H H2 := fun c o h n m t => b c o (a c o h n m t) n m t
theorem tabs_kp {D : Dw} {Ts : List (Addr × Str)} {H H' : Hp} (t : Tabs Ts H) (dr : DrOk D H) (k : Kp D H H') : Tabs Ts H' := fun p hp => by
  obtain ⟨ps, h1, h2, h3⟩ := t p hp
  obtain ⟨ls, cs, r, tt, d⟩ := dr
  refine ⟨ps, k _ _ h1 (d.dne h1 fun _ z => nomatch z) (d.lne h1 fun _ z => nomatch z), h2, fun pos cv hc => ?_⟩
  obtain ⟨c, e1, e2⟩ := h3 pos cv hc
  exact ⟨c, e1, k _ _ e2 (d.dne e2 fun _ z => nomatch z) (d.lne e2 fun _ z => nomatch z)⟩
theorem exm_S (T : Txt K mg) : PySem.W.exmOne K (.ref T.BadSkin.C) (.ref T.RoundError.C) = some true := PySem.W.exm_ref T.RoundError.ec.hs T.RoundError.ec.hd T.RoundError.ty T.sSR
def spSkinErr (T : Txt K mg) : Sp := fun vs H Q _ => ∃ (a d : Addr), vs = [.ref a] ∧ H a = some (exh (.ref T.BadSkin.C) (some d) a) ∧ H d = some (.xd [("part", .non)]) ∧ Q (.bl true) H
theorem ok_l_skin_error (T : Txt K mg) : FnOk P w K mg base CX0 1 T.l_skin_error.a T.l_skin_error.fd ["error"] (spSkinErr T) := by
  refine T.l_skin_error.F.ok sc_l_skin_error (fun vs H Q E h => ?_) (fun cdv A outer s H vs Q E hr h => ?_)
  · obtain ⟨a, d, rfl, _⟩ := h
    rfl
  · obtain ⟨a, d, rfl, h1, h2, k⟩ := h
    refine ⟨_, (pss_one (ps_ret (pe_and (pe_callB call_isA (by rfl) T.zisinstance (by decide +kernel) (pa_cons (pv 0) (pa_cons (pe_glob (v := .ref T.BadSkin.C) rfl T.BadSkin.g rfl) pa_nil))) (pe_one (pe_cmpR op_isN (pe_xfH (pv 0)) pe_non (nomark _)))))), ?_⟩
    refine ⟨_, rfl, .inl ⟨a, T.BadSkin.C, some d, _, _, true, rfl, h1, .inr ⟨d, _, rfl, h2⟩, T.BadSkin.ec, .own T.BadSkin.C, T.kSkSk, _, rfl, iteT ?_⟩⟩
    exact ⟨_, rfl, a, T.BadSkin.C, d, _, .non, rfl, h1, h2, T.BadSkin.xf, T.BadSkin.n, rfl, rfl, k⟩
def NoSk (T : Txt K mg) (J : Hp → Prop) (Q : VK) : Prop := ∀ a d H', J H' → H' a = some (exh (.ref T.BadSkin.C) (some d) a) → H' d = some (.xd [("part", .non)]) → Q (.ref a) H'
theorem skErr_of {T : Txt K mg} {J : Hp → Prop} {H1 : Hp} {Q : VK} (js : ∀ H', Same H1 H' → J H') (k : NoSk T J Q) : SkErr T H1 (fun cls d H' => PySem.W.exmOne K cls (.ref T.RoundError.C) = some true ∧ ∀ a, H' a = none → Q (.ref a) (upd H' a (exh cls d a))) := fun d H' s e =>
  ⟨exm_S T, fun a ha => k a d _ (js _ (s.trans (same_new ha))) upd_same (by rw [upd_ne (ne_of_none e ha)]; exact e)⟩
end
end Tt
set_option maxRecDepth 100000
set_option maxHeartbeats 4000000
namespace Tt
open PySem L2
open LamX (Tabs TabS TabB ExtN CodeO tLam)
theorem nil_i {σ : L2.St} {H : Hp} {Q : List V → Hp → Prop} (h : Q [] H) : tNil σ H Q := h
section
variable {X : Cx} {A : Around} {outer : List Env} {s : Shared} {H : Hp} {E : XK} {lsc : Scope} {fl co : Addr} {p p1 p2 p3 pos : Pos} {kk : Nat}
theorem lb_ta (T : Txt X.K X.mg) (hr : Room 8 (A.deeper (LamX.lamEnv X lsc s.heap.objs.size fl co))) (n1 : X.N[1]? = some ("skin" : Str)) (n4 : X.N[4]? = some ("thing" : Str)) (v1 : Vis lsc "skin") (v4 : Vis lsc "thing") (hg : Gl (LamX.lamCx X A outer s H E lsc fl co) "turned_about") :
    PE (LamX.lamCx X A outer s H E lsc fl co) (.Call (.Name "turned_about" p) [.Name "skin" p1, .Name "thing" p2] [] pos) (tCall (spTurnedAbout T) [] E (tCons (tVar 1) (tCons (tVar 4) tNil))) := by
  refine pe_call (CX := L2.CX X.prog X.w) (ok_turned_about T) hr hg T.turned_about.g T.turned_about.k T.turned_about.b .nil lamP (pa_cons ?_ (pa_cons ?_ pa_nil))
  · exact pv (X := LamX.lamCx X A outer s H E lsc fl co) 1 n1 v1
  · exact pv (X := LamX.lamCx X A outer s H E lsc fl co) 4 n4 v4
theorem lb_tar (T : Txt X.K X.mg) (hr : Room 8 (A.deeper (LamX.lamEnv X lsc s.heap.objs.size fl co))) (n1 : X.N[1]? = some ("skin" : Str)) (n4 : X.N[4]? = some ("thing" : Str)) (v1 : Vis lsc "skin") (v4 : Vis lsc "thing") (hg : Gl (LamX.lamCx X A outer s H E lsc fl co) "turned_about") :
    PE (LamX.lamCx X A outer s H E lsc fl co) (.Call (.Name "turned_about" p) [.Attribute (.Name "skin" p1) "row" p3, .Name "thing" p2] [] pos) (tCall (spTurnedAbout T) [] E (tCons (tFld X.K (tVar 1) "row") (tCons (tVar 4) tNil))) := by
  refine pe_call (CX := L2.CX X.prog X.w) (ok_turned_about T) hr hg T.turned_about.g T.turned_about.k T.turned_about.b .nil lamP (pa_cons (pe_fld ?_ rfl) (pa_cons ?_ pa_nil))
  · exact pv (X := LamX.lamCx X A outer s H E lsc fl co) 1 n1 v1
  · exact pv (X := LamX.lamCx X A outer s H E lsc fl co) 4 n4 v4
theorem lb_ir (T : Txt X.K X.mg) (hr : Room 8 (A.deeper (LamX.lamEnv X lsc s.heap.objs.size fl co))) (n2 : X.N[2]? = some ("loop_here" : Str)) (v2 : Vis lsc "loop_here") (hg : Gl (LamX.lamCx X A outer s H E lsc fl co) "is_round") :
    PE (LamX.lamCx X A outer s H E lsc fl co) (.Call (.Name "is_round" p) [.Constant .none kk p1, .Name "loop_here" p2] [] pos) (tCall (spIsRound T) [] E (tCons (tC .non) (tCons (tVar 2) tNil))) := by
  refine pe_call (CX := L2.CX X.prog X.w) (ok_is_round T) (hr.mono (by decide)) hg T.is_round.g T.is_round.k T.is_round.b .nil lamP (pa_cons pe_non (pa_cons ?_ pa_nil))
  exact pv (X := LamX.lamCx X A outer s H E lsc fl co) 2 n2 v2
theorem lb_ro (T : Txt X.K X.mg) (hr : Room 7 (A.deeper (LamX.lamEnv X lsc s.heap.objs.size fl co))) (n3 : X.N[3]? = some ("skin" : Str)) (n11 : X.N[11]? = some ("bad" : Str)) (v3 : Vis lsc "skin") (v11 : Vis lsc "bad") (hg : Gl (LamX.lamCx X A outer s H E lsc fl co) "round_of") :
    PE (LamX.lamCx X A outer s H E lsc fl co) (.Call (.Name "round_of" p) [.Name "skin" p1, .Name "bad" p2] [] pos) (tCall (spRoundOf T) [] E (tCons (tVar 3) (tCons (tVar 11) tNil))) := by
  refine pe_call (CX := L2.CX X.prog X.w) (ok_round_of T) hr hg T.round_of.g T.round_of.k T.round_of.b .nil lamP (pa_cons ?_ (pa_cons ?_ pa_nil))
  · exact pv (X := LamX.lamCx X A outer s H E lsc fl co) 3 n3 v3
  · exact pv (X := LamX.lamCx X A outer s H E lsc fl co) 11 n11 v11
theorem lb_ron (T : Txt X.K X.mg) (hr : Room 7 (A.deeper (LamX.lamEnv X lsc s.heap.objs.size fl co))) (n11 : X.N[11]? = some ("bad" : Str)) (v11 : Vis lsc "bad") (hg : Gl (LamX.lamCx X A outer s H E lsc fl co) "round_of") :
    PE (LamX.lamCx X A outer s H E lsc fl co) (.Call (.Name "round_of" p) [.Constant .none kk p1, .Name "bad" p2] [] pos) (tCall (spRoundOf T) [] E (tCons (tC .non) (tCons (tVar 11) tNil))) := by
  refine pe_call (CX := L2.CX X.prog X.w) (ok_round_of T) hr hg T.round_of.g T.round_of.k T.round_of.b .nil lamP (pa_cons pe_non (pa_cons ?_ pa_nil))
  exact pv (X := LamX.lamCx X A outer s H E lsc fl co) 11 n11 v11
end
section
variable {P : Program} {w : World} {K : PySem.W.Frag} {mg : Str → Option Value} {base : Heap}
theorem exm_W (T : Txt K mg) : PySem.W.exmOne K (.ref T.BadWord.C) (.ref T.RoundError.C) = some true := PySem.W.exm_ref T.RoundError.ec.hs T.RoundError.ec.hd T.RoundError.ty T.sWR
theorem exm_R (T : Txt K mg) : PySem.W.exmOne K (.ref T.BadRound.C) (.ref T.RoundError.C) = some true := PySem.W.exm_ref T.RoundError.ec.hs T.RoundError.ec.hd T.RoundError.ty T.sRR
theorem sw_is_round (T : Txt K mg) : Swaps T.is_round.fd "skin" "thing" := T.is_round.F.swaps fun _ _ _ _ _ _ _ _ => rfl
theorem sw_round_of (T : Txt K mg) : Swaps T.round_of.fd "skin" "word" := T.round_of.F.swaps fun _ _ _ _ _ _ _ _ => rfl
def jQ : Str := (("_law_judged" : Str) ++ ".<locals>.") ++ "<lambda>"
def lQ : Str := (("law" : Str) ++ ".<locals>.") ++ "<lambda>"
abbrev jTs (T : Txt K mg) : List (Addr × Str) := [(T.jP, jQ), (T.lP, lQ)]
theorem LoopV.rd {row : List Int} {H : Hp} {x : V} {b : Bool} (h : LoopV K (row.length : Int) H x b) (ev : row.length % 2 = 0) : RdOr row x H K b := by
  have eh : hiE row = (row.length : Int) - 1 := by
    unfold hiE
    omega
  cases h with
  | non h k n => exact .inl ⟨.non h n, rfl⟩
  | @tup t xs h n it =>
    have wv : WV K 40 row H (.ref t) (decide ((xs.length : Int) ≤ 40) && xs.all (inB 0 (hiE row))) := .tup h (by omega) (fun y hy => (it y hy).ty)
    cases q : (decide ((xs.length : Int) ≤ 40) && xs.all (inB 0 (hiE row))) with
    | false =>
      rw [q] at wv
      refine .inl ⟨wv, ?_⟩
      rw [Bool.and_eq_false_iff, eh] at q
      unfold tb
      rcases q with q | q
      · have : ¬ (xs.length : Int) ≤ 40 := by simpa using q
        rw [decide_eq_false (fun z => by omega), Bool.false_and]
      · rw [q, Bool.false_and, Bool.and_false]
    | true =>
      rw [Bool.and_eq_true, eh] at q
      have q1 : (xs.length : Int) ≤ 40 := by simpa using q.1
      obtain ⟨ex, hr2⟩ := intsOf_all q.2
      have hlen : (intsOf xs).length = xs.length := by
        have := congrArg List.length ex
        rw [List.length_map] at this
        omega
      have h' := h
      rw [ex] at h'
      refine .inr ⟨t, intsOf xs, rfl, h', by omega, fun y hy => by have := hr2 y hy; omega, ?_⟩
      unfold tb
      rw [q.2, Bool.true_and]
      by_cases e0 : intsOf xs = []
      · have : xs.length = 0 := by rw [← hlen, e0]; rfl
        rw [decide_eq_false (fun z : 1 ≤ xs.length ∧ xs.length ≤ 40 => by omega), Bool.false_and]
        simp [e0]
      · have : 0 < (intsOf xs).length := List.length_pos_iff.mpr e0
        rw [decide_eq_true (show 1 ≤ xs.length ∧ xs.length ≤ 40 by omega), Bool.true_and]
        simp [e0]
theorem show2b {H : Hp} {Q : VK} {l : Addr} {b : Bool} (hl : SqL K H l [.bl b, .bl b]) (k : Q (.str (PyData.list [.bool b, .bool b]).shown) H) : rShow K [.ref l] H Q :=
  ⟨l, .list [.bool b, .bool b], rfl, .lst hl (.cons (.bl b) (.cons (.bl b) .nil)), by cases b <;> decide +kernel, by cases b <;> decide +kernel, by cases b <;> decide +kernel, by cases b <;> decide +kernel, k⟩
structure Je (T : Txt K mg) (Ts : List (Addr × Str)) (D : Dw) (p : Addr) (row : List Int) (t : Addr) (ns : List Int) (H0 H : Hp) : Prop where
  sk : SkAt T H p row
  l12 : row.length ≤ 12
  ev : row.length % 2 = 0
  wd : SqT K H t (ns.map V.int)
  dr : DrOk D H
  tb : Tabs Ts H
  kp : KpN D H0 H
section
variable {T : Txt K mg} {Ts : List (Addr × Str)} {D : Dw} {p : Addr} {row : List Int} {t : Addr} {ns : List Int} {H0 H H' : Hp}
theorem Je.ext (j : Je T Ts D p row t ns H0 H) (e : ExtN H H') (tb : Tabs Ts H') : Je T Ts D p row t ns H0 H' :=
  ⟨skAt_ext j.sk e, j.l12, j.ev, sqT_ext e j.wd, drOk_ext j.dr e, tb, j.kp.trans (.ext e)⟩
theorem Je.same (j : Je T Ts D p row t ns H0 H) (e : Same H H') : Je T Ts D p row t ns H0 H' := j.ext (.of e) (j.tb.ext e)
theorem Je.kpd (j : Je T Ts D p row t ns H0 H) (d : DrOk D H') (k : Kp D H H') : Je T Ts D p row t ns H0 H' :=
  ⟨j.sk.kp j.dr k, j.l12, j.ev, k.seqT j.dr j.wd, d, tabs_kp j.tb j.dr k, j.kp.trans (.of k)⟩
theorem LoopV.ext {e : Int} {x : V} {b : Bool} (h : LoopV K e H x b) (s : ExtN H H') : LoopV K e H' x b := by
  cases h with
  | non h k n => exact .non (tyB_ext h s) k n
  | tup h n it => exact .tup (sqT_ext s h) n it
end
end
end Tt
set_option maxRecDepth 100000
set_option maxHeartbeats 4000000
namespace Tt
open PySem L2
open LamX (Tabs TabS TabB ExtN CodeO tLam)
section
variable {P : Program} {w : World} {K : PySem.W.Frag} {mg : Str → Option Value} {base : Heap}
section
variable {T : Txt K mg} {Ts : List (Addr × Str)} {D : Dw} {p : Addr} {row : List Int} {t : Addr} {ns : List Int} {H0 H : Hp} {σ : L2.St} {Q : VK} {x : V} {b : Bool}
theorem lam_ta (j : Je T Ts D p row t ns H0 H) (hx : LoopV K (row.length : Int) H x b) (h1 : σ[1]? = some (some (.ref p))) (h4 : σ[4]? = some (some x))
    (k1 : b = true → ∀ H', Je T Ts D p row t ns H0 H' → ExtN H H' → Q .non H') (k2 : b = false → ∀ a H', Je T Ts D p row t ns H0 H' → ExtN H H' → H' a = some (exh (.ref T.BadRound.C) none a) → Q (.ref a) H') :
    tLam Ts (TTc K T.RoundError.C) (fun E => tCall (spTurnedAbout T) [] E (tCons (tVar 1) (tCons (tVar 4) tNil))) σ H Q := by
  refine ⟨j.tb, fun H1 e1 t1 => ?_⟩
  have j1 := j.ext e1 t1
  have rd := (hx.ext e1).rd j.ev
  cases b with
  | false =>
    refine ⟨_, h1, _, h4, _, _, rfl, .inr ⟨p, row, rfl, j1.sk, ⟨j1.l12, j1.ev⟩, .inl ⟨rd, fun H2 s2 => ⟨exm_R T, fun a ha => ?_⟩⟩⟩⟩
    exact k2 rfl a _ ((j1.same s2).same (same_new ha)) (e1.trans (.of (s2.trans (same_new ha)))) upd_same
  | true =>
    rcases rd with ⟨_, z⟩ | ⟨t2, ms, rfl, hm, lm, ltm, eb⟩
    · cases z
    · have eb' : ms ≠ [] ∧ closedT ms = ms := by simpa using eb.symm
      refine ⟨_, h1, _, h4, _, _, rfl, .inr ⟨p, row, rfl, j1.sk, ⟨j1.l12, j1.ev⟩, .inr ⟨t2, ms, rfl, hm, lm, ltm, eb'.1, eb'.2, fun q H2 s2 _ => ?_⟩⟩⟩
      exact k1 rfl _ (j1.same s2) (e1.trans (.of s2))
theorem lam_tar (j : Je T Ts D p row t ns H0 H) (h1 : σ[1]? = some (some (.ref p))) (h4 : σ[4]? = some (some x))
    (k : NoSk T (Je T Ts D p row t ns H0) Q) : tLam Ts (TTc K T.RoundError.C) (fun E => tCall (spTurnedAbout T) [] E (tCons (tFld K (tVar 1) "row") (tCons (tVar 4) tNil))) σ H Q := by
  refine ⟨j.tb, fun H1 e1 t1 => ?_⟩
  have j1 := j.ext e1 t1
  obtain ⟨dx, r, q, a1, a2, a3⟩ := id j1.sk
  exact ⟨_, h1, p, T.Skin.C, dx, _, _, rfl, a1, T.Skin.c, nRow T, skF_row .., _, h4, _, _, rfl, .inl ⟨.tup a2, skErr_of (fun H' s => j1.same s) k⟩⟩
theorem lam_ir (j : Je T Ts D p row t ns H0 H) (h2 : σ[2]? = some (some (.ref t)))
    (k : NoSk T (Je T Ts D p row t ns H0) Q) : tLam Ts (TTc K T.RoundError.C) (fun E => tCall (spIsRound T) [] E (tCons (tC .non) (tCons (tVar 2) tNil))) σ H Q := by
  refine ⟨j.tb, fun H1 e1 t1 => ?_⟩
  have j1 := j.ext e1 t1
  exact ⟨_, h2, _, _, rfl, .inl ⟨.non, skErr_of (fun H' s => j1.same s) k⟩⟩
end
def spJudged (T : Txt K mg) : Sp := fun vs H Q _ => ∃ (D : Dw) (p : Addr) (row : List Int) (t : Addr) (ns : List Int), vs = [.ref D.d, .ref p, .ref t] ∧ SkAt T H p row ∧ 0 < row.length ∧ row.length ≤ 12 ∧ row.length % 2 = 0 ∧ SqT K H t (ns.map V.int) ∧ ns ≠ [] ∧ ns.length ≤ 60 ∧ Lt (row.length : Int) ns ∧ DrOk D H ∧ Tabs (jTs T) H ∧
  ∀ H', DrOk D H' → KpN D H H' → Tabs (jTs T) H' → Q (.bl true) H'
theorem ok_l_judged (T : Txt K mg) (TB : TabB base mg T.jc T.jP) : FnG P w K mg base CX0 12 T.l_judged.a T.l_judged.fd ["draw", "skin", "loop_here"] (spJudged T) := by
  have hmT : (T.jP, (("_law_judged" : Str) ++ ".<locals>.") ++ "<lambda>") ∈ jTs T := List.mem_cons_self
  have hu : ∀ p ∈ jTs T, p.1 = T.jP → p.2 = (("_law_judged" : Str) ++ ".<locals>.") ++ "<lambda>" := fun p hp hq => by
    rcases List.mem_cons.mp hp with e | hp
    · subst e
      exact Eq.refl jQ
    · have e := List.mem_singleton.mp hp
      subst e
      exact absurd hq.symm T.ne
  refine T.jF.okG sc_l_judged (fun vs H Q E h => ?_) (fun A outer s H vs Q E hA hr h => ?_)
  · obtain ⟨D, p, row, t, ns, rfl, _⟩ := h
    rfl
  · obtain ⟨D, p, row, t, ns, rfl, sk, l0, l12, ev, ht, hne, hn, hlt, dr, tb, k⟩ := h
    have nd := sc_l_judged.nd
    have hg : (cxOf CX0 P w K mg base N_l_judged "_law_judged" (defScope s_l_judged) T.l_judged.a (.ref T.jc) A outer s H E).nox.A.guards = some [] := hA
    refine ⟨_, (pss_cons (ps_for PassesOwn.never rfl (pi_range1 rfl T.zrange (pa_cons pe_int pa_nil)) (pg_name (i := 3) nd rfl (Or.inl rfl))
      (pss_cons (ps_set (i := 4) nd rfl (Or.inr rfl) (pe_call (ok_l_near T) (hr.mono (by decide)) (by rfl) T.l_near.g T.l_near.k T.l_near.b .nil pass0 (pa_cons (pv 0) (pa_cons (pe_callB call_len_seq (by rfl) T.zlen (by decide +kernel) (pa_cons (pe_fld (pv 1) rfl) pa_nil)) (pa_cons (pv 2) pa_nil)))))
      (pss_cons (ps_set (i := 5) nd rfl (Or.inl rfl) (pe_call (ok_l_is_loop T) (hr.mono (by decide)) (by rfl) T.l_is_loop.g T.l_is_loop.k T.l_is_loop.b .nil pass0 (pa_cons (pv 4) (pa_cons (pe_callB call_len_seq (by rfl) T.zlen (by decide +kernel) (pa_cons (pe_fld (pv 1) rfl) pa_nil)) pa_nil))))
      (pss_cons (ps_if (pt_cmpR op_ne (pe_callB (call_show hg hr.units) (by rfl) T.zrepr (by decide +kernel) (pa_cons (pe_lst (pa_cons (pe_call (ok_is_round T) (hr.mono (by decide)) (by rfl) T.is_round.g T.is_round.k T.is_round.b .nil passF (pa_cons (pv 1) (pa_cons (pv 4) pa_nil))) (pa_cons (pe_callSw (ok_is_round T) (hr.mono (by decide)) (by rfl) T.is_round.g T.is_round.k (sw_is_round T) passF (pv 4) (pv 1)) pa_nil))) pa_nil)) (pe_callB (call_show hg hr.units) (by rfl) T.zrepr (by decide +kernel) (pa_cons (pe_lst (pa_cons (pv 5) (pa_cons (pv 5) pa_nil))) pa_nil)) (nomark _))
        (pss_one (ps_ret pe_bl))
        pss_nil)
      (pss_cons (ps_set (i := 6) nd rfl (Or.inl rfl) (pe_caught (k := 8) T (by rfl) TB rfl hmT hu (hr.mono (by decide)) (LamX.lamS_by (sc := defScope s_l_judged) (by decide +kernel)) rfl (fun _ _ _ _ _ => rfl) (fun _ _ _ _ _ _ _ hr => lb_ta T hr rfl rfl (Or.inr (Or.inr rfl)) (Or.inr (Or.inr rfl)) (by rfl))))
      (pss_cons (ps_if (PW.pt (pw_or (pt_cmpR op_ne (pv 5) (pe_cmpR op_isN (pv 6) pe_non (nomark _)) (nomark _)) (pw_or1 (PW.pt (pw_and (pt_not (pt_val (pv 5))) (pw_and1 (pt_not (pt_val (pe_callB call_isA (by rfl) T.zisinstance (by decide +kernel) (pa_cons (pv 6) (pa_cons (pe_glob (v := .ref T.BadRound.C) rfl T.BadRound.g rfl) pa_nil)))))))))))
        (pss_one (ps_ret pe_bl))
        pss_nil)
      (pss_one (ps_if (pt_not (pt_val (pe_call (ok_l_skin_error T) (hr.mono (by decide)) (by rfl) T.l_skin_error.g T.l_skin_error.k T.l_skin_error.b .nil pass0 (pa_cons (pe_caught (k := 8) T (by rfl) TB rfl hmT hu (hr.mono (by decide)) (LamX.lamS_by (sc := defScope s_l_judged) (by decide +kernel)) rfl (fun _ _ _ _ _ => rfl) (fun _ _ _ _ _ _ _ hr => lb_tar T hr rfl rfl (Or.inr (Or.inr rfl)) (Or.inr (Or.inr rfl)) (by rfl))) pa_nil))))
        (pss_one (ps_ret pe_bl))
        pss_nil))))))))
    (pss_one (ps_ret (pe_call (ok_l_skin_error T) (hr.mono (by decide)) (by rfl) T.l_skin_error.g T.l_skin_error.k T.l_skin_error.b .nil pass0 (pa_cons (pe_caught (k := 8) T (by rfl) TB rfl hmT hu (hr.mono (by decide)) (LamX.lamS_by (sc := defScope s_l_judged) (by decide +kernel)) rfl (fun _ _ _ _ _ => rfl) (fun _ _ _ _ _ _ _ hr => lb_ir T hr rfl (Or.inr (Or.inr rfl)) (by rfl))) pa_nil))))), ?_⟩
    have j0 : Je T (jTs T) D p row t ns H H := ⟨sk, l12, ev, ht, dr, tb, fun _ _ h _ _ _ => h⟩
    have lt12 : ∀ x ∈ ns, 0 ≤ x ∧ x < 12 := fun y hy => by have := hlt y hy; omega
    have sz2 : (2 : Nat) ≤ sizeLine := by decide
    refine ⟨_, rfl, by decide, by decide, ?_⟩
    refine for_range (lo := 0) (fun i σ H' => ∃ v3 v4 v5 v6, σ = [some (.ref D.d), some (.ref p), some (.ref t), v3, v4, v5, v6] ∧ Je T (jTs T) D p row t ns H H') ⟨none, none, none, none, rfl, j0⟩ ?_ ?_
    · rintro i σ H1 hi ⟨v3, v4, v5, v6, rfl, j1⟩
      obtain ⟨dx, r, q, a1, a2, a3⟩ := id j1.sk
      refine ⟨_, rfl, _, rfl, p, T.Skin.C, dx, _, _, rfl, a1, T.Skin.c, nRow T, skF_row .., r, _, rfl, .inr a2.sq, _, rfl, D, (row.length : Int), t, ns, by rw [List.length_map] <;> rfl, by omega, by omega, j1.wd, hne, hn, lt12, j1.dr, fun x H2 d2 k2 nv => ?_⟩
      have j2 := j1.kpd d2 k2
      obtain ⟨b, lv⟩ := nv.loop (T := T) (row.length : Int)
      obtain ⟨dx, r, q, a1, a2, a3⟩ := id j2.sk
      refine ⟨_, rfl, _, rfl, p, T.Skin.C, dx, _, _, rfl, a1, T.Skin.c, nRow T, skF_row .., r, _, rfl, .inr a2.sq, x, (row.length : Int), b, by rw [List.length_map] <;> rfl, by omega, lv, fun H3 s3 => ?_⟩
      have j3 := j2.same s3
      have lv3 := lv.same s3
      clear j1 j2 lv nv a1 a2 a3 d2 k2 s3
      refine ⟨_, rfl, _, rfl, _, _, rfl, .inr ⟨p, row, rfl, j3.sk, ⟨l12, ev⟩, b, lv3.rd ev, fun H4 s4 => ?_⟩⟩
      have j4 := j3.same s4
      have lv4 := lv3.same s4
      refine ⟨_, rfl, _, rfl, _, _, rfl, .inr ⟨p, row, rfl, j4.sk, ⟨l12, ev⟩, b, lv4.rd ev, fun H5 s5 => ⟨sz2, fun la hla => ?_⟩⟩⟩
      have sL : Same H5 (upd H5 la (.lst [.bl b, .bl b])) := same_new hla
      have j5 := (j4.same s5).same sL
      have lv5 := (lv4.same s5).same sL
      refine nil_i (show2b (K := K) (SqL.of upd_same) ?_)
      generalize upd H5 la (.lst [.bl b, .bl b]) = H6 at j5 lv5
      refine ⟨_, rfl, _, rfl, sz2, fun lb hlb => ?_⟩
      have sM : Same H6 (upd H6 lb (.lst [.bl b, .bl b])) := same_new hlb
      have j6 := j5.same sM
      have lv6 := lv5.same sM
      refine nil_i (show2b (K := K) (SqL.of upd_same) ⟨rfl, _, rfl, iteNS rfl ?_⟩)
      generalize upd H6 lb (.lst [.bl b, .bl b]) = H7 at j6 lv6
      clear j3 j4 j5 lv3 lv4 lv5
      refine lam_ta (K := K) j6 lv6 rfl rfl (fun hb H8 j8 _ => ?_) (fun hb a H8 j8 _ ha => ?_)
      · subst hb
        refine ⟨_, rfl, _, rfl, rfl, rfl, _, rfl, ite2 (fun c => absurd c (by decide)) (fun _ => ?_)⟩
        refine ⟨_, rfl, _, rfl, iteF (iteF ?_)⟩
        refine lam_tar (K := K) j8 rfl rfl fun a2 d2 H9 j9 ha2 hd2 => ?_
        exact ⟨a2, d2, rfl, ha2, hd2, true, rfl, iteF ⟨_, _, _, _, rfl, j9⟩⟩
      · subst hb
        refine ⟨_, rfl, _, rfl, rfl, rfl, _, rfl, ite2 (fun c => absurd c (by simp)) (fun _ => ?_)⟩
        refine ⟨_, rfl, _, rfl, iteT ?_⟩
        refine ⟨_, rfl, .inl ⟨a, T.BadRound.C, none, _, _, true, rfl, ha, .inl rfl, T.BadRound.ec, .own T.BadRound.C, T.kRR, _, rfl, iteF ?_⟩⟩
        refine lam_tar (K := K) j8 rfl rfl fun a2 d2 H9 j9 ha2 hd2 => ?_
        exact ⟨a2, d2, rfl, ha2, hd2, true, rfl, iteF ⟨_, _, _, _, rfl, j9⟩⟩
    · rintro σ H' ⟨v3, v4, v5, v6, rfl, j⟩
      refine lam_ir (K := K) j rfl fun a2 d2 H7 j8 ha2 hd2 => ?_
      refine ⟨a2, d2, rfl, ha2, hd2, ?_⟩
      exact k H7 j8.dr j8.kp j8.tb
end
end Tt
set_option maxRecDepth 100000
set_option maxHeartbeats 4000000
namespace Tt
open PySem L2
open LamX (Tabs TabS TabB ExtN CodeO tLam)
section
variable {P : Program} {w : World} {K : PySem.W.Frag} {mg : Str → Option Value} {base : Heap}
def wd2 (a b : List Int) : PyData := .list [.tuple (a.map PyData.int), .tuple (b.map PyData.int)]
theorem shA : ∀ a : List Int, (∀ x ∈ a, 0 ≤ x ∧ x < 12) → PyData.showableAll (a.map PyData.int) = true
  | [], _ => rfl
  | x :: a, h => by
    have h1 := h x List.mem_cons_self
    have h2 : (decide (x.natAbs.log2 < 1920)) = true := by
      have : x.natAbs < 12 := by omega
      have : x.natAbs.log2 ≤ x.natAbs := Nat.log2_le_self _
      exact decide_eq_true (by omega)
    show (decide (x.natAbs.log2 < 1920) && PyData.showableAll (a.map PyData.int)) = true
    rw [h2, shA a fun y hy => h y (List.mem_cons_of_mem _ hy)]
    rfl
theorem hdA : ∀ a : List Int, PyData.hasDictAll (a.map PyData.int) = false
  | [] => rfl
  | x :: a => by
    show (false || PyData.hasDictAll (a.map PyData.int)) = false
    rw [hdA a]
    rfl
theorem dpA : ∀ a : List Int, PyData.depthAll (a.map PyData.int) = 0
  | [] => rfl
  | x :: a => by
    show max 0 (PyData.depthAll (a.map PyData.int)) = 0
    rw [dpA a]
    rfl
theorem digits2 {x : Int} (h0 : 0 ≤ x) (h1 : x < 12) : (PyData.shown (.int x)).length ≤ 2 := by
  have : x = 0 ∨ x = 1 ∨ x = 2 ∨ x = 3 ∨ x = 4 ∨ x = 5 ∨ x = 6 ∨ x = 7 ∨ x = 8 ∨ x = 9 ∨ x = 10 ∨ x = 11 := by omega
  rcases this with rfl | rfl | rfl | rfl | rfl | rfl | rfl | rfl | rfl | rfl | rfl | rfl <;> decide +kernel
theorem lenA : ∀ a : List Int, (∀ x ∈ a, 0 ≤ x ∧ x < 12) → ((PyData.shownAll (a.map PyData.int)).map (·.length)).sum ≤ 2 * a.length ∧ (PyData.shownAll (a.map PyData.int)).length = a.length
  | [], _ => ⟨Nat.le_refl _, rfl⟩
  | x :: a, h => by
    have h1 := h x List.mem_cons_self
    obtain ⟨i1, i2⟩ := lenA a fun y hy => h y (List.mem_cons_of_mem _ hy)
    have d := digits2 h1.1 h1.2
    constructor
    · show (PyData.shown (.int x)).length + ((PyData.shownAll (a.map PyData.int)).map (·.length)).sum ≤ 2 * (a.length + 1)
      omega
    · show (PyData.shownAll (a.map PyData.int)).length + 1 = a.length + 1
      omega
theorem len2 {a b : List Int} (ha : ∀ x ∈ a, 0 ≤ x ∧ x < 12) (hb : ∀ x ∈ b, 0 ≤ x ∧ x < 12) (la : a.length ≤ 200) (lb : b.length ≤ 200) : (wd2 a b).shown.length ≤ sizeLine := by
  have e : (wd2 a b).shown = listText [tupleText (PyData.shownAll (a.map PyData.int)), tupleText (PyData.shownAll (b.map PyData.int))] := rfl
  rw [e]
  have h0 := listText_len_le [tupleText (PyData.shownAll (a.map PyData.int)), tupleText (PyData.shownAll (b.map PyData.int))]
  have h1 := tupleText_len_le (PyData.shownAll (a.map PyData.int))
  have h2 := tupleText_len_le (PyData.shownAll (b.map PyData.int))
  obtain ⟨a1, a2⟩ := lenA a ha
  obtain ⟨b1, b2⟩ := lenA b hb
  have hz : (10000 : Nat) ≤ sizeLine := by decide
  simp only [List.map_cons, List.map_nil, List.sum_cons, List.sum_nil, List.length_cons, List.length_nil] at h0
  omega
theorem show2 {H : Hp} {Q : VK} {l p q : Addr} {a b : List Int} (ha : ∀ x ∈ a, 0 ≤ x ∧ x < 12) (hb : ∀ x ∈ b, 0 ≤ x ∧ x < 12) (la : a.length ≤ 200) (lb : b.length ≤ 200) (hl : SqL K H l [.ref p, .ref q]) (hp : SqT K H p (a.map V.int)) (hq : SqT K H q (b.map V.int))
    (k : Q (.str (wd2 a b).shown) H) : rShow K [.ref l] H Q := by
  refine ⟨l, wd2 a b, rfl, .lst hl (.cons (.tup hp (dpAll_ints _ _)) (.cons (.tup hq (dpAll_ints _ _)) .nil)), ?_, ?_, ?_, len2 ha hb la lb, k⟩
  · show (PyData.showableAll (a.map PyData.int) && (PyData.showableAll (b.map PyData.int) && true)) = true
    rw [shA a ha, shA b hb]
    rfl
  · show (PyData.hasDictAll (a.map PyData.int) || (PyData.hasDictAll (b.map PyData.int) || false)) = false
    rw [hdA a, hdA b]
    rfl
  · show max (PyData.depthAll (a.map PyData.int) + 1) (max (PyData.depthAll (b.map PyData.int) + 1) 0) + 1 ≤ 60
    rw [dpA a, dpA b]
    decide
theorem let_rest {J C : Hp → Prop} {G : Prop} (main : (∀ H', J H' → C H') → G) (rest : ∀ H', J H' → C H') : G := main rest
theorem eqvT : ∀ a : List Int, PyData.eqv (.tuple (a.map PyData.int)) (.tuple (a.map PyData.int)) = true := fun a => by
  have h := eqv_ints a a
  rw [decide_eq_true rfl] at h
  exact h
theorem shapedT (a : List Int) : SeqAt.shaped (.tuple (a.map PyData.int)) = true := shapedAll_ints a
theorem ne_same {H : Hp} {Q : VK} {p q : Addr} {a : List Int} (hp : SqT K H p (a.map V.int)) (hq : SqT K H q (a.map V.int)) (k : Q (.bl false) H) : rNeD K (.ref p) (.ref q) H Q := by
  refine ⟨.tuple (a.map PyData.int), .tuple (a.map PyData.int), .tup hp (dpAll_ints _ _), .tup hq (dpAll_ints _ _), shapedT a, shapedT a, ?_⟩
  rw [eqvT]
  exact k
theorem let_val {J C : V → Hp → Prop} {G : Prop} (main : (∀ v H', J v H' → C v H') → G) (rest : ∀ v H', J v H' → C v H') : G := main rest
theorem show1 {H : Hp} {Q : VK} {p : Addr} {a : List Int} (ha : ∀ x ∈ a, 0 ≤ x ∧ x < 12) (la : a.length ≤ 200) (hp : SqT K H p (a.map V.int))
    (k : Q (.str (PyData.tuple (a.map PyData.int)).shown) H) : rShow K [.ref p] H Q := by
  refine ⟨p, .tuple (a.map PyData.int), rfl, .tup hp (dpAll_ints _ _), ?_, ?_, ?_, ?_, k⟩
  · show PyData.showableAll (a.map PyData.int) = true
    exact shA a ha
  · show PyData.hasDictAll (a.map PyData.int) = false
    exact hdA a
  · show PyData.depthAll (a.map PyData.int) + 1 ≤ 60
    rw [dpA a]
    decide
  · have e : (PyData.tuple (a.map PyData.int)).shown = tupleText (PyData.shownAll (a.map PyData.int)) := rfl
    rw [e]
    have h1 := tupleText_len_le (PyData.shownAll (a.map PyData.int))
    obtain ⟨a1, a2⟩ := lenA a ha
    have hz : (10000 : Nat) ≤ sizeLine := by decide
    omega
end
end Tt
set_option maxRecDepth 100000
set_option maxHeartbeats 4000000
namespace Tt
open PySem L2
open LamX (Tabs TabS TabB ExtN CodeO tLam)
section
variable {P : Program} {w : World} {K : PySem.W.Frag} {mg : Str → Option Value} {base : Heap}
theorem KpN.at {D : Dw} {H H' : Hp} {b : Addr} {o : HO} (k : KpN D H H') (dr : DrOk D H) (h : H b = some o) (n1 : ∀ kvs, o ≠ .dK kvs) (n2 : ∀ xs, o ≠ .lst xs) (n3 : ∀ ps, o ≠ .tbl ps) : H' b = some o := by
  obtain ⟨ls, cs, r, t, d⟩ := dr
  exact k _ _ h (d.dne h n1) (d.lne h n2) n3
theorem SqT.kpn {D : Dw} {H H' : Hp} {a : Addr} {xs : List V} (h : SqT K H a xs) (dr : DrOk D H) (k : KpN D H H') : SqT K H' a xs := by
  rcases h with (h | ⟨o, h⟩) | h
  · exact .inl (.inl (k.at dr h (fun _ z => nomatch z) (fun _ z => nomatch z) (fun _ z => nomatch z)))
  · exact .inl (.inr ⟨o, k.at dr h (fun _ z => nomatch z) (fun _ z => nomatch z) (fun _ z => nomatch z)⟩)
  · exact .inr h
theorem FzT.kpn {D : Dw} {H H' : Hp} {a : Addr} {xs : List V} (h : FzT H a xs) (dr : DrOk D H) (k : KpN D H H') : FzT H' a xs := by
  obtain ⟨ob, h1, h2⟩ := h
  exact ⟨ob, k.at dr h1 (fun _ z => nomatch z) (fun _ z => nomatch z) (fun _ z => nomatch z), h2⟩
theorem SkAt.kpn {T : Txt K mg} {D : Dw} {H H' : Hp} {p : Addr} {row : List Int} (h : SkAt T H p row) (dr : DrOk D H) (k : KpN D H H') : SkAt T H' p row := by
  obtain ⟨dx, r, q, h1, h2, h3⟩ := h
  exact ⟨dx, r, q, k.at dr h1 (fun _ z => nomatch z) (fun _ z => nomatch z) (fun _ z => nomatch z), FzT.kpn h2 dr k, FzT.kpn h3 dr k⟩
structure Lx (T : Txt K mg) (D : Dw) (x : Addr) (row : List Int) (L : List (Addr × List Int)) (H : Hp) : Prop where
  dr : DrOk D H
  sk : SkAt T H x row
  tb : Tabs (jTs T) H
  al : ∀ q ∈ L, SqT K H q.1 (q.2.map V.int)
section
variable {T : Txt K mg} {D : Dw} {x : Addr} {row : List Int} {L : List (Addr × List Int)} {H H' : Hp}
theorem Lx.same (l : Lx T D x row L H) (s : Same H H') : Lx T D x row L H' := ⟨l.dr.same s, l.sk.same s, l.tb.ext s, fun q hq => same_seqT s (l.al q hq)⟩
theorem Lx.kp (l : Lx T D x row L H) (d : DrOk D H') (k : Kp D H H') : Lx T D x row L H' := ⟨d, l.sk.kp l.dr k, tabs_kp l.tb l.dr k, fun q hq => k.seqT l.dr (l.al q hq)⟩
theorem Lx.kpn (l : Lx T D x row L H) (d : DrOk D H') (k : KpN D H H') (tb : Tabs (jTs T) H') : Lx T D x row L H' := ⟨d, l.sk.kpn l.dr k, tb, fun q hq => SqT.kpn (l.al q hq) l.dr k⟩
theorem Lx.ext (l : Lx T D x row L H) (e : ExtN H H') (tb : Tabs (jTs T) H') : Lx T D x row L H' := ⟨drOk_ext l.dr e, skAt_ext l.sk e, tb, fun q hq => sqT_ext e (l.al q hq)⟩
theorem Lx.add (l : Lx T D x row L H) {p : Addr} {ns : List Int} (h : SqT K H p (ns.map V.int)) : Lx T D x row ((p, ns) :: L) H := ⟨l.dr, l.sk, l.tb, fun q hq => by
  rcases List.mem_cons.mp hq with rfl | hq
  · exact h
  · exact l.al q hq⟩
theorem Lx.new (l : Lx T D x row L H) {p : Addr} {o : HO} (h : H p = none) : Lx T D x row L (upd H p o) := l.same (same_new h)
end
inductive BadW (K : PySem.W.Frag) (D : Dw) (row : List Int) (H : Hp) : V → Prop where
  | non : BadW K D row H .non
  | lst {a : Addr} {xs : List V} (h : H a = some (.lst xs)) (o : Off D a) : BadW K D row H (.ref a)
  | tup {t : Addr} {xs : List V} (h : SqT K H t xs) (n : xs.length < 1000) (it : ∀ y ∈ xs, Itm y) (b : (decide ((xs.length : Int) ≤ 200) && xs.all (inB 0 (hiE row))) = false) : BadW K D row H (.ref t)
section
variable {D : Dw} {row : List Int} {H H' : Hp} {x : V}
theorem BadW.same (h : BadW K D row H x) (s : Same H H') : BadW K D row H' x := by
  cases h with
  | non => exact .non
  | lst h o => exact .lst (s _ _ h) o
  | tup h n it b => exact .tup (same_seqT s h) n it b
theorem BadW.kp (h : BadW K D row H x) (dr : DrOk D H) (k : Kp D H H') : BadW K D row H' x := by
  cases h with
  | non => exact .non
  | lst h o => exact .lst (k.at o h) o
  | tup h n it b => exact .tup (k.seqT dr h) n it b
theorem BadW.wv (h : BadW K D row H x) : WV K 200 row H x false := by
  cases h with
  | non => exact .non .non (by decide)
  | @lst a xs h o =>
    have h' : SqL K H a xs := SqL.of h
    exact .non (.lst h') (by decide)
  | tup h n it b =>
    rw [← b]
    exact .tup h n fun y hy => (it y hy).ty
end
section
variable {T : Txt K mg} {D : Dw} {p : Addr} {row : List Int} {L : List (Addr × List Int)} {H : Hp} {σ : L2.St} {Q : VK} {x : V}
theorem lam_ro (l : Lx T D p row L H) (rl : row.length ≤ 12 ∧ row.length % 2 = 0) (hw : WV K 200 row H x false) (h3 : σ[3]? = some (some (.ref p))) (h11 : σ[11]? = some (some x))
    (k : ∀ a H', Lx T D p row L H' → WV K 200 row H' x false → H' a = some (exh (.ref T.BadWord.C) none a) → Q (.ref a) H') :
    tLam (jTs T) (TTc K T.RoundError.C) (fun E => tCall (spRoundOf T) [] E (tCons (tVar 3) (tCons (tVar 11) tNil))) σ H Q := by
  refine ⟨l.tb, fun H1 e1 t1 => ?_⟩
  have l1 := l.ext e1 t1
  have w1 := wv_ext hw e1
  refine ⟨_, h3, _, h11, _, _, rfl, .inr ⟨p, row, rfl, l1.sk, rl, .inl ⟨w1, fun H2 s2 => ⟨exm_W T, fun a ha => ?_⟩⟩⟩⟩
  exact k a _ ((l1.same s2).new ha) (w1.same (s2.trans (same_new ha))) upd_same
theorem lam_ron (l : Lx T D p row L H) (h11 : σ[11]? = some (some x)) (k : NoSk T (Lx T D p row L) Q) :
    tLam (jTs T) (TTc K T.RoundError.C) (fun E => tCall (spRoundOf T) [] E (tCons (tC .non) (tCons (tVar 11) tNil))) σ H Q := by
  refine ⟨l.tb, fun H1 e1 t1 => ?_⟩
  have l1 := l.ext e1 t1
  exact ⟨_, h11, _, _, rfl, .inl ⟨.non, skErr_of (fun H' s => l1.same s) k⟩⟩
end
theorem ixN_n {n j : Nat} (h : j < n) : ixN n (j : Int) = some j := by
  unfold ixN
  rw [if_pos (by omega), if_pos (by omega)]
  rfl
theorem Lx.sub {T : Txt K mg} {D : Dw} {x : Addr} {row : List Int} {L L' : List (Addr × List Int)} {H : Hp} (l : Lx T D x row L H) (h : ∀ q ∈ L', q ∈ L) : Lx T D x row L' H := ⟨l.dr, l.sk, l.tb, fun q hq => l.al q (h q hq)⟩
theorem closedT_mem {ns : List Int} {x : Int} (h : x ∈ closedT ns) : x ∈ ns := by
  unfold closedT at h
  have h1 : x ∈ Wd.core ns := by
    by_cases hc : Wd.core ns = []
    · rw [hc, leastT_nil] at h
      cases h
    · obtain ⟨u, v, e1, e2⟩ := leastT_turn hc
      rw [e2] at h
      rw [e1]
      rcases List.mem_append.mp h with h | h
      · exact List.mem_append_right _ h
      · exact List.mem_append_left _ h
  have strip_mem : ∀ (n : Nat) (w : List Int), w.length ≤ n → ∀ y ∈ Wd.strip w, y ∈ w := by
    intro n
    induction n with
    | zero =>
      intro w hw y hy
      unfold Wd.strip at hy
      split at hy
      · omega
      · exact hy
    | succ n ih =>
      intro w hw y hy
      unfold Wd.strip at hy
      split at hy
      · have hl : ((w.drop 1).dropLast).length = w.length - 1 - 1 := by simp
        exact List.mem_of_mem_drop ((List.dropLast_sublist _).subset (ih _ (by omega) y hy))
      · exact hy
  exact Wd.mem_freed (strip_mem _ _ (Nat.le_refl _) x h1)
theorem law_body (T : Txt K mg) (TB : TabB base mg T.lc T.lP) (TBj : TabB base mg T.jc T.jP) {A : Around} {outer : List Env} {s : Shared} {H : Hp} {E : XK} {Q : VK} {a : Addr} {zs : List Int} (hA : A.guards = some []) (hr : Room 13 (A.deeper (PyProof.Rows.envOfC "law" (defScope s_law) s.heap.objs.size T.law.a (.ref T.lc))))
    (hs : SqL K H a (zs.map V.int)) (hl : zs.length ≤ 63) (tb : Tabs (jTs T) H) (k : ∀ H', Q (.bl true) H') :
    ∃ t, PSs (cxOf CX0 P w K mg base N_law "law" (defScope s_law) T.law.a (.ref T.lc) A outer s H E).nox (defBody s_law) t ∧ t { nx := fun _ H' => Q .non H', rt := Q } (L2.start N_law [.ref a]) H := by
  have nd := sc_law.nd
  have hg : (cxOf CX0 P w K mg base N_law "law" (defScope s_law) T.law.a (.ref T.lc) A outer s H E).nox.A.guards = some [] := hA
  have hmT : (T.lP, (("law" : Str) ++ ".<locals>.") ++ "<lambda>") ∈ jTs T := List.mem_cons_of_mem _ List.mem_cons_self
  have hu : ∀ p ∈ jTs T, p.1 = T.lP → p.2 = (("law" : Str) ++ ".<locals>.") ++ "<lambda>" := fun p hp hq => by
    rcases List.mem_cons.mp hp with e | hp
    · subst e
      exact absurd hq T.ne
    · have e := List.mem_singleton.mp hp
      subst e
      exact Eq.refl lQ
  refine ⟨_, (pss_cons (ps_set (i := 1) nd rfl (Or.inl rfl) (pe_call (ok_l_begun T) (hr.mono (by decide)) (by rfl) T.l_begun.g T.l_begun.k T.l_begun.b .nil pass0 (pa_cons (pv 0) pa_nil)))
    (pss_cons (ps_for PassesOwn.never rfl (pi_range1 rfl T.zrange (pa_cons (pe_op op_add pe_int (pe_callB (call_min2 rfl) (by rfl) T.zmin (by decide +kernel) (pa_cons (pe_callB call_len_seq (by rfl) T.zlen (by decide +kernel) (pa_cons (pv 0) pa_nil)) (pa_cons pe_int pa_nil)))) pa_nil)) (pg_name (i := 2) nd rfl (Or.inl rfl))
      (pss_cons (ps_set (i := 3) nd rfl (Or.inr rfl) (pe_make T.Skin.kk (ok_Skin_init T) (hr.mono (by decide)) (by rfl) T.Skin.g T.Skin.b .nil passF (pa_cons (pe_call (ok_l_row T) (hr.mono (by decide)) (by rfl) T.l_row.g T.l_row.k T.l_row.b .nil pass0 (pa_cons (pv 1) (pa_cons pe_int pa_nil))) pa_nil)))
      (pss_cons (ps_set (i := 4) nd rfl (Or.inl rfl) (pe_callB call_len_seq (by rfl) T.zlen (by decide +kernel) (pa_cons (pe_fld (pv 3) rfl) pa_nil)))
      (pss_cons (ps_set (i := 5) nd rfl (Or.inl rfl) (pe_call (ok_l_core T) (hr.mono (by decide)) (by rfl) T.l_core.g T.l_core.k T.l_core.b .nil pass0 (pa_cons (pv 1) (pa_cons (pv 4) (pa_cons (pe_call (ok_l_pick T) (hr.mono (by decide)) (by rfl) T.l_pick.g T.l_pick.k T.l_pick.b .nil pass0 (pa_cons (pv 1) (pa_cons (pe_lst (pa_cons pe_int (pa_cons pe_int (pa_cons pe_int (pa_cons pe_int (pa_cons pe_int (pa_cons pe_int (pa_cons pe_int (pa_cons pe_int (pa_cons (pe_op op_add pe_int (pe_call (ok_l_take T) (hr.mono (by decide)) (by rfl) T.l_take.g T.l_take.k T.l_take.b .nil pass0 (pa_cons (pv 1) (pa_cons pe_int pa_nil)))) pa_nil)))))))))) pa_nil))) pa_nil)))))
      (pss_cons (ps_set (i := 6) nd rfl (Or.inl rfl) (pe_call (ok_l_rounded T) (hr.mono (by decide)) (by rfl) T.l_rounded.g T.l_rounded.k T.l_rounded.b .nil pass0 (pa_cons (pv 5) pa_nil)))
      (pss_cons (ps_par (i := 7) (j := 8) rfl nd rfl rfl (by decide) rfl rfl (pa_cons (pe_call (ok_l_led T) (hr.mono (by decide)) (by rfl) T.l_led.g T.l_led.k T.l_led.b .nil pass0 (pa_cons (pv 1) (pa_cons (pv 4) (pa_cons (pv 5) (pa_cons pe_int pa_nil))))) (pa_cons (pe_callTy call_list_of (by rfl) T.zlist (by decide +kernel) (pa_cons (pv 5) pa_nil)) pa_nil)) rfl)
      (pss_cons (ps_asg (pe_call (ok_l_take T) (hr.mono (by decide)) (by rfl) T.l_take.g T.l_take.k T.l_take.b .nil pass0 (pa_cons (pv 1) (pa_cons (pv 4) pa_nil))) (pg_sub (pv 8) (pe_call (ok_l_take T) (hr.mono (by decide)) (by rfl) T.l_take.g T.l_take.k T.l_take.b .nil pass0 (pa_cons (pv 1) (pa_cons (pe_callB call_len_seq (by rfl) T.zlen (by decide +kernel) (pa_cons (pv 8) pa_nil)) pa_nil))) set_list (fun _ => rfl)))
      (pss_cons (ps_set (i := 9) nd rfl (Or.inl rfl) (pe_call (ok_l_led T) (hr.mono (by decide)) (by rfl) T.l_led.g T.l_led.k T.l_led.b .nil pass0 (pa_cons (pv 1) (pa_cons (pv 4) (pa_cons (pe_call (ok_l_pick T) (hr.mono (by decide)) (by rfl) T.l_pick.g T.l_pick.k T.l_pick.b .nil pass0 (pa_cons (pv 1) (pa_cons (pe_lst (pa_cons (pv 5) (pa_cons (pe_callTy call_tuple_of (by rfl) T.ztuple (by decide +kernel) (pa_cons (pv 8) pa_nil)) (pa_cons (pe_call (ok_l_undone T) (hr.mono (by decide)) (by rfl) T.l_undone.g T.l_undone.k T.l_undone.b .nil pass0 (pa_cons (pv 5) pa_nil)) (pa_cons (pe_revT (pv 5)) pa_nil))))) pa_nil))) (pa_cons pe_int pa_nil))))))
      (pss_cons (ps_if (pt_cmpR op_ne (pe_callB (call_show hg hr.units) (by rfl) T.zrepr (by decide +kernel) (pa_cons (pe_lst (pa_cons (pe_call (ok_round_of T) (hr.mono (by decide)) (by rfl) T.round_of.g T.round_of.k T.round_of.b .nil passF (pa_cons (pv 3) (pa_cons (pv 7) pa_nil))) (pa_cons (pe_callSw (ok_round_of T) (hr.mono (by decide)) (by rfl) T.round_of.g T.round_of.k (sw_round_of T) passF (pv 7) (pv 3)) pa_nil))) pa_nil)) (pe_callB (call_show hg hr.units) (by rfl) T.zrepr (by decide +kernel) (pa_cons (pe_lst (pa_cons (pv 6) (pa_cons (pv 6) pa_nil))) pa_nil)) (nomark _))
        (pss_one (ps_ret pe_bl))
        pss_nil)
      (pss_cons (ps_if (pt_cmpR op_ne (pe_callB (call_show hg hr.units) (by rfl) T.zrepr (by decide +kernel) (pa_cons (pe_call (ok_round_of T) (hr.mono (by decide)) (by rfl) T.round_of.g T.round_of.k T.round_of.b .nil passF (pa_cons (pv 3) (pa_cons (pv 9) pa_nil))) pa_nil)) (pe_callB (call_show hg hr.units) (by rfl) T.zrepr (by decide +kernel) (pa_cons (pe_call (ok_l_rounded T) (hr.mono (by decide)) (by rfl) T.l_rounded.g T.l_rounded.k T.l_rounded.b .nil pass0 (pa_cons (pv 9) pa_nil)) pa_nil)) (nomark _))
        (pss_one (ps_ret pe_bl))
        pss_nil)
      (pss_cons (ps_if (pt_cmpR op_ne (pe_cmpR (op_eqD hr.units) (pe_call (ok_round_of T) (hr.mono (by decide)) (by rfl) T.round_of.g T.round_of.k T.round_of.b .nil passF (pa_cons (pv 3) (pa_cons (pv 7) pa_nil))) (pe_call (ok_round_of T) (hr.mono (by decide)) (by rfl) T.round_of.g T.round_of.k T.round_of.b .nil passF (pa_cons (pv 3) (pa_cons (pv 9) pa_nil))) (nomark _)) (pe_call (ok_l_is_turn T) (hr.mono (by decide)) (by rfl) T.l_is_turn.g T.l_is_turn.k T.l_is_turn.b .nil pass0 (pa_cons (pe_call (ok_l_stripped T) (hr.mono (by decide)) (by rfl) T.l_stripped.g T.l_stripped.k T.l_stripped.b .nil pass0 (pa_cons (pv 7) pa_nil)) (pa_cons (pe_call (ok_l_stripped T) (hr.mono (by decide)) (by rfl) T.l_stripped.g T.l_stripped.k T.l_stripped.b .nil pass0 (pa_cons (pv 9) pa_nil)) pa_nil))) (nomark _))
        (pss_one (ps_ret pe_bl))
        pss_nil)
      (pss_cons (ps_set (i := 10) nd rfl (Or.inl rfl) (pe_slice sl_tupA (pv 7) po_none (po_some pe_int)))
      (pss_cons (ps_if (PW.pt (pw_or (pt_cmpR (op_neD hr.units) (pe_call (ok_round_of T) (hr.mono (by decide)) (by rfl) T.round_of.g T.round_of.k T.round_of.b .nil passF (pa_cons (pv 3) (pa_cons (pe_op op_catA (pv 10) (pe_call (ok_l_undone T) (hr.mono (by decide)) (by rfl) T.l_undone.g T.l_undone.k T.l_undone.b .nil pass0 (pa_cons (pv 10) pa_nil))) pa_nil))) (pe_tup pa_nil) (nomark _)) (pw_or1 (pt_cmpR (op_neD hr.units) (pe_call (ok_round_of T) (hr.mono (by decide)) (by rfl) T.round_of.g T.round_of.k T.round_of.b .nil passF (pa_cons (pv 3) (pa_cons (pe_tup pa_nil) pa_nil))) (pe_tup pa_nil) (nomark _)))))
        (pss_one (ps_ret pe_bl))
        pss_nil)
      (pss_cons (ps_if (PW.pt (pw_and (pt_cmpR (op_neD hr.units) (pv 6) (pe_tup pa_nil) (nomark _)) (pw_and1 (pt_not (pt_val (pe_callG (ok_l_judged T TBj) hg (hr.mono (by decide)) (by rfl) T.l_judged.g T.l_judged.k T.l_judged.b .nil pass0 (pa_cons (pv 1) (pa_cons (pv 3) (pa_cons (pv 6) pa_nil)))))))))
        (pss_one (ps_ret pe_bl))
        pss_nil)
      (pss_cons (ps_set (i := 11) nd rfl (Or.inr rfl) (pe_call (ok_l_pick T) (hr.mono (by decide)) (by rfl) T.l_pick.g T.l_pick.k T.l_pick.b .nil pass0 (pa_cons (pv 1) (pa_cons (pe_lst (pa_cons (pe_ifExp (pt_cmpR op_lt (pe_callB call_len_seq (by rfl) T.zlen (by decide +kernel) (pa_cons (pv 7) pa_nil)) pe_int (nomark _)) (pe_op op_catA (pv 7) (pe_tup (pa_cons (pv 4) pa_nil))) pe_non) (pa_cons (pe_callTy call_list_of (by rfl) T.zlist (by decide +kernel) (pa_cons (pv 7) pa_nil)) (pa_cons pe_non (pa_cons (pe_op op_repT (pe_tup (pa_cons pe_int pa_nil)) pe_int) (pa_cons (pe_tup (pa_cons pe_bl pa_nil)) pa_nil)))))) pa_nil))))
      (pss_cons (ps_if (pt_not (pt_val (pe_callB call_isA (by rfl) T.zisinstance (by decide +kernel) (pa_cons (pe_caught (k := 7) T (by rfl) TB rfl hmT hu (hr.mono (by decide)) (LamX.lamS_by (sc := defScope s_law) (by decide +kernel)) rfl (fun _ _ _ _ _ => rfl) (fun _ _ _ _ _ _ _ hr => lb_ro T hr rfl rfl (Or.inr (Or.inr rfl)) (Or.inr (Or.inr rfl)) (by rfl))) (pa_cons (pe_glob (v := .ref T.BadWord.C) rfl T.BadWord.g rfl) pa_nil)))))
        (pss_one (ps_ret pe_bl))
        pss_nil)
      (pss_one (ps_if (pt_not (pt_val (pe_call (ok_l_skin_error T) (hr.mono (by decide)) (by rfl) T.l_skin_error.g T.l_skin_error.k T.l_skin_error.b .nil pass0 (pa_cons (pe_caught (k := 7) T (by rfl) TB rfl hmT hu (hr.mono (by decide)) (LamX.lamS_by (sc := defScope s_law) (by decide +kernel)) rfl (fun _ _ _ _ _ => rfl) (fun _ _ _ _ _ _ _ hr => lb_ron T hr rfl (Or.inr (Or.inr rfl)) (by rfl))) pa_nil))))
        (pss_one (ps_ret pe_bl))
        pss_nil))))))))))))))))))
    (pss_one (ps_ret pe_bl)))), ?_⟩
  refine ⟨_, rfl, a, zs, rfl, hs, hl, fun D H1 d1 s1 => ?_⟩
  have tb1 := tb.ext s1
  have hs1 : SqL K H1 a (zs.map V.int) := Same.seq s1 hs
  refine ⟨_, rfl, a, _, rfl, .inl hs1, _, _, rfl, _, _, rfl, rfl, _, rfl, ?_, ?_, ?_⟩
  · split <;> omega
  · split <;> omega
  refine for_range (lo := 0) (fun i σ H' => ∃ v2 v3 v4 v5 v6 v7 v8 v9 v10 v11, σ = [some (.ref a), some (.ref D.d), v2, v3, v4, v5, v6, v7, v8, v9, v10, v11] ∧ DrOk D H' ∧ Tabs (jTs T) H') ⟨none, none, none, none, none, none, none, none, none, none, rfl, d1, tb1⟩ ?_ ?_
  · rintro i σ H2 hi ⟨v2, v3, v4, v5, v6, v7, v8, v9, v10, v11, rfl, d2, tb2⟩
    refine ⟨_, rfl, D, 6, rfl, by decide, by decide, d2, fun n row q H3 n1 n6 pm d3 k3 fq x dx hx hdx ne => ?_⟩
    have sA : Same H3 (upd (upd H3 dx (.own x)) x (.ins T.Skin.C dx [])) := (same_new hdx).trans (same_new (by rw [upd_ne ne.symm]; exact hx))
    refine ⟨x, q, dx, n, row, rfl, upd_same, FzT.same fq sA, n1, by omega, pm, fun st H4 i0 sk kp => ⟨rfl, ?_⟩⟩
    have s4 : Same H3 H4 := fun b o hb => kp b o (sA b o hb) (ne_of_none hb hx)
    have d4 : DrOk D H4 := d3.same s4
    have tb4 : Tabs (jTs T) H4 := (tabs_kp tb2 d2 k3).ext s4
    have pm2 := (turn_perm row st).trans pm
    generalize row.drop st ++ row.take st = row2 at sk pm2
    have hlen : row2.length = 2 * n := perm_len pm2
    clear kp sA s4 k3 fq hx hdx ne i0 tb2 d2 d3
    have l4 : Lx T D x row2 [] H4 := ⟨d4, sk, tb4, fun _ h => absurd h (by simp)⟩
    clear d4 sk tb4
    obtain ⟨dx2, r, q2, b1, b2, b3⟩ := id l4.sk
    refine ⟨_, rfl, x, T.Skin.C, dx2, _, _, rfl, b1, T.Skin.c, nRow T, skF_row .., r, _, rfl, .inr b2.sq, ?_⟩
    have he : ((row2.map V.int).length : Int) = (row2.length : Int) := by rw [List.length_map]
    rw [he]
    have rl : row2.length ≤ 12 ∧ row2.length % 2 = 0 := by omega
    have ev : (row2.length : Int) % 2 = 0 := by omega
    clear b1 b2 b3 he
    refine ⟨_, rfl, _, rfl, _, rfl, _, rfl, D, 60, rfl, by decide, by decide, l4.dr, fun z H5 z0 z1 d5 k5 => ⟨_, _, rfl, rfl, (by show 9 ≤ sizeLine; decide), fun l hl5 => ?_⟩⟩
    have l5 := l4.kp d5 k5
    refine ⟨D, l, _, rfl, .inl (SqL.of upd_same), (l5.dr.off hl5).2.1, by simp, (by show 9 < 1073741824; decide), l5.dr.new hl5, fun i y H6 hi d6 k6 => ?_⟩
    have l6 := (l5.new hl5).kp d6 k6
    obtain ⟨z, rfl, z0, z1⟩ : ∃ z' : Int, y = .int z' ∧ 1 ≤ z' ∧ z' ≤ 60 := by
      have hx := List.mem_of_getElem? hi
      simp only [List.mem_cons, List.not_mem_nil, or_false] at hx
      rcases hx with rfl | rfl | rfl | rfl | rfl | rfl | rfl | rfl | rfl
      all_goals exact ⟨_, rfl, by omega, by omega⟩
    clear l4 l5 k5 k6 hl5 hi d5 d6
    refine ⟨D, (row2.length : Int), z, rfl, by omega, by omega, ev, z0, z1, l6.dr, fun ns p5 H7 zn lt d7 k7 h7 => ?_⟩
    have ln : 1 ≤ ns.length ∧ ns.length ≤ 60 := by omega
    have l7 := (l6.kp d7 k7).add (SqT.of h7)
    clear l6 d7 k7 h7
    have lt12 : ∀ x ∈ ns, 0 ≤ x ∧ x < 12 := fun y hy => by have := lt y hy; omega
    refine ⟨_, rfl, p5, ns, rfl, l7.al _ List.mem_cons_self, by omega, lt12, fun p6 H8 s8 h8 => ?_⟩
    have l8 := (l7.same s8).add h8
    clear l7 s8 h8
    have g5 : SqT K H8 p5 (ns.map V.int) := l8.al _ (List.mem_cons_of_mem _ List.mem_cons_self)
    refine ⟨_, rfl, _, rfl, _, rfl, D, (row2.length : Int), p5, ns, rfl, by omega, by omega, ev, g5, by omega, lt, l8.dr, fun ms p7 H9 lm ltm tm d9 k9 h9 => ?_⟩
    have l9 := (l8.kp d9 k9).add (SqT.of h9)
    clear l8 d9 k9 h9 g5
    have m5 : (p5, ns) ∈ [(p7, ms), (p6, closedT ns), (p5, ns)] := List.mem_cons_of_mem _ (List.mem_cons_of_mem _ List.mem_cons_self)
    have m6 : (p6, closedT ns) ∈ [(p7, ms), (p6, closedT ns), (p5, ns)] := List.mem_cons_of_mem _ List.mem_cons_self
    have m7 : (p7, ms) ∈ [(p7, ms), (p6, closedT ns), (p5, ns)] := List.mem_cons_self
    refine ⟨_, rfl, p5, _, rfl, .inr (l9.al _ m5), fun p8 hp8 => ⟨_, _, rfl, ?_⟩⟩
    have l10 := l9.new (o := .lst (ns.map V.int)) hp8
    have o8 : Off D p8 := l9.dr.off hp8
    refine ⟨_, rfl, _, rfl, D, (row2.length : Int), rfl, by omega, by omega, l10.dr, fun v H11 v0 v1 d11 k11 => ?_⟩
    have l11 := l10.kp d11 k11
    have h8 := k11.at o8 (upd_same (H := H9) (a := p8) (o := .lst (ns.map V.int)))
    refine ⟨_, rfl, _, rfl, _, rfl, p8, _, rfl, .inl (SqL.of h8), D, _, rfl, ?_⟩
    rw [List.length_map]
    refine ⟨by omega, by omega, l11.dr, fun j H12 j0 j1 d12 k12 => ?_⟩
    obtain ⟨j, rfl⟩ := Int.eq_ofNat_of_zero_le j0
    have h8 := k12.at o8 h8
    refine ⟨p8, _, _, j, rfl, rfl, h8, ixN_n (by rw [List.length_map]; omega), ?_⟩
    have ej : (ns.map V.int).set j (.int v) = (ns.set j v).map V.int := by rw [List.map_set]
    rw [ej]
    have kk : Kp D H9 (upd H12 p8 (.lst ((ns.set j v).map V.int))) := fun b o hb n1 n2 => by
      rw [upd_ne (ne_of_none hb hp8)]
      exact k12 _ _ (k11 _ _ (by rw [upd_ne (ne_of_none hb hp8)]; exact hb) n1 n2) n1 n2
    have l13 := l9.kp (d12.put o8) kk
    have h13 : (upd H12 p8 (.lst ((ns.set j v).map V.int))) p8 = some (.lst ((ns.set j v).map V.int)) := upd_same
    have ltb : Lt (row2.length : Int) (ns.set j v) := fun y hy => by
      rcases List.mem_or_eq_of_mem_set hy with hy | rfl
      · exact lt y hy
      · exact ⟨v0, v1⟩
    have lnb : (ns.set j v).length ≤ 60 := by rw [List.length_set]; omega
    generalize ns.set j v = bs at l13 h13 ltb lnb
    generalize upd H12 p8 (.lst (bs.map V.int)) = H13 at l13 h13
    clear l9 l10 l11 d11 d12 k11 k12 hp8 h8 kk ej
    refine ⟨_, rfl, _, rfl, _, rfl, _, rfl, _, rfl, p8, _, rfl, .inl ⟨SqL.of h13, fun t8 ht8 => ?_⟩⟩
    have l14 := (l13.new (o := .tup (bs.map V.int)) ht8).add (p := t8) (ns := bs) (SqT.of upd_same)
    refine ⟨_, rfl, p5, ns, rfl, l14.al _ (List.mem_cons_of_mem _ m5), by omega, lt12, fun u H15 s15 h15 => ?_⟩
    have l15 := (l14.same s15).add (SqT.of h15)
    refine ⟨_, rfl, p5, _, rfl, l15.al _ (List.mem_cons_of_mem _ (List.mem_cons_of_mem _ m5)), fun rv hrv => ?_⟩
    have l16 := (l15.new (o := .tup (ns.map V.int).reverse) hrv).add (p := rv) (ns := ns.reverse) (by rw [List.map_reverse]; exact SqT.of upd_same)
    refine ⟨(by show 4 ≤ sizeLine; decide), fun l hl16 => ?_⟩
    refine ⟨D, l, _, rfl, .inl (SqL.of upd_same), (l16.dr.off hl16).2.1, by simp, (by show 4 < 1073741824; decide), l16.dr.new hl16, fun i y H17 hi d17 k17 => ?_⟩
    have l17 := (l16.new hl16).kp d17 k17
    obtain ⟨pc, cs, rfl, hc, lc, ltc⟩ : ∃ pc cs, y = .ref pc ∧ SqT K H17 pc (cs.map V.int) ∧ cs.length ≤ 200 ∧ Lt (row2.length : Int) cs := by
      have hx := List.mem_of_getElem? hi
      simp only [List.mem_cons, List.not_mem_nil, or_false] at hx
      rcases hx with rfl | rfl | rfl | rfl
      · exact ⟨p5, ns, rfl, l17.al (p5, ns) (by simp), by omega, lt⟩
      · exact ⟨t8, bs, rfl, l17.al (t8, bs) (by simp), by omega, ltb⟩
      · exact ⟨u, Wd.undo ns, rfl, l17.al (u, Wd.undo ns) (by simp), by rw [Wd.undo_len]; omega, lt.undo ev⟩
      · exact ⟨rv, ns.reverse, rfl, l17.al (rv, ns.reverse) (by simp), by rw [List.length_reverse]; omega, fun y hy => lt y (List.mem_reverse.mp hy)⟩
    refine ⟨D, (row2.length : Int), pc, cs, rfl, by omega, by omega, ev, hc, lc, ltc, l17.dr, fun os p9 H18 lo lto _ d18 k18 h18 => ?_⟩
    have l18 : Lx T D x row2 [(p9, os), (p7, ms), (p6, closedT ns)] H18 := ((l17.kp d18 k18).add (SqT.of h18)).sub (by
      intro q hq
      simp only [List.mem_cons, List.not_mem_nil, or_false] at hq ⊢
      rcases hq with rfl | rfl | rfl <;> simp)
    clear l13 l14 l15 l16 l17 h13 ht8 s15 h15 hrv hl16 hi d17 k17 hc d18 k18 h18 m5 m6 m7
    have ec : closedT ms = closedT ns := closedT_freed tm
    have m9 : (p9, os) ∈ [(p9, os), (p7, ms), (p6, closedT ns)] := List.mem_cons_self
    have m7 : (p7, ms) ∈ [(p9, os), (p7, ms), (p6, closedT ns)] := List.mem_cons_of_mem _ List.mem_cons_self
    have m6 : (p6, closedT ns) ∈ [(p9, os), (p7, ms), (p6, closedT ns)] := List.mem_cons_of_mem _ (List.mem_cons_of_mem _ List.mem_cons_self)
    have sz2 : (2 : Nat) ≤ sizeLine := by decide
    have lc200 : (closedT ns).length ≤ 200 := Nat.le_trans (closedT_len ns) (by omega)
    have lc12 : ∀ x ∈ closedT ns, 0 ≤ x ∧ x < 12 := fun y hy => lt12 y (closedT_mem hy)
    have lm12 : ∀ x ∈ ms, 0 ≤ x ∧ x < 12 := fun y hy => by have := ltm y hy; omega
    have lo12 : ∀ x ∈ os, 0 ≤ x ∧ x < 12 := fun y hy => by have := lto y hy; omega
    apply let_rest (J := fun H' => Lx T D x row2 [(p9, os), (p7, ms), (p6, closedT ns)] H')
    · intro rest
      refine ⟨_, rfl, _, rfl, _, _, rfl, .inr ⟨x, row2, rfl, l18.sk, rl, .inr ⟨p7, ms, rfl, l18.al _ m7, lm, ltm, fun f1 H19 s19 e1 => ?_⟩⟩⟩
      have l19 := l18.same s19
      refine ⟨_, rfl, _, rfl, _, _, rfl, .inr ⟨x, row2, rfl, l19.sk, rl, .inr ⟨p7, ms, rfl, l19.al _ m7, lm, ltm, fun f2 H20 s20 e2 => ⟨sz2, fun la hla => ?_⟩⟩⟩⟩
      rw [ec] at e1 e2
      have l20 := (l19.same s20).new (o := .lst [.ref f1, .ref f2]) hla
      refine nil_i (show2 (K := K) lc12 lc12 lc200 lc200 (SqL.of upd_same) (same_seqT (s20.trans (same_new hla)) e1) (same_seqT (same_new hla) e2) ?_)
      refine ⟨_, rfl, _, rfl, sz2, fun lb hlb => ?_⟩
      have l21 := l20.new (o := .lst [.ref p6, .ref p6]) hlb
      refine nil_i (show2 (K := K) lc12 lc12 lc200 lc200 (SqL.of upd_same) (l21.al _ m6) (l21.al _ m6) ⟨rfl, _, rfl, iteNS rfl ?_⟩)
      generalize upd (upd H20 la (.lst [.ref f1, .ref f2])) lb (.lst [.ref p6, .ref p6]) = H21 at l21
      exact rest H21 l21
    intro H19 l19
    clear l18
    have lq200 : (closedT os).length ≤ 200 := Nat.le_trans (closedT_len os) lo
    have lq12 : ∀ x ∈ closedT os, 0 ≤ x ∧ x < 12 := fun y hy => lo12 y (closedT_mem hy)
    refine ⟨_, rfl, _, rfl, _, _, rfl, .inr ⟨x, row2, rfl, l19.sk, rl, .inr ⟨p9, os, rfl, l19.al _ m9, lo, lto, fun f1 H20 s20 e1 => ?_⟩⟩⟩
    have l20 := l19.same s20
    refine nil_i (show1 (K := K) lq12 lq200 e1 ?_)
    refine ⟨_, rfl, p9, os, rfl, l20.al _ m9, by omega, lo12, fun f2 H21 s21 e2 => nil_i (show1 (K := K) lq12 lq200 e2 ⟨rfl, _, rfl, iteNS rfl ?_⟩)⟩
    have l21 := l20.same s21
    clear l19 l20 s20 s21 e1 e2
    refine ⟨_, rfl, _, rfl, _, _, rfl, .inr ⟨x, row2, rfl, l21.sk, rl, .inr ⟨p7, ms, rfl, l21.al _ m7, lm, ltm, fun f3 H22 s22 e3 => ?_⟩⟩⟩
    have l22 := l21.same s22
    refine ⟨_, rfl, _, rfl, _, _, rfl, .inr ⟨x, row2, rfl, l22.sk, rl, .inr ⟨p9, os, rfl, l22.al _ m9, lo, lto, fun f4 H23 s23 e4 => ?_⟩⟩⟩
    have l23 := l22.same s23
    refine ⟨.tuple ((closedT ms).map PyData.int), .tuple ((closedT os).map PyData.int), .tup (same_seqT s23 e3) (dpAll_ints _ _), .tup e4 (dpAll_ints _ _), shapedAll_ints _, shapedAll_ints _, ?_⟩
    have eq1 : PyData.eqv (.tuple ((closedT ms).map PyData.int)) (.tuple ((closedT os).map PyData.int)) = decide (closedT ms = closedT os) := eqv_ints (closedT ms) (closedT os)
    rw [eq1]
    refine ⟨_, rfl, p7, ms, rfl, l23.al _ m7, by omega, lm12, fun q1 H24 s24 h24 => ?_⟩
    have l24 := l23.same s24
    refine ⟨_, rfl, p9, os, rfl, l24.al _ m9, by omega, lo12, fun q2 H25 s25 h25 => ?_⟩
    have l25 := l24.same s25
    have lcm : (Wd.core ms).length ≤ 400 := Nat.le_trans (Nat.le_trans (strip_len _ _ (Nat.le_refl _)) (Wd.len_freed ms)) (by omega)
    have lco : (Wd.core os).length ≤ 400 := Nat.le_trans (Nat.le_trans (strip_len _ _ (Nat.le_refl _)) (Wd.len_freed os)) (by omega)
    refine ⟨q1, q2, Wd.core ms, Wd.core os, rfl, SqT.of (s25 _ _ h24), SqT.of h25, lcm, lco, fun r H26 s26 hr26 => ?_⟩
    have l26 := l25.same s26
    have er : r = decide (closedT ms = closedT os) := by
      rw [Bool.eq_iff_iff, hr26, decide_eq_true_iff]
      exact ⟨fun t => leastT_eq t, fun t => turn_of_leastT t⟩
    rw [er]
    refine ⟨rfl, _, rfl, iteNS rfl ?_⟩
    clear l21 l22 l23 l24 l25 s22 s23 s24 s25 s26 e3 e4 h24 h25 hr26 er
    refine ⟨_, rfl, noPart_i ⟨100, rfl, ?_⟩⟩
    refine slT_gen (K := K) (n := 100) (l26.al _ m7) fun p10 H27 s27 h27 => ?_
    rw [← List.map_take] at h27
    have lh : (ms.take 100).length ≤ 100 := by rw [List.length_take]; omega
    have lth := ltm.take 100
    have lh12 : ∀ x ∈ ms.take 100, 0 ≤ x ∧ x < 12 := fun y hy => lm12 y (List.mem_of_mem_take hy)
    have l27 : Lx T D x row2 [(p10, ms.take 100), (p9, os), (p7, ms), (p6, closedT ns)] H27 := (l26.same s27).add h27
    generalize ms.take 100 = hf at l27 lh lth lh12
    clear l26 s27 h27
    have n10 : (p10, hf) ∈ [(p10, hf), (p9, os), (p7, ms), (p6, closedT ns)] := List.mem_cons_self
    have n7 : (p7, ms) ∈ [(p10, hf), (p9, os), (p7, ms), (p6, closedT ns)] := List.mem_cons_of_mem _ m7
    have n6 : (p6, closedT ns) ∈ [(p10, hf), (p9, os), (p7, ms), (p6, closedT ns)] := List.mem_cons_of_mem _ m6
    have ez : closedT (hf ++ Wd.undo hf) = [] := by
      unfold closedT Wd.core
      rw [Wd.freed_undo, Wd.strip_short (by simp), leastT_nil]
    have ez0 : closedT ([] : List Int) = [] := by
      have := ez
      unfold closedT Wd.core
      have e0 : Wd.freed ([] : List Int) = [] := rfl
      rw [e0, Wd.strip_short (by simp), leastT_nil]
    refine ⟨_, rfl, _, rfl, _, rfl, p10, hf, rfl, l27.al _ n10, by omega, lh12, fun f5 H28 s28 e5 => ?_⟩
    have l28 := l27.same s28
    have e10 : SqT K H28 p10 (hf.map V.int) := l28.al _ n10
    refine catA_gen (K := K) e10 (SqT.of e5) ?_ fun f6 H29 s29 e6 => ?_
    · rw [List.length_map, List.length_map, Wd.undo_len]
      exact Nat.le_of_lt (small1000 (by omega))
    have l29 := l28.same s29
    rw [← List.map_append] at e6
    refine ⟨_, _, rfl, .inr ⟨x, row2, rfl, l29.sk, rl, .inr ⟨f6, hf ++ Wd.undo hf, rfl, e6, by rw [List.length_append, Wd.undo_len]; omega, lth.app (lth.undo ev), fun f7 H30 s30 e7 => ⟨(by show 0 ≤ sizeLine; decide), fun f8 h8 => ?_⟩⟩⟩⟩
    rw [ez] at e7
    have l30 := (l29.same s30).new (o := .tup []) h8
    refine ne_same (a := []) (same_seqT (same_new h8) e7) (SqT.of upd_same) ⟨_, rfl, iteF ?_⟩
    generalize upd H30 f8 (.tup []) = H31 at l30
    clear l27 l28 l29 s28 s29 s30 e5 e6 e7 h8 e10
    refine ⟨_, rfl, (by show 0 ≤ sizeLine; decide), fun f9 h9 => ?_⟩
    have l31 := l30.new (o := .tup []) h9
    refine ⟨_, _, rfl, .inr ⟨x, row2, rfl, l31.sk, rl, .inr ⟨f9, [], rfl, SqT.of upd_same, by decide, (fun _ h => absurd h (by simp)), fun g1 H32 s32 e1 => ⟨(by show 0 ≤ sizeLine; decide), fun g2 h2 => ?_⟩⟩⟩⟩
    rw [ez0] at e1
    have l32 := (l31.same s32).new (o := .tup []) h2
    refine ne_same (a := []) (same_seqT (same_new h2) e1) (SqT.of upd_same) ⟨_, rfl, iteF ?_⟩
    generalize upd H32 g2 (.tup []) = H33 at l32
    clear l30 l31 s32 e1 h2 h9
    apply let_rest (J := fun H' => Lx T D x row2 [(p10, hf), (p9, os), (p7, ms), (p6, closedT ns)] H')
    · intro rest
      refine ⟨_, rfl, (by show 0 ≤ sizeLine; decide), fun g3 h3 => ?_⟩
      have l34 := l32.new (o := .tup []) h3
      refine ⟨.tuple ((closedT ns).map PyData.int), .tuple [], .tup (l34.al _ n6) (dpAll_ints _ _), .tup (SqT.of upd_same) .nil, shapedAll_ints _, rfl, ?_⟩
      have eq2 : PyData.eqv (.tuple ((closedT ns).map PyData.int)) (.tuple []) = decide (closedT ns = []) := eqv_ints (closedT ns) []
      rw [eq2]
      generalize upd H33 g3 (.tup []) = H34 at l34
      refine ⟨_, rfl, ite2 (fun c => ?_) (fun _ => iteF (rest H34 l34))⟩
      have hne : closedT ns ≠ [] := by simpa using c
      refine ⟨_, rfl, _, rfl, _, rfl, D, x, row2, p6, closedT ns, rfl, l34.sk, by omega, rl.1, rl.2, l34.al _ n6, hne, Nat.le_trans (closedT_len ns) ln.2, (fun y hy => lt y (closedT_mem hy)), l34.dr, l34.tb, fun H35 d35 k35 t35 => ⟨_, rfl, iteF (rest H35 (l34.kpn d35 k35 t35))⟩⟩
    intro H34 l34
    clear l32
    have eh : hiE row2 = (row2.length : Int) - 1 := by
      unfold hiE
      omega
    have g7 : SqT K H34 p7 (ms.map V.int) := l34.al _ n7
    refine ⟨_, rfl, ?_⟩
    apply let_val (J := fun v H' => Lx T D x row2 [(p10, hf), (p9, os), (p7, ms), (p6, closedT ns)] H' ∧ BadW K D row2 H' v)
    · intro rest
      refine ⟨_, rfl, p7, _, rfl, .inr g7, _, _, rfl, rfl, _, rfl, ?_⟩
      rw [List.length_map]
      refine ite2 (fun c => ?_) (fun c => ?_)
      · have c' : ms.length < 200 := by
          have : (ms.length : Int) < 200 := by simpa using c
          omega
        refine ⟨_, rfl, _, rfl, (by show 1 ≤ sizeLine; decide), fun q1 hq1 => ?_⟩
        have l35 := l34.new (o := .tup [.int (row2.length : Int)]) hq1
        refine catA_gen (K := K) (same_seqT (same_new hq1) g7) (SqT.of upd_same) ?_ fun q2 H36 s36 e36 => ?_
        · rw [List.length_map]
          show _ + 1 ≤ sizeLine
          exact Nat.le_of_lt (small1000 (by omega))
        have l36 := l35.same s36
        have bw : BadW K D row2 H36 (.ref q2) := .tup e36 (by rw [List.length_append, List.length_map]; show _ + 1 < 1000; omega) (Itm.app Itm.ints (fun y hy => by rw [List.mem_singleton.mp hy]; exact .int _)) (by
          rw [List.all_append, Bool.and_eq_false_iff]
          refine .inr ?_
          rw [Bool.and_eq_false_iff]
          refine .inr ?_
          show (inB 0 (hiE row2) (.int (row2.length : Int)) && true) = false
          rw [eh]
          show ((decide (0 ≤ (row2.length : Int)) && decide ((row2.length : Int) ≤ (row2.length : Int) - 1)) && true) = false
          rw [decide_eq_false (show ¬ (row2.length : Int) ≤ (row2.length : Int) - 1 by omega), Bool.and_false]
          rfl)
        generalize V.ref q2 = v at bw
        exact rest v H36 ⟨l36, bw⟩
      · exact rest .non H34 ⟨l34, .non⟩
    intro v H35 ⟨l35, bw⟩
    have g7 : SqT K H35 p7 (ms.map V.int) := l35.al _ n7
    refine ⟨_, rfl, p7, _, rfl, .inr g7, fun l2 hl2 => ?_⟩
    have o2 : Off D l2 := l35.dr.off hl2
    have l36 := l35.new (o := .lst (ms.map V.int)) hl2
    have bw36 := bw.same (same_new (o := .lst (ms.map V.int)) hl2)
    have bl : BadW K D row2 (upd H35 l2 (.lst (ms.map V.int))) (.ref l2) := .lst upd_same o2
    generalize upd H35 l2 (.lst (ms.map V.int)) = H36 at l36 bw36 bl
    clear l34 l35 bw g7 hl2
    refine ⟨(by show 1 ≤ sizeLine; decide), fun t3 ht3 => ⟨t3, 201, _, rfl, rfl, SqT.of upd_same, by simp, by decide, by decide, by decide, fun t4 ht4 => ?_⟩⟩
    have s38 : Same H36 (upd (upd H36 t3 (.tup [.int 0])) t4 (.tup (List.replicate (201 : Int).toNat [V.int 0]).flatten)) := (same_new ht3).trans (same_new ht4)
    have bz : BadW K D row2 (upd (upd H36 t3 (.tup [.int 0])) t4 (.tup (List.replicate (201 : Int).toNat [V.int 0]).flatten)) (.ref t4) := .tup (SqT.of upd_same) (by decide) (fun y hy => by have := flat_mem hy; rw [List.mem_singleton.mp this]; exact .int _) (by
      rw [decide_eq_false (by decide), Bool.false_and])
    have l38 := l36.same s38
    have bw38 := bw36.same s38
    have bl38 := bl.same s38
    generalize upd (upd H36 t3 (.tup [.int 0])) t4 (.tup (List.replicate (201 : Int).toNat [V.int 0]).flatten) = H38 at l38 bw38 bl38 bz
    clear l36 bw36 bl ht3 ht4 s38
    refine ⟨(by show 1 ≤ sizeLine; decide), fun t5 ht5 => ⟨(by show 5 ≤ sizeLine; decide), fun l6 hl6 => ?_⟩⟩
    have bt : BadW K D row2 (upd H38 t5 (.tup [.bl true])) (.ref t5) := .tup (SqT.of upd_same) (by decide) (fun y hy => by rw [List.mem_singleton.mp hy]; exact .bl _) (by
      rw [Bool.and_eq_false_iff]
      exact .inr rfl)
    have s39 : Same H38 (upd H38 t5 (.tup [.bl true])) := same_new ht5
    have l39 := l38.same s39
    have bw39 := bw38.same s39
    have bl39 := bl38.same s39
    have bz39 := bz.same s39
    generalize upd H38 t5 (.tup [.bl true]) = H39 at l39 bw39 bl39 bz39 bt hl6
    have o6 := l39.dr.off hl6
    have s40 : Same H39 (upd H39 l6 (.lst [v, .ref l2, .non, .ref t4, .ref t5])) := same_new hl6
    have l40 := l39.same s40
    refine ⟨D, l6, _, rfl, .inl (SqL.of upd_same), o6.2.1, by simp, (by show 5 < 1073741824; decide), l40.dr, fun i y H41 hi d41 k41 => ?_⟩
    have l41 := l40.kp d41 k41
    have by41 : BadW K D row2 H41 y := by
      have hx := List.mem_of_getElem? hi
      simp only [List.mem_cons, List.not_mem_nil, or_false] at hx
      rcases hx with rfl | rfl | rfl | rfl | rfl
      · exact (bw39.same s40).kp l40.dr k41
      · exact (bl39.same s40).kp l40.dr k41
      · exact .non
      · exact (bz39.same s40).kp l40.dr k41
      · exact (bt.same s40).kp l40.dr k41
    have wv := by41.wv
    clear l38 l39 l40 bw38 bw39 bl38 bl39 bz bz39 bt s39 s40 hi d41 k41 ht5 hl6
    refine lam_ro (K := K) l41 rl wv rfl rfl fun a1 H42 l42 wv42 ha1 => ?_
    refine .inl ⟨a1, T.BadWord.C, none, _, _, true, rfl, ha1, .inl rfl, T.BadWord.ec, .own T.BadWord.C, T.kWW, _, rfl, iteF ?_⟩
    refine lam_ron (K := K) l42 rfl fun a2 d2 H43 l43 ha2 hd2 => ?_
    exact ⟨a2, d2, rfl, ha2, hd2, true, rfl, iteF ⟨_, _, _, _, _, _, _, _, _, _, rfl, l43.dr, l43.tb⟩⟩
  · rintro σ H2 ⟨v2, v3, v4, v5, v6, v7, v8, v9, v10, v11, rfl, d2, tb2⟩
    exact k H2
end
end Tt
set_option maxRecDepth 100000
set_option maxHeartbeats 4000000
namespace Tt
open PySem PySem.Spec PyProof.Rows L2
open LamX (TabB)
def firstH (a : Addr) (ts : List (Addr × Addr)) (u : Option HO) : Hp := fun b => if b = a then u else if b ∈ ts.map (·.2) then some (.tbl #[]) else none
theorem firstH_a {a : Addr} {ts : List (Addr × Addr)} {u : Option HO} : firstH a ts u a = u := if_pos rfl
theorem firstH_t {a t : Addr} {ts : List (Addr × Addr)} {u : Option HO} (n : t ≠ a) (h : t ∈ ts.map (·.2)) : firstH a ts u t = some (.tbl #[]) := (if_neg n).trans (if_pos h)
theorem firstH_o {a b : Addr} {ts : List (Addr × Addr)} {u : Option HO} (n : b ≠ a) (m : b ∉ ts.map (·.2)) : firstH a ts u b = none := (if_neg n).trans (if_neg m)
theorem law_run {P : Program} {w : World} {K : PySem.W.Frag} {mg mb : Str → Option Value} {fa a : Addr} {ts : List (Addr × Addr)} {s₁ : Shared} {vs : List Value} {ns : List Int}
    (KX : K.In s₁.heap) (hg : s₁.heap.Ns mainGlobals mg) (hb : s₁.heap.Ns builtinsNs mb) (hbb : ∀ x : Str, x ≠ "__name__" → mb x = bootBuiltins x) (lim : s₁.heap.NoLimit) (gens : s₁.gens = #[])
    (hts : ∀ p ∈ ts, s₁.heap.get? p.2 = some { cls := .none, data := .fields #[] } ∧ K.lookup p.2 = none ∧ PySem.W.CodeHd s₁.heap p.1 p.2)
    (bmain : ∃ (bm : Addr) (ob : Obj), mg "__builtins__" = some (.ref bm) ∧ bm ≠ builtinsNs ∧ s₁.heap.get? bm = some ob ∧ ob.cls = .type "module" ∧ ob.dict = some builtinsNs ∧ ob.data = .plain)
    (ha : s₁.heap.get? a = some { cls := .type "list", data := .seq vs.toArray }) (hi : IntsAre vs ns) (hl : ns.length ≤ sizeLine)
    (run : ∀ (base : Heap) (H : Hp), (∀ p ∈ ts, TabB base mg p.1 p.2) → Env0 P w K mg base callerA [] s₁ H → (∀ p ∈ ts, H p.2 = some (.tbl #[])) → SqL K H a (ns.map V.int) → codeAny (model P w) callerA (.call (.ref fa) ⟨[.ref a], []⟩) (CR CX0 [] P w H s₁ (fun v _ => v = .bl true) E0) s₁) :
    codeAny (model P w) callerA (.call (.ref fa) ⟨[.ref a], []⟩) (fun r s' => r = .ok (.ret (.bool true)) ∧ OldK s₁.heap s'.heap ∧ s'.os = s₁.os ∧ AllBare s'.gens) s₁ := by
  have rv := vals_ints hi
  have mem : ∀ {t : Addr}, t ∈ ts.map (·.2) → ∃ c, (c, t) ∈ ts := fun {t} h => by
    obtain ⟨⟨c, t'⟩, h1, rfl⟩ := List.mem_map.mp h
    exact ⟨c, h1⟩
  have nta : ∀ t ∈ ts.map (·.2), t ≠ a := fun t ht z => by
    obtain ⟨c, hc⟩ := mem ht
    have h1 := (hts _ hc).1
    rw [z, ha] at h1
    have z' : Data.seq vs.toArray _ = Data.fields #[] := congrArg Obj.data (Option.some.inj h1)
    cases z'
  obtain ⟨u, hu, hS, hK⟩ : ∃ u : Option HO, (u = none ∨ u = some (.frz { cls := .type "list", data := .seq vs.toArray } (.lst (ns.map V.int)))) ∧ SqL K (firstH a ts u) a (ns.map V.int) ∧ (u ≠ none → K.lookup a = none) := by
    cases hk : K.lookup a with
    | none => exact ⟨_, .inr rfl, .inl (.inr ⟨_, firstH_a⟩), fun _ => rfl⟩
    | some o =>
      have e := KX a o hk
      rw [ha] at e
      cases e
      exact ⟨none, .inl rfl, .inr ⟨_, vs.toArray, _, hk, rfl, rfl, rfl, by rw [List.size_toArray, hi.length]; exact hl, by simpa using rv⟩, fun z => absurd rfl z⟩
  have hT : ∀ t ∈ ts.map (·.2), firstH a ts u t = some (.tbl #[]) := fun t ht => firstH_t (nta t ht) ht
  have look : ∀ b x, firstH a ts u b = some x → (b = a ∧ u = some x) ∨ (b ∈ ts.map (·.2) ∧ x = .tbl #[]) := fun b x e => by
    by_cases h1 : b = a
    · subst h1
      exact .inl ⟨rfl, firstH_a.symm.trans e⟩
    · by_cases h2 : b ∈ ts.map (·.2)
      · rw [hT b h2] at e
        exact .inr ⟨h2, (Option.some.inj e).symm⟩
      · rw [firstH_o h1 h2] at e
        cases e
  generalize hH : firstH a ts u = H at hS hT look
  have free : ∀ {b : Addr} {o : Obj}, s₁.heap.get? b = some o → (∀ vs n, o.data ≠ .seq vs n) → o.data ≠ .fields #[] → H b = none := fun {b o} e h1 h2 => by
    cases q : H b with
    | none => rfl
    | some x =>
      rcases look b x q with ⟨rfl, _⟩ | ⟨hb, _⟩
      · rw [ha] at e
        cases e
        exact (h1 _ _ rfl).elim
      · obtain ⟨c, hc⟩ := mem hb
        rw [(hts _ hc).1] at e
        cases e
        exact (h2 rfl).elim
  have dict : ∀ {b : Addr} {m : Str → Option Value}, s₁.heap.Ns b m → (hidT s₁.heap H).Ns b m := fun {b m} ⟨o, es, ep, e, d, r⟩ =>
    ⟨o, es, ep, hidT_get e (free e (fun _ _ z => by rw [d] at z; cases z) (fun z => by rw [d] at z; cases z)), d, r⟩
  have kin : K.In (hidT s₁.heap H) := fun b o e => hidT_get (KX b o e) (by
    cases q : H b with
    | none => rfl
    | some x =>
      rcases look b x q with ⟨rfl, hx⟩ | ⟨hb, _⟩
      · rw [hK (by rw [hx]; simp)] at e
        cases e
      · obtain ⟨c, hc⟩ := mem hb
        rw [(hts _ hc).2.1] at e
        cases e)
  have mod : L2.Mod K mg (hidT s₁.heap H) := ⟨kin, dict hg, ⟨mb, dict hb, hbb⟩, let ⟨mc, h1, h2⟩ := lim; ⟨mc, dict h1, h2⟩⟩
  have TB : ∀ p ∈ ts, TabB (hidT s₁.heap H) mg p.1 p.2 := fun p hp => by
    obtain ⟨ht, nt, C⟩ := hts p hp
    refine ⟨?_, ?_, fun z => ?_⟩
    · obtain ⟨o, us, file, tf, flags, tg, inF, text, tt, e1, r1, r2, r3, rest⟩ := C
      refine ⟨o, us, file, tf, flags, tg, inF, text, tt, hidT_get e1 (free e1 (fun _ _ z => by rw [r2] at z; cases z) fun z => ?_), r1, r2, r3, rest⟩
      rw [r2] at z
      cases z
      simp at r3
    · obtain ⟨bm, ob, b1, b2, b3, b4, b5, b6⟩ := bmain
      refine ⟨bm, ob, b1, b2, fun q => ?_, fun q => ?_, hidT_get b3 (free b3 (fun _ _ z => by rw [b6] at z; cases z) (fun z => by rw [b6] at z; cases z)), b4, b5, b6⟩
      · obtain ⟨o, es, ep, e, hd, _⟩ := hg
        rw [q, e] at b3
        cases b3
        rw [hd] at b6
        cases b6
      · rw [q, ht] at b3
        cases b3
        cases b6
    · obtain ⟨o, es, ep, e, hd, _⟩ := hg
      rw [z, ht] at e
      cases e
      cases hd
  have hok : HOk P w H s₁.heap := fun b x e => by
    rcases look b x e with ⟨rfl, hx⟩ | ⟨hb, rfl⟩
    · rcases hu with rfl | rfl
      · cases hx
      · cases hx
        exact ⟨ha, by rw [List.length_map]; exact hl, vs, _, rv, ha⟩
    · obtain ⟨c, hc⟩ := mem hb
      exact (hts _ hc).1
  have e0 : Env0 P w K mg (hidT s₁.heap H) callerA [] s₁ H := ⟨rfl, mod, fun b o e => of_hidT e, Nat.le_of_eq (hidT_size _ _), trivial, fun b hb => absurd (show b ∈ ([] : List Addr) from hb) (by simp), hok, .of_eq gens⟩
  refine codeAny_mono (run _ H TB e0 (fun p hp => hT _ (List.mem_map_of_mem hp)) hS) fun r s' h => ?_
  match r, h with
  | .error e, h => exact (show False from h).elim
  | .ok .next, h => exact (show False from h).elim
  | .ok .brk, h => exact (show False from h).elim
  | .ok .cont, h => exact (show False from h).elim
  | .ok (.ret v'), h =>
    obtain ⟨v, H', os, bare, un, hok', rr, rfl⟩ := h
    obtain rfl : v' = Value.bool true := rr
    have ends : ∀ t ∈ ts.map (·.2), ∃ more : Array Value, s'.heap.get? t = some { cls := .none, data := .fields more } := fun t ht => by
      obtain ⟨more, e3⟩ := un.tbls t #[] (hT t ht)
      have e4 : s'.heap.get? t = some { cls := .none, data := .fields (#[] ++ more) } := hok' t _ e3
      rw [Array.empty_append] at e4
      exact ⟨more, e4⟩
    have stay : ∀ b o, b ∉ ts.map (·.2) → s₁.heap.get? b = some o → s'.heap.get? b = some o := fun b o nb e => by
      cases q : H b with
      | none => exact un.keep b o e q (fun z => absurd (show b ∈ ([] : List Addr) from z) (by simp)) (by simp)
      | some x =>
        rcases look b x q with ⟨rfl, hx⟩ | ⟨hb, _⟩
        · rcases hu with rfl | rfl
          · cases hx
          · cases hx
            obtain ⟨e1, _⟩ := hok b _ q
            obtain ⟨e2, _⟩ := hok' b _ (un.frzs b _ _ q)
            rw [e] at e1
            cases e1
            exact e2
        · exact absurd hb nb
    refine ⟨rfl, ⟨fun b o e => ?_, fun b o e => ?_⟩, os, bare⟩
    · by_cases nb : b ∈ ts.map (·.2)
      · obtain ⟨c, hc⟩ := mem nb
        obtain ⟨ht, nt, C⟩ := hts _ hc
        obtain ⟨more, e4⟩ := ends b nb
        have ht' : s₁.heap.get? b = some { cls := .none, data := .fields #[] } := ht
        rw [ht'] at e
        cases e
        exact .inr (.inl ⟨(C.tab ht).isCodeTable, rfl, #[], more, rfl, by rw [Array.empty_append]; exact e4⟩)
      · exact .inl (stay b o nb e)
    · by_cases nb : b ∈ ts.map (·.2)
      · obtain ⟨more, e4⟩ := ends b nb
        exact ⟨_, e4⟩
      · exact ⟨o, stay b o nb e⟩
end Tt
set_option maxRecDepth 100000
set_option maxHeartbeats 4000000
namespace Tt
open PySem PySem.Spec PyProof.Rows L2
open LamX (TabB)
theorem all_mk {K : PySem.W.Frag} {h : Heap} {mg : Str → Option Value} {fa jc jP lc lP : Addr} (X : K.In h) (G : h.Ns mainGlobals mg) (hfa : mg "law" = some (.ref fa))
    {C_RoundError : Addr}
    {C_BadRound : Addr}
    {C_BadSkin : Addr}
    {od_BadSkin an_BadSkin : Option Addr} {sl_BadSkin : Array (Option Value)} {oc_BadSkin kV_BadSkin dc_BadSkin pm_BadSkin cd_BadSkin ct_BadSkin : Value} {f_BadSkin : Addr}
    {nm_BadSkin qn_BadSkin : Str} {N_BadSkin : Addr} {bs_BadSkin bm_BadSkin : List Value} {sn_BadSkin : List Str} {sb_BadSkin : List Value} {ab_BadSkin : Bool} {co_BadSkin : Option Bool} {dd_BadSkin : Option Addr} {m0_BadSkin m1_BadSkin m2_BadSkin m3_BadSkin m5_BadSkin : Option Value}
    {C_BadWord : Addr}
    {od_is_number an_is_number : Option Addr} {sl_is_number : Array (Option Value)} {oc_is_number kV_is_number dc_is_number pm_is_number cd_is_number ct_is_number : Value} {f_is_number : Addr}
    {od_is_within an_is_within : Option Addr} {sl_is_within : Array (Option Value)} {oc_is_within kV_is_within dc_is_within pm_is_within cd_is_within ct_is_within : Value} {f_is_within : Addr}
    {od_is_tuple an_is_tuple : Option Addr} {sl_is_tuple : Array (Option Value)} {oc_is_tuple kV_is_tuple dc_is_tuple pm_is_tuple cd_is_tuple ct_is_tuple : Value} {f_is_tuple : Addr}
    {od_is_list an_is_list : Option Addr} {sl_is_list : Array (Option Value)} {oc_is_list kV_is_list dc_is_list pm_is_list cd_is_list ct_is_list : Value} {f_is_list : Addr}
    {od_is_row an_is_row : Option Addr} {sl_is_row : Array (Option Value)} {oc_is_row kV_is_row dc_is_row pm_is_row cd_is_row ct_is_row : Value} {f_is_row : Addr}
    {C_Skin : Addr}
    {od_Skin an_Skin : Option Addr} {sl_Skin : Array (Option Value)} {oc_Skin kV_Skin dc_Skin pm_Skin cd_Skin ct_Skin : Value} {f_Skin : Addr}
    {od_check_skin an_check_skin : Option Addr} {sl_check_skin : Array (Option Value)} {oc_check_skin kV_check_skin dc_check_skin pm_check_skin cd_check_skin ct_check_skin : Value} {f_check_skin : Addr}
    {od_is_end an_is_end : Option Addr} {sl_is_end : Array (Option Value)} {oc_is_end kV_is_end dc_is_end pm_is_end cd_is_end ct_is_end : Value} {f_is_end : Addr}
    {od_least_turn an_least_turn : Option Addr} {sl_least_turn : Array (Option Value)} {oc_least_turn kV_least_turn dc_least_turn pm_least_turn cd_least_turn ct_least_turn : Value} {f_least_turn : Addr}
    {od_is_any_word an_is_any_word : Option Addr} {sl_is_any_word : Array (Option Value)} {oc_is_any_word kV_is_any_word dc_is_any_word pm_is_any_word cd_is_any_word ct_is_any_word : Value} {f_is_any_word : Addr}
    {od_has_letters an_has_letters : Option Addr} {sl_has_letters : Array (Option Value)} {oc_has_letters kV_has_letters dc_has_letters pm_has_letters cd_has_letters ct_has_letters : Value} {f_has_letters : Addr}
    {od_check_word an_check_word : Option Addr} {sl_check_word : Array (Option Value)} {oc_check_word kV_check_word dc_check_word pm_check_word cd_check_word ct_check_word : Value} {f_check_word : Addr}
    {od_cut_free an_cut_free : Option Addr} {sl_cut_free : Array (Option Value)} {oc_cut_free kV_cut_free dc_cut_free pm_cut_free cd_cut_free ct_cut_free : Value} {f_cut_free : Addr}
    {od_gone_back an_gone_back : Option Addr} {sl_gone_back : Array (Option Value)} {oc_gone_back kV_gone_back dc_gone_back pm_gone_back cd_gone_back ct_gone_back : Value} {f_gone_back : Addr}
    {od_closed_letters an_closed_letters : Option Addr} {sl_closed_letters : Array (Option Value)} {oc_closed_letters kV_closed_letters dc_closed_letters pm_closed_letters cd_closed_letters ct_closed_letters : Value} {f_closed_letters : Addr}
    {od_closed_up an_closed_up : Option Addr} {sl_closed_up : Array (Option Value)} {oc_closed_up kV_closed_up dc_closed_up pm_closed_up cd_closed_up ct_closed_up : Value} {f_closed_up : Addr}
    {od_round_of an_round_of : Option Addr} {sl_round_of : Array (Option Value)} {oc_round_of kV_round_of dc_round_of pm_round_of cd_round_of ct_round_of : Value} {f_round_of : Addr}
    {od_is_fit_round an_is_fit_round : Option Addr} {sl_is_fit_round : Array (Option Value)} {oc_is_fit_round kV_is_fit_round dc_is_fit_round pm_is_fit_round cd_is_fit_round ct_is_fit_round : Value} {f_is_fit_round : Addr}
    {od_is_round an_is_round : Option Addr} {sl_is_round : Array (Option Value)} {oc_is_round kV_is_round dc_is_round pm_is_round cd_is_round ct_is_round : Value} {f_is_round : Addr}
    {od_check_round an_check_round : Option Addr} {sl_check_round : Array (Option Value)} {oc_check_round kV_check_round dc_check_round pm_check_round cd_check_round ct_check_round : Value} {f_check_round : Addr}
    {od_gone_round_back an_gone_round_back : Option Addr} {sl_gone_round_back : Array (Option Value)} {oc_gone_round_back kV_gone_round_back dc_gone_round_back pm_gone_round_back cd_gone_round_back ct_gone_round_back : Value} {f_gone_round_back : Addr}
    {od_turned_about an_turned_about : Option Addr} {sl_turned_about : Array (Option Value)} {oc_turned_about kV_turned_about dc_turned_about pm_turned_about cd_turned_about ct_turned_about : Value} {f_turned_about : Addr}
    {od_l_begun an_l_begun : Option Addr} {sl_l_begun : Array (Option Value)} {oc_l_begun kV_l_begun dc_l_begun pm_l_begun cd_l_begun ct_l_begun : Value} {f_l_begun : Addr}
    {od_l_mixed an_l_mixed : Option Addr} {sl_l_mixed : Array (Option Value)} {oc_l_mixed kV_l_mixed dc_l_mixed pm_l_mixed cd_l_mixed ct_l_mixed : Value} {f_l_mixed : Addr}
    {od_l_take an_l_take : Option Addr} {sl_l_take : Array (Option Value)} {oc_l_take kV_l_take dc_l_take pm_l_take cd_l_take ct_l_take : Value} {f_l_take : Addr}
    {od_l_pick an_l_pick : Option Addr} {sl_l_pick : Array (Option Value)} {oc_l_pick kV_l_pick dc_l_pick pm_l_pick cd_l_pick ct_l_pick : Value} {f_l_pick : Addr}
    {od_l_shuffled an_l_shuffled : Option Addr} {sl_l_shuffled : Array (Option Value)} {oc_l_shuffled kV_l_shuffled dc_l_shuffled pm_l_shuffled cd_l_shuffled ct_l_shuffled : Value} {f_l_shuffled : Addr}
    {od_l_caught an_l_caught : Option Addr} {sl_l_caught : Array (Option Value)} {oc_l_caught kV_l_caught dc_l_caught pm_l_caught cd_l_caught ct_l_caught : Value} {f_l_caught : Addr}
    {od_l_skin_error an_l_skin_error : Option Addr} {sl_l_skin_error : Array (Option Value)} {oc_l_skin_error kV_l_skin_error dc_l_skin_error pm_l_skin_error cd_l_skin_error ct_l_skin_error : Value} {f_l_skin_error : Addr}
    {od_l_mate an_l_mate : Option Addr} {sl_l_mate : Array (Option Value)} {oc_l_mate kV_l_mate dc_l_mate pm_l_mate cd_l_mate ct_l_mate : Value} {f_l_mate : Addr}
    {od_l_row an_l_row : Option Addr} {sl_l_row : Array (Option Value)} {oc_l_row kV_l_row dc_l_row pm_l_row cd_l_row ct_l_row : Value} {f_l_row : Addr}
    {od_l_least_turn an_l_least_turn : Option Addr} {sl_l_least_turn : Array (Option Value)} {oc_l_least_turn kV_l_least_turn dc_l_least_turn pm_l_least_turn cd_l_least_turn ct_l_least_turn : Value} {f_l_least_turn : Addr}
    {od_l_freed an_l_freed : Option Addr} {sl_l_freed : Array (Option Value)} {oc_l_freed kV_l_freed dc_l_freed pm_l_freed cd_l_freed ct_l_freed : Value} {f_l_freed : Addr}
    {od_l_undone an_l_undone : Option Addr} {sl_l_undone : Array (Option Value)} {oc_l_undone kV_l_undone dc_l_undone pm_l_undone cd_l_undone ct_l_undone : Value} {f_l_undone : Addr}
    {od_l_rounded an_l_rounded : Option Addr} {sl_l_rounded : Array (Option Value)} {oc_l_rounded kV_l_rounded dc_l_rounded pm_l_rounded cd_l_rounded ct_l_rounded : Value} {f_l_rounded : Addr}
    {od_l_core an_l_core : Option Addr} {sl_l_core : Array (Option Value)} {oc_l_core kV_l_core dc_l_core pm_l_core cd_l_core ct_l_core : Value} {f_l_core : Addr}
    {od_l_is_turn an_l_is_turn : Option Addr} {sl_l_is_turn : Array (Option Value)} {oc_l_is_turn kV_l_is_turn dc_l_is_turn pm_l_is_turn cd_l_is_turn ct_l_is_turn : Value} {f_l_is_turn : Addr}
    {od_l_stripped an_l_stripped : Option Addr} {sl_l_stripped : Array (Option Value)} {oc_l_stripped kV_l_stripped dc_l_stripped pm_l_stripped cd_l_stripped ct_l_stripped : Value} {f_l_stripped : Addr}
    {od_l_led an_l_led : Option Addr} {sl_l_led : Array (Option Value)} {oc_l_led kV_l_led dc_l_led pm_l_led cd_l_led ct_l_led : Value} {f_l_led : Addr}
    {od_l_is_loop an_l_is_loop : Option Addr} {sl_l_is_loop : Array (Option Value)} {oc_l_is_loop kV_l_is_loop dc_l_is_loop pm_l_is_loop cd_l_is_loop ct_l_is_loop : Value} {f_l_is_loop : Addr}
    {od_l_near an_l_near : Option Addr} {sl_l_near : Array (Option Value)} {oc_l_near kV_l_near dc_l_near pm_l_near cd_l_near ct_l_near : Value} {f_l_near : Addr}
    {od_l_judged an_l_judged : Option Addr} {sl_l_judged : Array (Option Value)} {oc_l_judged kV_l_judged dc_l_judged pm_l_judged ct_l_judged : Value} {f_l_judged : Addr}
    {od_law an_law : Option Addr} {sl_law : Array (Option Value)} {oc_law kV_law dc_law pm_law ct_law : Value} {f_law : Addr}
    {tkMOST_LETTERS : Tok}
    {tkMOST_IN_ROUND : Tok}
    (hn0 : PySem.W.specialIn K (.builtin "object.__class__") "__get__" = some (some (.builtin "getset_descriptor.__get__")))
    (ht0 : PySem.W.takesIn K (.builtin "object.__class__") = some true)
    (a_RoundError : PySem.W.nsIn K mainGlobals "RoundError" = some (some (.ref C_RoundError)))
    (k_RoundError : PySem.W.keepIn K (.ref C_RoundError) = true)
    (q_RoundError : PySem.W.excIn K C_RoundError [.type "ValueError", .type "Exception", .type "BaseException", .type "object"] "ValueError.__new__" = true)
    (ty_RoundError : PySem.W.typeIn K (.ref C_RoundError) = some (.type "type"))
    (ga_RoundError : PySem.W.findIn K (.ref C_RoundError) "__getattribute__" = some (some (.builtin "BaseException.__getattribute__")))
    (gg_RoundError : PySem.W.findIn K (.ref C_RoundError) "__getattr__" = some none)
    (ex_RoundError : PySem.W.subIn K (.ref C_RoundError) (.type "BaseException") = some true)
    (hd_RoundError : PySem.W.hasDictIn K C_RoundError = true)
    (ca_RoundError : PySem.W.findIn K (.ref C_RoundError) "__class__" = some (some (.builtin "object.__class__")))
    (mo_RoundError : PySem.W.mroIn K C_RoundError (.type "object") = some true)
    (a_BadRound : PySem.W.nsIn K mainGlobals "BadRound" = some (some (.ref C_BadRound)))
    (k_BadRound : PySem.W.keepIn K (.ref C_BadRound) = true)
    (q_BadRound : PySem.W.excIn K C_BadRound [.type "ValueError", .type "Exception", .type "BaseException", .type "object"] "ValueError.__new__" = true)
    (ty_BadRound : PySem.W.typeIn K (.ref C_BadRound) = some (.type "type"))
    (ga_BadRound : PySem.W.findIn K (.ref C_BadRound) "__getattribute__" = some (some (.builtin "BaseException.__getattribute__")))
    (gg_BadRound : PySem.W.findIn K (.ref C_BadRound) "__getattr__" = some none)
    (ex_BadRound : PySem.W.subIn K (.ref C_BadRound) (.type "BaseException") = some true)
    (hd_BadRound : PySem.W.hasDictIn K C_BadRound = true)
    (ca_BadRound : PySem.W.findIn K (.ref C_BadRound) "__class__" = some (some (.builtin "object.__class__")))
    (mo_BadRound : PySem.W.mroIn K C_BadRound (.type "object") = some true)
    (a_BadSkin : PySem.W.nsIn K mainGlobals "BadSkin" = some (some (.ref C_BadSkin)))
    (x_BadSkin : K.lookup C_BadSkin = some (excClassObj nm_BadSkin qn_BadSkin C_BadSkin N_BadSkin bs_BadSkin bm_BadSkin true sn_BadSkin sb_BadSkin ab_BadSkin co_BadSkin dd_BadSkin m0_BadSkin m1_BadSkin m2_BadSkin m3_BadSkin m5_BadSkin "ValueError.__new__"))
    (rv_BadSkin : PySem.HandSPX.refsVE bm_BadSkin = true)
    (sa_BadSkin : PySem.W.findIn K (.ref C_BadSkin) "__setattr__" = some (some (.builtin "object.__setattr__")))
    (ty_BadSkin : PySem.W.typeIn K (.ref C_BadSkin) = some (.type "type"))
    (kc_BadSkin : PySem.W.keepIn K (.ref C_BadSkin) = true)
    (i_BadSkin : PySem.W.findIn K (.ref C_BadSkin) "__init__" = some (some (.ref f_BadSkin)))
    (t_BadSkin : PySem.W.typeIn K (.ref f_BadSkin) = some (.type "function"))
    (l_BadSkin : K.lookup f_BadSkin = some ⟨oc_BadSkin, od_BadSkin, .func (PySem.W.fnOf "__init__" "BadSkin.__init__" (defArgs s_BadSkin_init) (defBody s_BadSkin_init) (defScope s_BadSkin_init) .none kV_BadSkin dc_BadSkin pm_BadSkin an_BadSkin cd_BadSkin ct_BadSkin), sl_BadSkin⟩)
    (c_BadSkin : PySem.W.codeIn K cd_BadSkin "BadSkin.__init__" = true)
    (k_BadSkin : PySem.W.keepIn K (.ref f_BadSkin) = true)
    (nf_BadSkin : PySem.W.findIn K (.ref C_BadSkin) "part" = some none)
    (ga_BadSkin : PySem.W.findIn K (.ref C_BadSkin) "__getattribute__" = some (some (.builtin "BaseException.__getattribute__")))
    (gg_BadSkin : PySem.W.findIn K (.ref C_BadSkin) "__getattr__" = some none)
    (ex_BadSkin : PySem.W.subIn K (.ref C_BadSkin) (.type "BaseException") = some true)
    (hd_BadSkin : PySem.W.hasDictIn K C_BadSkin = true)
    (ca_BadSkin : PySem.W.findIn K (.ref C_BadSkin) "__class__" = some (some (.builtin "object.__class__")))
    (mo_BadSkin : PySem.W.mroIn K C_BadSkin (.type "object") = some true)
    (a_BadWord : PySem.W.nsIn K mainGlobals "BadWord" = some (some (.ref C_BadWord)))
    (k_BadWord : PySem.W.keepIn K (.ref C_BadWord) = true)
    (q_BadWord : PySem.W.excIn K C_BadWord [.type "ValueError", .type "Exception", .type "BaseException", .type "object"] "ValueError.__new__" = true)
    (ty_BadWord : PySem.W.typeIn K (.ref C_BadWord) = some (.type "type"))
    (ga_BadWord : PySem.W.findIn K (.ref C_BadWord) "__getattribute__" = some (some (.builtin "BaseException.__getattribute__")))
    (gg_BadWord : PySem.W.findIn K (.ref C_BadWord) "__getattr__" = some none)
    (ex_BadWord : PySem.W.subIn K (.ref C_BadWord) (.type "BaseException") = some true)
    (hd_BadWord : PySem.W.hasDictIn K C_BadWord = true)
    (ca_BadWord : PySem.W.findIn K (.ref C_BadWord) "__class__" = some (some (.builtin "object.__class__")))
    (mo_BadWord : PySem.W.mroIn K C_BadWord (.type "object") = some true)
    (a_is_number : PySem.W.nsIn K mainGlobals "is_number" = some (some (.ref f_is_number)))
    (l_is_number : K.lookup f_is_number = some ⟨oc_is_number, od_is_number, .func (PySem.W.fnOf "is_number" "is_number" (defArgs s_is_number) (defBody s_is_number) (defScope s_is_number) .none kV_is_number dc_is_number pm_is_number an_is_number cd_is_number ct_is_number), sl_is_number⟩)
    (c_is_number : PySem.W.codeIn K cd_is_number "is_number" = true)
    (k_is_number : PySem.W.keepIn K (.ref f_is_number) = true)
    (a_is_within : PySem.W.nsIn K mainGlobals "is_within" = some (some (.ref f_is_within)))
    (l_is_within : K.lookup f_is_within = some ⟨oc_is_within, od_is_within, .func (PySem.W.fnOf "is_within" "is_within" (defArgs s_is_within) (defBody s_is_within) (defScope s_is_within) .none kV_is_within dc_is_within pm_is_within an_is_within cd_is_within ct_is_within), sl_is_within⟩)
    (c_is_within : PySem.W.codeIn K cd_is_within "is_within" = true)
    (k_is_within : PySem.W.keepIn K (.ref f_is_within) = true)
    (a_is_tuple : PySem.W.nsIn K mainGlobals "is_tuple" = some (some (.ref f_is_tuple)))
    (l_is_tuple : K.lookup f_is_tuple = some ⟨oc_is_tuple, od_is_tuple, .func (PySem.W.fnOf "is_tuple" "is_tuple" (defArgs s_is_tuple) (defBody s_is_tuple) (defScope s_is_tuple) .none kV_is_tuple dc_is_tuple pm_is_tuple an_is_tuple cd_is_tuple ct_is_tuple), sl_is_tuple⟩)
    (c_is_tuple : PySem.W.codeIn K cd_is_tuple "is_tuple" = true)
    (k_is_tuple : PySem.W.keepIn K (.ref f_is_tuple) = true)
    (a_is_list : PySem.W.nsIn K mainGlobals "is_list" = some (some (.ref f_is_list)))
    (l_is_list : K.lookup f_is_list = some ⟨oc_is_list, od_is_list, .func (PySem.W.fnOf "is_list" "is_list" (defArgs s_is_list) (defBody s_is_list) (defScope s_is_list) .none kV_is_list dc_is_list pm_is_list an_is_list cd_is_list ct_is_list), sl_is_list⟩)
    (c_is_list : PySem.W.codeIn K cd_is_list "is_list" = true)
    (k_is_list : PySem.W.keepIn K (.ref f_is_list) = true)
    (a_is_row : PySem.W.nsIn K mainGlobals "is_row" = some (some (.ref f_is_row)))
    (l_is_row : K.lookup f_is_row = some ⟨oc_is_row, od_is_row, .func (PySem.W.fnOf "is_row" "is_row" (defArgs s_is_row) (defBody s_is_row) (defScope s_is_row) .none kV_is_row dc_is_row pm_is_row an_is_row cd_is_row ct_is_row), sl_is_row⟩)
    (c_is_row : PySem.W.codeIn K cd_is_row "is_row" = true)
    (k_is_row : PySem.W.keepIn K (.ref f_is_row) = true)
    (a_Skin : PySem.W.nsIn K mainGlobals "Skin" = some (some (.ref C_Skin)))
    (i_Skin : PySem.W.findIn K (.ref C_Skin) "__init__" = some (some (.ref f_Skin)))
    (fn_Skin : PySem.W.isFn K (.ref f_Skin) = true)
    (l_Skin : K.lookup f_Skin = some ⟨oc_Skin, od_Skin, .func (PySem.W.fnOf "__init__" "Skin.__init__" (defArgs s_Skin_init) (defBody s_Skin_init) (defScope s_Skin_init) .none kV_Skin dc_Skin pm_Skin an_Skin cd_Skin ct_Skin), sl_Skin⟩)
    (c_Skin : PySem.W.codeIn K cd_Skin "Skin.__init__" = true)
    (k_Skin : PySem.W.keepIn K (.ref f_Skin) = true)
    (pg_Skin : PySem.W.plainGet K C_Skin Str.empty = true)
    (hd_Skin : PySem.W.hasDictIn K C_Skin = true)
    (po_Skin : PySem.W.plainOver K C_Skin = true)
    (sa_Skin : PySem.W.findIn K (.ref C_Skin) "__setattr__" = some (some (.builtin "object.__setattr__")))
    (mk_Skin : PySem.W.makesIn K C_Skin = true)
    (kc_Skin : PySem.W.keepIn K (.ref C_Skin) = true)
    (ca_Skin : PySem.W.findIn K (.ref C_Skin) "__class__" = some (some (.builtin "object.__class__")))
    (mo_Skin : PySem.W.mroIn K C_Skin (.type "object") = some true)
    (n_Skin_row : PySem.W.findIn K (.ref C_Skin) "row" = some none)
    (n_Skin_bands : PySem.W.findIn K (.ref C_Skin) "bands" = some none)
    (n_Skin_places : PySem.W.findIn K (.ref C_Skin) "places" = some none)
    (a_check_skin : PySem.W.nsIn K mainGlobals "check_skin" = some (some (.ref f_check_skin)))
    (l_check_skin : K.lookup f_check_skin = some ⟨oc_check_skin, od_check_skin, .func (PySem.W.fnOf "check_skin" "check_skin" (defArgs s_check_skin) (defBody s_check_skin) (defScope s_check_skin) .none kV_check_skin dc_check_skin pm_check_skin an_check_skin cd_check_skin ct_check_skin), sl_check_skin⟩)
    (c_check_skin : PySem.W.codeIn K cd_check_skin "check_skin" = true)
    (k_check_skin : PySem.W.keepIn K (.ref f_check_skin) = true)
    (a_is_end : PySem.W.nsIn K mainGlobals "is_end" = some (some (.ref f_is_end)))
    (l_is_end : K.lookup f_is_end = some ⟨oc_is_end, od_is_end, .func (PySem.W.fnOf "is_end" "is_end" (defArgs s_is_end) (defBody s_is_end) (defScope s_is_end) .none kV_is_end dc_is_end pm_is_end an_is_end cd_is_end ct_is_end), sl_is_end⟩)
    (c_is_end : PySem.W.codeIn K cd_is_end "is_end" = true)
    (k_is_end : PySem.W.keepIn K (.ref f_is_end) = true)
    (a_least_turn : PySem.W.nsIn K mainGlobals "least_turn" = some (some (.ref f_least_turn)))
    (l_least_turn : K.lookup f_least_turn = some ⟨oc_least_turn, od_least_turn, .func (PySem.W.fnOf "least_turn" "least_turn" (defArgs s_least_turn) (defBody s_least_turn) (defScope s_least_turn) .none kV_least_turn dc_least_turn pm_least_turn an_least_turn cd_least_turn ct_least_turn), sl_least_turn⟩)
    (c_least_turn : PySem.W.codeIn K cd_least_turn "least_turn" = true)
    (k_least_turn : PySem.W.keepIn K (.ref f_least_turn) = true)
    (a_is_any_word : PySem.W.nsIn K mainGlobals "is_any_word" = some (some (.ref f_is_any_word)))
    (l_is_any_word : K.lookup f_is_any_word = some ⟨oc_is_any_word, od_is_any_word, .func (PySem.W.fnOf "is_any_word" "is_any_word" (defArgs s_is_any_word) (defBody s_is_any_word) (defScope s_is_any_word) .none kV_is_any_word dc_is_any_word pm_is_any_word an_is_any_word cd_is_any_word ct_is_any_word), sl_is_any_word⟩)
    (c_is_any_word : PySem.W.codeIn K cd_is_any_word "is_any_word" = true)
    (k_is_any_word : PySem.W.keepIn K (.ref f_is_any_word) = true)
    (a_has_letters : PySem.W.nsIn K mainGlobals "has_letters" = some (some (.ref f_has_letters)))
    (l_has_letters : K.lookup f_has_letters = some ⟨oc_has_letters, od_has_letters, .func (PySem.W.fnOf "has_letters" "has_letters" (defArgs s_has_letters) (defBody s_has_letters) (defScope s_has_letters) .none kV_has_letters dc_has_letters pm_has_letters an_has_letters cd_has_letters ct_has_letters), sl_has_letters⟩)
    (c_has_letters : PySem.W.codeIn K cd_has_letters "has_letters" = true)
    (k_has_letters : PySem.W.keepIn K (.ref f_has_letters) = true)
    (a_check_word : PySem.W.nsIn K mainGlobals "check_word" = some (some (.ref f_check_word)))
    (l_check_word : K.lookup f_check_word = some ⟨oc_check_word, od_check_word, .func (PySem.W.fnOf "check_word" "check_word" (defArgs s_check_word) (defBody s_check_word) (defScope s_check_word) .none kV_check_word dc_check_word pm_check_word an_check_word cd_check_word ct_check_word), sl_check_word⟩)
    (c_check_word : PySem.W.codeIn K cd_check_word "check_word" = true)
    (k_check_word : PySem.W.keepIn K (.ref f_check_word) = true)
    (a_cut_free : PySem.W.nsIn K mainGlobals "cut_free" = some (some (.ref f_cut_free)))
    (l_cut_free : K.lookup f_cut_free = some ⟨oc_cut_free, od_cut_free, .func (PySem.W.fnOf "cut_free" "cut_free" (defArgs s_cut_free) (defBody s_cut_free) (defScope s_cut_free) .none kV_cut_free dc_cut_free pm_cut_free an_cut_free cd_cut_free ct_cut_free), sl_cut_free⟩)
    (c_cut_free : PySem.W.codeIn K cd_cut_free "cut_free" = true)
    (k_cut_free : PySem.W.keepIn K (.ref f_cut_free) = true)
    (a_gone_back : PySem.W.nsIn K mainGlobals "gone_back" = some (some (.ref f_gone_back)))
    (l_gone_back : K.lookup f_gone_back = some ⟨oc_gone_back, od_gone_back, .func (PySem.W.fnOf "gone_back" "gone_back" (defArgs s_gone_back) (defBody s_gone_back) (defScope s_gone_back) .none kV_gone_back dc_gone_back pm_gone_back an_gone_back cd_gone_back ct_gone_back), sl_gone_back⟩)
    (c_gone_back : PySem.W.codeIn K cd_gone_back "gone_back" = true)
    (k_gone_back : PySem.W.keepIn K (.ref f_gone_back) = true)
    (a_closed_letters : PySem.W.nsIn K mainGlobals "closed_letters" = some (some (.ref f_closed_letters)))
    (l_closed_letters : K.lookup f_closed_letters = some ⟨oc_closed_letters, od_closed_letters, .func (PySem.W.fnOf "closed_letters" "closed_letters" (defArgs s_closed_letters) (defBody s_closed_letters) (defScope s_closed_letters) .none kV_closed_letters dc_closed_letters pm_closed_letters an_closed_letters cd_closed_letters ct_closed_letters), sl_closed_letters⟩)
    (c_closed_letters : PySem.W.codeIn K cd_closed_letters "closed_letters" = true)
    (k_closed_letters : PySem.W.keepIn K (.ref f_closed_letters) = true)
    (a_closed_up : PySem.W.nsIn K mainGlobals "closed_up" = some (some (.ref f_closed_up)))
    (l_closed_up : K.lookup f_closed_up = some ⟨oc_closed_up, od_closed_up, .func (PySem.W.fnOf "closed_up" "closed_up" (defArgs s_closed_up) (defBody s_closed_up) (defScope s_closed_up) .none kV_closed_up dc_closed_up pm_closed_up an_closed_up cd_closed_up ct_closed_up), sl_closed_up⟩)
    (c_closed_up : PySem.W.codeIn K cd_closed_up "closed_up" = true)
    (k_closed_up : PySem.W.keepIn K (.ref f_closed_up) = true)
    (a_round_of : PySem.W.nsIn K mainGlobals "round_of" = some (some (.ref f_round_of)))
    (l_round_of : K.lookup f_round_of = some ⟨oc_round_of, od_round_of, .func (PySem.W.fnOf "round_of" "round_of" (defArgs s_round_of) (defBody s_round_of) (defScope s_round_of) .none kV_round_of dc_round_of pm_round_of an_round_of cd_round_of ct_round_of), sl_round_of⟩)
    (c_round_of : PySem.W.codeIn K cd_round_of "round_of" = true)
    (k_round_of : PySem.W.keepIn K (.ref f_round_of) = true)
    (a_is_fit_round : PySem.W.nsIn K mainGlobals "is_fit_round" = some (some (.ref f_is_fit_round)))
    (l_is_fit_round : K.lookup f_is_fit_round = some ⟨oc_is_fit_round, od_is_fit_round, .func (PySem.W.fnOf "is_fit_round" "is_fit_round" (defArgs s_is_fit_round) (defBody s_is_fit_round) (defScope s_is_fit_round) .none kV_is_fit_round dc_is_fit_round pm_is_fit_round an_is_fit_round cd_is_fit_round ct_is_fit_round), sl_is_fit_round⟩)
    (c_is_fit_round : PySem.W.codeIn K cd_is_fit_round "is_fit_round" = true)
    (k_is_fit_round : PySem.W.keepIn K (.ref f_is_fit_round) = true)
    (a_is_round : PySem.W.nsIn K mainGlobals "is_round" = some (some (.ref f_is_round)))
    (l_is_round : K.lookup f_is_round = some ⟨oc_is_round, od_is_round, .func (PySem.W.fnOf "is_round" "is_round" (defArgs s_is_round) (defBody s_is_round) (defScope s_is_round) .none kV_is_round dc_is_round pm_is_round an_is_round cd_is_round ct_is_round), sl_is_round⟩)
    (c_is_round : PySem.W.codeIn K cd_is_round "is_round" = true)
    (k_is_round : PySem.W.keepIn K (.ref f_is_round) = true)
    (a_check_round : PySem.W.nsIn K mainGlobals "check_round" = some (some (.ref f_check_round)))
    (l_check_round : K.lookup f_check_round = some ⟨oc_check_round, od_check_round, .func (PySem.W.fnOf "check_round" "check_round" (defArgs s_check_round) (defBody s_check_round) (defScope s_check_round) .none kV_check_round dc_check_round pm_check_round an_check_round cd_check_round ct_check_round), sl_check_round⟩)
    (c_check_round : PySem.W.codeIn K cd_check_round "check_round" = true)
    (k_check_round : PySem.W.keepIn K (.ref f_check_round) = true)
    (a_gone_round_back : PySem.W.nsIn K mainGlobals "gone_round_back" = some (some (.ref f_gone_round_back)))
    (l_gone_round_back : K.lookup f_gone_round_back = some ⟨oc_gone_round_back, od_gone_round_back, .func (PySem.W.fnOf "gone_round_back" "gone_round_back" (defArgs s_gone_round_back) (defBody s_gone_round_back) (defScope s_gone_round_back) .none kV_gone_round_back dc_gone_round_back pm_gone_round_back an_gone_round_back cd_gone_round_back ct_gone_round_back), sl_gone_round_back⟩)
    (c_gone_round_back : PySem.W.codeIn K cd_gone_round_back "gone_round_back" = true)
    (k_gone_round_back : PySem.W.keepIn K (.ref f_gone_round_back) = true)
    (a_turned_about : PySem.W.nsIn K mainGlobals "turned_about" = some (some (.ref f_turned_about)))
    (l_turned_about : K.lookup f_turned_about = some ⟨oc_turned_about, od_turned_about, .func (PySem.W.fnOf "turned_about" "turned_about" (defArgs s_turned_about) (defBody s_turned_about) (defScope s_turned_about) .none kV_turned_about dc_turned_about pm_turned_about an_turned_about cd_turned_about ct_turned_about), sl_turned_about⟩)
    (c_turned_about : PySem.W.codeIn K cd_turned_about "turned_about" = true)
    (k_turned_about : PySem.W.keepIn K (.ref f_turned_about) = true)
    (a_l_begun : PySem.W.nsIn K mainGlobals "_law_begun" = some (some (.ref f_l_begun)))
    (l_l_begun : K.lookup f_l_begun = some ⟨oc_l_begun, od_l_begun, .func (PySem.W.fnOf "_law_begun" "_law_begun" (defArgs s_l_begun) (defBody s_l_begun) (defScope s_l_begun) .none kV_l_begun dc_l_begun pm_l_begun an_l_begun cd_l_begun ct_l_begun), sl_l_begun⟩)
    (c_l_begun : PySem.W.codeIn K cd_l_begun "_law_begun" = true)
    (k_l_begun : PySem.W.keepIn K (.ref f_l_begun) = true)
    (a_l_mixed : PySem.W.nsIn K mainGlobals "_law_mixed" = some (some (.ref f_l_mixed)))
    (l_l_mixed : K.lookup f_l_mixed = some ⟨oc_l_mixed, od_l_mixed, .func (PySem.W.fnOf "_law_mixed" "_law_mixed" (defArgs s_l_mixed) (defBody s_l_mixed) (defScope s_l_mixed) .none kV_l_mixed dc_l_mixed pm_l_mixed an_l_mixed cd_l_mixed ct_l_mixed), sl_l_mixed⟩)
    (c_l_mixed : PySem.W.codeIn K cd_l_mixed "_law_mixed" = true)
    (k_l_mixed : PySem.W.keepIn K (.ref f_l_mixed) = true)
    (a_l_take : PySem.W.nsIn K mainGlobals "_law_take" = some (some (.ref f_l_take)))
    (l_l_take : K.lookup f_l_take = some ⟨oc_l_take, od_l_take, .func (PySem.W.fnOf "_law_take" "_law_take" (defArgs s_l_take) (defBody s_l_take) (defScope s_l_take) .none kV_l_take dc_l_take pm_l_take an_l_take cd_l_take ct_l_take), sl_l_take⟩)
    (c_l_take : PySem.W.codeIn K cd_l_take "_law_take" = true)
    (k_l_take : PySem.W.keepIn K (.ref f_l_take) = true)
    (a_l_pick : PySem.W.nsIn K mainGlobals "_law_pick" = some (some (.ref f_l_pick)))
    (l_l_pick : K.lookup f_l_pick = some ⟨oc_l_pick, od_l_pick, .func (PySem.W.fnOf "_law_pick" "_law_pick" (defArgs s_l_pick) (defBody s_l_pick) (defScope s_l_pick) .none kV_l_pick dc_l_pick pm_l_pick an_l_pick cd_l_pick ct_l_pick), sl_l_pick⟩)
    (c_l_pick : PySem.W.codeIn K cd_l_pick "_law_pick" = true)
    (k_l_pick : PySem.W.keepIn K (.ref f_l_pick) = true)
    (a_l_shuffled : PySem.W.nsIn K mainGlobals "_law_shuffled" = some (some (.ref f_l_shuffled)))
    (l_l_shuffled : K.lookup f_l_shuffled = some ⟨oc_l_shuffled, od_l_shuffled, .func (PySem.W.fnOf "_law_shuffled" "_law_shuffled" (defArgs s_l_shuffled) (defBody s_l_shuffled) (defScope s_l_shuffled) .none kV_l_shuffled dc_l_shuffled pm_l_shuffled an_l_shuffled cd_l_shuffled ct_l_shuffled), sl_l_shuffled⟩)
    (c_l_shuffled : PySem.W.codeIn K cd_l_shuffled "_law_shuffled" = true)
    (k_l_shuffled : PySem.W.keepIn K (.ref f_l_shuffled) = true)
    (a_l_caught : PySem.W.nsIn K mainGlobals "_law_caught" = some (some (.ref f_l_caught)))
    (l_l_caught : K.lookup f_l_caught = some ⟨oc_l_caught, od_l_caught, .func (PySem.W.fnOf "_law_caught" "_law_caught" (defArgs s_l_caught) (defBody s_l_caught) (defScope s_l_caught) .none kV_l_caught dc_l_caught pm_l_caught an_l_caught cd_l_caught ct_l_caught), sl_l_caught⟩)
    (c_l_caught : PySem.W.codeIn K cd_l_caught "_law_caught" = true)
    (k_l_caught : PySem.W.keepIn K (.ref f_l_caught) = true)
    (a_l_skin_error : PySem.W.nsIn K mainGlobals "_law_skin_error" = some (some (.ref f_l_skin_error)))
    (l_l_skin_error : K.lookup f_l_skin_error = some ⟨oc_l_skin_error, od_l_skin_error, .func (PySem.W.fnOf "_law_skin_error" "_law_skin_error" (defArgs s_l_skin_error) (defBody s_l_skin_error) (defScope s_l_skin_error) .none kV_l_skin_error dc_l_skin_error pm_l_skin_error an_l_skin_error cd_l_skin_error ct_l_skin_error), sl_l_skin_error⟩)
    (c_l_skin_error : PySem.W.codeIn K cd_l_skin_error "_law_skin_error" = true)
    (k_l_skin_error : PySem.W.keepIn K (.ref f_l_skin_error) = true)
    (a_l_mate : PySem.W.nsIn K mainGlobals "_law_mate" = some (some (.ref f_l_mate)))
    (l_l_mate : K.lookup f_l_mate = some ⟨oc_l_mate, od_l_mate, .func (PySem.W.fnOf "_law_mate" "_law_mate" (defArgs s_l_mate) (defBody s_l_mate) (defScope s_l_mate) .none kV_l_mate dc_l_mate pm_l_mate an_l_mate cd_l_mate ct_l_mate), sl_l_mate⟩)
    (c_l_mate : PySem.W.codeIn K cd_l_mate "_law_mate" = true)
    (k_l_mate : PySem.W.keepIn K (.ref f_l_mate) = true)
    (a_l_row : PySem.W.nsIn K mainGlobals "_law_row" = some (some (.ref f_l_row)))
    (l_l_row : K.lookup f_l_row = some ⟨oc_l_row, od_l_row, .func (PySem.W.fnOf "_law_row" "_law_row" (defArgs s_l_row) (defBody s_l_row) (defScope s_l_row) .none kV_l_row dc_l_row pm_l_row an_l_row cd_l_row ct_l_row), sl_l_row⟩)
    (c_l_row : PySem.W.codeIn K cd_l_row "_law_row" = true)
    (k_l_row : PySem.W.keepIn K (.ref f_l_row) = true)
    (a_l_least_turn : PySem.W.nsIn K mainGlobals "_law_least_turn" = some (some (.ref f_l_least_turn)))
    (l_l_least_turn : K.lookup f_l_least_turn = some ⟨oc_l_least_turn, od_l_least_turn, .func (PySem.W.fnOf "_law_least_turn" "_law_least_turn" (defArgs s_l_least_turn) (defBody s_l_least_turn) (defScope s_l_least_turn) .none kV_l_least_turn dc_l_least_turn pm_l_least_turn an_l_least_turn cd_l_least_turn ct_l_least_turn), sl_l_least_turn⟩)
    (c_l_least_turn : PySem.W.codeIn K cd_l_least_turn "_law_least_turn" = true)
    (k_l_least_turn : PySem.W.keepIn K (.ref f_l_least_turn) = true)
    (a_l_freed : PySem.W.nsIn K mainGlobals "_law_freed" = some (some (.ref f_l_freed)))
    (l_l_freed : K.lookup f_l_freed = some ⟨oc_l_freed, od_l_freed, .func (PySem.W.fnOf "_law_freed" "_law_freed" (defArgs s_l_freed) (defBody s_l_freed) (defScope s_l_freed) .none kV_l_freed dc_l_freed pm_l_freed an_l_freed cd_l_freed ct_l_freed), sl_l_freed⟩)
    (c_l_freed : PySem.W.codeIn K cd_l_freed "_law_freed" = true)
    (k_l_freed : PySem.W.keepIn K (.ref f_l_freed) = true)
    (a_l_undone : PySem.W.nsIn K mainGlobals "_law_undone" = some (some (.ref f_l_undone)))
    (l_l_undone : K.lookup f_l_undone = some ⟨oc_l_undone, od_l_undone, .func (PySem.W.fnOf "_law_undone" "_law_undone" (defArgs s_l_undone) (defBody s_l_undone) (defScope s_l_undone) .none kV_l_undone dc_l_undone pm_l_undone an_l_undone cd_l_undone ct_l_undone), sl_l_undone⟩)
    (c_l_undone : PySem.W.codeIn K cd_l_undone "_law_undone" = true)
    (k_l_undone : PySem.W.keepIn K (.ref f_l_undone) = true)
    (a_l_rounded : PySem.W.nsIn K mainGlobals "_law_rounded" = some (some (.ref f_l_rounded)))
    (l_l_rounded : K.lookup f_l_rounded = some ⟨oc_l_rounded, od_l_rounded, .func (PySem.W.fnOf "_law_rounded" "_law_rounded" (defArgs s_l_rounded) (defBody s_l_rounded) (defScope s_l_rounded) .none kV_l_rounded dc_l_rounded pm_l_rounded an_l_rounded cd_l_rounded ct_l_rounded), sl_l_rounded⟩)
    (c_l_rounded : PySem.W.codeIn K cd_l_rounded "_law_rounded" = true)
    (k_l_rounded : PySem.W.keepIn K (.ref f_l_rounded) = true)
    (a_l_core : PySem.W.nsIn K mainGlobals "_law_core" = some (some (.ref f_l_core)))
    (l_l_core : K.lookup f_l_core = some ⟨oc_l_core, od_l_core, .func (PySem.W.fnOf "_law_core" "_law_core" (defArgs s_l_core) (defBody s_l_core) (defScope s_l_core) .none kV_l_core dc_l_core pm_l_core an_l_core cd_l_core ct_l_core), sl_l_core⟩)
    (c_l_core : PySem.W.codeIn K cd_l_core "_law_core" = true)
    (k_l_core : PySem.W.keepIn K (.ref f_l_core) = true)
    (a_l_is_turn : PySem.W.nsIn K mainGlobals "_law_is_turn" = some (some (.ref f_l_is_turn)))
    (l_l_is_turn : K.lookup f_l_is_turn = some ⟨oc_l_is_turn, od_l_is_turn, .func (PySem.W.fnOf "_law_is_turn" "_law_is_turn" (defArgs s_l_is_turn) (defBody s_l_is_turn) (defScope s_l_is_turn) .none kV_l_is_turn dc_l_is_turn pm_l_is_turn an_l_is_turn cd_l_is_turn ct_l_is_turn), sl_l_is_turn⟩)
    (c_l_is_turn : PySem.W.codeIn K cd_l_is_turn "_law_is_turn" = true)
    (k_l_is_turn : PySem.W.keepIn K (.ref f_l_is_turn) = true)
    (a_l_stripped : PySem.W.nsIn K mainGlobals "_law_stripped" = some (some (.ref f_l_stripped)))
    (l_l_stripped : K.lookup f_l_stripped = some ⟨oc_l_stripped, od_l_stripped, .func (PySem.W.fnOf "_law_stripped" "_law_stripped" (defArgs s_l_stripped) (defBody s_l_stripped) (defScope s_l_stripped) .none kV_l_stripped dc_l_stripped pm_l_stripped an_l_stripped cd_l_stripped ct_l_stripped), sl_l_stripped⟩)
    (c_l_stripped : PySem.W.codeIn K cd_l_stripped "_law_stripped" = true)
    (k_l_stripped : PySem.W.keepIn K (.ref f_l_stripped) = true)
    (a_l_led : PySem.W.nsIn K mainGlobals "_law_led" = some (some (.ref f_l_led)))
    (l_l_led : K.lookup f_l_led = some ⟨oc_l_led, od_l_led, .func (PySem.W.fnOf "_law_led" "_law_led" (defArgs s_l_led) (defBody s_l_led) (defScope s_l_led) .none kV_l_led dc_l_led pm_l_led an_l_led cd_l_led ct_l_led), sl_l_led⟩)
    (c_l_led : PySem.W.codeIn K cd_l_led "_law_led" = true)
    (k_l_led : PySem.W.keepIn K (.ref f_l_led) = true)
    (a_l_is_loop : PySem.W.nsIn K mainGlobals "_law_is_loop" = some (some (.ref f_l_is_loop)))
    (l_l_is_loop : K.lookup f_l_is_loop = some ⟨oc_l_is_loop, od_l_is_loop, .func (PySem.W.fnOf "_law_is_loop" "_law_is_loop" (defArgs s_l_is_loop) (defBody s_l_is_loop) (defScope s_l_is_loop) .none kV_l_is_loop dc_l_is_loop pm_l_is_loop an_l_is_loop cd_l_is_loop ct_l_is_loop), sl_l_is_loop⟩)
    (c_l_is_loop : PySem.W.codeIn K cd_l_is_loop "_law_is_loop" = true)
    (k_l_is_loop : PySem.W.keepIn K (.ref f_l_is_loop) = true)
    (a_l_near : PySem.W.nsIn K mainGlobals "_law_near" = some (some (.ref f_l_near)))
    (l_l_near : K.lookup f_l_near = some ⟨oc_l_near, od_l_near, .func (PySem.W.fnOf "_law_near" "_law_near" (defArgs s_l_near) (defBody s_l_near) (defScope s_l_near) .none kV_l_near dc_l_near pm_l_near an_l_near cd_l_near ct_l_near), sl_l_near⟩)
    (c_l_near : PySem.W.codeIn K cd_l_near "_law_near" = true)
    (k_l_near : PySem.W.keepIn K (.ref f_l_near) = true)
    (a_l_judged : PySem.W.nsIn K mainGlobals "_law_judged" = some (some (.ref f_l_judged)))
    (l_l_judged : K.lookup f_l_judged = some ⟨oc_l_judged, od_l_judged, .func (PySem.W.fnOf "_law_judged" "_law_judged" (defArgs s_l_judged) (defBody s_l_judged) (defScope s_l_judged) .none kV_l_judged dc_l_judged pm_l_judged an_l_judged (.ref jc) ct_l_judged), sl_l_judged⟩)
    (c_l_judged : PySem.W.codeIn K (.ref jc) "_law_judged" = true)
    (k_l_judged : PySem.W.keepIn K (.ref f_l_judged) = true)
    (a_law : PySem.W.nsIn K mainGlobals "law" = some (some (.ref f_law)))
    (l_law : K.lookup f_law = some ⟨oc_law, od_law, .func (PySem.W.fnOf "law" "law" (defArgs s_law) (defBody s_law) (defScope s_law) .none kV_law dc_law pm_law an_law (.ref lc) ct_law), sl_law⟩)
    (c_law : PySem.W.codeIn K (.ref lc) "law" = true)
    (k_law : PySem.W.keepIn K (.ref f_law) = true)
    (zabs : PySem.W.nsIn K mainGlobals "abs" = some none)
    (zall : PySem.W.nsIn K mainGlobals "all" = some none)
    (zbool : PySem.W.nsIn K mainGlobals "bool" = some none)
    (zint : PySem.W.nsIn K mainGlobals "int" = some none)
    (zisinstance : PySem.W.nsIn K mainGlobals "isinstance" = some none)
    (zlen : PySem.W.nsIn K mainGlobals "len" = some none)
    (zlist : PySem.W.nsIn K mainGlobals "list" = some none)
    (zmax : PySem.W.nsIn K mainGlobals "max" = some none)
    (zmin : PySem.W.nsIn K mainGlobals "min" = some none)
    (zrange : PySem.W.nsIn K mainGlobals "range" = some none)
    (zrepr : PySem.W.nsIn K mainGlobals "repr" = some none)
    (zsorted : PySem.W.nsIn K mainGlobals "sorted" = some none)
    (ztuple : PySem.W.nsIn K mainGlobals "tuple" = some none)
    (ztype : PySem.W.nsIn K mainGlobals "type" = some none)
    (c_MOST_LETTERS : PySem.W.nsIn K mainGlobals "MOST_LETTERS" = some (some (.int 200 tkMOST_LETTERS)))
    (c_MOST_IN_ROUND : PySem.W.nsIn K mainGlobals "MOST_IN_ROUND" = some (some (.int 40 tkMOST_IN_ROUND)))
    (kSS : PySem.W.kitOne K (.ref C_Skin) (.ref C_Skin) = some true)
    (kST : PySem.W.kitOne K (.type "tuple") (.ref C_Skin) = some false)
    (kSN : PySem.W.kitOne K (.type "NoneType") (.ref C_Skin) = some false)
    (kWW : PySem.W.kitOne K (.ref C_BadWord) (.ref C_BadWord) = some true)
    (kSkSk : PySem.W.kitOne K (.ref C_BadSkin) (.ref C_BadSkin) = some true)
    (sWR : PySem.W.subIn K (.ref C_BadWord) (.ref C_RoundError) = some true)
    (sSR : PySem.W.subIn K (.ref C_BadSkin) (.ref C_RoundError) = some true)
    (kLiT : PySem.W.kitOne K (.type "list") (.type "tuple") = some false)
    (kNoT : PySem.W.kitOne K (.type "NoneType") (.type "tuple") = some false)
    (kInT : PySem.W.kitOne K (.type "int") (.type "tuple") = some false)
    (kStT : PySem.W.kitOne K (.type "str") (.type "tuple") = some false)
    (kBoI : PySem.W.kitOne K (.type "bool") (.type "int") = some true)
    (kNoI : PySem.W.kitOne K (.type "NoneType") (.type "int") = some false)
    (kStI : PySem.W.kitOne K (.type "str") (.type "int") = some false)
    (kInB : PySem.W.kitOne K (.type "int") (.type "bool") = some false)
    (kRR : PySem.W.kitOne K (.ref C_BadRound) (.ref C_BadRound) = some true)
    (sRR : PySem.W.subIn K (.ref C_BadRound) (.ref C_RoundError) = some true)
    (tgj : h.get? jP = some { cls := .none, data := .fields #[] }) (tcj : PySem.W.CodeHd h jc jP) (njj : K.lookup jP = none) (tgl : h.get? lP = some { cls := .none, data := .fields #[] }) (tcl : PySem.W.CodeHd h lc lP) (njl : K.lookup lP = none) (ne : jP ≠ lP) :
    ∃ T : Txt K mg, fa = T.law.a ∧ (h.get? T.jP = some { cls := .none, data := .fields #[] } ∧ K.lookup T.jP = none ∧ PySem.W.CodeHd h T.jc T.jP) ∧ (h.get? T.lP = some { cls := .none, data := .fields #[] } ∧ K.lookup T.lP = none ∧ PySem.W.CodeHd h T.lc T.lP) := by
  have no_Skin : ∀ f ∈ (["row", "bands", "places"] : List Str), NoAttr K C_Skin f := fun f hf => by
      simp only [List.mem_cons, List.not_mem_nil, or_false] at hf
      rcases hf with rfl | rfl | rfl
      · exact n_Skin_row
      · exact n_Skin_bands
      · exact n_Skin_places
  have e := hfa.symm.trans (PySem.W.mg_of X G a_law)
  cases e
  refine ⟨{
    RoundError := ⟨C_RoundError, PySem.W.mg_of X G a_RoundError, k_RoundError, q_RoundError, ty_RoundError, ⟨ga_RoundError, gg_RoundError, ex_RoundError, hd_RoundError, ca_RoundError, hn0, ht0, mo_RoundError⟩⟩,
    BadRound := ⟨C_BadRound, PySem.W.mg_of X G a_BadRound, k_BadRound, q_BadRound, ty_BadRound, ⟨ga_BadRound, gg_BadRound, ex_BadRound, hd_BadRound, ca_BadRound, hn0, ht0, mo_BadRound⟩⟩,
    BadSkin := ⟨C_BadSkin, f_BadSkin, _, PySem.W.mg_of X G a_BadSkin, ⟨⟨_, _, _, _, _, _, _, _, _, _, _, _, _, _, _, x_BadSkin, rv_BadSkin⟩, sa_BadSkin, ex_BadSkin, ty_BadSkin, kc_BadSkin⟩, i_BadSkin, t_BadSkin, fun_mk (st := s_BadSkin_init) l_BadSkin c_BadSkin k_BadSkin, (fun_mk (st := s_BadSkin_init) l_BadSkin c_BadSkin k_BadSkin).binds (ps := ["self", "part"]) (fun _ _ _ _ _ _ us hl => match us, hl with | [_, _], _ => rfl), nf_BadSkin, ⟨ga_BadSkin, gg_BadSkin, ex_BadSkin, hd_BadSkin⟩, ⟨ga_BadSkin, gg_BadSkin, ex_BadSkin, hd_BadSkin, ca_BadSkin, hn0, ht0, mo_BadSkin⟩⟩,
    BadWord := ⟨C_BadWord, PySem.W.mg_of X G a_BadWord, k_BadWord, q_BadWord, ty_BadWord, ⟨ga_BadWord, gg_BadWord, ex_BadWord, hd_BadWord, ca_BadWord, hn0, ht0, mo_BadWord⟩⟩,
    is_number := ⟨f_is_number, _, fun_mk (st := s_is_number) l_is_number c_is_number k_is_number, PySem.W.mg_of X G a_is_number, (fun_mk (st := s_is_number) l_is_number c_is_number k_is_number).binds (ps := ["thing"]) (fun _ _ _ _ _ _ us hl => match us, hl with | [_], _ => rfl)⟩,
    is_within := ⟨f_is_within, _, fun_mk (st := s_is_within) l_is_within c_is_within k_is_within, PySem.W.mg_of X G a_is_within, (fun_mk (st := s_is_within) l_is_within c_is_within k_is_within).binds (ps := ["thing", "low", "high"]) (fun _ _ _ _ _ _ us hl => match us, hl with | [_, _, _], _ => rfl)⟩,
    is_tuple := ⟨f_is_tuple, _, fun_mk (st := s_is_tuple) l_is_tuple c_is_tuple k_is_tuple, PySem.W.mg_of X G a_is_tuple, (fun_mk (st := s_is_tuple) l_is_tuple c_is_tuple k_is_tuple).binds (ps := ["thing"]) (fun _ _ _ _ _ _ us hl => match us, hl with | [_], _ => rfl)⟩,
    is_list := ⟨f_is_list, _, fun_mk (st := s_is_list) l_is_list c_is_list k_is_list, PySem.W.mg_of X G a_is_list, (fun_mk (st := s_is_list) l_is_list c_is_list k_is_list).binds (ps := ["thing"]) (fun _ _ _ _ _ _ us hl => match us, hl with | [_], _ => rfl)⟩,
    is_row := ⟨f_is_row, _, fun_mk (st := s_is_row) l_is_row c_is_row k_is_row, PySem.W.mg_of X G a_is_row, (fun_mk (st := s_is_row) l_is_row c_is_row k_is_row).binds (ps := ["row"]) (fun _ _ _ _ _ _ us hl => match us, hl with | [_], _ => rfl)⟩,
    Skin := ⟨C_Skin, f_Skin, _, PySem.W.mg_of X G a_Skin, ⟨pg_Skin, hd_Skin, po_Skin, sa_Skin⟩, no_Skin, ⟨mk_Skin, i_Skin, fn_Skin, kc_Skin⟩, fun_mk (st := s_Skin_init) l_Skin c_Skin k_Skin, (fun_mk (st := s_Skin_init) l_Skin c_Skin k_Skin).binds (ps := ["self", "row"]) (fun _ _ _ _ _ _ us hl => match us, hl with | [_, _], _ => rfl), ca_Skin, hn0, ht0, mo_Skin⟩,
    check_skin := ⟨f_check_skin, _, fun_mk (st := s_check_skin) l_check_skin c_check_skin k_check_skin, PySem.W.mg_of X G a_check_skin, (fun_mk (st := s_check_skin) l_check_skin c_check_skin k_check_skin).binds (ps := ["skin"]) (fun _ _ _ _ _ _ us hl => match us, hl with | [_], _ => rfl)⟩,
    is_end := ⟨f_is_end, _, fun_mk (st := s_is_end) l_is_end c_is_end k_is_end, PySem.W.mg_of X G a_is_end, (fun_mk (st := s_is_end) l_is_end c_is_end k_is_end).binds (ps := ["skin", "thing"]) (fun _ _ _ _ _ _ us hl => match us, hl with | [_, _], _ => rfl)⟩,
    least_turn := ⟨f_least_turn, _, fun_mk (st := s_least_turn) l_least_turn c_least_turn k_least_turn, PySem.W.mg_of X G a_least_turn, (fun_mk (st := s_least_turn) l_least_turn c_least_turn k_least_turn).binds (ps := ["word"]) (fun _ _ _ _ _ _ us hl => match us, hl with | [_], _ => rfl)⟩,
    is_any_word := ⟨f_is_any_word, _, fun_mk (st := s_is_any_word) l_is_any_word c_is_any_word k_is_any_word, PySem.W.mg_of X G a_is_any_word, (fun_mk (st := s_is_any_word) l_is_any_word c_is_any_word k_is_any_word).binds (ps := ["skin", "thing"]) (fun _ _ _ _ _ _ us hl => match us, hl with | [_, _], _ => rfl)⟩,
    has_letters := ⟨f_has_letters, _, fun_mk (st := s_has_letters) l_has_letters c_has_letters k_has_letters, PySem.W.mg_of X G a_has_letters, (fun_mk (st := s_has_letters) l_has_letters c_has_letters k_has_letters).binds (ps := ["skin", "thing", "most"]) (fun _ _ _ _ _ _ us hl => match us, hl with | [_, _, _], _ => rfl)⟩,
    check_word := ⟨f_check_word, _, fun_mk (st := s_check_word) l_check_word c_check_word k_check_word, PySem.W.mg_of X G a_check_word, (fun_mk (st := s_check_word) l_check_word c_check_word k_check_word).binds (ps := ["skin", "word"]) (fun _ _ _ _ _ _ us hl => match us, hl with | [_, _], _ => rfl)⟩,
    cut_free := ⟨f_cut_free, _, fun_mk (st := s_cut_free) l_cut_free c_cut_free k_cut_free, PySem.W.mg_of X G a_cut_free, (fun_mk (st := s_cut_free) l_cut_free c_cut_free k_cut_free).binds (ps := ["word"]) (fun _ _ _ _ _ _ us hl => match us, hl with | [_], _ => rfl)⟩,
    gone_back := ⟨f_gone_back, _, fun_mk (st := s_gone_back) l_gone_back c_gone_back k_gone_back, PySem.W.mg_of X G a_gone_back, (fun_mk (st := s_gone_back) l_gone_back c_gone_back k_gone_back).binds (ps := ["word"]) (fun _ _ _ _ _ _ us hl => match us, hl with | [_], _ => rfl)⟩,
    closed_letters := ⟨f_closed_letters, _, fun_mk (st := s_closed_letters) l_closed_letters c_closed_letters k_closed_letters, PySem.W.mg_of X G a_closed_letters, (fun_mk (st := s_closed_letters) l_closed_letters c_closed_letters k_closed_letters).binds (ps := ["word"]) (fun _ _ _ _ _ _ us hl => match us, hl with | [_], _ => rfl)⟩,
    closed_up := ⟨f_closed_up, _, fun_mk (st := s_closed_up) l_closed_up c_closed_up k_closed_up, PySem.W.mg_of X G a_closed_up, (fun_mk (st := s_closed_up) l_closed_up c_closed_up k_closed_up).binds (ps := ["word"]) (fun _ _ _ _ _ _ us hl => match us, hl with | [_], _ => rfl)⟩,
    round_of := ⟨f_round_of, _, fun_mk (st := s_round_of) l_round_of c_round_of k_round_of, PySem.W.mg_of X G a_round_of, (fun_mk (st := s_round_of) l_round_of c_round_of k_round_of).binds (ps := ["skin", "word"]) (fun _ _ _ _ _ _ us hl => match us, hl with | [_, _], _ => rfl)⟩,
    is_fit_round := ⟨f_is_fit_round, _, fun_mk (st := s_is_fit_round) l_is_fit_round c_is_fit_round k_is_fit_round, PySem.W.mg_of X G a_is_fit_round, (fun_mk (st := s_is_fit_round) l_is_fit_round c_is_fit_round k_is_fit_round).binds (ps := ["skin", "thing"]) (fun _ _ _ _ _ _ us hl => match us, hl with | [_, _], _ => rfl)⟩,
    is_round := ⟨f_is_round, _, fun_mk (st := s_is_round) l_is_round c_is_round k_is_round, PySem.W.mg_of X G a_is_round, (fun_mk (st := s_is_round) l_is_round c_is_round k_is_round).binds (ps := ["skin", "thing"]) (fun _ _ _ _ _ _ us hl => match us, hl with | [_, _], _ => rfl)⟩,
    check_round := ⟨f_check_round, _, fun_mk (st := s_check_round) l_check_round c_check_round k_check_round, PySem.W.mg_of X G a_check_round, (fun_mk (st := s_check_round) l_check_round c_check_round k_check_round).binds (ps := ["skin", "loop"]) (fun _ _ _ _ _ _ us hl => match us, hl with | [_, _], _ => rfl)⟩,
    gone_round_back := ⟨f_gone_round_back, _, fun_mk (st := s_gone_round_back) l_gone_round_back c_gone_round_back k_gone_round_back, PySem.W.mg_of X G a_gone_round_back, (fun_mk (st := s_gone_round_back) l_gone_round_back c_gone_round_back k_gone_round_back).binds (ps := ["loop"]) (fun _ _ _ _ _ _ us hl => match us, hl with | [_], _ => rfl)⟩,
    turned_about := ⟨f_turned_about, _, fun_mk (st := s_turned_about) l_turned_about c_turned_about k_turned_about, PySem.W.mg_of X G a_turned_about, (fun_mk (st := s_turned_about) l_turned_about c_turned_about k_turned_about).binds (ps := ["skin", "loop"]) (fun _ _ _ _ _ _ us hl => match us, hl with | [_, _], _ => rfl)⟩,
    l_begun := ⟨f_l_begun, _, fun_mk (st := s_l_begun) l_l_begun c_l_begun k_l_begun, PySem.W.mg_of X G a_l_begun, (fun_mk (st := s_l_begun) l_l_begun c_l_begun k_l_begun).binds (ps := ["script"]) (fun _ _ _ _ _ _ us hl => match us, hl with | [_], _ => rfl)⟩,
    l_mixed := ⟨f_l_mixed, _, fun_mk (st := s_l_mixed) l_l_mixed c_l_mixed k_l_mixed, PySem.W.mg_of X G a_l_mixed, (fun_mk (st := s_l_mixed) l_l_mixed c_l_mixed k_l_mixed).binds (ps := ["draw"]) (fun _ _ _ _ _ _ us hl => match us, hl with | [_], _ => rfl)⟩,
    l_take := ⟨f_l_take, _, fun_mk (st := s_l_take) l_l_take c_l_take k_l_take, PySem.W.mg_of X G a_l_take, (fun_mk (st := s_l_take) l_l_take c_l_take k_l_take).binds (ps := ["draw", "amount"]) (fun _ _ _ _ _ _ us hl => match us, hl with | [_, _], _ => rfl)⟩,
    l_pick := ⟨f_l_pick, _, fun_mk (st := s_l_pick) l_l_pick c_l_pick k_l_pick, PySem.W.mg_of X G a_l_pick, (fun_mk (st := s_l_pick) l_l_pick c_l_pick k_l_pick).binds (ps := ["draw", "some"]) (fun _ _ _ _ _ _ us hl => match us, hl with | [_, _], _ => rfl)⟩,
    l_shuffled := ⟨f_l_shuffled, _, fun_mk (st := s_l_shuffled) l_l_shuffled c_l_shuffled k_l_shuffled, PySem.W.mg_of X G a_l_shuffled, (fun_mk (st := s_l_shuffled) l_l_shuffled c_l_shuffled k_l_shuffled).binds (ps := ["draw", "some"]) (fun _ _ _ _ _ _ us hl => match us, hl with | [_, _], _ => rfl)⟩,
    l_caught := ⟨f_l_caught, _, fun_mk (st := s_l_caught) l_l_caught c_l_caught k_l_caught, PySem.W.mg_of X G a_l_caught, (fun_mk (st := s_l_caught) l_l_caught c_l_caught k_l_caught).binds (ps := ["work"]) (fun _ _ _ _ _ _ us hl => match us, hl with | [_], _ => rfl)⟩,
    l_skin_error := ⟨f_l_skin_error, _, fun_mk (st := s_l_skin_error) l_l_skin_error c_l_skin_error k_l_skin_error, PySem.W.mg_of X G a_l_skin_error, (fun_mk (st := s_l_skin_error) l_l_skin_error c_l_skin_error k_l_skin_error).binds (ps := ["error"]) (fun _ _ _ _ _ _ us hl => match us, hl with | [_], _ => rfl)⟩,
    l_mate := ⟨f_l_mate, _, fun_mk (st := s_l_mate) l_l_mate c_l_mate k_l_mate, PySem.W.mg_of X G a_l_mate, (fun_mk (st := s_l_mate) l_l_mate c_l_mate k_l_mate).binds (ps := ["end"]) (fun _ _ _ _ _ _ us hl => match us, hl with | [_], _ => rfl)⟩,
    l_row := ⟨f_l_row, _, fun_mk (st := s_l_row) l_l_row c_l_row k_l_row, PySem.W.mg_of X G a_l_row, (fun_mk (st := s_l_row) l_l_row c_l_row k_l_row).binds (ps := ["draw", "most"]) (fun _ _ _ _ _ _ us hl => match us, hl with | [_, _], _ => rfl)⟩,
    l_least_turn := ⟨f_l_least_turn, _, fun_mk (st := s_l_least_turn) l_l_least_turn c_l_least_turn k_l_least_turn, PySem.W.mg_of X G a_l_least_turn, (fun_mk (st := s_l_least_turn) l_l_least_turn c_l_least_turn k_l_least_turn).binds (ps := ["word_here"]) (fun _ _ _ _ _ _ us hl => match us, hl with | [_], _ => rfl)⟩,
    l_freed := ⟨f_l_freed, _, fun_mk (st := s_l_freed) l_l_freed c_l_freed k_l_freed, PySem.W.mg_of X G a_l_freed, (fun_mk (st := s_l_freed) l_l_freed c_l_freed k_l_freed).binds (ps := ["word_here"]) (fun _ _ _ _ _ _ us hl => match us, hl with | [_], _ => rfl)⟩,
    l_undone := ⟨f_l_undone, _, fun_mk (st := s_l_undone) l_l_undone c_l_undone k_l_undone, PySem.W.mg_of X G a_l_undone, (fun_mk (st := s_l_undone) l_l_undone c_l_undone k_l_undone).binds (ps := ["word_here"]) (fun _ _ _ _ _ _ us hl => match us, hl with | [_], _ => rfl)⟩,
    l_rounded := ⟨f_l_rounded, _, fun_mk (st := s_l_rounded) l_l_rounded c_l_rounded k_l_rounded, PySem.W.mg_of X G a_l_rounded, (fun_mk (st := s_l_rounded) l_l_rounded c_l_rounded k_l_rounded).binds (ps := ["word_here"]) (fun _ _ _ _ _ _ us hl => match us, hl with | [_], _ => rfl)⟩,
    l_core := ⟨f_l_core, _, fun_mk (st := s_l_core) l_l_core c_l_core k_l_core, PySem.W.mg_of X G a_l_core, (fun_mk (st := s_l_core) l_l_core c_l_core k_l_core).binds (ps := ["draw", "ends_here", "size"]) (fun _ _ _ _ _ _ us hl => match us, hl with | [_, _, _], _ => rfl)⟩,
    l_is_turn := ⟨f_l_is_turn, _, fun_mk (st := s_l_is_turn) l_l_is_turn c_l_is_turn k_l_is_turn, PySem.W.mg_of X G a_l_is_turn, (fun_mk (st := s_l_is_turn) l_l_is_turn c_l_is_turn k_l_is_turn).binds (ps := ["one", "other"]) (fun _ _ _ _ _ _ us hl => match us, hl with | [_, _], _ => rfl)⟩,
    l_stripped := ⟨f_l_stripped, _, fun_mk (st := s_l_stripped) l_l_stripped c_l_stripped k_l_stripped, PySem.W.mg_of X G a_l_stripped, (fun_mk (st := s_l_stripped) l_l_stripped c_l_stripped k_l_stripped).binds (ps := ["word_here"]) (fun _ _ _ _ _ _ us hl => match us, hl with | [_], _ => rfl)⟩,
    l_led := ⟨f_l_led, _, fun_mk (st := s_l_led) l_l_led c_l_led k_l_led, PySem.W.mg_of X G a_l_led, (fun_mk (st := s_l_led) l_l_led c_l_led k_l_led).binds (ps := ["draw", "ends_here", "word_here", "most"]) (fun _ _ _ _ _ _ us hl => match us, hl with | [_, _, _, _], _ => rfl)⟩,
    l_is_loop := ⟨f_l_is_loop, _, fun_mk (st := s_l_is_loop) l_l_is_loop c_l_is_loop k_l_is_loop, PySem.W.mg_of X G a_l_is_loop, (fun_mk (st := s_l_is_loop) l_l_is_loop c_l_is_loop k_l_is_loop).binds (ps := ["thing", "ends_here"]) (fun _ _ _ _ _ _ us hl => match us, hl with | [_, _], _ => rfl)⟩,
    l_near := ⟨f_l_near, _, fun_mk (st := s_l_near) l_l_near c_l_near k_l_near, PySem.W.mg_of X G a_l_near, (fun_mk (st := s_l_near) l_l_near c_l_near k_l_near).binds (ps := ["draw", "ends_here", "loop_here"]) (fun _ _ _ _ _ _ us hl => match us, hl with | [_, _, _], _ => rfl)⟩,
    l_judged := ⟨f_l_judged, _, fun_mk (st := s_l_judged) l_l_judged c_l_judged k_l_judged, PySem.W.mg_of X G a_l_judged, (fun_mk (st := s_l_judged) l_l_judged c_l_judged k_l_judged).binds (ps := ["draw", "skin", "loop_here"]) (fun _ _ _ _ _ _ us hl => match us, hl with | [_, _, _], _ => rfl)⟩,
    law := ⟨fa, _, fun_mk (st := s_law) l_law c_law k_law, PySem.W.mg_of X G a_law, (fun_mk (st := s_law) l_law c_law k_law).binds (ps := ["script"]) (fun _ _ _ _ _ _ us hl => match us, hl with | [_], _ => rfl)⟩,
    zabs := PySem.W.mg_none_of X G zabs,
    zall := PySem.W.mg_none_of X G zall,
    zbool := PySem.W.mg_none_of X G zbool,
    zint := PySem.W.mg_none_of X G zint,
    zisinstance := PySem.W.mg_none_of X G zisinstance,
    zlen := PySem.W.mg_none_of X G zlen,
    zlist := PySem.W.mg_none_of X G zlist,
    zmax := PySem.W.mg_none_of X G zmax,
    zmin := PySem.W.mg_none_of X G zmin,
    zrange := PySem.W.mg_none_of X G zrange,
    zrepr := PySem.W.mg_none_of X G zrepr,
    zsorted := PySem.W.mg_none_of X G zsorted,
    ztuple := PySem.W.mg_none_of X G ztuple,
    ztype := PySem.W.mg_none_of X G ztype,
    v_MOST_LETTERS := .int 200 tkMOST_LETTERS,
    c_MOST_LETTERS := PySem.W.mg_of X G c_MOST_LETTERS,
    r_MOST_LETTERS := ⟨_, rfl⟩,
    v_MOST_IN_ROUND := .int 40 tkMOST_IN_ROUND,
    c_MOST_IN_ROUND := PySem.W.mg_of X G c_MOST_IN_ROUND,
    r_MOST_IN_ROUND := ⟨_, rfl⟩,
    kSS := kSS,
    kST := kST,
    kSN := kSN,
    kWW := kWW,
    kSkSk := kSkSk,
    sWR := sWR,
    sSR := sSR,
    jc := jc,
    jP := jP,
    jF := ⟨_, _, _, _, _, _, _, _, rfl, l_l_judged, c_l_judged⟩,
    kLiT := kLiT,
    kNoT := kNoT,
    kInT := kInT,
    kStT := kStT,
    kBoI := kBoI,
    kNoI := kNoI,
    kStI := kStI,
    kInB := kInB,
    kRR := kRR,
    sRR := sRR,
    lc := lc,
    lP := lP,
    lF := ⟨_, _, _, _, _, _, _, _, rfl, l_law, c_law⟩,
    ne := ne }, rfl, ⟨tgj, njj, tcj⟩, ⟨tgl, njl, tcl⟩⟩
theorem walk_law {l : PySem.W.OpenLaw} {q : Program} {loose : List Str} {XP : (Str → Option Value) → Heap → Prop} {YP : World → Heap → Prop} {d : DefRec} {K : Params → PySem.W.Frag} (hn : l.most = some 63) (hdf : d.params.defaults = [])
    (hY : ∀ (w : World) (h : Heap), YP w h → (K w.params).In h)
    (F : ∀ (w : World) (mg : Str → Option Value) (fa : Addr) (h : Heap), YP w h → (K w.params).In h → h.Ns mainGlobals mg → mg d.name = some (.ref fa) →
      ∃ T : Txt (K w.params) mg, fa = T.law.a ∧ (h.get? T.jP = some { cls := .none, data := .fields #[] } ∧ (K w.params).lookup T.jP = none ∧ PySem.W.CodeHd h T.jc T.jP) ∧ (h.get? T.lP = some { cls := .none, data := .fields #[] } ∧ (K w.params).lookup T.lP = none ∧ PySem.W.CodeHd h T.lc T.lP)) :
    PySem.W.WalkO q loose XP YP l.row.toRowW d [] (fun f vs => PySem.call f vs) := by
  refine Att.attach_callB hn hdf fun w s₀ s₁ mg mb fa o pm cd doc a vs ns G Y ho hd hcd hmg hobj hints hlen hbits hg => ?_
  have KX := hY w _ Y
  obtain ⟨T, rfl, h_j, h_l⟩ := F w mg fa _ Y KX G.T.g hmg
  refine law_run (ts := [(T.jc, T.jP), (T.lc, T.lP)]) KX G.T.g G.T.b G.T.builtins G.T.nolimit hg (fun p hp => ?_) G.T.bmain hobj hints (Nat.le_trans hlen (by decide)) fun base H TB e0 hT hS => ?_
  · simp only [List.mem_cons, List.not_mem_nil, or_false] at hp
    rcases hp with rfl | rfl
    · exact h_j
    · exact h_l
  have htb : LamX.Tabs (jTs T) H := fun p hp => by
    simp only [List.mem_cons, List.not_mem_nil, or_false] at hp
    rcases hp with rfl | rfl
    · exact LamX.TabS.nil (hT (T.jc, T.jP) (List.mem_cons_self))
    · exact LamX.TabS.nil (hT (T.lc, T.lP) (List.mem_cons_of_mem _ (List.mem_cons_self)))
  obtain ⟨oc, od, kV, doc', pm', an, ct, osl, e, lk, hc⟩ := T.lF.ex
  have hb := T.law.b s₁ [.ref a] KX rfl
  rw [e] at lk hb
  refine LamX.run_ofS (N := N_law) (ps := ["script"]) (k := 13) (us := [.ref a]) (vs := [.ref a]) lk hc sc_law ⟨rfl, by decide, by decide⟩ e0 hb (.cons rfl .nil) rfl fun hr' => ?_
  obtain ⟨t, h1, h2⟩ := law_body (w := w) (base := base) (E := E0) (outer := []) (Q := fun v _ => v = .bl true) T (TB (T.lc, T.lP) (List.mem_cons_of_mem _ (List.mem_cons_self))) (TB (T.jc, T.jP) (List.mem_cons_self)) (A := callerA) (s := s₁) rfl hr' hS hlen htb (fun _ => rfl)
  exact ⟨t, h1.nox, h2⟩
end Tt
open PySem PySem.W PyProof.Rows in
set_option maxRecDepth 100000 in
set_option maxHeartbeats 0 in
theorem PySem.Challenge.cw_tautrounds_k05_whole_rounds_exactly_if_holds : PySem.Challenge.rw_tautrounds_k05_whole_rounds_exactly_if.Holds := by
  w_on; o_law; k_head; (case hw => w_witness2)
  k_fill
  refine' Tt.walk_law (l := PySem.Challenge.rw_tautrounds_k05_whole_rounds_exactly_if) rfl rfl (fun w h Y => PySem.W.km_in_of Y) ?F
  case F =>
    intro w mg fa h Y KX G hmg
    refine' Tt.all_mk KX G hmg ?hn0 ?ht0 ?a_RoundError ?k_RoundError ?q_RoundError ?ty_RoundError ?ga_RoundError ?gg_RoundError ?ex_RoundError ?hd_RoundError ?ca_RoundError ?mo_RoundError ?a_BadRound ?k_BadRound ?q_BadRound ?ty_BadRound ?ga_BadRound ?gg_BadRound ?ex_BadRound ?hd_BadRound ?ca_BadRound ?mo_BadRound ?a_BadSkin ?x_BadSkin ?rv_BadSkin ?sa_BadSkin ?ty_BadSkin ?kc_BadSkin ?i_BadSkin ?t_BadSkin ?l_BadSkin ?c_BadSkin ?k_BadSkin ?nf_BadSkin ?ga_BadSkin ?gg_BadSkin ?ex_BadSkin ?hd_BadSkin ?ca_BadSkin ?mo_BadSkin ?a_BadWord ?k_BadWord ?q_BadWord ?ty_BadWord ?ga_BadWord ?gg_BadWord ?ex_BadWord ?hd_BadWord ?ca_BadWord ?mo_BadWord ?a_is_number ?l_is_number ?c_is_number ?k_is_number ?a_is_within ?l_is_within ?c_is_within ?k_is_within ?a_is_tuple ?l_is_tuple ?c_is_tuple ?k_is_tuple ?a_is_list ?l_is_list ?c_is_list ?k_is_list ?a_is_row ?l_is_row ?c_is_row ?k_is_row ?a_Skin ?i_Skin ?fn_Skin ?l_Skin ?c_Skin ?k_Skin ?pg_Skin ?hd_Skin ?po_Skin ?sa_Skin ?mk_Skin ?kc_Skin ?ca_Skin ?mo_Skin ?n_Skin_row ?n_Skin_bands ?n_Skin_places ?a_check_skin ?l_check_skin ?c_check_skin ?k_check_skin ?a_is_end ?l_is_end ?c_is_end ?k_is_end ?a_least_turn ?l_least_turn ?c_least_turn ?k_least_turn ?a_is_any_word ?l_is_any_word ?c_is_any_word ?k_is_any_word ?a_has_letters ?l_has_letters ?c_has_letters ?k_has_letters ?a_check_word ?l_check_word ?c_check_word ?k_check_word ?a_cut_free ?l_cut_free ?c_cut_free ?k_cut_free ?a_gone_back ?l_gone_back ?c_gone_back ?k_gone_back ?a_closed_letters ?l_closed_letters ?c_closed_letters ?k_closed_letters ?a_closed_up ?l_closed_up ?c_closed_up ?k_closed_up ?a_round_of ?l_round_of ?c_round_of ?k_round_of ?a_is_fit_round ?l_is_fit_round ?c_is_fit_round ?k_is_fit_round ?a_is_round ?l_is_round ?c_is_round ?k_is_round ?a_check_round ?l_check_round ?c_check_round ?k_check_round ?a_gone_round_back ?l_gone_round_back ?c_gone_round_back ?k_gone_round_back ?a_turned_about ?l_turned_about ?c_turned_about ?k_turned_about ?a_l_begun ?l_l_begun ?c_l_begun ?k_l_begun ?a_l_mixed ?l_l_mixed ?c_l_mixed ?k_l_mixed ?a_l_take ?l_l_take ?c_l_take ?k_l_take ?a_l_pick ?l_l_pick ?c_l_pick ?k_l_pick ?a_l_shuffled ?l_l_shuffled ?c_l_shuffled ?k_l_shuffled ?a_l_caught ?l_l_caught ?c_l_caught ?k_l_caught ?a_l_skin_error ?l_l_skin_error ?c_l_skin_error ?k_l_skin_error ?a_l_mate ?l_l_mate ?c_l_mate ?k_l_mate ?a_l_row ?l_l_row ?c_l_row ?k_l_row ?a_l_least_turn ?l_l_least_turn ?c_l_least_turn ?k_l_least_turn ?a_l_freed ?l_l_freed ?c_l_freed ?k_l_freed ?a_l_undone ?l_l_undone ?c_l_undone ?k_l_undone ?a_l_rounded ?l_l_rounded ?c_l_rounded ?k_l_rounded ?a_l_core ?l_l_core ?c_l_core ?k_l_core ?a_l_is_turn ?l_l_is_turn ?c_l_is_turn ?k_l_is_turn ?a_l_stripped ?l_l_stripped ?c_l_stripped ?k_l_stripped ?a_l_led ?l_l_led ?c_l_led ?k_l_led ?a_l_is_loop ?l_l_is_loop ?c_l_is_loop ?k_l_is_loop ?a_l_near ?l_l_near ?c_l_near ?k_l_near ?a_l_judged ?l_l_judged ?c_l_judged ?k_l_judged ?a_law ?l_law ?c_law ?k_law ?zabs ?zall ?zbool ?zint ?zisinstance ?zlen ?zlist ?zmax ?zmin ?zrange ?zrepr ?zsorted ?ztuple ?ztype ?c_MOST_LETTERS ?c_MOST_IN_ROUND ?kSS ?kST ?kSN ?kWW ?kSkSk ?sWR ?sSR ?kLiT ?kNoT ?kInT ?kStT ?kBoI ?kNoI ?kStI ?kInB ?kRR ?sRR ?tgj ?tcj ?njj ?tgl ?tcl ?njl ?ne
    (case hn0 => k_is)
    (case ht0 => k_is)
    (case a_RoundError => k_is)
    (case k_RoundError => k_is)
    (case q_RoundError => k_exc)
    (case ty_RoundError => k_is)
    (case ga_RoundError => k_is)
    (case gg_RoundError => k_is)
    (case ex_RoundError => k_is)
    (case hd_RoundError => k_is)
    (case ca_RoundError => k_is)
    (case mo_RoundError => k_is)
    (case a_BadRound => k_is)
    (case k_BadRound => k_is)
    (case q_BadRound => k_exc)
    (case ty_BadRound => k_is)
    (case ga_BadRound => k_is)
    (case gg_BadRound => k_is)
    (case ex_BadRound => k_is)
    (case hd_BadRound => k_is)
    (case ca_BadRound => k_is)
    (case mo_BadRound => k_is)
    (case a_BadSkin => k_is)
    (case x_BadSkin => k_is)
    (case rv_BadSkin => decide +kernel)
    (case sa_BadSkin => k_is)
    (case ty_BadSkin => k_is)
    (case kc_BadSkin => k_is)
    (case i_BadSkin => k_is)
    (case t_BadSkin => k_is)
    (case l_BadSkin => k_is)
    (case c_BadSkin => k_is)
    (case k_BadSkin => k_is)
    (case nf_BadSkin => k_is)
    (case ga_BadSkin => k_is)
    (case gg_BadSkin => k_is)
    (case ex_BadSkin => k_is)
    (case hd_BadSkin => k_is)
    (case ca_BadSkin => k_is)
    (case mo_BadSkin => k_is)
    (case a_BadWord => k_is)
    (case k_BadWord => k_is)
    (case q_BadWord => k_exc)
    (case ty_BadWord => k_is)
    (case ga_BadWord => k_is)
    (case gg_BadWord => k_is)
    (case ex_BadWord => k_is)
    (case hd_BadWord => k_is)
    (case ca_BadWord => k_is)
    (case mo_BadWord => k_is)
    (case a_is_number => k_is)
    (case l_is_number => k_is)
    (case c_is_number => k_is)
    (case k_is_number => k_is)
    (case a_is_within => k_is)
    (case l_is_within => k_is)
    (case c_is_within => k_is)
    (case k_is_within => k_is)
    (case a_is_tuple => k_is)
    (case l_is_tuple => k_is)
    (case c_is_tuple => k_is)
    (case k_is_tuple => k_is)
    (case a_is_list => k_is)
    (case l_is_list => k_is)
    (case c_is_list => k_is)
    (case k_is_list => k_is)
    (case a_is_row => k_is)
    (case l_is_row => k_is)
    (case c_is_row => k_is)
    (case k_is_row => k_is)
    (case a_Skin => k_is)
    (case i_Skin => k_is)
    (case fn_Skin => k_is)
    (case l_Skin => k_is)
    (case c_Skin => k_is)
    (case k_Skin => k_is)
    (case pg_Skin => k_is)
    (case hd_Skin => k_is)
    (case po_Skin => k_is)
    (case sa_Skin => k_is)
    (case mk_Skin => k_is)
    (case kc_Skin => k_is)
    (case ca_Skin => k_is)
    (case mo_Skin => k_is)
    (case n_Skin_row => k_is)
    (case n_Skin_bands => k_is)
    (case n_Skin_places => k_is)
    (case a_check_skin => k_is)
    (case l_check_skin => k_is)
    (case c_check_skin => k_is)
    (case k_check_skin => k_is)
    (case a_is_end => k_is)
    (case l_is_end => k_is)
    (case c_is_end => k_is)
    (case k_is_end => k_is)
    (case a_least_turn => k_is)
    (case l_least_turn => k_is)
    (case c_least_turn => k_is)
    (case k_least_turn => k_is)
    (case a_is_any_word => k_is)
    (case l_is_any_word => k_is)
    (case c_is_any_word => k_is)
    (case k_is_any_word => k_is)
    (case a_has_letters => k_is)
    (case l_has_letters => k_is)
    (case c_has_letters => k_is)
    (case k_has_letters => k_is)
    (case a_check_word => k_is)
    (case l_check_word => k_is)
    (case c_check_word => k_is)
    (case k_check_word => k_is)
    (case a_cut_free => k_is)
    (case l_cut_free => k_is)
    (case c_cut_free => k_is)
    (case k_cut_free => k_is)
    (case a_gone_back => k_is)
    (case l_gone_back => k_is)
    (case c_gone_back => k_is)
    (case k_gone_back => k_is)
    (case a_closed_letters => k_is)
    (case l_closed_letters => k_is)
    (case c_closed_letters => k_is)
    (case k_closed_letters => k_is)
    (case a_closed_up => k_is)
    (case l_closed_up => k_is)
    (case c_closed_up => k_is)
    (case k_closed_up => k_is)
    (case a_round_of => k_is)
    (case l_round_of => k_is)
    (case c_round_of => k_is)
    (case k_round_of => k_is)
    (case a_is_fit_round => k_is)
    (case l_is_fit_round => k_is)
    (case c_is_fit_round => k_is)
    (case k_is_fit_round => k_is)
    (case a_is_round => k_is)
    (case l_is_round => k_is)
    (case c_is_round => k_is)
    (case k_is_round => k_is)
    (case a_check_round => k_is)
    (case l_check_round => k_is)
    (case c_check_round => k_is)
    (case k_check_round => k_is)
    (case a_gone_round_back => k_is)
    (case l_gone_round_back => k_is)
    (case c_gone_round_back => k_is)
    (case k_gone_round_back => k_is)
    (case a_turned_about => k_is)
    (case l_turned_about => k_is)
    (case c_turned_about => k_is)
    (case k_turned_about => k_is)
    (case a_l_begun => k_is)
    (case l_l_begun => k_is)
    (case c_l_begun => k_is)
    (case k_l_begun => k_is)
    (case a_l_mixed => k_is)
    (case l_l_mixed => k_is)
    (case c_l_mixed => k_is)
    (case k_l_mixed => k_is)
    (case a_l_take => k_is)
    (case l_l_take => k_is)
    (case c_l_take => k_is)
    (case k_l_take => k_is)
    (case a_l_pick => k_is)
    (case l_l_pick => k_is)
    (case c_l_pick => k_is)
    (case k_l_pick => k_is)
    (case a_l_shuffled => k_is)
    (case l_l_shuffled => k_is)
    (case c_l_shuffled => k_is)
    (case k_l_shuffled => k_is)
    (case a_l_caught => k_is)
    (case l_l_caught => k_is)
    (case c_l_caught => k_is)
    (case k_l_caught => k_is)
    (case a_l_skin_error => k_is)
    (case l_l_skin_error => k_is)
    (case c_l_skin_error => k_is)
    (case k_l_skin_error => k_is)
    (case a_l_mate => k_is)
    (case l_l_mate => k_is)
    (case c_l_mate => k_is)
    (case k_l_mate => k_is)
    (case a_l_row => k_is)
    (case l_l_row => k_is)
    (case c_l_row => k_is)
    (case k_l_row => k_is)
    (case a_l_least_turn => k_is)
    (case l_l_least_turn => k_is)
    (case c_l_least_turn => k_is)
    (case k_l_least_turn => k_is)
    (case a_l_freed => k_is)
    (case l_l_freed => k_is)
    (case c_l_freed => k_is)
    (case k_l_freed => k_is)
    (case a_l_undone => k_is)
    (case l_l_undone => k_is)
    (case c_l_undone => k_is)
    (case k_l_undone => k_is)
    (case a_l_rounded => k_is)
    (case l_l_rounded => k_is)
    (case c_l_rounded => k_is)
    (case k_l_rounded => k_is)
    (case a_l_core => k_is)
    (case l_l_core => k_is)
    (case c_l_core => k_is)
    (case k_l_core => k_is)
    (case a_l_is_turn => k_is)
    (case l_l_is_turn => k_is)
    (case c_l_is_turn => k_is)
    (case k_l_is_turn => k_is)
    (case a_l_stripped => k_is)
    (case l_l_stripped => k_is)
    (case c_l_stripped => k_is)
    (case k_l_stripped => k_is)
    (case a_l_led => k_is)
    (case l_l_led => k_is)
    (case c_l_led => k_is)
    (case k_l_led => k_is)
    (case a_l_is_loop => k_is)
    (case l_l_is_loop => k_is)
    (case c_l_is_loop => k_is)
    (case k_l_is_loop => k_is)
    (case a_l_near => k_is)
    (case l_l_near => k_is)
    (case c_l_near => k_is)
    (case k_l_near => k_is)
    (case a_l_judged => k_is)
    (case l_l_judged => k_is)
    (case c_l_judged => k_is)
    (case k_l_judged => k_is)
    (case a_law => k_is)
    (case l_law => k_is)
    (case c_law => k_is)
    (case k_law => k_is)
    (case zabs => k_is)
    (case zall => k_is)
    (case zbool => k_is)
    (case zint => k_is)
    (case zisinstance => k_is)
    (case zlen => k_is)
    (case zlist => k_is)
    (case zmax => k_is)
    (case zmin => k_is)
    (case zrange => k_is)
    (case zrepr => k_is)
    (case zsorted => k_is)
    (case ztuple => k_is)
    (case ztype => k_is)
    (case c_MOST_LETTERS => k_is)
    (case c_MOST_IN_ROUND => k_is)
    (case kSS => kit_is)
    (case kST => kit_is)
    (case kSN => kit_is)
    (case kWW => kit_is)
    (case kSkSk => kit_is)
    (case sWR => k_is)
    (case sSR => k_is)
    (case kLiT => kit_is)
    (case kNoT => kit_is)
    (case kInT => kit_is)
    (case kStT => kit_is)
    (case kBoI => kit_is)
    (case kNoI => kit_is)
    (case kStI => kit_is)
    (case kInB => kit_is)
    (case kRR => kit_is)
    (case sRR => k_is)
    (case tgj => exact PySem.W.km_tabs_of Y _ (List.mem_cons_self))
    (case tcj => exact PySem.W.codeHd_of_K KX (by kernel_rfl))
    (case njj => first | kernel_rfl | rfl)
    (case tgl => exact PySem.W.km_tabs_of Y _ (List.mem_cons_of_mem _ (List.mem_cons_self)))
    (case tcl => exact PySem.W.codeHd_of_K KX (by kernel_rfl))
    (case njl => first | kernel_rfl | rfl)
    (case ne => first | decide | decide +kernel | (intro z; cases z))
