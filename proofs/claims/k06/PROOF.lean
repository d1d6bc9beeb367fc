import PyProof.Rows.All
import Wide.All
import OpenK.AllK
import Wide.FinOn
import HandS.ForMost
import HandS.ForExc
import HandS.More
import HandS.TupAny
import HandS.Conv
import HandS.Style
import HandS.Strs
import HandS.SortInts
import HandS.Sort
import HandS.DeepEq
import HandS.RaiseMore
import HandS.Lambda
import HandS.EndTab
import HandS.IsInst
import HandS.ExcIs
import HandS.ExcField
import HandS.ExcInit
import HandS.ExcValue
import HandS.CallLocal
import HandS.CallSlots
import HandS.Nested
import PyProof.ReprRoads
import PyProof.ReprLen
import KE.DataMinMax
import HandS.TupMul
import PyProof.CallFns
import HandS.Deep
import PySem.Challenge.RW_tautrounds_k06_whole_roots_and_powers
import KE.SortData
import HandS.EndBits
import KE.KNest
import KE.KNestM
import KE.RegKIsAll
set_option Elab.async false
set_option linter.all false
set_option maxRecDepth 100000
set_option maxHeartbeats 4000000
namespace SrtO
open PySem PyProof.Rows Srt
section
variable {prog : Program} {w : World} {A : Around} {E : Value → Shared → Prop} {s : Shared}
theorem tt_collect_tup {l : Addr} {vs : List Value} {Q : List Value → Shared → Prop} (hl : IsTup s.heap l vs.toArray)
    (h : Q vs { s with heap := (s.heap.push (seqObj "list" #[] 0)).update s.heap.objs.size (Obj.mapSeq (· ++ vs.toArray)) }) (hsz : vs.length ≤ sizeLine) :
    wpAny (model prog w) A (collect (.ref l)) Q E s := by
  obtain ⟨o, ho, hc, n, hd⟩ := id hl
  unfold collect
  refine wpAny_bind (wpAny_runValue (codeAny_builtin entry_proto_collect' ?_))
  show wpAny _ _ (do again (.builtin "list.__iadd__" ⟨[← newList [], .ref l], []⟩)) _ _ s
  refine wpAny_bind (wpAny_newList (wpAny_pure ⟨Code.quiet_builtin _ (by decide +kernel), codeAny_builtin entry_list_iadd' ?_⟩))
  show wpAny _ _ (Builtin.List.listExtendWith (.ref s.heap.objs.size) (.ref l) (.ref s.heap.objs.size)) _ _ { s with heap := s.heap.push (seqObj "list" #[] 0) }
  unfold Builtin.List.listExtendWith
  have ho' : (s.heap.push (seqObj "list" #[] 0)).get? l = some o := Heap.get?_push_of_some _ ho
  refine wpAny_bind (wpAny_typeOf (T := "tuple") ⟨o, ho', hc⟩ ?_)
  have ht : (Value.type "tuple" == Value.type "tuple") = true := by rfl
  rw [if_pos (by rw [ht]; simp)]
  refine wpAny_bind (listItems_at ho' hd ?_)
  refine wpAny_bind (listItems_at (xs := #[]) (n := 0) (Heap.get?_push_size _ rfl) rfl ?_)
  rw [if_neg (by simp)]
  refine wpAny_bind (listUpdate_at (xs := #[]) (n := 0) (Heap.get?_push_size _ rfl) rfl ?_ (Nat.zero_le _) (by show (#[] ++ vs.toArray).size ≤ sizeLine + 1; simp only [Array.size_append, List.size_toArray, List.length_nil]; omega))
  refine wpAny_pure ?_
  show wpAny (model prog w) A (do
      let o ← load s.heap.objs.size
      match o.data with
      | .seq xs _ => pure xs.toList
      | _ => unsupported "internal:collect") Q E { s with heap := (s.heap.push (seqObj "list" #[] 0)).update s.heap.objs.size (Obj.mapSeq (· ++ vs.toArray)) }
  refine wpAny_bind (wpAny_load (get?_update_seq (Heap.get?_push_size _ rfl) _) ?_)
  show wpAny _ _ (pure ((#[] : Array Value) ++ vs.toArray).toList) Q E _
  rw [show ((#[] : Array Value) ++ vs.toArray).toList = vs by simp]
  exact wpAny_pure h
theorem tt_sorted_tup {l : Addr} {vs : List Value} {ltv : Value → Value → Bool} {Q : Value → Shared → Prop} (O : Swo ltv) (hl : IsTup s.heap l vs.toArray) (hz : vs.length ≤ sizeLine)
    (hS : 2 ≤ vs.length → ∀ (h₁ : Heap) (a : Addr), h₁.get? a = some (seqObj "list" vs.toArray 0) → (∀ b o, s.heap.get? b = some o → b ≠ a ∧ h₁.get? b = some o) → SortableO prog w A.in1.in1 { s with heap := h₁ } a vs ltv)
    (h : ∀ out : List Value, Srtd ltv out → Stb ltv out vs → Q (.ref (s.heap.objs.size + 1)) { s with heap := sortedAll s.heap vs out.toArray }) :
    wpAny (model prog w) A (call (.builtin "sorted") [.ref l]) Q E s := by
  refine Calls.call_function_entry kind_sorted plain_sorted entry_sorted (args_sorted1 _) ?_
  unfold Builtin.«sorted»
  refine wpAny_bind (m := checkCount "sorted" 1 1 _) (wpAny_pure ?_)
  refine wpAny_bind (tt_collect_tup hl ?_ hz)
  refine wpAny_bind (wpAny_newList ?_ hz)
  have hsz : ((s.heap.push (seqObj "list" #[] 0)).update s.heap.objs.size (Obj.mapSeq (· ++ vs.toArray))).objs.size = s.heap.objs.size + 1 := by
    rw [Heap.size_update, size_push']
  have hoL : (((s.heap.push (seqObj "list" #[] 0)).update s.heap.objs.size (Obj.mapSeq (· ++ vs.toArray))).push (seqObj "list" vs.toArray 0)).get? (s.heap.objs.size + 1) = some (seqObj "list" vs.toArray 0) := by
    rw [← hsz]; exact Heap.get?_push_size _ rfl
  have keep : ∀ b o, s.heap.get? b = some o → b ≠ s.heap.objs.size + 1 ∧ (((s.heap.push (seqObj "list" #[] 0)).update s.heap.objs.size (Obj.mapSeq (· ++ vs.toArray))).push (seqObj "list" vs.toArray 0)).get? b = some o := fun b o q => by
    have hlt : b < s.heap.objs.size := Heap.lt_size q
    refine ⟨Nat.ne_of_lt (Nat.lt_succ_of_lt hlt), Heap.get?_push_of_some _ ?_⟩
    rw [Heap.get?_update_ne _ _ _ _ (Nat.ne_of_lt hlt)]
    exact Heap.get?_push_of_some _ q
  show wpAny _ _ _ _ _ { s with heap := ((s.heap.push (seqObj "list" #[] 0)).update s.heap.objs.size (Obj.mapSeq (· ++ vs.toArray))).push (seqObj "list" vs.toArray 0) }
  rw [hsz]
  refine wpAny_bind (wpAny_holding (wpAny_call_entry slot_list_sort ⟨_, hoL, rfl⟩ entry_list_sort (list_sort_ord O hoL hz (fun h2 => hS h2 _ _ hoL keep) fun out hs hb => ⟨_, rfl, ?_⟩) (args_list_sort _)))
  exact wpAny_pure ⟨_, rfl, h out hs hb⟩
end
end SrtO
namespace L2
open PySem PySem.Spec PyProof.Rows
section
variable {X : Cx}
def rSortedIT (K : PySem.W.Frag) : List V → Hp → VK → Prop := fun vs H Q => ∃ (a : Addr) (ns : List Int), vs = [V.ref a] ∧ SqT K H a (ns.map V.int) ∧
  ∀ (ns' : List Int) (p : Addr), ns'.Perm ns → ns'.Pairwise (· ≤ ·) → H p = none → Q (.ref p) (upd H p (.lst (ns'.map V.int)))
theorem cr_sortedIT : CallR X (.builtin "sorted") (rSortedIT X.K) := by
  intro pins s σ H vs us Q I r h
  obtain ⟨a, ns, rfl, hs, q⟩ := h
  obtain ⟨its, rv, hl, hz⟩ := I.tuple hs
  rw [Vals.ref1 r]
  have hi := rv.ints
  refine SrtO.tt_sorted_tup SrtO.swo_int hl (by rw [← rv.length]; exact hz) (fun h2 h₁ a' _ _ => SrtO.ints_sortable hi h2) fun out h1 h2 => ?_
  obtain ⟨k1, k2, k3⟩ := SrtO.ints_out hi h1 h2
  obtain ⟨ep, he'⟩ := PyProof.Rows.sortedAll_at s.heap its out.toArray
  have hlen : ((out.map SrtO.iv).map V.int).length ≤ sizeLine := by
    rw [List.length_map, k2.length_eq]
    rw [List.length_map] at hz
    exact hz
  exact ⟨.ref _, upd H (s.heap.objs.size + 1) (.lst ((out.map SrtO.iv).map V.int)), I.laid (t' := s.toks) (fun _ _ => PyProof.Rows.sortedAll_old) (Nat.le_succ _) ⟨hlen, out, ep, vals_of_ints k1, he'⟩, rfl, q _ _ k2 k3 (I.hok.fresh (Nat.le_succ _))⟩
def rSortedS2 (K : PySem.W.Frag) : List V → Hp → VK → Prop := fun vs H Q => rSortedI K vs H Q ∨ rSortedIT K vs H Q
theorem cr_sortedS2 : CallR X (.builtin "sorted") (rSortedS2 X.K) := by
  intro pins s σ H vs us Q I r h
  rcases h with h | h
  · exact cr_sortedI pins s σ H vs us Q I r h
  · exact cr_sortedIT pins s σ H vs us Q I r h
theorem mt_tup_indexI : MtR X "tuple.index" (fun x xs H Q => ∃ p, ∃ ys : List Int, ∃ z j, x = .ref p ∧ xs = [.int z] ∧ SqT X.K H p (ys.map V.int) ∧ ys[j]? = some z ∧ (∀ m, m < j → ys[m]? ≠ some z) ∧ Q (.int (j : Nat)) H) := by
  intro pins s σ H x xs v us Q I rx rs h
  obtain ⟨p, ys, z, j, rfl, rfl, hq, hy, hno, q⟩ := h
  cases rx
  obtain ⟨u, rfl, t, rfl⟩ := vals1 rs
  obtain ⟨its, r, pl, hz⟩ := I.tuple hq
  obtain ⟨⟨cls, dd, dt, sl⟩, ho, hc, n, hd⟩ := pl
  simp only at hc hd
  subst hc
  subst hd
  have hl : its.toArray.size = ys.length := by rw [List.size_toArray, ← r.length, List.length_map]
  have hj : j < its.toArray.size := by rw [hl]; exact (List.getElem?_eq_some_iff.mp hy).1
  have at' : ∀ (m : Nat) (hm : m < its.toArray.size), ∃ y t', ys[m]? = some y ∧ its.toArray[m] = Value.int y t' := fun m hm => by
    have hm' : m < ys.length := by rw [← hl]; exact hm
    obtain ⟨w, hw, t', hw'⟩ := r.get (i := m) (x := .int ys[m]) (by simp [hm'])
    refine ⟨ys[m], t', List.getElem?_eq_getElem hm', ?_⟩
    have e := (List.getElem?_eq_some_iff.mp hw).2
    rw [← hw', ← e]
    simp
  have flat : ∀ ys : List Int, (ys.map V.int).all flatV = true := fun ys => by
    induction ys with
    | nil => rfl
    | cons a b ih => rw [List.map_cons, List.all_cons, ih]; rfl
  refine call_meets PySem.F.slot_tuple_index ⟨_, ho, rfl⟩ PySem.F.entry_tuple_index (PySem.F.args_tuple_index_2 _ _) (TI.tuple_indexAt p its.toArray n dd sl (.int z t) (eqU (.int z)) j hj ?_ ?_)
    ⟨ho, fun w hw => mem_eqAt (x := .int z) ⟨t, rfl⟩ rfl r (flat ys) w (by simpa using hw), ⟨.int (j : Nat), H, I.tok _, ⟨_, rfl⟩, q⟩⟩
  · obtain ⟨y, t', h1, h2⟩ := at' j hj
    rw [hy] at h1
    cases h1
    rw [h2]
    show (z == z) = true
    exact beq_self_eq_true z
  · intro m hm hmj
    obtain ⟨y, t', h1, h2⟩ := at' m hm
    rw [h2]
    show (y == z) = false
    exact beq_eq_false_iff_ne.mpr fun e => hno m hmj (by rw [h1, e])
end
end L2
set_option maxRecDepth 100000
set_option maxHeartbeats 4000000
namespace HT
open PySem PySem.Spec PyProof.Rows
section
variable {prog : Program} {w : World} {A : Around} {E : Value → Shared → Prop} {s : Shared}
theorem tt_adjust_rev (n : Nat) : Builtin.Slice.sliceAdjust none none (-1) (n : Int) = ((n : Int) - 1, -1) := by
  unfold Builtin.Slice.sliceAdjust
  simp only [show (-1 : Int) < 0 by decide, if_true]
theorem tt_places_rev (n : Nat) : Builtin.Slice.slicePlaces ((n : Int) - 1) (-1) (-1) = n := by
  unfold Builtin.Slice.slicePlaces
  simp only [show ¬ ((-1 : Int) > 0) by decide, if_false, Int.neg_neg, Int.ediv_one]
  split <;> omega
theorem tt_applied_rev {sl : Addr} {vs : Value} {n : Nat} {Q : Int × Int × Nat → Shared → Prop} (hs : s.heap.IsSliceOf sl .none .none vs) (ps : IsPart vs (some (-1)))
    (h : Q ((n : Int) - 1, -1, n) s) : wpAny (model prog w) A (Builtin.Slice.sliceApplied (.ref sl) (pure (n : Int))) Q E s := by
  obtain ⟨os, hos, hcs, hds⟩ := id hs
  unfold Builtin.Slice.sliceApplied Builtin.Slice.sliceFields
  refine wpAny_bind (wpAny_bind (wpAny_field hos hds (x := .none) rfl (wpAny_bind (wpAny_field hos hds (x := .none) rfl (wpAny_bind (wpAny_field hos hds (x := vs) rfl (wpAny_pure ?_)))))))
  refine wpAny_bind (slicePart_ ps ?_)
  show wpAny _ _ (if ((-1 : Int) == 0) = true then _ else _) _ _ s
  rw [if_neg (by decide)]
  refine wpAny_bind (slicePart_ .none (wpAny_bind (slicePart_ .none (wpAny_bind (wpAny_pure ?_)))))
  show wpAny _ _ (match Builtin.Slice.sliceAdjust none none (-1) (n : Int) with | (lo, hi) => pure (lo, (-1 : Int), Builtin.Slice.slicePlaces lo hi (-1))) _ _ s
  rw [tt_adjust_rev n]
  show wpAny _ _ (pure ((n : Int) - 1, (-1 : Int), Builtin.Slice.slicePlaces ((n : Int) - 1) (-1) (-1))) _ _ s
  rw [tt_places_rev n]
  exact wpAny_pure h
theorem tt_fm {α β : Type} {f g : α → Option β} : ∀ {l : List α}, (∀ x ∈ l, f x = g x) → l.filterMap f = l.filterMap g
  | [], _ => rfl
  | a :: l, h => by
    rw [List.filterMap_cons, List.filterMap_cons, h a List.mem_cons_self, tt_fm fun x hx => h x (List.mem_cons_of_mem _ hx)]
theorem tt_pick_rev (xs : Array Value) : ((List.range xs.size).filterMap fun (m : Nat) => xs[(((xs.size : Int) - 1) + (m : Int) * (-1)).toNat]?).toArray = xs.toList.reverse.toArray := by
  have e : (List.range xs.size).filterMap (fun (m : Nat) => xs[(((xs.size : Int) - 1) + (m : Int) * (-1)).toNat]?) = xs.toList.reverse := by
    have h1 : ∀ m ∈ List.range xs.size, xs[(((xs.size : Int) - 1) + (m : Int) * (-1)).toNat]? = some (xs.toList.reverse.getD m .none) := fun m hm => by
      have hm := List.mem_range.mp hm
      have e1 : (((xs.size : Int) - 1) + (m : Int) * (-1)).toNat = xs.size - 1 - m := by omega
      rw [e1, List.getD_eq_getElem?_getD, List.getElem?_reverse (by simpa using hm)]
      have e2 : xs.size - 1 - m < xs.size := by omega
      simp [e2]
    have h2 : (List.range xs.size).filterMap (fun (m : Nat) => xs[(((xs.size : Int) - 1) + (m : Int) * (-1)).toNat]?) = (List.range xs.size).map fun m => xs.toList.reverse.getD m .none := by
      rw [← List.filterMap_eq_map]
      exact tt_fm h1
    rw [h2]
    refine List.ext_getElem? fun i => ?_
    rw [List.getElem?_map]
    by_cases hi : i < xs.size
    · rw [List.getElem?_range hi]
      have : i < xs.toList.reverse.length := by simpa using hi
      rw [List.getElem?_eq_getElem this]
      simp [List.getD_eq_getElem?_getD, List.getElem?_eq_getElem this]
    · rw [List.getElem?_eq_none (by simpa using hi), List.getElem?_eq_none (by simpa using hi)]
      rfl
  rw [e]
theorem tt_getItem_tuple_rev {t sl : Addr} {items : Array Value} {vs : Value} {Q : Value → Shared → Prop} (ht : IsTup s.heap t items) (hs : s.heap.IsSliceOf sl .none .none vs) (ps : IsPart vs (some (-1)))
    (h : Q (.ref s.heap.objs.size) { s with heap := s.heap.push { cls := .type "tuple", data := .seq items.toList.reverse.toArray } })
    (hsz : items.size ≤ sizeLine) : wpAny (model prog w) A (getItem (.ref t) (.ref sl)) Q E s := by
  have htake : sizeOk (.seq items.toList.reverse.toArray) := by
    show items.toList.reverse.toArray.size ≤ sizeLine
    rw [List.size_toArray, List.length_reverse, Array.length_toList]
    exact hsz
  obtain ⟨os, hos, hcs, hds⟩ := id hs
  have hTs : s.TypeIs (.ref sl) "slice" := ⟨os, hos, hcs⟩
  unfold getItem
  try with_reducible refine wpAny_holding ?_
  first | refine wpAny_bind (wpAny_pure ?_) | skip
  refine wpAny_bind (wpAny_sequenceKey ht.typeIs (by decide) ?_)
  refine wpAny_bind (wpAny_callSpecial?_slot (name := Str.ofString "__getitem__") ht.typeIs PyProof.Rows.slot_tuple_getitem
    (wpAny_call_entry PyProof.Rows.slot_tuple_getitem ht.typeIs entry_tuple_getitem ?_ (args_tuple_getitem _ _)))
  show wpAny _ _ (Builtin.Tuple.tupleItemsOf (.ref t) >>= _) _ _ s
  refine wpAny_bind (tupleItemsOf_ ht ?_)
  refine wpAny_bind (wpAny_typeOf hTs ?_)
  rw [if_pos (by decide)]
  refine wpAny_bind (tt_applied_rev hs ps ?_)
  have hno : ¬ (((items.size : Int) - 1 == 0 && (-1 : Int) == 1 && items.size == items.size) = true) := by
    intro q
    rw [Bool.and_eq_true, Bool.and_eq_true] at q
    exact absurd q.1.2 (by decide)
  show wpAny _ _ (if ((items.size : Int) - 1 == 0 && (-1 : Int) == 1 && items.size == items.size) = true then _ else _) _ _ s
  rw [if_neg hno, tt_pick_rev]
  first
    | exact wpAny_bind (m := Builtin.Tuple.tupleExact _) (wpAny_newObj_type (wpAny_pure ⟨_, rfl, wpAny_pure h⟩) htake)
    | exact wpAny_bind (m := Builtin.Tuple.tupleExact _) (wpAny_newObj_type (wpAny_bind (wpAny_pure (wpAny_pure ⟨_, rfl, wpAny_pure h⟩))) htake)
    | exact wpAny_bind (wpAny_bind (m := Builtin.Tuple.tupleExact _) (wpAny_newObj_type (wpAny_pure (wpAny_pure ⟨_, rfl, wpAny_pure h⟩)) htake))
    | exact wpAny_bind (wpAny_bind (m := Builtin.Tuple.tupleExact _) (wpAny_newObj_type (wpAny_pure ⟨_, rfl, wpAny_pure h⟩) htake))
end
end HT
namespace L2
open PySem PySem.Spec PyProof.Rows
section
variable {X : Cx}
def tRevT (K : PySem.W.Frag) (te : TE) : TE := fun σ H Q => te σ H fun x H1 => ∃ a xs, x = .ref a ∧ SqT K H1 a xs ∧ ∀ p, H1 p = none → Q (.ref p) (upd H1 p (.tup xs.reverse))
theorem pe_revT {e : Expr} {te : TE} {k : Nat} {p1 p2 p3 pos : Pos} (he : PE X e te) : PE X (.Subscript e (.Slice none none (some (.UnaryOp .USub (.Constant (.int 1) k p1) p2)) p3) pos) (tRevT X.K te) := by
  refine ⟨fun pins s σ H Q I h => ?_⟩
  refine Subscript_ (thn (he.run pins s σ H _ I h) fun v s1 ⟨x, H1, I1, r1, q1⟩ => ?_)
  obtain ⟨a, xs, ex, hx, q⟩ := q1
  subst ex
  cases r1
  have hst : PO X (some (.UnaryOp .USub (.Constant (.int 1) k p1) p2)) (tPart (tUn (rU fun i => .int (-i)) (tC (.int 1)))) := po_some (pe_un un_neg pe_int)
  refine wpAny_Slice (wpAny_pure ?_)
  refine wpAny_pure ?_
  refine thn (hst.run pins s1 σ H1 (fun o H4 => o = some (-1) ∧ H4 = H1) I1 ⟨1, rfl, -1, rfl, rfl, rfl⟩) fun vs s4 ⟨o, H4, I4, ps, eo, e4⟩ => ?_
  subst eo e4
  have I5 : Inv X pins σ H4 { s4 with heap := s4.heap.push { cls := .type "slice", data := .fields #[.none, .none, vs] } } := I4.kept (t' := s4.toks) fun b ob q => Heap.get?_push_of_some _ q
  obtain ⟨its, r, ht, hz⟩ := I5.tuple hx
  have hlen := r.length
  show wpAny (model X.prog X.w) X.A (subscriptTail e (.Slice none none (some (.UnaryOp .USub (.Constant (.int 1) k p1) p2)) p3) (.ref a) (.ref s4.heap.objs.size)) (EP X pins σ Q) X.xe { s4 with heap := s4.heap.push { cls := .type "slice", data := .fields #[.none, .none, vs] } }
  refine tail_any (ops := [.ref a, .ref s4.heap.objs.size]) ht.typeIs (PyProof.Rows.slot_tuple_getitem.lookup) ?_ (by with_unfolding_all rfl)
  refine HT.tt_getItem_tuple_rev ht (Heap.IsSliceOf.new _ .none .none vs) ps ?_ (by rw [List.size_toArray]; omega)
  refine ⟨.ref _, _, I5.laid (t' := s4.toks) (o := .tup xs.reverse) (fun b ob q => Heap.get?_push_of_some _ q) (Nat.le_refl _) ?_, rfl, q _ (I5.hok.fresh (Nat.le_refl _))⟩
  exact ⟨by rw [List.length_reverse]; exact hz, _, r.reverse, IsTup.new _ _⟩
end
section
variable {X : Cx} {K : PySem.W.Frag}
theorem ix_listK (h : X.K = K) : IxR X (rIxL K) := by subst h; exact ix_list
theorem ix_tupK (h : X.K = K) : IxR X (rIxT K) := by subst h; exact ix_tup
theorem call_len_seqK (h : X.K = K) : CallR X (.builtin "len") (fun xs H Q => ∃ p ys, xs = [.ref p] ∧ (SqL K H p ys ∨ SqT K H p ys) ∧ Q (.int ys.length) H) := by subst h; exact call_len_seq
theorem op_in_seqK (h : X.K = K) : OpR X (compareOp .In) (rIn K false) := by subst h; exact op_in_seq
theorem op_notIn_seqK (h : X.K = K) : OpR X (compareOp .NotIn) (rIn K true) := by subst h; exact op_notIn_seq
theorem op_eqDK (h : X.K = K) (hu : X.A.units + 64 < cLine) : OpR X (compareOp .Eq) (rEqD K) := by subst h; exact op_eqD hu
theorem op_neDK (h : X.K = K) (hu : X.A.units + 64 < cLine) : OpR X (compareOp .NotEq) (rNeD K) := by subst h; exact op_neD hu
theorem op_catAK (h : X.K = K) : OpR X (binaryOp .Add) (rCatA K) := by subst h; exact op_catA
theorem sl_listK (h : X.K = K) : SlR X (rSlL K) := by subst h; exact sl_list
theorem sl_tupAK (h : X.K = K) : SlR X (rSlA K) := by subst h; exact sl_tupA
theorem call_tuple_ofK (h : X.K = K) : CallR X (.type "tuple") (fun xs H Q => ∃ p ys, xs = [.ref p] ∧ ((SqL K H p ys ∧ ∀ l, H l = none → Q (.ref l) (upd H l (.tup ys))) ∨ (SqT K H p ys ∧ Q (.ref p) H))) := by subst h; exact call_tuple_of
theorem call_list_ofK (h : X.K = K) : CallR X (.type "list") (fun xs H Q => ∃ p ys, xs = [.ref p] ∧ (SqL K H p ys ∨ SqT K H p ys) ∧ ∀ l, H l = none → Q (.ref l) (upd H l (.lst ys))) := by subst h; exact call_list_of
theorem call_type1K (h : X.K = K) : CallR X (.type "type") (rTyp K) := by subst h; exact call_type1
theorem pe_fldK {e : Expr} {ta : TE} {f : Str} {pos : Pos} (h : X.K = K) (he : PE X e ta) (hb : attributeBase e f X.env (eval e X.env) = eval e X.env) : PE X (.Attribute e f pos) (tFld K ta f) := by subst h; exact pe_fld he hb
theorem mt_tup_indexIK (h : X.K = K) : MtR X "tuple.index" (fun x xs H Q => ∃ p, ∃ ys : List Int, ∃ z j, x = .ref p ∧ xs = [.int z] ∧ SqT K H p (ys.map V.int) ∧ ys[j]? = some z ∧ (∀ m, m < j → ys[m]? ≠ some z) ∧ Q (.int (j : Nat)) H) := by subst h; exact mt_tup_indexI
theorem pe_bmK {T name id : String} {r : V → List V → Hp → VK → Prop} {o e : Expr} {es : List Expr} {to : TE} {t : TA} {apos cpos : Pos} (hk : X.K = K) (pa : PlainAttrs T) (slot : Slot T name id) (hty : typeOf (.builtin id) = pure (.type "method_descriptor")) (hm : MtR X id r) (ho : PE X o to) (ha : PA X (e :: es) t)
    (hbase : attributeBase o name X.env (eval o X.env) = eval o X.env := by rfl)
    (hfew : ((backTo cpos (starEach (e :: es) X.env)).all (fun x => !x.1) && (backToKw cpos (keywordEach [] X.env)).all (fun x => x.1.isSome)
      && decide ((e :: es).length + ([] : List Keyword).length + (if ([] : List Keyword).isEmpty then 0 else 1) < 30)) = true := by rfl)
    (hline : (apos.endLine == cpos.line) = true := by rfl) (hpl : (backTo cpos (starEach es X.env)).any (·.1) = false := by rfl) (hs : starEach (e :: es) X.env = (false, eval e X.env) :: starEach es X.env := by rfl) :
    PE X (.Call (.Attribute o name apos) (e :: es) [] cpos) (tBM K T r to t) := by
  subst hk
  first
    | exact pe_bm pa slot hty hm ho ha hbase hfew hline hpl hs
    | exact pe_bm pa slot hty hm ho ha hbase hfew hline hs hpl
    | exact pe_bm pa slot hty hm ho ha hbase hfew hline
    | exact pe_bm pa slot hty hm ho ha
end
end L2
set_option maxRecDepth 100000
set_option maxHeartbeats 4000000
namespace PySem.W
open PySem PySem.Spec PySem.Calls PyProof.Rows
section
variable {prog : Program} {w : World} {A : Around} {E : Value → Shared → Prop} {s : Shared} {K : Frag} {x D : Addr} {ox : Obj}
theorem tt_findObj_data {C : Addr} {od : Option Obj} {name : Str} {a g : Value} (hc : (clsIn K C).isSome = true) (ha : findIn K (.ref C) name = some (some a)) (hg : specialIn K a "__get__" = some (some g)) (ht : takesIn K a = some true) : findObj K C od name = some (.bind g a) := by
  obtain ⟨cd, hc⟩ := Option.isSome_iff_exists.mp hc
  unfold findObj
  rw [hc, Option.bind_some, ha, Option.bind_some]
  simp [hg, ht]
theorem tt_kin_classE {od : Option Obj} {Q : Option Value → Shared → Prop} (hga : findIn K (.ref D) "__getattribute__" = some (some (.builtin "BaseException.__getattribute__"))) (hgt : findIn K (.ref D) "__getattr__" = some none) (hsub : subIn K (.ref D) (.type "BaseException") = some true)
    (hdct : hasDictIn K D = true) (ha : findIn K (.ref D) "__class__" = some (some (.builtin "object.__class__")))
    (hn : specialIn K (.builtin "object.__class__") "__get__" = some (some (.builtin "getset_descriptor.__get__"))) (htk : takesIn K (.builtin "object.__class__") = some true) (hm : mroIn K D (.type "object") = some true)
    (X : K.In s.heap) (I : InstAt s.heap x ox D od) (h : Q (some (.ref D)) { s with toks := s.toks + 1 }) : wpAny (model prog w) A (getAttr? (.ref x) "__class__") Q E s := by
  have hf : findObj K D od "__class__" = some (.bind (.builtin "getset_descriptor.__get__") (.builtin "object.__class__")) := tt_findObj_data (by obtain ⟨cd, hc, _⟩ := any_some hdct; rw [hc]; rfl) ha hn htk
  obtain ⟨hp, g, d, t, os⟩ := s
  have L0 := I.type (M := model prog w)
  have L1 := looks_findIn (M := model prog w) X hga
  have L2 := looks_findIn (M := model prog w) X hgt
  have L3 := looks_find (M := model prog w) X I hf
  have sub : Looks (model prog w) hp (isInstance (.ref x) (.type "BaseException")) true := L0.andThen (looks_subIn X hsub)
  have hx0 : (false && onTheHeap (Value.builtin "BaseException.__getattribute__")) = false := rfl
  have hx2 : (Value.builtin "BaseException.__getattribute__" == Value.builtin "object.__getattribute__") = false := by decide +kernel
  have hx1 : (onTheHeap (Value.ref D) && Value.builtin "BaseException.__getattribute__" == Value.builtin "object.__getattribute__") = false := by rw [hx2]; rfl
  unfold getAttr? getAttrBy? getAttrBy
  refine wpAny_bind (wpAny_mkText (wpAny_bind (wpAny_attempt (wpAny_holding (wpAny_bind (L0.at (wpAny_bind (L1.at ?_))))))))
  show wpAny _ _ (if (onTheHeap (Value.ref D) && Value.builtin "BaseException.__getattribute__" == Value.builtin "object.__getattribute__") = true then _ else _) _ _ _
  rw [hx1, if_neg Bool.false_ne_true]
  unfold getAttrByItsOwn hookBefore
  refine wpAny_bind ?_
  rw [if_pos (show onTheHeap (Value.ref D) = true from rfl)]
  refine L2.at ?_
  refine wpAny_bind (wpAny_attempt (wpAny_holding ?_))
  unfold callGetattribute
  rw [hx0, if_neg Bool.false_ne_true]
  unfold boundAndCalled
  rw [PySem.F.excAttr_ValueError.ga.bind (.ref x)]
  refine wpAny_bind (wpAny_pure ?_)
  show wpAny _ _ (call (.builtin "BaseException.__getattribute__") [.ref x, .str "__class__" t]) _ _ _
  refine wpAny_call (codeAny_call_builtin PySem.F.excAttr_ValueError.ga.plain PySem.F.entry_bexc_ga ?_)
  refine @check_slot (model prog w) _ _ ⟨hp, g, d, t + 1, os⟩ "BaseException.__getattribute__" "BaseException" "__getattribute__" (.ref x) [.str "__class__" t] [] _ (by decide +kernel) (by decide +kernel) sub (PySem.F.args_bexc_ga (.ref x) (.str "__class__" t)) ?_
  unfold Builtin.«object.__getattribute__»
  refine wpAny_bind (wpAny_of_eq (a := ((Value.ref x : Value), [Value.str "__class__" t])) (by first | rfl | (simp only [slotArgs]; rfl)) ?_)
  refine wpAny_bind (wpAny_pure (wpAny_bind (L0.at (wpAny_bind (L3.at ?_)))))
  show wpAny _ _ (holding [Value.builtin "object.__class__"] (call (.builtin "getset_descriptor.__get__") [.builtin "object.__class__", .ref x, .ref D]) >>= ret) _ _ _
  refine wpAny_bind (wpAny_holding (wpAny_call (class_get (s := ⟨hp, g, d, t + 1, os⟩) (ox := ox) (od := od) X I hm ?_)))
  refine wpAny_pure ?_
  show wpAny _ _ (handedOut (.ref D)) _ _ _
  rw [handedOut_of (v := .ref D) rfl]
  first
    | exact wpAny_pure (wpAny_pure h)
    | exact wpAny_pure h
    | exact wpAny_pure (wpAny_bind (wpAny_pure (wpAny_pure h)))
theorem tt_kitx_exc {od : Option Obj} (hga : findIn K (.ref D) "__getattribute__" = some (some (.builtin "BaseException.__getattribute__"))) (hgt : findIn K (.ref D) "__getattr__" = some none) (hsub : subIn K (.ref D) (.type "BaseException") = some true) (hdct : hasDictIn K D = true) (ha : findIn K (.ref D) "__class__" = some (some (.builtin "object.__class__")))
    (hn : specialIn K (.builtin "object.__class__") "__get__" = some (some (.builtin "getset_descriptor.__get__"))) (htk : takesIn K (.builtin "object.__class__") = some true) (hm : mroIn K D (.type "object") = some true) :
    KitX K (.ref x) (.ref D) (fun h => InstAt h x ox D od) where
  ty := fun _ _ _ I => I.type
  it := fun _ _ X _ => by
    obtain ⟨cdD, hcD, _⟩ := any_some hdct
    unfold clsIn at hcD
    split at hcD
    · rename_i c' d' cd' sl' ho
      intro A' Q' E' s' k q
      unfold isType loadHead
      exact wpAny_bind (wpAny_loadPart (k _ _ (X _ _ ho)) (wpAny_pure q))
    · cases hcD
  ne := fun h tp dd its n sl X htp => by
    obtain ⟨cdD, hcD, _⟩ := any_some hdct
    refine Bool.eq_false_iff.mpr fun q => ?_
    have e : D = tp := Value.ref.inj (beq_iff_eq.mp q)
    subst e
    unfold clsIn at hcD
    split at hcD
    · rename_i c' d' cd' sl' ho
      have z := (X _ _ ho).symm.trans htp
      cases z
    · cases hcD
  ca := fun X I k => tt_kin_classE hga hgt hsub hdct ha hn htk hm X I k
end
end PySem.W
namespace L2
open PySem PySem.Spec PyProof.Rows
def exh (cls : Value) (d : Option Addr) (a : Addr) : HO := .ext fun h => ∃ (oe : Obj) (vs : Array Value), h.get? a = some oe ∧ Zc cls d oe ∧ oe.data = .fields vs
theorem exh_ok {P : Program} {w : World} {H : Hp} {h : Heap} {a : Addr} {cls : Value} {d : Option Addr} {oe : Obj} {vs : Array Value} (e : h.get? a = some oe) (z : Zc cls d oe) (hd : oe.data = .fields vs) : ObjOk P w H h a (exh cls d a) :=
  ⟨⟨oe, vs, e, z, hd⟩, ⟨oe, e⟩, fun _ _ ⟨o, v, q, r⟩ k => ⟨o, v, k o q, r⟩⟩
theorem exh_at {P : Program} {w : World} {H : Hp} {h : Heap} {a : Addr} {cls : Value} {d : Option Addr} (hok : HOk P w H h) (e : H a = some (exh cls d a)) : ∃ (oe : Obj) (vs : Array Value), h.get? a = some oe ∧ Zc cls d oe ∧ oe.data = .fields vs := by
  have x : ObjOk P w H h a (.ext fun h => ∃ (oe : Obj) (vs : Array Value), h.get? a = some oe ∧ Zc cls d oe ∧ oe.data = .fields vs) := hok a _ e
  exact x.1
def XdOk (H : Hp) (d : Option Addr) : Prop := d = none ∨ ∃ (dd : Addr) (fs : List (Str × V)), d = some dd ∧ H dd = some (.xd fs)
section
variable {X : Cx} {pins : List (Addr × Obj)} {σ : St} {H : Hp} {s : Shared}
theorem exh_inst {a D : Addr} {d : Option Addr} (I : Inv X pins σ H s) (e : H a = some (exh (.ref D) d a)) (hd : XdOk H d) : ∃ (oe : Obj) (od : Option Obj), PySem.W.InstAt s.heap a oe D od := by
  obtain ⟨⟨oc, odc, oda, osl⟩, vs, h1, ⟨h2, h3⟩, h4⟩ := exh_at I.hok e
  dsimp only at h2 h3 h4
  subst h2 h3 h4
  rcases hd with rfl | ⟨dd, fs, rfl, ed⟩
  · exact ⟨_, none, ⟨h1, rfl, rfl, trivial⟩⟩
  · have hx : ObjOk X.prog X.w H s.heap dd (.xd fs) := I.hok dd _ ed
    obtain ⟨mA, ⟨o, _, _, ho, _⟩, _⟩ := hx
    exact ⟨_, some o, ⟨h1, rfl, rfl, ho⟩⟩
def rIsH (K : PySem.W.Frag) : List V → Hp → VK → Prop := fun xs H Q => ∃ (a D : Addr) (d : Option Addr) (c : V) (cv : Value) (b : Bool), xs = [.ref a, c] ∧ H a = some (exh (.ref D) d a) ∧ XdOk H d ∧ ExcC K D ∧ ClsV c cv ∧ PySem.W.kitOne K (.ref D) cv = some b ∧ Q (.bl b) H
theorem call_isH : CallR X (.builtin "isinstance") (rIsH X.K) := by
  intro pins s σ H xs us Q I r h
  obtain ⟨a, D, d, c, cv, b, rfl, ea, hd, C, hc, e, q⟩ := h
  cases r with
  | cons rx rr =>
    cases rr with
    | cons rt rr =>
      cases rr
      cases rx
      have ec := hc.eq rt
      subst ec
      obtain ⟨oe, od, J⟩ := exh_inst I ea hd
      exact PySem.W.kia_one (PySem.W.tt_kitx_exc C.hg C.hk C.hs C.hd C.ha C.hn C.ht C.hm) I.kIn J e (fun z => nomatch z) fun tk => ⟨.bl b, H, I.kept (t' := tk) fun _ _ z => z, rfl, q⟩
def rIsA (K : PySem.W.Frag) : List V → Hp → VK → Prop := fun xs H Q => rIsH K xs H Q ∨ rIsi K xs H Q
theorem call_isA : CallR X (.builtin "isinstance") (rIsA X.K) := by
  intro pins s σ H xs us Q I r h
  rcases h with h | h
  · exact call_isH pins s σ H xs us Q I r h
  · exact call_isi pins s σ H xs us Q I r h
def tXfH (K : PySem.W.Frag) (n : Str) (te : TE) : TE := fun σ H Q => te σ H fun x H1 => ∃ (a C dd : Addr) (fs : List (Str × V)) (v : V), x = .ref a ∧ H1 a = some (exh (.ref C) (some dd) a) ∧ H1 dd = some (.xd fs) ∧ XfC K C ∧ PySem.W.findIn K (.ref C) n = some none ∧ fs.lookup n = some v ∧ Q v H1
theorem pe_xfH {e : Expr} {te : TE} {pos : Pos} {n : Str} (he : PE X e te) (hb : attributeBase e n X.env (eval e X.env) = eval e X.env := by rfl) :
    PE X (.Attribute e n pos) (tXfH X.K n te) := by
  refine ⟨fun pins s σ H Q I h => ?_⟩
  refine attr_of hb (thn (he.run pins s σ H _ I h) fun u s1 hh => ?_)
  obtain ⟨x, H1, I1, rx, a, C, dd, fs, v, ex, ea, ed, T, hno, l, q⟩ := hh
  subst ex
  obtain rfl : u = Value.ref a := rx
  obtain ⟨oe, vs, ha, hz, hd⟩ := exh_at I1.hok ea
  have hx : ObjOk X.prog X.w H1 s1.heap dd (.xd fs) := I1.hok dd _ ed
  obtain ⟨mA, hns, hr⟩ := hx
  obtain ⟨od, ho, hl⟩ := lookIn_ns hns
  obtain ⟨u, hu, ru⟩ := RelO.some_of (v := v) (o := mA n) (by rw [← l]; exact hr n)
  have J : PySem.W.InstAt s1.heap a oe C (some od) := ⟨ha, hz.1, by unfold PySem.W.notCls; rw [hd] <;> rfl, by rw [hz.2]; exact ho⟩
  exact HandSPX.exc_get I1.kIn J T.ga T.gg T.exC (PySem.W.findObj_own T.hdC hno rfl (by rw [hl, hu])) (handed_of ru) ⟨v, H1, I1.tok _, ru, q⟩
theorem Inv.adopt {a : Addr} {o : Obj} {φ : Heap → Prop} (I : Inv X pins σ H s) (he : s.heap.get? a = some o) (na : H a = none) (n0 : X.s_0.heap.get? a = none) (nL : a ≠ X.env.locals) (np : ∀ p ∈ X.pn ++ pins, p.1 ≠ a)
    (nc : ∀ x c, X.env.cells.lookup x = some c → c ≠ a) (ok : ObjOk X.prog X.w (upd H a (.ext φ)) s.heap a (.ext φ)) : Inv X pins σ (upd H a (.ext φ)) s := by
  refine ⟨I.ok, I.os, I.bare, ⟨I.base.keep, I.base.slot, fun b u q n hx => ?_, I.base.there, fun b xs q => ?_, fun b u v q => ?_, fun b ps q => ?_⟩, I.loc, I.cell, ?_, fun x c e => ?_, fun p hp => ?_, fun b u e => ?_, I.len⟩
  · rw [upd_ne (fun z => by rw [z, n0] at q; cases q)]
    exact I.base.free b u q n hx
  · have z := I.base.tups b xs q
    rw [upd_ne (ne_of_none z na)]
    exact z
  · have z := I.base.frzs b u v q
    rw [upd_ne (ne_of_none z na)]
    exact z
  · obtain ⟨m, z⟩ := I.base.tbls b ps q
    exact ⟨m, by rw [upd_ne (ne_of_none z na)]; exact z⟩
  · rw [upd_ne nL.symm]
    exact I.free
  · rw [upd_ne (nc x c e)]
    exact I.freeC x c e
  · obtain ⟨e1, e2, e3⟩ := I.pin p hp
    exact ⟨e1, by rw [upd_ne (np p hp)]; exact e2, e3⟩
  · by_cases hb : b = a
    · subst hb
      rw [upd_same] at e
      cases e
      exact ok
    · rw [upd_ne hb] at e
      exact (I.hok b u e).stay (fun c v _ q => q) (fun c q => by rw [upd_ne (ne_of_none q na)]; exact q) fun c xs q => by rw [upd_ne (ne_of_none q na)]; exact q
end
end L2
set_option maxRecDepth 100000
set_option maxHeartbeats 4000000
namespace L2
open PySem PySem.Spec PyProof.Rows
def wKeep (K : PySem.W.Frag) (c : Value) (i : Nat) (ts : Addr → Value → Option Addr → TS) (Wout : WX) (D : Ends) : WX := fun cls d σ H =>
  ∃ b, PySem.W.exmOne K cls c = some b ∧ (b = true → ∀ a, H a = none → ts a cls d { nx := fun σ' H' => H' a = none ∧ D.nx (σ'.set i none) (upd H' a (exh cls d a)), rt := fun _ _ => False, bk := fun _ _ => False, ct := fun _ _ => False } (σ.set i (some (.ref a))) H) ∧
    (b = false → Wout cls d σ H)
section
variable {X : Cx} {x n : Str} {c : Value} {i : Nat} {body suite : List Stmt} {b₀ : Stmt} {np pos pos' : Pos} {tb : WX → TS} {ts : Addr → Value → Option Addr → TS} {Wout : WX}
theorem ps_try_keep (hs : X.stack = X.env :: X.outer) (hf : X.env.frame = some X.env.locals) (hex : X.ex = []) (hN : X.N.Nodup) (hi : X.N[i]? = some n) (hln : X.env.kindOf n = some .local) (hc : Names X x c) (tk : Takes X Wout)
    (hb : ∀ (W : WX) (pn : List (Addr × Obj)) (xe : Value → Shared → Prop), Takes (X.tr pn xe) W → PassesOwn (model X.prog X.w) X.A X.env xe → PSs (X.tr pn xe) body (tb W))
    (hsu : ∀ (a : Addr) (oe : Obj) (cls : Value) (d : Option Addr) (pn : List (Addr × Obj)), Zc cls d oe → (∃ vs, oe.data = .fields vs) → PSs (X.suite a ((a, oe) :: pn)) (b₀ :: suite) (ts a cls d)) :
    PS X (.Try body [.ExceptHandler (some (.Name x np)) (some n) (b₀ :: suite) pos'] [] [] pos) (fun D σ H => tb (wKeep X.K c i ts Wout D) D σ H) := by
  refine ⟨fun pins s σ H D I h => ?_⟩
  have ok := I.ok
  have hfr : X.A.frames = some (X.env :: X.outer) := by rw [ok.frames, hs]
  have hloc : Loc X.env.scope n := .inl hln
  refine wpAny_Try_except ?_
  refine wpAny_mono ((hb (wKeep X.K c i ts Wout D) (X.pn ++ pins) (fun e s₁ => wpAny (model X.prog X.w) X.A (noteFrame e X.env) (fun _ s₂ => wpAny (model X.prog X.w) X.A (setFlight e none) (fun _ s₃ =>
    wpAny (model X.prog X.w) X.A (handleBy e X.env [.ExceptHandler (some (.Name x np)) (some n) (b₀ :: suite) pos']) (SP X pins D) X.xe s₃) X.xe s₂) X.xe s₁) (fun u s' xx => ?_) PassesOwn.looking).run [] s σ H D (I.toTry _) h) (fun f s1 hsp => ?_) (fun e s1 he => he)
  ·
    obtain ⟨a, B, sI, pins', σ', H', cls, d, rfl, J', nb, up, sky, na, os, ag, b, hb1, hyes, hno⟩ := xx
    have J : Inv X pins σ' H' sI := J'.ofTry ok
    have sky' : Sky B (X.env :: X.outer) a (Zc cls d) X.env.locals s'.heap := by rw [← hs]; exact sky
    show wpAny (model X.prog X.w) X.A (noteFrame (.ref a) X.env) _ _ _
    refine Sky.land Zc.steady hfr hf sky' fun h3 fl3 up3 => ?_
    have J3 : Inv X pins σ' H' { s' with heap := h3 } := J.landed nb fl3.1 (up.trans up3) os ag
    obtain ⟨oe3, vs3, he3, hz3, hd3⟩ := fl3.there
    have notFr : ∀ {h : Heap} {o : Obj} {vs : Array Value}, h.FunFrames B (X.env :: X.outer) → h.get? a = some o → o.data = .fields vs → a ∉ frs (X.env :: X.outer) := fun {h o vs} ff e dd hm => by
      obtain ⟨_, o', e', hnf⟩ := ff.mem hm
      rw [e] at e'; cases e'
      exact hnf _ dd
    have nfr := notFr fl3.2.2.1 he3 hd3
    have nL : a ≠ X.env.locals := fun z => nfr (List.mem_filterMap.mpr ⟨X.env, List.mem_cons_self, by rw [hf, z]⟩)
    have nF : a ∉ X.fs := fun hm => by
      obtain ⟨e, he, q⟩ := List.mem_filterMap.mp hm
      exact nfr (List.mem_filterMap.mpr ⟨e, List.mem_cons_of_mem _ he, q⟩)
    have nB : B.get? a = none := fl3.2.1
    have nfr' : a ∉ frs X.stack := by rw [hs]; exact nfr
    have nI : sI.heap.get? a = none := by
      cases q : sI.heap.get? a with
      | none => rfl
      | some o =>
        have z := nb a o q nfr'
        rw [nB] at z
        cases z
    have n0 : X.s_0.heap.get? a = none := by
      cases q : X.s_0.heap.get? a with
      | none => rfl
      | some o =>
        obtain ⟨o', q'⟩ := J.base.there a o q (by rw [hex]; exact fun z => nomatch z)
        rw [nI] at q'
        cases q'
    have npin : ∀ p ∈ X.pn ++ pins, p.1 ≠ a := fun p hp z => by
      obtain ⟨e, _⟩ := J.pin p hp
      rw [z, nI] at e
      cases e
    have S3 := J3.suite he3 hd3 na nL nF
    refine wpAny_handleBy_cons (codeAny_handlers_test ?_) (by intro q; cases q)
    have LT : PySem.W.Looks (model X.prog X.w) h3 (typeOf (.ref a)) cls := fun A Q E s k q => wpAny_typeOf_ref (k _ _ he3) (by rw [hz3.1]; exact q)
    have LM := PySem.W.exm_one (M := model X.prog X.w) (J3.kIn) LT hb1
    have test : ∀ {Q : Value → Shared → Prop} {E : Value → Shared → Prop}, Q c { s' with heap := h3 } → wpAny (model X.prog X.w) (X.A.mark (some (.ref a))) (eval (.Name x np) X.env) Q E { s' with heap := h3 } := fun {Q E} q => by
      obtain ⟨hg, hdbg, hm | ⟨hm, hv, hnn⟩⟩ := hc
      · exact ld_glob (X := X.suite a ((a, oe3) :: (X.pn ++ pins))) S3 hg hm q hdbg
      · exact ld_blt (X := X.suite a ((a, oe3) :: (X.pn ++ pins))) S3 hg hm hv q hnn hdbg
    refine test (LM.here ?_)
    cases b with
    | true =>
      refine codeAny_handlers_suite_as ?_
      refine HandSPX.lands_againZ fl3 fun h4 fl4 up4 => ?_
      have J4 : Inv X pins σ' H' { s' with heap := h4 } := J.landed nb fl4.1 ((up.trans up3).trans up4) os ag
      obtain ⟨oe4, vs4, he4, hz4, hd4⟩ := fl4.there
      have S4 := J4.suite he4 hd4 na nL nF
      refine store_ok (X := X.suite a ((a, oe4) :: (X.pn ++ pins))) (v := .ref a) S4 hN hi hloc rfl (fun s5 S5 => ?_) (.inr hln)
      refine wpAny_mono ((hsu a oe4 cls d (X.pn ++ pins) hz4 ⟨_, hd4⟩).run [] s5 _ H' _ S5 (hyes rfl a na)) (fun f s6 hsp => ?_) (fun _ _ z => False.elim z)
      cases f with
      | next =>
        obtain ⟨σ6, H6, S6, n6, q6⟩ := hsp
        obtain ⟨he6, _⟩ := S6.pin (a, oe4) (List.mem_append.mpr (.inl List.mem_cons_self))
        have J6 : Inv X pins σ6 H6 s6 := S6.unsuite ok
        have nc : ∀ y c, X.env.cells.lookup y = some c → c ≠ a := fun y c e z => by
          obtain ⟨v, o, ho, hv⟩ := J6.cell y c e
          rw [z, he6] at ho
          cases ho
          rw [hd4] at hv
          cases hv
        have J7 : Inv X pins σ6 (upd H6 a (exh cls d a)) s6 := J6.adopt he6 n6 n0 nL npin nc (exh_ok he6 hz4 hd4)
        exact gone_ok J7 hN hi hln fun s7 J8 => ⟨_, _, J8, q6⟩
      | brk =>
        obtain ⟨σ6, H6, S6, q6⟩ := hsp
        exact False.elim q6
      | cont =>
        obtain ⟨σ6, H6, S6, q6⟩ := hsp
        exact False.elim q6
      | ret u =>
        obtain ⟨v6, σ6, H6, S6, r6, q6⟩ := hsp
        exact False.elim q6
    | false =>
      show wpAny _ X.A (handleBy (.ref a) X.env []) _ _ _
      refine wpAny_handleBy_nil ?_
      obtain ⟨k1, k2, k3, oe, vs, T, oT, ts', he, hz, hd, h1, hr⟩ := id fl3
      unfold PySem.passOn
      refine wpAny_bind (wpAny_field he hd h1 ?_)
      rw [if_neg (show ¬ ((Value.ref T == Value.none) = true) from by simp)]
      have fin : wpAny (model X.prog X.w) X.A (setFlight (.ref a) X.env.frame) (fun _ s4 => wpAny (model X.prog X.w) X.A (throw (.ref a) : Sem Flow) (SP X pins D) X.xe s4) X.xe { s' with heap := h3 } := by
        rw [hf]
        refine HandSPX.setFlight_upZ fl3 fun h4 hh4 up4 => wpAny_throw (tk _ _ ?_)
        exact ⟨a, B, sI, pins, σ', H', cls, d, rfl, J, nb, (up.trans up3).trans up4, .inr (.inr (by rw [hs]; exact hh4)), na, os, ag, hno rfl⟩
      first
        | exact wpAny_bind (wpAny_pure (wpAny_bind fin))
        | exact wpAny_bind fin
  · cases f with
    | next =>
      obtain ⟨σ', H', J', q⟩ := hsp
      exact wpAny_execs_nil ⟨σ', H', J'.ofTry ok, q⟩
    | brk =>
      obtain ⟨σ', H', J', q⟩ := hsp
      exact ⟨σ', H', J'.ofTry ok, q⟩
    | cont =>
      obtain ⟨σ', H', J', q⟩ := hsp
      exact ⟨σ', H', J'.ofTry ok, q⟩
    | ret u =>
      obtain ⟨v, σ', H', J', r, q⟩ := hsp
      exact ⟨v, σ', H', J'.ofTry ok, r, q⟩
end
end L2
set_option maxRecDepth 100000
set_option maxHeartbeats 4000000
namespace LamX
open PySem PySem.Spec PyProof.Rows L2
section
variable {X : Cx} {pins : List (Addr × Obj)} {σ : L2.St} {H : Hp} {s : Shared}
theorem tt_act {CXg : CXT} {Eg : XK} {names : List Str} {qg : Str} {sg : Scope} {g fl co : Addr} {cdg pm ctv : Value} {ps : Arguments} {bd : Expr} {lsc : Scope} {k i : Nat} {a : Str} {pn : List (Addr × Obj)} {xe : Value → Shared → Prop} {W : WX} {Ew : L2.St → XK} {rd : XK → TE} {p1 p2 : Pos}
    (I : Inv X pins σ H s) (L : LamS X.env.scope lsc) (h1 : s.heap.get? fl = some (PySem.W.kla_obj "<lambda>" (X.env.qual ++ "<lambda>") ps bd lsc (cloFrom X.env.cells lsc.names []) pm co ctv)) (h2 : H fl = none) (h3 : fl ∉ frs X.stack)
    (noArgs : bindArgs (PySem.W.kla_fn "<lambda>" (X.env.qual ++ "<lambda>") ps bd lsc (cloFrom X.env.cells lsc.names []) pm (.ref co) ctv) ⟨[], []⟩ = pure [])
    (tk : Takes ((cxOf CXg X.prog X.w X.K X.mg X.base names qg sg g cdg X.A X.stack s H Eg).tr pn xe) W) (wish : ∀ τ cls d H', Ew τ cls d H' → W cls d τ H') (room : Room (k + 1) (X.A.deeper (envOfC qg sg s.heap.objs.size g cdg)))
    (body : ∀ (E : XK) (A : Around) (outer : List Env) (s : Shared) (H : Hp), Room k (A.deeper (lamEnv X lsc s.heap.objs.size fl co)) → PE (lamCx X A outer s H E lsc fl co) bd (rd E))
    (at_ : names[i]? = some a) (vis : Vis sg a) (n1 : (a == ("__debug__" : Str)) = false) (n2 : (a == ("__classdict__" : Str)) = false) :
    PE ((cxOf CXg X.prog X.w X.K X.mg X.base names qg sg g cdg X.A X.stack s H Eg).tr pn xe) (.Call (.Name a p1) [] [] p2)
      (fun τ G Q => τ[i]? = some (some (.ref fl)) ∧ G co = some (CodeO co (X.env.qual ++ "<lambda>")) ∧ rd (Ew τ) σ G Q) := by
  refine ⟨fun pz sz τ G Q J hyp => ?_⟩
  obtain ⟨slot, code, want⟩ := hyp
  have load := (pe_var (pos := p1) (i := i) at_ vis n1 n2).run pz sz τ G (fun v G' => v = .ref fl ∧ G' = G) J ⟨.ref fl, slot, rfl, rfl⟩
  refine wpAny_Call_Name_kw (thn load fun u s1 ⟨v, G', J1, ru, ev, eG⟩ => ?_)
  subst ev eG
  obtain rfl : u = Value.ref fl := ru
  have here : s1.heap.get? fl = some (PySem.W.kla_obj "<lambda>" (X.env.qual ++ "<lambda>") ps bd lsc (cloFrom X.env.cells lsc.names []) pm co ctv) := J1.base.keep fl _ h1 h2 h3 (fun z => nomatch (show fl ∈ ([] : List Addr) from z))
  refine PySem.W.callWith_F0 ⟨_, _, _, _, here⟩ ?_
  have since : Un (frs X.stack) [] H G' s.heap s1.heap := J1.base
  obtain ⟨⟨oc, fields, tok, ho, hf, hq⟩, _, _⟩ := J1.hok co _ code
  have run : codeAny (model X.prog X.w) (X.A.deeper (envOfC qg sg s.heap.objs.size g cdg)) (.call (.ref fl) ⟨[], []⟩) (CR (L2.CX X.prog X.w) (envOfC qg sg s.heap.objs.size g cdg :: X.stack) X.prog X.w G' s1 Q (Ew τ)) s1 := by
    refine PySem.W.kla_callFunE room.depth here rfl L.co L.gen rfl ⟨co, oc, fields, tok, rfl, ho, hf, hq⟩ ?_
    rw [noArgs]
    refine wpAny_pure (wpAny_newFunctionEnv (fun y hy => (L.own y hy).2) (fun y hy => absurd hy (by simp)) (fun h' ns but => ⟨J1.nolimit.fresh _ but, ?_⟩) L.kind)
    have stays : ∀ b o, s1.heap.get? b = some o → h'.get? b = some o := fun b o e => but.extBut b o (Nat.ne_of_lt (Heap.lt_size e)) (Heap.get?_push_of_some _ e)
    have start : Inv (lamCx X (X.A.deeper (envOfC qg sg s.heap.objs.size g cdg)) (envOfC qg sg s.heap.objs.size g cdg :: X.stack) s1 G' (Ew τ) lsc fl co) [] σ G' { s1 with heap := h', toks := s1.toks + ([] : List (Str × Value)).length } :=
      lam_start2 I L J1.env0 room.hd since ns stays
    show codeAny _ _ (.expr bd (lamEnv X lsc s1.heap.objs.size fl co)) _ _
    refine PySem.W.kla_codeExpr (wpAny_mono ((body (Ew τ) _ _ s1 G' (room.deeper _)).run [] _ _ G' Q start want) (fun v s' ⟨x, G2, J2, rx, q⟩ => ?_) fun e s' q => q)
    exact ⟨x, G2, J2.os, J2.bare, J2.base, J2.hok, rx, q⟩
  refine wpAny_call (codeAny_mono run fun r s' q => ?_)
  match r with
  | .error e => exact tk e s' (XE.of_call J1 (fun cls d G2 z => wish τ cls d G2 z) q)
  | .ok (.ret u) => exact J1.after q
  | .ok .next => exact False.elim q
  | .ok .brk => exact False.elim q
  | .ok .cont => exact False.elim q
end
def GivesToS (X : Cx) (names : List Str) (x : Str) (sg : Scope) (g : Addr) (cdg : Value) (bg : List Stmt) (a : Str) (q : Str) (TT : (XK → Hp → VK → Prop) → Hp → VK → Prop) : Prop :=
  ∀ (fl co : Addr) (s : Shared) (H : Hp) (Q : VK) (tl : XK → Hp → VK → Prop),
    (∀ (W : WX) (pn : List (Addr × Obj)) (xe : Value → Shared → Prop) (Ew : L2.St → XK) (p1 p2 : Pos), Takes ((cxOf C8.CX0 X.prog X.w X.K X.mg X.base names x sg g cdg X.A X.stack s H C8.E0).tr pn xe) W → (∀ τ cls d H', Ew τ cls d H' → W cls d τ H') →
      PE ((cxOf C8.CX0 X.prog X.w X.K X.mg X.base names x sg g cdg X.A X.stack s H C8.E0).tr pn xe) (.Call (.Name a p1) [] [] p2) (fun τ G Q => τ[0]? = some (some (.ref fl)) ∧ G co = some (CodeO co q) ∧ tl (Ew τ) G Q)) →
    H co = some (CodeO co q) → TT tl H Q →
    ∃ t, PSs (cxOf C8.CX0 X.prog X.w X.K X.mg X.base names x sg g cdg X.A X.stack s H C8.E0).nox bg t ∧ t { nx := fun _ H' => Q .non H', rt := Q } (L2.start names [.ref fl]) H
section
variable {X : Cx}
theorem tt_lamcall {T : List (Addr × Str)} {TT : (XK → Hp → VK → Prop) → Hp → VK → Prop} {x a : Str} {g c P : Addr} {k : Nat} {pg : Arguments} {bg : List Stmt} {sg : Scope} {dV kV doc pm cdv ct oc : Value} {an od : Option Addr} {osl : Array (Option Value)} {names : List Str}
    {ps : Arguments} {bd : Expr} {lsc : Scope} {t : XK → TE} {p lpos pos : Pos} (hg : Gl X x) (hm : X.mg x = some (.ref g)) (hk : PySem.W.keepIn X.K (.ref g) = true)
    (lk : X.K.lookup g = some ⟨oc, od, .func (PySem.W.fnOf x x pg bg sg dV kV doc pm an cdv ct), osl⟩) (hcg : PySem.W.codeIn X.K cdv x = true) (hb : L2.Binds X.K (PySem.W.fnOf x x pg bg sg dV kV doc pm an cdv ct) [a] []) (Sg : FnScope names [a] sg) (at_ : names[0]? = some a) (vis : Vis sg a)
    (hG : GivesToS X names x sg g cdv bg a (X.env.qual ++ "<lambda>") TT)
    (TB : TabB X.base X.mg c P) (hcode : X.env.code = .ref c) (hmT : (P, X.env.qual ++ "<lambda>") ∈ T) (hu : ∀ p ∈ T, p.1 = P → p.2 = X.env.qual ++ "<lambda>") (hr : Room (k + 2) X.A) (L : LamS X.env.scope lsc) (hdef : defaultsOf ps X.env = ([], []))
    (noArgs : ∀ (q : Str) (cl : List (Str × Addr)) (pm cv ctv : Value), bindArgs (PySem.W.kla_fn "<lambda>" q ps bd lsc cl pm cv ctv) ⟨[], []⟩ = pure [])
    (body : ∀ (A : Around) (outer : List Env) (s : Shared) (H : Hp) (E : XK) (fl co : Addr), Room k (A.deeper (lamEnv X lsc s.heap.objs.size fl co)) → PE (lamCx X A outer s H E lsc fl co) bd (t E))
    (n0 : (x == ("__debug__" : Str)) = false := by decide) (n1 : (a == ("__debug__" : Str)) = false := by decide) (n2 : (a == ("__classdict__" : Str)) = false := by decide) :
    PE X (.Call (.Name x p) [.Lambda ps bd lsc lpos] [] pos) (tLam T TT t) := by
  refine ⟨fun pins s σ H Q I hyp => ?_⟩
  obtain ⟨tabs, want⟩ := hyp
  refine wpAny_Call_Name_kw (ld_glob I hg hm ?_ n0)
  refine PySem.W.callWith_K (h₀ := X.base) I.ok.mod.kin hk ?_ (by rfl) (by rfl)
  show wpAny _ _ (spliced ((false, eval (.Lambda ps bd lsc lpos) X.env) :: backTo pos (starEach [] X.env))) _ _ s
  refine Calls.spliced_cons (lam_make2 I TB hcode hmT hu tabs hdef (L.has I.ok) fun fl co pm' ctv G s' J eN tabs' f1 f2 f3 fc => ?_)
  refine Calls.spliced_nil ⟨J.kIn, ?_⟩
  have run : codeAny (model X.prog X.w) X.A (.call (.ref g) ⟨[.ref fl], []⟩) (CR C8.CX0 X.stack X.prog X.w G s' Q C8.E0) s' := by
    refine run_ofS (N := names) (ps := [a]) (us := [.ref fl]) (vs := [.ref fl]) lk hcg Sg hr J.env0 (hb s' [.ref fl] J.kIn rfl) (.cons rfl .nil) rfl fun hr' => ?_
    obtain ⟨t', ht', hq'⟩ := hG fl co s' G Q (fun E G' Q' => t E σ G' Q') (fun W pn xe Ew p1 p2 tk wish => tt_act (i := 0) J L f1 f2 f3 (noArgs _ _ _ _ _) tk wish hr' (fun E A outer s H room => body A outer s H E fl co room) at_ vis n1 n2) fc (want G eN tabs')
    exact ⟨t', ht'.nox, hq'⟩
  refine wpAny_call (codeAny_mono run fun r s2 q => ?_)
  match r with
  | .error e => exact (show False from q).elim
  | .ok (.ret u) => exact J.after q
  | .ok .next => exact False.elim q
  | .ok .brk => exact False.elim q
  | .ok .cont => exact False.elim q
end
end LamX
set_option maxRecDepth 100000
set_option maxHeartbeats 4000000
namespace L2
open PySem PySem.Spec PyProof.Rows HT
section
variable {X : Cx} {K : PySem.W.Frag}
def FzT (H : Hp) (a : Addr) (xs : List V) : Prop := ∃ ob : Obj, H a = some (.frz ob (.tup xs)) ∧ ob.dict = none
theorem FzT.sq {H : Hp} {a : Addr} {xs : List V} (h : FzT H a xs) : SqT K H a xs := by
  obtain ⟨ob, h, _⟩ := h
  exact .inl (.inr ⟨ob, h⟩)
theorem FzT.new {H : Hp} {p : Addr} {ob : Obj} {xs : List V} (h : ob.dict = none) : FzT (upd H p (.frz ob (.tup xs))) p xs := ⟨ob, upd_same, h⟩
def NwT (H : Hp) (xs : List V) (Q : VK) : Prop := ∀ (p : Addr) (ob : Obj), H p = none → ob.dict = none → Q (.ref p) (upd H p (.frz ob (.tup xs)))
def rTupF (K : PySem.W.Frag) : List V → Hp → VK → Prop := fun xs H Q => ∃ p ys, xs = [.ref p] ∧ ((SqL K H p ys ∧ NwT H ys Q) ∨ (SqT K H p ys ∧ Q (.ref p) H))
theorem call_tuple_ofF : CallR X (.type "tuple") (rTupF X.K) := by
  intro pins s σ H xs us Q I r h
  obtain ⟨p, ys, rfl, h⟩ := h
  obtain ⟨u, rfl, rx⟩ := vals1 r
  cases rx
  rcases h with ⟨hq, q⟩ | ⟨hq, q⟩
  · obtain ⟨its, rv, pl, hz⟩ := I.list hq
    have hn := rv.length
    refine call_tuple_list pl.isList (fun h' kp => ?_) (by simp only [List.size_toArray] <;> omega)
    have J : Inv X pins σ H { s with heap := h' } := I.kept (t' := s.toks) kp
    have J2 : Inv X pins σ (upd H h'.objs.size (.frz { cls := .type "tuple", data := .seq its.toArray } (.tup ys))) { s with heap := h'.push { cls := .type "tuple", data := .seq its.toArray } } :=
      J.laid (t' := s.toks) (fun b o e => Heap.get?_push_of_some _ e) (Nat.le_refl _) ⟨Heap.get?_push_size _ rfl, hz, its, rv, IsTup.new _ _⟩
    exact ⟨.ref h'.objs.size, _, J2, rfl, q _ _ (J.hok.fresh (Nat.le_refl _)) rfl⟩
  · obtain ⟨its, rv, pl, hz⟩ := I.tuple hq
    exact call_tuple_same pl ⟨.ref p, H, I, rfl, q⟩
def rCatF (K : PySem.W.Frag) : R2 := fun x y H Q => ∃ a b xs ys, x = .ref a ∧ y = .ref b ∧ SqT K H a xs ∧ SqT K H b ys ∧ xs ≠ [] ∧ xs.length + ys.length ≤ sizeLine ∧
  (ys = [] → Q (.ref a) H) ∧ (ys ≠ [] → NwT H (xs ++ ys) Q)
theorem op_catF : OpR X (binaryOp .Add) (rCatF X.K) := by
  intro pins s σ H x y v u Q I rx ry h
  obtain ⟨a, b, xs, ys, rfl, rfl, ha, hb, hx, hz, q1, q2⟩ := h
  cases rx
  cases ry
  obtain ⟨its, r1, p1, _⟩ := I.tuple ha
  obtain ⟨its2, r2, p2, _⟩ := I.tuple hb
  refine HT.cat_tup p1 p2 (fun z => hx (r1.nil_iff.mp z)) (fun z => ⟨.ref a, H, I, rfl, q1 (r2.nil_iff.mp z)⟩) (fun z => ?_) (by rw [← r1.length, ← r2.length]; exact hz)
  refine ⟨.ref s.heap.objs.size, _, I.laid (t' := s.toks) (fun b ob q => Heap.get?_push_of_some _ q) (Nat.le_refl _) ?_, rfl, q2 (fun w => z (r2.nil_iff.mpr w)) _ { cls := .type "tuple", data := .seq (its ++ its2).toArray } (I.hok.fresh (Nat.le_refl _)) rfl⟩
  exact ⟨Heap.get?_push_size _ rfl, by rw [List.length_append]; exact hz, _, r1.append r2, IsTup.new _ _⟩
def tyF (K : PySem.W.Frag) (T : String) (x : V) (H : Hp) : Prop := tyV K T x H ∨ (T = "tuple" ∧ ∃ p xs, x = .ref p ∧ FzT H p xs)
theorem tyF_is {pins : List (Addr × Obj)} {σ : St} {H : Hp} {s : Shared} {T : String} {x : V} {v : Value} (I : Inv X pins σ H s) (r : RelV x v) (ty : tyF X.K T x H) :
    s.TypeIs v T ∧ ∀ a, v = .ref a → ∃ ob, s.heap.get? a = some ob ∧ ob.dict = none := by
  rcases ty with ty | ⟨rfl, p, xs, rfl, ob, h, hd⟩
  · exact tyV_is I r ty
  · cases r
    obtain ⟨e, _, its, _, o, e2, hc, _⟩ := (show ObjOk X.prog X.w H s.heap p (.frz ob (.tup xs)) from I.hok p _ h)
    rw [e] at e2
    cases e2
    refine ⟨⟨ob, e, hc⟩, fun a z => ?_⟩
    cases z
    exact ⟨ob, e, hd⟩
def tBMF (K : PySem.W.Frag) (T : String) (r : V → List V → Hp → VK → Prop) (to : TE) (t : TA) : TE := fun σ H Q => to σ H fun x H1 => tyF K T x H1 ∧ t σ H1 fun xs H2 => r x xs H2 Q
variable {o e : Expr} {es : List Expr} {to : TE} {t : TA} {name : Str} {apos cpos : Pos} {T id : String} {r : V → List V → Hp → VK → Prop}
theorem pe_bmF (pa : PlainAttrs T) (slot : Slot T name id) (hty : typeOf (.builtin id) = pure (.type "method_descriptor")) (hm : MtR X id r) (ho : PE X o to) (ha : PA X (e :: es) t)
    (hbase : attributeBase o name X.env (eval o X.env) = eval o X.env := by rfl)
    (hfew : ((backTo cpos (starEach (e :: es) X.env)).all (fun x => !x.1) && (backToKw cpos (keywordEach [] X.env)).all (fun x => x.1.isSome)
      && decide ((e :: es).length + ([] : List Keyword).length + (if ([] : List Keyword).isEmpty then 0 else 1) < 30)) = true := by rfl)
    (hline : (apos.endLine == cpos.line) = true := by rfl) (hs : starEach (e :: es) X.env = (false, eval e X.env) :: starEach es X.env := by rfl) (hplain : (backTo cpos (starEach es X.env)).any (·.1) = false := by rfl) :
    PE X (.Call (.Attribute o name apos) (e :: es) [] cpos) (tBMF X.K T r to t) := by
  refine ⟨fun pins s σ H Q I h => ?_⟩
  refine wpAny_Call_method_late hbase hfew hline rfl (thn (ho.run pins s σ H _ I h) fun v s1 ⟨x, H1, I1, r1, ty, q1⟩ => ?_)
  obtain ⟨h1, h2⟩ := tyF_is I1 r1 ty
  refine ⟨T, id, pa, slot, hty, h1, h2, ?_⟩
  have hA := ha.run cpos pins s1 σ H1 _ I1 q1
  rw [hs] at hA ⊢
  refine Calls.callWith_builtin (by show (false || (backTo cpos (starEach es X.env)).any (·.1)) = false; rw [hplain] <;> rfl) (Calls.evalArgs_plain ?_)
  exact thn hA fun us s2 ⟨vs, H2, I2, r2, q2⟩ => hm pins s2 σ H2 x vs v us Q I2 r1 r2 q2
theorem pe_bmFK (hk : X.K = K) (pa : PlainAttrs T) (slot : Slot T name id) (hty : typeOf (.builtin id) = pure (.type "method_descriptor")) (hm : MtR X id r) (ho : PE X o to) (ha : PA X (e :: es) t)
    (hbase : attributeBase o name X.env (eval o X.env) = eval o X.env := by rfl)
    (hfew : ((backTo cpos (starEach (e :: es) X.env)).all (fun x => !x.1) && (backToKw cpos (keywordEach [] X.env)).all (fun x => x.1.isSome)
      && decide ((e :: es).length + ([] : List Keyword).length + (if ([] : List Keyword).isEmpty then 0 else 1) < 30)) = true := by rfl)
    (hline : (apos.endLine == cpos.line) = true := by rfl) (hs : starEach (e :: es) X.env = (false, eval e X.env) :: starEach es X.env := by rfl) (hplain : (backTo cpos (starEach es X.env)).any (·.1) = false := by rfl) :
    PE X (.Call (.Attribute o name apos) (e :: es) [] cpos) (tBMF K T r to t) := by
  subst hk
  exact pe_bmF pa slot hty hm ho ha hbase hfew hline hs hplain
end
end L2
set_option maxRecDepth 100000
set_option maxHeartbeats 4000000
namespace L2
open PySem PySem.Spec PyProof.Rows
def Swaps (fd : FuncData) (a b : Str) : Prop := ∀ (s : Shared) (v u : Value), BindsTo s fd ⟨[], [(b, v), (a, u)]⟩ [(a, u), (b, v)]
theorem Fun.swaps {K : PySem.W.Frag} {x qual : Str} {st : Stmt} {f : Addr} {fd : FuncData} {a b : Str} (F : Fun K x qual st f fd)
    (h : ∀ (kV doc pm : Value) (an : Option Addr) (cdv ct v u : Value), bindArgs (PySem.W.fnOf x qual (defArgs st) (defBody st) (defScope st) .none kV doc pm an cdv ct) ⟨[], [(b, v), (a, u)]⟩ = pure [(a, u), (b, v)]) : Swaps fd a b := by
  obtain ⟨oc, od, kV, doc, pm, an, cdv, ct, osl, rfl, lk, hcd⟩ := F.ex
  exact fun s v u => BindsTo.of_eq (h kV doc pm an cdv ct v u)
def tSw (sp : Sp) (E : XK) (t1 t2 : TE) : TE := fun σ H Q => tCons t1 (tCons t2 tNil) σ H fun zs H2 => sp zs.reverse H2 Q E
section
variable {X : Cx} {CX : CXT} {k : Nat} {f : Addr} {fd : FuncData} {a b : Str} {sp : Sp} {E : XK} {x : Str} {p p1 p2 pos : Pos} {e1 e2 : Expr} {t1 t2 : TE}
theorem run_sw {pins : List (Addr × Obj)} {σ : St} {H : Hp} {s : Shared} {Q : VK} {v u : V} {v' u' : Value} (F : FnOk X.prog X.w X.K X.mg X.base CX k f fd [a, b] sp) (hr : Room k X.A) (hb : Swaps fd a b) (hx : Passes CX X E)
    (I : Inv X pins σ H s) (r1 : RelV v v') (r2 : RelV u u') (h : sp [u, v] H Q E) : wpAny (model X.prog X.w) X.A (call (.ref f) [] [(b, v'), (a, u')]) (EP X pins σ Q) X.xe s := by
  refine wpAny_call (codeAny_mono (F.run X.A X.stack s H ⟨[], [(b, v'), (a, u')]⟩ [u', v'] [u, v] Q E hr I.env0 (hb s v' u') (.cons r2 (.cons r1 .nil)) h) fun r s' hq => ?_)
  cases r with
  | error e => exact hx pins σ H s e s' I hq
  | ok fl =>
    cases fl with
    | ret u => exact I.after hq
    | next => exact False.elim hq
    | brk => exact False.elim hq
    | cont => exact False.elim hq
theorem pe_callSw (F : FnOk X.prog X.w X.K X.mg X.base CX k f fd [a, b] sp) (hr : Room k X.A) (hg : Gl X x) (hm : X.mg x = some (.ref f)) (hk : PySem.W.keepIn X.K (.ref f) = true) (hb : Swaps fd a b) (hx : Passes CX X E)
    (h1 : PE X e1 t1) (h2 : PE X e2 t2) (hdb : (x == ("__debug__" : Str)) = false := by decide)
    (hall : (backToKw pos (keywordEach [⟨some b, e1, p1⟩, ⟨some a, e2, p2⟩] X.env)).all (·.1.isSome) = true := by rfl) (hks : (backToKw pos (keywordEach [⟨some b, e1, p1⟩, ⟨some a, e2, p2⟩] X.env)).filterMap (·.1) = [b, a] := by rfl)
    (hpl : ((backTo pos (starEach [] X.env)).any (·.1) || (backToKw pos (keywordEach [⟨some b, e1, p1⟩, ⟨some a, e2, p2⟩] X.env)).any (·.1.isNone)) = false := by rfl) :
    PE X (.Call (.Name x p) [] [⟨some b, e1, p1⟩, ⟨some a, e2, p2⟩] pos) (tSw sp E t1 t2) := by
  refine ⟨fun pins s σ H Q I h => ?_⟩
  refine wpAny_Call_Name_kw (ld_glob I hg hm ?_ hdb)
  refine PySem.W.callWith_KW0 (h₀ := X.base) I.ok.mod.kin hk hall ?_ hpl
  refine thn ((pk_cons h1 (pk_cons h2 pk_nil)).run pos pins s σ H _ I h) fun ws s2 ⟨zs, H2, J, rz, q⟩ => ⟨J.kIn, ?_⟩
  rw [hks]
  have hl := F.len _ _ _ _ q
  rw [List.length_reverse] at hl
  cases rz with
  | nil => exact absurd hl (by simp)
  | cons r1 rz =>
    cases rz with
    | nil => exact absurd hl (by simp)
    | cons r2 rz =>
      cases rz with
      | nil => exact run_sw F hr hb hx J r1 r2 q
      | cons r3 rz => exact absurd hl (by simp)
end
end L2
set_option maxRecDepth 100000
set_option maxHeartbeats 4000000
namespace L2
open PySem PySem.Spec PyProof.Rows
section
variable {X : Cx}
def rShow (K : PySem.W.Frag) : List V → Hp → VK → Prop := fun xs H Q => ∃ (a : Addr) (d : PyData), xs = [.ref a] ∧ Dp K H (.ref a) d ∧ d.showable = true ∧ d.hasDict = false ∧ d.depth ≤ 60 ∧ d.shown.length ≤ sizeLine ∧ Q (.str d.shown) H
theorem call_show (hg : X.A.guards = some []) (hu : X.A.units + 64 < cLine) : CallR X (.builtin "repr") (rShow X.K) := by
  intro pins s σ H xs us Q I r h
  obtain ⟨a, d, rfl, hd, h1, h2, h3, h4, q⟩ := h
  obtain ⟨u, rfl, rx⟩ := vals1 r
  cases rx
  obtain ⟨as, rd⟩ := Dp.reads I d (.ref a) (.ref a) hd rfl
  exact repr_of_reads' rd h1 (fun z => absurd (h2.symm.trans z) (by decide)) hg (by omega) (fun b o e => e) (fun h' u tk k => ⟨.str d.shown, H, I.kept (t' := tk) k, ⟨u, rfl⟩, q⟩) h4
end
end L2
set_option maxRecDepth 100000
set_option maxHeartbeats 4000000
namespace L2
open PySem PySem.Spec PyProof.Rows
open PySem.W (alike alikeAll minD min_list_data)
def rowD (m : List Int) : PyData := .tuple (m.map PyData.int)
theorem alike_ints : ∀ a b : List Int, alikeAll (a.map PyData.int) (b.map PyData.int) = true
  | [], _ => by simp [alikeAll]
  | _ :: _, [] => by simp [alikeAll]
  | x :: a, y :: b => by
    show (alike (.int x) (.int y) && alikeAll (a.map PyData.int) (b.map PyData.int)) = true
    rw [alike_ints a b]
    rfl
theorem depth_ints : ∀ a : List Int, PyData.depthAll (a.map PyData.int) = 0
  | [] => rfl
  | x :: a => by
    show max 0 (PyData.depthAll (a.map PyData.int)) = 0
    rw [depth_ints a]
    rfl
theorem depth_rows : ∀ rs : List (List Int), PyData.depthAll (rs.map rowD) ≤ 1
  | [] => Nat.zero_le _
  | r :: rs => by
    show max (PyData.depthAll (r.map PyData.int) + 1) (PyData.depthAll (rs.map rowD)) ≤ 1
    rw [depth_ints r]
    have := depth_rows rs
    omega
theorem rowD_inj {a b : List Int} (h : rowD a = rowD b) : a = b := by
  unfold rowD at h
  injection h with h
  induction a generalizing b with
  | nil =>
    cases b with
    | nil => rfl
    | cons y b => cases h
  | cons x a ih =>
    cases b with
    | nil => cases h
    | cons y b =>
      rw [List.map_cons, List.map_cons] at h
      injection h with h1 h2
      injection h1 with h1
      rw [h1, ih h2]
theorem pair_at {α β : Type} {F : α → β → Prop} : ∀ {l : List α} {k : List β}, Paired F l k → ∀ {i : Nat} {a : α} {b : β}, l[i]? = some a → k[i]? = some b → F a b
  | _, _, .nil, i, a, b, h, _ => by simp at h
  | _, _, .cons r _, 0, a, b, h, g => by
    simp at h g
    subst h
    subst g
    exact r
  | _, _, .cons _ t, i + 1, a, b, h, g => pair_at t (by simpa using h) (by simpa using g)
section
variable {X : Cx}
theorem dpAll_intsL {K : PySem.W.Frag} (H : Hp) : ∀ ls : List Int, DpAll K H (ls.map V.int) (ls.map PyData.int)
  | [] => .nil
  | a :: l => .cons (.int a) (dpAll_intsL H l)
theorem dpAll_rows {K : PySem.W.Frag} {H : Hp} : ∀ {ps : List Addr} {rows : List (List Int)}, Paired (fun p m => SqT K H p (m.map V.int)) ps rows → DpAll K H (ps.map V.ref) (rows.map rowD)
  | _, _, .nil => .nil
  | _, _, .cons h t => .cons (.tup h (dpAll_intsL H _)) (dpAll_rows t)
def rMinT (K : PySem.W.Frag) : List V → Hp → VK → Prop := fun vs H Q => ∃ (l : Addr) (ps : List Addr) (r0 : List Int) (rs : List (List Int)), vs = [.ref l] ∧ SqL K H l (ps.map V.ref) ∧ Paired (fun p m => SqT K H p (m.map V.int)) ps (r0 :: rs) ∧
  ∀ (i : Nat) (p : Addr), ps[i]? = some p → (∀ m, (r0 :: rs)[i]? = some m → rowD m = minD (rowD r0) (rs.map rowD)) → Q (.ref p) H
theorem cr_minT (hc : X.calm = true) (hu : X.A.units + 64 < cLine) : CallR X (.builtin "min") (rMinT X.K) := by
  intro pins s σ H vs us Q I r h
  obtain ⟨l, ps, r0, rs, rfl, hs, hp, q⟩ := h
  obtain ⟨its, rv, hl, _⟩ := I.list hs
  rw [Vals.ref1 r]
  obtain ⟨as, hr⟩ := Dp.readsAll I _ _ its (dpAll_rows hp) rv
  have hd := depth_rows (r0 :: rs)
  refine min_list_data (I.ok.hd hc) hl.isList (x := rowD r0) (xs := rs.map rowD) (as := as) hr ⟨fun x hx y hy => ?_, fun x hx => ?_⟩ (by show X.A.units + 1 + PyData.depthAll ((r0 :: rs).map rowD) < cLine; omega) fun i v h' tk bs hv hm hk => ?_
  · obtain ⟨a, _, rfl⟩ := List.mem_map.mp (show x ∈ (r0 :: rs).map rowD from hx)
    obtain ⟨b, _, rfl⟩ := List.mem_map.mp (show y ∈ (r0 :: rs).map rowD from hy)
    exact alike_ints a b
  · obtain ⟨a, _, rfl⟩ := List.mem_map.mp (show x ∈ (r0 :: rs).map rowD from hx)
    exact fun z => by cases z
  · have hv' : its[i]? = some v := by simpa using hv
    have hi : i < ps.length := by
      have h1 := (List.getElem?_eq_some_iff.mp hv').1
      have h2 := rv.length
      rw [List.length_map] at h2
      omega
    obtain ⟨v2, e2, rel⟩ := rv.get (i := i) (x := V.ref ps[i]) (by simp [hi])
    rw [hv'] at e2
    cases e2
    obtain rfl : v = .ref ps[i] := rel
    refine ⟨.ref ps[i], H, I.kept (t' := tk) hk, rfl, q i ps[i] (List.getElem?_eq_getElem hi) fun m hm2 => ?_⟩
    obtain ⟨as0, r0'⟩ := Dp.reads I (rowD m) (.ref ps[i]) (.ref ps[i]) (.tup (pair_at hp (List.getElem?_eq_getElem hi) hm2) (dpAll_intsL H m)) rfl
    exact (reads_det (fun b o e _ => hk b o e) r0' hm).1.symm
end
end L2
set_option maxRecDepth 100000
set_option maxHeartbeats 4000000
namespace L2
open PySem PySem.Spec PyProof.Rows
def Swaps3 (fd : FuncData) (a b c : Str) : Prop := ∀ (s : Shared) (v u z : Value), BindsTo s fd ⟨[], [(c, v), (b, u), (a, z)]⟩ [(a, z), (b, u), (c, v)]
theorem Fun.swaps3 {K : PySem.W.Frag} {x qual : Str} {st : Stmt} {f : Addr} {fd : FuncData} {a b c : Str} (F : Fun K x qual st f fd)
    (h : ∀ (kV doc pm : Value) (an : Option Addr) (cdv ct v u z : Value), bindArgs (PySem.W.fnOf x qual (defArgs st) (defBody st) (defScope st) .none kV doc pm an cdv ct) ⟨[], [(c, v), (b, u), (a, z)]⟩ = pure [(a, z), (b, u), (c, v)]) : Swaps3 fd a b c := by
  obtain ⟨oc, od, kV, doc, pm, an, cdv, ct, osl, rfl, lk, hcd⟩ := F.ex
  exact fun s v u z => BindsTo.of_eq (h kV doc pm an cdv ct v u z)
def tSw3 (sp : Sp) (E : XK) (t1 t2 t3 : TE) : TE := fun σ H Q => tCons t1 (tCons t2 (tCons t3 tNil)) σ H fun zs H2 => sp zs.reverse H2 Q E
section
variable {X : Cx} {CX : CXT} {k : Nat} {f : Addr} {fd : FuncData} {a b c : Str} {sp : Sp} {E : XK} {x : Str} {p p1 p2 p3 pos : Pos} {e1 e2 e3 : Expr} {t1 t2 t3 : TE}
theorem run_sw3 {pins : List (Addr × Obj)} {σ : St} {H : Hp} {s : Shared} {Q : VK} {v u z : V} {v' u' z' : Value} (F : FnOk X.prog X.w X.K X.mg X.base CX k f fd [a, b, c] sp) (hr : Room k X.A) (hb : Swaps3 fd a b c) (hx : Passes CX X E)
    (I : Inv X pins σ H s) (r1 : RelV v v') (r2 : RelV u u') (r3 : RelV z z') (h : sp [z, u, v] H Q E) : wpAny (model X.prog X.w) X.A (call (.ref f) [] [(c, v'), (b, u'), (a, z')]) (EP X pins σ Q) X.xe s := by
  refine wpAny_call (codeAny_mono (F.run X.A X.stack s H ⟨[], [(c, v'), (b, u'), (a, z')]⟩ [z', u', v'] [z, u, v] Q E hr I.env0 (hb s v' u' z') (.cons r3 (.cons r2 (.cons r1 .nil))) h) fun r s' hq => ?_)
  cases r with
  | error e => exact hx pins σ H s e s' I hq
  | ok fl =>
    cases fl with
    | ret u => exact I.after hq
    | next => exact False.elim hq
    | brk => exact False.elim hq
    | cont => exact False.elim hq
theorem pe_callSw3 (F : FnOk X.prog X.w X.K X.mg X.base CX k f fd [a, b, c] sp) (hr : Room k X.A) (hg : Gl X x) (hm : X.mg x = some (.ref f)) (hk : PySem.W.keepIn X.K (.ref f) = true) (hb : Swaps3 fd a b c) (hx : Passes CX X E)
    (h1 : PE X e1 t1) (h2 : PE X e2 t2) (h3 : PE X e3 t3) (hdb : (x == ("__debug__" : Str)) = false := by decide)
    (hall : (backToKw pos (keywordEach [⟨some c, e1, p1⟩, ⟨some b, e2, p2⟩, ⟨some a, e3, p3⟩] X.env)).all (·.1.isSome) = true := by rfl) (hks : (backToKw pos (keywordEach [⟨some c, e1, p1⟩, ⟨some b, e2, p2⟩, ⟨some a, e3, p3⟩] X.env)).filterMap (·.1) = [c, b, a] := by rfl)
    (hpl : ((backTo pos (starEach [] X.env)).any (·.1) || (backToKw pos (keywordEach [⟨some c, e1, p1⟩, ⟨some b, e2, p2⟩, ⟨some a, e3, p3⟩] X.env)).any (·.1.isNone)) = false := by rfl) :
    PE X (.Call (.Name x p) [] [⟨some c, e1, p1⟩, ⟨some b, e2, p2⟩, ⟨some a, e3, p3⟩] pos) (tSw3 sp E t1 t2 t3) := by
  refine ⟨fun pins s σ H Q I h => ?_⟩
  refine wpAny_Call_Name_kw (ld_glob I hg hm ?_ hdb)
  refine PySem.W.callWith_KW0 (h₀ := X.base) I.ok.mod.kin hk hall ?_ hpl
  refine thn ((pk_cons h1 (pk_cons h2 (pk_cons h3 pk_nil))).run pos pins s σ H _ I h) fun ws s2 ⟨zs, H2, J, rz, q⟩ => ⟨J.kIn, ?_⟩
  rw [hks]
  have hl := F.len _ _ _ _ q
  rw [List.length_reverse] at hl
  cases rz with
  | nil => exact absurd hl (by simp)
  | cons r1 rz =>
    cases rz with
    | nil => exact absurd hl (by simp)
    | cons r2 rz =>
      cases rz with
      | nil => exact absurd hl (by simp)
      | cons r3 rz =>
        cases rz with
        | nil => exact run_sw3 F hr hb hx J r1 r2 r3 q
        | cons r4 rz => exact absurd hl (by simp)
end
end L2
namespace Wd
def mate (x : Int) : Int := if x % 2 = 0 then x + 1 else x - 1
theorem mate_mate (x : Int) : mate (mate x) = x := by unfold mate; split <;> split <;> omega
theorem mate_eq {a b : Int} : b = mate a ↔ a = mate b := ⟨fun h => by rw [h, mate_mate], fun h => by rw [h, mate_mate]⟩
theorem mate_range {n x : Int} (h0 : 0 ≤ x) (h1 : x < 2 * n) : 0 ≤ mate x ∧ mate x < 2 * n := by unfold mate; split <;> omega
def push (st : List Int) (x : Int) : List Int := if st.getLast? = some (mate x) then st.dropLast else st ++ [x]
def freed (w : List Int) : List Int := w.foldl push []
def undo (w : List Int) : List Int := w.reverse.map mate
def Rd (st : List Int) : Prop := ∀ i a b, st[i]? = some a → st[i + 1]? = some b → b ≠ mate a
theorem rd_nil : Rd [] := fun i a b h => by simp at h
theorem last_get {st : List Int} {a : Int} : st.getLast? = some a ↔ st ≠ [] ∧ st[st.length - 1]? = some a := by
  rw [List.getLast?_eq_getElem?]
  constructor
  · intro h
    refine ⟨fun e => ?_, h⟩
    subst e
    simp at h
  · exact fun h => h.2
theorem rd_push {st : List Int} {x : Int} (h : Rd st) : Rd (push st x) := by
  unfold push
  split
  · intro i a b h1 h2
    have e1 : i + 1 < st.dropLast.length := (List.getElem?_eq_some_iff.mp h2).1
    rw [List.length_dropLast] at e1
    rw [List.getElem?_dropLast, if_pos (by omega)] at h1
    rw [List.getElem?_dropLast, if_pos (by omega)] at h2
    exact h i a b h1 h2
  · rename_i hn
    intro i a b h1 h2
    have e1 : i + 1 < (st ++ [x]).length := (List.getElem?_eq_some_iff.mp h2).1
    rw [List.length_append, List.length_singleton] at e1
    by_cases hi : i + 1 < st.length
    · rw [List.getElem?_append_left (by omega)] at h1
      rw [List.getElem?_append_left hi] at h2
      exact h i a b h1 h2
    · have ei : i + 1 = st.length := by omega
      rw [List.getElem?_append_left (by omega)] at h1
      rw [List.getElem?_append_right (by omega)] at h2
      have e0 : i + 1 - st.length = 0 := by omega
      rw [e0] at h2
      have hb : x = b := by simpa using h2
      subst hb
      intro z
      apply hn
      rw [last_get]
      refine ⟨fun e => by rw [e] at ei; simp at ei, ?_⟩
      have e2 : st.length - 1 = i := by omega
      rw [e2, h1, mate_eq.mp z]
theorem snoc_of_last {st : List Int} {a : Int} (h : st.getLast? = some a) : st.dropLast ++ [a] = st := by
  have hne := (last_get.mp h).1
  have e := List.dropLast_concat_getLast hne
  have e2 : st.getLast hne = a := by
    rw [List.getLast?_eq_some_getLast hne] at h
    exact Option.some.inj h
  rw [e2] at e
  exact e
theorem push_push {st : List Int} {x : Int} (h : Rd st) : push (push st (mate x)) x = st := by
  unfold push
  split
  · rename_i h1
    rw [mate_mate] at h1
    have e := snoc_of_last h1
    have n : ¬ st.dropLast.getLast? = some (mate x) := by
      intro z
      obtain ⟨z1, z2⟩ := last_get.mp z
      have l0 : 0 < st.dropLast.length := List.length_pos_iff.mpr z1
      have hl : st.dropLast.length = st.length - 1 := List.length_dropLast
      have g1 : st[st.dropLast.length - 1]? = some (mate x) := by
        rw [← z2, List.getElem?_dropLast, if_pos (by omega)]
      have g2 : st[st.dropLast.length - 1 + 1]? = some x := by
        have := (last_get.mp h1).2
        have e3 : st.dropLast.length - 1 + 1 = st.length - 1 := by omega
        rw [e3]
        exact this
      exact h _ _ _ g1 g2 (mate_mate x).symm
    rw [if_neg n, e]
  · rename_i h1
    rw [if_pos (by simp), List.dropLast_concat]
theorem rd_fold : ∀ (w : List Int) {st : List Int}, Rd st → Rd (w.foldl push st)
  | [], _, h => h
  | a :: w, _, h => rd_fold w (rd_push h)
theorem snoc_ind {P : List Int → Prop} (h0 : P []) (h1 : ∀ l a, P l → P (l ++ [a])) (l : List Int) : P l := by
  have h : ∀ r : List Int, P r.reverse := by
    intro r
    induction r with
    | nil => exact h0
    | cons a r ih => rw [List.reverse_cons]; exact h1 _ _ ih
  have := h l.reverse
  rwa [List.reverse_reverse] at this
theorem fold_freed {st : List Int} (h : Rd st) (b : List Int) : b.foldl push st = (freed b).foldl push st := by
  induction b using snoc_ind with
  | h0 => rfl
  | h1 l a ih =>
    have e : freed (l ++ [a]) = push (freed l) a := by unfold freed; rw [List.foldl_append]; rfl
    rw [e, List.foldl_append, ih]
    show push ((freed l).foldl push st) a = _
    by_cases c : (freed l).getLast? = some (mate a)
    · have e2 := snoc_of_last c
      unfold push
      rw [if_pos c]
      show push ((freed l).foldl push st) a = _
      conv => lhs; rw [← e2, List.foldl_append]
      exact push_push (rd_fold _ h)
    · have e2 : push (freed l) a = freed l ++ [a] := by unfold push; rw [if_neg c]
      rw [e2, List.foldl_append]
      rfl
theorem rd_freed (w : List Int) : Rd (freed w) := rd_fold w rd_nil
theorem freed_freed (w : List Int) : freed (freed w) = freed w := (fold_freed rd_nil w).symm
theorem freed_app (a b : List Int) : freed (a ++ b) = freed (freed a ++ freed b) := by
  have e1 : freed (a ++ b) = (freed b).foldl push (freed a) := by
    unfold freed
    rw [List.foldl_append]
    exact fold_freed (rd_fold a rd_nil) b
  have e2 : freed (freed a ++ freed b) = (freed b).foldl push (freed a) := by
    show (freed a ++ freed b).foldl push [] = _
    rw [List.foldl_append]
    show (freed b).foldl push (freed (freed a)) = _
    rw [freed_freed]
  rw [e1, e2]
theorem undo_cons (a : Int) (w : List Int) : undo (a :: w) = undo w ++ [mate a] := by
  unfold undo
  rw [List.reverse_cons, List.map_append]
  rfl
theorem fold_undo : ∀ (w : List Int) {st : List Int}, Rd st → (w ++ undo w).foldl push st = st
  | [], _, _ => rfl
  | a :: w, st, h => by
    rw [undo_cons, List.cons_append, List.foldl_cons, ← List.append_assoc, List.foldl_append, fold_undo w (rd_push h)]
    show push (push st a) (mate a) = st
    have := push_push (x := mate a) h
    rw [mate_mate] at this
    exact this
theorem freed_undo (w : List Int) : freed (w ++ undo w) = [] := fold_undo w rd_nil
theorem freed_cut (u v : List Int) (b : Int) : freed (u ++ mate b :: b :: v) = freed (u ++ v) := by
  unfold freed
  rw [List.foldl_append, List.foldl_append, List.foldl_cons, List.foldl_cons, push_push (rd_fold u rd_nil)]
theorem freed_of_rd (w : List Int) : Rd w → freed w = w := by
  induction w using snoc_ind with
  | h0 => intro _; rfl
  | h1 l a ih =>
    intro h
    have hl : Rd l := fun i x y h1 h2 => h i x y (by rw [List.getElem?_append_left (List.getElem?_eq_some_iff.mp h1).1]; exact h1) (by rw [List.getElem?_append_left (List.getElem?_eq_some_iff.mp h2).1]; exact h2)
    have e : freed (l ++ [a]) = push (freed l) a := by unfold freed; rw [List.foldl_append]; rfl
    rw [e, ih hl]
    unfold push
    rw [if_neg]
    intro z
    obtain ⟨z1, z2⟩ := last_get.mp z
    have l0 : 0 < l.length := List.length_pos_iff.mpr z1
    refine h (l.length - 1) (mate a) a (by rw [List.getElem?_append_left (by omega)]; exact z2) ?_ (mate_mate a).symm
    have e3 : l.length - 1 + 1 = l.length := by omega
    rw [e3, List.getElem?_append_right (Nat.le_refl _)]
    simp
theorem mem_push {st : List Int} {x y : Int} (h : y ∈ push st x) : y ∈ st ∨ y = x := by
  unfold push at h
  split at h
  · exact .inl (List.dropLast_subset _ h)
  · simpa using h
theorem mem_fold : ∀ (w : List Int) {st : List Int} {y : Int}, y ∈ w.foldl push st → y ∈ st ∨ y ∈ w
  | [], _, _, h => .inl h
  | a :: w, _, y, h => by
    rcases mem_fold w h with h | h
    · rcases mem_push h with h | h
      · exact .inl h
      · exact .inr (by rw [h]; exact List.mem_cons_self)
    · exact .inr (List.mem_cons_of_mem _ h)
theorem mem_freed {w : List Int} {y : Int} (h : y ∈ freed w) : y ∈ w := by
  rcases mem_fold w h with h | h
  · cases h
  · exact h
theorem len_push (st : List Int) (x : Int) : (push st x).length ≤ st.length + 1 := by
  unfold push
  split
  · rw [List.length_dropLast]; omega
  · rw [List.length_append]; simp
theorem len_fold : ∀ (w : List Int) (st : List Int), (w.foldl push st).length ≤ st.length + w.length
  | [], _ => by simp
  | a :: w, st => by
    have h1 := len_fold w (push st a)
    have h2 := len_push st a
    rw [List.foldl_cons, List.length_cons]
    omega
theorem len_freed (w : List Int) : (freed w).length ≤ w.length := by
  have h := len_fold w []
  show (w.foldl push []).length ≤ _
  simp only [List.length_nil, Nat.zero_add] at h
  exact h
theorem freed_snoc (w : List Int) (a : Int) : freed (w ++ [a]) = push (freed w) a := by unfold freed; rw [List.foldl_append]; rfl
theorem undo_len (w : List Int) : (undo w).length = w.length := by unfold undo; rw [List.length_map, List.length_reverse]
end Wd
set_option maxRecDepth 100000
set_option maxHeartbeats 4000000
namespace L2
open PySem PySem.Spec PyProof.Rows
theorem tuple_mulS (l : Addr) (items : Array Value) (n : Nat) (dd : Option Addr) (sl : Array (Option Value)) (x : Int) (u : Tok) (c0 : (decide (x < -(2 ^ 63)) || decide (x ≥ 2 ^ 63)) = false) (c1 : (items.isEmpty || x == 1) = true) :
    Meets (Builtin.«tuple.__mul__» ⟨[.ref l, .int x u], []⟩) (fun _ R s => s.heap.get? l = some { cls := .type "tuple", dict := dd, data := .seq items n, slots := sl } ∧ R (.ok (.ret (Value.ref l))) s) :=
  .of_wp fun prog w A R s h => by
    obtain ⟨hp, g, d, tk, os⟩ := s
    obtain ⟨hl, h⟩ := h
    have f1 := AutoSeq1.idx_int
    wp_walk using wpAny_loadPart' hl
    repeat (first
      | (refine wpAny_ite_false (decide_eq_false (by rw [c0]; exact Bool.false_ne_true)) ?_; wp_walk using wpAny_loadPart' hl)
      | (refine wpAny_ite_true (decide_eq_true (by rw [c1])) ?_; wp_walk using wpAny_loadPart' hl)
      | (refine wpAny_ite_true c1 ?_; wp_walk using wpAny_loadPart' hl))
    exact ⟨_, rfl, h⟩
def rRepA (K : PySem.W.Frag) : R2 := fun x y H Q => ∃ l k xs, x = .ref l ∧ y = .int k ∧ SqT K H l xs ∧ xs ≠ [] ∧ 1 ≤ k ∧ k ≤ 1000 ∧ xs.length ≤ 1000 ∧ (k = 1 → Q (.ref l) H) ∧ (2 ≤ k → ∀ p, H p = none → Q (.ref p) (upd H p (.tup (List.replicate k.toNat xs).flatten)))
section
variable {X : Cx} {K : PySem.W.Frag}
theorem op_repA : OpR X (binaryOp .Mult) (rRepA X.K) := by
  intro pins s σ H x y v u Q I rx ry h
  obtain ⟨l, k, xs, rfl, rfl, hT, hne, h1, h2, hz, q1, q2⟩ := h
  by_cases hk : k = 1
  · subst hk
    cases rx
    obtain ⟨t, rfl⟩ := ry
    obtain ⟨its, r, ⟨⟨cls, dd, data, sl⟩, ho, hc, n, hd⟩, hs⟩ := I.tuple hT
    simp only at hc hd
    subst hc hd
    refine wpAny_binaryOp_repeat_ref (T := "tuple") (U := "int") (by decide) ⟨_, ho, rfl⟩ (fun s' => typeIs_int s' 1 t) noFill_tuple_mul F.fills_int_mul F.slot_int_rmul repeat_tuple F.slot_int_index.lookup
      (call_meets F.slot_int_rmul (typeIs_int s 1 t) F.entry_int_rmul (F.args_int_rmul_2 _ _) (int_rmul_tuple 1 t l its.toArray n dd sl)
        ⟨ho, rfl, ⟨_, ho, rfl⟩, call_meets F.slot_tuple_mul ⟨_, ho, rfl⟩ F.entry_tuple_mul (F.args_tuple_mul_2 _ _) (tuple_mulS l its.toArray n dd sl 1 t (by decide) (by simp)) ⟨ho, ?_⟩⟩)
    exact ⟨.ref l, H, I, rfl, q1 rfl⟩
  · exact op_repT pins s σ H _ _ v u Q I rx ry ⟨l, k, xs, rfl, rfl, hT, hne, by omega, h2, hz, q2 (by omega)⟩
theorem op_repAK (h : X.K = K) : OpR X (binaryOp .Mult) (rRepA K) := by subst h; exact op_repA
def rShowS : List V → Hp → VK → Prop := fun xs H Q => ∃ x, xs = [.str x] ∧ (reprText x).length ≤ sizeLine ∧ Q (.str (reprText x)) H
theorem call_showS : CallR X (.builtin "repr") rShowS := by
  intro pins s σ H xs us Q I r h
  obtain ⟨x, rfl, hz, q⟩ := h
  obtain ⟨u, rfl, rx⟩ := vals1 r
  obtain ⟨t, rfl⟩ := rx
  exact PySem.P.repr_of_str ⟨.str (reprText x), H, I.tok _, ⟨_, rfl⟩, q⟩ hz
def rInDT (K : PySem.W.Frag) : R2 := fun x y H Q => ∃ d ds, Dp K H x d ∧ Dp K H y (.tuple ds) ∧ SeqAt.shaped d = true ∧ SeqAt.shaped (.list ds) = true ∧ Q (.bl (ds.any fun z => PyData.eqv z d)) H
theorem op_inDT (hu : X.A.units + 65 < cLine) : OpR X (compareOp .In) (rInDT X.K) := by
  intro pins s σ H x y v u Q I rx ry h
  obtain ⟨d, ds, hd, he, sd, se, q⟩ := h
  obtain ⟨as, r1⟩ := Dp.reads I d x v hd rx
  obtain ⟨bs, r2⟩ := Dp.reads I (.tuple ds) y u he ry
  exact SeqAt.in_tuple_reads r2 r1 (SeqAt.canLay_of_shaped se) (SeqAt.canLay_of_shaped sd) (room_in_shaped sd hu) ⟨.bl _, H, I, rfl, q⟩
theorem Room.units65 {k : Nat} {A : Around} (r : Room k A) : A.units + 65 < cLine := by
  have := r.un
  omega
end
end L2
set_option maxRecDepth 100000
set_option maxHeartbeats 4000000
namespace Tt
open PySem L2
structure DefAt (K : PySem.W.Frag) (mg : Str → Option Value) (x : Str) (st : Stmt) (ps : List Str) where
  a : Addr
  fd : FuncData
  F : Fun K x x st a fd
  g : mg x = some (.ref a)
  b : Binds K fd ps []
theorem DefAt.k {K : PySem.W.Frag} {mg : Str → Option Value} {x : Str} {st : Stmt} {ps : List Str} (d : DefAt K mg x st ps) : PySem.W.keepIn K (.ref d.a) = true := d.F.kp
structure Ex0 (K : PySem.W.Frag) (mg : Str → Option Value) (x : Str) where
  C : Addr
  g : mg x = some (.ref C)
  k : PySem.W.keepIn K (.ref C) = true
  q : PySem.W.excIn K C [.type "ValueError", .type "Exception", .type "BaseException", .type "object"] "ValueError.__new__" = true
  ty : PySem.W.typeIn K (.ref C) = some (.type "type")
  ec : ExcC K C
structure Ex1 (K : PySem.W.Frag) (mg : Str → Option Value) (x qual : Str) (st : Stmt) (ps : List Str) (field : Str) where
  C : Addr
  fI : Addr
  fd : FuncData
  g : mg x = some (.ref C)
  o : OexC K C
  i : PySem.W.findIn K (.ref C) "__init__" = some (some (.ref fI))
  t : PySem.W.typeIn K (.ref fI) = some (.type "function")
  F : Fun K "__init__" qual st fI fd
  b : Binds K fd ps []
  n : PySem.W.findIn K (.ref C) field = some none
  xf : XfC K C
  ec : ExcC K C
structure ClsAt (K : PySem.W.Frag) (mg : Str → Option Value) (x qual : Str) (st : Stmt) (ps : List Str) (attrs : List Str) where
  C : Addr
  fI : Addr
  fd : FuncData
  g : mg x = some (.ref C)
  c : Cls K C
  n : ∀ f ∈ attrs, NoAttr K C f
  kk : Mk K C fI
  F : Fun K "__init__" qual st fI fd
  b : Binds K fd ps []
  ha : PySem.W.findIn K (.ref C) "__class__" = some (some (.builtin "object.__class__"))
  hn : PySem.W.specialIn K (.builtin "object.__class__") "__get__" = some (some (.builtin "getset_descriptor.__get__"))
  ht : PySem.W.takesIn K (.builtin "object.__class__") = some true
  hm : PySem.W.mroIn K C (.type "object") = some true
structure FunC (K : PySem.W.Frag) (x qual : Str) (st : Stmt) (f : Addr) (fd : FuncData) (cdv : Value) : Prop where
  ex : ∃ (oc : Value) (od : Option Addr) (kV doc pm : Value) (an : Option Addr) (ct : Value) (osl : Array (Option Value)),
    fd = PySem.W.fnOf x qual (defArgs st) (defBody st) (defScope st) .none kV doc pm an cdv ct ∧ K.lookup f = some ⟨oc, od, .func fd, osl⟩ ∧ PySem.W.codeIn K cdv qual = true
theorem FunC.ok {P : Program} {w : World} {K : PySem.W.Frag} {mg : Str → Option Value} {base : Heap} {x qual : Str} {st : Stmt} {f : Addr} {fd : FuncData} {cdv : Value} {N ps : List Str} {k : Nat} {sp : Sp} (F : FunC K x qual st f fd cdv) (S : FnScope N ps (defScope st)) (len : ∀ vs H Q E, sp vs H Q E → vs.length = ps.length)
    (body : ∀ (A : Around) (outer : List Env) (s : Shared) (H : Hp) (vs : List V) (Q : VK) (E : XK), Room k (A.deeper (PyProof.Rows.envOfC qual (defScope st) s.heap.objs.size f cdv)) → sp vs H Q E →
      ∃ t, PSs (cxOf CX0 P w K mg base N qual (defScope st) f cdv A outer s H E).nox (defBody st) t ∧ t { nx := fun _ H' => Q .non H', rt := Q } (L2.start N vs) H) : FnOk P w K mg base CX0 (k + 1) f fd ps sp := by
  obtain ⟨oc, od, kV, doc, pm, an, ct, osl, rfl, lk, hc⟩ := F.ex
  refine fn_of lk hc S len fun A outer s H vs Q E hr h => ?_
  obtain ⟨t, h1, h2⟩ := body A outer s H vs Q E hr h
  exact ⟨t, h1.nox, h2⟩
def top (i : Nat) : Stmt := PySem.Challenge.pw_tautrounds_k06_whole_roots_and_powers.main.body.getD i (.Pass ⟨0, 0, 0, 0⟩)
abbrev s_BadNumber_init : Stmt := inClass (top 2) 0
abbrev N_BadNumber_init : List Str := ["self", "part"]
theorem sc_BadNumber_init : FnScope N_BadNumber_init ["self", "part"] (defScope s_BadNumber_init) := ⟨rfl, rfl, rfl, by decide +kernel, rfl, by decide +kernel, by decide +kernel⟩
abbrev s_BadSkin_init : Stmt := inClass (top 4) 0
abbrev N_BadSkin_init : List Str := ["self", "part"]
theorem sc_BadSkin_init : FnScope N_BadSkin_init ["self", "part"] (defScope s_BadSkin_init) := ⟨rfl, rfl, rfl, by decide +kernel, rfl, by decide +kernel, by decide +kernel⟩
abbrev s_is_number : Stmt := top 6
abbrev N_is_number : List Str := ["thing"]
theorem sc_is_number : FnScope N_is_number ["thing"] (defScope s_is_number) := ⟨rfl, rfl, rfl, by decide +kernel, rfl, by decide +kernel, by decide +kernel⟩
abbrev s_is_within : Stmt := top 7
abbrev N_is_within : List Str := ["thing", "low", "high"]
theorem sc_is_within : FnScope N_is_within ["thing", "low", "high"] (defScope s_is_within) := ⟨rfl, rfl, rfl, by decide +kernel, rfl, by decide +kernel, by decide +kernel⟩
abbrev s_is_tuple : Stmt := top 8
abbrev N_is_tuple : List Str := ["thing"]
theorem sc_is_tuple : FnScope N_is_tuple ["thing"] (defScope s_is_tuple) := ⟨rfl, rfl, rfl, by decide +kernel, rfl, by decide +kernel, by decide +kernel⟩
abbrev s_is_list : Stmt := top 9
abbrev N_is_list : List Str := ["thing"]
theorem sc_is_list : FnScope N_is_list ["thing"] (defScope s_is_list) := ⟨rfl, rfl, rfl, by decide +kernel, rfl, by decide +kernel, by decide +kernel⟩
abbrev s_is_row : Stmt := top 11
abbrev N_is_row : List Str := ["row", "end"]
theorem sc_is_row : FnScope N_is_row ["row"] (defScope s_is_row) := ⟨rfl, rfl, rfl, by decide +kernel, rfl, by decide +kernel, by decide +kernel⟩
abbrev s_Skin_init : Stmt := inClass (top 12) 0
abbrev N_Skin_init : List Str := ["self", "row", "start", "end"]
theorem sc_Skin_init : FnScope N_Skin_init ["self", "row"] (defScope s_Skin_init) := ⟨rfl, rfl, rfl, by decide +kernel, rfl, by decide +kernel, by decide +kernel⟩
abbrev s_Skin_eq : Stmt := inClass (top 12) 1
abbrev N_Skin_eq : List Str := ["self", "other"]
theorem sc_Skin_eq : FnScope N_Skin_eq ["self", "other"] (defScope s_Skin_eq) := ⟨rfl, rfl, rfl, by decide +kernel, rfl, by decide +kernel, by decide +kernel⟩
abbrev s_check_skin : Stmt := top 13
abbrev N_check_skin : List Str := ["skin"]
theorem sc_check_skin : FnScope N_check_skin ["skin"] (defScope s_check_skin) := ⟨rfl, rfl, rfl, by decide +kernel, rfl, by decide +kernel, by decide +kernel⟩
abbrev s_is_end : Stmt := top 14
abbrev N_is_end : List Str := ["skin", "thing"]
theorem sc_is_end : FnScope N_is_end ["skin", "thing"] (defScope s_is_end) := ⟨rfl, rfl, rfl, by decide +kernel, rfl, by decide +kernel, by decide +kernel⟩
abbrev s_least_turn : Stmt := top 15
abbrev N_least_turn : List Str := ["word", "many", "one", "other", "alike", "first", "second", "start"]
theorem sc_least_turn : FnScope N_least_turn ["word"] (defScope s_least_turn) := ⟨rfl, rfl, rfl, by decide +kernel, rfl, by decide +kernel, by decide +kernel⟩
abbrev s_is_any_word : Stmt := top 17
abbrev N_is_any_word : List Str := ["skin", "thing", "letter"]
theorem sc_is_any_word : FnScope N_is_any_word ["skin", "thing"] (defScope s_is_any_word) := ⟨rfl, rfl, rfl, by decide +kernel, rfl, by decide +kernel, by decide +kernel⟩
abbrev s_has_letters : Stmt := top 18
abbrev N_has_letters : List Str := ["skin", "thing", "most"]
theorem sc_has_letters : FnScope N_has_letters ["skin", "thing", "most"] (defScope s_has_letters) := ⟨rfl, rfl, rfl, by decide +kernel, rfl, by decide +kernel, by decide +kernel⟩
abbrev s_cut_free : Stmt := top 19
abbrev N_cut_free : List Str := ["word", "left", "letter"]
theorem sc_cut_free : FnScope N_cut_free ["word"] (defScope s_cut_free) := ⟨rfl, rfl, rfl, by decide +kernel, rfl, by decide +kernel, by decide +kernel⟩
abbrev s_gone_back : Stmt := top 20
abbrev N_gone_back : List Str := ["word", "letter"]
theorem sc_gone_back : FnScope N_gone_back ["word"] (defScope s_gone_back) := ⟨rfl, rfl, rfl, by decide +kernel, rfl, by decide +kernel, by decide +kernel⟩
abbrev s_closed_letters : Stmt := top 23
abbrev N_closed_letters : List Str := ["word", "left", "cut"]
theorem sc_closed_letters : FnScope N_closed_letters ["word"] (defScope s_closed_letters) := ⟨rfl, rfl, rfl, by decide +kernel, rfl, by decide +kernel, by decide +kernel⟩
abbrev s_closed_up : Stmt := top 24
abbrev N_closed_up : List Str := ["word", "left"]
theorem sc_closed_up : FnScope N_closed_up ["word"] (defScope s_closed_up) := ⟨rfl, rfl, rfl, by decide +kernel, rfl, by decide +kernel, by decide +kernel⟩
abbrev s_is_fit_round : Stmt := top 25
abbrev N_is_fit_round : List Str := ["skin", "thing"]
theorem sc_is_fit_round : FnScope N_is_fit_round ["skin", "thing"] (defScope s_is_fit_round) := ⟨rfl, rfl, rfl, by decide +kernel, rfl, by decide +kernel, by decide +kernel⟩
abbrev s_check_round : Stmt := top 26
abbrev N_check_round : List Str := ["skin", "loop"]
theorem sc_check_round : FnScope N_check_round ["skin", "loop"] (defScope s_check_round) := ⟨rfl, rfl, rfl, by decide +kernel, rfl, by decide +kernel, by decide +kernel⟩
abbrev s_gone_round_back : Stmt := top 27
abbrev N_gone_round_back : List Str := ["loop"]
theorem sc_gone_round_back : FnScope N_gone_round_back ["loop"] (defScope s_gone_round_back) := ⟨rfl, rfl, rfl, by decide +kernel, rfl, by decide +kernel, by decide +kernel⟩
abbrev s_turned_about : Stmt := top 28
abbrev N_turned_about : List Str := ["skin", "loop"]
theorem sc_turned_about : FnScope N_turned_about ["skin", "loop"] (defScope s_turned_about) := ⟨rfl, rfl, rfl, by decide +kernel, rfl, by decide +kernel, by decide +kernel⟩
abbrev s_gone : Stmt := top 29
abbrev N_gone : List Str := ["skin", "loop", "times"]
theorem sc_gone : FnScope N_gone ["skin", "loop", "times"] (defScope s_gone) := ⟨rfl, rfl, rfl, by decide +kernel, rfl, by decide +kernel, by decide +kernel⟩
abbrev s_rooted : Stmt := top 30
abbrev N_rooted : List Str := ["loop", "size"]
theorem sc_rooted : FnScope N_rooted ["loop"] (defScope s_rooted) := ⟨rfl, rfl, rfl, by decide +kernel, rfl, by decide +kernel, by decide +kernel⟩
abbrev s_root_of : Stmt := top 31
abbrev N_root_of : List Str := ["skin", "loop"]
theorem sc_root_of : FnScope N_root_of ["skin", "loop"] (defScope s_root_of) := ⟨rfl, rfl, rfl, by decide +kernel, rfl, by decide +kernel, by decide +kernel⟩
abbrev s_go_along : Stmt := top 32
abbrev N_go_along : List Str := ["one", "other", "root"]
theorem sc_go_along : FnScope N_go_along ["one", "other"] (defScope s_go_along) := ⟨rfl, rfl, rfl, by decide +kernel, rfl, by decide +kernel, by decide +kernel⟩
abbrev s_along : Stmt := top 33
abbrev N_along : List Str := ["skin", "one", "other"]
theorem sc_along : FnScope N_along ["skin", "one", "other"] (defScope s_along) := ⟨rfl, rfl, rfl, by decide +kernel, rfl, by decide +kernel, by decide +kernel⟩
abbrev s_l_begun : Stmt := top 35
abbrev N_l_begun : List Str := ["script", "large", "grain"]
theorem sc_l_begun : FnScope N_l_begun ["script"] (defScope s_l_begun) := ⟨rfl, rfl, rfl, by decide +kernel, rfl, by decide +kernel, by decide +kernel⟩
abbrev s_l_mixed : Stmt := top 36
abbrev N_l_mixed : List Str := ["draw", "turn", "found", "great", "blend", "grain"]
theorem sc_l_mixed : FnScope N_l_mixed ["draw"] (defScope s_l_mixed) := ⟨rfl, rfl, rfl, by decide +kernel, rfl, by decide +kernel, by decide +kernel⟩
abbrev s_l_take : Stmt := top 37
abbrev N_l_take : List Str := ["draw", "amount", "found"]
theorem sc_l_take : FnScope N_l_take ["draw", "amount"] (defScope s_l_take) := ⟨rfl, rfl, rfl, by decide +kernel, rfl, by decide +kernel, by decide +kernel⟩
abbrev s_l_pick : Stmt := top 38
abbrev N_l_pick : List Str := ["draw", "some"]
theorem sc_l_pick : FnScope N_l_pick ["draw", "some"] (defScope s_l_pick) := ⟨rfl, rfl, rfl, by decide +kernel, rfl, by decide +kernel, by decide +kernel⟩
abbrev s_l_shuffled : Stmt := top 39
abbrev N_l_shuffled : List Str := ["draw", "some", "left", "found"]
theorem sc_l_shuffled : FnScope N_l_shuffled ["draw", "some"] (defScope s_l_shuffled) := ⟨rfl, rfl, rfl, by decide +kernel, rfl, by decide +kernel, by decide +kernel⟩
abbrev s_l_caught : Stmt := top 40
abbrev N_l_caught : List Str := ["work", "caught", "error"]
theorem sc_l_caught : FnScope N_l_caught ["work"] (defScope s_l_caught) := ⟨rfl, rfl, rfl, by decide +kernel, rfl, by decide +kernel, by decide +kernel⟩
abbrev s_l_number_error : Stmt := top 41
abbrev N_l_number_error : List Str := ["error", "part"]
theorem sc_l_number_error : FnScope N_l_number_error ["error", "part"] (defScope s_l_number_error) := ⟨rfl, rfl, rfl, by decide +kernel, rfl, by decide +kernel, by decide +kernel⟩
abbrev s_l_skin_error : Stmt := top 42
abbrev N_l_skin_error : List Str := ["error"]
theorem sc_l_skin_error : FnScope N_l_skin_error ["error"] (defScope s_l_skin_error) := ⟨rfl, rfl, rfl, by decide +kernel, rfl, by decide +kernel, by decide +kernel⟩
abbrev s_l_mate : Stmt := top 43
abbrev N_l_mate : List Str := ["end"]
theorem sc_l_mate : FnScope N_l_mate ["end"] (defScope s_l_mate) := ⟨rfl, rfl, rfl, by decide +kernel, rfl, by decide +kernel, by decide +kernel⟩
abbrev s_l_row : Stmt := top 44
abbrev N_l_row : List Str := ["draw", "most"]
theorem sc_l_row : FnScope N_l_row ["draw", "most"] (defScope s_l_row) := ⟨rfl, rfl, rfl, by decide +kernel, rfl, by decide +kernel, by decide +kernel⟩
abbrev s_l_least_turn : Stmt := top 45
abbrev N_l_least_turn : List Str := ["word_here", "at"]
theorem sc_l_least_turn : FnScope N_l_least_turn ["word_here"] (defScope s_l_least_turn) := ⟨rfl, rfl, rfl, by decide +kernel, rfl, by decide +kernel, by decide +kernel⟩
abbrev s_l_freed : Stmt := top 46
abbrev N_l_freed : List Str := ["word_here", "found", "letter"]
theorem sc_l_freed : FnScope N_l_freed ["word_here"] (defScope s_l_freed) := ⟨rfl, rfl, rfl, by decide +kernel, rfl, by decide +kernel, by decide +kernel⟩
abbrev s_l_undone : Stmt := top 47
abbrev N_l_undone : List Str := ["word_here", "letter"]
theorem sc_l_undone : FnScope N_l_undone ["word_here"] (defScope s_l_undone) := ⟨rfl, rfl, rfl, by decide +kernel, rfl, by decide +kernel, by decide +kernel⟩
abbrev s_l_rounded : Stmt := top 48
abbrev N_l_rounded : List Str := ["word_here", "found"]
theorem sc_l_rounded : FnScope N_l_rounded ["word_here"] (defScope s_l_rounded) := ⟨rfl, rfl, rfl, by decide +kernel, rfl, by decide +kernel, by decide +kernel⟩
abbrev s_l_core : Stmt := top 49
abbrev N_l_core : List Str := ["draw", "ends_here", "size", "found", "some", "letter"]
theorem sc_l_core : FnScope N_l_core ["draw", "ends_here", "size"] (defScope s_l_core) := ⟨rfl, rfl, rfl, by decide +kernel, rfl, by decide +kernel, by decide +kernel⟩
abbrev s_l_root : Stmt := top 50
abbrev N_l_root : List Str := ["loop_here", "size", "many"]
theorem sc_l_root : FnScope N_l_root ["loop_here"] (defScope s_l_root) := ⟨rfl, rfl, rfl, by decide +kernel, rfl, by decide +kernel, by decide +kernel⟩
abbrev s_l_loop : Stmt := top 51
abbrev N_l_loop : List Str := ["draw", "ends_here", "base", "most"]
theorem sc_l_loop : FnScope N_l_loop ["draw", "ends_here"] (defScope s_l_loop) := ⟨rfl, rfl, rfl, by decide +kernel, rfl, by decide +kernel, by decide +kernel⟩
abbrev s_l_is_along : Stmt := top 52
abbrev N_l_is_along : List Str := ["one", "other", "first", "second"]
theorem sc_l_is_along : FnScope N_l_is_along ["one", "other"] (defScope s_l_is_along) := ⟨rfl, rfl, rfl, by decide +kernel, rfl, by decide +kernel, by decide +kernel⟩
abbrev s_l_no_loop : Stmt := top 53
abbrev N_l_no_loop : List Str := ["draw", "loop_here", "some"]
theorem sc_l_no_loop : FnScope N_l_no_loop ["draw", "loop_here"] (defScope s_l_no_loop) := ⟨rfl, rfl, rfl, by decide +kernel, rfl, by decide +kernel, by decide +kernel⟩
abbrev s_l_refused : Stmt := top 54
abbrev N_l_refused : List Str := ["draw", "skin", "loop_here", "bad", "no", "work"]
theorem sc_l_refused : FnScope N_l_refused ["draw", "skin", "loop_here"] (defScope s_l_refused) := ⟨rfl, rfl, rfl, by decide +kernel, rfl, by decide +kernel, by decide +kernel⟩
abbrev s_law : Stmt := top 55
abbrev N_law : List Str := ["script", "draw", "turn", "skin", "loop_here", "times", "due", "power", "about", "some", "other", "truth"]
theorem sc_law : FnScope N_law ["script"] (defScope s_law) := ⟨rfl, rfl, rfl, by decide +kernel, rfl, by decide +kernel, by decide +kernel⟩
structure Txt (K : PySem.W.Frag) (mg : Str → Option Value) where
  RoundError : Ex0 K mg "RoundError"
  BadNumber : Ex1 K mg "BadNumber" "BadNumber.__init__" s_BadNumber_init ["self", "part"] "part"
  BadRound : Ex0 K mg "BadRound"
  BadSkin : Ex1 K mg "BadSkin" "BadSkin.__init__" s_BadSkin_init ["self", "part"] "part"
  is_number : DefAt K mg "is_number" s_is_number ["thing"]
  is_within : DefAt K mg "is_within" s_is_within ["thing", "low", "high"]
  is_tuple : DefAt K mg "is_tuple" s_is_tuple ["thing"]
  is_list : DefAt K mg "is_list" s_is_list ["thing"]
  is_row : DefAt K mg "is_row" s_is_row ["row"]
  Skin : ClsAt K mg "Skin" "Skin.__init__" s_Skin_init ["self", "row"] ["row", "bands", "places"]
  check_skin : DefAt K mg "check_skin" s_check_skin ["skin"]
  is_end : DefAt K mg "is_end" s_is_end ["skin", "thing"]
  least_turn : DefAt K mg "least_turn" s_least_turn ["word"]
  is_any_word : DefAt K mg "is_any_word" s_is_any_word ["skin", "thing"]
  has_letters : DefAt K mg "has_letters" s_has_letters ["skin", "thing", "most"]
  cut_free : DefAt K mg "cut_free" s_cut_free ["word"]
  gone_back : DefAt K mg "gone_back" s_gone_back ["word"]
  closed_letters : DefAt K mg "closed_letters" s_closed_letters ["word"]
  closed_up : DefAt K mg "closed_up" s_closed_up ["word"]
  is_fit_round : DefAt K mg "is_fit_round" s_is_fit_round ["skin", "thing"]
  check_round : DefAt K mg "check_round" s_check_round ["skin", "loop"]
  gone_round_back : DefAt K mg "gone_round_back" s_gone_round_back ["loop"]
  turned_about : DefAt K mg "turned_about" s_turned_about ["skin", "loop"]
  gone : DefAt K mg "gone" s_gone ["skin", "loop", "times"]
  rooted : DefAt K mg "rooted" s_rooted ["loop"]
  root_of : DefAt K mg "root_of" s_root_of ["skin", "loop"]
  go_along : DefAt K mg "go_along" s_go_along ["one", "other"]
  along : DefAt K mg "along" s_along ["skin", "one", "other"]
  l_begun : DefAt K mg "_law_begun" s_l_begun ["script"]
  l_mixed : DefAt K mg "_law_mixed" s_l_mixed ["draw"]
  l_take : DefAt K mg "_law_take" s_l_take ["draw", "amount"]
  l_pick : DefAt K mg "_law_pick" s_l_pick ["draw", "some"]
  l_shuffled : DefAt K mg "_law_shuffled" s_l_shuffled ["draw", "some"]
  l_caught : DefAt K mg "_law_caught" s_l_caught ["work"]
  l_number_error : DefAt K mg "_law_number_error" s_l_number_error ["error", "part"]
  l_skin_error : DefAt K mg "_law_skin_error" s_l_skin_error ["error"]
  l_mate : DefAt K mg "_law_mate" s_l_mate ["end"]
  l_row : DefAt K mg "_law_row" s_l_row ["draw", "most"]
  l_least_turn : DefAt K mg "_law_least_turn" s_l_least_turn ["word_here"]
  l_freed : DefAt K mg "_law_freed" s_l_freed ["word_here"]
  l_undone : DefAt K mg "_law_undone" s_l_undone ["word_here"]
  l_rounded : DefAt K mg "_law_rounded" s_l_rounded ["word_here"]
  l_core : DefAt K mg "_law_core" s_l_core ["draw", "ends_here", "size"]
  l_root : DefAt K mg "_law_root" s_l_root ["loop_here"]
  l_loop : DefAt K mg "_law_loop" s_l_loop ["draw", "ends_here"]
  l_is_along : DefAt K mg "_law_is_along" s_l_is_along ["one", "other"]
  l_no_loop : DefAt K mg "_law_no_loop" s_l_no_loop ["draw", "loop_here"]
  l_refused : DefAt K mg "_law_refused" s_l_refused ["draw", "skin", "loop_here"]
  law : DefAt K mg "law" s_law ["script"]
  zabs : mg "abs" = none
  zall : mg "all" = none
  zint : mg "int" = none
  zisinstance : mg "isinstance" = none
  zlen : mg "len" = none
  zlist : mg "list" = none
  zmin : mg "min" = none
  zrange : mg "range" = none
  zrepr : mg "repr" = none
  zsorted : mg "sorted" = none
  ztuple : mg "tuple" = none
  ztype : mg "type" = none
  v_MOST_IN_ROUND : Value
  c_MOST_IN_ROUND : mg "MOST_IN_ROUND" = some v_MOST_IN_ROUND
  r_MOST_IN_ROUND : RelV (.int 40) v_MOST_IN_ROUND
  kSS : PySem.W.kitOne K (.ref Skin.C) (.ref Skin.C) = some true
  kST : PySem.W.kitOne K (.type "tuple") (.ref Skin.C) = some false
  kSN : PySem.W.kitOne K (.type "NoneType") (.ref Skin.C) = some false
  kSkSk : PySem.W.kitOne K (.ref BadSkin.C) (.ref BadSkin.C) = some true
  sSR : PySem.W.subIn K (.ref BadSkin.C) (.ref RoundError.C) = some true
  kRR : PySem.W.kitOne K (.ref BadRound.C) (.ref BadRound.C) = some true
  sRR : PySem.W.subIn K (.ref BadRound.C) (.ref RoundError.C) = some true
  kNN : PySem.W.kitOne K (.ref BadNumber.C) (.ref BadNumber.C) = some true
  sNR : PySem.W.subIn K (.ref BadNumber.C) (.ref RoundError.C) = some true
  jc : Addr
  jP : Addr
  jF : FunC K "_law_refused" "_law_refused" s_l_refused l_refused.a l_refused.fd (.ref jc)
structure Dw where
  d : Addr
  l : Addr
  c : Addr
def drK (D : Dw) (r t : Int) : List (Key × V) := [(Sum.inr "large", .ref D.l), (Sum.inr "rest", .int r), (Sum.inr "cells", .ref D.c), (Sum.inr "turn", .int t)]
structure DrAt (D : Dw) (H : Hp) (ls cs : List Int) (r t : Int) : Prop where
  hd : H D.d = some (.dK (drK D r t))
  hl : H D.l = some (.lst (ls.map V.int))
  hc : H D.c = some (.lst (cs.map V.int))
  ne : D.l ≠ D.c
  nl : ls.length ≤ 63
  nc : cs.length ≤ 63
def DrOk (D : Dw) (H : Hp) : Prop := ∃ ls cs r t, DrAt D H ls cs r t
def Kp (D : Dw) (H H' : Hp) : Prop := ∀ b o, H b = some o → b ≠ D.d → b ≠ D.l → H' b = some o
theorem Kp.refl {D : Dw} {H : Hp} : Kp D H H := fun _ _ h _ _ => h
theorem Kp.trans {D : Dw} {H H1 H2 : Hp} (a : Kp D H H1) (b : Kp D H1 H2) : Kp D H H2 := fun c o h n m => b c o (a c o h n m) n m
theorem Kp.of {D : Dw} {H H' : Hp} (a : Same H H') : Kp D H H' := fun c o h _ _ => a c o h
theorem Kp.new {D : Dw} {H : Hp} {p : Addr} {o : HO} (h : H p = none) : Kp D H (upd H p o) := fun c u e _ _ => by
  rw [upd_ne (ne_of_none e h)]
  exact e
theorem DrAt.dne {D : Dw} {H : Hp} {ls cs : List Int} {r t : Int} (h : DrAt D H ls cs r t) {b : Addr} {o : HO} (e : H b = some o) (n : ∀ kvs, o ≠ .dK kvs) : b ≠ D.d := fun z => by
  rw [z, h.hd] at e
  exact n _ (Option.some.inj e).symm
theorem DrAt.lne {D : Dw} {H : Hp} {ls cs : List Int} {r t : Int} (h : DrAt D H ls cs r t) {b : Addr} {o : HO} (e : H b = some o) (n : ∀ xs, o ≠ .lst xs) : b ≠ D.l := fun z => by
  rw [z, h.hl] at e
  exact n _ (Option.some.inj e).symm
theorem DrAt.new {D : Dw} {H : Hp} {ls cs : List Int} {r t : Int} (h : DrAt D H ls cs r t) {p : Addr} {o : HO} (n : H p = none) : DrAt D (upd H p o) ls cs r t :=
  ⟨by rw [upd_ne (ne_of_none h.hd n)]; exact h.hd, by rw [upd_ne (ne_of_none h.hl n)]; exact h.hl, by rw [upd_ne (ne_of_none h.hc n)]; exact h.hc, h.ne, h.nl, h.nc⟩
theorem DrAt.same {D : Dw} {H H' : Hp} {ls cs : List Int} {r t : Int} (h : DrAt D H ls cs r t) (s : Same H H') : DrAt D H' ls cs r t := ⟨s _ _ h.hd, s _ _ h.hl, s _ _ h.hc, h.ne, h.nl, h.nc⟩
theorem DrAt.nelc {D : Dw} {H : Hp} {ls cs : List Int} {r t : Int} (h : DrAt D H ls cs r t) : D.l ≠ D.d := h.dne h.hl (fun _ z => nomatch z)
theorem DrAt.necd {D : Dw} {H : Hp} {ls cs : List Int} {r t : Int} (h : DrAt D H ls cs r t) : D.c ≠ D.d := h.dne h.hc (fun _ z => nomatch z)
theorem DrAt.put {D : Dw} {H : Hp} {ls cs : List Int} {r t r' t' : Int} (h : DrAt D H ls cs r t) : DrAt D (upd H D.d (.dK (drK D r' t'))) ls cs r' t' :=
  ⟨upd_same, by rw [upd_ne h.nelc]; exact h.hl, by rw [upd_ne h.necd]; exact h.hc, h.ne, h.nl, h.nc⟩
theorem Kp.put {D : Dw} {H : Hp} {o : HO} : Kp D H (upd H D.d o) := fun b u e n _ => by rw [upd_ne n]; exact e
theorem Kp.putl {D : Dw} {H : Hp} {o : HO} : Kp D H (upd H D.l o) := fun b u e _ n => by rw [upd_ne n]; exact e
theorem DrAt.pop {D : Dw} {H : Hp} {ls cs ls' : List Int} {r t : Int} (h : DrAt D H ls cs r t) (n : ls'.length ≤ 63) : DrAt D (upd H D.l (.lst (ls'.map V.int))) ls' cs r t :=
  ⟨by rw [upd_ne h.nelc.symm]; exact h.hd, upd_same, by rw [upd_ne h.ne.symm]; exact h.hc, h.ne, n, h.nc⟩
theorem val_large (D : Dw) (r t : Int) : valV (drK D r t) (Sum.inr "large") = some (.ref D.l) := rfl
theorem val_rest (D : Dw) (r t : Int) : valV (drK D r t) (Sum.inr "rest") = some (.int r) := rfl
theorem val_cells (D : Dw) (r t : Int) : valV (drK D r t) (Sum.inr "cells") = some (.ref D.c) := rfl
theorem val_turn (D : Dw) (r t : Int) : valV (drK D r t) (Sum.inr "turn") = some (.int t) := rfl
theorem put_rest (D : Dw) (r t r' : Int) : putK (drK D r t) (Sum.inr "rest") (.int r') = drK D r' t := rfl
theorem put_turn (D : Dw) (r t t' : Int) : putK (drK D r t) (Sum.inr "turn") (.int t') = drK D r t' := rfl
end Tt
set_option maxRecDepth 100000
set_option maxHeartbeats 4000000
namespace Tt
open PySem L2
local macro_rules | `(tactic| walk_at "v") => `(tactic| refine ⟨_, rfl, ?_⟩)
local macro_rules | `(tactic| walk_at "ii") => `(tactic| refine ⟨_, _, rfl, rfl, ?_⟩)
section
variable {P : Program} {w : World} {K : PySem.W.Frag} {mg : Str → Option Value} {base : Heap}
def spMixed : Sp := fun vs H Q _ => ∃ D : Dw, vs = [.ref D.d] ∧ DrOk D H ∧ ∀ z H', DrOk D H' → Kp D H H' → Q (.int z) H'
theorem ok_l_mixed (T : Txt K mg) : FnOk P w K mg base CX0 1 T.l_mixed.a T.l_mixed.fd ["draw"] spMixed := by
  refine T.l_mixed.F.ok sc_l_mixed (fun vs H Q E h => ?_) (fun cdv A outer s H vs Q E hr h => ?_)
  · obtain ⟨D, rfl, _⟩ := h
    rfl
  · obtain ⟨D, rfl, ⟨ls, cs, r, t, dr⟩, k⟩ := h
    have hu := hu_of hr
    have nd := sc_l_mixed.nd
    refine ⟨_, pss_cons (ps_dput hu (pv 0) pe_str (pe_op op_add (pe_dget hu (pv 0) pe_str (fun _ _ => rfl)) pe_int) rfl)
      (pss_cons (ps_par (i := 1) (j := 2) rfl nd rfl rfl (by decide) rfl rfl (pa_cons (pe_callTy call_int1 (by rfl) T.zint (by decide +kernel) (pa_cons (pe_dget hu (pv 0) pe_str (fun _ _ => rfl)) pa_nil)) (pa_cons pe_int pa_nil)) rfl)
      (pss_cons (ps_for PassesOwn.never rfl (pi_list (pe_lst (pa_cons pe_int (pa_cons pe_int (pa_cons pe_int pa_nil))))) (pg_name (i := 3) nd rfl (Or.inl rfl))
        (pss_cons (ps_set (i := 4) nd rfl (Or.inl rfl) (pe_op op_mod (pe_op op_add (pe_op op_mul (pv 1) pe_int) (pe_op op_fdiv (pv 3) pe_int)) (pv 3)))
        (pss_cons (ps_for PassesOwn.never rfl (pi_list (pe_dget hu (pv 0) pe_str (fun _ _ => rfl))) (pg_name (i := 5) nd rfl (Or.inl rfl))
          (pss_one (ps_set (i := 4) nd rfl (Or.inl rfl) (pe_op op_mod (pe_op op_add (pe_op op_mul (pv 4) pe_int) (pe_callTy call_int1 (by rfl) T.zint (by decide +kernel) (pa_cons (pv 5) pa_nil))) (pv 3)))))
        (pss_one (ps_set (i := 2) nd rfl (Or.inl rfl) (pe_op op_add (pe_op op_mul (pv 2) pe_int) (pe_op op_mod (pe_op op_pow (pv 4) pe_int) (pv 3))))))))
      (pss_one (ps_ret (pv 2))))), ?_⟩
    refine ⟨_, rfl, _, _, rfl, DGet.k (k := Sum.inr "turn") dr.hd, _, _, rfl, rfl, _, rfl, _, _, rfl, DPut.k (k := Sum.inr "turn") dr.hd (small1000 (by show 4 ≤ 1000; decide)), ?_⟩
    have dr1 : DrAt D (upd H D.d (.dK (drK D r (t + 1)))) ls cs r (t + 1) := dr.put
    have k1 : Kp D H (upd H D.d (.dK (drK D r (t + 1)))) := Kp.put
    generalize hH1 : upd H D.d (.dK (drK D r (t + 1))) = H1 at dr1 k1
    have eH1 : upd H D.d (.dK (putK (drK D r t) (Sum.inr "turn") (.int (t + 1)))) = H1 := hH1
    rw [eH1]
    refine ⟨_, rfl, _, _, rfl, DGet.k (k := Sum.inr "turn") dr1.hd, .inl ⟨_, rfl, ?_⟩⟩
    refine ⟨_, _, rfl, ?_⟩
    refine ⟨(by show 3 ≤ sizeLine; decide), fun p hp => ?_⟩
    have dr2 := dr1.new (o := .lst [.int 2147483629, .int 2147483587, .int 2147483579]) hp
    have k2 : Kp D H1 (upd H1 p (.lst [.int 2147483629, .int 2147483587, .int 2147483579])) := Kp.new hp
    refine ⟨p, rfl, ⟨_, SqL.of upd_same⟩, ?_⟩
    have hp2 : (upd H1 p (.lst [.int 2147483629, .int 2147483587, .int 2147483579])) p = some (.lst [.int 2147483629, .int 2147483587, .int 2147483579]) := upd_same
    generalize upd H1 p (.lst [.int 2147483629, .int 2147483587, .int 2147483579]) = H2 at dr2 k2 hp2
    refine for_list (K := K) (a := p) (xs := [.int 2147483629, .int 2147483587, .int 2147483579]) (fun i σ H' => H' = H2 ∧ ∃ f v3 v4 v5, σ = [some (.ref D.d), some (.int (t + 1)), some (.int f), v3, v4, v5])
      ⟨rfl, 0, _, _, _, rfl⟩ (fun i σ H' _ q => by rw [q.1]; exact SqL.of hp2) ?_ ?_
    · rintro i x σ H' hi ⟨rfl, f, v3, v4, v5, rfl⟩
      obtain ⟨g, rfl, g0, g1⟩ : ∃ g : Int, x = .int g ∧ 0 < g ∧ g < 2147483648 := by
        match i, hi with
        | 0, hi => exact ⟨_, (Option.some.inj hi).symm, by decide, by decide⟩
        | 1, hi => exact ⟨_, (Option.some.inj hi).symm, by decide, by decide⟩
        | 2, hi => exact ⟨_, (Option.some.inj hi).symm, by decide, by decide⟩
      refine ⟨_, rfl, _, _, rfl, rfl, .inr ⟨by decide, by decide⟩, _, rfl, _, _, rfl, rfl, ⟨by decide, by decide⟩, _, _, rfl, rfl, _, rfl, _, _, rfl, rfl, g0, ?_⟩
      refine ⟨_, rfl, _, _, rfl, DGet.k (k := Sum.inr "cells") dr2.hd, _, rfl, ⟨_, SqL.of dr2.hc⟩, ?_⟩
      refine for_list (K := K) (a := D.c) (xs := cs.map V.int) (fun i σ H'' => H'' = H' ∧ ∃ b v5, (0 ≤ b ∧ b < g) ∧ σ = [some (.ref D.d), some (.int (t + 1)), some (.int f), some (.int g), some (.int b), v5])
        ⟨rfl, _, _, ⟨Int.emod_nonneg _ (by omega), Int.emod_lt_of_pos _ g0⟩, rfl⟩ (fun i σ H'' _ q => by rw [q.1]; exact SqL.of dr2.hc) ?_ ?_
      · rintro j y σ H'' hj ⟨rfl, b, v5, hb, rfl⟩
        obtain ⟨z, rfl⟩ : ∃ z, y = V.int z := by
          rw [List.getElem?_map] at hj
          cases e : cs[j]? with
          | none => rw [e] at hj; cases hj
          | some z => rw [e] at hj; exact ⟨z, (Option.some.inj hj).symm⟩
        refine ⟨_, rfl, _, _, rfl, rfl, .inr ⟨by decide, by decide⟩, _, rfl, .inl ⟨_, rfl, _, _, rfl, rfl, _, rfl, _, _, rfl, rfl, g0, ?_⟩⟩
        exact ⟨rfl, _, _, ⟨Int.emod_nonneg _ (by omega), Int.emod_lt_of_pos _ g0⟩, rfl⟩
      · rintro σ H'' ⟨rfl, b, v5, hb, rfl⟩
        refine ⟨_, rfl, _, _, rfl, rfl, .inr ⟨by decide, by decide⟩, _, rfl, _, _, rfl, rfl, ⟨by decide, by decide, by omega⟩, _, rfl, _, _, rfl, rfl, g0, _, _, rfl, rfl, ?_⟩
        exact ⟨rfl, _, _, _, _, rfl⟩
    · rintro σ H' ⟨rfl, f, v3, v4, v5, rfl⟩
      refine ⟨_, rfl, ?_⟩
      exact k _ _ ⟨_, _, _, _, dr2⟩ (k1.trans k2)
end
end Tt
set_option maxRecDepth 100000
set_option maxHeartbeats 4000000
namespace Tt
open PySem L2
section
variable {P : Program} {w : World} {K : PySem.W.Frag} {mg : Str → Option Value} {base : Heap}
theorem dpAll_ints (H : Hp) : ∀ ls : List Int, DpAll K H (ls.map V.int) (ls.map PyData.int)
  | [] => .nil
  | a :: l => .cons (.int a) (dpAll_ints H l)
theorem shapedAll_ints : ∀ ls : List Int, SeqAt.shaped (.list (ls.map PyData.int)) = true
  | [] => by first | rfl | decide
  | a :: l => by
    have h := shapedAll_ints l
    first | exact h | (simp [SeqAt.shaped] at h ⊢) | trace_state
theorem eqv_nil (ls : List Int) : PyData.eqv (.list (ls.map PyData.int)) (.list []) = decide (ls = []) := by
  cases ls with
  | nil => rfl
  | cons a l => simp [PyData.eqv] <;> rfl
theorem yes_t {σ : L2.St} {H : Hp} {A B : Hp → Prop} (h : A H) : tYes σ H (fun b H3 => if b = true then A H3 else B H3) := by
  show if true = true then A H else B H
  rw [if_pos rfl]
  exact h
theorem ints_at {cs : List Int} {j : Nat} {y : V} (hj : (cs.map V.int)[j]? = some y) : ∃ z, y = V.int z ∧ cs[j]? = some z := by
  rw [List.getElem?_map] at hj
  cases e : cs[j]? with
  | none => rw [e] at hj; cases hj
  | some z => rw [e] at hj; exact ⟨z, (Option.some.inj hj).symm, rfl⟩
def spTake : Sp := fun vs H Q _ => ∃ (D : Dw) (m : Int), vs = [.ref D.d, .int m] ∧ 0 < m ∧ m < 1073741824 ∧ DrOk D H ∧ ∀ n H', 0 ≤ n → n < m → DrOk D H' → Kp D H H' → Q (.int n) H'
theorem ok_l_take (T : Txt K mg) : FnOk P w K mg base CX0 2 T.l_take.a T.l_take.fd ["draw", "amount"] spTake := by
  refine T.l_take.F.ok sc_l_take (fun vs H Q E h => ?_) (fun cdv A outer s H vs Q E hr h => ?_)
  · obtain ⟨D, m, rfl, _⟩ := h
    rfl
  · obtain ⟨D, m, rfl, m0, m1, ⟨ls, cs, r, t, dr⟩, k⟩ := h
    have hu := hu_of hr
    have nd := sc_l_take.nd
    refine ⟨_, (pss_cons (ps_if (pt_cmpR op_eq (pe_dget hu (pv 0) pe_str (fun _ _ => rfl)) pe_int (nomark _))
      (pss_one (ps_dput hu (pv 0) pe_str (pe_ifExp (pt_cmpR (op_neD hr.units) (pe_dget hu (pv 0) pe_str (fun _ _ => rfl)) (pe_lst pa_nil) (nomark _)) (pe_bm PySem.F.plainAttrs_list PySem.F.slot_list_pop PySem.F.type_list_pop mt_popAt (pe_dget hu (pv 0) pe_str (fun _ _ => rfl)) (pa_cons pe_int pa_nil)) (pe_call (ok_l_mixed T) (hr.mono (by decide)) (by rfl) T.l_mixed.g T.l_mixed.k T.l_mixed.b .nil pass0 (pa_cons (pv 0) pa_nil))) rfl))
      pss_nil)
    (pss_cons (ps_set (i := 2) nd rfl (Or.inl rfl) (pe_op op_mod (pe_callTy call_int1 (by rfl) T.zint (by decide +kernel) (pa_cons (pe_dget hu (pv 0) pe_str (fun _ _ => rfl)) pa_nil)) (pv 1)))
    (pss_cons (ps_dput hu (pv 0) pe_str (pe_op op_fdiv (pe_callTy call_int1 (by rfl) T.zint (by decide +kernel) (pa_cons (pe_dget hu (pv 0) pe_str (fun _ _ => rfl)) pa_nil)) (pv 1)) rfl)
    (pss_one (ps_ret (pv 2)))))), ?_⟩
    refine ⟨_, rfl, _, _, rfl, DGet.k (k := Sum.inr "rest") dr.hd, rfl, _, rfl, ?_⟩
    have fin : ∀ r' ls' cs' t' H', DrAt D H' ls' cs' r' t' → Kp D H H' → tSeq (tAsg (tOp (rI (fun _ j => 0 < j) fun i j => .int (i % j)) (tCB (fun xs H Q => (∃ i, xs = [.int i] ∧ Q (.int i) H) ∨ ∃ k, xs = [.bl k] ∧ Q (.int (if k then 1 else 0)) H) (tCons (tDGet (tVar 0) (tC (.str "rest"))) tNil)) (tVar 1)) (gName 2))
        (tSeq (sDPut (tVar 0) (tC (.str "rest")) (tOp (rI CDiv fun i j => .int (i / j)) (tCB (fun xs H Q => (∃ i, xs = [.int i] ∧ Q (.int i) H) ∨ ∃ k, xs = [.bl k] ∧ Q (.int (if k then 1 else 0)) H) (tCons (tDGet (tVar 0) (tC (.str "rest"))) tNil)) (tVar 1))) (tRet (tVar 2))) { nx := fun _ H' => Q .non H', rt := Q } [some (.ref D.d), some (.int m), none] H' := by
      intro r' ls' cs' t' H' d' k'
      refine ⟨_, rfl, _, _, rfl, DGet.k (k := Sum.inr "rest") d'.hd, .inl ⟨_, rfl, _, rfl, _, _, rfl, rfl, m0, ?_⟩⟩
      refine ⟨_, rfl, _, _, rfl, DGet.k (k := Sum.inr "rest") d'.hd, .inl ⟨_, rfl, _, rfl, _, _, rfl, rfl, ⟨m0, m1⟩, _, rfl, _, _, rfl, DPut.k (k := Sum.inr "rest") d'.hd (small1000 (by show 4 ≤ 1000; decide)), ?_⟩⟩
      refine ⟨_, rfl, k _ _ (Int.emod_nonneg _ (by omega)) (Int.emod_lt_of_pos _ m0) ⟨ls', cs', r' / m, t', ?_⟩ (k'.trans ?_)⟩
      · exact d'.put
      · exact Kp.put
    refine ite2 (fun _ => ?_) (fun _ => fin r ls cs t H dr Kp.refl)
    refine ⟨_, rfl, _, _, rfl, DGet.k (k := Sum.inr "large") dr.hd, (by show 0 ≤ sizeLine; decide), fun p hp => ?_⟩
    have dr1 := dr.new (o := .lst []) hp
    have k1 : Kp D H (upd H p (.lst [])) := Kp.new hp
    refine ⟨_, _, .lst (SqL.of dr1.hl) (dpAll_ints _ ls), .lst (SqL.of upd_same) .nil, shapedAll_ints ls, rfl, _, rfl, ?_⟩
    rw [eqv_nil]
    cases ls with
    | nil =>
      refine iteF ?_
      refine ⟨_, rfl, D, rfl, ⟨_, _, _, _, dr1⟩, fun z H2 ⟨ls2, cs2, r2, t2, d2⟩ k2 => ?_⟩
      refine ⟨_, rfl, _, _, rfl, DPut.k (k := Sum.inr "rest") d2.hd (small1000 (by show 4 ≤ 1000; decide)), ?_⟩
      exact fin z ls2 cs2 t2 _ (d2.put : DrAt D (upd H2 D.d (.dK (drK D z t2))) ls2 cs2 z t2) ((k1.trans k2).trans Kp.put)
    | cons a l =>
      refine iteT ?_
      refine ⟨_, rfl, _, _, rfl, DGet.k (k := Sum.inr "large") dr1.hd, .inl ⟨rfl, _, SqL.of dr1.hl⟩, D.l, _, 0, 0, _, rfl, rfl, dr1.hl, by decide, by decide, by simp [seqIndex?], rfl, ?_⟩
      have d2 : DrAt D (upd (upd H p (.lst [])) D.l (.lst (l.map V.int))) l cs r t := dr1.pop (Nat.le_trans (Nat.le_succ _) dr.nl)
      refine ⟨_, rfl, _, _, rfl, DPut.k (k := Sum.inr "rest") d2.hd (small1000 (by show 4 ≤ 1000; decide)), ?_⟩
      exact fin a l cs t _ (d2.put : DrAt D (upd _ D.d (.dK (drK D a t))) l cs a t) ((k1.trans Kp.putl).trans Kp.put)
def spPick (K : PySem.W.Frag) : Sp := fun vs H Q _ => ∃ (D : Dw) (p : Addr) (xs : List V), vs = [.ref D.d, .ref p] ∧ (SqL K H p xs ∨ SqT K H p xs) ∧ p ≠ D.l ∧ xs ≠ [] ∧ xs.length < 1073741824 ∧ DrOk D H ∧
  ∀ (i : Nat) x H', xs[i]? = some x → DrOk D H' → Kp D H H' → Q x H'
theorem Kp.seqL {D : Dw} {H H' : Hp} {p : Addr} {xs : List V} (k : Kp D H H') (dr : DrOk D H) (n : p ≠ D.l) (h : SqL K H p xs) : SqL K H' p xs := by
  obtain ⟨ls, cs, r, t, d⟩ := dr
  rcases h with (h | ⟨o, h⟩) | h
  · exact .inl (.inl (k _ _ h (d.dne h fun _ z => nomatch z) n))
  · exact .inl (.inr ⟨o, k _ _ h (d.dne h fun _ z => nomatch z) n⟩)
  · exact .inr h
theorem Kp.seqT {D : Dw} {H H' : Hp} {p : Addr} {xs : List V} (k : Kp D H H') (dr : DrOk D H) (h : SqT K H p xs) : SqT K H' p xs := by
  obtain ⟨ls, cs, r, t, d⟩ := dr
  rcases h with (h | ⟨o, h⟩) | h
  · exact .inl (.inl (k _ _ h (d.dne h fun _ z => nomatch z) (d.lne h fun _ z => nomatch z)))
  · exact .inl (.inr ⟨o, k _ _ h (d.dne h fun _ z => nomatch z) (d.lne h fun _ z => nomatch z)⟩)
  · exact .inr h
theorem ok_l_pick (T : Txt K mg) : FnOk P w K mg base CX0 3 T.l_pick.a T.l_pick.fd ["draw", "some"] (spPick K) := by
  refine T.l_pick.F.ok sc_l_pick (fun vs H Q E h => ?_) (fun cdv A outer s H vs Q E hr h => ?_)
  · obtain ⟨D, p, xs, rfl, _⟩ := h
    rfl
  · obtain ⟨D, p, xs, rfl, hs, np, ne, ln, dr, k⟩ := h
    have hu := hu_of hr
    have nd := sc_l_pick.nd
    refine ⟨_, (pss_one (ps_ret (pe_ix (IxR.or ix_list ix_tup) (pv 1) (pe_call (ok_l_take T) (hr.mono (by decide)) (by rfl) T.l_take.g T.l_take.k T.l_take.b .nil pass0 (pa_cons (pv 0) (pa_cons (pe_callB call_len_seq (by rfl) T.zlen (by decide +kernel) (pa_cons (pv 1) pa_nil)) pa_nil))) (fun _ _ => rfl)))), ?_⟩
    have l0 : 0 < xs.length := List.length_pos_iff.mpr ne
    refine ⟨_, rfl, _, rfl, _, rfl, p, xs, rfl, hs, D, (xs.length : Int), rfl, by omega, by omega, dr, fun n H' n0 n1 dr' k' => ?_⟩
    obtain ⟨m, rfl⟩ := Int.eq_ofNat_of_zero_le n0
    have hn : m < xs.length := by omega
    have hat : atI xs (m : Int) = some xs[m] := atI_nat (List.getElem?_eq_getElem hn)
    have fin : Q xs[m] H' := k m _ H' (List.getElem?_eq_getElem hn) dr' k'
    rcases hs with hs | hs
    · exact .inl ⟨p, xs, m, _, rfl, rfl, k'.seqL dr np hs, hat, fin⟩
    · exact .inr ⟨p, xs, m, _, rfl, rfl, k'.seqT dr hs, hat, fin⟩
def spBegun (K : PySem.W.Frag) : Sp := fun vs H Q _ => ∃ (a : Addr) (ns : List Int), vs = [.ref a] ∧ SqL K H a (ns.map V.int) ∧ ns.length ≤ 63 ∧ ∀ (D : Dw) H', DrOk D H' → Same H H' → Q (.ref D.d) H'
theorem ok_l_begun (T : Txt K mg) : FnOk P w K mg base CX0 1 T.l_begun.a T.l_begun.fd ["script"] (spBegun K) := by
  refine T.l_begun.F.ok sc_l_begun (fun vs H Q E h => ?_) (fun cdv A outer s H vs Q E hr h => ?_)
  · obtain ⟨a, ns, rfl, _⟩ := h
    rfl
  · obtain ⟨a, ns, rfl, hs, hl, k⟩ := h
    have hu := hu_of hr
    have nd := sc_l_begun.nd
    refine ⟨_, (pss_cons (ps_setLc (i := 1) (own := [("grain", 2)]) (g := gName 2) rfl nd rfl rfl (sw_true rfl rfl rfl (by decide +kernel)) (pi_list (pv 0)) (blkOk_by (own := [("grain", 2)]) (N := N_l_begun) (sc := defScope s_l_begun) (by decide +kernel)) (fun _ _ _ _ _ => pg_name (i := 2) nd rfl (Or.inl rfl)) (fun _ _ _ _ _ => pts_one (pt_cmpR op_ge (pe_callB call_abs (by rfl) T.zabs (by decide +kernel) (pa_cons (pv 2) pa_nil)) (pe_op op_pow pe_int pe_int) (nomark _))) (fun _ _ _ _ _ => (pe_op op_sub (pe_callB call_abs (by rfl) T.zabs (by decide +kernel) (pa_cons (pv 2) pa_nil)) (pe_op op_pow pe_int pe_int))))
    (pss_one (ps_ret (pe_disp (pps_cons pe_str (pv 1) (pps_cons pe_str pe_int (pps_cons pe_str (pe_lc (own := [("grain", 2)]) (g := gName 2) rfl nd (pi_list (pv 0)) (blkOk_by (own := [("grain", 2)]) (N := N_l_begun) (sc := defScope s_l_begun) (by decide +kernel)) (fun _ _ _ _ _ => pg_name (i := 2) nd rfl (Or.inl rfl)) (fun _ _ _ _ _ => pts_nil) (fun _ _ _ _ _ => (pe_callB call_abs (by rfl) T.zabs (by decide +kernel) (pa_cons (pv 2) pa_nil)))) (pps_cons pe_str pe_int pps_nil)))) (by rfl) (by rfl) (fun z => by cases z) (by decide))))), ?_⟩
    refine ⟨_, rfl, a, rfl, ⟨_, hs⟩, fun D1 hD1 => lc_list (K := K) (a := a) (xs := ns.map V.int) (fun i H' => ∃ ls : List Int, ls.length ≤ i ∧ H' D1 = some (.lst (ls.map V.int)) ∧ Same H H')
      ⟨[], Nat.le_refl _, upd_same, fun b o e => by rw [upd_ne (ne_of_none e hD1)]; exact e⟩ (fun i H' _ ⟨_, _, _, s⟩ => s.seq hs) ?_ ?_⟩
    · rintro i y H' hi ⟨ls, hls, h1, s1⟩
      obtain ⟨z, rfl, hz⟩ := ints_at hi
      have hi63 : i < ns.length := (List.getElem?_eq_some_iff.mp hz).1
      refine ⟨rfl, _, rfl, _, rfl, _, _, rfl, rfl, ⟨by decide, by decide, by decide⟩, _, _, rfl, rfl, _, rfl, ?_⟩
      refine ite2 (fun _ => ?_) (fun _ => ⟨ls, by omega, h1, s1⟩)
      refine ⟨_, rfl, _, rfl, _, _, rfl, rfl, ⟨by decide, by decide, by decide⟩, _, _, rfl, rfl, _, h1, ?_, ?_⟩
      · rw [List.length_map]
        exact small1000 (by omega)
      · refine ⟨ls ++ [(if z < 0 then -z else z) - 10 ^ (18 : Int).toNat], by rw [List.length_append]; show ls.length + 1 ≤ i + 1; omega, ?_, ?_⟩
        · rw [upd_same, List.map_append]
          rfl
        · intro b o e
          have e1 := s1 b o e
          rw [upd_ne (ne_of_none e hD1)]
          exact e1
    · rintro H1 ⟨ls, hls, h1, s1⟩
      rw [List.length_map] at hls
      refine fun p hp => ?_
      refine ⟨_, rfl, ?_⟩
      have s2 : Same H (upd H1 p (.dK [])) := fun b o e => by rw [upd_ne (ne_of_none (s1 b o e) hp)]; exact s1 b o e
      refine ⟨_, rfl, a, rfl, ⟨_, s2.seq hs⟩, fun D2 hD2 => lc_list (K := K) (a := a) (xs := ns.map V.int) (fun i H' => ∃ cs : List Int, cs.length ≤ i ∧ H' D2 = some (.lst (cs.map V.int)) ∧ Same (upd H1 p (.dK [])) H')
        ⟨[], Nat.le_refl _, upd_same, fun b o e => by rw [upd_ne (ne_of_none e hD2)]; exact e⟩ (fun i H' _ ⟨_, _, _, s⟩ => s.seq (s2.seq hs)) ?_ ?_⟩
      · rintro i y H' hi ⟨cs, hcs, h2, s3⟩
        obtain ⟨z, rfl, hz⟩ := ints_at hi
        have hi63 : i < ns.length := (List.getElem?_eq_some_iff.mp hz).1
        refine ⟨rfl, yes_t ?_⟩
        refine ⟨_, rfl, _, rfl, _, h2, by rw [List.length_map]; exact small1000 (by omega), ?_⟩
        refine ⟨cs ++ [if z < 0 then -z else z], by rw [List.length_append]; show cs.length + 1 ≤ i + 1; omega, ?_, ?_⟩
        · rw [upd_same, List.map_append]
          rfl
        · intro b o e
          rw [upd_ne (ne_of_none e hD2)]
          exact s3 b o e
      · rintro H2 ⟨cs, hcs, h2, s3⟩
        rw [List.length_map] at hcs
        have hp2 : H2 p = some (.dK []) := s3 _ _ upd_same
        have nDp : D2 ≠ p := fun z => by rw [z, upd_same] at hD2; cases hD2
        have nD1p : D1 ≠ p := ne_of_none h1 hp
        have h12 : H2 D1 = some (.lst (ls.map V.int)) := s3 _ _ (by rw [upd_ne nD1p]; exact h1)
        have nD12 : D1 ≠ D2 := fun z => by
          rw [← z, upd_ne nD1p, h1] at hD2
          cases hD2
        refine ⟨hp2, drK ⟨p, D1, D2⟩ 0 0, rfl, by show 4 ≤ 15; decide, ?_⟩
        refine k ⟨p, D1, D2⟩ _ ⟨ls, cs, 0, 0, ⟨upd_same, by rw [upd_ne nD1p]; exact h12, by rw [upd_ne nDp]; exact h2, nD12, by omega, by omega⟩⟩ ?_
        intro b o e
        rw [upd_ne (ne_of_none (s1 b o e) hp)]
        exact s3 _ _ (s2 b o e)
end
end Tt
set_option maxRecDepth 100000
set_option maxHeartbeats 4000000
namespace Tt
open PySem L2
section
variable {P : Program} {w : World} {K : PySem.W.Frag} {mg : Str → Option Value} {base : Heap}
def Off (D : Dw) (b : Addr) : Prop := b ≠ D.d ∧ b ≠ D.l ∧ b ≠ D.c
theorem DrOk.off {D : Dw} {H : Hp} {b : Addr} (h : DrOk D H) (n : H b = none) : Off D b := by
  obtain ⟨ls, cs, r, t, d⟩ := h
  exact ⟨(ne_of_none d.hd n).symm, (ne_of_none d.hl n).symm, (ne_of_none d.hc n).symm⟩
theorem DrOk.new {D : Dw} {H : Hp} {p : Addr} {o : HO} (h : DrOk D H) (n : H p = none) : DrOk D (upd H p o) := by
  obtain ⟨ls, cs, r, t, d⟩ := h
  exact ⟨ls, cs, r, t, d.new n⟩
theorem DrOk.put {D : Dw} {H : Hp} {p : Addr} {o : HO} (h : DrOk D H) (n : Off D p) : DrOk D (upd H p o) := by
  obtain ⟨ls, cs, r, t, d⟩ := h
  exact ⟨ls, cs, r, t, ⟨by rw [upd_ne n.1.symm]; exact d.hd, by rw [upd_ne n.2.1.symm]; exact d.hl, by rw [upd_ne n.2.2.symm]; exact d.hc, d.ne, d.nl, d.nc⟩⟩
theorem DrOk.same {D : Dw} {H H' : Hp} (h : DrOk D H) (s : Same H H') : DrOk D H' := by
  obtain ⟨ls, cs, r, t, d⟩ := h
  exact ⟨ls, cs, r, t, d.same s⟩
theorem Kp.at {D : Dw} {H H' : Hp} {b : Addr} {o : HO} (k : Kp D H H') (n : Off D b) (h : H b = some o) : H' b = some o := k b o h n.1 n.2.1
theorem DrOk.tup {D : Dw} {H H' : Hp} {b : Addr} {xs : List V} (h : DrOk D H) (k : Kp D H H') (e : H b = some (.tup xs)) : H' b = some (.tup xs) := by
  obtain ⟨ls, cs, r, t, d⟩ := h
  exact k b _ e (d.dne e fun _ z => nomatch z) (d.lne e fun _ z => nomatch z)
theorem perm_erase : ∀ {l : List Int} {i : Nat} {a : Int}, l[i]? = some a → (a :: l.eraseIdx i).Perm l
  | [], _, _, h => by simp at h
  | b :: l, 0, a, h => by
    have e : b = a := by simpa using h
    subst e
    exact List.Perm.refl _
  | b :: l, i + 1, a, h => by
    have h' : l[i]? = some a := by simpa using h
    rw [List.eraseIdx_cons_succ]
    exact (List.Perm.swap b a _).trans ((perm_erase h').cons b)
theorem eraseIdx_mapI : ∀ (l : List Int) (i : Nat), (l.map V.int).eraseIdx i = (l.eraseIdx i).map V.int
  | [], _ => rfl
  | _ :: _, 0 => rfl
  | a :: l, i + 1 => by
    rw [List.map_cons, List.eraseIdx_cons_succ, eraseIdx_mapI l i, List.eraseIdx_cons_succ, List.map_cons]
def spMate : Sp := fun vs H Q _ => ∃ x : Int, vs = [.int x] ∧ Q (.int (Wd.mate x)) H
theorem ok_l_mate (T : Txt K mg) : FnOk P w K mg base CX0 1 T.l_mate.a T.l_mate.fd ["end"] spMate := by
  refine T.l_mate.F.ok sc_l_mate (fun vs H Q E h => ?_) (fun cdv A outer s H vs Q E hr h => ?_)
  · obtain ⟨x, rfl, _⟩ := h
    rfl
  · obtain ⟨x, rfl, k⟩ := h
    have nd := sc_l_mate.nd
    refine ⟨_, (pss_one (ps_ret (pe_ifExp (pt_cmpR op_eq (pe_op op_mod (pe_callTy call_int1 (by rfl) T.zint (by decide +kernel) (pa_cons (pv 0) pa_nil)) pe_int) pe_int (nomark _)) (pe_op op_add (pv 0) pe_int) (pe_op op_sub (pv 0) pe_int)))), ?_⟩
    refine ⟨_, rfl, .inl ⟨_, rfl, _, _, rfl, rfl, (by show (0 : Int) < 2; decide), rfl, _, rfl, ?_⟩⟩
    refine ite2 (fun c => ?_) (fun c => ?_)
    · have c' : x % 2 = 0 := by simpa using c
      refine ⟨_, rfl, _, _, rfl, rfl, ?_⟩
      have e : Wd.mate x = x + 1 := by unfold Wd.mate; rw [if_pos c']
      rw [e] at k
      exact k
    · have c' : ¬ x % 2 = 0 := by simpa using c
      refine ⟨_, rfl, _, _, rfl, rfl, ?_⟩
      have e : Wd.mate x = x - 1 := by unfold Wd.mate; rw [if_neg c']
      rw [e] at k
      exact k
theorem eqv_list_nil (H : Hp) : ∀ {xs : List V} {ds : List PyData}, DpAll K H xs ds → (PyData.eqv (.list ds) (.list []) = decide (xs = []))
  | [], _, .nil => rfl
  | _ :: _, _, .cons _ _ => by simp [PyData.eqv] <;> rfl
def spShuf (K : PySem.W.Frag) : Sp := fun vs H Q _ => ∃ (D : Dw) (p : Addr) (ns : List Int), vs = [.ref D.d, .ref p] ∧ (SqL K H p (ns.map V.int) ∨ SqT K H p (ns.map V.int)) ∧ ns.length ≤ 1000 ∧ DrOk D H ∧
  ∀ (ns' : List Int) q H', ns'.Perm ns → DrOk D H' → Kp D H H' → H q = none → H' q = some (.lst (ns'.map V.int)) → Q (.ref q) H'
theorem ok_l_shuffled (T : Txt K mg) : FnOk P w K mg base CX0 3 T.l_shuffled.a T.l_shuffled.fd ["draw", "some"] (spShuf K) := by
  refine T.l_shuffled.F.ok sc_l_shuffled (fun vs H Q E h => ?_) (fun cdv A outer s H vs Q E hr h => ?_)
  · obtain ⟨D, p, ns, rfl, _⟩ := h
    rfl
  · obtain ⟨D, p, ns, rfl, hs, hl, dr, k⟩ := h
    have hu := hu_of hr
    have nd := sc_l_shuffled.nd
    refine ⟨_, (pss_cons (ps_par (i := 2) (j := 3) rfl nd rfl rfl (by decide) rfl rfl (pa_cons (pe_callTy call_list_of (by rfl) T.zlist (by decide +kernel) (pa_cons (pv 1) pa_nil)) (pa_cons (pe_lst pa_nil) pa_nil)) rfl)
    (pss_cons (ps_while PassesOwn.never (pt_cmpR (op_neD hr.units) (pv 2) (pe_lst pa_nil) (nomark _))
      (pss_one (ps_expr (pe_bm PySem.F.plainAttrs_list PySem.F.slot_list_append PySem.F.type_list_append mt_append (pv 3) (pa_cons (pe_bm PySem.F.plainAttrs_list PySem.F.slot_list_pop PySem.F.type_list_pop mt_popAt (pv 2) (pa_cons (pe_call (ok_l_take T) (hr.mono (by decide)) (by rfl) T.l_take.g T.l_take.k T.l_take.b .nil pass0 (pa_cons (pv 0) (pa_cons (pe_callB call_len_seq (by rfl) T.zlen (by decide +kernel) (pa_cons (pv 2) pa_nil)) pa_nil))) pa_nil)) pa_nil)))))
    (pss_one (ps_ret (pv 3))))), ?_⟩
    refine ⟨_, rfl, p, _, rfl, hs, fun l hl0 => ⟨(by show 0 ≤ sizeLine; decide), fun q hq => ⟨_, _, rfl, ?_⟩⟩⟩
    have d1 := (dr.new (o := .lst (ns.map V.int)) hl0).new (o := .lst []) hq
    have k1 : Kp D H (upd (upd H l (.lst (ns.map V.int))) q (.lst [])) := (Kp.new hl0).trans (Kp.new hq)
    have nlq : l ≠ q := ne_of_none upd_same hq
    have nl : Off D l := dr.off hl0
    have nq : Off D q := (dr.new (o := .lst (ns.map V.int)) hl0).off hq
    have hqH : H q = none := by rw [upd_ne nlq.symm] at hq; exact hq
    have a1 : (upd (upd H l (.lst (ns.map V.int))) q (.lst [])) l = some (.lst (ns.map V.int)) := by rw [upd_ne nlq]; exact upd_same
    have a2 : (upd (upd H l (.lst (ns.map V.int))) q (.lst [])) q = some (.lst []) := upd_same
    generalize upd (upd H l (.lst (ns.map V.int))) q (.lst []) = H1 at d1 k1 a1 a2
    refine while_by (fun σ H' => ∃ (le fo : List Int), σ = [some (.ref D.d), some (.ref p), some (.ref l), some (.ref q)] ∧ H' l = some (.lst (le.map V.int)) ∧ H' q = some (.lst (fo.map V.int)) ∧ (fo ++ le).Perm ns ∧ DrOk D H' ∧ Kp D H H')
      (fun σ H' => match H' l with | some (.lst xs) => xs.length | _ => 0) ⟨ns, [], rfl, a1, a2, List.Perm.refl _, d1, k1⟩ ?_ ?_
    · rintro σ H' ⟨le, fo, rfl, h1, h2, pm, dr', k'⟩
      have hlen : fo.length + le.length = ns.length := by rw [← pm.length_eq, List.length_append]
      refine ⟨_, rfl, (by show 0 ≤ sizeLine; decide), fun e he => ?_⟩
      have e1 : (upd H' e (.lst [])) l = some (.lst (le.map V.int)) := by rw [upd_ne (ne_of_none h1 he)]; exact h1
      have e2 : (upd H' e (.lst [])) q = some (.lst (fo.map V.int)) := by rw [upd_ne (ne_of_none h2 he)]; exact h2
      have d2 : DrOk D (upd H' e (.lst [])) := dr'.new he
      have k2 : Kp D H (upd H' e (.lst [])) := k'.trans (Kp.new he)
      refine ⟨_, _, .lst (SqL.of e1) (dpAll_ints _ le), .lst (SqL.of upd_same) .nil, shapedAll_ints le, rfl, _, rfl, ?_⟩
      rw [eqv_nil]
      refine ite2 (fun c => ?_) (fun c => ?_)
      · have hne : le ≠ [] := by simpa using c
        have l0 : 0 < le.length := List.length_pos_iff.mpr hne
        refine ⟨_, rfl, .inl ⟨rfl, _, SqL.of e2⟩, _, rfl, .inl ⟨rfl, _, SqL.of e1⟩, _, rfl, _, rfl, l, _, rfl, .inl (SqL.of e1), D, _, rfl, ?_⟩
        rw [List.length_map]
        refine ⟨by omega, by omega, d2, fun n H3 n0 n1 d3 k3 => ?_⟩
        obtain ⟨m, rfl⟩ := Int.eq_ofNat_of_zero_le n0
        have hm : m < le.length := by omega
        have f1 : H3 l = some (.lst (le.map V.int)) := k3.at nl e1
        have f2 : H3 q = some (.lst (fo.map V.int)) := k3.at nq e2
        refine ⟨l, _, _, m, V.int le[m], rfl, rfl, f1, by omega, by omega, ?_, ?_, ?_⟩
        · rw [List.length_map]
          have e0 : ¬ ((m : Int) < 0) := by omega
          simp [seqIndex?, e0, hm]
        · rw [List.getElem?_map, List.getElem?_eq_getElem hm]
          rfl
        · have nlq' : q ≠ l := nlq.symm
          have g2 : (upd H3 l (.lst ((le.map V.int).eraseIdx m))) q = some (.lst (fo.map V.int)) := by rw [upd_ne nlq']; exact f2
          refine ⟨q, _, _, rfl, rfl, g2, by rw [List.length_map]; exact small1000 (by omega), ?_⟩
          have ee : (le.map V.int).eraseIdx m = (le.eraseIdx m).map V.int := eraseIdx_mapI le m
          refine ⟨⟨le.eraseIdx m, fo ++ [le[m]], rfl, ?_, ?_, ?_, ?_, ?_⟩, ?_⟩
          · rw [upd_ne nlq, upd_same, ee]
          · rw [upd_same, List.map_append]
            rfl
          · refine List.Perm.trans ?_ pm
            rw [List.append_assoc]
            exact (perm_erase (List.getElem?_eq_getElem hm)).append_left fo
          · exact (d3.put nl).put nq
          · intro b o hb n1 n2
            have hbl : b ≠ l := ne_of_none hb hl0
            have hbq : b ≠ q := ne_of_none hb hqH
            rw [upd_ne hbq, upd_ne hbl]
            exact k3 _ _ (k2 _ _ hb n1 n2) n1 n2
          · show (match (upd (upd H3 l _) q _) l with | some (.lst xs) => xs.length | _ => 0) < (match H' l with | some (.lst xs) => xs.length | _ => 0)
            rw [upd_ne nlq, upd_same, h1, ee]
            show ((le.eraseIdx m).map V.int).length < (le.map V.int).length
            rw [List.length_map, List.length_map, List.length_eraseIdx_of_lt hm]
            omega
      · have hne : le = [] := by simpa using c
        subst hne
        refine ⟨_, rfl, ?_⟩
        rw [List.append_nil] at pm
        exact k fo q _ pm d2 k2 hqH e2
    · rintro σ H Q Q' hq ⟨v, h1, h2, h3⟩
      exact ⟨v, h1, h2, fun p hp => by obtain ⟨d, e, a1, a2, a3, a4, b, eb, h⟩ := h3 p hp; exact ⟨d, e, a1, a2, a3, a4, b, eb, hq _ _ h⟩⟩
end
end Tt
set_option maxRecDepth 100000
set_option maxHeartbeats 4000000
namespace Tt
open PySem L2
section
variable {P : Program} {w : World} {K : PySem.W.Frag} {mg : Str → Option Value} {base : Heap}
theorem xor_mate {x : Int} (h0 : 0 ≤ x) (h1 : x < 12) : Builtin.bitXor x 1 = Wd.mate x := by
  have h : ∀ n : Fin 12, Builtin.bitXor ((n.val : Nat) : Int) 1 = Wd.mate ((n.val : Nat) : Int) := by decide
  obtain ⟨n, rfl⟩ := Int.eq_ofNat_of_zero_le h0
  exact h ⟨n, by omega⟩
theorem same_new {H : Hp} {p : Addr} {o : HO} (n : H p = none) : Same H (upd H p o) := fun b u e => by
  rw [upd_ne (ne_of_none e n)]
  exact e
theorem ints_get {st : List Int} {i : Nat} {a : Int} (h : st[i]? = some a) : (st.map V.int)[i]? = some (V.int a) := by rw [List.getElem?_map, h]; rfl
theorem atI_last {st : List Int} (h : st ≠ []) : ∃ a, st.getLast? = some a ∧ atI (st.map V.int) (-1) = some (V.int a) := by
  have l0 : 0 < st.length := List.length_pos_iff.mpr h
  have hl : st.length - 1 < st.length := by omega
  refine ⟨st[st.length - 1], by rw [List.getLast?_eq_getElem?, List.getElem?_eq_getElem hl], ?_⟩
  unfold atI
  have e : ixN (st.map V.int).length (-1) = some (st.length - 1) := by
    rw [List.length_map]
    unfold ixN
    simp
    omega
  rw [e]
  exact ints_get (List.getElem?_eq_getElem hl)
def spFreed (K : PySem.W.Frag) : Sp := fun vs H Q _ => ∃ (p : Addr) (ns : List Int), vs = [.ref p] ∧ SqT K H p (ns.map V.int) ∧ ns.length ≤ 500 ∧ (∀ x ∈ ns, 0 ≤ x ∧ x < 12) ∧
  ∀ q H', Same H H' → H' q = some (.tup ((Wd.freed ns).map V.int)) → Q (.ref q) H'
theorem same_seqT {K : PySem.W.Frag} {H H' : Hp} {a : Addr} {xs : List V} (e : Same H H') (h : SqT K H a xs) : SqT K H' a xs := by
  rcases h with (h | ⟨o, h⟩) | h
  · exact .inl (.inl (e _ _ h))
  · exact .inl (.inr ⟨o, e _ _ h⟩)
  · exact .inr h
theorem ok_l_freed (T : Txt K mg) : FnOk P w K mg base CX0 2 T.l_freed.a T.l_freed.fd ["word_here"] (spFreed K) := by
  refine T.l_freed.F.ok sc_l_freed (fun vs H Q E h => ?_) (fun cdv A outer s H vs Q E hr h => ?_)
  · obtain ⟨p, ns, rfl, _⟩ := h
    rfl
  · obtain ⟨p, ns, rfl, hs, hl, hb, k⟩ := h
    have nd := sc_l_freed.nd
    refine ⟨_, (pss_cons (ps_set (i := 1) nd rfl (Or.inl rfl) (pe_lst pa_nil))
    (pss_cons (ps_for PassesOwn.never rfl (pi_tup (pv 0)) (pg_name (i := 2) nd rfl (Or.inl rfl))
      (pss_one (ps_if (PW.pt (pw_and (pt_cmpR (op_neD hr.units) (pv 1) (pe_lst pa_nil) (nomark _)) (pw_and1 (pt_cmpR op_eq (pe_ix ix_list (pv 1) (pe_un un_neg pe_int) (fun _ _ => rfl)) (pe_call (ok_l_mate T) (hr.mono (by decide)) (by rfl) T.l_mate.g T.l_mate.k T.l_mate.b .nil pass0 (pa_cons (pv 2) pa_nil)) (nomark _)))))
        (pss_one (ps_expr (pe_bm0 PySem.F.plainAttrs_list PySem.F.slot_list_pop PySem.F.type_list_pop mt_pop (pv 1))))
        (pss_one (ps_expr (pe_bm PySem.F.plainAttrs_list PySem.F.slot_list_append PySem.F.type_list_append mt_append (pv 1) (pa_cons (pv 2) pa_nil)))))))
    (pss_one (ps_ret (pe_callTy call_tuple_of (by rfl) T.ztuple (by decide +kernel) (pa_cons (pv 1) pa_nil)))))), ?_⟩
    refine ⟨(by show 0 ≤ sizeLine; decide), fun f hf => ?_⟩
    have s1 : Same H (upd H f (.lst [])) := same_new hf
    refine ⟨_, rfl, p, rfl, ⟨_, same_seqT s1 hs⟩, ?_⟩
    refine for_tup (K := K) (a := p) (xs := ns.map V.int) (fun i σ H' => ∃ v2, σ = [some (.ref p), some (.ref f), v2] ∧ Same H H' ∧ H' f = some (.lst ((Wd.freed (ns.take i)).map V.int)))
      ⟨_, rfl, s1, upd_same⟩ (fun i σ H' _ ⟨_, _, s, _⟩ => same_seqT s hs) ?_ ?_
    · rintro i y σ H' hi ⟨v2, rfl, s2, h2⟩
      obtain ⟨x, rfl, hx⟩ := ints_at hi
      have hil : i < ns.length := (List.getElem?_eq_some_iff.mp hx).1
      have hxm : x ∈ ns := List.mem_of_getElem? hx
      have ht : ns.take (i + 1) = ns.take i ++ [x] := by rw [List.take_add_one, hx]; rfl
      have hsz : (Wd.freed (ns.take i)).length ≤ 500 := Nat.le_trans (Wd.len_freed _) (by rw [List.length_take]; omega)
      refine ⟨_, rfl, (by show 0 ≤ sizeLine; decide), fun e he => ?_⟩
      have e1 : (upd H' e (.lst [])) f = some (.lst ((Wd.freed (ns.take i)).map V.int)) := by rw [upd_ne (ne_of_none h2 he)]; exact h2
      have s3 : Same H (upd H' e (.lst [])) := s2.trans (same_new he)
      refine ⟨_, _, .lst (SqL.of e1) (dpAll_ints _ _), .lst (SqL.of upd_same) .nil, shapedAll_ints _, rfl, _, rfl, ?_⟩
      rw [eqv_nil]
      have grow : ¬ (Wd.freed (ns.take i)).getLast? = some (Wd.mate x) → Same H (upd (upd H' e (.lst [])) f (.lst ((Wd.freed (ns.take i)).map V.int ++ [V.int x]))) ∧ (upd (upd H' e (.lst [])) f (.lst ((Wd.freed (ns.take i)).map V.int ++ [V.int x]))) f = some (.lst ((Wd.freed (ns.take (i + 1))).map V.int)) := fun hn => by
        refine ⟨fun b o hb => ?_, ?_⟩
        · rw [upd_ne (ne_of_none hb hf)]
          exact s3 b o hb
        · rw [upd_same, ht, Wd.freed_snoc]
          unfold Wd.push
          rw [if_neg hn, List.map_append]
          rfl
      refine ite2 (fun c => ?_) (fun c => ?_)
      · have hne : Wd.freed (ns.take i) ≠ [] := by simpa using c
        obtain ⟨a, ha, hat⟩ := atI_last hne
        refine ⟨_, rfl, _, rfl, f, _, _, _, rfl, rfl, SqL.of e1, hat, ?_⟩
        refine ⟨_, rfl, x, rfl, rfl, _, rfl, ?_⟩
        refine ite2 (fun c2 => ?_) (fun c2 => ?_)
        · have hax : a = Wd.mate x := by simpa using c2
          refine ⟨_, rfl, .inl ⟨rfl, _, SqL.of e1⟩, f, _, V.int a, rfl, rfl, e1, ?_, ?_⟩
          · rw [List.length_map]
            exact ints_get (Wd.last_get.mp ha).2
          · refine ⟨_, rfl, fun b o hb => ?_, ?_⟩
            · rw [upd_ne (ne_of_none hb hf)]
              exact s3 b o hb
            · rw [upd_same, ht, Wd.freed_snoc]
              unfold Wd.push
              rw [if_pos (by rw [ha, hax]), List.map_dropLast]
        · have hax : ¬ a = Wd.mate x := by simpa using c2
          refine ⟨_, rfl, .inl ⟨rfl, _, SqL.of e1⟩, _, rfl, f, _, _, rfl, rfl, e1, by rw [List.length_map]; exact small1000 (by omega), ?_⟩
          exact ⟨_, rfl, grow (by rw [ha]; intro z; exact hax (Option.some.inj z))⟩
      · have hne : Wd.freed (ns.take i) = [] := by simpa using c
        refine ite2 (fun z => absurd z Bool.false_ne_true) (fun _ => ?_)
        refine ⟨_, rfl, .inl ⟨rfl, _, SqL.of e1⟩, _, rfl, f, _, _, rfl, rfl, e1, by rw [List.length_map]; exact small1000 (by omega), ?_⟩
        exact ⟨_, rfl, grow (by rw [hne]; intro z; cases z)⟩
    · rintro σ H' ⟨v2, rfl, s2, h2⟩
      rw [List.length_map, List.take_length] at h2
      refine ⟨_, rfl, f, _, rfl, .inl ⟨SqL.of h2, fun q hq => ?_⟩⟩
      exact k q _ (s2.trans (same_new hq)) upd_same
end
end Tt
set_option maxRecDepth 100000
set_option maxHeartbeats 4000000
namespace Tt
open PySem L2
section
variable {P : Program} {w : World} {K : PySem.W.Frag} {mg : Str → Option Value} {base : Heap}
theorem ok_cut_free (T : Txt K mg) : FnOk P w K mg base CX0 2 T.cut_free.a T.cut_free.fd ["word"] (spFreed K) := by
  refine T.cut_free.F.ok sc_cut_free (fun vs H Q E h => ?_) (fun cdv A outer s H vs Q E hr h => ?_)
  · obtain ⟨p, ns, rfl, _⟩ := h
    rfl
  · obtain ⟨p, ns, rfl, hs, hl, hb, k⟩ := h
    have nd := sc_cut_free.nd
    refine ⟨_, (pss_cons (ps_set (i := 1) nd rfl (Or.inl rfl) (pe_lst pa_nil))
    (pss_cons (ps_for PassesOwn.never rfl (pi_tup (pv 0)) (pg_name (i := 2) nd rfl (Or.inl rfl))
      (pss_one (ps_if (PW.pt (pw_and (pt_truth (pv 1) (fun _ => rfl)) (pw_and1 (pt_cmpR op_eq (pe_ix ix_list (pv 1) (pe_un un_neg pe_int) (fun _ _ => rfl)) (pe_op op_xor (pv 2) pe_int) (nomark _)))))
        (pss_one (ps_expr (pe_bm0 PySem.F.plainAttrs_list PySem.F.slot_list_pop PySem.F.type_list_pop mt_pop (pv 1))))
        (pss_one (ps_expr (pe_bm PySem.F.plainAttrs_list PySem.F.slot_list_append PySem.F.type_list_append mt_append (pv 1) (pa_cons (pv 2) pa_nil)))))))
    (pss_one (ps_ret (pe_callTy call_tuple_of (by rfl) T.ztuple (by decide +kernel) (pa_cons (pv 1) pa_nil)))))), ?_⟩
    refine ⟨(by show 0 ≤ sizeLine; decide), fun f hf => ?_⟩
    have s1 : Same H (upd H f (.lst [])) := same_new hf
    refine ⟨_, rfl, p, rfl, ⟨_, same_seqT s1 hs⟩, ?_⟩
    refine for_tup (K := K) (a := p) (xs := ns.map V.int) (fun i σ H' => ∃ v2, σ = [some (.ref p), some (.ref f), v2] ∧ Same H H' ∧ H' f = some (.lst ((Wd.freed (ns.take i)).map V.int)))
      ⟨_, rfl, s1, upd_same⟩ (fun i σ H' _ ⟨_, _, s, _⟩ => same_seqT s hs) ?_ ?_
    · rintro i y σ H' hi ⟨v2, rfl, s3, e1⟩
      obtain ⟨x, rfl, hx⟩ := ints_at hi
      have hil : i < ns.length := (List.getElem?_eq_some_iff.mp hx).1
      have hxm : x ∈ ns := List.mem_of_getElem? hx
      have ht : ns.take (i + 1) = ns.take i ++ [x] := by rw [List.take_add_one, hx]; rfl
      have hsz : (Wd.freed (ns.take i)).length ≤ 500 := Nat.le_trans (Wd.len_freed _) (by rw [List.length_take]; omega)
      have grow : ¬ (Wd.freed (ns.take i)).getLast? = some (Wd.mate x) → Same H (upd H' f (.lst ((Wd.freed (ns.take i)).map V.int ++ [V.int x]))) ∧ (upd H' f (.lst ((Wd.freed (ns.take i)).map V.int ++ [V.int x]))) f = some (.lst ((Wd.freed (ns.take (i + 1))).map V.int)) := fun hn => by
        refine ⟨fun b o hb => ?_, ?_⟩
        · rw [upd_ne (ne_of_none hb hf)]
          exact s3 b o hb
        · rw [upd_same, ht, Wd.freed_snoc]
          unfold Wd.push
          rw [if_neg hn, List.map_append]
          rfl
      refine ⟨_, rfl, !((Wd.freed (ns.take i)).map V.int).isEmpty, .inl ⟨_, SqL.of e1, rfl⟩, ?_⟩
      refine ite2 (fun c => ?_) (fun c => ?_)
      · have hne : Wd.freed (ns.take i) ≠ [] := by simpa using c
        obtain ⟨a, ha, hat⟩ := atI_last hne
        refine ⟨_, rfl, _, rfl, f, _, _, _, rfl, rfl, SqL.of e1, hat, ?_⟩
        refine ⟨_, rfl, _, _, rfl, rfl, rfl, _, rfl, ?_⟩
        refine ite2 (fun c2 => ?_) (fun c2 => ?_)
        · have hax : a = Wd.mate x := by
            have c3 : decide (V.int a = V.int (Builtin.bitXor x 1)) = true := c2
            rw [xor_mate (hb x hxm).1 (hb x hxm).2] at c3
            simpa using c3
          refine ⟨_, rfl, .inl ⟨rfl, _, SqL.of e1⟩, f, _, V.int a, rfl, rfl, e1, ?_, ?_⟩
          · rw [List.length_map]
            exact ints_get (Wd.last_get.mp ha).2
          · refine ⟨_, rfl, fun b o hb => ?_, ?_⟩
            · rw [upd_ne (ne_of_none hb hf)]
              exact s3 b o hb
            · rw [upd_same, ht, Wd.freed_snoc]
              unfold Wd.push
              rw [if_pos (by rw [ha, hax]), List.map_dropLast]
        · have hax : ¬ a = Wd.mate x := by
            have c3 : ¬ decide (V.int a = V.int (Builtin.bitXor x 1)) = true := c2
            rw [xor_mate (hb x hxm).1 (hb x hxm).2] at c3
            simpa using c3
          refine ⟨_, rfl, .inl ⟨rfl, _, SqL.of e1⟩, _, rfl, f, _, _, rfl, rfl, e1, by rw [List.length_map]; exact small1000 (by omega), ?_⟩
          exact ⟨_, rfl, grow (by rw [ha]; intro z; exact hax (Option.some.inj z))⟩
      · have hne : Wd.freed (ns.take i) = [] := by simpa using c
        refine ite2 (fun z => absurd z Bool.false_ne_true) (fun _ => ?_)
        refine ⟨_, rfl, .inl ⟨rfl, _, SqL.of e1⟩, _, rfl, f, _, _, rfl, rfl, e1, by rw [List.length_map]; exact small1000 (by omega), ?_⟩
        exact ⟨_, rfl, grow (by rw [hne]; intro z; cases z)⟩
    · rintro σ H' ⟨v2, rfl, s2, h2⟩
      rw [List.length_map, List.take_length] at h2
      refine ⟨_, rfl, f, _, rfl, .inl ⟨SqL.of h2, fun q hq => ?_⟩⟩
      exact k q _ (s2.trans (same_new hq)) upd_same
def spUndo (K : PySem.W.Frag) : Sp := fun vs H Q _ => ∃ (p : Addr) (ns : List Int), vs = [.ref p] ∧ SqT K H p (ns.map V.int) ∧ ns.length ≤ 500 ∧ (∀ x ∈ ns, 0 ≤ x ∧ x < 12) ∧
  ∀ q H', Same H H' → H' q = some (.tup ((Wd.undo ns).map V.int)) → Q (.ref q) H'
theorem ok_l_undone (T : Txt K mg) : FnOk P w K mg base CX0 2 T.l_undone.a T.l_undone.fd ["word_here"] (spUndo K) := by
  refine T.l_undone.F.ok sc_l_undone (fun vs H Q E h => ?_) (fun cdv A outer s H vs Q E hr h => ?_)
  · obtain ⟨p, ns, rfl, _⟩ := h
    rfl
  · obtain ⟨p, ns, rfl, hs, hl, hb, k⟩ := h
    have nd := sc_l_undone.nd
    refine ⟨_, (pss_one (ps_ret (pe_callTy call_tuple_of (by rfl) T.ztuple (by decide +kernel) (pa_cons (pe_lc (own := [("letter", 1)]) (g := gName 1) rfl nd (pi_tup (pe_revT (pv 0))) (blkOk_by (own := [("letter", 1)]) (N := N_l_undone) (sc := defScope s_l_undone) (by decide +kernel)) (fun _ _ _ _ _ => pg_name (i := 1) nd rfl (Or.inl rfl)) (fun _ _ _ _ _ => pts_nil) (fun _ _ _ _ _ => (pe_call (ok_l_mate T) (hr.mono (by decide)) (by rfl) T.l_mate.g T.l_mate.k T.l_mate.b .nil pass0 (pa_cons (pv 1) pa_nil)))) pa_nil)))), ?_⟩
    refine ⟨_, rfl, p, _, rfl, hs, fun q hq => ?_⟩
    have s1 : Same H (upd H q (.tup (ns.map V.int).reverse)) := same_new hq
    have e1 : (upd H q (.tup (ns.map V.int).reverse)) q = some (.tup (ns.reverse.map V.int)) := by rw [upd_same, List.map_reverse]
    generalize upd H q (.tup (ns.map V.int).reverse) = H1 at s1 e1
    refine ⟨q, rfl, ⟨_, SqT.of e1⟩, fun D1 hD1 => lc_tup (K := K) (a := q) (xs := ns.reverse.map V.int) (fun i H' => H' D1 = some (.lst (((ns.reverse.take i).map Wd.mate).map V.int)) ∧ Same H1 H')
      ⟨upd_same, same_new hD1⟩ (fun i H' _ z => SqT.of (z.2 _ _ e1)) ?_ ?_⟩
    · rintro i y H' hi ⟨h1, s2⟩
      obtain ⟨x, rfl, hx⟩ := ints_at hi
      have hil : i < ns.reverse.length := (List.getElem?_eq_some_iff.mp hx).1
      rw [List.length_reverse] at hil
      have ht : ns.reverse.take (i + 1) = ns.reverse.take i ++ [x] := by rw [List.take_add_one, hx]; rfl
      refine ⟨rfl, yes_t ?_⟩
      refine ⟨_, rfl, x, rfl, _, h1, ?_, ?_⟩
      · rw [List.length_map, List.length_map, List.length_take]
        exact small1000 (by omega)
      · refine ⟨?_, fun b o hb => ?_⟩
        · rw [upd_same, ht, List.map_append, List.map_append]
          rfl
        · rw [upd_ne (ne_of_none hb hD1)]
          exact s2 b o hb
    · rintro H' ⟨h1, s2⟩
      have e2 : ns.reverse.take (ns.reverse.map V.int).length = ns.reverse := by rw [List.length_map, List.take_length]
      rw [e2] at h1
      refine ⟨D1, _, rfl, .inl ⟨SqL.of h1, fun l hl => ?_⟩⟩
      exact k l _ ((s1.trans s2).trans (same_new hl)) upd_same
theorem ok_gone_back (T : Txt K mg) : FnOk P w K mg base CX0 2 T.gone_back.a T.gone_back.fd ["word"] (spUndo K) := by
  refine T.gone_back.F.ok sc_gone_back (fun vs H Q E h => ?_) (fun cdv A outer s H vs Q E hr h => ?_)
  · obtain ⟨p, ns, rfl, _⟩ := h
    rfl
  · obtain ⟨p, ns, rfl, hs, hl, hb, k⟩ := h
    have nd := sc_gone_back.nd
    refine ⟨_, (pss_one (ps_ret (pe_callTy call_tuple_of (by rfl) T.ztuple (by decide +kernel) (pa_cons (pe_lc (own := [("letter", 1)]) (g := gName 1) rfl nd (pi_tup (pe_revT (pv 0))) (blkOk_by (own := [("letter", 1)]) (N := N_gone_back) (sc := defScope s_gone_back) (by decide +kernel)) (fun _ _ _ _ _ => pg_name (i := 1) nd rfl (Or.inl rfl)) (fun _ _ _ _ _ => pts_nil) (fun _ _ _ _ _ => (pe_op op_xor (pv 1) pe_int))) pa_nil)))), ?_⟩
    refine ⟨_, rfl, p, _, rfl, hs, fun q hq => ?_⟩
    have s1 : Same H (upd H q (.tup (ns.map V.int).reverse)) := same_new hq
    have e1 : (upd H q (.tup (ns.map V.int).reverse)) q = some (.tup (ns.reverse.map V.int)) := by rw [upd_same, List.map_reverse]
    generalize upd H q (.tup (ns.map V.int).reverse) = H1 at s1 e1
    refine ⟨q, rfl, ⟨_, SqT.of e1⟩, fun D1 hD1 => lc_tup (K := K) (a := q) (xs := ns.reverse.map V.int) (fun i H' => H' D1 = some (.lst (((ns.reverse.take i).map Wd.mate).map V.int)) ∧ Same H1 H')
      ⟨upd_same, same_new hD1⟩ (fun i H' _ z => SqT.of (z.2 _ _ e1)) ?_ ?_⟩
    · rintro i y H' hi ⟨h1, s2⟩
      obtain ⟨x, rfl, hx⟩ := ints_at hi
      have hil : i < ns.reverse.length := (List.getElem?_eq_some_iff.mp hx).1
      have hxm : x ∈ ns := by
        have := List.mem_of_getElem? hx
        rwa [List.mem_reverse] at this
      rw [List.length_reverse] at hil
      have ht : ns.reverse.take (i + 1) = ns.reverse.take i ++ [x] := by rw [List.take_add_one, hx]; rfl
      refine ⟨rfl, yes_t ?_⟩
      refine ⟨_, rfl, _, _, rfl, rfl, ?_⟩
      refine ⟨_, h1, ?_, ?_⟩
      · rw [List.length_map, List.length_map, List.length_take]
        exact small1000 (by omega)
      · refine ⟨?_, fun b o hb => ?_⟩
        · rw [upd_same, ht, List.map_append, List.map_append]
          show some (HO.lst (_ ++ [V.int (Builtin.bitXor x 1)])) = _
          rw [xor_mate (hb x hxm).1 (hb x hxm).2]
          rfl
        · rw [upd_ne (ne_of_none hb hD1)]
          exact s2 b o hb
    · rintro H' ⟨h1, s2⟩
      have e2 : ns.reverse.take (ns.reverse.map V.int).length = ns.reverse := by rw [List.length_map, List.take_length]
      rw [e2] at h1
      refine ⟨D1, _, rfl, .inl ⟨SqL.of h1, fun l hl => ?_⟩⟩
      exact k l _ ((s1.trans s2).trans (same_new hl)) upd_same
def rgI (n : Nat) : List Int := (List.range n).map fun (i : Nat) => (i : Int)
theorem rgV_rgI {n : Int} (h : 0 ≤ n) : rgV 0 n = (rgI n.toNat).map V.int := by
  unfold rgV rgI
  rw [List.map_map, Int.sub_zero]
  exact List.map_congr_left fun a _ => by show V.int (0 + (a : Nat)) = _; rw [Int.zero_add]; rfl
theorem rgI_len (n : Nat) : (rgI n).length = n := by unfold rgI; rw [List.length_map, List.length_range]
def spRow (K : PySem.W.Frag) : Sp := fun vs H Q _ => ∃ (D : Dw) (m : Int), vs = [.ref D.d, .int m] ∧ 0 < m ∧ m ≤ 6 ∧ DrOk D H ∧
  ∀ (n : Nat) (row : List Int) q H', 1 ≤ n → (n : Int) ≤ m → row.Perm (rgI (2 * n)) → DrOk D H' → Kp D H H' → FzT H' q (row.map V.int) → Q (.ref q) H'
theorem ok_l_row (T : Txt K mg) : FnOk P w K mg base CX0 4 T.l_row.a T.l_row.fd ["draw", "most"] (spRow K) := by
  refine T.l_row.F.ok sc_l_row (fun vs H Q E h => ?_) (fun cdv A outer s H vs Q E hr h => ?_)
  · obtain ⟨D, m, rfl, _⟩ := h
    rfl
  · obtain ⟨D, m, rfl, m0, m6, dr, k⟩ := h
    have nd := sc_l_row.nd
    refine ⟨_, (pss_one (ps_ret (pe_callTy call_tuple_ofF (by rfl) T.ztuple (by decide +kernel) (pa_cons (pe_call (ok_l_shuffled T) (hr.mono (by decide)) (by rfl) T.l_shuffled.g T.l_shuffled.k T.l_shuffled.b .nil pass0 (pa_cons (pv 0) (pa_cons (pe_listRg rfl (by rfl) T.zlist (prg_1 (by rfl) T.zrange (pe_op op_add pe_int (pe_op op_mul pe_int (pe_call (ok_l_take T) (hr.mono (by decide)) (by rfl) T.l_take.g T.l_take.k T.l_take.b .nil pass0 (pa_cons (pv 0) (pa_cons (pv 1) pa_nil))))))) pa_nil))) pa_nil)))), ?_⟩
    refine ⟨_, rfl, _, rfl, _, rfl, D, m, rfl, m0, by omega, dr, fun n H1 n0 n1 d1 k1 => ?_⟩
    refine ⟨_, _, rfl, rfl, .inl ⟨by decide, by decide⟩, _, _, rfl, rfl, _, rfl, RgOk.of_le (by omega) (by omega) (by omega) (by omega), fun l hl => ?_⟩
    obtain ⟨j, rfl⟩ := Int.eq_ofNat_of_zero_le n0
    have ej : (2 + 2 * (j : Int)).toNat = 2 * (j + 1) := by omega
    rw [rgV_rgI (by omega), ej] 
    have d2 := d1.new (o := .lst ((rgI (2 * (j + 1))).map V.int)) hl
    refine ⟨D, l, rgI (2 * (j + 1)), rfl, .inl (SqL.of upd_same), by rw [rgI_len]; omega, d2, fun ns' q H3 pm d3 k3 hq h3 => ?_⟩
    refine ⟨q, _, rfl, .inl ⟨SqL.of h3, fun t ob ht hd => ?_⟩⟩
    exact k (j + 1) ns' t _ (by omega) (by omega) pm (d3.new ht) ((k1.trans (Kp.new hl)).trans (k3.trans (Kp.new ht))) (FzT.new hd)
end
end Tt
set_option maxRecDepth 100000
set_option maxHeartbeats 4000000
namespace Tt
open PySem L2
def lenAt (i : Nat) : L2.St → Hp → Nat := fun σ H' => match σ[i]? with
  | some (some (V.ref f)) => (match H' f with
    | some (HO.lst xs) => 1000 - xs.length
    | _ => 0)
  | _ => 0
theorem lenAt_of {i : Nat} {σ : L2.St} {H : Hp} {f : Addr} {xs : List V} (h : σ[i]? = some (some (.ref f))) (e : H f = some (.lst xs)) : lenAt i σ H = 1000 - xs.length := by
  unfold lenAt
  rw [h]
  show (match H f with | some (HO.lst xs) => 1000 - xs.length | _ => 0) = _
  rw [e]
def lenOf (i : Nat) : L2.St → Hp → Nat := fun σ H' => match σ[i]? with
  | some (some (V.ref f)) => (match H' f with
    | some (HO.lst xs) => xs.length
    | _ => 0)
  | _ => 0
theorem lenOf_of {i : Nat} {σ : L2.St} {H : Hp} {f : Addr} {xs : List V} (h : σ[i]? = some (some (.ref f))) (e : H f = some (.lst xs)) : lenOf i σ H = xs.length := by
  unfold lenOf
  rw [h]
  show (match H f with | some (HO.lst xs) => xs.length | _ => 0) = _
  rw [e]
theorem upk {H : Hp} {p b : Addr} {o u : HO} (n : H p = none) (h : H b = some o) : (upd H p u) b = some o := by
  rw [upd_ne (ne_of_none h n)]
  exact h
theorem cut_to (xs : List V) {n : Nat} (h : n ≤ xs.length) : cutV xs none (some (n : Int)) = xs.take n := by
  unfold cutV
  have e : HT.sIx xs.length xs.length (some (n : Int)) = n := by rw [HT.sIx_nat]; omega
  have e0 : HT.sIx xs.length 0 none = 0 := rfl
  rw [e, e0]
  simp
theorem cut_from (xs : List V) {n : Nat} : cutV xs (some (n : Int)) none = xs.drop n := by
  unfold cutV
  have e : HT.sIx xs.length 0 (some (n : Int)) = min n xs.length := HT.sIx_nat ..
  have e0 : HT.sIx xs.length xs.length none = xs.length := rfl
  rw [e, e0, List.take_of_length_le (by rw [List.length_drop]; omega)]
  by_cases h : n ≤ xs.length
  · rw [Nat.min_eq_left h]
  · rw [Nat.min_eq_right (by omega), List.drop_eq_nil_of_le (Nat.le_refl _), List.drop_eq_nil_of_le (by omega)]
section
variable {P : Program} {w : World} {K : PySem.W.Frag} {mg : Str → Option Value} {base : Heap}
def Lt (e : Int) (ns : List Int) : Prop := ∀ x ∈ ns, 0 ≤ x ∧ x < e
theorem Lt.app {e : Int} {a b : List Int} (ha : Lt e a) (hb : Lt e b) : Lt e (a ++ b) := fun x hx => (List.mem_append.mp hx).elim (ha x) (hb x)
theorem Lt.take {e : Int} {a : List Int} (ha : Lt e a) (n : Nat) : Lt e (a.take n) := fun x hx => ha x (List.mem_of_mem_take hx)
theorem Lt.drop {e : Int} {a : List Int} (ha : Lt e a) (n : Nat) : Lt e (a.drop n) := fun x hx => ha x (List.mem_of_mem_drop hx)
theorem Lt.undo {e : Int} {a : List Int} (ev : e % 2 = 0) (ha : Lt e a) : Lt e (Wd.undo a) := fun x hx => by
  unfold Wd.undo at hx
  obtain ⟨y, hy, rfl⟩ := List.mem_map.mp hx
  have h := ha y (by simpa using hy)
  have hb := Wd.mate_range (n := e / 2) h.1 (by omega)
  exact ⟨hb.1, by omega⟩
end
end Tt
set_option maxRecDepth 100000
set_option maxHeartbeats 4000000
namespace Tt
open PySem L2
open LamX (GivesToS CodeO)
def TTc (K : PySem.W.Frag) (RE : Addr) : (XK → Hp → VK → Prop) → Hp → VK → Prop := fun tl H Q =>
  tl (fun cls d H' => PySem.W.exmOne K cls (.ref RE) = some true ∧ ∀ a, H' a = none → Q (.ref a) (upd H' a (exh cls d a))) H (fun _ H' => Q .non H')
theorem caught_gives {X : Cx} {q : Str} {cdg : Value} {g RE : Addr} (hme : X.mg "RoundError" = some (.ref RE)) :
    GivesToS X N_l_caught "_law_caught" (defScope s_l_caught) g cdg (defBody s_l_caught) "work" q (TTc X.K RE) := by
  intro f c' s H Q tl act hc h
  have nd := sc_l_caught.nd
  refine ⟨_, pss_cons (ps_set (i := 1) nd rfl (Or.inl rfl) pe_non)
    (pss_cons (ps_try_keep (X := (cxOf C8.CX0 X.prog X.w X.K X.mg X.base N_l_caught "_law_caught" (defScope s_l_caught) g cdg X.A X.stack s H C8.E0).nox) (c := .ref RE) (i := 2)
      (tb := fun W D σ H => ∃ Ew : L2.St → XK, (∀ τ cls d H', Ew τ cls d H' → W cls d τ H') ∧ σ[0]? = some (some (.ref f)) ∧ H c' = some (CodeO c' q) ∧ tl (Ew σ) H (fun _ H' => D.nx σ H'))
      rfl rfl rfl nd rfl rfl ⟨rfl, by decide, .inl hme⟩ LamX.takes0 (fun W pn xe tk _ => ?_) (fun a oe cls d pn _ _ => pss_one (ps_set (i := 1) nd rfl (Or.inl rfl) (pv 2))))
    (pss_one (ps_ret (pv 1)))), ?_⟩
  · refine ⟨fun pins s' σ H' D I h' => ?_⟩
    obtain ⟨Ew, hW, h1, h2, h3⟩ := h'
    exact (pss_one (ps_expr (act W pn xe Ew _ _ tk hW))).run pins s' σ H' D I ⟨h1, h2, h3⟩
  · refine ⟨fun τ cls d H' => τ = [some (.ref f), some .non, none] ∧ PySem.W.exmOne X.K cls (.ref RE) = some true ∧ ∀ a, H' a = none → Q (.ref a) (upd H' a (exh cls d a)), ?_, rfl, hc, ?_⟩
    · rintro τ cls d H' ⟨rfl, h1, h2⟩
      refine ⟨true, h1, fun _ a ha => ?_, fun z => nomatch z⟩
      exact ⟨_, rfl, ha, _, rfl, h2 a ha⟩
    · have e1 : (fun (cls : Value) (d : Option Addr) (H' : Hp) => ([some (.ref f), some .non, none] : L2.St) = [some (.ref f), some .non, none] ∧ PySem.W.exmOne X.K cls (.ref RE) = some true ∧ ∀ a, H' a = none → Q (.ref a) (upd H' a (exh cls d a))) =
          fun cls d H' => PySem.W.exmOne X.K cls (.ref RE) = some true ∧ ∀ a, H' a = none → Q (.ref a) (upd H' a (exh cls d a)) :=
        funext fun cls => funext fun d => funext fun H' => propext ⟨fun z => z.2, fun z => ⟨rfl, z⟩⟩
      have e2 : (fun (_ : V) (H' : Hp) => ∃ v, ([some (.ref f), some .non, none] : L2.St)[1]? = some (some v) ∧ Q v H') = fun _ H' => Q .non H' :=
        funext fun _ => funext fun H' => propext ⟨fun ⟨v, h1, h2⟩ => by cases h1; exact h2, fun z => ⟨_, rfl, z⟩⟩
      have h' : tl (fun (cls : Value) (d : Option Addr) (H' : Hp) => ([some (.ref f), some .non, none] : L2.St) = [some (.ref f), some .non, none] ∧ PySem.W.exmOne X.K cls (.ref RE) = some true ∧ ∀ a, H' a = none → Q (.ref a) (upd H' a (exh cls d a))) H
          (fun (_ : V) (H' : Hp) => ∃ v, ([some (.ref f), some .non, none] : L2.St)[1]? = some (some v) ∧ Q v H') := by
        rw [e1, e2]
        exact h
      exact h'
end Tt
set_option maxRecDepth 100000
set_option maxHeartbeats 4000000
namespace Tt
open PySem L2
section
variable {P : Program} {w : World} {K : PySem.W.Frag} {mg : Str → Option Value} {base : Heap}
theorem passF {P : Program} {w : World} {X : Cx} : Passes (L2.CX P w) X (fun _ _ _ => False) := fun _ _ _ _ _ _ _ h => by
  obtain ⟨_, _, _, _, _, _, _, _, _, _, _, _, z⟩ := h
  exact z.elim
def inB (lo hi : Int) : V → Bool
  | .int i => decide (lo ≤ i) && decide (i ≤ hi)
  | _ => false
def isI : V → Bool
  | .int _ => true
  | _ => false
theorem TyB.isI {H : Hp} {x : V} {S : String} (t : TyB K H x S) : decide (S = "int") = isI x := by cases t <;> rfl
theorem TyB.isT {H : Hp} {x : V} {S : String} (t : TyB K H x S) : (∃ a xs, x = .ref a ∧ SqT K H a xs ∧ S = "tuple") ∨ decide (S = "tuple") = false := by
  cases t with
  | tup h => exact .inl ⟨_, _, rfl, h, rfl⟩
  | _ => exact .inr rfl
def spNumber (K : PySem.W.Frag) : Sp := fun vs H Q _ => ∃ (x : V) (S : String), vs = [x] ∧ TyB K H x S ∧ Q (.bl (isI x)) H
theorem ok_is_number (T : Txt K mg) : FnOk P w K mg base CX0 1 T.is_number.a T.is_number.fd ["thing"] (spNumber K) := by
  refine T.is_number.F.ok sc_is_number (fun vs H Q E h => ?_) (fun cdv A outer s H vs Q E hr h => ?_)
  · obtain ⟨x, S, rfl, _⟩ := h
    rfl
  · obtain ⟨x, S, rfl, t, k⟩ := h
    refine ⟨_, (pss_one (ps_ret (pe_cmpR op_isTyB (pe_callTy call_type1 (by rfl) T.ztype (by decide +kernel) (pa_cons (pv 0) pa_nil)) (pe_bltn (v := .ty "int") (by rfl) T.zint (by decide +kernel) rfl) (nomark _)))), ?_⟩
    refine ⟨x, rfl, x, S, rfl, t, _, _, rfl, rfl, ?_⟩
    rw [← TyB.isI t] at k
    exact k
def spWithin (K : PySem.W.Frag) : Sp := fun vs H Q _ => ∃ (x : V) (lo hi : Int) (S : String), vs = [x, .int lo, .int hi] ∧ TyB K H x S ∧ Q (.bl (inB lo hi x)) H
theorem ok_is_within (T : Txt K mg) : FnOk P w K mg base CX0 2 T.is_within.a T.is_within.fd ["thing", "low", "high"] (spWithin K) := by
  refine T.is_within.F.ok sc_is_within (fun vs H Q E h => ?_) (fun cdv A outer s H vs Q E hr h => ?_)
  · obtain ⟨x, lo, hi, S, rfl, _⟩ := h
    rfl
  · obtain ⟨x, lo, hi, S, rfl, t, k⟩ := h
    refine ⟨_, (pss_one (ps_ret (pe_and (pe_call (ok_is_number T) (hr.mono (by decide)) (by rfl) T.is_number.g T.is_number.k T.is_number.b .nil pass0 (pa_cons (pv 0) pa_nil)) (pe_one (pe_chain op_le op_le (pv 1) (pv 0) (pv 2)))))), ?_⟩
    refine ⟨x, rfl, x, S, rfl, t, _, rfl, ?_⟩
    cases x with
    | int i =>
      refine iteT ⟨_, rfl, _, rfl, _, _, rfl, rfl, _, rfl, ?_⟩
      have k' : Q (.bl (decide (lo ≤ i) && decide (i ≤ hi))) H := k
      refine ite2 (fun c => ?_) (fun c => ?_)
      · rw [c, Bool.true_and] at k'
        exact ⟨_, rfl, _, _, rfl, rfl, k'⟩
      · have c' : decide (lo ≤ i) = false := by simpa using c
        rw [c', Bool.false_and] at k'
        exact k'
    | _ => exact iteF k
def spTuple (K : PySem.W.Frag) : Sp := fun vs H Q _ => ∃ (x : V) (S : String), vs = [x] ∧ TyB K H x S ∧ Q (.bl (decide (S = "tuple"))) H
theorem ok_is_tuple (T : Txt K mg) : FnOk P w K mg base CX0 1 T.is_tuple.a T.is_tuple.fd ["thing"] (spTuple K) := by
  refine T.is_tuple.F.ok sc_is_tuple (fun vs H Q E h => ?_) (fun cdv A outer s H vs Q E hr h => ?_)
  · obtain ⟨x, S, rfl, _⟩ := h
    rfl
  · obtain ⟨x, S, rfl, t, k⟩ := h
    refine ⟨_, (pss_one (ps_ret (pe_cmpR op_isTyB (pe_callTy call_type1 (by rfl) T.ztype (by decide +kernel) (pa_cons (pv 0) pa_nil)) (pe_bltn (v := .ty "tuple") (by rfl) T.ztuple (by decide +kernel) rfl) (nomark _)))), ?_⟩
    exact ⟨x, rfl, x, S, rfl, t, _, _, rfl, rfl, k⟩
def spList (K : PySem.W.Frag) : Sp := fun vs H Q _ => ∃ (x : V) (S : String), vs = [x] ∧ TyB K H x S ∧ Q (.bl (decide (S = "list") || decide (S = "tuple"))) H
theorem ok_is_list (T : Txt K mg) : FnOk P w K mg base CX0 2 T.is_list.a T.is_list.fd ["thing"] (spList K) := by
  refine T.is_list.F.ok sc_is_list (fun vs H Q E h => ?_) (fun cdv A outer s H vs Q E hr h => ?_)
  · obtain ⟨x, S, rfl, _⟩ := h
    rfl
  · obtain ⟨x, S, rfl, t, k⟩ := h
    refine ⟨_, (pss_one (ps_ret (pe_or (pe_cmpR op_isTyB (pe_callTy call_type1 (by rfl) T.ztype (by decide +kernel) (pa_cons (pv 0) pa_nil)) (pe_bltn (v := .ty "list") (by rfl) T.zlist (by decide +kernel) rfl) (nomark _)) (pe_one (pe_call (ok_is_tuple T) (hr.mono (by decide)) (by rfl) T.is_tuple.g T.is_tuple.k T.is_tuple.b .nil pass0 (pa_cons (pv 0) pa_nil)))))), ?_⟩
    refine ⟨x, rfl, x, S, rfl, t, _, _, rfl, rfl, _, rfl, ?_⟩
    refine ite2 (fun c => ?_) (fun c => ?_)
    · rw [c] at k
      exact k
    · have c' : decide (S = "list") = false := by simpa using c
      rw [c', Bool.false_or] at k
      exact ⟨x, rfl, x, S, rfl, t, k⟩
def skF (r q : Addr) (n : Int) : List (Str × V) := [("row", .ref r), ("bands", .int n), ("places", .ref q)]
def places (row : List Int) : List Int := (List.range row.length).map fun (e : Nat) => (((row.idxOf (e : Int) : Nat)) : Int)
def SkAt (T : Txt K mg) (H : Hp) (p : Addr) (row : List Int) : Prop := ∃ dx r q, H p = some (.ins T.Skin.C dx (skF r q (row.length / 2 : Nat))) ∧ FzT H r (row.map V.int) ∧ FzT H q ((places row).map V.int)
theorem FzT.same {H H' : Hp} {a : Addr} {xs : List V} (h : FzT H a xs) (s : Same H H') : FzT H' a xs := by
  obtain ⟨ob, h1, h2⟩ := h
  exact ⟨ob, s _ _ h1, h2⟩
theorem FzT.kp {D : Dw} {H H' : Hp} {a : Addr} {xs : List V} (h : FzT H a xs) (dr : DrOk D H) (k : Kp D H H') : FzT H' a xs := by
  obtain ⟨ob, h1, h2⟩ := h
  obtain ⟨ls, cs, rr, t, d⟩ := dr
  exact ⟨ob, k _ _ h1 (d.dne h1 fun _ z => nomatch z) (d.lne h1 fun _ z => nomatch z), h2⟩
theorem SkAt.same {T : Txt K mg} {H H' : Hp} {p : Addr} {row : List Int} (h : SkAt T H p row) (s : Same H H') : SkAt T H' p row := by
  obtain ⟨dx, r, q, h1, h2, h3⟩ := h
  exact ⟨dx, r, q, s _ _ h1, FzT.same h2 s, FzT.same h3 s⟩
theorem SkAt.kp {T : Txt K mg} {D : Dw} {H H' : Hp} {p : Addr} {row : List Int} (h : SkAt T H p row) (dr : DrOk D H) (k : Kp D H H') : SkAt T H' p row := by
  obtain ⟨dx, r, q, h1, h2, h3⟩ := h
  obtain ⟨ls, cs, rr, t, d⟩ := id dr
  exact ⟨dx, r, q, k _ _ h1 (d.dne h1 fun _ z => nomatch z) (d.lne h1 fun _ z => nomatch z), FzT.kp h2 dr k, FzT.kp h3 dr k⟩
theorem skF_row (r q : Addr) (n : Int) : (skF r q n).lookup ("row" : Str) = some (V.ref r) := rfl
theorem skF_bands (r q : Addr) (n : Int) : (skF r q n).lookup ("bands" : Str) = some (V.int n) := rfl
theorem nRow (T : Txt K mg) : NoAttr K T.Skin.C "row" := T.Skin.n _ (by decide)
theorem nBands (T : Txt K mg) : NoAttr K T.Skin.C "bands" := T.Skin.n _ (by decide)
theorem nPlaces (T : Txt K mg) : NoAttr K T.Skin.C "places" := T.Skin.n _ (by decide)
inductive SkV (T : Txt K mg) (H : Hp) : V → Bool → Prop where
  | skin {p dx : Addr} {fs : List (Str × V)} (h : H p = some (.ins T.Skin.C dx fs)) : SkV T H (.ref p) true
  | non : SkV T H .non false
  | tup {p : Addr} {xs : List V} (h : FzT H p xs) : SkV T H (.ref p) false
theorem SkV.same {T : Txt K mg} {H H' : Hp} {v : V} {b : Bool} (h : SkV T H v b) (s : Same H H') : SkV T H' v b := by
  cases h with
  | skin h => exact .skin (s _ _ h)
  | non => exact .non
  | tup h => exact .tup (FzT.same h s)
theorem SkAt.v {T : Txt K mg} {H : Hp} {p : Addr} {row : List Int} (h : SkAt T H p row) : SkV T H (.ref p) true := by
  obtain ⟨dx, r, q, h1, _⟩ := h
  exact .skin h1
theorem SkV.isi {T : Txt K mg} {H : Hp} {v : V} {b : Bool} (h : SkV T H v b) : ∃ t, TyX K H v t ∧ PySem.W.kitOne K t (.ref T.Skin.C) = some b := by
  cases h with
  | skin h => exact ⟨_, .base (.ins h T.Skin.c T.Skin.ha T.Skin.hn T.Skin.ht T.Skin.hm), T.kSS⟩
  | non => exact ⟨_, .base .non, T.kSN⟩
  | tup h =>
    obtain ⟨ob, h1, _⟩ := h
    exact ⟨_, .fTuple h1, T.kST⟩
def SkErr (T : Txt K mg) (H : Hp) (E : XK) : Prop := ∀ d H', Same H H' → H' d = some (.xd [("part", .non)]) → E (.ref T.BadSkin.C) (some d) H'
def spExI (T : Txt K mg) : Sp := fun vs H Q _ => ∃ (a : Addr) (v : V), vs = [.ref a, v] ∧ H a = some (exo a T.BadSkin.C none) ∧
  ∀ dx, H dx = none → dx ≠ a → Q .non (upd (upd H dx (exd dx [("part", v)])) a (exo a T.BadSkin.C (some dx)))
theorem ok_BadSkin_init (T : Txt K mg) : FnOk P w K mg base CX0 1 T.BadSkin.fI T.BadSkin.fd ["self", "part"] (spExI T) := by
  refine T.BadSkin.F.ok sc_BadSkin_init (fun vs H Q E h => ?_) (fun cdv A outer s H vs Q E hr h => ?_)
  · obtain ⟨a, v, rfl, _⟩ := h
    rfl
  · obtain ⟨a, v, rfl, ha, k⟩ := h
    refine ⟨_, (pss_one (ps_ost (pv 0) (pv 1))), ?_⟩
    exact ⟨v, rfl, _, rfl, a, T.BadSkin.C, rfl, T.BadSkin.o, T.BadSkin.n, .inl ⟨ha, fun dx n ne => k dx n ne⟩⟩
def spCheckSkin (T : Txt K mg) : Sp := fun vs H Q E => ∃ (v : V) (b : Bool), vs = [v] ∧ SkV T H v b ∧ (b = true → Q .non H) ∧ (b = false → SkErr T H E)
theorem ok_check_skin (T : Txt K mg) : FnOk P w K mg base (L2.CX P w) 3 T.check_skin.a T.check_skin.fd ["skin"] (spCheckSkin T) := by
  refine T.check_skin.F.okX sc_check_skin (fun vs H Q E h => ?_) (fun cdv A outer s H vs Q E hr h => ?_)
  · obtain ⟨v, b, rfl, _⟩ := h
    rfl
  · obtain ⟨v, b, rfl, hv, kT, kF⟩ := h
    refine ⟨_, (pss_one (ps_if (pt_not (pt_val (pe_callB call_isA (by rfl) T.zisinstance (by decide +kernel) (pa_cons (pv 0) (pa_cons (pe_glob (v := .ref T.Skin.C) rfl T.Skin.g rfl) pa_nil)))))
      (pss_one (ps_raise rfl (takes_of rfl rfl rfl rfl) (pmk_oex T.BadSkin.o T.BadSkin.i T.BadSkin.t (ok_BadSkin_init T) (hr.mono (by decide)) T.BadSkin.b .nil pass0 (by rfl) T.BadSkin.g (pa_cons pe_non pa_nil))))
      pss_nil)), ?_⟩
    obtain ⟨t, ht, hk⟩ := hv.isi
    refine ⟨v, rfl, .inr ⟨v, _, t, _, b, rfl, .own T.Skin.C, ht, hk, b, rfl, ?_⟩⟩
    cases b with
    | true => exact iteF (kT rfl)
    | false =>
      refine iteT ⟨(by show 1 ≤ 1000; decide), fun a ha => ?_⟩
      refine ⟨a, .non, rfl, upd_same, fun dx ndx ne => ⟨rfl, dx, ([("part", V.non)] : List (Str × V)), upd_same, ?_, ?_, ?_⟩⟩
      · rw [upd_ne ne, upd_same]
      · rw [upd_ne ne] at ndx
        exact ndx
      · have ndx' : H dx = none := by rw [upd_ne ne] at ndx; exact ndx
        refine kF rfl dx _ (fun b o hb => ?_) upd_same
        have nb : b ≠ a := ne_of_none hb ha
        have nb2 : b ≠ dx := ne_of_none hb ndx'
        rw [upd_ne nb2, del_ne nb, upd_ne nb, upd_ne nb2, upd_ne nb]
        exact hb
end
end Tt
set_option maxRecDepth 100000
set_option maxHeartbeats 4000000
namespace Tt
open PySem L2
section
variable {P : Program} {w : World} {K : PySem.W.Frag} {mg : Str → Option Value} {base : Heap}
theorem eqv_ints : ∀ a b : List Int, PyData.eqv (.list (a.map PyData.int)) (.list (b.map PyData.int)) = decide (a = b)
  | [], [] => rfl
  | [], _ :: _ => by simp [PyData.eqv] <;> rfl
  | _ :: _, [] => by simp [PyData.eqv] <;> rfl
  | x :: a, y :: b => by
    have h := eqv_ints a b
    simp [PyData.eqv, PyData.eqvAll] at h ⊢
    rw [h]
    rfl
theorem perm_sorted {n : Nat} {ns' ns : List Int} (h : ns'.Perm ns) (p : ns'.Pairwise (· ≤ ·)) (q : ns.Perm (rgI n)) : ns' = rgI n := by
  refine List.Perm.eq_of_pairwise (fun a b _ _ h1 h2 => Int.le_antisymm h1 h2) p ?_ (h.trans q)
  unfold rgI
  rw [List.pairwise_map]
  exact List.pairwise_lt_range.imp fun {a b} h => by show (a : Int) ≤ b; omega
theorem perm_len {n : Nat} {row : List Int} (h : row.Perm (rgI n)) : row.length = n := by rw [h.length_eq, rgI_len]
theorem perm_mem {n : Nat} {row : List Int} (h : row.Perm (rgI n)) {x : Int} : x ∈ row ↔ 0 ≤ x ∧ x < n := by
  rw [h.mem_iff]
  unfold rgI
  rw [List.mem_map]
  constructor
  · rintro ⟨a, ha, rfl⟩
    have := List.mem_range.mp ha
    omega
  · rintro ⟨h0, h1⟩
    exact ⟨x.toNat, List.mem_range.mpr (by omega), by omega⟩
def spRowOk (K : PySem.W.Frag) : Sp := fun vs H Q _ => ∃ (t : Addr) (n : Nat) (row : List Int), vs = [.ref t] ∧ SqT K H t (row.map V.int) ∧ 1 ≤ n ∧ n ≤ 6 ∧ row.Perm (rgI (2 * n)) ∧ ∀ H', Same H H' → Q (.bl true) H'
theorem ok_is_row (T : Txt K mg) : FnOk P w K mg base CX0 3 T.is_row.a T.is_row.fd ["row"] (spRowOk K) := by
  refine T.is_row.F.ok sc_is_row (fun vs H Q E h => ?_) (fun cdv A outer s H vs Q E hr h => ?_)
  · obtain ⟨t, n, row, rfl, _⟩ := h
    rfl
  · obtain ⟨t, n, row, rfl, hs, n1, n6, pm, k⟩ := h
    have nd := sc_is_row.nd
    have hlen := perm_len pm
    refine ⟨_, (pss_cons (ps_if (PW.pt (pw_or (pt_not (pt_val (pe_call (ok_is_list T) (hr.mono (by decide)) (by rfl) T.is_list.g T.is_list.k T.is_list.b .nil pass0 (pa_cons (pv 0) pa_nil)))) (pw_or1 (pt_cmpR op_notIn_seq (pe_callB call_len_seq (by rfl) T.zlen (by decide +kernel) (pa_cons (pv 0) pa_nil)) (pe_tup (pa_cons pe_int (pa_cons pe_int (pa_cons pe_int (pa_cons pe_int (pa_cons pe_int (pa_cons pe_int pa_nil))))))) rfl))))
      (pss_one (ps_ret pe_bl))
      pss_nil)
    (pss_one (ps_ret (pe_and (pe_callB (cr_all rfl) (by rfl) T.zall (by decide +kernel) (pa_cons (pe_lc (own := [("end", 1)]) (g := gName 1) rfl nd (pi_tup (pv 0)) (blkOk_by (own := [("end", 1)]) (N := N_is_row) (sc := defScope s_is_row) (by decide +kernel)) (fun _ _ _ _ _ => pg_name (i := 1) nd rfl (Or.inl rfl)) (fun _ _ _ _ _ => pts_nil) (fun _ _ _ _ _ => (pe_call (ok_is_number T) (hr.mono (by decide)) (by rfl) T.is_number.g T.is_number.k T.is_number.b .nil pass0 (pa_cons (pv 1) pa_nil)))) pa_nil)) (pe_one (pe_cmpR (op_eqD hr.units) (pe_callB cr_sortedS2 (by rfl) T.zsorted (by decide +kernel) (pa_cons (pv 0) pa_nil)) (pe_listRg rfl (by rfl) T.zlist (prg_1 (by rfl) T.zrange (pe_callB call_len_seq (by rfl) T.zlen (by decide +kernel) (pa_cons (pv 0) pa_nil)))) (nomark _))))))), ?_⟩
    refine ⟨_, rfl, _, _, rfl, .tup hs, _, rfl, iteF ?_⟩
    refine ⟨_, rfl, t, _, rfl, .inr hs, (by show 6 ≤ sizeLine; decide), fun p hp => ?_⟩
    refine ⟨p, _, rfl, .inr (SqT.of upd_same), rfl, rfl, _, rfl, ?_⟩
    have hin : inV (.int ((row.map V.int).length : Int)) [.int 2, .int 4, .int 6, .int 8, .int 10, .int 12] = true := by
      rw [List.length_map, hlen]
      have : n = 1 ∨ n = 2 ∨ n = 3 ∨ n = 4 ∨ n = 5 ∨ n = 6 := by omega
      rcases this with rfl | rfl | rfl | rfl | rfl | rfl <;> rfl
    refine ite2 (fun c => ?_) (fun _ => ?_)
    · exfalso
      have c' : (!inV (.int ((row.map V.int).length : Int)) [.int 2, .int 4, .int 6, .int 8, .int 10, .int 12]) = true := c
      rw [hin] at c'
      exact Bool.noConfusion c'
    · have s1 : Same H (upd H p (.tup [.int 2, .int 4, .int 6, .int 8, .int 10, .int 12])) := same_new hp
      generalize upd H p (.tup [.int 2, .int 4, .int 6, .int 8, .int 10, .int 12]) = H1 at s1
      refine ⟨_, rfl, t, rfl, ⟨_, same_seqT s1 hs⟩, fun D1 hD1 => lc_tup (K := K) (a := t) (xs := row.map V.int) (fun i H' => H' D1 = some (.lst ((List.replicate i true).map V.bl)) ∧ Same H1 H')
        ⟨upd_same, same_new hD1⟩ (fun i H' _ z => same_seqT (s1.trans z.2) hs) ?_ ?_⟩
      · rintro i y H' hi ⟨h1, s2⟩
        obtain ⟨x, rfl, hx⟩ := ints_at hi
        have hil : i < row.length := (List.getElem?_eq_some_iff.mp hx).1
        refine ⟨rfl, yes_t ?_⟩
        refine ⟨_, rfl, _, _, rfl, .int x, _, h1, ?_, ?_, ?_⟩
        · rw [List.length_map, List.length_replicate]
          exact small1000 (by omega)
        · rw [upd_same, List.replicate_succ', List.map_append]
          rfl
        · intro b o hb
          rw [upd_ne (ne_of_none hb hD1)]
          exact s2 b o hb
      · rintro H' ⟨h1, s2⟩
        have s3 : Same H H' := s1.trans s2
        refine ⟨D1, List.replicate (row.map V.int).length true, rfl, SqL.of h1, _, rfl, ?_⟩
        have hall : (List.replicate (row.map V.int).length true).all id = true := by simp
        rw [hall]
        refine iteT ?_
        refine ⟨_, rfl, .inr ⟨t, row, rfl, same_seqT s3 hs, fun ns' p2 pm2 pw hp2 => ?_⟩⟩
        have s4 : Same H (upd H' p2 (.lst (ns'.map V.int))) := s3.trans (same_new hp2)
        refine ⟨_, rfl, t, _, rfl, .inr (same_seqT s4 hs), _, rfl, RgOk.of_le (by omega) ?_ (by omega) (by omega), fun q hq => ?_⟩
        · rw [List.length_map]
          omega
        · have eN : ns' = rgI (2 * n) := perm_sorted pm2 pw pm
          have e1 : (upd (upd H' p2 (.lst (ns'.map V.int))) q (.lst (rgV 0 ((row.map V.int).length : Int)))) q = some (.lst ((rgI (2 * n)).map V.int)) := by
            rw [upd_same, rgV_rgI (by omega), List.length_map, hlen, Int.toNat_natCast]
          have e2 : (upd (upd H' p2 (.lst (ns'.map V.int))) q (.lst (rgV 0 ((row.map V.int).length : Int)))) p2 = some (.lst (ns'.map V.int)) := upk hq upd_same
          refine ⟨_, _, .lst (SqL.of e2) (dpAll_ints _ ns'), .lst (SqL.of e1) (dpAll_ints _ _), shapedAll_ints _, shapedAll_ints _, ?_⟩
          rw [eqv_ints, decide_eq_true eN]
          exact k _ (s4.trans (same_new hq))
def spSkinI (T : Txt K mg) : Sp := fun vs H Q _ => ∃ (p t dx : Addr) (n : Nat) (row : List Int), vs = [.ref p, .ref t] ∧ H p = some (.ins T.Skin.C dx []) ∧ FzT H t (row.map V.int) ∧ 1 ≤ n ∧ n ≤ 6 ∧ row.Perm (rgI (2 * n)) ∧
  ∀ (s : Nat) H', row[s]? = some 0 → SkAt T H' p (row.drop s ++ row.take s) → (∀ b o, H b = some o → b ≠ p → H' b = some o) → Q .non H'
theorem turn_perm (row : List Int) (s : Nat) : (row.drop s ++ row.take s).Perm row := by
  have h : (row.drop s ++ row.take s).Perm (row.take s ++ row.drop s) := List.perm_append_comm
  rw [List.take_append_drop] at h
  exact h
theorem idx_at {row : List Int} {x : Int} (h : x ∈ row) : row[row.idxOf x]? = some x ∧ ∀ m, m < row.idxOf x → row[m]? ≠ some x := by
  have hl : row.idxOf x < row.length := List.idxOf_lt_length_of_mem h
  refine ⟨by rw [List.getElem?_eq_getElem hl, List.getElem_idxOf hl], fun m hm e => ?_⟩
  obtain ⟨h1, h2⟩ := List.getElem?_eq_some_iff.mp e
  exact absurd h2 (by simpa using List.not_of_lt_findIdx (xs := row) (p := (· == x)) (i := m) hm)
theorem slT_from {xs : List V} {a : Addr} {H : Hp} {Q : VK} {n : Nat} (hx : 0 < xs.length) (h : SqT K H a xs) (q0 : n = 0 → Q (.ref a) H) (q1 : n ≠ 0 → ∀ p, H p = none → Q (.ref p) (upd H p (.tup (xs.drop n)))) : rSlA K (.ref a) (some (n : Int)) none H Q := by
  refine ⟨a, xs, rfl, h, fun z => q0 ?_, fun nz p hp => ?_⟩
  · rw [HT.sIx_nat] at z
    omega
  · rw [cut_from]
    refine q1 (fun e => nz ?_) p hp
    subst e
    exact ⟨by rw [HT.sIx_nat]; omega, rfl⟩
theorem slT_to {xs : List V} {a : Addr} {H : Hp} {Q : VK} {n : Nat} (hx : n < xs.length) (h : SqT K H a xs) (q1 : ∀ p, H p = none → Q (.ref p) (upd H p (.tup (xs.take n)))) : rSlA K (.ref a) none (some (n : Int)) H Q := by
  refine ⟨a, xs, rfl, h, fun z => ?_, fun _ p hp => ?_⟩
  · rw [HT.sIx_nat] at z
    exfalso
    omega
  · rw [cut_to _ (by omega)]
    exact q1 p hp
theorem noPart_i {σ : L2.St} {H : Hp} {Q : Option Int → Hp → Prop} (h : Q none H) : tNoPart σ H Q := h
def tTurned (K : PySem.W.Frag) : TE := tOp (rCatF K) (tCB (rTupF K) (tCons (tSl (rSlA K) (tVar 1) (tPart (tVar 2)) tNoPart) tNil)) (tCB (rTupF K) (tCons (tSl (rSlA K) (tVar 1) tNoPart (tPart (tVar 2))) tNil))
theorem row_turned {σ : L2.St} {H : Hp} {Q : VK} {t : Addr} {st : Nat} {row : List Int} (h1 : σ[1]? = some (some (.ref t))) (h2 : σ[2]? = some (some (.int (st : Nat)))) (ht : FzT H t (row.map V.int)) (hst : st < row.length) (hl : row.length ≤ 12)
    (k : ∀ (r : Addr) (H4 : Hp), Same H H4 → FzT H4 r ((row.drop st ++ row.take st).map V.int) → Q (.ref r) H4) : tTurned K σ H Q := by
  have hx : 0 < (row.map V.int).length := by rw [List.length_map]; omega
  have hd : ((row.drop st).map V.int) ≠ [] := fun z => by
    have := congrArg List.length z
    rw [List.length_map, List.length_drop] at this
    simp at this
    omega
  have hz : ((row.drop st).map V.int).length + ((row.take st).map V.int).length ≤ sizeLine := by
    rw [List.length_map, List.length_map, List.length_drop, List.length_take]
    have : (12 : Nat) ≤ sizeLine := by decide
    omega
  have step : ∀ (a : Addr) (H2 : Hp), Same H H2 → SqT K H2 a ((row.drop st).map V.int) → (st = 0 → a = t) →
      tCB (rTupF K) (tCons (tSl (rSlA K) (tVar 1) tNoPart (tPart (tVar 2))) tNil) σ H2 fun y H3 => rCatF K (.ref a) y H3 Q := by
    intro a H2 s2 ha hat
    refine ⟨_, h1, noPart_i ⟨_, h2, st, rfl, ?_⟩⟩
    refine slT_to (K := K) (by rw [List.length_map]; exact hst) (FzT.same ht s2).sq (fun b hb => ?_)
    have e1 : (upd H2 b (.tup ((row.map V.int).take st))) b = some (.tup ((row.take st).map V.int)) := by rw [upd_same, List.map_take]
    have s3 : Same H2 (upd H2 b (.tup ((row.map V.int).take st))) := same_new hb
    refine ⟨b, _, rfl, .inr ⟨SqT.of e1, ?_⟩⟩
    refine ⟨a, b, _, _, rfl, rfl, same_seqT s3 ha, SqT.of e1, hd, hz, fun z => ?_, fun z r ob hr hob => ?_⟩
    · have z0 : st = 0 := by
        have := congrArg List.length z
        rw [List.length_map, List.length_take, List.length_nil] at this
        omega
      subst z0
      rw [hat rfl]
      refine k t _ (s2.trans s3) ?_
      rw [show List.drop 0 row ++ List.take 0 row = row by simp]
      exact FzT.same (FzT.same ht s2) s3
    · refine k r _ ((s2.trans s3).trans (same_new hr)) ?_
      rw [List.map_append]
      exact FzT.new hob
  refine ⟨_, h1, _, h2, st, rfl, noPart_i ?_⟩
  refine slT_from (K := K) hx ht.sq (fun z => ?_) (fun nz a ha => ?_)
  · refine ⟨t, _, rfl, .inr ⟨ht.sq, ?_⟩⟩
    refine step t H (fun _ _ h => h) ?_ (fun _ => rfl)
    rw [z, List.drop_zero]
    exact ht.sq
  · have e1 : (upd H a (.tup ((row.map V.int).drop st))) a = some (.tup ((row.drop st).map V.int)) := by rw [upd_same, List.map_drop]
    refine ⟨a, _, rfl, .inr ⟨SqT.of e1, ?_⟩⟩
    refine step a _ (same_new ha) (SqT.of e1) (fun z => absurd z nz)
theorem FzT.ne {H : Hp} {a p : Addr} {xs : List V} {u o : HO} (h : FzT H a xs) (e : H p = some u) (n : ∀ ob x, u ≠ .frz ob x) : FzT (upd H p o) a xs := by
  obtain ⟨ob, h1, h2⟩ := h
  refine ⟨ob, ?_, h2⟩
  rw [upd_ne]
  · exact h1
  · intro z
    subst z
    rw [e] at h1
    exact n _ _ (Option.some.inj h1)
theorem place_at {row : List Int} {i : Nat} (h : i < row.length) : (places row)[i]? = some (((row.idxOf (i : Int) : Nat)) : Int) := by
  unfold places
  rw [List.getElem?_map, List.getElem?_range h]
  rfl
theorem ok_Skin_init (T : Txt K mg) : FnOk P w K mg base (L2.CX P w) 4 T.Skin.fI T.Skin.fd ["self", "row"] (spSkinI T) := by
  refine T.Skin.F.okX sc_Skin_init (fun vs H Q E h => ?_) (fun cdv A outer s H vs Q E hr h => ?_)
  · obtain ⟨p, t, dx, n, row, rfl, _⟩ := h
    rfl
  · obtain ⟨p, t, dx, n, row, rfl, hp, ht, n1, n6, pm, k⟩ := h
    have nd := sc_Skin_init.nd
    have hu := hu_of hr
    have hlen := perm_len pm
    refine ⟨_, (pss_cons (ps_if (pt_not (pt_val (pe_call (ok_is_row T) (hr.mono (by decide)) (by rfl) T.is_row.g T.is_row.k T.is_row.b .nil pass0 (pa_cons (pv 1) pa_nil))))
      (pss_one (ps_raise rfl (takes_of rfl rfl rfl rfl) (pmk_oex T.BadSkin.o T.BadSkin.i T.BadSkin.t (ok_BadSkin_init T) (hr.mono (by decide)) T.BadSkin.b .nil pass0 (by rfl) T.BadSkin.g (pa_cons pe_str pa_nil))))
      pss_nil)
    (pss_cons (ps_set (i := 2) nd rfl (Or.inl rfl) (pe_bmF PySem.F.plainAttrs_tuple PySem.F.slot_tuple_index PySem.F.type_tuple_index mt_tup_indexI (pv 1) (pa_cons pe_int pa_nil)))
    (pss_cons (ps_fld (pv 0) (pe_op op_catF (pe_callTy call_tuple_ofF (by rfl) T.ztuple (by decide +kernel) (pa_cons (pe_slice sl_tupA (pv 1) (po_some (pv 2)) po_none) pa_nil)) (pe_callTy call_tuple_ofF (by rfl) T.ztuple (by decide +kernel) (pa_cons (pe_slice sl_tupA (pv 1) po_none (po_some (pv 2))) pa_nil))) rfl)
    (pss_cons (ps_fld (pv 0) (pe_op op_fdiv (pe_callB call_len_seq (by rfl) T.zlen (by decide +kernel) (pa_cons (pv 1) pa_nil)) pe_int) rfl)
    (pss_one (ps_fld (pv 0) (pe_callTy call_tuple_ofF (by rfl) T.ztuple (by decide +kernel) (pa_cons (pe_lc (own := [("end", 3)]) (g := gName 3) rfl nd (pi_range1 rfl T.zrange (pa_cons (pe_callB call_len_seq (by rfl) T.zlen (by decide +kernel) (pa_cons (pv 1) pa_nil)) pa_nil)) (blkOk_by (own := [("end", 3)]) (N := N_Skin_init) (sc := defScope s_Skin_init) (by decide +kernel)) (fun _ _ _ _ _ => pg_name (i := 3) nd rfl (Or.inl rfl)) (fun _ _ _ _ _ => pts_nil) (fun _ _ _ _ _ => (pe_bmFK (K := K) rfl PySem.F.plainAttrs_tuple PySem.F.slot_tuple_index PySem.F.type_tuple_index (mt_tup_indexIK (K := K) rfl) (pe_fldK (K := K) rfl (pv 0) rfl) (pa_cons (pv 3) pa_nil)))) pa_nil)) rfl)))))), ?_⟩
    refine ⟨_, rfl, t, n, row, rfl, ht.sq, n1, n6, pm, fun H1 s1 => ⟨_, rfl, iteF ?_⟩⟩
    have ht1 := FzT.same ht s1
    have hp1 := s1 _ _ hp
    have h0 : (0 : Int) ∈ row := (perm_mem pm).mpr (by omega)
    obtain ⟨i0, i1⟩ := idx_at h0
    have hst : row.idxOf 0 < row.length := List.idxOf_lt_length_of_mem h0
    refine ⟨_, rfl, .inr ⟨rfl, t, _, rfl, ht1⟩, t, row, 0, row.idxOf 0, rfl, rfl, ht1.sq, i0, i1, ?_⟩
    generalize row.idxOf 0 = st at i0 hst
    clear i1
    refine row_turned (K := K) rfl rfl ht1 hst (by omega) (fun r H4 s4 fr => ?_)
    generalize hrow : row.drop st ++ row.take st = row2 at fr
    have pm2 : row2.Perm (rgI (2 * n)) := by rw [← hrow]; exact (turn_perm row st).trans pm
    have hlen2 : row2.length = 2 * n := perm_len pm2
    have hp4 : H4 p = some (.ins T.Skin.C dx []) := s4 _ _ hp1
    refine ⟨_, rfl, p, T.Skin.C, dx, [], rfl, hp4, T.Skin.c, nRow T, (by show 0 < 1000; decide), ?_⟩
    have hp5 : (upd H4 p (.ins T.Skin.C dx (putF "row" (.ref r) []))) p = some (.ins T.Skin.C dx [("row", .ref r)]) := upd_same
    have fr5 : FzT (upd H4 p (.ins T.Skin.C dx (putF "row" (.ref r) []))) r (row2.map V.int) := FzT.ne fr hp4 (fun _ _ z => nomatch z)
    have ft5 : FzT (upd H4 p (.ins T.Skin.C dx (putF "row" (.ref r) []))) t (row.map V.int) := FzT.ne (FzT.same ht1 s4) hp4 (fun _ _ z => nomatch z)
    have k5 : ∀ b o, H b = some o → b ≠ p → (upd H4 p (.ins T.Skin.C dx (putF "row" (.ref r) []))) b = some o := fun b o hb nb => by
      rw [upd_ne nb]
      exact s4 _ _ (s1 _ _ hb)
    generalize upd H4 p (.ins T.Skin.C dx (putF "row" (.ref r) [])) = H5 at hp5 fr5 ft5 k5
    refine ⟨_, rfl, t, _, rfl, .inr ft5.sq, _, _, rfl, rfl, ⟨by decide, by decide⟩, ?_⟩
    refine ⟨_, rfl, p, T.Skin.C, dx, _, rfl, hp5, T.Skin.c, nBands T, (by show 1 < 1000; decide), ?_⟩
    have ebands : ((row.map V.int).length : Int) / 2 = ((row2.length / 2 : Nat) : Int) := by
      rw [List.length_map, hlen2, hlen]
      rfl
    have eV : ((fun (i j : Int) => V.int (i / j)) ((row.map V.int).length : Int) 2) = V.int ((row2.length / 2 : Nat) : Int) := congrArg V.int ebands
    rw [eV]
    have hp6 : (upd H5 p (.ins T.Skin.C dx (putF "bands" (.int ((row2.length / 2 : Nat) : Int)) [("row", .ref r)]))) p = some (.ins T.Skin.C dx [("row", .ref r), ("bands", .int ((row2.length / 2 : Nat) : Int))]) := upd_same
    have fr6 : FzT (upd H5 p (.ins T.Skin.C dx (putF "bands" (.int ((row2.length / 2 : Nat) : Int)) [("row", .ref r)]))) r (row2.map V.int) := FzT.ne fr5 hp5 (fun _ _ z => nomatch z)
    have ft6 : FzT (upd H5 p (.ins T.Skin.C dx (putF "bands" (.int ((row2.length / 2 : Nat) : Int)) [("row", .ref r)]))) t (row.map V.int) := FzT.ne ft5 hp5 (fun _ _ z => nomatch z)
    have k6 : ∀ b o, H b = some o → b ≠ p → (upd H5 p (.ins T.Skin.C dx (putF "bands" (.int ((row2.length / 2 : Nat) : Int)) [("row", .ref r)]))) b = some o := fun b o hb nb => by
      rw [upd_ne nb]
      exact k5 b o hb nb
    generalize upd H5 p (.ins T.Skin.C dx (putF "bands" (.int ((row2.length / 2 : Nat) : Int)) [("row", .ref r)])) = H6 at hp6 fr6 ft6 k6
    refine ⟨_, rfl, t, _, rfl, .inr ft6.sq, _, rfl, by omega, by rw [List.length_map]; omega, fun D1 hD1 => ?_⟩
    refine lc_range (lo := 0) (n := ((row.map V.int).length : Int).toNat) (fun i H' => H' D1 = some (.lst (((places row2).take i).map V.int)) ∧ Same H6 H')
      ⟨upd_same, same_new hD1⟩ ?_ ?_
    · rintro i H' hi ⟨h1, s2⟩
      have hi2 : i < row2.length := by rw [List.length_map, hlen] at hi; omega
      have hm : (i : Int) ∈ row2 := (perm_mem pm2).mpr (by omega)
      obtain ⟨j0, j1⟩ := idx_at hm
      refine ⟨rfl, yes_t ?_⟩
      refine ⟨_, rfl, p, _, _, _, _, rfl, s2 _ _ hp6, T.Skin.c, nRow T, rfl, .inr ⟨rfl, r, _, rfl, FzT.same fr6 s2⟩, ?_⟩
      refine ⟨_, rfl, r, row2, i, _, rfl, by rw [Int.zero_add], (FzT.same fr6 s2).sq, j0, j1, ?_⟩
      refine ⟨_, h1, ?_, ?_⟩
      · rw [List.length_map, List.length_take]
        exact small1000 (by omega)
      · refine ⟨?_, fun b o hb => ?_⟩
        · rw [upd_same, List.take_add_one, place_at hi2, List.map_append]
          rfl
        · rw [upd_ne (ne_of_none hb hD1)]
          exact s2 b o hb
    · rintro H' ⟨h1, s2⟩
      have e2 : (places row2).take ((row.map V.int).length : Int).toNat = places row2 := by
        refine List.take_of_length_le ?_
        unfold places
        rw [List.length_map, List.length_map, List.length_range]
        omega
      rw [e2] at h1
      refine ⟨D1, _, rfl, .inl ⟨SqL.of h1, fun q ob hq hob => ?_⟩⟩
      have s3 : Same H6 (upd H' q (.frz ob (.tup ((places row2).map V.int)))) := s2.trans (same_new hq)
      have fq : FzT (upd H' q (.frz ob (.tup ((places row2).map V.int)))) q ((places row2).map V.int) := FzT.new hob
      generalize upd H' q (.frz ob (.tup ((places row2).map V.int))) = H7 at s3 fq
      refine ⟨_, rfl, p, T.Skin.C, dx, _, rfl, s3 _ _ hp6, T.Skin.c, nPlaces T, (by show 2 < 1000; decide), ?_⟩
      refine k st _ i0 ?_ (fun b o hb nb => ?_)
      · rw [hrow]
        exact ⟨dx, r, q, upd_same, FzT.ne (FzT.same fr6 s3) (s3 _ _ hp6) (fun _ _ z => nomatch z), FzT.ne fq (s3 _ _ hp6) (fun _ _ z => nomatch z)⟩
      · rw [upd_ne nb]
        exact s3 _ _ (k6 b o hb nb)
end
end Tt
set_option maxRecDepth 100000
set_option maxHeartbeats 4000000
namespace Tt
open PySem L2
section
variable {P : Program} {w : World} {K : PySem.W.Frag} {mg : Str → Option Value} {base : Heap}
theorem TyB.same {H H' : Hp} {x : V} {S : String} (t : TyB K H x S) (s : Same H H') : TyB K H' x S := by
  cases t with
  | non => exact .non
  | bl b => exact .bl b
  | int i => exact .int i
  | str x => exact .str x
  | byt b => exact .byt b
  | @lst a xs h =>
    have h' : SqL K H' a xs := by
      rcases h with (h | ⟨o, h⟩) | h
      · exact .inl (.inl (s _ _ h))
      · exact .inl (.inr ⟨o, s _ _ h⟩)
      · exact .inr h
    exact .lst h'
  | tup h => exact .tup (same_seqT s h)
  | dK h => exact .dK (s _ _ h)
def hiE (row : List Int) : Int := 2 * ((row.length / 2 : Nat) : Int) - 1
def spIsEnd (T : Txt K mg) : Sp := fun vs H Q _ => ∃ (p : Addr) (row : List Int) (x : V) (S : String), vs = [.ref p, x] ∧ SkAt T H p row ∧ row.length ≤ 12 ∧ TyB K H x S ∧ Q (.bl (inB 0 (hiE row) x)) H
theorem ok_is_end (T : Txt K mg) : FnOk P w K mg base CX0 3 T.is_end.a T.is_end.fd ["skin", "thing"] (spIsEnd T) := by
  refine T.is_end.F.ok sc_is_end (fun vs H Q E h => ?_) (fun cdv A outer s H vs Q E hr h => ?_)
  · obtain ⟨p, row, x, S, rfl, _⟩ := h
    rfl
  · obtain ⟨p, row, x, S, rfl, ⟨dx, r, q, h1, h2, h3⟩, hl, t, k⟩ := h
    refine ⟨_, (pss_one (ps_ret (pe_call (ok_is_within T) (hr.mono (by decide)) (by rfl) T.is_within.g T.is_within.k T.is_within.b .nil pass0 (pa_cons (pv 1) (pa_cons pe_int (pa_cons (pe_op op_sub (pe_op op_mul pe_int (pe_fld (pv 0) rfl)) pe_int) pa_nil)))))), ?_⟩
    refine ⟨x, rfl, _, rfl, p, T.Skin.C, dx, _, _, rfl, h1, T.Skin.c, nBands T, skF_bands .., _, _, rfl, rfl, .inl ⟨by decide, by decide⟩, _, _, rfl, rfl, ?_⟩
    exact ⟨x, 0, hiE row, S, rfl, t, k⟩
inductive WV (K : PySem.W.Frag) (m : Int) (row : List Int) (H : Hp) : V → Bool → Prop where
  | tup {p : Addr} {xs : List V} (h : SqT K H p xs) (n : xs.length < 1000) (ty : ∀ y ∈ xs, ∃ S, TyB K H y S) : WV K m row H (.ref p) (decide ((xs.length : Int) ≤ m) && xs.all (inB 0 (hiE row)))
  | non {x : V} {S : String} (h : TyB K H x S) (n : decide (S = "tuple") = false) : WV K m row H x false
theorem WV.same {m : Int} {row : List Int} {H H' : Hp} {x : V} {b : Bool} (h : WV K m row H x b) (s : Same H H') : WV K m row H' x b := by
  cases h with
  | tup h n ty => exact .tup (same_seqT s h) n fun y hy => (ty y hy).elim fun S t => ⟨S, TyB.same t s⟩
  | non h n => exact .non (TyB.same h s) n
def spAny (T : Txt K mg) : Sp := fun vs H Q _ => ∃ (p : Addr) (row : List Int) (t : Addr) (xs : List V), vs = [.ref p, .ref t] ∧ SkAt T H p row ∧ row.length ≤ 12 ∧ SqT K H t xs ∧ xs.length < 1000 ∧ (∀ y ∈ xs, ∃ S, TyB K H y S) ∧ ∀ H', Same H H' → Q (.bl (xs.all (inB 0 (hiE row)))) H'
theorem ok_is_any_word (T : Txt K mg) : FnOk P w K mg base CX0 4 T.is_any_word.a T.is_any_word.fd ["skin", "thing"] (spAny T) := by
  refine T.is_any_word.F.ok sc_is_any_word (fun vs H Q E h => ?_) (fun cdv A outer s H vs Q E hr h => ?_)
  · obtain ⟨p, row, t, xs, rfl, _⟩ := h
    rfl
  · obtain ⟨p, row, t, xs, rfl, hs, hl, h, n, ty, k⟩ := h
    have nd := sc_is_any_word.nd
    refine ⟨_, (pss_one (ps_ret (pe_and (pe_call (ok_is_tuple T) (hr.mono (by decide)) (by rfl) T.is_tuple.g T.is_tuple.k T.is_tuple.b .nil pass0 (pa_cons (pv 1) pa_nil)) (pe_one (pe_callB (cr_all rfl) (by rfl) T.zall (by decide +kernel) (pa_cons (pe_lc (own := [("letter", 2)]) (g := gName 2) rfl nd (pi_tup (pv 1)) (blkOk_by (own := [("letter", 2)]) (N := N_is_any_word) (sc := defScope s_is_any_word) (by decide +kernel)) (fun _ _ _ _ _ => pg_name (i := 2) nd rfl (Or.inl rfl)) (fun _ _ _ _ _ => pts_nil) (fun _ _ _ _ _ => (pe_call (ok_is_end T) (hr.mono (by decide)) (by rfl) T.is_end.g T.is_end.k T.is_end.b .nil pass0 (pa_cons (pv 0) (pa_cons (pv 2) pa_nil))))) pa_nil)))))), ?_⟩
    refine ⟨_, rfl, _, _, rfl, .tup h, _, rfl, iteT ?_⟩
    refine ⟨_, rfl, t, rfl, ⟨_, h⟩, fun D1 hD1 => lc_tup (K := K) (a := t) (xs := xs) (fun i H' => H' D1 = some (.lst (((xs.take i).map (inB 0 (hiE row))).map V.bl)) ∧ Same H H')
      ⟨upd_same, same_new hD1⟩ (fun i H' _ z => same_seqT z.2 h) ?_ ?_⟩
    · rintro i y H' hi ⟨h1, s2⟩
      have hil : i < xs.length := (List.getElem?_eq_some_iff.mp hi).1
      obtain ⟨S, ty'⟩ := ty y (List.mem_of_getElem? hi)
      refine ⟨rfl, yes_t ?_⟩
      refine ⟨_, rfl, _, rfl, p, row, y, S, rfl, hs.same s2, hl, TyB.same ty' s2, ?_⟩
      refine ⟨_, h1, ?_, ?_⟩
      · rw [List.length_map, List.length_map, List.length_take]
        exact small1000 (by omega)
      · refine ⟨?_, fun b o hb => ?_⟩
        · rw [upd_same, List.take_add_one, hi, List.map_append, List.map_append]
          rfl
        · rw [upd_ne (ne_of_none hb hD1)]
          exact s2 b o hb
    · rintro H' ⟨h1, s2⟩
      have e2 : xs.take xs.length = xs := List.take_length
      rw [e2] at h1
      refine ⟨D1, _, rfl, SqL.of h1, ?_⟩
      have e3 : (xs.map (inB 0 (hiE row))).all id = xs.all (inB 0 (hiE row)) := by rw [List.all_map]; rfl
      rw [e3]
      exact k H' s2
def spHas (T : Txt K mg) : Sp := fun vs H Q _ => ∃ (p : Addr) (row : List Int) (x : V) (m : Int) (b : Bool), vs = [.ref p, x, .int m] ∧ SkAt T H p row ∧ row.length ≤ 12 ∧ WV K m row H x b ∧ ∀ H', Same H H' → Q (.bl b) H'
theorem ok_has_letters (T : Txt K mg) : FnOk P w K mg base CX0 5 T.has_letters.a T.has_letters.fd ["skin", "thing", "most"] (spHas T) := by
  refine T.has_letters.F.ok sc_has_letters (fun vs H Q E h => ?_) (fun cdv A outer s H vs Q E hr h => ?_)
  · obtain ⟨p, row, x, m, b, rfl, _⟩ := h
    rfl
  · obtain ⟨p, row, x, m, b, rfl, hs, hl, hv, k⟩ := h
    have nd := sc_has_letters.nd
    refine ⟨_, (pss_one (ps_ret (pe_and (pe_call (ok_is_tuple T) (hr.mono (by decide)) (by rfl) T.is_tuple.g T.is_tuple.k T.is_tuple.b .nil pass0 (pa_cons (pv 1) pa_nil)) (pe_and (pe_cmpR op_le (pe_callB call_len_seq (by rfl) T.zlen (by decide +kernel) (pa_cons (pv 1) pa_nil)) (pv 2) (nomark _)) (pe_one (pe_call (ok_is_any_word T) (hr.mono (by decide)) (by rfl) T.is_any_word.g T.is_any_word.k T.is_any_word.b .nil pass0 (pa_cons (pv 0) (pa_cons (pv 1) pa_nil)))))))), ?_⟩
    cases hv with
    | non h n => 
      refine ⟨_, rfl, _, _, rfl, h, _, rfl, ?_⟩
      rw [n]
      exact iteF (k _ fun _ _ z => z)
    | @tup t xs h n ty =>
      refine ⟨_, rfl, _, _, rfl, .tup h, _, rfl, iteT ?_⟩
      refine ⟨_, rfl, t, _, rfl, .inr h, _, rfl, _, _, rfl, rfl, _, rfl, ?_⟩
      refine ite2 (fun c => ?_) (fun c => ?_)
      · rw [c, Bool.true_and] at k
        exact ⟨_, rfl, _, rfl, p, row, t, xs, rfl, hs, hl, h, n, ty, k⟩
      · have c' : decide ((xs.length : Int) ≤ m) = false := by simpa using c
        rw [c', Bool.false_and] at k
        exact k _ fun _ _ z => z
end
end Tt
set_option maxRecDepth 100000
set_option maxHeartbeats 4000000
namespace Tt
open PySem L2
section
variable {P : Program} {w : World} {K : PySem.W.Frag} {mg : Str → Option Value} {base : Heap}
def SkOr (T : Txt K mg) (v : V) (H : Hp) (E : XK) (k : Addr → List Int → Prop) : Prop := (SkV T H v false ∧ SkErr T H E) ∨ ∃ (p : Addr) (row : List Int), v = .ref p ∧ SkAt T H p row ∧ (row.length ≤ 12 ∧ row.length % 2 = 0) ∧ k p row
theorem word_wv {m : Int} {row : List Int} {H : Hp} {t : Addr} {ns : List Int} (hl : row.length % 2 = 0) (h : SqT K H t (ns.map V.int)) (n2 : ns.length ≤ 500) (hm : (ns.length : Int) ≤ m) (hb : Lt (row.length : Int) ns) : WV K m row H (.ref t) true := by
  have e : (decide (((ns.map V.int).length : Int) ≤ m) && (ns.map V.int).all (inB 0 (hiE row))) = true := by
    rw [List.length_map, decide_eq_true hm, Bool.true_and, List.all_eq_true]
    intro y hy
    obtain ⟨x, hx, rfl⟩ := List.mem_map.mp hy
    obtain ⟨h0, h1⟩ := hb x hx
    show (decide (0 ≤ x) && decide (x ≤ hiE row)) = true
    unfold hiE
    rw [Bool.and_eq_true]
    exact ⟨decide_eq_true h0, decide_eq_true (by omega)⟩
  rw [← e]
  refine .tup h (by rw [List.length_map]; omega) fun y hy => ?_
  obtain ⟨x, _, rfl⟩ := List.mem_map.mp hy
  exact ⟨_, .int x⟩
end
end Tt
set_option maxRecDepth 100000
set_option maxHeartbeats 4000000
namespace Tt
open PySem L2
section
variable {P : Program} {w : World} {K : PySem.W.Frag} {mg : Str → Option Value} {base : Heap}
theorem slT_gen {xs : List V} {a : Addr} {H : Hp} {Q : VK} {n : Nat} (h : SqT K H a xs) (q : ∀ b H', Same H H' → SqT K H' b (xs.take n) → Q (.ref b) H') : rSlA K (.ref a) none (some (n : Int)) H Q := by
  by_cases hn : n < xs.length
  · refine slT_to hn h fun p hp => q p _ (same_new hp) (SqT.of upd_same)
  · refine ⟨a, xs, rfl, h, fun _ => q a H (fun _ _ z => z) ?_, fun z => absurd ⟨rfl, ?_⟩ z⟩
    · rw [List.take_of_length_le (by omega)]
      exact h
    · rw [HT.sIx_nat]
      omega
theorem catA_gen {xs ys : List V} {a b : Addr} {H : Hp} {Q : VK} (ha : SqT K H a xs) (hb : SqT K H b ys) (hz : xs.length + ys.length ≤ sizeLine) (q : ∀ c H', Same H H' → SqT K H' c (xs ++ ys) → Q (.ref c) H') : rCatA K (.ref a) (.ref b) H Q := by
  refine ⟨a, b, xs, ys, rfl, rfl, ha, hb, hz, fun z => ?_, fun _ z => ?_, fun _ _ p hp => q p _ (same_new hp) (SqT.of upd_same)⟩
  · subst z
    exact q b H (fun _ _ z => z) hb
  · subst z
    exact q a H (fun _ _ z => z) (by rw [List.append_nil]; exact ha)
theorem slT_genD {xs : List V} {a : Addr} {H : Hp} {Q : VK} {n : Nat} (h : SqT K H a xs) (q : ∀ b H', Same H H' → SqT K H' b (xs.drop n) → Q (.ref b) H') : rSlA K (.ref a) (some (n : Int)) none H Q := by
  by_cases hx : 0 < xs.length
  · refine slT_from hx h (fun z => ?_) fun _ p hp => q p _ (same_new hp) (SqT.of upd_same)
    subst z
    exact q a H (fun _ _ z => z) (by rw [List.drop_zero]; exact h)
  · have e : xs = [] := List.length_eq_zero_iff.mp (by omega)
    subst e
    refine ⟨a, [], rfl, h, fun _ => q a H (fun _ _ z => z) (by rw [List.drop_nil]; exact h), fun z => absurd ⟨by rw [HT.sIx_nat]; simp, rfl⟩ z⟩
end
end Tt
set_option maxHeartbeats 1000000
namespace Wd
def strip (w : List Int) : List Int := if h : 2 ≤ w.length ∧ w.head? = w.getLast?.map mate then strip (w.drop 1).dropLast else w
termination_by w.length
decreasing_by
  rw [List.length_dropLast, List.length_drop]
  omega
theorem strip_yes {a : Int} {m : List Int} : strip (mate a :: (m ++ [a])) = strip m := by
  rw [strip]
  rw [dif_pos]
  · simp
  · refine ⟨by simp, ?_⟩
    have : (mate a :: (m ++ [a])).getLast? = some a := by simp [List.getLast?_cons]
    rw [this]
    rfl
theorem strip_no {w : List Int} (h : w.head? ≠ w.getLast?.map mate) : strip w = w := by
  rw [strip, dif_neg]
  exact fun z => h z.2
theorem strip_short {w : List Int} (h : w.length < 2) : strip w = w := by
  rw [strip, dif_neg]
  exact fun z => by omega
def core (w : List Int) : List Int := strip (freed w)
def Turn (a b : List Int) : Prop := ∃ u v, a = u ++ v ∧ b = v ++ u
theorem Turn.refl (a : List Int) : Turn a a := ⟨[], a, rfl, by simp⟩
theorem Turn.symm {a b : List Int} (h : Turn a b) : Turn b a := by
  obtain ⟨u, v, h1, h2⟩ := h
  exact ⟨v, u, h2, h1⟩
theorem app_split {u v p q : List Int} (h : u ++ v = p ++ q) : (∃ m, p = u ++ m ∧ v = m ++ q) ∨ ∃ m, u = p ++ m ∧ q = m ++ v := by
  rcases List.append_eq_append_iff.mp h with ⟨m, h1, h2⟩ | ⟨m, h1, h2⟩
  · exact .inl ⟨m, h1, h2⟩
  · exact .inr ⟨m, h1, h2⟩
theorem Turn.trans {a b c : List Int} (h : Turn a b) (k : Turn b c) : Turn a c := by
  obtain ⟨u, v, rfl, rfl⟩ := h
  obtain ⟨p, q, h1, rfl⟩ := k
  rcases app_split h1 with ⟨m, rfl, rfl⟩ | ⟨m, rfl, rfl⟩
  · exact ⟨m, q ++ v, by simp, by simp⟩
  · exact ⟨u ++ p, m, by simp, by simp⟩
theorem freed_head {a : Int} {r : List Int} (h : Rd r) : freed (a :: r) = if r.head? = some (mate a) then r.drop 1 else a :: r := by
  split
  · rename_i hh
    cases r with
    | nil => simp at hh
    | cons b r' =>
      have hb : b = mate a := by simpa using hh
      subst hb
      have h1 := freed_cut [] r' (mate a)
      rw [mate_mate] at h1
      simp only [List.nil_append] at h1
      rw [h1]
      simp only [List.drop_succ_cons, List.drop_zero]
      refine freed_of_rd r' fun i x y hx hy => h (i + 1) x y ?_ ?_
      · simpa using hx
      · simpa using hy
  · rename_i hh
    refine freed_of_rd _ fun i x y hx hy => ?_
    cases i with
    | zero =>
      have ex : a = x := by simpa using hx
      subst ex
      cases r with
      | nil => simp at hy
      | cons b r' =>
        have ey : b = y := by simpa using hy
        subst ey
        intro z
        exact hh (by simp [z])
    | succ i => exact h i x y (by simpa using hx) (by simpa using hy)
theorem last_snoc {r : List Int} {b : Int} (h : r.getLast? = some b) : r.dropLast ++ [b] = r := snoc_of_last h
theorem rd_sub {u m v : List Int} (h : Rd (u ++ m ++ v)) : Rd m := fun i x y hx hy => by
  refine h (u.length + i) x y ?_ ?_
  · rw [List.append_assoc, List.getElem?_append_right (by omega)]
    have e : u.length + i - u.length = i := by omega
    rw [e, List.getElem?_append_left (List.getElem?_eq_some_iff.mp hx).1]
    exact hx
  · rw [List.append_assoc, List.getElem?_append_right (by omega)]
    have e : u.length + i + 1 - u.length = i + 1 := by omega
    rw [e, List.getElem?_append_left (List.getElem?_eq_some_iff.mp hy).1]
    exact hy
theorem rd_two {u v : List Int} {x y : Int} (h : Rd (u ++ [x, y] ++ v)) : y ≠ mate x := rd_sub h 0 x y rfl rfl
theorem core_step (a : Int) (w : List Int) : Turn (core (a :: w)) (core (w ++ [a])) := by
  have e1 : freed (a :: w) = freed (a :: freed w) := by
    have h := freed_app [a] w
    have h2 := freed_app [a] (freed w)
    rw [freed_freed] at h2
    exact h.trans h2.symm
  have hr : Rd (freed w) := rd_freed w
  unfold core
  rw [freed_snoc, e1, freed_head hr]
  generalize freed w = r at hr
  unfold push
  by_cases hd : r.head? = some (mate a) <;> by_cases tl : r.getLast? = some (mate a)
  · rw [if_pos hd, if_pos tl]
    cases r with
    | nil => exact Turn.refl _
    | cons b r1 =>
      have hb : b = mate a := by simpa using hd
      subst hb
      rw [List.drop_succ_cons, List.drop_zero]
      by_cases h1 : r1 = []
      · subst h1
        exact Turn.refl _
      · have t1 : r1.getLast? = some (mate a) := by
          rw [List.getLast?_cons] at tl
          cases h2 : r1.getLast? with
          | none => exact absurd (List.getLast?_eq_none_iff.mp h2) h1
          | some z =>
            rw [h2] at tl
            exact tl
        have e := last_snoc t1
        generalize r1.dropLast = m at e
        subst e
        have e2 : (mate a :: (m ++ [mate a])).dropLast = mate a :: m := by
          rw [← List.cons_append, List.dropLast_concat]
        rw [e2]
        by_cases h2 : m = []
        · subst h2
          exact Turn.refl _
        · have n1 : (m ++ [mate a]).head? ≠ (m ++ [mate a]).getLast?.map mate := by
            rw [List.getLast?_append]
            cases m with
            | nil => exact absurd rfl h2
            | cons x m' =>
              have := rd_two (u := []) (v := m' ++ [mate a]) (x := mate a) (y := x) (by simpa using hr)
              simp [mate_mate] at this ⊢
              exact this
          have n2 : (mate a :: m).head? ≠ (mate a :: m).getLast?.map mate := by
            cases h3 : m.getLast? with
            | none => exact absurd (List.getLast?_eq_none_iff.mp h3) h2
            | some z =>
              rw [List.getLast?_cons, h3]
              have e3 := last_snoc h3
              have := rd_two (u := mate a :: m.dropLast) (v := []) (x := z) (y := mate a) (by
                have e4 : mate a :: m.dropLast ++ [z, mate a] ++ [] = mate a :: (m ++ [mate a]) := by
                  rw [← e3]
                  simp
                rw [e4]
                exact hr)
              simp only [List.head?_cons, Option.getD_some, Option.map_some]
              exact fun z' => this (Option.some.inj z')
          rw [strip_no n1, strip_no n2]
          exact ⟨m, [mate a], rfl, rfl⟩
  · rw [if_pos hd, if_neg tl]
    cases r with
    | nil => simp at hd
    | cons b r1 =>
      have hb : b = mate a := by simpa using hd
      subst hb
      rw [List.drop_succ_cons, List.drop_zero, List.cons_append, strip_yes]
      exact Turn.refl _
  · rw [if_neg hd, if_pos tl]
    have e := last_snoc tl
    generalize r.dropLast = m at e
    subst e
    have h := strip_yes (a := mate a) (m := m)
    rw [mate_mate] at h
    rw [h]
    exact Turn.refl _
  · rw [if_neg hd, if_neg tl]
    cases r with
    | nil => exact Turn.refl _
    | cons b r1 =>
      have n1 : (a :: b :: r1).head? ≠ (a :: b :: r1).getLast?.map mate := by
        rw [List.getLast?_cons]
        cases h3 : (b :: r1).getLast? with
        | none => exact absurd (List.getLast?_eq_none_iff.mp h3) (by simp)
        | some z =>
          rw [h3] at tl
          simp only [List.head?_cons, Option.getD_some, Option.map_some]
          exact fun q => tl (by rw [Option.some.inj q, mate_mate])
      have n2 : (b :: r1 ++ [a]).head? ≠ (b :: r1 ++ [a]).getLast?.map mate := by
        rw [List.getLast?_append]
        simp at hd ⊢
        exact hd
      rw [strip_no n1, strip_no n2]
      exact ⟨[a], b :: r1, rfl, rfl⟩
theorem core_turn : ∀ u w : List Int, Turn (core (u ++ w)) (core (w ++ u))
  | [], w => by
    rw [List.append_nil]
    exact Turn.refl _
  | a :: u, w => by
    have h1 := core_step a (u ++ w)
    have h2 := core_turn u (w ++ [a])
    have e1 : (u ++ w) ++ [a] = u ++ (w ++ [a]) := by simp
    have e2 : (w ++ [a]) ++ u = w ++ (a :: u) := by simp
    rw [e1] at h1
    rw [e2] at h2
    exact h1.trans h2
theorem undo_undo (u : List Int) : undo (undo u) = u := by
  unfold undo
  rw [← List.map_reverse, List.reverse_reverse, List.map_map]
  have : mate ∘ mate = id := by
    funext x
    exact mate_mate x
  rw [this, List.map_id]
theorem core_freed {a b : List Int} (h : freed a = freed b) : core a = core b := by
  unfold core
  rw [h]
theorem core_conj (u w : List Int) : Turn (core (u ++ w ++ undo u)) (core w) := by
  have h := core_turn u (w ++ undo u)
  rw [← List.append_assoc] at h
  refine h.trans ?_
  have e : freed (w ++ undo u ++ u) = freed w := by
    rw [List.append_assoc, freed_app]
    have h2 := freed_undo (undo u)
    rw [undo_undo] at h2
    rw [h2, List.append_nil, freed_freed]
  rw [core_freed e]
  exact Turn.refl _
theorem core_pair (u v : List Int) (b : Int) : core (u ++ b :: mate b :: v) = core (u ++ v) := by
  refine core_freed ?_
  have h := freed_cut u v (mate b)
  rw [mate_mate] at h
  exact h
def mid (w : List Int) (c : Nat) : List Int := (w.drop c).take (w.length - 2 * c)
theorem mid_zero (w : List Int) : mid w 0 = w := by
  unfold mid
  rw [List.drop_zero, Nat.mul_zero, Nat.sub_zero, List.take_length]
theorem mid_step {w : List Int} {c : Nat} {a b : Int} (h : 2 * c + 2 ≤ w.length) (ha : w[c]? = some a) (hb : w[w.length - 1 - c]? = some b) : mid w c = a :: (mid w (c + 1) ++ [b]) := by
  unfold mid
  have e1 : w.drop c = a :: w.drop (c + 1) := by
    have hc : c < w.length := by omega
    rw [List.drop_eq_getElem_cons hc]
    rw [List.getElem?_eq_getElem hc] at ha
    rw [Option.some.inj ha]
  have e2 : w.length - 2 * c = (w.length - 2 * (c + 1) + 1) + 1 := by omega
  rw [e1, e2, List.take_succ_cons, List.take_add_one]
  have e3 : (w.drop (c + 1))[w.length - 2 * (c + 1)]? = some b := by
    rw [List.getElem?_drop]
    have : c + 1 + (w.length - 2 * (c + 1)) = w.length - 1 - c := by omega
    rw [this]
    exact hb
  rw [e3]
  rfl
theorem mid_yes {w : List Int} {c : Nat} {a b : Int} (h : 2 * c + 2 ≤ w.length) (ha : w[c]? = some a) (hb : w[w.length - 1 - c]? = some b) (e : a = mate b) : strip (mid w c) = strip (mid w (c + 1)) := by
  rw [mid_step h ha hb, e, strip_yes]
theorem mid_no {w : List Int} {c : Nat} {a b : Int} (h : 2 * c + 2 ≤ w.length) (ha : w[c]? = some a) (hb : w[w.length - 1 - c]? = some b) (e : a ≠ mate b) : strip (mid w c) = mid w c := by
  refine strip_no ?_
  rw [mid_step h ha hb]
  have : (a :: (mid w (c + 1) ++ [b])).getLast? = some b := by simp [List.getLast?_cons]
  rw [this]
  simpa using e
theorem mid_short {w : List Int} {c : Nat} (h : w.length < 2 * c + 2) : strip (mid w c) = mid w c := by
  refine strip_short ?_
  unfold mid
  rw [List.length_take, List.length_drop]
  omega
theorem mid_mem {w : List Int} {c : Nat} {x : Int} (h : x ∈ mid w c) : x ∈ w := List.mem_of_mem_drop (List.mem_of_mem_take h)
theorem mid_len (w : List Int) (c : Nat) : (mid w c).length ≤ w.length := by
  unfold mid
  rw [List.length_take, List.length_drop]
  omega
end Wd
set_option maxRecDepth 100000
set_option maxHeartbeats 4000000
namespace Tt
open PySem L2
section
variable {P : Program} {w : World} {K : PySem.W.Frag} {mg : Str → Option Value} {base : Heap}
def turnAt (ns : List Int) (i : Nat) : List Int := ns.drop i ++ ns.take i
def turns (ns : List Int) : List (List Int) := (List.range ns.length).map (turnAt ns)
def minR (r0 : List Int) (rs : List (List Int)) : List Int := rs.foldl (fun a y => if PySem.W.dataLt (rowD y) (rowD a) then y else a) r0
theorem minR_D : ∀ (rs : List (List Int)) (r0 : List Int), PySem.W.minD (rowD r0) (rs.map rowD) = rowD (minR r0 rs)
  | [], _ => rfl
  | y :: rs, r0 => by
    show PySem.W.minD (if PySem.W.dataLt (rowD y) (rowD r0) then rowD y else rowD r0) (rs.map rowD) = rowD (minR (if PySem.W.dataLt (rowD y) (rowD r0) then y else r0) rs)
    by_cases h : PySem.W.dataLt (rowD y) (rowD r0) = true
    · rw [if_pos h, if_pos h]
      exact minR_D rs y
    · rw [if_neg h, if_neg h]
      exact minR_D rs r0
def leastT (ns : List Int) : List Int := match turns ns with
  | [] => []
  | r0 :: rs => minR r0 rs
theorem turns_len (ns : List Int) : (turns ns).length = ns.length := by unfold turns; rw [List.length_map, List.length_range]
theorem turns_get {ns : List Int} {i : Nat} (h : i < ns.length) : (turns ns)[i]? = some (turnAt ns i) := by
  unfold turns
  rw [List.getElem?_map, List.getElem?_range h]
  rfl
theorem pair_snoc {α β : Type} {F : α → β → Prop} : ∀ {l : List α} {k : List β} {a : α} {b : β}, Paired F l k → F a b → Paired F (l ++ [a]) (k ++ [b])
  | _, _, _, _, .nil, r => .cons r .nil
  | _, _, _, _, .cons r t, q => .cons r (pair_snoc t q)
theorem pair_mono {α β : Type} {F G : α → β → Prop} (f : ∀ a b, F a b → G a b) : ∀ {l : List α} {k : List β}, Paired F l k → Paired G l k
  | _, _, .nil => .nil
  | _, _, .cons r t => .cons (f _ _ r) (pair_mono f t)
theorem sqT_put {H : Hp} {p l : Addr} {xs ys : List V} {o : HO} (h : SqT K H p xs) (e : H l = some (.lst ys)) : SqT K (upd H l o) p xs := by
  rcases h with (h | ⟨ob, h⟩) | h
  · exact .inl (.inl (by rw [upd_ne (ne_of h e (fun z => nomatch z))]; exact h))
  · exact .inl (.inr ⟨ob, by rw [upd_ne (ne_of h e (fun z => nomatch z))]; exact h⟩)
  · exact .inr h
def spLeast (K : PySem.W.Frag) : Sp := fun vs H Q _ => ∃ (p : Addr) (ns : List Int), vs = [.ref p] ∧ SqT K H p (ns.map V.int) ∧ ns ≠ [] ∧ ns.length ≤ 400 ∧
  ∀ q H', Same H H' → SqT K H' q ((leastT ns).map V.int) → Q (.ref q) H'
end
end Tt
set_option maxRecDepth 100000
set_option maxHeartbeats 4000000
namespace Tt
open PySem L2
theorem row_lt (a b : List Int) : PySem.W.dataLt (rowD a) (rowD b) = decide (a < b) := by
  unfold rowD
  rw [PySem.W.dataLt_tuple]
  exact PySem.W.dataLt_ints a b
theorem minR_mem : ∀ (rs : List (List Int)) (r0 : List Int), minR r0 rs ∈ r0 :: rs
  | [], _ => List.mem_singleton.mpr rfl
  | y :: rs, r0 => by
    have h := minR_mem rs (if PySem.W.dataLt (rowD y) (rowD r0) then y else r0)
    show minR (if PySem.W.dataLt (rowD y) (rowD r0) then y else r0) rs ∈ _
    rcases List.mem_cons.mp h with h | h
    · rw [h]
      split
      · exact List.mem_cons_of_mem _ List.mem_cons_self
      · exact List.mem_cons_self
    · exact List.mem_cons_of_mem _ (List.mem_cons_of_mem _ h)
theorem minR_le : ∀ (rs : List (List Int)) (r0 y : List Int), y ∈ r0 :: rs → ¬ y < minR r0 rs
  | [], r0, y, h => by
    rw [List.mem_singleton.mp h]
    exact List.lt_irrefl _
  | z :: rs, r0, y, h => by
    show ¬ y < minR (if PySem.W.dataLt (rowD z) (rowD r0) then z else r0) rs
    have ih := minR_le rs (if PySem.W.dataLt (rowD z) (rowD r0) then z else r0)
    rw [row_lt] at ih ⊢
    by_cases c : z < r0
    · simp only [c, decide_true, if_true] at ih ⊢
      rcases List.mem_cons.mp h with rfl | h
      · exact fun q => ih z List.mem_cons_self (List.lt_trans c q)
      · rcases List.mem_cons.mp h with rfl | h
        · exact ih _ List.mem_cons_self
        · exact ih _ (List.mem_cons_of_mem _ h)
    · simp only [c, decide_false] at ih ⊢
      rcases List.mem_cons.mp h with rfl | h
      · exact ih _ List.mem_cons_self
      · rcases List.mem_cons.mp h with rfl | h
        · intro q
          have h1 := ih r0 List.mem_cons_self
          exact h1 (by
            rcases Classical.em (r0 < y) with k | k
            · exact List.lt_trans k q
            · have : r0 = y := List.le_antisymm (as := r0) (bs := y) (by simpa using c) (by simpa using k)
              subst this
              exact q)
        · exact ih _ (List.mem_cons_of_mem _ h)
theorem turnAt_turn {ns : List Int} (i : Nat) : Wd.Turn ns (turnAt ns i) := ⟨ns.take i, ns.drop i, (List.take_append_drop i ns).symm, rfl⟩
theorem mem_turns {ns t : List Int} (hne : ns ≠ []) : t ∈ turns ns ↔ Wd.Turn ns t := by
  constructor
  · intro h
    unfold turns at h
    obtain ⟨i, _, rfl⟩ := List.mem_map.mp h
    exact turnAt_turn i
  · rintro ⟨u, v, rfl, rfl⟩
    unfold turns
    by_cases hv : v = []
    · subst hv
      refine List.mem_map.mpr ⟨0, List.mem_range.mpr ?_, ?_⟩
      · exact List.length_pos_iff.mpr hne
      · unfold turnAt
        simp
    · refine List.mem_map.mpr ⟨u.length, List.mem_range.mpr ?_, ?_⟩
      · rw [List.length_append]
        have := List.length_pos_iff.mpr hv
        omega
      · unfold turnAt
        simp
theorem leastT_facts {ns : List Int} (hne : ns ≠ []) : leastT ns ∈ turns ns ∧ ∀ t ∈ turns ns, ¬ t < leastT ns := by
  unfold leastT
  cases ht : turns ns with
  | nil =>
    have := turns_len ns
    rw [ht] at this
    exact absurd (List.length_eq_zero_iff.mp this.symm) hne
  | cons r0 rs => exact ⟨minR_mem rs r0, fun t h => minR_le rs r0 t h⟩
theorem leastT_turn {ns : List Int} (hne : ns ≠ []) : Wd.Turn ns (leastT ns) := (mem_turns hne).mp (leastT_facts hne).1
theorem turn_nil {a b : List Int} (h : Wd.Turn a b) : a = [] ↔ b = [] := by
  obtain ⟨u, v, rfl, rfl⟩ := h
  simp [and_comm]
theorem leastT_eq {a b : List Int} (h : Wd.Turn a b) : leastT a = leastT b := by
  by_cases ha : a = []
  · have hb := (turn_nil h).mp ha
    rw [ha, hb]
  · have hb : b ≠ [] := fun z => ha ((turn_nil h).mpr z)
    obtain ⟨a1, a2⟩ := leastT_facts ha
    obtain ⟨b1, b2⟩ := leastT_facts hb
    have m1 : leastT b ∈ turns a := (mem_turns ha).mpr (h.trans ((mem_turns hb).mp b1))
    have m2 : leastT a ∈ turns b := (mem_turns hb).mpr (h.symm.trans ((mem_turns ha).mp a1))
    have l1 := a2 _ m1
    have l2 := b2 _ m2
    exact List.le_antisymm (as := leastT a) (bs := leastT b) (by simpa using l1) (by simpa using l2)
theorem turn_of_leastT {a b : List Int} (h : leastT a = leastT b) : Wd.Turn a b := by
  by_cases ha : a = [] <;> by_cases hb : b = []
  · rw [ha, hb]
    exact Wd.Turn.refl _
  · have h2 := (turn_nil (leastT_turn hb))
    rw [← h, ha] at h2
    exact absurd (h2.mpr rfl) hb
  · have h2 := (turn_nil (leastT_turn ha))
    rw [h, hb] at h2
    exact absurd (h2.mpr rfl) ha
  · have h1 := leastT_turn ha
    rw [h] at h1
    exact h1.trans (leastT_turn hb).symm
def closedT (ns : List Int) : List Int := leastT (Wd.core ns)
theorem leastT_nil : leastT [] = [] := rfl
theorem closedT_freed {a b : List Int} (h : Wd.Turn (Wd.core a) (Wd.core b)) : closedT a = closedT b := leastT_eq h
end Tt
set_option maxRecDepth 100000
set_option maxHeartbeats 4000000
namespace Tt
open PySem L2
theorem turnAt_lenL (ns : List Int) (i : Nat) : (turnAt ns i).length = ns.length := by
  unfold turnAt
  rw [List.length_append, List.length_drop, List.length_take]
  omega
theorem turnAt_mem {ns : List Int} {i : Nat} (h : i < ns.length) : turnAt ns i ∈ turns ns := List.mem_map.mpr ⟨i, List.mem_range.mpr h, rfl⟩
theorem turnAt_add {ns : List Int} {i t : Nat} (h : i + t ≤ ns.length) : turnAt (turnAt ns i) t = turnAt ns (i + t) := by
  unfold turnAt
  have e1 : (ns.drop i ++ ns.take i).drop t = ns.drop (i + t) ++ ns.take i := by
    rw [List.drop_append_of_le_length (by rw [List.length_drop]; omega), List.drop_drop]
  have e2 : (ns.drop i ++ ns.take i).take t = (ns.drop i).take t := List.take_append_of_le_length (by rw [List.length_drop]; omega)
  rw [e1, e2, List.append_assoc, ← List.take_add]
theorem turnAt_wrap {ns : List Int} {i t : Nat} (hi : i ≤ ns.length) (ht : t ≤ ns.length) (h : ns.length ≤ i + t) : turnAt (turnAt ns i) t = turnAt ns (i + t - ns.length) := by
  unfold turnAt
  have l1 : (ns.drop i).length = ns.length - i := List.length_drop
  have e1 : (ns.drop i ++ ns.take i).drop t = (ns.take i).drop (i + t - ns.length) := by
    rw [List.drop_append, List.drop_eq_nil_of_le (by omega), List.nil_append, l1]
    congr 1
    omega
  have e2 : (ns.drop i ++ ns.take i).take t = ns.drop i ++ (ns.take i).take (i + t - ns.length) := by
    rw [List.take_append, List.take_of_length_le (by omega), l1]
    congr 2
    omega
  have e3 : (ns.take i).take (i + t - ns.length) = ns.take (i + t - ns.length) := by
    rw [List.take_take]
    congr 1
    omega
  have e4 : (ns.take i).drop (i + t - ns.length) ++ ns.drop i = ns.drop (i + t - ns.length) := by
    have h2 : ns.drop (i + t - ns.length) = (ns.take i ++ ns.drop i).drop (i + t - ns.length) := by rw [List.take_append_drop]
    rw [h2, List.drop_append_of_le_length (by rw [List.length_take]; omega)]
  rw [e1, e2, e3, ← List.append_assoc, e4]
theorem turnAt_turn_mem {ns : List Int} {i t : Nat} (hi : i < ns.length) (ht : t < ns.length) : turnAt (turnAt ns i) t ∈ turns ns := by
  by_cases h : i + t < ns.length
  · rw [turnAt_add (by omega)]
    exact turnAt_mem h
  · rw [turnAt_wrap (by omega) (by omega) (by omega)]
    exact turnAt_mem (by omega)
theorem turnAt_get {ns : List Int} {i k : Nat} (hi : i < ns.length) (hk : k < ns.length) : (turnAt ns i)[k]? = ns[(i + k) % ns.length]? := by
  unfold turnAt
  by_cases h : i + k < ns.length
  · rw [List.getElem?_append_left (by rw [List.length_drop]; omega), List.getElem?_drop, Nat.mod_eq_of_lt h]
  · rw [List.getElem?_append_right (by rw [List.length_drop]; omega), List.length_drop, List.getElem?_take, if_pos (by omega)]
    have e : (i + k) % ns.length = i + k - ns.length := by
      rw [Nat.mod_eq_sub_mod (by omega), Nat.mod_eq_of_lt (by omega)]
    rw [e]
    congr 1
    omega
theorem lt_ahead {x y : Int} (h : y < x) : ∀ (p a b : List Int), p ++ y :: b < p ++ x :: a
  | [], _, _ => List.cons_lt_cons_iff.mpr (.inl h)
  | c :: p, a, b => List.cons_lt_cons_iff.mpr (.inr ⟨rfl, lt_ahead h p a b⟩)
theorem cut_at {A : List Int} {k : Nat} {x : Int} (h : A[k]? = some x) : A = A.take k ++ x :: A.drop (k + 1) := by
  obtain ⟨hk, e⟩ := List.getElem?_eq_some_iff.mp h
  rw [← e, ← List.drop_eq_getElem_cons hk, List.take_append_drop]
theorem turn_lt {A B : List Int} {k t : Nat} {x y : Int} (ht : t ≤ k) (hp : A.take k = B.take k) (hx : A[k]? = some x) (hy : B[k]? = some y) (h : y < x) : turnAt B t < turnAt A t := by
  have ka := (List.getElem?_eq_some_iff.mp hx).1
  have kb := (List.getElem?_eq_some_iff.mp hy).1
  have eA := cut_at hx
  have eB := cut_at hy
  rw [← hp] at eB
  have lp : (A.take k).length = k := by rw [List.length_take]; omega
  generalize A.take k = p at eA eB lp
  generalize A.drop (k + 1) = a at eA
  generalize B.drop (k + 1) = b at eB
  subst eA
  subst eB
  unfold turnAt
  rw [List.drop_append_of_le_length (by omega), List.drop_append_of_le_length (by omega), List.take_append_of_le_length (by omega), List.take_append_of_le_length (by omega), List.append_assoc, List.append_assoc]
  exact lt_ahead h _ _ _
def NoL (ns : List Int) (p : Nat) : Prop := ∃ t ∈ turns ns, t < turnAt ns p
theorem noL_of {ns : List Int} {i j k t : Nat} {x y : Int} (hi : i + t < ns.length) (hj : j < ns.length) (hk : k < ns.length) (ht : t ≤ k) (hp : (turnAt ns i).take k = (turnAt ns j).take k)
    (hx : (turnAt ns i)[k]? = some x) (hy : (turnAt ns j)[k]? = some y) (h : y < x) : NoL ns (i + t) := by
  refine ⟨_, turnAt_turn_mem hj (t := t) (by omega), ?_⟩
  rw [← turnAt_add (by omega)]
  exact turn_lt ht hp hx hy h
def Beaten (ns : List Int) (i j : Nat) : Prop := i ≠ j ∧ ∀ p, p < ns.length → p < max i j → p ≠ min i j → NoL ns p
theorem Beaten.symm {ns : List Int} {i j : Nat} (h : Beaten ns i j) : Beaten ns j i := ⟨fun e => h.1 e.symm, fun p h1 h2 h3 => h.2 p h1 (by omega) (by omega)⟩
theorem Beaten.step {ns : List Int} {i j k : Nat} (h : Beaten ns i j) (n : ∀ t, t ≤ k → i + t < ns.length → NoL ns (i + t)) : (i + k + 1 ≠ j → Beaten ns (i + k + 1) j) ∧ (i + k + 1 = j → Beaten ns j (j + 1)) := by
  have own : ∀ p, p < ns.length → i ≤ p → p ≤ i + k → NoL ns p := fun p h1 h2 h3 => by
    have := n (p - i) (by omega) (by omega)
    have e : i + (p - i) = p := by omega
    rw [e] at this
    exact this
  have hh := h.1
  refine ⟨fun e => ⟨e, fun p h1 h2 h3 => ?_⟩, fun e => ⟨by omega, fun p h1 h2 h3 => ?_⟩⟩
  · by_cases c : i ≤ p ∧ p ≤ i + k
    · exact own p h1 c.1 c.2
    · exact h.2 p h1 (by omega) (by omega)
  · by_cases c : i ≤ p ∧ p ≤ i + k
    · exact own p h1 c.1 c.2
    · exact h.2 p h1 (by omega) (by omega)
theorem least_far {ns L : List Int} {i j : Nat} (b : Beaten ns i j) (hf : ns.length ≤ max i j) (hL : L ∈ turns ns) (hm : ∀ t ∈ turns ns, ¬ t < L) : turnAt ns (min i j) = L ∧ min i j < ns.length := by
  obtain ⟨p, hp, rfl⟩ := List.mem_map.mp hL
  have hp' := List.mem_range.mp hp
  have e : p = min i j := Classical.byContradiction fun z => by
    obtain ⟨t, h1, h2⟩ := b.2 p hp' (by omega) z
    exact hm t h1 h2
  exact ⟨by rw [e], by omega⟩
theorem least_like {ns L : List Int} {i j : Nat} (b : Beaten ns i j) (hi : i < ns.length) (hj : j < ns.length) (ha : turnAt ns i = turnAt ns j) (hL : L ∈ turns ns) (hm : ∀ t ∈ turns ns, ¬ t < L) : turnAt ns (min i j) = L := by
  have hh := b.1
  have main : ∀ p, p < ns.length → turnAt ns p = L → turnAt ns (min i j) = L := fun p => by
    induction p using Nat.strongRecOn with
    | ind p ih =>
      intro h1 h2
      by_cases c : p < max i j
      · have e : p = min i j := Classical.byContradiction fun z => by
          obtain ⟨t, q1, q2⟩ := b.2 p h1 c z
          rw [h2] at q2
          exact hm t q1 q2
        rw [← e]
        exact h2
      · have e1 : turnAt ns (max i j) = turnAt ns (min i j) := by
          by_cases c2 : i < j
          · rw [Nat.max_eq_right (by omega), Nat.min_eq_left (by omega), ha]
          · rw [Nat.max_eq_left (by omega), Nat.min_eq_right (by omega), ha]
        have e2 := turnAt_add (ns := ns) (i := max i j) (t := p - max i j) (by omega)
        have e3 : max i j + (p - max i j) = p := by omega
        rw [e3, e1, turnAt_add (by omega)] at e2
        exact ih (min i j + (p - max i j)) (by omega) (by omega) (e2.trans h2)
  obtain ⟨p, hp, e⟩ := List.mem_map.mp hL
  exact main p (List.mem_range.mp hp) e
theorem take_more {A B : List Int} {k : Nat} {x : Int} (hp : A.take k = B.take k) (hx : A[k]? = some x) (hy : B[k]? = some x) : A.take (k + 1) = B.take (k + 1) := by
  rw [List.take_add_one, List.take_add_one, hp, hx, hy]
theorem leastT_far {ns : List Int} {i j : Nat} (hne : ns ≠ []) (b : Beaten ns i j) (hf : ns.length ≤ max i j) : turnAt ns (min i j) = leastT ns ∧ min i j < ns.length :=
  least_far b hf (leastT_facts hne).1 (leastT_facts hne).2
theorem leastT_like {ns : List Int} {i j : Nat} (hne : ns ≠ []) (b : Beaten ns i j) (hi : i < ns.length) (hj : j < ns.length) (ha : (turnAt ns i).take ns.length = (turnAt ns j).take ns.length) : turnAt ns (min i j) = leastT ns := by
  rw [List.take_of_length_le (by rw [turnAt_lenL]; exact Nat.le_refl _), List.take_of_length_le (by rw [turnAt_lenL]; exact Nat.le_refl _)] at ha
  exact least_like b hi hj ha (leastT_facts hne).1 (leastT_facts hne).2
theorem turn_letter {ns : List Int} {i k : Nat} (hi : i < ns.length) (hk : k < ns.length) : ∃ x, ns[(i + k) % ns.length]? = some x ∧ (turnAt ns i)[k]? = some x := by
  have h : (i + k) % ns.length < ns.length := Nat.mod_lt _ (by omega)
  refine ⟨_, List.getElem?_eq_getElem h, ?_⟩
  rw [turnAt_get hi hk]
  exact List.getElem?_eq_getElem h
theorem beaten_zero (ns : List Int) : Beaten ns 0 1 := ⟨by omega, fun p _ h2 h3 => absurd h2 (by omega)⟩
end Tt
set_option maxRecDepth 100000
set_option maxHeartbeats 4000000
namespace Tt
open PySem L2
section
variable {P : Program} {w : World} {K : PySem.W.Frag} {mg : Str → Option Value} {base : Heap}
theorem while_by3 {c : TT} {tb : TS} {D : Ends} {σ : L2.St} {H : Hp} (Pv : L2.St → Hp → Prop) (μ : L2.St → Hp → Nat) (h0 : Pv σ H)
    (hs : ∀ σ H, Pv σ H → c σ H fun b H1 => if b = true then ∃ N : L2.St → Hp → Prop, (∀ σ' H', N σ' H' → ∃ m', m' < μ σ H ∧ (m' = μ σ' H' ∧ Pv σ' H')) ∧ tb { D with nx := N, ct := N, bk := D.nx } σ H1 else D.nx σ H1) : tWhile c tb D σ H := by
  refine ⟨fun m σ H => m = μ σ H ∧ Pv σ H, ⟨_, rfl, h0⟩, ?_⟩
  rintro m σ H ⟨rfl, p⟩
  exact hs σ H p
theorem let_one {J C G : Prop} (main : (J → C) → G) (rest : J → C) : G := main rest
def readTo (n : Nat) : L2.St → Hp → Nat := fun σ _ => match σ[2]?, σ[3]?, σ[4]? with
  | some (some (V.int i)), some (some (V.int j)), some (some (V.int k)) => 3 * n - (i.toNat + j.toNat + k.toNat)
  | _, _, _ => 0
theorem ok_least_turn (T : Txt K mg) : FnOk P w K mg base CX0 2 T.least_turn.a T.least_turn.fd ["word"] (spLeast K) := by
  refine T.least_turn.F.ok sc_least_turn (fun vs H Q E h => ?_) (fun cdv A outer s H vs Q E hr h => ?_)
  · obtain ⟨p, ns, rfl, _⟩ := h
    rfl
  · obtain ⟨p, ns, rfl, hp, hne, hl, k⟩ := h
    have nd := sc_least_turn.nd
    refine ⟨_, (pss_cons (ps_set (i := 1) nd rfl (Or.inl rfl) (pe_callB call_len_seq (by rfl) T.zlen (by decide +kernel) (pa_cons (pv 0) pa_nil)))
    (pss_cons (ps_asg (pe_tup (pa_cons pe_int (pa_cons pe_int (pa_cons pe_int pa_nil)))) (pg_tup rfl (pgs_cons (pg_name (i := 2) nd rfl (Or.inl rfl)) (pgs_cons (pg_name (i := 3) nd rfl (Or.inl rfl)) (pgs_cons (pg_name (i := 4) nd rfl (Or.inl rfl)) pgs_nil)))))
    (pss_cons (ps_while PassesOwn.never (PW.pt (pw_and (pt_cmpR op_lt (pv 2) (pv 1) (nomark _)) (pw_and (pt_cmpR op_lt (pv 3) (pv 1) (nomark _)) (pw_and1 (pt_cmpR op_lt (pv 4) (pv 1) (nomark _))))))
      (pss_cons (ps_par (i := 5) (j := 6) rfl nd rfl rfl (by decide) rfl rfl (pa_cons (pe_ix ix_tup (pv 0) (pe_op op_mod (pe_op op_add (pv 2) (pv 4)) (pv 1)) (fun _ _ => rfl)) (pa_cons (pe_ix ix_tup (pv 0) (pe_op op_mod (pe_op op_add (pv 3) (pv 4)) (pv 1)) (fun _ _ => rfl)) pa_nil)) rfl)
      (pss_cons (ps_if (pt_cmpR op_eq (pv 5) (pv 6) (nomark _))
        (pss_cons (ps_aug (i := 4) nd rfl (Or.inl rfl) pe_int ip_add)
        (pss_one ps_continue))
        pss_nil)
      (pss_cons (ps_if (pt_cmpR op_gt (pv 5) (pv 6) (nomark _))
        (pss_one (ps_aug (i := 2) nd rfl (Or.inl rfl) (pe_op op_add (pv 4) pe_int) ip_add))
        (pss_one (ps_aug (i := 3) nd rfl (Or.inl rfl) (pe_op op_add (pv 4) pe_int) ip_add)))
      (pss_cons (ps_if (pt_cmpR op_eq (pv 2) (pv 3) (nomark _))
        (pss_one (ps_aug (i := 3) nd rfl (Or.inl rfl) pe_int ip_add))
        pss_nil)
      (pss_one (ps_set (i := 4) nd rfl (Or.inl rfl) pe_int)))))))
    (pss_cons (ps_set (i := 7) nd rfl (Or.inl rfl) (pe_callB (call_min2 rfl) (by rfl) T.zmin (by decide +kernel) (pa_cons (pv 2) (pa_cons (pv 3) pa_nil))))
    (pss_one (ps_ret (pe_op op_catA (pe_slice sl_tupA (pv 0) (po_some (pv 7)) po_none) (pe_slice sl_tupA (pv 0) po_none (po_some (pv 7)))))))))), ?_⟩
    have lm : (ns.map V.int).length = ns.length := List.length_map ..
    have l0 := List.length_pos_iff.mpr hne
    refine ⟨_, rfl, p, _, rfl, .inr hp, ?_⟩
    rw [lm]
    refine ⟨(by show 3 ≤ sizeLine; decide), fun a3 ha3 => ⟨a3, _, rfl, SqT.of upd_same, rfl, _, _, rfl, _, _, rfl, _, _, rfl, rfl, ?_⟩⟩
    have s0 : Same H (upd H a3 (.tup [.int 0, .int 1, .int 0])) := same_new ha3
    have hp0 := same_seqT s0 hp
    generalize upd H a3 (.tup [.int 0, .int 1, .int 0]) = H0 at s0 hp0
    refine while_by3 (fun σ H' => H' = H0 ∧ ∃ (i j c : Nat) (f g : Option V), σ = [some (.ref p), some (.int (ns.length : Int)), some (.int (i : Int)), some (.int (j : Int)), some (.int (c : Int)), f, g, none] ∧ Beaten ns i j ∧ c ≤ ns.length ∧ (0 < c → i < ns.length ∧ j < ns.length) ∧ (turnAt ns i).take c = (turnAt ns j).take c) (readTo ns.length)
      ⟨rfl, 0, 1, 0, none, none, rfl, beaten_zero ns, Nat.zero_le _, (fun z => absurd z (by omega)), rfl⟩ ?_
    rintro σ H' ⟨rfl, i, j, c, f, g, rfl, bt, hc, hij, ht⟩
    apply let_one (J := turnAt ns (min i j) = leastT ns ∧ min i j < ns.length)
    · intro out
      refine ⟨_, rfl, _, rfl, _, _, rfl, rfl, _, rfl, ite2 (fun c1 => ?_) (fun c1 => ?_)⟩
      · refine ⟨_, rfl, _, rfl, _, _, rfl, rfl, _, rfl, ite2 (fun c2 => ?_) (fun c2 => ?_)⟩
        · refine ⟨_, rfl, _, rfl, _, _, rfl, rfl, _, rfl, ite2 (fun c3 => ?_) (fun c3 => ?_)⟩
          · have g1 : i < ns.length := by simpa using c1
            have g2 : j < ns.length := by simpa using c2
            have g3 : c < ns.length := by simpa using c3
            obtain ⟨x, x1, x2⟩ := turn_letter g1 g3
            obtain ⟨y, y1, y2⟩ := turn_letter g2 g3
            have a1 : atI (ns.map V.int) (((i : Int) + (c : Int)) % (ns.length : Int)) = some (V.int x) := atI_nat (j := (i + c) % ns.length) (ints_get x1)
            have a2 : atI (ns.map V.int) (((j : Int) + (c : Int)) % (ns.length : Int)) = some (V.int y) := atI_nat (j := (j + c) % ns.length) (ints_get y1)
            refine ⟨fun σ' H'' => readTo ns.length σ' H'' < _ ∧ H'' = H' ∧ _, fun σ' H'' h => ⟨_, h.1, rfl, h.2⟩, ?_⟩
            have lt0 : ∀ (i' j' c' : Nat) (f' g' : Option V), i + j + c < i' + j' + c' → readTo ns.length [some (.ref p), some (.int (ns.length : Int)), some (.int (i' : Int)), some (.int (j' : Int)), some (.int (c' : Int)), f', g', none] H' < readTo ns.length [some (.ref p), some (.int (ns.length : Int)), some (.int (i : Int)), some (.int (j : Int)), some (.int (c : Int)), f, g, none] H' := fun i' j' c' f' g' h => by
              show 3 * ns.length - ((i' : Int).toNat + (j' : Int).toNat + (c' : Int).toNat) < 3 * ns.length - ((i : Int).toNat + (j : Int).toNat + (c : Int).toNat)
              omega
            have fin : ∀ (i' j' : Nat), i + j + c < i' + j' → Beaten ns i' j' → ∀ G : Prop, (readTo ns.length [some (.ref p), some (.int (ns.length : Int)), some (.int (i' : Int)), some (.int (j' : Int)), some (.int 0), some (V.int x), some (V.int y), none] H' < readTo ns.length [some (.ref p), some (.int (ns.length : Int)), some (.int (i : Int)), some (.int (j : Int)), some (.int (c : Int)), f, g, none] H' ∧ H' = H' ∧ (∃ (i c2 c : Nat) (f g : Option V), [some (.ref p), some (.int (ns.length : Int)), some (.int (i' : Int)), some (.int (j' : Int)), some (.int 0), some (V.int x), some (V.int y), none] = [some (.ref p), some (.int (ns.length : Int)), some (.int (i : Int)), some (.int (c2 : Int)), some (.int (c : Int)), f, g, none] ∧ Beaten ns i c2 ∧ c ≤ ns.length ∧ (0 < c → i < ns.length ∧ c2 < ns.length) ∧ (turnAt ns i).take c = (turnAt ns c2).take c) → G) → G := fun i' j' h b G k => k ⟨lt0 i' j' 0 _ _ (by omega), rfl, i', j', 0, _, _, rfl, b, Nat.zero_le _, (fun z => absurd z (by omega)), rfl⟩
            refine ⟨_, rfl, ?_⟩
            refine ⟨_, rfl, _, rfl, _, _, rfl, rfl, _, rfl, _, _, rfl, rfl, by omega, p, _, _, _, rfl, rfl, hp0, a1, ?_⟩
            refine ⟨_, rfl, _, rfl, _, rfl, _, _, rfl, rfl, _, rfl, _, _, rfl, rfl, by omega, p, _, _, _, rfl, rfl, hp0, a2, _, _, rfl, ?_⟩
            refine ⟨_, rfl, _, rfl, rfl, _, rfl, ite2 (fun c4 => ?_) (fun c4 => ?_)⟩
            · have g4 : x = y := by simpa using c4
              subst g4
              refine ⟨_, rfl, _, _, rfl, rfl, lt0 i j (c + 1) _ _ (by omega), rfl, i, j, c + 1, _, _, rfl, bt, g3, fun _ => ⟨g1, g2⟩, take_more ht x2 y2⟩
            · have g4 : ¬ x = y := by simpa using c4
              refine ⟨_, rfl, _, rfl, _, _, rfl, rfl, _, rfl, ite2 (fun c5 => ?_) (fun c5 => ?_)⟩
              · have g5 : y < x := by simpa using c5
                have bs := bt.step (k := c) fun t t1 t2 => noL_of t2 g2 g3 t1 ht x2 y2 g5
                refine ⟨_, rfl, _, rfl, _, _, rfl, rfl, _, _, rfl, rfl, ?_⟩
                refine ⟨_, rfl, _, rfl, rfl, _, rfl, ite2 (fun c6 => ?_) (fun c6 => ?_)⟩
                · have g6 : i + c + 1 = j := by
                    have : (i : Int) + ((c : Int) + 1) = (j : Int) := by simpa using c6
                    omega
                  have b2 := bs.2 g6
                  refine ⟨_, rfl, _, _, rfl, rfl, ?_⟩
                  refine fin (i + (c + 1)) (j + 1) (by omega) ?_ _ fun z => z
                  have e : i + (c + 1) = j := by omega
                  rw [e]
                  exact b2
                · have g6 : i + c + 1 ≠ j := fun z => c6 (by
                    have : (i : Int) + ((c : Int) + 1) = (j : Int) := by omega
                    simp [this])
                  exact fin (i + (c + 1)) j (by omega) (bs.1 g6) _ fun z => z
              · have g5 : x < y := by
                  have : ¬ y < x := by simpa using c5
                  omega
                have bs := bt.symm.step (k := c) fun t t1 t2 => noL_of t2 g1 g3 t1 ht.symm y2 x2 g5
                refine ⟨_, rfl, _, rfl, _, _, rfl, rfl, _, _, rfl, rfl, ?_⟩
                refine ⟨_, rfl, _, rfl, rfl, _, rfl, ite2 (fun c6 => ?_) (fun c6 => ?_)⟩
                · have g6 : j + c + 1 = i := by
                    have : (i : Int) = (j : Int) + ((c : Int) + 1) := by simpa using c6
                    omega
                  have b2 := bs.2 g6
                  refine ⟨_, rfl, _, _, rfl, rfl, ?_⟩
                  refine fin i (j + (c + 1) + 1) (by omega) ?_ _ fun z => z
                  have e : j + (c + 1) = i := by omega
                  rw [e]
                  exact b2
                · have g6 : j + c + 1 ≠ i := fun z => c6 (by
                    have : (i : Int) = (j : Int) + ((c : Int) + 1) := by omega
                    simp [this])
                  exact fin i (j + (c + 1)) (by omega) (bs.1 g6).symm _ fun z => z
          · have g1 : i < ns.length := by simpa using c1
            have g2 : j < ns.length := by simpa using c2
            have g3 : c = ns.length := by
              have : ¬ c < ns.length := by simpa using c3
              omega
            subst g3
            exact out ⟨leastT_like hne bt g1 g2 ht, by omega⟩
        · have g2 : ns.length ≤ j := by simpa using c2
          exact iteF (out (leastT_far hne bt (by omega)))
      · have g1 : ns.length ≤ i := by simpa using c1
        exact iteF (out (leastT_far hne bt (by omega)))
    rintro ⟨e1, e2⟩
    refine ⟨_, rfl, _, rfl, _, _, rfl, ?_⟩
    have em : (if (j : Int) < (i : Int) then (j : Int) else (i : Int)) = ((min i j : Nat) : Int) := by
      split <;> omega
    rw [em]
    have hp3 := hp0
    generalize min i j = m at e1 e2
    refine ⟨_, rfl, _, rfl, (m : Int), rfl, noPart_i ?_⟩
    refine slT_genD (K := K) hp0 fun b1 H2 s3 hb1 => ?_
    refine ⟨_, rfl, noPart_i ⟨_, rfl, (m : Int), rfl, ?_⟩⟩
    refine slT_gen (K := K) (same_seqT s3 hp0) fun b2 H3 s4 hb2 => ?_
    refine catA_gen (K := K) (same_seqT s4 hb1) hb2 ?_ fun q H4 s5 hq => ?_
    · rw [List.length_drop, List.length_take, lm]
      exact Nat.le_of_lt (small1000 (by omega))
    refine k q H4 (((s0.trans s3).trans s4).trans s5) ?_
    rw [← e1]
    have e : (turnAt ns m).map V.int = (ns.map V.int).drop m ++ (ns.map V.int).take m := by
      unfold turnAt
      rw [List.map_append, List.map_drop, List.map_take]
    rw [e]
    exact hq
end
end Tt
set_option maxRecDepth 100000
set_option maxHeartbeats 4000000
namespace Tt
open PySem L2
section
variable {P : Program} {w : World} {K : PySem.W.Frag} {mg : Str → Option Value} {base : Heap}
theorem slT_mid {xs : List V} {a : Addr} {H : Hp} {Q : VK} {c : Nat} (hc : 2 * c ≤ xs.length) (h : SqT K H a xs) (q : ∀ b H', Same H H' → SqT K H' b ((xs.drop c).take (xs.length - 2 * c)) → Q (.ref b) H') : rSlA K (.ref a) (some (c : Int)) (some ((xs.length - c : Nat) : Int)) H Q := by
  have e1 : HT.sIx xs.length 0 (some (c : Int)) = c := by rw [HT.sIx_nat]; omega
  have e2 : HT.sIx xs.length xs.length (some ((xs.length - c : Nat) : Int)) = xs.length - c := by rw [HT.sIx_nat]; omega
  refine ⟨a, xs, rfl, h, fun z => ?_, fun _ p hp => ?_⟩
  · rw [e1, e2] at z
    have z0 := z.1
    subst z0
    refine q a H (fun _ _ z => z) ?_
    rw [List.drop_zero, Nat.mul_zero, Nat.sub_zero, List.take_length]
    exact h
  · refine q p _ (same_new hp) ?_
    unfold cutV
    rw [e1, e2]
    have : xs.length - c - c = xs.length - 2 * c := by omega
    rw [this]
    exact SqT.of upd_same
def spClosedL (K : PySem.W.Frag) : Sp := fun vs H Q _ => ∃ (p : Addr) (ns : List Int), vs = [.ref p] ∧ SqT K H p (ns.map V.int) ∧ ns.length ≤ 400 ∧ (∀ x ∈ ns, 0 ≤ x ∧ x < 12) ∧
  ∀ q H', Same H H' → SqT K H' q ((Wd.core ns).map V.int) → (Wd.core ns).length ≤ 400 → Q (.ref q) H'
def spClosed (K : PySem.W.Frag) : Sp := fun vs H Q _ => ∃ (p : Addr) (ns : List Int), vs = [.ref p] ∧ SqT K H p (ns.map V.int) ∧ ns.length ≤ 400 ∧ (∀ x ∈ ns, 0 ≤ x ∧ x < 12) ∧
  ∀ q H', Same H H' → SqT K H' q ((closedT ns).map V.int) → Q (.ref q) H'
theorem ok_closed_letters (T : Txt K mg) : FnOk P w K mg base CX0 3 T.closed_letters.a T.closed_letters.fd ["word"] (spClosedL K) := by
  refine T.closed_letters.F.ok sc_closed_letters (fun vs H Q E h => ?_) (fun cdv A outer s H vs Q E hr h => ?_)
  · obtain ⟨p, ns, rfl, _⟩ := h
    rfl
  · obtain ⟨p, ns, rfl, hp, hl, hb, k⟩ := h
    have nd := sc_closed_letters.nd
    refine ⟨_, (pss_cons (ps_set (i := 1) nd rfl (Or.inl rfl) (pe_call (ok_cut_free T) (hr.mono (by decide)) (by rfl) T.cut_free.g T.cut_free.k T.cut_free.b .nil pass0 (pa_cons (pv 0) pa_nil)))
    (pss_cons (ps_set (i := 2) nd rfl (Or.inl rfl) pe_int)
    (pss_cons (ps_while PassesOwn.never (PW.pt (pw_and (pt_cmpR op_ge (pe_op op_sub (pe_callB call_len_seq (by rfl) T.zlen (by decide +kernel) (pa_cons (pv 1) pa_nil)) (pe_op op_mul pe_int (pv 2))) pe_int (nomark _)) (pw_and1 (pt_cmpR op_eq (pe_ix ix_tup (pv 1) (pv 2) (fun _ _ => rfl)) (pe_op op_xor (pe_ix ix_tup (pv 1) (pe_op op_sub (pe_op op_sub (pe_callB call_len_seq (by rfl) T.zlen (by decide +kernel) (pa_cons (pv 1) pa_nil)) pe_int) (pv 2)) (fun _ _ => rfl)) pe_int) (nomark _)))))
      (pss_one (ps_aug (i := 2) nd rfl (Or.inl rfl) pe_int ip_add)))
    (pss_one (ps_ret (pe_slice sl_tupA (pv 1) (po_some (pv 2)) (po_some (pe_op op_sub (pe_callB call_len_seq (by rfl) T.zlen (by decide +kernel) (pa_cons (pv 1) pa_nil)) (pv 2))))))))), ?_⟩
    refine ⟨_, rfl, p, ns, rfl, hp, by omega, hb, fun f H1 s1 h1 => ?_⟩
    have lf : (Wd.freed ns).length ≤ 400 := Nat.le_trans (Wd.len_freed ns) hl
    have bf : ∀ x ∈ Wd.freed ns, 0 ≤ x ∧ x < 12 := fun x hx => hb x (Wd.mem_freed hx)
    have ec : Wd.strip (Wd.freed ns) = Wd.core ns := rfl
    generalize Wd.freed ns = fs at h1 lf bf ec
    refine while_by (fun σ H' => H' = H1 ∧ ∃ c : Nat, σ = [some (.ref p), some (.ref f), some (.int (c : Int))] ∧ 2 * c ≤ fs.length ∧ Wd.strip (Wd.mid fs c) = Wd.core ns)
      (fun σ _ => match σ[2]? with | some (some (V.int c)) => 1000 - c.toNat | _ => 0) ⟨rfl, 0, rfl, by omega, by rw [Wd.mid_zero]; exact ec⟩ ?_ ?_
    · rintro σ H' ⟨rfl, c, rfl, hc, em⟩
      have lm : (fs.map V.int).length = fs.length := List.length_map ..
      apply let_one (J := Wd.strip (Wd.mid fs c) = Wd.mid fs c)
      · intro out
        refine ⟨_, rfl, f, _, rfl, .inr (SqT.of h1), _, rfl, _, _, rfl, rfl, .inl ⟨by decide, by decide⟩, _, _, rfl, rfl, _, _, rfl, rfl, _, rfl, ?_⟩
        rw [lm]
        refine ite2 (fun g => ?_) (fun g => ?_)
        · have g' : 2 * c + 2 ≤ fs.length := by
            have : (2 : Int) ≤ (fs.length : Int) - 2 * (c : Int) := by simpa using g
            omega
          obtain ⟨a, ha⟩ : ∃ a, fs[c]? = some a := ⟨_, List.getElem?_eq_getElem (by omega)⟩
          obtain ⟨b, hb2⟩ : ∃ b, fs[fs.length - 1 - c]? = some b := ⟨_, List.getElem?_eq_getElem (by omega)⟩
          refine ⟨_, rfl, _, rfl, f, _, _, _, rfl, rfl, SqT.of h1, atI_nat (ints_get ha), ?_⟩
          refine ⟨_, rfl, _, rfl, f, _, rfl, .inr (SqT.of h1), _, _, rfl, rfl, _, rfl, _, _, rfl, rfl, f, _, _, V.int b, rfl, rfl, SqT.of h1, ?_, ?_⟩
          · have e : ((fs.map V.int).length : Int) - 1 - (c : Int) = ((fs.length - 1 - c : Nat) : Int) := by rw [lm]; omega
            rw [e]
            exact atI_nat (ints_get hb2)
          · refine ⟨_, _, rfl, rfl, rfl, _, rfl, ?_⟩
            have bb := bf b (List.mem_of_getElem? hb2)
            have ex : decide (V.int a = V.int (Builtin.bitXor b 1)) = decide (a = Wd.mate b) := by
              rw [xor_mate bb.1 bb.2]
              simp
            refine ite2 (fun z => ?_) (fun z => ?_)
            · have z' : a = Wd.mate b := of_decide_eq_true (ex.symm.trans z)
              refine ⟨_, rfl, _, _, rfl, rfl, ⟨rfl, c + 1, rfl, by omega, ?_⟩, ?_⟩
              · rw [← Wd.mid_yes g' ha hb2 z']
                exact em
              · show 1000 - ((c : Int) + 1).toNat < 1000 - ((c : Int)).toNat
                omega
            · exact out (Wd.mid_no g' ha hb2 fun z' => z (ex.trans (decide_eq_true z')))
        · refine iteF (out (Wd.mid_short ?_))
          have : ¬ (2 : Int) ≤ (fs.length : Int) - 2 * (c : Int) := by simpa using g
          omega
      intro hm
      have eM : Wd.mid fs c = Wd.core ns := hm.symm.trans em
      have lc : (Wd.core ns).length ≤ 400 := by
        rw [← eM]
        exact Nat.le_trans (Wd.mid_len fs c) lf
      refine ⟨_, rfl, _, rfl, (c : Int), rfl, _, rfl, f, _, rfl, .inr (SqT.of h1), _, rfl, _, _, rfl, rfl, ((fs.length - c : Nat) : Int), ?_, ?_⟩
      · rw [lm]
        exact congrArg V.int (by omega)
      · rw [← lm]
        refine slT_mid (K := K) (by rw [lm]; exact hc) (SqT.of h1) fun b H2 s2 hb2 => ?_
        have e3 : ((fs.map V.int).drop c).take ((fs.map V.int).length - 2 * c) = (Wd.core ns).map V.int := by
          rw [lm, ← eM]
          unfold Wd.mid
          rw [List.map_take, List.map_drop]
        rw [e3] at hb2
        exact k b H2 (s1.trans s2) hb2 lc
    · rintro σ H Q Q' hq ⟨v1, a1, p1, ys1, a2, a3, v2, a4, i1, j1, a5, a6, a7, i2, j2, a8, a9, i3, j3, a10, a11, b1, a12, a13⟩
      refine ⟨v1, a1, p1, ys1, a2, a3, v2, a4, i1, j1, a5, a6, a7, i2, j2, a8, a9, i3, j3, a10, a11, b1, a12, ?_⟩
      cases b1 with
      | false => exact iteF (hq _ _ (by simpa using a13))
      | true =>
        rw [if_pos rfl] at a13
        obtain ⟨c1, d1, c2, d2, q1, xs1, n1, u1, d3, d4, d5, d6, c3, d7, c4, d8, q2, ys2, d9, d10, m1, m2, d11, d12, c5, d13, m3, m4, d14, d15, q3, xs3, n3, u3, d16, d17, d18, d19, m5, m6, d20, d21, d22, b2, d23, d24⟩ := a13
        exact iteT ⟨c1, d1, c2, d2, q1, xs1, n1, u1, d3, d4, d5, d6, c3, d7, c4, d8, q2, ys2, d9, d10, m1, m2, d11, d12, c5, d13, m3, m4, d14, d15, q3, xs3, n3, u3, d16, d17, d18, d19, m5, m6, d20, d21, d22, b2, d23, hq _ _ d24⟩
theorem ok_closed_up (T : Txt K mg) : FnOk P w K mg base CX0 4 T.closed_up.a T.closed_up.fd ["word"] (spClosed K) := by
  refine T.closed_up.F.ok sc_closed_up (fun vs H Q E h => ?_) (fun cdv A outer s H vs Q E hr h => ?_)
  · obtain ⟨p, ns, rfl, _⟩ := h
    rfl
  · obtain ⟨p, ns, rfl, hp, hl, hb, k⟩ := h
    have nd := sc_closed_up.nd
    refine ⟨_, (pss_cons (ps_set (i := 1) nd rfl (Or.inl rfl) (pe_call (ok_closed_letters T) (hr.mono (by decide)) (by rfl) T.closed_letters.g T.closed_letters.k T.closed_letters.b .nil pass0 (pa_cons (pv 0) pa_nil)))
    (pss_one (ps_ret (pe_ifExp (pt_truth (pv 1) (fun _ => rfl)) (pe_call (ok_least_turn T) (hr.mono (by decide)) (by rfl) T.least_turn.g T.least_turn.k T.least_turn.b .nil pass0 (pa_cons (pv 1) pa_nil)) (pe_tup pa_nil))))), ?_⟩
    refine ⟨_, rfl, p, ns, rfl, hp, hl, hb, fun b H2 s2 hb2 lc => ?_⟩
    refine ⟨_, rfl, !((Wd.core ns).map V.int).isEmpty, .inr (.inl ⟨_, hb2, rfl⟩), ?_⟩
    refine ite2 (fun z => ?_) (fun z => ?_)
    · have hne : Wd.core ns ≠ [] := by simpa using z
      exact ⟨_, rfl, b, Wd.core ns, rfl, hb2, hne, lc, fun q H3 s3 hq => k q H3 (s2.trans s3) hq⟩
    · have hnil : Wd.core ns = [] := by simpa using z
      refine ⟨(by show 0 ≤ sizeLine; decide), fun q hq => k q _ (s2.trans (same_new hq)) ?_⟩
      unfold closedT
      rw [hnil, leastT_nil]
      exact SqT.of upd_same
end
end Tt
set_option maxRecDepth 100000
set_option maxHeartbeats 4000000
namespace Tt
open PySem L2
section
variable {P : Program} {w : World} {K : PySem.W.Frag} {mg : Str → Option Value} {base : Heap}
theorem ok_l_least_turn (T : Txt K mg) : FnOk P w K mg base CX0 2 T.l_least_turn.a T.l_least_turn.fd ["word_here"] (spLeast K) := by
  refine T.l_least_turn.F.ok sc_l_least_turn (fun vs H Q E h => ?_) (fun cdv A outer s H vs Q E hr h => ?_)
  · obtain ⟨p, ns, rfl, _⟩ := h
    rfl
  · obtain ⟨p, ns, rfl, hp, hne, hl, k⟩ := h
    have nd := sc_l_least_turn.nd
    refine ⟨_, (pss_one (ps_ret (pe_callB (cr_minT rfl hr.units) (by rfl) T.zmin (by decide +kernel) (pa_cons (pe_lc (own := [("at", 1)]) (g := gName 1) rfl nd (pi_range1 rfl T.zrange (pa_cons (pe_callB call_len_seq (by rfl) T.zlen (by decide +kernel) (pa_cons (pv 0) pa_nil)) pa_nil)) (blkOk_by (own := [("at", 1)]) (N := N_l_least_turn) (sc := defScope s_l_least_turn) (by decide +kernel)) (fun _ _ _ _ _ => pg_name (i := 1) nd rfl (Or.inl rfl)) (fun _ _ _ _ _ => pts_nil) (fun _ _ _ _ _ => (pe_op (op_catAK (K := K) rfl) (pe_slice (sl_tupAK (K := K) rfl) (pv 0) (po_some (pv 1)) po_none) (pe_slice (sl_tupAK (K := K) rfl) (pv 0) po_none (po_some (pv 1)))))) pa_nil)))), ?_⟩
    refine ⟨_, rfl, p, _, rfl, .inr hp, _, rfl, by omega, by rw [List.length_map]; omega, fun D1 hD1 => ?_⟩
    refine lc_range (lo := 0) (n := ((ns.map V.int).length : Int).toNat) (fun i H' => ∃ ps : List Addr, H' D1 = some (.lst (ps.map V.ref)) ∧ Paired (fun p m => SqT K H' p (m.map V.int)) ps ((turns ns).take i) ∧ Same H H')
      ⟨[], upd_same, .nil, same_new hD1⟩ ?_ ?_
    · rintro i H' hi ⟨ps, h1, h2, s2⟩
      have hi2 : i < ns.length := by rw [List.length_map] at hi; omega
      have hpl : ps.length = i := by
        have := h2.length
        rw [List.length_take, turns_len] at this
        omega
      refine ⟨rfl, yes_t ?_⟩
      refine ⟨_, rfl, _, rfl, (i : Int), by rw [Int.zero_add], noPart_i ?_⟩
      refine slT_genD (K := K) (same_seqT s2 hp) fun b1 H2 s3 hb1 => ?_
      refine ⟨_, rfl, noPart_i ⟨_, rfl, (i : Int), by rw [Int.zero_add], ?_⟩⟩
      refine slT_gen (K := K) (same_seqT (s2.trans s3) hp) fun b2 H3 s4 hb2 => ?_
      refine catA_gen (K := K) (same_seqT s4 hb1) hb2 ?_ fun c H4 s5 hc => ?_
      · rw [List.length_drop, List.length_take, List.length_map]
        exact Nat.le_of_lt (small1000 (by omega))
      have sA : Same H' H4 := (s3.trans s4).trans s5
      have h4 := sA _ _ h1
      refine ⟨_, h4, by rw [List.length_map]; exact small1000 (by omega), ps ++ [c], ?_, ?_, fun b o hb => ?_⟩
      · rw [upd_same, List.map_append]
        rfl
      · rw [List.take_add_one, turns_get hi2]
        refine pair_snoc (pair_mono (fun a m z => sqT_put (same_seqT sA z) h4) h2) ?_
        refine sqT_put ?_ h4
        have e : (turnAt ns i).map V.int = (ns.map V.int).drop i ++ (ns.map V.int).take i := by
          unfold turnAt
          rw [List.map_append, List.map_drop, List.map_take]
        rw [e]
        exact hc
      · rw [upd_ne (ne_of_none hb hD1)]
        exact sA _ _ (s2 _ _ hb)
    · rintro H' ⟨ps, h1, h2, s2⟩
      have e : (turns ns).take ((ns.map V.int).length : Int).toNat = turns ns := List.take_of_length_le (by rw [turns_len, List.length_map]; omega)
      rw [e] at h2
      have hl2 := turns_len ns
      cases ht : turns ns with
      | nil =>
        rw [ht] at hl2
        exact absurd (List.length_eq_zero_iff.mp hl2.symm) hne
      | cons r0 rs =>
        rw [ht] at h2
        refine ⟨D1, ps, r0, rs, rfl, SqL.of h1, h2, fun i q hq hm => k q H' s2 ?_⟩
        have hi : i < (r0 :: rs).length := by
          rw [← h2.length]
          exact (List.getElem?_eq_some_iff.mp hq).1
        have em := hm _ (List.getElem?_eq_getElem hi)
        rw [minR_D] at em
        have e2 := rowD_inj em
        have e3 := pair_at h2 hq (List.getElem?_eq_getElem hi)
        rw [e2] at e3
        have e4 : leastT ns = minR r0 rs := by
          unfold leastT
          rw [ht]
        rw [e4]
        exact e3
theorem strip_cut {a b : Int} {m : List Int} (e : a = Wd.mate b) : Wd.strip (a :: (m ++ [b])) = Wd.strip m := by
  rw [e, Wd.strip_yes]
theorem ends_of {fs : List Int} (h : 1 < fs.length) : ∃ (a : Int) (m : List Int) (b : Int), fs = a :: (m ++ [b]) := by
  cases fs with
  | nil => simp at h
  | cons a r =>
    cases hr : r.getLast? with
    | none =>
      have := List.getLast?_eq_none_iff.mp hr
      subst this
      simp at h
    | some b => exact ⟨a, r.dropLast, b, by rw [Wd.last_snoc hr]⟩
theorem cut_in (a b : V) (m : List V) : cutV (a :: (m ++ [b])) (some 1) (some (-1)) = m := by
  unfold cutV
  have e1 : HT.sIx (a :: (m ++ [b])).length 0 (some 1) = 1 := (HT.sIx_nat (a :: (m ++ [b])).length 0 1).trans (by simp)
  have e2 : HT.sIx (a :: (m ++ [b])).length (a :: (m ++ [b])).length (some (-1)) = m.length + 1 := by
    have hn : (-1 : Int) < 0 := by decide
    simp only [HT.sIx, if_pos hn, List.length_cons, List.length_append, List.length_nil]
    omega
  rw [e1, e2]
  simp
theorem ok_l_rounded (T : Txt K mg) : FnOk P w K mg base CX0 3 T.l_rounded.a T.l_rounded.fd ["word_here"] (spClosed K) := by
  refine T.l_rounded.F.ok sc_l_rounded (fun vs H Q E h => ?_) (fun cdv A outer s H vs Q E hr h => ?_)
  · obtain ⟨p, ns, rfl, _⟩ := h
    rfl
  · obtain ⟨p, ns, rfl, hp, hl, hb, k⟩ := h
    have nd := sc_l_rounded.nd
    refine ⟨_, (pss_cons (ps_set (i := 1) nd rfl (Or.inl rfl) (pe_callTy call_list_of (by rfl) T.zlist (by decide +kernel) (pa_cons (pe_call (ok_l_freed T) (hr.mono (by decide)) (by rfl) T.l_freed.g T.l_freed.k T.l_freed.b .nil pass0 (pa_cons (pv 0) pa_nil)) pa_nil)))
    (pss_cons (ps_while PassesOwn.never (PW.pt (pw_and (pt_cmpR op_gt (pe_callB call_len_seq (by rfl) T.zlen (by decide +kernel) (pa_cons (pv 1) pa_nil)) pe_int (nomark _)) (pw_and1 (pt_cmpR op_eq (pe_ix ix_list (pv 1) pe_int (fun _ _ => rfl)) (pe_call (ok_l_mate T) (hr.mono (by decide)) (by rfl) T.l_mate.g T.l_mate.k T.l_mate.b .nil pass0 (pa_cons (pe_ix ix_list (pv 1) (pe_un un_neg pe_int) (fun _ _ => rfl)) pa_nil)) (nomark _)))))
      (pss_one (ps_set (i := 1) nd rfl (Or.inl rfl) (pe_slice sl_list (pv 1) (po_some pe_int) (po_some (pe_un un_neg pe_int))))))
    (pss_one (ps_ret (pe_ifExp (pt_cmpR (op_neD hr.units) (pv 1) (pe_lst pa_nil) (nomark _)) (pe_call (ok_l_least_turn T) (hr.mono (by decide)) (by rfl) T.l_least_turn.g T.l_least_turn.k T.l_least_turn.b .nil pass0 (pa_cons (pe_callTy call_tuple_of (by rfl) T.ztuple (by decide +kernel) (pa_cons (pv 1) pa_nil)) pa_nil)) (pe_tup pa_nil)))))), ?_⟩
    refine ⟨_, rfl, p, ns, rfl, hp, by omega, hb, fun f H1 s1 h1 => ?_⟩
    refine ⟨f, _, rfl, .inr (SqT.of h1), fun l hl2 => ?_⟩
    have lf : (Wd.freed ns).length ≤ 400 := Nat.le_trans (Wd.len_freed ns) hl
    have s2 : Same H (upd H1 l (.lst ((Wd.freed ns).map V.int))) := s1.trans (same_new hl2)
    have e2 : (upd H1 l (.lst ((Wd.freed ns).map V.int))) l = some (.lst ((Wd.freed ns).map V.int)) := upd_same
    have ec : Wd.strip (Wd.freed ns) = Wd.core ns := rfl
    generalize upd H1 l (.lst ((Wd.freed ns).map V.int)) = H2 at s2 e2
    generalize Wd.freed ns = fs at e2 lf ec
    refine while_by (fun σ H' => ∃ (l : Addr) (fs : List Int), σ = [some (.ref p), some (.ref l)] ∧ H' l = some (.lst (fs.map V.int)) ∧ fs.length ≤ 400 ∧ Wd.strip fs = Wd.core ns ∧ Same H H') (lenOf 1) ⟨l, fs, rfl, e2, lf, ec, s2⟩ ?_ ?_
    · rintro σ H' ⟨l, fs, rfl, e2, lf, ec, s2⟩
      apply let_one (J := Wd.strip fs = fs)
      · intro out
        refine ⟨_, rfl, l, _, rfl, .inl (SqL.of e2), _, _, rfl, rfl, _, rfl, ?_⟩
        rw [List.length_map]
        refine ite2 (fun g => ?_) (fun g => ?_)
        · have g' : 1 < fs.length := by
            have : (1 : Int) < (fs.length : Int) := by simpa using g
            omega
          obtain ⟨a, m, b, rfl⟩ := ends_of g'
          have l0 : atI ((a :: (m ++ [b])).map V.int) 0 = some (V.int a) := atI_nat (j := 0) rfl
          have l1 : atI ((a :: (m ++ [b])).map V.int) (-1) = some (V.int b) := by
            have := L2.atI_last (V.int a :: m.map V.int) (V.int b)
            simpa using this
          refine ⟨_, rfl, l, _, 0, V.int a, rfl, rfl, SqL.of e2, l0, ?_⟩
          refine ⟨_, rfl, 1, rfl, l, _, (-1), V.int b, rfl, rfl, SqL.of e2, l1, b, rfl, ?_⟩
          refine ⟨rfl, _, rfl, ite2 (fun z => ?_) (fun z => ?_)⟩
          · have z' : a = Wd.mate b := by simpa using z
            refine ⟨_, rfl, 1, rfl, 1, rfl, (-1), rfl, l, _, rfl, SqL.of e2, fun l' hl' => ?_⟩
            have em : cutV ((a :: (m ++ [b])).map V.int) (some 1) (some (-1)) = m.map V.int := by
              have e : (a :: (m ++ [b])).map V.int = V.int a :: (m.map V.int ++ [V.int b]) := by simp
              rw [e]
              exact cut_in _ _ _
            rw [em]
            have e3 : (upd H' l' (.lst (m.map V.int))) l' = some (.lst (m.map V.int)) := upd_same
            refine ⟨⟨l', m, rfl, e3, ?_, ?_, s2.trans (same_new hl')⟩, ?_⟩
            · rw [List.length_cons, List.length_append] at lf
              omega
            · rw [← strip_cut z']
              exact ec
            · rw [lenOf_of (i := 1) (f := l') rfl e3, lenOf_of (i := 1) (f := l) rfl e2]
              simp
              omega
          · refine out (Wd.strip_no ?_)
            have z' : a ≠ Wd.mate b := by simpa using z
            have : (a :: (m ++ [b])).getLast? = some b := by simp [List.getLast?_cons]
            rw [this]
            simpa using z'
        · refine iteF (out (Wd.strip_short ?_))
          have : ¬ (1 : Int) < (fs.length : Int) := by simpa using g
          omega
      intro hm
      have ef : fs = Wd.core ns := hm.symm.trans ec
      subst ef
      refine ⟨_, rfl, (by show 0 ≤ sizeLine; decide), fun l0 hl0 => ?_⟩
      have sN : Same H' (upd H' l0 (.lst [])) := same_new hl0
      have e0 : (upd H' l0 (.lst [])) l0 = some (.lst []) := upd_same
      have e4 := sN _ _ e2
      refine ⟨.list ((Wd.core ns).map PyData.int), .list [], .lst (SqL.of e4) (dpAll_ints _ _), .lst (SqL.of e0) .nil, shapedAll_ints _, rfl, ?_⟩
      have ev : PyData.eqv (.list ((Wd.core ns).map PyData.int)) (.list []) = decide (Wd.core ns = []) := eqv_ints (Wd.core ns) []
      rw [ev]
      refine ⟨_, rfl, ?_⟩
      by_cases hc : Wd.core ns = []
      · rw [decide_eq_true hc]
        refine iteF ⟨(by show 0 ≤ sizeLine; decide), fun q hq => k q _ ((s2.trans sN).trans (same_new hq)) ?_⟩
        unfold closedT
        rw [hc, leastT_nil]
        exact SqT.of upd_same
      · rw [decide_eq_false hc]
        refine iteT ⟨_, rfl, l, _, rfl, .inl ⟨SqL.of e4, fun t ht => ?_⟩⟩
        exact ⟨t, Wd.core ns, rfl, SqT.of upd_same, hc, lf, fun q H3 s3 hq => k q H3 (((s2.trans sN).trans (same_new ht)).trans s3) hq⟩
    · rintro σ H Q Q' hq ⟨v1, a1, p1, ys1, a2, a3, i1, j1, a4, a5, b1, a6, a7⟩
      refine ⟨v1, a1, p1, ys1, a2, a3, i1, j1, a4, a5, b1, a6, ?_⟩
      cases b1 with
      | false => exact iteF (hq _ _ (by simpa using a7))
      | true =>
        rw [if_pos rfl] at a7
        obtain ⟨c1, d1, q1, xs1, n1, u1, d3, d4, d5, d6, c3, d7, m1, d8, q2, xs2, n2, u2, d9, d10, d11, d12, x1, d13, d14, b2, d15, d16⟩ := a7
        exact iteT ⟨c1, d1, q1, xs1, n1, u1, d3, d4, d5, d6, c3, d7, m1, d8, q2, xs2, n2, u2, d9, d10, d11, d12, x1, d13, d14, b2, d15, hq _ _ d16⟩
end
end Tt
set_option maxRecDepth 100000
set_option maxHeartbeats 4000000
namespace Tt
open PySem L2
section
variable {P : Program} {w : World} {K : PySem.W.Frag} {mg : Str → Option Value} {base : Heap}
def spGoneBack (K : PySem.W.Frag) : Sp := fun vs H Q _ => ∃ (p : Addr) (ns : List Int), vs = [.ref p] ∧ SqT K H p (ns.map V.int) ∧ ns ≠ [] ∧ ns.length ≤ 400 ∧ (∀ x ∈ ns, 0 ≤ x ∧ x < 12) ∧
  ∀ q H', Same H H' → SqT K H' q ((leastT (Wd.undo ns)).map V.int) → Q (.ref q) H'
theorem ok_gone_round_back (T : Txt K mg) : FnOk P w K mg base CX0 3 T.gone_round_back.a T.gone_round_back.fd ["loop"] (spGoneBack K) := by
  refine T.gone_round_back.F.ok sc_gone_round_back (fun vs H Q E h => ?_) (fun cdv A outer s H vs Q E hr h => ?_)
  · obtain ⟨p, ns, rfl, _⟩ := h
    rfl
  · obtain ⟨p, ns, rfl, hp, hne, hl, hb, k⟩ := h
    refine ⟨_, (pss_one (ps_ret (pe_call (ok_least_turn T) (hr.mono (by decide)) (by rfl) T.least_turn.g T.least_turn.k T.least_turn.b .nil pass0 (pa_cons (pe_call (ok_gone_back T) (hr.mono (by decide)) (by rfl) T.gone_back.g T.gone_back.k T.gone_back.b .nil pass0 (pa_cons (pv 0) pa_nil)) pa_nil)))), ?_⟩
    refine ⟨_, rfl, p, ns, rfl, hp, by omega, hb, fun q H1 s1 h1 => ?_⟩
    refine ⟨q, Wd.undo ns, rfl, SqT.of h1, (fun z => hne ?_), by rw [Wd.undo_len]; exact hl, fun q2 H2 s2 h2 => k q2 H2 (s1.trans s2) h2⟩
    have := congrArg List.length z
    rw [Wd.undo_len] at this
    exact List.length_eq_zero_iff.mp this
end
end Tt
set_option maxRecDepth 100000
set_option maxHeartbeats 4000000
namespace Tt
open PySem L2
section
variable {P : Program} {w : World} {K : PySem.W.Frag} {mg : Str → Option Value} {base : Heap}
def RdOr (row : List Int) (x : V) (H : Hp) (K : PySem.W.Frag) (b : Bool) : Prop := (WV K 40 row H x false ∧ b = false) ∨
  ∃ (t : Addr) (ns : List Int), x = .ref t ∧ SqT K H t (ns.map V.int) ∧ ns.length ≤ 40 ∧ Lt (row.length : Int) ns ∧ b = decide (ns ≠ [] ∧ closedT ns = ns)
theorem RdOr.same {row : List Int} {x : V} {H H' : Hp} {b : Bool} (h : RdOr row x H K b) (s : Same H H') : RdOr row x H' K b := by
  rcases h with ⟨h, e⟩ | ⟨t, ns, e, h, l, lt, eb⟩
  · exact .inl ⟨h.same s, e⟩
  · exact .inr ⟨t, ns, e, same_seqT s h, l, lt, eb⟩
def spFit (T : Txt K mg) : Sp := fun vs H Q _ => ∃ (p : Addr) (row : List Int) (x : V) (b : Bool), vs = [.ref p, x] ∧ SkAt T H p row ∧ (row.length ≤ 12 ∧ row.length % 2 = 0) ∧ RdOr row x H K b ∧ ∀ H', Same H H' → Q (.bl b) H'
theorem ok_is_fit_round (T : Txt K mg) : FnOk P w K mg base CX0 6 T.is_fit_round.a T.is_fit_round.fd ["skin", "thing"] (spFit T) := by
  refine T.is_fit_round.F.ok sc_is_fit_round (fun vs H Q E h => ?_) (fun cdv A outer s H vs Q E hr h => ?_)
  · obtain ⟨p, row, x, b, rfl, _⟩ := h
    rfl
  · obtain ⟨p, row, x, b, rfl, hs, ⟨hl, h2⟩, hx, k⟩ := h
    refine ⟨_, (pss_one (ps_ret (pe_and (pe_call (ok_has_letters T) (hr.mono (by decide)) (by rfl) T.has_letters.g T.has_letters.k T.has_letters.b .nil pass0 (pa_cons (pv 0) (pa_cons (pv 1) (pa_cons (pe_glob rfl T.c_MOST_IN_ROUND T.r_MOST_IN_ROUND) pa_nil)))) (pe_and (pe_cmpR op_gt (pe_callB call_len_seq (by rfl) T.zlen (by decide +kernel) (pa_cons (pv 1) pa_nil)) pe_int (nomark _)) (pe_one (pe_cmpR (op_eqD hr.units) (pe_call (ok_closed_up T) (hr.mono (by decide)) (by rfl) T.closed_up.g T.closed_up.k T.closed_up.b .nil pass0 (pa_cons (pv 1) pa_nil)) (pv 1) (nomark _))))))), ?_⟩
    rcases hx with ⟨hw, rfl⟩ | ⟨t, ns, rfl, ht, hn, hlt, rfl⟩
    · refine ⟨_, rfl, _, rfl, p, row, x, 40, false, rfl, hs, hl, hw, fun H1 s1 => ⟨_, rfl, iteF (k H1 s1)⟩⟩
    · refine ⟨_, rfl, _, rfl, p, row, _, 40, true, rfl, hs, hl, word_wv h2 ht (by omega) (by omega) hlt, fun H1 s1 => ⟨_, rfl, iteT ?_⟩⟩
      have ht1 := same_seqT s1 ht
      refine ⟨_, rfl, t, _, rfl, .inr ht1, _, _, rfl, rfl, _, rfl, ?_⟩
      rw [List.length_map]
      refine ite2 (fun g => ?_) (fun g => ?_)
      · have hne : ns ≠ [] := fun z => by
          subst z
          simp at g
        refine ⟨_, rfl, t, ns, rfl, ht1, by omega, (fun y hy => by have := hlt y hy; omega), fun q H2 s2 hq => ?_⟩
        have ht2 := same_seqT s2 ht1
        refine ⟨_, rfl, .tuple ((closedT ns).map PyData.int), .tuple (ns.map PyData.int), .tup hq (dpAll_ints _ _), .tup ht2 (dpAll_ints _ _), shapedAll_ints _, shapedAll_ints _, ?_⟩
        have ev : PyData.eqv (.tuple ((closedT ns).map PyData.int)) (.tuple (ns.map PyData.int)) = decide (closedT ns = ns) := eqv_ints (closedT ns) ns
        rw [ev]
        have eb : decide (closedT ns = ns) = decide (ns ≠ [] ∧ closedT ns = ns) := by simp [hne]
        rw [eb]
        exact k H2 (s1.trans s2)
      · have hne : ns = [] := by
          have : ¬ (0 : Int) < (ns.length : Int) := by simpa using g
          exact List.length_eq_zero_iff.mp (by omega)
        have eb : decide (ns ≠ [] ∧ closedT ns = ns) = false := by simp [hne]
        rw [eb] at k
        have g' : decide (0 < (ns.length : Int)) = false := by simp [hne]
        exact k H1 s1
end
end Tt
set_option maxRecDepth 100000
set_option maxHeartbeats 4000000
namespace Tt
open PySem L2
section
variable {P : Program} {w : World} {K : PySem.W.Frag} {mg : Str → Option Value} {base : Heap}
def spCheckRound (T : Txt K mg) : Sp := fun vs H Q E => ∃ (p : Addr) (row : List Int) (x : V) (b : Bool), vs = [.ref p, x] ∧ SkAt T H p row ∧ (row.length ≤ 12 ∧ row.length % 2 = 0) ∧ RdOr row x H K b ∧ (b = true → ∀ H', Same H H' → Q .non H') ∧ (b = false → ∀ H', Same H H' → E (.ref T.BadRound.C) none H')
theorem ok_check_round (T : Txt K mg) : FnOk P w K mg base (L2.CX P w) 7 T.check_round.a T.check_round.fd ["skin", "loop"] (spCheckRound T) := by
  refine T.check_round.F.okX sc_check_round (fun vs H Q E h => ?_) (fun cdv A outer s H vs Q E hr h => ?_)
  · obtain ⟨p, row, x, b, rfl, _⟩ := h
    rfl
  · obtain ⟨p, row, x, b, rfl, hs, hl, hx, k1, k2⟩ := h
    refine ⟨_, (pss_one (ps_if (pt_not (pt_val (pe_call (ok_is_fit_round T) (hr.mono (by decide)) (by rfl) T.is_fit_round.g T.is_fit_round.k T.is_fit_round.b .nil pass0 (pa_cons (pv 0) (pa_cons (pv 1) pa_nil)))))
      (pss_one (ps_raise rfl (takes_of rfl rfl rfl rfl) (pmk_own PySem.F.excBase_ValueError T.BadRound.q T.BadRound.g T.BadRound.k (raises_own T.BadRound.ec.hs T.BadRound.ty) rfl)))
      pss_nil)), ?_⟩
    refine ⟨_, rfl, _, rfl, p, row, x, b, rfl, hs, hl, hx, fun H1 s1 => ⟨_, rfl, ?_⟩⟩
    cases b with
    | true => exact iteF (k1 rfl H1 s1)
    | false =>
      refine iteT ?_
      exact k2 rfl H1 s1
def spTurnedAbout (T : Txt K mg) : Sp := fun vs H Q E => ∃ (v x : V), vs = [v, x] ∧ SkOr T v H E fun p row =>
  (RdOr row x H K false ∧ ∀ H', Same H H' → E (.ref T.BadRound.C) none H') ∨
  ∃ (t : Addr) (ns : List Int), x = .ref t ∧ SqT K H t (ns.map V.int) ∧ ns.length ≤ 40 ∧ Lt (row.length : Int) ns ∧ ns ≠ [] ∧ closedT ns = ns ∧ ∀ q H', Same H H' → SqT K H' q ((leastT (Wd.undo ns)).map V.int) → Q (.ref q) H'
theorem ok_turned_about (T : Txt K mg) : FnOk P w K mg base (L2.CX P w) 8 T.turned_about.a T.turned_about.fd ["skin", "loop"] (spTurnedAbout T) := by
  refine T.turned_about.F.okX sc_turned_about (fun vs H Q E h => ?_) (fun cdv A outer s H vs Q E hr h => ?_)
  · obtain ⟨v, x, rfl, _⟩ := h
    rfl
  · obtain ⟨v, x, rfl, h⟩ := h
    refine ⟨_, (pss_cons (ps_expr (pe_callS (ok_check_skin T) (hr.mono (by decide)) (by rfl) T.check_skin.g T.check_skin.k T.check_skin.b (fun σ => passAt (takes_of rfl rfl rfl rfl) σ) (pa_cons (pv 0) pa_nil)))
    (pss_cons (ps_expr (pe_callS (ok_check_round T) (hr.mono (by decide)) (by rfl) T.check_round.g T.check_round.k T.check_round.b (fun σ => passAt (takes_of rfl rfl rfl rfl) σ) (pa_cons (pv 0) (pa_cons (pv 1) pa_nil))))
    (pss_one (ps_ret (pe_call (ok_gone_round_back T) (hr.mono (by decide)) (by rfl) T.gone_round_back.g T.gone_round_back.k T.gone_round_back.b .nil pass0 (pa_cons (pv 1) pa_nil)))))), ?_⟩
    rcases h with ⟨hv, he⟩ | ⟨p, row, rfl, hs, hl, h⟩
    · exact ⟨v, rfl, v, false, rfl, hv, (fun z => nomatch z), fun _ => he⟩
    · refine ⟨_, rfl, _, true, rfl, hs.v, (fun _ => ?_), fun z => nomatch z⟩
      rcases h with ⟨hw, k⟩ | ⟨t, ns, rfl, ht, hn, hb, hne, hc, k⟩
      · exact ⟨_, rfl, _, rfl, p, row, x, false, rfl, hs, hl, hw, (fun z => nomatch z), fun _ => k⟩
      · refine ⟨_, rfl, _, rfl, p, row, _, true, rfl, hs, hl, .inr ⟨t, ns, rfl, ht, hn, hb, (decide_eq_true ⟨hne, hc⟩).symm⟩, (fun _ H1 s1 => ?_), fun z => nomatch z⟩
        refine ⟨_, rfl, t, ns, rfl, same_seqT s1 ht, hne, by omega, (fun x hx => ?_), fun q H' s2 hq => k q H' (s1.trans s2) hq⟩
        have := hb x hx
        have := hl.1
        omega
end
end Tt
set_option maxRecDepth 100000
set_option maxHeartbeats 4000000
namespace Tt
open PySem L2
open LamX (Tabs TabS TabB ExtN CodeO tLam)
structure FnG (P : Program) (w : World) (K : PySem.W.Frag) (mg : Str → Option Value) (base : Heap) (CX : CXT) (k : Nat) (f : Addr) (fd : FuncData) (ps : List Str) (sp : Sp) : Prop where
  len : ∀ vs H Q E, sp vs H Q E → vs.length = ps.length
  run : ∀ (A : Around) (outer : List Env) (s : Shared) (H : Hp) (args : Args) (us : List Value) (vs : List V) (Q : VK) (E : XK), A.guards = some [] → Room k A → Env0 P w K mg base A outer s H → BindsTo s fd args (ps.zip us) → Vals vs us → sp vs H Q E →
    codeAny (model P w) A (.call (.ref f) args) (CR CX outer P w H s Q E) s
theorem FunC.okG {P : Program} {w : World} {K : PySem.W.Frag} {mg : Str → Option Value} {base : Heap} {x qual : Str} {st : Stmt} {f : Addr} {fd : FuncData} {cdv : Value} {N ps : List Str} {k : Nat} {sp : Sp} (F : FunC K x qual st f fd cdv) (S : FnScope N ps (defScope st)) (len : ∀ vs H Q E, sp vs H Q E → vs.length = ps.length)
    (body : ∀ (A : Around) (outer : List Env) (s : Shared) (H : Hp) (vs : List V) (Q : VK) (E : XK), A.guards = some [] → Room k (A.deeper (PyProof.Rows.envOfC qual (defScope st) s.heap.objs.size f cdv)) → sp vs H Q E →
      ∃ t, PSs (cxOf CX0 P w K mg base N qual (defScope st) f cdv A outer s H E).nox (defBody st) t ∧ t { nx := fun _ H' => Q .non H', rt := Q } (L2.start N vs) H) : FnG P w K mg base CX0 (k + 1) f fd ps sp := by
  refine ⟨len, fun A outer s H args us vs Q E hg hr e0 hb r hsp => ?_⟩
  obtain ⟨oc, od, kV, doc, pm, an, ct, osl, rfl, lk, hc⟩ := F.ex
  refine LamX.run_ofS (N := N) (ps := ps) (k := k) (us := us) (vs := vs) lk hc S hr e0 hb r (len _ _ _ _ hsp) fun hr' => ?_
  obtain ⟨t, h1, h2⟩ := body A outer s H vs Q E hg hr' hsp
  exact ⟨t, h1.nox, h2⟩
theorem FunG {P : Program} {w : World} {K : PySem.W.Frag} {mg : Str → Option Value} {base : Heap} {x qual : Str} {st : Stmt} {f : Addr} {fd : FuncData} {N ps : List Str} {k : Nat} {sp : Sp} (F : Fun K x qual st f fd) (S : FnScope N ps (defScope st)) (len : ∀ vs H Q E, sp vs H Q E → vs.length = ps.length)
    (body : ∀ (cdv : Value) (A : Around) (outer : List Env) (s : Shared) (H : Hp) (vs : List V) (Q : VK) (E : XK), A.guards = some [] → Room k (A.deeper (PyProof.Rows.envOfC qual (defScope st) s.heap.objs.size f cdv)) → sp vs H Q E →
      ∃ t, PSs (cxOf CX0 P w K mg base N qual (defScope st) f cdv A outer s H E).nox (defBody st) t ∧ t { nx := fun _ H' => Q .non H', rt := Q } (L2.start N vs) H) : FnG P w K mg base CX0 (k + 1) f fd ps sp := by
  refine ⟨len, fun A outer s H args us vs Q E hg hr e0 hb r hsp => ?_⟩
  obtain ⟨oc, od, kV, doc, pm, an, cdv, ct, osl, rfl, lk, hc⟩ := F.ex
  refine LamX.run_ofS (N := N) (ps := ps) (k := k) (us := us) (vs := vs) lk hc S hr e0 hb r (len _ _ _ _ hsp) fun hr' => ?_
  obtain ⟨t, h1, h2⟩ := body cdv A outer s H vs Q E hg hr' hsp
  exact ⟨t, h1.nox, h2⟩
section
variable {X : Cx} {CX : CXT} {k : Nat} {f : Addr} {fd : FuncData} {ps : List Str} {sp : Sp} {ds : List Value} {dvs : List V} {E : XK} {x : Str} {p pos : Pos} {e : Expr} {es : List Expr} {t : TA}
theorem pe_callG (F : FnG X.prog X.w X.K X.mg X.base CX k f fd ps sp) (hgd : X.A.guards = some []) (hr : Room k X.A) (hg : Gl X x) (hm : X.mg x = some (.ref f)) (hk : PySem.W.keepIn X.K (.ref f) = true) (hb : Binds X.K fd ps ds) (hd : Vals dvs ds) (hx : Passes CX X E)
    (ha : PA X (e :: es) t) (hdb : (x == ("__debug__" : Str)) = false := by decide) (he : starEach (e :: es) X.env = (false, eval e X.env) :: starEach es X.env := by rfl) (hpl : (backTo pos (starEach es X.env)).any (·.1) = false := by rfl) :
    PE X (.Call (.Name x p) (e :: es) [] pos) (tCall sp dvs E t) := by
  refine ⟨fun pins s σ H Q I h => ?_⟩
  refine wpAny_Call_Name_kw (ld_glob I hg hm ?_ hdb)
  refine PySem.W.callWith_K (h₀ := X.base) I.ok.mod.kin hk (thn (ha.run pos pins s σ H _ I h) fun us s1 ⟨vs, H1, I1, r, q⟩ => ⟨I1.kIn, ?_⟩) he hpl
  have r2 : Vals (vs ++ dvs) (us ++ ds) := r.append hd
  have hl : (us ++ ds).length = ps.length := by rw [← r2.length]; exact F.len _ _ _ _ q
  refine wpAny_call (codeAny_mono (F.run X.A X.stack s1 H1 ⟨us, []⟩ (us ++ ds) (vs ++ dvs) Q E hgd hr I1.env0 (hb s1 us I1.kIn hl) r2 q) fun r s' hq => ?_)
  cases r with
  | error e => exact hx pins σ H1 s1 e s' I1 hq
  | ok fl =>
    cases fl with
    | ret u => exact I1.after hq
    | next => exact False.elim hq
    | brk => exact False.elim hq
    | cont => exact False.elim hq
end
section
variable {X : Cx} {E : XK}
theorem pe_caught (T : Txt X.K X.mg) {Ts : List (Addr × Str)} {c P : Addr} {k : Nat} {ps : Arguments} {bd : Expr} {lsc : Scope} {t : XK → TE} {p lpos pos : Pos} (hg : Gl X "_law_caught") (TB : TabB X.base X.mg c P) (hcode : X.env.code = .ref c) (hmT : (P, X.env.qual ++ "<lambda>") ∈ Ts) (hu : ∀ p ∈ Ts, p.1 = P → p.2 = X.env.qual ++ "<lambda>")
    (hr : Room (k + 2) X.A) (L : LamX.LamS X.env.scope lsc) (hdef : defaultsOf ps X.env = ([], []))
    (noArgs : ∀ (q : Str) (cl : List (Str × Addr)) (pm cv ctv : Value), bindArgs (PySem.W.kla_fn "<lambda>" q ps bd lsc cl pm cv ctv) ⟨[], []⟩ = pure [])
    (body : ∀ (A : Around) (outer : List Env) (s : Shared) (H : Hp) (E : XK) (fl co : Addr), Room k (A.deeper (LamX.lamEnv X lsc s.heap.objs.size fl co)) → PE (LamX.lamCx X A outer s H E lsc fl co) bd (t E)) :
    PE X (.Call (.Name "_law_caught" p) [.Lambda ps bd lsc lpos] [] pos) (tLam Ts (TTc X.K T.RoundError.C) t) := by
  obtain ⟨oc, od, kV, doc, pm, an, cdv, ct, osl, e, lk, hc⟩ := T.l_caught.F.ex
  have hb := T.l_caught.b
  rw [e] at lk hb
  exact LamX.tt_lamcall hg T.l_caught.g T.l_caught.k lk hc hb sc_l_caught rfl (Or.inl rfl) (caught_gives T.RoundError.g) TB hcode hmT hu hr L hdef noArgs body
theorem lamP {A : Around} {outer : List Env} {s : Shared} {H : Hp} {lsc : Scope} {fl co : Addr} : Passes (L2.CX X.prog X.w) (LamX.lamCx X A outer s H E lsc fl co) E := passes_call (takes_of rfl rfl rfl rfl) fun _ _ _ _ h => h
end
section
variable {P : Program} {w : World} {K : PySem.W.Frag} {mg : Str → Option Value} {base : Heap}
theorem sqT_ext {H H' : Hp} {a : Addr} {xs : List V} (e : ExtN H H') (h : SqT K H a xs) : SqT K H' a xs := by
  rcases h with (h | ⟨o, h⟩) | h
  · exact .inl (.inl (e _ _ h fun _ z => nomatch z))
  · exact .inl (.inr ⟨o, e _ _ h fun _ z => nomatch z⟩)
  · exact .inr h
theorem sqL_ext {H H' : Hp} {a : Addr} {xs : List V} (e : ExtN H H') (h : SqL K H a xs) : SqL K H' a xs := by
  rcases h with (h | ⟨o, h⟩) | h
  · exact .inl (.inl (e _ _ h fun _ z => nomatch z))
  · exact .inl (.inr ⟨o, e _ _ h fun _ z => nomatch z⟩)
  · exact .inr h
theorem tyB_ext {H H' : Hp} {x : V} {S : String} (t : TyB K H x S) (e : ExtN H H') : TyB K H' x S := by
  cases t with
  | non => exact .non
  | bl b => exact .bl b
  | int i => exact .int i
  | str x => exact .str x
  | byt b => exact .byt b
  | @lst a xs h =>
    have h' : SqL K H' a xs := sqL_ext e h
    exact .lst h'
  | tup h => exact .tup (sqT_ext e h)
  | dK h => exact .dK (e _ _ h fun _ z => nomatch z)
theorem wv_ext {m : Int} {row : List Int} {H H' : Hp} {x : V} {b : Bool} (h : WV K m row H x b) (e : ExtN H H') : WV K m row H' x b := by
  cases h with
  | tup h n ty => exact .tup (sqT_ext e h) n fun y hy => (ty y hy).elim fun S t => ⟨S, tyB_ext t e⟩
  | non h n => exact .non (tyB_ext h e) n
theorem fzT_ext {H H' : Hp} {a : Addr} {xs : List V} (e : ExtN H H') (h : FzT H a xs) : FzT H' a xs := by
  obtain ⟨ob, h1, h2⟩ := h
  exact ⟨ob, e _ _ h1 (fun _ z => nomatch z), h2⟩
theorem skAt_ext {T : Txt K mg} {H H' : Hp} {p : Addr} {row : List Int} (h : SkAt T H p row) (e : ExtN H H') : SkAt T H' p row := by
  obtain ⟨dx, r, q, h1, h2, h3⟩ := h
  exact ⟨dx, r, q, e _ _ h1 (fun _ z => nomatch z), fzT_ext e h2, fzT_ext e h3⟩
theorem drOk_ext {D : Dw} {H H' : Hp} (h : DrOk D H) (e : ExtN H H') : DrOk D H' := by
  obtain ⟨ls, cs, r, t, d⟩ := h
  exact ⟨ls, cs, r, t, e _ _ d.hd (fun _ z => nomatch z), e _ _ d.hl (fun _ z => nomatch z), e _ _ d.hc (fun _ z => nomatch z), d.ne, d.nl, d.nc⟩
def KpN (D : Dw) (H H' : Hp) : Prop := ∀ b o, H b = some o → b ≠ D.d → b ≠ D.l → (∀ ps, o ≠ .tbl ps) → H' b = some o
theorem KpN.of {D : Dw} {H H' : Hp} (k : Kp D H H') : KpN D H H' := fun b o h n m _ => k b o h n m
theorem KpN.ext {D : Dw} {H H' : Hp} (k : ExtN H H') : KpN D H H' := fun b o h _ _ t => k b o h t
theorem KpN.trans {D : Dw} {H H1 H2 : Hp} (a : KpN D H H1) (b : KpN D H1 H2) : KpN D H H2 := fun c o h n m t => b c o (a c o h n m t) n m t
theorem tabs_kp {D : Dw} {Ts : List (Addr × Str)} {H H' : Hp} (t : Tabs Ts H) (dr : DrOk D H) (k : Kp D H H') : Tabs Ts H' := fun p hp => by
  obtain ⟨ps, h1, h2, h3⟩ := t p hp
  obtain ⟨ls, cs, r, tt, d⟩ := dr
  refine ⟨ps, k _ _ h1 (d.dne h1 fun _ z => nomatch z) (d.lne h1 fun _ z => nomatch z), h2, fun pos cv hc => ?_⟩
  obtain ⟨c, e1, e2⟩ := h3 pos cv hc
  exact ⟨c, e1, k _ _ e2 (d.dne e2 fun _ z => nomatch z) (d.lne e2 fun _ z => nomatch z)⟩
theorem exm_S (T : Txt K mg) : PySem.W.exmOne K (.ref T.BadSkin.C) (.ref T.RoundError.C) = some true := PySem.W.exm_ref T.RoundError.ec.hs T.RoundError.ec.hd T.RoundError.ty T.sSR
def spSkinErr (T : Txt K mg) : Sp := fun vs H Q _ => ∃ (a d : Addr), vs = [.ref a] ∧ H a = some (exh (.ref T.BadSkin.C) (some d) a) ∧ H d = some (.xd [("part", .non)]) ∧ Q (.bl true) H
theorem ok_l_skin_error (T : Txt K mg) : FnOk P w K mg base CX0 1 T.l_skin_error.a T.l_skin_error.fd ["error"] (spSkinErr T) := by
  refine T.l_skin_error.F.ok sc_l_skin_error (fun vs H Q E h => ?_) (fun cdv A outer s H vs Q E hr h => ?_)
  · obtain ⟨a, d, rfl, _⟩ := h
    rfl
  · obtain ⟨a, d, rfl, h1, h2, k⟩ := h
    refine ⟨_, (pss_one (ps_ret (pe_and (pe_callB call_isA (by rfl) T.zisinstance (by decide +kernel) (pa_cons (pv 0) (pa_cons (pe_glob (v := .ref T.BadSkin.C) rfl T.BadSkin.g rfl) pa_nil))) (pe_one (pe_cmpR op_isN (pe_xfH (pv 0)) pe_non (nomark _)))))), ?_⟩
    refine ⟨_, rfl, .inl ⟨a, T.BadSkin.C, some d, _, _, true, rfl, h1, .inr ⟨d, _, rfl, h2⟩, T.BadSkin.ec, .own T.BadSkin.C, T.kSkSk, _, rfl, iteT ?_⟩⟩
    exact ⟨_, rfl, a, T.BadSkin.C, d, _, .non, rfl, h1, h2, T.BadSkin.xf, T.BadSkin.n, rfl, rfl, k⟩
def NoSk (T : Txt K mg) (J : Hp → Prop) (Q : VK) : Prop := ∀ a d H', J H' → H' a = some (exh (.ref T.BadSkin.C) (some d) a) → H' d = some (.xd [("part", .non)]) → Q (.ref a) H'
theorem skErr_of {T : Txt K mg} {J : Hp → Prop} {H1 : Hp} {Q : VK} (js : ∀ H', Same H1 H' → J H') (k : NoSk T J Q) : SkErr T H1 (fun cls d H' => PySem.W.exmOne K cls (.ref T.RoundError.C) = some true ∧ ∀ a, H' a = none → Q (.ref a) (upd H' a (exh cls d a))) := fun d H' s e =>
  ⟨exm_S T, fun a ha => k a d _ (js _ (s.trans (same_new ha))) upd_same (by rw [upd_ne (ne_of_none e ha)]; exact e)⟩
end
end Tt
set_option maxRecDepth 100000
set_option maxHeartbeats 4000000
namespace Tt
open PySem L2
open LamX (Tabs TabS TabB ExtN CodeO tLam)
section
variable {P : Program} {w : World} {K : PySem.W.Frag} {mg : Str → Option Value} {base : Heap}
theorem nil_i {σ : L2.St} {H : Hp} {Q : List V → Hp → Prop} (h : Q [] H) : tNil σ H Q := h
theorem call_isAK {X : Cx} (h : X.K = K) : CallR X (.builtin "isinstance") (rIsA K) := by subst h; exact call_isA
theorem TyB.x {H : Hp} {x : V} {S : String} (t : TyB K H x S) : TyX K H x (.type S) := by
  cases t with
  | non => exact .base .non
  | bl b => exact .base (.bl b)
  | int i => exact .base (.int i)
  | str x => exact .base (.str x)
  | byt b => exact .byt b
  | lst h =>
    rcases h with (h | ⟨o, h⟩) | ⟨o, its, n, h1, h2, _⟩
    · exact .base (.lst h)
    · exact .base (.frz h)
    · exact .kList h1 h2
  | tup h =>
    rcases h with (h | ⟨o, h⟩) | ⟨o, its, n, h1, h2, _⟩
    · exact .base (.tup h)
    · exact .fTuple h
    · exact .kTuple h1 h2
  | dK h => exact .base (.dK h)
theorem kit_self (S : String) : PySem.W.kitOne K (.type S) (.type S) = some true := by
  unfold PySem.W.kitOne
  rw [if_pos (by simp)]
inductive Itm : V → Prop where
  | int (i : Int) : Itm (.int i)
  | bl (b : Bool) : Itm (.bl b)
  | non : Itm .non
  | str (s : Str) : Itm (.str s)
theorem Itm.ty {H : Hp} {x : V} (h : Itm x) : ∃ S, TyB K H x S := by
  cases h with
  | int i => exact ⟨_, .int i⟩
  | bl b => exact ⟨_, .bl b⟩
  | non => exact ⟨_, .non⟩
  | str s => exact ⟨_, .str s⟩
def intsOf : List V → List Int
  | [] => []
  | .int i :: r => i :: intsOf r
  | _ :: r => intsOf r
theorem intsOf_map : ∀ ns : List Int, intsOf (ns.map V.int) = ns
  | [] => rfl
  | a :: r => congrArg (a :: ·) (intsOf_map r)
theorem intsOf_all {lo hi : Int} : ∀ {xs : List V}, xs.all (inB lo hi) = true → xs = (intsOf xs).map V.int ∧ ∀ x ∈ intsOf xs, lo ≤ x ∧ x ≤ hi
  | [], _ => ⟨rfl, fun _ h => absurd h (by simp [intsOf])⟩
  | y :: r, h => by
    rw [List.all_cons, Bool.and_eq_true] at h
    obtain ⟨h1, h2⟩ := intsOf_all h.2
    cases y with
    | int i =>
      have hi : (decide (lo ≤ i) && decide (i ≤ hi)) = true := h.1
      rw [Bool.and_eq_true, decide_eq_true_eq, decide_eq_true_eq] at hi
      refine ⟨congrArg (V.int i :: ·) h1, fun x hx => ?_⟩
      rcases List.mem_cons.mp (show x ∈ i :: intsOf r from hx) with rfl | hx
      · exact hi
      · exact h2 x hx
    | _ => exact absurd h.1 (by simp [inB])
theorem Itm.ints {ns : List Int} : ∀ y ∈ ns.map V.int, Itm y := fun y hy => by
  obtain ⟨z, _, rfl⟩ := List.mem_map.mp hy
  exact .int z
theorem Itm.app {xs ys : List V} (h : ∀ y ∈ xs, Itm y) (k : ∀ y ∈ ys, Itm y) : ∀ y ∈ xs ++ ys, Itm y := fun y hy => (List.mem_append.mp hy).elim (h y) (k y)
theorem flat_mem {xs : List V} {n : Nat} {y : V} (h : y ∈ (List.replicate n xs).flatten) : y ∈ xs := by
  obtain ⟨l, hl, hy⟩ := List.mem_flatten.mp h
  rw [List.eq_of_mem_replicate hl] at hy
  exact hy
theorem strip_len : ∀ (n : Nat) (w : List Int), w.length ≤ n → (Wd.strip w).length ≤ w.length
  | 0, w, h => by
    unfold Wd.strip
    split
    · omega
    · exact Nat.le_refl _
  | n + 1, w, h => by
    unfold Wd.strip
    split
    · have hl : ((w.drop 1).dropLast).length = w.length - 1 - 1 := by simp
      refine Nat.le_trans (strip_len n _ (by omega)) ?_
      omega
    · exact Nat.le_refl _
theorem closedT_len (ns : List Int) : (closedT ns).length ≤ ns.length := by
  unfold closedT
  have h1 : (Wd.core ns).length ≤ ns.length := Nat.le_trans (strip_len _ _ (Nat.le_refl _)) (Wd.len_freed ns)
  by_cases hc : Wd.core ns = []
  · rw [hc, leastT_nil]
    exact Nat.zero_le _
  · obtain ⟨u, v, e1, e2⟩ := leastT_turn hc
    rw [e2, List.length_append]
    rw [e1, List.length_append] at h1
    omega
def wd2 (a b : List Int) : PyData := .list [.tuple (a.map PyData.int), .tuple (b.map PyData.int)]
theorem shA : ∀ a : List Int, (∀ x ∈ a, 0 ≤ x ∧ x < 12) → PyData.showableAll (a.map PyData.int) = true
  | [], _ => rfl
  | x :: a, h => by
    have h1 := h x List.mem_cons_self
    have h2 : (decide (x.natAbs.log2 < 1920)) = true := by
      have : x.natAbs < 12 := by omega
      have : x.natAbs.log2 ≤ x.natAbs := Nat.log2_le_self _
      exact decide_eq_true (by omega)
    show (decide (x.natAbs.log2 < 1920) && PyData.showableAll (a.map PyData.int)) = true
    rw [h2, shA a fun y hy => h y (List.mem_cons_of_mem _ hy)]
    rfl
theorem hdA : ∀ a : List Int, PyData.hasDictAll (a.map PyData.int) = false
  | [] => rfl
  | x :: a => by
    show (false || PyData.hasDictAll (a.map PyData.int)) = false
    rw [hdA a]
    rfl
theorem dpA : ∀ a : List Int, PyData.depthAll (a.map PyData.int) = 0
  | [] => rfl
  | x :: a => by
    show max 0 (PyData.depthAll (a.map PyData.int)) = 0
    rw [dpA a]
    rfl
theorem digits2 {x : Int} (h0 : 0 ≤ x) (h1 : x < 12) : (PyData.shown (.int x)).length ≤ 2 := by
  have : x = 0 ∨ x = 1 ∨ x = 2 ∨ x = 3 ∨ x = 4 ∨ x = 5 ∨ x = 6 ∨ x = 7 ∨ x = 8 ∨ x = 9 ∨ x = 10 ∨ x = 11 := by omega
  rcases this with rfl | rfl | rfl | rfl | rfl | rfl | rfl | rfl | rfl | rfl | rfl | rfl <;> decide +kernel
theorem lenA : ∀ a : List Int, (∀ x ∈ a, 0 ≤ x ∧ x < 12) → ((PyData.shownAll (a.map PyData.int)).map (·.length)).sum ≤ 2 * a.length ∧ (PyData.shownAll (a.map PyData.int)).length = a.length
  | [], _ => ⟨Nat.le_refl _, rfl⟩
  | x :: a, h => by
    have h1 := h x List.mem_cons_self
    obtain ⟨i1, i2⟩ := lenA a fun y hy => h y (List.mem_cons_of_mem _ hy)
    have d := digits2 h1.1 h1.2
    constructor
    · show (PyData.shown (.int x)).length + ((PyData.shownAll (a.map PyData.int)).map (·.length)).sum ≤ 2 * (a.length + 1)
      omega
    · show (PyData.shownAll (a.map PyData.int)).length + 1 = a.length + 1
      omega
theorem len2 {a b : List Int} (ha : ∀ x ∈ a, 0 ≤ x ∧ x < 12) (hb : ∀ x ∈ b, 0 ≤ x ∧ x < 12) (la : a.length ≤ 200) (lb : b.length ≤ 200) : (wd2 a b).shown.length ≤ sizeLine := by
  have e : (wd2 a b).shown = listText [tupleText (PyData.shownAll (a.map PyData.int)), tupleText (PyData.shownAll (b.map PyData.int))] := rfl
  rw [e]
  have h0 := listText_len_le [tupleText (PyData.shownAll (a.map PyData.int)), tupleText (PyData.shownAll (b.map PyData.int))]
  have h1 := tupleText_len_le (PyData.shownAll (a.map PyData.int))
  have h2 := tupleText_len_le (PyData.shownAll (b.map PyData.int))
  obtain ⟨a1, a2⟩ := lenA a ha
  obtain ⟨b1, b2⟩ := lenA b hb
  have hz : (10000 : Nat) ≤ sizeLine := by decide
  simp only [List.map_cons, List.map_nil, List.sum_cons, List.sum_nil, List.length_cons, List.length_nil] at h0
  omega
theorem show2 {H : Hp} {Q : VK} {l p q : Addr} {a b : List Int} (ha : ∀ x ∈ a, 0 ≤ x ∧ x < 12) (hb : ∀ x ∈ b, 0 ≤ x ∧ x < 12) (la : a.length ≤ 200) (lb : b.length ≤ 200) (hl : SqL K H l [.ref p, .ref q]) (hp : SqT K H p (a.map V.int)) (hq : SqT K H q (b.map V.int))
    (k : Q (.str (wd2 a b).shown) H) : rShow K [.ref l] H Q := by
  refine ⟨l, wd2 a b, rfl, .lst hl (.cons (.tup hp (dpAll_ints _ _)) (.cons (.tup hq (dpAll_ints _ _)) .nil)), ?_, ?_, ?_, len2 ha hb la lb, k⟩
  · show (PyData.showableAll (a.map PyData.int) && (PyData.showableAll (b.map PyData.int) && true)) = true
    rw [shA a ha, shA b hb]
    rfl
  · show (PyData.hasDictAll (a.map PyData.int) || (PyData.hasDictAll (b.map PyData.int) || false)) = false
    rw [hdA a, hdA b]
    rfl
  · show max (PyData.depthAll (a.map PyData.int) + 1) (max (PyData.depthAll (b.map PyData.int) + 1) 0) + 1 ≤ 60
    rw [dpA a, dpA b]
    decide
theorem let_rest {J C : Hp → Prop} {G : Prop} (main : (∀ H', J H' → C H') → G) (rest : ∀ H', J H' → C H') : G := main rest
theorem eqvT : ∀ a : List Int, PyData.eqv (.tuple (a.map PyData.int)) (.tuple (a.map PyData.int)) = true := fun a => by
  have h := eqv_ints a a
  rw [decide_eq_true rfl] at h
  exact h
theorem shapedT (a : List Int) : SeqAt.shaped (.tuple (a.map PyData.int)) = true := shapedAll_ints a
theorem ne_same {H : Hp} {Q : VK} {p q : Addr} {a : List Int} (hp : SqT K H p (a.map V.int)) (hq : SqT K H q (a.map V.int)) (k : Q (.bl false) H) : rNeD K (.ref p) (.ref q) H Q := by
  refine ⟨.tuple (a.map PyData.int), .tuple (a.map PyData.int), .tup hp (dpAll_ints _ _), .tup hq (dpAll_ints _ _), shapedT a, shapedT a, ?_⟩
  rw [eqvT]
  exact k
theorem let_val {J C : V → Hp → Prop} {G : Prop} (main : (∀ v H', J v H' → C v H') → G) (rest : ∀ v H', J v H' → C v H') : G := main rest
theorem show1 {H : Hp} {Q : VK} {p : Addr} {a : List Int} (ha : ∀ x ∈ a, 0 ≤ x ∧ x < 12) (la : a.length ≤ 200) (hp : SqT K H p (a.map V.int))
    (k : Q (.str (PyData.tuple (a.map PyData.int)).shown) H) : rShow K [.ref p] H Q := by
  refine ⟨p, .tuple (a.map PyData.int), rfl, .tup hp (dpAll_ints _ _), ?_, ?_, ?_, ?_, k⟩
  · show PyData.showableAll (a.map PyData.int) = true
    exact shA a ha
  · show PyData.hasDictAll (a.map PyData.int) = false
    exact hdA a
  · show PyData.depthAll (a.map PyData.int) + 1 ≤ 60
    rw [dpA a]
    decide
  · have e : (PyData.tuple (a.map PyData.int)).shown = tupleText (PyData.shownAll (a.map PyData.int)) := rfl
    rw [e]
    have h1 := tupleText_len_le (PyData.shownAll (a.map PyData.int))
    obtain ⟨a1, a2⟩ := lenA a ha
    have hz : (10000 : Nat) ≤ sizeLine := by decide
    omega
theorem KpN.at {D : Dw} {H H' : Hp} {b : Addr} {o : HO} (k : KpN D H H') (dr : DrOk D H) (h : H b = some o) (n1 : ∀ kvs, o ≠ .dK kvs) (n2 : ∀ xs, o ≠ .lst xs) (n3 : ∀ ps, o ≠ .tbl ps) : H' b = some o := by
  obtain ⟨ls, cs, r, t, d⟩ := dr
  exact k _ _ h (d.dne h n1) (d.lne h n2) n3
theorem SqT.kpn {D : Dw} {H H' : Hp} {a : Addr} {xs : List V} (h : SqT K H a xs) (dr : DrOk D H) (k : KpN D H H') : SqT K H' a xs := by
  rcases h with (h | ⟨o, h⟩) | h
  · exact .inl (.inl (k.at dr h (fun _ z => nomatch z) (fun _ z => nomatch z) (fun _ z => nomatch z)))
  · exact .inl (.inr ⟨o, k.at dr h (fun _ z => nomatch z) (fun _ z => nomatch z) (fun _ z => nomatch z)⟩)
  · exact .inr h
theorem FzT.kpn {D : Dw} {H H' : Hp} {a : Addr} {xs : List V} (h : FzT H a xs) (dr : DrOk D H) (k : KpN D H H') : FzT H' a xs := by
  obtain ⟨ob, h1, h2⟩ := h
  exact ⟨ob, k.at dr h1 (fun _ z => nomatch z) (fun _ z => nomatch z) (fun _ z => nomatch z), h2⟩
theorem SkAt.kpn {T : Txt K mg} {D : Dw} {H H' : Hp} {p : Addr} {row : List Int} (h : SkAt T H p row) (dr : DrOk D H) (k : KpN D H H') : SkAt T H' p row := by
  obtain ⟨dx, r, q, h1, h2, h3⟩ := h
  exact ⟨dx, r, q, k.at dr h1 (fun _ z => nomatch z) (fun _ z => nomatch z) (fun _ z => nomatch z), FzT.kpn h2 dr k, FzT.kpn h3 dr k⟩
theorem ixN_n {n j : Nat} (h : j < n) : ixN n (j : Int) = some j := by
  unfold ixN
  rw [if_pos (by omega), if_pos (by omega)]
  rfl
theorem closedT_mem {ns : List Int} {x : Int} (h : x ∈ closedT ns) : x ∈ ns := by
  unfold closedT at h
  have h1 : x ∈ Wd.core ns := by
    by_cases hc : Wd.core ns = []
    · rw [hc, leastT_nil] at h
      cases h
    · obtain ⟨u, v, e1, e2⟩ := leastT_turn hc
      rw [e2] at h
      rw [e1]
      rcases List.mem_append.mp h with h | h
      · exact List.mem_append_right _ h
      · exact List.mem_append_left _ h
  have strip_mem : ∀ (n : Nat) (w : List Int), w.length ≤ n → ∀ y ∈ Wd.strip w, y ∈ w := by
    intro n
    induction n with
    | zero =>
      intro w hw y hy
      unfold Wd.strip at hy
      split at hy
      · omega
      · exact hy
    | succ n ih =>
      intro w hw y hy
      unfold Wd.strip at hy
      split at hy
      · have hl : ((w.drop 1).dropLast).length = w.length - 1 - 1 := by simp
        exact List.mem_of_mem_drop ((List.dropLast_sublist _).subset (ih _ (by omega) y hy))
      · exact hy
  exact Wd.mem_freed (strip_mem _ _ (Nat.le_refl _) x h1)
end
end Tt
set_option maxRecDepth 100000
set_option maxHeartbeats 4000000
namespace Wd
def pow (t : List Int) : Nat → List Int
  | 0 => []
  | n + 1 => t ++ pow t n
theorem pow_rep (t : List Int) : ∀ n, (List.replicate n t).flatten = pow t n
  | 0 => rfl
  | n + 1 => by rw [List.replicate_succ, List.flatten_cons, pow_rep t n]; rfl
theorem pow_one (t : List Int) : pow t 1 = t := List.append_nil t
theorem pow_add (t : List Int) : ∀ a b, pow t (a + b) = pow t a ++ pow t b
  | 0, b => by rw [Nat.zero_add]; rfl
  | a + 1, b => by
    rw [Nat.add_right_comm]
    show t ++ pow t (a + b) = t ++ pow t a ++ pow t b
    rw [pow_add t a b, List.append_assoc]
theorem pow_len (t : List Int) : ∀ n, (pow t n).length = n * t.length
  | 0 => (Nat.zero_mul _).symm
  | n + 1 => by
    show (t ++ pow t n).length = _
    rw [List.length_append, pow_len t n, Nat.succ_mul, Nat.add_comm]
theorem pow_pow (t : List Int) (a : Nat) : ∀ b, pow (pow t a) b = pow t (a * b)
  | 0 => rfl
  | b + 1 => by
    show pow t a ++ pow (pow t a) b = _
    rw [pow_pow t a b, ← pow_add, Nat.mul_succ, Nat.add_comm]
theorem pow_snoc (t : List Int) (n : Nat) : pow t (n + 1) = pow t n ++ t := by rw [pow_add, pow_one]
theorem pow_mem {t : List Int} {x : Int} : ∀ {n}, x ∈ pow t n → x ∈ t
  | 0, h => absurd h (by simp [pow])
  | n + 1, h => (List.mem_append.mp (show x ∈ t ++ pow t n from h)).elim id pow_mem
theorem pow_conj (u v : List Int) : ∀ n, v ++ pow (u ++ v) n ++ u = pow (v ++ u) (n + 1)
  | 0 => by rw [pow_one]; simp [pow]
  | n + 1 => by
    show v ++ (u ++ v ++ pow (u ++ v) n) ++ u = (v ++ u) ++ pow (v ++ u) (n + 1)
    rw [← pow_conj u v n]
    simp
theorem pow_split {t : List Int} : ∀ {k : Nat} {U W : List Int}, 1 ≤ k → pow t k = U ++ W → ∃ a b u v, t = u ++ v ∧ U = pow t a ++ u ∧ W = v ++ pow t b ∧ a + b + 1 = k
  | 0, _, _, h, _ => absurd h (by decide)
  | k + 1, U, W, _, h => by
    have h' : t ++ pow t k = U ++ W := h
    rcases app_split h' with ⟨m, e1, e2⟩ | ⟨m, e1, e2⟩
    ·
      by_cases hk : k = 0
      · subst hk
        have e3 : m = [] ∧ W = [] := by
          have : ([] : List Int) = m ++ W := e2
          have := congrArg List.length this
          rw [List.length_append, List.length_nil] at this
          exact ⟨List.length_eq_zero_iff.mp (by omega), List.length_eq_zero_iff.mp (by omega)⟩
        refine ⟨0, 0, t, [], by simp, ?_, ?_, rfl⟩
        · rw [e1, e3.1]
          simp [pow]
        · rw [e3.2]
          rfl
      · obtain ⟨a, b, u, v, h1, h2, h3, h4⟩ := pow_split (by omega) e2
        refine ⟨a + 1, b, u, v, h1, ?_, h3, by omega⟩
        rw [e1, h2]
        show _ = t ++ pow t a ++ u
        rw [List.append_assoc]
    · exact ⟨0, k, U, m, e1, rfl, e2, by omega⟩
theorem turn_pow {t y : List Int} {k : Nat} (hk : 1 ≤ k) (h : Turn (pow t k) y) : ∃ z, Turn t z ∧ y = pow z k := by
  obtain ⟨U, W, e1, rfl⟩ := h
  obtain ⟨a, b, u, v, rfl, rfl, rfl, e4⟩ := pow_split hk e1
  refine ⟨v ++ u, ⟨u, v, rfl, rfl⟩, ?_⟩
  rw [← e4, ← pow_conj, Nat.add_comm a b, pow_add]
  simp
theorem pow_turn {t z : List Int} (k : Nat) (h : Turn t z) : Turn (pow t k) (pow z k) := by
  obtain ⟨u, v, rfl, rfl⟩ := h
  cases k with
  | zero => exact Turn.refl _
  | succ k =>
    refine ⟨u, v ++ pow (u ++ v) k, ?_, (pow_conj u v k).symm⟩
    show u ++ v ++ pow (u ++ v) k = _
    rw [List.append_assoc]
theorem lt_app {x y : List Int} (hl : x.length = y.length) (h : x < y) (p q : List Int) : x ++ p < y ++ q := by
  induction x generalizing y with
  | nil =>
    cases y with
    | nil => exact absurd h (List.lt_irrefl _)
    | cons b y => cases hl
  | cons a x ih =>
    cases y with
    | nil => cases hl
    | cons b y =>
      rw [List.cons_append, List.cons_append, List.cons_lt_cons_iff]
      rw [List.cons_lt_cons_iff] at h
      rcases h with h | ⟨h1, h2⟩
      · exact .inl h
      · exact .inr ⟨h1, ih (by simpa using hl) h2⟩
theorem lt_pow {x y : List Int} (hl : x.length = y.length) {k : Nat} (hk : 1 ≤ k) (h : x < y) : pow x k < pow y k := by
  obtain ⟨k, rfl⟩ : ∃ j, k = j + 1 := ⟨k - 1, by omega⟩
  exact lt_app hl h _ _
theorem turn_len {a b : List Int} (h : Turn a b) : a.length = b.length := by
  obtain ⟨u, v, rfl, rfl⟩ := h
  rw [List.length_append, List.length_append, Nat.add_comm]
def CR (t : List Int) : Prop := Rd (t ++ t)
theorem rd_left {a b : List Int} (h : Rd (a ++ b)) : Rd a := rd_sub (u := []) (v := b) (by simpa using h)
theorem rd_right {a b : List Int} (h : Rd (a ++ b)) : Rd b := rd_sub (u := a) (v := []) (by simpa using h)
theorem CR.rd {t : List Int} (h : CR t) : Rd t := rd_left h
theorem rd_join {a b c : List Int} (hb : b ≠ []) (h1 : Rd (a ++ b)) (h2 : Rd (b ++ c)) : Rd (a ++ b ++ c) := by
  intro i x y hx hy
  by_cases hi : i + 1 < (a ++ b).length
  · rw [List.getElem?_append_left (by omega)] at hx
    rw [List.getElem?_append_left hi] at hy
    exact h1 i x y hx hy
  · have hl : 0 < b.length := List.length_pos_iff.mpr hb
    have hla : (a ++ b).length = a.length + b.length := List.length_append
    rw [List.append_assoc, List.getElem?_append_right (by omega)] at hx hy
    refine h2 (i - a.length) x y hx ?_
    rw [← hy]
    congr 1
    omega
theorem CR.pow {t : List Int} (ht : t ≠ []) (h : CR t) : ∀ n, Rd (Wd.pow t n)
  | 0 => rd_nil
  | 1 => by rw [pow_one]; exact h.rd
  | n + 2 => by
    show Rd (t ++ (t ++ Wd.pow t n))
    rw [← List.append_assoc]
    exact rd_join ht h (CR.pow ht h (n + 1))
theorem pow_ne {t : List Int} (ht : t ≠ []) {k : Nat} (hk : 1 ≤ k) : Wd.pow t k ≠ [] := fun z => by
  have := congrArg List.length z
  rw [pow_len, List.length_nil] at this
  have := List.length_pos_iff.mpr ht
  have : 0 < k * t.length := Nat.mul_pos (by omega) this
  omega
theorem cr_pow {t : List Int} (ht : t ≠ []) {k : Nat} (hk : 1 ≤ k) : CR (Wd.pow t k) ↔ CR t := by
  constructor
  · intro h
    unfold CR at h
    rw [← pow_add] at h
    obtain ⟨j, hj⟩ : ∃ j, k + k = 2 + j := ⟨k + k - 2, by omega⟩
    rw [hj, pow_add] at h
    have := rd_left h
    have e : Wd.pow t 2 = t ++ t := by
      show t ++ (t ++ []) = _
      rw [List.append_nil]
    rw [e] at this
    exact this
  · intro h
    unfold CR
    rw [← pow_add]
    exact h.pow ht _
theorem CR.turn {t z : List Int} (h : CR t) (k : Turn t z) : CR z := by
  by_cases ht : t = []
  · have := turn_len k
    rw [ht] at this
    have hz : z = [] := List.length_eq_zero_iff.mp this.symm
    rw [hz]
    exact rd_nil
  · obtain ⟨u, v, rfl, rfl⟩ := k
    have h3 := h.pow ht 3
    have e : Wd.pow (u ++ v) 3 = u ++ (v ++ u ++ (v ++ u)) ++ v := by
      show u ++ v ++ (u ++ v ++ (u ++ v ++ [])) = _
      simp
    rw [e] at h3
    exact rd_sub h3
theorem undo_app (a b : List Int) : undo (a ++ b) = undo b ++ undo a := by
  unfold undo
  rw [List.reverse_append, List.map_append]
theorem undo_pow (t : List Int) : ∀ k, undo (Wd.pow t k) = Wd.pow (undo t) k
  | 0 => rfl
  | k + 1 => by
    show undo (t ++ Wd.pow t k) = _
    rw [undo_app, undo_pow t k, pow_snoc]
theorem undo_turn {a b : List Int} (h : Turn a b) : Turn (undo a) (undo b) := by
  obtain ⟨u, v, rfl, rfl⟩ := h
  exact ⟨undo v, undo u, undo_app _ _, undo_app _ _⟩
theorem rd_undo {w : List Int} (h : Rd w) : Rd (undo w) := by
  intro i x y hx hy
  have li := (List.getElem?_eq_some_iff.mp hy).1
  rw [undo_len] at li
  unfold undo at hx hy
  rw [List.getElem?_map, List.getElem?_reverse (by omega)] at hx hy
  obtain ⟨a, ha, rfl⟩ := Option.map_eq_some_iff.mp hx
  obtain ⟨b, hb, rfl⟩ := Option.map_eq_some_iff.mp hy
  have hj : w.length - 1 - i = (w.length - 1 - (i + 1)) + 1 := by omega
  rw [hj] at ha
  have := h _ b a hb ha
  intro z
  rw [mate_mate] at z
  exact this z.symm
theorem CR.undo {t : List Int} (h : CR t) : CR (Wd.undo t) := by
  unfold CR
  rw [← undo_app]
  exact rd_undo h
theorem no_self : ∀ (n : Nat) (w : List Int), w.length ≤ n → Rd w → undo w = w → w = []
  | n, [], _, _, _ => rfl
  | n, [a], _, _, h => by
    have : mate a = a := by
      have h' : [mate a] = [a] := h
      exact (List.cons.inj h').1
    unfold mate at this
    split at this <;> omega
  | 0, a :: b :: r, h, _, _ => by simp at h
  | n + 1, a :: b :: r, h, hr, hu => by
    obtain ⟨m, c, e⟩ : ∃ m c, b :: r = m ++ [c] := ⟨(b :: r).dropLast, (b :: r).getLast (by simp), (List.dropLast_concat_getLast (by simp)).symm⟩
    rw [e] at hr hu h ⊢
    have e2 : undo (a :: (m ++ [c])) = mate c :: (undo m ++ [mate a]) := by
      have : a :: (m ++ [c]) = [a] ++ m ++ [c] := by simp
      rw [this, undo_app, undo_app]
      rfl
    rw [e2] at hu
    obtain ⟨h1, h2⟩ := List.cons.inj hu
    have h3 := List.append_inj' h2 rfl
    have hm : m = [] := by
      refine no_self n m ?_ ?_ h3.1
      · rw [List.length_cons, List.length_append] at h
        simp at h
        omega
      · exact rd_sub (u := [a]) (v := [c]) (by simpa using hr)
    subst hm
    exact absurd h1.symm (fun z => by
      have := hr 0 a c rfl rfl
      exact this (mate_eq.mpr (by rw [← h1]))) 
theorem not_undone {t : List Int} (ht : t ≠ []) (h : CR t) (k : Turn (undo t) t) : False := by
  obtain ⟨u, v, e1, e2⟩ := k
  have e3 : undo t = undo u ++ undo v := by rw [e2, undo_app]
  rw [e3] at e1
  have h4 := List.append_inj e1 (undo_len u)
  have hru : Rd u := by
    have := h.rd
    rw [e2] at this
    exact rd_right this
  have hrv : Rd v := by
    have := h.rd
    rw [e2] at this
    exact rd_left this
  have hu := no_self _ u (Nat.le_refl _) hru h4.1
  have hv := no_self _ v (Nat.le_refl _) hrv h4.2
  rw [hu, hv] at e2
  exact ht e2
end Wd
set_option maxRecDepth 100000
set_option maxHeartbeats 4000000
namespace Tt
open PySem L2
theorem freed_full (w : List Int) : (Wd.freed w).length = w.length → Wd.freed w = w := by
  refine Wd.snoc_ind (P := fun w => (Wd.freed w).length = w.length → Wd.freed w = w) (fun _ => rfl) (fun l a ih h => ?_) w
  rw [Wd.freed_snoc] at h ⊢
  rw [List.length_append, List.length_singleton] at h
  have h1 := Wd.len_freed l
  unfold Wd.push at h ⊢
  split at h
  · rw [List.length_dropLast] at h
    omega
  · rename_i hn
    rw [if_neg hn]
    rw [List.length_append, List.length_singleton] at h
    rw [ih (by omega)]
theorem strip_full {w : List Int} (h : (Wd.strip w).length = w.length) : Wd.strip w = w := by
  by_cases hc : 2 ≤ w.length ∧ w.head? = w.getLast?.map Wd.mate
  · unfold Wd.strip at h
    rw [dif_pos hc] at h
    have := strip_len _ ((w.drop 1).dropLast) (Nat.le_refl _)
    have hl : ((w.drop 1).dropLast).length = w.length - 1 - 1 := by simp
    omega
  · unfold Wd.strip
    rw [dif_neg hc]
theorem strip_facts : ∀ (n : Nat) (w : List Int), w.length ≤ n → Wd.Rd w → Wd.Rd (Wd.strip w) ∧ ¬ (2 ≤ (Wd.strip w).length ∧ (Wd.strip w).head? = (Wd.strip w).getLast?.map Wd.mate)
  | n, w, hn, hr => by
    by_cases hc : 2 ≤ w.length ∧ w.head? = w.getLast?.map Wd.mate
    · have e : Wd.strip w = Wd.strip (w.drop 1).dropLast := by
        rw [Wd.strip]
        exact dif_pos hc
      rw [e]
      have hl : ((w.drop 1).dropLast).length = w.length - 1 - 1 := by simp
      cases n with
      | zero => omega
      | succ n =>
        refine strip_facts n _ (by omega) ?_
        have h1 : Wd.Rd (w.drop 1) := Wd.rd_right (a := w.take 1) (by rw [List.take_append_drop]; exact hr)
        by_cases h2 : w.drop 1 = []
        · rw [h2]
          exact Wd.rd_nil
        · refine Wd.rd_left (b := [(w.drop 1).getLast h2]) ?_
          rw [List.dropLast_concat_getLast]
          exact h1
    · have e : Wd.strip w = w := by
        rw [Wd.strip]
        exact dif_neg hc
      rw [e]
      exact ⟨hr, hc⟩
theorem cr_of {w : List Int} (hr : Wd.Rd w) (hc : ¬ (2 ≤ w.length ∧ w.head? = w.getLast?.map Wd.mate)) : Wd.CR w := by
  intro i x y hx hy
  by_cases hi : i + 1 < w.length
  · rw [List.getElem?_append_left (by omega)] at hx
    rw [List.getElem?_append_left hi] at hy
    exact hr i x y hx hy
  · by_cases hj : i < w.length
    ·
      have e : i = w.length - 1 := by omega
      rw [List.getElem?_append_left hj] at hx
      rw [List.getElem?_append_right (by omega)] at hy
      have e0 : i + 1 - w.length = 0 := by omega
      rw [e0] at hy
      intro z
      by_cases h2 : 2 ≤ w.length
      · refine hc ⟨h2, ?_⟩
        rw [List.head?_eq_getElem?, hy, List.getLast?_eq_getElem?, ← e, hx, z]
        rfl
      · have : i = 0 := by omega
        rw [this] at hx
        rw [hx] at hy
        have := Option.some.inj hy
        rw [← this] at z
        unfold Wd.mate at z
        split at z <;> omega
    · rw [List.getElem?_append_right (by omega)] at hx hy
      refine hr (i - w.length) x y hx ?_
      rw [← hy]
      congr 1
      omega
theorem core_of_cr {w : List Int} (h : Wd.CR w) : Wd.core w = w := by
  unfold Wd.core
  rw [Wd.freed_of_rd w h.rd]
  by_cases h2 : 2 ≤ w.length
  · refine Wd.strip_no fun z => ?_
    obtain ⟨a, ha⟩ : ∃ a, w[w.length - 1]? = some a := ⟨_, List.getElem?_eq_getElem (by omega)⟩
    obtain ⟨b, hb⟩ : ∃ b, w[0]? = some b := ⟨_, List.getElem?_eq_getElem (by omega)⟩
    rw [List.head?_eq_getElem?, List.getLast?_eq_getElem?, ha, hb] at z
    have z' : b = Wd.mate a := Option.some.inj z
    refine h (w.length - 1) a b ?_ ?_ z'
    · rw [List.getElem?_append_left (by omega)]
      exact ha
    · rw [List.getElem?_append_right (by omega)]
      have : w.length - 1 + 1 - w.length = 0 := by omega
      rw [this]
      exact hb
  · exact Wd.strip_short (by omega)
theorem cr_core (w : List Int) : Wd.CR (Wd.core w) := by
  obtain ⟨h1, h2⟩ := strip_facts _ (Wd.freed w) (Nat.le_refl _) (Wd.rd_freed w)
  exact cr_of h1 h2
def Lst (ns : List Int) : Prop := ∀ y, Wd.Turn ns y → ¬ y < ns
theorem lst_least {ns : List Int} (hne : ns ≠ []) : Lst (leastT ns) := fun y hy => by
  obtain ⟨h1, h2⟩ := leastT_facts hne
  exact h2 y ((mem_turns hne).mpr ((leastT_turn hne).trans hy))
theorem least_lst {ns : List Int} (hne : ns ≠ []) (h : Lst ns) : leastT ns = ns := by
  obtain ⟨h1, h2⟩ := leastT_facts hne
  have a := h _ (leastT_turn hne)
  have b := h2 ns ((mem_turns hne).mpr (Wd.Turn.refl ns))
  exact (List.le_antisymm (as := leastT ns) (bs := ns) (by simpa using b) (by simpa using a))
def Rnd (ns : List Int) : Prop := ns ≠ [] ∧ closedT ns = ns
theorem rnd_iff {ns : List Int} (hne : ns ≠ []) : closedT ns = ns ↔ Wd.CR ns ∧ Lst ns := by
  constructor
  · intro h
    unfold closedT at h
    have hc : Wd.core ns ≠ [] := fun z => by
      rw [z, leastT_nil] at h
      exact hne h.symm
    have hl := Wd.turn_len (leastT_turn hc)
    rw [h] at hl
    have a1 : (Wd.core ns).length ≤ (Wd.freed ns).length := strip_len _ _ (Nat.le_refl _)
    have a2 := Wd.len_freed ns
    have e1 : Wd.freed ns = ns := freed_full ns (by omega)
    have e2 : Wd.core ns = ns := by
      unfold Wd.core
      rw [e1]
      refine strip_full ?_
      have : Wd.core ns = Wd.strip ns := by
        unfold Wd.core
        rw [e1]
      rw [← this]
      exact hl
    have cr := cr_core ns
    rw [e2] at cr h
    refine ⟨cr, ?_⟩
    rw [← h]
    exact lst_least hne
  · rintro ⟨cr, l⟩
    unfold closedT
    rw [core_of_cr cr]
    exact least_lst hne l
theorem Rnd.cr {ns : List Int} (h : Rnd ns) : Wd.CR ns := ((rnd_iff h.1).mp h.2).1
theorem Rnd.lst {ns : List Int} (h : Rnd ns) : Lst ns := ((rnd_iff h.1).mp h.2).2
theorem rnd_mk {ns : List Int} (hne : ns ≠ []) (c : Wd.CR ns) (l : Lst ns) : Rnd ns := ⟨hne, (rnd_iff hne).mpr ⟨c, l⟩⟩
theorem rnd_least {ns : List Int} (hne : ns ≠ []) (c : Wd.CR ns) : Rnd (leastT ns) :=
  rnd_mk (fun z => hne ((turn_nil (leastT_turn hne)).mpr z)) (c.turn (leastT_turn hne)) (lst_least hne)
theorem rnd_closed {x : List Int} (h : closedT x ≠ []) : Rnd (closedT x) := by
  unfold closedT at h ⊢
  have hc : Wd.core x ≠ [] := fun z => h (by rw [z, leastT_nil])
  exact rnd_least hc (cr_core x)
theorem closed_cr {ns : List Int} (c : Wd.CR ns) : closedT ns = leastT ns := by
  unfold closedT
  rw [core_of_cr c]
theorem undo_ne {ns : List Int} (h : ns ≠ []) : Wd.undo ns ≠ [] := fun z => h (List.length_eq_zero_iff.mp (by rw [← Wd.undo_len, z]; rfl))
def abt (ns : List Int) : List Int := leastT (Wd.undo ns)
theorem rnd_abt {ns : List Int} (h : Rnd ns) : Rnd (abt ns) := rnd_least (undo_ne h.1) h.cr.undo
theorem closed_abt {ns : List Int} (h : Rnd ns) : closedT (Wd.undo ns) = abt ns := closed_cr h.cr.undo
theorem abt_abt {ns : List Int} (h : Rnd ns) : abt (abt ns) = ns := by
  have t := Wd.undo_turn (leastT_turn (undo_ne h.1))
  rw [Wd.undo_undo] at t
  show leastT (Wd.undo (leastT (Wd.undo ns))) = ns
  rw [← leastT_eq t]
  exact least_lst h.1 h.lst
theorem abt_ne {ns : List Int} (h : Rnd ns) : abt ns ≠ ns := fun z => by
  have t := leastT_turn (undo_ne h.1)
  have e : leastT (Wd.undo ns) = ns := z
  rw [e] at t
  exact Wd.not_undone h.1 h.cr t
theorem abt_len (ns : List Int) : (abt ns).length = ns.length := by
  by_cases h : ns = []
  · subst h
    rfl
  · show (leastT (Wd.undo ns)).length = _
    rw [← Wd.turn_len (leastT_turn (undo_ne h)), Wd.undo_len]
theorem rnd_pow {t : List Int} (h : Rnd t) {k : Nat} (hk : 1 ≤ k) : Rnd (Wd.pow t k) := by
  refine rnd_mk (Wd.pow_ne h.1 hk) ((Wd.cr_pow h.1 hk).mpr h.cr) fun y hy g => ?_
  obtain ⟨z, hz, rfl⟩ := Wd.turn_pow hk hy
  have hl := Wd.turn_len hz
  rcases Classical.em (z < t) with q | q
  · exact h.lst z hz q
  · rcases Classical.em (t < z) with q2 | q2
    · exact List.lt_irrefl _ (List.lt_trans g (Wd.lt_pow hl hk q2))
    · have e : z = t := List.le_antisymm (as := z) (bs := t) (by simpa using q2) (by simpa using q)
      rw [e] at g
      exact List.lt_irrefl _ g
theorem rnd_of_pow {t : List Int} (ht : t ≠ []) {k : Nat} (hk : 1 ≤ k) (h : Rnd (Wd.pow t k)) : Rnd t :=
  rnd_mk ht ((Wd.cr_pow ht hk).mp h.cr) fun y hy g => h.lst _ (Wd.pow_turn k hy) (Wd.lt_pow (Wd.turn_len hy).symm hk g)
theorem abt_pow {t : List Int} (h : Rnd t) {k : Nat} (hk : 1 ≤ k) : abt (Wd.pow t k) = Wd.pow (abt t) k := by
  have r := rnd_pow (rnd_abt h) hk
  have t1 : Wd.Turn (Wd.undo (Wd.pow t k)) (Wd.pow (abt t) k) := by
    rw [Wd.undo_pow]
    exact Wd.pow_turn k (leastT_turn (undo_ne h.1))
  show leastT (Wd.undo (Wd.pow t k)) = _
  rw [leastT_eq t1]
  exact least_lst r.1 r.lst
def IsRoot (ns : List Int) (s : Nat) : Prop := 1 ≤ s ∧ s ≤ ns.length ∧ turnAt ns s = ns ∧ ∀ j, 1 ≤ j → j < s → turnAt ns j ≠ ns
theorem root_uniq {ns : List Int} {s s' : Nat} (h : IsRoot ns s) (h' : IsRoot ns s') : s = s' := by
  rcases Nat.lt_trichotomy s s' with g | g | g
  · exact absurd h.2.2.1 (h'.2.2.2 s h.1 g)
  · exact g
  · exact absurd h'.2.2.1 (h.2.2.2 s' h'.1 g)
theorem turnAt_len {ns : List Int} : turnAt ns ns.length = ns := by
  unfold turnAt
  simp
theorem root_ex {ns : List Int} (hne : ns ≠ []) : ∃ s, IsRoot ns s := by
  have key : ∀ n, ∀ m, 1 ≤ m → m ≤ ns.length → ns.length - m ≤ n → (∀ j, 1 ≤ j → j < m → turnAt ns j ≠ ns) → ∃ s, IsRoot ns s := by
    intro n
    induction n with
    | zero => exact fun m h1 h2 h3 h4 => ⟨m, h1, h2, by rw [show m = ns.length by omega]; exact turnAt_len, h4⟩
    | succ n ih =>
      intro m h1 h2 h3 h4
      by_cases hm : turnAt ns m = ns
      · exact ⟨m, h1, h2, hm, h4⟩
      · by_cases he : m = ns.length
        · exact absurd (by rw [he]; exact turnAt_len) hm
        · refine ih (m + 1) (by omega) (by omega) (by omega) fun j j1 j2 => ?_
          by_cases hj : j = m
          · rw [hj]
            exact hm
          · exact h4 j j1 (by omega)
  have := List.length_pos_iff.mpr hne
  exact key ns.length 1 (Nat.le_refl _) (by omega) (by omega) fun j j1 j2 => by omega
theorem comm_cut {u : List Int} (hu : u ≠ []) : ∀ (n : Nat) (v : List Int), v.length ≤ n → u ++ v = v ++ u → ∃ q w, v = Wd.pow u q ++ w ∧ w.length < u.length ∧ u ++ w = w ++ u
  | 0, v, hn, h => by
    have : v = [] := List.length_eq_zero_iff.mp (by omega)
    subst this
    exact ⟨0, [], rfl, List.length_pos_iff.mpr hu, by simp⟩
  | n + 1, v, hn, h => by
    by_cases hl : v.length < u.length
    · exact ⟨0, v, rfl, hl, h⟩
    · rcases Wd.app_split h with ⟨m, e1, e2⟩ | ⟨m, e1, e2⟩
      ·
        have hm : u ++ m = m ++ u := by
          rw [← e1, e2]
        have hlu := List.length_pos_iff.mpr hu
        obtain ⟨q, w, h1, h2, h3⟩ := comm_cut hu n m (by rw [e1, List.length_append] at hn; omega) hm
        refine ⟨q + 1, w, ?_, h2, h3⟩
        rw [e1, h1]
        show _ = u ++ Wd.pow u q ++ w
        rw [List.append_assoc]
      · have hm : m = [] := by
          have := congrArg List.length e1
          rw [List.length_append] at this
          exact List.length_eq_zero_iff.mp (by omega)
        subst hm
        rw [List.append_nil] at e1
        refine ⟨1, [], ?_, List.length_pos_iff.mpr hu, by simp⟩
        rw [Wd.pow_one, List.append_nil, e1]
theorem comm_pow {u w : List Int} (h : u ++ w = w ++ u) : ∀ n, Wd.pow u n ++ w = w ++ Wd.pow u n
  | 0 => by simp [Wd.pow]
  | n + 1 => by
    show u ++ Wd.pow u n ++ w = w ++ (u ++ Wd.pow u n)
    rw [List.append_assoc, comm_pow h n, ← List.append_assoc, h, List.append_assoc]
theorem take_ne {ns : List Int} {s : Nat} (h1 : 1 ≤ s) (h2 : s ≤ ns.length) : ns.take s ≠ [] := fun z => by
  have := congrArg List.length z
  rw [List.length_take, List.length_nil] at this
  omega
theorem root_pow {ns : List Int} {s : Nat} (h : IsRoot ns s) : ∃ k, 1 ≤ k ∧ ns = Wd.pow (ns.take s) k ∧ k * s = ns.length := by
  obtain ⟨h1, h2, h3, h4⟩ := h
  have hu := take_ne h1 h2
  have hlen : (ns.take s).length = s := by rw [List.length_take]; omega
  have hc : ns.take s ++ ns.drop s = ns.drop s ++ ns.take s := by
    rw [List.take_append_drop]
    exact h3.symm
  obtain ⟨q, w, e1, e2, e3⟩ := comm_cut hu _ (ns.drop s) (Nat.le_refl _) hc
  have en : ns = Wd.pow (ns.take s) (q + 1) ++ w := by
    show ns = ns.take s ++ Wd.pow (ns.take s) q ++ w
    rw [List.append_assoc, ← e1, List.take_append_drop]
  have hw : w = [] := Classical.byContradiction fun hw => by
    have hl := List.length_pos_iff.mpr hw
    refine h4 w.length hl (by omega) ?_
    have en2 := en
    rw [comm_pow e3] at en2
    have : turnAt (w ++ Wd.pow (ns.take s) (q + 1)) w.length = Wd.pow (ns.take s) (q + 1) ++ w := by
      unfold turnAt
      rw [List.drop_left, List.take_left]
    rw [← en2, ← en] at this
    exact this
  rw [hw, List.append_nil] at en
  refine ⟨q + 1, by omega, en, ?_⟩
  have := congrArg List.length en
  rw [Wd.pow_len, hlen] at this
  exact this.symm
theorem turnAt_pow {t : List Int} {k j : Nat} (hk : 1 ≤ k) (hj : j ≤ t.length) : turnAt (Wd.pow t k) j = Wd.pow (turnAt t j) k := by
  obtain ⟨k, rfl⟩ : ∃ i, k = i + 1 := ⟨k - 1, by omega⟩
  have e : t = t.take j ++ t.drop j := (List.take_append_drop j t).symm
  have hl : (t.take j).length = j := by rw [List.length_take]; omega
  have e1 : Wd.pow t (k + 1) = t.take j ++ (t.drop j ++ Wd.pow t k) := by
    show t ++ Wd.pow t k = _
    rw [← List.append_assoc, List.take_append_drop]
  unfold turnAt
  rw [e1, List.drop_left' hl, List.take_left' hl]
  have := Wd.pow_conj (t.take j) (t.drop j) k
  rw [List.take_append_drop] at this
  exact this
theorem pow_inj {x y : List Int} (hl : x.length = y.length) {k : Nat} (hk : 1 ≤ k) (h : Wd.pow x k = Wd.pow y k) : x = y := by
  obtain ⟨k, rfl⟩ : ∃ i, k = i + 1 := ⟨k - 1, by omega⟩
  exact (List.append_inj (show x ++ Wd.pow x k = y ++ Wd.pow y k from h) hl).1
def Prim (t : List Int) : Prop := IsRoot t t.length
theorem turnAt_length (t : List Int) (j : Nat) : (turnAt t j).length = t.length := (Wd.turn_len (turnAt_turn j)).symm
theorem root_of_pow {t : List Int} (h : Prim t) {k : Nat} (hk : 1 ≤ k) : IsRoot (Wd.pow t k) t.length := by
  obtain ⟨h1, h2, h3, h4⟩ := h
  refine ⟨h1, ?_, ?_, fun j j1 j2 z => ?_⟩
  · rw [Wd.pow_len]
    exact Nat.le_mul_of_pos_left _ (by omega)
  · rw [turnAt_pow hk (Nat.le_refl _), h3]
  · rw [turnAt_pow hk (by omega)] at z
    exact h4 j j1 j2 (pow_inj (turnAt_length t j) hk z)
theorem prim_root {ns : List Int} {s : Nat} (h : IsRoot ns s) : Prim (ns.take s) := by
  obtain ⟨k, k1, e, _⟩ := root_pow h
  obtain ⟨h1, h2, h3, h4⟩ := h
  have hlen : (ns.take s).length = s := by rw [List.length_take]; omega
  refine ⟨by omega, Nat.le_refl _, turnAt_len, fun j j1 j2 z => ?_⟩
  refine h4 j j1 (by omega) ?_
  have := turnAt_pow (t := ns.take s) (k := k) (j := j) k1 (by omega)
  rw [z, ← e] at this
  exact this
theorem prim_iff {t : List Int} (ht : t ≠ []) : Prim t ↔ ∀ y k, t = Wd.pow y k → k ≤ 1 := by
  constructor
  · intro h y k e
    refine Classical.byContradiction fun g => ?_
    have hy : y ≠ [] := fun z => ht (by
      rw [e, z]
      have : ∀ n, Wd.pow ([] : List Int) n = [] := fun n => by
        induction n with
        | zero => rfl
        | succ n ih => exact ih
      exact this k)
    have hl := List.length_pos_iff.mpr hy
    have hl2 : t.length = k * y.length := by rw [e, Wd.pow_len]
    have h3 : 2 * y.length ≤ k * y.length := Nat.mul_le_mul_right _ (by omega)
    refine h.2.2.2 y.length hl (by omega) ?_
    rw [e, turnAt_pow (by omega) (Nat.le_refl _), turnAt_len]
  · intro h
    obtain ⟨s, hs⟩ := root_ex ht
    obtain ⟨k, k1, e, el⟩ := root_pow hs
    have k2 := h _ _ e
    have : k = 1 := by omega
    rw [this, Nat.one_mul] at el
    unfold Prim
    rw [← el]
    exact hs
theorem prim_turn {t z : List Int} (ht : t ≠ []) (h : Prim t) (k : Wd.Turn t z) : Prim z := by
  have hz : z ≠ [] := fun q => ht ((turn_nil k).mpr q)
  refine (prim_iff hz).mpr fun y n e => ?_
  by_cases hn : n = 0
  · omega
  · have k' := k.symm
    rw [e] at k'
    obtain ⟨x, _, e2⟩ := Wd.turn_pow (by omega) k'
    exact (prim_iff ht).mp h x n e2
theorem prim_undo {t : List Int} (ht : t ≠ []) (h : Prim t) : Prim (Wd.undo t) := by
  refine (prim_iff (undo_ne ht)).mpr fun y n e => ?_
  refine (prim_iff ht).mp h (Wd.undo y) n ?_
  rw [← Wd.undo_pow, ← e, Wd.undo_undo]
theorem prim_abt {t : List Int} (ht : t ≠ []) (h : Prim t) : Prim (abt t) := prim_turn (undo_ne ht) (prim_undo ht h) (leastT_turn (undo_ne ht))
theorem root_abt {ns : List Int} {s s' : Nat} (r : Rnd ns) (h : IsRoot ns s) (h' : IsRoot (abt ns) s') : s' = s ∧ (abt ns).take s' = abt (ns.take s) := by
  obtain ⟨k, k1, e, el⟩ := root_pow h
  have hne := take_ne h.1 h.2.1
  have hlen : (ns.take s).length = s := by rw [List.length_take]; have := h.2.1; omega
  have rt : Rnd (ns.take s) := rnd_of_pow hne k1 (by rw [← e]; exact r)
  have ea : abt ns = Wd.pow (abt (ns.take s)) k := by
    conv => lhs; rw [e]
    exact abt_pow rt k1
  have hr := root_of_pow (prim_abt hne (prim_root h)) k1
  rw [← ea, abt_len, hlen] at hr
  have es := root_uniq h' hr
  refine ⟨es, ?_⟩
  rw [es, ea]
  obtain ⟨k, rfl⟩ : ∃ i, k = i + 1 := ⟨k - 1, by omega⟩
  show (abt (ns.take s) ++ Wd.pow (abt (ns.take s)) k).take s = _
  exact List.take_left' (by rw [abt_len, hlen])
theorem root_root {ns : List Int} {s s' : Nat} (h : IsRoot ns s) (h' : IsRoot (ns.take s) s') : s' = s := by
  have := root_uniq h' (prim_root h)
  rw [this, List.length_take]
  have := h.2.1
  omega
theorem rnd_root {ns : List Int} {s : Nat} (r : Rnd ns) (h : IsRoot ns s) : Rnd (ns.take s) := by
  obtain ⟨k, k1, e, el⟩ := root_pow h
  exact rnd_of_pow (take_ne h.1 h.2.1) k1 (by rw [← e]; exact r)
def IsPer (ns : List Int) (s : Nat) : Prop := ns.length % s = 0 ∧ Wd.pow (ns.take s) (ns.length / s) = ns
theorem per_turn {ns : List Int} {s : Nat} (h1 : 1 ≤ s) (h2 : s ≤ ns.length) (h : IsPer ns s) : turnAt ns s = ns := by
  have hk : 1 ≤ ns.length / s := Nat.div_pos h2 (by omega)
  have hlen : (ns.take s).length = s := by rw [List.length_take]; omega
  have := turnAt_pow (t := ns.take s) (k := ns.length / s) (j := s) hk (by omega)
  have e2 : turnAt (ns.take s) s = ns.take s := by
    have := turnAt_len (ns := ns.take s)
    rw [hlen] at this
    exact this
  rw [e2, h.2] at this
  exact this
theorem root_per {ns : List Int} {s : Nat} (h : IsRoot ns s) : IsPer ns s := by
  obtain ⟨k, k1, e, el⟩ := root_pow h
  have hs := h.1
  refine ⟨?_, ?_⟩
  · rw [← el]
    exact Nat.mul_mod_left _ _
  · have : ns.length / s = k := by rw [← el]; exact Nat.mul_div_cancel _ (by omega)
    rw [this]
    exact e.symm
theorem root_of_per {ns : List Int} {s : Nat} (h1 : 1 ≤ s) (h2 : s ≤ ns.length) (h : IsPer ns s) (no : ∀ j, 1 ≤ j → j < s → ¬ IsPer ns j) : IsRoot ns s := by
  have hne : ns ≠ [] := fun z => by
    rw [z] at h2
    simp at h2
    omega
  obtain ⟨r, hr⟩ := root_ex hne
  have t := per_turn h1 h2 h
  rcases Nat.lt_trichotomy r s with g | g | g
  · exact absurd (root_per hr) (no r hr.1 g)
  · rw [← g]
    exact hr
  · exact absurd t (hr.2.2.2 s h1 g)
end Tt
set_option maxRecDepth 100000
set_option maxHeartbeats 4000000
namespace Tt
open PySem L2
section
variable {P : Program} {w : World} {K : PySem.W.Frag} {mg : Str → Option Value} {base : Heap}
theorem let_two {J C : Addr → Hp → Prop} {G : Prop} (main : (∀ l H', J l H' → C l H') → G) (rest : ∀ l H', J l H' → C l H') : G := main rest
def Fl (m : Int) (i : Nat) : List Int := (rgI i).filter fun x => decide (x ≠ m)
theorem rgI_snoc (i : Nat) : rgI (i + 1) = rgI i ++ [(i : Int)] := by
  unfold rgI
  rw [List.range_succ, List.map_append]
  rfl
theorem Fl_yes {m : Int} {i : Nat} (h : (i : Int) ≠ m) : Fl m (i + 1) = Fl m i ++ [(i : Int)] := by
  unfold Fl
  rw [rgI_snoc, List.filter_append]
  simp [h]
theorem Fl_no {m : Int} {i : Nat} (h : (i : Int) = m) : Fl m (i + 1) = Fl m i := by
  unfold Fl
  rw [rgI_snoc, List.filter_append]
  simp [h]
theorem Fl_mem {m x : Int} {i : Nat} : x ∈ Fl m i ↔ (0 ≤ x ∧ x < i) ∧ x ≠ m := by
  unfold Fl
  rw [List.mem_filter, perm_mem (List.Perm.refl (rgI i))]
  simp
theorem Fl_len (m : Int) (i : Nat) : (Fl m i).length ≤ i := by
  unfold Fl
  exact Nat.le_trans (List.length_filter_le _ _) (Nat.le_of_eq (rgI_len i))
def Cz (e z : Int) (fs : List Int) : Prop := Wd.Rd fs ∧ (e = 2 → ∀ x ∈ fs, ∀ y ∈ fs, x = y) ∧ ((fs.length : Int) = z → Wd.CR fs)
theorem rd_one (n : Int) : Wd.Rd [n] := fun i a b h1 h2 => by simp at h2
theorem cr_one (n : Int) : Wd.CR [n] := cr_of (rd_one n) (fun h => absurd h.1 (by simp))
theorem Cz.one (e z n : Int) : Cz e z [n] := ⟨rd_one n, fun _ x hx y hy => by rw [List.mem_singleton.mp hx, List.mem_singleton.mp hy], fun _ => cr_one n⟩
theorem Cz.snoc {e z v la f0 : Int} {fs : List Int} (c : Cz e z fs) (e2 : 2 ≤ e) (hl : fs.getLast? = some la) (hf : fs[0]? = some f0) (l1 : 0 ≤ la ∧ la < e) (v1 : 0 ≤ v ∧ v < e) (hv : v ≠ Wd.mate la) (hc : (fs.length : Int) + 1 = z → 2 < e → v ≠ Wd.mate f0) : Cz e z (fs ++ [v]) := by
  obtain ⟨c1, c2, c3⟩ := c
  have hla := (Wd.last_get.mp hl)
  have rd : Wd.Rd (fs ++ [v]) := fun i a b h1 h2 => by
    have li := (List.getElem?_eq_some_iff.mp h2).1
    rw [List.length_append, List.length_singleton] at li
    by_cases hi : i + 1 < fs.length
    · rw [List.getElem?_append_left (by omega)] at h1
      rw [List.getElem?_append_left hi] at h2
      exact c1 i a b h1 h2
    · have hn : 0 < fs.length := List.length_pos_iff.mpr hla.1
      rw [List.getElem?_append_left (by omega)] at h1
      rw [List.getElem?_append_right (by omega)] at h2
      have e0 : i + 1 - fs.length = 0 := by omega
      have e1 : i = fs.length - 1 := by omega
      rw [e0] at h2
      rw [e1, hla.2] at h1
      have h2' : v = b := Option.some.inj h2
      have h1' : la = a := Option.some.inj h1
      rw [← h2', ← h1']
      exact hv
  have vla : e = 2 → v = la := fun q => by
    unfold Wd.mate at hv
    split at hv <;> omega
  have f0m : f0 ∈ fs := List.mem_of_getElem? hf
  have lam : la ∈ fs := List.mem_of_getElem? hla.2
  refine ⟨rd, fun q x hx y hy => ?_, fun q => cr_of rd fun hh => ?_⟩
  · have key : ∀ x ∈ fs ++ [v], x = la := fun x hx => by
      rcases List.mem_append.mp hx with hx | hx
      · exact c2 q x hx la lam
      · rw [List.mem_singleton.mp hx]
        exact vla q
    rw [key x hx, key y hy]
  · have h2 := hh.2
    rw [List.getLast?_concat, List.head?_eq_getElem?, List.getElem?_append_left (List.getElem?_eq_some_iff.mp hf).1, hf] at h2
    have h3 : f0 = Wd.mate v := Option.some.inj h2
    by_cases q2 : 2 < e
    · rw [List.length_append, List.length_singleton] at q
      exact hc q q2 (Wd.mate_eq.mpr h3)
    · have q3 : e = 2 := by omega
      have : f0 = v := by rw [c2 q3 f0 f0m la lam, vla q3]
      rw [this] at h3
      unfold Wd.mate at h3
      split at h3 <;> omega
def spCore : Sp := fun vs H Q _ => ∃ (D : Dw) (e z : Int), vs = [.ref D.d, .int e, .int z] ∧ 2 ≤ e ∧ e ≤ 12 ∧ e % 2 = 0 ∧ 1 ≤ z ∧ z ≤ 60 ∧ DrOk D H ∧
  ∀ (ns : List Int) q H', (ns.length : Int) = z → Lt e ns → Wd.CR ns → DrOk D H' → Kp D H H' → H' q = some (.tup (ns.map V.int)) → Q (.ref q) H'
theorem ok_l_core (T : Txt K mg) : FnOk P w K mg base CX0 4 T.l_core.a T.l_core.fd ["draw", "ends_here", "size"] spCore := by
  refine T.l_core.F.ok sc_l_core (fun vs H Q E h => ?_) (fun cdv A outer s H vs Q E hr h => ?_)
  · obtain ⟨D, e, z, rfl, _⟩ := h
    rfl
  · obtain ⟨D, e, z, rfl, e2, e12, ev, z1, z60, dr, k⟩ := h
    have nd := sc_l_core.nd
    refine ⟨_, (pss_cons (ps_set (i := 3) nd rfl (Or.inr rfl) (pe_lst (pa_cons (pe_call (ok_l_take T) (hr.mono (by decide)) (by rfl) T.l_take.g T.l_take.k T.l_take.b .nil pass0 (pa_cons (pv 0) (pa_cons (pv 1) pa_nil))) pa_nil)))
    (pss_cons (ps_while PassesOwn.never (pt_cmpR op_lt (pe_callB call_len_seq (by rfl) T.zlen (by decide +kernel) (pa_cons (pv 3) pa_nil)) (pv 2) (nomark _))
      (pss_cons (ps_setLc (i := 4) (own := [("letter", 5)]) (g := gName 5) rfl nd rfl rfl (sw_true rfl rfl rfl (by decide +kernel)) (pi_range1 rfl T.zrange (pa_cons (pv 1) pa_nil)) (blkOk_by (own := [("letter", 5)]) (N := N_l_core) (sc := defScope s_l_core) (by decide +kernel)) (fun _ _ _ _ _ => pg_name (i := 5) nd rfl (Or.inl rfl)) (fun _ _ _ _ _ => pts_one (pt_cmpR op_ne (pv 5) (pe_call (ok_l_mate T) (hr.mono (by decide)) (by rfl) T.l_mate.g T.l_mate.k T.l_mate.b .nil pass0 (pa_cons (pe_ix (ix_listK (K := K) rfl) (pv 3) (pe_un un_neg pe_int) (fun _ _ => rfl)) pa_nil)) (nomark _))) (fun _ _ _ _ _ => (pv 5)))
      (pss_cons (ps_if (PW.pt (pw_and (pt_cmpR op_eq (pe_callB call_len_seq (by rfl) T.zlen (by decide +kernel) (pa_cons (pv 3) pa_nil)) (pe_op op_sub (pv 2) pe_int) (nomark _)) (pw_and1 (pt_cmpR op_gt (pv 1) pe_int (nomark _)))))
        (pss_one (ps_setLc (i := 4) (own := [("letter", 5)]) (g := gName 5) rfl nd rfl rfl (sw_true rfl rfl rfl (by decide +kernel)) (pi_list (pv 4)) (blkOk_by (own := [("letter", 5)]) (N := N_l_core) (sc := defScope s_l_core) (by decide +kernel)) (fun _ _ _ _ _ => pg_name (i := 5) nd rfl (Or.inl rfl)) (fun _ _ _ _ _ => pts_one (pt_cmpR op_ne (pv 5) (pe_call (ok_l_mate T) (hr.mono (by decide)) (by rfl) T.l_mate.g T.l_mate.k T.l_mate.b .nil pass0 (pa_cons (pe_ix (ix_listK (K := K) rfl) (pv 3) pe_int (fun _ _ => rfl)) pa_nil)) (nomark _))) (fun _ _ _ _ _ => (pv 5))))
        pss_nil)
      (pss_one (ps_expr (pe_bm PySem.F.plainAttrs_list PySem.F.slot_list_append PySem.F.type_list_append mt_append (pv 3) (pa_cons (pe_call (ok_l_pick T) (hr.mono (by decide)) (by rfl) T.l_pick.g T.l_pick.k T.l_pick.b .nil pass0 (pa_cons (pv 0) (pa_cons (pv 4) pa_nil))) pa_nil)))))))
    (pss_one (ps_ret (pe_callTy call_tuple_of (by rfl) T.ztuple (by decide +kernel) (pa_cons (pv 3) pa_nil)))))), ?_⟩
    refine ⟨_, rfl, _, rfl, D, e, rfl, by omega, by omega, dr, fun n H1 n0 n1 d1 k1 => ⟨(by show 1 ≤ sizeLine; decide), fun f hf => ?_⟩⟩
    have d2 := d1.new (o := .lst [.int n]) hf
    have k2 : Kp D H (upd H1 f (.lst [.int n])) := k1.trans (Kp.new hf)
    have of : Off D f := d1.off hf
    have h2 : (upd H1 f (.lst [.int n])) f = some (.lst (([n] : List Int).map V.int)) := upd_same
    have hfN : ∀ b o, H b = some o → b ≠ f := fun b o hb q => by
      subst q
      have := k1 b o hb of.1 of.2.1
      rw [hf] at this
      cases this
    generalize upd H1 f (.lst [.int n]) = H2 at d2 k2 h2
    refine while_by (fun σ H' => ∃ (fs : List Int) (v4 v5 : Option V), σ = [some (.ref D.d), some (.int e), some (.int z), some (.ref f), v4, v5] ∧ H' f = some (.lst (fs.map V.int)) ∧ 1 ≤ fs.length ∧ (fs.length : Int) ≤ z ∧ Lt e fs ∧ Cz e z fs ∧ DrOk D H' ∧ Kp D H H') (lenAt 3)
      ⟨[n], none, none, rfl, h2, Nat.le_refl 1, by show (1 : Int) ≤ z; omega, fun x hx => by rw [List.mem_singleton.mp hx]; exact ⟨n0, n1⟩, Cz.one e z n, d2, k2⟩ ?_ ?_
    · rintro σ H' ⟨fs, v4, v5, rfl, h3, l1, lz, lt, cz, d3, k3⟩
      have hfb : ∀ b o, H b = some o → b ≠ f := hfN
      refine ⟨_, rfl, f, _, rfl, .inl (SqL.of h3), _, rfl, _, _, rfl, rfl, _, rfl, ?_⟩
      rw [List.length_map]
      refine ite2 (fun g => ?_) (fun g => ?_)
      · have g' : (fs.length : Int) < z := by simpa using g
        obtain ⟨la, hla, lat⟩ := atI_last (st := fs) (fun q => by subst q; simp at l1)
        obtain ⟨f0, hf0⟩ : ∃ f0, fs[0]? = some f0 := ⟨_, List.getElem?_eq_getElem (by omega)⟩
        have lar := lt la (List.mem_of_getElem? (Wd.last_get.mp hla).2)
        refine ⟨_, rfl, e, rfl, by omega, by omega, fun D1 hD1 => ?_⟩
        refine lc_range (lo := 0) (n := e.toNat) (fun i H4 => H4 D1 = some (.lst ((Fl (Wd.mate la) i).map V.int)) ∧ Same H' H4) ⟨upd_same, same_new hD1⟩ ?_ ?_
        · rintro i H4 hi ⟨h4, s4⟩
          refine ⟨rfl, ?_⟩
          refine ⟨_, rfl, _, rfl, 1, rfl, f, _, (-1), V.int la, rfl, rfl, SqL.of (s4 _ _ h3), lat, la, rfl, rfl, _, rfl, ?_⟩
          have fl := Fl_len (Wd.mate la) i
          refine ite2 (fun c => ?_) (fun c => ?_)
          · have c' : (i : Int) ≠ Wd.mate la := by simpa using c
            refine ⟨_, rfl, _, h4, by rw [List.length_map]; exact small1000 (by omega), ?_, fun b o hb => ?_⟩
            · rw [upd_same, Fl_yes c', List.map_append, Int.zero_add]
              rfl
            · rw [upd_ne (ne_of_none hb hD1)]
              exact s4 b o hb
          · have c' : (i : Int) = Wd.mate la := by simpa using c
            exact ⟨by rw [Fl_no c']; exact h4, s4⟩
        · rintro H4 ⟨h4, s4⟩
          have d4 := d3.same s4
          have oD1 : Off D D1 := d3.off hD1
          have h3' := s4 _ _ h3
          have k4 : Kp D H H4 := k3.trans (Kp.of s4)
          clear s4 d3 k3
          have nf1 : D1 ≠ f := fun q => by
            rw [q] at hD1
            rw [h3] at hD1
            cases hD1
          have hR1 : ∀ x ∈ Fl (Wd.mate la) e.toNat, 0 ≤ x ∧ x < e := fun x hx => by
            have := (Fl_mem.mp hx).1
            omega
          have ne1 : Fl (Wd.mate la) e.toNat ≠ [] := fun q => by
            have z0 : (0 : Int) ∉ Fl (Wd.mate la) e.toNat := by rw [q]; simp
            have z1 : (1 : Int) ∉ Fl (Wd.mate la) e.toNat := by rw [q]; simp
            rw [Fl_mem] at z0 z1
            omega
          have ln1 : (Fl (Wd.mate la) e.toNat).length ≤ 12 := by
            have := Fl_len (Wd.mate la) e.toNat
            omega
          have f60 : fs.length ≤ 60 := by omega
          refine ⟨_, rfl, f, _, rfl, .inl (SqL.of h3'), _, rfl, _, _, rfl, rfl, rfl, _, rfl, ite2 (fun c1 => ?_) (fun c1 => iteF ?_)⟩
          · refine ⟨_, rfl, _, _, rfl, rfl, _, rfl, ite2 (fun c2 => ?_) (fun c2 => ?_)⟩
            · have e4 : (4 : Int) ≤ e := by
                have : (2 : Int) < e := by simpa using c2
                omega
              refine ⟨_, rfl, D1, rfl, ⟨_, SqL.of h4⟩, fun D2 hD2 => ?_⟩
              refine lc_list (K := K) (a := D1) (xs := (Fl (Wd.mate la) e.toNat).map V.int) (fun i H5 => H5 D2 = some (.lst ((((Fl (Wd.mate la) e.toNat).take i).filter fun x => decide (x ≠ Wd.mate f0)).map V.int)) ∧ Same H4 H5) ⟨upd_same, same_new hD2⟩ (fun i H5 _ q => SqL.of (q.2 _ _ h4)) ?_ ?_
              · rintro i y H5 hi ⟨h5, s5⟩
                obtain ⟨x, rfl, hx⟩ := ints_at hi
                have hil : i < (Fl (Wd.mate la) e.toNat).length := (List.getElem?_eq_some_iff.mp hx).1
                have at0 : atI (fs.map V.int) 0 = some (V.int f0) := atI_nat (j := 0) (ints_get hf0)
                have lenF : (((Fl (Wd.mate la) e.toNat).take i).filter fun x => decide (x ≠ Wd.mate f0)).length ≤ i := Nat.le_trans (List.length_filter_le _ _) (by rw [List.length_take]; omega)
                have tk : (Fl (Wd.mate la) e.toNat).take (i + 1) = (Fl (Wd.mate la) e.toNat).take i ++ [x] := by rw [List.take_add_one, hx]; rfl
                refine ⟨rfl, ?_⟩
                refine ⟨_, rfl, _, rfl, f, _, 0, V.int f0, rfl, rfl, SqL.of (s5 _ _ h3'), at0, f0, rfl, rfl, _, rfl, ?_⟩
                refine ite2 (fun c => ?_) (fun c => ?_)
                · have c' : x ≠ Wd.mate f0 := by simpa using c
                  refine ⟨_, rfl, _, h5, by rw [List.length_map]; exact small1000 (by omega), ?_, fun b o hb => ?_⟩
                  · rw [upd_same, tk, List.filter_append, List.map_append]
                    simp [c']
                  · rw [upd_ne (ne_of_none hb hD2)]
                    exact s5 b o hb
                · have c' : x = Wd.mate f0 := by simpa using c
                  refine ⟨?_, s5⟩
                  rw [tk, List.filter_append]
                  simp only [c', ne_eq, not_true_eq_false, decide_false, List.filter_cons, List.filter_nil, Bool.false_eq_true, if_false, List.append_nil]
                  simpa [c'] using h5
              · rintro H5 ⟨h5, s5⟩
                rw [List.length_map, List.take_length] at h5
                have d5 := d4.same s5
                have k5 : Kp D H H5 := k4.trans (Kp.of s5)
                have h6' := s5 _ _ h3'
                have oD2 : Off D D2 := d4.off hD2
                have hR2 : ∀ x ∈ (Fl (Wd.mate la) e.toNat).filter (fun x => decide (x ≠ Wd.mate f0)), 0 ≤ x ∧ x < e := fun x hx => hR1 x (List.mem_filter.mp hx).1
                have ln2 : ((Fl (Wd.mate la) e.toNat).filter (fun x => decide (x ≠ Wd.mate f0))).length ≤ 12 := Nat.le_trans (List.length_filter_le _ _) ln1
                have ne2 : (Fl (Wd.mate la) e.toNat).filter (fun x => decide (x ≠ Wd.mate f0)) ≠ [] := fun q => by
                  have no : ∀ j : Int, 0 ≤ j → j < e → j = Wd.mate la ∨ j = Wd.mate f0 := fun j j0 j1 => Classical.byContradiction fun g => by
                    have hm : j ∈ (Fl (Wd.mate la) e.toNat).filter (fun x => decide (x ≠ Wd.mate f0)) := by
                      refine List.mem_filter.mpr ⟨Fl_mem.mpr ⟨⟨j0, by omega⟩, fun z => g (.inl z)⟩, decide_eq_true fun z => g (.inr z)⟩
                    rw [q] at hm
                    cases hm
                  have a0 := no 0 (by omega) (by omega)
                  have a1 := no 1 (by omega) (by omega)
                  have a2 := no 2 (by omega) (by omega)
                  omega
                refine ⟨_, rfl, .inl ⟨rfl, _, SqL.of h6'⟩, _, rfl, _, rfl, D, D2, (((Fl (Wd.mate la) e.toNat).filter fun x => decide (x ≠ Wd.mate f0))).map V.int, rfl, .inl (SqL.of h5), oD2.2.1, (fun q => ne2 (List.map_eq_nil_iff.mp q)), ?_, d5, fun j y H6 hj d6 k6 => ?_⟩
                · rw [List.length_map]
                  have := ln2
                  omega
                · obtain ⟨v, rfl, hv⟩ := ints_at hj
                  have hvr := hR2 v (List.mem_of_getElem? hv)
                  have h6 := k6.at of h6'
                  refine ⟨f, _, _, rfl, rfl, h6, by rw [List.length_map]; exact small1000 (by omega), ⟨fs ++ [v], _, _, rfl, ?_, ?_, ?_, ?_, cz.snoc e2 hla hf0 lar hvr (Fl_mem.mp (List.mem_filter.mp (List.mem_of_getElem? hv)).1).2 (fun _ _ => of_decide_eq_true (List.mem_filter.mp (List.mem_of_getElem? hv)).2), d6.put of, fun b o hb q1 q2 => ?_⟩, ?_⟩
                  · rw [upd_same, List.map_append]
                    rfl
                  · rw [List.length_append]
                    omega
                  · rw [List.length_append]
                    show ((fs.length + 1 : Nat) : Int) ≤ z
                    omega
                  · exact lt.app fun x hx => by rw [List.mem_singleton.mp hx]; exact hvr
                  · rw [upd_ne (hfb b o hb)]
                    exact k6 _ _ (k5 _ _ hb q1 q2) q1 q2
                  · rw [lenAt_of (i := 3) (f := f) rfl upd_same, lenAt_of (i := 3) (f := f) rfl h3]
                    rw [List.length_append, List.length_map]
                    show 1000 - (fs.length + 1) < 1000 - fs.length
                    omega
            · skip
              refine ⟨_, rfl, .inl ⟨rfl, _, SqL.of h3'⟩, _, rfl, _, rfl, D, D1, (Fl (Wd.mate la) e.toNat).map V.int, rfl, .inl (SqL.of h4), oD1.2.1, (fun q => ne1 (List.map_eq_nil_iff.mp q)), ?_, d4, fun j y H6 hj d6 k6 => ?_⟩
              · rw [List.length_map]
                have := ln1
                omega
              · obtain ⟨v, rfl, hv⟩ := ints_at hj
                have hvr := hR1 v (List.mem_of_getElem? hv)
                have h6 := k6.at of h3'
                refine ⟨f, _, _, rfl, rfl, h6, by rw [List.length_map]; exact small1000 (by omega), ⟨fs ++ [v], _, _, rfl, ?_, ?_, ?_, ?_, cz.snoc e2 hla hf0 lar hvr (Fl_mem.mp (List.mem_of_getElem? hv)).2 (fun _ q => absurd q (by simpa using c2)), d6.put of, fun b o hb q1 q2 => ?_⟩, ?_⟩
                · rw [upd_same, List.map_append]
                  rfl
                · rw [List.length_append]
                  omega
                · rw [List.length_append]
                  show ((fs.length + 1 : Nat) : Int) ≤ z
                  omega
                · exact lt.app fun x hx => by rw [List.mem_singleton.mp hx]; exact hvr
                · rw [upd_ne (hfb b o hb)]
                  exact k6 _ _ (k4 _ _ hb q1 q2) q1 q2
                · rw [lenAt_of (i := 3) (f := f) rfl upd_same, lenAt_of (i := 3) (f := f) rfl h3]
                  rw [List.length_append, List.length_map]
                  show 1000 - (fs.length + 1) < 1000 - fs.length
                  omega
          · skip
            refine ⟨_, rfl, .inl ⟨rfl, _, SqL.of h3'⟩, _, rfl, _, rfl, D, D1, (Fl (Wd.mate la) e.toNat).map V.int, rfl, .inl (SqL.of h4), oD1.2.1, (fun q => ne1 (List.map_eq_nil_iff.mp q)), ?_, d4, fun j y H6 hj d6 k6 => ?_⟩
            · rw [List.length_map]
              have := ln1
              omega
            · obtain ⟨v, rfl, hv⟩ := ints_at hj
              have hvr := hR1 v (List.mem_of_getElem? hv)
              have h6 := k6.at of h3'
              refine ⟨f, _, _, rfl, rfl, h6, by rw [List.length_map]; exact small1000 (by omega), ⟨fs ++ [v], _, _, rfl, ?_, ?_, ?_, ?_, cz.snoc e2 hla hf0 lar hvr (Fl_mem.mp (List.mem_of_getElem? hv)).2 (fun q _ => absurd (show (fs.length : Int) = z - 1 by omega) (by simpa using c1)), d6.put of, fun b o hb q1 q2 => ?_⟩, ?_⟩
              · rw [upd_same, List.map_append]
                rfl
              · rw [List.length_append]
                omega
              · rw [List.length_append]
                show ((fs.length + 1 : Nat) : Int) ≤ z
                omega
              · exact lt.app fun x hx => by rw [List.mem_singleton.mp hx]; exact hvr
              · rw [upd_ne (hfb b o hb)]
                exact k6 _ _ (k4 _ _ hb q1 q2) q1 q2
              · rw [lenAt_of (i := 3) (f := f) rfl upd_same, lenAt_of (i := 3) (f := f) rfl h3]
                rw [List.length_append, List.length_map]
                show 1000 - (fs.length + 1) < 1000 - fs.length
                omega
      · have g' : (fs.length : Int) = z := by
          have : ¬ (fs.length : Int) < z := by simpa using g
          omega
        refine ⟨_, rfl, f, _, rfl, .inl ⟨SqL.of h3, fun q hq => ?_⟩⟩
        exact k fs q _ g' lt (cz.2.2 g') (d3.new hq) (k3.trans (Kp.new hq)) upd_same
    · rintro σ H Q Q' hq ⟨v, h1, p, ys, h2, h3, v2, h4, i, j, h5, h6, b, h7, h8⟩
      exact ⟨v, h1, p, ys, h2, h3, v2, h4, i, j, h5, h6, b, h7, hq _ _ h8⟩
end
end Tt
set_option maxRecDepth 100000
set_option maxHeartbeats 4000000
namespace Tt
open PySem L2
section
variable {P : Program} {w : World} {K : PySem.W.Frag} {mg : Str → Option Value} {base : Heap}
theorem while_by2 {c : TT} {tb : TS} {D : Ends} {σ : L2.St} {H : Hp} (Pv : L2.St → Hp → Prop) (μ : L2.St → Hp → Nat) (h0 : Pv σ H)
    (hs : ∀ σ H, Pv σ H → c σ H fun b H1 => if b = true then ∃ N : L2.St → Hp → Prop, (∀ σ' H', N σ' H' → ∃ m', m' < μ σ H ∧ (m' = μ σ' H' ∧ Pv σ' H')) ∧ tb { D with nx := N, ct := N, bk := D.nx } σ H1 else D.nx σ H1) : tWhile c tb D σ H := by
  refine ⟨fun m σ H => m = μ σ H ∧ Pv σ H, ⟨_, rfl, h0⟩, ?_⟩
  rintro m σ H ⟨rfl, p⟩
  exact hs σ H p
theorem repV (t : List Int) (n : Nat) : (List.replicate n (t.map V.int)).flatten = (Wd.pow t n).map V.int := by
  rw [← Wd.pow_rep, List.map_flatten, List.map_replicate]
theorem repA_gen {xs : List V} {a : Addr} {k : Int} {H : Hp} {Q : VK} (h : SqT K H a xs) (hne : xs ≠ []) (h1 : 1 ≤ k) (h2 : k ≤ 1000) (hz : xs.length ≤ 1000)
    (q : ∀ c H', Same H H' → SqT K H' c (List.replicate k.toNat xs).flatten → Q (.ref c) H') : rRepA K (.ref a) (.int k) H Q :=
  ⟨a, k, xs, rfl, rfl, h, hne, h1, h2, hz, fun e => q a H (fun _ _ z => z) (by subst e; simpa using h), fun _ p hp => q p _ (same_new hp) (SqT.of upd_same)⟩
theorem layA (a : List Int) : PyData.canLayAll0 (a.map PyData.int) = true := by
  have h := shapedAll_ints a
  have h2 := SeqAt.canLay_of_shaped h
  simpa [PyData.canLay0] using h2
theorem shaped2 (a b : List Int) : SeqAt.shaped (.list [.tuple (a.map PyData.int), .tuple (b.map PyData.int)]) = true := by
  show (PyData.canLay0 (.list [.tuple (a.map PyData.int), .tuple (b.map PyData.int)]) && decide ((PyData.list [.tuple (a.map PyData.int), .tuple (b.map PyData.int)]).depth ≤ 64)) = true
  rw [Bool.and_eq_true]
  constructor
  · simp [PyData.canLay0, PyData.canLayAll0, layA, -List.map_take]
  · refine decide_eq_true ?_
    show max (PyData.depthAll (a.map PyData.int) + 1) (max (PyData.depthAll (b.map PyData.int) + 1) 0) + 1 ≤ 64
    rw [dpA a, dpA b]
    decide
def sizeAt (i n : Nat) : L2.St → Hp → Nat := fun σ _ => match σ[i]? with
  | some (some (V.int c)) => n - c.toNat
  | _ => 0
def spRooted (K : PySem.W.Frag) : Sp := fun vs H Q _ => ∃ (p : Addr) (ns : List Int), vs = [.ref p] ∧ SqT K H p (ns.map V.int) ∧ ns ≠ [] ∧ ns.length ≤ 400 ∧
  ∀ s q r H', IsRoot ns s → Same H H' → H' q = some (.tup [.ref r, .int ((ns.length / s : Nat) : Int)]) → SqT K H' r ((ns.take s).map V.int) → Q (.ref q) H'
theorem ok_rooted (T : Txt K mg) : FnOk P w K mg base CX0 1 T.rooted.a T.rooted.fd ["loop"] (spRooted K) := by
  refine T.rooted.F.ok sc_rooted (fun vs H Q E h => ?_) (fun cdv A outer s H vs Q E hr h => ?_)
  · obtain ⟨p, ns, rfl, _⟩ := h
    rfl
  · obtain ⟨p, ns, rfl, hp, hne, hl, k⟩ := h
    have nd := sc_rooted.nd
    have l0 := List.length_pos_iff.mpr hne
    have lm : (ns.map V.int).length = ns.length := List.length_map ..
    refine ⟨_, (pss_cons (ps_set (i := 1) nd rfl (Or.inl rfl) pe_int)
    (pss_cons (ps_while PassesOwn.never (PW.pt (pw_or (pt_cmpR op_ne (pe_op op_mod (pe_callB call_len_seq (by rfl) T.zlen (by decide +kernel) (pa_cons (pv 0) pa_nil)) (pv 1)) pe_int (nomark _)) (pw_or1 (pt_cmpR (op_neD hr.units) (pe_op op_repA (pe_slice sl_tupA (pv 0) po_none (po_some (pv 1))) (pe_op op_fdiv (pe_callB call_len_seq (by rfl) T.zlen (by decide +kernel) (pa_cons (pv 0) pa_nil)) (pv 1))) (pv 0) (nomark _)))))
      (pss_one (ps_aug (i := 1) nd rfl (Or.inl rfl) pe_int ip_add)))
    (pss_one (ps_ret (pe_tup (pa_cons (pe_slice sl_tupA (pv 0) po_none (po_some (pv 1))) (pa_cons (pe_op op_fdiv (pe_callB call_len_seq (by rfl) T.zlen (by decide +kernel) (pa_cons (pv 0) pa_nil)) (pv 1)) pa_nil))))))), ?_⟩
    have pl : IsPer ns ns.length := by
      refine ⟨Nat.mod_self _, ?_⟩
      rw [Nat.div_self l0, List.take_length, Wd.pow_one]
    refine while_by2 (fun σ H' => ∃ s : Nat, σ = [some (.ref p), some (.int (s : Int))] ∧ 1 ≤ s ∧ s ≤ ns.length ∧ (∀ j, 1 ≤ j → j < s → ¬ IsPer ns j) ∧ Same H H') (sizeAt 1 ns.length)
      ⟨1, rfl, Nat.le_refl 1, l0, (fun j j1 j2 => absurd j1 (by omega)), fun _ _ z => z⟩ ?_
    rintro σ H' ⟨s, rfl, s1, sl, no, sm⟩
    have hp' := same_seqT sm hp
    have more : ¬ IsPer ns s → ∀ H2, Same H H2 → ∃ N : L2.St → Hp → Prop, (∀ σ' H', N σ' H' → ∃ m', m' < sizeAt 1 ns.length [some (.ref p), some (.int (s : Int))] H2 ∧ (m' = sizeAt 1 ns.length σ' H' ∧ ∃ s : Nat, σ' = [some (.ref p), some (.int (s : Int))] ∧ 1 ≤ s ∧ s ≤ ns.length ∧ (∀ j, 1 ≤ j → j < s → ¬ IsPer ns j) ∧ Same H H')) ∧ N [some (.ref p), some (.int ((s : Int) + 1))] H2 := fun np H2 s2 => by
      have hs : s < ns.length := by
        rcases Nat.lt_or_eq_of_le sl with g | g
        · exact g
        · rw [g] at np
          exact absurd pl np
      refine ⟨fun σ' H' => σ' = [some (.ref p), some (.int ((s : Int) + 1))] ∧ Same H H', ?_, rfl, s2⟩
      rintro σ' H3 ⟨rfl, s3⟩
      refine ⟨_, ?_, rfl, s + 1, rfl, by omega, by omega, fun j j1 j2 => ?_, s3⟩
      · show ns.length - ((s : Int) + 1).toNat < ns.length - ((s : Int)).toNat
        omega
      · by_cases hj : j = s
        · rw [hj]
          exact np
        · exact no j j1 (by omega)
    have fin : IsPer ns s → ∀ H2, Same H H2 → ∀ r q H3, Same H H3 → H3 q = some (.tup [.ref r, .int ((ns.length / s : Nat) : Int)]) → SqT K H3 r ((ns.take s).map V.int) → Q (.ref q) H3 := fun hper H2 _ r q H3 s3 h3 hr3 =>
      k s q r H3 (root_of_per s1 sl hper no) s3 h3 hr3
    have es : ((ns.length : Int) % (s : Int)) = ((ns.length % s : Nat) : Int) := rfl
    have ed : ((ns.length : Int) / (s : Int)) = ((ns.length / s : Nat) : Int) := rfl
    refine ⟨_, rfl, p, _, rfl, .inr hp', _, rfl, _, _, rfl, rfl, by omega, rfl, _, rfl, ?_⟩
    rw [lm]
    refine ite2 (fun c => ?_) (fun c => ?_)
    · have c' : ns.length % s ≠ 0 := fun z => by
        have c0 : (!decide (V.int ((ns.length : Int) % (s : Int)) = V.int 0)) = true := c
        rw [es, z] at c0
        exact absurd c0 (by decide)
      obtain ⟨N, n1, n2⟩ := more (fun z => c' z.1) H' sm
      exact iteT ⟨N, n1, _, rfl, _, _, rfl, rfl, n2⟩
    · have c' : ns.length % s = 0 := by
        refine Classical.byContradiction fun z => c ?_
        show (!decide (V.int ((ns.length : Int) % (s : Int)) = V.int 0)) = true
        rw [es]
        simp
        omega
      have hk : 1 ≤ ns.length / s := Nat.div_pos sl (by omega)
      have hk2 : ns.length / s ≤ ns.length := Nat.div_le_self _ _
      have htn := take_ne s1 sl
      refine ⟨_, rfl, noPart_i ⟨_, rfl, _, rfl, ?_⟩⟩
      refine slT_gen (K := K) hp' fun b H2 s2 hb => ?_
      rw [← List.map_take] at hb
      have hp2 := same_seqT s2 hp'
      refine ⟨_, rfl, p, _, rfl, .inr hp2, _, rfl, _, _, rfl, rfl, ⟨by omega, by omega⟩, ?_⟩
      rw [lm]
      refine repA_gen (K := K) (k := ((ns.length / s : Nat) : Int)) hb (fun z => htn (List.map_eq_nil_iff.mp z)) (by omega) (by omega) (by rw [List.length_map, List.length_take]; omega) fun c2 H3 s3 hc => ?_
      have e2 : ((ns.length / s : Nat) : Int).toNat = ns.length / s := by omega
      rw [e2, repV] at hc
      have hp3 := same_seqT s3 hp2
      have sA := (sm.trans s2).trans s3
      refine ⟨_, rfl, .tuple ((Wd.pow (ns.take s) (ns.length / s)).map PyData.int), .tuple (ns.map PyData.int), .tup hc (dpAll_ints _ _), .tup hp3 (dpAll_ints _ _), shapedAll_ints _, shapedAll_ints _, ?_⟩
      have ev : PyData.eqv (.tuple ((Wd.pow (ns.take s) (ns.length / s)).map PyData.int)) (.tuple (ns.map PyData.int)) = decide (Wd.pow (ns.take s) (ns.length / s) = ns) := eqv_ints _ ns
      rw [ev]
      refine ⟨_, rfl, ite2 (fun z => ?_) (fun z => ?_)⟩
      · have z' : ¬ Wd.pow (ns.take s) (ns.length / s) = ns := by simpa using z
        obtain ⟨N, n1, n2⟩ := more (fun q => z' q.2) H3 sA
        exact ⟨N, n1, _, rfl, _, _, rfl, rfl, n2⟩
      · have z' : Wd.pow (ns.take s) (ns.length / s) = ns := by simpa using z
        refine ⟨_, rfl, noPart_i ⟨_, rfl, _, rfl, ?_⟩⟩
        refine slT_gen (K := K) hp3 fun r H4 s4 hr4 => ?_
        rw [← List.map_take] at hr4
        have hp4 := same_seqT s4 hp3
        refine ⟨_, rfl, p, _, rfl, .inr hp4, _, rfl, _, _, rfl, rfl, ⟨by omega, by omega⟩, (by show 2 ≤ sizeLine; decide), fun q hq => ?_⟩
        rw [lm]
        exact fin ⟨c', z'⟩ H4 (sA.trans s4) r q _ ((sA.trans s4).trans (same_new hq)) upd_same (same_seqT (same_new hq) hr4)
def spRootOf (T : Txt K mg) : Sp := fun vs H Q E => ∃ (v x : V), vs = [v, x] ∧ SkOr T v H E fun p row =>
  (RdOr row x H K false ∧ ∀ H', Same H H' → E (.ref T.BadRound.C) none H') ∨
  ∃ (t : Addr) (ns : List Int), x = .ref t ∧ SqT K H t (ns.map V.int) ∧ ns.length ≤ 40 ∧ Lt (row.length : Int) ns ∧ Rnd ns ∧
    ∀ s q r H', IsRoot ns s → Same H H' → H' q = some (.tup [.ref r, .int ((ns.length / s : Nat) : Int)]) → SqT K H' r ((ns.take s).map V.int) → Q (.ref q) H'
theorem Rnd.or {row ns : List Int} {H : Hp} {t : Addr} (h : Rnd ns) (ht : SqT K H t (ns.map V.int)) (hn : ns.length ≤ 40) (hb : Lt (row.length : Int) ns) : RdOr row (.ref t) H K true :=
  .inr ⟨t, ns, rfl, ht, hn, hb, (decide_eq_true ⟨h.1, h.2⟩).symm⟩
theorem ok_root_of (T : Txt K mg) : FnOk P w K mg base (L2.CX P w) 8 T.root_of.a T.root_of.fd ["skin", "loop"] (spRootOf T) := by
  refine T.root_of.F.okX sc_root_of (fun vs H Q E h => ?_) (fun cdv A outer s H vs Q E hr h => ?_)
  · obtain ⟨v, x, rfl, _⟩ := h
    rfl
  · obtain ⟨v, x, rfl, h⟩ := h
    refine ⟨_, (pss_cons (ps_expr (pe_callS (ok_check_skin T) (hr.mono (by decide)) (by rfl) T.check_skin.g T.check_skin.k T.check_skin.b (fun σ => passAt (takes_of rfl rfl rfl rfl) σ) (pa_cons (pv 0) pa_nil)))
    (pss_cons (ps_expr (pe_callS (ok_check_round T) (hr.mono (by decide)) (by rfl) T.check_round.g T.check_round.k T.check_round.b (fun σ => passAt (takes_of rfl rfl rfl rfl) σ) (pa_cons (pv 0) (pa_cons (pv 1) pa_nil))))
    (pss_one (ps_ret (pe_call (ok_rooted T) (hr.mono (by decide)) (by rfl) T.rooted.g T.rooted.k T.rooted.b .nil pass0 (pa_cons (pv 1) pa_nil)))))), ?_⟩
    rcases h with ⟨hv, he⟩ | ⟨p, row, rfl, hs, hl, h⟩
    · exact ⟨v, rfl, v, false, rfl, hv, (fun z => nomatch z), fun _ => he⟩
    · refine ⟨_, rfl, _, true, rfl, hs.v, (fun _ => ?_), fun z => nomatch z⟩
      rcases h with ⟨hw, k⟩ | ⟨t, ns, rfl, ht, hn, hb, rn, k⟩
      · exact ⟨_, rfl, _, rfl, p, row, x, false, rfl, hs, hl, hw, (fun z => nomatch z), fun _ => k⟩
      · refine ⟨_, rfl, _, rfl, p, row, _, true, rfl, hs, hl, rn.or ht hn hb, (fun _ H1 s1 => ?_), fun z => nomatch z⟩
        exact ⟨_, rfl, t, ns, rfl, same_seqT s1 ht, rn.1, by omega, fun s q r H' ir s2 h2 h3 => k s q r H' ir (s1.trans s2) h2 h3⟩
def spGoAlong (K : PySem.W.Frag) : Sp := fun vs H Q _ => ∃ (p q : Addr) (a b : List Int), vs = [.ref p, .ref q] ∧ SqT K H p (a.map V.int) ∧ SqT K H q (b.map V.int) ∧ a ≠ [] ∧ a.length ≤ 400 ∧ b ≠ [] ∧ b.length ≤ 400 ∧ (∀ x ∈ a, 0 ≤ x ∧ x < 12) ∧
  ∀ s s' H', IsRoot a s → IsRoot b s' → Same H H' → Q (.bl (decide (a.take s = b.take s') || decide (abt (a.take s) = b.take s'))) H'
theorem ok_go_along (T : Txt K mg) : FnOk P w K mg base CX0 4 T.go_along.a T.go_along.fd ["one", "other"] (spGoAlong K) := by
  refine T.go_along.F.ok sc_go_along (fun vs H Q E h => ?_) (fun cdv A outer s H vs Q E hr h => ?_)
  · obtain ⟨p, q, a, b, rfl, _⟩ := h
    rfl
  · obtain ⟨p, q, a, b, rfl, hp, hq, a0, al, b0, bl, ha, k⟩ := h
    have nd := sc_go_along.nd
    refine ⟨_, (pss_cons (ps_set (i := 2) nd rfl (Or.inl rfl) (pe_ix ix_tup (pe_call (ok_rooted T) (hr.mono (by decide)) (by rfl) T.rooted.g T.rooted.k T.rooted.b .nil pass0 (pa_cons (pv 0) pa_nil)) pe_int (fun _ _ => rfl)))
    (pss_one (ps_ret (pe_cmpR (op_inDT hr.units65) (pe_ix ix_tup (pe_call (ok_rooted T) (hr.mono (by decide)) (by rfl) T.rooted.g T.rooted.k T.rooted.b .nil pass0 (pa_cons (pv 1) pa_nil)) pe_int (fun _ _ => rfl)) (pe_tup (pa_cons (pv 2) (pa_cons (pe_call (ok_gone_round_back T) (hr.mono (by decide)) (by rfl) T.gone_round_back.g T.gone_round_back.k T.gone_round_back.b .nil pass0 (pa_cons (pv 2) pa_nil)) pa_nil))) rfl)))), ?_⟩
    refine ⟨_, rfl, p, a, rfl, hp, a0, al, fun s q1 r1 H1 ir s1 h1 g1 => ?_⟩
    refine ⟨q1, _, 0, .ref r1, rfl, rfl, SqT.of h1, rfl, ?_⟩
    refine ⟨_, rfl, q, b, rfl, same_seqT s1 hq, b0, bl, fun s' q2 r2 H2 ir' s2 h2 g2 => ?_⟩
    refine ⟨q2, _, 0, .ref r2, rfl, rfl, SqT.of h2, rfl, ?_⟩
    have g1' := same_seqT s2 g1
    have tn := take_ne ir.1 ir.2.1
    refine ⟨_, rfl, _, rfl, r1, a.take s, rfl, g1', tn, by rw [List.length_take]; omega, (fun x hx => ha x (List.mem_of_mem_take hx)), fun r3 H3 s3 g3 => ⟨(by show 2 ≤ sizeLine; decide), fun t ht => ?_⟩⟩
    have sN : Same H3 (upd H3 t (.tup [.ref r1, .ref r3])) := same_new ht
    refine ⟨.tuple ((b.take s').map PyData.int), [.tuple ((a.take s).map PyData.int), .tuple ((abt (a.take s)).map PyData.int)], .tup (same_seqT (s3.trans sN) g2) (dpAll_ints _ _), .tup (SqT.of upd_same) (.cons (.tup (same_seqT (s3.trans sN) g1') (dpAll_ints _ _)) (.cons (.tup (same_seqT sN g3) (dpAll_ints _ _)) .nil)), shapedAll_ints _, ?_, ?_⟩
    · exact shaped2 _ _
    · have ev1 : PyData.eqv (.tuple ((a.take s).map PyData.int)) (.tuple ((b.take s').map PyData.int)) = decide (a.take s = b.take s') := eqv_ints _ _
      have ev2 : PyData.eqv (.tuple ((abt (a.take s)).map PyData.int)) (.tuple ((b.take s').map PyData.int)) = decide (abt (a.take s) = b.take s') := eqv_ints _ _
      rw [List.any_cons, List.any_cons, List.any_nil, ev1, ev2, Bool.or_false]
      exact k s s' _ ir ir' (((s1.trans s2).trans s3).trans sN)
end
end Tt
set_option maxRecDepth 100000
set_option maxHeartbeats 4000000
namespace Tt
open PySem L2
section
variable {P : Program} {w : World} {K : PySem.W.Frag} {mg : Str → Option Value} {base : Heap}
def spExN (T : Txt K mg) : Sp := fun vs H Q _ => ∃ (a : Addr) (v : V), vs = [.ref a, v] ∧ H a = some (exo a T.BadNumber.C none) ∧
  ∀ dx, H dx = none → dx ≠ a → Q .non (upd (upd H dx (exd dx [("part", v)])) a (exo a T.BadNumber.C (some dx)))
theorem ok_BadNumber_init (T : Txt K mg) : FnOk P w K mg base CX0 1 T.BadNumber.fI T.BadNumber.fd ["self", "part"] (spExN T) := by
  refine T.BadNumber.F.ok sc_BadNumber_init (fun vs H Q E h => ?_) (fun cdv A outer s H vs Q E hr h => ?_)
  · obtain ⟨a, v, rfl, _⟩ := h
    rfl
  · obtain ⟨a, v, rfl, ha, k⟩ := h
    refine ⟨_, (pss_one (ps_ost (pv 0) (pv 1))), ?_⟩
    exact ⟨v, rfl, _, rfl, a, T.BadNumber.C, rfl, T.BadNumber.o, T.BadNumber.n, .inl ⟨ha, fun dx n ne => k dx n ne⟩⟩
def NumErr (T : Txt K mg) (part : Str) (H : Hp) (E : XK) : Prop := ∀ d H', Same H H' → H' d = some (.xd [("part", .str part)]) → E (.ref T.BadNumber.C) (some d) H'
def spGone (T : Txt K mg) : Sp := fun vs H Q E => ∃ (v x y : V), vs = [v, x, y] ∧ SkOr T v H E fun p row =>
  (RdOr row x H K false ∧ ∀ H', Same H H' → E (.ref T.BadRound.C) none H') ∨
  ∃ (t : Addr) (ns : List Int), x = .ref t ∧ SqT K H t (ns.map V.int) ∧ ns.length ≤ 40 ∧ Lt (row.length : Int) ns ∧ Rnd ns ∧
    ((∃ S, TyB K H y S ∧ inB 1 9 y = false ∧ NumErr T "times" H E) ∨ ∃ m : Nat, y = .int (m : Int) ∧ 1 ≤ m ∧ m ≤ 9 ∧ ∀ q H', Same H H' → SqT K H' q ((Wd.pow ns m).map V.int) → Q (.ref q) H')
theorem ok_gone (T : Txt K mg) : FnOk P w K mg base (L2.CX P w) 8 T.gone.a T.gone.fd ["skin", "loop", "times"] (spGone T) := by
  refine T.gone.F.okX sc_gone (fun vs H Q E h => ?_) (fun cdv A outer s H vs Q E hr h => ?_)
  · obtain ⟨v, x, y, rfl, _⟩ := h
    rfl
  · obtain ⟨v, x, y, rfl, h⟩ := h
    refine ⟨_, (pss_cons (ps_expr (pe_callS (ok_check_skin T) (hr.mono (by decide)) (by rfl) T.check_skin.g T.check_skin.k T.check_skin.b (fun σ => passAt (takes_of rfl rfl rfl rfl) σ) (pa_cons (pv 0) pa_nil)))
    (pss_cons (ps_expr (pe_callS (ok_check_round T) (hr.mono (by decide)) (by rfl) T.check_round.g T.check_round.k T.check_round.b (fun σ => passAt (takes_of rfl rfl rfl rfl) σ) (pa_cons (pv 0) (pa_cons (pv 1) pa_nil))))
    (pss_cons (ps_if (pt_not (pt_val (pe_call (ok_is_within T) (hr.mono (by decide)) (by rfl) T.is_within.g T.is_within.k T.is_within.b .nil pass0 (pa_cons (pv 2) (pa_cons pe_int (pa_cons pe_int pa_nil))))))
      (pss_one (ps_raise rfl (takes_of rfl rfl rfl rfl) (pmk_oex T.BadNumber.o T.BadNumber.i T.BadNumber.t (ok_BadNumber_init T) (hr.mono (by decide)) T.BadNumber.b .nil pass0 (by rfl) T.BadNumber.g (pa_cons pe_str pa_nil))))
      pss_nil)
    (pss_one (ps_ret (pe_op op_repA (pv 1) (pv 2))))))), ?_⟩
    rcases h with ⟨hv, he⟩ | ⟨p, row, rfl, hs, hl, h⟩
    · exact ⟨v, rfl, v, false, rfl, hv, (fun z => nomatch z), fun _ => he⟩
    · refine ⟨_, rfl, _, true, rfl, hs.v, (fun _ => ?_), fun z => nomatch z⟩
      rcases h with ⟨hw, k⟩ | ⟨t, ns, rfl, ht, hn, hb, rn, h⟩
      · exact ⟨_, rfl, _, rfl, p, row, x, false, rfl, hs, hl, hw, (fun z => nomatch z), fun _ => k⟩
      · refine ⟨_, rfl, _, rfl, p, row, _, true, rfl, hs, hl, rn.or ht hn hb, (fun _ H1 s1 => ?_), fun z => nomatch z⟩
        rcases h with ⟨S, ty, nb, he⟩ | ⟨m, rfl, m1, m9, k⟩
        · refine ⟨_, rfl, y, 1, 9, S, rfl, TyB.same ty s1, _, rfl, ?_⟩
          rw [nb]
          refine iteT ⟨(by show 1 ≤ 1000; decide), fun a ha => ?_⟩
          refine ⟨a, .str "times", rfl, upd_same, fun dx ndx ne => ⟨rfl, dx, ([("part", V.str "times")] : List (Str × V)), upd_same, ?_, ?_, ?_⟩⟩
          · rw [upd_ne ne, upd_same]
          · rw [upd_ne ne] at ndx
            exact ndx
          · have ndx' : H1 dx = none := by rw [upd_ne ne] at ndx; exact ndx
            refine he dx _ (fun b o hb => ?_) upd_same
            have hb1 := s1 _ _ hb
            have nb : b ≠ a := ne_of_none hb1 ha
            have nb2 : b ≠ dx := ne_of_none hb1 ndx'
            rw [upd_ne nb2, del_ne nb, upd_ne nb, upd_ne nb2, upd_ne nb]
            exact hb1
        · refine ⟨_, rfl, _, 1, 9, "int", rfl, .int _, _, rfl, ?_⟩
          have e : inB 1 9 (.int (m : Int)) = true := by
            show (decide ((1 : Int) ≤ (m : Int)) && decide ((m : Int) ≤ 9)) = true
            rw [decide_eq_true (by omega), decide_eq_true (by omega)]
            rfl
          rw [e]
          refine iteF ⟨_, rfl, _, rfl, ?_⟩
          refine repA_gen (K := K) (same_seqT s1 ht) (fun z => rn.1 (List.map_eq_nil_iff.mp z)) (by omega) (by omega) (by rw [List.length_map]; omega) fun c H2 s2 hc => ?_
          rw [repV] at hc
          have e2 : ((m : Nat) : Int).toNat = m := by omega
          rw [e2] at hc
          exact k c H2 (s1.trans s2) hc
def spAlong (T : Txt K mg) : Sp := fun vs H Q E => ∃ (v x y : V), vs = [v, x, y] ∧ SkOr T v H E fun p row =>
  (RdOr row x H K false ∧ ∀ H', Same H H' → E (.ref T.BadRound.C) none H') ∨
  ∃ (t : Addr) (ns : List Int), x = .ref t ∧ SqT K H t (ns.map V.int) ∧ ns.length ≤ 40 ∧ Lt (row.length : Int) ns ∧ Rnd ns ∧
    ((RdOr row y H K false ∧ ∀ H', Same H H' → E (.ref T.BadRound.C) none H') ∨
     ∃ (u : Addr) (ms : List Int), y = .ref u ∧ SqT K H u (ms.map V.int) ∧ ms.length ≤ 40 ∧ Lt (row.length : Int) ms ∧ Rnd ms ∧
       ∀ s s' H', IsRoot ns s → IsRoot ms s' → Same H H' → Q (.bl (decide (ns.take s = ms.take s') || decide (abt (ns.take s) = ms.take s'))) H')
theorem ok_along (T : Txt K mg) : FnOk P w K mg base (L2.CX P w) 8 T.along.a T.along.fd ["skin", "one", "other"] (spAlong T) := by
  refine T.along.F.okX sc_along (fun vs H Q E h => ?_) (fun cdv A outer s H vs Q E hr h => ?_)
  · obtain ⟨v, x, y, rfl, _⟩ := h
    rfl
  · obtain ⟨v, x, y, rfl, h⟩ := h
    refine ⟨_, (pss_cons (ps_expr (pe_callS (ok_check_skin T) (hr.mono (by decide)) (by rfl) T.check_skin.g T.check_skin.k T.check_skin.b (fun σ => passAt (takes_of rfl rfl rfl rfl) σ) (pa_cons (pv 0) pa_nil)))
    (pss_cons (ps_expr (pe_callS (ok_check_round T) (hr.mono (by decide)) (by rfl) T.check_round.g T.check_round.k T.check_round.b (fun σ => passAt (takes_of rfl rfl rfl rfl) σ) (pa_cons (pv 0) (pa_cons (pv 1) pa_nil))))
    (pss_cons (ps_expr (pe_callS (ok_check_round T) (hr.mono (by decide)) (by rfl) T.check_round.g T.check_round.k T.check_round.b (fun σ => passAt (takes_of rfl rfl rfl rfl) σ) (pa_cons (pv 0) (pa_cons (pv 2) pa_nil))))
    (pss_one (ps_ret (pe_call (ok_go_along T) (hr.mono (by decide)) (by rfl) T.go_along.g T.go_along.k T.go_along.b .nil pass0 (pa_cons (pv 1) (pa_cons (pv 2) pa_nil)))))))), ?_⟩
    rcases h with ⟨hv, he⟩ | ⟨p, row, rfl, hs, hl, h⟩
    · exact ⟨v, rfl, v, false, rfl, hv, (fun z => nomatch z), fun _ => he⟩
    · refine ⟨_, rfl, _, true, rfl, hs.v, (fun _ => ?_), fun z => nomatch z⟩
      rcases h with ⟨hw, k⟩ | ⟨t, ns, rfl, ht, hn, hb, rn, h⟩
      · exact ⟨_, rfl, _, rfl, p, row, x, false, rfl, hs, hl, hw, (fun z => nomatch z), fun _ => k⟩
      · refine ⟨_, rfl, _, rfl, p, row, _, true, rfl, hs, hl, rn.or ht hn hb, (fun _ H1 s1 => ?_), fun z => nomatch z⟩
        rcases h with ⟨hw, k⟩ | ⟨u, ms, rfl, hu, hm, hb2, rm, k⟩
        · exact ⟨_, rfl, _, rfl, p, row, y, false, rfl, hs.same s1, hl, hw.same s1, (fun z => nomatch z), fun _ H2 s2 => k H2 (s1.trans s2)⟩
        · refine ⟨_, rfl, _, rfl, p, row, _, true, rfl, hs.same s1, hl, rm.or (same_seqT s1 hu) hm hb2, (fun _ H2 s2 => ?_), fun z => nomatch z⟩
          have sA := s1.trans s2
          exact ⟨_, rfl, _, rfl, t, u, ns, ms, rfl, same_seqT sA ht, same_seqT sA hu, rn.1, by omega, rm.1, by omega, (fun x hx => by have := hb x hx; have := hl.1; omega), fun s s' H3 ir ir' s3 => k s s' H3 ir ir' (sA.trans s3)⟩
def spNumError (T : Txt K mg) : Sp := fun vs H Q _ => ∃ (a d : Addr), vs = [.ref a, .str "times"] ∧ H a = some (exh (.ref T.BadNumber.C) (some d) a) ∧ H d = some (.xd [("part", .str "times")]) ∧ Q (.bl true) H
theorem ok_l_number_error (T : Txt K mg) : FnOk P w K mg base CX0 1 T.l_number_error.a T.l_number_error.fd ["error", "part"] (spNumError T) := by
  refine T.l_number_error.F.ok sc_l_number_error (fun vs H Q E h => ?_) (fun cdv A outer s H vs Q E hr h => ?_)
  · obtain ⟨a, d, rfl, _⟩ := h
    rfl
  · obtain ⟨a, d, rfl, h1, h2, k⟩ := h
    refine ⟨_, (pss_one (ps_ret (pe_and (pe_callB call_isA (by rfl) T.zisinstance (by decide +kernel) (pa_cons (pv 0) (pa_cons (pe_glob (v := .ref T.BadNumber.C) rfl T.BadNumber.g rfl) pa_nil))) (pe_one (pe_cmpR op_eq (pe_callB call_showS (by rfl) T.zrepr (by decide +kernel) (pa_cons (pe_xfH (pv 0)) pa_nil)) (pe_callB call_showS (by rfl) T.zrepr (by decide +kernel) (pa_cons (pv 1) pa_nil)) (nomark _)))))), ?_⟩
    have hz : (reprText "times").length ≤ sizeLine := by decide +kernel
    refine ⟨_, rfl, .inl ⟨a, T.BadNumber.C, some d, _, _, true, rfl, h1, .inr ⟨d, _, rfl, h2⟩, T.BadNumber.ec, .own T.BadNumber.C, T.kNN, _, rfl, iteT ?_⟩⟩
    refine ⟨_, rfl, a, T.BadNumber.C, d, _, .str "times", rfl, h1, h2, T.BadNumber.xf, T.BadNumber.n, rfl, "times", rfl, hz, ?_⟩
    refine ⟨_, rfl, "times", rfl, hz, rfl, ?_⟩
    rw [show decide (V.str (reprText "times") = V.str (reprText "times")) = true from decide_eq_true rfl]
    exact k
theorem ok_l_root (T : Txt K mg) : FnOk P w K mg base CX0 1 T.l_root.a T.l_root.fd ["loop_here"] (spRooted K) := by
  refine T.l_root.F.ok sc_l_root (fun vs H Q E h => ?_) (fun cdv A outer s H vs Q E hr h => ?_)
  · obtain ⟨p, ns, rfl, _⟩ := h
    rfl
  · obtain ⟨p, ns, rfl, hp, hne, hl, k⟩ := h
    have nd := sc_l_root.nd
    have l0 := List.length_pos_iff.mpr hne
    have lm : (ns.map V.int).length = ns.length := List.length_map ..
    refine ⟨_, (pss_cons (ps_set (i := 1) nd rfl (Or.inl rfl) (pe_callB call_len_seq (by rfl) T.zlen (by decide +kernel) (pa_cons (pv 0) pa_nil)))
    (pss_cons (ps_for PassesOwn.never rfl (pi_range2 rfl T.zrange (pa_cons pe_int (pa_cons (pe_op op_add (pv 1) pe_int) pa_nil))) (pg_name (i := 2) nd rfl (Or.inl rfl))
      (pss_one (ps_if (pt_cmpR (op_eqD hr.units) (pe_op op_catA (pe_slice sl_tupA (pv 0) (po_some (pv 2)) po_none) (pe_slice sl_tupA (pv 0) po_none (po_some (pv 2)))) (pv 0) (nomark _))
        (pss_one (ps_ret (pe_tup (pa_cons (pe_slice sl_tupA (pv 0) po_none (po_some (pv 2))) (pa_cons (pe_op op_fdiv (pv 1) (pv 2)) pa_nil)))))
        pss_nil)))
    (pss_one (ps_ret pe_non)))), ?_⟩
    refine ⟨_, rfl, p, _, rfl, .inr hp, _, rfl, _, _, rfl, rfl, 1, _, rfl, ?_, ?_⟩
    · rw [lm]
      omega
    rw [lm]
    have en : ((ns.length : Int) + 1 - 1).toNat = ns.length := by omega
    rw [en]
    refine for_range (lo := 1) (fun i σ H' => ∃ v2, σ = [some (.ref p), some (.int (ns.length : Int)), v2] ∧ (∀ j, 1 ≤ j → j < i + 1 → turnAt ns j ≠ ns) ∧ Same H H') ⟨none, rfl, (fun j j1 j2 => absurd j1 (by omega)), fun _ _ z => z⟩ ?_ ?_
    · rintro i σ H' hi ⟨v2, rfl, no, sm⟩
      have hp1 := same_seqT sm hp
      have ei : (1 : Int) + (i : Int) = ((i + 1 : Nat) : Int) := by omega
      rw [ei]
      refine ⟨_, rfl, _, rfl, _, rfl, noPart_i ?_⟩
      refine slT_genD (K := K) hp1 fun b1 H1 s1 g1 => ?_
      have hp2 := same_seqT s1 hp1
      refine ⟨_, rfl, noPart_i ⟨_, rfl, _, rfl, ?_⟩⟩
      refine slT_gen (K := K) hp2 fun b2 H2 s2 g2 => ?_
      refine catA_gen (K := K) (same_seqT s2 g1) g2 ?_ fun b3 H3 s3 g3 => ?_
      · rw [List.length_take, List.length_drop, lm]
        exact Nat.le_of_lt (small1000 (by omega))
      have et : (ns.map V.int).drop (i + 1) ++ (ns.map V.int).take (i + 1) = (turnAt ns (i + 1)).map V.int := by
        unfold turnAt
        rw [List.map_append, List.map_take, List.map_drop]
      rw [et] at g3
      have hp3 := same_seqT (s2.trans s3) hp2
      have sA := ((sm.trans s1).trans s2).trans s3
      refine ⟨_, rfl, .tuple ((turnAt ns (i + 1)).map PyData.int), .tuple (ns.map PyData.int), .tup g3 (dpAll_ints _ _), .tup hp3 (dpAll_ints _ _), shapedAll_ints _, shapedAll_ints _, ?_⟩
      have ev : PyData.eqv (.tuple ((turnAt ns (i + 1)).map PyData.int)) (.tuple (ns.map PyData.int)) = decide (turnAt ns (i + 1) = ns) := eqv_ints _ ns
      rw [ev]
      refine ⟨_, rfl, ite2 (fun z => ?_) (fun z => ?_)⟩
      · have z' : turnAt ns (i + 1) = ns := by simpa using z
        refine ⟨_, rfl, noPart_i ⟨_, rfl, _, rfl, ?_⟩⟩
        refine slT_gen (K := K) hp3 fun r H4 s4 hr4 => ?_
        rw [← List.map_take] at hr4
        refine ⟨_, rfl, _, rfl, _, _, rfl, rfl, ⟨by omega, by omega⟩, (by show 2 ≤ sizeLine; decide), fun q hq => ?_⟩
        exact k (i + 1) q r _ ⟨by omega, by omega, z', fun j j1 j2 => no j j1 j2⟩ ((sA.trans s4).trans (same_new hq)) upd_same (same_seqT (same_new hq) hr4)
      · have z' : ¬ turnAt ns (i + 1) = ns := by simpa using z
        refine ⟨_, rfl, fun j j1 j2 => ?_, sA⟩
        by_cases hj : j = i + 1
        · rw [hj]
          exact z'
        · exact no j j1 (by omega)
    · rintro σ H' ⟨v2, rfl, no, sm⟩
      exact absurd turnAt_len (no ns.length l0 (by omega))
def spIsAlong (K : PySem.W.Frag) : Sp := fun vs H Q _ => ∃ (p q : Addr) (a b : List Int), vs = [.ref p, .ref q] ∧ SqT K H p (a.map V.int) ∧ SqT K H q (b.map V.int) ∧ Rnd a ∧ a.length ≤ 400 ∧ Rnd b ∧ b.length ≤ 400 ∧ (∀ x ∈ b, 0 ≤ x ∧ x < 12) ∧
  ∀ s s' H', IsRoot a s → IsRoot b s' → Same H H' → Q (.bl (decide (a.take s = b.take s') || decide (a.take s = abt (b.take s')))) H'
theorem ok_l_is_along (T : Txt K mg) : FnOk P w K mg base CX0 4 T.l_is_along.a T.l_is_along.fd ["one", "other"] (spIsAlong K) := by
  refine T.l_is_along.F.ok sc_l_is_along (fun vs H Q E h => ?_) (fun cdv A outer s H vs Q E hr h => ?_)
  · obtain ⟨p, q, a, b, rfl, _⟩ := h
    rfl
  · obtain ⟨p, q, a, b, rfl, hp, hq, ra, al, rb, bl, hb, k⟩ := h
    have nd := sc_l_is_along.nd
    refine ⟨_, (pss_cons (ps_par (i := 2) (j := 3) rfl nd rfl rfl (by decide) rfl rfl (pa_cons (pe_ix ix_tup (pe_call (ok_l_root T) (hr.mono (by decide)) (by rfl) T.l_root.g T.l_root.k T.l_root.b .nil pass0 (pa_cons (pv 0) pa_nil)) pe_int (fun _ _ => rfl)) (pa_cons (pe_ix ix_tup (pe_call (ok_l_root T) (hr.mono (by decide)) (by rfl) T.l_root.g T.l_root.k T.l_root.b .nil pass0 (pa_cons (pv 1) pa_nil)) pe_int (fun _ _ => rfl)) pa_nil)) rfl)
    (pss_one (ps_ret (pe_or (pe_cmpR (op_eqD hr.units) (pv 2) (pv 3) (nomark _)) (pe_one (pe_cmpR (op_eqD hr.units) (pv 2) (pe_call (ok_l_rounded T) (hr.mono (by decide)) (by rfl) T.l_rounded.g T.l_rounded.k T.l_rounded.b .nil pass0 (pa_cons (pe_call (ok_l_undone T) (hr.mono (by decide)) (by rfl) T.l_undone.g T.l_undone.k T.l_undone.b .nil pass0 (pa_cons (pv 3) pa_nil)) pa_nil)) (nomark _))))))), ?_⟩
    refine ⟨_, rfl, p, a, rfl, hp, ra.1, al, fun s q1 r1 H1 ir s1 h1 g1 => ?_⟩
    refine ⟨q1, _, 0, .ref r1, rfl, rfl, SqT.of h1, rfl, ?_⟩
    refine ⟨_, rfl, q, b, rfl, same_seqT s1 hq, rb.1, bl, fun s' q2 r2 H2 ir' s2 h2 g2 => ?_⟩
    refine ⟨q2, _, 0, .ref r2, rfl, rfl, SqT.of h2, rfl, _, _, rfl, ?_⟩
    have g1' := same_seqT s2 g1
    refine ⟨_, rfl, _, rfl, .tuple ((a.take s).map PyData.int), .tuple ((b.take s').map PyData.int), .tup g1' (dpAll_ints _ _), .tup g2 (dpAll_ints _ _), shapedAll_ints _, shapedAll_ints _, ?_⟩
    have ev : PyData.eqv (.tuple ((a.take s).map PyData.int)) (.tuple ((b.take s').map PyData.int)) = decide (a.take s = b.take s') := eqv_ints _ _
    rw [ev]
    refine ⟨_, rfl, ite2 (fun z => ?_) (fun z => ?_)⟩
    · have := k s s' H2 ir ir' (s1.trans s2)
      rw [z, Bool.true_or] at this
      exact this
    · have z' : decide (a.take s = b.take s') = false := by simpa using z
      have bt : ∀ x ∈ b.take s', 0 ≤ x ∧ x < 12 := fun x hx => hb x (List.mem_of_mem_take hx)
      have lt : (b.take s').length ≤ 400 := by rw [List.length_take]; omega
      refine ⟨_, rfl, _, rfl, r2, b.take s', rfl, g2, by omega, bt, fun u H3 s3 h3 => ?_⟩
      have bu : ∀ x ∈ Wd.undo (b.take s'), 0 ≤ x ∧ x < 12 := Lt.undo (e := 12) (by decide) bt
      refine ⟨u, Wd.undo (b.take s'), rfl, SqT.of h3, by rw [Wd.undo_len]; omega, bu, fun q4 H4 s4 h4 => ?_⟩
      rw [closed_abt (rnd_root rb ir')] at h4
      refine ⟨.tuple ((a.take s).map PyData.int), .tuple ((abt (b.take s')).map PyData.int), .tup (same_seqT (s3.trans s4) g1') (dpAll_ints _ _), .tup h4 (dpAll_ints _ _), shapedAll_ints _, shapedAll_ints _, ?_⟩
      have ev2 : PyData.eqv (.tuple ((a.take s).map PyData.int)) (.tuple ((abt (b.take s')).map PyData.int)) = decide (a.take s = abt (b.take s')) := eqv_ints _ _
      rw [ev2]
      have := k s s' H4 ir ir' (((s1.trans s2).trans s3).trans s4)
      rw [z', Bool.false_or] at this
      exact this
theorem rI_div {i j v : Int} {H : Hp} {Q : VK} (hv : i / j = v) (c : CDiv i j) (h : Q (.int v) H) : rI CDiv (fun i j => V.int (i / j)) (.int i) (.int j) H Q := ⟨i, j, rfl, rfl, c, by subst hv; exact h⟩
def spLoopD (K : PySem.W.Frag) : Sp := fun vs H Q _ => ∃ (D : Dw) (e : Int), vs = [.ref D.d, .int e] ∧ 2 ≤ e ∧ e ≤ 12 ∧ e % 2 = 0 ∧ DrOk D H ∧
  ∀ (ns : List Int) q H', Rnd ns → ns.length ≤ 40 → Lt e ns → DrOk D H' → Kp D H H' → SqT K H' q (ns.map V.int) → Q (.ref q) H'
theorem ok_l_loop (T : Txt K mg) : FnOk P w K mg base CX0 5 T.l_loop.a T.l_loop.fd ["draw", "ends_here"] (spLoopD K) := by
  refine T.l_loop.F.ok sc_l_loop (fun vs H Q E h => ?_) (fun cdv A outer s H vs Q E hr h => ?_)
  · obtain ⟨D, e, rfl, _⟩ := h
    rfl
  · obtain ⟨D, e, rfl, e2, e12, ev, dr, k⟩ := h
    have nd := sc_l_loop.nd
    refine ⟨_, (pss_cons (ps_set (i := 2) nd rfl (Or.inl rfl) (pe_call (ok_l_rounded T) (hr.mono (by decide)) (by rfl) T.l_rounded.g T.l_rounded.k T.l_rounded.b .nil pass0 (pa_cons (pe_call (ok_l_core T) (hr.mono (by decide)) (by rfl) T.l_core.g T.l_core.k T.l_core.b .nil pass0 (pa_cons (pv 0) (pa_cons (pv 1) (pa_cons (pe_call (ok_l_pick T) (hr.mono (by decide)) (by rfl) T.l_pick.g T.l_pick.k T.l_pick.b .nil pass0 (pa_cons (pv 0) (pa_cons (pe_lst (pa_cons pe_int (pa_cons pe_int (pa_cons pe_int (pa_cons pe_int (pa_cons pe_int (pa_cons pe_int (pa_cons pe_int (pa_cons pe_int (pa_cons pe_int (pa_cons pe_int (pa_cons pe_int (pa_cons (pe_op op_add pe_int (pe_call (ok_l_take T) (hr.mono (by decide)) (by rfl) T.l_take.g T.l_take.k T.l_take.b .nil pass0 (pa_cons (pv 0) (pa_cons pe_int pa_nil)))) pa_nil))))))))))))) pa_nil))) pa_nil)))) pa_nil)))
    (pss_cons (ps_set (i := 3) nd rfl (Or.inl rfl) (pe_op op_fdiv pe_int (pe_callB call_len_seq (by rfl) T.zlen (by decide +kernel) (pa_cons (pv 2) pa_nil))))
    (pss_one (ps_ret (pe_op op_repA (pv 2) (pe_call (ok_l_pick T) (hr.mono (by decide)) (by rfl) T.l_pick.g T.l_pick.k T.l_pick.b .nil pass0 (pa_cons (pv 0) (pa_cons (pe_lst (pa_cons pe_int (pa_cons pe_int (pa_cons (pe_callB (call_min2 rfl) (by rfl) T.zmin (by decide +kernel) (pa_cons pe_int (pa_cons (pv 3) pa_nil))) (pa_cons (pe_callB (call_min2 rfl) (by rfl) T.zmin (by decide +kernel) (pa_cons pe_int (pa_cons (pv 3) pa_nil))) (pa_cons (pe_callB (call_min2 rfl) (by rfl) T.zmin (by decide +kernel) (pa_cons pe_int (pa_cons (pv 3) pa_nil))) (pa_cons (pe_callB (call_min2 rfl) (by rfl) T.zmin (by decide +kernel) (pa_cons pe_int (pa_cons (pv 3) pa_nil))) (pa_cons (pv 3) (pa_cons (pe_op op_add pe_int (pe_call (ok_l_take T) (hr.mono (by decide)) (by rfl) T.l_take.g T.l_take.k T.l_take.b .nil pass0 (pa_cons (pv 0) (pa_cons (pv 3) pa_nil)))) pa_nil))))))))) pa_nil)))))))), ?_⟩
    refine ⟨_, rfl, _, rfl, _, rfl, _, rfl, D, 13, rfl, by decide, by decide, dr, fun z H1 z0 z1 d1 k1 => ⟨_, _, rfl, rfl, (by show 12 ≤ sizeLine; decide), fun l hl => ?_⟩⟩
    refine ⟨D, l, _, rfl, .inl (SqL.of upd_same), (d1.off hl).2.1, by simp, (by show 12 < 1073741824; decide), d1.new hl, fun i y H2 hi d2 k2 => ?_⟩
    have kA : Kp D H H2 := (k1.trans (Kp.new hl)).trans k2
    obtain ⟨z, rfl, z0, z1⟩ : ∃ z' : Int, y = .int z' ∧ 1 ≤ z' ∧ z' ≤ 40 := by
      have hx := List.mem_of_getElem? hi
      simp only [List.mem_cons, List.not_mem_nil, or_false] at hx
      rcases hx with rfl | rfl | rfl | rfl | rfl | rfl | rfl | rfl | rfl | rfl | rfl | rfl
      all_goals exact ⟨_, rfl, by omega, by omega⟩
    clear k1 k2 hl hi d1
    refine ⟨D, e, z, rfl, e2, e12, ev, z0, by omega, d2, fun ns q1 H3 zn lt cr d3 k3 h3 => ?_⟩
    have hne : ns ≠ [] := fun q => by
      rw [q] at zn
      simp at zn
      omega
    have lt12 : ∀ x ∈ ns, 0 ≤ x ∧ x < 12 := fun y hy => by have := lt y hy; omega
    refine ⟨q1, ns, rfl, SqT.of h3, by omega, lt12, fun q2 H4 s4 h4 => ?_⟩
    rw [closed_cr cr] at h4
    have rb := rnd_least hne cr
    have lb : (leastT ns).length = ns.length := (Wd.turn_len (leastT_turn hne)).symm
    have ltb : Lt e (leastT ns) := fun x hx => by
      have : x ∈ closedT ns := by rw [closed_cr cr]; exact hx
      exact lt x (closedT_mem this)
    have d4 := d3.same s4
    have kB : Kp D H H4 := (kA.trans k3).trans (Kp.of s4)
    generalize leastT ns = bs at h4 rb lb ltb
    have b1 : 1 ≤ bs.length := List.length_pos_iff.mpr rb.1
    have b40 : bs.length ≤ 40 := by omega
    clear k3 kA h3 cr lt lt12 d2 d3 s4
    refine ⟨_, rfl, q2, _, rfl, .inr h4, ?_⟩
    rw [List.length_map]
    refine rI_div (v := ((40 / bs.length : Nat) : Int)) rfl ⟨by omega, by omega⟩ ?_
    have m1 : 1 ≤ 40 / bs.length := Nat.div_pos b40 (by omega)
    have m40 : 40 / bs.length * bs.length ≤ 40 := Nat.div_mul_le_self 40 bs.length
    have m40' : 40 / bs.length ≤ 40 := Nat.div_le_self _ _
    generalize 40 / bs.length = mo at m1 m40 m40' ⊢
    refine ⟨_, rfl, _, rfl, _, rfl, _, _, rfl, _, rfl, _, _, rfl, _, rfl, _, _, rfl, _, rfl, _, _, rfl, _, rfl, _, rfl, _, rfl, D, (mo : Int), rfl, by omega, by omega, d4, fun g H5 g0 g1 d5 k5 => ⟨_, _, rfl, rfl, (by show 8 ≤ sizeLine; decide), fun l2 hl2 => ?_⟩⟩
    refine ⟨D, l2, _, rfl, .inl (SqL.of upd_same), (d5.off hl2).2.1, by simp, (by show 8 < 1073741824; decide), d5.new hl2, fun i y H6 hi d6 k6 => ?_⟩
    obtain ⟨z, rfl, z0, z1⟩ : ∃ z' : Int, y = .int z' ∧ 1 ≤ z' ∧ z' ≤ (mo : Int) := by
      have hx := List.mem_of_getElem? hi
      simp only [List.mem_cons, List.not_mem_nil, or_false] at hx
      rcases hx with rfl | rfl | rfl | rfl | rfl | rfl | rfl | rfl
      all_goals exact ⟨_, rfl, by (try split) <;> omega, by (try split) <;> omega⟩
    have kC : Kp D H4 H6 := (k5.trans (Kp.new hl2)).trans k6
    have h6 := kC.seqT d4 h4
    obtain ⟨n, rfl⟩ := Int.eq_ofNat_of_zero_le (show 0 ≤ z by omega)
    refine repA_gen (K := K) h6 (fun q => rb.1 (List.map_eq_nil_iff.mp q)) (by omega) (by omega) (by rw [List.length_map]; omega) fun c H7 s7 h7 => ?_
    rw [repV] at h7
    have e2 : ((n : Nat) : Int).toNat = n := by omega
    rw [e2] at h7
    refine k (Wd.pow bs n) c H7 (rnd_pow rb (by omega)) ?_ (fun x hx => ltb x (Wd.pow_mem hx)) (d6.same s7) ((kB.trans kC).trans (Kp.of s7)) h7
    rw [Wd.pow_len]
    exact Nat.le_trans (Nat.mul_le_mul_right _ (show n ≤ mo by omega)) m40
end
end Tt
set_option maxRecDepth 100000
set_option maxHeartbeats 4000000
namespace Tt
open PySem L2
open LamX (Tabs TabS TabB ExtN CodeO tLam)
def tCallW (i : Nat) (S : Addr → Sp → Prop) (E : XK) (t : TA) : TE := fun σ H Q => ∃ f sp, σ[i]? = some (some (.ref f)) ∧ S f sp ∧ t σ H fun vs H1 => sp vs H1 Q E
section
variable {X : Cx} {CX : CXT} {k i : Nat} {E : XK} {x : Str} {p pos : Pos} {e : Expr} {es : List Expr} {t : TA}
structure HeldX (P : Program) (w : World) (K : PySem.W.Frag) (mg : Str → Option Value) (base : Heap) (CX : CXT) (k : Nat) (f : Addr) (sp : Sp) : Prop where
  ex : ∃ (fd : FuncData) (ps : List Str), FnOk P w K mg base CX k f fd ps sp ∧ PySem.W.keepIn K (.ref f) = true ∧ Binds K fd ps []
theorem pe_callW {S : Addr → Sp → Prop} (A : ∀ f sp, S f sp → HeldX X.prog X.w X.K X.mg X.base CX k f sp) (hr : Room k X.A) (hN : X.N[i]? = some x) (hv : Vis X.env.scope x) (hx : Passes CX X E) (ha : PA X (e :: es) t)
    (hdb : (x == ("__debug__" : Str)) = false := by decide) (hcd : (x == ("__classdict__" : Str)) = false := by decide)
    (he : starEach (e :: es) X.env = (false, eval e X.env) :: starEach es X.env := by rfl) (hpl : (backTo pos (starEach es X.env)).any (·.1) = false := by rfl) : PE X (.Call (.Name x p) (e :: es) [] pos) (tCallW i S E t) := by
  refine ⟨fun pins s σ H Q I h => ?_⟩
  obtain ⟨f, sp, h1, h2, h3⟩ := h
  obtain ⟨fd, ps, F, hk, hb⟩ := (A f sp h2).ex
  refine (pe_callL (i := i) (f := f) (sp := sp) (dvs := []) (E := E) F hr hN hv hk hb .nil hx ha hdb hcd he hpl).run pins s σ H Q I ⟨h1, ?_⟩
  have e0 : (fun (vs : List V) (H1 : Hp) => sp (vs ++ []) H1 Q E) = fun vs H1 => sp vs H1 Q E := by
    funext vs H1
    rw [List.append_nil]
  show t σ H (fun vs H1 => sp (vs ++ []) H1 Q E)
  rw [e0]
  exact h3
end
section
variable {P : Program} {w : World} {K : PySem.W.Frag} {mg : Str → Option Value} {base : Heap}
theorem exm_R (T : Txt K mg) : PySem.W.exmOne K (.ref T.BadRound.C) (.ref T.RoundError.C) = some true := PySem.W.exm_ref T.RoundError.ec.hs T.RoundError.ec.hd T.RoundError.ty T.sRR
theorem exm_N (T : Txt K mg) : PySem.W.exmOne K (.ref T.BadNumber.C) (.ref T.RoundError.C) = some true := PySem.W.exm_ref T.RoundError.ec.hs T.RoundError.ec.hd T.RoundError.ty T.sNR
theorem tC_i {v : V} {σ : L2.St} {H : Hp} {Q : VK} (h : Q v H) : tC v σ H Q := h
def tb (e : Int) (xs : List V) : Bool := decide (1 ≤ xs.length ∧ xs.length ≤ 40) && (xs.all (inB 0 (e - 1)) && decide (closedT (intsOf xs) = intsOf xs))
theorem tup_rd {row : List Int} {H : Hp} {t : Addr} {xs : List V} (h : SqT K H t xs) (n : xs.length ≤ 200) (it : ∀ y ∈ xs, Itm y) (ev : row.length % 2 = 0) : RdOr row (.ref t) H K (tb (row.length : Int) xs) := by
  have eh : hiE row = (row.length : Int) - 1 := by
    unfold hiE
    omega
  have wv : WV K 40 row H (.ref t) (decide ((xs.length : Int) ≤ 40) && xs.all (inB 0 (hiE row))) := .tup h (by omega) (fun y hy => (it y hy).ty)
  cases q : (decide ((xs.length : Int) ≤ 40) && xs.all (inB 0 (hiE row))) with
  | false =>
    rw [q] at wv
    refine .inl ⟨wv, ?_⟩
    rw [Bool.and_eq_false_iff, eh] at q
    unfold tb
    rcases q with q | q
    · have : ¬ (xs.length : Int) ≤ 40 := by simpa using q
      rw [decide_eq_false (fun z => by omega), Bool.false_and]
    · rw [q, Bool.false_and, Bool.and_false]
  | true =>
    rw [Bool.and_eq_true, eh] at q
    have q1 : (xs.length : Int) ≤ 40 := by simpa using q.1
    obtain ⟨ex, hr2⟩ := intsOf_all q.2
    have hlen : (intsOf xs).length = xs.length := by
      have := congrArg List.length ex
      rw [List.length_map] at this
      omega
    have h' := h
    rw [ex] at h'
    refine .inr ⟨t, intsOf xs, rfl, h', by omega, fun y hy => by have := hr2 y hy; omega, ?_⟩
    unfold tb
    rw [q.2, Bool.true_and]
    by_cases e0 : intsOf xs = []
    · have : xs.length = 0 := by rw [← hlen, e0]; rfl
      rw [decide_eq_false (fun z : 1 ≤ xs.length ∧ xs.length ≤ 40 => by omega), Bool.false_and]
      simp [e0]
    · have : 0 < (intsOf xs).length := List.length_pos_iff.mpr e0
      rw [decide_eq_true (show 1 ≤ xs.length ∧ xs.length ≤ 40 by omega), Bool.true_and]
      simp [e0]
inductive NoLp (K : PySem.W.Frag) (D : Dw) (e : Int) (H : Hp) : V → Prop where
  | int (i : Int) : NoLp K D e H (.int i)
  | non : NoLp K D e H .non
  | str (s : Str) : NoLp K D e H (.str s)
  | lst {a : Addr} {xs : List V} (h : H a = some (.lst xs)) (o : Off D a) : NoLp K D e H (.ref a)
  | tup {t : Addr} {xs : List V} (h : SqT K H t xs) (n : xs.length ≤ 200) (it : ∀ y ∈ xs, Itm y) (b : tb e xs = false) : NoLp K D e H (.ref t)
section
variable {D : Dw} {e : Int} {H H' : Hp} {x : V}
theorem NoLp.same (h : NoLp K D e H x) (s : Same H H') : NoLp K D e H' x := by
  cases h with
  | int i => exact .int i
  | non => exact .non
  | str z => exact .str z
  | lst h o => exact .lst (s _ _ h) o
  | tup h n it b => exact .tup (same_seqT s h) n it b
theorem NoLp.kp (h : NoLp K D e H x) (dr : DrOk D H) (k : Kp D H H') : NoLp K D e H' x := by
  cases h with
  | int i => exact .int i
  | non => exact .non
  | str z => exact .str z
  | lst h o => exact .lst (k.at o h) o
  | tup h n it b => exact .tup (k.seqT dr h) n it b
end
theorem NoLp.rd {D : Dw} {row : List Int} {H : Hp} {x : V} (h : NoLp K D (row.length : Int) H x) (ev : row.length % 2 = 0) : RdOr row x H K false := by
  cases h with
  | int i => exact .inl ⟨.non (.int i) (by decide), rfl⟩
  | non => exact .inl ⟨.non .non (by decide), rfl⟩
  | str z => exact .inl ⟨.non (.str z) (by decide), rfl⟩
  | @lst a xs h o =>
    have h' : SqL K H a xs := SqL.of h
    exact .inl ⟨.non (.lst h') (by decide), rfl⟩
  | tup h n it b =>
    rw [← b]
    exact tup_rd h n it ev
theorem RdOr.ext {row : List Int} {x : V} {H H' : Hp} {b : Bool} (h : RdOr row x H K b) (s : ExtN H H') : RdOr row x H' K b := by
  rcases h with ⟨h, e⟩ | ⟨t, ns, e, h, l, lt, eb⟩
  · exact .inl ⟨wv_ext h s, e⟩
  · exact .inr ⟨t, ns, e, sqT_ext s h, l, lt, eb⟩
theorem tb_ints (e : Int) (ns : List Int) (h : closedT ns ≠ ns) : tb e (ns.map V.int) = false := by
  unfold tb
  rw [intsOf_map, decide_eq_false h, Bool.and_false, Bool.and_false]
theorem tb_len (e : Int) (xs : List V) (h : 40 < xs.length) : tb e xs = false := by
  unfold tb
  rw [decide_eq_false (fun z => by omega), Bool.false_and]
theorem tb_mate {e f : Int} {ns : List Int} (hf : ns[0]? = some f) : tb e ((ns ++ [Wd.mate f]).map V.int) = false := by
  refine tb_ints e _ fun z => ?_
  have hne : ns ++ [Wd.mate f] ≠ [] := by simp
  have cr := ((rnd_iff hne).mp z).1
  have hl : 0 < ns.length := by
    have := (List.getElem?_eq_some_iff.mp hf).1
    exact this
  refine cr ns.length (Wd.mate f) f ?_ ?_ (Wd.mate_mate f).symm
  · rw [List.getElem?_append_left (by simp), List.getElem?_append_right (Nat.le_refl _), Nat.sub_self]
    rfl
  · rw [List.getElem?_append_right (by simp)]
    have : ns.length + 1 - (ns ++ [Wd.mate f]).length = 0 := by simp
    rw [this, List.getElem?_append_left hl]
    exact hf
structure Nd (K : PySem.W.Frag) (D : Dw) (e : Int) (t : Addr) (ns : List Int) (L : List V) (H0 H : Hp) : Prop where
  dr : DrOk D H
  wd : SqT K H t (ns.map V.int)
  al : ∀ y ∈ L, NoLp K D e H y
  kp : Kp D H0 H
theorem Nd.same {D : Dw} {e : Int} {t : Addr} {ns : List Int} {L : List V} {H0 H H' : Hp} (c : Nd K D e t ns L H0 H) (s : Same H H') : Nd K D e t ns L H0 H' :=
  ⟨c.dr.same s, same_seqT s c.wd, fun y hy => (c.al y hy).same s, c.kp.trans (.of s)⟩
theorem Nd.add {D : Dw} {e : Int} {t : Addr} {ns : List Int} {L : List V} {H0 H : Hp} {x : V} (c : Nd K D e t ns L H0 H) (n : NoLp K D e H x) : Nd K D e t ns (L ++ [x]) H0 H :=
  ⟨c.dr, c.wd, fun y hy => (List.mem_append.mp hy).elim (c.al y) fun h => by rw [List.mem_singleton.mp h]; exact n, c.kp⟩
def spNoLoop (K : PySem.W.Frag) : Sp := fun vs H Q _ => ∃ (D : Dw) (e : Int) (t : Addr) (ns : List Int), vs = [.ref D.d, .ref t] ∧ e ≤ 12 ∧ SqT K H t (ns.map V.int) ∧ ns ≠ [] ∧ ns.length ≤ 40 ∧ DrOk D H ∧
  ∀ x H', DrOk D H' → Kp D H H' → NoLp K D e H' x → Q x H'
theorem ok_l_no_loop (T : Txt K mg) : FnOk P w K mg base CX0 4 T.l_no_loop.a T.l_no_loop.fd ["draw", "loop_here"] (spNoLoop K) := by
  refine T.l_no_loop.F.ok sc_l_no_loop (fun vs H Q E h => ?_) (fun cdv A outer s H vs Q E hr h => ?_)
  · obtain ⟨D, e, t, ns, rfl, _⟩ := h
    rfl
  · obtain ⟨D, e, t, ns, rfl, e12, ht, hne, hn, dr, k⟩ := h
    have nd := sc_l_no_loop.nd
    have l0 : 0 < ns.length := List.length_pos_iff.mpr hne
    have lm : (ns.map V.int).length = ns.length := List.length_map ..
    have nm : ns.map V.int ≠ [] := fun z => hne (List.map_eq_nil_iff.mp z)
    obtain ⟨f0, hf0⟩ : ∃ f0, ns[0]? = some f0 := ⟨_, List.getElem?_eq_getElem l0⟩
    have at0 : atI (ns.map V.int) 0 = some (V.int f0) := atI_nat (j := 0) (ints_get hf0)
    have c0 : Nd K D e t ns [] H H := ⟨dr, ht, fun _ h => absurd h (by simp), fun _ _ h _ _ => h⟩
    refine ⟨_, (pss_cons (ps_set (i := 2) nd rfl (Or.inl rfl) (pe_lst (pa_cons (pe_tup pa_nil) (pa_cons pe_non (pa_cons pe_int (pa_cons (pe_callTy call_list_of (by rfl) T.zlist (by decide +kernel) (pa_cons (pv 1) pa_nil)) (pa_cons (pe_op op_catA (pv 1) (pe_tup (pa_cons (pe_call (ok_l_mate T) (hr.mono (by decide)) (by rfl) T.l_mate.g T.l_mate.k T.l_mate.b .nil pass0 (pa_cons (pe_ix ix_tup (pv 1) pe_int (fun _ _ => rfl)) pa_nil)) pa_nil))) (pa_cons (pe_slice sl_tupA (pe_op op_repA (pv 1) pe_int) po_none (po_some pe_int)) (pa_cons pe_str (pa_cons (pe_tup (pa_cons pe_bl pa_nil)) (pa_cons (pe_tup (pa_cons pe_int pa_nil)) pa_nil)))))))))))
    (pss_one (ps_ret (pe_call (ok_l_pick T) (hr.mono (by decide)) (by rfl) T.l_pick.g T.l_pick.k T.l_pick.b .nil pass0 (pa_cons (pv 0) (pa_cons (pv 2) pa_nil)))))), ?_⟩
    refine ⟨(by show 0 ≤ sizeLine; decide), fun t1 ht1 => ?_⟩
    have c1 := (((c0.same (same_new (o := .tup []) ht1)).add (.tup (SqT.of upd_same) (by show 0 ≤ 200; decide) (fun _ h => absurd h (by simp)) rfl)).add .non).add (.int 5)
    refine ⟨_, rfl, t, _, rfl, .inr c1.wd, fun l2 hl2 => ?_⟩
    have c2 := (c1.same (same_new (o := .lst (ns.map V.int)) hl2)).add (.lst upd_same (c1.dr.off hl2))
    generalize upd (upd H t1 (.tup [])) l2 (.lst (ns.map V.int)) = H2 at c2
    clear c0 c1 ht1 hl2
    refine ⟨_, rfl, _, rfl, t, _, 0, V.int f0, rfl, rfl, c2.wd, at0, f0, rfl, (by show 1 ≤ sizeLine; decide), fun q1 hq1 => ?_⟩
    have c3 := c2.same (same_new (o := .tup [.int (Wd.mate f0)]) hq1)
    refine catA_gen (K := K) c3.wd (SqT.of upd_same) ?_ fun d1 H4 s4 f1 => ?_
    · rw [lm]
      show _ + 1 ≤ sizeLine
      exact Nat.le_of_lt (small1000 (by omega))
    have e1 : ns.map V.int ++ [V.int (Wd.mate f0)] = (ns ++ [Wd.mate f0]).map V.int := by rw [List.map_append]; rfl
    rw [e1] at f1
    have c4 := (c3.same s4).add (.tup f1 (by rw [List.length_map, List.length_append]; show _ + 1 ≤ 200; omega) Itm.ints (tb_mate hf0))
    clear c2 c3 s4 f1 hq1
    refine ⟨_, rfl, tC_i ?_⟩
    refine repA_gen (K := K) (k := 41) c4.wd nm (by decide) (by decide) (by rw [lm]; omega) fun d2 H5 s5 f2 => ?_
    refine noPart_i ⟨41, rfl, ?_⟩
    refine slT_gen (K := K) (n := 41) f2 fun d3 H6 s6 f3 => ?_
    have l41 : ((List.replicate (41 : Int).toNat (ns.map V.int)).flatten.take 41).length = 41 := by
      rw [repV, List.length_take, List.length_map, Wd.pow_len]
      have : 41 * 1 ≤ (41 : Int).toNat * ns.length := Nat.mul_le_mul (by decide) l0
      omega
    have c6 := ((c4.same s5).same s6).add (.tup f3 (by rw [l41]; decide) (fun y hy => Itm.ints y (flat_mem (List.mem_of_mem_take hy))) (tb_len e _ (by rw [l41]; decide)))
    clear c4 s5 s6 f2 f3
    have c7 := c6.add (.str "ab")
    refine ⟨(by show 1 ≤ sizeLine; decide), fun t5 ht5 => ?_⟩
    have c8 := (c7.same (same_new (o := .tup [.bl true]) ht5)).add (.tup (SqT.of upd_same) (by decide) (fun y hy => by rw [List.mem_singleton.mp hy]; exact .bl _) (by rfl))
    refine ⟨(by show 1 ≤ sizeLine; decide), fun t6 ht6 => ⟨(by show 9 ≤ sizeLine; decide), fun l hl => ?_⟩⟩
    have c9 := (c8.same (same_new (o := .tup [.int 99]) ht6)).add (.tup (SqT.of upd_same) (by decide) (fun y hy => by rw [List.mem_singleton.mp hy]; exact .int _) (by
      have h99 : inB 0 (e - 1) (.int 99) = false := by
        show (decide ((0 : Int) ≤ 99) && decide ((99 : Int) ≤ e - 1)) = false
        rw [decide_eq_false (show ¬ (99 : Int) ≤ e - 1 by omega), Bool.and_false]
      unfold tb
      rw [List.all_cons, h99, Bool.false_and, Bool.false_and, Bool.and_false]))
    have o9 := c9.dr.off hl
    have c10 := c9.same (same_new (o := .lst [.ref t1, .non, .int 5, .ref l2, .ref d1, .ref d3, .str "ab", .ref t5, .ref t6]) hl)
    refine ⟨_, rfl, _, rfl, D, l, _, rfl, .inl (SqL.of upd_same), o9.2.1, by simp, (by show 9 < 1073741824; decide), c10.dr, fun i y H11 hi d11 k11 => ?_⟩
    exact k y H11 d11 (c10.kp.trans k11) ((c10.al y (List.mem_of_getElem? hi)).kp c10.dr k11)
def jQ : Str := (("_law_refused" : Str) ++ ".<locals>.") ++ "<lambda>"
abbrev jTs (T : Txt K mg) : List (Addr × Str) := [(T.jP, jQ)]
structure Je (T : Txt K mg) (Ts : List (Addr × Str)) (D : Dw) (p : Addr) (row : List Int) (t : Addr) (ns : List Int) (H0 H : Hp) : Prop where
  sk : SkAt T H p row
  l12 : row.length ≤ 12
  ev : row.length % 2 = 0
  wd : SqT K H t (ns.map V.int)
  dr : DrOk D H
  tb : Tabs Ts H
  kp : KpN D H0 H
section
variable {T : Txt K mg} {Ts : List (Addr × Str)} {D : Dw} {p : Addr} {row : List Int} {t : Addr} {ns : List Int} {H0 H H' : Hp}
theorem Je.ext (j : Je T Ts D p row t ns H0 H) (e : ExtN H H') (tb : Tabs Ts H') : Je T Ts D p row t ns H0 H' :=
  ⟨skAt_ext j.sk e, j.l12, j.ev, sqT_ext e j.wd, drOk_ext j.dr e, tb, j.kp.trans (.ext e)⟩
theorem Je.same (j : Je T Ts D p row t ns H0 H) (e : Same H H') : Je T Ts D p row t ns H0 H' := j.ext (.of e) (j.tb.ext e)
theorem Je.kpd (j : Je T Ts D p row t ns H0 H) (d : DrOk D H') (k : Kp D H H') : Je T Ts D p row t ns H0 H' :=
  ⟨j.sk.kp j.dr k, j.l12, j.ev, k.seqT j.dr j.wd, d, tabs_kp j.tb j.dr k, j.kp.trans (.of k)⟩
end
end
end Tt
set_option maxRecDepth 100000
set_option maxHeartbeats 4000000
namespace Tt
open PySem L2
open LamX (Tabs TabS TabB ExtN CodeO tLam)
section
variable {P : Program} {w : World} {K : PySem.W.Frag} {mg : Str → Option Value} {base : Heap}
def Sw (T : Txt K mg) (f : Addr) (sp : Sp) : Prop := (f = T.root_of.a ∧ sp = spRootOf T) ∨ (f = T.turned_about.a ∧ sp = spTurnedAbout T)
theorem held_work (T : Txt K mg) (f : Addr) (sp : Sp) (h : Sw T f sp) : HeldX P w K mg base (L2.CX P w) 8 f sp := by
  rcases h with ⟨rfl, rfl⟩ | ⟨rfl, rfl⟩
  · exact ⟨_, _, ok_root_of T, T.root_of.k, T.root_of.b⟩
  · exact ⟨_, _, ok_turned_about T, T.turned_about.k, T.turned_about.b⟩
theorem sw_bad {T : Txt K mg} {f : Addr} {sp : Sp} (h : Sw T f sp) {p : Addr} {row : List Int} {x : V} {H : Hp} {Q : VK} {E : XK} (sk : SkAt T H p row) (rl : row.length ≤ 12 ∧ row.length % 2 = 0) (rd : RdOr row x H K false) (e : ∀ H', Same H H' → E (.ref T.BadRound.C) none H') : sp [.ref p, x] H Q E := by
  rcases h with ⟨rfl, rfl⟩ | ⟨rfl, rfl⟩
  · exact ⟨_, _, rfl, .inr ⟨p, row, rfl, sk, rl, .inl ⟨rd, e⟩⟩⟩
  · exact ⟨_, _, rfl, .inr ⟨p, row, rfl, sk, rl, .inl ⟨rd, e⟩⟩⟩
theorem sw_skin {T : Txt K mg} {f : Addr} {sp : Sp} (h : Sw T f sp) {v x : V} {H : Hp} {Q : VK} {E : XK} (sv : SkV T H v false) (e : SkErr T H E) : sp [v, x] H Q E := by
  rcases h with ⟨rfl, rfl⟩ | ⟨rfl, rfl⟩
  · exact ⟨_, _, rfl, .inl ⟨sv, e⟩⟩
  · exact ⟨_, _, rfl, .inl ⟨sv, e⟩⟩
end
section
variable {X : Cx} {A : Around} {outer : List Env} {s : Shared} {H : Hp} {E : XK} {lsc : Scope} {fl co : Addr} {p p1 p2 p3 p4 pos : Pos} {kk : Nat}
theorem lb_w (T : Txt X.K X.mg) (hr : Room 8 (A.deeper (LamX.lamEnv X lsc s.heap.objs.size fl co))) (n1 : X.N[1]? = some ("skin" : Str)) (n3 : X.N[3]? = some ("bad" : Str)) (n5 : X.N[5]? = some ("work" : Str)) (v1 : Vis lsc "skin") (v3 : Vis lsc "bad") (v5 : Vis lsc "work") :
    PE (LamX.lamCx X A outer s H E lsc fl co) (.Call (.Name "work" p) [.Name "skin" p1, .Name "bad" p2] [] pos) (tCallW 5 (Sw T) E (tCons (tVar 1) (tCons (tVar 3) tNil))) := by
  refine pe_callW (CX := L2.CX X.prog X.w) (k := 8) (held_work T) hr n5 v5 lamP (pa_cons ?_ (pa_cons ?_ pa_nil))
  · exact pv (X := LamX.lamCx X A outer s H E lsc fl co) 1 n1 v1
  · exact pv (X := LamX.lamCx X A outer s H E lsc fl co) 3 n3 v3
theorem lb_wr (T : Txt X.K X.mg) (hr : Room 8 (A.deeper (LamX.lamEnv X lsc s.heap.objs.size fl co))) (n1 : X.N[1]? = some ("skin" : Str)) (n3 : X.N[3]? = some ("bad" : Str)) (n5 : X.N[5]? = some ("work" : Str)) (v1 : Vis lsc "skin") (v3 : Vis lsc "bad") (v5 : Vis lsc "work") :
    PE (LamX.lamCx X A outer s H E lsc fl co) (.Call (.Name "work" p) [.Attribute (.Name "skin" p1) "row" p3, .Name "bad" p2] [] pos) (tCallW 5 (Sw T) E (tCons (tFld X.K (tVar 1) "row") (tCons (tVar 3) tNil))) := by
  refine pe_callW (CX := L2.CX X.prog X.w) (k := 8) (held_work T) hr n5 v5 lamP (pa_cons (pe_fld ?_ rfl) (pa_cons ?_ pa_nil))
  · exact pv (X := LamX.lamCx X A outer s H E lsc fl co) 1 n1 v1
  · exact pv (X := LamX.lamCx X A outer s H E lsc fl co) 3 n3 v3
theorem lb_g (T : Txt X.K X.mg) (hr : Room 8 (A.deeper (LamX.lamEnv X lsc s.heap.objs.size fl co))) (n1 : X.N[1]? = some ("skin" : Str)) (n3 : X.N[3]? = some ("bad" : Str)) (n4 : X.N[4]? = some ("no" : Str)) (v1 : Vis lsc "skin") (v3 : Vis lsc "bad") (v4 : Vis lsc "no") (hg : Gl (LamX.lamCx X A outer s H E lsc fl co) "gone") :
    PE (LamX.lamCx X A outer s H E lsc fl co) (.Call (.Name "gone" p) [.Name "skin" p1, .Name "bad" p2, .Name "no" p3] [] pos) (tCall (spGone T) [] E (tCons (tVar 1) (tCons (tVar 3) (tCons (tVar 4) tNil)))) := by
  refine pe_call (CX := L2.CX X.prog X.w) (ok_gone T) hr hg T.gone.g T.gone.k T.gone.b .nil lamP (pa_cons ?_ (pa_cons ?_ (pa_cons ?_ pa_nil)))
  · exact pv (X := LamX.lamCx X A outer s H E lsc fl co) 1 n1 v1
  · exact pv (X := LamX.lamCx X A outer s H E lsc fl co) 3 n3 v3
  · exact pv (X := LamX.lamCx X A outer s H E lsc fl co) 4 n4 v4
theorem lb_gl (T : Txt X.K X.mg) (hr : Room 8 (A.deeper (LamX.lamEnv X lsc s.heap.objs.size fl co))) (n1 : X.N[1]? = some ("skin" : Str)) (n2 : X.N[2]? = some ("loop_here" : Str)) (n4 : X.N[4]? = some ("no" : Str)) (v1 : Vis lsc "skin") (v2 : Vis lsc "loop_here") (v4 : Vis lsc "no") (hg : Gl (LamX.lamCx X A outer s H E lsc fl co) "gone") :
    PE (LamX.lamCx X A outer s H E lsc fl co) (.Call (.Name "gone" p) [.Name "skin" p1, .Name "loop_here" p2, .Name "no" p3] [] pos) (tCall (spGone T) [] E (tCons (tVar 1) (tCons (tVar 2) (tCons (tVar 4) tNil)))) := by
  refine pe_call (CX := L2.CX X.prog X.w) (ok_gone T) hr hg T.gone.g T.gone.k T.gone.b .nil lamP (pa_cons ?_ (pa_cons ?_ (pa_cons ?_ pa_nil)))
  · exact pv (X := LamX.lamCx X A outer s H E lsc fl co) 1 n1 v1
  · exact pv (X := LamX.lamCx X A outer s H E lsc fl co) 2 n2 v2
  · exact pv (X := LamX.lamCx X A outer s H E lsc fl co) 4 n4 v4
theorem lb_gn (T : Txt X.K X.mg) (hr : Room 8 (A.deeper (LamX.lamEnv X lsc s.heap.objs.size fl co))) (n3 : X.N[3]? = some ("bad" : Str)) (n4 : X.N[4]? = some ("no" : Str)) (v3 : Vis lsc "bad") (v4 : Vis lsc "no") (hg : Gl (LamX.lamCx X A outer s H E lsc fl co) "gone") :
    PE (LamX.lamCx X A outer s H E lsc fl co) (.Call (.Name "gone" p) [.Constant .none kk p1, .Name "bad" p2, .Name "no" p3] [] pos) (tCall (spGone T) [] E (tCons (tC .non) (tCons (tVar 3) (tCons (tVar 4) tNil)))) := by
  refine pe_call (CX := L2.CX X.prog X.w) (ok_gone T) hr hg T.gone.g T.gone.k T.gone.b .nil lamP (pa_cons pe_non (pa_cons ?_ (pa_cons ?_ pa_nil)))
  · exact pv (X := LamX.lamCx X A outer s H E lsc fl co) 3 n3 v3
  · exact pv (X := LamX.lamCx X A outer s H E lsc fl co) 4 n4 v4
theorem lb_a (T : Txt X.K X.mg) (hr : Room 8 (A.deeper (LamX.lamEnv X lsc s.heap.objs.size fl co))) (n1 : X.N[1]? = some ("skin" : Str)) (n3 : X.N[3]? = some ("bad" : Str)) (v1 : Vis lsc "skin") (v3 : Vis lsc "bad") (hg : Gl (LamX.lamCx X A outer s H E lsc fl co) "along") :
    PE (LamX.lamCx X A outer s H E lsc fl co) (.Call (.Name "along" p) [.Name "skin" p1, .Name "bad" p2, .Constant .none kk p3] [] pos) (tCall (spAlong T) [] E (tCons (tVar 1) (tCons (tVar 3) (tCons (tC .non) tNil)))) := by
  refine pe_call (CX := L2.CX X.prog X.w) (ok_along T) hr hg T.along.g T.along.k T.along.b .nil lamP (pa_cons ?_ (pa_cons ?_ (pa_cons pe_non pa_nil)))
  · exact pv (X := LamX.lamCx X A outer s H E lsc fl co) 1 n1 v1
  · exact pv (X := LamX.lamCx X A outer s H E lsc fl co) 3 n3 v3
theorem lb_al (T : Txt X.K X.mg) (hr : Room 8 (A.deeper (LamX.lamEnv X lsc s.heap.objs.size fl co))) (n1 : X.N[1]? = some ("skin" : Str)) (n2 : X.N[2]? = some ("loop_here" : Str)) (n3 : X.N[3]? = some ("bad" : Str)) (v1 : Vis lsc "skin") (v2 : Vis lsc "loop_here") (v3 : Vis lsc "bad") (hg : Gl (LamX.lamCx X A outer s H E lsc fl co) "along") :
    PE (LamX.lamCx X A outer s H E lsc fl co) (.Call (.Name "along" p) [.Name "skin" p1, .Name "loop_here" p2, .Name "bad" p3] [] pos) (tCall (spAlong T) [] E (tCons (tVar 1) (tCons (tVar 2) (tCons (tVar 3) tNil)))) := by
  refine pe_call (CX := L2.CX X.prog X.w) (ok_along T) hr hg T.along.g T.along.k T.along.b .nil lamP (pa_cons ?_ (pa_cons ?_ (pa_cons ?_ pa_nil)))
  · exact pv (X := LamX.lamCx X A outer s H E lsc fl co) 1 n1 v1
  · exact pv (X := LamX.lamCx X A outer s H E lsc fl co) 2 n2 v2
  · exact pv (X := LamX.lamCx X A outer s H E lsc fl co) 3 n3 v3
theorem lb_an (T : Txt X.K X.mg) (hr : Room 8 (A.deeper (LamX.lamEnv X lsc s.heap.objs.size fl co))) (n3 : X.N[3]? = some ("bad" : Str)) (v3 : Vis lsc "bad") (hg : Gl (LamX.lamCx X A outer s H E lsc fl co) "along") :
    PE (LamX.lamCx X A outer s H E lsc fl co) (.Call (.Name "along" p) [.Constant .none kk p1, .Name "bad" p2, .Name "bad" p3] [] pos) (tCall (spAlong T) [] E (tCons (tC .non) (tCons (tVar 3) (tCons (tVar 3) tNil)))) := by
  refine pe_call (CX := L2.CX X.prog X.w) (ok_along T) hr hg T.along.g T.along.k T.along.b .nil lamP (pa_cons pe_non (pa_cons ?_ (pa_cons ?_ pa_nil)))
  · exact pv (X := LamX.lamCx X A outer s H E lsc fl co) 3 n3 v3
  · exact pv (X := LamX.lamCx X A outer s H E lsc fl co) 3 n3 v3
end
section
variable {P : Program} {w : World} {K : PySem.W.Frag} {mg : Str → Option Value} {base : Heap}
inductive NoT : V → Prop where
  | int (i : Int) (h : ¬ (1 ≤ i ∧ i ≤ 9)) : NoT (.int i)
  | bl (b : Bool) : NoT (.bl b)
  | non : NoT .non
  | str (s : Str) : NoT (.str s)
theorem NoT.ty {H : Hp} {y : V} (h : NoT y) : ∃ S, TyB K H y S ∧ inB 1 9 y = false := by
  cases h with
  | int i h =>
    refine ⟨_, .int i, ?_⟩
    show (decide (1 ≤ i) && decide (i ≤ 9)) = false
    rw [Bool.and_eq_false_iff]
    by_cases h1 : 1 ≤ i
    · exact .inr (decide_eq_false (by omega))
    · exact .inl (decide_eq_false h1)
  | bl b => exact ⟨_, .bl b, rfl⟩
  | non => exact ⟨_, .non, rfl⟩
  | str s => exact ⟨_, .str s, rfl⟩
section
variable {T : Txt K mg} {Ts : List (Addr × Str)} {D : Dw} {p : Addr} {row : List Int} {t : Addr} {ns : List Int} {H0 H : Hp} {σ : L2.St} {Q : VK} {bad no : V}
def NoRd (T : Txt K mg) (J : Hp → Prop) (Q : VK) : Prop := ∀ a H', J H' → H' a = some (exh (.ref T.BadRound.C) none a) → Q (.ref a) H'
def NoNu (T : Txt K mg) (J : Hp → Prop) (Q : VK) : Prop := ∀ a d H', J H' → H' a = some (exh (.ref T.BadNumber.C) (some d) a) → H' d = some (.xd [("part", .str "times")]) → Q (.ref a) H'
theorem rdErr_of {J : Hp → Prop} {H1 : Hp} (js : ∀ H', Same H1 H' → J H') (k : NoRd T J Q) : ∀ H', Same H1 H' → (fun cls d H' => PySem.W.exmOne K cls (.ref T.RoundError.C) = some true ∧ ∀ a, H' a = none → Q (.ref a) (upd H' a (exh cls d a))) (.ref T.BadRound.C) none H' := fun H' s =>
  ⟨exm_R T, fun a ha => k a _ (js _ (s.trans (same_new ha))) upd_same⟩
theorem nuErr_of {J : Hp → Prop} {H1 : Hp} (js : ∀ H', Same H1 H' → J H') (k : NoNu T J Q) : NumErr T "times" H1 (fun cls d H' => PySem.W.exmOne K cls (.ref T.RoundError.C) = some true ∧ ∀ a, H' a = none → Q (.ref a) (upd H' a (exh cls d a))) := fun d H' s e =>
  ⟨exm_N T, fun a ha => k a d _ (js _ (s.trans (same_new ha))) upd_same (by rw [upd_ne (ne_of_none e ha)]; exact e)⟩
structure Jb (T : Txt K mg) (Ts : List (Addr × Str)) (D : Dw) (p : Addr) (row : List Int) (t : Addr) (ns : List Int) (bad : V) (H0 H : Hp) : Prop where
  j : Je T Ts D p row t ns H0 H
  rd : RdOr row bad H K false
theorem Jb.ext {H' : Hp} (j : Jb T Ts D p row t ns bad H0 H) (e : ExtN H H') (tb : Tabs Ts H') : Jb T Ts D p row t ns bad H0 H' := ⟨j.j.ext e tb, j.rd.ext e⟩
theorem Jb.same {H' : Hp} (j : Jb T Ts D p row t ns bad H0 H) (e : Same H H') : Jb T Ts D p row t ns bad H0 H' := ⟨j.j.same e, j.rd.same e⟩
theorem lam_w {f : Addr} {sp : Sp} (hs : Sw T f sp) (j : Jb T Ts D p row t ns bad H0 H) (h1 : σ[1]? = some (some (.ref p))) (h3 : σ[3]? = some (some bad)) (h5 : σ[5]? = some (some (.ref f))) (k : NoRd T (Jb T Ts D p row t ns bad H0) Q) :
    tLam Ts (TTc K T.RoundError.C) (fun E => tCallW 5 (Sw T) E (tCons (tVar 1) (tCons (tVar 3) tNil))) σ H Q := by
  refine ⟨j.j.tb, fun H1 e1 t1 => ?_⟩
  have j1 := j.ext e1 t1
  exact ⟨f, sp, h5, hs, _, h1, _, h3, sw_bad hs j1.j.sk ⟨j1.j.l12, j1.j.ev⟩ j1.rd (rdErr_of (fun H' s => j1.same s) k)⟩
theorem lam_wr {f : Addr} {sp : Sp} (hs : Sw T f sp) (j : Jb T Ts D p row t ns bad H0 H) (h1 : σ[1]? = some (some (.ref p))) (h3 : σ[3]? = some (some bad)) (h5 : σ[5]? = some (some (.ref f))) (k : NoSk T (Jb T Ts D p row t ns bad H0) Q) :
    tLam Ts (TTc K T.RoundError.C) (fun E => tCallW 5 (Sw T) E (tCons (tFld K (tVar 1) "row") (tCons (tVar 3) tNil))) σ H Q := by
  refine ⟨j.j.tb, fun H1 e1 t1 => ?_⟩
  have j1 := j.ext e1 t1
  obtain ⟨dx, r, q, a1, a2, a3⟩ := id j1.j.sk
  exact ⟨f, sp, h5, hs, _, h1, p, T.Skin.C, dx, _, _, rfl, a1, T.Skin.c, nRow T, skF_row .., _, h3, sw_skin hs (.tup a2) (skErr_of (fun H' s => j1.same s) k)⟩
theorem lam_g (j : Jb T Ts D p row t ns bad H0 H) (h1 : σ[1]? = some (some (.ref p))) (h3 : σ[3]? = some (some bad)) (h4 : σ[4]? = some (some no)) (k : NoRd T (Jb T Ts D p row t ns bad H0) Q) :
    tLam Ts (TTc K T.RoundError.C) (fun E => tCall (spGone T) [] E (tCons (tVar 1) (tCons (tVar 3) (tCons (tVar 4) tNil)))) σ H Q := by
  refine ⟨j.j.tb, fun H1 e1 t1 => ?_⟩
  have j1 := j.ext e1 t1
  exact ⟨_, h1, _, h3, _, h4, _, _, _, rfl, .inr ⟨p, row, rfl, j1.j.sk, ⟨j1.j.l12, j1.j.ev⟩, .inl ⟨j1.rd, rdErr_of (fun H' s => j1.same s) k⟩⟩⟩
theorem lam_gl (j : Jb T Ts D p row t ns bad H0 H) (rn : Rnd ns) (hn : ns.length ≤ 40) (hb : Lt (row.length : Int) ns) (nt : NoT no) (h1 : σ[1]? = some (some (.ref p))) (h2 : σ[2]? = some (some (.ref t))) (h4 : σ[4]? = some (some no)) (k : NoNu T (Jb T Ts D p row t ns bad H0) Q) :
    tLam Ts (TTc K T.RoundError.C) (fun E => tCall (spGone T) [] E (tCons (tVar 1) (tCons (tVar 2) (tCons (tVar 4) tNil)))) σ H Q := by
  refine ⟨j.j.tb, fun H1 e1 t1 => ?_⟩
  have j1 := j.ext e1 t1
  obtain ⟨S, ty, nb⟩ := nt.ty (K := K) (H := H1)
  exact ⟨_, h1, _, h2, _, h4, _, _, _, rfl, .inr ⟨p, row, rfl, j1.j.sk, ⟨j1.j.l12, j1.j.ev⟩, .inr ⟨t, ns, rfl, j1.j.wd, hn, hb, rn, .inl ⟨S, ty, nb, nuErr_of (fun H' s => j1.same s) k⟩⟩⟩⟩
theorem lam_gn (j : Jb T Ts D p row t ns bad H0 H) (h3 : σ[3]? = some (some bad)) (h4 : σ[4]? = some (some no)) (k : NoSk T (Jb T Ts D p row t ns bad H0) Q) :
    tLam Ts (TTc K T.RoundError.C) (fun E => tCall (spGone T) [] E (tCons (tC .non) (tCons (tVar 3) (tCons (tVar 4) tNil)))) σ H Q := by
  refine ⟨j.j.tb, fun H1 e1 t1 => ?_⟩
  have j1 := j.ext e1 t1
  exact ⟨_, h3, _, h4, _, _, _, rfl, .inl ⟨.non, skErr_of (fun H' s => j1.same s) k⟩⟩
theorem lam_a (j : Jb T Ts D p row t ns bad H0 H) (h1 : σ[1]? = some (some (.ref p))) (h3 : σ[3]? = some (some bad)) (k : NoRd T (Jb T Ts D p row t ns bad H0) Q) :
    tLam Ts (TTc K T.RoundError.C) (fun E => tCall (spAlong T) [] E (tCons (tVar 1) (tCons (tVar 3) (tCons (tC .non) tNil)))) σ H Q := by
  refine ⟨j.j.tb, fun H1 e1 t1 => ?_⟩
  have j1 := j.ext e1 t1
  exact ⟨_, h1, _, h3, _, _, _, rfl, .inr ⟨p, row, rfl, j1.j.sk, ⟨j1.j.l12, j1.j.ev⟩, .inl ⟨j1.rd, rdErr_of (fun H' s => j1.same s) k⟩⟩⟩
theorem lam_al (j : Jb T Ts D p row t ns bad H0 H) (rn : Rnd ns) (hn : ns.length ≤ 40) (hb : Lt (row.length : Int) ns) (h1 : σ[1]? = some (some (.ref p))) (h2 : σ[2]? = some (some (.ref t))) (h3 : σ[3]? = some (some bad)) (k : NoRd T (Jb T Ts D p row t ns bad H0) Q) :
    tLam Ts (TTc K T.RoundError.C) (fun E => tCall (spAlong T) [] E (tCons (tVar 1) (tCons (tVar 2) (tCons (tVar 3) tNil)))) σ H Q := by
  refine ⟨j.j.tb, fun H1 e1 t1 => ?_⟩
  have j1 := j.ext e1 t1
  exact ⟨_, h1, _, h2, _, h3, _, _, _, rfl, .inr ⟨p, row, rfl, j1.j.sk, ⟨j1.j.l12, j1.j.ev⟩, .inr ⟨t, ns, rfl, j1.j.wd, hn, hb, rn, .inl ⟨j1.rd, rdErr_of (fun H' s => j1.same s) k⟩⟩⟩⟩
theorem lam_an (j : Jb T Ts D p row t ns bad H0 H) (h3 : σ[3]? = some (some bad)) (k : NoSk T (Jb T Ts D p row t ns bad H0) Q) :
    tLam Ts (TTc K T.RoundError.C) (fun E => tCall (spAlong T) [] E (tCons (tC .non) (tCons (tVar 3) (tCons (tVar 3) tNil)))) σ H Q := by
  refine ⟨j.j.tb, fun H1 e1 t1 => ?_⟩
  have j1 := j.ext e1 t1
  exact ⟨_, h3, _, h3, _, _, _, rfl, .inl ⟨.non, skErr_of (fun H' s => j1.same s) k⟩⟩
end
def spRefused (T : Txt K mg) : Sp := fun vs H Q _ => ∃ (D : Dw) (p : Addr) (row : List Int) (t : Addr) (ns : List Int), vs = [.ref D.d, .ref p, .ref t] ∧ SkAt T H p row ∧ row.length ≤ 12 ∧ row.length % 2 = 0 ∧ SqT K H t (ns.map V.int) ∧ Rnd ns ∧ ns.length ≤ 40 ∧ Lt (row.length : Int) ns ∧ DrOk D H ∧ Tabs (jTs T) H ∧
  ∀ H', DrOk D H' → KpN D H H' → Tabs (jTs T) H' → Q (.bl true) H'
theorem ok_l_refused (T : Txt K mg) (TB : TabB base mg T.jc T.jP) : FnG P w K mg base CX0 13 T.l_refused.a T.l_refused.fd ["draw", "skin", "loop_here"] (spRefused T) := by
  have hmT : (T.jP, (("_law_refused" : Str) ++ ".<locals>.") ++ "<lambda>") ∈ jTs T := List.mem_cons_self
  have hu : ∀ p ∈ jTs T, p.1 = T.jP → p.2 = (("_law_refused" : Str) ++ ".<locals>.") ++ "<lambda>" := fun p hp hq => by
    have e := List.mem_singleton.mp hp
    subst e
    exact Eq.refl jQ
  refine T.jF.okG sc_l_refused (fun vs H Q E h => ?_) (fun A outer s H vs Q E hA hr h => ?_)
  · obtain ⟨D, p, row, t, ns, rfl, _⟩ := h
    rfl
  · obtain ⟨D, p, row, t, ns, rfl, sk, l12, ev, ht, rn, hn, hlt, dr, tb, k⟩ := h
    have nd := sc_l_refused.nd
    refine ⟨_, (pss_cons (ps_asg (pe_tup (pa_cons (pe_call (ok_l_no_loop T) (hr.mono (by decide)) (by rfl) T.l_no_loop.g T.l_no_loop.k T.l_no_loop.b .nil pass0 (pa_cons (pv 0) (pa_cons (pv 2) pa_nil))) (pa_cons (pe_call (ok_l_pick T) (hr.mono (by decide)) (by rfl) T.l_pick.g T.l_pick.k T.l_pick.b .nil pass0 (pa_cons (pv 0) (pa_cons (pe_lst (pa_cons pe_int (pa_cons pe_int (pa_cons (pe_un un_neg pe_int) (pa_cons pe_bl (pa_cons pe_non (pa_cons pe_str pa_nil))))))) pa_nil))) pa_nil))) (pg_tup rfl (pgs_cons (pg_name (i := 3) nd rfl (Or.inr rfl)) (pgs_cons (pg_name (i := 4) nd rfl (Or.inr rfl)) pgs_nil))))
    (pss_cons (ps_for PassesOwn.never rfl (pi_list (pe_lst (pa_cons (pe_glob (v := .ref T.root_of.a) rfl T.root_of.g rfl) (pa_cons (pe_glob (v := .ref T.turned_about.a) rfl T.turned_about.g rfl) pa_nil)))) (pg_name (i := 5) nd rfl (Or.inr rfl))
      (pss_cons (ps_if (pt_not (pt_val (pe_callB call_isA (by rfl) T.zisinstance (by decide +kernel) (pa_cons (pe_caught (k := 8) T (by rfl) TB rfl hmT hu (hr.mono (by decide)) (LamX.lamS_by (sc := defScope s_l_refused) (by decide +kernel)) rfl (fun _ _ _ _ _ => rfl) (fun _ _ _ _ _ _ _ hr => lb_w T hr rfl rfl rfl (Or.inr (Or.inr rfl)) (Or.inr (Or.inr rfl)) (Or.inr (Or.inr rfl)))) (pa_cons (pe_glob (v := .ref T.BadRound.C) rfl T.BadRound.g rfl) pa_nil)))))
        (pss_one (ps_ret pe_bl))
        pss_nil)
      (pss_one (ps_if (pt_not (pt_val (pe_call (ok_l_skin_error T) (hr.mono (by decide)) (by rfl) T.l_skin_error.g T.l_skin_error.k T.l_skin_error.b .nil pass0 (pa_cons (pe_caught (k := 8) T (by rfl) TB rfl hmT hu (hr.mono (by decide)) (LamX.lamS_by (sc := defScope s_l_refused) (by decide +kernel)) rfl (fun _ _ _ _ _ => rfl) (fun _ _ _ _ _ _ _ hr => lb_wr T hr rfl rfl rfl (Or.inr (Or.inr rfl)) (Or.inr (Or.inr rfl)) (Or.inr (Or.inr rfl)))) pa_nil))))
        (pss_one (ps_ret pe_bl))
        pss_nil))))
    (pss_cons (ps_if (pt_not (pt_val (pe_callB call_isA (by rfl) T.zisinstance (by decide +kernel) (pa_cons (pe_caught (k := 8) T (by rfl) TB rfl hmT hu (hr.mono (by decide)) (LamX.lamS_by (sc := defScope s_l_refused) (by decide +kernel)) rfl (fun _ _ _ _ _ => rfl) (fun _ _ _ _ _ _ _ hr => lb_g T hr rfl rfl rfl (Or.inr (Or.inr rfl)) (Or.inr (Or.inr rfl)) (Or.inr (Or.inr rfl)) (by rfl))) (pa_cons (pe_glob (v := .ref T.BadRound.C) rfl T.BadRound.g rfl) pa_nil)))))
      (pss_one (ps_ret pe_bl))
      pss_nil)
    (pss_cons (ps_if (pt_not (pt_val (pe_call (ok_l_number_error T) (hr.mono (by decide)) (by rfl) T.l_number_error.g T.l_number_error.k T.l_number_error.b .nil pass0 (pa_cons (pe_caught (k := 8) T (by rfl) TB rfl hmT hu (hr.mono (by decide)) (LamX.lamS_by (sc := defScope s_l_refused) (by decide +kernel)) rfl (fun _ _ _ _ _ => rfl) (fun _ _ _ _ _ _ _ hr => lb_gl T hr rfl rfl rfl (Or.inr (Or.inr rfl)) (Or.inr (Or.inr rfl)) (Or.inr (Or.inr rfl)) (by rfl))) (pa_cons pe_str pa_nil)))))
      (pss_one (ps_ret pe_bl))
      pss_nil)
    (pss_cons (ps_if (pt_not (pt_val (pe_callB call_isA (by rfl) T.zisinstance (by decide +kernel) (pa_cons (pe_caught (k := 8) T (by rfl) TB rfl hmT hu (hr.mono (by decide)) (LamX.lamS_by (sc := defScope s_l_refused) (by decide +kernel)) rfl (fun _ _ _ _ _ => rfl) (fun _ _ _ _ _ _ _ hr => lb_a T hr rfl rfl (Or.inr (Or.inr rfl)) (Or.inr (Or.inr rfl)) (by rfl))) (pa_cons (pe_glob (v := .ref T.BadRound.C) rfl T.BadRound.g rfl) pa_nil)))))
      (pss_one (ps_ret pe_bl))
      pss_nil)
    (pss_cons (ps_if (pt_not (pt_val (pe_callB call_isA (by rfl) T.zisinstance (by decide +kernel) (pa_cons (pe_caught (k := 8) T (by rfl) TB rfl hmT hu (hr.mono (by decide)) (LamX.lamS_by (sc := defScope s_l_refused) (by decide +kernel)) rfl (fun _ _ _ _ _ => rfl) (fun _ _ _ _ _ _ _ hr => lb_al T hr rfl rfl rfl (Or.inr (Or.inr rfl)) (Or.inr (Or.inr rfl)) (Or.inr (Or.inr rfl)) (by rfl))) (pa_cons (pe_glob (v := .ref T.BadRound.C) rfl T.BadRound.g rfl) pa_nil)))))
      (pss_one (ps_ret pe_bl))
      pss_nil)
    (pss_cons (ps_if (pt_not (pt_val (pe_call (ok_l_skin_error T) (hr.mono (by decide)) (by rfl) T.l_skin_error.g T.l_skin_error.k T.l_skin_error.b .nil pass0 (pa_cons (pe_caught (k := 8) T (by rfl) TB rfl hmT hu (hr.mono (by decide)) (LamX.lamS_by (sc := defScope s_l_refused) (by decide +kernel)) rfl (fun _ _ _ _ _ => rfl) (fun _ _ _ _ _ _ _ hr => lb_gn T hr rfl rfl (Or.inr (Or.inr rfl)) (Or.inr (Or.inr rfl)) (by rfl))) pa_nil))))
      (pss_one (ps_ret pe_bl))
      pss_nil)
    (pss_one (ps_ret (pe_call (ok_l_skin_error T) (hr.mono (by decide)) (by rfl) T.l_skin_error.g T.l_skin_error.k T.l_skin_error.b .nil pass0 (pa_cons (pe_caught (k := 8) T (by rfl) TB rfl hmT hu (hr.mono (by decide)) (LamX.lamS_by (sc := defScope s_l_refused) (by decide +kernel)) rfl (fun _ _ _ _ _ => rfl) (fun _ _ _ _ _ _ _ hr => lb_an T hr rfl (Or.inr (Or.inr rfl)) (by rfl))) pa_nil))))))))))), ?_⟩
    have j0 : Je T (jTs T) D p row t ns H H := ⟨sk, l12, ev, ht, dr, tb, fun _ _ h _ _ _ => h⟩
    refine ⟨_, rfl, _, rfl, D, (row.length : Int), t, ns, rfl, by omega, ht, rn.1, hn, dr, fun bad H1 d1 k1 nb => ?_⟩
    have j1 := j0.kpd d1 k1
    refine ⟨_, rfl, 1, rfl, (by show 6 ≤ sizeLine; decide), fun l hl => ?_⟩
    have j2 := j1.same (same_new (o := .lst [.int 0, .int 10, .int (-1), .bl true, .non, .str "2"]) hl)
    have nb2 := nb.same (same_new (o := .lst [.int 0, .int 10, .int (-1), .bl true, .non, .str "2"]) hl)
    refine ⟨D, l, _, rfl, .inl (SqL.of upd_same), (d1.off hl).2.1, by simp, (by show 6 < 1073741824; decide), j2.dr, fun i no H3 hi d3 k3 => ⟨(by show 2 ≤ sizeLine; decide), fun tp htp => ⟨_, _, rfl, SqT.of upd_same, rfl, _, _, rfl, _, _, rfl, rfl, ?_⟩⟩⟩
    have nt : NoT no := by
      have hx := List.mem_of_getElem? hi
      simp only [List.mem_cons, List.not_mem_nil, or_false] at hx
      rcases hx with rfl | rfl | rfl | rfl | rfl | rfl
      · exact .int _ (by omega)
      · exact .int _ (by omega)
      · exact .int _ (by omega)
      · exact .bl _
      · exact .non
      · exact .str _
    have j3 := (j2.kpd d3 k3).same (same_new (o := .tup [bad, no]) htp)
    have rd3 := ((nb2.kp j2.dr k3).same (same_new (o := .tup [bad, no]) htp)).rd ev
    have jb : Jb T (jTs T) D p row t ns bad H (upd H3 tp (.tup [bad, no])) := ⟨j3, rd3⟩
    generalize upd H3 tp (.tup [bad, no]) = H4 at jb
    clear j0 j1 j2 j3 rd3 nb nb2 hl hi d1 d3 k1 k3 htp
    refine ⟨(by show 2 ≤ sizeLine; decide), fun l hl => ⟨l, rfl, ⟨_, SqL.of upd_same⟩, ?_⟩⟩
    have j5 : Jb T (jTs T) D p row t ns bad H (upd H4 l (.lst [.ref T.root_of.a, .ref T.turned_about.a])) := jb.same (same_new hl)
    have el : (upd H4 l (.lst [.ref T.root_of.a, .ref T.turned_about.a])) l = some (.lst [.ref T.root_of.a, .ref T.turned_about.a]) := upd_same
    have ol : Off D l := jb.j.dr.off hl
    generalize upd H4 l (.lst [.ref T.root_of.a, .ref T.turned_about.a]) = H5 at j5 el
    have j6 : Jb T (jTs T) D p row t ns bad H5 H5 := ⟨⟨j5.j.sk, l12, ev, j5.j.wd, j5.j.dr, j5.j.tb, fun _ _ h _ _ _ => h⟩, j5.rd⟩
    have atl : ∀ H', Jb T (jTs T) D p row t ns bad H5 H' → H' l = some (.lst [.ref T.root_of.a, .ref T.turned_about.a]) := fun H' j => j.j.kp l _ el ol.1 ol.2.1 fun _ z => nomatch z
    refine for_list (K := K) (xs := [.ref T.root_of.a, .ref T.turned_about.a]) (fun i σ H' => ∃ v5, σ = [some (.ref D.d), some (.ref p), some (.ref t), some bad, some no, v5] ∧ Jb T (jTs T) D p row t ns bad H5 H') ⟨none, rfl, j6⟩ (fun _ _ H' _ z => SqL.of (atl H' z.choose_spec.2)) ?_ ?_
    · rintro i x σ H' hx ⟨v5, rfl, j⟩
      obtain ⟨f, sp, rfl, hs⟩ : ∃ f sp, x = .ref f ∧ Sw T f sp := by
        have hx := List.mem_of_getElem? hx
        simp only [List.mem_cons, List.not_mem_nil, or_false] at hx
        rcases hx with rfl | rfl
        · exact ⟨_, spRootOf T, rfl, .inl ⟨rfl, rfl⟩⟩
        · exact ⟨_, spTurnedAbout T, rfl, .inr ⟨rfl, rfl⟩⟩
      refine lam_w (K := K) hs j rfl rfl rfl fun a H6 j7 ha => ?_
      refine .inl ⟨a, T.BadRound.C, none, _, _, true, rfl, ha, .inl rfl, T.BadRound.ec, .own T.BadRound.C, T.kRR, _, rfl, iteF ?_⟩
      refine lam_wr (K := K) hs j7 rfl rfl rfl fun a2 d2 H7 j8 ha2 hd2 => ?_
      exact ⟨a2, d2, rfl, ha2, hd2, true, rfl, iteF ⟨_, rfl, j8⟩⟩
    · rintro σ H' ⟨v5, rfl, j⟩
      refine lam_g (K := K) j rfl rfl rfl fun a H6 j7 ha => ?_
      refine .inl ⟨a, T.BadRound.C, none, _, _, true, rfl, ha, .inl rfl, T.BadRound.ec, .own T.BadRound.C, T.kRR, _, rfl, iteF ?_⟩
      refine lam_gl (K := K) j7 rn hn hlt nt rfl rfl rfl fun a2 d2 H7 j8 ha2 hd2 => ?_
      refine ⟨a2, d2, rfl, ha2, hd2, true, rfl, iteF ?_⟩
      refine lam_a (K := K) j8 rfl rfl fun a3 H8 j9 ha3 => ?_
      refine .inl ⟨a3, T.BadRound.C, none, _, _, true, rfl, ha3, .inl rfl, T.BadRound.ec, .own T.BadRound.C, T.kRR, _, rfl, iteF ?_⟩
      refine lam_al (K := K) j9 rn hn hlt rfl rfl rfl fun a4 H9 j10 ha4 => ?_
      refine .inl ⟨a4, T.BadRound.C, none, _, _, true, rfl, ha4, .inl rfl, T.BadRound.ec, .own T.BadRound.C, T.kRR, _, rfl, iteF ?_⟩
      refine lam_gn (K := K) j10 rfl rfl fun a5 d5 H10 j11 ha5 hd5 => ?_
      refine ⟨a5, d5, rfl, ha5, hd5, true, rfl, iteF ?_⟩
      refine lam_an (K := K) j11 rfl fun a6 d6 H11 j12 ha6 hd6 => ?_
      refine ⟨a6, d6, rfl, ha6, hd6, ?_⟩
      exact k H11 j12.j.dr (j5.j.kp.trans j12.j.kp) j12.j.tb
end
end Tt
set_option maxRecDepth 100000
set_option maxHeartbeats 4000000
namespace Tt
open PySem L2
open LamX (Tabs TabS TabB ExtN CodeO tLam)
section
variable {P : Program} {w : World} {K : PySem.W.Frag} {mg : Str → Option Value} {base : Heap}
theorem len2L {a b : List Int} (ha : ∀ x ∈ a, 0 ≤ x ∧ x < 12) (hb : ∀ x ∈ b, 0 ≤ x ∧ x < 12) (la : a.length ≤ 400) (lb : b.length ≤ 400) : (wd2 a b).shown.length ≤ sizeLine := by
  have e : (wd2 a b).shown = listText [tupleText (PyData.shownAll (a.map PyData.int)), tupleText (PyData.shownAll (b.map PyData.int))] := rfl
  rw [e]
  have h0 := listText_len_le [tupleText (PyData.shownAll (a.map PyData.int)), tupleText (PyData.shownAll (b.map PyData.int))]
  have h1 := tupleText_len_le (PyData.shownAll (a.map PyData.int))
  have h2 := tupleText_len_le (PyData.shownAll (b.map PyData.int))
  obtain ⟨a1, a2⟩ := lenA a ha
  obtain ⟨b1, b2⟩ := lenA b hb
  have hz : (10000 : Nat) ≤ sizeLine := by decide
  simp only [List.map_cons, List.map_nil, List.sum_cons, List.sum_nil, List.length_cons, List.length_nil] at h0
  omega
theorem show2L {H : Hp} {Q : VK} {l p q : Addr} {a b : List Int} (ha : ∀ x ∈ a, 0 ≤ x ∧ x < 12) (hb : ∀ x ∈ b, 0 ≤ x ∧ x < 12) (la : a.length ≤ 400) (lb : b.length ≤ 400) (hl : SqL K H l [.ref p, .ref q]) (hp : SqT K H p (a.map V.int)) (hq : SqT K H q (b.map V.int))
    (k : Q (.str (wd2 a b).shown) H) : rShow K [.ref l] H Q := by
  refine ⟨l, wd2 a b, rfl, .lst hl (.cons (.tup hp (dpAll_ints _ _)) (.cons (.tup hq (dpAll_ints _ _)) .nil)), ?_, ?_, ?_, len2L ha hb la lb, k⟩
  · show (PyData.showableAll (a.map PyData.int) && (PyData.showableAll (b.map PyData.int) && true)) = true
    rw [shA a ha, shA b hb]
    rfl
  · show (PyData.hasDictAll (a.map PyData.int) || (PyData.hasDictAll (b.map PyData.int) || false)) = false
    rw [hdA a, hdA b]
    rfl
  · show max (PyData.depthAll (a.map PyData.int) + 1) (max (PyData.depthAll (b.map PyData.int) + 1) 0) + 1 ≤ 60
    rw [dpA a, dpA b]
    decide
theorem show2b {H : Hp} {Q : VK} {l : Addr} {b : Bool} (hl : SqL K H l [.bl b, .bl b]) (k : Q (.str (PyData.list [.bool b, .bool b]).shown) H) : rShow K [.ref l] H Q :=
  ⟨l, .list [.bool b, .bool b], rfl, .lst hl (.cons (.bl b) (.cons (.bl b) .nil)), by cases b <;> decide +kernel, by cases b <;> decide +kernel, by cases b <;> decide +kernel, by cases b <;> decide +kernel, k⟩
def prD (a : List Int) (n : Nat) : PyData := .tuple [.tuple (a.map PyData.int), .int (n : Int)]
theorem dp_pr {H : Hp} {q r : Addr} {a : List Int} {n : Nat} (h : SqT K H q [.ref r, .int (n : Int)]) (g : SqT K H r (a.map V.int)) : Dp K H (.ref q) (prD a n) := .tup h (.cons (.tup g (dpAll_ints _ _)) (.cons (.int _) .nil))
theorem digits40 : ∀ n : Fin 401, (PyData.shown (.int ((n : Nat) : Int))).length ≤ 3 := by decide +kernel
theorem pr_len {a : List Int} {n : Nat} (ha : ∀ x ∈ a, 0 ≤ x ∧ x < 12) (la : a.length ≤ 400) (hn : n ≤ 400) : (prD a n).shown.length ≤ 3000 := by
  have e : (prD a n).shown = tupleText [tupleText (PyData.shownAll (a.map PyData.int)), PyData.shown (.int (n : Int))] := rfl
  rw [e]
  have h0 := tupleText_len_le [tupleText (PyData.shownAll (a.map PyData.int)), PyData.shown (.int (n : Int))]
  have h1 := tupleText_len_le (PyData.shownAll (a.map PyData.int))
  obtain ⟨a1, a2⟩ := lenA a ha
  have d := digits40 ⟨n, by omega⟩
  have d' : (PyData.shown (.int (n : Int))).length ≤ 3 := d
  simp only [List.map_cons, List.map_nil, List.sum_cons, List.sum_nil, List.length_cons, List.length_nil] at h0
  omega
theorem pr_sh {a : List Int} {n : Nat} (ha : ∀ x ∈ a, 0 ≤ x ∧ x < 12) (hn : n ≤ 400) : (prD a n).showable = true := by
  show (PyData.showableAll (a.map PyData.int) && (decide (((n : Int)).natAbs.log2 < 1920) && true)) = true
  rw [shA a ha]
  have : ((n : Int)).natAbs.log2 ≤ ((n : Int)).natAbs := Nat.log2_le_self _
  rw [decide_eq_true (show ((n : Int)).natAbs.log2 < 1920 by omega)]
  rfl
theorem pr_hd (a : List Int) (n : Nat) : (prD a n).hasDict = false := by
  show (PyData.hasDictAll (a.map PyData.int) || (false || false)) = false
  rw [hdA a]
  rfl
theorem pr_dp (a : List Int) (n : Nat) : (prD a n).depth = 2 := by
  show max (PyData.depthAll (a.map PyData.int) + 1) (max 0 0) + 1 = 2
  rw [dpA a]
  rfl
theorem show1p {H : Hp} {Q : VK} {q r : Addr} {a : List Int} {n : Nat} (ha : ∀ x ∈ a, 0 ≤ x ∧ x < 12) (la : a.length ≤ 400) (hn : n ≤ 400) (h : SqT K H q [.ref r, .int (n : Int)]) (g : SqT K H r (a.map V.int)) (k : Q (.str (prD a n).shown) H) : rShow K [.ref q] H Q :=
  ⟨q, prD a n, rfl, dp_pr h g, pr_sh ha hn, pr_hd a n, by rw [pr_dp]; decide, Nat.le_trans (pr_len ha la hn) (by decide), k⟩
theorem show2p {H : Hp} {Q : VK} {l q r q' r' : Addr} {a : List Int} {n : Nat} (ha : ∀ x ∈ a, 0 ≤ x ∧ x < 12) (la : a.length ≤ 400) (hn : n ≤ 400) (hl : SqL K H l [.ref q, .ref q']) (h : SqT K H q [.ref r, .int (n : Int)]) (g : SqT K H r (a.map V.int))
    (h' : SqT K H q' [.ref r', .int (n : Int)]) (g' : SqT K H r' (a.map V.int)) (k : Q (.str (PyData.list [prD a n, prD a n]).shown) H) : rShow K [.ref l] H Q := by
  refine ⟨l, .list [prD a n, prD a n], rfl, .lst hl (.cons (dp_pr h g) (.cons (dp_pr h' g') .nil)), ?_, ?_, ?_, ?_, k⟩
  · show ((prD a n).showable && ((prD a n).showable && true)) = true
    rw [pr_sh ha hn]
    rfl
  · show ((prD a n).hasDict || ((prD a n).hasDict || false)) = false
    rw [pr_hd]
    rfl
  · show max (prD a n).depth (max (prD a n).depth 0) + 1 ≤ 60
    rw [pr_dp]
    decide
  · have e : (PyData.list [prD a n, prD a n]).shown = listText [(prD a n).shown, (prD a n).shown] := rfl
    rw [e]
    have h0 := listText_len_le [(prD a n).shown, (prD a n).shown]
    have h1 := pr_len ha la hn
    have hz : (10000 : Nat) ≤ sizeLine := by decide
    simp only [List.map_cons, List.map_nil, List.sum_cons, List.sum_nil, List.length_cons, List.length_nil] at h0
    omega
theorem eqv_pr (a : List Int) (n : Nat) : PyData.eqv (prD a n) (prD a n) = true := by
  have h := eqvT a
  have e : PyData.eqv (prD a n) (prD a n) = (PyData.eqv (.tuple (a.map PyData.int)) (.tuple (a.map PyData.int)) && (PyData.eqv (.int (n : Int)) (.int (n : Int)) && true)) := by simp [prD, PyData.eqv, PyData.eqvAll]
  rw [e, h]
  simp [PyData.eqv]
theorem shaped_pr (a : List Int) (n : Nat) : SeqAt.shaped (prD a n) = true := by
  show (PyData.canLay0 (prD a n) && decide ((prD a n).depth ≤ 64)) = true
  rw [pr_dp, Bool.and_eq_true]
  refine ⟨?_, by decide⟩
  show (PyData.canLayAll0 [.tuple (a.map PyData.int), .int (n : Int)]) = true
  simp [PyData.canLay0, PyData.canLayAll0, layA]
structure Ly (T : Txt K mg) (D : Dw) (x : Addr) (row : List Int) (L : List (Addr × List V)) (H : Hp) : Prop where
  dr : DrOk D H
  sk : SkAt T H x row
  tb : Tabs (jTs T) H
  al : ∀ q ∈ L, SqT K H q.1 q.2
section
variable {T : Txt K mg} {D : Dw} {x : Addr} {row : List Int} {L L' : List (Addr × List V)} {H H' : Hp}
theorem Ly.same (l : Ly T D x row L H) (s : Same H H') : Ly T D x row L H' := ⟨l.dr.same s, l.sk.same s, l.tb.ext s, fun q hq => same_seqT s (l.al q hq)⟩
theorem Ly.kp (l : Ly T D x row L H) (d : DrOk D H') (k : Kp D H H') : Ly T D x row L H' := ⟨d, l.sk.kp l.dr k, tabs_kp l.tb l.dr k, fun q hq => k.seqT l.dr (l.al q hq)⟩
theorem Ly.add (l : Ly T D x row L H) {p : Addr} {xs : List V} (h : SqT K H p xs) : Ly T D x row ((p, xs) :: L) H := ⟨l.dr, l.sk, l.tb, fun q hq => by
  rcases List.mem_cons.mp hq with rfl | hq
  · exact h
  · exact l.al q hq⟩
theorem Ly.new (l : Ly T D x row L H) {p : Addr} {o : HO} (h : H p = none) : Ly T D x row L (upd H p o) := l.same (same_new h)
theorem Ly.sub (l : Ly T D x row L H) (h : ∀ q ∈ L', q ∈ L) : Ly T D x row L' H := ⟨l.dr, l.sk, l.tb, fun q hq => l.al q (h q hq)⟩
end
theorem sw_root_of (T : Txt K mg) : Swaps T.root_of.fd "skin" "loop" := T.root_of.F.swaps fun _ _ _ _ _ _ _ _ => rfl
theorem sw_turned_about (T : Txt K mg) : Swaps T.turned_about.fd "skin" "loop" := T.turned_about.F.swaps fun _ _ _ _ _ _ _ _ => rfl
theorem sw_gone (T : Txt K mg) : Swaps3 T.gone.fd "skin" "loop" "times" := T.gone.F.swaps3 fun _ _ _ _ _ _ _ _ _ => rfl
theorem sw_along (T : Txt K mg) : Swaps3 T.along.fd "skin" "one" "other" := T.along.F.swaps3 fun _ _ _ _ _ _ _ _ _ => rfl
theorem rI0_add {i j v : Int} {H : Hp} {Q : VK} (hv : i + j = v) (h : Q (.int v) H) : rI0 (fun i j => V.int (i + j)) (.int i) (.int j) H Q := ⟨i, j, rfl, rfl, by subst hv; exact h⟩
theorem slT_last {xs : List V} {a : Addr} {H : Hp} {Q : VK} (hx : xs ≠ []) (h : SqT K H a xs) (q : ∀ b H', Same H H' → SqT K H' b xs.dropLast → Q (.ref b) H') : rSlA K (.ref a) none (some (-1)) H Q := by
  have l0 := List.length_pos_iff.mpr hx
  have e : HT.sIx xs.length xs.length (some (-1)) = xs.length - 1 := by
    unfold HT.sIx
    simp
    omega
  refine ⟨a, xs, rfl, h, fun z => absurd z.2 (by rw [e]; omega), fun _ p hp => q p _ (same_new hp) ?_⟩
  have ec : cutV xs none (some (-1)) = xs.dropLast := by
    unfold cutV
    have e0 : HT.sIx xs.length 0 none = 0 := rfl
    rw [e, e0, List.drop_zero, Nat.sub_zero, List.dropLast_eq_take]
  rw [ec]
  exact SqT.of upd_same
end
end Tt
set_option maxRecDepth 100000
set_option maxHeartbeats 4000000
namespace Tt
open PySem L2
open LamX (Tabs TabS TabB ExtN CodeO tLam)
section
variable {P : Program} {w : World} {K : PySem.W.Frag} {mg : Str → Option Value} {base : Heap}
theorem law_body (T : Txt K mg) (TBj : TabB base mg T.jc T.jP) {cdv : Value} {A : Around} {outer : List Env} {s : Shared} {H : Hp} {E : XK} {Q : VK} {a : Addr} {zs : List Int} (hA : A.guards = some []) (hr : Room 14 (A.deeper (PyProof.Rows.envOfC "law" (defScope s_law) s.heap.objs.size T.law.a cdv)))
    (hs : SqL K H a (zs.map V.int)) (hl : zs.length ≤ 63) (tb : Tabs (jTs T) H) (k : ∀ H', Q (.bl true) H') :
    ∃ t, PSs (cxOf CX0 P w K mg base N_law "law" (defScope s_law) T.law.a cdv A outer s H E).nox (defBody s_law) t ∧ t { nx := fun _ H' => Q .non H', rt := Q } (L2.start N_law [.ref a]) H := by
  have nd := sc_law.nd
  have hg : (cxOf CX0 P w K mg base N_law "law" (defScope s_law) T.law.a cdv A outer s H E).nox.A.guards = some [] := hA
  refine ⟨_, (pss_cons (ps_set (i := 1) nd rfl (Or.inl rfl) (pe_call (ok_l_begun T) (hr.mono (by decide)) (by rfl) T.l_begun.g T.l_begun.k T.l_begun.b .nil pass0 (pa_cons (pv 0) pa_nil)))
    (pss_cons (ps_for PassesOwn.never rfl (pi_range1 rfl T.zrange (pa_cons (pe_op op_add pe_int (pe_callB (call_min2 rfl) (by rfl) T.zmin (by decide +kernel) (pa_cons (pe_callB call_len_seq (by rfl) T.zlen (by decide +kernel) (pa_cons (pv 0) pa_nil)) (pa_cons pe_int pa_nil)))) pa_nil)) (pg_name (i := 2) nd rfl (Or.inl rfl))
      (pss_cons (ps_set (i := 3) nd rfl (Or.inl rfl) (pe_make T.Skin.kk (ok_Skin_init T) (hr.mono (by decide)) (by rfl) T.Skin.g T.Skin.b .nil passF (pa_cons (pe_call (ok_l_row T) (hr.mono (by decide)) (by rfl) T.l_row.g T.l_row.k T.l_row.b .nil pass0 (pa_cons (pv 1) (pa_cons pe_int pa_nil))) pa_nil)))
      (pss_cons (ps_par (i := 4) (j := 5) rfl nd rfl rfl (by decide) rfl rfl (pa_cons (pe_call (ok_l_loop T) (hr.mono (by decide)) (by rfl) T.l_loop.g T.l_loop.k T.l_loop.b .nil pass0 (pa_cons (pv 1) (pa_cons (pe_callB call_len_seq (by rfl) T.zlen (by decide +kernel) (pa_cons (pe_fld (pv 3) rfl) pa_nil)) pa_nil))) (pa_cons (pe_op op_add pe_int (pe_call (ok_l_take T) (hr.mono (by decide)) (by rfl) T.l_take.g T.l_take.k T.l_take.b .nil pass0 (pa_cons (pv 1) (pa_cons pe_int pa_nil)))) pa_nil)) rfl)
      (pss_cons (ps_set (i := 6) nd rfl (Or.inl rfl) (pe_call (ok_l_root T) (hr.mono (by decide)) (by rfl) T.l_root.g T.l_root.k T.l_root.b .nil pass0 (pa_cons (pv 4) pa_nil)))
      (pss_cons (ps_if (pt_cmpR op_ne (pe_callB (call_show hg hr.units) (by rfl) T.zrepr (by decide +kernel) (pa_cons (pe_lst (pa_cons (pe_call (ok_root_of T) (hr.mono (by decide)) (by rfl) T.root_of.g T.root_of.k T.root_of.b .nil passF (pa_cons (pv 3) (pa_cons (pv 4) pa_nil))) (pa_cons (pe_callSw (ok_root_of T) (hr.mono (by decide)) (by rfl) T.root_of.g T.root_of.k (sw_root_of T) passF (pv 4) (pv 3)) pa_nil))) pa_nil)) (pe_callB (call_show hg hr.units) (by rfl) T.zrepr (by decide +kernel) (pa_cons (pe_lst (pa_cons (pv 6) (pa_cons (pv 6) pa_nil))) pa_nil)) (nomark _))
        (pss_one (ps_ret pe_bl))
        pss_nil)
      (pss_cons (ps_if (pt_cmpR op_ne (pe_callB (call_show hg hr.units) (by rfl) T.zrepr (by decide +kernel) (pa_cons (pe_call (ok_root_of T) (hr.mono (by decide)) (by rfl) T.root_of.g T.root_of.k T.root_of.b .nil passF (pa_cons (pv 3) (pa_cons (pe_ix ix_tup (pv 6) pe_int (fun _ _ => rfl)) pa_nil))) pa_nil)) (pe_callB (call_show hg hr.units) (by rfl) T.zrepr (by decide +kernel) (pa_cons (pe_tup (pa_cons (pe_ix ix_tup (pv 6) pe_int (fun _ _ => rfl)) (pa_cons pe_int pa_nil))) pa_nil)) (nomark _))
        (pss_one (ps_ret pe_bl))
        pss_nil)
      (pss_cons (ps_set (i := 7) nd rfl (Or.inl rfl) (pe_op op_repA (pv 4) (pv 5)))
      (pss_cons (ps_if (pt_cmpR op_ne (pe_callB (call_show hg hr.units) (by rfl) T.zrepr (by decide +kernel) (pa_cons (pe_lst (pa_cons (pe_call (ok_gone T) (hr.mono (by decide)) (by rfl) T.gone.g T.gone.k T.gone.b .nil passF (pa_cons (pv 3) (pa_cons (pv 4) (pa_cons (pv 5) pa_nil)))) (pa_cons (pe_callSw3 (ok_gone T) (hr.mono (by decide)) (by rfl) T.gone.g T.gone.k (sw_gone T) passF (pv 5) (pv 4) (pv 3)) pa_nil))) pa_nil)) (pe_callB (call_show hg hr.units) (by rfl) T.zrepr (by decide +kernel) (pa_cons (pe_lst (pa_cons (pv 7) (pa_cons (pv 7) pa_nil))) pa_nil)) (nomark _))
        (pss_one (ps_ret pe_bl))
        pss_nil)
      (pss_cons (ps_set (i := 8) nd rfl (Or.inl rfl) (pe_call (ok_l_rounded T) (hr.mono (by decide)) (by rfl) T.l_rounded.g T.l_rounded.k T.l_rounded.b .nil pass0 (pa_cons (pe_call (ok_l_undone T) (hr.mono (by decide)) (by rfl) T.l_undone.g T.l_undone.k T.l_undone.b .nil pass0 (pa_cons (pv 4) pa_nil)) pa_nil)))
      (pss_cons (ps_if (PW.pt (pw_or (pt_cmpR op_ne (pe_callB (call_show hg hr.units) (by rfl) T.zrepr (by decide +kernel) (pa_cons (pe_lst (pa_cons (pe_call (ok_turned_about T) (hr.mono (by decide)) (by rfl) T.turned_about.g T.turned_about.k T.turned_about.b .nil passF (pa_cons (pv 3) (pa_cons (pv 4) pa_nil))) (pa_cons (pe_callSw (ok_turned_about T) (hr.mono (by decide)) (by rfl) T.turned_about.g T.turned_about.k (sw_turned_about T) passF (pv 4) (pv 3)) pa_nil))) pa_nil)) (pe_callB (call_show hg hr.units) (by rfl) T.zrepr (by decide +kernel) (pa_cons (pe_lst (pa_cons (pv 8) (pa_cons (pv 8) pa_nil))) pa_nil)) (nomark _)) (pw_or1 (pt_cmpR (op_eqD hr.units) (pv 8) (pv 4) (nomark _)))))
        (pss_one (ps_ret pe_bl))
        pss_nil)
      (pss_cons (ps_if (PW.pt (pw_or (pt_cmpR (op_neD hr.units) (pe_call (ok_turned_about T) (hr.mono (by decide)) (by rfl) T.turned_about.g T.turned_about.k T.turned_about.b .nil passF (pa_cons (pv 3) (pa_cons (pv 8) pa_nil))) (pv 4) (nomark _)) (pw_or1 (pt_cmpR (op_neD hr.units) (pe_call (ok_root_of T) (hr.mono (by decide)) (by rfl) T.root_of.g T.root_of.k T.root_of.b .nil passF (pa_cons (pv 3) (pa_cons (pv 8) pa_nil))) (pe_tup (pa_cons (pe_call (ok_turned_about T) (hr.mono (by decide)) (by rfl) T.turned_about.g T.turned_about.k T.turned_about.b .nil passF (pa_cons (pv 3) (pa_cons (pe_ix ix_tup (pv 6) pe_int (fun _ _ => rfl)) pa_nil))) (pa_cons (pe_ix ix_tup (pv 6) pe_int (fun _ _ => rfl)) pa_nil))) (nomark _)))))
        (pss_one (ps_ret pe_bl))
        pss_nil)
      (pss_cons (ps_set (i := 9) nd rfl (Or.inl rfl) (pe_lst (pa_cons (pv 4) (pa_cons (pv 8) (pa_cons (pe_ix ix_tup (pv 6) pe_int (fun _ _ => rfl)) (pa_cons (pe_call (ok_l_rounded T) (hr.mono (by decide)) (by rfl) T.l_rounded.g T.l_rounded.k T.l_rounded.b .nil pass0 (pa_cons (pe_call (ok_l_undone T) (hr.mono (by decide)) (by rfl) T.l_undone.g T.l_undone.k T.l_undone.b .nil pass0 (pa_cons (pe_ix ix_tup (pv 6) pe_int (fun _ _ => rfl)) pa_nil)) pa_nil)) (pa_cons (pe_op op_repA (pe_ix ix_tup (pv 6) pe_int (fun _ _ => rfl)) (pe_op op_fdiv pe_int (pe_callB call_len_seq (by rfl) T.zlen (by decide +kernel) (pa_cons (pe_ix ix_tup (pv 6) pe_int (fun _ _ => rfl)) pa_nil)))) (pa_cons (pe_call (ok_l_loop T) (hr.mono (by decide)) (by rfl) T.l_loop.g T.l_loop.k T.l_loop.b .nil pass0 (pa_cons (pv 1) (pa_cons (pe_callB call_len_seq (by rfl) T.zlen (by decide +kernel) (pa_cons (pe_fld (pv 3) rfl) pa_nil)) pa_nil))) pa_nil))))))))
      (pss_cons (ps_for PassesOwn.never rfl (pi_list (pe_op op_cat (pv 9) (pe_lst (pa_cons (pe_call (ok_l_rounded T) (hr.mono (by decide)) (by rfl) T.l_rounded.g T.l_rounded.k T.l_rounded.b .nil pass0 (pa_cons (pe_revT (pv 4)) pa_nil)) (pa_cons (pe_call (ok_l_rounded T) (hr.mono (by decide)) (by rfl) T.l_rounded.g T.l_rounded.k T.l_rounded.b .nil pass0 (pa_cons (pe_op op_catA (pe_slice sl_tupA (pv 4) po_none (po_some (pe_un un_neg pe_int))) (pe_slice sl_tupA (pv 4) po_none (po_some pe_int))) pa_nil)) pa_nil))))) (pg_name (i := 10) nd rfl (Or.inl rfl))
        (pss_one (ps_if (pt_chain op_lt op_lt pe_int (pe_callB call_len_seq (by rfl) T.zlen (by decide +kernel) (pa_cons (pv 10) pa_nil)) pe_int)
          (pss_cons (ps_set (i := 11) nd rfl (Or.inl rfl) (pe_call (ok_l_is_along T) (hr.mono (by decide)) (by rfl) T.l_is_along.g T.l_is_along.k T.l_is_along.b .nil pass0 (pa_cons (pv 4) (pa_cons (pv 10) pa_nil))))
          (pss_one (ps_if (pt_cmpR op_ne (pe_callB (call_show hg hr.units) (by rfl) T.zrepr (by decide +kernel) (pa_cons (pe_lst (pa_cons (pe_call (ok_along T) (hr.mono (by decide)) (by rfl) T.along.g T.along.k T.along.b .nil passF (pa_cons (pv 3) (pa_cons (pv 4) (pa_cons (pv 10) pa_nil)))) (pa_cons (pe_callSw3 (ok_along T) (hr.mono (by decide)) (by rfl) T.along.g T.along.k (sw_along T) passF (pv 4) (pv 10) (pv 3)) pa_nil))) pa_nil)) (pe_callB (call_show hg hr.units) (by rfl) T.zrepr (by decide +kernel) (pa_cons (pe_lst (pa_cons (pv 11) (pa_cons (pv 11) pa_nil))) pa_nil)) (nomark _))
            (pss_one (ps_ret pe_bl))
            pss_nil)))
          pss_nil)))
      (pss_one (ps_if (pt_not (pt_val (pe_callG (ok_l_refused T TBj) hg (hr.mono (by decide)) (by rfl) T.l_refused.g T.l_refused.k T.l_refused.b .nil pass0 (pa_cons (pv 1) (pa_cons (pv 3) (pa_cons (pv 4) pa_nil))))))
        (pss_one (ps_ret pe_bl))
        pss_nil)))))))))))))))
    (pss_one (ps_ret pe_bl)))), ?_⟩
  refine ⟨_, rfl, a, zs, rfl, hs, hl, fun D H1 d1 s1 => ?_⟩
  have tb1 := tb.ext s1
  have hs1 : SqL K H1 a (zs.map V.int) := Same.seq s1 hs
  refine ⟨_, rfl, a, _, rfl, .inl hs1, _, _, rfl, _, _, rfl, rfl, _, rfl, ?_, ?_, ?_⟩
  · split <;> omega
  · split <;> omega
  refine for_range (lo := 0) (fun i σ H' => ∃ v2 v3 v4 v5 v6 v7 v8 v9 v10 v11, σ = [some (.ref a), some (.ref D.d), v2, v3, v4, v5, v6, v7, v8, v9, v10, v11] ∧ DrOk D H' ∧ Tabs (jTs T) H') ⟨none, none, none, none, none, none, none, none, none, none, rfl, d1, tb1⟩ ?_ ?_
  · rintro i0' σ H2 hi ⟨v2, v3, v4, v5, v6, v7, v8, v9, v10, v11, rfl, d2, tb2⟩
    refine ⟨_, rfl, D, 6, rfl, by decide, by decide, d2, fun n row q H3 n1 n6 pm d3 k3 fq x dx hx hdx ne => ?_⟩
    have sA : Same H3 (upd (upd H3 dx (.own x)) x (.ins T.Skin.C dx [])) := (same_new hdx).trans (same_new (by rw [upd_ne ne.symm]; exact hx))
    refine ⟨x, q, dx, n, row, rfl, upd_same, FzT.same fq sA, n1, by omega, pm, fun st H4 i0 sk kp => ⟨rfl, ?_⟩⟩
    have s4 : Same H3 H4 := fun b o hb => kp b o (sA b o hb) (ne_of_none hb hx)
    have d4 : DrOk D H4 := d3.same s4
    have tb4 : Tabs (jTs T) H4 := (tabs_kp tb2 d2 k3).ext s4
    have pm2 := (turn_perm row st).trans pm
    generalize row.drop st ++ row.take st = row2 at sk pm2
    have hlen : row2.length = 2 * n := perm_len pm2
    clear kp sA s4 k3 fq hx hdx ne i0 tb2 d2 d3
    have l4 : Ly T D x row2 [] H4 := ⟨d4, sk, tb4, fun _ h => absurd h (by simp)⟩
    clear d4 sk tb4
    have rl : row2.length ≤ 12 ∧ row2.length % 2 = 0 := by omega
    have ev : (row2.length : Int) % 2 = 0 := by omega
    obtain ⟨dx2, r, q2, b1, b2, b3⟩ := id l4.sk
    refine ⟨_, rfl, _, rfl, x, T.Skin.C, dx2, _, _, rfl, b1, T.Skin.c, nRow T, skF_row .., r, _, rfl, .inr b2.sq, D, (row2.length : Int), by rw [List.length_map] <;> rfl, by omega, by omega, ev, l4.dr, fun ns t H5 rn hn hlt d5 k5 h5 => ?_⟩
    have l5 := (l4.kp d5 k5).add h5
    refine ⟨_, rfl, D, 9, rfl, by decide, by decide, l5.dr, fun g H6 g0 g1 d6 k6 => ?_⟩
    have l6 := l5.kp d6 k6
    obtain ⟨g, rfl⟩ := Int.eq_ofNat_of_zero_le g0
    obtain ⟨m, hm⟩ : ∃ m : Nat, m = 1 + g := ⟨_, rfl⟩
    refine rI0_add (i := 1) (j := (g : Int)) (v := (m : Int)) (by omega) ?_
    refine ⟨_, _, rfl, ?_⟩
    have m19 : 1 ≤ m ∧ m ≤ 9 := by omega
    clear b1 b2 b3 l4 l5 d5 d6 k5 k6 h5 hm
    have lt12 : ∀ x ∈ ns, 0 ≤ x ∧ x < 12 := fun y hy => by have := hlt y hy; omega
    have m4 : (t, ns.map V.int) ∈ [(t, ns.map V.int)] := List.mem_cons_self
    refine ⟨_, rfl, t, ns, rfl, l6.al _ m4, rn.1, by omega, fun s0 q6 r6 H7 ir s7 h7 g7 => ?_⟩
    have l7 := ((l6.same s7).add (SqT.of h7)).add g7
    clear l6 s7 h7 g7 m4
    have s1' : 1 ≤ s0 := ir.1
    have s2' : s0 ≤ ns.length := ir.2.1
    obtain ⟨kk, kk1, ek, el⟩ := root_pow ir
    have edv : ns.length / s0 = kk := by rw [← el]; exact Nat.mul_div_cancel _ (by omega)
    rw [edv] at l7
    have rr := rnd_root rn ir
    have hrlen : (ns.take s0).length = s0 := by rw [List.length_take]; omega
    have hlr : Lt (row2.length : Int) (ns.take s0) := hlt.take s0
    have lr12 : ∀ x ∈ ns.take s0, 0 ≤ x ∧ x < 12 := fun y hy => lt12 y (List.mem_of_mem_take hy)
    have kk40 : kk ≤ 40 := by rw [← edv]; exact Nat.le_trans (Nat.div_le_self _ _) hn
    generalize hL : ([(r6, (ns.take s0).map V.int), (q6, [V.ref r6, V.int (kk : Int)]), (t, ns.map V.int)] : List (Addr × List V)) = L at l7
    have m4 : (t, ns.map V.int) ∈ L := by rw [← hL]; simp
    have m6 : (q6, [V.ref r6, V.int (kk : Int)]) ∈ L := by rw [← hL]; simp
    have mr : (r6, (ns.take s0).map V.int) ∈ L := by rw [← hL]; simp
    have sz2 : (2 : Nat) ≤ sizeLine := by decide
    apply let_rest (J := fun H' => Ly T D x row2 L H')
    · intro rest
      refine ⟨_, rfl, _, rfl, _, _, rfl, .inr ⟨x, row2, rfl, l7.sk, rl, .inr ⟨t, ns, rfl, l7.al _ m4, hn, hlt, rn, fun sa qa ra H8 ira s8 ha ga => ?_⟩⟩⟩
      have l8 := l7.same s8
      refine ⟨_, rfl, _, rfl, _, _, rfl, .inr ⟨x, row2, rfl, l8.sk, rl, .inr ⟨t, ns, rfl, l8.al _ m4, hn, hlt, rn, fun sb qb rb H9 irb s9 hb gb => ⟨sz2, fun la hla => ?_⟩⟩⟩⟩
      have l9 := l8.same s9
      have ea := root_uniq ira ir
      have eb := root_uniq irb ir
      subst ea eb
      rw [edv] at ha hb
      have sn : Same H9 (upd H9 la (.lst [.ref qa, .ref qb])) := same_new hla
      refine nil_i (show2p (K := K) (n := kk) lr12 (by omega) (by omega) (SqL.of upd_same) (same_seqT (s9.trans sn) (SqT.of ha)) (same_seqT (s9.trans sn) ga) (same_seqT sn (SqT.of hb)) (same_seqT sn gb) ?_)
      have l10 := l9.same sn
      generalize upd H9 la (.lst [.ref qa, .ref qb]) = H10 at l10
      refine ⟨_, rfl, _, rfl, sz2, fun lb hlb => ?_⟩
      have l11 := l10.new (o := .lst [.ref q6, .ref q6]) hlb
      refine nil_i (show2p (K := K) (n := kk) lr12 (by omega) (by omega) (SqL.of upd_same) (l11.al _ m6) (l11.al _ mr) (l11.al _ m6) (l11.al _ mr) ⟨rfl, _, rfl, iteNS rfl ?_⟩)
      generalize upd H10 lb (.lst [.ref q6, .ref q6]) = H11 at l11
      exact rest H11 l11
    intro H8 l8
    clear l7
    apply let_rest (J := fun H' => Ly T D x row2 L H')
    · intro rest
      refine ⟨_, rfl, _, rfl, q6, _, 0, .ref r6, rfl, rfl, l8.al _ m6, rfl, ?_⟩
      refine ⟨_, _, rfl, .inr ⟨x, row2, rfl, l8.sk, rl, .inr ⟨r6, ns.take s0, rfl, l8.al _ mr, by omega, hlr, rr, fun sa qa ra H9 ira s9 ha ga => ?_⟩⟩⟩
      have l9 := l8.same s9
      have ea := root_root ir ira
      have e1 : (ns.take s0).length / sa = 1 := by rw [ea, hrlen]; exact Nat.div_self (by omega)
      have e2 : (ns.take s0).take sa = ns.take s0 := by rw [ea]; exact List.take_of_length_le (by omega)
      rw [e1] at ha
      rw [e2] at ga
      refine nil_i (show1p (K := K) (n := 1) lr12 (by omega) (by decide) (SqT.of ha) ga ?_)
      refine ⟨_, rfl, q6, _, 0, .ref r6, rfl, rfl, l9.al _ m6, rfl, sz2, fun tp htp => ?_⟩
      have l10 := l9.new (o := .tup [.ref r6, .int 1]) htp
      refine nil_i (show1p (K := K) (n := 1) lr12 (by omega) (by decide) (SqT.of upd_same) (l10.al _ mr) ⟨rfl, _, rfl, iteNS rfl ?_⟩)
      generalize upd H9 tp (.tup [.ref r6, .int 1]) = H10 at l10
      exact rest H10 l10
    intro H9 l9
    clear l8
    refine ⟨_, rfl, _, rfl, ?_⟩
    refine repA_gen (K := K) (k := (m : Int)) (l9.al _ m4) (fun z => rn.1 (List.map_eq_nil_iff.mp z)) (by omega) (by omega) (by show (ns.map V.int).length ≤ 1000; rw [List.length_map]; omega) fun p7 H10 s10 h10 => ?_
    have em : ((m : Nat) : Int).toNat = m := by omega
    have h10' : SqT K H10 p7 ((Wd.pow ns m).map V.int) := by
      have := h10
      rw [em] at this
      rw [← repV]
      exact this
    have lp : (Wd.pow ns m).length ≤ 400 := by
      rw [Wd.pow_len]
      exact Nat.le_trans (Nat.mul_le_mul m19.2 hn) (by decide)
    have lp12 : ∀ x ∈ Wd.pow ns m, 0 ≤ x ∧ x < 12 := fun y hy => lt12 y (Wd.pow_mem hy)
    have l10 := (l9.same s10).add h10'
    clear l9 s10 h10 h10'
    apply let_rest (J := fun H' => Ly T D x row2 ((p7, (Wd.pow ns m).map V.int) :: L) H')
    · intro rest
      refine ⟨_, rfl, _, rfl, _, rfl, _, _, _, rfl, .inr ⟨x, row2, rfl, l10.sk, rl, .inr ⟨t, ns, rfl, l10.al _ (List.mem_cons_of_mem _ m4), hn, hlt, rn, .inr ⟨m, rfl, m19.1, m19.2, fun qa H11 s11 ha => ?_⟩⟩⟩⟩
      have l11 := l10.same s11
      refine ⟨_, rfl, _, rfl, _, rfl, _, _, _, rfl, .inr ⟨x, row2, rfl, l11.sk, rl, .inr ⟨t, ns, rfl, l11.al _ (List.mem_cons_of_mem _ m4), hn, hlt, rn, .inr ⟨m, rfl, m19.1, m19.2, fun qb H12 s12 hb => ⟨sz2, fun la hla => ?_⟩⟩⟩⟩⟩
      have l12 := l11.same s12
      have sn : Same H12 (upd H12 la (.lst [.ref qa, .ref qb])) := same_new hla
      refine nil_i (show2L (K := K) lp12 lp12 lp lp (SqL.of upd_same) (same_seqT (s12.trans sn) ha) (same_seqT sn hb) ?_)
      have l13 := l12.same sn
      generalize upd H12 la (.lst [.ref qa, .ref qb]) = H13 at l13
      refine ⟨_, rfl, _, rfl, sz2, fun lb hlb => ?_⟩
      have l14 := l13.new (o := .lst [.ref p7, .ref p7]) hlb
      refine nil_i (show2L (K := K) lp12 lp12 lp lp (SqL.of upd_same) (l14.al _ List.mem_cons_self) (l14.al _ List.mem_cons_self) ⟨rfl, _, rfl, iteNS rfl ?_⟩)
      generalize upd H13 lb (.lst [.ref p7, .ref p7]) = H14 at l14
      exact rest H14 l14
    intro H11 l11
    have l11 : Ly T D x row2 L H11 := l11.sub fun q hq => List.mem_cons_of_mem _ hq
    clear l10
    have bu : ∀ x ∈ Wd.undo ns, 0 ≤ x ∧ x < 12 := Lt.undo (e := 12) (by decide) lt12
    have ltu : Lt (row2.length : Int) (Wd.undo ns) := hlt.undo ev
    refine ⟨_, rfl, t, ns, rfl, l11.al _ m4, by omega, lt12, fun u8 H12 s12 h12 => ⟨u8, Wd.undo ns, rfl, SqT.of h12, by rw [Wd.undo_len]; omega, bu, fun p8 H13 s13 h13 => ?_⟩⟩
    rw [closed_abt rn] at h13
    have ra := rnd_abt rn
    have la40 : (abt ns).length ≤ 40 := by rw [abt_len]; exact hn
    have hla : Lt (row2.length : Int) (abt ns) := fun y hy => ltu y (closedT_mem (ns := Wd.undo ns) (by rw [closed_abt rn]; exact hy))
    have la12 : ∀ x ∈ abt ns, 0 ≤ x ∧ x < 12 := fun y hy => by have := hla y hy; omega
    have l13 := ((l11.same s12).same s13).add h13
    generalize hL2 : (p8, (abt ns).map V.int) :: L = L2' at l13
    have m8 : (p8, (abt ns).map V.int) ∈ L2' := by rw [← hL2]; exact List.mem_cons_self
    have m4 : (t, ns.map V.int) ∈ L2' := by rw [← hL2]; exact List.mem_cons_of_mem _ m4
    have m6 : (q6, [V.ref r6, V.int (kk : Int)]) ∈ L2' := by rw [← hL2]; exact List.mem_cons_of_mem _ m6
    have mr : (r6, (ns.take s0).map V.int) ∈ L2' := by rw [← hL2]; exact List.mem_cons_of_mem _ mr
    clear l11 s12 s13 h12 h13
    apply let_rest (J := fun H' => Ly T D x row2 L2' H')
    · intro rest
      refine ⟨_, rfl, _, rfl, _, _, rfl, .inr ⟨x, row2, rfl, l13.sk, rl, .inr ⟨t, ns, rfl, l13.al _ m4, hn, hlt, rn.1, rn.2, fun qa H14 s14 ha => ?_⟩⟩⟩
      have l14 := l13.same s14
      refine ⟨_, rfl, _, rfl, _, _, rfl, .inr ⟨x, row2, rfl, l14.sk, rl, .inr ⟨t, ns, rfl, l14.al _ m4, hn, hlt, rn.1, rn.2, fun qb H15 s15 hb => ⟨sz2, fun la hla => ?_⟩⟩⟩⟩
      have l15 := l14.same s15
      have sn : Same H15 (upd H15 la (.lst [.ref qa, .ref qb])) := same_new hla
      refine nil_i (show2L (K := K) (a := abt ns) (b := abt ns) la12 la12 (by omega) (by omega) (SqL.of upd_same) (same_seqT (s15.trans sn) ha) (same_seqT sn hb) ?_)
      have l16 := l15.same sn
      generalize upd H15 la (.lst [.ref qa, .ref qb]) = H16 at l16
      refine ⟨_, rfl, _, rfl, sz2, fun lb hlb => ?_⟩
      have l17 := l16.new (o := .lst [.ref p8, .ref p8]) hlb
      refine nil_i (show2L (K := K) (a := abt ns) (b := abt ns) la12 la12 (by omega) (by omega) (SqL.of upd_same) (l17.al _ m8) (l17.al _ m8) ⟨rfl, _, rfl, iteNS rfl ?_⟩)
      generalize upd H16 lb (.lst [.ref p8, .ref p8]) = H17 at l17
      refine ⟨_, rfl, _, rfl, .tuple ((abt ns).map PyData.int), .tuple (ns.map PyData.int), .tup (l17.al _ m8) (dpAll_ints _ _), .tup (l17.al _ m4) (dpAll_ints _ _), shapedAll_ints _, shapedAll_ints _, ?_⟩
      have ev1 : PyData.eqv (.tuple ((abt ns).map PyData.int)) (.tuple (ns.map PyData.int)) = decide (abt ns = ns) := eqv_ints _ _
      rw [ev1, decide_eq_false (abt_ne rn)]
      exact ⟨_, rfl, iteF (rest H17 l17)⟩
    intro H14 l14
    clear l13
    apply let_rest (J := fun H' => Ly T D x row2 L2' H')
    · intro rest
      refine ⟨_, rfl, _, rfl, _, _, rfl, .inr ⟨x, row2, rfl, l14.sk, rl, .inr ⟨p8, abt ns, rfl, l14.al _ m8, la40, hla, ra.1, ra.2, fun qa H15 s15 ha => ?_⟩⟩⟩
      have l15 := l14.same s15
      have eab : leastT (Wd.undo (abt ns)) = ns := abt_abt rn
      rw [eab] at ha
      refine ⟨_, rfl, ne_same (K := K) ha (l15.al _ m4) ⟨_, rfl, iteF ?_⟩⟩
      refine ⟨_, rfl, _, rfl, _, _, rfl, .inr ⟨x, row2, rfl, l15.sk, rl, .inr ⟨p8, abt ns, rfl, l15.al _ m8, la40, hla, ra, fun sa qb rb H16 ira s16 hb gb => ?_⟩⟩⟩
      have l16 := l15.same s16
      obtain ⟨es, et⟩ := root_abt rn ir ira
      have ed2 : (abt ns).length / sa = kk := by rw [es, abt_len]; exact edv
      rw [ed2] at hb
      rw [et] at gb
      refine ⟨_, rfl, _, rfl, q6, _, 0, .ref r6, rfl, rfl, l16.al _ m6, rfl, ?_⟩
      refine ⟨_, _, rfl, .inr ⟨x, row2, rfl, l16.sk, rl, .inr ⟨r6, ns.take s0, rfl, l16.al _ mr, by omega, hlr, rr.1, rr.2, fun qc H17 s17 hc => ?_⟩⟩⟩
      have l17 := l16.same s17
      refine ⟨_, rfl, q6, _, 1, .int (kk : Int), rfl, rfl, l17.al _ m6, rfl, sz2, fun tp htp => ?_⟩
      have sn : Same H17 (upd H17 tp (.tup [.ref qc, .int (kk : Int)])) := same_new htp
      refine ⟨prD (abt (ns.take s0)) kk, prD (abt (ns.take s0)) kk, dp_pr (same_seqT (s17.trans sn) (SqT.of hb)) (same_seqT (s17.trans sn) gb), dp_pr (SqT.of upd_same) (same_seqT sn hc), shaped_pr _ _, shaped_pr _ _, ?_⟩
      rw [eqv_pr]
      have l18 := l17.same sn
      generalize upd H17 tp (.tup [.ref qc, .int (kk : Int)]) = H18 at l18
      exact ⟨_, rfl, iteF (rest H18 l18)⟩
    intro H15 l15
    clear l14
    have g6 : SqT K H15 q6 [V.ref r6, V.int (kk : Int)] := l15.al _ m6
    have gr : SqT K H15 r6 ((ns.take s0).map V.int) := l15.al _ mr
    have brr : ∀ x ∈ Wd.undo (ns.take s0), 0 ≤ x ∧ x < 12 := Lt.undo (e := 12) (by decide) lr12
    refine ⟨_, rfl, _, rfl, _, rfl, q6, _, 0, .ref r6, rfl, rfl, g6, rfl, _, rfl, q6, _, 0, .ref r6, rfl, rfl, g6, rfl, r6, ns.take s0, rfl, gr, by omega, lr12, fun u9 H16 s16 h16 => ⟨u9, Wd.undo (ns.take s0), rfl, SqT.of h16, by rw [Wd.undo_len]; omega, brr, fun p9 H17 s17 h17 => ?_⟩⟩
    rw [closed_abt rr] at h17
    have rra := rnd_abt rr
    have lra : (abt (ns.take s0)).length ≤ 40 := by rw [abt_len]; omega
    have hlra : Lt (row2.length : Int) (abt (ns.take s0)) := fun y hy => (hlr.undo ev) y (closedT_mem (ns := Wd.undo (ns.take s0)) (by rw [closed_abt rr]; exact hy))
    have l17 := ((l15.same s16).same s17).add h17
    have g6 := same_seqT (s16.trans s17) g6
    have gr := same_seqT (s16.trans s17) gr
    refine ⟨_, rfl, q6, _, 0, .ref r6, rfl, rfl, g6, rfl, _, rfl, q6, _, 0, .ref r6, rfl, rfl, g6, rfl, r6, _, rfl, .inr gr, ?_⟩
    refine rI_div (v := ((40 / s0 : Nat) : Int)) (by rw [List.length_map, hrlen]; rfl) ⟨by rw [List.length_map, hrlen]; omega, by rw [List.length_map, hrlen]; omega⟩ ?_
    have o1 : 1 ≤ 40 / s0 := Nat.div_pos (by omega) (by omega)
    have o40 : 40 / s0 * s0 ≤ 40 := Nat.div_mul_le_self 40 s0
    have o40' : 40 / s0 ≤ 40 := Nat.div_le_self _ _
    generalize 40 / s0 = mo at o1 o40 o40' ⊢
    refine repA_gen (K := K) (k := ((mo : Nat) : Int)) gr (fun z => rr.1 (List.map_eq_nil_iff.mp z)) (by omega) (by omega) (by rw [List.length_map]; omega) fun p10 H18 s18 h18 => ?_
    have emo : ((mo : Nat) : Int).toNat = mo := by omega
    rw [emo, repV] at h18
    have rp := rnd_pow rr o1
    have lpp : (Wd.pow (ns.take s0) mo).length ≤ 40 := by rw [Wd.pow_len, hrlen]; exact o40
    have hlp : Lt (row2.length : Int) (Wd.pow (ns.take s0) mo) := fun y hy => hlr y (Wd.pow_mem hy)
    have l18 := (l17.same s18).add h18
    clear l15 l17 s16 s17 s18 h16 h17 h18 g6 gr
    obtain ⟨dx2, r, q2, b1, b2, b3⟩ := id l18.sk
    refine ⟨_, rfl, _, rfl, x, T.Skin.C, dx2, _, _, rfl, b1, T.Skin.c, nRow T, skF_row .., r, _, rfl, .inr b2.sq, D, (row2.length : Int), by rw [List.length_map] <;> rfl, by omega, by omega, ev, l18.dr, fun ms p11 H19 rm hm hltm d19 k19 h19 => ⟨(by show 6 ≤ sizeLine; decide), fun l6 hl6 => ?_⟩⟩
    have l19 := (l18.kp d19 k19).add h19
    have l20 := l19.new (o := .lst [.ref t, .ref p8, .ref r6, .ref p9, .ref p10, .ref p11]) hl6
    have f6 : (upd H19 l6 (.lst [.ref t, .ref p8, .ref r6, .ref p9, .ref p10, .ref p11])) l6 = some (.lst [.ref t, .ref p8, .ref r6, .ref p9, .ref p10, .ref p11]) := upd_same
    generalize upd H19 l6 (.lst [.ref t, .ref p8, .ref r6, .ref p9, .ref p10, .ref p11]) = H20 at l20 f6
    clear l18 l19 d19 k19 h19 hl6 b1 b2 b3
    have w4 : SqT K H20 t (ns.map V.int) := l20.al _ (List.mem_cons_of_mem _ (List.mem_cons_of_mem _ (List.mem_cons_of_mem _ m4)))
    have w8 : SqT K H20 p8 ((abt ns).map V.int) := l20.al _ (List.mem_cons_of_mem _ (List.mem_cons_of_mem _ (List.mem_cons_of_mem _ m8)))
    have wr : SqT K H20 r6 ((ns.take s0).map V.int) := l20.al _ (List.mem_cons_of_mem _ (List.mem_cons_of_mem _ (List.mem_cons_of_mem _ mr)))
    have w9 : SqT K H20 p9 ((abt (ns.take s0)).map V.int) := l20.al _ (List.mem_cons_of_mem _ (List.mem_cons_of_mem _ List.mem_cons_self))
    have w10 : SqT K H20 p10 ((Wd.pow (ns.take s0) mo).map V.int) := l20.al _ (List.mem_cons_of_mem _ List.mem_cons_self)
    have w11 : SqT K H20 p11 (ms.map V.int) := l20.al _ List.mem_cons_self
    have l20 : Ly T D x row2 [] H20 := l20.sub (fun q hq => absurd hq (by simp))
    refine ⟨_, rfl, _, rfl, t, _, rfl, w4, fun rv hrv => ?_⟩
    have sr : Same H20 (upd H20 rv (.tup (ns.map V.int).reverse)) := same_new hrv
    have gv : SqT K (upd H20 rv (.tup (ns.map V.int).reverse)) rv (ns.reverse.map V.int) := by
      rw [List.map_reverse]
      exact SqT.of upd_same
    generalize upd H20 rv (.tup (ns.map V.int).reverse) = H21 at sr gv
    have brv : ∀ x ∈ ns.reverse, 0 ≤ x ∧ x < 12 := fun y hy => lt12 y (List.mem_reverse.mp hy)
    refine ⟨rv, ns.reverse, rfl, gv, by rw [List.length_reverse]; omega, brv, fun p12 H22 s22 h22 => ?_⟩
    have s22' := sr.trans s22
    refine ⟨_, rfl, noPart_i ⟨1, rfl, (-1), rfl, ?_⟩⟩
    refine slT_last (K := K) (fun z => rn.1 (List.map_eq_nil_iff.mp z)) (same_seqT s22' w4) fun c1 H23 s23 h23 => ?_
    have s23' := s22'.trans s23
    refine ⟨_, rfl, noPart_i ⟨1, rfl, ?_⟩⟩
    refine slT_gen (K := K) (n := 1) (same_seqT s23' w4) fun c2 H24 s24 h24 => ?_
    have s24' := s23'.trans s24
    refine catA_gen (K := K) (same_seqT s24 h23) h24 ?_ fun c3 H25 s25 h25 => ?_
    · rw [List.length_dropLast, List.length_take, List.length_map]
      exact Nat.le_of_lt (small1000 (by omega))
    have s25' := s24'.trans s25
    have e25 : (ns.map V.int).dropLast ++ (ns.map V.int).take 1 = (ns.dropLast ++ ns.take 1).map V.int := by rw [List.map_append, List.map_dropLast, List.map_take]
    rw [e25] at h25
    have lds : (ns.dropLast ++ ns.take 1).length ≤ 41 := by rw [List.length_append, List.length_dropLast, List.length_take]; omega
    have lds2 : (ns.dropLast ++ ns.take 1).length ≤ ns.length := by
      have := List.length_pos_iff.mpr rn.1
      rw [List.length_append, List.length_dropLast, List.length_take]
      omega
    have bds : ∀ x ∈ ns.dropLast ++ ns.take 1, 0 ≤ x ∧ x < 12 := fun y hy => (List.mem_append.mp hy).elim (fun h => lt12 y ((List.dropLast_sublist _).subset h)) (fun h => lt12 y (List.mem_of_mem_take h))
    have hds : Lt (row2.length : Int) (ns.dropLast ++ ns.take 1) := fun y hy => (List.mem_append.mp hy).elim (fun h => hlt y ((List.dropLast_sublist _).subset h)) (fun h => hlt y (List.mem_of_mem_take h))
    refine ⟨c3, ns.dropLast ++ ns.take 1, rfl, h25, by omega, bds, fun p13 H26 s26 h26 => ⟨sz2, fun l2 hl2 => ?_⟩⟩
    have s26' := s25'.trans s26
    have sn2 : Same H26 (upd H26 l2 (.lst [.ref p12, .ref p13])) := same_new hl2
    refine ⟨l6, l2, _, _, rfl, rfl, (s26'.trans sn2) _ _ f6, upd_same, (by show 6 + 2 ≤ sizeLine; decide), fun l8 hl8 => ⟨l8, rfl, ⟨_, SqL.of upd_same⟩, ?_⟩⟩
    have sn3 : Same (upd H26 l2 (.lst [.ref p12, .ref p13])) (upd (upd H26 l2 (.lst [.ref p12, .ref p13])) l8 (.lst ([.ref t, .ref p8, .ref r6, .ref p9, .ref p10, .ref p11] ++ [.ref p12, .ref p13]))) := same_new hl8
    have f8 : (upd (upd H26 l2 (.lst [.ref p12, .ref p13])) l8 (.lst ([.ref t, .ref p8, .ref r6, .ref p9, .ref p10, .ref p11] ++ [.ref p12, .ref p13]))) l8 = some (.lst ([.ref t, .ref p8, .ref r6, .ref p9, .ref p10, .ref p11] ++ [.ref p12, .ref p13])) := upd_same
    have sB : Same H20 (upd (upd H26 l2 (.lst [.ref p12, .ref p13])) l8 (.lst ([.ref t, .ref p8, .ref r6, .ref p9, .ref p10, .ref p11] ++ [.ref p12, .ref p13]))) := (s26'.trans sn2).trans sn3
    have w12 : SqT K (upd (upd H26 l2 (.lst [.ref p12, .ref p13])) l8 (.lst ([.ref t, .ref p8, .ref r6, .ref p9, .ref p10, .ref p11] ++ [.ref p12, .ref p13]))) p12 ((closedT ns.reverse).map V.int) := same_seqT (((((s23.trans s24).trans s25).trans s26).trans sn2).trans sn3) h22
    have w13 : SqT K (upd (upd H26 l2 (.lst [.ref p12, .ref p13])) l8 (.lst ([.ref t, .ref p8, .ref r6, .ref p9, .ref p10, .ref p11] ++ [.ref p12, .ref p13]))) p13 ((closedT (ns.dropLast ++ ns.take 1)).map V.int) := same_seqT (sn2.trans sn3) h26
    generalize upd (upd H26 l2 (.lst [.ref p12, .ref p13])) l8 (.lst ([.ref t, .ref p8, .ref r6, .ref p9, .ref p10, .ref p11] ++ [.ref p12, .ref p13])) = HB at f8 sB w12 w13
    have lB : Ly T D x row2 [] HB := l20.same sB
    have w4 := same_seqT sB w4
    have w8 := same_seqT sB w8
    have wr := same_seqT sB wr
    have w9 := same_seqT sB w9
    have w10 := same_seqT sB w10
    have w11 := same_seqT sB w11
    clear l20 f6 sr gv s22 s22' s23 s23' s24 s24' s25 s25' s26 s26' sn2 sn3 h22 h23 h24 h25 h26 hl2 hl8 hrv sB
    have cl40 : ∀ ys : List Int, ys.length ≤ ns.length → Lt (row2.length : Int) ys → closedT ys = [] ∨ (Rnd (closedT ys) ∧ (closedT ys).length ≤ 40 ∧ Lt (row2.length : Int) (closedT ys)) := fun ys hy hly => by
      by_cases h0 : closedT ys = []
      · exact .inl h0
      · exact .inr ⟨rnd_closed h0, Nat.le_trans (closedT_len ys) (by omega), fun x hx => hly x (closedT_mem hx)⟩
    have good : ∀ y ∈ ([.ref t, .ref p8, .ref r6, .ref p9, .ref p10, .ref p11] ++ [.ref p12, .ref p13] : List V), ∃ u os, y = .ref u ∧ SqT K HB u (os.map V.int) ∧ (os = [] ∨ (Rnd os ∧ os.length ≤ 40 ∧ Lt (row2.length : Int) os)) := fun y hy => by
      have hy' : y ∈ ([.ref t, .ref p8, .ref r6, .ref p9, .ref p10, .ref p11, .ref p12, .ref p13] : List V) := hy
      simp only [List.mem_cons, List.not_mem_nil, or_false] at hy'
      rcases hy' with rfl | rfl | rfl | rfl | rfl | rfl | rfl | rfl
      · exact ⟨t, ns, rfl, w4, .inr ⟨rn, hn, hlt⟩⟩
      · exact ⟨p8, abt ns, rfl, w8, .inr ⟨ra, la40, hla⟩⟩
      · exact ⟨r6, ns.take s0, rfl, wr, .inr ⟨rr, by omega, hlr⟩⟩
      · exact ⟨p9, abt (ns.take s0), rfl, w9, .inr ⟨rra, lra, hlra⟩⟩
      · exact ⟨p10, Wd.pow (ns.take s0) mo, rfl, w10, .inr ⟨rp, lpp, hlp⟩⟩
      · exact ⟨p11, ms, rfl, w11, .inr ⟨rm, hm, hltm⟩⟩
      · exact ⟨p12, closedT ns.reverse, rfl, w12, cl40 _ (by rw [List.length_reverse]; exact Nat.le_refl _) (fun y hy => hlt y (List.mem_reverse.mp hy))⟩
      · exact ⟨p13, closedT (ns.dropLast ++ ns.take 1), rfl, w13, cl40 _ lds2 hds⟩
    generalize ([.ref t, .ref p8, .ref r6, .ref p9, .ref p10, .ref p11] ++ [.ref p12, .ref p13] : List V) = ys at f8 good
    clear w8 wr w9 w10 w11 w12 w13 cl40 lds lds2 bds hds brv rp lpp hlp rra lra hlra brr rm hm hltm m4 m6 m8 mr hL hL2
    refine for_list (K := K) (a := l8) (xs := ys) (fun i σ H' => ∃ v10 v11, σ = [some (.ref a), some (.ref D.d), some (.int (0 + i0')), some (.ref x), some (.ref t), some (.int (m : Int)), some (.ref q6), some (.ref p7), some (.ref p8), some (.ref l6), v10, v11] ∧ Same HB H') ⟨_, _, rfl, fun _ _ z => z⟩ (fun _ _ H' _ z => SqL.of (z.choose_spec.choose_spec.2 _ _ f8)) ?_ ?_
    · rintro i y σ H' hy ⟨v10, v11, rfl, sm⟩
      obtain ⟨u, os, rfl, hu0, hos⟩ := good y (List.mem_of_getElem? hy)
      have hu := same_seqT sm hu0
      have l' := lB.same sm
      have wt := same_seqT sm w4
      refine ⟨_, rfl, u, _, rfl, .inr hu, _, _, rfl, rfl, _, rfl, ?_⟩
      rw [List.length_map]
      refine ite2 (fun c1 => ?_) (fun c1 => ?_)
      · have c1' : 0 < os.length := by
          have : (0 : Int) < (os.length : Int) := by simpa using c1
          omega
        obtain ⟨ro, lo, hlo⟩ : Rnd os ∧ os.length ≤ 40 ∧ Lt (row2.length : Int) os := by
          rcases hos with rfl | h
          · exact absurd c1' (by simp)
          · exact h
        refine ⟨_, _, rfl, rfl, _, rfl, ?_⟩
        rw [decide_eq_true (show (os.length : Int) < 41 by omega)]
        refine iteT ?_
        refine ⟨_, rfl, _, rfl, t, u, ns, os, rfl, wt, hu, rn, by omega, ro, by omega, (fun z hz => by have := hlo z hz; omega), fun sa sb H1 ira irb s1 => ?_⟩
        have rA := rnd_root rn ira
        have rB := rnd_root ro irb
        generalize hb : (decide (ns.take sa = os.take sb) || decide (ns.take sa = abt (os.take sb))) = b
        have l1 := l'.same s1
        refine ⟨_, rfl, _, rfl, _, rfl, _, _, _, rfl, .inr ⟨x, row2, rfl, l1.sk, rl, .inr ⟨t, ns, rfl, same_seqT s1 wt, hn, hlt, rn, .inr ⟨u, os, rfl, same_seqT s1 hu, lo, hlo, ro, fun s1a s1b H2 ir1 ir2 s2 => ?_⟩⟩⟩⟩
        have v1 : (decide (ns.take s1a = os.take s1b) || decide (abt (ns.take s1a) = os.take s1b)) = b := by
          rw [← hb, root_uniq ir1 ira, root_uniq ir2 irb]
          congr 1
          exact decide_eq_decide.mpr ⟨fun h => by rw [← h, abt_abt rA], fun h => by rw [h, abt_abt rB]⟩
        rw [v1]
        have l2 := l1.same s2
        refine ⟨_, rfl, _, rfl, _, rfl, _, _, _, rfl, .inr ⟨x, row2, rfl, l2.sk, rl, .inr ⟨u, os, rfl, same_seqT (s1.trans s2) hu, lo, hlo, ro, .inr ⟨t, ns, rfl, same_seqT (s1.trans s2) wt, hn, hlt, rn, fun s3a s3b H3 ir3 ir4 s3 => ?_⟩⟩⟩⟩
        have v2 : (decide (os.take s3a = ns.take s3b) || decide (abt (os.take s3a) = ns.take s3b)) = b := by
          rw [← hb, root_uniq ir3 irb, root_uniq ir4 ira]
          congr 1 <;> exact decide_eq_decide.mpr ⟨Eq.symm, Eq.symm⟩
        rw [v2]
        refine ⟨sz2, fun la hla => ?_⟩
        have sn : Same H3 (upd H3 la (.lst [.bl b, .bl b])) := same_new hla
        refine nil_i (show2b (K := K) (SqL.of upd_same) ?_)
        generalize upd H3 la (.lst [.bl b, .bl b]) = H4 at sn
        refine ⟨_, rfl, _, rfl, sz2, fun lb hlb => nil_i (show2b (K := K) (SqL.of upd_same) ⟨rfl, _, rfl, iteNS rfl ?_⟩)⟩
        exact ⟨_, _, rfl, ((((sm.trans s1).trans s2).trans s3).trans sn).trans (same_new hlb)⟩
      · exact ⟨_, rfl, iteF ⟨_, _, rfl, sm⟩⟩
    · rintro σ H' ⟨v10, v11, rfl, sm⟩
      have l' := lB.same sm
      refine ⟨_, rfl, _, rfl, _, rfl, D, x, row2, t, ns, rfl, l'.sk, rl.1, rl.2, same_seqT sm w4, rn, hn, hlt, l'.dr, l'.tb, fun H3 d3 _ tb3 => ⟨_, rfl, iteF ?_⟩⟩
      exact ⟨_, _, _, _, _, _, _, _, _, _, rfl, d3, tb3⟩
  · rintro σ H2 ⟨v2, v3, v4, v5, v6, v7, v8, v9, v10, v11, rfl, d2, tb2⟩
    exact k H2
end
end Tt
set_option maxRecDepth 100000
set_option maxHeartbeats 4000000
namespace Tt
open PySem PySem.Spec PyProof.Rows L2
open LamX (TabB)
def firstH (a : Addr) (ts : List (Addr × Addr)) (u : Option HO) : Hp := fun b => if b = a then u else if b ∈ ts.map (·.2) then some (.tbl #[]) else none
theorem firstH_a {a : Addr} {ts : List (Addr × Addr)} {u : Option HO} : firstH a ts u a = u := if_pos rfl
theorem firstH_t {a t : Addr} {ts : List (Addr × Addr)} {u : Option HO} (n : t ≠ a) (h : t ∈ ts.map (·.2)) : firstH a ts u t = some (.tbl #[]) := (if_neg n).trans (if_pos h)
theorem firstH_o {a b : Addr} {ts : List (Addr × Addr)} {u : Option HO} (n : b ≠ a) (m : b ∉ ts.map (·.2)) : firstH a ts u b = none := (if_neg n).trans (if_neg m)
theorem law_run {P : Program} {w : World} {K : PySem.W.Frag} {mg mb : Str → Option Value} {fa a : Addr} {ts : List (Addr × Addr)} {s₁ : Shared} {vs : List Value} {ns : List Int}
    (KX : K.In s₁.heap) (hg : s₁.heap.Ns mainGlobals mg) (hb : s₁.heap.Ns builtinsNs mb) (hbb : ∀ x : Str, x ≠ "__name__" → mb x = bootBuiltins x) (lim : s₁.heap.NoLimit) (gens : s₁.gens = #[])
    (hts : ∀ p ∈ ts, s₁.heap.get? p.2 = some { cls := .none, data := .fields #[] } ∧ K.lookup p.2 = none ∧ PySem.W.CodeHd s₁.heap p.1 p.2)
    (bmain : ∃ (bm : Addr) (ob : Obj), mg "__builtins__" = some (.ref bm) ∧ bm ≠ builtinsNs ∧ s₁.heap.get? bm = some ob ∧ ob.cls = .type "module" ∧ ob.dict = some builtinsNs ∧ ob.data = .plain)
    (ha : s₁.heap.get? a = some { cls := .type "list", data := .seq vs.toArray }) (hi : IntsAre vs ns) (hl : ns.length ≤ sizeLine)
    (run : ∀ (base : Heap) (H : Hp), (∀ p ∈ ts, TabB base mg p.1 p.2) → Env0 P w K mg base callerA [] s₁ H → (∀ p ∈ ts, H p.2 = some (.tbl #[])) → SqL K H a (ns.map V.int) → codeAny (model P w) callerA (.call (.ref fa) ⟨[.ref a], []⟩) (CR CX0 [] P w H s₁ (fun v _ => v = .bl true) E0) s₁) :
    codeAny (model P w) callerA (.call (.ref fa) ⟨[.ref a], []⟩) (fun r s' => r = .ok (.ret (.bool true)) ∧ OldK s₁.heap s'.heap ∧ s'.os = s₁.os ∧ AllBare s'.gens) s₁ := by
  have rv := vals_ints hi
  have mem : ∀ {t : Addr}, t ∈ ts.map (·.2) → ∃ c, (c, t) ∈ ts := fun {t} h => by
    obtain ⟨⟨c, t'⟩, h1, rfl⟩ := List.mem_map.mp h
    exact ⟨c, h1⟩
  have nta : ∀ t ∈ ts.map (·.2), t ≠ a := fun t ht z => by
    obtain ⟨c, hc⟩ := mem ht
    have h1 := (hts _ hc).1
    rw [z, ha] at h1
    have z' : Data.seq vs.toArray _ = Data.fields #[] := congrArg Obj.data (Option.some.inj h1)
    cases z'
  obtain ⟨u, hu, hS, hK⟩ : ∃ u : Option HO, (u = none ∨ u = some (.frz { cls := .type "list", data := .seq vs.toArray } (.lst (ns.map V.int)))) ∧ SqL K (firstH a ts u) a (ns.map V.int) ∧ (u ≠ none → K.lookup a = none) := by
    cases hk : K.lookup a with
    | none => exact ⟨_, .inr rfl, .inl (.inr ⟨_, firstH_a⟩), fun _ => rfl⟩
    | some o =>
      have e := KX a o hk
      rw [ha] at e
      cases e
      exact ⟨none, .inl rfl, .inr ⟨_, vs.toArray, _, hk, rfl, rfl, rfl, by rw [List.size_toArray, hi.length]; exact hl, by simpa using rv⟩, fun z => absurd rfl z⟩
  have hT : ∀ t ∈ ts.map (·.2), firstH a ts u t = some (.tbl #[]) := fun t ht => firstH_t (nta t ht) ht
  have look : ∀ b x, firstH a ts u b = some x → (b = a ∧ u = some x) ∨ (b ∈ ts.map (·.2) ∧ x = .tbl #[]) := fun b x e => by
    by_cases h1 : b = a
    · subst h1
      exact .inl ⟨rfl, firstH_a.symm.trans e⟩
    · by_cases h2 : b ∈ ts.map (·.2)
      · rw [hT b h2] at e
        exact .inr ⟨h2, (Option.some.inj e).symm⟩
      · rw [firstH_o h1 h2] at e
        cases e
  generalize hH : firstH a ts u = H at hS hT look
  have free : ∀ {b : Addr} {o : Obj}, s₁.heap.get? b = some o → (∀ vs n, o.data ≠ .seq vs n) → o.data ≠ .fields #[] → H b = none := fun {b o} e h1 h2 => by
    cases q : H b with
    | none => rfl
    | some x =>
      rcases look b x q with ⟨rfl, _⟩ | ⟨hb, _⟩
      · rw [ha] at e
        cases e
        exact (h1 _ _ rfl).elim
      · obtain ⟨c, hc⟩ := mem hb
        rw [(hts _ hc).1] at e
        cases e
        exact (h2 rfl).elim
  have dict : ∀ {b : Addr} {m : Str → Option Value}, s₁.heap.Ns b m → (hidT s₁.heap H).Ns b m := fun {b m} ⟨o, es, ep, e, d, r⟩ =>
    ⟨o, es, ep, hidT_get e (free e (fun _ _ z => by rw [d] at z; cases z) (fun z => by rw [d] at z; cases z)), d, r⟩
  have kin : K.In (hidT s₁.heap H) := fun b o e => hidT_get (KX b o e) (by
    cases q : H b with
    | none => rfl
    | some x =>
      rcases look b x q with ⟨rfl, hx⟩ | ⟨hb, _⟩
      · rw [hK (by rw [hx]; simp)] at e
        cases e
      · obtain ⟨c, hc⟩ := mem hb
        rw [(hts _ hc).2.1] at e
        cases e)
  have mod : L2.Mod K mg (hidT s₁.heap H) := ⟨kin, dict hg, ⟨mb, dict hb, hbb⟩, let ⟨mc, h1, h2⟩ := lim; ⟨mc, dict h1, h2⟩⟩
  have TB : ∀ p ∈ ts, TabB (hidT s₁.heap H) mg p.1 p.2 := fun p hp => by
    obtain ⟨ht, nt, C⟩ := hts p hp
    refine ⟨?_, ?_, fun z => ?_⟩
    · obtain ⟨o, us, file, tf, flags, tg, inF, text, tt, e1, r1, r2, r3, rest⟩ := C
      refine ⟨o, us, file, tf, flags, tg, inF, text, tt, hidT_get e1 (free e1 (fun _ _ z => by rw [r2] at z; cases z) fun z => ?_), r1, r2, r3, rest⟩
      rw [r2] at z
      cases z
      simp at r3
    · obtain ⟨bm, ob, b1, b2, b3, b4, b5, b6⟩ := bmain
      refine ⟨bm, ob, b1, b2, fun q => ?_, fun q => ?_, hidT_get b3 (free b3 (fun _ _ z => by rw [b6] at z; cases z) (fun z => by rw [b6] at z; cases z)), b4, b5, b6⟩
      · obtain ⟨o, es, ep, e, hd, _⟩ := hg
        rw [q, e] at b3
        cases b3
        rw [hd] at b6
        cases b6
      · rw [q, ht] at b3
        cases b3
        cases b6
    · obtain ⟨o, es, ep, e, hd, _⟩ := hg
      rw [z, ht] at e
      cases e
      cases hd
  have hok : HOk P w H s₁.heap := fun b x e => by
    rcases look b x e with ⟨rfl, hx⟩ | ⟨hb, rfl⟩
    · rcases hu with rfl | rfl
      · cases hx
      · cases hx
        exact ⟨ha, by rw [List.length_map]; exact hl, vs, _, rv, ha⟩
    · obtain ⟨c, hc⟩ := mem hb
      exact (hts _ hc).1
  have e0 : Env0 P w K mg (hidT s₁.heap H) callerA [] s₁ H := ⟨rfl, mod, fun b o e => of_hidT e, Nat.le_of_eq (hidT_size _ _), trivial, fun b hb => absurd (show b ∈ ([] : List Addr) from hb) (by simp), hok, .of_eq gens⟩
  refine codeAny_mono (run _ H TB e0 (fun p hp => hT _ (List.mem_map_of_mem hp)) hS) fun r s' h => ?_
  match r, h with
  | .error e, h => exact (show False from h).elim
  | .ok .next, h => exact (show False from h).elim
  | .ok .brk, h => exact (show False from h).elim
  | .ok .cont, h => exact (show False from h).elim
  | .ok (.ret v'), h =>
    obtain ⟨v, H', os, bare, un, hok', rr, rfl⟩ := h
    obtain rfl : v' = Value.bool true := rr
    have ends : ∀ t ∈ ts.map (·.2), ∃ more : Array Value, s'.heap.get? t = some { cls := .none, data := .fields more } := fun t ht => by
      obtain ⟨more, e3⟩ := un.tbls t #[] (hT t ht)
      have e4 : s'.heap.get? t = some { cls := .none, data := .fields (#[] ++ more) } := hok' t _ e3
      rw [Array.empty_append] at e4
      exact ⟨more, e4⟩
    have stay : ∀ b o, b ∉ ts.map (·.2) → s₁.heap.get? b = some o → s'.heap.get? b = some o := fun b o nb e => by
      cases q : H b with
      | none => exact un.keep b o e q (fun z => absurd (show b ∈ ([] : List Addr) from z) (by simp)) (by simp)
      | some x =>
        rcases look b x q with ⟨rfl, hx⟩ | ⟨hb, _⟩
        · rcases hu with rfl | rfl
          · cases hx
          · cases hx
            obtain ⟨e1, _⟩ := hok b _ q
            obtain ⟨e2, _⟩ := hok' b _ (un.frzs b _ _ q)
            rw [e] at e1
            cases e1
            exact e2
        · exact absurd hb nb
    refine ⟨rfl, ⟨fun b o e => ?_, fun b o e => ?_⟩, os, bare⟩
    · by_cases nb : b ∈ ts.map (·.2)
      · obtain ⟨c, hc⟩ := mem nb
        obtain ⟨ht, nt, C⟩ := hts _ hc
        obtain ⟨more, e4⟩ := ends b nb
        have ht' : s₁.heap.get? b = some { cls := .none, data := .fields #[] } := ht
        rw [ht'] at e
        cases e
        exact .inr (.inl ⟨(C.tab ht).isCodeTable, rfl, #[], more, rfl, by rw [Array.empty_append]; exact e4⟩)
      · exact .inl (stay b o nb e)
    · by_cases nb : b ∈ ts.map (·.2)
      · obtain ⟨more, e4⟩ := ends b nb
        exact ⟨_, e4⟩
      · exact ⟨o, stay b o nb e⟩
end Tt
set_option maxRecDepth 100000
set_option maxHeartbeats 4000000
namespace Tt
open PySem PySem.Spec PyProof.Rows L2
open LamX (TabB)
theorem all_mk {K : PySem.W.Frag} {h : Heap} {mg : Str → Option Value} {fa jc jP : Addr} (X : K.In h) (G : h.Ns mainGlobals mg) (hfa : mg "law" = some (.ref fa))
    {C_RoundError : Addr}
    {C_BadNumber : Addr}
    {od_BadNumber an_BadNumber : Option Addr} {sl_BadNumber : Array (Option Value)} {oc_BadNumber kV_BadNumber dc_BadNumber pm_BadNumber cd_BadNumber ct_BadNumber : Value} {f_BadNumber : Addr}
    {nm_BadNumber qn_BadNumber : Str} {N_BadNumber : Addr} {bs_BadNumber bm_BadNumber : List Value} {sn_BadNumber : List Str} {sb_BadNumber : List Value} {ab_BadNumber : Bool} {co_BadNumber : Option Bool} {dd_BadNumber : Option Addr} {m0_BadNumber m1_BadNumber m2_BadNumber m3_BadNumber m5_BadNumber : Option Value}
    {C_BadRound : Addr}
    {C_BadSkin : Addr}
    {od_BadSkin an_BadSkin : Option Addr} {sl_BadSkin : Array (Option Value)} {oc_BadSkin kV_BadSkin dc_BadSkin pm_BadSkin cd_BadSkin ct_BadSkin : Value} {f_BadSkin : Addr}
    {nm_BadSkin qn_BadSkin : Str} {N_BadSkin : Addr} {bs_BadSkin bm_BadSkin : List Value} {sn_BadSkin : List Str} {sb_BadSkin : List Value} {ab_BadSkin : Bool} {co_BadSkin : Option Bool} {dd_BadSkin : Option Addr} {m0_BadSkin m1_BadSkin m2_BadSkin m3_BadSkin m5_BadSkin : Option Value}
    {od_is_number an_is_number : Option Addr} {sl_is_number : Array (Option Value)} {oc_is_number kV_is_number dc_is_number pm_is_number cd_is_number ct_is_number : Value} {f_is_number : Addr}
    {od_is_within an_is_within : Option Addr} {sl_is_within : Array (Option Value)} {oc_is_within kV_is_within dc_is_within pm_is_within cd_is_within ct_is_within : Value} {f_is_within : Addr}
    {od_is_tuple an_is_tuple : Option Addr} {sl_is_tuple : Array (Option Value)} {oc_is_tuple kV_is_tuple dc_is_tuple pm_is_tuple cd_is_tuple ct_is_tuple : Value} {f_is_tuple : Addr}
    {od_is_list an_is_list : Option Addr} {sl_is_list : Array (Option Value)} {oc_is_list kV_is_list dc_is_list pm_is_list cd_is_list ct_is_list : Value} {f_is_list : Addr}
    {od_is_row an_is_row : Option Addr} {sl_is_row : Array (Option Value)} {oc_is_row kV_is_row dc_is_row pm_is_row cd_is_row ct_is_row : Value} {f_is_row : Addr}
    {C_Skin : Addr}
    {od_Skin an_Skin : Option Addr} {sl_Skin : Array (Option Value)} {oc_Skin kV_Skin dc_Skin pm_Skin cd_Skin ct_Skin : Value} {f_Skin : Addr}
    {od_check_skin an_check_skin : Option Addr} {sl_check_skin : Array (Option Value)} {oc_check_skin kV_check_skin dc_check_skin pm_check_skin cd_check_skin ct_check_skin : Value} {f_check_skin : Addr}
    {od_is_end an_is_end : Option Addr} {sl_is_end : Array (Option Value)} {oc_is_end kV_is_end dc_is_end pm_is_end cd_is_end ct_is_end : Value} {f_is_end : Addr}
    {od_least_turn an_least_turn : Option Addr} {sl_least_turn : Array (Option Value)} {oc_least_turn kV_least_turn dc_least_turn pm_least_turn cd_least_turn ct_least_turn : Value} {f_least_turn : Addr}
    {od_is_any_word an_is_any_word : Option Addr} {sl_is_any_word : Array (Option Value)} {oc_is_any_word kV_is_any_word dc_is_any_word pm_is_any_word cd_is_any_word ct_is_any_word : Value} {f_is_any_word : Addr}
    {od_has_letters an_has_letters : Option Addr} {sl_has_letters : Array (Option Value)} {oc_has_letters kV_has_letters dc_has_letters pm_has_letters cd_has_letters ct_has_letters : Value} {f_has_letters : Addr}
    {od_cut_free an_cut_free : Option Addr} {sl_cut_free : Array (Option Value)} {oc_cut_free kV_cut_free dc_cut_free pm_cut_free cd_cut_free ct_cut_free : Value} {f_cut_free : Addr}
    {od_gone_back an_gone_back : Option Addr} {sl_gone_back : Array (Option Value)} {oc_gone_back kV_gone_back dc_gone_back pm_gone_back cd_gone_back ct_gone_back : Value} {f_gone_back : Addr}
    {od_closed_letters an_closed_letters : Option Addr} {sl_closed_letters : Array (Option Value)} {oc_closed_letters kV_closed_letters dc_closed_letters pm_closed_letters cd_closed_letters ct_closed_letters : Value} {f_closed_letters : Addr}
    {od_closed_up an_closed_up : Option Addr} {sl_closed_up : Array (Option Value)} {oc_closed_up kV_closed_up dc_closed_up pm_closed_up cd_closed_up ct_closed_up : Value} {f_closed_up : Addr}
    {od_is_fit_round an_is_fit_round : Option Addr} {sl_is_fit_round : Array (Option Value)} {oc_is_fit_round kV_is_fit_round dc_is_fit_round pm_is_fit_round cd_is_fit_round ct_is_fit_round : Value} {f_is_fit_round : Addr}
    {od_check_round an_check_round : Option Addr} {sl_check_round : Array (Option Value)} {oc_check_round kV_check_round dc_check_round pm_check_round cd_check_round ct_check_round : Value} {f_check_round : Addr}
    {od_gone_round_back an_gone_round_back : Option Addr} {sl_gone_round_back : Array (Option Value)} {oc_gone_round_back kV_gone_round_back dc_gone_round_back pm_gone_round_back cd_gone_round_back ct_gone_round_back : Value} {f_gone_round_back : Addr}
    {od_turned_about an_turned_about : Option Addr} {sl_turned_about : Array (Option Value)} {oc_turned_about kV_turned_about dc_turned_about pm_turned_about cd_turned_about ct_turned_about : Value} {f_turned_about : Addr}
    {od_gone an_gone : Option Addr} {sl_gone : Array (Option Value)} {oc_gone kV_gone dc_gone pm_gone cd_gone ct_gone : Value} {f_gone : Addr}
    {od_rooted an_rooted : Option Addr} {sl_rooted : Array (Option Value)} {oc_rooted kV_rooted dc_rooted pm_rooted cd_rooted ct_rooted : Value} {f_rooted : Addr}
    {od_root_of an_root_of : Option Addr} {sl_root_of : Array (Option Value)} {oc_root_of kV_root_of dc_root_of pm_root_of cd_root_of ct_root_of : Value} {f_root_of : Addr}
    {od_go_along an_go_along : Option Addr} {sl_go_along : Array (Option Value)} {oc_go_along kV_go_along dc_go_along pm_go_along cd_go_along ct_go_along : Value} {f_go_along : Addr}
    {od_along an_along : Option Addr} {sl_along : Array (Option Value)} {oc_along kV_along dc_along pm_along cd_along ct_along : Value} {f_along : Addr}
    {od_l_begun an_l_begun : Option Addr} {sl_l_begun : Array (Option Value)} {oc_l_begun kV_l_begun dc_l_begun pm_l_begun cd_l_begun ct_l_begun : Value} {f_l_begun : Addr}
    {od_l_mixed an_l_mixed : Option Addr} {sl_l_mixed : Array (Option Value)} {oc_l_mixed kV_l_mixed dc_l_mixed pm_l_mixed cd_l_mixed ct_l_mixed : Value} {f_l_mixed : Addr}
    {od_l_take an_l_take : Option Addr} {sl_l_take : Array (Option Value)} {oc_l_take kV_l_take dc_l_take pm_l_take cd_l_take ct_l_take : Value} {f_l_take : Addr}
    {od_l_pick an_l_pick : Option Addr} {sl_l_pick : Array (Option Value)} {oc_l_pick kV_l_pick dc_l_pick pm_l_pick cd_l_pick ct_l_pick : Value} {f_l_pick : Addr}
    {od_l_shuffled an_l_shuffled : Option Addr} {sl_l_shuffled : Array (Option Value)} {oc_l_shuffled kV_l_shuffled dc_l_shuffled pm_l_shuffled cd_l_shuffled ct_l_shuffled : Value} {f_l_shuffled : Addr}
    {od_l_caught an_l_caught : Option Addr} {sl_l_caught : Array (Option Value)} {oc_l_caught kV_l_caught dc_l_caught pm_l_caught cd_l_caught ct_l_caught : Value} {f_l_caught : Addr}
    {od_l_number_error an_l_number_error : Option Addr} {sl_l_number_error : Array (Option Value)} {oc_l_number_error kV_l_number_error dc_l_number_error pm_l_number_error cd_l_number_error ct_l_number_error : Value} {f_l_number_error : Addr}
    {od_l_skin_error an_l_skin_error : Option Addr} {sl_l_skin_error : Array (Option Value)} {oc_l_skin_error kV_l_skin_error dc_l_skin_error pm_l_skin_error cd_l_skin_error ct_l_skin_error : Value} {f_l_skin_error : Addr}
    {od_l_mate an_l_mate : Option Addr} {sl_l_mate : Array (Option Value)} {oc_l_mate kV_l_mate dc_l_mate pm_l_mate cd_l_mate ct_l_mate : Value} {f_l_mate : Addr}
    {od_l_row an_l_row : Option Addr} {sl_l_row : Array (Option Value)} {oc_l_row kV_l_row dc_l_row pm_l_row cd_l_row ct_l_row : Value} {f_l_row : Addr}
    {od_l_least_turn an_l_least_turn : Option Addr} {sl_l_least_turn : Array (Option Value)} {oc_l_least_turn kV_l_least_turn dc_l_least_turn pm_l_least_turn cd_l_least_turn ct_l_least_turn : Value} {f_l_least_turn : Addr}
    {od_l_freed an_l_freed : Option Addr} {sl_l_freed : Array (Option Value)} {oc_l_freed kV_l_freed dc_l_freed pm_l_freed cd_l_freed ct_l_freed : Value} {f_l_freed : Addr}
    {od_l_undone an_l_undone : Option Addr} {sl_l_undone : Array (Option Value)} {oc_l_undone kV_l_undone dc_l_undone pm_l_undone cd_l_undone ct_l_undone : Value} {f_l_undone : Addr}
    {od_l_rounded an_l_rounded : Option Addr} {sl_l_rounded : Array (Option Value)} {oc_l_rounded kV_l_rounded dc_l_rounded pm_l_rounded cd_l_rounded ct_l_rounded : Value} {f_l_rounded : Addr}
    {od_l_core an_l_core : Option Addr} {sl_l_core : Array (Option Value)} {oc_l_core kV_l_core dc_l_core pm_l_core cd_l_core ct_l_core : Value} {f_l_core : Addr}
    {od_l_root an_l_root : Option Addr} {sl_l_root : Array (Option Value)} {oc_l_root kV_l_root dc_l_root pm_l_root cd_l_root ct_l_root : Value} {f_l_root : Addr}
    {od_l_loop an_l_loop : Option Addr} {sl_l_loop : Array (Option Value)} {oc_l_loop kV_l_loop dc_l_loop pm_l_loop cd_l_loop ct_l_loop : Value} {f_l_loop : Addr}
    {od_l_is_along an_l_is_along : Option Addr} {sl_l_is_along : Array (Option Value)} {oc_l_is_along kV_l_is_along dc_l_is_along pm_l_is_along cd_l_is_along ct_l_is_along : Value} {f_l_is_along : Addr}
    {od_l_no_loop an_l_no_loop : Option Addr} {sl_l_no_loop : Array (Option Value)} {oc_l_no_loop kV_l_no_loop dc_l_no_loop pm_l_no_loop cd_l_no_loop ct_l_no_loop : Value} {f_l_no_loop : Addr}
    {od_l_refused an_l_refused : Option Addr} {sl_l_refused : Array (Option Value)} {oc_l_refused kV_l_refused dc_l_refused pm_l_refused ct_l_refused : Value} {f_l_refused : Addr}
    {od_law an_law : Option Addr} {sl_law : Array (Option Value)} {oc_law kV_law dc_law pm_law cd_law ct_law : Value} {f_law : Addr}
    {tkMOST_IN_ROUND : Tok}
    (hn0 : PySem.W.specialIn K (.builtin "object.__class__") "__get__" = some (some (.builtin "getset_descriptor.__get__")))
    (ht0 : PySem.W.takesIn K (.builtin "object.__class__") = some true)
    (a_RoundError : PySem.W.nsIn K mainGlobals "RoundError" = some (some (.ref C_RoundError)))
    (k_RoundError : PySem.W.keepIn K (.ref C_RoundError) = true)
    (q_RoundError : PySem.W.excIn K C_RoundError [.type "ValueError", .type "Exception", .type "BaseException", .type "object"] "ValueError.__new__" = true)
    (ty_RoundError : PySem.W.typeIn K (.ref C_RoundError) = some (.type "type"))
    (ga_RoundError : PySem.W.findIn K (.ref C_RoundError) "__getattribute__" = some (some (.builtin "BaseException.__getattribute__")))
    (gg_RoundError : PySem.W.findIn K (.ref C_RoundError) "__getattr__" = some none)
    (ex_RoundError : PySem.W.subIn K (.ref C_RoundError) (.type "BaseException") = some true)
    (hd_RoundError : PySem.W.hasDictIn K C_RoundError = true)
    (ca_RoundError : PySem.W.findIn K (.ref C_RoundError) "__class__" = some (some (.builtin "object.__class__")))
    (mo_RoundError : PySem.W.mroIn K C_RoundError (.type "object") = some true)
    (a_BadNumber : PySem.W.nsIn K mainGlobals "BadNumber" = some (some (.ref C_BadNumber)))
    (x_BadNumber : K.lookup C_BadNumber = some (excClassObj nm_BadNumber qn_BadNumber C_BadNumber N_BadNumber bs_BadNumber bm_BadNumber true sn_BadNumber sb_BadNumber ab_BadNumber co_BadNumber dd_BadNumber m0_BadNumber m1_BadNumber m2_BadNumber m3_BadNumber m5_BadNumber "ValueError.__new__"))
    (rv_BadNumber : PySem.HandSPX.refsVE bm_BadNumber = true)
    (sa_BadNumber : PySem.W.findIn K (.ref C_BadNumber) "__setattr__" = some (some (.builtin "object.__setattr__")))
    (ty_BadNumber : PySem.W.typeIn K (.ref C_BadNumber) = some (.type "type"))
    (kc_BadNumber : PySem.W.keepIn K (.ref C_BadNumber) = true)
    (i_BadNumber : PySem.W.findIn K (.ref C_BadNumber) "__init__" = some (some (.ref f_BadNumber)))
    (t_BadNumber : PySem.W.typeIn K (.ref f_BadNumber) = some (.type "function"))
    (l_BadNumber : K.lookup f_BadNumber = some ⟨oc_BadNumber, od_BadNumber, .func (PySem.W.fnOf "__init__" "BadNumber.__init__" (defArgs s_BadNumber_init) (defBody s_BadNumber_init) (defScope s_BadNumber_init) .none kV_BadNumber dc_BadNumber pm_BadNumber an_BadNumber cd_BadNumber ct_BadNumber), sl_BadNumber⟩)
    (c_BadNumber : PySem.W.codeIn K cd_BadNumber "BadNumber.__init__" = true)
    (k_BadNumber : PySem.W.keepIn K (.ref f_BadNumber) = true)
    (nf_BadNumber : PySem.W.findIn K (.ref C_BadNumber) "part" = some none)
    (ga_BadNumber : PySem.W.findIn K (.ref C_BadNumber) "__getattribute__" = some (some (.builtin "BaseException.__getattribute__")))
    (gg_BadNumber : PySem.W.findIn K (.ref C_BadNumber) "__getattr__" = some none)
    (ex_BadNumber : PySem.W.subIn K (.ref C_BadNumber) (.type "BaseException") = some true)
    (hd_BadNumber : PySem.W.hasDictIn K C_BadNumber = true)
    (ca_BadNumber : PySem.W.findIn K (.ref C_BadNumber) "__class__" = some (some (.builtin "object.__class__")))
    (mo_BadNumber : PySem.W.mroIn K C_BadNumber (.type "object") = some true)
    (a_BadRound : PySem.W.nsIn K mainGlobals "BadRound" = some (some (.ref C_BadRound)))
    (k_BadRound : PySem.W.keepIn K (.ref C_BadRound) = true)
    (q_BadRound : PySem.W.excIn K C_BadRound [.type "ValueError", .type "Exception", .type "BaseException", .type "object"] "ValueError.__new__" = true)
    (ty_BadRound : PySem.W.typeIn K (.ref C_BadRound) = some (.type "type"))
    (ga_BadRound : PySem.W.findIn K (.ref C_BadRound) "__getattribute__" = some (some (.builtin "BaseException.__getattribute__")))
    (gg_BadRound : PySem.W.findIn K (.ref C_BadRound) "__getattr__" = some none)
    (ex_BadRound : PySem.W.subIn K (.ref C_BadRound) (.type "BaseException") = some true)
    (hd_BadRound : PySem.W.hasDictIn K C_BadRound = true)
    (ca_BadRound : PySem.W.findIn K (.ref C_BadRound) "__class__" = some (some (.builtin "object.__class__")))
    (mo_BadRound : PySem.W.mroIn K C_BadRound (.type "object") = some true)
    (a_BadSkin : PySem.W.nsIn K mainGlobals "BadSkin" = some (some (.ref C_BadSkin)))
    (x_BadSkin : K.lookup C_BadSkin = some (excClassObj nm_BadSkin qn_BadSkin C_BadSkin N_BadSkin bs_BadSkin bm_BadSkin true sn_BadSkin sb_BadSkin ab_BadSkin co_BadSkin dd_BadSkin m0_BadSkin m1_BadSkin m2_BadSkin m3_BadSkin m5_BadSkin "ValueError.__new__"))
    (rv_BadSkin : PySem.HandSPX.refsVE bm_BadSkin = true)
    (sa_BadSkin : PySem.W.findIn K (.ref C_BadSkin) "__setattr__" = some (some (.builtin "object.__setattr__")))
    (ty_BadSkin : PySem.W.typeIn K (.ref C_BadSkin) = some (.type "type"))
    (kc_BadSkin : PySem.W.keepIn K (.ref C_BadSkin) = true)
    (i_BadSkin : PySem.W.findIn K (.ref C_BadSkin) "__init__" = some (some (.ref f_BadSkin)))
    (t_BadSkin : PySem.W.typeIn K (.ref f_BadSkin) = some (.type "function"))
    (l_BadSkin : K.lookup f_BadSkin = some ⟨oc_BadSkin, od_BadSkin, .func (PySem.W.fnOf "__init__" "BadSkin.__init__" (defArgs s_BadSkin_init) (defBody s_BadSkin_init) (defScope s_BadSkin_init) .none kV_BadSkin dc_BadSkin pm_BadSkin an_BadSkin cd_BadSkin ct_BadSkin), sl_BadSkin⟩)
    (c_BadSkin : PySem.W.codeIn K cd_BadSkin "BadSkin.__init__" = true)
    (k_BadSkin : PySem.W.keepIn K (.ref f_BadSkin) = true)
    (nf_BadSkin : PySem.W.findIn K (.ref C_BadSkin) "part" = some none)
    (ga_BadSkin : PySem.W.findIn K (.ref C_BadSkin) "__getattribute__" = some (some (.builtin "BaseException.__getattribute__")))
    (gg_BadSkin : PySem.W.findIn K (.ref C_BadSkin) "__getattr__" = some none)
    (ex_BadSkin : PySem.W.subIn K (.ref C_BadSkin) (.type "BaseException") = some true)
    (hd_BadSkin : PySem.W.hasDictIn K C_BadSkin = true)
    (ca_BadSkin : PySem.W.findIn K (.ref C_BadSkin) "__class__" = some (some (.builtin "object.__class__")))
    (mo_BadSkin : PySem.W.mroIn K C_BadSkin (.type "object") = some true)
    (a_is_number : PySem.W.nsIn K mainGlobals "is_number" = some (some (.ref f_is_number)))
    (l_is_number : K.lookup f_is_number = some ⟨oc_is_number, od_is_number, .func (PySem.W.fnOf "is_number" "is_number" (defArgs s_is_number) (defBody s_is_number) (defScope s_is_number) .none kV_is_number dc_is_number pm_is_number an_is_number cd_is_number ct_is_number), sl_is_number⟩)
    (c_is_number : PySem.W.codeIn K cd_is_number "is_number" = true)
    (k_is_number : PySem.W.keepIn K (.ref f_is_number) = true)
    (a_is_within : PySem.W.nsIn K mainGlobals "is_within" = some (some (.ref f_is_within)))
    (l_is_within : K.lookup f_is_within = some ⟨oc_is_within, od_is_within, .func (PySem.W.fnOf "is_within" "is_within" (defArgs s_is_within) (defBody s_is_within) (defScope s_is_within) .none kV_is_within dc_is_within pm_is_within an_is_within cd_is_within ct_is_within), sl_is_within⟩)
    (c_is_within : PySem.W.codeIn K cd_is_within "is_within" = true)
    (k_is_within : PySem.W.keepIn K (.ref f_is_within) = true)
    (a_is_tuple : PySem.W.nsIn K mainGlobals "is_tuple" = some (some (.ref f_is_tuple)))
    (l_is_tuple : K.lookup f_is_tuple = some ⟨oc_is_tuple, od_is_tuple, .func (PySem.W.fnOf "is_tuple" "is_tuple" (defArgs s_is_tuple) (defBody s_is_tuple) (defScope s_is_tuple) .none kV_is_tuple dc_is_tuple pm_is_tuple an_is_tuple cd_is_tuple ct_is_tuple), sl_is_tuple⟩)
    (c_is_tuple : PySem.W.codeIn K cd_is_tuple "is_tuple" = true)
    (k_is_tuple : PySem.W.keepIn K (.ref f_is_tuple) = true)
    (a_is_list : PySem.W.nsIn K mainGlobals "is_list" = some (some (.ref f_is_list)))
    (l_is_list : K.lookup f_is_list = some ⟨oc_is_list, od_is_list, .func (PySem.W.fnOf "is_list" "is_list" (defArgs s_is_list) (defBody s_is_list) (defScope s_is_list) .none kV_is_list dc_is_list pm_is_list an_is_list cd_is_list ct_is_list), sl_is_list⟩)
    (c_is_list : PySem.W.codeIn K cd_is_list "is_list" = true)
    (k_is_list : PySem.W.keepIn K (.ref f_is_list) = true)
    (a_is_row : PySem.W.nsIn K mainGlobals "is_row" = some (some (.ref f_is_row)))
    (l_is_row : K.lookup f_is_row = some ⟨oc_is_row, od_is_row, .func (PySem.W.fnOf "is_row" "is_row" (defArgs s_is_row) (defBody s_is_row) (defScope s_is_row) .none kV_is_row dc_is_row pm_is_row an_is_row cd_is_row ct_is_row), sl_is_row⟩)
    (c_is_row : PySem.W.codeIn K cd_is_row "is_row" = true)
    (k_is_row : PySem.W.keepIn K (.ref f_is_row) = true)
    (a_Skin : PySem.W.nsIn K mainGlobals "Skin" = some (some (.ref C_Skin)))
    (i_Skin : PySem.W.findIn K (.ref C_Skin) "__init__" = some (some (.ref f_Skin)))
    (fn_Skin : PySem.W.isFn K (.ref f_Skin) = true)
    (l_Skin : K.lookup f_Skin = some ⟨oc_Skin, od_Skin, .func (PySem.W.fnOf "__init__" "Skin.__init__" (defArgs s_Skin_init) (defBody s_Skin_init) (defScope s_Skin_init) .none kV_Skin dc_Skin pm_Skin an_Skin cd_Skin ct_Skin), sl_Skin⟩)
    (c_Skin : PySem.W.codeIn K cd_Skin "Skin.__init__" = true)
    (k_Skin : PySem.W.keepIn K (.ref f_Skin) = true)
    (pg_Skin : PySem.W.plainGet K C_Skin Str.empty = true)
    (hd_Skin : PySem.W.hasDictIn K C_Skin = true)
    (po_Skin : PySem.W.plainOver K C_Skin = true)
    (sa_Skin : PySem.W.findIn K (.ref C_Skin) "__setattr__" = some (some (.builtin "object.__setattr__")))
    (mk_Skin : PySem.W.makesIn K C_Skin = true)
    (kc_Skin : PySem.W.keepIn K (.ref C_Skin) = true)
    (ca_Skin : PySem.W.findIn K (.ref C_Skin) "__class__" = some (some (.builtin "object.__class__")))
    (mo_Skin : PySem.W.mroIn K C_Skin (.type "object") = some true)
    (n_Skin_row : PySem.W.findIn K (.ref C_Skin) "row" = some none)
    (n_Skin_bands : PySem.W.findIn K (.ref C_Skin) "bands" = some none)
    (n_Skin_places : PySem.W.findIn K (.ref C_Skin) "places" = some none)
    (a_check_skin : PySem.W.nsIn K mainGlobals "check_skin" = some (some (.ref f_check_skin)))
    (l_check_skin : K.lookup f_check_skin = some ⟨oc_check_skin, od_check_skin, .func (PySem.W.fnOf "check_skin" "check_skin" (defArgs s_check_skin) (defBody s_check_skin) (defScope s_check_skin) .none kV_check_skin dc_check_skin pm_check_skin an_check_skin cd_check_skin ct_check_skin), sl_check_skin⟩)
    (c_check_skin : PySem.W.codeIn K cd_check_skin "check_skin" = true)
    (k_check_skin : PySem.W.keepIn K (.ref f_check_skin) = true)
    (a_is_end : PySem.W.nsIn K mainGlobals "is_end" = some (some (.ref f_is_end)))
    (l_is_end : K.lookup f_is_end = some ⟨oc_is_end, od_is_end, .func (PySem.W.fnOf "is_end" "is_end" (defArgs s_is_end) (defBody s_is_end) (defScope s_is_end) .none kV_is_end dc_is_end pm_is_end an_is_end cd_is_end ct_is_end), sl_is_end⟩)
    (c_is_end : PySem.W.codeIn K cd_is_end "is_end" = true)
    (k_is_end : PySem.W.keepIn K (.ref f_is_end) = true)
    (a_least_turn : PySem.W.nsIn K mainGlobals "least_turn" = some (some (.ref f_least_turn)))
    (l_least_turn : K.lookup f_least_turn = some ⟨oc_least_turn, od_least_turn, .func (PySem.W.fnOf "least_turn" "least_turn" (defArgs s_least_turn) (defBody s_least_turn) (defScope s_least_turn) .none kV_least_turn dc_least_turn pm_least_turn an_least_turn cd_least_turn ct_least_turn), sl_least_turn⟩)
    (c_least_turn : PySem.W.codeIn K cd_least_turn "least_turn" = true)
    (k_least_turn : PySem.W.keepIn K (.ref f_least_turn) = true)
    (a_is_any_word : PySem.W.nsIn K mainGlobals "is_any_word" = some (some (.ref f_is_any_word)))
    (l_is_any_word : K.lookup f_is_any_word = some ⟨oc_is_any_word, od_is_any_word, .func (PySem.W.fnOf "is_any_word" "is_any_word" (defArgs s_is_any_word) (defBody s_is_any_word) (defScope s_is_any_word) .none kV_is_any_word dc_is_any_word pm_is_any_word an_is_any_word cd_is_any_word ct_is_any_word), sl_is_any_word⟩)
    (c_is_any_word : PySem.W.codeIn K cd_is_any_word "is_any_word" = true)
    (k_is_any_word : PySem.W.keepIn K (.ref f_is_any_word) = true)
    (a_has_letters : PySem.W.nsIn K mainGlobals "has_letters" = some (some (.ref f_has_letters)))
    (l_has_letters : K.lookup f_has_letters = some ⟨oc_has_letters, od_has_letters, .func (PySem.W.fnOf "has_letters" "has_letters" (defArgs s_has_letters) (defBody s_has_letters) (defScope s_has_letters) .none kV_has_letters dc_has_letters pm_has_letters an_has_letters cd_has_letters ct_has_letters), sl_has_letters⟩)
    (c_has_letters : PySem.W.codeIn K cd_has_letters "has_letters" = true)
    (k_has_letters : PySem.W.keepIn K (.ref f_has_letters) = true)
    (a_cut_free : PySem.W.nsIn K mainGlobals "cut_free" = some (some (.ref f_cut_free)))
    (l_cut_free : K.lookup f_cut_free = some ⟨oc_cut_free, od_cut_free, .func (PySem.W.fnOf "cut_free" "cut_free" (defArgs s_cut_free) (defBody s_cut_free) (defScope s_cut_free) .none kV_cut_free dc_cut_free pm_cut_free an_cut_free cd_cut_free ct_cut_free), sl_cut_free⟩)
    (c_cut_free : PySem.W.codeIn K cd_cut_free "cut_free" = true)
    (k_cut_free : PySem.W.keepIn K (.ref f_cut_free) = true)
    (a_gone_back : PySem.W.nsIn K mainGlobals "gone_back" = some (some (.ref f_gone_back)))
    (l_gone_back : K.lookup f_gone_back = some ⟨oc_gone_back, od_gone_back, .func (PySem.W.fnOf "gone_back" "gone_back" (defArgs s_gone_back) (defBody s_gone_back) (defScope s_gone_back) .none kV_gone_back dc_gone_back pm_gone_back an_gone_back cd_gone_back ct_gone_back), sl_gone_back⟩)
    (c_gone_back : PySem.W.codeIn K cd_gone_back "gone_back" = true)
    (k_gone_back : PySem.W.keepIn K (.ref f_gone_back) = true)
    (a_closed_letters : PySem.W.nsIn K mainGlobals "closed_letters" = some (some (.ref f_closed_letters)))
    (l_closed_letters : K.lookup f_closed_letters = some ⟨oc_closed_letters, od_closed_letters, .func (PySem.W.fnOf "closed_letters" "closed_letters" (defArgs s_closed_letters) (defBody s_closed_letters) (defScope s_closed_letters) .none kV_closed_letters dc_closed_letters pm_closed_letters an_closed_letters cd_closed_letters ct_closed_letters), sl_closed_letters⟩)
    (c_closed_letters : PySem.W.codeIn K cd_closed_letters "closed_letters" = true)
    (k_closed_letters : PySem.W.keepIn K (.ref f_closed_letters) = true)
    (a_closed_up : PySem.W.nsIn K mainGlobals "closed_up" = some (some (.ref f_closed_up)))
    (l_closed_up : K.lookup f_closed_up = some ⟨oc_closed_up, od_closed_up, .func (PySem.W.fnOf "closed_up" "closed_up" (defArgs s_closed_up) (defBody s_closed_up) (defScope s_closed_up) .none kV_closed_up dc_closed_up pm_closed_up an_closed_up cd_closed_up ct_closed_up), sl_closed_up⟩)
    (c_closed_up : PySem.W.codeIn K cd_closed_up "closed_up" = true)
    (k_closed_up : PySem.W.keepIn K (.ref f_closed_up) = true)
    (a_is_fit_round : PySem.W.nsIn K mainGlobals "is_fit_round" = some (some (.ref f_is_fit_round)))
    (l_is_fit_round : K.lookup f_is_fit_round = some ⟨oc_is_fit_round, od_is_fit_round, .func (PySem.W.fnOf "is_fit_round" "is_fit_round" (defArgs s_is_fit_round) (defBody s_is_fit_round) (defScope s_is_fit_round) .none kV_is_fit_round dc_is_fit_round pm_is_fit_round an_is_fit_round cd_is_fit_round ct_is_fit_round), sl_is_fit_round⟩)
    (c_is_fit_round : PySem.W.codeIn K cd_is_fit_round "is_fit_round" = true)
    (k_is_fit_round : PySem.W.keepIn K (.ref f_is_fit_round) = true)
    (a_check_round : PySem.W.nsIn K mainGlobals "check_round" = some (some (.ref f_check_round)))
    (l_check_round : K.lookup f_check_round = some ⟨oc_check_round, od_check_round, .func (PySem.W.fnOf "check_round" "check_round" (defArgs s_check_round) (defBody s_check_round) (defScope s_check_round) .none kV_check_round dc_check_round pm_check_round an_check_round cd_check_round ct_check_round), sl_check_round⟩)
    (c_check_round : PySem.W.codeIn K cd_check_round "check_round" = true)
    (k_check_round : PySem.W.keepIn K (.ref f_check_round) = true)
    (a_gone_round_back : PySem.W.nsIn K mainGlobals "gone_round_back" = some (some (.ref f_gone_round_back)))
    (l_gone_round_back : K.lookup f_gone_round_back = some ⟨oc_gone_round_back, od_gone_round_back, .func (PySem.W.fnOf "gone_round_back" "gone_round_back" (defArgs s_gone_round_back) (defBody s_gone_round_back) (defScope s_gone_round_back) .none kV_gone_round_back dc_gone_round_back pm_gone_round_back an_gone_round_back cd_gone_round_back ct_gone_round_back), sl_gone_round_back⟩)
    (c_gone_round_back : PySem.W.codeIn K cd_gone_round_back "gone_round_back" = true)
    (k_gone_round_back : PySem.W.keepIn K (.ref f_gone_round_back) = true)
    (a_turned_about : PySem.W.nsIn K mainGlobals "turned_about" = some (some (.ref f_turned_about)))
    (l_turned_about : K.lookup f_turned_about = some ⟨oc_turned_about, od_turned_about, .func (PySem.W.fnOf "turned_about" "turned_about" (defArgs s_turned_about) (defBody s_turned_about) (defScope s_turned_about) .none kV_turned_about dc_turned_about pm_turned_about an_turned_about cd_turned_about ct_turned_about), sl_turned_about⟩)
    (c_turned_about : PySem.W.codeIn K cd_turned_about "turned_about" = true)
    (k_turned_about : PySem.W.keepIn K (.ref f_turned_about) = true)
    (a_gone : PySem.W.nsIn K mainGlobals "gone" = some (some (.ref f_gone)))
    (l_gone : K.lookup f_gone = some ⟨oc_gone, od_gone, .func (PySem.W.fnOf "gone" "gone" (defArgs s_gone) (defBody s_gone) (defScope s_gone) .none kV_gone dc_gone pm_gone an_gone cd_gone ct_gone), sl_gone⟩)
    (c_gone : PySem.W.codeIn K cd_gone "gone" = true)
    (k_gone : PySem.W.keepIn K (.ref f_gone) = true)
    (a_rooted : PySem.W.nsIn K mainGlobals "rooted" = some (some (.ref f_rooted)))
    (l_rooted : K.lookup f_rooted = some ⟨oc_rooted, od_rooted, .func (PySem.W.fnOf "rooted" "rooted" (defArgs s_rooted) (defBody s_rooted) (defScope s_rooted) .none kV_rooted dc_rooted pm_rooted an_rooted cd_rooted ct_rooted), sl_rooted⟩)
    (c_rooted : PySem.W.codeIn K cd_rooted "rooted" = true)
    (k_rooted : PySem.W.keepIn K (.ref f_rooted) = true)
    (a_root_of : PySem.W.nsIn K mainGlobals "root_of" = some (some (.ref f_root_of)))
    (l_root_of : K.lookup f_root_of = some ⟨oc_root_of, od_root_of, .func (PySem.W.fnOf "root_of" "root_of" (defArgs s_root_of) (defBody s_root_of) (defScope s_root_of) .none kV_root_of dc_root_of pm_root_of an_root_of cd_root_of ct_root_of), sl_root_of⟩)
    (c_root_of : PySem.W.codeIn K cd_root_of "root_of" = true)
    (k_root_of : PySem.W.keepIn K (.ref f_root_of) = true)
    (a_go_along : PySem.W.nsIn K mainGlobals "go_along" = some (some (.ref f_go_along)))
    (l_go_along : K.lookup f_go_along = some ⟨oc_go_along, od_go_along, .func (PySem.W.fnOf "go_along" "go_along" (defArgs s_go_along) (defBody s_go_along) (defScope s_go_along) .none kV_go_along dc_go_along pm_go_along an_go_along cd_go_along ct_go_along), sl_go_along⟩)
    (c_go_along : PySem.W.codeIn K cd_go_along "go_along" = true)
    (k_go_along : PySem.W.keepIn K (.ref f_go_along) = true)
    (a_along : PySem.W.nsIn K mainGlobals "along" = some (some (.ref f_along)))
    (l_along : K.lookup f_along = some ⟨oc_along, od_along, .func (PySem.W.fnOf "along" "along" (defArgs s_along) (defBody s_along) (defScope s_along) .none kV_along dc_along pm_along an_along cd_along ct_along), sl_along⟩)
    (c_along : PySem.W.codeIn K cd_along "along" = true)
    (k_along : PySem.W.keepIn K (.ref f_along) = true)
    (a_l_begun : PySem.W.nsIn K mainGlobals "_law_begun" = some (some (.ref f_l_begun)))
    (l_l_begun : K.lookup f_l_begun = some ⟨oc_l_begun, od_l_begun, .func (PySem.W.fnOf "_law_begun" "_law_begun" (defArgs s_l_begun) (defBody s_l_begun) (defScope s_l_begun) .none kV_l_begun dc_l_begun pm_l_begun an_l_begun cd_l_begun ct_l_begun), sl_l_begun⟩)
    (c_l_begun : PySem.W.codeIn K cd_l_begun "_law_begun" = true)
    (k_l_begun : PySem.W.keepIn K (.ref f_l_begun) = true)
    (a_l_mixed : PySem.W.nsIn K mainGlobals "_law_mixed" = some (some (.ref f_l_mixed)))
    (l_l_mixed : K.lookup f_l_mixed = some ⟨oc_l_mixed, od_l_mixed, .func (PySem.W.fnOf "_law_mixed" "_law_mixed" (defArgs s_l_mixed) (defBody s_l_mixed) (defScope s_l_mixed) .none kV_l_mixed dc_l_mixed pm_l_mixed an_l_mixed cd_l_mixed ct_l_mixed), sl_l_mixed⟩)
    (c_l_mixed : PySem.W.codeIn K cd_l_mixed "_law_mixed" = true)
    (k_l_mixed : PySem.W.keepIn K (.ref f_l_mixed) = true)
    (a_l_take : PySem.W.nsIn K mainGlobals "_law_take" = some (some (.ref f_l_take)))
    (l_l_take : K.lookup f_l_take = some ⟨oc_l_take, od_l_take, .func (PySem.W.fnOf "_law_take" "_law_take" (defArgs s_l_take) (defBody s_l_take) (defScope s_l_take) .none kV_l_take dc_l_take pm_l_take an_l_take cd_l_take ct_l_take), sl_l_take⟩)
    (c_l_take : PySem.W.codeIn K cd_l_take "_law_take" = true)
    (k_l_take : PySem.W.keepIn K (.ref f_l_take) = true)
    (a_l_pick : PySem.W.nsIn K mainGlobals "_law_pick" = some (some (.ref f_l_pick)))
    (l_l_pick : K.lookup f_l_pick = some ⟨oc_l_pick, od_l_pick, .func (PySem.W.fnOf "_law_pick" "_law_pick" (defArgs s_l_pick) (defBody s_l_pick) (defScope s_l_pick) .none kV_l_pick dc_l_pick pm_l_pick an_l_pick cd_l_pick ct_l_pick), sl_l_pick⟩)
    (c_l_pick : PySem.W.codeIn K cd_l_pick "_law_pick" = true)
    (k_l_pick : PySem.W.keepIn K (.ref f_l_pick) = true)
    (a_l_shuffled : PySem.W.nsIn K mainGlobals "_law_shuffled" = some (some (.ref f_l_shuffled)))
    (l_l_shuffled : K.lookup f_l_shuffled = some ⟨oc_l_shuffled, od_l_shuffled, .func (PySem.W.fnOf "_law_shuffled" "_law_shuffled" (defArgs s_l_shuffled) (defBody s_l_shuffled) (defScope s_l_shuffled) .none kV_l_shuffled dc_l_shuffled pm_l_shuffled an_l_shuffled cd_l_shuffled ct_l_shuffled), sl_l_shuffled⟩)
    (c_l_shuffled : PySem.W.codeIn K cd_l_shuffled "_law_shuffled" = true)
    (k_l_shuffled : PySem.W.keepIn K (.ref f_l_shuffled) = true)
    (a_l_caught : PySem.W.nsIn K mainGlobals "_law_caught" = some (some (.ref f_l_caught)))
    (l_l_caught : K.lookup f_l_caught = some ⟨oc_l_caught, od_l_caught, .func (PySem.W.fnOf "_law_caught" "_law_caught" (defArgs s_l_caught) (defBody s_l_caught) (defScope s_l_caught) .none kV_l_caught dc_l_caught pm_l_caught an_l_caught cd_l_caught ct_l_caught), sl_l_caught⟩)
    (c_l_caught : PySem.W.codeIn K cd_l_caught "_law_caught" = true)
    (k_l_caught : PySem.W.keepIn K (.ref f_l_caught) = true)
    (a_l_number_error : PySem.W.nsIn K mainGlobals "_law_number_error" = some (some (.ref f_l_number_error)))
    (l_l_number_error : K.lookup f_l_number_error = some ⟨oc_l_number_error, od_l_number_error, .func (PySem.W.fnOf "_law_number_error" "_law_number_error" (defArgs s_l_number_error) (defBody s_l_number_error) (defScope s_l_number_error) .none kV_l_number_error dc_l_number_error pm_l_number_error an_l_number_error cd_l_number_error ct_l_number_error), sl_l_number_error⟩)
    (c_l_number_error : PySem.W.codeIn K cd_l_number_error "_law_number_error" = true)
    (k_l_number_error : PySem.W.keepIn K (.ref f_l_number_error) = true)
    (a_l_skin_error : PySem.W.nsIn K mainGlobals "_law_skin_error" = some (some (.ref f_l_skin_error)))
    (l_l_skin_error : K.lookup f_l_skin_error = some ⟨oc_l_skin_error, od_l_skin_error, .func (PySem.W.fnOf "_law_skin_error" "_law_skin_error" (defArgs s_l_skin_error) (defBody s_l_skin_error) (defScope s_l_skin_error) .none kV_l_skin_error dc_l_skin_error pm_l_skin_error an_l_skin_error cd_l_skin_error ct_l_skin_error), sl_l_skin_error⟩)
    (c_l_skin_error : PySem.W.codeIn K cd_l_skin_error "_law_skin_error" = true)
    (k_l_skin_error : PySem.W.keepIn K (.ref f_l_skin_error) = true)
    (a_l_mate : PySem.W.nsIn K mainGlobals "_law_mate" = some (some (.ref f_l_mate)))
    (l_l_mate : K.lookup f_l_mate = some ⟨oc_l_mate, od_l_mate, .func (PySem.W.fnOf "_law_mate" "_law_mate" (defArgs s_l_mate) (defBody s_l_mate) (defScope s_l_mate) .none kV_l_mate dc_l_mate pm_l_mate an_l_mate cd_l_mate ct_l_mate), sl_l_mate⟩)
    (c_l_mate : PySem.W.codeIn K cd_l_mate "_law_mate" = true)
    (k_l_mate : PySem.W.keepIn K (.ref f_l_mate) = true)
    (a_l_row : PySem.W.nsIn K mainGlobals "_law_row" = some (some (.ref f_l_row)))
    (l_l_row : K.lookup f_l_row = some ⟨oc_l_row, od_l_row, .func (PySem.W.fnOf "_law_row" "_law_row" (defArgs s_l_row) (defBody s_l_row) (defScope s_l_row) .none kV_l_row dc_l_row pm_l_row an_l_row cd_l_row ct_l_row), sl_l_row⟩)
    (c_l_row : PySem.W.codeIn K cd_l_row "_law_row" = true)
    (k_l_row : PySem.W.keepIn K (.ref f_l_row) = true)
    (a_l_least_turn : PySem.W.nsIn K mainGlobals "_law_least_turn" = some (some (.ref f_l_least_turn)))
    (l_l_least_turn : K.lookup f_l_least_turn = some ⟨oc_l_least_turn, od_l_least_turn, .func (PySem.W.fnOf "_law_least_turn" "_law_least_turn" (defArgs s_l_least_turn) (defBody s_l_least_turn) (defScope s_l_least_turn) .none kV_l_least_turn dc_l_least_turn pm_l_least_turn an_l_least_turn cd_l_least_turn ct_l_least_turn), sl_l_least_turn⟩)
    (c_l_least_turn : PySem.W.codeIn K cd_l_least_turn "_law_least_turn" = true)
    (k_l_least_turn : PySem.W.keepIn K (.ref f_l_least_turn) = true)
    (a_l_freed : PySem.W.nsIn K mainGlobals "_law_freed" = some (some (.ref f_l_freed)))
    (l_l_freed : K.lookup f_l_freed = some ⟨oc_l_freed, od_l_freed, .func (PySem.W.fnOf "_law_freed" "_law_freed" (defArgs s_l_freed) (defBody s_l_freed) (defScope s_l_freed) .none kV_l_freed dc_l_freed pm_l_freed an_l_freed cd_l_freed ct_l_freed), sl_l_freed⟩)
    (c_l_freed : PySem.W.codeIn K cd_l_freed "_law_freed" = true)
    (k_l_freed : PySem.W.keepIn K (.ref f_l_freed) = true)
    (a_l_undone : PySem.W.nsIn K mainGlobals "_law_undone" = some (some (.ref f_l_undone)))
    (l_l_undone : K.lookup f_l_undone = some ⟨oc_l_undone, od_l_undone, .func (PySem.W.fnOf "_law_undone" "_law_undone" (defArgs s_l_undone) (defBody s_l_undone) (defScope s_l_undone) .none kV_l_undone dc_l_undone pm_l_undone an_l_undone cd_l_undone ct_l_undone), sl_l_undone⟩)
    (c_l_undone : PySem.W.codeIn K cd_l_undone "_law_undone" = true)
    (k_l_undone : PySem.W.keepIn K (.ref f_l_undone) = true)
    (a_l_rounded : PySem.W.nsIn K mainGlobals "_law_rounded" = some (some (.ref f_l_rounded)))
    (l_l_rounded : K.lookup f_l_rounded = some ⟨oc_l_rounded, od_l_rounded, .func (PySem.W.fnOf "_law_rounded" "_law_rounded" (defArgs s_l_rounded) (defBody s_l_rounded) (defScope s_l_rounded) .none kV_l_rounded dc_l_rounded pm_l_rounded an_l_rounded cd_l_rounded ct_l_rounded), sl_l_rounded⟩)
    (c_l_rounded : PySem.W.codeIn K cd_l_rounded "_law_rounded" = true)
    (k_l_rounded : PySem.W.keepIn K (.ref f_l_rounded) = true)
    (a_l_core : PySem.W.nsIn K mainGlobals "_law_core" = some (some (.ref f_l_core)))
    (l_l_core : K.lookup f_l_core = some ⟨oc_l_core, od_l_core, .func (PySem.W.fnOf "_law_core" "_law_core" (defArgs s_l_core) (defBody s_l_core) (defScope s_l_core) .none kV_l_core dc_l_core pm_l_core an_l_core cd_l_core ct_l_core), sl_l_core⟩)
    (c_l_core : PySem.W.codeIn K cd_l_core "_law_core" = true)
    (k_l_core : PySem.W.keepIn K (.ref f_l_core) = true)
    (a_l_root : PySem.W.nsIn K mainGlobals "_law_root" = some (some (.ref f_l_root)))
    (l_l_root : K.lookup f_l_root = some ⟨oc_l_root, od_l_root, .func (PySem.W.fnOf "_law_root" "_law_root" (defArgs s_l_root) (defBody s_l_root) (defScope s_l_root) .none kV_l_root dc_l_root pm_l_root an_l_root cd_l_root ct_l_root), sl_l_root⟩)
    (c_l_root : PySem.W.codeIn K cd_l_root "_law_root" = true)
    (k_l_root : PySem.W.keepIn K (.ref f_l_root) = true)
    (a_l_loop : PySem.W.nsIn K mainGlobals "_law_loop" = some (some (.ref f_l_loop)))
    (l_l_loop : K.lookup f_l_loop = some ⟨oc_l_loop, od_l_loop, .func (PySem.W.fnOf "_law_loop" "_law_loop" (defArgs s_l_loop) (defBody s_l_loop) (defScope s_l_loop) .none kV_l_loop dc_l_loop pm_l_loop an_l_loop cd_l_loop ct_l_loop), sl_l_loop⟩)
    (c_l_loop : PySem.W.codeIn K cd_l_loop "_law_loop" = true)
    (k_l_loop : PySem.W.keepIn K (.ref f_l_loop) = true)
    (a_l_is_along : PySem.W.nsIn K mainGlobals "_law_is_along" = some (some (.ref f_l_is_along)))
    (l_l_is_along : K.lookup f_l_is_along = some ⟨oc_l_is_along, od_l_is_along, .func (PySem.W.fnOf "_law_is_along" "_law_is_along" (defArgs s_l_is_along) (defBody s_l_is_along) (defScope s_l_is_along) .none kV_l_is_along dc_l_is_along pm_l_is_along an_l_is_along cd_l_is_along ct_l_is_along), sl_l_is_along⟩)
    (c_l_is_along : PySem.W.codeIn K cd_l_is_along "_law_is_along" = true)
    (k_l_is_along : PySem.W.keepIn K (.ref f_l_is_along) = true)
    (a_l_no_loop : PySem.W.nsIn K mainGlobals "_law_no_loop" = some (some (.ref f_l_no_loop)))
    (l_l_no_loop : K.lookup f_l_no_loop = some ⟨oc_l_no_loop, od_l_no_loop, .func (PySem.W.fnOf "_law_no_loop" "_law_no_loop" (defArgs s_l_no_loop) (defBody s_l_no_loop) (defScope s_l_no_loop) .none kV_l_no_loop dc_l_no_loop pm_l_no_loop an_l_no_loop cd_l_no_loop ct_l_no_loop), sl_l_no_loop⟩)
    (c_l_no_loop : PySem.W.codeIn K cd_l_no_loop "_law_no_loop" = true)
    (k_l_no_loop : PySem.W.keepIn K (.ref f_l_no_loop) = true)
    (a_l_refused : PySem.W.nsIn K mainGlobals "_law_refused" = some (some (.ref f_l_refused)))
    (l_l_refused : K.lookup f_l_refused = some ⟨oc_l_refused, od_l_refused, .func (PySem.W.fnOf "_law_refused" "_law_refused" (defArgs s_l_refused) (defBody s_l_refused) (defScope s_l_refused) .none kV_l_refused dc_l_refused pm_l_refused an_l_refused (.ref jc) ct_l_refused), sl_l_refused⟩)
    (c_l_refused : PySem.W.codeIn K (.ref jc) "_law_refused" = true)
    (k_l_refused : PySem.W.keepIn K (.ref f_l_refused) = true)
    (a_law : PySem.W.nsIn K mainGlobals "law" = some (some (.ref f_law)))
    (l_law : K.lookup f_law = some ⟨oc_law, od_law, .func (PySem.W.fnOf "law" "law" (defArgs s_law) (defBody s_law) (defScope s_law) .none kV_law dc_law pm_law an_law cd_law ct_law), sl_law⟩)
    (c_law : PySem.W.codeIn K cd_law "law" = true)
    (k_law : PySem.W.keepIn K (.ref f_law) = true)
    (zabs : PySem.W.nsIn K mainGlobals "abs" = some none)
    (zall : PySem.W.nsIn K mainGlobals "all" = some none)
    (zint : PySem.W.nsIn K mainGlobals "int" = some none)
    (zisinstance : PySem.W.nsIn K mainGlobals "isinstance" = some none)
    (zlen : PySem.W.nsIn K mainGlobals "len" = some none)
    (zlist : PySem.W.nsIn K mainGlobals "list" = some none)
    (zmin : PySem.W.nsIn K mainGlobals "min" = some none)
    (zrange : PySem.W.nsIn K mainGlobals "range" = some none)
    (zrepr : PySem.W.nsIn K mainGlobals "repr" = some none)
    (zsorted : PySem.W.nsIn K mainGlobals "sorted" = some none)
    (ztuple : PySem.W.nsIn K mainGlobals "tuple" = some none)
    (ztype : PySem.W.nsIn K mainGlobals "type" = some none)
    (c_MOST_IN_ROUND : PySem.W.nsIn K mainGlobals "MOST_IN_ROUND" = some (some (.int 40 tkMOST_IN_ROUND)))
    (kSS : PySem.W.kitOne K (.ref C_Skin) (.ref C_Skin) = some true)
    (kST : PySem.W.kitOne K (.type "tuple") (.ref C_Skin) = some false)
    (kSN : PySem.W.kitOne K (.type "NoneType") (.ref C_Skin) = some false)
    (kSkSk : PySem.W.kitOne K (.ref C_BadSkin) (.ref C_BadSkin) = some true)
    (sSR : PySem.W.subIn K (.ref C_BadSkin) (.ref C_RoundError) = some true)
    (kRR : PySem.W.kitOne K (.ref C_BadRound) (.ref C_BadRound) = some true)
    (sRR : PySem.W.subIn K (.ref C_BadRound) (.ref C_RoundError) = some true)
    (kNN : PySem.W.kitOne K (.ref C_BadNumber) (.ref C_BadNumber) = some true)
    (sNR : PySem.W.subIn K (.ref C_BadNumber) (.ref C_RoundError) = some true)
    (tgj : h.get? jP = some { cls := .none, data := .fields #[] }) (tcj : PySem.W.CodeHd h jc jP) (njj : K.lookup jP = none) :
    ∃ T : Txt K mg, fa = T.law.a ∧ (h.get? T.jP = some { cls := .none, data := .fields #[] } ∧ K.lookup T.jP = none ∧ PySem.W.CodeHd h T.jc T.jP) := by
  have no_Skin : ∀ f ∈ (["row", "bands", "places"] : List Str), NoAttr K C_Skin f := fun f hf => by
      simp only [List.mem_cons, List.not_mem_nil, or_false] at hf
      rcases hf with rfl | rfl | rfl
      · exact n_Skin_row
      · exact n_Skin_bands
      · exact n_Skin_places
  have e := hfa.symm.trans (PySem.W.mg_of X G a_law)
  cases e
  refine ⟨{
    RoundError := ⟨C_RoundError, PySem.W.mg_of X G a_RoundError, k_RoundError, q_RoundError, ty_RoundError, ⟨ga_RoundError, gg_RoundError, ex_RoundError, hd_RoundError, ca_RoundError, hn0, ht0, mo_RoundError⟩⟩,
    BadNumber := ⟨C_BadNumber, f_BadNumber, _, PySem.W.mg_of X G a_BadNumber, ⟨⟨_, _, _, _, _, _, _, _, _, _, _, _, _, _, _, x_BadNumber, rv_BadNumber⟩, sa_BadNumber, ex_BadNumber, ty_BadNumber, kc_BadNumber⟩, i_BadNumber, t_BadNumber, fun_mk (st := s_BadNumber_init) l_BadNumber c_BadNumber k_BadNumber, (fun_mk (st := s_BadNumber_init) l_BadNumber c_BadNumber k_BadNumber).binds (ps := ["self", "part"]) (fun _ _ _ _ _ _ us hl => match us, hl with | [_, _], _ => rfl), nf_BadNumber, ⟨ga_BadNumber, gg_BadNumber, ex_BadNumber, hd_BadNumber⟩, ⟨ga_BadNumber, gg_BadNumber, ex_BadNumber, hd_BadNumber, ca_BadNumber, hn0, ht0, mo_BadNumber⟩⟩,
    BadRound := ⟨C_BadRound, PySem.W.mg_of X G a_BadRound, k_BadRound, q_BadRound, ty_BadRound, ⟨ga_BadRound, gg_BadRound, ex_BadRound, hd_BadRound, ca_BadRound, hn0, ht0, mo_BadRound⟩⟩,
    BadSkin := ⟨C_BadSkin, f_BadSkin, _, PySem.W.mg_of X G a_BadSkin, ⟨⟨_, _, _, _, _, _, _, _, _, _, _, _, _, _, _, x_BadSkin, rv_BadSkin⟩, sa_BadSkin, ex_BadSkin, ty_BadSkin, kc_BadSkin⟩, i_BadSkin, t_BadSkin, fun_mk (st := s_BadSkin_init) l_BadSkin c_BadSkin k_BadSkin, (fun_mk (st := s_BadSkin_init) l_BadSkin c_BadSkin k_BadSkin).binds (ps := ["self", "part"]) (fun _ _ _ _ _ _ us hl => match us, hl with | [_, _], _ => rfl), nf_BadSkin, ⟨ga_BadSkin, gg_BadSkin, ex_BadSkin, hd_BadSkin⟩, ⟨ga_BadSkin, gg_BadSkin, ex_BadSkin, hd_BadSkin, ca_BadSkin, hn0, ht0, mo_BadSkin⟩⟩,
    is_number := ⟨f_is_number, _, fun_mk (st := s_is_number) l_is_number c_is_number k_is_number, PySem.W.mg_of X G a_is_number, (fun_mk (st := s_is_number) l_is_number c_is_number k_is_number).binds (ps := ["thing"]) (fun _ _ _ _ _ _ us hl => match us, hl with | [_], _ => rfl)⟩,
    is_within := ⟨f_is_within, _, fun_mk (st := s_is_within) l_is_within c_is_within k_is_within, PySem.W.mg_of X G a_is_within, (fun_mk (st := s_is_within) l_is_within c_is_within k_is_within).binds (ps := ["thing", "low", "high"]) (fun _ _ _ _ _ _ us hl => match us, hl with | [_, _, _], _ => rfl)⟩,
    is_tuple := ⟨f_is_tuple, _, fun_mk (st := s_is_tuple) l_is_tuple c_is_tuple k_is_tuple, PySem.W.mg_of X G a_is_tuple, (fun_mk (st := s_is_tuple) l_is_tuple c_is_tuple k_is_tuple).binds (ps := ["thing"]) (fun _ _ _ _ _ _ us hl => match us, hl with | [_], _ => rfl)⟩,
    is_list := ⟨f_is_list, _, fun_mk (st := s_is_list) l_is_list c_is_list k_is_list, PySem.W.mg_of X G a_is_list, (fun_mk (st := s_is_list) l_is_list c_is_list k_is_list).binds (ps := ["thing"]) (fun _ _ _ _ _ _ us hl => match us, hl with | [_], _ => rfl)⟩,
    is_row := ⟨f_is_row, _, fun_mk (st := s_is_row) l_is_row c_is_row k_is_row, PySem.W.mg_of X G a_is_row, (fun_mk (st := s_is_row) l_is_row c_is_row k_is_row).binds (ps := ["row"]) (fun _ _ _ _ _ _ us hl => match us, hl with | [_], _ => rfl)⟩,
    Skin := ⟨C_Skin, f_Skin, _, PySem.W.mg_of X G a_Skin, ⟨pg_Skin, hd_Skin, po_Skin, sa_Skin⟩, no_Skin, ⟨mk_Skin, i_Skin, fn_Skin, kc_Skin⟩, fun_mk (st := s_Skin_init) l_Skin c_Skin k_Skin, (fun_mk (st := s_Skin_init) l_Skin c_Skin k_Skin).binds (ps := ["self", "row"]) (fun _ _ _ _ _ _ us hl => match us, hl with | [_, _], _ => rfl), ca_Skin, hn0, ht0, mo_Skin⟩,
    check_skin := ⟨f_check_skin, _, fun_mk (st := s_check_skin) l_check_skin c_check_skin k_check_skin, PySem.W.mg_of X G a_check_skin, (fun_mk (st := s_check_skin) l_check_skin c_check_skin k_check_skin).binds (ps := ["skin"]) (fun _ _ _ _ _ _ us hl => match us, hl with | [_], _ => rfl)⟩,
    is_end := ⟨f_is_end, _, fun_mk (st := s_is_end) l_is_end c_is_end k_is_end, PySem.W.mg_of X G a_is_end, (fun_mk (st := s_is_end) l_is_end c_is_end k_is_end).binds (ps := ["skin", "thing"]) (fun _ _ _ _ _ _ us hl => match us, hl with | [_, _], _ => rfl)⟩,
    least_turn := ⟨f_least_turn, _, fun_mk (st := s_least_turn) l_least_turn c_least_turn k_least_turn, PySem.W.mg_of X G a_least_turn, (fun_mk (st := s_least_turn) l_least_turn c_least_turn k_least_turn).binds (ps := ["word"]) (fun _ _ _ _ _ _ us hl => match us, hl with | [_], _ => rfl)⟩,
    is_any_word := ⟨f_is_any_word, _, fun_mk (st := s_is_any_word) l_is_any_word c_is_any_word k_is_any_word, PySem.W.mg_of X G a_is_any_word, (fun_mk (st := s_is_any_word) l_is_any_word c_is_any_word k_is_any_word).binds (ps := ["skin", "thing"]) (fun _ _ _ _ _ _ us hl => match us, hl with | [_, _], _ => rfl)⟩,
    has_letters := ⟨f_has_letters, _, fun_mk (st := s_has_letters) l_has_letters c_has_letters k_has_letters, PySem.W.mg_of X G a_has_letters, (fun_mk (st := s_has_letters) l_has_letters c_has_letters k_has_letters).binds (ps := ["skin", "thing", "most"]) (fun _ _ _ _ _ _ us hl => match us, hl with | [_, _, _], _ => rfl)⟩,
    cut_free := ⟨f_cut_free, _, fun_mk (st := s_cut_free) l_cut_free c_cut_free k_cut_free, PySem.W.mg_of X G a_cut_free, (fun_mk (st := s_cut_free) l_cut_free c_cut_free k_cut_free).binds (ps := ["word"]) (fun _ _ _ _ _ _ us hl => match us, hl with | [_], _ => rfl)⟩,
    gone_back := ⟨f_gone_back, _, fun_mk (st := s_gone_back) l_gone_back c_gone_back k_gone_back, PySem.W.mg_of X G a_gone_back, (fun_mk (st := s_gone_back) l_gone_back c_gone_back k_gone_back).binds (ps := ["word"]) (fun _ _ _ _ _ _ us hl => match us, hl with | [_], _ => rfl)⟩,
    closed_letters := ⟨f_closed_letters, _, fun_mk (st := s_closed_letters) l_closed_letters c_closed_letters k_closed_letters, PySem.W.mg_of X G a_closed_letters, (fun_mk (st := s_closed_letters) l_closed_letters c_closed_letters k_closed_letters).binds (ps := ["word"]) (fun _ _ _ _ _ _ us hl => match us, hl with | [_], _ => rfl)⟩,
    closed_up := ⟨f_closed_up, _, fun_mk (st := s_closed_up) l_closed_up c_closed_up k_closed_up, PySem.W.mg_of X G a_closed_up, (fun_mk (st := s_closed_up) l_closed_up c_closed_up k_closed_up).binds (ps := ["word"]) (fun _ _ _ _ _ _ us hl => match us, hl with | [_], _ => rfl)⟩,
    is_fit_round := ⟨f_is_fit_round, _, fun_mk (st := s_is_fit_round) l_is_fit_round c_is_fit_round k_is_fit_round, PySem.W.mg_of X G a_is_fit_round, (fun_mk (st := s_is_fit_round) l_is_fit_round c_is_fit_round k_is_fit_round).binds (ps := ["skin", "thing"]) (fun _ _ _ _ _ _ us hl => match us, hl with | [_, _], _ => rfl)⟩,
    check_round := ⟨f_check_round, _, fun_mk (st := s_check_round) l_check_round c_check_round k_check_round, PySem.W.mg_of X G a_check_round, (fun_mk (st := s_check_round) l_check_round c_check_round k_check_round).binds (ps := ["skin", "loop"]) (fun _ _ _ _ _ _ us hl => match us, hl with | [_, _], _ => rfl)⟩,
    gone_round_back := ⟨f_gone_round_back, _, fun_mk (st := s_gone_round_back) l_gone_round_back c_gone_round_back k_gone_round_back, PySem.W.mg_of X G a_gone_round_back, (fun_mk (st := s_gone_round_back) l_gone_round_back c_gone_round_back k_gone_round_back).binds (ps := ["loop"]) (fun _ _ _ _ _ _ us hl => match us, hl with | [_], _ => rfl)⟩,
    turned_about := ⟨f_turned_about, _, fun_mk (st := s_turned_about) l_turned_about c_turned_about k_turned_about, PySem.W.mg_of X G a_turned_about, (fun_mk (st := s_turned_about) l_turned_about c_turned_about k_turned_about).binds (ps := ["skin", "loop"]) (fun _ _ _ _ _ _ us hl => match us, hl with | [_, _], _ => rfl)⟩,
    gone := ⟨f_gone, _, fun_mk (st := s_gone) l_gone c_gone k_gone, PySem.W.mg_of X G a_gone, (fun_mk (st := s_gone) l_gone c_gone k_gone).binds (ps := ["skin", "loop", "times"]) (fun _ _ _ _ _ _ us hl => match us, hl with | [_, _, _], _ => rfl)⟩,
    rooted := ⟨f_rooted, _, fun_mk (st := s_rooted) l_rooted c_rooted k_rooted, PySem.W.mg_of X G a_rooted, (fun_mk (st := s_rooted) l_rooted c_rooted k_rooted).binds (ps := ["loop"]) (fun _ _ _ _ _ _ us hl => match us, hl with | [_], _ => rfl)⟩,
    root_of := ⟨f_root_of, _, fun_mk (st := s_root_of) l_root_of c_root_of k_root_of, PySem.W.mg_of X G a_root_of, (fun_mk (st := s_root_of) l_root_of c_root_of k_root_of).binds (ps := ["skin", "loop"]) (fun _ _ _ _ _ _ us hl => match us, hl with | [_, _], _ => rfl)⟩,
    go_along := ⟨f_go_along, _, fun_mk (st := s_go_along) l_go_along c_go_along k_go_along, PySem.W.mg_of X G a_go_along, (fun_mk (st := s_go_along) l_go_along c_go_along k_go_along).binds (ps := ["one", "other"]) (fun _ _ _ _ _ _ us hl => match us, hl with | [_, _], _ => rfl)⟩,
    along := ⟨f_along, _, fun_mk (st := s_along) l_along c_along k_along, PySem.W.mg_of X G a_along, (fun_mk (st := s_along) l_along c_along k_along).binds (ps := ["skin", "one", "other"]) (fun _ _ _ _ _ _ us hl => match us, hl with | [_, _, _], _ => rfl)⟩,
    l_begun := ⟨f_l_begun, _, fun_mk (st := s_l_begun) l_l_begun c_l_begun k_l_begun, PySem.W.mg_of X G a_l_begun, (fun_mk (st := s_l_begun) l_l_begun c_l_begun k_l_begun).binds (ps := ["script"]) (fun _ _ _ _ _ _ us hl => match us, hl with | [_], _ => rfl)⟩,
    l_mixed := ⟨f_l_mixed, _, fun_mk (st := s_l_mixed) l_l_mixed c_l_mixed k_l_mixed, PySem.W.mg_of X G a_l_mixed, (fun_mk (st := s_l_mixed) l_l_mixed c_l_mixed k_l_mixed).binds (ps := ["draw"]) (fun _ _ _ _ _ _ us hl => match us, hl with | [_], _ => rfl)⟩,
    l_take := ⟨f_l_take, _, fun_mk (st := s_l_take) l_l_take c_l_take k_l_take, PySem.W.mg_of X G a_l_take, (fun_mk (st := s_l_take) l_l_take c_l_take k_l_take).binds (ps := ["draw", "amount"]) (fun _ _ _ _ _ _ us hl => match us, hl with | [_, _], _ => rfl)⟩,
    l_pick := ⟨f_l_pick, _, fun_mk (st := s_l_pick) l_l_pick c_l_pick k_l_pick, PySem.W.mg_of X G a_l_pick, (fun_mk (st := s_l_pick) l_l_pick c_l_pick k_l_pick).binds (ps := ["draw", "some"]) (fun _ _ _ _ _ _ us hl => match us, hl with | [_, _], _ => rfl)⟩,
    l_shuffled := ⟨f_l_shuffled, _, fun_mk (st := s_l_shuffled) l_l_shuffled c_l_shuffled k_l_shuffled, PySem.W.mg_of X G a_l_shuffled, (fun_mk (st := s_l_shuffled) l_l_shuffled c_l_shuffled k_l_shuffled).binds (ps := ["draw", "some"]) (fun _ _ _ _ _ _ us hl => match us, hl with | [_, _], _ => rfl)⟩,
    l_caught := ⟨f_l_caught, _, fun_mk (st := s_l_caught) l_l_caught c_l_caught k_l_caught, PySem.W.mg_of X G a_l_caught, (fun_mk (st := s_l_caught) l_l_caught c_l_caught k_l_caught).binds (ps := ["work"]) (fun _ _ _ _ _ _ us hl => match us, hl with | [_], _ => rfl)⟩,
    l_number_error := ⟨f_l_number_error, _, fun_mk (st := s_l_number_error) l_l_number_error c_l_number_error k_l_number_error, PySem.W.mg_of X G a_l_number_error, (fun_mk (st := s_l_number_error) l_l_number_error c_l_number_error k_l_number_error).binds (ps := ["error", "part"]) (fun _ _ _ _ _ _ us hl => match us, hl with | [_, _], _ => rfl)⟩,
    l_skin_error := ⟨f_l_skin_error, _, fun_mk (st := s_l_skin_error) l_l_skin_error c_l_skin_error k_l_skin_error, PySem.W.mg_of X G a_l_skin_error, (fun_mk (st := s_l_skin_error) l_l_skin_error c_l_skin_error k_l_skin_error).binds (ps := ["error"]) (fun _ _ _ _ _ _ us hl => match us, hl with | [_], _ => rfl)⟩,
    l_mate := ⟨f_l_mate, _, fun_mk (st := s_l_mate) l_l_mate c_l_mate k_l_mate, PySem.W.mg_of X G a_l_mate, (fun_mk (st := s_l_mate) l_l_mate c_l_mate k_l_mate).binds (ps := ["end"]) (fun _ _ _ _ _ _ us hl => match us, hl with | [_], _ => rfl)⟩,
    l_row := ⟨f_l_row, _, fun_mk (st := s_l_row) l_l_row c_l_row k_l_row, PySem.W.mg_of X G a_l_row, (fun_mk (st := s_l_row) l_l_row c_l_row k_l_row).binds (ps := ["draw", "most"]) (fun _ _ _ _ _ _ us hl => match us, hl with | [_, _], _ => rfl)⟩,
    l_least_turn := ⟨f_l_least_turn, _, fun_mk (st := s_l_least_turn) l_l_least_turn c_l_least_turn k_l_least_turn, PySem.W.mg_of X G a_l_least_turn, (fun_mk (st := s_l_least_turn) l_l_least_turn c_l_least_turn k_l_least_turn).binds (ps := ["word_here"]) (fun _ _ _ _ _ _ us hl => match us, hl with | [_], _ => rfl)⟩,
    l_freed := ⟨f_l_freed, _, fun_mk (st := s_l_freed) l_l_freed c_l_freed k_l_freed, PySem.W.mg_of X G a_l_freed, (fun_mk (st := s_l_freed) l_l_freed c_l_freed k_l_freed).binds (ps := ["word_here"]) (fun _ _ _ _ _ _ us hl => match us, hl with | [_], _ => rfl)⟩,
    l_undone := ⟨f_l_undone, _, fun_mk (st := s_l_undone) l_l_undone c_l_undone k_l_undone, PySem.W.mg_of X G a_l_undone, (fun_mk (st := s_l_undone) l_l_undone c_l_undone k_l_undone).binds (ps := ["word_here"]) (fun _ _ _ _ _ _ us hl => match us, hl with | [_], _ => rfl)⟩,
    l_rounded := ⟨f_l_rounded, _, fun_mk (st := s_l_rounded) l_l_rounded c_l_rounded k_l_rounded, PySem.W.mg_of X G a_l_rounded, (fun_mk (st := s_l_rounded) l_l_rounded c_l_rounded k_l_rounded).binds (ps := ["word_here"]) (fun _ _ _ _ _ _ us hl => match us, hl with | [_], _ => rfl)⟩,
    l_core := ⟨f_l_core, _, fun_mk (st := s_l_core) l_l_core c_l_core k_l_core, PySem.W.mg_of X G a_l_core, (fun_mk (st := s_l_core) l_l_core c_l_core k_l_core).binds (ps := ["draw", "ends_here", "size"]) (fun _ _ _ _ _ _ us hl => match us, hl with | [_, _, _], _ => rfl)⟩,
    l_root := ⟨f_l_root, _, fun_mk (st := s_l_root) l_l_root c_l_root k_l_root, PySem.W.mg_of X G a_l_root, (fun_mk (st := s_l_root) l_l_root c_l_root k_l_root).binds (ps := ["loop_here"]) (fun _ _ _ _ _ _ us hl => match us, hl with | [_], _ => rfl)⟩,
    l_loop := ⟨f_l_loop, _, fun_mk (st := s_l_loop) l_l_loop c_l_loop k_l_loop, PySem.W.mg_of X G a_l_loop, (fun_mk (st := s_l_loop) l_l_loop c_l_loop k_l_loop).binds (ps := ["draw", "ends_here"]) (fun _ _ _ _ _ _ us hl => match us, hl with | [_, _], _ => rfl)⟩,
    l_is_along := ⟨f_l_is_along, _, fun_mk (st := s_l_is_along) l_l_is_along c_l_is_along k_l_is_along, PySem.W.mg_of X G a_l_is_along, (fun_mk (st := s_l_is_along) l_l_is_along c_l_is_along k_l_is_along).binds (ps := ["one", "other"]) (fun _ _ _ _ _ _ us hl => match us, hl with | [_, _], _ => rfl)⟩,
    l_no_loop := ⟨f_l_no_loop, _, fun_mk (st := s_l_no_loop) l_l_no_loop c_l_no_loop k_l_no_loop, PySem.W.mg_of X G a_l_no_loop, (fun_mk (st := s_l_no_loop) l_l_no_loop c_l_no_loop k_l_no_loop).binds (ps := ["draw", "loop_here"]) (fun _ _ _ _ _ _ us hl => match us, hl with | [_, _], _ => rfl)⟩,
    l_refused := ⟨f_l_refused, _, fun_mk (st := s_l_refused) l_l_refused c_l_refused k_l_refused, PySem.W.mg_of X G a_l_refused, (fun_mk (st := s_l_refused) l_l_refused c_l_refused k_l_refused).binds (ps := ["draw", "skin", "loop_here"]) (fun _ _ _ _ _ _ us hl => match us, hl with | [_, _, _], _ => rfl)⟩,
    law := ⟨fa, _, fun_mk (st := s_law) l_law c_law k_law, PySem.W.mg_of X G a_law, (fun_mk (st := s_law) l_law c_law k_law).binds (ps := ["script"]) (fun _ _ _ _ _ _ us hl => match us, hl with | [_], _ => rfl)⟩,
    zabs := PySem.W.mg_none_of X G zabs,
    zall := PySem.W.mg_none_of X G zall,
    zint := PySem.W.mg_none_of X G zint,
    zisinstance := PySem.W.mg_none_of X G zisinstance,
    zlen := PySem.W.mg_none_of X G zlen,
    zlist := PySem.W.mg_none_of X G zlist,
    zmin := PySem.W.mg_none_of X G zmin,
    zrange := PySem.W.mg_none_of X G zrange,
    zrepr := PySem.W.mg_none_of X G zrepr,
    zsorted := PySem.W.mg_none_of X G zsorted,
    ztuple := PySem.W.mg_none_of X G ztuple,
    ztype := PySem.W.mg_none_of X G ztype,
    v_MOST_IN_ROUND := .int 40 tkMOST_IN_ROUND,
    c_MOST_IN_ROUND := PySem.W.mg_of X G c_MOST_IN_ROUND,
    r_MOST_IN_ROUND := ⟨_, rfl⟩,
    kSS := kSS,
    kST := kST,
    kSN := kSN,
    kSkSk := kSkSk,
    sSR := sSR,
    kRR := kRR,
    sRR := sRR,
    kNN := kNN,
    sNR := sNR,
    jc := jc,
    jP := jP,
    jF := ⟨_, _, _, _, _, _, _, _, rfl, l_l_refused, c_l_refused⟩ }, rfl, ⟨tgj, njj, tcj⟩⟩
theorem walk_law {l : PySem.W.OpenLaw} {q : Program} {loose : List Str} {XP : (Str → Option Value) → Heap → Prop} {YP : World → Heap → Prop} {d : DefRec} {K : Params → PySem.W.Frag} (hn : l.most = some 63) (hdf : d.params.defaults = [])
    (hY : ∀ (w : World) (h : Heap), YP w h → (K w.params).In h)
    (F : ∀ (w : World) (mg : Str → Option Value) (fa : Addr) (h : Heap), YP w h → (K w.params).In h → h.Ns mainGlobals mg → mg d.name = some (.ref fa) →
      ∃ T : Txt (K w.params) mg, fa = T.law.a ∧ (h.get? T.jP = some { cls := .none, data := .fields #[] } ∧ (K w.params).lookup T.jP = none ∧ PySem.W.CodeHd h T.jc T.jP)) :
    PySem.W.WalkO q loose XP YP l.row.toRowW d [] (fun f vs => PySem.call f vs) := by
  refine Att.attach_callB hn hdf fun w s₀ s₁ mg mb fa o pm cd doc a vs ns G Y ho hd hcd hmg hobj hints hlen hbits hg => ?_
  have KX := hY w _ Y
  obtain ⟨T, rfl, h_j⟩ := F w mg fa _ Y KX G.T.g hmg
  refine law_run (ts := [(T.jc, T.jP)]) KX G.T.g G.T.b G.T.builtins G.T.nolimit hg (fun p hp => ?_) G.T.bmain hobj hints (Nat.le_trans hlen (by decide)) fun base H TB e0 hT hS => ?_
  · simp only [List.mem_cons, List.not_mem_nil, or_false] at hp
    rcases hp with rfl
    · exact h_j
  have htb : LamX.Tabs (jTs T) H := fun p hp => by
    simp only [List.mem_cons, List.not_mem_nil, or_false] at hp
    rcases hp with rfl
    · exact LamX.TabS.nil (hT (T.jc, T.jP) (List.mem_cons_self))
  obtain ⟨oc, od, kV, doc', pm', an, cdv, ct, osl, e, lk, hc⟩ := T.law.F.ex
  have hb := T.law.b s₁ [.ref a] KX rfl
  rw [e] at lk hb
  refine LamX.run_ofS (N := N_law) (ps := ["script"]) (k := 14) (us := [.ref a]) (vs := [.ref a]) lk hc sc_law ⟨rfl, by decide, by decide⟩ e0 hb (.cons rfl .nil) rfl fun hr' => ?_
  obtain ⟨t, h1, h2⟩ := law_body (w := w) (base := base) (E := E0) (outer := []) (Q := fun v _ => v = .bl true) T (TB (T.jc, T.jP) (List.mem_cons_self)) (cdv := cdv) (A := callerA) (s := s₁) rfl hr' hS hlen htb (fun _ => rfl)
  exact ⟨t, h1.nox, h2⟩
end Tt
open PySem PySem.W PyProof.Rows in
set_option maxRecDepth 100000 in
set_option maxHeartbeats 0 in
theorem PySem.Challenge.cw_tautrounds_k06_whole_roots_and_powers_holds : PySem.Challenge.rw_tautrounds_k06_whole_roots_and_powers.Holds := by
  w_on; o_law; k_head; (case hw => w_witness2)
  k_fill
  refine' Tt.walk_law (l := PySem.Challenge.rw_tautrounds_k06_whole_roots_and_powers) rfl rfl (fun w h Y => PySem.W.km_in_of Y) ?F
  case F =>
    intro w mg fa h Y KX G hmg
    refine' Tt.all_mk KX G hmg ?hn0 ?ht0 ?a_RoundError ?k_RoundError ?q_RoundError ?ty_RoundError ?ga_RoundError ?gg_RoundError ?ex_RoundError ?hd_RoundError ?ca_RoundError ?mo_RoundError ?a_BadNumber ?x_BadNumber ?rv_BadNumber ?sa_BadNumber ?ty_BadNumber ?kc_BadNumber ?i_BadNumber ?t_BadNumber ?l_BadNumber ?c_BadNumber ?k_BadNumber ?nf_BadNumber ?ga_BadNumber ?gg_BadNumber ?ex_BadNumber ?hd_BadNumber ?ca_BadNumber ?mo_BadNumber ?a_BadRound ?k_BadRound ?q_BadRound ?ty_BadRound ?ga_BadRound ?gg_BadRound ?ex_BadRound ?hd_BadRound ?ca_BadRound ?mo_BadRound ?a_BadSkin ?x_BadSkin ?rv_BadSkin ?sa_BadSkin ?ty_BadSkin ?kc_BadSkin ?i_BadSkin ?t_BadSkin ?l_BadSkin ?c_BadSkin ?k_BadSkin ?nf_BadSkin ?ga_BadSkin ?gg_BadSkin ?ex_BadSkin ?hd_BadSkin ?ca_BadSkin ?mo_BadSkin ?a_is_number ?l_is_number ?c_is_number ?k_is_number ?a_is_within ?l_is_within ?c_is_within ?k_is_within ?a_is_tuple ?l_is_tuple ?c_is_tuple ?k_is_tuple ?a_is_list ?l_is_list ?c_is_list ?k_is_list ?a_is_row ?l_is_row ?c_is_row ?k_is_row ?a_Skin ?i_Skin ?fn_Skin ?l_Skin ?c_Skin ?k_Skin ?pg_Skin ?hd_Skin ?po_Skin ?sa_Skin ?mk_Skin ?kc_Skin ?ca_Skin ?mo_Skin ?n_Skin_row ?n_Skin_bands ?n_Skin_places ?a_check_skin ?l_check_skin ?c_check_skin ?k_check_skin ?a_is_end ?l_is_end ?c_is_end ?k_is_end ?a_least_turn ?l_least_turn ?c_least_turn ?k_least_turn ?a_is_any_word ?l_is_any_word ?c_is_any_word ?k_is_any_word ?a_has_letters ?l_has_letters ?c_has_letters ?k_has_letters ?a_cut_free ?l_cut_free ?c_cut_free ?k_cut_free ?a_gone_back ?l_gone_back ?c_gone_back ?k_gone_back ?a_closed_letters ?l_closed_letters ?c_closed_letters ?k_closed_letters ?a_closed_up ?l_closed_up ?c_closed_up ?k_closed_up ?a_is_fit_round ?l_is_fit_round ?c_is_fit_round ?k_is_fit_round ?a_check_round ?l_check_round ?c_check_round ?k_check_round ?a_gone_round_back ?l_gone_round_back ?c_gone_round_back ?k_gone_round_back ?a_turned_about ?l_turned_about ?c_turned_about ?k_turned_about ?a_gone ?l_gone ?c_gone ?k_gone ?a_rooted ?l_rooted ?c_rooted ?k_rooted ?a_root_of ?l_root_of ?c_root_of ?k_root_of ?a_go_along ?l_go_along ?c_go_along ?k_go_along ?a_along ?l_along ?c_along ?k_along ?a_l_begun ?l_l_begun ?c_l_begun ?k_l_begun ?a_l_mixed ?l_l_mixed ?c_l_mixed ?k_l_mixed ?a_l_take ?l_l_take ?c_l_take ?k_l_take ?a_l_pick ?l_l_pick ?c_l_pick ?k_l_pick ?a_l_shuffled ?l_l_shuffled ?c_l_shuffled ?k_l_shuffled ?a_l_caught ?l_l_caught ?c_l_caught ?k_l_caught ?a_l_number_error ?l_l_number_error ?c_l_number_error ?k_l_number_error ?a_l_skin_error ?l_l_skin_error ?c_l_skin_error ?k_l_skin_error ?a_l_mate ?l_l_mate ?c_l_mate ?k_l_mate ?a_l_row ?l_l_row ?c_l_row ?k_l_row ?a_l_least_turn ?l_l_least_turn ?c_l_least_turn ?k_l_least_turn ?a_l_freed ?l_l_freed ?c_l_freed ?k_l_freed ?a_l_undone ?l_l_undone ?c_l_undone ?k_l_undone ?a_l_rounded ?l_l_rounded ?c_l_rounded ?k_l_rounded ?a_l_core ?l_l_core ?c_l_core ?k_l_core ?a_l_root ?l_l_root ?c_l_root ?k_l_root ?a_l_loop ?l_l_loop ?c_l_loop ?k_l_loop ?a_l_is_along ?l_l_is_along ?c_l_is_along ?k_l_is_along ?a_l_no_loop ?l_l_no_loop ?c_l_no_loop ?k_l_no_loop ?a_l_refused ?l_l_refused ?c_l_refused ?k_l_refused ?a_law ?l_law ?c_law ?k_law ?zabs ?zall ?zint ?zisinstance ?zlen ?zlist ?zmin ?zrange ?zrepr ?zsorted ?ztuple ?ztype ?c_MOST_IN_ROUND ?kSS ?kST ?kSN ?kSkSk ?sSR ?kRR ?sRR ?kNN ?sNR ?tgj ?tcj ?njj
    (case hn0 => k_is)
    (case ht0 => k_is)
    (case a_RoundError => k_is)
    (case k_RoundError => k_is)
    (case q_RoundError => k_exc)
    (case ty_RoundError => k_is)
    (case ga_RoundError => k_is)
    (case gg_RoundError => k_is)
    (case ex_RoundError => k_is)
    (case hd_RoundError => k_is)
    (case ca_RoundError => k_is)
    (case mo_RoundError => k_is)
    (case a_BadNumber => k_is)
    (case x_BadNumber => k_is)
    (case rv_BadNumber => decide +kernel)
    (case sa_BadNumber => k_is)
    (case ty_BadNumber => k_is)
    (case kc_BadNumber => k_is)
    (case i_BadNumber => k_is)
    (case t_BadNumber => k_is)
    (case l_BadNumber => k_is)
    (case c_BadNumber => k_is)
    (case k_BadNumber => k_is)
    (case nf_BadNumber => k_is)
    (case ga_BadNumber => k_is)
    (case gg_BadNumber => k_is)
    (case ex_BadNumber => k_is)
    (case hd_BadNumber => k_is)
    (case ca_BadNumber => k_is)
    (case mo_BadNumber => k_is)
    (case a_BadRound => k_is)
    (case k_BadRound => k_is)
    (case q_BadRound => k_exc)
    (case ty_BadRound => k_is)
    (case ga_BadRound => k_is)
    (case gg_BadRound => k_is)
    (case ex_BadRound => k_is)
    (case hd_BadRound => k_is)
    (case ca_BadRound => k_is)
    (case mo_BadRound => k_is)
    (case a_BadSkin => k_is)
    (case x_BadSkin => k_is)
    (case rv_BadSkin => decide +kernel)
    (case sa_BadSkin => k_is)
    (case ty_BadSkin => k_is)
    (case kc_BadSkin => k_is)
    (case i_BadSkin => k_is)
    (case t_BadSkin => k_is)
    (case l_BadSkin => k_is)
    (case c_BadSkin => k_is)
    (case k_BadSkin => k_is)
    (case nf_BadSkin => k_is)
    (case ga_BadSkin => k_is)
    (case gg_BadSkin => k_is)
    (case ex_BadSkin => k_is)
    (case hd_BadSkin => k_is)
    (case ca_BadSkin => k_is)
    (case mo_BadSkin => k_is)
    (case a_is_number => k_is)
    (case l_is_number => k_is)
    (case c_is_number => k_is)
    (case k_is_number => k_is)
    (case a_is_within => k_is)
    (case l_is_within => k_is)
    (case c_is_within => k_is)
    (case k_is_within => k_is)
    (case a_is_tuple => k_is)
    (case l_is_tuple => k_is)
    (case c_is_tuple => k_is)
    (case k_is_tuple => k_is)
    (case a_is_list => k_is)
    (case l_is_list => k_is)
    (case c_is_list => k_is)
    (case k_is_list => k_is)
    (case a_is_row => k_is)
    (case l_is_row => k_is)
    (case c_is_row => k_is)
    (case k_is_row => k_is)
    (case a_Skin => k_is)
    (case i_Skin => k_is)
    (case fn_Skin => k_is)
    (case l_Skin => k_is)
    (case c_Skin => k_is)
    (case k_Skin => k_is)
    (case pg_Skin => k_is)
    (case hd_Skin => k_is)
    (case po_Skin => k_is)
    (case sa_Skin => k_is)
    (case mk_Skin => k_is)
    (case kc_Skin => k_is)
    (case ca_Skin => k_is)
    (case mo_Skin => k_is)
    (case n_Skin_row => k_is)
    (case n_Skin_bands => k_is)
    (case n_Skin_places => k_is)
    (case a_check_skin => k_is)
    (case l_check_skin => k_is)
    (case c_check_skin => k_is)
    (case k_check_skin => k_is)
    (case a_is_end => k_is)
    (case l_is_end => k_is)
    (case c_is_end => k_is)
    (case k_is_end => k_is)
    (case a_least_turn => k_is)
    (case l_least_turn => k_is)
    (case c_least_turn => k_is)
    (case k_least_turn => k_is)
    (case a_is_any_word => k_is)
    (case l_is_any_word => k_is)
    (case c_is_any_word => k_is)
    (case k_is_any_word => k_is)
    (case a_has_letters => k_is)
    (case l_has_letters => k_is)
    (case c_has_letters => k_is)
    (case k_has_letters => k_is)
    (case a_cut_free => k_is)
    (case l_cut_free => k_is)
    (case c_cut_free => k_is)
    (case k_cut_free => k_is)
    (case a_gone_back => k_is)
    (case l_gone_back => k_is)
    (case c_gone_back => k_is)
    (case k_gone_back => k_is)
    (case a_closed_letters => k_is)
    (case l_closed_letters => k_is)
    (case c_closed_letters => k_is)
    (case k_closed_letters => k_is)
    (case a_closed_up => k_is)
    (case l_closed_up => k_is)
    (case c_closed_up => k_is)
    (case k_closed_up => k_is)
    (case a_is_fit_round => k_is)
    (case l_is_fit_round => k_is)
    (case c_is_fit_round => k_is)
    (case k_is_fit_round => k_is)
    (case a_check_round => k_is)
    (case l_check_round => k_is)
    (case c_check_round => k_is)
    (case k_check_round => k_is)
    (case a_gone_round_back => k_is)
    (case l_gone_round_back => k_is)
    (case c_gone_round_back => k_is)
    (case k_gone_round_back => k_is)
    (case a_turned_about => k_is)
    (case l_turned_about => k_is)
    (case c_turned_about => k_is)
    (case k_turned_about => k_is)
    (case a_gone => k_is)
    (case l_gone => k_is)
    (case c_gone => k_is)
    (case k_gone => k_is)
    (case a_rooted => k_is)
    (case l_rooted => k_is)
    (case c_rooted => k_is)
    (case k_rooted => k_is)
    (case a_root_of => k_is)
    (case l_root_of => k_is)
    (case c_root_of => k_is)
    (case k_root_of => k_is)
    (case a_go_along => k_is)
    (case l_go_along => k_is)
    (case c_go_along => k_is)
    (case k_go_along => k_is)
    (case a_along => k_is)
    (case l_along => k_is)
    (case c_along => k_is)
    (case k_along => k_is)
    (case a_l_begun => k_is)
    (case l_l_begun => k_is)
    (case c_l_begun => k_is)
    (case k_l_begun => k_is)
    (case a_l_mixed => k_is)
    (case l_l_mixed => k_is)
    (case c_l_mixed => k_is)
    (case k_l_mixed => k_is)
    (case a_l_take => k_is)
    (case l_l_take => k_is)
    (case c_l_take => k_is)
    (case k_l_take => k_is)
    (case a_l_pick => k_is)
    (case l_l_pick => k_is)
    (case c_l_pick => k_is)
    (case k_l_pick => k_is)
    (case a_l_shuffled => k_is)
    (case l_l_shuffled => k_is)
    (case c_l_shuffled => k_is)
    (case k_l_shuffled => k_is)
    (case a_l_caught => k_is)
    (case l_l_caught => k_is)
    (case c_l_caught => k_is)
    (case k_l_caught => k_is)
    (case a_l_number_error => k_is)
    (case l_l_number_error => k_is)
    (case c_l_number_error => k_is)
    (case k_l_number_error => k_is)
    (case a_l_skin_error => k_is)
    (case l_l_skin_error => k_is)
    (case c_l_skin_error => k_is)
    (case k_l_skin_error => k_is)
    (case a_l_mate => k_is)
    (case l_l_mate => k_is)
    (case c_l_mate => k_is)
    (case k_l_mate => k_is)
    (case a_l_row => k_is)
    (case l_l_row => k_is)
    (case c_l_row => k_is)
    (case k_l_row => k_is)
    (case a_l_least_turn => k_is)
    (case l_l_least_turn => k_is)
    (case c_l_least_turn => k_is)
    (case k_l_least_turn => k_is)
    (case a_l_freed => k_is)
    (case l_l_freed => k_is)
    (case c_l_freed => k_is)
    (case k_l_freed => k_is)
    (case a_l_undone => k_is)
    (case l_l_undone => k_is)
    (case c_l_undone => k_is)
    (case k_l_undone => k_is)
    (case a_l_rounded => k_is)
    (case l_l_rounded => k_is)
    (case c_l_rounded => k_is)
    (case k_l_rounded => k_is)
    (case a_l_core => k_is)
    (case l_l_core => k_is)
    (case c_l_core => k_is)
    (case k_l_core => k_is)
    (case a_l_root => k_is)
    (case l_l_root => k_is)
    (case c_l_root => k_is)
    (case k_l_root => k_is)
    (case a_l_loop => k_is)
    (case l_l_loop => k_is)
    (case c_l_loop => k_is)
    (case k_l_loop => k_is)
    (case a_l_is_along => k_is)
    (case l_l_is_along => k_is)
    (case c_l_is_along => k_is)
    (case k_l_is_along => k_is)
    (case a_l_no_loop => k_is)
    (case l_l_no_loop => k_is)
    (case c_l_no_loop => k_is)
    (case k_l_no_loop => k_is)
    (case a_l_refused => k_is)
    (case l_l_refused => k_is)
    (case c_l_refused => k_is)
    (case k_l_refused => k_is)
    (case a_law => k_is)
    (case l_law => k_is)
    (case c_law => k_is)
    (case k_law => k_is)
    (case zabs => k_is)
    (case zall => k_is)
    (case zint => k_is)
    (case zisinstance => k_is)
    (case zlen => k_is)
    (case zlist => k_is)
    (case zmin => k_is)
    (case zrange => k_is)
    (case zrepr => k_is)
    (case zsorted => k_is)
    (case ztuple => k_is)
    (case ztype => k_is)
    (case c_MOST_IN_ROUND => k_is)
    (case kSS => kit_is)
    (case kST => kit_is)
    (case kSN => kit_is)
    (case kSkSk => kit_is)
    (case sSR => k_is)
    (case kRR => kit_is)
    (case sRR => k_is)
    (case kNN => kit_is)
    (case sNR => k_is)
    (case tgj => exact PySem.W.km_tabs_of Y _ (List.mem_cons_self))
    (case tcj => exact PySem.W.codeHd_of_K KX (by kernel_rfl))
    (case njj => first | kernel_rfl | rfl)
