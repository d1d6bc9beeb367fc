import PyProof.Rows.All
import Wide.All
import OpenK.AllK
import Wide.FinOn
import HandS.ForMost
import HandS.ForExc
import HandS.More
import HandS.TupAny
import HandS.Conv
import HandS.Style
import HandS.Strs
import HandS.SortInts
import HandS.Sort
import HandS.DeepEq
import HandS.RaiseMore
import HandS.Lambda
import HandS.EndTab
import HandS.IsInst
import HandS.ExcIs
import HandS.ExcField
import HandS.ExcInit
import HandS.ExcValue
import HandS.CallLocal
import HandS.CallSlots
import HandS.Nested
import PyProof.ReprRoads
import PyProof.ReprLen
import KE.DataMinMax
import KE.SortData
import PyProof.SumAny
import KE.GoesMore
import HandS.Iter
import HandS.Walk
import PySem.Challenge.RW_tautrounds_k02_whole_rims_and_genus
import HandS.SetFor
import HandS.Remove
import HandS.Dict
import HandS.EndBits
import KE.KNest
import KE.KNestM
import KE.RegKIsAll
set_option Elab.async false
set_option linter.all false
set_option maxRecDepth 100000
set_option maxHeartbeats 4000000
namespace SrtO
open PySem PyProof.Rows Srt
section
variable {prog : Program} {w : World} {A : Around} {E : Value → Shared → Prop} {s : Shared}
theorem tt_collect_tup {l : Addr} {vs : List Value} {Q : List Value → Shared → Prop} (hl : IsTup s.heap l vs.toArray)
    (h : Q vs { s with heap := (s.heap.push (seqObj "list" #[] 0)).update s.heap.objs.size (Obj.mapSeq (· ++ vs.toArray)) }) (hsz : vs.length ≤ sizeLine) :
    wpAny (model prog w) A (collect (.ref l)) Q E s := by
  obtain ⟨o, ho, hc, n, hd⟩ := id hl
  unfold collect
  refine wpAny_bind (wpAny_runValue (codeAny_builtin entry_proto_collect' ?_))
  show wpAny _ _ (do again (.builtin "list.__iadd__" ⟨[← newList [], .ref l], []⟩)) _ _ s
  refine wpAny_bind (wpAny_newList (wpAny_pure ⟨Code.quiet_builtin _ (by decide +kernel), codeAny_builtin entry_list_iadd' ?_⟩))
  show wpAny _ _ (Builtin.List.listExtendWith (.ref s.heap.objs.size) (.ref l) (.ref s.heap.objs.size)) _ _ { s with heap := s.heap.push (seqObj "list" #[] 0) }
  unfold Builtin.List.listExtendWith
  have ho' : (s.heap.push (seqObj "list" #[] 0)).get? l = some o := Heap.get?_push_of_some _ ho
  refine wpAny_bind (wpAny_typeOf (T := "tuple") ⟨o, ho', hc⟩ ?_)
  have ht : (Value.type "tuple" == Value.type "tuple") = true := by rfl
  rw [if_pos (by rw [ht]; simp)]
  refine wpAny_bind (listItems_at ho' hd ?_)
  refine wpAny_bind (listItems_at (xs := #[]) (n := 0) (Heap.get?_push_size _ rfl) rfl ?_)
  rw [if_neg (by simp)]
  refine wpAny_bind (listUpdate_at (xs := #[]) (n := 0) (Heap.get?_push_size _ rfl) rfl ?_ (Nat.zero_le _) (by show (#[] ++ vs.toArray).size ≤ sizeLine + 1; simp only [Array.size_append, List.size_toArray, List.length_nil]; omega))
  refine wpAny_pure ?_
  show wpAny (model prog w) A (do
      let o ← load s.heap.objs.size
      match o.data with
      | .seq xs _ => pure xs.toList
      | _ => unsupported "internal:collect") Q E { s with heap := (s.heap.push (seqObj "list" #[] 0)).update s.heap.objs.size (Obj.mapSeq (· ++ vs.toArray)) }
  refine wpAny_bind (wpAny_load (get?_update_seq (Heap.get?_push_size _ rfl) _) ?_)
  show wpAny _ _ (pure ((#[] : Array Value) ++ vs.toArray).toList) Q E _
  rw [show ((#[] : Array Value) ++ vs.toArray).toList = vs by simp]
  exact wpAny_pure h
theorem tt_sorted_tup {l : Addr} {vs : List Value} {ltv : Value → Value → Bool} {Q : Value → Shared → Prop} (O : Swo ltv) (hl : IsTup s.heap l vs.toArray) (hz : vs.length ≤ sizeLine)
    (hS : 2 ≤ vs.length → ∀ (h₁ : Heap) (a : Addr), h₁.get? a = some (seqObj "list" vs.toArray 0) → (∀ b o, s.heap.get? b = some o → b ≠ a ∧ h₁.get? b = some o) → SortableO prog w A.in1.in1 { s with heap := h₁ } a vs ltv)
    (h : ∀ out : List Value, Srtd ltv out → Stb ltv out vs → Q (.ref (s.heap.objs.size + 1)) { s with heap := sortedAll s.heap vs out.toArray }) :
    wpAny (model prog w) A (call (.builtin "sorted") [.ref l]) Q E s := by
  refine Calls.call_function_entry kind_sorted plain_sorted entry_sorted (args_sorted1 _) ?_
  unfold Builtin.«sorted»
  refine wpAny_bind (m := checkCount "sorted" 1 1 _) (wpAny_pure ?_)
  refine wpAny_bind (tt_collect_tup hl ?_ hz)
  refine wpAny_bind (wpAny_newList ?_ hz)
  have hsz : ((s.heap.push (seqObj "list" #[] 0)).update s.heap.objs.size (Obj.mapSeq (· ++ vs.toArray))).objs.size = s.heap.objs.size + 1 := by
    rw [Heap.size_update, size_push']
  have hoL : (((s.heap.push (seqObj "list" #[] 0)).update s.heap.objs.size (Obj.mapSeq (· ++ vs.toArray))).push (seqObj "list" vs.toArray 0)).get? (s.heap.objs.size + 1) = some (seqObj "list" vs.toArray 0) := by
    rw [← hsz]; exact Heap.get?_push_size _ rfl
  have keep : ∀ b o, s.heap.get? b = some o → b ≠ s.heap.objs.size + 1 ∧ (((s.heap.push (seqObj "list" #[] 0)).update s.heap.objs.size (Obj.mapSeq (· ++ vs.toArray))).push (seqObj "list" vs.toArray 0)).get? b = some o := fun b o q => by
    have hlt : b < s.heap.objs.size := Heap.lt_size q
    refine ⟨Nat.ne_of_lt (Nat.lt_succ_of_lt hlt), Heap.get?_push_of_some _ ?_⟩
    rw [Heap.get?_update_ne _ _ _ _ (Nat.ne_of_lt hlt)]
    exact Heap.get?_push_of_some _ q
  show wpAny _ _ _ _ _ { s with heap := ((s.heap.push (seqObj "list" #[] 0)).update s.heap.objs.size (Obj.mapSeq (· ++ vs.toArray))).push (seqObj "list" vs.toArray 0) }
  rw [hsz]
  refine wpAny_bind (wpAny_holding (wpAny_call_entry slot_list_sort ⟨_, hoL, rfl⟩ entry_list_sort (list_sort_ord O hoL hz (fun h2 => hS h2 _ _ hoL keep) fun out hs hb => ⟨_, rfl, ?_⟩) (args_list_sort _)))
  exact wpAny_pure ⟨_, rfl, h out hs hb⟩
end
end SrtO
namespace L2
open PySem PySem.Spec PyProof.Rows
section
variable {X : Cx}
def rSortedIT (K : PySem.W.Frag) : List V → Hp → VK → Prop := fun vs H Q => ∃ (a : Addr) (ns : List Int), vs = [V.ref a] ∧ SqT K H a (ns.map V.int) ∧
  ∀ (ns' : List Int) (p : Addr), ns'.Perm ns → ns'.Pairwise (· ≤ ·) → H p = none → Q (.ref p) (upd H p (.lst (ns'.map V.int)))
theorem cr_sortedIT : CallR X (.builtin "sorted") (rSortedIT X.K) := by
  intro pins s σ H vs us Q I r h
  obtain ⟨a, ns, rfl, hs, q⟩ := h
  obtain ⟨its, rv, hl, hz⟩ := I.tuple hs
  rw [Vals.ref1 r]
  have hi := rv.ints
  refine SrtO.tt_sorted_tup SrtO.swo_int hl (by rw [← rv.length]; exact hz) (fun h2 h₁ a' _ _ => SrtO.ints_sortable hi h2) fun out h1 h2 => ?_
  obtain ⟨k1, k2, k3⟩ := SrtO.ints_out hi h1 h2
  obtain ⟨ep, he'⟩ := PyProof.Rows.sortedAll_at s.heap its out.toArray
  have hlen : ((out.map SrtO.iv).map V.int).length ≤ sizeLine := by
    rw [List.length_map, k2.length_eq]
    rw [List.length_map] at hz
    exact hz
  exact ⟨.ref _, upd H (s.heap.objs.size + 1) (.lst ((out.map SrtO.iv).map V.int)), I.laid (t' := s.toks) (fun _ _ => PyProof.Rows.sortedAll_old) (Nat.le_succ _) ⟨hlen, out, ep, vals_of_ints k1, he'⟩, rfl, q _ _ k2 k3 (I.hok.fresh (Nat.le_succ _))⟩
def rSortedS2 (K : PySem.W.Frag) : List V → Hp → VK → Prop := fun vs H Q => rSortedI K vs H Q ∨ rSortedIT K vs H Q
theorem cr_sortedS2 : CallR X (.builtin "sorted") (rSortedS2 X.K) := by
  intro pins s σ H vs us Q I r h
  rcases h with h | h
  · exact cr_sortedI pins s σ H vs us Q I r h
  · exact cr_sortedIT pins s σ H vs us Q I r h
theorem mt_tup_indexI : MtR X "tuple.index" (fun x xs H Q => ∃ p, ∃ ys : List Int, ∃ z j, x = .ref p ∧ xs = [.int z] ∧ SqT X.K H p (ys.map V.int) ∧ ys[j]? = some z ∧ (∀ m, m < j → ys[m]? ≠ some z) ∧ Q (.int (j : Nat)) H) := by
  intro pins s σ H x xs v us Q I rx rs h
  obtain ⟨p, ys, z, j, rfl, rfl, hq, hy, hno, q⟩ := h
  cases rx
  obtain ⟨u, rfl, t, rfl⟩ := vals1 rs
  obtain ⟨its, r, pl, hz⟩ := I.tuple hq
  obtain ⟨⟨cls, dd, dt, sl⟩, ho, hc, n, hd⟩ := pl
  simp only at hc hd
  subst hc
  subst hd
  have hl : its.toArray.size = ys.length := by rw [List.size_toArray, ← r.length, List.length_map]
  have hj : j < its.toArray.size := by rw [hl]; exact (List.getElem?_eq_some_iff.mp hy).1
  have at' : ∀ (m : Nat) (hm : m < its.toArray.size), ∃ y t', ys[m]? = some y ∧ its.toArray[m] = Value.int y t' := fun m hm => by
    have hm' : m < ys.length := by rw [← hl]; exact hm
    obtain ⟨w, hw, t', hw'⟩ := r.get (i := m) (x := .int ys[m]) (by simp [hm'])
    refine ⟨ys[m], t', List.getElem?_eq_getElem hm', ?_⟩
    have e := (List.getElem?_eq_some_iff.mp hw).2
    rw [← hw', ← e]
    simp
  have flat : ∀ ys : List Int, (ys.map V.int).all flatV = true := fun ys => by
    induction ys with
    | nil => rfl
    | cons a b ih => rw [List.map_cons, List.all_cons, ih]; rfl
  refine call_meets PySem.F.slot_tuple_index ⟨_, ho, rfl⟩ PySem.F.entry_tuple_index (PySem.F.args_tuple_index_2 _ _) (TI.tuple_indexAt p its.toArray n dd sl (.int z t) (eqU (.int z)) j hj ?_ ?_)
    ⟨ho, fun w hw => mem_eqAt (x := .int z) ⟨t, rfl⟩ rfl r (flat ys) w (by simpa using hw), ⟨.int (j : Nat), H, I.tok _, ⟨_, rfl⟩, q⟩⟩
  · obtain ⟨y, t', h1, h2⟩ := at' j hj
    rw [hy] at h1
    cases h1
    rw [h2]
    show (z == z) = true
    exact beq_self_eq_true z
  · intro m hm hmj
    obtain ⟨y, t', h1, h2⟩ := at' m hm
    rw [h2]
    show (y == z) = false
    exact beq_eq_false_iff_ne.mpr fun e => hno m hmj (by rw [h1, e])
end
end L2
set_option maxRecDepth 100000
set_option maxHeartbeats 4000000
namespace HT
open PySem PySem.Spec PyProof.Rows
section
variable {prog : Program} {w : World} {A : Around} {E : Value → Shared → Prop} {s : Shared}
theorem tt_adjust_rev (n : Nat) : Builtin.Slice.sliceAdjust none none (-1) (n : Int) = ((n : Int) - 1, -1) := by
  unfold Builtin.Slice.sliceAdjust
  simp only [show (-1 : Int) < 0 by decide, if_true]
theorem tt_places_rev (n : Nat) : Builtin.Slice.slicePlaces ((n : Int) - 1) (-1) (-1) = n := by
  unfold Builtin.Slice.slicePlaces
  simp only [show ¬ ((-1 : Int) > 0) by decide, if_false, Int.neg_neg, Int.ediv_one]
  split <;> omega
theorem tt_applied_rev {sl : Addr} {vs : Value} {n : Nat} {Q : Int × Int × Nat → Shared → Prop} (hs : s.heap.IsSliceOf sl .none .none vs) (ps : IsPart vs (some (-1)))
    (h : Q ((n : Int) - 1, -1, n) s) : wpAny (model prog w) A (Builtin.Slice.sliceApplied (.ref sl) (pure (n : Int))) Q E s := by
  obtain ⟨os, hos, hcs, hds⟩ := id hs
  unfold Builtin.Slice.sliceApplied Builtin.Slice.sliceFields
  refine wpAny_bind (wpAny_bind (wpAny_field hos hds (x := .none) rfl (wpAny_bind (wpAny_field hos hds (x := .none) rfl (wpAny_bind (wpAny_field hos hds (x := vs) rfl (wpAny_pure ?_)))))))
  refine wpAny_bind (slicePart_ ps ?_)
  show wpAny _ _ (if ((-1 : Int) == 0) = true then _ else _) _ _ s
  rw [if_neg (by decide)]
  refine wpAny_bind (slicePart_ .none (wpAny_bind (slicePart_ .none (wpAny_bind (wpAny_pure ?_)))))
  show wpAny _ _ (match Builtin.Slice.sliceAdjust none none (-1) (n : Int) with | (lo, hi) => pure (lo, (-1 : Int), Builtin.Slice.slicePlaces lo hi (-1))) _ _ s
  rw [tt_adjust_rev n]
  show wpAny _ _ (pure ((n : Int) - 1, (-1 : Int), Builtin.Slice.slicePlaces ((n : Int) - 1) (-1) (-1))) _ _ s
  rw [tt_places_rev n]
  exact wpAny_pure h
theorem tt_fm {α β : Type} {f g : α → Option β} : ∀ {l : List α}, (∀ x ∈ l, f x = g x) → l.filterMap f = l.filterMap g
  | [], _ => rfl
  | a :: l, h => by
    rw [List.filterMap_cons, List.filterMap_cons, h a List.mem_cons_self, tt_fm fun x hx => h x (List.mem_cons_of_mem _ hx)]
theorem tt_pick_rev (xs : Array Value) : ((List.range xs.size).filterMap fun (m : Nat) => xs[(((xs.size : Int) - 1) + (m : Int) * (-1)).toNat]?).toArray = xs.toList.reverse.toArray := by
  have e : (List.range xs.size).filterMap (fun (m : Nat) => xs[(((xs.size : Int) - 1) + (m : Int) * (-1)).toNat]?) = xs.toList.reverse := by
    have h1 : ∀ m ∈ List.range xs.size, xs[(((xs.size : Int) - 1) + (m : Int) * (-1)).toNat]? = some (xs.toList.reverse.getD m .none) := fun m hm => by
      have hm := List.mem_range.mp hm
      have e1 : (((xs.size : Int) - 1) + (m : Int) * (-1)).toNat = xs.size - 1 - m := by omega
      rw [e1, List.getD_eq_getElem?_getD, List.getElem?_reverse (by simpa using hm)]
      have e2 : xs.size - 1 - m < xs.size := by omega
      simp [e2]
    have h2 : (List.range xs.size).filterMap (fun (m : Nat) => xs[(((xs.size : Int) - 1) + (m : Int) * (-1)).toNat]?) = (List.range xs.size).map fun m => xs.toList.reverse.getD m .none := by
      rw [← List.filterMap_eq_map]
      exact tt_fm h1
    rw [h2]
    refine List.ext_getElem? fun i => ?_
    rw [List.getElem?_map]
    by_cases hi : i < xs.size
    · rw [List.getElem?_range hi]
      have : i < xs.toList.reverse.length := by simpa using hi
      rw [List.getElem?_eq_getElem this]
      simp [List.getD_eq_getElem?_getD, List.getElem?_eq_getElem this]
    · rw [List.getElem?_eq_none (by simpa using hi), List.getElem?_eq_none (by simpa using hi)]
      rfl
  rw [e]
theorem tt_getItem_tuple_rev {t sl : Addr} {items : Array Value} {vs : Value} {Q : Value → Shared → Prop} (ht : IsTup s.heap t items) (hs : s.heap.IsSliceOf sl .none .none vs) (ps : IsPart vs (some (-1)))
    (h : Q (.ref s.heap.objs.size) { s with heap := s.heap.push { cls := .type "tuple", data := .seq items.toList.reverse.toArray } })
    (hsz : items.size ≤ sizeLine) : wpAny (model prog w) A (getItem (.ref t) (.ref sl)) Q E s := by
  have htake : sizeOk (.seq items.toList.reverse.toArray) := by
    show items.toList.reverse.toArray.size ≤ sizeLine
    rw [List.size_toArray, List.length_reverse, Array.length_toList]
    exact hsz
  obtain ⟨os, hos, hcs, hds⟩ := id hs
  have hTs : s.TypeIs (.ref sl) "slice" := ⟨os, hos, hcs⟩
  unfold getItem
  try with_reducible refine wpAny_holding ?_
  first | refine wpAny_bind (wpAny_pure ?_) | skip
  refine wpAny_bind (wpAny_sequenceKey ht.typeIs (by decide) ?_)
  refine wpAny_bind (wpAny_callSpecial?_slot (name := Str.ofString "__getitem__") ht.typeIs PyProof.Rows.slot_tuple_getitem
    (wpAny_call_entry PyProof.Rows.slot_tuple_getitem ht.typeIs entry_tuple_getitem ?_ (args_tuple_getitem _ _)))
  show wpAny _ _ (Builtin.Tuple.tupleItemsOf (.ref t) >>= _) _ _ s
  refine wpAny_bind (tupleItemsOf_ ht ?_)
  refine wpAny_bind (wpAny_typeOf hTs ?_)
  rw [if_pos (by decide)]
  refine wpAny_bind (tt_applied_rev hs ps ?_)
  have hno : ¬ (((items.size : Int) - 1 == 0 && (-1 : Int) == 1 && items.size == items.size) = true) := by
    intro q
    rw [Bool.and_eq_true, Bool.and_eq_true] at q
    exact absurd q.1.2 (by decide)
  show wpAny _ _ (if ((items.size : Int) - 1 == 0 && (-1 : Int) == 1 && items.size == items.size) = true then _ else _) _ _ s
  rw [if_neg hno, tt_pick_rev]
  first
    | exact wpAny_bind (m := Builtin.Tuple.tupleExact _) (wpAny_newObj_type (wpAny_pure ⟨_, rfl, wpAny_pure h⟩) htake)
    | exact wpAny_bind (m := Builtin.Tuple.tupleExact _) (wpAny_newObj_type (wpAny_bind (wpAny_pure (wpAny_pure ⟨_, rfl, wpAny_pure h⟩))) htake)
    | exact wpAny_bind (wpAny_bind (m := Builtin.Tuple.tupleExact _) (wpAny_newObj_type (wpAny_pure (wpAny_pure ⟨_, rfl, wpAny_pure h⟩)) htake))
    | exact wpAny_bind (wpAny_bind (m := Builtin.Tuple.tupleExact _) (wpAny_newObj_type (wpAny_pure ⟨_, rfl, wpAny_pure h⟩) htake))
end
end HT
namespace L2
open PySem PySem.Spec PyProof.Rows
section
variable {X : Cx}
def tRevT (K : PySem.W.Frag) (te : TE) : TE := fun σ H Q => te σ H fun x H1 => ∃ a xs, x = .ref a ∧ SqT K H1 a xs ∧ ∀ p, H1 p = none → Q (.ref p) (upd H1 p (.tup xs.reverse))
theorem pe_revT {e : Expr} {te : TE} {k : Nat} {p1 p2 p3 pos : Pos} (he : PE X e te) : PE X (.Subscript e (.Slice none none (some (.UnaryOp .USub (.Constant (.int 1) k p1) p2)) p3) pos) (tRevT X.K te) := by
  refine ⟨fun pins s σ H Q I h => ?_⟩
  refine Subscript_ (thn (he.run pins s σ H _ I h) fun v s1 ⟨x, H1, I1, r1, q1⟩ => ?_)
  obtain ⟨a, xs, ex, hx, q⟩ := q1
  subst ex
  cases r1
  have hst : PO X (some (.UnaryOp .USub (.Constant (.int 1) k p1) p2)) (tPart (tUn (rU fun i => .int (-i)) (tC (.int 1)))) := po_some (pe_un un_neg pe_int)
  refine wpAny_Slice (wpAny_pure ?_)
  refine wpAny_pure ?_
  refine thn (hst.run pins s1 σ H1 (fun o H4 => o = some (-1) ∧ H4 = H1) I1 ⟨1, rfl, -1, rfl, rfl, rfl⟩) fun vs s4 ⟨o, H4, I4, ps, eo, e4⟩ => ?_
  subst eo e4
  have I5 : Inv X pins σ H4 { s4 with heap := s4.heap.push { cls := .type "slice", data := .fields #[.none, .none, vs] } } := I4.kept (t' := s4.toks) fun b ob q => Heap.get?_push_of_some _ q
  obtain ⟨its, r, ht, hz⟩ := I5.tuple hx
  have hlen := r.length
  show wpAny (model X.prog X.w) X.A (subscriptTail e (.Slice none none (some (.UnaryOp .USub (.Constant (.int 1) k p1) p2)) p3) (.ref a) (.ref s4.heap.objs.size)) (EP X pins σ Q) X.xe { s4 with heap := s4.heap.push { cls := .type "slice", data := .fields #[.none, .none, vs] } }
  refine tail_any (ops := [.ref a, .ref s4.heap.objs.size]) ht.typeIs (PyProof.Rows.slot_tuple_getitem.lookup) ?_ (by with_unfolding_all rfl)
  refine HT.tt_getItem_tuple_rev ht (Heap.IsSliceOf.new _ .none .none vs) ps ?_ (by rw [List.size_toArray]; omega)
  refine ⟨.ref _, _, I5.laid (t' := s4.toks) (o := .tup xs.reverse) (fun b ob q => Heap.get?_push_of_some _ q) (Nat.le_refl _) ?_, rfl, q _ (I5.hok.fresh (Nat.le_refl _))⟩
  exact ⟨by rw [List.length_reverse]; exact hz, _, r.reverse, IsTup.new _ _⟩
end
section
variable {X : Cx} {K : PySem.W.Frag}
theorem ix_listK (h : X.K = K) : IxR X (rIxL K) := by subst h; exact ix_list
theorem ix_tupK (h : X.K = K) : IxR X (rIxT K) := by subst h; exact ix_tup
theorem call_len_seqK (h : X.K = K) : CallR X (.builtin "len") (fun xs H Q => ∃ p ys, xs = [.ref p] ∧ (SqL K H p ys ∨ SqT K H p ys) ∧ Q (.int ys.length) H) := by subst h; exact call_len_seq
theorem op_in_seqK (h : X.K = K) : OpR X (compareOp .In) (rIn K false) := by subst h; exact op_in_seq
theorem op_notIn_seqK (h : X.K = K) : OpR X (compareOp .NotIn) (rIn K true) := by subst h; exact op_notIn_seq
theorem op_eqDK (h : X.K = K) (hu : X.A.units + 64 < cLine) : OpR X (compareOp .Eq) (rEqD K) := by subst h; exact op_eqD hu
theorem op_neDK (h : X.K = K) (hu : X.A.units + 64 < cLine) : OpR X (compareOp .NotEq) (rNeD K) := by subst h; exact op_neD hu
theorem op_catAK (h : X.K = K) : OpR X (binaryOp .Add) (rCatA K) := by subst h; exact op_catA
theorem sl_listK (h : X.K = K) : SlR X (rSlL K) := by subst h; exact sl_list
theorem sl_tupAK (h : X.K = K) : SlR X (rSlA K) := by subst h; exact sl_tupA
theorem call_tuple_ofK (h : X.K = K) : CallR X (.type "tuple") (fun xs H Q => ∃ p ys, xs = [.ref p] ∧ ((SqL K H p ys ∧ ∀ l, H l = none → Q (.ref l) (upd H l (.tup ys))) ∨ (SqT K H p ys ∧ Q (.ref p) H))) := by subst h; exact call_tuple_of
theorem call_list_ofK (h : X.K = K) : CallR X (.type "list") (fun xs H Q => ∃ p ys, xs = [.ref p] ∧ (SqL K H p ys ∨ SqT K H p ys) ∧ ∀ l, H l = none → Q (.ref l) (upd H l (.lst ys))) := by subst h; exact call_list_of
theorem call_type1K (h : X.K = K) : CallR X (.type "type") (rTyp K) := by subst h; exact call_type1
theorem pe_fldK {e : Expr} {ta : TE} {f : Str} {pos : Pos} (h : X.K = K) (he : PE X e ta) (hb : attributeBase e f X.env (eval e X.env) = eval e X.env) : PE X (.Attribute e f pos) (tFld K ta f) := by subst h; exact pe_fld he hb
theorem mt_tup_indexIK (h : X.K = K) : MtR X "tuple.index" (fun x xs H Q => ∃ p, ∃ ys : List Int, ∃ z j, x = .ref p ∧ xs = [.int z] ∧ SqT K H p (ys.map V.int) ∧ ys[j]? = some z ∧ (∀ m, m < j → ys[m]? ≠ some z) ∧ Q (.int (j : Nat)) H) := by subst h; exact mt_tup_indexI
theorem pe_bmK {T name id : String} {r : V → List V → Hp → VK → Prop} {o e : Expr} {es : List Expr} {to : TE} {t : TA} {apos cpos : Pos} (hk : X.K = K) (pa : PlainAttrs T) (slot : Slot T name id) (hty : typeOf (.builtin id) = pure (.type "method_descriptor")) (hm : MtR X id r) (ho : PE X o to) (ha : PA X (e :: es) t)
    (hbase : attributeBase o name X.env (eval o X.env) = eval o X.env := by rfl)
    (hfew : ((backTo cpos (starEach (e :: es) X.env)).all (fun x => !x.1) && (backToKw cpos (keywordEach [] X.env)).all (fun x => x.1.isSome)
      && decide ((e :: es).length + ([] : List Keyword).length + (if ([] : List Keyword).isEmpty then 0 else 1) < 30)) = true := by rfl)
    (hline : (apos.endLine == cpos.line) = true := by rfl) (hpl : (backTo cpos (starEach es X.env)).any (·.1) = false := by rfl) (hs : starEach (e :: es) X.env = (false, eval e X.env) :: starEach es X.env := by rfl) :
    PE X (.Call (.Attribute o name apos) (e :: es) [] cpos) (tBM K T r to t) := by
  subst hk
  first
    | exact pe_bm pa slot hty hm ho ha hbase hfew hline hpl hs
    | exact pe_bm pa slot hty hm ho ha hbase hfew hline hs hpl
    | exact pe_bm pa slot hty hm ho ha hbase hfew hline
    | exact pe_bm pa slot hty hm ho ha
end
end L2
set_option maxRecDepth 100000
set_option maxHeartbeats 4000000
namespace PySem.W
open PySem PySem.Spec PySem.Calls PyProof.Rows
section
variable {prog : Program} {w : World} {A : Around} {E : Value → Shared → Prop} {s : Shared} {K : Frag} {x D : Addr} {ox : Obj}
theorem tt_findObj_data {C : Addr} {od : Option Obj} {name : Str} {a g : Value} (hc : (clsIn K C).isSome = true) (ha : findIn K (.ref C) name = some (some a)) (hg : specialIn K a "__get__" = some (some g)) (ht : takesIn K a = some true) : findObj K C od name = some (.bind g a) := by
  obtain ⟨cd, hc⟩ := Option.isSome_iff_exists.mp hc
  unfold findObj
  rw [hc, Option.bind_some, ha, Option.bind_some]
  simp [hg, ht]
theorem tt_kin_classE {od : Option Obj} {Q : Option Value → Shared → Prop} (hga : findIn K (.ref D) "__getattribute__" = some (some (.builtin "BaseException.__getattribute__"))) (hgt : findIn K (.ref D) "__getattr__" = some none) (hsub : subIn K (.ref D) (.type "BaseException") = some true)
    (hdct : hasDictIn K D = true) (ha : findIn K (.ref D) "__class__" = some (some (.builtin "object.__class__")))
    (hn : specialIn K (.builtin "object.__class__") "__get__" = some (some (.builtin "getset_descriptor.__get__"))) (htk : takesIn K (.builtin "object.__class__") = some true) (hm : mroIn K D (.type "object") = some true)
    (X : K.In s.heap) (I : InstAt s.heap x ox D od) (h : Q (some (.ref D)) { s with toks := s.toks + 1 }) : wpAny (model prog w) A (getAttr? (.ref x) "__class__") Q E s := by
  have hf : findObj K D od "__class__" = some (.bind (.builtin "getset_descriptor.__get__") (.builtin "object.__class__")) := tt_findObj_data (by obtain ⟨cd, hc, _⟩ := any_some hdct; rw [hc]; rfl) ha hn htk
  obtain ⟨hp, g, d, t, os⟩ := s
  have L0 := I.type (M := model prog w)
  have L1 := looks_findIn (M := model prog w) X hga
  have L2 := looks_findIn (M := model prog w) X hgt
  have L3 := looks_find (M := model prog w) X I hf
  have sub : Looks (model prog w) hp (isInstance (.ref x) (.type "BaseException")) true := L0.andThen (looks_subIn X hsub)
  have hx0 : (false && onTheHeap (Value.builtin "BaseException.__getattribute__")) = false := rfl
  have hx2 : (Value.builtin "BaseException.__getattribute__" == Value.builtin "object.__getattribute__") = false := by decide +kernel
  have hx1 : (onTheHeap (Value.ref D) && Value.builtin "BaseException.__getattribute__" == Value.builtin "object.__getattribute__") = false := by rw [hx2]; rfl
  unfold getAttr? getAttrBy? getAttrBy
  refine wpAny_bind (wpAny_mkText (wpAny_bind (wpAny_attempt (wpAny_holding (wpAny_bind (L0.at (wpAny_bind (L1.at ?_))))))))
  show wpAny _ _ (if (onTheHeap (Value.ref D) && Value.builtin "BaseException.__getattribute__" == Value.builtin "object.__getattribute__") = true then _ else _) _ _ _
  rw [hx1, if_neg Bool.false_ne_true]
  unfold getAttrByItsOwn hookBefore
  refine wpAny_bind ?_
  rw [if_pos (show onTheHeap (Value.ref D) = true from rfl)]
  refine L2.at ?_
  refine wpAny_bind (wpAny_attempt (wpAny_holding ?_))
  unfold callGetattribute
  rw [hx0, if_neg Bool.false_ne_true]
  unfold boundAndCalled
  rw [PySem.F.excAttr_ValueError.ga.bind (.ref x)]
  refine wpAny_bind (wpAny_pure ?_)
  show wpAny _ _ (call (.builtin "BaseException.__getattribute__") [.ref x, .str "__class__" t]) _ _ _
  refine wpAny_call (codeAny_call_builtin PySem.F.excAttr_ValueError.ga.plain PySem.F.entry_bexc_ga ?_)
  refine @check_slot (model prog w) _ _ ⟨hp, g, d, t + 1, os⟩ "BaseException.__getattribute__" "BaseException" "__getattribute__" (.ref x) [.str "__class__" t] [] _ (by decide +kernel) (by decide +kernel) sub (PySem.F.args_bexc_ga (.ref x) (.str "__class__" t)) ?_
  unfold Builtin.«object.__getattribute__»
  refine wpAny_bind (wpAny_of_eq (a := ((Value.ref x : Value), [Value.str "__class__" t])) (by first | rfl | (simp only [slotArgs]; rfl)) ?_)
  refine wpAny_bind (wpAny_pure (wpAny_bind (L0.at (wpAny_bind (L3.at ?_)))))
  show wpAny _ _ (holding [Value.builtin "object.__class__"] (call (.builtin "getset_descriptor.__get__") [.builtin "object.__class__", .ref x, .ref D]) >>= ret) _ _ _
  refine wpAny_bind (wpAny_holding (wpAny_call (class_get (s := ⟨hp, g, d, t + 1, os⟩) (ox := ox) (od := od) X I hm ?_)))
  refine wpAny_pure ?_
  show wpAny _ _ (handedOut (.ref D)) _ _ _
  rw [handedOut_of (v := .ref D) rfl]
  first
    | exact wpAny_pure (wpAny_pure h)
    | exact wpAny_pure h
    | exact wpAny_pure (wpAny_bind (wpAny_pure (wpAny_pure h)))
theorem tt_kitx_exc {od : Option Obj} (hga : findIn K (.ref D) "__getattribute__" = some (some (.builtin "BaseException.__getattribute__"))) (hgt : findIn K (.ref D) "__getattr__" = some none) (hsub : subIn K (.ref D) (.type "BaseException") = some true) (hdct : hasDictIn K D = true) (ha : findIn K (.ref D) "__class__" = some (some (.builtin "object.__class__")))
    (hn : specialIn K (.builtin "object.__class__") "__get__" = some (some (.builtin "getset_descriptor.__get__"))) (htk : takesIn K (.builtin "object.__class__") = some true) (hm : mroIn K D (.type "object") = some true) :
    KitX K (.ref x) (.ref D) (fun h => InstAt h x ox D od) where
  ty := fun _ _ _ I => I.type
  it := fun _ _ X _ => by
    obtain ⟨cdD, hcD, _⟩ := any_some hdct
    unfold clsIn at hcD
    split at hcD
    · rename_i c' d' cd' sl' ho
      intro A' Q' E' s' k q
      unfold isType loadHead
      exact wpAny_bind (wpAny_loadPart (k _ _ (X _ _ ho)) (wpAny_pure q))
    · cases hcD
  ne := fun h tp dd its n sl X htp => by
    obtain ⟨cdD, hcD, _⟩ := any_some hdct
    refine Bool.eq_false_iff.mpr fun q => ?_
    have e : D = tp := Value.ref.inj (beq_iff_eq.mp q)
    subst e
    unfold clsIn at hcD
    split at hcD
    · rename_i c' d' cd' sl' ho
      have z := (X _ _ ho).symm.trans htp
      cases z
    · cases hcD
  ca := fun X I k => tt_kin_classE hga hgt hsub hdct ha hn htk hm X I k
end
end PySem.W
namespace L2
open PySem PySem.Spec PyProof.Rows
def exh (cls : Value) (d : Option Addr) (a : Addr) : HO := .ext fun h => ∃ (oe : Obj) (vs : Array Value), h.get? a = some oe ∧ Zc cls d oe ∧ oe.data = .fields vs
theorem exh_ok {P : Program} {w : World} {H : Hp} {h : Heap} {a : Addr} {cls : Value} {d : Option Addr} {oe : Obj} {vs : Array Value} (e : h.get? a = some oe) (z : Zc cls d oe) (hd : oe.data = .fields vs) : ObjOk P w H h a (exh cls d a) :=
  ⟨⟨oe, vs, e, z, hd⟩, ⟨oe, e⟩, fun _ _ ⟨o, v, q, r⟩ k => ⟨o, v, k o q, r⟩⟩
theorem exh_at {P : Program} {w : World} {H : Hp} {h : Heap} {a : Addr} {cls : Value} {d : Option Addr} (hok : HOk P w H h) (e : H a = some (exh cls d a)) : ∃ (oe : Obj) (vs : Array Value), h.get? a = some oe ∧ Zc cls d oe ∧ oe.data = .fields vs := by
  have x : ObjOk P w H h a (.ext fun h => ∃ (oe : Obj) (vs : Array Value), h.get? a = some oe ∧ Zc cls d oe ∧ oe.data = .fields vs) := hok a _ e
  exact x.1
def XdOk (H : Hp) (d : Option Addr) : Prop := d = none ∨ ∃ (dd : Addr) (fs : List (Str × V)), d = some dd ∧ H dd = some (.xd fs)
section
variable {X : Cx} {pins : List (Addr × Obj)} {σ : St} {H : Hp} {s : Shared}
theorem exh_inst {a D : Addr} {d : Option Addr} (I : Inv X pins σ H s) (e : H a = some (exh (.ref D) d a)) (hd : XdOk H d) : ∃ (oe : Obj) (od : Option Obj), PySem.W.InstAt s.heap a oe D od := by
  obtain ⟨⟨oc, odc, oda, osl⟩, vs, h1, ⟨h2, h3⟩, h4⟩ := exh_at I.hok e
  dsimp only at h2 h3 h4
  subst h2 h3 h4
  rcases hd with rfl | ⟨dd, fs, rfl, ed⟩
  · exact ⟨_, none, ⟨h1, rfl, rfl, trivial⟩⟩
  · have hx : ObjOk X.prog X.w H s.heap dd (.xd fs) := I.hok dd _ ed
    obtain ⟨mA, ⟨o, _, _, ho, _⟩, _⟩ := hx
    exact ⟨_, some o, ⟨h1, rfl, rfl, ho⟩⟩
def rIsH (K : PySem.W.Frag) : List V → Hp → VK → Prop := fun xs H Q => ∃ (a D : Addr) (d : Option Addr) (c : V) (cv : Value) (b : Bool), xs = [.ref a, c] ∧ H a = some (exh (.ref D) d a) ∧ XdOk H d ∧ ExcC K D ∧ ClsV c cv ∧ PySem.W.kitOne K (.ref D) cv = some b ∧ Q (.bl b) H
theorem call_isH : CallR X (.builtin "isinstance") (rIsH X.K) := by
  intro pins s σ H xs us Q I r h
  obtain ⟨a, D, d, c, cv, b, rfl, ea, hd, C, hc, e, q⟩ := h
  cases r with
  | cons rx rr =>
    cases rr with
    | cons rt rr =>
      cases rr
      cases rx
      have ec := hc.eq rt
      subst ec
      obtain ⟨oe, od, J⟩ := exh_inst I ea hd
      exact PySem.W.kia_one (PySem.W.tt_kitx_exc C.hg C.hk C.hs C.hd C.ha C.hn C.ht C.hm) I.kIn J e (fun z => nomatch z) fun tk => ⟨.bl b, H, I.kept (t' := tk) fun _ _ z => z, rfl, q⟩
def rIsA (K : PySem.W.Frag) : List V → Hp → VK → Prop := fun xs H Q => rIsH K xs H Q ∨ rIsi K xs H Q
theorem call_isA : CallR X (.builtin "isinstance") (rIsA X.K) := by
  intro pins s σ H xs us Q I r h
  rcases h with h | h
  · exact call_isH pins s σ H xs us Q I r h
  · exact call_isi pins s σ H xs us Q I r h
def tXfH (K : PySem.W.Frag) (n : Str) (te : TE) : TE := fun σ H Q => te σ H fun x H1 => ∃ (a C dd : Addr) (fs : List (Str × V)) (v : V), x = .ref a ∧ H1 a = some (exh (.ref C) (some dd) a) ∧ H1 dd = some (.xd fs) ∧ XfC K C ∧ PySem.W.findIn K (.ref C) n = some none ∧ fs.lookup n = some v ∧ Q v H1
theorem pe_xfH {e : Expr} {te : TE} {pos : Pos} {n : Str} (he : PE X e te) (hb : attributeBase e n X.env (eval e X.env) = eval e X.env := by rfl) :
    PE X (.Attribute e n pos) (tXfH X.K n te) := by
  refine ⟨fun pins s σ H Q I h => ?_⟩
  refine attr_of hb (thn (he.run pins s σ H _ I h) fun u s1 hh => ?_)
  obtain ⟨x, H1, I1, rx, a, C, dd, fs, v, ex, ea, ed, T, hno, l, q⟩ := hh
  subst ex
  obtain rfl : u = Value.ref a := rx
  obtain ⟨oe, vs, ha, hz, hd⟩ := exh_at I1.hok ea
  have hx : ObjOk X.prog X.w H1 s1.heap dd (.xd fs) := I1.hok dd _ ed
  obtain ⟨mA, hns, hr⟩ := hx
  obtain ⟨od, ho, hl⟩ := lookIn_ns hns
  obtain ⟨u, hu, ru⟩ := RelO.some_of (v := v) (o := mA n) (by rw [← l]; exact hr n)
  have J : PySem.W.InstAt s1.heap a oe C (some od) := ⟨ha, hz.1, by unfold PySem.W.notCls; rw [hd] <;> rfl, by rw [hz.2]; exact ho⟩
  exact HandSPX.exc_get I1.kIn J T.ga T.gg T.exC (PySem.W.findObj_own T.hdC hno rfl (by rw [hl, hu])) (handed_of ru) ⟨v, H1, I1.tok _, ru, q⟩
theorem Inv.adopt {a : Addr} {o : Obj} {φ : Heap → Prop} (I : Inv X pins σ H s) (he : s.heap.get? a = some o) (na : H a = none) (n0 : X.s_0.heap.get? a = none) (nL : a ≠ X.env.locals) (np : ∀ p ∈ X.pn ++ pins, p.1 ≠ a)
    (nc : ∀ x c, X.env.cells.lookup x = some c → c ≠ a) (ok : ObjOk X.prog X.w (upd H a (.ext φ)) s.heap a (.ext φ)) : Inv X pins σ (upd H a (.ext φ)) s := by
  refine ⟨I.ok, I.os, I.bare, ⟨I.base.keep, I.base.slot, fun b u q n hx => ?_, I.base.there, fun b xs q => ?_, fun b u v q => ?_, fun b ps q => ?_⟩, I.loc, I.cell, ?_, fun x c e => ?_, fun p hp => ?_, fun b u e => ?_, I.len⟩
  · rw [upd_ne (fun z => by rw [z, n0] at q; cases q)]
    exact I.base.free b u q n hx
  · have z := I.base.tups b xs q
    rw [upd_ne (ne_of_none z na)]
    exact z
  · have z := I.base.frzs b u v q
    rw [upd_ne (ne_of_none z na)]
    exact z
  · obtain ⟨m, z⟩ := I.base.tbls b ps q
    exact ⟨m, by rw [upd_ne (ne_of_none z na)]; exact z⟩
  · rw [upd_ne nL.symm]
    exact I.free
  · rw [upd_ne (nc x c e)]
    exact I.freeC x c e
  · obtain ⟨e1, e2, e3⟩ := I.pin p hp
    exact ⟨e1, by rw [upd_ne (np p hp)]; exact e2, e3⟩
  · by_cases hb : b = a
    · subst hb
      rw [upd_same] at e
      cases e
      exact ok
    · rw [upd_ne hb] at e
      exact (I.hok b u e).stay (fun c v _ q => q) (fun c q => by rw [upd_ne (ne_of_none q na)]; exact q) fun c xs q => by rw [upd_ne (ne_of_none q na)]; exact q
end
end L2
set_option maxRecDepth 100000
set_option maxHeartbeats 4000000
namespace L2
open PySem PySem.Spec PyProof.Rows
def wKeep (K : PySem.W.Frag) (c : Value) (i : Nat) (ts : Addr → Value → Option Addr → TS) (Wout : WX) (D : Ends) : WX := fun cls d σ H =>
  ∃ b, PySem.W.exmOne K cls c = some b ∧ (b = true → ∀ a, H a = none → ts a cls d { nx := fun σ' H' => H' a = none ∧ D.nx (σ'.set i none) (upd H' a (exh cls d a)), rt := fun _ _ => False, bk := fun _ _ => False, ct := fun _ _ => False } (σ.set i (some (.ref a))) H) ∧
    (b = false → Wout cls d σ H)
section
variable {X : Cx} {x n : Str} {c : Value} {i : Nat} {body suite : List Stmt} {b₀ : Stmt} {np pos pos' : Pos} {tb : WX → TS} {ts : Addr → Value → Option Addr → TS} {Wout : WX}
theorem ps_try_keep (hs : X.stack = X.env :: X.outer) (hf : X.env.frame = some X.env.locals) (hex : X.ex = []) (hN : X.N.Nodup) (hi : X.N[i]? = some n) (hln : X.env.kindOf n = some .local) (hc : Names X x c) (tk : Takes X Wout)
    (hb : ∀ (W : WX) (pn : List (Addr × Obj)) (xe : Value → Shared → Prop), Takes (X.tr pn xe) W → PassesOwn (model X.prog X.w) X.A X.env xe → PSs (X.tr pn xe) body (tb W))
    (hsu : ∀ (a : Addr) (oe : Obj) (cls : Value) (d : Option Addr) (pn : List (Addr × Obj)), Zc cls d oe → (∃ vs, oe.data = .fields vs) → PSs (X.suite a ((a, oe) :: pn)) (b₀ :: suite) (ts a cls d)) :
    PS X (.Try body [.ExceptHandler (some (.Name x np)) (some n) (b₀ :: suite) pos'] [] [] pos) (fun D σ H => tb (wKeep X.K c i ts Wout D) D σ H) := by
  refine ⟨fun pins s σ H D I h => ?_⟩
  have ok := I.ok
  have hfr : X.A.frames = some (X.env :: X.outer) := by rw [ok.frames, hs]
  have hloc : Loc X.env.scope n := .inl hln
  refine wpAny_Try_except ?_
  refine wpAny_mono ((hb (wKeep X.K c i ts Wout D) (X.pn ++ pins) (fun e s₁ => wpAny (model X.prog X.w) X.A (noteFrame e X.env) (fun _ s₂ => wpAny (model X.prog X.w) X.A (setFlight e none) (fun _ s₃ =>
    wpAny (model X.prog X.w) X.A (handleBy e X.env [.ExceptHandler (some (.Name x np)) (some n) (b₀ :: suite) pos']) (SP X pins D) X.xe s₃) X.xe s₂) X.xe s₁) (fun u s' xx => ?_) PassesOwn.looking).run [] s σ H D (I.toTry _) h) (fun f s1 hsp => ?_) (fun e s1 he => he)
  ·
    obtain ⟨a, B, sI, pins', σ', H', cls, d, rfl, J', nb, up, sky, na, os, ag, b, hb1, hyes, hno⟩ := xx
    have J : Inv X pins σ' H' sI := J'.ofTry ok
    have sky' : Sky B (X.env :: X.outer) a (Zc cls d) X.env.locals s'.heap := by rw [← hs]; exact sky
    show wpAny (model X.prog X.w) X.A (noteFrame (.ref a) X.env) _ _ _
    refine Sky.land Zc.steady hfr hf sky' fun h3 fl3 up3 => ?_
    have J3 : Inv X pins σ' H' { s' with heap := h3 } := J.landed nb fl3.1 (up.trans up3) os ag
    obtain ⟨oe3, vs3, he3, hz3, hd3⟩ := fl3.there
    have notFr : ∀ {h : Heap} {o : Obj} {vs : Array Value}, h.FunFrames B (X.env :: X.outer) → h.get? a = some o → o.data = .fields vs → a ∉ frs (X.env :: X.outer) := fun {h o vs} ff e dd hm => by
      obtain ⟨_, o', e', hnf⟩ := ff.mem hm
      rw [e] at e'; cases e'
      exact hnf _ dd
    have nfr := notFr fl3.2.2.1 he3 hd3
    have nL : a ≠ X.env.locals := fun z => nfr (List.mem_filterMap.mpr ⟨X.env, List.mem_cons_self, by rw [hf, z]⟩)
    have nF : a ∉ X.fs := fun hm => by
      obtain ⟨e, he, q⟩ := List.mem_filterMap.mp hm
      exact nfr (List.mem_filterMap.mpr ⟨e, List.mem_cons_of_mem _ he, q⟩)
    have nB : B.get? a = none := fl3.2.1
    have nfr' : a ∉ frs X.stack := by rw [hs]; exact nfr
    have nI : sI.heap.get? a = none := by
      cases q : sI.heap.get? a with
      | none => rfl
      | some o =>
        have z := nb a o q nfr'
        rw [nB] at z
        cases z
    have n0 : X.s_0.heap.get? a = none := by
      cases q : X.s_0.heap.get? a with
      | none => rfl
      | some o =>
        obtain ⟨o', q'⟩ := J.base.there a o q (by rw [hex]; exact fun z => nomatch z)
        rw [nI] at q'
        cases q'
    have npin : ∀ p ∈ X.pn ++ pins, p.1 ≠ a := fun p hp z => by
      obtain ⟨e, _⟩ := J.pin p hp
      rw [z, nI] at e
      cases e
    have S3 := J3.suite he3 hd3 na nL nF
    refine wpAny_handleBy_cons (codeAny_handlers_test ?_) (by intro q; cases q)
    have LT : PySem.W.Looks (model X.prog X.w) h3 (typeOf (.ref a)) cls := fun A Q E s k q => wpAny_typeOf_ref (k _ _ he3) (by rw [hz3.1]; exact q)
    have LM := PySem.W.exm_one (M := model X.prog X.w) (J3.kIn) LT hb1
    have test : ∀ {Q : Value → Shared → Prop} {E : Value → Shared → Prop}, Q c { s' with heap := h3 } → wpAny (model X.prog X.w) (X.A.mark (some (.ref a))) (eval (.Name x np) X.env) Q E { s' with heap := h3 } := fun {Q E} q => by
      obtain ⟨hg, hdbg, hm | ⟨hm, hv, hnn⟩⟩ := hc
      · exact ld_glob (X := X.suite a ((a, oe3) :: (X.pn ++ pins))) S3 hg hm q hdbg
      · exact ld_blt (X := X.suite a ((a, oe3) :: (X.pn ++ pins))) S3 hg hm hv q hnn hdbg
    refine test (LM.here ?_)
    cases b with
    | true =>
      refine codeAny_handlers_suite_as ?_
      refine HandSPX.lands_againZ fl3 fun h4 fl4 up4 => ?_
      have J4 : Inv X pins σ' H' { s' with heap := h4 } := J.landed nb fl4.1 ((up.trans up3).trans up4) os ag
      obtain ⟨oe4, vs4, he4, hz4, hd4⟩ := fl4.there
      have S4 := J4.suite he4 hd4 na nL nF
      refine store_ok (X := X.suite a ((a, oe4) :: (X.pn ++ pins))) (v := .ref a) S4 hN hi hloc rfl (fun s5 S5 => ?_) (.inr hln)
      refine wpAny_mono ((hsu a oe4 cls d (X.pn ++ pins) hz4 ⟨_, hd4⟩).run [] s5 _ H' _ S5 (hyes rfl a na)) (fun f s6 hsp => ?_) (fun _ _ z => False.elim z)
      cases f with
      | next =>
        obtain ⟨σ6, H6, S6, n6, q6⟩ := hsp
        obtain ⟨he6, _⟩ := S6.pin (a, oe4) (List.mem_append.mpr (.inl List.mem_cons_self))
        have J6 : Inv X pins σ6 H6 s6 := S6.unsuite ok
        have nc : ∀ y c, X.env.cells.lookup y = some c → c ≠ a := fun y c e z => by
          obtain ⟨v, o, ho, hv⟩ := J6.cell y c e
          rw [z, he6] at ho
          cases ho
          rw [hd4] at hv
          cases hv
        have J7 : Inv X pins σ6 (upd H6 a (exh cls d a)) s6 := J6.adopt he6 n6 n0 nL npin nc (exh_ok he6 hz4 hd4)
        exact gone_ok J7 hN hi hln fun s7 J8 => ⟨_, _, J8, q6⟩
      | brk =>
        obtain ⟨σ6, H6, S6, q6⟩ := hsp
        exact False.elim q6
      | cont =>
        obtain ⟨σ6, H6, S6, q6⟩ := hsp
        exact False.elim q6
      | ret u =>
        obtain ⟨v6, σ6, H6, S6, r6, q6⟩ := hsp
        exact False.elim q6
    | false =>
      show wpAny _ X.A (handleBy (.ref a) X.env []) _ _ _
      refine wpAny_handleBy_nil ?_
      obtain ⟨k1, k2, k3, oe, vs, T, oT, ts', he, hz, hd, h1, hr⟩ := id fl3
      unfold PySem.passOn
      refine wpAny_bind (wpAny_field he hd h1 ?_)
      rw [if_neg (show ¬ ((Value.ref T == Value.none) = true) from by simp)]
      have fin : wpAny (model X.prog X.w) X.A (setFlight (.ref a) X.env.frame) (fun _ s4 => wpAny (model X.prog X.w) X.A (throw (.ref a) : Sem Flow) (SP X pins D) X.xe s4) X.xe { s' with heap := h3 } := by
        rw [hf]
        refine HandSPX.setFlight_upZ fl3 fun h4 hh4 up4 => wpAny_throw (tk _ _ ?_)
        exact ⟨a, B, sI, pins, σ', H', cls, d, rfl, J, nb, (up.trans up3).trans up4, .inr (.inr (by rw [hs]; exact hh4)), na, os, ag, hno rfl⟩
      first
        | exact wpAny_bind (wpAny_pure (wpAny_bind fin))
        | exact wpAny_bind fin
  · cases f with
    | next =>
      obtain ⟨σ', H', J', q⟩ := hsp
      exact wpAny_execs_nil ⟨σ', H', J'.ofTry ok, q⟩
    | brk =>
      obtain ⟨σ', H', J', q⟩ := hsp
      exact ⟨σ', H', J'.ofTry ok, q⟩
    | cont =>
      obtain ⟨σ', H', J', q⟩ := hsp
      exact ⟨σ', H', J'.ofTry ok, q⟩
    | ret u =>
      obtain ⟨v, σ', H', J', r, q⟩ := hsp
      exact ⟨v, σ', H', J'.ofTry ok, r, q⟩
end
end L2
set_option maxRecDepth 100000
set_option maxHeartbeats 4000000
namespace LamX
open PySem PySem.Spec PyProof.Rows L2
section
variable {X : Cx} {pins : List (Addr × Obj)} {σ : L2.St} {H : Hp} {s : Shared}
theorem tt_act {CXg : CXT} {Eg : XK} {names : List Str} {qg : Str} {sg : Scope} {g fl co : Addr} {cdg pm ctv : Value} {ps : Arguments} {bd : Expr} {lsc : Scope} {k i : Nat} {a : Str} {pn : List (Addr × Obj)} {xe : Value → Shared → Prop} {W : WX} {Ew : L2.St → XK} {rd : XK → TE} {p1 p2 : Pos}
    (I : Inv X pins σ H s) (L : LamS X.env.scope lsc) (h1 : s.heap.get? fl = some (PySem.W.kla_obj "<lambda>" (X.env.qual ++ "<lambda>") ps bd lsc (cloFrom X.env.cells lsc.names []) pm co ctv)) (h2 : H fl = none) (h3 : fl ∉ frs X.stack)
    (noArgs : bindArgs (PySem.W.kla_fn "<lambda>" (X.env.qual ++ "<lambda>") ps bd lsc (cloFrom X.env.cells lsc.names []) pm (.ref co) ctv) ⟨[], []⟩ = pure [])
    (tk : Takes ((cxOf CXg X.prog X.w X.K X.mg X.base names qg sg g cdg X.A X.stack s H Eg).tr pn xe) W) (wish : ∀ τ cls d H', Ew τ cls d H' → W cls d τ H') (room : Room (k + 1) (X.A.deeper (envOfC qg sg s.heap.objs.size g cdg)))
    (body : ∀ (E : XK) (A : Around) (outer : List Env) (s : Shared) (H : Hp), Room k (A.deeper (lamEnv X lsc s.heap.objs.size fl co)) → PE (lamCx X A outer s H E lsc fl co) bd (rd E))
    (at_ : names[i]? = some a) (vis : Vis sg a) (n1 : (a == ("__debug__" : Str)) = false) (n2 : (a == ("__classdict__" : Str)) = false) :
    PE ((cxOf CXg X.prog X.w X.K X.mg X.base names qg sg g cdg X.A X.stack s H Eg).tr pn xe) (.Call (.Name a p1) [] [] p2)
      (fun τ G Q => τ[i]? = some (some (.ref fl)) ∧ G co = some (CodeO co (X.env.qual ++ "<lambda>")) ∧ rd (Ew τ) σ G Q) := by
  refine ⟨fun pz sz τ G Q J hyp => ?_⟩
  obtain ⟨slot, code, want⟩ := hyp
  have load := (pe_var (pos := p1) (i := i) at_ vis n1 n2).run pz sz τ G (fun v G' => v = .ref fl ∧ G' = G) J ⟨.ref fl, slot, rfl, rfl⟩
  refine wpAny_Call_Name_kw (thn load fun u s1 ⟨v, G', J1, ru, ev, eG⟩ => ?_)
  subst ev eG
  obtain rfl : u = Value.ref fl := ru
  have here : s1.heap.get? fl = some (PySem.W.kla_obj "<lambda>" (X.env.qual ++ "<lambda>") ps bd lsc (cloFrom X.env.cells lsc.names []) pm co ctv) := J1.base.keep fl _ h1 h2 h3 (fun z => nomatch (show fl ∈ ([] : List Addr) from z))
  refine PySem.W.callWith_F0 ⟨_, _, _, _, here⟩ ?_
  have since : Un (frs X.stack) [] H G' s.heap s1.heap := J1.base
  obtain ⟨⟨oc, fields, tok, ho, hf, hq⟩, _, _⟩ := J1.hok co _ code
  have run : codeAny (model X.prog X.w) (X.A.deeper (envOfC qg sg s.heap.objs.size g cdg)) (.call (.ref fl) ⟨[], []⟩) (CR (L2.CX X.prog X.w) (envOfC qg sg s.heap.objs.size g cdg :: X.stack) X.prog X.w G' s1 Q (Ew τ)) s1 := by
    refine PySem.W.kla_callFunE room.depth here rfl L.co L.gen rfl ⟨co, oc, fields, tok, rfl, ho, hf, hq⟩ ?_
    rw [noArgs]
    refine wpAny_pure (wpAny_newFunctionEnv (fun y hy => (L.own y hy).2) (fun y hy => absurd hy (by simp)) (fun h' ns but => ⟨J1.nolimit.fresh _ but, ?_⟩) L.kind)
    have stays : ∀ b o, s1.heap.get? b = some o → h'.get? b = some o := fun b o e => but.extBut b o (Nat.ne_of_lt (Heap.lt_size e)) (Heap.get?_push_of_some _ e)
    have start : Inv (lamCx X (X.A.deeper (envOfC qg sg s.heap.objs.size g cdg)) (envOfC qg sg s.heap.objs.size g cdg :: X.stack) s1 G' (Ew τ) lsc fl co) [] σ G' { s1 with heap := h', toks := s1.toks + ([] : List (Str × Value)).length } :=
      lam_start2 I L J1.env0 room.hd since ns stays
    show codeAny _ _ (.expr bd (lamEnv X lsc s1.heap.objs.size fl co)) _ _
    refine PySem.W.kla_codeExpr (wpAny_mono ((body (Ew τ) _ _ s1 G' (room.deeper _)).run [] _ _ G' Q start want) (fun v s' ⟨x, G2, J2, rx, q⟩ => ?_) fun e s' q => q)
    exact ⟨x, G2, J2.os, J2.bare, J2.base, J2.hok, rx, q⟩
  refine wpAny_call (codeAny_mono run fun r s' q => ?_)
  match r with
  | .error e => exact tk e s' (XE.of_call J1 (fun cls d G2 z => wish τ cls d G2 z) q)
  | .ok (.ret u) => exact J1.after q
  | .ok .next => exact False.elim q
  | .ok .brk => exact False.elim q
  | .ok .cont => exact False.elim q
end
def GivesToS (X : Cx) (names : List Str) (x : Str) (sg : Scope) (g : Addr) (cdg : Value) (bg : List Stmt) (a : Str) (q : Str) (TT : (XK → Hp → VK → Prop) → Hp → VK → Prop) : Prop :=
  ∀ (fl co : Addr) (s : Shared) (H : Hp) (Q : VK) (tl : XK → Hp → VK → Prop),
    (∀ (W : WX) (pn : List (Addr × Obj)) (xe : Value → Shared → Prop) (Ew : L2.St → XK) (p1 p2 : Pos), Takes ((cxOf C8.CX0 X.prog X.w X.K X.mg X.base names x sg g cdg X.A X.stack s H C8.E0).tr pn xe) W → (∀ τ cls d H', Ew τ cls d H' → W cls d τ H') →
      PE ((cxOf C8.CX0 X.prog X.w X.K X.mg X.base names x sg g cdg X.A X.stack s H C8.E0).tr pn xe) (.Call (.Name a p1) [] [] p2) (fun τ G Q => τ[0]? = some (some (.ref fl)) ∧ G co = some (CodeO co q) ∧ tl (Ew τ) G Q)) →
    H co = some (CodeO co q) → TT tl H Q →
    ∃ t, PSs (cxOf C8.CX0 X.prog X.w X.K X.mg X.base names x sg g cdg X.A X.stack s H C8.E0).nox bg t ∧ t { nx := fun _ H' => Q .non H', rt := Q } (L2.start names [.ref fl]) H
section
variable {X : Cx}
theorem tt_lamcall {T : List (Addr × Str)} {TT : (XK → Hp → VK → Prop) → Hp → VK → Prop} {x a : Str} {g c P : Addr} {k : Nat} {pg : Arguments} {bg : List Stmt} {sg : Scope} {dV kV doc pm cdv ct oc : Value} {an od : Option Addr} {osl : Array (Option Value)} {names : List Str}
    {ps : Arguments} {bd : Expr} {lsc : Scope} {t : XK → TE} {p lpos pos : Pos} (hg : Gl X x) (hm : X.mg x = some (.ref g)) (hk : PySem.W.keepIn X.K (.ref g) = true)
    (lk : X.K.lookup g = some ⟨oc, od, .func (PySem.W.fnOf x x pg bg sg dV kV doc pm an cdv ct), osl⟩) (hcg : PySem.W.codeIn X.K cdv x = true) (hb : L2.Binds X.K (PySem.W.fnOf x x pg bg sg dV kV doc pm an cdv ct) [a] []) (Sg : FnScope names [a] sg) (at_ : names[0]? = some a) (vis : Vis sg a)
    (hG : GivesToS X names x sg g cdv bg a (X.env.qual ++ "<lambda>") TT)
    (TB : TabB X.base X.mg c P) (hcode : X.env.code = .ref c) (hmT : (P, X.env.qual ++ "<lambda>") ∈ T) (hu : ∀ p ∈ T, p.1 = P → p.2 = X.env.qual ++ "<lambda>") (hr : Room (k + 2) X.A) (L : LamS X.env.scope lsc) (hdef : defaultsOf ps X.env = ([], []))
    (noArgs : ∀ (q : Str) (cl : List (Str × Addr)) (pm cv ctv : Value), bindArgs (PySem.W.kla_fn "<lambda>" q ps bd lsc cl pm cv ctv) ⟨[], []⟩ = pure [])
    (body : ∀ (A : Around) (outer : List Env) (s : Shared) (H : Hp) (E : XK) (fl co : Addr), Room k (A.deeper (lamEnv X lsc s.heap.objs.size fl co)) → PE (lamCx X A outer s H E lsc fl co) bd (t E))
    (n0 : (x == ("__debug__" : Str)) = false := by decide) (n1 : (a == ("__debug__" : Str)) = false := by decide) (n2 : (a == ("__classdict__" : Str)) = false := by decide) :
    PE X (.Call (.Name x p) [.Lambda ps bd lsc lpos] [] pos) (tLam T TT t) := by
  refine ⟨fun pins s σ H Q I hyp => ?_⟩
  obtain ⟨tabs, want⟩ := hyp
  refine wpAny_Call_Name_kw (ld_glob I hg hm ?_ n0)
  refine PySem.W.callWith_K (h₀ := X.base) I.ok.mod.kin hk ?_ (by rfl) (by rfl)
  show wpAny _ _ (spliced ((false, eval (.Lambda ps bd lsc lpos) X.env) :: backTo pos (starEach [] X.env))) _ _ s
  refine Calls.spliced_cons (lam_make2 I TB hcode hmT hu tabs hdef (L.has I.ok) fun fl co pm' ctv G s' J eN tabs' f1 f2 f3 fc => ?_)
  refine Calls.spliced_nil ⟨J.kIn, ?_⟩
  have run : codeAny (model X.prog X.w) X.A (.call (.ref g) ⟨[.ref fl], []⟩) (CR C8.CX0 X.stack X.prog X.w G s' Q C8.E0) s' := by
    refine run_ofS (N := names) (ps := [a]) (us := [.ref fl]) (vs := [.ref fl]) lk hcg Sg hr J.env0 (hb s' [.ref fl] J.kIn rfl) (.cons rfl .nil) rfl fun hr' => ?_
    obtain ⟨t', ht', hq'⟩ := hG fl co s' G Q (fun E G' Q' => t E σ G' Q') (fun W pn xe Ew p1 p2 tk wish => tt_act (i := 0) J L f1 f2 f3 (noArgs _ _ _ _ _) tk wish hr' (fun E A outer s H room => body A outer s H E fl co room) at_ vis n1 n2) fc (want G eN tabs')
    exact ⟨t', ht'.nox, hq'⟩
  refine wpAny_call (codeAny_mono run fun r s2 q => ?_)
  match r with
  | .error e => exact (show False from q).elim
  | .ok (.ret u) => exact J.after q
  | .ok .next => exact False.elim q
  | .ok .brk => exact False.elim q
  | .ok .cont => exact False.elim q
end
end LamX
set_option maxRecDepth 100000
set_option maxHeartbeats 4000000
namespace L2
open PySem PySem.Spec PyProof.Rows HT
section
variable {X : Cx} {K : PySem.W.Frag}
def FzT (H : Hp) (a : Addr) (xs : List V) : Prop := ∃ ob : Obj, H a = some (.frz ob (.tup xs)) ∧ ob.dict = none
theorem FzT.sq {H : Hp} {a : Addr} {xs : List V} (h : FzT H a xs) : SqT K H a xs := by
  obtain ⟨ob, h, _⟩ := h
  exact .inl (.inr ⟨ob, h⟩)
theorem FzT.new {H : Hp} {p : Addr} {ob : Obj} {xs : List V} (h : ob.dict = none) : FzT (upd H p (.frz ob (.tup xs))) p xs := ⟨ob, upd_same, h⟩
def NwT (H : Hp) (xs : List V) (Q : VK) : Prop := ∀ (p : Addr) (ob : Obj), H p = none → ob.dict = none → Q (.ref p) (upd H p (.frz ob (.tup xs)))
def rTupF (K : PySem.W.Frag) : List V → Hp → VK → Prop := fun xs H Q => ∃ p ys, xs = [.ref p] ∧ ((SqL K H p ys ∧ NwT H ys Q) ∨ (SqT K H p ys ∧ Q (.ref p) H))
theorem call_tuple_ofF : CallR X (.type "tuple") (rTupF X.K) := by
  intro pins s σ H xs us Q I r h
  obtain ⟨p, ys, rfl, h⟩ := h
  obtain ⟨u, rfl, rx⟩ := vals1 r
  cases rx
  rcases h with ⟨hq, q⟩ | ⟨hq, q⟩
  · obtain ⟨its, rv, pl, hz⟩ := I.list hq
    have hn := rv.length
    refine call_tuple_list pl.isList (fun h' kp => ?_) (by simp only [List.size_toArray] <;> omega)
    have J : Inv X pins σ H { s with heap := h' } := I.kept (t' := s.toks) kp
    have J2 : Inv X pins σ (upd H h'.objs.size (.frz { cls := .type "tuple", data := .seq its.toArray } (.tup ys))) { s with heap := h'.push { cls := .type "tuple", data := .seq its.toArray } } :=
      J.laid (t' := s.toks) (fun b o e => Heap.get?_push_of_some _ e) (Nat.le_refl _) ⟨Heap.get?_push_size _ rfl, hz, its, rv, IsTup.new _ _⟩
    exact ⟨.ref h'.objs.size, _, J2, rfl, q _ _ (J.hok.fresh (Nat.le_refl _)) rfl⟩
  · obtain ⟨its, rv, pl, hz⟩ := I.tuple hq
    exact call_tuple_same pl ⟨.ref p, H, I, rfl, q⟩
def rCatF (K : PySem.W.Frag) : R2 := fun x y H Q => ∃ a b xs ys, x = .ref a ∧ y = .ref b ∧ SqT K H a xs ∧ SqT K H b ys ∧ xs ≠ [] ∧ xs.length + ys.length ≤ sizeLine ∧
  (ys = [] → Q (.ref a) H) ∧ (ys ≠ [] → NwT H (xs ++ ys) Q)
theorem op_catF : OpR X (binaryOp .Add) (rCatF X.K) := by
  intro pins s σ H x y v u Q I rx ry h
  obtain ⟨a, b, xs, ys, rfl, rfl, ha, hb, hx, hz, q1, q2⟩ := h
  cases rx
  cases ry
  obtain ⟨its, r1, p1, _⟩ := I.tuple ha
  obtain ⟨its2, r2, p2, _⟩ := I.tuple hb
  refine HT.cat_tup p1 p2 (fun z => hx (r1.nil_iff.mp z)) (fun z => ⟨.ref a, H, I, rfl, q1 (r2.nil_iff.mp z)⟩) (fun z => ?_) (by rw [← r1.length, ← r2.length]; exact hz)
  refine ⟨.ref s.heap.objs.size, _, I.laid (t' := s.toks) (fun b ob q => Heap.get?_push_of_some _ q) (Nat.le_refl _) ?_, rfl, q2 (fun w => z (r2.nil_iff.mpr w)) _ { cls := .type "tuple", data := .seq (its ++ its2).toArray } (I.hok.fresh (Nat.le_refl _)) rfl⟩
  exact ⟨Heap.get?_push_size _ rfl, by rw [List.length_append]; exact hz, _, r1.append r2, IsTup.new _ _⟩
def tyF (K : PySem.W.Frag) (T : String) (x : V) (H : Hp) : Prop := tyV K T x H ∨ (T = "tuple" ∧ ∃ p xs, x = .ref p ∧ FzT H p xs)
theorem tyF_is {pins : List (Addr × Obj)} {σ : St} {H : Hp} {s : Shared} {T : String} {x : V} {v : Value} (I : Inv X pins σ H s) (r : RelV x v) (ty : tyF X.K T x H) :
    s.TypeIs v T ∧ ∀ a, v = .ref a → ∃ ob, s.heap.get? a = some ob ∧ ob.dict = none := by
  rcases ty with ty | ⟨rfl, p, xs, rfl, ob, h, hd⟩
  · exact tyV_is I r ty
  · cases r
    obtain ⟨e, _, its, _, o, e2, hc, _⟩ := (show ObjOk X.prog X.w H s.heap p (.frz ob (.tup xs)) from I.hok p _ h)
    rw [e] at e2
    cases e2
    refine ⟨⟨ob, e, hc⟩, fun a z => ?_⟩
    cases z
    exact ⟨ob, e, hd⟩
def tBMF (K : PySem.W.Frag) (T : String) (r : V → List V → Hp → VK → Prop) (to : TE) (t : TA) : TE := fun σ H Q => to σ H fun x H1 => tyF K T x H1 ∧ t σ H1 fun xs H2 => r x xs H2 Q
variable {o e : Expr} {es : List Expr} {to : TE} {t : TA} {name : Str} {apos cpos : Pos} {T id : String} {r : V → List V → Hp → VK → Prop}
theorem pe_bmF (pa : PlainAttrs T) (slot : Slot T name id) (hty : typeOf (.builtin id) = pure (.type "method_descriptor")) (hm : MtR X id r) (ho : PE X o to) (ha : PA X (e :: es) t)
    (hbase : attributeBase o name X.env (eval o X.env) = eval o X.env := by rfl)
    (hfew : ((backTo cpos (starEach (e :: es) X.env)).all (fun x => !x.1) && (backToKw cpos (keywordEach [] X.env)).all (fun x => x.1.isSome)
      && decide ((e :: es).length + ([] : List Keyword).length + (if ([] : List Keyword).isEmpty then 0 else 1) < 30)) = true := by rfl)
    (hline : (apos.endLine == cpos.line) = true := by rfl) (hs : starEach (e :: es) X.env = (false, eval e X.env) :: starEach es X.env := by rfl) (hplain : (backTo cpos (starEach es X.env)).any (·.1) = false := by rfl) :
    PE X (.Call (.Attribute o name apos) (e :: es) [] cpos) (tBMF X.K T r to t) := by
  refine ⟨fun pins s σ H Q I h => ?_⟩
  refine wpAny_Call_method_late hbase hfew hline rfl (thn (ho.run pins s σ H _ I h) fun v s1 ⟨x, H1, I1, r1, ty, q1⟩ => ?_)
  obtain ⟨h1, h2⟩ := tyF_is I1 r1 ty
  refine ⟨T, id, pa, slot, hty, h1, h2, ?_⟩
  have hA := ha.run cpos pins s1 σ H1 _ I1 q1
  rw [hs] at hA ⊢
  refine Calls.callWith_builtin (by show (false || (backTo cpos (starEach es X.env)).any (·.1)) = false; rw [hplain] <;> rfl) (Calls.evalArgs_plain ?_)
  exact thn hA fun us s2 ⟨vs, H2, I2, r2, q2⟩ => hm pins s2 σ H2 x vs v us Q I2 r1 r2 q2
theorem pe_bmFK (hk : X.K = K) (pa : PlainAttrs T) (slot : Slot T name id) (hty : typeOf (.builtin id) = pure (.type "method_descriptor")) (hm : MtR X id r) (ho : PE X o to) (ha : PA X (e :: es) t)
    (hbase : attributeBase o name X.env (eval o X.env) = eval o X.env := by rfl)
    (hfew : ((backTo cpos (starEach (e :: es) X.env)).all (fun x => !x.1) && (backToKw cpos (keywordEach [] X.env)).all (fun x => x.1.isSome)
      && decide ((e :: es).length + ([] : List Keyword).length + (if ([] : List Keyword).isEmpty then 0 else 1) < 30)) = true := by rfl)
    (hline : (apos.endLine == cpos.line) = true := by rfl) (hs : starEach (e :: es) X.env = (false, eval e X.env) :: starEach es X.env := by rfl) (hplain : (backTo cpos (starEach es X.env)).any (·.1) = false := by rfl) :
    PE X (.Call (.Attribute o name apos) (e :: es) [] cpos) (tBMF K T r to t) := by
  subst hk
  exact pe_bmF pa slot hty hm ho ha hbase hfew hline hs hplain
end
end L2
set_option maxRecDepth 100000
set_option maxHeartbeats 4000000
namespace L2
open PySem PySem.Spec PyProof.Rows
def Swaps (fd : FuncData) (a b : Str) : Prop := ∀ (s : Shared) (v u : Value), BindsTo s fd ⟨[], [(b, v), (a, u)]⟩ [(a, u), (b, v)]
theorem Fun.swaps {K : PySem.W.Frag} {x qual : Str} {st : Stmt} {f : Addr} {fd : FuncData} {a b : Str} (F : Fun K x qual st f fd)
    (h : ∀ (kV doc pm : Value) (an : Option Addr) (cdv ct v u : Value), bindArgs (PySem.W.fnOf x qual (defArgs st) (defBody st) (defScope st) .none kV doc pm an cdv ct) ⟨[], [(b, v), (a, u)]⟩ = pure [(a, u), (b, v)]) : Swaps fd a b := by
  obtain ⟨oc, od, kV, doc, pm, an, cdv, ct, osl, rfl, lk, hcd⟩ := F.ex
  exact fun s v u => BindsTo.of_eq (h kV doc pm an cdv ct v u)
def tSw (sp : Sp) (E : XK) (t1 t2 : TE) : TE := fun σ H Q => tCons t1 (tCons t2 tNil) σ H fun zs H2 => sp zs.reverse H2 Q E
section
variable {X : Cx} {CX : CXT} {k : Nat} {f : Addr} {fd : FuncData} {a b : Str} {sp : Sp} {E : XK} {x : Str} {p p1 p2 pos : Pos} {e1 e2 : Expr} {t1 t2 : TE}
theorem run_sw {pins : List (Addr × Obj)} {σ : St} {H : Hp} {s : Shared} {Q : VK} {v u : V} {v' u' : Value} (F : FnOk X.prog X.w X.K X.mg X.base CX k f fd [a, b] sp) (hr : Room k X.A) (hb : Swaps fd a b) (hx : Passes CX X E)
    (I : Inv X pins σ H s) (r1 : RelV v v') (r2 : RelV u u') (h : sp [u, v] H Q E) : wpAny (model X.prog X.w) X.A (call (.ref f) [] [(b, v'), (a, u')]) (EP X pins σ Q) X.xe s := by
  refine wpAny_call (codeAny_mono (F.run X.A X.stack s H ⟨[], [(b, v'), (a, u')]⟩ [u', v'] [u, v] Q E hr I.env0 (hb s v' u') (.cons r2 (.cons r1 .nil)) h) fun r s' hq => ?_)
  cases r with
  | error e => exact hx pins σ H s e s' I hq
  | ok fl =>
    cases fl with
    | ret u => exact I.after hq
    | next => exact False.elim hq
    | brk => exact False.elim hq
    | cont => exact False.elim hq
theorem pe_callSw (F : FnOk X.prog X.w X.K X.mg X.base CX k f fd [a, b] sp) (hr : Room k X.A) (hg : Gl X x) (hm : X.mg x = some (.ref f)) (hk : PySem.W.keepIn X.K (.ref f) = true) (hb : Swaps fd a b) (hx : Passes CX X E)
    (h1 : PE X e1 t1) (h2 : PE X e2 t2) (hdb : (x == ("__debug__" : Str)) = false := by decide)
    (hall : (backToKw pos (keywordEach [⟨some b, e1, p1⟩, ⟨some a, e2, p2⟩] X.env)).all (·.1.isSome) = true := by rfl) (hks : (backToKw pos (keywordEach [⟨some b, e1, p1⟩, ⟨some a, e2, p2⟩] X.env)).filterMap (·.1) = [b, a] := by rfl)
    (hpl : ((backTo pos (starEach [] X.env)).any (·.1) || (backToKw pos (keywordEach [⟨some b, e1, p1⟩, ⟨some a, e2, p2⟩] X.env)).any (·.1.isNone)) = false := by rfl) :
    PE X (.Call (.Name x p) [] [⟨some b, e1, p1⟩, ⟨some a, e2, p2⟩] pos) (tSw sp E t1 t2) := by
  refine ⟨fun pins s σ H Q I h => ?_⟩
  refine wpAny_Call_Name_kw (ld_glob I hg hm ?_ hdb)
  refine PySem.W.callWith_KW0 (h₀ := X.base) I.ok.mod.kin hk hall ?_ hpl
  refine thn ((pk_cons h1 (pk_cons h2 pk_nil)).run pos pins s σ H _ I h) fun ws s2 ⟨zs, H2, J, rz, q⟩ => ⟨J.kIn, ?_⟩
  rw [hks]
  have hl := F.len _ _ _ _ q
  rw [List.length_reverse] at hl
  cases rz with
  | nil => exact absurd hl (by simp)
  | cons r1 rz =>
    cases rz with
    | nil => exact absurd hl (by simp)
    | cons r2 rz =>
      cases rz with
      | nil => exact run_sw F hr hb hx J r1 r2 q
      | cons r3 rz => exact absurd hl (by simp)
end
end L2
set_option maxRecDepth 100000
set_option maxHeartbeats 4000000
namespace L2
open PySem PySem.Spec PyProof.Rows
section
variable {X : Cx}
def rShow (K : PySem.W.Frag) : List V → Hp → VK → Prop := fun xs H Q => ∃ (a : Addr) (d : PyData), xs = [.ref a] ∧ Dp K H (.ref a) d ∧ d.showable = true ∧ d.hasDict = false ∧ d.depth ≤ 60 ∧ d.shown.length ≤ sizeLine ∧ Q (.str d.shown) H
theorem call_show (hg : X.A.guards = some []) (hu : X.A.units + 64 < cLine) : CallR X (.builtin "repr") (rShow X.K) := by
  intro pins s σ H xs us Q I r h
  obtain ⟨a, d, rfl, hd, h1, h2, h3, h4, q⟩ := h
  obtain ⟨u, rfl, rx⟩ := vals1 r
  cases rx
  obtain ⟨as, rd⟩ := Dp.reads I d (.ref a) (.ref a) hd rfl
  exact repr_of_reads' rd h1 (fun z => absurd (h2.symm.trans z) (by decide)) hg (by omega) (fun b o e => e) (fun h' u tk k => ⟨.str d.shown, H, I.kept (t' := tk) k, ⟨u, rfl⟩, q⟩) h4
end
end L2
set_option maxRecDepth 100000
set_option maxHeartbeats 4000000
namespace L2
open PySem PySem.Spec PyProof.Rows
open PySem.W (alike alikeAll minD min_list_data)
def rowD (m : List Int) : PyData := .tuple (m.map PyData.int)
theorem alike_ints : ∀ a b : List Int, alikeAll (a.map PyData.int) (b.map PyData.int) = true
  | [], _ => by simp [alikeAll]
  | _ :: _, [] => by simp [alikeAll]
  | x :: a, y :: b => by
    show (alike (.int x) (.int y) && alikeAll (a.map PyData.int) (b.map PyData.int)) = true
    rw [alike_ints a b]
    rfl
theorem depth_ints : ∀ a : List Int, PyData.depthAll (a.map PyData.int) = 0
  | [] => rfl
  | x :: a => by
    show max 0 (PyData.depthAll (a.map PyData.int)) = 0
    rw [depth_ints a]
    rfl
theorem depth_rows : ∀ rs : List (List Int), PyData.depthAll (rs.map rowD) ≤ 1
  | [] => Nat.zero_le _
  | r :: rs => by
    show max (PyData.depthAll (r.map PyData.int) + 1) (PyData.depthAll (rs.map rowD)) ≤ 1
    rw [depth_ints r]
    have := depth_rows rs
    omega
theorem rowD_inj {a b : List Int} (h : rowD a = rowD b) : a = b := by
  unfold rowD at h
  injection h with h
  induction a generalizing b with
  | nil =>
    cases b with
    | nil => rfl
    | cons y b => cases h
  | cons x a ih =>
    cases b with
    | nil => cases h
    | cons y b =>
      rw [List.map_cons, List.map_cons] at h
      injection h with h1 h2
      injection h1 with h1
      rw [h1, ih h2]
theorem pair_at {α β : Type} {F : α → β → Prop} : ∀ {l : List α} {k : List β}, Paired F l k → ∀ {i : Nat} {a : α} {b : β}, l[i]? = some a → k[i]? = some b → F a b
  | _, _, .nil, i, a, b, h, _ => by simp at h
  | _, _, .cons r _, 0, a, b, h, g => by
    simp at h g
    subst h
    subst g
    exact r
  | _, _, .cons _ t, i + 1, a, b, h, g => pair_at t (by simpa using h) (by simpa using g)
section
variable {X : Cx}
theorem dpAll_intsL {K : PySem.W.Frag} (H : Hp) : ∀ ls : List Int, DpAll K H (ls.map V.int) (ls.map PyData.int)
  | [] => .nil
  | a :: l => .cons (.int a) (dpAll_intsL H l)
theorem dpAll_rows {K : PySem.W.Frag} {H : Hp} : ∀ {ps : List Addr} {rows : List (List Int)}, Paired (fun p m => SqT K H p (m.map V.int)) ps rows → DpAll K H (ps.map V.ref) (rows.map rowD)
  | _, _, .nil => .nil
  | _, _, .cons h t => .cons (.tup h (dpAll_intsL H _)) (dpAll_rows t)
def rMinT (K : PySem.W.Frag) : List V → Hp → VK → Prop := fun vs H Q => ∃ (l : Addr) (ps : List Addr) (r0 : List Int) (rs : List (List Int)), vs = [.ref l] ∧ SqL K H l (ps.map V.ref) ∧ Paired (fun p m => SqT K H p (m.map V.int)) ps (r0 :: rs) ∧
  ∀ (i : Nat) (p : Addr), ps[i]? = some p → (∀ m, (r0 :: rs)[i]? = some m → rowD m = minD (rowD r0) (rs.map rowD)) → Q (.ref p) H
theorem cr_minT (hc : X.calm = true) (hu : X.A.units + 64 < cLine) : CallR X (.builtin "min") (rMinT X.K) := by
  intro pins s σ H vs us Q I r h
  obtain ⟨l, ps, r0, rs, rfl, hs, hp, q⟩ := h
  obtain ⟨its, rv, hl, _⟩ := I.list hs
  rw [Vals.ref1 r]
  obtain ⟨as, hr⟩ := Dp.readsAll I _ _ its (dpAll_rows hp) rv
  have hd := depth_rows (r0 :: rs)
  refine min_list_data (I.ok.hd hc) hl.isList (x := rowD r0) (xs := rs.map rowD) (as := as) hr ⟨fun x hx y hy => ?_, fun x hx => ?_⟩ (by show X.A.units + 1 + PyData.depthAll ((r0 :: rs).map rowD) < cLine; omega) fun i v h' tk bs hv hm hk => ?_
  · obtain ⟨a, _, rfl⟩ := List.mem_map.mp (show x ∈ (r0 :: rs).map rowD from hx)
    obtain ⟨b, _, rfl⟩ := List.mem_map.mp (show y ∈ (r0 :: rs).map rowD from hy)
    exact alike_ints a b
  · obtain ⟨a, _, rfl⟩ := List.mem_map.mp (show x ∈ (r0 :: rs).map rowD from hx)
    exact fun z => by cases z
  · have hv' : its[i]? = some v := by simpa using hv
    have hi : i < ps.length := by
      have h1 := (List.getElem?_eq_some_iff.mp hv').1
      have h2 := rv.length
      rw [List.length_map] at h2
      omega
    obtain ⟨v2, e2, rel⟩ := rv.get (i := i) (x := V.ref ps[i]) (by simp [hi])
    rw [hv'] at e2
    cases e2
    obtain rfl : v = .ref ps[i] := rel
    refine ⟨.ref ps[i], H, I.kept (t' := tk) hk, rfl, q i ps[i] (List.getElem?_eq_getElem hi) fun m hm2 => ?_⟩
    obtain ⟨as0, r0'⟩ := Dp.reads I (rowD m) (.ref ps[i]) (.ref ps[i]) (.tup (pair_at hp (List.getElem?_eq_getElem hi) hm2) (dpAll_intsL H m)) rfl
    exact (reads_det (fun b o e _ => hk b o e) r0' hm).1.symm
end
end L2
set_option maxRecDepth 100000
set_option maxHeartbeats 4000000
namespace L2
open PySem PySem.Spec PyProof.Rows
def Swaps3 (fd : FuncData) (a b c : Str) : Prop := ∀ (s : Shared) (v u z : Value), BindsTo s fd ⟨[], [(c, v), (b, u), (a, z)]⟩ [(a, z), (b, u), (c, v)]
theorem Fun.swaps3 {K : PySem.W.Frag} {x qual : Str} {st : Stmt} {f : Addr} {fd : FuncData} {a b c : Str} (F : Fun K x qual st f fd)
    (h : ∀ (kV doc pm : Value) (an : Option Addr) (cdv ct v u z : Value), bindArgs (PySem.W.fnOf x qual (defArgs st) (defBody st) (defScope st) .none kV doc pm an cdv ct) ⟨[], [(c, v), (b, u), (a, z)]⟩ = pure [(a, z), (b, u), (c, v)]) : Swaps3 fd a b c := by
  obtain ⟨oc, od, kV, doc, pm, an, cdv, ct, osl, rfl, lk, hcd⟩ := F.ex
  exact fun s v u z => BindsTo.of_eq (h kV doc pm an cdv ct v u z)
def tSw3 (sp : Sp) (E : XK) (t1 t2 t3 : TE) : TE := fun σ H Q => tCons t1 (tCons t2 (tCons t3 tNil)) σ H fun zs H2 => sp zs.reverse H2 Q E
section
variable {X : Cx} {CX : CXT} {k : Nat} {f : Addr} {fd : FuncData} {a b c : Str} {sp : Sp} {E : XK} {x : Str} {p p1 p2 p3 pos : Pos} {e1 e2 e3 : Expr} {t1 t2 t3 : TE}
theorem run_sw3 {pins : List (Addr × Obj)} {σ : St} {H : Hp} {s : Shared} {Q : VK} {v u z : V} {v' u' z' : Value} (F : FnOk X.prog X.w X.K X.mg X.base CX k f fd [a, b, c] sp) (hr : Room k X.A) (hb : Swaps3 fd a b c) (hx : Passes CX X E)
    (I : Inv X pins σ H s) (r1 : RelV v v') (r2 : RelV u u') (r3 : RelV z z') (h : sp [z, u, v] H Q E) : wpAny (model X.prog X.w) X.A (call (.ref f) [] [(c, v'), (b, u'), (a, z')]) (EP X pins σ Q) X.xe s := by
  refine wpAny_call (codeAny_mono (F.run X.A X.stack s H ⟨[], [(c, v'), (b, u'), (a, z')]⟩ [z', u', v'] [z, u, v] Q E hr I.env0 (hb s v' u' z') (.cons r3 (.cons r2 (.cons r1 .nil))) h) fun r s' hq => ?_)
  cases r with
  | error e => exact hx pins σ H s e s' I hq
  | ok fl =>
    cases fl with
    | ret u => exact I.after hq
    | next => exact False.elim hq
    | brk => exact False.elim hq
    | cont => exact False.elim hq
theorem pe_callSw3 (F : FnOk X.prog X.w X.K X.mg X.base CX k f fd [a, b, c] sp) (hr : Room k X.A) (hg : Gl X x) (hm : X.mg x = some (.ref f)) (hk : PySem.W.keepIn X.K (.ref f) = true) (hb : Swaps3 fd a b c) (hx : Passes CX X E)
    (h1 : PE X e1 t1) (h2 : PE X e2 t2) (h3 : PE X e3 t3) (hdb : (x == ("__debug__" : Str)) = false := by decide)
    (hall : (backToKw pos (keywordEach [⟨some c, e1, p1⟩, ⟨some b, e2, p2⟩, ⟨some a, e3, p3⟩] X.env)).all (·.1.isSome) = true := by rfl) (hks : (backToKw pos (keywordEach [⟨some c, e1, p1⟩, ⟨some b, e2, p2⟩, ⟨some a, e3, p3⟩] X.env)).filterMap (·.1) = [c, b, a] := by rfl)
    (hpl : ((backTo pos (starEach [] X.env)).any (·.1) || (backToKw pos (keywordEach [⟨some c, e1, p1⟩, ⟨some b, e2, p2⟩, ⟨some a, e3, p3⟩] X.env)).any (·.1.isNone)) = false := by rfl) :
    PE X (.Call (.Name x p) [] [⟨some c, e1, p1⟩, ⟨some b, e2, p2⟩, ⟨some a, e3, p3⟩] pos) (tSw3 sp E t1 t2 t3) := by
  refine ⟨fun pins s σ H Q I h => ?_⟩
  refine wpAny_Call_Name_kw (ld_glob I hg hm ?_ hdb)
  refine PySem.W.callWith_KW0 (h₀ := X.base) I.ok.mod.kin hk hall ?_ hpl
  refine thn ((pk_cons h1 (pk_cons h2 (pk_cons h3 pk_nil))).run pos pins s σ H _ I h) fun ws s2 ⟨zs, H2, J, rz, q⟩ => ⟨J.kIn, ?_⟩
  rw [hks]
  have hl := F.len _ _ _ _ q
  rw [List.length_reverse] at hl
  cases rz with
  | nil => exact absurd hl (by simp)
  | cons r1 rz =>
    cases rz with
    | nil => exact absurd hl (by simp)
    | cons r2 rz =>
      cases rz with
      | nil => exact absurd hl (by simp)
      | cons r3 rz =>
        cases rz with
        | nil => exact run_sw3 F hr hb hx J r1 r2 r3 q
        | cons r4 rz => exact absurd hl (by simp)
end
end L2
namespace Wd
def mate (x : Int) : Int := if x % 2 = 0 then x + 1 else x - 1
theorem mate_mate (x : Int) : mate (mate x) = x := by unfold mate; split <;> split <;> omega
theorem mate_eq {a b : Int} : b = mate a ↔ a = mate b := ⟨fun h => by rw [h, mate_mate], fun h => by rw [h, mate_mate]⟩
theorem mate_range {n x : Int} (h0 : 0 ≤ x) (h1 : x < 2 * n) : 0 ≤ mate x ∧ mate x < 2 * n := by unfold mate; split <;> omega
def push (st : List Int) (x : Int) : List Int := if st.getLast? = some (mate x) then st.dropLast else st ++ [x]
def freed (w : List Int) : List Int := w.foldl push []
def undo (w : List Int) : List Int := w.reverse.map mate
def Rd (st : List Int) : Prop := ∀ i a b, st[i]? = some a → st[i + 1]? = some b → b ≠ mate a
theorem rd_nil : Rd [] := fun i a b h => by simp at h
theorem last_get {st : List Int} {a : Int} : st.getLast? = some a ↔ st ≠ [] ∧ st[st.length - 1]? = some a := by
  rw [List.getLast?_eq_getElem?]
  constructor
  · intro h
    refine ⟨fun e => ?_, h⟩
    subst e
    simp at h
  · exact fun h => h.2
theorem rd_push {st : List Int} {x : Int} (h : Rd st) : Rd (push st x) := by
  unfold push
  split
  · intro i a b h1 h2
    have e1 : i + 1 < st.dropLast.length := (List.getElem?_eq_some_iff.mp h2).1
    rw [List.length_dropLast] at e1
    rw [List.getElem?_dropLast, if_pos (by omega)] at h1
    rw [List.getElem?_dropLast, if_pos (by omega)] at h2
    exact h i a b h1 h2
  · rename_i hn
    intro i a b h1 h2
    have e1 : i + 1 < (st ++ [x]).length := (List.getElem?_eq_some_iff.mp h2).1
    rw [List.length_append, List.length_singleton] at e1
    by_cases hi : i + 1 < st.length
    · rw [List.getElem?_append_left (by omega)] at h1
      rw [List.getElem?_append_left hi] at h2
      exact h i a b h1 h2
    · have ei : i + 1 = st.length := by omega
      rw [List.getElem?_append_left (by omega)] at h1
      rw [List.getElem?_append_right (by omega)] at h2
      have e0 : i + 1 - st.length = 0 := by omega
      rw [e0] at h2
      have hb : x = b := by simpa using h2
      subst hb
      intro z
      apply hn
      rw [last_get]
      refine ⟨fun e => by rw [e] at ei; simp at ei, ?_⟩
      have e2 : st.length - 1 = i := by omega
      rw [e2, h1, mate_eq.mp z]
theorem snoc_of_last {st : List Int} {a : Int} (h : st.getLast? = some a) : st.dropLast ++ [a] = st := by
  have hne := (last_get.mp h).1
  have e := List.dropLast_concat_getLast hne
  have e2 : st.getLast hne = a := by
    rw [List.getLast?_eq_some_getLast hne] at h
    exact Option.some.inj h
  rw [e2] at e
  exact e
theorem push_push {st : List Int} {x : Int} (h : Rd st) : push (push st (mate x)) x = st := by
  unfold push
  split
  · rename_i h1
    rw [mate_mate] at h1
    have e := snoc_of_last h1
    have n : ¬ st.dropLast.getLast? = some (mate x) := by
      intro z
      obtain ⟨z1, z2⟩ := last_get.mp z
      have l0 : 0 < st.dropLast.length := List.length_pos_iff.mpr z1
      have hl : st.dropLast.length = st.length - 1 := List.length_dropLast
      have g1 : st[st.dropLast.length - 1]? = some (mate x) := by
        rw [← z2, List.getElem?_dropLast, if_pos (by omega)]
      have g2 : st[st.dropLast.length - 1 + 1]? = some x := by
        have := (last_get.mp h1).2
        have e3 : st.dropLast.length - 1 + 1 = st.length - 1 := by omega
        rw [e3]
        exact this
      exact h _ _ _ g1 g2 (mate_mate x).symm
    rw [if_neg n, e]
  · rename_i h1
    rw [if_pos (by simp), List.dropLast_concat]
theorem rd_fold : ∀ (w : List Int) {st : List Int}, Rd st → Rd (w.foldl push st)
  | [], _, h => h
  | a :: w, _, h => rd_fold w (rd_push h)
theorem snoc_ind {P : List Int → Prop} (h0 : P []) (h1 : ∀ l a, P l → P (l ++ [a])) (l : List Int) : P l := by
  have h : ∀ r : List Int, P r.reverse := by
    intro r
    induction r with
    | nil => exact h0
    | cons a r ih => rw [List.reverse_cons]; exact h1 _ _ ih
  have := h l.reverse
  rwa [List.reverse_reverse] at this
theorem fold_freed {st : List Int} (h : Rd st) (b : List Int) : b.foldl push st = (freed b).foldl push st := by
  induction b using snoc_ind with
  | h0 => rfl
  | h1 l a ih =>
    have e : freed (l ++ [a]) = push (freed l) a := by unfold freed; rw [List.foldl_append]; rfl
    rw [e, List.foldl_append, ih]
    show push ((freed l).foldl push st) a = _
    by_cases c : (freed l).getLast? = some (mate a)
    · have e2 := snoc_of_last c
      unfold push
      rw [if_pos c]
      show push ((freed l).foldl push st) a = _
      conv => lhs; rw [← e2, List.foldl_append]
      exact push_push (rd_fold _ h)
    · have e2 : push (freed l) a = freed l ++ [a] := by unfold push; rw [if_neg c]
      rw [e2, List.foldl_append]
      rfl
theorem rd_freed (w : List Int) : Rd (freed w) := rd_fold w rd_nil
theorem freed_freed (w : List Int) : freed (freed w) = freed w := (fold_freed rd_nil w).symm
theorem freed_app (a b : List Int) : freed (a ++ b) = freed (freed a ++ freed b) := by
  have e1 : freed (a ++ b) = (freed b).foldl push (freed a) := by
    unfold freed
    rw [List.foldl_append]
    exact fold_freed (rd_fold a rd_nil) b
  have e2 : freed (freed a ++ freed b) = (freed b).foldl push (freed a) := by
    show (freed a ++ freed b).foldl push [] = _
    rw [List.foldl_append]
    show (freed b).foldl push (freed (freed a)) = _
    rw [freed_freed]
  rw [e1, e2]
theorem undo_cons (a : Int) (w : List Int) : undo (a :: w) = undo w ++ [mate a] := by
  unfold undo
  rw [List.reverse_cons, List.map_append]
  rfl
theorem fold_undo : ∀ (w : List Int) {st : List Int}, Rd st → (w ++ undo w).foldl push st = st
  | [], _, _ => rfl
  | a :: w, st, h => by
    rw [undo_cons, List.cons_append, List.foldl_cons, ← List.append_assoc, List.foldl_append, fold_undo w (rd_push h)]
    show push (push st a) (mate a) = st
    have := push_push (x := mate a) h
    rw [mate_mate] at this
    exact this
theorem freed_undo (w : List Int) : freed (w ++ undo w) = [] := fold_undo w rd_nil
theorem freed_cut (u v : List Int) (b : Int) : freed (u ++ mate b :: b :: v) = freed (u ++ v) := by
  unfold freed
  rw [List.foldl_append, List.foldl_append, List.foldl_cons, List.foldl_cons, push_push (rd_fold u rd_nil)]
theorem freed_of_rd (w : List Int) : Rd w → freed w = w := by
  induction w using snoc_ind with
  | h0 => intro _; rfl
  | h1 l a ih =>
    intro h
    have hl : Rd l := fun i x y h1 h2 => h i x y (by rw [List.getElem?_append_left (List.getElem?_eq_some_iff.mp h1).1]; exact h1) (by rw [List.getElem?_append_left (List.getElem?_eq_some_iff.mp h2).1]; exact h2)
    have e : freed (l ++ [a]) = push (freed l) a := by unfold freed; rw [List.foldl_append]; rfl
    rw [e, ih hl]
    unfold push
    rw [if_neg]
    intro z
    obtain ⟨z1, z2⟩ := last_get.mp z
    have l0 : 0 < l.length := List.length_pos_iff.mpr z1
    refine h (l.length - 1) (mate a) a (by rw [List.getElem?_append_left (by omega)]; exact z2) ?_ (mate_mate a).symm
    have e3 : l.length - 1 + 1 = l.length := by omega
    rw [e3, List.getElem?_append_right (Nat.le_refl _)]
    simp
theorem mem_push {st : List Int} {x y : Int} (h : y ∈ push st x) : y ∈ st ∨ y = x := by
  unfold push at h
  split at h
  · exact .inl (List.dropLast_subset _ h)
  · simpa using h
theorem mem_fold : ∀ (w : List Int) {st : List Int} {y : Int}, y ∈ w.foldl push st → y ∈ st ∨ y ∈ w
  | [], _, _, h => .inl h
  | a :: w, _, y, h => by
    rcases mem_fold w h with h | h
    · rcases mem_push h with h | h
      · exact .inl h
      · exact .inr (by rw [h]; exact List.mem_cons_self)
    · exact .inr (List.mem_cons_of_mem _ h)
theorem mem_freed {w : List Int} {y : Int} (h : y ∈ freed w) : y ∈ w := by
  rcases mem_fold w h with h | h
  · cases h
  · exact h
theorem len_push (st : List Int) (x : Int) : (push st x).length ≤ st.length + 1 := by
  unfold push
  split
  · rw [List.length_dropLast]; omega
  · rw [List.length_append]; simp
theorem len_fold : ∀ (w : List Int) (st : List Int), (w.foldl push st).length ≤ st.length + w.length
  | [], _ => by simp
  | a :: w, st => by
    have h1 := len_fold w (push st a)
    have h2 := len_push st a
    rw [List.foldl_cons, List.length_cons]
    omega
theorem len_freed (w : List Int) : (freed w).length ≤ w.length := by
  have h := len_fold w []
  show (w.foldl push []).length ≤ _
  simp only [List.length_nil, Nat.zero_add] at h
  exact h
theorem freed_snoc (w : List Int) (a : Int) : freed (w ++ [a]) = push (freed w) a := by unfold freed; rw [List.foldl_append]; rfl
theorem undo_len (w : List Int) : (undo w).length = w.length := by unfold undo; rw [List.length_map, List.length_reverse]
end Wd
set_option maxRecDepth 100000
set_option maxHeartbeats 4000000
namespace L2
open PySem PySem.Spec PyProof.Rows
def Swaps1 (fd : FuncData) (a : Str) : Prop := ∀ (s : Shared) (z : Value), BindsTo s fd ⟨[], [(a, z)]⟩ [(a, z)]
theorem Fun.swaps1 {K : PySem.W.Frag} {x qual : Str} {st : Stmt} {f : Addr} {fd : FuncData} {a : Str} (F : Fun K x qual st f fd)
    (h : ∀ (kV doc pm : Value) (an : Option Addr) (cdv ct z : Value), bindArgs (PySem.W.fnOf x qual (defArgs st) (defBody st) (defScope st) .none kV doc pm an cdv ct) ⟨[], [(a, z)]⟩ = pure [(a, z)]) : Swaps1 fd a := by
  obtain ⟨oc, od, kV, doc, pm, an, cdv, ct, osl, rfl, lk, hcd⟩ := F.ex
  exact fun s z => BindsTo.of_eq (h kV doc pm an cdv ct z)
def tSw1 (sp : Sp) (E : XK) (t1 : TE) : TE := fun σ H Q => tCons t1 tNil σ H fun zs H2 => sp zs.reverse H2 Q E
section
variable {X : Cx} {CX : CXT} {k : Nat} {f : Addr} {fd : FuncData} {a : Str} {sp : Sp} {E : XK} {x : Str} {p p1 pos : Pos} {e1 : Expr} {t1 : TE}
theorem run_sw1 {pins : List (Addr × Obj)} {σ : St} {H : Hp} {s : Shared} {Q : VK} {z : V} {z' : Value} (F : FnOk X.prog X.w X.K X.mg X.base CX k f fd [a] sp) (hr : Room k X.A) (hb : Swaps1 fd a) (hx : Passes CX X E)
    (I : Inv X pins σ H s) (r1 : RelV z z') (h : sp [z] H Q E) : wpAny (model X.prog X.w) X.A (call (.ref f) [] [(a, z')]) (EP X pins σ Q) X.xe s := by
  refine wpAny_call (codeAny_mono (F.run X.A X.stack s H ⟨[], [(a, z')]⟩ [z'] [z] Q E hr I.env0 (hb s z') (.cons r1 .nil) h) fun r s' hq => ?_)
  cases r with
  | error e => exact hx pins σ H s e s' I hq
  | ok fl =>
    cases fl with
    | ret u => exact I.after hq
    | next => exact False.elim hq
    | brk => exact False.elim hq
    | cont => exact False.elim hq
theorem pe_callSw1 (F : FnOk X.prog X.w X.K X.mg X.base CX k f fd [a] sp) (hr : Room k X.A) (hg : Gl X x) (hm : X.mg x = some (.ref f)) (hk : PySem.W.keepIn X.K (.ref f) = true) (hb : Swaps1 fd a) (hx : Passes CX X E)
    (h1 : PE X e1 t1) (hdb : (x == ("__debug__" : Str)) = false := by decide)
    (hall : (backToKw pos (keywordEach [⟨some a, e1, p1⟩] X.env)).all (·.1.isSome) = true := by rfl) (hks : (backToKw pos (keywordEach [⟨some a, e1, p1⟩] X.env)).filterMap (·.1) = [a] := by rfl)
    (hpl : ((backTo pos (starEach [] X.env)).any (·.1) || (backToKw pos (keywordEach [⟨some a, e1, p1⟩] X.env)).any (·.1.isNone)) = false := by rfl) :
    PE X (.Call (.Name x p) [] [⟨some a, e1, p1⟩] pos) (tSw1 sp E t1) := by
  refine ⟨fun pins s σ H Q I h => ?_⟩
  refine wpAny_Call_Name_kw (ld_glob I hg hm ?_ hdb)
  refine PySem.W.callWith_KW0 (h₀ := X.base) I.ok.mod.kin hk hall ?_ hpl
  refine thn ((pk_cons h1 pk_nil).run pos pins s σ H _ I h) fun ws s2 ⟨zs, H2, J, rz, q⟩ => ⟨J.kIn, ?_⟩
  rw [hks]
  have hl := F.len _ _ _ _ q
  rw [List.length_reverse] at hl
  cases rz with
  | nil => exact absurd hl (by simp)
  | cons r1 rz =>
    cases rz with
    | nil => exact run_sw1 F hr hb hx J r1 q
    | cons r4 rz => exact absurd hl (by simp)
end
theorem dataLe_tups {β : Type} (x : β → List Int) : PySem.W.dataLe false (fun b => rowD (x b)) = fun p q => decide (x p ≤ x q) := by
  funext p q
  have e := congrFun (congrFun (PySem.W.dataLe_rows x) p) q
  rw [← e]
  show (!PySem.W.dataLt (.tuple ((x q).map PyData.int)) (.tuple ((x p).map PyData.int))) = !PySem.W.dataLt (.list ((x q).map PyData.int)) (.list ((x p).map PyData.int))
  rw [PySem.W.dataLt_tuple, PySem.W.dataLt_list]
def rSortT (K : PySem.W.Frag) : List V → Hp → VK → Prop := fun vs H Q => ∃ (l : Addr) (bs : List (Addr × List Int)), vs = [.ref l] ∧ SqL K H l (bs.map fun b => V.ref b.1) ∧ (∀ b ∈ bs, b.2 ≠ [] ∧ SqT K H b.1 (b.2.map V.int)) ∧
  ∀ (bs' : List (Addr × List Int)) (p : Addr), bs'.Perm bs → bs'.Pairwise (fun a b => a.2 ≤ b.2) → H p = none → Q (.ref p) (upd H p (.lst (bs'.map fun b => V.ref b.1)))
theorem each_of {R : Value → Addr × List Int → Prop} (h : ∀ b : Addr × List Int, R (.ref b.1) b) : ∀ {bs : List (Addr × List Int)} {its : List Value}, Vals (bs.map fun b => V.ref b.1) its → PySem.W.EachIs R its bs
  | [], _, r => by
    cases r
    exact .nil
  | b :: bs, _, r => by
    cases r with
    | cons r1 r2 =>
      obtain rfl := r1
      exact .cons (h b) (each_of h r2)
theorem vals_each : ∀ {bs : List (Addr × List Int)} {its : List Value}, PySem.W.EachIs (fun v (b : Addr × List Int) => v = .ref b.1) its bs → Vals (bs.map fun b => V.ref b.1) its
  | _, _, .nil => .nil
  | _, _, .cons h t => by
    subst h
    exact .cons rfl (vals_each t)
section
variable {X : Cx}
theorem cr_sortedT (hu : X.A.units + 64 < cLine) : CallR X (.builtin "sorted") (rSortT X.K) := by
  intro pins s σ H vs us Q I r h
  obtain ⟨l, bs, rfl, hs, hb, q⟩ := h
  obtain ⟨its, rv, hl, hz⟩ := I.list hs
  rw [Vals.ref1 r]
  have lb : bs.length ≤ sizeLine := by rw [List.length_map] at hz; exact hz
  refine PySem.W.sorted_data (R := fun v (b : Addr × List Int) => v = .ref b.1) (enc := fun b => rowD b.2) hl.isList (each_of (fun _ => rfl) rv) ?_ ?_ ?_ lb (fun b _ => ?_) fun out ho eo => ?_
  · have e1 : PySem.W.EachIs (fun v (b : Addr × List Int) => v = .ref b.1) its bs := each_of (fun _ => rfl) rv
    refine (PySem.W.each_mem e1).mono fun v b ⟨e, hm⟩ => ?_
    subst e
    obtain ⟨as, r2⟩ := Dp.reads I (rowD b.2) (.ref b.1) (.ref b.1) (.tup (hb b hm).2 (dpAll_intsL H b.2)) rfl
    exact ⟨as, r2⟩
  · exact PySem.W.AllAlike.of fun b b' => PySem.W.alike_ints b.2 b'.2
  · refine .inl fun d hd => ?_
    obtain ⟨b, hm, rfl⟩ := List.mem_map.mp hd
    cases e : b.2 with
    | nil => exact absurd e (hb b hm).1
    | cons x m => exact ⟨.int x, m.map PyData.int, by show rowD _ = _; first | rfl | (rw [e]; rfl)⟩
  · have hd : (rowD b.2).depth = 1 := by
      show PyData.depthAll (b.2.map PyData.int) + 1 = 1
      rw [PySem.W.depth_ints]
    rw [hd]
    omega
  · obtain ⟨ep, he'⟩ := PyProof.Rows.sortedAll_at s.heap its out.toArray
    have hp := List.mergeSort_perm bs (PySem.W.dataLe false fun b : Addr × List Int => rowD b.2)
    have hw : (bs.mergeSort (PySem.W.dataLe false fun b : Addr × List Int => rowD b.2)).Pairwise (fun a b => a.2 ≤ b.2) := by
      rw [dataLe_tups (fun b : Addr × List Int => b.2)]
      refine (List.pairwise_mergeSort (le := fun p q : Addr × List Int => decide (p.2 ≤ q.2)) (fun a b c h1 h2 => ?_) (fun a b => ?_) bs).imp fun h => of_decide_eq_true h
      · exact decide_eq_true (List.le_trans (of_decide_eq_true h1) (of_decide_eq_true h2))
      · rcases List.le_total a.2 b.2 with h | h
        · rw [decide_eq_true h]
          rfl
        · rw [decide_eq_true h, Bool.or_true]
    have hv := vals_each eo
    have hlen : ((bs.mergeSort (PySem.W.dataLe false fun b : Addr × List Int => rowD b.2)).map fun b => V.ref b.1).length ≤ sizeLine := by
      rw [List.length_map, hp.length_eq]
      exact lb
    exact ⟨.ref _, upd H (s.heap.objs.size + 1) (.lst _), I.laid (t' := s.toks) (fun _ _ => PyProof.Rows.sortedAll_old) (Nat.le_succ _) ⟨hlen, out, ep, hv, he'⟩, rfl, q _ _ hp hw (I.hok.fresh (Nat.le_succ _))⟩
end
end L2
set_option maxRecDepth 100000
set_option maxHeartbeats 4000000
namespace SmT
open PySem PySem.Spec PyProof.Rows HT
theorem args_sum2 (a b : Value) : PySem.argsOk "sum" ⟨[a, b], []⟩ := by unfold PySem.argsOk; kernel_rfl
section
variable {prog : Program} {w : World} {A : Around} {R : Result → Shared → Prop}
def cat (ts : List (Addr × List Value)) (i : Nat) : List Value := ((ts.take i).map (·.2)).flatten
theorem cat_next {ts : List (Addr × List Value)} {i : Nat} {p : Addr × List Value} (h : ts[i]? = some p) : cat ts (i + 1) = cat ts i ++ p.2 := by
  unfold cat
  rw [List.take_add_one, h]
  simp
theorem cat_len (ts : List (Addr × List Value)) (i : Nat) : (cat ts i).length ≤ (cat ts ts.length).length := by
  unfold cat
  rw [List.take_length]
  have e : ((ts.take i).map (·.2)).flatten ++ ((ts.drop i).map (·.2)).flatten = (ts.map (·.2)).flatten := by
    rw [← List.flatten_append, ← List.map_append, List.take_append_drop]
  rw [← e, List.length_append]
  omega
def At (h0 : Heap) (t0 : Addr) (ts : List (Addr × List Value)) (i : Nat) (a : Addr) : Prop := (i = 0 ∧ a = t0) ∨ (i = 1 ∧ ∃ p, ts[0]? = some p ∧ a = p.1) ∨ (2 ≤ i ∧ h0.get? a = none)
theorem loop {it l S t0 : Addr} {ts : List (Addr × List Value)} {h0 : Heap} (hh : A.handled = none) (hli : l ≠ it) (hSi : S ≠ it) (hSl : S ≠ l) (n1 : h0.get? it = none) (n2 : h0.get? S = none)
    (ht0 : IsTup h0 t0 #[]) (hts : ∀ p ∈ ts, IsTup h0 p.1 p.2.toArray ∧ p.2 ≠ []) (hz : (cat ts ts.length).length ≤ sizeLine) :
    ∀ (k i : Nat) (s : Shared) (acc : Addr) (c : Nat), ts.length - i = k → i ≤ ts.length → s.heap.IsListIter it l i → s.heap.IsList l (ts.map fun p => Value.ref p.1).toArray →
    s.heap.get? S = some { cls := .type "list", dict := none, data := .seq #[.ref acc] c, slots := #[] } → (∀ b o, h0.get? b = some o → s.heap.get? b = some o) → At h0 t0 ts i acc → IsTup s.heap acc (cat ts i).toArray → acc ≠ it → acc ≠ S →
    (∀ (h' : Heap) (tk : Tok) (a : Addr), (∀ b o, h0.get? b = some o → h'.get? b = some o) → At h0 t0 ts ts.length a → IsTup h' a (cat ts ts.length).toArray → R (.ok (.ret (.ref a))) { s with heap := h', toks := tk }) →
    codeAny (model prog w) A (.builtin "sum.loop" ⟨[.ref it, .ref S, rawInt 2, rawInt 0], []⟩) R s := by
  have W := (PySem.Walks.list (prog := prog) (w := w) (A := A.in1) hh it l hli (ts.map fun p => Value.ref p.1).toArray).toS
  have eN : ((ts.map fun p => Value.ref p.1).toArray).size = ts.length := by simp
  rw [eN] at W
  intro k
  induction k with
  | zero =>
    intro i s acc c hk hi hit hl hS old ha htu na nS hR
    have hin : i = ts.length := by omega
    subst hin
    refine PySem.codeAny_builtin PySem.F.entry_sum_loop ?_
    rw [Around.under_plainId PySem.F.plain_sum_loop _]
    show wpAny _ A.in1 (seqItems? (.ref S) >>= _) _ _ s
    refine wpAny_bind (PySem.wpAny_seqItems hS rfl ?_)
    show wpAny _ A.in1 (tryCatch (pyNext (.ref it)) _ >>= _) _ _ s
    refine wpAny_bind (wpAny_tryCatch (W.done s _ _ ⟨hit, hl⟩ fun s' hm => ?_))
    refine wpAny_pure ?_
    rw [PySem.Moved.eq_with hm]
    have keep : ∀ b o, b ≠ it → s.heap.get? b = some o → s'.heap.get? b = some o := fun b o hb e => hm.heap b o (by simpa using hb) e
    exact hR s'.heap s'.toks acc (fun b o e => keep b o (fun z => by rw [z, n1] at e; cases e) (old b o e)) ha (by
      obtain ⟨o, ho, r⟩ := htu
      exact ⟨o, keep _ _ na ho, r⟩)
  | succ k ih =>
    intro i s acc c hk hi hit hl hS old ha htu na nS hR
    have hlt : i < ts.length := by omega
    obtain ⟨p, hp⟩ : ∃ p, ts[i]? = some p := ⟨_, List.getElem?_eq_getElem hlt⟩
    obtain ⟨tp, pne⟩ := hts p (List.mem_of_getElem? hp)
    refine PySem.codeAny_builtin PySem.F.entry_sum_loop ?_
    rw [Around.under_plainId PySem.F.plain_sum_loop _]
    show wpAny _ A.in1 (seqItems? (.ref S) >>= _) _ _ s
    refine wpAny_bind (PySem.wpAny_seqItems hS rfl ?_)
    show wpAny _ A.in1 (tryCatch (pyNext (.ref it)) _ >>= _) _ _ s
    refine wpAny_bind (wpAny_tryCatch (W.item i s _ _ hlt ⟨hit, hl⟩ fun v s' hP hst' hm => ?_))
    have ev : v = .ref p.1 := by
      have h2 : ((ts.map fun p => Value.ref p.1).toArray)[i]? = some v := hP
      rw [List.getElem?_toArray, List.getElem?_map, hp] at h2
      exact (Option.some.inj h2).symm
    subst ev
    rw [PySem.Moved.eq_with hm]
    have keep : ∀ b o, b ≠ it → s.heap.get? b = some o → s'.heap.get? b = some o := fun b o hb e => hm.heap b o (by simpa using hb) e
    have hS' := keep _ _ hSi hS
    have old' : ∀ b o, h0.get? b = some o → s'.heap.get? b = some o := fun b o e => keep b o (fun z => by rw [z, n1] at e; cases e) (old b o e)
    have htu' : IsTup s'.heap acc (cat ts i).toArray := by
      obtain ⟨o, ho, r⟩ := htu
      exact ⟨o, keep _ _ na ho, r⟩
    have tp' : IsTup s'.heap p.1 p.2.toArray := by
      obtain ⟨o, ho, r⟩ := tp
      exact ⟨o, old' _ _ ho, r⟩
    obtain ⟨hit', hl'⟩ := hst'
    generalize s'.heap = h1 at keep hS' old' htu' tp' hit' hl'
    generalize s'.toks = t1
    clear hm hP
    have hpn : h0.get? p.1 ≠ none := by
      obtain ⟨o, ho, r⟩ := tp
      rw [ho]
      exact fun z => nomatch z
    have pit : p.1 ≠ it := fun z => hpn (by rw [z]; exact n1)
    have pS : p.1 ≠ S := fun z => hpn (by rw [z]; exact n2)
    have add : ∀ (E : Value → Shared → Prop), wpAny (model prog w) A.in1 (binaryOp .Add (.ref acc) (.ref p.1)) (fun v s2 => ∃ (r : Addr) (h2 : Heap), v = .ref r ∧ s2 = { s with heap := h2, toks := t1 } ∧ (∀ b o, h1.get? b = some o → h2.get? b = some o) ∧
        At h0 t0 ts (i + 1) r ∧ IsTup h2 r (cat ts (i + 1)).toArray ∧ r ≠ it ∧ r ≠ S) E { s with heap := h1, toks := t1 } := fun E => by
      have en := cat_next hp
      by_cases hw : cat ts i = []
      · rw [hw, List.nil_append] at en
        rw [hw] at htu'
        refine L2.cat_tup0 htu' tp' ⟨p.1, h1, rfl, rfl, fun _ _ e => e, ?_, by rw [en]; exact tp', pit, pS⟩
        have i0 : i = 0 := by
          refine Classical.byContradiction fun z => ?_
          obtain ⟨q, hq⟩ : ∃ q, ts[0]? = some q := ⟨_, List.getElem?_eq_getElem (by omega)⟩
          have e2 : cat ts i = q.2 ++ (((ts.take i).drop 1).map (·.2)).flatten := by
            unfold cat
            cases ts with
            | nil => simp at hq
            | cons a m =>
              have : a = q := by simpa using hq
              subst this
              cases i with
              | zero => exact absurd rfl z
              | succ i => simp
          rw [e2] at hw
          exact (hts q (List.mem_of_getElem? hq)).2 (List.append_eq_nil_iff.mp hw).1
        subst i0
        exact .inr (.inl ⟨rfl, p, hp, rfl⟩)
      · have sz := cat_len ts (i + 1)
        rw [en, List.length_append] at sz
        refine cat_tup htu' tp' hw (fun z => absurd z pne) (fun _ => ⟨h1.objs.size, _, rfl, rfl, fun b o e => Heap.get?_push_of_some _ e, .inr (.inr ⟨?_, ?_⟩), ?_, ?_, ?_⟩) (by omega)
        · refine Classical.byContradiction fun z => ?_
          have i0 : i = 0 := by omega
          subst i0
          exact hw rfl
        · cases e : h0.get? h1.objs.size with
          | none => rfl
          | some o => exact absurd (Heap.lt_size (old' _ _ e)) (Nat.lt_irrefl _)
        · rw [en]
          exact IsTup.new _ _
        · obtain ⟨o, ho, _⟩ := hit'
          exact fun z => absurd (Heap.lt_size ho) (by rw [← z]; exact Nat.lt_irrefl _)
        · exact fun z => absurd (Heap.lt_size hS') (by rw [← z]; exact Nat.lt_irrefl _)
    show wpAny _ A.in1 ((holding [Value.ref p.1] (binaryOp .Add (.ref acc) (.ref p.1))).attempt >>= _) _ _ _
    refine wpAny_bind (wpAny_attempt (wpAny_holding (wpAny_mono (add _) (fun v s2 hv => ?_) fun _ _ e => e)))
    obtain ⟨r, h2, rfl, rfl, k2, at2, tu2, rit, rS⟩ := hv
    have hS2 := k2 _ _ hS'
    show wpAny _ A.in1 (updateSeq S (fun _ => #[Value.ref r]) >>= _) _ _ _
    refine wpAny_bind (PySem.wpAny_updateSeq hS2 rfl ?_)
    have hS3 := Heap.get?_update_self (Obj.mapSeq fun _ => #[Value.ref r]) hS2 rfl
    refine wpAny_bind (PySem.wpAny_letGo ?_)
    refine wpAny_bind (PySem.wpAny_updateSeq hS3 rfl (wpAny_pure ⟨plainId_quiet PySem.F.plain_sum_loop _, ?_⟩))
    have up : ∀ b o, b ≠ S → h2.get? b = some o → (((h2.update S (Obj.mapSeq fun _ => #[Value.ref r])).update S (Obj.mapSeq fun _ => #[Value.ref r]))).get? b = some o := fun b o hb e =>
      (Heap.get?_update_other _ _ (fun h : S = b => hb h.symm)).trans ((Heap.get?_update_other _ _ (fun h : S = b => hb h.symm)).trans e)
    refine ih (i + 1) { s with heap := _, toks := t1 } r _ (by omega) hlt ?_ ?_ (Heap.get?_update_self _ hS3 rfl) (fun b o e => ?_) at2 ?_ rit rS fun h' tk a q1 q2 q3 => hR h' tk a q1 q2 q3
    · obtain ⟨o, ho, q⟩ := hit'
      exact ⟨o, up _ _ (fun z => hSi z.symm) (k2 _ _ ho), q⟩
    · obtain ⟨o, ho, q⟩ := hl'
      exact ⟨o, up _ _ (fun z => hSl z.symm) (k2 _ _ ho), q⟩
    · exact up _ _ (fun z => by rw [z, n2] at e; cases e) (k2 _ _ (old' _ _ e))
    · obtain ⟨o, ho, q⟩ := tu2
      exact ⟨o, up _ _ rS ho, q⟩
end
end SmT
set_option maxRecDepth 100000
set_option maxHeartbeats 4000000
namespace SmT
open PySem PySem.Spec PyProof.Rows HT
section
variable {prog : Program} {w : World} {A : Around} {E : Value → Shared → Prop} {s : Shared}
theorem call_sumT {l t0 : Addr} {ts : List (Addr × List Value)} {Q : Value → Shared → Prop} (hh : A.handled = none) (hl : s.heap.IsList l (ts.map fun p => Value.ref p.1).toArray)
    (ht0 : IsTup s.heap t0 #[]) (hts : ∀ p ∈ ts, IsTup s.heap p.1 p.2.toArray ∧ p.2 ≠ []) (hz : (cat ts ts.length).length ≤ sizeLine)
    (h : ∀ (h' : Heap) (tk : Tok) (a : Addr), (∀ b o, s.heap.get? b = some o → h'.get? b = some o) → At s.heap t0 ts ts.length a → IsTup h' a (cat ts ts.length).toArray → Q (.ref a) { s with heap := h', toks := tk }) :
    wpAny (model prog w) A (call (.builtin "sum") [.ref l, .ref t0]) Q E s := by
  have tT : ∀ {h' : Heap} {tk : Tok}, (∀ b o, s.heap.get? b = some o → h'.get? b = some o) → Shared.TypeIs { s with heap := h', toks := tk } (.ref t0) "tuple" := fun k => by
    obtain ⟨o, ho, hc, _⟩ := ht0
    exact ⟨o, k _ _ ho, hc⟩
  refine call_function_tree PySem.F.kind_sum PySem.F.plain_sum PySem.F.entry_sum (args_sum2 _ _) ?_
  unfold Builtin.«sum»
  simp only [List.length_cons, List.length_nil]
  rw [if_neg (by decide)]
  refine wpAny_bind (wpAny_of_eq (show Builtin.Builtins.bindParams "sum" ["start"] 0 ⟨[.ref t0], []⟩ = pure [some (.ref t0)] from rfl) ?_)
  refine wpAny_bind (PySem.wpAny_pyIter_list hl ?_)
  refine wpAny_bind (wpAny_pure ?_)
  have k1 : ∀ b o, s.heap.get? b = some o → (s.heap.push { cls := .type "list_iterator", data := .fields #[.ref l, .int 0 0] }).get? b = some o := fun b o e => Heap.get?_push_of_some _ e
  have hI : (s.heap.push { cls := .type "list_iterator", data := .fields #[.ref l, .int 0 0] }).get? s.heap.objs.size = some { cls := .type "list_iterator", data := .fields #[.ref l, .int 0 0] } := Heap.get?_push_size _ rfl
  have sz : (s.heap.push { cls := .type "list_iterator", data := .fields #[.ref l, .int 0 0] }).objs.size = s.heap.objs.size + 1 := Heap.size_push ..
  generalize hh1 : s.heap.push { cls := .type "list_iterator", data := .fields #[.ref l, .int 0 0] } = h1 at k1 hI sz
  simp only [List.forIn_cons, List.forIn_nil]
  refine wpAny_bind (wpAny_bind (wpAny_bind (wpAny_isInstance (T := "tuple") (b := false) (tT (tk := s.toks) k1) PySem.F.sub_tuple_str ?_)))
  simp only [Bool.false_eq_true, if_false]
  refine wpAny_pure (wpAny_bind (wpAny_bind (wpAny_isInstance (T := "tuple") (b := false) (tT (tk := s.toks) k1) PySem.F.sub_tuple_bytes ?_)))
  simp only [Bool.false_eq_true, if_false]
  refine wpAny_pure (wpAny_bind (wpAny_bind (wpAny_isInstance (T := "tuple") (b := false) (tT (tk := s.toks) k1) PySem.F.sub_tuple_bytearray ?_)))
  simp only [Bool.false_eq_true, if_false]
  refine wpAny_pure (wpAny_pure ?_)
  refine wpAny_bind (wpAny_newObj_type ?_)
  have ll : l < s.heap.objs.size := by obtain ⟨o, ho, _⟩ := hl; exact Heap.lt_size ho
  have none1 : ∀ b, s.heap.objs.size ≤ b → s.heap.get? b = none := fun b hb => by
    cases e : s.heap.get? b with
    | none => rfl
    | some o => exact absurd (Heap.lt_size e) (Nat.not_lt.mpr hb)
  have t0l : t0 < s.heap.objs.size := by obtain ⟨o, ho, _⟩ := ht0; exact Heap.lt_size ho
  have k2 : ∀ b o, s.heap.get? b = some o → (h1.push { cls := .type "list", data := .seq #[.ref t0] }).get? b = some o := fun b o e => Heap.get?_push_of_some _ (k1 _ _ e)
  refine wpAny_pure ⟨plainId_quiet PySem.F.plain_sum_loop _, loop (it := s.heap.objs.size) (l := l) (S := h1.objs.size) (t0 := t0) (ts := ts) (h0 := s.heap) hh (Nat.ne_of_lt ll) (by rw [sz]; exact Nat.succ_ne_self _) (by rw [sz]; exact Nat.ne_of_gt (Nat.lt_succ_of_lt ll)) (none1 _ (Nat.le_refl _)) (none1 _ (by rw [sz]; exact Nat.le_succ _)) ht0 hts hz
    _ 0 _ t0 _ rfl (Nat.zero_le _) ?_ ?_ (Heap.get?_push_size _ rfl) k2 (.inl ⟨rfl, rfl⟩) ?_ (Nat.ne_of_lt t0l) (by rw [sz]; exact Nat.ne_of_lt (Nat.lt_succ_of_lt t0l)) fun h' tk a q1 q2 q3 => h h' tk a q1 q2 q3⟩
  · exact ⟨_, Heap.get?_push_of_some _ hI, rfl, rfl⟩
  · obtain ⟨o, ho, q⟩ := hl
    exact ⟨o, k2 _ _ ho, q⟩
  · obtain ⟨o, ho, q⟩ := ht0
    exact ⟨o, k2 _ _ ho, by simpa [cat] using q⟩
end
end SmT
namespace L2
open PySem PySem.Spec PyProof.Rows HT
def rSumT (K : PySem.W.Frag) : List V → Hp → VK → Prop := fun vs H Q => ∃ (l t0 : Addr) (bs : List (Addr × List V)), vs = [.ref l, .ref t0] ∧ SqL K H l (bs.map fun b => V.ref b.1) ∧ SqT K H t0 [] ∧ (∀ b ∈ bs, b.2 ≠ [] ∧ SqT K H b.1 b.2) ∧ ((bs.map (·.2)).flatten).length ≤ sizeLine ∧
  ∀ a H', Same H H' → SqT K H' a (bs.map (·.2)).flatten → Q (.ref a) H'
section
variable {X : Cx}
theorem tups_of {pins : List (Addr × Obj)} {σ : St} {H : Hp} {s : Shared} (I : Inv X pins σ H s) : ∀ (bs : List (Addr × List V)), (∀ b ∈ bs, b.2 ≠ [] ∧ SqT X.K H b.1 b.2) →
    ∃ ts : List (Addr × List Value), ts.map (·.1) = bs.map (·.1) ∧ (∀ p ∈ ts, IsTup s.heap p.1 p.2.toArray ∧ p.2 ≠ []) ∧ Vals (bs.map (·.2)).flatten (ts.map (·.2)).flatten
  | [], _ => ⟨[], rfl, fun _ h => absurd h (by simp), .nil⟩
  | b :: bs, h => by
    obtain ⟨h1, h2⟩ := h b List.mem_cons_self
    obtain ⟨ts, e1, e2, e3⟩ := tups_of I bs fun c hc => h c (List.mem_cons_of_mem _ hc)
    obtain ⟨its, r1, p1, _⟩ := I.tuple h2
    refine ⟨(b.1, its) :: ts, by rw [List.map_cons, List.map_cons, e1], fun p hp => ?_, ?_⟩
    · rcases List.mem_cons.mp hp with rfl | hp
      · exact ⟨p1, fun (z : its = []) => h1 (by have hl := r1.length; rw [z] at hl; exact List.length_eq_zero_iff.mp hl)⟩
      · exact e2 p hp
    · rw [List.map_cons, List.map_cons, List.flatten_cons, List.flatten_cons]
      exact r1.append e3
theorem cr_sumT (hc : X.calm = true) : CallR X (.builtin "sum") (rSumT X.K) := by
  intro pins s σ H vs us Q I r h
  obtain ⟨l, t0, bs, rfl, hs, ht, hb, hz, q⟩ := h
  obtain ⟨its, rv, hl, _⟩ := I.list hs
  obtain ⟨it0, r0, p0, _⟩ := I.tuple ht
  cases r0
  obtain ⟨ts, e1, e2, e3⟩ := tups_of I bs hb
  obtain ⟨u1, u2, rfl, ru1, ru2⟩ := vals2 r
  cases ru1
  cases ru2
  have eL : its = ts.map fun p => Value.ref p.1 := by
    have h1 : ts.map (fun p => Value.ref p.1) = (ts.map (·.1)).map Value.ref := by rw [List.map_map]; rfl
    rw [h1, e1]
    refine refs_at ?_
    rw [List.map_map]
    exact rv
  have eC : SmT.cat ts ts.length = (ts.map (·.2)).flatten := by
    unfold SmT.cat
    rw [List.take_length]
  rw [eL] at hl
  refine SmT.call_sumT (I.ok.hd hc) hl.isList p0 e2 (by rw [eC, ← e3.length]; exact hz) fun h' tk a k1 at1 tu => ?_
  rw [eC] at tu
  have hI := I.kept (t' := tk) k1
  have len : ts.length = bs.length := by
    have := congrArg List.length e1
    rw [List.length_map, List.length_map] at this
    exact this
  rcases at1 with ⟨n0, rfl⟩ | ⟨n1, p, hp, rfl⟩ | ⟨_, hn⟩
  · refine ⟨.ref a, H, hI, rfl, q a H (fun _ _ e => e) ?_⟩
    have : bs = [] := List.length_eq_zero_iff.mp (by omega)
    rw [this]
    exact ht
  · refine ⟨.ref p.1, H, hI, rfl, q p.1 H (fun _ _ e => e) ?_⟩
    cases bs with
    | nil =>
      rw [n1] at len
      exact absurd len (by simp)
    | cons b m =>
      have m0 : m = [] := List.length_eq_zero_iff.mp (by rw [List.length_cons] at len; omega)
      subst m0
      have ep : p.1 = b.1 := by
        cases ts with
        | nil => simp at hp
        | cons c k =>
          have : c = p := by simpa using hp
          subst this
          exact (List.cons.inj e1).1
      rw [ep]
      simpa using (hb b List.mem_cons_self).2
  · refine ⟨.ref a, upd H a (.tup (bs.map (·.2)).flatten), I.laidN (t' := tk) k1 hn (I.hok.gone hn) ⟨hz, _, e3, tu⟩, rfl, q a _ (fun b o e => ?_) (.inl (.inl (upd_same)))⟩
    rw [upd_ne (ne_of_none e (I.hok.gone hn))]
    exact e
end
end L2
set_option maxRecDepth 100000
set_option maxHeartbeats 4000000
namespace EnT
open PySem PySem.Spec PyProof.Rows
open AutoSeq1 (wpAny_loadPart')
theorem meets_newT (l : Addr) (items : Array Value) (n : Nat) (dct : Option Addr) (sl : Array (Option Value)) :
    Meets (Builtin.«enumerate.__new__» ⟨[.type "enumerate", .ref l], []⟩) (fun _ R s => s.heap.get? l = some { cls := .type "tuple", dict := dct, data := .seq items n, slots := sl } ∧
      R (.ok (.ret (.ref (s.heap.push { cls := .type "tuple_iterator", data := .fields #[.ref l, .int 0 0] }).objs.size)))
        { s with heap := (s.heap.push { cls := .type "tuple_iterator", data := .fields #[.ref l, .int 0 0] }).push { cls := .type "enumerate", data := .fields #[.none, .bool false, .ref s.heap.objs.size, rawInt 0, .none, .none] } }) :=
  .of_wp fun prog w A R s h => by
    obtain ⟨hp, g, d, tk, os⟩ := s; obtain ⟨hl, h⟩ := h
    have hsub := PySem.sub_enumerate
    have hL : Heap.IsTuple (Shared.heap ⟨hp, g, d, tk, os⟩) l items := ⟨_, hl, rfl, n, rfl⟩
    wp_walk using wpAny_loadPart' hl
    refine wpAny_stack_any fun st => wpAny_pure ?_
    split
    · rename_i c _ _ _ _ _
      cases (c == Value.type "enumerate")
      · wp_walk using wpAny_loadPart' hl, PySem.wpAny_pyIter_tuple hL
        exact ⟨_, rfl, h⟩
      · wp_walk using wpAny_loadPart' hl, PySem.wpAny_pyIter_tuple hL
        exact ⟨_, rfl, h⟩
    · wp_walk using wpAny_loadPart' hl, PySem.wpAny_pyIter_tuple hL
      exact ⟨_, rfl, h⟩
section
variable {prog : Program} {w : World} {A : Around} {E : Value → Shared → Prop} {s : Shared}
theorem call_enumT {l : Addr} {items : Array Value} {Q : Value → Shared → Prop} (hL : s.heap.IsTuple l items)
    (h : ∀ h', IsEnum h' (s.heap.objs.size + 1) s.heap.objs.size 0 .none → h'.IsTupleIter s.heap.objs.size l 0 → h'.objs.size = s.heap.objs.size + 2 →
      (∀ b o, s.heap.get? b = some o → h'.get? b = some o) → Q (.ref (s.heap.objs.size + 1)) { s with heap := h' }) :
    wpAny (model prog w) A (call (.type "enumerate") [.ref l]) Q E s := by
  obtain ⟨⟨c, dct, dt, sl⟩, hl, hc, n, hd⟩ := hL
  replace hc : c = .type "tuple" := hc
  replace hd : dt = .seq items n := hd
  subst hc hd
  refine callType_new PySem.F.called_enumerate (by decide) (PySem.F.typeCall_enumerate_1 _) (PySem.F.newCall_enumerate_1 _) (fun obj => PySem.F.args_object_init_2 obj _) PySem.F.entry_enumerate_new
    (meets_newT l items n dct sl) ⟨hl, ?_⟩
  have hz : (s.heap.push { cls := .type "tuple_iterator", data := .fields #[.ref l, .int 0 0] }).objs.size = s.heap.objs.size + 1 := Heap.size_push ..
  show _ ∧ _
  rw [hz]
  have he : IsEnum ((s.heap.push { cls := .type "tuple_iterator", data := .fields #[.ref l, .int 0 0] }).push
      { cls := .type "enumerate", data := .fields #[.none, .bool false, .ref s.heap.objs.size, rawInt 0, .none, .none] }) (s.heap.objs.size + 1) s.heap.objs.size 0 .none := by
    have := Heap.get?_push_size (s.heap.push { cls := .type "tuple_iterator", data := .fields #[.ref l, .int 0 0] })
      (o := { cls := .type "enumerate", data := .fields #[.none, .bool false, .ref s.heap.objs.size, rawInt 0, .none, .none] }) rfl
    rw [hz] at this; exact this
  refine ⟨⟨_, he, rfl⟩, h _ he ⟨_, Heap.get?_push_of_some _ (Heap.get?_push_size _ rfl), rfl, rfl⟩ (by rw [Heap.size_push, hz]) fun b o x => Heap.get?_push_of_some _ (Heap.get?_push_of_some _ x)⟩
end
end EnT
namespace L2
open PySem PySem.Spec PyProof.Rows HT
def Iteu (K : PySem.W.Frag) (a : Addr) : It :=
  ⟨fun i H => ∃ (xs : List V) (x : V), SqT K H a xs ∧ xs[i]? = some x, fun i H v H' => ∃ T x, v = .ref T ∧ H T = none ∧ H' = upd H T (.tup [.int (i : Nat), x]) ∧ ∀ xs, SqT K H a xs → xs[i]? = some x, fun i H => ∃ xs : List V, SqT K H a xs ∧ xs.length ≤ i⟩
theorem tuple_of {h : Heap} {a : Addr} {items : Array Value} (x : IsTup h a items) : h.IsTuple a items := by
  obtain ⟨o, ho, hc, n, hd⟩ := x
  exact ⟨o, ho, hc, n, hd⟩
theorem turn_enumU {P : Program} {w : World} {K : PySem.W.Frag} {elts : List Expr} {kk : Nat} {tpos : Pos} (a e it : Addr) :
    Turn P w K (.Tuple elts kk tpos) (Iteu K a) [e, it] e (fun i h => (∃ old, IsEnum h e it ((i : Nat) : Int) old) ∧ h.IsTupleIter it a i ∧ e ≠ it) where
  mem := by simp
  obj := fun i h st b hb => by
    obtain ⟨⟨old, he⟩, ⟨o, ho, hc, hd⟩, _⟩ := st
    have e' : b = e ∨ b = it := by simpa using hb
    rcases e' with z | z
    · rw [z]; exact ⟨_, he, fun v q => nomatch q⟩
    · rw [z]; exact ⟨o, ho, fun v q => by rw [hd] at q; cases q⟩
  keep := fun i h h' st k => let ⟨⟨old, he⟩, hi, hne⟩ := st; ⟨⟨old, k e (by simp) _ he⟩, hi.at fun o q => k it (by simp) o q, hne⟩
  item := by
    intro X hP hw hK hc i pins s σ H E I hf st hg
    subst hP hw hK
    obtain ⟨⟨old, he⟩, hit, hne⟩ := st
    obtain ⟨xs, x, hq, hx⟩ := hg
    obtain ⟨its, rv, p, hz⟩ := I.tuple hq
    obtain ⟨u, hu, ru⟩ := rv.get hx
    have hel : e < s.heap.objs.size := Heap.lt_size he
    have hil : it < s.heap.objs.size := by obtain ⟨_, q, _⟩ := hit; exact Heap.lt_size q
    have pt := tuple_of p
    have hai : a ≠ it := fun z => by
      obtain ⟨o, ho, hc, _⟩ := hit
      obtain ⟨o2, ho2, hc2, _⟩ := pt
      rw [z, ho] at ho2
      cases ho2
      rw [hc] at hc2
      exact absurd hc2 (by simp)
    have hae : a ≠ e := fun z => by
      obtain ⟨o2, ho2, hc2, _⟩ := pt
      rw [z, he] at ho2
      cases ho2
      exact absurd hc2 (by simp)
    have hi : i < its.toArray.size := by
      rw [List.size_toArray]
      exact (List.getElem?_eq_some_iff.mp hu).1
    refine PySem.wpAny_pyNext_enum_itemD (PySem.Draws.tuple (prog := X.prog) (w := X.w) (A := X.A.in1) (I.ok.hd hc) it a hai its.toArray) he ⟨hit, pt⟩ hi hne (by simpa using ⟨hne, fun z => hae z.symm⟩) fun x' h' tk hP ho hst' hT hsz hk => ?_
    have ex : x' = u := by
      have hP' : its.toArray[i]? = some x' := hP
      rw [List.getElem?_toArray, hu] at hP'
      exact (Option.some.inj hP').symm
    subst ex
    obtain ⟨hit', _⟩ := hst'
    refine ⟨_, rfl, wpAny_letOwnedTupleGo_enum (s := { s with heap := h', toks := tk + 1 }) ho fun h'' he' sb => ?_⟩
    have hT2 : h''.get? s.heap.objs.size = some { cls := .type "tuple", data := .seq #[.int i tk, x'] } := (sb.2 _ (Nat.ne_of_gt hel)).trans hT
    have new : ObjOk X.prog X.w (upd H s.heap.objs.size (.tup [.int (i : Nat), x])) h'' s.heap.objs.size (.tup [.int (i : Nat), x]) :=
      ⟨by show 2 ≤ sizeLine; decide, [.int i tk, x'], .cons ⟨_, rfl⟩ (.cons ru .nil), ⟨_, hT2, rfl, _, rfl⟩⟩
    have I1 : Inv X pins σ (upd H s.heap.objs.size (.tup [.int (i : Nat), x])) { s with heap := h'', toks := tk + 1 } :=
      I.turnedNew (ch := [e, it]) (fun b ob hb q => (sb.2 b (fun z => hb (by simp [z]))).trans (hk b ob (fun z => hb (by simp [z])) (fun z => hb (by simp [z])) q)) hf (Nat.le_refl _) new
    refine ⟨.ref s.heap.objs.size, _, I1, rfl, ⟨_, x, rfl, I.hok.fresh (Nat.le_refl _), rfl, fun ys hy => by rw [I.tuple_inj hy hq]; exact hx⟩, ⟨⟨x', ?_⟩, hit'.at fun o q => (sb.2 it (Ne.symm hne)).trans q, hne⟩, fun b hb => ?_⟩
    · have e1 : ((i + 1 : Nat) : Int) = (i : Int) + 1 := by omega
      rw [e1]; exact he'
    · have hb' : b < s.heap.objs.size := by
        have e' : b = e ∨ b = it := by simpa using hb
        rcases e' with z | z
        · rw [z]; exact hel
        · rw [z]; exact hil
      rw [upd_ne (Nat.ne_of_lt hb')]
      exact (hf b hb).1
  done := by
    intro X hP hw hK hc i pins s σ H E I hf st hg
    subst hP hw hK
    obtain ⟨⟨old, he⟩, hit, hne⟩ := st
    obtain ⟨xs, hq, hx⟩ := hg
    obtain ⟨its, rv, p, hz⟩ := I.tuple hq
    obtain ⟨f0, f1, f2, f3, f4, f5⟩ := hf it (by simp)
    have hl := rv.length
    have pt := tuple_of p
    have hT : s.TypeIs (.ref e) "enumerate" := ⟨_, he, rfl⟩
    unfold pyNext
    refine wpAny_bind (wpAny_attempt (PySem.wpAny_callSpecial?_slot (name := Str.ofString "__next__") hT PySem.F.slot_enumerate_next
      (PySem.wpAny_call_entry PySem.F.slot_enumerate_next hT PySem.F.entry_enumerate_next ?_ (PySem.F.args_enumerate_next_1 _))))
    show wpAny _ _ (field (.ref e) 2 >>= _) _ _ _
    refine wpAny_bind (PySem.wpAny_field he rfl (x := .ref it) rfl ?_)
    refine wpAny_bind (PySem.wpAny_nextOf_tuple_end (I.ok.hd hc) hit pt (by simp; omega) fun h' x eb hx' => ?_)
    obtain ⟨o, ho, hc'⟩ := hx'
    refine wpAny_bind (wpAny_isInstance (T := "StopIteration") (b := true) ⟨o, ho, hc'⟩ PySem.isSubtype_stop ?_)
    exact wpAny_pure ⟨rfl, I.turned (t' := s.toks) (fun b o hb q => eb b o hb q) f0 f1 f3 f4 f5⟩
  self := fun A i s Q E st h => let ⟨⟨_, he⟩, _⟩ := st; wpAny_pyIter_enum he h
def iEnumU (K : PySem.W.Frag) (ta : TA) : TI := fun σ H R => ta σ H fun vs H1 => ∃ a xs, vs = [.ref a] ∧ SqT K H1 a xs ∧ R (Iteu K a) H1
theorem pi_enumU {X : Cx} {e : Expr} {ta : TA} {p pos tpos : Pos} {elts : List Expr} {kk : Nat} (hg : Gl X "enumerate") (hm : X.mg "enumerate" = none) (ha : PA X [e] ta) (hs : starEach [e] X.env = [(false, eval e X.env)] := by rfl) :
    PI X (.Tuple elts kk tpos) (.Call (.Name "enumerate" p) [e] [] pos) (iEnumU X.K ta) := by
  refine ⟨fun pins s σ H R I h => ?_⟩
  refine Call_ (ld_blt I hg hm boot_enumerate (PyProof.Rows.callWith_type1 (thn (ha.run pos pins s σ H _ I h) fun us s1 ⟨vs, H1, I1, r1, q1⟩ => ?_) hs rfl))
  obtain ⟨a, xs, ex, hq, q⟩ := q1
  subst ex
  cases r1 with
  | cons r rr =>
    cases rr
    cases r
    obtain ⟨its, rv, p', hz⟩ := I1.tuple hq
    refine EnT.call_enumT (tuple_of p') fun h' he hit hsz hk => wpAny_pyIter_enum he ?_
    have I2 : Inv X pins σ H1 { s1 with heap := h' } := I1.kept (t' := s1.toks) hk
    refine ⟨s1.heap.objs.size + 1, [s1.heap.objs.size + 1, s1.heap.objs.size], _, _, H1, rfl, I2, turn_enumU a (s1.heap.objs.size + 1) s1.heap.objs.size, ⟨⟨.none, he⟩, hit, Nat.succ_ne_self _⟩, fun b hb => ?_, q⟩
    have e' : b = s1.heap.objs.size + 1 ∨ b = s1.heap.objs.size := by simpa using hb
    have hle : s1.heap.objs.size ≤ b := by
      rcases e' with z | z
      · rw [z]; exact Nat.le_add_right _ _
      · rw [z]; exact Nat.le_refl _
    exact I1.fpOk hle (I1.hok.fresh hle)
theorem walk_enumU {K : PySem.W.Frag} {a : Addr} {xs : List V} : Walk (Iteu K a) xs.length (fun H => SqT K H a xs) (YPair (fun i => some (.int (i : Nat))) (fun i => xs[i]?)) := by
  refine ⟨fun i _ hi q => ⟨xs, xs[i], q, by simp [hi]⟩, fun _ q => ⟨xs, q, Nat.le_refl _⟩, fun i H v H' _ q y => ?_⟩
  obtain ⟨T, x, h1, h2, h3, h4⟩ := y
  exact ⟨T, .int (i : Nat), x, h1, h2, h3, rfl, h4 xs q⟩
end L2
set_option maxRecDepth 100000
set_option maxHeartbeats 4000000
namespace Tt
open PySem L2
structure DefAt (K : PySem.W.Frag) (mg : Str → Option Value) (x : Str) (st : Stmt) (ps : List Str) where
  a : Addr
  fd : FuncData
  F : Fun K x x st a fd
  g : mg x = some (.ref a)
  b : Binds K fd ps []
theorem DefAt.k {K : PySem.W.Frag} {mg : Str → Option Value} {x : Str} {st : Stmt} {ps : List Str} (d : DefAt K mg x st ps) : PySem.W.keepIn K (.ref d.a) = true := d.F.kp
structure Ex0 (K : PySem.W.Frag) (mg : Str → Option Value) (x : Str) where
  C : Addr
  g : mg x = some (.ref C)
  k : PySem.W.keepIn K (.ref C) = true
  q : PySem.W.excIn K C [.type "ValueError", .type "Exception", .type "BaseException", .type "object"] "ValueError.__new__" = true
  ty : PySem.W.typeIn K (.ref C) = some (.type "type")
  ec : ExcC K C
structure Ex1 (K : PySem.W.Frag) (mg : Str → Option Value) (x qual : Str) (st : Stmt) (ps : List Str) (field : Str) where
  C : Addr
  fI : Addr
  fd : FuncData
  g : mg x = some (.ref C)
  o : OexC K C
  i : PySem.W.findIn K (.ref C) "__init__" = some (some (.ref fI))
  t : PySem.W.typeIn K (.ref fI) = some (.type "function")
  F : Fun K "__init__" qual st fI fd
  b : Binds K fd ps []
  n : PySem.W.findIn K (.ref C) field = some none
  xf : XfC K C
  ec : ExcC K C
structure ClsAt (K : PySem.W.Frag) (mg : Str → Option Value) (x qual : Str) (st : Stmt) (ps : List Str) (attrs : List Str) where
  C : Addr
  fI : Addr
  fd : FuncData
  g : mg x = some (.ref C)
  c : Cls K C
  n : ∀ f ∈ attrs, NoAttr K C f
  kk : Mk K C fI
  F : Fun K "__init__" qual st fI fd
  b : Binds K fd ps []
  ha : PySem.W.findIn K (.ref C) "__class__" = some (some (.builtin "object.__class__"))
  hn : PySem.W.specialIn K (.builtin "object.__class__") "__get__" = some (some (.builtin "getset_descriptor.__get__"))
  ht : PySem.W.takesIn K (.builtin "object.__class__") = some true
  hm : PySem.W.mroIn K C (.type "object") = some true
structure FunC (K : PySem.W.Frag) (x qual : Str) (st : Stmt) (f : Addr) (fd : FuncData) (cdv : Value) : Prop where
  ex : ∃ (oc : Value) (od : Option Addr) (kV doc pm : Value) (an : Option Addr) (ct : Value) (osl : Array (Option Value)),
    fd = PySem.W.fnOf x qual (defArgs st) (defBody st) (defScope st) .none kV doc pm an cdv ct ∧ K.lookup f = some ⟨oc, od, .func fd, osl⟩ ∧ PySem.W.codeIn K cdv qual = true
theorem FunC.ok {P : Program} {w : World} {K : PySem.W.Frag} {mg : Str → Option Value} {base : Heap} {x qual : Str} {st : Stmt} {f : Addr} {fd : FuncData} {cdv : Value} {N ps : List Str} {k : Nat} {sp : Sp} (F : FunC K x qual st f fd cdv) (S : FnScope N ps (defScope st)) (len : ∀ vs H Q E, sp vs H Q E → vs.length = ps.length)
    (body : ∀ (A : Around) (outer : List Env) (s : Shared) (H : Hp) (vs : List V) (Q : VK) (E : XK), Room k (A.deeper (PyProof.Rows.envOfC qual (defScope st) s.heap.objs.size f cdv)) → sp vs H Q E →
      ∃ t, PSs (cxOf CX0 P w K mg base N qual (defScope st) f cdv A outer s H E).nox (defBody st) t ∧ t { nx := fun _ H' => Q .non H', rt := Q } (L2.start N vs) H) : FnOk P w K mg base CX0 (k + 1) f fd ps sp := by
  obtain ⟨oc, od, kV, doc, pm, an, ct, osl, rfl, lk, hc⟩ := F.ex
  refine fn_of lk hc S len fun A outer s H vs Q E hr h => ?_
  obtain ⟨t, h1, h2⟩ := body A outer s H vs Q E hr h
  exact ⟨t, h1.nox, h2⟩
def top (i : Nat) : Stmt := PySem.Challenge.pw_tautrounds_k02_whole_rims_and_genus.main.body.getD i (.Pass ⟨0, 0, 0, 0⟩)
abbrev s_BadSkin_init : Stmt := inClass (top 2) 0
abbrev N_BadSkin_init : List Str := ["self", "part"]
theorem sc_BadSkin_init : FnScope N_BadSkin_init ["self", "part"] (defScope s_BadSkin_init) := ⟨rfl, rfl, rfl, by decide +kernel, rfl, by decide +kernel, by decide +kernel⟩
abbrev s_is_number : Stmt := top 4
abbrev N_is_number : List Str := ["thing"]
theorem sc_is_number : FnScope N_is_number ["thing"] (defScope s_is_number) := ⟨rfl, rfl, rfl, by decide +kernel, rfl, by decide +kernel, by decide +kernel⟩
abbrev s_is_tuple : Stmt := top 5
abbrev N_is_tuple : List Str := ["thing"]
theorem sc_is_tuple : FnScope N_is_tuple ["thing"] (defScope s_is_tuple) := ⟨rfl, rfl, rfl, by decide +kernel, rfl, by decide +kernel, by decide +kernel⟩
abbrev s_is_list : Stmt := top 6
abbrev N_is_list : List Str := ["thing"]
theorem sc_is_list : FnScope N_is_list ["thing"] (defScope s_is_list) := ⟨rfl, rfl, rfl, by decide +kernel, rfl, by decide +kernel, by decide +kernel⟩
abbrev s_is_row : Stmt := top 8
abbrev N_is_row : List Str := ["row", "end"]
theorem sc_is_row : FnScope N_is_row ["row"] (defScope s_is_row) := ⟨rfl, rfl, rfl, by decide +kernel, rfl, by decide +kernel, by decide +kernel⟩
abbrev s_Skin_init : Stmt := inClass (top 9) 0
abbrev N_Skin_init : List Str := ["self", "row", "start", "end"]
theorem sc_Skin_init : FnScope N_Skin_init ["self", "row"] (defScope s_Skin_init) := ⟨rfl, rfl, rfl, by decide +kernel, rfl, by decide +kernel, by decide +kernel⟩
abbrev s_Skin_eq : Stmt := inClass (top 9) 1
abbrev N_Skin_eq : List Str := ["self", "other"]
theorem sc_Skin_eq : FnScope N_Skin_eq ["self", "other"] (defScope s_Skin_eq) := ⟨rfl, rfl, rfl, by decide +kernel, rfl, by decide +kernel, by decide +kernel⟩
abbrev s_check_skin : Stmt := top 10
abbrev N_check_skin : List Str := ["skin"]
theorem sc_check_skin : FnScope N_check_skin ["skin"] (defScope s_check_skin) := ⟨rfl, rfl, rfl, by decide +kernel, rfl, by decide +kernel, by decide +kernel⟩
abbrev s_end_behind : Stmt := top 11
abbrev N_end_behind : List Str := ["skin", "end", "steps"]
theorem sc_end_behind : FnScope N_end_behind ["skin", "end", "steps"] (defScope s_end_behind) := ⟨rfl, rfl, rfl, by decide +kernel, rfl, by decide +kernel, by decide +kernel⟩
abbrev s_least_turn : Stmt := top 12
abbrev N_least_turn : List Str := ["word", "many", "one", "other", "alike", "first", "second", "start"]
theorem sc_least_turn : FnScope N_least_turn ["word"] (defScope s_least_turn) := ⟨rfl, rfl, rfl, by decide +kernel, rfl, by decide +kernel, by decide +kernel⟩
abbrev s_rim_from : Stmt := top 13
abbrev N_rim_from : List Str := ["skin", "start", "rim", "end"]
theorem sc_rim_from : FnScope N_rim_from ["skin", "start"] (defScope s_rim_from) := ⟨rfl, rfl, rfl, by decide +kernel, rfl, by decide +kernel, by decide +kernel⟩
abbrev s_rims : Stmt := top 14
abbrev N_rims : List Str := ["skin", "found", "left", "rim", "end"]
theorem sc_rims : FnScope N_rims ["skin"] (defScope s_rims) := ⟨rfl, rfl, rfl, by decide +kernel, rfl, by decide +kernel, by decide +kernel⟩
abbrev s_genus : Stmt := top 15
abbrev N_genus : List Str := ["skin"]
theorem sc_genus : FnScope N_genus ["skin"] (defScope s_genus) := ⟨rfl, rfl, rfl, by decide +kernel, rfl, by decide +kernel, by decide +kernel⟩
abbrev s_l_begun : Stmt := top 17
abbrev N_l_begun : List Str := ["script", "large", "grain"]
theorem sc_l_begun : FnScope N_l_begun ["script"] (defScope s_l_begun) := ⟨rfl, rfl, rfl, by decide +kernel, rfl, by decide +kernel, by decide +kernel⟩
abbrev s_l_mixed : Stmt := top 18
abbrev N_l_mixed : List Str := ["draw", "turn", "found", "great", "blend", "grain"]
theorem sc_l_mixed : FnScope N_l_mixed ["draw"] (defScope s_l_mixed) := ⟨rfl, rfl, rfl, by decide +kernel, rfl, by decide +kernel, by decide +kernel⟩
abbrev s_l_take : Stmt := top 19
abbrev N_l_take : List Str := ["draw", "amount", "found"]
theorem sc_l_take : FnScope N_l_take ["draw", "amount"] (defScope s_l_take) := ⟨rfl, rfl, rfl, by decide +kernel, rfl, by decide +kernel, by decide +kernel⟩
abbrev s_l_pick : Stmt := top 20
abbrev N_l_pick : List Str := ["draw", "some"]
theorem sc_l_pick : FnScope N_l_pick ["draw", "some"] (defScope s_l_pick) := ⟨rfl, rfl, rfl, by decide +kernel, rfl, by decide +kernel, by decide +kernel⟩
abbrev s_l_shuffled : Stmt := top 21
abbrev N_l_shuffled : List Str := ["draw", "some", "left", "found"]
theorem sc_l_shuffled : FnScope N_l_shuffled ["draw", "some"] (defScope s_l_shuffled) := ⟨rfl, rfl, rfl, by decide +kernel, rfl, by decide +kernel, by decide +kernel⟩
abbrev s_l_caught : Stmt := top 22
abbrev N_l_caught : List Str := ["work", "caught", "error"]
theorem sc_l_caught : FnScope N_l_caught ["work"] (defScope s_l_caught) := ⟨rfl, rfl, rfl, by decide +kernel, rfl, by decide +kernel, by decide +kernel⟩
abbrev s_l_skin_error : Stmt := top 23
abbrev N_l_skin_error : List Str := ["error"]
theorem sc_l_skin_error : FnScope N_l_skin_error ["error"] (defScope s_l_skin_error) := ⟨rfl, rfl, rfl, by decide +kernel, rfl, by decide +kernel, by decide +kernel⟩
abbrev s_l_mate : Stmt := top 24
abbrev N_l_mate : List Str := ["end"]
theorem sc_l_mate : FnScope N_l_mate ["end"] (defScope s_l_mate) := ⟨rfl, rfl, rfl, by decide +kernel, rfl, by decide +kernel, by decide +kernel⟩
abbrev s_l_least_turn : Stmt := top 25
abbrev N_l_least_turn : List Str := ["word_here", "at"]
theorem sc_l_least_turn : FnScope N_l_least_turn ["word_here"] (defScope s_l_least_turn) := ⟨rfl, rfl, rfl, by decide +kernel, rfl, by decide +kernel, by decide +kernel⟩
abbrev s_l_row : Stmt := top 26
abbrev N_l_row : List Str := ["draw", "most"]
theorem sc_l_row : FnScope N_l_row ["draw", "most"] (defScope s_l_row) := ⟨rfl, rfl, rfl, by decide +kernel, rfl, by decide +kernel, by decide +kernel⟩
abbrev s_l_rims : Stmt := top 27
abbrev N_l_rims : List Str := ["line", "many", "left", "found", "spot", "word_here", "end"]
theorem sc_l_rims : FnScope N_l_rims ["line"] (defScope s_l_rims) := ⟨rfl, rfl, rfl, by decide +kernel, rfl, by decide +kernel, by decide +kernel⟩
abbrev s_l_lots : Stmt := top 28
abbrev N_l_lots : List Str := ["line", "many", "names", "pairs", "found", "end", "spot", "one", "other", "old", "fresh", "corner"]
theorem sc_l_lots : FnScope N_l_lots ["line"] (defScope s_l_lots) := ⟨rfl, rfl, rfl, by decide +kernel, rfl, by decide +kernel, by decide +kernel⟩
abbrev s_law : Stmt := top 29
abbrev N_law : List Str := ["script", "draw", "turn", "line", "skin", "due", "found", "high", "no", "error"]
theorem sc_law : FnScope N_law ["script"] (defScope s_law) := ⟨rfl, rfl, rfl, by decide +kernel, rfl, by decide +kernel, by decide +kernel⟩
structure Txt (K : PySem.W.Frag) (mg : Str → Option Value) where
  RoundError : Ex0 K mg "RoundError"
  BadSkin : Ex1 K mg "BadSkin" "BadSkin.__init__" s_BadSkin_init ["self", "part"] "part"
  is_number : DefAt K mg "is_number" s_is_number ["thing"]
  is_tuple : DefAt K mg "is_tuple" s_is_tuple ["thing"]
  is_list : DefAt K mg "is_list" s_is_list ["thing"]
  is_row : DefAt K mg "is_row" s_is_row ["row"]
  Skin : ClsAt K mg "Skin" "Skin.__init__" s_Skin_init ["self", "row"] ["row", "bands", "places"]
  check_skin : DefAt K mg "check_skin" s_check_skin ["skin"]
  end_behind : DefAt K mg "end_behind" s_end_behind ["skin", "end", "steps"]
  least_turn : DefAt K mg "least_turn" s_least_turn ["word"]
  rim_from : DefAt K mg "_rim_from" s_rim_from ["skin", "start"]
  rims : DefAt K mg "rims" s_rims ["skin"]
  genus : DefAt K mg "genus" s_genus ["skin"]
  l_begun : DefAt K mg "_law_begun" s_l_begun ["script"]
  l_mixed : DefAt K mg "_law_mixed" s_l_mixed ["draw"]
  l_take : DefAt K mg "_law_take" s_l_take ["draw", "amount"]
  l_pick : DefAt K mg "_law_pick" s_l_pick ["draw", "some"]
  l_shuffled : DefAt K mg "_law_shuffled" s_l_shuffled ["draw", "some"]
  l_caught : DefAt K mg "_law_caught" s_l_caught ["work"]
  l_skin_error : DefAt K mg "_law_skin_error" s_l_skin_error ["error"]
  l_mate : DefAt K mg "_law_mate" s_l_mate ["end"]
  l_least_turn : DefAt K mg "_law_least_turn" s_l_least_turn ["word_here"]
  l_row : DefAt K mg "_law_row" s_l_row ["draw", "most"]
  l_rims : DefAt K mg "_law_rims" s_l_rims ["line"]
  l_lots : DefAt K mg "_law_lots" s_l_lots ["line"]
  law : DefAt K mg "law" s_law ["script"]
  zabs : mg "abs" = none
  zall : mg "all" = none
  zenumerate : mg "enumerate" = none
  zint : mg "int" = none
  zisinstance : mg "isinstance" = none
  zlen : mg "len" = none
  zlist : mg "list" = none
  zmin : mg "min" = none
  zrange : mg "range" = none
  zrepr : mg "repr" = none
  zsorted : mg "sorted" = none
  zsum : mg "sum" = none
  ztuple : mg "tuple" = none
  ztype : mg "type" = none
  kSS : PySem.W.kitOne K (.ref Skin.C) (.ref Skin.C) = some true
  kST : PySem.W.kitOne K (.type "tuple") (.ref Skin.C) = some false
  kSN : PySem.W.kitOne K (.type "NoneType") (.ref Skin.C) = some false
  kSL : PySem.W.kitOne K (.type "list") (.ref Skin.C) = some false
  kSI : PySem.W.kitOne K (.type "int") (.ref Skin.C) = some false
  kSY : PySem.W.kitOne K (.type "str") (.ref Skin.C) = some false
  kSkSk : PySem.W.kitOne K (.ref BadSkin.C) (.ref BadSkin.C) = some true
  sSR : PySem.W.subIn K (.ref BadSkin.C) (.ref RoundError.C) = some true
  lc : Addr
  lP : Addr
  lF : FunC K "law" "law" s_law law.a law.fd (.ref lc)
structure Dw where
  d : Addr
  l : Addr
  c : Addr
def drK (D : Dw) (r t : Int) : List (Key × V) := [(Sum.inr "large", .ref D.l), (Sum.inr "rest", .int r), (Sum.inr "cells", .ref D.c), (Sum.inr "turn", .int t)]
structure DrAt (D : Dw) (H : Hp) (ls cs : List Int) (r t : Int) : Prop where
  hd : H D.d = some (.dK (drK D r t))
  hl : H D.l = some (.lst (ls.map V.int))
  hc : H D.c = some (.lst (cs.map V.int))
  ne : D.l ≠ D.c
  nl : ls.length ≤ 63
  nc : cs.length ≤ 63
def DrOk (D : Dw) (H : Hp) : Prop := ∃ ls cs r t, DrAt D H ls cs r t
def Kp (D : Dw) (H H' : Hp) : Prop := ∀ b o, H b = some o → b ≠ D.d → b ≠ D.l → H' b = some o
theorem Kp.refl {D : Dw} {H : Hp} : Kp D H H := fun _ _ h _ _ => h
theorem Kp.trans {D : Dw} {H H1 H2 : Hp} (a : Kp D H H1) (b : Kp D H1 H2) : Kp D H H2 := fun c o h n m => b c o (a c o h n m) n m
theorem Kp.of {D : Dw} {H H' : Hp} (a : Same H H') : Kp D H H' := fun c o h _ _ => a c o h
theorem Kp.new {D : Dw} {H : Hp} {p : Addr} {o : HO} (h : H p = none) : Kp D H (upd H p o) := fun c u e _ _ => by
  rw [upd_ne (ne_of_none e h)]
  exact e
theorem DrAt.dne {D : Dw} {H : Hp} {ls cs : List Int} {r t : Int} (h : DrAt D H ls cs r t) {b : Addr} {o : HO} (e : H b = some o) (n : ∀ kvs, o ≠ .dK kvs) : b ≠ D.d := fun z => by
  rw [z, h.hd] at e
  exact n _ (Option.some.inj e).symm
theorem DrAt.lne {D : Dw} {H : Hp} {ls cs : List Int} {r t : Int} (h : DrAt D H ls cs r t) {b : Addr} {o : HO} (e : H b = some o) (n : ∀ xs, o ≠ .lst xs) : b ≠ D.l := fun z => by
  rw [z, h.hl] at e
  exact n _ (Option.some.inj e).symm
theorem DrAt.new {D : Dw} {H : Hp} {ls cs : List Int} {r t : Int} (h : DrAt D H ls cs r t) {p : Addr} {o : HO} (n : H p = none) : DrAt D (upd H p o) ls cs r t :=
  ⟨by rw [upd_ne (ne_of_none h.hd n)]; exact h.hd, by rw [upd_ne (ne_of_none h.hl n)]; exact h.hl, by rw [upd_ne (ne_of_none h.hc n)]; exact h.hc, h.ne, h.nl, h.nc⟩
theorem DrAt.same {D : Dw} {H H' : Hp} {ls cs : List Int} {r t : Int} (h : DrAt D H ls cs r t) (s : Same H H') : DrAt D H' ls cs r t := ⟨s _ _ h.hd, s _ _ h.hl, s _ _ h.hc, h.ne, h.nl, h.nc⟩
theorem DrAt.nelc {D : Dw} {H : Hp} {ls cs : List Int} {r t : Int} (h : DrAt D H ls cs r t) : D.l ≠ D.d := h.dne h.hl (fun _ z => nomatch z)
theorem DrAt.necd {D : Dw} {H : Hp} {ls cs : List Int} {r t : Int} (h : DrAt D H ls cs r t) : D.c ≠ D.d := h.dne h.hc (fun _ z => nomatch z)
theorem DrAt.put {D : Dw} {H : Hp} {ls cs : List Int} {r t r' t' : Int} (h : DrAt D H ls cs r t) : DrAt D (upd H D.d (.dK (drK D r' t'))) ls cs r' t' :=
  ⟨upd_same, by rw [upd_ne h.nelc]; exact h.hl, by rw [upd_ne h.necd]; exact h.hc, h.ne, h.nl, h.nc⟩
theorem Kp.put {D : Dw} {H : Hp} {o : HO} : Kp D H (upd H D.d o) := fun b u e n _ => by rw [upd_ne n]; exact e
theorem Kp.putl {D : Dw} {H : Hp} {o : HO} : Kp D H (upd H D.l o) := fun b u e _ n => by rw [upd_ne n]; exact e
theorem DrAt.pop {D : Dw} {H : Hp} {ls cs ls' : List Int} {r t : Int} (h : DrAt D H ls cs r t) (n : ls'.length ≤ 63) : DrAt D (upd H D.l (.lst (ls'.map V.int))) ls' cs r t :=
  ⟨by rw [upd_ne h.nelc.symm]; exact h.hd, upd_same, by rw [upd_ne h.ne.symm]; exact h.hc, h.ne, n, h.nc⟩
theorem val_large (D : Dw) (r t : Int) : valV (drK D r t) (Sum.inr "large") = some (.ref D.l) := rfl
theorem val_rest (D : Dw) (r t : Int) : valV (drK D r t) (Sum.inr "rest") = some (.int r) := rfl
theorem val_cells (D : Dw) (r t : Int) : valV (drK D r t) (Sum.inr "cells") = some (.ref D.c) := rfl
theorem val_turn (D : Dw) (r t : Int) : valV (drK D r t) (Sum.inr "turn") = some (.int t) := rfl
theorem put_rest (D : Dw) (r t r' : Int) : putK (drK D r t) (Sum.inr "rest") (.int r') = drK D r' t := rfl
theorem put_turn (D : Dw) (r t t' : Int) : putK (drK D r t) (Sum.inr "turn") (.int t') = drK D r t' := rfl
end Tt
set_option maxRecDepth 100000
set_option maxHeartbeats 4000000
namespace Tt
open PySem L2
local macro_rules | `(tactic| walk_at "v") => `(tactic| refine ⟨_, rfl, ?_⟩)
local macro_rules | `(tactic| walk_at "ii") => `(tactic| refine ⟨_, _, rfl, rfl, ?_⟩)
section
variable {P : Program} {w : World} {K : PySem.W.Frag} {mg : Str → Option Value} {base : Heap}
def spMixed : Sp := fun vs H Q _ => ∃ D : Dw, vs = [.ref D.d] ∧ DrOk D H ∧ ∀ z H', DrOk D H' → Kp D H H' → Q (.int z) H'
theorem ok_l_mixed (T : Txt K mg) : FnOk P w K mg base CX0 1 T.l_mixed.a T.l_mixed.fd ["draw"] spMixed := by
  refine T.l_mixed.F.ok sc_l_mixed (fun vs H Q E h => ?_) (fun cdv A outer s H vs Q E hr h => ?_)
  · obtain ⟨D, rfl, _⟩ := h
    rfl
  · obtain ⟨D, rfl, ⟨ls, cs, r, t, dr⟩, k⟩ := h
    have hu := hu_of hr
    have nd := sc_l_mixed.nd
    refine ⟨_, pss_cons (ps_dput hu (pv 0) pe_str (pe_op op_add (pe_dget hu (pv 0) pe_str (fun _ _ => rfl)) pe_int) rfl)
      (pss_cons (ps_par (i := 1) (j := 2) rfl nd rfl rfl (by decide) rfl rfl (pa_cons (pe_callTy call_int1 (by rfl) T.zint (by decide +kernel) (pa_cons (pe_dget hu (pv 0) pe_str (fun _ _ => rfl)) pa_nil)) (pa_cons pe_int pa_nil)) rfl)
      (pss_cons (ps_for PassesOwn.never rfl (pi_list (pe_lst (pa_cons pe_int (pa_cons pe_int (pa_cons pe_int pa_nil))))) (pg_name (i := 3) nd rfl (Or.inl rfl))
        (pss_cons (ps_set (i := 4) nd rfl (Or.inl rfl) (pe_op op_mod (pe_op op_add (pe_op op_mul (pv 1) pe_int) (pe_op op_fdiv (pv 3) pe_int)) (pv 3)))
        (pss_cons (ps_for PassesOwn.never rfl (pi_list (pe_dget hu (pv 0) pe_str (fun _ _ => rfl))) (pg_name (i := 5) nd rfl (Or.inl rfl))
          (pss_one (ps_set (i := 4) nd rfl (Or.inl rfl) (pe_op op_mod (pe_op op_add (pe_op op_mul (pv 4) pe_int) (pe_callTy call_int1 (by rfl) T.zint (by decide +kernel) (pa_cons (pv 5) pa_nil))) (pv 3)))))
        (pss_one (ps_set (i := 2) nd rfl (Or.inl rfl) (pe_op op_add (pe_op op_mul (pv 2) pe_int) (pe_op op_mod (pe_op op_pow (pv 4) pe_int) (pv 3))))))))
      (pss_one (ps_ret (pv 2))))), ?_⟩
    refine ⟨_, rfl, _, _, rfl, DGet.k (k := Sum.inr "turn") dr.hd, _, _, rfl, rfl, _, rfl, _, _, rfl, DPut.k (k := Sum.inr "turn") dr.hd (small1000 (by show 4 ≤ 1000; decide)), ?_⟩
    have dr1 : DrAt D (upd H D.d (.dK (drK D r (t + 1)))) ls cs r (t + 1) := dr.put
    have k1 : Kp D H (upd H D.d (.dK (drK D r (t + 1)))) := Kp.put
    generalize hH1 : upd H D.d (.dK (drK D r (t + 1))) = H1 at dr1 k1
    have eH1 : upd H D.d (.dK (putK (drK D r t) (Sum.inr "turn") (.int (t + 1)))) = H1 := hH1
    rw [eH1]
    refine ⟨_, rfl, _, _, rfl, DGet.k (k := Sum.inr "turn") dr1.hd, .inl ⟨_, rfl, ?_⟩⟩
    refine ⟨_, _, rfl, ?_⟩
    refine ⟨(by show 3 ≤ sizeLine; decide), fun p hp => ?_⟩
    have dr2 := dr1.new (o := .lst [.int 2147483629, .int 2147483587, .int 2147483579]) hp
    have k2 : Kp D H1 (upd H1 p (.lst [.int 2147483629, .int 2147483587, .int 2147483579])) := Kp.new hp
    refine ⟨p, rfl, ⟨_, SqL.of upd_same⟩, ?_⟩
    have hp2 : (upd H1 p (.lst [.int 2147483629, .int 2147483587, .int 2147483579])) p = some (.lst [.int 2147483629, .int 2147483587, .int 2147483579]) := upd_same
    generalize upd H1 p (.lst [.int 2147483629, .int 2147483587, .int 2147483579]) = H2 at dr2 k2 hp2
    refine for_list (K := K) (a := p) (xs := [.int 2147483629, .int 2147483587, .int 2147483579]) (fun i σ H' => H' = H2 ∧ ∃ f v3 v4 v5, σ = [some (.ref D.d), some (.int (t + 1)), some (.int f), v3, v4, v5])
      ⟨rfl, 0, _, _, _, rfl⟩ (fun i σ H' _ q => by rw [q.1]; exact SqL.of hp2) ?_ ?_
    · rintro i x σ H' hi ⟨rfl, f, v3, v4, v5, rfl⟩
      obtain ⟨g, rfl, g0, g1⟩ : ∃ g : Int, x = .int g ∧ 0 < g ∧ g < 2147483648 := by
        match i, hi with
        | 0, hi => exact ⟨_, (Option.some.inj hi).symm, by decide, by decide⟩
        | 1, hi => exact ⟨_, (Option.some.inj hi).symm, by decide, by decide⟩
        | 2, hi => exact ⟨_, (Option.some.inj hi).symm, by decide, by decide⟩
      refine ⟨_, rfl, _, _, rfl, rfl, .inr ⟨by decide, by decide⟩, _, rfl, _, _, rfl, rfl, ⟨by decide, by decide⟩, _, _, rfl, rfl, _, rfl, _, _, rfl, rfl, g0, ?_⟩
      refine ⟨_, rfl, _, _, rfl, DGet.k (k := Sum.inr "cells") dr2.hd, _, rfl, ⟨_, SqL.of dr2.hc⟩, ?_⟩
      refine for_list (K := K) (a := D.c) (xs := cs.map V.int) (fun i σ H'' => H'' = H' ∧ ∃ b v5, (0 ≤ b ∧ b < g) ∧ σ = [some (.ref D.d), some (.int (t + 1)), some (.int f), some (.int g), some (.int b), v5])
        ⟨rfl, _, _, ⟨Int.emod_nonneg _ (by omega), Int.emod_lt_of_pos _ g0⟩, rfl⟩ (fun i σ H'' _ q => by rw [q.1]; exact SqL.of dr2.hc) ?_ ?_
      · rintro j y σ H'' hj ⟨rfl, b, v5, hb, rfl⟩
        obtain ⟨z, rfl⟩ : ∃ z, y = V.int z := by
          rw [List.getElem?_map] at hj
          cases e : cs[j]? with
          | none => rw [e] at hj; cases hj
          | some z => rw [e] at hj; exact ⟨z, (Option.some.inj hj).symm⟩
        refine ⟨_, rfl, _, _, rfl, rfl, .inr ⟨by decide, by decide⟩, _, rfl, .inl ⟨_, rfl, _, _, rfl, rfl, _, rfl, _, _, rfl, rfl, g0, ?_⟩⟩
        exact ⟨rfl, _, _, ⟨Int.emod_nonneg _ (by omega), Int.emod_lt_of_pos _ g0⟩, rfl⟩
      · rintro σ H'' ⟨rfl, b, v5, hb, rfl⟩
        refine ⟨_, rfl, _, _, rfl, rfl, .inr ⟨by decide, by decide⟩, _, rfl, _, _, rfl, rfl, ⟨by decide, by decide, by omega⟩, _, rfl, _, _, rfl, rfl, g0, _, _, rfl, rfl, ?_⟩
        exact ⟨rfl, _, _, _, _, rfl⟩
    · rintro σ H' ⟨rfl, f, v3, v4, v5, rfl⟩
      refine ⟨_, rfl, ?_⟩
      exact k _ _ ⟨_, _, _, _, dr2⟩ (k1.trans k2)
end
end Tt
set_option maxRecDepth 100000
set_option maxHeartbeats 4000000
namespace Tt
open PySem L2
section
variable {P : Program} {w : World} {K : PySem.W.Frag} {mg : Str → Option Value} {base : Heap}
theorem dpAll_ints (H : Hp) : ∀ ls : List Int, DpAll K H (ls.map V.int) (ls.map PyData.int)
  | [] => .nil
  | a :: l => .cons (.int a) (dpAll_ints H l)
theorem shapedAll_ints : ∀ ls : List Int, SeqAt.shaped (.list (ls.map PyData.int)) = true
  | [] => by first | rfl | decide
  | a :: l => by
    have h := shapedAll_ints l
    first | exact h | (simp [SeqAt.shaped] at h ⊢) | trace_state
theorem eqv_nil (ls : List Int) : PyData.eqv (.list (ls.map PyData.int)) (.list []) = decide (ls = []) := by
  cases ls with
  | nil => rfl
  | cons a l => simp [PyData.eqv] <;> rfl
theorem yes_t {σ : L2.St} {H : Hp} {A B : Hp → Prop} (h : A H) : tYes σ H (fun b H3 => if b = true then A H3 else B H3) := by
  show if true = true then A H else B H
  rw [if_pos rfl]
  exact h
theorem ints_at {cs : List Int} {j : Nat} {y : V} (hj : (cs.map V.int)[j]? = some y) : ∃ z, y = V.int z ∧ cs[j]? = some z := by
  rw [List.getElem?_map] at hj
  cases e : cs[j]? with
  | none => rw [e] at hj; cases hj
  | some z => rw [e] at hj; exact ⟨z, (Option.some.inj hj).symm, rfl⟩
def spTake : Sp := fun vs H Q _ => ∃ (D : Dw) (m : Int), vs = [.ref D.d, .int m] ∧ 0 < m ∧ m < 1073741824 ∧ DrOk D H ∧ ∀ n H', 0 ≤ n → n < m → DrOk D H' → Kp D H H' → Q (.int n) H'
theorem ok_l_take (T : Txt K mg) : FnOk P w K mg base CX0 2 T.l_take.a T.l_take.fd ["draw", "amount"] spTake := by
  refine T.l_take.F.ok sc_l_take (fun vs H Q E h => ?_) (fun cdv A outer s H vs Q E hr h => ?_)
  · obtain ⟨D, m, rfl, _⟩ := h
    rfl
  · obtain ⟨D, m, rfl, m0, m1, ⟨ls, cs, r, t, dr⟩, k⟩ := h
    have hu := hu_of hr
    have nd := sc_l_take.nd
    refine ⟨_, (pss_cons (ps_if (pt_cmpR op_eq (pe_dget hu (pv 0) pe_str (fun _ _ => rfl)) pe_int (nomark _))
      (pss_one (ps_dput hu (pv 0) pe_str (pe_ifExp (pt_cmpR (op_neD hr.units) (pe_dget hu (pv 0) pe_str (fun _ _ => rfl)) (pe_lst pa_nil) (nomark _)) (pe_bm PySem.F.plainAttrs_list PySem.F.slot_list_pop PySem.F.type_list_pop mt_popAt (pe_dget hu (pv 0) pe_str (fun _ _ => rfl)) (pa_cons pe_int pa_nil)) (pe_call (ok_l_mixed T) (hr.mono (by decide)) (by rfl) T.l_mixed.g T.l_mixed.k T.l_mixed.b .nil pass0 (pa_cons (pv 0) pa_nil))) rfl))
      pss_nil)
    (pss_cons (ps_set (i := 2) nd rfl (Or.inl rfl) (pe_op op_mod (pe_callTy call_int1 (by rfl) T.zint (by decide +kernel) (pa_cons (pe_dget hu (pv 0) pe_str (fun _ _ => rfl)) pa_nil)) (pv 1)))
    (pss_cons (ps_dput hu (pv 0) pe_str (pe_op op_fdiv (pe_callTy call_int1 (by rfl) T.zint (by decide +kernel) (pa_cons (pe_dget hu (pv 0) pe_str (fun _ _ => rfl)) pa_nil)) (pv 1)) rfl)
    (pss_one (ps_ret (pv 2)))))), ?_⟩
    refine ⟨_, rfl, _, _, rfl, DGet.k (k := Sum.inr "rest") dr.hd, rfl, _, rfl, ?_⟩
    have fin : ∀ r' ls' cs' t' H', DrAt D H' ls' cs' r' t' → Kp D H H' → tSeq (tAsg (tOp (rI (fun _ j => 0 < j) fun i j => .int (i % j)) (tCB (fun xs H Q => (∃ i, xs = [.int i] ∧ Q (.int i) H) ∨ ∃ k, xs = [.bl k] ∧ Q (.int (if k then 1 else 0)) H) (tCons (tDGet (tVar 0) (tC (.str "rest"))) tNil)) (tVar 1)) (gName 2))
        (tSeq (sDPut (tVar 0) (tC (.str "rest")) (tOp (rI CDiv fun i j => .int (i / j)) (tCB (fun xs H Q => (∃ i, xs = [.int i] ∧ Q (.int i) H) ∨ ∃ k, xs = [.bl k] ∧ Q (.int (if k then 1 else 0)) H) (tCons (tDGet (tVar 0) (tC (.str "rest"))) tNil)) (tVar 1))) (tRet (tVar 2))) { nx := fun _ H' => Q .non H', rt := Q } [some (.ref D.d), some (.int m), none] H' := by
      intro r' ls' cs' t' H' d' k'
      refine ⟨_, rfl, _, _, rfl, DGet.k (k := Sum.inr "rest") d'.hd, .inl ⟨_, rfl, _, rfl, _, _, rfl, rfl, m0, ?_⟩⟩
      refine ⟨_, rfl, _, _, rfl, DGet.k (k := Sum.inr "rest") d'.hd, .inl ⟨_, rfl, _, rfl, _, _, rfl, rfl, ⟨m0, m1⟩, _, rfl, _, _, rfl, DPut.k (k := Sum.inr "rest") d'.hd (small1000 (by show 4 ≤ 1000; decide)), ?_⟩⟩
      refine ⟨_, rfl, k _ _ (Int.emod_nonneg _ (by omega)) (Int.emod_lt_of_pos _ m0) ⟨ls', cs', r' / m, t', ?_⟩ (k'.trans ?_)⟩
      · exact d'.put
      · exact Kp.put
    refine ite2 (fun _ => ?_) (fun _ => fin r ls cs t H dr Kp.refl)
    refine ⟨_, rfl, _, _, rfl, DGet.k (k := Sum.inr "large") dr.hd, (by show 0 ≤ sizeLine; decide), fun p hp => ?_⟩
    have dr1 := dr.new (o := .lst []) hp
    have k1 : Kp D H (upd H p (.lst [])) := Kp.new hp
    refine ⟨_, _, .lst (SqL.of dr1.hl) (dpAll_ints _ ls), .lst (SqL.of upd_same) .nil, shapedAll_ints ls, rfl, _, rfl, ?_⟩
    rw [eqv_nil]
    cases ls with
    | nil =>
      refine iteF ?_
      refine ⟨_, rfl, D, rfl, ⟨_, _, _, _, dr1⟩, fun z H2 ⟨ls2, cs2, r2, t2, d2⟩ k2 => ?_⟩
      refine ⟨_, rfl, _, _, rfl, DPut.k (k := Sum.inr "rest") d2.hd (small1000 (by show 4 ≤ 1000; decide)), ?_⟩
      exact fin z ls2 cs2 t2 _ (d2.put : DrAt D (upd H2 D.d (.dK (drK D z t2))) ls2 cs2 z t2) ((k1.trans k2).trans Kp.put)
    | cons a l =>
      refine iteT ?_
      refine ⟨_, rfl, _, _, rfl, DGet.k (k := Sum.inr "large") dr1.hd, .inl ⟨rfl, _, SqL.of dr1.hl⟩, D.l, _, 0, 0, _, rfl, rfl, dr1.hl, by decide, by decide, by simp [seqIndex?], rfl, ?_⟩
      have d2 : DrAt D (upd (upd H p (.lst [])) D.l (.lst (l.map V.int))) l cs r t := dr1.pop (Nat.le_trans (Nat.le_succ _) dr.nl)
      refine ⟨_, rfl, _, _, rfl, DPut.k (k := Sum.inr "rest") d2.hd (small1000 (by show 4 ≤ 1000; decide)), ?_⟩
      exact fin a l cs t _ (d2.put : DrAt D (upd _ D.d (.dK (drK D a t))) l cs a t) ((k1.trans Kp.putl).trans Kp.put)
def spPick (K : PySem.W.Frag) : Sp := fun vs H Q _ => ∃ (D : Dw) (p : Addr) (xs : List V), vs = [.ref D.d, .ref p] ∧ (SqL K H p xs ∨ SqT K H p xs) ∧ p ≠ D.l ∧ xs ≠ [] ∧ xs.length < 1073741824 ∧ DrOk D H ∧
  ∀ (i : Nat) x H', xs[i]? = some x → DrOk D H' → Kp D H H' → Q x H'
theorem Kp.seqL {D : Dw} {H H' : Hp} {p : Addr} {xs : List V} (k : Kp D H H') (dr : DrOk D H) (n : p ≠ D.l) (h : SqL K H p xs) : SqL K H' p xs := by
  obtain ⟨ls, cs, r, t, d⟩ := dr
  rcases h with (h | ⟨o, h⟩) | h
  · exact .inl (.inl (k _ _ h (d.dne h fun _ z => nomatch z) n))
  · exact .inl (.inr ⟨o, k _ _ h (d.dne h fun _ z => nomatch z) n⟩)
  · exact .inr h
theorem Kp.seqT {D : Dw} {H H' : Hp} {p : Addr} {xs : List V} (k : Kp D H H') (dr : DrOk D H) (h : SqT K H p xs) : SqT K H' p xs := by
  obtain ⟨ls, cs, r, t, d⟩ := dr
  rcases h with (h | ⟨o, h⟩) | h
  · exact .inl (.inl (k _ _ h (d.dne h fun _ z => nomatch z) (d.lne h fun _ z => nomatch z)))
  · exact .inl (.inr ⟨o, k _ _ h (d.dne h fun _ z => nomatch z) (d.lne h fun _ z => nomatch z)⟩)
  · exact .inr h
theorem ok_l_pick (T : Txt K mg) : FnOk P w K mg base CX0 3 T.l_pick.a T.l_pick.fd ["draw", "some"] (spPick K) := by
  refine T.l_pick.F.ok sc_l_pick (fun vs H Q E h => ?_) (fun cdv A outer s H vs Q E hr h => ?_)
  · obtain ⟨D, p, xs, rfl, _⟩ := h
    rfl
  · obtain ⟨D, p, xs, rfl, hs, np, ne, ln, dr, k⟩ := h
    have hu := hu_of hr
    have nd := sc_l_pick.nd
    refine ⟨_, (pss_one (ps_ret (pe_ix (IxR.or ix_list ix_tup) (pv 1) (pe_call (ok_l_take T) (hr.mono (by decide)) (by rfl) T.l_take.g T.l_take.k T.l_take.b .nil pass0 (pa_cons (pv 0) (pa_cons (pe_callB call_len_seq (by rfl) T.zlen (by decide +kernel) (pa_cons (pv 1) pa_nil)) pa_nil))) (fun _ _ => rfl)))), ?_⟩
    have l0 : 0 < xs.length := List.length_pos_iff.mpr ne
    refine ⟨_, rfl, _, rfl, _, rfl, p, xs, rfl, hs, D, (xs.length : Int), rfl, by omega, by omega, dr, fun n H' n0 n1 dr' k' => ?_⟩
    obtain ⟨m, rfl⟩ := Int.eq_ofNat_of_zero_le n0
    have hn : m < xs.length := by omega
    have hat : atI xs (m : Int) = some xs[m] := atI_nat (List.getElem?_eq_getElem hn)
    have fin : Q xs[m] H' := k m _ H' (List.getElem?_eq_getElem hn) dr' k'
    rcases hs with hs | hs
    · exact .inl ⟨p, xs, m, _, rfl, rfl, k'.seqL dr np hs, hat, fin⟩
    · exact .inr ⟨p, xs, m, _, rfl, rfl, k'.seqT dr hs, hat, fin⟩
def spBegun (K : PySem.W.Frag) : Sp := fun vs H Q _ => ∃ (a : Addr) (ns : List Int), vs = [.ref a] ∧ SqL K H a (ns.map V.int) ∧ ns.length ≤ 63 ∧ ∀ (D : Dw) H', DrOk D H' → Same H H' → Q (.ref D.d) H'
theorem ok_l_begun (T : Txt K mg) : FnOk P w K mg base CX0 1 T.l_begun.a T.l_begun.fd ["script"] (spBegun K) := by
  refine T.l_begun.F.ok sc_l_begun (fun vs H Q E h => ?_) (fun cdv A outer s H vs Q E hr h => ?_)
  · obtain ⟨a, ns, rfl, _⟩ := h
    rfl
  · obtain ⟨a, ns, rfl, hs, hl, k⟩ := h
    have hu := hu_of hr
    have nd := sc_l_begun.nd
    refine ⟨_, (pss_cons (ps_setLc (i := 1) (own := [("grain", 2)]) (g := gName 2) rfl nd rfl rfl (sw_true rfl rfl rfl (by decide +kernel)) (pi_list (pv 0)) (blkOk_by (own := [("grain", 2)]) (N := N_l_begun) (sc := defScope s_l_begun) (by decide +kernel)) (fun _ _ _ _ _ => pg_name (i := 2) nd rfl (Or.inl rfl)) (fun _ _ _ _ _ => pts_one (pt_cmpR op_ge (pe_callB call_abs (by rfl) T.zabs (by decide +kernel) (pa_cons (pv 2) pa_nil)) (pe_op op_pow pe_int pe_int) (nomark _))) (fun _ _ _ _ _ => (pe_op op_sub (pe_callB call_abs (by rfl) T.zabs (by decide +kernel) (pa_cons (pv 2) pa_nil)) (pe_op op_pow pe_int pe_int))))
    (pss_one (ps_ret (pe_disp (pps_cons pe_str (pv 1) (pps_cons pe_str pe_int (pps_cons pe_str (pe_lc (own := [("grain", 2)]) (g := gName 2) rfl nd (pi_list (pv 0)) (blkOk_by (own := [("grain", 2)]) (N := N_l_begun) (sc := defScope s_l_begun) (by decide +kernel)) (fun _ _ _ _ _ => pg_name (i := 2) nd rfl (Or.inl rfl)) (fun _ _ _ _ _ => pts_nil) (fun _ _ _ _ _ => (pe_callB call_abs (by rfl) T.zabs (by decide +kernel) (pa_cons (pv 2) pa_nil)))) (pps_cons pe_str pe_int pps_nil)))) (by rfl) (by rfl) (fun z => by cases z) (by decide))))), ?_⟩
    refine ⟨_, rfl, a, rfl, ⟨_, hs⟩, fun D1 hD1 => lc_list (K := K) (a := a) (xs := ns.map V.int) (fun i H' => ∃ ls : List Int, ls.length ≤ i ∧ H' D1 = some (.lst (ls.map V.int)) ∧ Same H H')
      ⟨[], Nat.le_refl _, upd_same, fun b o e => by rw [upd_ne (ne_of_none e hD1)]; exact e⟩ (fun i H' _ ⟨_, _, _, s⟩ => s.seq hs) ?_ ?_⟩
    · rintro i y H' hi ⟨ls, hls, h1, s1⟩
      obtain ⟨z, rfl, hz⟩ := ints_at hi
      have hi63 : i < ns.length := (List.getElem?_eq_some_iff.mp hz).1
      refine ⟨rfl, _, rfl, _, rfl, _, _, rfl, rfl, ⟨by decide, by decide, by decide⟩, _, _, rfl, rfl, _, rfl, ?_⟩
      refine ite2 (fun _ => ?_) (fun _ => ⟨ls, by omega, h1, s1⟩)
      refine ⟨_, rfl, _, rfl, _, _, rfl, rfl, ⟨by decide, by decide, by decide⟩, _, _, rfl, rfl, _, h1, ?_, ?_⟩
      · rw [List.length_map]
        exact small1000 (by omega)
      · refine ⟨ls ++ [(if z < 0 then -z else z) - 10 ^ (18 : Int).toNat], by rw [List.length_append]; show ls.length + 1 ≤ i + 1; omega, ?_, ?_⟩
        · rw [upd_same, List.map_append]
          rfl
        · intro b o e
          have e1 := s1 b o e
          rw [upd_ne (ne_of_none e hD1)]
          exact e1
    · rintro H1 ⟨ls, hls, h1, s1⟩
      rw [List.length_map] at hls
      refine fun p hp => ?_
      refine ⟨_, rfl, ?_⟩
      have s2 : Same H (upd H1 p (.dK [])) := fun b o e => by rw [upd_ne (ne_of_none (s1 b o e) hp)]; exact s1 b o e
      refine ⟨_, rfl, a, rfl, ⟨_, s2.seq hs⟩, fun D2 hD2 => lc_list (K := K) (a := a) (xs := ns.map V.int) (fun i H' => ∃ cs : List Int, cs.length ≤ i ∧ H' D2 = some (.lst (cs.map V.int)) ∧ Same (upd H1 p (.dK [])) H')
        ⟨[], Nat.le_refl _, upd_same, fun b o e => by rw [upd_ne (ne_of_none e hD2)]; exact e⟩ (fun i H' _ ⟨_, _, _, s⟩ => s.seq (s2.seq hs)) ?_ ?_⟩
      · rintro i y H' hi ⟨cs, hcs, h2, s3⟩
        obtain ⟨z, rfl, hz⟩ := ints_at hi
        have hi63 : i < ns.length := (List.getElem?_eq_some_iff.mp hz).1
        refine ⟨rfl, yes_t ?_⟩
        refine ⟨_, rfl, _, rfl, _, h2, by rw [List.length_map]; exact small1000 (by omega), ?_⟩
        refine ⟨cs ++ [if z < 0 then -z else z], by rw [List.length_append]; show cs.length + 1 ≤ i + 1; omega, ?_, ?_⟩
        · rw [upd_same, List.map_append]
          rfl
        · intro b o e
          rw [upd_ne (ne_of_none e hD2)]
          exact s3 b o e
      · rintro H2 ⟨cs, hcs, h2, s3⟩
        rw [List.length_map] at hcs
        have hp2 : H2 p = some (.dK []) := s3 _ _ upd_same
        have nDp : D2 ≠ p := fun z => by rw [z, upd_same] at hD2; cases hD2
        have nD1p : D1 ≠ p := ne_of_none h1 hp
        have h12 : H2 D1 = some (.lst (ls.map V.int)) := s3 _ _ (by rw [upd_ne nD1p]; exact h1)
        have nD12 : D1 ≠ D2 := fun z => by
          rw [← z, upd_ne nD1p, h1] at hD2
          cases hD2
        refine ⟨hp2, drK ⟨p, D1, D2⟩ 0 0, rfl, by show 4 ≤ 15; decide, ?_⟩
        refine k ⟨p, D1, D2⟩ _ ⟨ls, cs, 0, 0, ⟨upd_same, by rw [upd_ne nD1p]; exact h12, by rw [upd_ne nDp]; exact h2, nD12, by omega, by omega⟩⟩ ?_
        intro b o e
        rw [upd_ne (ne_of_none (s1 b o e) hp)]
        exact s3 _ _ (s2 b o e)
end
end Tt
set_option maxRecDepth 100000
set_option maxHeartbeats 4000000
namespace Tt
open PySem L2
section
variable {P : Program} {w : World} {K : PySem.W.Frag} {mg : Str → Option Value} {base : Heap}
def Off (D : Dw) (b : Addr) : Prop := b ≠ D.d ∧ b ≠ D.l ∧ b ≠ D.c
theorem DrOk.off {D : Dw} {H : Hp} {b : Addr} (h : DrOk D H) (n : H b = none) : Off D b := by
  obtain ⟨ls, cs, r, t, d⟩ := h
  exact ⟨(ne_of_none d.hd n).symm, (ne_of_none d.hl n).symm, (ne_of_none d.hc n).symm⟩
theorem DrOk.new {D : Dw} {H : Hp} {p : Addr} {o : HO} (h : DrOk D H) (n : H p = none) : DrOk D (upd H p o) := by
  obtain ⟨ls, cs, r, t, d⟩ := h
  exact ⟨ls, cs, r, t, d.new n⟩
theorem DrOk.put {D : Dw} {H : Hp} {p : Addr} {o : HO} (h : DrOk D H) (n : Off D p) : DrOk D (upd H p o) := by
  obtain ⟨ls, cs, r, t, d⟩ := h
  exact ⟨ls, cs, r, t, ⟨by rw [upd_ne n.1.symm]; exact d.hd, by rw [upd_ne n.2.1.symm]; exact d.hl, by rw [upd_ne n.2.2.symm]; exact d.hc, d.ne, d.nl, d.nc⟩⟩
theorem DrOk.same {D : Dw} {H H' : Hp} (h : DrOk D H) (s : Same H H') : DrOk D H' := by
  obtain ⟨ls, cs, r, t, d⟩ := h
  exact ⟨ls, cs, r, t, d.same s⟩
theorem Kp.at {D : Dw} {H H' : Hp} {b : Addr} {o : HO} (k : Kp D H H') (n : Off D b) (h : H b = some o) : H' b = some o := k b o h n.1 n.2.1
theorem DrOk.tup {D : Dw} {H H' : Hp} {b : Addr} {xs : List V} (h : DrOk D H) (k : Kp D H H') (e : H b = some (.tup xs)) : H' b = some (.tup xs) := by
  obtain ⟨ls, cs, r, t, d⟩ := h
  exact k b _ e (d.dne e fun _ z => nomatch z) (d.lne e fun _ z => nomatch z)
theorem perm_erase : ∀ {l : List Int} {i : Nat} {a : Int}, l[i]? = some a → (a :: l.eraseIdx i).Perm l
  | [], _, _, h => by simp at h
  | b :: l, 0, a, h => by
    have e : b = a := by simpa using h
    subst e
    exact List.Perm.refl _
  | b :: l, i + 1, a, h => by
    have h' : l[i]? = some a := by simpa using h
    rw [List.eraseIdx_cons_succ]
    exact (List.Perm.swap b a _).trans ((perm_erase h').cons b)
theorem eraseIdx_mapI : ∀ (l : List Int) (i : Nat), (l.map V.int).eraseIdx i = (l.eraseIdx i).map V.int
  | [], _ => rfl
  | _ :: _, 0 => rfl
  | a :: l, i + 1 => by
    rw [List.map_cons, List.eraseIdx_cons_succ, eraseIdx_mapI l i, List.eraseIdx_cons_succ, List.map_cons]
def spMate : Sp := fun vs H Q _ => ∃ x : Int, vs = [.int x] ∧ Q (.int (Wd.mate x)) H
theorem ok_l_mate (T : Txt K mg) : FnOk P w K mg base CX0 1 T.l_mate.a T.l_mate.fd ["end"] spMate := by
  refine T.l_mate.F.ok sc_l_mate (fun vs H Q E h => ?_) (fun cdv A outer s H vs Q E hr h => ?_)
  · obtain ⟨x, rfl, _⟩ := h
    rfl
  · obtain ⟨x, rfl, k⟩ := h
    have nd := sc_l_mate.nd
    refine ⟨_, (pss_one (ps_ret (pe_ifExp (pt_cmpR op_eq (pe_op op_mod (pe_callTy call_int1 (by rfl) T.zint (by decide +kernel) (pa_cons (pv 0) pa_nil)) pe_int) pe_int (nomark _)) (pe_op op_add (pv 0) pe_int) (pe_op op_sub (pv 0) pe_int)))), ?_⟩
    refine ⟨_, rfl, .inl ⟨_, rfl, _, _, rfl, rfl, (by show (0 : Int) < 2; decide), rfl, _, rfl, ?_⟩⟩
    refine ite2 (fun c => ?_) (fun c => ?_)
    · have c' : x % 2 = 0 := by simpa using c
      refine ⟨_, rfl, _, _, rfl, rfl, ?_⟩
      have e : Wd.mate x = x + 1 := by unfold Wd.mate; rw [if_pos c']
      rw [e] at k
      exact k
    · have c' : ¬ x % 2 = 0 := by simpa using c
      refine ⟨_, rfl, _, _, rfl, rfl, ?_⟩
      have e : Wd.mate x = x - 1 := by unfold Wd.mate; rw [if_neg c']
      rw [e] at k
      exact k
theorem eqv_list_nil (H : Hp) : ∀ {xs : List V} {ds : List PyData}, DpAll K H xs ds → (PyData.eqv (.list ds) (.list []) = decide (xs = []))
  | [], _, .nil => rfl
  | _ :: _, _, .cons _ _ => by simp [PyData.eqv] <;> rfl
def spShuf (K : PySem.W.Frag) : Sp := fun vs H Q _ => ∃ (D : Dw) (p : Addr) (ns : List Int), vs = [.ref D.d, .ref p] ∧ (SqL K H p (ns.map V.int) ∨ SqT K H p (ns.map V.int)) ∧ ns.length ≤ 1000 ∧ DrOk D H ∧
  ∀ (ns' : List Int) q H', ns'.Perm ns → DrOk D H' → Kp D H H' → H q = none → H' q = some (.lst (ns'.map V.int)) → Q (.ref q) H'
theorem ok_l_shuffled (T : Txt K mg) : FnOk P w K mg base CX0 3 T.l_shuffled.a T.l_shuffled.fd ["draw", "some"] (spShuf K) := by
  refine T.l_shuffled.F.ok sc_l_shuffled (fun vs H Q E h => ?_) (fun cdv A outer s H vs Q E hr h => ?_)
  · obtain ⟨D, p, ns, rfl, _⟩ := h
    rfl
  · obtain ⟨D, p, ns, rfl, hs, hl, dr, k⟩ := h
    have hu := hu_of hr
    have nd := sc_l_shuffled.nd
    refine ⟨_, (pss_cons (ps_par (i := 2) (j := 3) rfl nd rfl rfl (by decide) rfl rfl (pa_cons (pe_callTy call_list_of (by rfl) T.zlist (by decide +kernel) (pa_cons (pv 1) pa_nil)) (pa_cons (pe_lst pa_nil) pa_nil)) rfl)
    (pss_cons (ps_while PassesOwn.never (pt_cmpR (op_neD hr.units) (pv 2) (pe_lst pa_nil) (nomark _))
      (pss_one (ps_expr (pe_bm PySem.F.plainAttrs_list PySem.F.slot_list_append PySem.F.type_list_append mt_append (pv 3) (pa_cons (pe_bm PySem.F.plainAttrs_list PySem.F.slot_list_pop PySem.F.type_list_pop mt_popAt (pv 2) (pa_cons (pe_call (ok_l_take T) (hr.mono (by decide)) (by rfl) T.l_take.g T.l_take.k T.l_take.b .nil pass0 (pa_cons (pv 0) (pa_cons (pe_callB call_len_seq (by rfl) T.zlen (by decide +kernel) (pa_cons (pv 2) pa_nil)) pa_nil))) pa_nil)) pa_nil)))))
    (pss_one (ps_ret (pv 3))))), ?_⟩
    refine ⟨_, rfl, p, _, rfl, hs, fun l hl0 => ⟨(by show 0 ≤ sizeLine; decide), fun q hq => ⟨_, _, rfl, ?_⟩⟩⟩
    have d1 := (dr.new (o := .lst (ns.map V.int)) hl0).new (o := .lst []) hq
    have k1 : Kp D H (upd (upd H l (.lst (ns.map V.int))) q (.lst [])) := (Kp.new hl0).trans (Kp.new hq)
    have nlq : l ≠ q := ne_of_none upd_same hq
    have nl : Off D l := dr.off hl0
    have nq : Off D q := (dr.new (o := .lst (ns.map V.int)) hl0).off hq
    have hqH : H q = none := by rw [upd_ne nlq.symm] at hq; exact hq
    have a1 : (upd (upd H l (.lst (ns.map V.int))) q (.lst [])) l = some (.lst (ns.map V.int)) := by rw [upd_ne nlq]; exact upd_same
    have a2 : (upd (upd H l (.lst (ns.map V.int))) q (.lst [])) q = some (.lst []) := upd_same
    generalize upd (upd H l (.lst (ns.map V.int))) q (.lst []) = H1 at d1 k1 a1 a2
    refine while_by (fun σ H' => ∃ (le fo : List Int), σ = [some (.ref D.d), some (.ref p), some (.ref l), some (.ref q)] ∧ H' l = some (.lst (le.map V.int)) ∧ H' q = some (.lst (fo.map V.int)) ∧ (fo ++ le).Perm ns ∧ DrOk D H' ∧ Kp D H H')
      (fun σ H' => match H' l with | some (.lst xs) => xs.length | _ => 0) ⟨ns, [], rfl, a1, a2, List.Perm.refl _, d1, k1⟩ ?_ ?_
    · rintro σ H' ⟨le, fo, rfl, h1, h2, pm, dr', k'⟩
      have hlen : fo.length + le.length = ns.length := by rw [← pm.length_eq, List.length_append]
      refine ⟨_, rfl, (by show 0 ≤ sizeLine; decide), fun e he => ?_⟩
      have e1 : (upd H' e (.lst [])) l = some (.lst (le.map V.int)) := by rw [upd_ne (ne_of_none h1 he)]; exact h1
      have e2 : (upd H' e (.lst [])) q = some (.lst (fo.map V.int)) := by rw [upd_ne (ne_of_none h2 he)]; exact h2
      have d2 : DrOk D (upd H' e (.lst [])) := dr'.new he
      have k2 : Kp D H (upd H' e (.lst [])) := k'.trans (Kp.new he)
      refine ⟨_, _, .lst (SqL.of e1) (dpAll_ints _ le), .lst (SqL.of upd_same) .nil, shapedAll_ints le, rfl, _, rfl, ?_⟩
      rw [eqv_nil]
      refine ite2 (fun c => ?_) (fun c => ?_)
      · have hne : le ≠ [] := by simpa using c
        have l0 : 0 < le.length := List.length_pos_iff.mpr hne
        refine ⟨_, rfl, .inl ⟨rfl, _, SqL.of e2⟩, _, rfl, .inl ⟨rfl, _, SqL.of e1⟩, _, rfl, _, rfl, l, _, rfl, .inl (SqL.of e1), D, _, rfl, ?_⟩
        rw [List.length_map]
        refine ⟨by omega, by omega, d2, fun n H3 n0 n1 d3 k3 => ?_⟩
        obtain ⟨m, rfl⟩ := Int.eq_ofNat_of_zero_le n0
        have hm : m < le.length := by omega
        have f1 : H3 l = some (.lst (le.map V.int)) := k3.at nl e1
        have f2 : H3 q = some (.lst (fo.map V.int)) := k3.at nq e2
        refine ⟨l, _, _, m, V.int le[m], rfl, rfl, f1, by omega, by omega, ?_, ?_, ?_⟩
        · rw [List.length_map]
          have e0 : ¬ ((m : Int) < 0) := by omega
          simp [seqIndex?, e0, hm]
        · rw [List.getElem?_map, List.getElem?_eq_getElem hm]
          rfl
        · have nlq' : q ≠ l := nlq.symm
          have g2 : (upd H3 l (.lst ((le.map V.int).eraseIdx m))) q = some (.lst (fo.map V.int)) := by rw [upd_ne nlq']; exact f2
          refine ⟨q, _, _, rfl, rfl, g2, by rw [List.length_map]; exact small1000 (by omega), ?_⟩
          have ee : (le.map V.int).eraseIdx m = (le.eraseIdx m).map V.int := eraseIdx_mapI le m
          refine ⟨⟨le.eraseIdx m, fo ++ [le[m]], rfl, ?_, ?_, ?_, ?_, ?_⟩, ?_⟩
          · rw [upd_ne nlq, upd_same, ee]
          · rw [upd_same, List.map_append]
            rfl
          · refine List.Perm.trans ?_ pm
            rw [List.append_assoc]
            exact (perm_erase (List.getElem?_eq_getElem hm)).append_left fo
          · exact (d3.put nl).put nq
          · intro b o hb n1 n2
            have hbl : b ≠ l := ne_of_none hb hl0
            have hbq : b ≠ q := ne_of_none hb hqH
            rw [upd_ne hbq, upd_ne hbl]
            exact k3 _ _ (k2 _ _ hb n1 n2) n1 n2
          · show (match (upd (upd H3 l _) q _) l with | some (.lst xs) => xs.length | _ => 0) < (match H' l with | some (.lst xs) => xs.length | _ => 0)
            rw [upd_ne nlq, upd_same, h1, ee]
            show ((le.eraseIdx m).map V.int).length < (le.map V.int).length
            rw [List.length_map, List.length_map, List.length_eraseIdx_of_lt hm]
            omega
      · have hne : le = [] := by simpa using c
        subst hne
        refine ⟨_, rfl, ?_⟩
        rw [List.append_nil] at pm
        exact k fo q _ pm d2 k2 hqH e2
    · rintro σ H Q Q' hq ⟨v, h1, h2, h3⟩
      exact ⟨v, h1, h2, fun p hp => by obtain ⟨d, e, a1, a2, a3, a4, b, eb, h⟩ := h3 p hp; exact ⟨d, e, a1, a2, a3, a4, b, eb, hq _ _ h⟩⟩
end
end Tt
set_option maxRecDepth 100000
set_option maxHeartbeats 4000000
namespace Tt
open PySem L2
section
variable {P : Program} {w : World} {K : PySem.W.Frag} {mg : Str → Option Value} {base : Heap}
theorem xor_mate {x : Int} (h0 : 0 ≤ x) (h1 : x < 12) : Builtin.bitXor x 1 = Wd.mate x := by
  have h : ∀ n : Fin 12, Builtin.bitXor ((n.val : Nat) : Int) 1 = Wd.mate ((n.val : Nat) : Int) := by decide
  obtain ⟨n, rfl⟩ := Int.eq_ofNat_of_zero_le h0
  exact h ⟨n, by omega⟩
theorem same_new {H : Hp} {p : Addr} {o : HO} (n : H p = none) : Same H (upd H p o) := fun b u e => by
  rw [upd_ne (ne_of_none e n)]
  exact e
theorem ints_get {st : List Int} {i : Nat} {a : Int} (h : st[i]? = some a) : (st.map V.int)[i]? = some (V.int a) := by rw [List.getElem?_map, h]; rfl
theorem atI_last {st : List Int} (h : st ≠ []) : ∃ a, st.getLast? = some a ∧ atI (st.map V.int) (-1) = some (V.int a) := by
  have l0 : 0 < st.length := List.length_pos_iff.mpr h
  have hl : st.length - 1 < st.length := by omega
  refine ⟨st[st.length - 1], by rw [List.getLast?_eq_getElem?, List.getElem?_eq_getElem hl], ?_⟩
  unfold atI
  have e : ixN (st.map V.int).length (-1) = some (st.length - 1) := by
    rw [List.length_map]
    unfold ixN
    simp
    omega
  rw [e]
  exact ints_get (List.getElem?_eq_getElem hl)
theorem same_seqT {K : PySem.W.Frag} {H H' : Hp} {a : Addr} {xs : List V} (e : Same H H') (h : SqT K H a xs) : SqT K H' a xs := by
  rcases h with (h | ⟨o, h⟩) | h
  · exact .inl (.inl (e _ _ h))
  · exact .inl (.inr ⟨o, e _ _ h⟩)
  · exact .inr h
end
end Tt
set_option maxRecDepth 100000
set_option maxHeartbeats 4000000
namespace Tt
open PySem L2
section
variable {P : Program} {w : World} {K : PySem.W.Frag} {mg : Str → Option Value} {base : Heap}
def rgI (n : Nat) : List Int := (List.range n).map fun (i : Nat) => (i : Int)
theorem rgV_rgI {n : Int} (h : 0 ≤ n) : rgV 0 n = (rgI n.toNat).map V.int := by
  unfold rgV rgI
  rw [List.map_map, Int.sub_zero]
  exact List.map_congr_left fun a _ => by show V.int (0 + (a : Nat)) = _; rw [Int.zero_add]; rfl
theorem rgI_len (n : Nat) : (rgI n).length = n := by unfold rgI; rw [List.length_map, List.length_range]
def spRow (K : PySem.W.Frag) : Sp := fun vs H Q _ => ∃ (D : Dw) (m : Int), vs = [.ref D.d, .int m] ∧ 0 < m ∧ m ≤ 6 ∧ DrOk D H ∧
  ∀ (n : Nat) (row : List Int) q H', 1 ≤ n → (n : Int) ≤ m → row.Perm (rgI (2 * n)) → DrOk D H' → Kp D H H' → FzT H' q (row.map V.int) → Q (.ref q) H'
theorem ok_l_row (T : Txt K mg) : FnOk P w K mg base CX0 4 T.l_row.a T.l_row.fd ["draw", "most"] (spRow K) := by
  refine T.l_row.F.ok sc_l_row (fun vs H Q E h => ?_) (fun cdv A outer s H vs Q E hr h => ?_)
  · obtain ⟨D, m, rfl, _⟩ := h
    rfl
  · obtain ⟨D, m, rfl, m0, m6, dr, k⟩ := h
    have nd := sc_l_row.nd
    refine ⟨_, (pss_one (ps_ret (pe_callTy call_tuple_ofF (by rfl) T.ztuple (by decide +kernel) (pa_cons (pe_call (ok_l_shuffled T) (hr.mono (by decide)) (by rfl) T.l_shuffled.g T.l_shuffled.k T.l_shuffled.b .nil pass0 (pa_cons (pv 0) (pa_cons (pe_listRg rfl (by rfl) T.zlist (prg_1 (by rfl) T.zrange (pe_op op_add pe_int (pe_op op_mul pe_int (pe_call (ok_l_take T) (hr.mono (by decide)) (by rfl) T.l_take.g T.l_take.k T.l_take.b .nil pass0 (pa_cons (pv 0) (pa_cons (pv 1) pa_nil))))))) pa_nil))) pa_nil)))), ?_⟩
    refine ⟨_, rfl, _, rfl, _, rfl, D, m, rfl, m0, by omega, dr, fun n H1 n0 n1 d1 k1 => ?_⟩
    refine ⟨_, _, rfl, rfl, .inl ⟨by decide, by decide⟩, _, _, rfl, rfl, _, rfl, RgOk.of_le (by omega) (by omega) (by omega) (by omega), fun l hl => ?_⟩
    obtain ⟨j, rfl⟩ := Int.eq_ofNat_of_zero_le n0
    have ej : (2 + 2 * (j : Int)).toNat = 2 * (j + 1) := by omega
    rw [rgV_rgI (by omega), ej] 
    have d2 := d1.new (o := .lst ((rgI (2 * (j + 1))).map V.int)) hl
    refine ⟨D, l, rgI (2 * (j + 1)), rfl, .inl (SqL.of upd_same), by rw [rgI_len]; omega, d2, fun ns' q H3 pm d3 k3 hq h3 => ?_⟩
    refine ⟨q, _, rfl, .inl ⟨SqL.of h3, fun t ob ht hd => ?_⟩⟩
    exact k (j + 1) ns' t _ (by omega) (by omega) pm (d3.new ht) ((k1.trans (Kp.new hl)).trans (k3.trans (Kp.new ht))) (FzT.new hd)
end
end Tt
set_option maxRecDepth 100000
set_option maxHeartbeats 4000000
namespace Tt
open PySem L2
def lenAt (i : Nat) : L2.St → Hp → Nat := fun σ H' => match σ[i]? with
  | some (some (V.ref f)) => (match H' f with
    | some (HO.lst xs) => 1000 - xs.length
    | _ => 0)
  | _ => 0
theorem lenAt_of {i : Nat} {σ : L2.St} {H : Hp} {f : Addr} {xs : List V} (h : σ[i]? = some (some (.ref f))) (e : H f = some (.lst xs)) : lenAt i σ H = 1000 - xs.length := by
  unfold lenAt
  rw [h]
  show (match H f with | some (HO.lst xs) => 1000 - xs.length | _ => 0) = _
  rw [e]
def lenOf (i : Nat) : L2.St → Hp → Nat := fun σ H' => match σ[i]? with
  | some (some (V.ref f)) => (match H' f with
    | some (HO.lst xs) => xs.length
    | _ => 0)
  | _ => 0
theorem lenOf_of {i : Nat} {σ : L2.St} {H : Hp} {f : Addr} {xs : List V} (h : σ[i]? = some (some (.ref f))) (e : H f = some (.lst xs)) : lenOf i σ H = xs.length := by
  unfold lenOf
  rw [h]
  show (match H f with | some (HO.lst xs) => xs.length | _ => 0) = _
  rw [e]
theorem upk {H : Hp} {p b : Addr} {o u : HO} (n : H p = none) (h : H b = some o) : (upd H p u) b = some o := by
  rw [upd_ne (ne_of_none h n)]
  exact h
theorem cut_to (xs : List V) {n : Nat} (h : n ≤ xs.length) : cutV xs none (some (n : Int)) = xs.take n := by
  unfold cutV
  have e : HT.sIx xs.length xs.length (some (n : Int)) = n := by rw [HT.sIx_nat]; omega
  have e0 : HT.sIx xs.length 0 none = 0 := rfl
  rw [e, e0]
  simp
theorem cut_from (xs : List V) {n : Nat} : cutV xs (some (n : Int)) none = xs.drop n := by
  unfold cutV
  have e : HT.sIx xs.length 0 (some (n : Int)) = min n xs.length := HT.sIx_nat ..
  have e0 : HT.sIx xs.length xs.length none = xs.length := rfl
  rw [e, e0, List.take_of_length_le (by rw [List.length_drop]; omega)]
  by_cases h : n ≤ xs.length
  · rw [Nat.min_eq_left h]
  · rw [Nat.min_eq_right (by omega), List.drop_eq_nil_of_le (Nat.le_refl _), List.drop_eq_nil_of_le (by omega)]
section
variable {P : Program} {w : World} {K : PySem.W.Frag} {mg : Str → Option Value} {base : Heap}
def Lt (e : Int) (ns : List Int) : Prop := ∀ x ∈ ns, 0 ≤ x ∧ x < e
theorem Lt.app {e : Int} {a b : List Int} (ha : Lt e a) (hb : Lt e b) : Lt e (a ++ b) := fun x hx => (List.mem_append.mp hx).elim (ha x) (hb x)
theorem Lt.take {e : Int} {a : List Int} (ha : Lt e a) (n : Nat) : Lt e (a.take n) := fun x hx => ha x (List.mem_of_mem_take hx)
theorem Lt.drop {e : Int} {a : List Int} (ha : Lt e a) (n : Nat) : Lt e (a.drop n) := fun x hx => ha x (List.mem_of_mem_drop hx)
theorem Lt.undo {e : Int} {a : List Int} (ev : e % 2 = 0) (ha : Lt e a) : Lt e (Wd.undo a) := fun x hx => by
  unfold Wd.undo at hx
  obtain ⟨y, hy, rfl⟩ := List.mem_map.mp hx
  have h := ha y (by simpa using hy)
  have hb := Wd.mate_range (n := e / 2) h.1 (by omega)
  exact ⟨hb.1, by omega⟩
end
end Tt
set_option maxRecDepth 100000
set_option maxHeartbeats 4000000
namespace Tt
open PySem L2
open LamX (GivesToS CodeO)
def TTc (K : PySem.W.Frag) (RE : Addr) : (XK → Hp → VK → Prop) → Hp → VK → Prop := fun tl H Q =>
  tl (fun cls d H' => PySem.W.exmOne K cls (.ref RE) = some true ∧ ∀ a, H' a = none → Q (.ref a) (upd H' a (exh cls d a))) H (fun _ H' => Q .non H')
theorem caught_gives {X : Cx} {q : Str} {cdg : Value} {g RE : Addr} (hme : X.mg "RoundError" = some (.ref RE)) :
    GivesToS X N_l_caught "_law_caught" (defScope s_l_caught) g cdg (defBody s_l_caught) "work" q (TTc X.K RE) := by
  intro f c' s H Q tl act hc h
  have nd := sc_l_caught.nd
  refine ⟨_, pss_cons (ps_set (i := 1) nd rfl (Or.inl rfl) pe_non)
    (pss_cons (ps_try_keep (X := (cxOf C8.CX0 X.prog X.w X.K X.mg X.base N_l_caught "_law_caught" (defScope s_l_caught) g cdg X.A X.stack s H C8.E0).nox) (c := .ref RE) (i := 2)
      (tb := fun W D σ H => ∃ Ew : L2.St → XK, (∀ τ cls d H', Ew τ cls d H' → W cls d τ H') ∧ σ[0]? = some (some (.ref f)) ∧ H c' = some (CodeO c' q) ∧ tl (Ew σ) H (fun _ H' => D.nx σ H'))
      rfl rfl rfl nd rfl rfl ⟨rfl, by decide, .inl hme⟩ LamX.takes0 (fun W pn xe tk _ => ?_) (fun a oe cls d pn _ _ => pss_one (ps_set (i := 1) nd rfl (Or.inl rfl) (pv 2))))
    (pss_one (ps_ret (pv 1)))), ?_⟩
  · refine ⟨fun pins s' σ H' D I h' => ?_⟩
    obtain ⟨Ew, hW, h1, h2, h3⟩ := h'
    exact (pss_one (ps_expr (act W pn xe Ew _ _ tk hW))).run pins s' σ H' D I ⟨h1, h2, h3⟩
  · refine ⟨fun τ cls d H' => τ = [some (.ref f), some .non, none] ∧ PySem.W.exmOne X.K cls (.ref RE) = some true ∧ ∀ a, H' a = none → Q (.ref a) (upd H' a (exh cls d a)), ?_, rfl, hc, ?_⟩
    · rintro τ cls d H' ⟨rfl, h1, h2⟩
      refine ⟨true, h1, fun _ a ha => ?_, fun z => nomatch z⟩
      exact ⟨_, rfl, ha, _, rfl, h2 a ha⟩
    · have e1 : (fun (cls : Value) (d : Option Addr) (H' : Hp) => ([some (.ref f), some .non, none] : L2.St) = [some (.ref f), some .non, none] ∧ PySem.W.exmOne X.K cls (.ref RE) = some true ∧ ∀ a, H' a = none → Q (.ref a) (upd H' a (exh cls d a))) =
          fun cls d H' => PySem.W.exmOne X.K cls (.ref RE) = some true ∧ ∀ a, H' a = none → Q (.ref a) (upd H' a (exh cls d a)) :=
        funext fun cls => funext fun d => funext fun H' => propext ⟨fun z => z.2, fun z => ⟨rfl, z⟩⟩
      have e2 : (fun (_ : V) (H' : Hp) => ∃ v, ([some (.ref f), some .non, none] : L2.St)[1]? = some (some v) ∧ Q v H') = fun _ H' => Q .non H' :=
        funext fun _ => funext fun H' => propext ⟨fun ⟨v, h1, h2⟩ => by cases h1; exact h2, fun z => ⟨_, rfl, z⟩⟩
      have h' : tl (fun (cls : Value) (d : Option Addr) (H' : Hp) => ([some (.ref f), some .non, none] : L2.St) = [some (.ref f), some .non, none] ∧ PySem.W.exmOne X.K cls (.ref RE) = some true ∧ ∀ a, H' a = none → Q (.ref a) (upd H' a (exh cls d a))) H
          (fun (_ : V) (H' : Hp) => ∃ v, ([some (.ref f), some .non, none] : L2.St)[1]? = some (some v) ∧ Q v H') := by
        rw [e1, e2]
        exact h
      exact h'
end Tt
set_option maxRecDepth 100000
set_option maxHeartbeats 4000000
namespace Tt
open PySem L2
section
variable {P : Program} {w : World} {K : PySem.W.Frag} {mg : Str → Option Value} {base : Heap}
theorem passF {P : Program} {w : World} {X : Cx} : Passes (L2.CX P w) X (fun _ _ _ => False) := fun _ _ _ _ _ _ _ h => by
  obtain ⟨_, _, _, _, _, _, _, _, _, _, _, _, z⟩ := h
  exact z.elim
def inB (lo hi : Int) : V → Bool
  | .int i => decide (lo ≤ i) && decide (i ≤ hi)
  | _ => false
def isI : V → Bool
  | .int _ => true
  | _ => false
theorem TyB.isI {H : Hp} {x : V} {S : String} (t : TyB K H x S) : decide (S = "int") = isI x := by cases t <;> rfl
theorem TyB.isT {H : Hp} {x : V} {S : String} (t : TyB K H x S) : (∃ a xs, x = .ref a ∧ SqT K H a xs ∧ S = "tuple") ∨ decide (S = "tuple") = false := by
  cases t with
  | tup h => exact .inl ⟨_, _, rfl, h, rfl⟩
  | _ => exact .inr rfl
def spNumber (K : PySem.W.Frag) : Sp := fun vs H Q _ => ∃ (x : V) (S : String), vs = [x] ∧ TyB K H x S ∧ Q (.bl (isI x)) H
theorem ok_is_number (T : Txt K mg) : FnOk P w K mg base CX0 1 T.is_number.a T.is_number.fd ["thing"] (spNumber K) := by
  refine T.is_number.F.ok sc_is_number (fun vs H Q E h => ?_) (fun cdv A outer s H vs Q E hr h => ?_)
  · obtain ⟨x, S, rfl, _⟩ := h
    rfl
  · obtain ⟨x, S, rfl, t, k⟩ := h
    refine ⟨_, (pss_one (ps_ret (pe_cmpR op_isTyB (pe_callTy call_type1 (by rfl) T.ztype (by decide +kernel) (pa_cons (pv 0) pa_nil)) (pe_bltn (v := .ty "int") (by rfl) T.zint (by decide +kernel) rfl) (nomark _)))), ?_⟩
    refine ⟨x, rfl, x, S, rfl, t, _, _, rfl, rfl, ?_⟩
    rw [← TyB.isI t] at k
    exact k
def spTuple (K : PySem.W.Frag) : Sp := fun vs H Q _ => ∃ (x : V) (S : String), vs = [x] ∧ TyB K H x S ∧ Q (.bl (decide (S = "tuple"))) H
theorem ok_is_tuple (T : Txt K mg) : FnOk P w K mg base CX0 1 T.is_tuple.a T.is_tuple.fd ["thing"] (spTuple K) := by
  refine T.is_tuple.F.ok sc_is_tuple (fun vs H Q E h => ?_) (fun cdv A outer s H vs Q E hr h => ?_)
  · obtain ⟨x, S, rfl, _⟩ := h
    rfl
  · obtain ⟨x, S, rfl, t, k⟩ := h
    refine ⟨_, (pss_one (ps_ret (pe_cmpR op_isTyB (pe_callTy call_type1 (by rfl) T.ztype (by decide +kernel) (pa_cons (pv 0) pa_nil)) (pe_bltn (v := .ty "tuple") (by rfl) T.ztuple (by decide +kernel) rfl) (nomark _)))), ?_⟩
    exact ⟨x, rfl, x, S, rfl, t, _, _, rfl, rfl, k⟩
def spList (K : PySem.W.Frag) : Sp := fun vs H Q _ => ∃ (x : V) (S : String), vs = [x] ∧ TyB K H x S ∧ Q (.bl (decide (S = "list") || decide (S = "tuple"))) H
theorem ok_is_list (T : Txt K mg) : FnOk P w K mg base CX0 2 T.is_list.a T.is_list.fd ["thing"] (spList K) := by
  refine T.is_list.F.ok sc_is_list (fun vs H Q E h => ?_) (fun cdv A outer s H vs Q E hr h => ?_)
  · obtain ⟨x, S, rfl, _⟩ := h
    rfl
  · obtain ⟨x, S, rfl, t, k⟩ := h
    refine ⟨_, (pss_one (ps_ret (pe_or (pe_cmpR op_isTyB (pe_callTy call_type1 (by rfl) T.ztype (by decide +kernel) (pa_cons (pv 0) pa_nil)) (pe_bltn (v := .ty "list") (by rfl) T.zlist (by decide +kernel) rfl) (nomark _)) (pe_one (pe_call (ok_is_tuple T) (hr.mono (by decide)) (by rfl) T.is_tuple.g T.is_tuple.k T.is_tuple.b .nil pass0 (pa_cons (pv 0) pa_nil)))))), ?_⟩
    refine ⟨x, rfl, x, S, rfl, t, _, _, rfl, rfl, _, rfl, ?_⟩
    refine ite2 (fun c => ?_) (fun c => ?_)
    · rw [c] at k
      exact k
    · have c' : decide (S = "list") = false := by simpa using c
      rw [c', Bool.false_or] at k
      exact ⟨x, rfl, x, S, rfl, t, k⟩
def skF (r q : Addr) (n : Int) : List (Str × V) := [("row", .ref r), ("bands", .int n), ("places", .ref q)]
def places (row : List Int) : List Int := (List.range row.length).map fun (e : Nat) => (((row.idxOf (e : Int) : Nat)) : Int)
def SkAt (T : Txt K mg) (H : Hp) (p : Addr) (row : List Int) : Prop := ∃ dx r q, H p = some (.ins T.Skin.C dx (skF r q (row.length / 2 : Nat))) ∧ FzT H r (row.map V.int) ∧ FzT H q ((places row).map V.int)
theorem FzT.same {H H' : Hp} {a : Addr} {xs : List V} (h : FzT H a xs) (s : Same H H') : FzT H' a xs := by
  obtain ⟨ob, h1, h2⟩ := h
  exact ⟨ob, s _ _ h1, h2⟩
theorem FzT.kp {D : Dw} {H H' : Hp} {a : Addr} {xs : List V} (h : FzT H a xs) (dr : DrOk D H) (k : Kp D H H') : FzT H' a xs := by
  obtain ⟨ob, h1, h2⟩ := h
  obtain ⟨ls, cs, rr, t, d⟩ := dr
  exact ⟨ob, k _ _ h1 (d.dne h1 fun _ z => nomatch z) (d.lne h1 fun _ z => nomatch z), h2⟩
theorem SkAt.same {T : Txt K mg} {H H' : Hp} {p : Addr} {row : List Int} (h : SkAt T H p row) (s : Same H H') : SkAt T H' p row := by
  obtain ⟨dx, r, q, h1, h2, h3⟩ := h
  exact ⟨dx, r, q, s _ _ h1, FzT.same h2 s, FzT.same h3 s⟩
theorem SkAt.kp {T : Txt K mg} {D : Dw} {H H' : Hp} {p : Addr} {row : List Int} (h : SkAt T H p row) (dr : DrOk D H) (k : Kp D H H') : SkAt T H' p row := by
  obtain ⟨dx, r, q, h1, h2, h3⟩ := h
  obtain ⟨ls, cs, rr, t, d⟩ := id dr
  exact ⟨dx, r, q, k _ _ h1 (d.dne h1 fun _ z => nomatch z) (d.lne h1 fun _ z => nomatch z), FzT.kp h2 dr k, FzT.kp h3 dr k⟩
theorem skF_row (r q : Addr) (n : Int) : (skF r q n).lookup ("row" : Str) = some (V.ref r) := rfl
theorem skF_bands (r q : Addr) (n : Int) : (skF r q n).lookup ("bands" : Str) = some (V.int n) := rfl
theorem nRow (T : Txt K mg) : NoAttr K T.Skin.C "row" := T.Skin.n _ (by decide)
theorem nBands (T : Txt K mg) : NoAttr K T.Skin.C "bands" := T.Skin.n _ (by decide)
theorem nPlaces (T : Txt K mg) : NoAttr K T.Skin.C "places" := T.Skin.n _ (by decide)
inductive SkV (T : Txt K mg) (H : Hp) : V → Bool → Prop where
  | skin {p dx : Addr} {fs : List (Str × V)} (h : H p = some (.ins T.Skin.C dx fs)) : SkV T H (.ref p) true
  | ty {x : V} {S : String} (t : TyB K H x S) (h : PySem.W.kitOne K (.type S) (.ref T.Skin.C) = some false) : SkV T H x false
theorem TyB.x {H : Hp} {x : V} {S : String} (t : TyB K H x S) : TyX K H x (.type S) := by
  cases t with
  | non => exact .base .non
  | bl b => exact .base (.bl b)
  | int i => exact .base (.int i)
  | str x => exact .base (.str x)
  | byt b => exact .byt b
  | lst h =>
    rcases h with (h | ⟨o, h⟩) | ⟨o, its, n, h1, h2, _⟩
    · exact .base (.lst h)
    · exact .base (.frz h)
    · exact .kList h1 h2
  | tup h =>
    rcases h with (h | ⟨o, h⟩) | ⟨o, its, n, h1, h2, _⟩
    · exact .base (.tup h)
    · exact .fTuple h
    · exact .kTuple h1 h2
  | dK h => exact .base (.dK h)
theorem SkAt.v {T : Txt K mg} {H : Hp} {p : Addr} {row : List Int} (h : SkAt T H p row) : SkV T H (.ref p) true := by
  obtain ⟨dx, r, q, h1, _⟩ := h
  exact .skin h1
theorem SkV.isi {T : Txt K mg} {H : Hp} {v : V} {b : Bool} (h : SkV T H v b) : ∃ t, TyX K H v t ∧ PySem.W.kitOne K t (.ref T.Skin.C) = some b := by
  cases h with
  | skin h => exact ⟨_, .base (.ins h T.Skin.c T.Skin.ha T.Skin.hn T.Skin.ht T.Skin.hm), T.kSS⟩
  | ty t h => exact ⟨_, Tt.TyB.x t, h⟩
def SkErr (T : Txt K mg) (H : Hp) (E : XK) : Prop := ∀ d H', Same H H' → H' d = some (.xd [("part", .non)]) → E (.ref T.BadSkin.C) (some d) H'
def spExI (T : Txt K mg) : Sp := fun vs H Q _ => ∃ (a : Addr) (v : V), vs = [.ref a, v] ∧ H a = some (exo a T.BadSkin.C none) ∧
  ∀ dx, H dx = none → dx ≠ a → Q .non (upd (upd H dx (exd dx [("part", v)])) a (exo a T.BadSkin.C (some dx)))
theorem ok_BadSkin_init (T : Txt K mg) : FnOk P w K mg base CX0 1 T.BadSkin.fI T.BadSkin.fd ["self", "part"] (spExI T) := by
  refine T.BadSkin.F.ok sc_BadSkin_init (fun vs H Q E h => ?_) (fun cdv A outer s H vs Q E hr h => ?_)
  · obtain ⟨a, v, rfl, _⟩ := h
    rfl
  · obtain ⟨a, v, rfl, ha, k⟩ := h
    refine ⟨_, (pss_one (ps_ost (pv 0) (pv 1))), ?_⟩
    exact ⟨v, rfl, _, rfl, a, T.BadSkin.C, rfl, T.BadSkin.o, T.BadSkin.n, .inl ⟨ha, fun dx n ne => k dx n ne⟩⟩
def spCheckSkin (T : Txt K mg) : Sp := fun vs H Q E => ∃ (v : V) (b : Bool), vs = [v] ∧ SkV T H v b ∧ (b = true → Q .non H) ∧ (b = false → SkErr T H E)
theorem ok_check_skin (T : Txt K mg) : FnOk P w K mg base (L2.CX P w) 3 T.check_skin.a T.check_skin.fd ["skin"] (spCheckSkin T) := by
  refine T.check_skin.F.okX sc_check_skin (fun vs H Q E h => ?_) (fun cdv A outer s H vs Q E hr h => ?_)
  · obtain ⟨v, b, rfl, _⟩ := h
    rfl
  · obtain ⟨v, b, rfl, hv, kT, kF⟩ := h
    refine ⟨_, (pss_one (ps_if (pt_not (pt_val (pe_callB call_isA (by rfl) T.zisinstance (by decide +kernel) (pa_cons (pv 0) (pa_cons (pe_glob (v := .ref T.Skin.C) rfl T.Skin.g rfl) pa_nil)))))
      (pss_one (ps_raise rfl (takes_of rfl rfl rfl rfl) (pmk_oex T.BadSkin.o T.BadSkin.i T.BadSkin.t (ok_BadSkin_init T) (hr.mono (by decide)) T.BadSkin.b .nil pass0 (by rfl) T.BadSkin.g (pa_cons pe_non pa_nil))))
      pss_nil)), ?_⟩
    obtain ⟨t, ht, hk⟩ := hv.isi
    refine ⟨v, rfl, .inr ⟨v, _, t, _, b, rfl, .own T.Skin.C, ht, hk, b, rfl, ?_⟩⟩
    cases b with
    | true => exact iteF (kT rfl)
    | false =>
      refine iteT ⟨(by show 1 ≤ 1000; decide), fun a ha => ?_⟩
      refine ⟨a, .non, rfl, upd_same, fun dx ndx ne => ⟨rfl, dx, ([("part", V.non)] : List (Str × V)), upd_same, ?_, ?_, ?_⟩⟩
      · rw [upd_ne ne, upd_same]
      · rw [upd_ne ne] at ndx
        exact ndx
      · have ndx' : H dx = none := by rw [upd_ne ne] at ndx; exact ndx
        refine kF rfl dx _ (fun b o hb => ?_) upd_same
        have nb : b ≠ a := ne_of_none hb ha
        have nb2 : b ≠ dx := ne_of_none hb ndx'
        rw [upd_ne nb2, del_ne nb, upd_ne nb, upd_ne nb2, upd_ne nb]
        exact hb
end
end Tt
set_option maxRecDepth 100000
set_option maxHeartbeats 4000000
namespace Tt
open PySem L2
section
variable {P : Program} {w : World} {K : PySem.W.Frag} {mg : Str → Option Value} {base : Heap}
theorem eqv_ints : ∀ a b : List Int, PyData.eqv (.list (a.map PyData.int)) (.list (b.map PyData.int)) = decide (a = b)
  | [], [] => rfl
  | [], _ :: _ => by simp [PyData.eqv] <;> rfl
  | _ :: _, [] => by simp [PyData.eqv] <;> rfl
  | x :: a, y :: b => by
    have h := eqv_ints a b
    simp [PyData.eqv, PyData.eqvAll] at h ⊢
    rw [h]
    rfl
theorem perm_sorted {n : Nat} {ns' ns : List Int} (h : ns'.Perm ns) (p : ns'.Pairwise (· ≤ ·)) (q : ns.Perm (rgI n)) : ns' = rgI n := by
  refine List.Perm.eq_of_pairwise (fun a b _ _ h1 h2 => Int.le_antisymm h1 h2) p ?_ (h.trans q)
  unfold rgI
  rw [List.pairwise_map]
  exact List.pairwise_lt_range.imp fun {a b} h => by show (a : Int) ≤ b; omega
theorem perm_len {n : Nat} {row : List Int} (h : row.Perm (rgI n)) : row.length = n := by rw [h.length_eq, rgI_len]
theorem perm_mem {n : Nat} {row : List Int} (h : row.Perm (rgI n)) {x : Int} : x ∈ row ↔ 0 ≤ x ∧ x < n := by
  rw [h.mem_iff]
  unfold rgI
  rw [List.mem_map]
  constructor
  · rintro ⟨a, ha, rfl⟩
    have := List.mem_range.mp ha
    omega
  · rintro ⟨h0, h1⟩
    exact ⟨x.toNat, List.mem_range.mpr (by omega), by omega⟩
def spRowOk (K : PySem.W.Frag) : Sp := fun vs H Q _ => ∃ (t : Addr) (n : Nat) (row : List Int), vs = [.ref t] ∧ SqT K H t (row.map V.int) ∧ 1 ≤ n ∧ n ≤ 6 ∧ row.Perm (rgI (2 * n)) ∧ ∀ H', Same H H' → Q (.bl true) H'
theorem ok_is_row (T : Txt K mg) : FnOk P w K mg base CX0 3 T.is_row.a T.is_row.fd ["row"] (spRowOk K) := by
  refine T.is_row.F.ok sc_is_row (fun vs H Q E h => ?_) (fun cdv A outer s H vs Q E hr h => ?_)
  · obtain ⟨t, n, row, rfl, _⟩ := h
    rfl
  · obtain ⟨t, n, row, rfl, hs, n1, n6, pm, k⟩ := h
    have nd := sc_is_row.nd
    have hlen := perm_len pm
    refine ⟨_, (pss_cons (ps_if (PW.pt (pw_or (pt_not (pt_val (pe_call (ok_is_list T) (hr.mono (by decide)) (by rfl) T.is_list.g T.is_list.k T.is_list.b .nil pass0 (pa_cons (pv 0) pa_nil)))) (pw_or1 (pt_cmpR op_notIn_seq (pe_callB call_len_seq (by rfl) T.zlen (by decide +kernel) (pa_cons (pv 0) pa_nil)) (pe_tup (pa_cons pe_int (pa_cons pe_int (pa_cons pe_int (pa_cons pe_int (pa_cons pe_int (pa_cons pe_int pa_nil))))))) rfl))))
      (pss_one (ps_ret pe_bl))
      pss_nil)
    (pss_one (ps_ret (pe_and (pe_callB (cr_all rfl) (by rfl) T.zall (by decide +kernel) (pa_cons (pe_lc (own := [("end", 1)]) (g := gName 1) rfl nd (pi_tup (pv 0)) (blkOk_by (own := [("end", 1)]) (N := N_is_row) (sc := defScope s_is_row) (by decide +kernel)) (fun _ _ _ _ _ => pg_name (i := 1) nd rfl (Or.inl rfl)) (fun _ _ _ _ _ => pts_nil) (fun _ _ _ _ _ => (pe_call (ok_is_number T) (hr.mono (by decide)) (by rfl) T.is_number.g T.is_number.k T.is_number.b .nil pass0 (pa_cons (pv 1) pa_nil)))) pa_nil)) (pe_one (pe_cmpR (op_eqD hr.units) (pe_callB cr_sortedS2 (by rfl) T.zsorted (by decide +kernel) (pa_cons (pv 0) pa_nil)) (pe_listRg rfl (by rfl) T.zlist (prg_1 (by rfl) T.zrange (pe_callB call_len_seq (by rfl) T.zlen (by decide +kernel) (pa_cons (pv 0) pa_nil)))) (nomark _))))))), ?_⟩
    refine ⟨_, rfl, _, _, rfl, .tup hs, _, rfl, iteF ?_⟩
    refine ⟨_, rfl, t, _, rfl, .inr hs, (by show 6 ≤ sizeLine; decide), fun p hp => ?_⟩
    refine ⟨p, _, rfl, .inr (SqT.of upd_same), rfl, rfl, _, rfl, ?_⟩
    have hin : inV (.int ((row.map V.int).length : Int)) [.int 2, .int 4, .int 6, .int 8, .int 10, .int 12] = true := by
      rw [List.length_map, hlen]
      have : n = 1 ∨ n = 2 ∨ n = 3 ∨ n = 4 ∨ n = 5 ∨ n = 6 := by omega
      rcases this with rfl | rfl | rfl | rfl | rfl | rfl <;> rfl
    refine ite2 (fun c => ?_) (fun _ => ?_)
    · exfalso
      have c' : (!inV (.int ((row.map V.int).length : Int)) [.int 2, .int 4, .int 6, .int 8, .int 10, .int 12]) = true := c
      rw [hin] at c'
      exact Bool.noConfusion c'
    · have s1 : Same H (upd H p (.tup [.int 2, .int 4, .int 6, .int 8, .int 10, .int 12])) := same_new hp
      generalize upd H p (.tup [.int 2, .int 4, .int 6, .int 8, .int 10, .int 12]) = H1 at s1
      refine ⟨_, rfl, t, rfl, ⟨_, same_seqT s1 hs⟩, fun D1 hD1 => lc_tup (K := K) (a := t) (xs := row.map V.int) (fun i H' => H' D1 = some (.lst ((List.replicate i true).map V.bl)) ∧ Same H1 H')
        ⟨upd_same, same_new hD1⟩ (fun i H' _ z => same_seqT (s1.trans z.2) hs) ?_ ?_⟩
      · rintro i y H' hi ⟨h1, s2⟩
        obtain ⟨x, rfl, hx⟩ := ints_at hi
        have hil : i < row.length := (List.getElem?_eq_some_iff.mp hx).1
        refine ⟨rfl, yes_t ?_⟩
        refine ⟨_, rfl, _, _, rfl, .int x, _, h1, ?_, ?_, ?_⟩
        · rw [List.length_map, List.length_replicate]
          exact small1000 (by omega)
        · rw [upd_same, List.replicate_succ', List.map_append]
          rfl
        · intro b o hb
          rw [upd_ne (ne_of_none hb hD1)]
          exact s2 b o hb
      · rintro H' ⟨h1, s2⟩
        have s3 : Same H H' := s1.trans s2
        refine ⟨D1, List.replicate (row.map V.int).length true, rfl, SqL.of h1, _, rfl, ?_⟩
        have hall : (List.replicate (row.map V.int).length true).all id = true := by simp
        rw [hall]
        refine iteT ?_
        refine ⟨_, rfl, .inr ⟨t, row, rfl, same_seqT s3 hs, fun ns' p2 pm2 pw hp2 => ?_⟩⟩
        have s4 : Same H (upd H' p2 (.lst (ns'.map V.int))) := s3.trans (same_new hp2)
        refine ⟨_, rfl, t, _, rfl, .inr (same_seqT s4 hs), _, rfl, RgOk.of_le (by omega) ?_ (by omega) (by omega), fun q hq => ?_⟩
        · rw [List.length_map]
          omega
        · have eN : ns' = rgI (2 * n) := perm_sorted pm2 pw pm
          have e1 : (upd (upd H' p2 (.lst (ns'.map V.int))) q (.lst (rgV 0 ((row.map V.int).length : Int)))) q = some (.lst ((rgI (2 * n)).map V.int)) := by
            rw [upd_same, rgV_rgI (by omega), List.length_map, hlen, Int.toNat_natCast]
          have e2 : (upd (upd H' p2 (.lst (ns'.map V.int))) q (.lst (rgV 0 ((row.map V.int).length : Int)))) p2 = some (.lst (ns'.map V.int)) := upk hq upd_same
          refine ⟨_, _, .lst (SqL.of e2) (dpAll_ints _ ns'), .lst (SqL.of e1) (dpAll_ints _ _), shapedAll_ints _, shapedAll_ints _, ?_⟩
          rw [eqv_ints, decide_eq_true eN]
          exact k _ (s4.trans (same_new hq))
def spSkinI (T : Txt K mg) : Sp := fun vs H Q _ => ∃ (p t dx : Addr) (n : Nat) (row : List Int), vs = [.ref p, .ref t] ∧ H p = some (.ins T.Skin.C dx []) ∧ FzT H t (row.map V.int) ∧ 1 ≤ n ∧ n ≤ 6 ∧ row.Perm (rgI (2 * n)) ∧
  ∀ (s : Nat) H', row[s]? = some 0 → SkAt T H' p (row.drop s ++ row.take s) → (∀ b o, H b = some o → b ≠ p → H' b = some o) → Q .non H'
theorem turn_perm (row : List Int) (s : Nat) : (row.drop s ++ row.take s).Perm row := by
  have h : (row.drop s ++ row.take s).Perm (row.take s ++ row.drop s) := List.perm_append_comm
  rw [List.take_append_drop] at h
  exact h
theorem idx_at {row : List Int} {x : Int} (h : x ∈ row) : row[row.idxOf x]? = some x ∧ ∀ m, m < row.idxOf x → row[m]? ≠ some x := by
  have hl : row.idxOf x < row.length := List.idxOf_lt_length_of_mem h
  refine ⟨by rw [List.getElem?_eq_getElem hl, List.getElem_idxOf hl], fun m hm e => ?_⟩
  obtain ⟨h1, h2⟩ := List.getElem?_eq_some_iff.mp e
  exact absurd h2 (by simpa using List.not_of_lt_findIdx (xs := row) (p := (· == x)) (i := m) hm)
theorem slT_from {xs : List V} {a : Addr} {H : Hp} {Q : VK} {n : Nat} (hx : 0 < xs.length) (h : SqT K H a xs) (q0 : n = 0 → Q (.ref a) H) (q1 : n ≠ 0 → ∀ p, H p = none → Q (.ref p) (upd H p (.tup (xs.drop n)))) : rSlA K (.ref a) (some (n : Int)) none H Q := by
  refine ⟨a, xs, rfl, h, fun z => q0 ?_, fun nz p hp => ?_⟩
  · rw [HT.sIx_nat] at z
    omega
  · rw [cut_from]
    refine q1 (fun e => nz ?_) p hp
    subst e
    exact ⟨by rw [HT.sIx_nat]; omega, rfl⟩
theorem slT_to {xs : List V} {a : Addr} {H : Hp} {Q : VK} {n : Nat} (hx : n < xs.length) (h : SqT K H a xs) (q1 : ∀ p, H p = none → Q (.ref p) (upd H p (.tup (xs.take n)))) : rSlA K (.ref a) none (some (n : Int)) H Q := by
  refine ⟨a, xs, rfl, h, fun z => ?_, fun _ p hp => ?_⟩
  · rw [HT.sIx_nat] at z
    exfalso
    omega
  · rw [cut_to _ (by omega)]
    exact q1 p hp
theorem noPart_i {σ : L2.St} {H : Hp} {Q : Option Int → Hp → Prop} (h : Q none H) : tNoPart σ H Q := h
def tTurned (K : PySem.W.Frag) : TE := tOp (rCatF K) (tCB (rTupF K) (tCons (tSl (rSlA K) (tVar 1) (tPart (tVar 2)) tNoPart) tNil)) (tCB (rTupF K) (tCons (tSl (rSlA K) (tVar 1) tNoPart (tPart (tVar 2))) tNil))
theorem row_turned {σ : L2.St} {H : Hp} {Q : VK} {t : Addr} {st : Nat} {row : List Int} (h1 : σ[1]? = some (some (.ref t))) (h2 : σ[2]? = some (some (.int (st : Nat)))) (ht : FzT H t (row.map V.int)) (hst : st < row.length) (hl : row.length ≤ 12)
    (k : ∀ (r : Addr) (H4 : Hp), Same H H4 → FzT H4 r ((row.drop st ++ row.take st).map V.int) → Q (.ref r) H4) : tTurned K σ H Q := by
  have hx : 0 < (row.map V.int).length := by rw [List.length_map]; omega
  have hd : ((row.drop st).map V.int) ≠ [] := fun z => by
    have := congrArg List.length z
    rw [List.length_map, List.length_drop] at this
    simp at this
    omega
  have hz : ((row.drop st).map V.int).length + ((row.take st).map V.int).length ≤ sizeLine := by
    rw [List.length_map, List.length_map, List.length_drop, List.length_take]
    have : (12 : Nat) ≤ sizeLine := by decide
    omega
  have step : ∀ (a : Addr) (H2 : Hp), Same H H2 → SqT K H2 a ((row.drop st).map V.int) → (st = 0 → a = t) →
      tCB (rTupF K) (tCons (tSl (rSlA K) (tVar 1) tNoPart (tPart (tVar 2))) tNil) σ H2 fun y H3 => rCatF K (.ref a) y H3 Q := by
    intro a H2 s2 ha hat
    refine ⟨_, h1, noPart_i ⟨_, h2, st, rfl, ?_⟩⟩
    refine slT_to (K := K) (by rw [List.length_map]; exact hst) (FzT.same ht s2).sq (fun b hb => ?_)
    have e1 : (upd H2 b (.tup ((row.map V.int).take st))) b = some (.tup ((row.take st).map V.int)) := by rw [upd_same, List.map_take]
    have s3 : Same H2 (upd H2 b (.tup ((row.map V.int).take st))) := same_new hb
    refine ⟨b, _, rfl, .inr ⟨SqT.of e1, ?_⟩⟩
    refine ⟨a, b, _, _, rfl, rfl, same_seqT s3 ha, SqT.of e1, hd, hz, fun z => ?_, fun z r ob hr hob => ?_⟩
    · have z0 : st = 0 := by
        have := congrArg List.length z
        rw [List.length_map, List.length_take, List.length_nil] at this
        omega
      subst z0
      rw [hat rfl]
      refine k t _ (s2.trans s3) ?_
      rw [show List.drop 0 row ++ List.take 0 row = row by simp]
      exact FzT.same (FzT.same ht s2) s3
    · refine k r _ ((s2.trans s3).trans (same_new hr)) ?_
      rw [List.map_append]
      exact FzT.new hob
  refine ⟨_, h1, _, h2, st, rfl, noPart_i ?_⟩
  refine slT_from (K := K) hx ht.sq (fun z => ?_) (fun nz a ha => ?_)
  · refine ⟨t, _, rfl, .inr ⟨ht.sq, ?_⟩⟩
    refine step t H (fun _ _ h => h) ?_ (fun _ => rfl)
    rw [z, List.drop_zero]
    exact ht.sq
  · have e1 : (upd H a (.tup ((row.map V.int).drop st))) a = some (.tup ((row.drop st).map V.int)) := by rw [upd_same, List.map_drop]
    refine ⟨a, _, rfl, .inr ⟨SqT.of e1, ?_⟩⟩
    refine step a _ (same_new ha) (SqT.of e1) (fun z => absurd z nz)
theorem FzT.ne {H : Hp} {a p : Addr} {xs : List V} {u o : HO} (h : FzT H a xs) (e : H p = some u) (n : ∀ ob x, u ≠ .frz ob x) : FzT (upd H p o) a xs := by
  obtain ⟨ob, h1, h2⟩ := h
  refine ⟨ob, ?_, h2⟩
  rw [upd_ne]
  · exact h1
  · intro z
    subst z
    rw [e] at h1
    exact n _ _ (Option.some.inj h1)
theorem place_at {row : List Int} {i : Nat} (h : i < row.length) : (places row)[i]? = some (((row.idxOf (i : Int) : Nat)) : Int) := by
  unfold places
  rw [List.getElem?_map, List.getElem?_range h]
  rfl
theorem ok_Skin_init (T : Txt K mg) : FnOk P w K mg base (L2.CX P w) 4 T.Skin.fI T.Skin.fd ["self", "row"] (spSkinI T) := by
  refine T.Skin.F.okX sc_Skin_init (fun vs H Q E h => ?_) (fun cdv A outer s H vs Q E hr h => ?_)
  · obtain ⟨p, t, dx, n, row, rfl, _⟩ := h
    rfl
  · obtain ⟨p, t, dx, n, row, rfl, hp, ht, n1, n6, pm, k⟩ := h
    have nd := sc_Skin_init.nd
    have hu := hu_of hr
    have hlen := perm_len pm
    refine ⟨_, (pss_cons (ps_if (pt_not (pt_val (pe_call (ok_is_row T) (hr.mono (by decide)) (by rfl) T.is_row.g T.is_row.k T.is_row.b .nil pass0 (pa_cons (pv 1) pa_nil))))
      (pss_one (ps_raise rfl (takes_of rfl rfl rfl rfl) (pmk_oex T.BadSkin.o T.BadSkin.i T.BadSkin.t (ok_BadSkin_init T) (hr.mono (by decide)) T.BadSkin.b .nil pass0 (by rfl) T.BadSkin.g (pa_cons pe_str pa_nil))))
      pss_nil)
    (pss_cons (ps_set (i := 2) nd rfl (Or.inl rfl) (pe_bmF PySem.F.plainAttrs_tuple PySem.F.slot_tuple_index PySem.F.type_tuple_index mt_tup_indexI (pv 1) (pa_cons pe_int pa_nil)))
    (pss_cons (ps_fld (pv 0) (pe_op op_catF (pe_callTy call_tuple_ofF (by rfl) T.ztuple (by decide +kernel) (pa_cons (pe_slice sl_tupA (pv 1) (po_some (pv 2)) po_none) pa_nil)) (pe_callTy call_tuple_ofF (by rfl) T.ztuple (by decide +kernel) (pa_cons (pe_slice sl_tupA (pv 1) po_none (po_some (pv 2))) pa_nil))) rfl)
    (pss_cons (ps_fld (pv 0) (pe_op op_fdiv (pe_callB call_len_seq (by rfl) T.zlen (by decide +kernel) (pa_cons (pv 1) pa_nil)) pe_int) rfl)
    (pss_one (ps_fld (pv 0) (pe_callTy call_tuple_ofF (by rfl) T.ztuple (by decide +kernel) (pa_cons (pe_lc (own := [("end", 3)]) (g := gName 3) rfl nd (pi_range1 rfl T.zrange (pa_cons (pe_callB call_len_seq (by rfl) T.zlen (by decide +kernel) (pa_cons (pv 1) pa_nil)) pa_nil)) (blkOk_by (own := [("end", 3)]) (N := N_Skin_init) (sc := defScope s_Skin_init) (by decide +kernel)) (fun _ _ _ _ _ => pg_name (i := 3) nd rfl (Or.inl rfl)) (fun _ _ _ _ _ => pts_nil) (fun _ _ _ _ _ => (pe_bmFK (K := K) rfl PySem.F.plainAttrs_tuple PySem.F.slot_tuple_index PySem.F.type_tuple_index (mt_tup_indexIK (K := K) rfl) (pe_fldK (K := K) rfl (pv 0) rfl) (pa_cons (pv 3) pa_nil)))) pa_nil)) rfl)))))), ?_⟩
    refine ⟨_, rfl, t, n, row, rfl, ht.sq, n1, n6, pm, fun H1 s1 => ⟨_, rfl, iteF ?_⟩⟩
    have ht1 := FzT.same ht s1
    have hp1 := s1 _ _ hp
    have h0 : (0 : Int) ∈ row := (perm_mem pm).mpr (by omega)
    obtain ⟨i0, i1⟩ := idx_at h0
    have hst : row.idxOf 0 < row.length := List.idxOf_lt_length_of_mem h0
    refine ⟨_, rfl, .inr ⟨rfl, t, _, rfl, ht1⟩, t, row, 0, row.idxOf 0, rfl, rfl, ht1.sq, i0, i1, ?_⟩
    generalize row.idxOf 0 = st at i0 hst
    clear i1
    refine row_turned (K := K) rfl rfl ht1 hst (by omega) (fun r H4 s4 fr => ?_)
    generalize hrow : row.drop st ++ row.take st = row2 at fr
    have pm2 : row2.Perm (rgI (2 * n)) := by rw [← hrow]; exact (turn_perm row st).trans pm
    have hlen2 : row2.length = 2 * n := perm_len pm2
    have hp4 : H4 p = some (.ins T.Skin.C dx []) := s4 _ _ hp1
    refine ⟨_, rfl, p, T.Skin.C, dx, [], rfl, hp4, T.Skin.c, nRow T, (by show 0 < 1000; decide), ?_⟩
    have hp5 : (upd H4 p (.ins T.Skin.C dx (putF "row" (.ref r) []))) p = some (.ins T.Skin.C dx [("row", .ref r)]) := upd_same
    have fr5 : FzT (upd H4 p (.ins T.Skin.C dx (putF "row" (.ref r) []))) r (row2.map V.int) := FzT.ne fr hp4 (fun _ _ z => nomatch z)
    have ft5 : FzT (upd H4 p (.ins T.Skin.C dx (putF "row" (.ref r) []))) t (row.map V.int) := FzT.ne (FzT.same ht1 s4) hp4 (fun _ _ z => nomatch z)
    have k5 : ∀ b o, H b = some o → b ≠ p → (upd H4 p (.ins T.Skin.C dx (putF "row" (.ref r) []))) b = some o := fun b o hb nb => by
      rw [upd_ne nb]
      exact s4 _ _ (s1 _ _ hb)
    generalize upd H4 p (.ins T.Skin.C dx (putF "row" (.ref r) [])) = H5 at hp5 fr5 ft5 k5
    refine ⟨_, rfl, t, _, rfl, .inr ft5.sq, _, _, rfl, rfl, ⟨by decide, by decide⟩, ?_⟩
    refine ⟨_, rfl, p, T.Skin.C, dx, _, rfl, hp5, T.Skin.c, nBands T, (by show 1 < 1000; decide), ?_⟩
    have ebands : ((row.map V.int).length : Int) / 2 = ((row2.length / 2 : Nat) : Int) := by
      rw [List.length_map, hlen2, hlen]
      rfl
    have eV : ((fun (i j : Int) => V.int (i / j)) ((row.map V.int).length : Int) 2) = V.int ((row2.length / 2 : Nat) : Int) := congrArg V.int ebands
    rw [eV]
    have hp6 : (upd H5 p (.ins T.Skin.C dx (putF "bands" (.int ((row2.length / 2 : Nat) : Int)) [("row", .ref r)]))) p = some (.ins T.Skin.C dx [("row", .ref r), ("bands", .int ((row2.length / 2 : Nat) : Int))]) := upd_same
    have fr6 : FzT (upd H5 p (.ins T.Skin.C dx (putF "bands" (.int ((row2.length / 2 : Nat) : Int)) [("row", .ref r)]))) r (row2.map V.int) := FzT.ne fr5 hp5 (fun _ _ z => nomatch z)
    have ft6 : FzT (upd H5 p (.ins T.Skin.C dx (putF "bands" (.int ((row2.length / 2 : Nat) : Int)) [("row", .ref r)]))) t (row.map V.int) := FzT.ne ft5 hp5 (fun _ _ z => nomatch z)
    have k6 : ∀ b o, H b = some o → b ≠ p → (upd H5 p (.ins T.Skin.C dx (putF "bands" (.int ((row2.length / 2 : Nat) : Int)) [("row", .ref r)]))) b = some o := fun b o hb nb => by
      rw [upd_ne nb]
      exact k5 b o hb nb
    generalize upd H5 p (.ins T.Skin.C dx (putF "bands" (.int ((row2.length / 2 : Nat) : Int)) [("row", .ref r)])) = H6 at hp6 fr6 ft6 k6
    refine ⟨_, rfl, t, _, rfl, .inr ft6.sq, _, rfl, by omega, by rw [List.length_map]; omega, fun D1 hD1 => ?_⟩
    refine lc_range (lo := 0) (n := ((row.map V.int).length : Int).toNat) (fun i H' => H' D1 = some (.lst (((places row2).take i).map V.int)) ∧ Same H6 H')
      ⟨upd_same, same_new hD1⟩ ?_ ?_
    · rintro i H' hi ⟨h1, s2⟩
      have hi2 : i < row2.length := by rw [List.length_map, hlen] at hi; omega
      have hm : (i : Int) ∈ row2 := (perm_mem pm2).mpr (by omega)
      obtain ⟨j0, j1⟩ := idx_at hm
      refine ⟨rfl, yes_t ?_⟩
      refine ⟨_, rfl, p, _, _, _, _, rfl, s2 _ _ hp6, T.Skin.c, nRow T, rfl, .inr ⟨rfl, r, _, rfl, FzT.same fr6 s2⟩, ?_⟩
      refine ⟨_, rfl, r, row2, i, _, rfl, by rw [Int.zero_add], (FzT.same fr6 s2).sq, j0, j1, ?_⟩
      refine ⟨_, h1, ?_, ?_⟩
      · rw [List.length_map, List.length_take]
        exact small1000 (by omega)
      · refine ⟨?_, fun b o hb => ?_⟩
        · rw [upd_same, List.take_add_one, place_at hi2, List.map_append]
          rfl
        · rw [upd_ne (ne_of_none hb hD1)]
          exact s2 b o hb
    · rintro H' ⟨h1, s2⟩
      have e2 : (places row2).take ((row.map V.int).length : Int).toNat = places row2 := by
        refine List.take_of_length_le ?_
        unfold places
        rw [List.length_map, List.length_map, List.length_range]
        omega
      rw [e2] at h1
      refine ⟨D1, _, rfl, .inl ⟨SqL.of h1, fun q ob hq hob => ?_⟩⟩
      have s3 : Same H6 (upd H' q (.frz ob (.tup ((places row2).map V.int)))) := s2.trans (same_new hq)
      have fq : FzT (upd H' q (.frz ob (.tup ((places row2).map V.int)))) q ((places row2).map V.int) := FzT.new hob
      generalize upd H' q (.frz ob (.tup ((places row2).map V.int))) = H7 at s3 fq
      refine ⟨_, rfl, p, T.Skin.C, dx, _, rfl, s3 _ _ hp6, T.Skin.c, nPlaces T, (by show 2 < 1000; decide), ?_⟩
      refine k st _ i0 ?_ (fun b o hb nb => ?_)
      · rw [hrow]
        exact ⟨dx, r, q, upd_same, FzT.ne (FzT.same fr6 s3) (s3 _ _ hp6) (fun _ _ z => nomatch z), FzT.ne fq (s3 _ _ hp6) (fun _ _ z => nomatch z)⟩
      · rw [upd_ne nb]
        exact s3 _ _ (k6 b o hb nb)
end
end Tt
set_option maxRecDepth 100000
set_option maxHeartbeats 4000000
namespace Tt
open PySem L2
section
variable {P : Program} {w : World} {K : PySem.W.Frag} {mg : Str → Option Value} {base : Heap}
theorem TyB.same {H H' : Hp} {x : V} {S : String} (t : TyB K H x S) (s : Same H H') : TyB K H' x S := by
  cases t with
  | non => exact .non
  | bl b => exact .bl b
  | int i => exact .int i
  | str x => exact .str x
  | byt b => exact .byt b
  | @lst a xs h =>
    have h' : SqL K H' a xs := by
      rcases h with (h | ⟨o, h⟩) | h
      · exact .inl (.inl (s _ _ h))
      · exact .inl (.inr ⟨o, s _ _ h⟩)
      · exact .inr h
    exact .lst h'
  | tup h => exact .tup (same_seqT s h)
  | dK h => exact .dK (s _ _ h)
end
end Tt
set_option maxRecDepth 100000
set_option maxHeartbeats 4000000
namespace Tt
open PySem L2
section
variable {P : Program} {w : World} {K : PySem.W.Frag} {mg : Str → Option Value} {base : Heap}
def SkOr (T : Txt K mg) (v : V) (H : Hp) (E : XK) (k : Addr → List Int → Prop) : Prop := (SkV T H v false ∧ SkErr T H E) ∨ ∃ (p : Addr) (row : List Int), v = .ref p ∧ SkAt T H p row ∧ (row.length ≤ 12 ∧ row.length % 2 = 0) ∧ k p row
end
end Tt
set_option maxRecDepth 100000
set_option maxHeartbeats 4000000
namespace Tt
open PySem L2
section
variable {P : Program} {w : World} {K : PySem.W.Frag} {mg : Str → Option Value} {base : Heap}
theorem slT_gen {xs : List V} {a : Addr} {H : Hp} {Q : VK} {n : Nat} (h : SqT K H a xs) (q : ∀ b H', Same H H' → SqT K H' b (xs.take n) → Q (.ref b) H') : rSlA K (.ref a) none (some (n : Int)) H Q := by
  by_cases hn : n < xs.length
  · refine slT_to hn h fun p hp => q p _ (same_new hp) (SqT.of upd_same)
  · refine ⟨a, xs, rfl, h, fun _ => q a H (fun _ _ z => z) ?_, fun z => absurd ⟨rfl, ?_⟩ z⟩
    · rw [List.take_of_length_le (by omega)]
      exact h
    · rw [HT.sIx_nat]
      omega
theorem catA_gen {xs ys : List V} {a b : Addr} {H : Hp} {Q : VK} (ha : SqT K H a xs) (hb : SqT K H b ys) (hz : xs.length + ys.length ≤ sizeLine) (q : ∀ c H', Same H H' → SqT K H' c (xs ++ ys) → Q (.ref c) H') : rCatA K (.ref a) (.ref b) H Q := by
  refine ⟨a, b, xs, ys, rfl, rfl, ha, hb, hz, fun z => ?_, fun _ z => ?_, fun _ _ p hp => q p _ (same_new hp) (SqT.of upd_same)⟩
  · subst z
    exact q b H (fun _ _ z => z) hb
  · subst z
    exact q a H (fun _ _ z => z) (by rw [List.append_nil]; exact ha)
theorem slT_genD {xs : List V} {a : Addr} {H : Hp} {Q : VK} {n : Nat} (h : SqT K H a xs) (q : ∀ b H', Same H H' → SqT K H' b (xs.drop n) → Q (.ref b) H') : rSlA K (.ref a) (some (n : Int)) none H Q := by
  by_cases hx : 0 < xs.length
  · refine slT_from hx h (fun z => ?_) fun _ p hp => q p _ (same_new hp) (SqT.of upd_same)
    subst z
    exact q a H (fun _ _ z => z) (by rw [List.drop_zero]; exact h)
  · have e : xs = [] := List.length_eq_zero_iff.mp (by omega)
    subst e
    refine ⟨a, [], rfl, h, fun _ => q a H (fun _ _ z => z) (by rw [List.drop_nil]; exact h), fun z => absurd ⟨by rw [HT.sIx_nat]; simp, rfl⟩ z⟩
end
end Tt
set_option maxRecDepth 100000
set_option maxHeartbeats 4000000
namespace Tt
open PySem L2
open LamX (Tabs TabS TabB ExtN CodeO tLam)
structure FnG (P : Program) (w : World) (K : PySem.W.Frag) (mg : Str → Option Value) (base : Heap) (CX : CXT) (k : Nat) (f : Addr) (fd : FuncData) (ps : List Str) (sp : Sp) : Prop where
  len : ∀ vs H Q E, sp vs H Q E → vs.length = ps.length
  run : ∀ (A : Around) (outer : List Env) (s : Shared) (H : Hp) (args : Args) (us : List Value) (vs : List V) (Q : VK) (E : XK), A.guards = some [] → Room k A → Env0 P w K mg base A outer s H → BindsTo s fd args (ps.zip us) → Vals vs us → sp vs H Q E →
    codeAny (model P w) A (.call (.ref f) args) (CR CX outer P w H s Q E) s
theorem FunC.okG {P : Program} {w : World} {K : PySem.W.Frag} {mg : Str → Option Value} {base : Heap} {x qual : Str} {st : Stmt} {f : Addr} {fd : FuncData} {cdv : Value} {N ps : List Str} {k : Nat} {sp : Sp} (F : FunC K x qual st f fd cdv) (S : FnScope N ps (defScope st)) (len : ∀ vs H Q E, sp vs H Q E → vs.length = ps.length)
    (body : ∀ (A : Around) (outer : List Env) (s : Shared) (H : Hp) (vs : List V) (Q : VK) (E : XK), A.guards = some [] → Room k (A.deeper (PyProof.Rows.envOfC qual (defScope st) s.heap.objs.size f cdv)) → sp vs H Q E →
      ∃ t, PSs (cxOf CX0 P w K mg base N qual (defScope st) f cdv A outer s H E).nox (defBody st) t ∧ t { nx := fun _ H' => Q .non H', rt := Q } (L2.start N vs) H) : FnG P w K mg base CX0 (k + 1) f fd ps sp := by
  refine ⟨len, fun A outer s H args us vs Q E hg hr e0 hb r hsp => ?_⟩
  obtain ⟨oc, od, kV, doc, pm, an, ct, osl, rfl, lk, hc⟩ := F.ex
  refine LamX.run_ofS (N := N) (ps := ps) (k := k) (us := us) (vs := vs) lk hc S hr e0 hb r (len _ _ _ _ hsp) fun hr' => ?_
  obtain ⟨t, h1, h2⟩ := body A outer s H vs Q E hg hr' hsp
  exact ⟨t, h1.nox, h2⟩
theorem FunG {P : Program} {w : World} {K : PySem.W.Frag} {mg : Str → Option Value} {base : Heap} {x qual : Str} {st : Stmt} {f : Addr} {fd : FuncData} {N ps : List Str} {k : Nat} {sp : Sp} (F : Fun K x qual st f fd) (S : FnScope N ps (defScope st)) (len : ∀ vs H Q E, sp vs H Q E → vs.length = ps.length)
    (body : ∀ (cdv : Value) (A : Around) (outer : List Env) (s : Shared) (H : Hp) (vs : List V) (Q : VK) (E : XK), A.guards = some [] → Room k (A.deeper (PyProof.Rows.envOfC qual (defScope st) s.heap.objs.size f cdv)) → sp vs H Q E →
      ∃ t, PSs (cxOf CX0 P w K mg base N qual (defScope st) f cdv A outer s H E).nox (defBody st) t ∧ t { nx := fun _ H' => Q .non H', rt := Q } (L2.start N vs) H) : FnG P w K mg base CX0 (k + 1) f fd ps sp := by
  refine ⟨len, fun A outer s H args us vs Q E hg hr e0 hb r hsp => ?_⟩
  obtain ⟨oc, od, kV, doc, pm, an, cdv, ct, osl, rfl, lk, hc⟩ := F.ex
  refine LamX.run_ofS (N := N) (ps := ps) (k := k) (us := us) (vs := vs) lk hc S hr e0 hb r (len _ _ _ _ hsp) fun hr' => ?_
  obtain ⟨t, h1, h2⟩ := body cdv A outer s H vs Q E hg hr' hsp
  exact ⟨t, h1.nox, h2⟩
section
variable {X : Cx} {CX : CXT} {k : Nat} {f : Addr} {fd : FuncData} {ps : List Str} {sp : Sp} {ds : List Value} {dvs : List V} {E : XK} {x : Str} {p pos : Pos} {e : Expr} {es : List Expr} {t : TA}
theorem pe_callG (F : FnG X.prog X.w X.K X.mg X.base CX k f fd ps sp) (hgd : X.A.guards = some []) (hr : Room k X.A) (hg : Gl X x) (hm : X.mg x = some (.ref f)) (hk : PySem.W.keepIn X.K (.ref f) = true) (hb : Binds X.K fd ps ds) (hd : Vals dvs ds) (hx : Passes CX X E)
    (ha : PA X (e :: es) t) (hdb : (x == ("__debug__" : Str)) = false := by decide) (he : starEach (e :: es) X.env = (false, eval e X.env) :: starEach es X.env := by rfl) (hpl : (backTo pos (starEach es X.env)).any (·.1) = false := by rfl) :
    PE X (.Call (.Name x p) (e :: es) [] pos) (tCall sp dvs E t) := by
  refine ⟨fun pins s σ H Q I h => ?_⟩
  refine wpAny_Call_Name_kw (ld_glob I hg hm ?_ hdb)
  refine PySem.W.callWith_K (h₀ := X.base) I.ok.mod.kin hk (thn (ha.run pos pins s σ H _ I h) fun us s1 ⟨vs, H1, I1, r, q⟩ => ⟨I1.kIn, ?_⟩) he hpl
  have r2 : Vals (vs ++ dvs) (us ++ ds) := r.append hd
  have hl : (us ++ ds).length = ps.length := by rw [← r2.length]; exact F.len _ _ _ _ q
  refine wpAny_call (codeAny_mono (F.run X.A X.stack s1 H1 ⟨us, []⟩ (us ++ ds) (vs ++ dvs) Q E hgd hr I1.env0 (hb s1 us I1.kIn hl) r2 q) fun r s' hq => ?_)
  cases r with
  | error e => exact hx pins σ H1 s1 e s' I1 hq
  | ok fl =>
    cases fl with
    | ret u => exact I1.after hq
    | next => exact False.elim hq
    | brk => exact False.elim hq
    | cont => exact False.elim hq
end
section
variable {X : Cx} {E : XK}
theorem pe_caught (T : Txt X.K X.mg) {Ts : List (Addr × Str)} {c P : Addr} {k : Nat} {ps : Arguments} {bd : Expr} {lsc : Scope} {t : XK → TE} {p lpos pos : Pos} (hg : Gl X "_law_caught") (TB : TabB X.base X.mg c P) (hcode : X.env.code = .ref c) (hmT : (P, X.env.qual ++ "<lambda>") ∈ Ts) (hu : ∀ p ∈ Ts, p.1 = P → p.2 = X.env.qual ++ "<lambda>")
    (hr : Room (k + 2) X.A) (L : LamX.LamS X.env.scope lsc) (hdef : defaultsOf ps X.env = ([], []))
    (noArgs : ∀ (q : Str) (cl : List (Str × Addr)) (pm cv ctv : Value), bindArgs (PySem.W.kla_fn "<lambda>" q ps bd lsc cl pm cv ctv) ⟨[], []⟩ = pure [])
    (body : ∀ (A : Around) (outer : List Env) (s : Shared) (H : Hp) (E : XK) (fl co : Addr), Room k (A.deeper (LamX.lamEnv X lsc s.heap.objs.size fl co)) → PE (LamX.lamCx X A outer s H E lsc fl co) bd (t E)) :
    PE X (.Call (.Name "_law_caught" p) [.Lambda ps bd lsc lpos] [] pos) (tLam Ts (TTc X.K T.RoundError.C) t) := by
  obtain ⟨oc, od, kV, doc, pm, an, cdv, ct, osl, e, lk, hc⟩ := T.l_caught.F.ex
  have hb := T.l_caught.b
  rw [e] at lk hb
  exact LamX.tt_lamcall hg T.l_caught.g T.l_caught.k lk hc hb sc_l_caught rfl (Or.inl rfl) (caught_gives T.RoundError.g) TB hcode hmT hu hr L hdef noArgs body
theorem lamP {A : Around} {outer : List Env} {s : Shared} {H : Hp} {lsc : Scope} {fl co : Addr} : Passes (L2.CX X.prog X.w) (LamX.lamCx X A outer s H E lsc fl co) E := passes_call (takes_of rfl rfl rfl rfl) fun _ _ _ _ h => h
end
section
variable {P : Program} {w : World} {K : PySem.W.Frag} {mg : Str → Option Value} {base : Heap}
theorem sqT_ext {H H' : Hp} {a : Addr} {xs : List V} (e : ExtN H H') (h : SqT K H a xs) : SqT K H' a xs := by
  rcases h with (h | ⟨o, h⟩) | h
  · exact .inl (.inl (e _ _ h fun _ z => nomatch z))
  · exact .inl (.inr ⟨o, e _ _ h fun _ z => nomatch z⟩)
  · exact .inr h
theorem sqL_ext {H H' : Hp} {a : Addr} {xs : List V} (e : ExtN H H') (h : SqL K H a xs) : SqL K H' a xs := by
  rcases h with (h | ⟨o, h⟩) | h
  · exact .inl (.inl (e _ _ h fun _ z => nomatch z))
  · exact .inl (.inr ⟨o, e _ _ h fun _ z => nomatch z⟩)
  · exact .inr h
theorem tyB_ext {H H' : Hp} {x : V} {S : String} (t : TyB K H x S) (e : ExtN H H') : TyB K H' x S := by
  cases t with
  | non => exact .non
  | bl b => exact .bl b
  | int i => exact .int i
  | str x => exact .str x
  | byt b => exact .byt b
  | @lst a xs h =>
    have h' : SqL K H' a xs := sqL_ext e h
    exact .lst h'
  | tup h => exact .tup (sqT_ext e h)
  | dK h => exact .dK (e _ _ h fun _ z => nomatch z)
theorem fzT_ext {H H' : Hp} {a : Addr} {xs : List V} (e : ExtN H H') (h : FzT H a xs) : FzT H' a xs := by
  obtain ⟨ob, h1, h2⟩ := h
  exact ⟨ob, e _ _ h1 (fun _ z => nomatch z), h2⟩
theorem skAt_ext {T : Txt K mg} {H H' : Hp} {p : Addr} {row : List Int} (h : SkAt T H p row) (e : ExtN H H') : SkAt T H' p row := by
  obtain ⟨dx, r, q, h1, h2, h3⟩ := h
  exact ⟨dx, r, q, e _ _ h1 (fun _ z => nomatch z), fzT_ext e h2, fzT_ext e h3⟩
theorem drOk_ext {D : Dw} {H H' : Hp} (h : DrOk D H) (e : ExtN H H') : DrOk D H' := by
  obtain ⟨ls, cs, r, t, d⟩ := h
  exact ⟨ls, cs, r, t, e _ _ d.hd (fun _ z => nomatch z), e _ _ d.hl (fun _ z => nomatch z), e _ _ d.hc (fun _ z => nomatch z), d.ne, d.nl, d.nc⟩
def KpN (D : Dw) (H H' : Hp) : Prop := ∀ b o, H b = some o → b ≠ D.d → b ≠ D.l → (∀ ps, o ≠ .tbl ps) → H' b = some o
theorem KpN.of {D : Dw} {H H' : Hp} (k : Kp D H H') : KpN D H H' := fun b o h n m _ => k b o h n m
theorem KpN.ext {D : Dw} {H H' : Hp} (k : ExtN H H') : KpN D H H' := fun b o h _ _ t => k b o h t
theorem KpN.trans {D : Dw} {H H1 H2 : Hp} (a : KpN D H H1) (b : KpN D H1 H2) : KpN D H H2 := fun c o h n m t => b c o (a c o h n m t) n m t
theorem tabs_kp {D : Dw} {Ts : List (Addr × Str)} {H H' : Hp} (t : Tabs Ts H) (dr : DrOk D H) (k : Kp D H H') : Tabs Ts H' := fun p hp => by
  obtain ⟨ps, h1, h2, h3⟩ := t p hp
  obtain ⟨ls, cs, r, tt, d⟩ := dr
  refine ⟨ps, k _ _ h1 (d.dne h1 fun _ z => nomatch z) (d.lne h1 fun _ z => nomatch z), h2, fun pos cv hc => ?_⟩
  obtain ⟨c, e1, e2⟩ := h3 pos cv hc
  exact ⟨c, e1, k _ _ e2 (d.dne e2 fun _ z => nomatch z) (d.lne e2 fun _ z => nomatch z)⟩
theorem exm_S (T : Txt K mg) : PySem.W.exmOne K (.ref T.BadSkin.C) (.ref T.RoundError.C) = some true := PySem.W.exm_ref T.RoundError.ec.hs T.RoundError.ec.hd T.RoundError.ty T.sSR
def spSkinErr (T : Txt K mg) : Sp := fun vs H Q _ => ∃ (a d : Addr), vs = [.ref a] ∧ H a = some (exh (.ref T.BadSkin.C) (some d) a) ∧ H d = some (.xd [("part", .non)]) ∧ Q (.bl true) H
theorem ok_l_skin_error (T : Txt K mg) : FnOk P w K mg base CX0 1 T.l_skin_error.a T.l_skin_error.fd ["error"] (spSkinErr T) := by
  refine T.l_skin_error.F.ok sc_l_skin_error (fun vs H Q E h => ?_) (fun cdv A outer s H vs Q E hr h => ?_)
  · obtain ⟨a, d, rfl, _⟩ := h
    rfl
  · obtain ⟨a, d, rfl, h1, h2, k⟩ := h
    refine ⟨_, (pss_one (ps_ret (pe_and (pe_callB call_isA (by rfl) T.zisinstance (by decide +kernel) (pa_cons (pv 0) (pa_cons (pe_glob (v := .ref T.BadSkin.C) rfl T.BadSkin.g rfl) pa_nil))) (pe_one (pe_cmpR op_isN (pe_xfH (pv 0)) pe_non (nomark _)))))), ?_⟩
    refine ⟨_, rfl, .inl ⟨a, T.BadSkin.C, some d, _, _, true, rfl, h1, .inr ⟨d, _, rfl, h2⟩, T.BadSkin.ec, .own T.BadSkin.C, T.kSkSk, _, rfl, iteT ?_⟩⟩
    exact ⟨_, rfl, a, T.BadSkin.C, d, _, .non, rfl, h1, h2, T.BadSkin.xf, T.BadSkin.n, rfl, rfl, k⟩
def NoSk (T : Txt K mg) (J : Hp → Prop) (Q : VK) : Prop := ∀ a d H', J H' → H' a = some (exh (.ref T.BadSkin.C) (some d) a) → H' d = some (.xd [("part", .non)]) → Q (.ref a) H'
theorem skErr_of {T : Txt K mg} {J : Hp → Prop} {H1 : Hp} {Q : VK} (js : ∀ H', Same H1 H' → J H') (k : NoSk T J Q) : SkErr T H1 (fun cls d H' => PySem.W.exmOne K cls (.ref T.RoundError.C) = some true ∧ ∀ a, H' a = none → Q (.ref a) (upd H' a (exh cls d a))) := fun d H' s e =>
  ⟨exm_S T, fun a ha => k a d _ (js _ (s.trans (same_new ha))) upd_same (by rw [upd_ne (ne_of_none e ha)]; exact e)⟩
end
end Tt
set_option maxHeartbeats 1000000
namespace Wd
def strip (w : List Int) : List Int := if h : 2 ≤ w.length ∧ w.head? = w.getLast?.map mate then strip (w.drop 1).dropLast else w
termination_by w.length
decreasing_by
  rw [List.length_dropLast, List.length_drop]
  omega
theorem strip_yes {a : Int} {m : List Int} : strip (mate a :: (m ++ [a])) = strip m := by
  rw [strip]
  rw [dif_pos]
  · simp
  · refine ⟨by simp, ?_⟩
    have : (mate a :: (m ++ [a])).getLast? = some a := by simp [List.getLast?_cons]
    rw [this]
    rfl
theorem strip_no {w : List Int} (h : w.head? ≠ w.getLast?.map mate) : strip w = w := by
  rw [strip, dif_neg]
  exact fun z => h z.2
theorem strip_short {w : List Int} (h : w.length < 2) : strip w = w := by
  rw [strip, dif_neg]
  exact fun z => by omega
def core (w : List Int) : List Int := strip (freed w)
def Turn (a b : List Int) : Prop := ∃ u v, a = u ++ v ∧ b = v ++ u
theorem Turn.refl (a : List Int) : Turn a a := ⟨[], a, rfl, by simp⟩
theorem Turn.symm {a b : List Int} (h : Turn a b) : Turn b a := by
  obtain ⟨u, v, h1, h2⟩ := h
  exact ⟨v, u, h2, h1⟩
theorem app_split {u v p q : List Int} (h : u ++ v = p ++ q) : (∃ m, p = u ++ m ∧ v = m ++ q) ∨ ∃ m, u = p ++ m ∧ q = m ++ v := by
  rcases List.append_eq_append_iff.mp h with ⟨m, h1, h2⟩ | ⟨m, h1, h2⟩
  · exact .inl ⟨m, h1, h2⟩
  · exact .inr ⟨m, h1, h2⟩
theorem Turn.trans {a b c : List Int} (h : Turn a b) (k : Turn b c) : Turn a c := by
  obtain ⟨u, v, rfl, rfl⟩ := h
  obtain ⟨p, q, h1, rfl⟩ := k
  rcases app_split h1 with ⟨m, rfl, rfl⟩ | ⟨m, rfl, rfl⟩
  · exact ⟨m, q ++ v, by simp, by simp⟩
  · exact ⟨u ++ p, m, by simp, by simp⟩
theorem freed_head {a : Int} {r : List Int} (h : Rd r) : freed (a :: r) = if r.head? = some (mate a) then r.drop 1 else a :: r := by
  split
  · rename_i hh
    cases r with
    | nil => simp at hh
    | cons b r' =>
      have hb : b = mate a := by simpa using hh
      subst hb
      have h1 := freed_cut [] r' (mate a)
      rw [mate_mate] at h1
      simp only [List.nil_append] at h1
      rw [h1]
      simp only [List.drop_succ_cons, List.drop_zero]
      refine freed_of_rd r' fun i x y hx hy => h (i + 1) x y ?_ ?_
      · simpa using hx
      · simpa using hy
  · rename_i hh
    refine freed_of_rd _ fun i x y hx hy => ?_
    cases i with
    | zero =>
      have ex : a = x := by simpa using hx
      subst ex
      cases r with
      | nil => simp at hy
      | cons b r' =>
        have ey : b = y := by simpa using hy
        subst ey
        intro z
        exact hh (by simp [z])
    | succ i => exact h i x y (by simpa using hx) (by simpa using hy)
theorem last_snoc {r : List Int} {b : Int} (h : r.getLast? = some b) : r.dropLast ++ [b] = r := snoc_of_last h
theorem rd_sub {u m v : List Int} (h : Rd (u ++ m ++ v)) : Rd m := fun i x y hx hy => by
  refine h (u.length + i) x y ?_ ?_
  · rw [List.append_assoc, List.getElem?_append_right (by omega)]
    have e : u.length + i - u.length = i := by omega
    rw [e, List.getElem?_append_left (List.getElem?_eq_some_iff.mp hx).1]
    exact hx
  · rw [List.append_assoc, List.getElem?_append_right (by omega)]
    have e : u.length + i + 1 - u.length = i + 1 := by omega
    rw [e, List.getElem?_append_left (List.getElem?_eq_some_iff.mp hy).1]
    exact hy
theorem rd_two {u v : List Int} {x y : Int} (h : Rd (u ++ [x, y] ++ v)) : y ≠ mate x := rd_sub h 0 x y rfl rfl
theorem core_step (a : Int) (w : List Int) : Turn (core (a :: w)) (core (w ++ [a])) := by
  have e1 : freed (a :: w) = freed (a :: freed w) := by
    have h := freed_app [a] w
    have h2 := freed_app [a] (freed w)
    rw [freed_freed] at h2
    exact h.trans h2.symm
  have hr : Rd (freed w) := rd_freed w
  unfold core
  rw [freed_snoc, e1, freed_head hr]
  generalize freed w = r at hr
  unfold push
  by_cases hd : r.head? = some (mate a) <;> by_cases tl : r.getLast? = some (mate a)
  · rw [if_pos hd, if_pos tl]
    cases r with
    | nil => exact Turn.refl _
    | cons b r1 =>
      have hb : b = mate a := by simpa using hd
      subst hb
      rw [List.drop_succ_cons, List.drop_zero]
      by_cases h1 : r1 = []
      · subst h1
        exact Turn.refl _
      · have t1 : r1.getLast? = some (mate a) := by
          rw [List.getLast?_cons] at tl
          cases h2 : r1.getLast? with
          | none => exact absurd (List.getLast?_eq_none_iff.mp h2) h1
          | some z =>
            rw [h2] at tl
            exact tl
        have e := last_snoc t1
        generalize r1.dropLast = m at e
        subst e
        have e2 : (mate a :: (m ++ [mate a])).dropLast = mate a :: m := by
          rw [← List.cons_append, List.dropLast_concat]
        rw [e2]
        by_cases h2 : m = []
        · subst h2
          exact Turn.refl _
        · have n1 : (m ++ [mate a]).head? ≠ (m ++ [mate a]).getLast?.map mate := by
            rw [List.getLast?_append]
            cases m with
            | nil => exact absurd rfl h2
            | cons x m' =>
              have := rd_two (u := []) (v := m' ++ [mate a]) (x := mate a) (y := x) (by simpa using hr)
              simp [mate_mate] at this ⊢
              exact this
          have n2 : (mate a :: m).head? ≠ (mate a :: m).getLast?.map mate := by
            cases h3 : m.getLast? with
            | none => exact absurd (List.getLast?_eq_none_iff.mp h3) h2
            | some z =>
              rw [List.getLast?_cons, h3]
              have e3 := last_snoc h3
              have := rd_two (u := mate a :: m.dropLast) (v := []) (x := z) (y := mate a) (by
                have e4 : mate a :: m.dropLast ++ [z, mate a] ++ [] = mate a :: (m ++ [mate a]) := by
                  rw [← e3]
                  simp
                rw [e4]
                exact hr)
              simp only [List.head?_cons, Option.getD_some, Option.map_some]
              exact fun z' => this (Option.some.inj z')
          rw [strip_no n1, strip_no n2]
          exact ⟨m, [mate a], rfl, rfl⟩
  · rw [if_pos hd, if_neg tl]
    cases r with
    | nil => simp at hd
    | cons b r1 =>
      have hb : b = mate a := by simpa using hd
      subst hb
      rw [List.drop_succ_cons, List.drop_zero, List.cons_append, strip_yes]
      exact Turn.refl _
  · rw [if_neg hd, if_pos tl]
    have e := last_snoc tl
    generalize r.dropLast = m at e
    subst e
    have h := strip_yes (a := mate a) (m := m)
    rw [mate_mate] at h
    rw [h]
    exact Turn.refl _
  · rw [if_neg hd, if_neg tl]
    cases r with
    | nil => exact Turn.refl _
    | cons b r1 =>
      have n1 : (a :: b :: r1).head? ≠ (a :: b :: r1).getLast?.map mate := by
        rw [List.getLast?_cons]
        cases h3 : (b :: r1).getLast? with
        | none => exact absurd (List.getLast?_eq_none_iff.mp h3) (by simp)
        | some z =>
          rw [h3] at tl
          simp only [List.head?_cons, Option.getD_some, Option.map_some]
          exact fun q => tl (by rw [Option.some.inj q, mate_mate])
      have n2 : (b :: r1 ++ [a]).head? ≠ (b :: r1 ++ [a]).getLast?.map mate := by
        rw [List.getLast?_append]
        simp at hd ⊢
        exact hd
      rw [strip_no n1, strip_no n2]
      exact ⟨[a], b :: r1, rfl, rfl⟩
theorem core_turn : ∀ u w : List Int, Turn (core (u ++ w)) (core (w ++ u))
  | [], w => by
    rw [List.append_nil]
    exact Turn.refl _
  | a :: u, w => by
    have h1 := core_step a (u ++ w)
    have h2 := core_turn u (w ++ [a])
    have e1 : (u ++ w) ++ [a] = u ++ (w ++ [a]) := by simp
    have e2 : (w ++ [a]) ++ u = w ++ (a :: u) := by simp
    rw [e1] at h1
    rw [e2] at h2
    exact h1.trans h2
theorem undo_undo (u : List Int) : undo (undo u) = u := by
  unfold undo
  rw [← List.map_reverse, List.reverse_reverse, List.map_map]
  have : mate ∘ mate = id := by
    funext x
    exact mate_mate x
  rw [this, List.map_id]
theorem core_freed {a b : List Int} (h : freed a = freed b) : core a = core b := by
  unfold core
  rw [h]
theorem core_conj (u w : List Int) : Turn (core (u ++ w ++ undo u)) (core w) := by
  have h := core_turn u (w ++ undo u)
  rw [← List.append_assoc] at h
  refine h.trans ?_
  have e : freed (w ++ undo u ++ u) = freed w := by
    rw [List.append_assoc, freed_app]
    have h2 := freed_undo (undo u)
    rw [undo_undo] at h2
    rw [h2, List.append_nil, freed_freed]
  rw [core_freed e]
  exact Turn.refl _
theorem core_pair (u v : List Int) (b : Int) : core (u ++ b :: mate b :: v) = core (u ++ v) := by
  refine core_freed ?_
  have h := freed_cut u v (mate b)
  rw [mate_mate] at h
  exact h
def mid (w : List Int) (c : Nat) : List Int := (w.drop c).take (w.length - 2 * c)
theorem mid_zero (w : List Int) : mid w 0 = w := by
  unfold mid
  rw [List.drop_zero, Nat.mul_zero, Nat.sub_zero, List.take_length]
theorem mid_step {w : List Int} {c : Nat} {a b : Int} (h : 2 * c + 2 ≤ w.length) (ha : w[c]? = some a) (hb : w[w.length - 1 - c]? = some b) : mid w c = a :: (mid w (c + 1) ++ [b]) := by
  unfold mid
  have e1 : w.drop c = a :: w.drop (c + 1) := by
    have hc : c < w.length := by omega
    rw [List.drop_eq_getElem_cons hc]
    rw [List.getElem?_eq_getElem hc] at ha
    rw [Option.some.inj ha]
  have e2 : w.length - 2 * c = (w.length - 2 * (c + 1) + 1) + 1 := by omega
  rw [e1, e2, List.take_succ_cons, List.take_add_one]
  have e3 : (w.drop (c + 1))[w.length - 2 * (c + 1)]? = some b := by
    rw [List.getElem?_drop]
    have : c + 1 + (w.length - 2 * (c + 1)) = w.length - 1 - c := by omega
    rw [this]
    exact hb
  rw [e3]
  rfl
theorem mid_yes {w : List Int} {c : Nat} {a b : Int} (h : 2 * c + 2 ≤ w.length) (ha : w[c]? = some a) (hb : w[w.length - 1 - c]? = some b) (e : a = mate b) : strip (mid w c) = strip (mid w (c + 1)) := by
  rw [mid_step h ha hb, e, strip_yes]
theorem mid_no {w : List Int} {c : Nat} {a b : Int} (h : 2 * c + 2 ≤ w.length) (ha : w[c]? = some a) (hb : w[w.length - 1 - c]? = some b) (e : a ≠ mate b) : strip (mid w c) = mid w c := by
  refine strip_no ?_
  rw [mid_step h ha hb]
  have : (a :: (mid w (c + 1) ++ [b])).getLast? = some b := by simp [List.getLast?_cons]
  rw [this]
  simpa using e
theorem mid_short {w : List Int} {c : Nat} (h : w.length < 2 * c + 2) : strip (mid w c) = mid w c := by
  refine strip_short ?_
  unfold mid
  rw [List.length_take, List.length_drop]
  omega
theorem mid_mem {w : List Int} {c : Nat} {x : Int} (h : x ∈ mid w c) : x ∈ w := List.mem_of_mem_drop (List.mem_of_mem_take h)
theorem mid_len (w : List Int) (c : Nat) : (mid w c).length ≤ w.length := by
  unfold mid
  rw [List.length_take, List.length_drop]
  omega
end Wd
set_option maxRecDepth 100000
set_option maxHeartbeats 4000000
namespace Tt
open PySem L2
section
variable {P : Program} {w : World} {K : PySem.W.Frag} {mg : Str → Option Value} {base : Heap}
def turnAt (ns : List Int) (i : Nat) : List Int := ns.drop i ++ ns.take i
def turns (ns : List Int) : List (List Int) := (List.range ns.length).map (turnAt ns)
def minR (r0 : List Int) (rs : List (List Int)) : List Int := rs.foldl (fun a y => if PySem.W.dataLt (rowD y) (rowD a) then y else a) r0
theorem minR_D : ∀ (rs : List (List Int)) (r0 : List Int), PySem.W.minD (rowD r0) (rs.map rowD) = rowD (minR r0 rs)
  | [], _ => rfl
  | y :: rs, r0 => by
    show PySem.W.minD (if PySem.W.dataLt (rowD y) (rowD r0) then rowD y else rowD r0) (rs.map rowD) = rowD (minR (if PySem.W.dataLt (rowD y) (rowD r0) then y else r0) rs)
    by_cases h : PySem.W.dataLt (rowD y) (rowD r0) = true
    · rw [if_pos h, if_pos h]
      exact minR_D rs y
    · rw [if_neg h, if_neg h]
      exact minR_D rs r0
def leastT (ns : List Int) : List Int := match turns ns with
  | [] => []
  | r0 :: rs => minR r0 rs
theorem turns_len (ns : List Int) : (turns ns).length = ns.length := by unfold turns; rw [List.length_map, List.length_range]
theorem turns_get {ns : List Int} {i : Nat} (h : i < ns.length) : (turns ns)[i]? = some (turnAt ns i) := by
  unfold turns
  rw [List.getElem?_map, List.getElem?_range h]
  rfl
theorem pair_snoc {α β : Type} {F : α → β → Prop} : ∀ {l : List α} {k : List β} {a : α} {b : β}, Paired F l k → F a b → Paired F (l ++ [a]) (k ++ [b])
  | _, _, _, _, .nil, r => .cons r .nil
  | _, _, _, _, .cons r t, q => .cons r (pair_snoc t q)
theorem pair_mono {α β : Type} {F G : α → β → Prop} (f : ∀ a b, F a b → G a b) : ∀ {l : List α} {k : List β}, Paired F l k → Paired G l k
  | _, _, .nil => .nil
  | _, _, .cons r t => .cons (f _ _ r) (pair_mono f t)
theorem sqT_put {H : Hp} {p l : Addr} {xs ys : List V} {o : HO} (h : SqT K H p xs) (e : H l = some (.lst ys)) : SqT K (upd H l o) p xs := by
  rcases h with (h | ⟨ob, h⟩) | h
  · exact .inl (.inl (by rw [upd_ne (ne_of h e (fun z => nomatch z))]; exact h))
  · exact .inl (.inr ⟨ob, by rw [upd_ne (ne_of h e (fun z => nomatch z))]; exact h⟩)
  · exact .inr h
def spLeast (K : PySem.W.Frag) : Sp := fun vs H Q _ => ∃ (p : Addr) (ns : List Int), vs = [.ref p] ∧ SqT K H p (ns.map V.int) ∧ ns ≠ [] ∧ ns.length ≤ 400 ∧
  ∀ q H', Same H H' → SqT K H' q ((leastT ns).map V.int) → Q (.ref q) H'
end
end Tt
set_option maxRecDepth 100000
set_option maxHeartbeats 4000000
namespace Tt
open PySem L2
theorem row_lt (a b : List Int) : PySem.W.dataLt (rowD a) (rowD b) = decide (a < b) := by
  unfold rowD
  rw [PySem.W.dataLt_tuple]
  exact PySem.W.dataLt_ints a b
theorem minR_mem : ∀ (rs : List (List Int)) (r0 : List Int), minR r0 rs ∈ r0 :: rs
  | [], _ => List.mem_singleton.mpr rfl
  | y :: rs, r0 => by
    have h := minR_mem rs (if PySem.W.dataLt (rowD y) (rowD r0) then y else r0)
    show minR (if PySem.W.dataLt (rowD y) (rowD r0) then y else r0) rs ∈ _
    rcases List.mem_cons.mp h with h | h
    · rw [h]
      split
      · exact List.mem_cons_of_mem _ List.mem_cons_self
      · exact List.mem_cons_self
    · exact List.mem_cons_of_mem _ (List.mem_cons_of_mem _ h)
theorem minR_le : ∀ (rs : List (List Int)) (r0 y : List Int), y ∈ r0 :: rs → ¬ y < minR r0 rs
  | [], r0, y, h => by
    rw [List.mem_singleton.mp h]
    exact List.lt_irrefl _
  | z :: rs, r0, y, h => by
    show ¬ y < minR (if PySem.W.dataLt (rowD z) (rowD r0) then z else r0) rs
    have ih := minR_le rs (if PySem.W.dataLt (rowD z) (rowD r0) then z else r0)
    rw [row_lt] at ih ⊢
    by_cases c : z < r0
    · simp only [c, decide_true, if_true] at ih ⊢
      rcases List.mem_cons.mp h with rfl | h
      · exact fun q => ih z List.mem_cons_self (List.lt_trans c q)
      · rcases List.mem_cons.mp h with rfl | h
        · exact ih _ List.mem_cons_self
        · exact ih _ (List.mem_cons_of_mem _ h)
    · simp only [c, decide_false] at ih ⊢
      rcases List.mem_cons.mp h with rfl | h
      · exact ih _ List.mem_cons_self
      · rcases List.mem_cons.mp h with rfl | h
        · intro q
          have h1 := ih r0 List.mem_cons_self
          exact h1 (by
            rcases Classical.em (r0 < y) with k | k
            · exact List.lt_trans k q
            · have : r0 = y := List.le_antisymm (as := r0) (bs := y) (by simpa using c) (by simpa using k)
              subst this
              exact q)
        · exact ih _ (List.mem_cons_of_mem _ h)
theorem turnAt_turn {ns : List Int} (i : Nat) : Wd.Turn ns (turnAt ns i) := ⟨ns.take i, ns.drop i, (List.take_append_drop i ns).symm, rfl⟩
theorem mem_turns {ns t : List Int} (hne : ns ≠ []) : t ∈ turns ns ↔ Wd.Turn ns t := by
  constructor
  · intro h
    unfold turns at h
    obtain ⟨i, _, rfl⟩ := List.mem_map.mp h
    exact turnAt_turn i
  · rintro ⟨u, v, rfl, rfl⟩
    unfold turns
    by_cases hv : v = []
    · subst hv
      refine List.mem_map.mpr ⟨0, List.mem_range.mpr ?_, ?_⟩
      · exact List.length_pos_iff.mpr hne
      · unfold turnAt
        simp
    · refine List.mem_map.mpr ⟨u.length, List.mem_range.mpr ?_, ?_⟩
      · rw [List.length_append]
        have := List.length_pos_iff.mpr hv
        omega
      · unfold turnAt
        simp
theorem leastT_facts {ns : List Int} (hne : ns ≠ []) : leastT ns ∈ turns ns ∧ ∀ t ∈ turns ns, ¬ t < leastT ns := by
  unfold leastT
  cases ht : turns ns with
  | nil =>
    have := turns_len ns
    rw [ht] at this
    exact absurd (List.length_eq_zero_iff.mp this.symm) hne
  | cons r0 rs => exact ⟨minR_mem rs r0, fun t h => minR_le rs r0 t h⟩
theorem leastT_turn {ns : List Int} (hne : ns ≠ []) : Wd.Turn ns (leastT ns) := (mem_turns hne).mp (leastT_facts hne).1
theorem turn_nil {a b : List Int} (h : Wd.Turn a b) : a = [] ↔ b = [] := by
  obtain ⟨u, v, rfl, rfl⟩ := h
  simp [and_comm]
theorem leastT_eq {a b : List Int} (h : Wd.Turn a b) : leastT a = leastT b := by
  by_cases ha : a = []
  · have hb := (turn_nil h).mp ha
    rw [ha, hb]
  · have hb : b ≠ [] := fun z => ha ((turn_nil h).mpr z)
    obtain ⟨a1, a2⟩ := leastT_facts ha
    obtain ⟨b1, b2⟩ := leastT_facts hb
    have m1 : leastT b ∈ turns a := (mem_turns ha).mpr (h.trans ((mem_turns hb).mp b1))
    have m2 : leastT a ∈ turns b := (mem_turns hb).mpr (h.symm.trans ((mem_turns ha).mp a1))
    have l1 := a2 _ m1
    have l2 := b2 _ m2
    exact List.le_antisymm (as := leastT a) (bs := leastT b) (by simpa using l1) (by simpa using l2)
theorem turn_of_leastT {a b : List Int} (h : leastT a = leastT b) : Wd.Turn a b := by
  by_cases ha : a = [] <;> by_cases hb : b = []
  · rw [ha, hb]
    exact Wd.Turn.refl _
  · have h2 := (turn_nil (leastT_turn hb))
    rw [← h, ha] at h2
    exact absurd (h2.mpr rfl) hb
  · have h2 := (turn_nil (leastT_turn ha))
    rw [h, hb] at h2
    exact absurd (h2.mpr rfl) ha
  · have h1 := leastT_turn ha
    rw [h] at h1
    exact h1.trans (leastT_turn hb).symm
def closedT (ns : List Int) : List Int := leastT (Wd.core ns)
theorem leastT_nil : leastT [] = [] := rfl
theorem closedT_freed {a b : List Int} (h : Wd.Turn (Wd.core a) (Wd.core b)) : closedT a = closedT b := leastT_eq h
end Tt
set_option maxRecDepth 100000
set_option maxHeartbeats 4000000
namespace Tt
open PySem L2
theorem turnAt_lenL (ns : List Int) (i : Nat) : (turnAt ns i).length = ns.length := by
  unfold turnAt
  rw [List.length_append, List.length_drop, List.length_take]
  omega
theorem turnAt_mem {ns : List Int} {i : Nat} (h : i < ns.length) : turnAt ns i ∈ turns ns := List.mem_map.mpr ⟨i, List.mem_range.mpr h, rfl⟩
theorem turnAt_add {ns : List Int} {i t : Nat} (h : i + t ≤ ns.length) : turnAt (turnAt ns i) t = turnAt ns (i + t) := by
  unfold turnAt
  have e1 : (ns.drop i ++ ns.take i).drop t = ns.drop (i + t) ++ ns.take i := by
    rw [List.drop_append_of_le_length (by rw [List.length_drop]; omega), List.drop_drop]
  have e2 : (ns.drop i ++ ns.take i).take t = (ns.drop i).take t := List.take_append_of_le_length (by rw [List.length_drop]; omega)
  rw [e1, e2, List.append_assoc, ← List.take_add]
theorem turnAt_wrap {ns : List Int} {i t : Nat} (hi : i ≤ ns.length) (ht : t ≤ ns.length) (h : ns.length ≤ i + t) : turnAt (turnAt ns i) t = turnAt ns (i + t - ns.length) := by
  unfold turnAt
  have l1 : (ns.drop i).length = ns.length - i := List.length_drop
  have e1 : (ns.drop i ++ ns.take i).drop t = (ns.take i).drop (i + t - ns.length) := by
    rw [List.drop_append, List.drop_eq_nil_of_le (by omega), List.nil_append, l1]
    congr 1
    omega
  have e2 : (ns.drop i ++ ns.take i).take t = ns.drop i ++ (ns.take i).take (i + t - ns.length) := by
    rw [List.take_append, List.take_of_length_le (by omega), l1]
    congr 2
    omega
  have e3 : (ns.take i).take (i + t - ns.length) = ns.take (i + t - ns.length) := by
    rw [List.take_take]
    congr 1
    omega
  have e4 : (ns.take i).drop (i + t - ns.length) ++ ns.drop i = ns.drop (i + t - ns.length) := by
    have h2 : ns.drop (i + t - ns.length) = (ns.take i ++ ns.drop i).drop (i + t - ns.length) := by rw [List.take_append_drop]
    rw [h2, List.drop_append_of_le_length (by rw [List.length_take]; omega)]
  rw [e1, e2, e3, ← List.append_assoc, e4]
theorem turnAt_turn_mem {ns : List Int} {i t : Nat} (hi : i < ns.length) (ht : t < ns.length) : turnAt (turnAt ns i) t ∈ turns ns := by
  by_cases h : i + t < ns.length
  · rw [turnAt_add (by omega)]
    exact turnAt_mem h
  · rw [turnAt_wrap (by omega) (by omega) (by omega)]
    exact turnAt_mem (by omega)
theorem turnAt_get {ns : List Int} {i k : Nat} (hi : i < ns.length) (hk : k < ns.length) : (turnAt ns i)[k]? = ns[(i + k) % ns.length]? := by
  unfold turnAt
  by_cases h : i + k < ns.length
  · rw [List.getElem?_append_left (by rw [List.length_drop]; omega), List.getElem?_drop, Nat.mod_eq_of_lt h]
  · rw [List.getElem?_append_right (by rw [List.length_drop]; omega), List.length_drop, List.getElem?_take, if_pos (by omega)]
    have e : (i + k) % ns.length = i + k - ns.length := by
      rw [Nat.mod_eq_sub_mod (by omega), Nat.mod_eq_of_lt (by omega)]
    rw [e]
    congr 1
    omega
theorem lt_ahead {x y : Int} (h : y < x) : ∀ (p a b : List Int), p ++ y :: b < p ++ x :: a
  | [], _, _ => List.cons_lt_cons_iff.mpr (.inl h)
  | c :: p, a, b => List.cons_lt_cons_iff.mpr (.inr ⟨rfl, lt_ahead h p a b⟩)
theorem cut_at {A : List Int} {k : Nat} {x : Int} (h : A[k]? = some x) : A = A.take k ++ x :: A.drop (k + 1) := by
  obtain ⟨hk, e⟩ := List.getElem?_eq_some_iff.mp h
  rw [← e, ← List.drop_eq_getElem_cons hk, List.take_append_drop]
theorem turn_lt {A B : List Int} {k t : Nat} {x y : Int} (ht : t ≤ k) (hp : A.take k = B.take k) (hx : A[k]? = some x) (hy : B[k]? = some y) (h : y < x) : turnAt B t < turnAt A t := by
  have ka := (List.getElem?_eq_some_iff.mp hx).1
  have kb := (List.getElem?_eq_some_iff.mp hy).1
  have eA := cut_at hx
  have eB := cut_at hy
  rw [← hp] at eB
  have lp : (A.take k).length = k := by rw [List.length_take]; omega
  generalize A.take k = p at eA eB lp
  generalize A.drop (k + 1) = a at eA
  generalize B.drop (k + 1) = b at eB
  subst eA
  subst eB
  unfold turnAt
  rw [List.drop_append_of_le_length (by omega), List.drop_append_of_le_length (by omega), List.take_append_of_le_length (by omega), List.take_append_of_le_length (by omega), List.append_assoc, List.append_assoc]
  exact lt_ahead h _ _ _
def NoL (ns : List Int) (p : Nat) : Prop := ∃ t ∈ turns ns, t < turnAt ns p
theorem noL_of {ns : List Int} {i j k t : Nat} {x y : Int} (hi : i + t < ns.length) (hj : j < ns.length) (hk : k < ns.length) (ht : t ≤ k) (hp : (turnAt ns i).take k = (turnAt ns j).take k)
    (hx : (turnAt ns i)[k]? = some x) (hy : (turnAt ns j)[k]? = some y) (h : y < x) : NoL ns (i + t) := by
  refine ⟨_, turnAt_turn_mem hj (t := t) (by omega), ?_⟩
  rw [← turnAt_add (by omega)]
  exact turn_lt ht hp hx hy h
def Beaten (ns : List Int) (i j : Nat) : Prop := i ≠ j ∧ ∀ p, p < ns.length → p < max i j → p ≠ min i j → NoL ns p
theorem Beaten.symm {ns : List Int} {i j : Nat} (h : Beaten ns i j) : Beaten ns j i := ⟨fun e => h.1 e.symm, fun p h1 h2 h3 => h.2 p h1 (by omega) (by omega)⟩
theorem Beaten.step {ns : List Int} {i j k : Nat} (h : Beaten ns i j) (n : ∀ t, t ≤ k → i + t < ns.length → NoL ns (i + t)) : (i + k + 1 ≠ j → Beaten ns (i + k + 1) j) ∧ (i + k + 1 = j → Beaten ns j (j + 1)) := by
  have own : ∀ p, p < ns.length → i ≤ p → p ≤ i + k → NoL ns p := fun p h1 h2 h3 => by
    have := n (p - i) (by omega) (by omega)
    have e : i + (p - i) = p := by omega
    rw [e] at this
    exact this
  have hh := h.1
  refine ⟨fun e => ⟨e, fun p h1 h2 h3 => ?_⟩, fun e => ⟨by omega, fun p h1 h2 h3 => ?_⟩⟩
  · by_cases c : i ≤ p ∧ p ≤ i + k
    · exact own p h1 c.1 c.2
    · exact h.2 p h1 (by omega) (by omega)
  · by_cases c : i ≤ p ∧ p ≤ i + k
    · exact own p h1 c.1 c.2
    · exact h.2 p h1 (by omega) (by omega)
theorem least_far {ns L : List Int} {i j : Nat} (b : Beaten ns i j) (hf : ns.length ≤ max i j) (hL : L ∈ turns ns) (hm : ∀ t ∈ turns ns, ¬ t < L) : turnAt ns (min i j) = L ∧ min i j < ns.length := by
  obtain ⟨p, hp, rfl⟩ := List.mem_map.mp hL
  have hp' := List.mem_range.mp hp
  have e : p = min i j := Classical.byContradiction fun z => by
    obtain ⟨t, h1, h2⟩ := b.2 p hp' (by omega) z
    exact hm t h1 h2
  exact ⟨by rw [e], by omega⟩
theorem least_like {ns L : List Int} {i j : Nat} (b : Beaten ns i j) (hi : i < ns.length) (hj : j < ns.length) (ha : turnAt ns i = turnAt ns j) (hL : L ∈ turns ns) (hm : ∀ t ∈ turns ns, ¬ t < L) : turnAt ns (min i j) = L := by
  have hh := b.1
  have main : ∀ p, p < ns.length → turnAt ns p = L → turnAt ns (min i j) = L := fun p => by
    induction p using Nat.strongRecOn with
    | ind p ih =>
      intro h1 h2
      by_cases c : p < max i j
      · have e : p = min i j := Classical.byContradiction fun z => by
          obtain ⟨t, q1, q2⟩ := b.2 p h1 c z
          rw [h2] at q2
          exact hm t q1 q2
        rw [← e]
        exact h2
      · have e1 : turnAt ns (max i j) = turnAt ns (min i j) := by
          by_cases c2 : i < j
          · rw [Nat.max_eq_right (by omega), Nat.min_eq_left (by omega), ha]
          · rw [Nat.max_eq_left (by omega), Nat.min_eq_right (by omega), ha]
        have e2 := turnAt_add (ns := ns) (i := max i j) (t := p - max i j) (by omega)
        have e3 : max i j + (p - max i j) = p := by omega
        rw [e3, e1, turnAt_add (by omega)] at e2
        exact ih (min i j + (p - max i j)) (by omega) (by omega) (e2.trans h2)
  obtain ⟨p, hp, e⟩ := List.mem_map.mp hL
  exact main p (List.mem_range.mp hp) e
theorem take_more {A B : List Int} {k : Nat} {x : Int} (hp : A.take k = B.take k) (hx : A[k]? = some x) (hy : B[k]? = some x) : A.take (k + 1) = B.take (k + 1) := by
  rw [List.take_add_one, List.take_add_one, hp, hx, hy]
theorem leastT_far {ns : List Int} {i j : Nat} (hne : ns ≠ []) (b : Beaten ns i j) (hf : ns.length ≤ max i j) : turnAt ns (min i j) = leastT ns ∧ min i j < ns.length :=
  least_far b hf (leastT_facts hne).1 (leastT_facts hne).2
theorem leastT_like {ns : List Int} {i j : Nat} (hne : ns ≠ []) (b : Beaten ns i j) (hi : i < ns.length) (hj : j < ns.length) (ha : (turnAt ns i).take ns.length = (turnAt ns j).take ns.length) : turnAt ns (min i j) = leastT ns := by
  rw [List.take_of_length_le (by rw [turnAt_lenL]; exact Nat.le_refl _), List.take_of_length_le (by rw [turnAt_lenL]; exact Nat.le_refl _)] at ha
  exact least_like b hi hj ha (leastT_facts hne).1 (leastT_facts hne).2
theorem turn_letter {ns : List Int} {i k : Nat} (hi : i < ns.length) (hk : k < ns.length) : ∃ x, ns[(i + k) % ns.length]? = some x ∧ (turnAt ns i)[k]? = some x := by
  have h : (i + k) % ns.length < ns.length := Nat.mod_lt _ (by omega)
  refine ⟨_, List.getElem?_eq_getElem h, ?_⟩
  rw [turnAt_get hi hk]
  exact List.getElem?_eq_getElem h
theorem beaten_zero (ns : List Int) : Beaten ns 0 1 := ⟨by omega, fun p _ h2 h3 => absurd h2 (by omega)⟩
end Tt
set_option maxRecDepth 100000
set_option maxHeartbeats 4000000
namespace Tt
open PySem L2
section
variable {P : Program} {w : World} {K : PySem.W.Frag} {mg : Str → Option Value} {base : Heap}
theorem while_by3 {c : TT} {tb : TS} {D : Ends} {σ : L2.St} {H : Hp} (Pv : L2.St → Hp → Prop) (μ : L2.St → Hp → Nat) (h0 : Pv σ H)
    (hs : ∀ σ H, Pv σ H → c σ H fun b H1 => if b = true then ∃ N : L2.St → Hp → Prop, (∀ σ' H', N σ' H' → ∃ m', m' < μ σ H ∧ (m' = μ σ' H' ∧ Pv σ' H')) ∧ tb { D with nx := N, ct := N, bk := D.nx } σ H1 else D.nx σ H1) : tWhile c tb D σ H := by
  refine ⟨fun m σ H => m = μ σ H ∧ Pv σ H, ⟨_, rfl, h0⟩, ?_⟩
  rintro m σ H ⟨rfl, p⟩
  exact hs σ H p
theorem let_one {J C G : Prop} (main : (J → C) → G) (rest : J → C) : G := main rest
def readTo (n : Nat) : L2.St → Hp → Nat := fun σ _ => match σ[2]?, σ[3]?, σ[4]? with
  | some (some (V.int i)), some (some (V.int j)), some (some (V.int k)) => 3 * n - (i.toNat + j.toNat + k.toNat)
  | _, _, _ => 0
theorem ok_least_turn (T : Txt K mg) : FnOk P w K mg base CX0 2 T.least_turn.a T.least_turn.fd ["word"] (spLeast K) := by
  refine T.least_turn.F.ok sc_least_turn (fun vs H Q E h => ?_) (fun cdv A outer s H vs Q E hr h => ?_)
  · obtain ⟨p, ns, rfl, _⟩ := h
    rfl
  · obtain ⟨p, ns, rfl, hp, hne, hl, k⟩ := h
    have nd := sc_least_turn.nd
    refine ⟨_, (pss_cons (ps_set (i := 1) nd rfl (Or.inl rfl) (pe_callB call_len_seq (by rfl) T.zlen (by decide +kernel) (pa_cons (pv 0) pa_nil)))
    (pss_cons (ps_asg (pe_tup (pa_cons pe_int (pa_cons pe_int (pa_cons pe_int pa_nil)))) (pg_tup rfl (pgs_cons (pg_name (i := 2) nd rfl (Or.inl rfl)) (pgs_cons (pg_name (i := 3) nd rfl (Or.inl rfl)) (pgs_cons (pg_name (i := 4) nd rfl (Or.inl rfl)) pgs_nil)))))
    (pss_cons (ps_while PassesOwn.never (PW.pt (pw_and (pt_cmpR op_lt (pv 2) (pv 1) (nomark _)) (pw_and (pt_cmpR op_lt (pv 3) (pv 1) (nomark _)) (pw_and1 (pt_cmpR op_lt (pv 4) (pv 1) (nomark _))))))
      (pss_cons (ps_par (i := 5) (j := 6) rfl nd rfl rfl (by decide) rfl rfl (pa_cons (pe_ix ix_tup (pv 0) (pe_op op_mod (pe_op op_add (pv 2) (pv 4)) (pv 1)) (fun _ _ => rfl)) (pa_cons (pe_ix ix_tup (pv 0) (pe_op op_mod (pe_op op_add (pv 3) (pv 4)) (pv 1)) (fun _ _ => rfl)) pa_nil)) rfl)
      (pss_cons (ps_if (pt_cmpR op_eq (pv 5) (pv 6) (nomark _))
        (pss_cons (ps_aug (i := 4) nd rfl (Or.inl rfl) pe_int ip_add)
        (pss_one ps_continue))
        pss_nil)
      (pss_cons (ps_if (pt_cmpR op_gt (pv 5) (pv 6) (nomark _))
        (pss_one (ps_aug (i := 2) nd rfl (Or.inl rfl) (pe_op op_add (pv 4) pe_int) ip_add))
        (pss_one (ps_aug (i := 3) nd rfl (Or.inl rfl) (pe_op op_add (pv 4) pe_int) ip_add)))
      (pss_cons (ps_if (pt_cmpR op_eq (pv 2) (pv 3) (nomark _))
        (pss_one (ps_aug (i := 3) nd rfl (Or.inl rfl) pe_int ip_add))
        pss_nil)
      (pss_one (ps_set (i := 4) nd rfl (Or.inl rfl) pe_int)))))))
    (pss_cons (ps_set (i := 7) nd rfl (Or.inl rfl) (pe_callB (call_min2 rfl) (by rfl) T.zmin (by decide +kernel) (pa_cons (pv 2) (pa_cons (pv 3) pa_nil))))
    (pss_one (ps_ret (pe_op op_catA (pe_slice sl_tupA (pv 0) (po_some (pv 7)) po_none) (pe_slice sl_tupA (pv 0) po_none (po_some (pv 7)))))))))), ?_⟩
    have lm : (ns.map V.int).length = ns.length := List.length_map ..
    have l0 := List.length_pos_iff.mpr hne
    refine ⟨_, rfl, p, _, rfl, .inr hp, ?_⟩
    rw [lm]
    refine ⟨(by show 3 ≤ sizeLine; decide), fun a3 ha3 => ⟨a3, _, rfl, SqT.of upd_same, rfl, _, _, rfl, _, _, rfl, _, _, rfl, rfl, ?_⟩⟩
    have s0 : Same H (upd H a3 (.tup [.int 0, .int 1, .int 0])) := same_new ha3
    have hp0 := same_seqT s0 hp
    generalize upd H a3 (.tup [.int 0, .int 1, .int 0]) = H0 at s0 hp0
    refine while_by3 (fun σ H' => H' = H0 ∧ ∃ (i j c : Nat) (f g : Option V), σ = [some (.ref p), some (.int (ns.length : Int)), some (.int (i : Int)), some (.int (j : Int)), some (.int (c : Int)), f, g, none] ∧ Beaten ns i j ∧ c ≤ ns.length ∧ (0 < c → i < ns.length ∧ j < ns.length) ∧ (turnAt ns i).take c = (turnAt ns j).take c) (readTo ns.length)
      ⟨rfl, 0, 1, 0, none, none, rfl, beaten_zero ns, Nat.zero_le _, (fun z => absurd z (by omega)), rfl⟩ ?_
    rintro σ H' ⟨rfl, i, j, c, f, g, rfl, bt, hc, hij, ht⟩
    apply let_one (J := turnAt ns (min i j) = leastT ns ∧ min i j < ns.length)
    · intro out
      refine ⟨_, rfl, _, rfl, _, _, rfl, rfl, _, rfl, ite2 (fun c1 => ?_) (fun c1 => ?_)⟩
      · refine ⟨_, rfl, _, rfl, _, _, rfl, rfl, _, rfl, ite2 (fun c2 => ?_) (fun c2 => ?_)⟩
        · refine ⟨_, rfl, _, rfl, _, _, rfl, rfl, _, rfl, ite2 (fun c3 => ?_) (fun c3 => ?_)⟩
          · have g1 : i < ns.length := by simpa using c1
            have g2 : j < ns.length := by simpa using c2
            have g3 : c < ns.length := by simpa using c3
            obtain ⟨x, x1, x2⟩ := turn_letter g1 g3
            obtain ⟨y, y1, y2⟩ := turn_letter g2 g3
            have a1 : atI (ns.map V.int) (((i : Int) + (c : Int)) % (ns.length : Int)) = some (V.int x) := atI_nat (j := (i + c) % ns.length) (ints_get x1)
            have a2 : atI (ns.map V.int) (((j : Int) + (c : Int)) % (ns.length : Int)) = some (V.int y) := atI_nat (j := (j + c) % ns.length) (ints_get y1)
            refine ⟨fun σ' H'' => readTo ns.length σ' H'' < _ ∧ H'' = H' ∧ _, fun σ' H'' h => ⟨_, h.1, rfl, h.2⟩, ?_⟩
            have lt0 : ∀ (i' j' c' : Nat) (f' g' : Option V), i + j + c < i' + j' + c' → readTo ns.length [some (.ref p), some (.int (ns.length : Int)), some (.int (i' : Int)), some (.int (j' : Int)), some (.int (c' : Int)), f', g', none] H' < readTo ns.length [some (.ref p), some (.int (ns.length : Int)), some (.int (i : Int)), some (.int (j : Int)), some (.int (c : Int)), f, g, none] H' := fun i' j' c' f' g' h => by
              show 3 * ns.length - ((i' : Int).toNat + (j' : Int).toNat + (c' : Int).toNat) < 3 * ns.length - ((i : Int).toNat + (j : Int).toNat + (c : Int).toNat)
              omega
            have fin : ∀ (i' j' : Nat), i + j + c < i' + j' → Beaten ns i' j' → ∀ G : Prop, (readTo ns.length [some (.ref p), some (.int (ns.length : Int)), some (.int (i' : Int)), some (.int (j' : Int)), some (.int 0), some (V.int x), some (V.int y), none] H' < readTo ns.length [some (.ref p), some (.int (ns.length : Int)), some (.int (i : Int)), some (.int (j : Int)), some (.int (c : Int)), f, g, none] H' ∧ H' = H' ∧ (∃ (i c2 c : Nat) (f g : Option V), [some (.ref p), some (.int (ns.length : Int)), some (.int (i' : Int)), some (.int (j' : Int)), some (.int 0), some (V.int x), some (V.int y), none] = [some (.ref p), some (.int (ns.length : Int)), some (.int (i : Int)), some (.int (c2 : Int)), some (.int (c : Int)), f, g, none] ∧ Beaten ns i c2 ∧ c ≤ ns.length ∧ (0 < c → i < ns.length ∧ c2 < ns.length) ∧ (turnAt ns i).take c = (turnAt ns c2).take c) → G) → G := fun i' j' h b G k => k ⟨lt0 i' j' 0 _ _ (by omega), rfl, i', j', 0, _, _, rfl, b, Nat.zero_le _, (fun z => absurd z (by omega)), rfl⟩
            refine ⟨_, rfl, ?_⟩
            refine ⟨_, rfl, _, rfl, _, _, rfl, rfl, _, rfl, _, _, rfl, rfl, by omega, p, _, _, _, rfl, rfl, hp0, a1, ?_⟩
            refine ⟨_, rfl, _, rfl, _, rfl, _, _, rfl, rfl, _, rfl, _, _, rfl, rfl, by omega, p, _, _, _, rfl, rfl, hp0, a2, _, _, rfl, ?_⟩
            refine ⟨_, rfl, _, rfl, rfl, _, rfl, ite2 (fun c4 => ?_) (fun c4 => ?_)⟩
            · have g4 : x = y := by simpa using c4
              subst g4
              refine ⟨_, rfl, _, _, rfl, rfl, lt0 i j (c + 1) _ _ (by omega), rfl, i, j, c + 1, _, _, rfl, bt, g3, fun _ => ⟨g1, g2⟩, take_more ht x2 y2⟩
            · have g4 : ¬ x = y := by simpa using c4
              refine ⟨_, rfl, _, rfl, _, _, rfl, rfl, _, rfl, ite2 (fun c5 => ?_) (fun c5 => ?_)⟩
              · have g5 : y < x := by simpa using c5
                have bs := bt.step (k := c) fun t t1 t2 => noL_of t2 g2 g3 t1 ht x2 y2 g5
                refine ⟨_, rfl, _, rfl, _, _, rfl, rfl, _, _, rfl, rfl, ?_⟩
                refine ⟨_, rfl, _, rfl, rfl, _, rfl, ite2 (fun c6 => ?_) (fun c6 => ?_)⟩
                · have g6 : i + c + 1 = j := by
                    have : (i : Int) + ((c : Int) + 1) = (j : Int) := by simpa using c6
                    omega
                  have b2 := bs.2 g6
                  refine ⟨_, rfl, _, _, rfl, rfl, ?_⟩
                  refine fin (i + (c + 1)) (j + 1) (by omega) ?_ _ fun z => z
                  have e : i + (c + 1) = j := by omega
                  rw [e]
                  exact b2
                · have g6 : i + c + 1 ≠ j := fun z => c6 (by
                    have : (i : Int) + ((c : Int) + 1) = (j : Int) := by omega
                    simp [this])
                  exact fin (i + (c + 1)) j (by omega) (bs.1 g6) _ fun z => z
              · have g5 : x < y := by
                  have : ¬ y < x := by simpa using c5
                  omega
                have bs := bt.symm.step (k := c) fun t t1 t2 => noL_of t2 g1 g3 t1 ht.symm y2 x2 g5
                refine ⟨_, rfl, _, rfl, _, _, rfl, rfl, _, _, rfl, rfl, ?_⟩
                refine ⟨_, rfl, _, rfl, rfl, _, rfl, ite2 (fun c6 => ?_) (fun c6 => ?_)⟩
                · have g6 : j + c + 1 = i := by
                    have : (i : Int) = (j : Int) + ((c : Int) + 1) := by simpa using c6
                    omega
                  have b2 := bs.2 g6
                  refine ⟨_, rfl, _, _, rfl, rfl, ?_⟩
                  refine fin i (j + (c + 1) + 1) (by omega) ?_ _ fun z => z
                  have e : j + (c + 1) = i := by omega
                  rw [e]
                  exact b2
                · have g6 : j + c + 1 ≠ i := fun z => c6 (by
                    have : (i : Int) = (j : Int) + ((c : Int) + 1) := by omega
                    simp [this])
                  exact fin i (j + (c + 1)) (by omega) (bs.1 g6).symm _ fun z => z
          · have g1 : i < ns.length := by simpa using c1
            have g2 : j < ns.length := by simpa using c2
            have g3 : c = ns.length := by
              have : ¬ c < ns.length := by simpa using c3
              omega
            subst g3
            exact out ⟨leastT_like hne bt g1 g2 ht, by omega⟩
        · have g2 : ns.length ≤ j := by simpa using c2
          exact iteF (out (leastT_far hne bt (by omega)))
      · have g1 : ns.length ≤ i := by simpa using c1
        exact iteF (out (leastT_far hne bt (by omega)))
    rintro ⟨e1, e2⟩
    refine ⟨_, rfl, _, rfl, _, _, rfl, ?_⟩
    have em : (if (j : Int) < (i : Int) then (j : Int) else (i : Int)) = ((min i j : Nat) : Int) := by
      split <;> omega
    rw [em]
    have hp3 := hp0
    generalize min i j = m at e1 e2
    refine ⟨_, rfl, _, rfl, (m : Int), rfl, noPart_i ?_⟩
    refine slT_genD (K := K) hp0 fun b1 H2 s3 hb1 => ?_
    refine ⟨_, rfl, noPart_i ⟨_, rfl, (m : Int), rfl, ?_⟩⟩
    refine slT_gen (K := K) (same_seqT s3 hp0) fun b2 H3 s4 hb2 => ?_
    refine catA_gen (K := K) (same_seqT s4 hb1) hb2 ?_ fun q H4 s5 hq => ?_
    · rw [List.length_drop, List.length_take, lm]
      exact Nat.le_of_lt (small1000 (by omega))
    refine k q H4 (((s0.trans s3).trans s4).trans s5) ?_
    rw [← e1]
    have e : (turnAt ns m).map V.int = (ns.map V.int).drop m ++ (ns.map V.int).take m := by
      unfold turnAt
      rw [List.map_append, List.map_drop, List.map_take]
    rw [e]
    exact hq
end
end Tt
set_option maxRecDepth 100000
set_option maxHeartbeats 1000000
namespace Cy
open Wd
def Ch (f : Int → Int) : Int → List Int → Int → Prop
  | x, [], y => f x = y
  | x, a :: l, y => f x = a ∧ Ch f a l y
theorem ch_app {f : Int → Int} : ∀ {l : List Int} {x a y : Int} {m : List Int}, Ch f x (l ++ a :: m) y ↔ Ch f x l a ∧ Ch f a m y
  | [], x, a, y, m => Iff.rfl
  | b :: l, x, a, y, m => by
    show (f x = b ∧ Ch f b (l ++ a :: m) y) ↔ (f x = b ∧ Ch f b l a) ∧ Ch f a m y
    rw [ch_app (l := l), and_assoc]
theorem ch_snoc {f : Int → Int} {l : List Int} {x a y : Int} (h : Ch f x l a) (e : f a = y) : Ch f x (l ++ [a]) y := ch_app.mpr ⟨h, e⟩
theorem ch_uniq {f : Int → Int} {x : Int} : ∀ {l m : List Int} {a : Int}, Ch f a l x → Ch f a m x → x ∉ l → x ∉ m → l = m
  | [], [], _, _, _, _, _ => rfl
  | [], b :: m, a, h, k, _, n => by
    have h1 : f a = x := h
    have k1 : f a = b := k.1
    exact absurd (show x ∈ b :: m by rw [← k1, h1]; exact List.mem_cons_self) n
  | b :: l, [], a, h, k, n, _ => by
    have h1 : f a = b := h.1
    have k1 : f a = x := k
    exact absurd (show x ∈ b :: l by rw [← h1, k1]; exact List.mem_cons_self) n
  | b :: l, c :: m, a, h, k, n1, n2 => by
    have h1 : f a = b := h.1
    have k1 : f a = c := k.1
    have e : b = c := h1.symm.trans k1
    subst e
    rw [ch_uniq h.2 k.2 (fun z => n1 (List.mem_cons_of_mem _ z)) (fun z => n2 (List.mem_cons_of_mem _ z))]
theorem ch_move {f g : Int → Int} {q : Int} : ∀ {l : List Int} {p p' : Int}, Ch f p l q → g p' = f p → (∀ z ∈ l, g z = f z) → Ch g p' l q
  | [], _, _, h, e, _ => e.trans h
  | a :: l, _, _, h, e, k => ⟨e.trans h.1, ch_move h.2 (k a List.mem_cons_self) fun z hz => k z (List.mem_cons_of_mem _ hz)⟩
def Cyc (f : Int → Int) (c : List Int) : Prop := ∃ x l, c = x :: l ∧ Ch f x l x
theorem cyc_turn {f : Int → Int} {c : List Int} {y : Int} (h : Cyc f c) (hy : y ∈ c) : ∃ m, Turn c (y :: m) ∧ Ch f y m y := by
  obtain ⟨x, l, rfl, h⟩ := h
  rcases List.mem_cons.mp hy with rfl | hy
  · exact ⟨l, Turn.refl _, h⟩
  · obtain ⟨p, q, rfl⟩ := List.append_of_mem hy
    obtain ⟨h1, h2⟩ := ch_app.mp h
    refine ⟨q ++ x :: p, ⟨x :: p, y :: q, rfl, rfl⟩, ch_app.mpr ⟨h2, h1⟩⟩
theorem turn_perm {a b : List Int} (h : Turn a b) : a.Perm b := by
  obtain ⟨u, v, rfl, rfl⟩ := h
  exact List.perm_append_comm
theorem cyc_of_turn {f : Int → Int} {c d : List Int} (h : Cyc f c) (t : Turn c d) : Cyc f d := by
  obtain ⟨x, l, rfl, h⟩ := h
  obtain ⟨u, v, e, rfl⟩ := t
  cases u with
  | nil =>
    rw [List.append_nil]
    exact ⟨x, l, e.symm, h⟩
  | cons a u =>
    cases v with
    | nil =>
      rw [List.append_nil] at e
      exact ⟨x, l, e.symm, h⟩
    | cons b v =>
      have e' : x :: l = a :: (u ++ b :: v) := e
      cases e'
      obtain ⟨h1, h2⟩ := ch_app.mp h
      exact ⟨b, v ++ x :: u, rfl, ch_app.mpr ⟨h2, h1⟩⟩
theorem cyc_same {f : Int → Int} {c d : List Int} {y : Int} (hc : Cyc f c) (hd : Cyc f d) (nc : c.Nodup) (n2 : d.Nodup) (h1 : y ∈ c) (h2 : y ∈ d) : Turn c d := by
  obtain ⟨m, t1, e1⟩ := cyc_turn hc h1
  obtain ⟨k, t2, e2⟩ := cyc_turn hd h2
  have n1 := (turn_perm t1).nodup_iff.mp nc
  have n3 := (turn_perm t2).nodup_iff.mp n2
  rw [ch_uniq e1 e2 (List.nodup_cons.mp n1).1 (List.nodup_cons.mp n3).1] at t1
  exact t1.trans t2.symm
structure Cycles (D : List Int) (f : Int → Int) (C : List (List Int)) : Prop where
  all : C.flatten.Perm D
  cyc : ∀ c ∈ C, Cyc f c
theorem Cycles.perm {D : List Int} {f : Int → Int} {C R : List (List Int)} (h : Cycles D f C) (p : C.Perm R) : Cycles D f R :=
  ⟨p.symm.flatten.trans h.all, fun c hc => h.cyc c (p.mem_iff.mpr hc)⟩
theorem Cycles.turn {D : List Int} {f : Int → Int} {c d : List Int} {C : List (List Int)} (h : Cycles D f (c :: C)) (t : Turn c d) : Cycles D f (d :: C) := by
  refine ⟨?_, fun e he => ?_⟩
  · have := h.all
    rw [List.flatten_cons] at this ⊢
    exact ((turn_perm t).symm.append_right _).trans this
  · rcases List.mem_cons.mp he with rfl | he
    · exact cyc_of_turn (h.cyc c List.mem_cons_self) t
    · exact h.cyc e (List.mem_cons_of_mem _ he)
theorem mem_perm_cons {α : Type} [DecidableEq α] {c : α} {C : List α} (h : c ∈ C) : ∃ R, C.Perm (c :: R) := ⟨C.erase c, List.perm_cons_erase h⟩
theorem Cycles.at {D : List Int} {f : Int → Int} {C : List (List Int)} (h : Cycles D f C) {y : Int} (hy : y ∈ D) : ∃ m R, Cycles D f ((y :: m) :: R) ∧ Ch f y m y ∧ C.length = R.length + 1 := by
  obtain ⟨c, hc, hyc⟩ := List.mem_flatten.mp (h.all.mem_iff.mpr hy)
  obtain ⟨R, p⟩ := mem_perm_cons hc
  obtain ⟨m, t, e⟩ := cyc_turn (h.cyc c hc) hyc
  exact ⟨m, R, (h.perm p).turn t, e, by rw [p.length_eq]; rfl⟩
def swp (f : Int → Int) (a b : Int) : Int → Int := fun x => if x = a then f b else if x = b then f a else f x
theorem swp_ne {f : Int → Int} {a b z : Int} (h1 : z ≠ a) (h2 : z ≠ b) : swp f a b z = f z := by
  unfold swp
  rw [if_neg h1, if_neg h2]
theorem swp_a {f : Int → Int} {a b : Int} : swp f a b a = f b := by
  unfold swp
  rw [if_pos rfl]
theorem swp_b {f : Int → Int} {a b : Int} (h : a ≠ b) : swp f a b b = f a := by
  unfold swp
  rw [if_neg (fun z => h z.symm), if_pos rfl]
theorem cyc_keep {f : Int → Int} {a b : Int} {c : List Int} (h : Cyc f c) (ha : a ∉ c) (hb : b ∉ c) : Cyc (swp f a b) c := by
  obtain ⟨x, l, rfl, h⟩ := h
  have ne : ∀ z ∈ x :: l, swp f a b z = f z := fun z hz => swp_ne (fun e => ha (e ▸ hz)) (fun e => hb (e ▸ hz))
  exact ⟨x, l, rfl, ch_move h (ne x List.mem_cons_self) fun z hz => ne z (List.mem_cons_of_mem _ hz)⟩
theorem Cycles.cut {D : List Int} {f : Int → Int} {C : List (List Int)} (h : Cycles D f C) (nd : D.Nodup) {a b : Int} (ha : a ∈ D) (hb : b ∈ D) (hab : a ≠ b) : ∃ C', Cycles D (swp f a b) C' ∧ (C'.length = C.length + 1 ∨ C'.length + 1 = C.length) := by
  obtain ⟨m, R, h1, e1, l1⟩ := h.at ha
  have n1 := h1.all.nodup_iff.mpr nd
  rw [List.flatten_cons] at n1
  obtain ⟨nm, nR, dis⟩ := List.nodup_append.mp n1
  by_cases hbm : b ∈ m
  · obtain ⟨u, v, rfl⟩ := List.append_of_mem hbm
    obtain ⟨c1, c2⟩ := ch_app.mp e1
    obtain ⟨na, nm2⟩ := List.nodup_cons.mp nm
    obtain ⟨nu, nv, d2⟩ := List.nodup_append.mp nm2
    obtain ⟨nbv, nv2⟩ := List.nodup_cons.mp nv
    have keep : ∀ z, z ∈ u ∨ z ∈ v → swp f a b z = f z := fun z hz => by
      refine swp_ne (fun e => na ?_) (fun e => ?_)
      · rw [← e]
        rcases hz with hz | hz
        · exact List.mem_append_left _ hz
        · exact List.mem_append_right _ (List.mem_cons_of_mem _ hz)
      · subst e
        rcases hz with hz | hz
        · exact d2 z hz z List.mem_cons_self rfl
        · exact nbv hz
    refine ⟨(a :: v) :: (b :: u) :: R, ⟨?_, fun c hc => ?_⟩, .inl (by rw [l1]; rfl)⟩
    · refine List.Perm.trans ?_ h1.all
      simp only [List.flatten_cons, List.cons_append, List.append_assoc]
      refine List.Perm.cons _ ?_
      refine (List.perm_append_comm_assoc v (b :: u) R.flatten).trans ?_
      show (b :: (u ++ (v ++ R.flatten))).Perm _
      exact List.perm_middle.symm
    · rcases List.mem_cons.mp hc with rfl | hc
      · exact ⟨a, v, rfl, ch_move c2 swp_a fun z hz => keep z (.inr hz)⟩
      · rcases List.mem_cons.mp hc with rfl | hc
        · exact ⟨b, u, rfl, ch_move c1 (swp_b hab) fun z hz => keep z (.inl hz)⟩
        · refine cyc_keep (h1.cyc c (List.mem_cons_of_mem _ hc)) (fun z => ?_) (fun z => ?_)
          · exact dis a List.mem_cons_self a (List.mem_flatten.mpr ⟨c, hc, z⟩) rfl
          · exact dis b (List.mem_cons_of_mem _ (List.mem_append_right _ List.mem_cons_self)) b (List.mem_flatten.mpr ⟨c, hc, z⟩) rfl
  · have hbR : b ∈ R.flatten := by
      have := h1.all.mem_iff.mpr hb
      rw [List.flatten_cons] at this
      rcases List.mem_append.mp this with z | z
      · rcases List.mem_cons.mp z with z | z
        · exact absurd z.symm hab
        · exact absurd z hbm
      · exact z
    obtain ⟨c0, hc0, hb0⟩ := List.mem_flatten.mp hbR
    obtain ⟨S, p⟩ := mem_perm_cons hc0
    have h2 : Cycles D f ((a :: m) :: c0 :: S) := h1.perm (p.cons _)
    obtain ⟨k, t, e2⟩ := cyc_turn (h2.cyc c0 (List.mem_cons_of_mem _ List.mem_cons_self)) hb0
    have h3 : Cycles D f ((b :: k) :: (a :: m) :: S) := ((h2.perm (List.Perm.swap _ _ _)).turn t)
    have n3 := h3.all.nodup_iff.mpr nd
    rw [List.flatten_cons, List.flatten_cons] at n3
    obtain ⟨nk, nam, d3⟩ := List.nodup_append.mp n3
    obtain ⟨nm3, nS, d4⟩ := List.nodup_append.mp nam
    obtain ⟨nak, nk2⟩ := List.nodup_cons.mp nk
    obtain ⟨nam2, _⟩ := List.nodup_cons.mp nm3
    have keep : ∀ z, z ∈ m ∨ z ∈ k → swp f a b z = f z := fun z hz => by
      refine swp_ne (fun e => ?_) (fun e => ?_)
      · subst e
        rcases hz with hz | hz
        · exact nam2 hz
        · exact d3 z (List.mem_cons_of_mem _ hz) z (List.mem_append_left _ List.mem_cons_self) rfl
      · subst e
        rcases hz with hz | hz
        · exact hbm hz
        · exact nak hz
    refine ⟨(a :: (k ++ b :: m)) :: S, ⟨?_, fun c hc => ?_⟩, .inr (by rw [l1, p.length_eq]; rfl)⟩
    · refine List.Perm.trans ?_ h3.all
      simp only [List.flatten_cons, List.cons_append, List.append_assoc]
      refine (List.Perm.cons a List.perm_middle).trans ?_
      refine (List.Perm.swap _ _ _).trans (List.Perm.cons b ?_)
      exact List.perm_middle.symm
    · rcases List.mem_cons.mp hc with rfl | hc
      · exact ⟨a, k ++ b :: m, rfl, ch_app.mpr ⟨ch_move e2 swp_a fun z hz => keep z (.inr hz), ch_move e1 (swp_b hab) fun z hz => keep z (.inl hz)⟩⟩
      · refine cyc_keep (h3.cyc c (List.mem_cons_of_mem _ (List.mem_cons_of_mem _ hc))) (fun z => ?_) (fun z => ?_)
        · exact d4 a List.mem_cons_self a (List.mem_flatten.mpr ⟨c, hc, z⟩) rfl
        · exact d3 b List.mem_cons_self b (List.mem_append_right _ (List.mem_flatten.mpr ⟨c, hc, z⟩)) rfl
end Cy
set_option maxRecDepth 100000
set_option maxHeartbeats 1000000
namespace Tt
open Cy
def nxt (row : List Int) (e : Int) : Int := row.getD ((row.idxOf e + 1) % row.length) 0
theorem nxt_at {row : List Int} {e : Int} (h : row ≠ []) : row[(row.idxOf e + 1) % row.length]? = some (nxt row e) := by
  have hl : (row.idxOf e + 1) % row.length < row.length := Nat.mod_lt _ (List.length_pos_iff.mpr h)
  unfold nxt
  rw [List.getD_eq_getElem?_getD, List.getElem?_eq_getElem hl]
  rfl
def nx (row : List Int) (e : Int) : Int := nxt row (Wd.mate e)
theorem idx_get {row : List Int} (nd : row.Nodup) {i : Nat} {x : Int} (h : row[i]? = some x) : row.idxOf x = i := by
  obtain ⟨hi, e⟩ := List.getElem?_eq_some_iff.mp h
  have hx : x ∈ row := List.mem_of_getElem? h
  have h2 := (idx_at hx).1
  have hl : row.idxOf x < row.length := List.idxOf_lt_length_of_mem hx
  exact (List.getElem?_inj hl nd).mp (h2.trans h.symm)
theorem nxt_mem {row : List Int} {e : Int} (h : row ≠ []) : nxt row e ∈ row := List.mem_of_getElem? (nxt_at h)
theorem nxt_inj {row : List Int} (nd : row.Nodup) {a b : Int} (ha : a ∈ row) (hb : b ∈ row) (h : nxt row a = nxt row b) : a = b := by
  have hne : row ≠ [] := fun z => by rw [z] at ha; exact absurd ha (by simp)
  have l0 := List.length_pos_iff.mpr hne
  have e1 := nxt_at (e := a) hne
  have e2 := nxt_at (e := b) hne
  rw [h] at e1
  have hl := (List.getElem?_eq_some_iff.mp e1).1
  have hi := (List.getElem?_inj hl nd).mp (e1.trans e2.symm)
  have la : row.idxOf a < row.length := List.idxOf_lt_length_of_mem ha
  have lb : row.idxOf b < row.length := List.idxOf_lt_length_of_mem hb
  have ei : row.idxOf a = row.idxOf b := by
    by_cases c1 : row.idxOf a + 1 < row.length <;> by_cases c2 : row.idxOf b + 1 < row.length
    · rw [Nat.mod_eq_of_lt c1, Nat.mod_eq_of_lt c2] at hi
      omega
    · have z : row.idxOf b + 1 = row.length := by omega
      rw [Nat.mod_eq_of_lt c1, z, Nat.mod_self] at hi
      omega
    · have z : row.idxOf a + 1 = row.length := by omega
      rw [Nat.mod_eq_of_lt c2, z, Nat.mod_self] at hi
      omega
    · omega
  have h1 := (idx_at ha).1
  have h2 := (idx_at hb).1
  rw [ei, h2] at h1
  exact (Option.some.inj h1).symm
theorem row_chain {row : List Int} (nd : row.Nodup) {y : Int} (hy : row[0]? = some y) : ∀ (l p : List Int) (x : Int), row = p ++ x :: l → Ch (nxt row) x l y
  | [], p, x, e => by
    have hx : row[p.length]? = some x := by rw [e, List.getElem?_append_right (Nat.le_refl _)]; simp
    have hne : row ≠ [] := fun z => by rw [z] at hy; simp at hy
    have h1 := nxt_at (e := x) hne
    rw [idx_get nd hx] at h1
    have z : p.length + 1 = row.length := by rw [e]; simp
    rw [z, Nat.mod_self, hy] at h1
    exact (Option.some.inj h1).symm
  | a :: l, p, x, e => by
    have hx : row[p.length]? = some x := by rw [e, List.getElem?_append_right (Nat.le_refl _)]; simp
    have ha : row[p.length + 1]? = some a := by rw [e, List.getElem?_append_right (by omega)]; simp
    have hne : row ≠ [] := fun z => by rw [z] at hy; simp at hy
    have h1 := nxt_at (e := x) hne
    rw [idx_get nd hx] at h1
    have hl := (List.getElem?_eq_some_iff.mp ha).1
    rw [Nat.mod_eq_of_lt hl, ha] at h1
    exact ⟨(Option.some.inj h1).symm, row_chain nd hy l (p ++ [x]) a (by rw [e]; simp)⟩
theorem row_cycles {row : List Int} (nd : row.Nodup) (hne : row ≠ []) : Cycles row (nxt row) [row] := by
  cases hr : row with
  | nil => exact absurd hr hne
  | cons x l =>
    rw [← hr]
    refine ⟨by simp, fun c hc => ?_⟩
    rw [List.mem_singleton.mp hc]
    exact ⟨x, l, hr, row_chain nd (by rw [hr]; rfl) l [] x hr⟩
def glue (f : Int → Int) : Nat → Int → Int
  | 0 => f
  | k + 1 => swp (glue f k) (2 * (k : Int)) (2 * (k : Int) + 1)
theorem glue_is (f : Int → Int) : ∀ (k : Nat) (x : Int), 0 ≤ x → glue f k x = if x < 2 * (k : Int) then f (Wd.mate x) else f x
  | 0, x, h => by
    rw [if_neg (by omega)]
    rfl
  | k + 1, x, h => by
    show swp (glue f k) (2 * (k : Int)) (2 * (k : Int) + 1) x = _
    unfold swp
    by_cases c1 : x = 2 * (k : Int)
    · subst c1
      rw [if_pos rfl, glue_is f k _ (by omega), if_neg (by omega), if_pos (by omega)]
      unfold Wd.mate
      rw [if_pos (by omega)]
    · by_cases c2 : x = 2 * (k : Int) + 1
      · subst c2
        rw [if_neg c1, if_pos rfl, glue_is f k _ (by omega), if_neg (by omega), if_pos (by omega)]
        unfold Wd.mate
        rw [if_neg (by omega)]
        congr 1
        omega
      · rw [if_neg c1, if_neg c2, glue_is f k x h]
        by_cases c3 : x < 2 * (k : Int)
        · rw [if_pos c3, if_pos (by omega)]
        · rw [if_neg c3, if_neg (by omega)]
theorem glue_cycles {row : List Int} {n : Nat} (pm : row.Perm (rgI (2 * n))) (nd : row.Nodup) (n1 : 1 ≤ n) : ∀ k, k ≤ n → ∃ C, Cycles row (glue (nxt row) k) C ∧ (C.length + k) % 2 = 1
  | 0, _ => ⟨[row], row_cycles nd (fun z => by have := perm_len pm; rw [z] at this; simp at this; omega), rfl⟩
  | k + 1, hk => by
    obtain ⟨C, h1, h2⟩ := glue_cycles pm nd n1 k (by omega)
    obtain ⟨C', h3, h4⟩ := h1.cut nd (a := 2 * (k : Int)) (b := 2 * (k : Int) + 1) ((perm_mem pm).mpr (by omega)) ((perm_mem pm).mpr (by omega)) (by omega)
    exact ⟨C', h3, by omega⟩
theorem Cycles.congr {D : List Int} {f g : Int → Int} {C : List (List Int)} (h : Cycles D f C) (e : ∀ x ∈ D, f x = g x) : Cycles D g C := by
  refine ⟨h.all, fun c hc => ?_⟩
  obtain ⟨x, l, rfl, k⟩ := h.cyc c hc
  have eg : ∀ z ∈ x :: l, g z = f z := fun z hz => (e z (h.all.mem_iff.mp (List.mem_flatten.mpr ⟨_, hc, hz⟩))).symm
  exact ⟨x, l, rfl, ch_move k (eg x List.mem_cons_self) fun z hz => eg z (List.mem_cons_of_mem _ hz)⟩
theorem row_nodup {row : List Int} {n : Nat} (pm : row.Perm (rgI n)) : row.Nodup := by
  refine pm.nodup_iff.mpr ?_
  unfold rgI
  show List.Pairwise _ _
  rw [List.pairwise_map]
  exact List.pairwise_lt_range.imp fun {a b} h => by show (a : Int) ≠ b; omega
theorem cycles_least {D : List Int} {f : Int → Int} {C R : List (List Int)} (nd : D.Nodup) (h : Cycles D f C) (k : Cycles D f R) : (C.map leastT).Perm (R.map leastT) := by
  have nod : ∀ {C : List (List Int)}, Cycles D f C → (C.map leastT).Nodup := fun {C} h => by
    have n1 := h.all.nodup_iff.mpr nd
    have n2 := (List.pairwise_flatten.mp n1).2
    show List.Pairwise _ _
    rw [List.pairwise_map]
    refine List.Pairwise.imp_of_mem (fun {a b} ha hb hab e => ?_) n2
    obtain ⟨x, l, rfl, _⟩ := h.cyc a ha
    obtain ⟨y, m, rfl, _⟩ := h.cyc b hb
    have t := turn_of_leastT e
    have hx : x ∈ y :: m := (Cy.turn_perm t).mem_iff.mp List.mem_cons_self
    exact hab x List.mem_cons_self x hx rfl
  have sub : ∀ {C R : List (List Int)}, Cycles D f C → Cycles D f R → ∀ t ∈ C.map leastT, t ∈ R.map leastT := fun {C R} h k t ht => by
    obtain ⟨c, hc, rfl⟩ := List.mem_map.mp ht
    obtain ⟨x, l, ec, kc⟩ := h.cyc c hc
    have hx : x ∈ c := by rw [ec]; exact List.mem_cons_self
    have hD : x ∈ D := h.all.mem_iff.mp (List.mem_flatten.mpr ⟨c, hc, hx⟩)
    obtain ⟨r, hr, hxr⟩ := List.mem_flatten.mp (k.all.mem_iff.mpr hD)
    have nf : ∀ {C : List (List Int)} {c : List Int}, Cycles D f C → c ∈ C → c.Nodup := fun h hc => (List.pairwise_flatten.mp (h.all.nodup_iff.mpr nd)).1 _ hc
    have tt := cyc_same (h.cyc c hc) (k.cyc r hr) (nf h hc) (nf k hr) hx hxr
    exact List.mem_map.mpr ⟨r, hr, (leastT_eq tt).symm⟩
  exact (List.perm_ext_iff_of_nodup (nod h) (nod k)).mpr fun t => ⟨sub h k t, sub k h t⟩
theorem rims_parity {row : List Int} {n : Nat} {R : List (List Int)} (pm : row.Perm (rgI (2 * n))) (n1 : 1 ≤ n) (h : Cycles row (nx row) R) : (R.length + n) % 2 = 1 := by
  have nd := row_nodup pm
  obtain ⟨C, h1, h2⟩ := glue_cycles pm nd n1 n (Nat.le_refl _)
  have h3 : Cycles row (nx row) C := Cycles.congr h1 fun x hx => by
    have := (perm_mem pm).mp hx
    rw [glue_is _ _ _ this.1, if_pos (by omega)]
    rfl
  have e := (cycles_least nd h h3).length_eq
  rw [List.length_map, List.length_map] at e
  omega
end Tt
set_option maxRecDepth 100000
set_option maxHeartbeats 1000000
namespace Cy
open Wd
theorem ch_pre {f : Int → Int} : ∀ {l : List Int} {x y : Int}, Ch f x l y → ∃ a ∈ x :: l, f a = y
  | [], x, y, h => ⟨x, List.mem_cons_self, h⟩
  | b :: l, x, y, h => by
    obtain ⟨a, ha, e⟩ := ch_pre (l := l) h.2
    exact ⟨a, List.mem_cons_of_mem _ ha, e⟩
def Inj (D : List Int) (f : Int → Int) : Prop := ∀ a ∈ D, ∀ b ∈ D, f a = f b → a = b
theorem ch_fresh {D : List Int} {f : Int → Int} (inj : Inj D f) {x y : Int} {l : List Int} (h : Ch f x l y) (nd : (x :: l).Nodup) (sub : ∀ z ∈ x :: l, z ∈ D) (hy : y ≠ x) : y ∉ x :: l := fun hm => by
  rcases List.mem_cons.mp hm with e | hm
  · exact hy e
  · obtain ⟨u, v, rfl⟩ := List.append_of_mem hm
    obtain ⟨h1, h2⟩ := ch_app.mp h
    obtain ⟨a, ha, ea⟩ := ch_pre h1
    obtain ⟨b, hb, eb⟩ := ch_pre h2
    have e : x :: (u ++ y :: v) = (x :: u) ++ (y :: v) := rfl
    rw [e] at nd sub
    have ab := inj a (sub a (List.mem_append_left _ ha)) b (sub b (List.mem_append_right _ hb)) (ea.trans eb.symm)
    exact (List.nodup_append.mp nd).2.2 a ha b hb ab
def Closed (D : List Int) (f : Int → Int) (F : List Int) : Prop := ∀ z ∈ D, f z ∈ F → z ∈ F
theorem ch_off {D : List Int} {f : Int → Int} {F : List Int} (cl : Closed D f F) : ∀ {l : List Int} {x y : Int}, Ch f x l y → (∀ z ∈ x :: l, z ∈ D) → x ∉ F → (∀ z ∈ x :: l, z ∉ F) ∧ y ∉ F
  | [], x, y, h, sub, hx => by
    have h' : f x = y := h
    refine ⟨fun z hz => by rw [List.mem_singleton.mp hz]; exact hx, fun hy => hx (cl x (sub x List.mem_cons_self) (by rw [h']; exact hy))⟩
  | b :: l, x, y, h, sub, hx => by
    have hb : b ∉ F := fun q => hx (cl x (sub x List.mem_cons_self) (by rw [h.1]; exact q))
    obtain ⟨h1, h2⟩ := ch_off cl h.2 (fun z hz => sub z (List.mem_cons_of_mem _ hz)) hb
    refine ⟨fun z hz => ?_, h2⟩
    rcases List.mem_cons.mp hz with rfl | hz
    · exact hx
    · exact h1 z hz
structure Part (D : List Int) (f : Int → Int) (C : List (List Int)) : Prop where
  cyc : ∀ c ∈ C, Cyc f c
  nd : C.flatten.Nodup
  sub : ∀ z ∈ C.flatten, z ∈ D
theorem Part.nil (D : List Int) (f : Int → Int) : Part D f [] := ⟨fun _ h => absurd h (by simp), List.Pairwise.nil, fun _ h => absurd h (by simp)⟩
theorem Part.closed {D : List Int} {f : Int → Int} {C : List (List Int)} (h : Part D f C) (inj : Inj D f) : Closed D f C.flatten := fun z hz hf => by
  obtain ⟨c, hc, hy⟩ := List.mem_flatten.mp hf
  obtain ⟨m, t, e⟩ := cyc_turn (h.cyc c hc) hy
  obtain ⟨a, ha, ea⟩ := ch_pre e
  have hac : a ∈ c := (turn_perm t).mem_iff.mpr ha
  have : a = z := inj a (h.sub a (List.mem_flatten.mpr ⟨c, hc, hac⟩)) z hz ea
  subst this
  exact List.mem_flatten.mpr ⟨c, hc, hac⟩
theorem flatten_snoc (C : List (List Int)) (c : List Int) : (C ++ [c]).flatten = C.flatten ++ c := by
  rw [List.flatten_append, List.flatten_cons, List.flatten_nil, List.append_nil]
theorem Part.add {D : List Int} {f : Int → Int} {C : List (List Int)} (h : Part D f C) (inj : Inj D f) {x : Int} {l : List Int} (hx : x ∉ C.flatten) (hl : Ch f x l x) (nd : (x :: l).Nodup) (sub : ∀ z ∈ x :: l, z ∈ D) : Part D f (C ++ [x :: l]) := by
  obtain ⟨off, _⟩ := ch_off (h.closed inj) hl sub hx
  refine ⟨fun c hc => ?_, ?_, fun z hz => ?_⟩
  · rcases List.mem_append.mp hc with hc | hc
    · exact h.cyc c hc
    · rw [List.mem_singleton.mp hc]
      exact ⟨x, l, rfl, hl⟩
  · rw [flatten_snoc]
    refine List.nodup_append.mpr ⟨h.nd, nd, fun a ha b hb e => off b hb (e ▸ ha)⟩
  · rw [flatten_snoc] at hz
    rcases List.mem_append.mp hz with hz | hz
    · exact h.sub z hz
    · exact sub z hz
theorem Part.done {D : List Int} {f : Int → Int} {C : List (List Int)} (h : Part D f C) (nd : D.Nodup) (all : ∀ z ∈ D, z ∈ C.flatten) : Cycles D f C :=
  ⟨(List.perm_ext_iff_of_nodup h.nd nd).mpr fun z => ⟨h.sub z, all z⟩, h.cyc⟩
theorem ch_both {f g : Int → Int} {y : Int} : ∀ {l : List Int} {x : Int}, Ch f x l y → Ch g x l y → ∀ z ∈ x :: l, f z = g z
  | [], x, h, k, z, hz => by
    rw [List.mem_singleton.mp hz]
    exact Eq.trans (show f x = y from h) (Eq.symm (show g x = y from k))
  | b :: l, x, h, k, z, hz => by
    rcases List.mem_cons.mp hz with rfl | hz
    · exact h.1.trans k.1.symm
    · exact ch_both h.2 k.2 z hz
end Cy
namespace Tt
open Cy
theorem mate_row {row : List Int} {n : Nat} (pm : row.Perm (rgI (2 * n))) {e : Int} (h : e ∈ row) : Wd.mate e ∈ row := by
  have h1 := (perm_mem pm).mp h
  refine (perm_mem pm).mpr ?_
  have := Wd.mate_range (n := (n : Int)) h1.1 (by omega)
  omega
theorem row_ne {row : List Int} {n : Nat} (pm : row.Perm (rgI (2 * n))) (n1 : 1 ≤ n) : row ≠ [] := fun z => by
  have := perm_len pm
  rw [z] at this
  simp at this
  omega
theorem nx_mem {row : List Int} {n : Nat} (pm : row.Perm (rgI (2 * n))) (n1 : 1 ≤ n) (e : Int) : nx row e ∈ row := nxt_mem (row_ne pm n1)
theorem nx_inj {row : List Int} {n : Nat} (pm : row.Perm (rgI (2 * n))) : Inj row (nx row) := fun a ha b hb e => by
  have h := nxt_inj (row_nodup pm) (mate_row pm ha) (mate_row pm hb) e
  have := congrArg Wd.mate h
  rw [Wd.mate_mate, Wd.mate_mate] at this
  exact this
theorem nxt_turn {row row2 : List Int} (nd : row.Nodup) (hne : row ≠ []) (t : Wd.Turn row row2) {e : Int} (he : e ∈ row) : nxt row2 e = nxt row e := by
  have h1 := cyc_of_turn ((row_cycles nd hne).cyc row List.mem_cons_self) t
  have p := Cy.turn_perm t
  have nd2 := p.nodup_iff.mp nd
  have hne2 : row2 ≠ [] := fun z => hne (by rw [z] at p; exact p.eq_nil)
  have h2 := (row_cycles nd2 hne2).cyc row2 List.mem_cons_self
  have he2 := p.mem_iff.mp he
  obtain ⟨x, l, e1, k1⟩ := h1
  obtain ⟨y, m, e2, k2⟩ := h2
  rw [e1] at e2
  cases e2
  rw [e1] at he2
  exact (ch_both k1 k2 e he2).symm
theorem nx_turn {row row2 : List Int} {n : Nat} (pm : row.Perm (rgI (2 * n))) (n1 : 1 ≤ n) (t : Wd.Turn row row2) {e : Int} (he : e ∈ row) : nx row2 e = nx row e :=
  nxt_turn (row_nodup pm) (row_ne pm n1) t (mate_row pm he)
def eAt (row : List Int) (s : Nat) : Int := row.getD ((s + 1) % row.length) 0
theorem eAt_idx (row : List Int) (e : Int) : eAt row (row.idxOf e) = nxt row e := rfl
theorem eAt_get {row : List Int} (hne : row ≠ []) (s : Nat) : row[(s + 1) % row.length]? = some (eAt row s) := by
  have hl : (s + 1) % row.length < row.length := Nat.mod_lt _ (List.length_pos_iff.mpr hne)
  unfold eAt
  rw [List.getD_eq_getElem?_getD, List.getElem?_eq_getElem hl]
  rfl
theorem eAt_mem {row : List Int} (hne : row ≠ []) (s : Nat) : eAt row s ∈ row := List.mem_of_getElem? (eAt_get hne s)
theorem eAt_inj {row : List Int} (nd : row.Nodup) {a b : Nat} (ha : a < row.length) (hb : b < row.length) (h : eAt row a = eAt row b) : a = b := by
  have hne : row ≠ [] := fun z => by rw [z] at ha; exact absurd ha (by simp)
  have e1 := eAt_get hne a
  have e2 := eAt_get hne b
  rw [h] at e1
  have hi := (List.getElem?_inj (List.getElem?_eq_some_iff.mp e1).1 nd).mp (e1.trans e2.symm)
  by_cases c1 : a + 1 < row.length <;> by_cases c2 : b + 1 < row.length
  · rw [Nat.mod_eq_of_lt c1, Nat.mod_eq_of_lt c2] at hi
    omega
  · have z : b + 1 = row.length := by omega
    rw [Nat.mod_eq_of_lt c1, z, Nat.mod_self] at hi
    omega
  · have z : a + 1 = row.length := by omega
    rw [Nat.mod_eq_of_lt c2, z, Nat.mod_self] at hi
    omega
  · omega
theorem eAt_onto {row : List Int} (nd : row.Nodup) {e : Int} (he : e ∈ row) : ∃ s, s < row.length ∧ eAt row s = e := by
  have hne : row ≠ [] := fun z => by rw [z] at he; exact absurd he (by simp)
  have l0 := List.length_pos_iff.mpr hne
  have hl : row.idxOf e < row.length := List.idxOf_lt_length_of_mem he
  have h1 := (idx_at he).1
  by_cases c : row.idxOf e = 0
  · refine ⟨row.length - 1, by omega, ?_⟩
    have h2 := eAt_get hne (row.length - 1)
    have z : row.length - 1 + 1 = row.length := by omega
    rw [z, Nat.mod_self, ← c, h1] at h2
    exact (Option.some.inj h2).symm
  · refine ⟨row.idxOf e - 1, by omega, ?_⟩
    have h2 := eAt_get hne (row.idxOf e - 1)
    have z : row.idxOf e - 1 + 1 = row.idxOf e := by omega
    rw [z, Nat.mod_eq_of_lt hl, h1] at h2
    exact (Option.some.inj h2).symm
theorem sorted_eq {A B : List (List Int)} (p : A.Perm B) (h1 : A.Pairwise (· ≤ ·)) (h2 : B.Pairwise (· ≤ ·)) : A = B :=
  List.Perm.eq_of_pairwise (le := fun a b : List Int => a ≤ b) (fun a b _ _ x y => List.le_antisymm x y) h1 h2 p
end Tt
set_option maxRecDepth 100000
set_option maxHeartbeats 4000000
namespace Tt
open PySem L2
section
variable {P : Program} {w : World} {K : PySem.W.Frag} {mg : Str → Option Value} {base : Heap}
theorem ixN_n {n j : Nat} (h : j < n) : ixN n (j : Int) = some j := by
  unfold ixN
  rw [if_pos (by omega), if_pos (by omega)]
  simp
theorem atI_n {xs : List V} {j : Nat} {v : V} (h : xs[j]? = some v) : atI xs (j : Int) = some v := by
  have hl := (List.getElem?_eq_some_iff.mp h).1
  unfold atI
  rw [ixN_n hl]
  exact h
theorem skF_places (r q : Addr) (n : Int) : (skF r q n).lookup ("places" : Str) = some (V.ref q) := rfl
def spBehind (T : Txt K mg) : Sp := fun vs H Q _ => ∃ (p : Addr) (row : List Int) (n : Nat) (e : Int), vs = [.ref p, .int e, .int 1] ∧ SkAt T H p row ∧ n ≤ 6 ∧ row.Perm (rgI (2 * n)) ∧ 0 ≤ e ∧ e < 2 * n ∧ Q (.int (nxt row e)) H
theorem ok_end_behind (T : Txt K mg) : FnOk P w K mg base CX0 1 T.end_behind.a T.end_behind.fd ["skin", "end", "steps"] (spBehind T) := by
  refine T.end_behind.F.ok sc_end_behind (fun vs H Q E h => ?_) (fun cdv A outer s H vs Q E hr h => ?_)
  · obtain ⟨p, row, n, e, rfl, _⟩ := h
    rfl
  · obtain ⟨p, row, n, e, rfl, ⟨dx, r, q, a1, a2, a3⟩, n6, pm, e0, e1, k⟩ := h
    obtain ⟨j, rfl⟩ := Int.eq_ofNat_of_zero_le e0
    have hlen := perm_len pm
    have hne : row ≠ [] := fun z => by rw [z] at hlen; simp at hlen; omega
    have hj : j < row.length := by omega
    refine ⟨_, (pss_one (ps_ret (pe_ix ix_tup (pe_fld (pv 0) rfl) (pe_op op_mod (pe_op op_add (pe_ix ix_tup (pe_fld (pv 0) rfl) (pv 1) (fun _ _ => rfl)) (pv 2)) (pe_callB call_len_seq (by rfl) T.zlen (by decide +kernel) (pa_cons (pe_fld (pv 0) rfl) pa_nil))) (fun _ _ => rfl)))), ?_⟩
    refine ⟨_, rfl, p, T.Skin.C, dx, _, _, rfl, a1, T.Skin.c, nRow T, skF_row .., ?_⟩
    refine ⟨_, rfl, p, T.Skin.C, dx, _, _, rfl, a1, T.Skin.c, nPlaces T, skF_places .., _, rfl, q, _, _, _, rfl, rfl, a3.sq, atI_n (ints_get (place_at hj)), ?_⟩
    refine ⟨_, rfl, _, _, rfl, rfl, ?_⟩
    refine ⟨_, rfl, p, T.Skin.C, dx, _, _, rfl, a1, T.Skin.c, nRow T, skF_row .., r, _, rfl, .inr a2.sq, ?_⟩
    refine ⟨_, _, rfl, rfl, by rw [List.length_map]; omega, ?_⟩
    refine ⟨r, _, _, _, rfl, rfl, a2.sq, (by rw [List.length_map]; exact atI_n (j := (row.idxOf (j : Int) + 1) % row.length) (v := .int (nxt row (j : Int))) (ints_get (nxt_at hne))), k⟩
def spRimFrom (T : Txt K mg) : Sp := fun vs H Q _ => ∃ (p : Addr) (row : List Int) (n : Nat) (e : Int), vs = [.ref p, .int e] ∧ SkAt T H p row ∧ 1 ≤ n ∧ n ≤ 6 ∧ row.Perm (rgI (2 * n)) ∧ e ∈ row ∧
  ∀ (l : List Int) q H', Cy.Ch (nx row) e l e → (e :: l).Nodup → (∀ z ∈ e :: l, z ∈ row) → Same H H' → H' q = some (.tup ((e :: l).map V.int)) → Q (.ref q) H'
theorem ok_rim_from (T : Txt K mg) : FnOk P w K mg base CX0 2 T.rim_from.a T.rim_from.fd ["skin", "start"] (spRimFrom T) := by
  refine T.rim_from.F.ok sc_rim_from (fun vs H Q E h => ?_) (fun cdv A outer s H vs Q E hr h => ?_)
  · obtain ⟨p, row, n, e, rfl, _⟩ := h
    rfl
  · obtain ⟨p, row, n, e, rfl, sk, n1, n6, pm, he, k⟩ := h
    have nd := sc_rim_from.nd
    have be : ∀ z ∈ row, 0 ≤ z ∧ z < 2 * n := fun z hz => by have := (perm_mem pm).mp hz; omega
    refine ⟨_, (pss_cons (ps_set (i := 2) nd rfl (Or.inl rfl) (pe_lst (pa_cons (pv 1) pa_nil)))
    (pss_cons (ps_set (i := 3) nd rfl (Or.inl rfl) (pe_call (ok_end_behind T) (hr.mono (by decide)) (by rfl) T.end_behind.g T.end_behind.k T.end_behind.b .nil pass0 (pa_cons (pv 0) (pa_cons (pe_op op_xor (pv 1) pe_int) (pa_cons pe_int pa_nil)))))
    (pss_cons (ps_while PassesOwn.never (pt_cmpR op_ne (pv 3) (pv 1) (nomark _))
      (pss_cons (ps_expr (pe_bm PySem.F.plainAttrs_list PySem.F.slot_list_append PySem.F.type_list_append mt_append (pv 2) (pa_cons (pv 3) pa_nil)))
      (pss_one (ps_set (i := 3) nd rfl (Or.inl rfl) (pe_call (ok_end_behind T) (hr.mono (by decide)) (by rfl) T.end_behind.g T.end_behind.k T.end_behind.b .nil pass0 (pa_cons (pv 0) (pa_cons (pe_op op_xor (pv 3) pe_int) (pa_cons pe_int pa_nil))))))))
    (pss_one (ps_ret (pe_callTy call_tuple_of (by rfl) T.ztuple (by decide +kernel) (pa_cons (pv 2) pa_nil))))))), ?_⟩
    have xm : ∀ z ∈ row, Builtin.bitXor z 1 = Wd.mate z := fun z hz => xor_mate (be z hz).1 (by have := (be z hz).2; omega)
    have en : ∀ z ∈ row, nxt row (Builtin.bitXor z 1) = nx row z := fun z hz => by rw [xm z hz]; rfl
    have bm : ∀ z ∈ row, 0 ≤ Builtin.bitXor z 1 ∧ Builtin.bitXor z 1 < 2 * n := fun z hz => by
      rw [xm z hz]
      exact be _ (mate_row pm hz)
    have inj := nx_inj pm
    have hlen := perm_len pm
    refine ⟨_, rfl, (by show 1 ≤ sizeLine; decide), fun f hf => ?_⟩
    have s1 : Same H (upd H f (.lst [.int e])) := same_new hf
    have e1 : (upd H f (.lst [.int e])) f = some (.lst ([e].map V.int)) := upd_same
    generalize upd H f (.lst [.int e]) = H1 at s1 e1
    refine ⟨_, rfl, _, rfl, _, _, rfl, rfl, p, row, n, _, rfl, sk.same s1, n6, pm, (bm e he).1, (bm e he).2, ?_⟩
    rw [en e he]
    have fnd : ∀ (l : List Int) (y : Int) (H2 : Hp), Same H H2 → (∀ b o, H b = some o → b ≠ f) := fun _ _ _ _ b o hb => ne_of_none hb hf
    refine while_by3 (fun σ H' => ∃ (l : List Int) (y : Int), σ = [some (.ref p), some (.int e), some (.ref f), some (.int y)] ∧ H' f = some (.lst ((e :: l).map V.int)) ∧ Same H H' ∧ Cy.Ch (nx row) e l y ∧ (e :: l).Nodup ∧ (∀ z ∈ e :: l, z ∈ row)) (lenAt 2)
      ⟨[], nx row e, rfl, e1, s1, rfl, List.pairwise_singleton _ _, fun z hz => by rw [List.mem_singleton.mp hz]; exact he⟩ ?_
    rintro σ H' ⟨l, y, rfl, e2, s2, hch, hnd, hsub⟩
    have hy : y ∈ row := by
      obtain ⟨a, _, ea⟩ := Cy.ch_pre hch
      rw [← ea]
      exact nx_mem pm n1 a
    have hz : (e :: l).length ≤ 12 := by
      have := hnd.length_le_of_subset (l₂ := row) hsub
      omega
    refine ⟨_, rfl, _, rfl, rfl, _, rfl, ite2 (fun c => ?_) (fun c => ?_)⟩
    · have hne : y ≠ e := by
        have c' : (!decide (V.int y = V.int e)) = true := c
        simpa using c'
      have fr := Cy.ch_fresh inj hch hnd hsub hne
      refine ⟨fun σ' H'' => lenAt 2 σ' H'' < _ ∧ _, fun σ' H'' h => ⟨_, h.1, rfl, h.2⟩, ?_⟩
      refine ⟨_, rfl, .inl ⟨rfl, _, SqL.of e2⟩, _, rfl, f, _, _, rfl, rfl, e2, by rw [List.length_map]; exact small1000 (by omega), ?_⟩
      have s3 : Same H (upd H' f (.lst ((e :: l).map V.int ++ [V.int y]))) := fun b o hb => by
        rw [upd_ne (ne_of_none hb hf)]
        exact s2 b o hb
      have e3 : (upd H' f (.lst ((e :: l).map V.int ++ [V.int y]))) f = some (.lst ((e :: (l ++ [y])).map V.int)) := by
        rw [upd_same, ← List.cons_append, List.map_append]
        rfl
      generalize upd H' f (.lst ((e :: l).map V.int ++ [V.int y])) = H3 at s3 e3
      refine ⟨_, rfl, _, rfl, _, _, rfl, rfl, p, row, n, _, rfl, sk.same s3, n6, pm, (bm y hy).1, (bm y hy).2, ?_⟩
      rw [en y hy]
      refine ⟨?_, l ++ [y], nx row y, rfl, e3, s3, Cy.ch_snoc hch rfl, ?_, fun z hz => ?_⟩
      · rw [lenAt_of (i := 2) (f := f) rfl e3, lenAt_of (i := 2) (f := f) rfl e2]
        simp only [List.length_map, List.length_cons, List.length_append, List.length_nil] at hz ⊢
        omega
      · rw [← List.cons_append]
        refine List.nodup_append.mpr ⟨hnd, List.pairwise_singleton _ _, fun a ha b hb => ?_⟩
        rw [List.mem_singleton.mp hb]
        exact fun q => fr (q ▸ ha)
      · rw [← List.cons_append] at hz
        rcases List.mem_append.mp hz with hz | hz
        · exact hsub z hz
        · rw [List.mem_singleton.mp hz]
          exact hy
    · have he2 : y = e := by
        have c' : ¬ (!decide (V.int y = V.int e)) = true := c
        simpa using c'
      subst he2
      refine ⟨_, rfl, f, _, rfl, .inl ⟨SqL.of e2, fun t ht => ?_⟩⟩
      exact k l t _ hch hnd hsub (s2.trans (same_new ht)) upd_same
end
end Tt
set_option maxRecDepth 100000
set_option maxHeartbeats 4000000
namespace Tt
open PySem L2
section
variable {P : Program} {w : World} {K : PySem.W.Frag} {mg : Str → Option Value} {base : Heap}
theorem inV_ints (z : Int) (ns : List Int) : inV (.int z) (ns.map V.int) = decide (z ∈ ns) := by
  unfold inV
  rw [List.any_map]
  induction ns with
  | nil => rfl
  | cons a ns ih =>
    rw [List.any_cons, ih]
    show ((a == z) || decide (z ∈ ns)) = _
    by_cases h : a = z
    · subst h
      simp
    · have h2 : (a == z) = false := by simpa using h
      rw [h2, Bool.false_or]
      have h3 : ¬ z = a := fun e => h e.symm
      simp [h3]
theorem flat_ints (ns : List Int) : (ns.map V.int).all flatV = true := by
  rw [List.all_map, List.all_eq_true]
  exact fun _ _ => rfl
def RowsAt (K : PySem.W.Frag) (H : Hp) (q : Addr) (bs : List (Addr × List Int)) : Prop := H q = some (.lst (bs.map fun b => V.ref b.1)) ∧ ∀ b ∈ bs, SqT K H b.1 (b.2.map V.int)
def RimsOf (row : List Int) (R : List (List Int)) : Prop := ∃ C, Cy.Cycles row (nx row) C ∧ R.Perm (C.map leastT) ∧ R.Pairwise (· ≤ ·)
def spRims (T : Txt K mg) : Sp := fun vs H Q E => ∃ (v : V), vs = [v] ∧ ((SkV T H v false ∧ SkErr T H E) ∨ ∃ (p : Addr) (row : List Int) (n : Nat), v = .ref p ∧ SkAt T H p row ∧ 1 ≤ n ∧ n ≤ 6 ∧ row.Perm (rgI (2 * n)) ∧
  ∀ (bs : List (Addr × List Int)) q H', RimsOf row (bs.map (·.2)) → Same H H' → H q = none → RowsAt K H' q bs → Q (.ref q) H')
theorem ok_rims (T : Txt K mg) : FnOk P w K mg base (L2.CX P w) 4 T.rims.a T.rims.fd ["skin"] (spRims T) := by
  refine T.rims.F.okX sc_rims (fun vs H Q E h => ?_) (fun cdv A outer s H vs Q E hr h => ?_)
  · obtain ⟨v, rfl, _⟩ := h
    rfl
  · obtain ⟨v, rfl, h⟩ := h
    have nd := sc_rims.nd
    have hu := hu_of hr
    refine ⟨_, (pss_cons (ps_expr (pe_callS (ok_check_skin T) (hr.mono (by decide)) (by rfl) T.check_skin.g T.check_skin.k T.check_skin.b (fun σ => passAt (takes_of rfl rfl rfl rfl) σ) (pa_cons (pv 0) pa_nil)))
    (pss_cons (ps_set (i := 1) nd rfl (Or.inl rfl) (pe_lst pa_nil))
    (pss_cons (ps_set (i := 2) nd rfl (Or.inl rfl) (pe_callTy call_list_of (by rfl) T.zlist (by decide +kernel) (pa_cons (pe_fld (pv 0) rfl) pa_nil)))
    (pss_cons (ps_while (passes_of rfl) (pt_truth (pv 2) (fun _ => rfl))
      (pss_cons (ps_set (i := 3) nd rfl (Or.inr rfl) (pe_call (ok_rim_from T) (hr.mono (by decide)) (by rfl) T.rim_from.g T.rim_from.k T.rim_from.b .nil pass0 (pa_cons (pv 0) (pa_cons (pe_ix ix_list (pv 2) pe_int (fun _ _ => rfl)) pa_nil))))
      (pss_cons (ps_expr (pe_bm PySem.F.plainAttrs_list PySem.F.slot_list_append PySem.F.type_list_append mt_append (pv 1) (pa_cons (pe_call (ok_least_turn T) (hr.mono (by decide)) (by rfl) T.least_turn.g T.least_turn.k T.least_turn.b .nil pass0 (pa_cons (pv 3) pa_nil)) pa_nil)))
      (pss_one (ps_setLc (i := 2) (own := [("end", 4)]) (g := gName 4) rfl nd rfl rfl (sw_true rfl rfl rfl (by decide +kernel)) (pi_list (pv 2)) (blkOk_by (own := [("end", 4)]) (N := N_rims) (sc := defScope s_rims) (by decide +kernel)) (fun _ _ _ _ _ => pg_name (i := 4) nd rfl (Or.inl rfl)) (fun _ _ _ _ _ => pts_one (pt_cmpR (op_notIn_seqK (K := K) rfl) (pv 4) (pv 3) rfl)) (fun _ _ _ _ _ => (pv 4)))))))
    (pss_one (ps_ret (pe_callB (cr_sortedT hr.units) (by rfl) T.zsorted (by decide +kernel) (pa_cons (pv 1) pa_nil)))))))), ?_⟩
    rcases h with ⟨hv, he⟩ | ⟨p, row, n, rfl, sk, n1, n6, pm, k⟩
    · exact ⟨v, rfl, v, false, rfl, hv, (fun z => nomatch z), fun _ => he⟩
    · refine ⟨_, rfl, _, true, rfl, sk.v, (fun _ => ?_), fun z => nomatch z⟩
      refine ⟨(by show 0 ≤ sizeLine; decide), fun f hf => ?_⟩
      have s1 : Same H (upd H f (.lst [])) := same_new hf
      have e1 : (upd H f (.lst [])) f = some (.lst []) := upd_same
      generalize upd H f (.lst []) = H1 at s1 e1
      obtain ⟨dx, r, q0, a1, a2, a3⟩ := id (sk.same s1)
      refine ⟨_, rfl, p, T.Skin.C, dx, _, _, rfl, a1, T.Skin.c, nRow T, skF_row .., r, _, rfl, .inr a2.sq, fun g hg => ?_⟩
      have s2 : Same H (upd H1 g (.lst (row.map V.int))) := s1.trans (same_new hg)
      have e2 : (upd H1 g (.lst (row.map V.int))) f = some (.lst []) := upk hg e1
      have g2 : (upd H1 g (.lst (row.map V.int))) g = some (.lst (row.map V.int)) := upd_same
      have nfg : f ≠ g := ne_of_none e1 hg
      generalize upd H1 g (.lst (row.map V.int)) = H2 at s2 e2 g2
      clear a1 a2 a3 s1 e1 hg
      have ndr := row_nodup pm
      have inj := nx_inj pm
      have hlen := perm_len pm
      dsimp only [gName, tSeq]
      refine while_by3 (fun σ H' => ∃ (g : Addr) (C : List (List Int)) (bs : List (Addr × List Int)) (v3 v4 : Option V), σ = [some (.ref p), some (.ref f), some (.ref g), v3, v4] ∧ f ≠ g ∧ H' f = some (.lst (bs.map fun b => V.ref b.1)) ∧ (∀ b ∈ bs, b.2 ≠ [] ∧ SqT K H' b.1 (b.2.map V.int)) ∧ bs.map (·.2) = C.map leastT ∧
        H' g = some (.lst ((row.filter fun z => decide (z ∉ C.flatten)).map V.int)) ∧ Cy.Part row (nx row) C ∧ Same H H') (lenOf 2)
        ⟨g, [], [], none, none, rfl, nfg, e2, (fun _ h => absurd h (by simp)), rfl, by rw [List.filter_eq_self.mpr (by simp)]; exact g2, Cy.Part.nil _ _, s2⟩ ?_
      rintro σ H' ⟨g, C, bs, v3, v4, rfl, nfg, ef, hb, em, eg, pt, sm⟩
      have hbl : bs.length ≤ 12 := by
        have h1 := congrArg List.length em
        rw [List.length_map, List.length_map] at h1
        have h2 : C.length ≤ C.flatten.length := by
          have : ∀ R : List (List Int), (∀ c ∈ R, Cy.Cyc (nx row) c) → R.length ≤ R.flatten.length := fun R => by
            induction R with
            | nil => exact fun _ => Nat.le_refl _
            | cons c R ih =>
              intro hc
              obtain ⟨x, l, rfl, _⟩ := hc c List.mem_cons_self
              have := ih fun c h => hc c (List.mem_cons_of_mem _ h)
              rw [List.flatten_cons, List.length_append, List.length_cons, List.length_cons]
              omega
          exact this C pt.cyc
        have h3 := pt.nd.length_le_of_subset (l₂ := row) pt.sub
        omega
      generalize hL : (row.filter fun z => decide (z ∉ C.flatten)) = left at eg
      refine ⟨_, rfl, !(left.map V.int).isEmpty, .inl ⟨_, SqL.of eg, rfl⟩, ?_⟩
      refine ite2 (fun c => ?_) (fun c => ?_)
      · obtain ⟨x, l0, rfl⟩ : ∃ x l0, left = x :: l0 := by
          cases left with
          | nil => simp at c
          | cons x l0 => exact ⟨x, l0, rfl⟩
        have hx : x ∈ row ∧ x ∉ C.flatten := by
          have h1 : x ∈ row.filter fun z => decide (z ∉ C.flatten) := by rw [hL]; exact List.mem_cons_self
          have h2 := List.mem_filter.mp h1
          exact ⟨h2.1, of_decide_eq_true h2.2⟩
        refine ⟨fun σ' H'' => lenOf 2 σ' H'' < _ ∧ _, fun σ' H'' h => ⟨_, h.1, rfl, h.2⟩, ?_⟩
        refine ⟨_, rfl, _, rfl, g, _, 0, V.int x, rfl, rfl, SqL.of eg, atI_nat (j := 0) rfl, p, row, n, x, rfl, sk.same sm, n1, n6, pm, hx.1, fun l q H3 hch hnd hsub s3 e3 => ?_⟩
        have ef3 := s3 _ _ ef
        have eg3 := s3 _ _ eg
        refine ⟨_, rfl, .inl ⟨rfl, _, SqL.of ef3⟩, _, rfl, q, x :: l, rfl, SqT.of e3, (by simp), (by have := hnd.length_le_of_subset (l₂ := row) hsub; omega), fun t H4 s4 ht => ?_⟩
        have ef4 := s4 _ _ ef3
        have eg4 := s4 _ _ eg3
        have e4 := s4 _ _ e3
        refine ⟨f, _, _, rfl, rfl, ef4, by rw [List.length_map]; exact small1000 (by omega), ?_⟩
        have lne : leastT (x :: l) ≠ [] := fun z => by
          have := (turn_nil (leastT_turn (ns := x :: l) (by simp))).mpr z
          exact absurd this (by simp)
        have pt2 := pt.add inj hx.2 hch hnd hsub
        have ef5 : (upd H4 f (.lst (bs.map (fun b => V.ref b.1) ++ [V.ref t]))) f = some (.lst ((bs ++ [(t, leastT (x :: l))]).map fun b => V.ref b.1)) := by
          rw [upd_same, List.map_append]
          rfl
        have eg5 : (upd H4 f (.lst (bs.map (fun b => V.ref b.1) ++ [V.ref t]))) g = some (.lst ((x :: l0).map V.int)) := by
          rw [upd_ne (fun z => nfg z.symm)]
          exact eg4
        have e5 : (upd H4 f (.lst (bs.map (fun b => V.ref b.1) ++ [V.ref t]))) q = some (.tup ((x :: l).map V.int)) := by
          rw [upd_ne (fun z => by rw [z] at e4; rw [e4] at ef4; cases ef4)]
          exact e4
        have s5 : Same H (upd H4 f (.lst (bs.map (fun b => V.ref b.1) ++ [V.ref t]))) := fun b o hb => by
          rw [upd_ne (ne_of_none hb hf)]
          exact s4 _ _ (s3 _ _ (sm _ _ hb))
        have hb5 : ∀ b ∈ bs ++ [(t, leastT (x :: l))], b.2 ≠ [] ∧ SqT K (upd H4 f (.lst (bs.map (fun b => V.ref b.1) ++ [V.ref t]))) b.1 (b.2.map V.int) := fun b hm => by
          rcases List.mem_append.mp hm with hm | hm
          · exact ⟨(hb b hm).1, sqT_put (same_seqT s4 (same_seqT s3 (hb b hm).2)) ef4⟩
          · rw [List.mem_singleton.mp hm]
            exact ⟨lne, sqT_put ht ef4⟩
        generalize upd H4 f (.lst (bs.map (fun b => V.ref b.1) ++ [V.ref t])) = H5 at ef5 eg5 e5 s5 hb5
        clear ef4 eg4 e4 ef3 eg3 e3 s4 s3 ht
        refine ⟨_, rfl, g, rfl, ⟨_, SqL.of eg5⟩, fun D1 hD1 => ?_⟩
        refine lc_list (K := K) (a := g) (xs := (x :: l0).map V.int) (fun i H' => H' D1 = some (.lst ((((x :: l0).take i).filter fun z => decide (z ∉ x :: l)).map V.int)) ∧ Same H5 H')
          ⟨upd_same, same_new hD1⟩ (fun i H' _ z => SqL.of (z.2 _ _ eg5)) ?_ ?_
        · rintro i y H' hi ⟨h1, s6⟩
          obtain ⟨z, rfl, hz⟩ := ints_at hi
          refine ⟨rfl, _, rfl, _, rfl, q, _, rfl, .inr (SqT.of (s6 _ _ e5)), rfl, flat_ints _, _, rfl, ?_⟩
          have ez : (!inV (.int z) ((x :: l).map V.int)) = decide (z ∉ x :: l) := by
            rw [inV_ints]
            simp
          have et : (x :: l0).take (i + 1) = (x :: l0).take i ++ [z] := by rw [List.take_add_one, hz]; rfl
          show if (!inV (.int z) ((x :: l).map V.int)) = true then _ else _
          rw [ez]
          by_cases hm : z ∉ x :: l
          · rw [decide_eq_true hm, if_pos rfl]
            refine ⟨_, rfl, _, h1, ?_, ?_, fun b o hb => ?_⟩
            · rw [List.length_map]
              have h3 := List.length_filter_le (fun z => decide (z ∉ x :: l)) ((x :: l0).take i)
              have h4 := List.length_take_le' i (x :: l0)
              have h5 : (x :: l0).length ≤ row.length := by rw [← hL]; exact List.length_filter_le _ _
              exact small1000 (by omega)
            · rw [upd_same, et, List.filter_append, List.map_append, List.filter_cons_of_pos (by simpa using hm)]
              rfl
            · rw [upd_ne (ne_of_none hb hD1)]
              exact s6 b o hb
          · rw [decide_eq_false hm, if_neg (by decide)]
            refine ⟨?_, s6⟩
            rw [h1, et, List.filter_append, List.filter_cons_of_neg (by simpa using hm), List.filter_nil, List.append_nil]
        · rintro H' ⟨h1, s6⟩
          have e6 : ((x :: l0).take ((x :: l0).map V.int).length) = x :: l0 := List.take_of_length_le (by rw [List.length_map]; exact Nat.le_refl _)
          rw [e6, ← hL, List.filter_filter] at h1
          have e7 : (row.filter fun z => decide (z ∉ (C ++ [x :: l]).flatten)) = row.filter fun z => decide (z ∉ x :: l) && decide (z ∉ C.flatten) := by
            refine List.filter_congr fun z _ => ?_
            by_cases u : z ∈ C.flatten <;> by_cases v : z ∈ x :: l <;> simp only [Cy.flatten_snoc, List.mem_append, u, v, true_or, or_true, or_false, false_or, not_true, not_false_eq_true, decide_true, decide_false, Bool.and_true, Bool.and_false, Bool.true_and, Bool.false_and]
          rw [← e7] at h1
          refine ⟨?_, D1, C ++ [x :: l], bs ++ [(t, leastT (x :: l))], _, _, rfl, fun z => ?_, s6 _ _ ef5, fun b hm => ⟨(hb5 b hm).1, same_seqT s6 (hb5 b hm).2⟩, ?_, h1, pt2, s5.trans s6⟩
          · rw [lenOf_of (i := 2) (f := D1) rfl h1, lenOf_of (i := 2) (f := g) rfl eg, List.length_map, List.length_map, e7, ← List.filter_filter, hL, List.filter_cons_of_neg (by simp)]
            have := List.length_filter_le (fun z => decide (z ∉ x :: l)) l0
            rw [List.length_cons]
            omega
          · rw [z] at ef5
            rw [ef5] at hD1
            cases hD1
          · rw [List.map_append, List.map_append, em]
            rfl
      · have hnil : left = [] := by
          cases left with
          | nil => rfl
          | cons x l0 => exact absurd rfl c
        subst hnil
        have all : ∀ z ∈ row, z ∈ C.flatten := fun z hz => Classical.byContradiction fun q => by
          have : z ∈ row.filter fun z => decide (z ∉ C.flatten) := List.mem_filter.mpr ⟨hz, decide_eq_true q⟩
          rw [hL] at this
          cases this
        have cy := pt.done ndr all
        refine ⟨_, rfl, f, bs, rfl, SqL.of ef, hb, fun bs' q pb pw hq => ?_⟩
        refine k bs' q _ ⟨C, cy, ?_, List.pairwise_map.mpr pw⟩ (sm.trans (same_new hq)) ?_ ⟨upd_same, fun b hm => same_seqT (same_new hq) (hb b (pb.mem_iff.mp hm)).2⟩
        · rw [← em]
          exact pb.map _
        · cases e : H q with
          | none => rfl
          | some o =>
            have := sm _ _ e
            rw [hq] at this
            cases this
end
end Tt
set_option maxRecDepth 100000
set_option maxHeartbeats 4000000
namespace Tt
open PySem L2
section
variable {P : Program} {w : World} {K : PySem.W.Frag} {mg : Str → Option Value} {base : Heap}
def spGenus (T : Txt K mg) : Sp := fun vs H Q E => ∃ (v : V), vs = [v] ∧ ((SkV T H v false ∧ SkErr T H E) ∨ ∃ (p : Addr) (row : List Int) (n : Nat), v = .ref p ∧ SkAt T H p row ∧ 1 ≤ n ∧ n ≤ 6 ∧ row.Perm (rgI (2 * n)) ∧
  ∀ (R : List (List Int)) H', RimsOf row R → Same H H' → Q (.int (((n : Int) + 1 - (R.length : Int)) / 2)) H')
theorem ok_genus (T : Txt K mg) : FnOk P w K mg base (L2.CX P w) 5 T.genus.a T.genus.fd ["skin"] (spGenus T) := by
  refine T.genus.F.okX sc_genus (fun vs H Q E h => ?_) (fun cdv A outer s H vs Q E hr h => ?_)
  · obtain ⟨v, rfl, _⟩ := h
    rfl
  · obtain ⟨v, rfl, h⟩ := h
    have nd := sc_genus.nd
    refine ⟨_, (pss_cons (ps_expr (pe_callS (ok_check_skin T) (hr.mono (by decide)) (by rfl) T.check_skin.g T.check_skin.k T.check_skin.b (fun σ => passAt (takes_of rfl rfl rfl rfl) σ) (pa_cons (pv 0) pa_nil)))
    (pss_one (ps_ret (pe_op op_fdiv (pe_op op_sub (pe_op op_add (pe_fld (pv 0) rfl) pe_int) (pe_callB call_len_seq (by rfl) T.zlen (by decide +kernel) (pa_cons (pe_callS (ok_rims T) (hr.mono (by decide)) (by rfl) T.rims.g T.rims.k T.rims.b (fun σ => passAt (takes_of rfl rfl rfl rfl) σ) (pa_cons (pv 0) pa_nil)) pa_nil))) pe_int)))), ?_⟩
    rcases h with ⟨hv, he⟩ | ⟨p, row, n, rfl, sk, n1, n6, pm, k⟩
    · exact ⟨v, rfl, v, false, rfl, hv, (fun z => nomatch z), fun _ => he⟩
    · refine ⟨_, rfl, _, true, rfl, sk.v, (fun _ => ?_), fun z => nomatch z⟩
      obtain ⟨dx, r, q0, a1, a2, a3⟩ := id sk
      refine ⟨_, rfl, p, T.Skin.C, dx, _, _, rfl, a1, T.Skin.c, nBands T, skF_bands .., _, _, rfl, rfl, ?_⟩
      refine ⟨_, rfl, _, rfl, .inr ⟨p, row, n, rfl, sk, n1, n6, pm, fun bs q H' hR s1 hq hb => ?_⟩⟩
      refine ⟨q, _, rfl, .inl (SqL.of hb.1), _, _, rfl, rfl, _, _, rfl, rfl, ⟨by decide, by decide⟩, ?_⟩
      have en : ((row.length / 2 : Nat) : Int) = (n : Int) := by
        have := perm_len pm
        omega
      rw [en, List.length_map]
      have := k _ H' hR s1
      rw [List.length_map] at this
      exact this
theorem ok_l_least_turn (T : Txt K mg) : FnOk P w K mg base CX0 2 T.l_least_turn.a T.l_least_turn.fd ["word_here"] (spLeast K) := by
  refine T.l_least_turn.F.ok sc_l_least_turn (fun vs H Q E h => ?_) (fun cdv A outer s H vs Q E hr h => ?_)
  · obtain ⟨p, ns, rfl, _⟩ := h
    rfl
  · obtain ⟨p, ns, rfl, hp, hne, hl, k⟩ := h
    have nd := sc_l_least_turn.nd
    refine ⟨_, (pss_one (ps_ret (pe_callB (cr_minT rfl hr.units) (by rfl) T.zmin (by decide +kernel) (pa_cons (pe_lc (own := [("at", 1)]) (g := gName 1) rfl nd (pi_range1 rfl T.zrange (pa_cons (pe_callB call_len_seq (by rfl) T.zlen (by decide +kernel) (pa_cons (pv 0) pa_nil)) pa_nil)) (blkOk_by (own := [("at", 1)]) (N := N_l_least_turn) (sc := defScope s_l_least_turn) (by decide +kernel)) (fun _ _ _ _ _ => pg_name (i := 1) nd rfl (Or.inl rfl)) (fun _ _ _ _ _ => pts_nil) (fun _ _ _ _ _ => (pe_op (op_catAK (K := K) rfl) (pe_slice (sl_tupAK (K := K) rfl) (pv 0) (po_some (pv 1)) po_none) (pe_slice (sl_tupAK (K := K) rfl) (pv 0) po_none (po_some (pv 1)))))) pa_nil)))), ?_⟩
    refine ⟨_, rfl, p, _, rfl, .inr hp, _, rfl, by omega, by rw [List.length_map]; omega, fun D1 hD1 => ?_⟩
    refine lc_range (lo := 0) (n := ((ns.map V.int).length : Int).toNat) (fun i H' => ∃ ps : List Addr, H' D1 = some (.lst (ps.map V.ref)) ∧ Paired (fun p m => SqT K H' p (m.map V.int)) ps ((turns ns).take i) ∧ Same H H')
      ⟨[], upd_same, .nil, same_new hD1⟩ ?_ ?_
    · rintro i H' hi ⟨ps, h1, h2, s2⟩
      have hi2 : i < ns.length := by rw [List.length_map] at hi; omega
      have hpl : ps.length = i := by
        have := h2.length
        rw [List.length_take, turns_len] at this
        omega
      refine ⟨rfl, yes_t ?_⟩
      refine ⟨_, rfl, _, rfl, (i : Int), by rw [Int.zero_add], noPart_i ?_⟩
      refine slT_genD (K := K) (same_seqT s2 hp) fun b1 H2 s3 hb1 => ?_
      refine ⟨_, rfl, noPart_i ⟨_, rfl, (i : Int), by rw [Int.zero_add], ?_⟩⟩
      refine slT_gen (K := K) (same_seqT (s2.trans s3) hp) fun b2 H3 s4 hb2 => ?_
      refine catA_gen (K := K) (same_seqT s4 hb1) hb2 ?_ fun c H4 s5 hc => ?_
      · rw [List.length_drop, List.length_take, List.length_map]
        exact Nat.le_of_lt (small1000 (by omega))
      have sA : Same H' H4 := (s3.trans s4).trans s5
      have h4 := sA _ _ h1
      refine ⟨_, h4, by rw [List.length_map]; exact small1000 (by omega), ps ++ [c], ?_, ?_, fun b o hb => ?_⟩
      · rw [upd_same, List.map_append]
        rfl
      · rw [List.take_add_one, turns_get hi2]
        refine pair_snoc (pair_mono (fun a m z => sqT_put (same_seqT sA z) h4) h2) ?_
        refine sqT_put ?_ h4
        have e : (turnAt ns i).map V.int = (ns.map V.int).drop i ++ (ns.map V.int).take i := by
          unfold turnAt
          rw [List.map_append, List.map_drop, List.map_take]
        rw [e]
        exact hc
      · rw [upd_ne (ne_of_none hb hD1)]
        exact sA _ _ (s2 _ _ hb)
    · rintro H' ⟨ps, h1, h2, s2⟩
      have e : (turns ns).take ((ns.map V.int).length : Int).toNat = turns ns := List.take_of_length_le (by rw [turns_len, List.length_map]; omega)
      rw [e] at h2
      have hl2 := turns_len ns
      cases ht : turns ns with
      | nil =>
        rw [ht] at hl2
        exact absurd (List.length_eq_zero_iff.mp hl2.symm) hne
      | cons r0 rs =>
        rw [ht] at h2
        refine ⟨D1, ps, r0, rs, rfl, SqL.of h1, h2, fun i q hq hm => k q H' s2 ?_⟩
        have hi : i < (r0 :: rs).length := by
          rw [← h2.length]
          exact (List.getElem?_eq_some_iff.mp hq).1
        have em := hm _ (List.getElem?_eq_getElem hi)
        rw [minR_D] at em
        have e2 := rowD_inj em
        have e3 := pair_at h2 hq (List.getElem?_eq_getElem hi)
        rw [e2] at e3
        have e4 : leastT ns = minR r0 rs := by
          unfold leastT
          rw [ht]
        rw [e4]
        exact e3
end
end Tt
set_option maxRecDepth 100000
set_option maxHeartbeats 4000000
namespace Tt
open PySem L2
section
variable {P : Program} {w : World} {K : PySem.W.Frag} {mg : Str → Option Value} {base : Heap}
def leftOf (row F : List Int) : List Int := (rgI row.length).filter fun z => decide (eAt row z.toNat ∉ F)
theorem rgI_mem {n : Nat} {x : Int} : x ∈ rgI n ↔ ∃ s : Nat, s < n ∧ x = (s : Int) := by
  unfold rgI
  rw [List.mem_map]
  constructor
  · rintro ⟨a, ha, rfl⟩
    exact ⟨a, List.mem_range.mp ha, rfl⟩
  · rintro ⟨s, hs, rfl⟩
    exact ⟨s, List.mem_range.mpr hs, rfl⟩
theorem rgI_nodup (n : Nat) : (rgI n).Nodup := row_nodup (List.Perm.refl (rgI n))
theorem leftOf_mem {row F : List Int} {s : Nat} (hs : s < row.length) : (s : Int) ∈ leftOf row F ↔ eAt row s ∉ F := by
  unfold leftOf
  rw [List.mem_filter]
  constructor
  · rintro ⟨_, h⟩
    simpa using h
  · intro h
    exact ⟨rgI_mem.mpr ⟨s, hs, rfl⟩, by simpa using h⟩
theorem leftOf_sub {row F : List Int} {z : Int} (h : z ∈ leftOf row F) : ∃ s : Nat, s < row.length ∧ z = (s : Int) ∧ eAt row s ∉ F := by
  unfold leftOf at h
  obtain ⟨h1, h2⟩ := List.mem_filter.mp h
  obtain ⟨s, hs, rfl⟩ := rgI_mem.mp h1
  exact ⟨s, hs, rfl, by simpa using h2⟩
theorem leftOf_nodup (row F : List Int) : (leftOf row F).Nodup := (rgI_nodup _).filter _
theorem leftOf_take {row F : List Int} (nd : row.Nodup) {s : Nat} (hs : s < row.length) : (leftOf row F).erase (s : Int) = leftOf row (F ++ [eAt row s]) := by
  rw [(leftOf_nodup row F).erase_eq_filter]
  unfold leftOf
  rw [List.filter_filter]
  refine List.filter_congr fun z hz => ?_
  obtain ⟨t, ht, rfl⟩ := rgI_mem.mp hz
  show ((t : Int) != (s : Int) && decide (eAt row t ∉ F)) = decide (eAt row t ∉ F ++ [eAt row s])
  by_cases e : t = s
  · subst e
    simp
  · have e2 : eAt row t ≠ eAt row s := fun q => e (eAt_inj nd ht hs q)
    have e3 : ((t : Int) != (s : Int)) = true := by simpa using fun q : (t : Int) = (s : Int) => e (by omega)
    rw [e3, Bool.true_and]
    simp [e2]
theorem leftOf_nil {row F : List Int} (nd : row.Nodup) (h : leftOf row F = []) : ∀ z ∈ row, z ∈ F := fun z hz => Classical.byContradiction fun q => by
  obtain ⟨s, hs, e⟩ := eAt_onto nd hz
  have := (leftOf_mem (F := F) hs).mpr (by rw [e]; exact q)
  rw [h] at this
  cases this
def Pth (row : List Int) (x : Int) (W : List Int) (y : Int) : Prop := (W = [] ∧ y = x) ∨ ∃ l, W = x :: l ∧ Cy.Ch (nx row) x l y ∧ (x :: l).Nodup ∧ ∀ z ∈ x :: l, z ∈ row
theorem Pth.len {row : List Int} {x y : Int} {W : List Int} (h : Pth row x W y) : W.length ≤ row.length := by
  rcases h with ⟨rfl, _⟩ | ⟨l, rfl, _, nd, sub⟩
  · exact Nat.zero_le _
  · exact nd.length_le_of_subset sub
section
variable {row : List Int} {n : Nat} {C : List (List Int)} {x y : Int} {W : List Int}
theorem Pth.mem (pm : row.Perm (rgI (2 * n))) (n1 : 1 ≤ n) (hx : x ∈ row) (h : Pth row x W y) : y ∈ row := by
  rcases h with ⟨_, rfl⟩ | ⟨l, _, ch, _, _⟩
  · exact hx
  · obtain ⟨a, _, ea⟩ := Cy.ch_pre ch
    rw [← ea]
    exact nx_mem pm n1 a
theorem Pth.test (pm : row.Perm (rgI (2 * n))) (pt : Cy.Part row (nx row) C) (hx : x ∉ C.flatten) (h : Pth row x W y) :
    (y ∉ C.flatten ++ W ∧ (W ≠ [] → y ≠ x)) ∨ (y ∈ C.flatten ++ W ∧ y = x ∧ ∃ l, W = x :: l ∧ Cy.Ch (nx row) x l x ∧ (x :: l).Nodup ∧ ∀ z ∈ x :: l, z ∈ row) := by
  have inj := nx_inj pm
  rcases h with ⟨rfl, rfl⟩ | ⟨l, rfl, ch, nd, sub⟩
  · exact .inl ⟨by simpa using hx, fun z => absurd rfl z⟩
  · by_cases e : y = x
    · subst e
      exact .inr ⟨List.mem_append_right _ List.mem_cons_self, rfl, l, rfl, ch, nd, sub⟩
    · have off := (Cy.ch_off (pt.closed inj) ch sub hx).2
      have fr := Cy.ch_fresh inj ch nd sub e
      refine .inl ⟨fun z => ?_, fun _ => e⟩
      rcases List.mem_append.mp z with z | z
      · exact off z
      · exact fr z
theorem Pth.next (hy : y ∈ row) (h : Pth row x W y) (hn : y ∉ W) : Pth row x (W ++ [y]) (nx row y) := by
  rcases h with ⟨rfl, rfl⟩ | ⟨l, rfl, ch, nd, sub⟩
  · exact .inr ⟨[], rfl, rfl, List.pairwise_singleton _ _, fun z hz => by rw [List.mem_singleton.mp hz]; exact hy⟩
  · refine .inr ⟨l ++ [y], rfl, Cy.ch_snoc ch rfl, ?_, fun z hz => ?_⟩
    · rw [← List.cons_append]
      refine List.nodup_append.mpr ⟨nd, List.pairwise_singleton _ _, fun a ha b hb => ?_⟩
      rw [List.mem_singleton.mp hb]
      exact fun q => hn (q ▸ ha)
    · rw [← List.cons_append] at hz
      rcases List.mem_append.mp hz with hz | hz
      · exact sub z hz
      · rw [List.mem_singleton.mp hz]
        exact hy
end
def spLRims (K : PySem.W.Frag) : Sp := fun vs H Q _ => ∃ (p : Addr) (row : List Int) (n : Nat), vs = [.ref p] ∧ SqT K H p (row.map V.int) ∧ 1 ≤ n ∧ n ≤ 6 ∧ row.Perm (rgI (2 * n)) ∧
  ∀ (bs : List (Addr × List Int)) q H', RimsOf row (bs.map (·.2)) → Same H H' → H q = none → RowsAt K H' q bs → Q (.ref q) H'
theorem ok_l_rims (T : Txt K mg) : FnOk P w K mg base CX0 3 T.l_rims.a T.l_rims.fd ["line"] (spLRims K) := by
  refine T.l_rims.F.ok sc_l_rims (fun vs H Q E h => ?_) (fun cdv A outer s H vs Q E hr h => ?_)
  · obtain ⟨p, row, n, rfl, _⟩ := h
    rfl
  · obtain ⟨p, row, n, rfl, hp, n1, n6, pm, k⟩ := h
    have nd := sc_l_rims.nd
    have hu := hu_of hr
    have lm : (row.map V.int).length = row.length := List.length_map ..
    have hlen := perm_len pm
    refine ⟨_, (pss_cons (ps_par3 (i := 1) (j := 2) (l := 3) rfl nd rfl rfl rfl (by decide) (by decide) (by decide) rfl rfl rfl (pa_cons (pe_callB call_len_seq (by rfl) T.zlen (by decide +kernel) (pa_cons (pv 0) pa_nil)) (pa_cons (pe_listRg rfl (by rfl) T.zlist (prg_1 (by rfl) T.zrange (pe_callB call_len_seq (by rfl) T.zlen (by decide +kernel) (pa_cons (pv 0) pa_nil)))) (pa_cons (pe_lst pa_nil) pa_nil))) rfl)
    (pss_cons (ps_while PassesOwn.never (pt_cmpR (op_neD hr.units) (pv 2) (pe_lst pa_nil) (nomark _))
      (pss_cons (ps_par (i := 4) (j := 5) rfl nd rfl rfl (by decide) rfl rfl (pa_cons (pe_ix ix_list (pv 2) pe_int (fun _ _ => rfl)) (pa_cons (pe_lst pa_nil) pa_nil)) rfl)
      (pss_cons (ps_while PassesOwn.never (pt_cmpR op_in_seq (pv 4) (pv 2) rfl)
        (pss_cons (ps_expr (pe_bm PySem.F.plainAttrs_list PySem.F.slot_list_remove PySem.F.type_list_remove mt_remove (pv 2) (pa_cons (pv 4) pa_nil)))
        (pss_cons (ps_set (i := 6) nd rfl (Or.inl rfl) (pe_ix ix_tup (pv 0) (pe_op op_mod (pe_callTy call_int1 (by rfl) T.zint (by decide +kernel) (pa_cons (pe_op op_add (pv 4) pe_int) pa_nil)) (pv 1)) (fun _ _ => rfl)))
        (pss_cons (ps_expr (pe_bm PySem.F.plainAttrs_list PySem.F.slot_list_append PySem.F.type_list_append mt_append (pv 5) (pa_cons (pv 6) pa_nil)))
        (pss_one (ps_set (i := 4) nd rfl (Or.inl rfl) (pe_bm PySem.F.plainAttrs_list PySem.F.slot_list_index PySem.F.type_list_index mt_index (pe_callTy call_list_of (by rfl) T.zlist (by decide +kernel) (pa_cons (pv 0) pa_nil)) (pa_cons (pe_call (ok_l_mate T) (hr.mono (by decide)) (by rfl) T.l_mate.g T.l_mate.k T.l_mate.b .nil pass0 (pa_cons (pv 6) pa_nil)) pa_nil))))))))
      (pss_one (ps_expr (pe_bm PySem.F.plainAttrs_list PySem.F.slot_list_append PySem.F.type_list_append mt_append (pv 3) (pa_cons (pe_call (ok_l_least_turn T) (hr.mono (by decide)) (by rfl) T.l_least_turn.g T.l_least_turn.k T.l_least_turn.b .nil pass0 (pa_cons (pe_callTy call_tuple_of (by rfl) T.ztuple (by decide +kernel) (pa_cons (pv 5) pa_nil)) pa_nil)) pa_nil)))))))
    (pss_one (ps_ret (pe_callB (cr_sortedT hr.units) (by rfl) T.zsorted (by decide +kernel) (pa_cons (pv 3) pa_nil)))))), ?_⟩
    refine ⟨_, rfl, p, _, rfl, .inr hp, _, rfl, p, _, rfl, .inr hp, _, rfl, RgOk.of_le (by omega) ?_ (by omega) (by omega), fun g hg => ?_⟩
    · rw [lm]
      omega
    have s1 : Same H (upd H g (.lst (rgV 0 ((row.map V.int).length : Int)))) := same_new hg
    have g1 : (upd H g (.lst (rgV 0 ((row.map V.int).length : Int)))) g = some (.lst ((leftOf row []).map V.int)) := by
      have e : leftOf row [] = rgI row.length := List.filter_eq_self.mpr (by simp)
      rw [upd_same, rgV_rgI (by omega), lm, e, Int.toNat_natCast]
    generalize upd H g (.lst (rgV 0 ((row.map V.int).length : Int))) = H1 at s1 g1
    refine ⟨(by show 0 ≤ sizeLine; decide), fun f hf1 => ?_⟩
    have hf : H f = none := by
      cases e : H f with
      | none => rfl
      | some o => rw [s1 _ _ e] at hf1; cases hf1
    have nfg : f ≠ g := fun z => by rw [z, g1] at hf1; cases hf1
    have s2 : Same H (upd H1 f (.lst [])) := s1.trans (same_new hf1)
    have e2 : (upd H1 f (.lst [])) f = some (.lst []) := upd_same
    have g2 : (upd H1 f (.lst [])) g = some (.lst ((leftOf row []).map V.int)) := upk hf1 g1
    generalize upd H1 f (.lst []) = H2 at s2 e2 g2
    clear s1 g1 hf1
    refine ⟨_, _, _, rfl, ?_⟩
    rw [lm]
    dsimp only [tSeq]
    have ndr := row_nodup pm
    have hne := row_ne pm n1
    refine while_by3 (fun σ H' => ∃ (C : List (List Int)) (bs : List (Addr × List Int)) (v4 v5 v6 : Option V), σ = [some (.ref p), some (.int (row.length : Int)), some (.ref g), some (.ref f), v4, v5, v6] ∧ H' f = some (.lst (bs.map fun b => V.ref b.1)) ∧ (∀ b ∈ bs, b.2 ≠ [] ∧ SqT K H' b.1 (b.2.map V.int)) ∧ bs.map (·.2) = C.map leastT ∧
      H' g = some (.lst ((leftOf row C.flatten).map V.int)) ∧ Cy.Part row (nx row) C ∧ Same H H') (lenOf 2)
      ⟨[], [], none, none, none, rfl, e2, (fun _ h => absurd h (by simp)), rfl, g2, Cy.Part.nil _ _, s2⟩ ?_
    rintro σ H' ⟨C, bs, v4, v5, v6, rfl, ef, hb, em, eg, pt, sm⟩
    have hbl : bs.length ≤ 12 := by
      have h1 := congrArg List.length em
      rw [List.length_map, List.length_map] at h1
      have h2 : ∀ R : List (List Int), (∀ c ∈ R, Cy.Cyc (nx row) c) → R.length ≤ R.flatten.length := fun R => by
        induction R with
        | nil => exact fun _ => Nat.le_refl _
        | cons c R ih =>
          intro hc
          obtain ⟨x, l, rfl, _⟩ := hc c List.mem_cons_self
          have := ih fun c h => hc c (List.mem_cons_of_mem _ h)
          rw [List.flatten_cons, List.length_append, List.length_cons, List.length_cons]
          omega
      have h4 := h2 C pt.cyc
      have h3 := pt.nd.length_le_of_subset (l₂ := row) pt.sub
      omega
    refine ⟨_, rfl, (by show 0 ≤ sizeLine; decide), fun e he => ?_⟩
    have nge : e ≠ g := fun z => by rw [z, eg] at he; cases he
    have nfe : e ≠ f := fun z => by rw [z, ef] at he; cases he
    have ef0 : (upd H' e (.lst [])) f = _ := upk he ef
    have eg0 : (upd H' e (.lst [])) g = _ := upk he eg
    have hb0 : ∀ b ∈ bs, b.2 ≠ [] ∧ SqT K (upd H' e (.lst [])) b.1 (b.2.map V.int) := fun b hm => ⟨(hb b hm).1, same_seqT (same_new he) (hb b hm).2⟩
    have sm0 : Same H (upd H' e (.lst [])) := sm.trans (same_new he)
    have ee : (upd H' e (.lst [])) e = some (.lst []) := upd_same
    have lo : lenOf 2 [some (.ref p), some (.int (row.length : Int)), some (.ref g), some (.ref f), v4, v5, v6] H' = (leftOf row C.flatten).length := by rw [lenOf_of (i := 2) (f := g) rfl eg, List.length_map]
    generalize upd H' e (.lst []) = H0 at ef0 eg0 hb0 sm0 ee
    refine ⟨_, _, .lst (SqL.of eg0) (dpAll_ints _ _), .lst (SqL.of ee) .nil, shapedAll_ints _, rfl, _, rfl, ?_⟩
    rw [eqv_nil]
    clear ef eg hb sm he ee nge nfe
    refine ite2 (fun c => ?_) (fun c => ?_)
    · have hnl : leftOf row C.flatten ≠ [] := by simpa using c
      obtain ⟨z0, l0, hL⟩ : ∃ z0 l0, leftOf row C.flatten = z0 :: l0 := by
        cases h : leftOf row C.flatten with
        | nil => exact absurd h hnl
        | cons a b => exact ⟨a, b, rfl⟩
      obtain ⟨s0, hs0, rfl, hx⟩ := leftOf_sub (row := row) (F := C.flatten) (z := z0) (by rw [hL]; exact List.mem_cons_self)
      have hxr := eAt_mem hne s0
      generalize hxe : eAt row s0 = x at hx hxr
      refine ⟨fun σ' H'' => lenOf 2 σ' H'' < _ ∧ _, fun σ' H'' h => ⟨_, h.1, rfl, h.2⟩, ?_⟩
      have at0 : atI ((leftOf row C.flatten).map V.int) 0 = some (V.int (s0 : Int)) := by
        rw [hL]
        exact atI_nat (j := 0) rfl
      refine ⟨_, rfl, g, _, 0, _, rfl, rfl, SqL.of eg0, at0, (by show 0 ≤ sizeLine; decide), fun h hh0 => ?_⟩
      have hh : H h = none := by
        cases e : H h with
        | none => rfl
        | some o => rw [sm0 _ _ e] at hh0; cases hh0
      have nhg : h ≠ g := fun z => by rw [z, eg0] at hh0; cases hh0
      have nhf : h ≠ f := fun z => by rw [z, ef0] at hh0; cases hh0
      have ef1 : (upd H0 h (.lst [])) f = _ := upk hh0 ef0
      have eg1 : (upd H0 h (.lst [])) g = some (.lst ((leftOf row (C.flatten ++ [])).map V.int)) := by rw [List.append_nil]; exact upk hh0 eg0
      have eh1 : (upd H0 h (.lst [])) h = some (.lst (([] : List Int).map V.int)) := upd_same
      have hb1 : ∀ b ∈ bs, b.2 ≠ [] ∧ SqT K (upd H0 h (.lst [])) b.1 (b.2.map V.int) := fun b hm => ⟨(hb0 b hm).1, same_seqT (same_new hh0) (hb0 b hm).2⟩
      have sm1 : Same H (upd H0 h (.lst [])) := sm0.trans (same_new hh0)
      generalize upd H0 h (.lst []) = H3 at ef1 eg1 eh1 hb1 sm1
      clear ef0 eg0 hb0 sm0 hh0
      refine ⟨_, _, rfl, ?_⟩
      dsimp only [tSeq]
      refine while_by3 (fun σ H' => ∃ (W : List Int) (s : Nat) (v6 : Option V), σ = [some (.ref p), some (.int (row.length : Int)), some (.ref g), some (.ref f), some (.int (s : Int)), some (.ref h), v6] ∧ s < row.length ∧ Pth row x W (eAt row s) ∧ H' f = some (.lst (bs.map fun b => V.ref b.1)) ∧ (∀ b ∈ bs, b.2 ≠ [] ∧ SqT K H' b.1 (b.2.map V.int)) ∧
        H' g = some (.lst ((leftOf row (C.flatten ++ W)).map V.int)) ∧ H' h = some (.lst (W.map V.int)) ∧ Same H H') (lenAt 5)
        ⟨[], s0, v6, rfl, hs0, .inl ⟨rfl, hxe⟩, ef1, hb1, eg1, eh1, sm1⟩ ?_
      clear ef1 eg1 eh1 hb1 sm1
      rintro σ H' ⟨W, s1, v6, rfl, hs1, hw, ef, hb, eg, eh, sm⟩
      have hyr := eAt_mem hne s1
      have hwl := hw.len
      refine ⟨_, rfl, _, rfl, g, _, rfl, .inl (SqL.of eg), rfl, flat_ints _, _, rfl, ?_⟩
      have et : inV (.int (s1 : Int)) ((leftOf row (C.flatten ++ W)).map V.int) = decide (eAt row s1 ∉ C.flatten ++ W) := by
        rw [inV_ints]
        exact decide_eq_decide.mpr (leftOf_mem hs1)
      show if inV (.int (s1 : Int)) ((leftOf row (C.flatten ++ W)).map V.int) = true then _ else _
      rw [et]
      rcases hw.test pm pt hx with ⟨hn, hn2⟩ | ⟨hn, hyx, l, rfl, ch, ndl, sub⟩
      · rw [decide_eq_true hn, if_pos rfl]
        refine ⟨fun σ' H'' => lenAt 5 σ' H'' < _ ∧ _, fun σ' H'' h => ⟨_, h.1, rfl, h.2⟩, ?_⟩
        obtain ⟨j, _, j2, j3, j4⟩ := first_at ((leftOf_mem (F := C.flatten ++ W) hs1).mpr hn)
        refine ⟨_, rfl, .inl ⟨rfl, _, SqL.of eg⟩, _, rfl, g, _, _, j, rfl, rfl, eg, j2, j3, ?_⟩
        rw [j4, leftOf_take ndr hs1, List.append_assoc]
        have ef1 : (upd H' g (.lst ((leftOf row (C.flatten ++ (W ++ [eAt row s1]))).map V.int))) f = _ := (upd_ne nfg).trans ef
        have eh1 : (upd H' g (.lst ((leftOf row (C.flatten ++ (W ++ [eAt row s1]))).map V.int))) h = _ := (upd_ne nhg).trans eh
        have eg1 : (upd H' g (.lst ((leftOf row (C.flatten ++ (W ++ [eAt row s1]))).map V.int))) g = _ := upd_same
        have hb1 : ∀ b ∈ bs, b.2 ≠ [] ∧ SqT K (upd H' g (.lst ((leftOf row (C.flatten ++ (W ++ [eAt row s1]))).map V.int))) b.1 (b.2.map V.int) := fun b hm => ⟨(hb b hm).1, sqT_put (hb b hm).2 eg⟩
        have sm1 : Same H (upd H' g (.lst ((leftOf row (C.flatten ++ (W ++ [eAt row s1]))).map V.int))) := fun b o hb => by
          rw [upd_ne (ne_of_none hb hg)]
          exact sm b o hb
        have lo2 : lenAt 5 [some (.ref p), some (.int (row.length : Int)), some (.ref g), some (.ref f), some (.int (s1 : Int)), some (.ref h), v6] H' = 1000 - W.length := by rw [lenAt_of (i := 5) (f := h) rfl eh, List.length_map]
        generalize upd H' g (.lst ((leftOf row (C.flatten ++ (W ++ [eAt row s1]))).map V.int)) = H4 at ef1 eh1 eg1 hb1 sm1
        refine ⟨_, rfl, _, rfl, _, _, rfl, rfl, .inl ⟨_, rfl, _, rfl, _, _, rfl, rfl, by omega, p, _, _, _, rfl, rfl, same_seqT sm1 hp, atI_nat (j := (s1 + 1) % row.length) (ints_get (eAt_get hne s1)), ?_⟩⟩
        refine ⟨_, rfl, .inl ⟨rfl, _, SqL.of eh1⟩, _, rfl, h, _, _, rfl, rfl, eh1, by rw [List.length_map]; exact small1000 (by omega), ?_⟩
        have e2 : W.map V.int ++ [V.int (eAt row s1)] = (W ++ [eAt row s1]).map V.int := by rw [List.map_append]; rfl
        rw [e2]
        have ef2 : (upd H4 h (.lst ((W ++ [eAt row s1]).map V.int))) f = _ := (upd_ne (fun z => nhf z.symm)).trans ef1
        have eg2 : (upd H4 h (.lst ((W ++ [eAt row s1]).map V.int))) g = _ := (upd_ne (fun z => nhg z.symm)).trans eg1
        have eh2 : (upd H4 h (.lst ((W ++ [eAt row s1]).map V.int))) h = _ := upd_same
        have hb2 : ∀ b ∈ bs, b.2 ≠ [] ∧ SqT K (upd H4 h (.lst ((W ++ [eAt row s1]).map V.int))) b.1 (b.2.map V.int) := fun b hm => ⟨(hb1 b hm).1, sqT_put (hb1 b hm).2 eh1⟩
        have sm2 : Same H (upd H4 h (.lst ((W ++ [eAt row s1]).map V.int))) := fun b o hb => by
          rw [upd_ne (ne_of_none hb hh)]
          exact sm1 b o hb
        generalize upd H4 h (.lst ((W ++ [eAt row s1]).map V.int)) = H5 at ef2 eg2 eh2 hb2 sm2
        have hm := mate_row pm hyr
        obtain ⟨i0, i1⟩ := idx_at hm
        refine ⟨_, rfl, p, _, rfl, .inr (same_seqT sm2 hp), fun c hc => ?_⟩
        refine ⟨.inl ⟨rfl, _, SqL.of upd_same⟩, _, rfl, _, rfl, c, _, _, row.idxOf (Wd.mate (eAt row s1)), _, rfl, rfl, SqL.of upd_same, rfl, flat_ints _, ints_get i0, (by simp [eqV]), fun m z' hm1 hz' => ?_, ?_⟩
        · obtain ⟨z, rfl, hz⟩ := ints_at hz'
          have := i1 m hm1
          rw [hz] at this
          have q : z ≠ Wd.mate (eAt row s1) := fun q => this (by rw [q])
          simpa [eqV] using q
        · have ef3 := upk (u := .lst (row.map V.int)) hc ef2
          have eg3 := upk (u := .lst (row.map V.int)) hc eg2
          have eh3 := upk (u := .lst (row.map V.int)) hc eh2
          refine ⟨?_, W ++ [eAt row s1], row.idxOf (Wd.mate (eAt row s1)), _, rfl, List.idxOf_lt_length_of_mem hm, ?_, ef3, fun b hm => ⟨(hb2 b hm).1, same_seqT (same_new hc) (hb2 b hm).2⟩, eg3, eh3, sm2.trans (same_new hc)⟩
          · rw [lo2, lenAt_of (i := 5) (f := h) rfl eh3]
            simp only [List.length_map, List.length_append, List.length_cons, List.length_nil]
            omega
          · have := hw.next hyr (fun z => hn (List.mem_append_right _ z))
            rw [eAt_idx]
            exact this
      · rw [decide_eq_false (fun z => z hn), if_neg (by decide)]
        refine ⟨_, rfl, .inl ⟨rfl, _, SqL.of ef⟩, _, rfl, h, _, rfl, .inl ⟨SqL.of eh, fun t ht => ?_⟩⟩
        refine ⟨t, x :: l, rfl, SqT.of upd_same, (by simp), by omega, fun q H4 s4 hq => ?_⟩
        have ef4 := s4 _ _ (upk (u := .tup ((x :: l).map V.int)) ht ef)
        have eg4 := s4 _ _ (upk (u := .tup ((x :: l).map V.int)) ht eg)
        have hb4 : ∀ b ∈ bs, b.2 ≠ [] ∧ SqT K H4 b.1 (b.2.map V.int) := fun b hm => ⟨(hb b hm).1, same_seqT s4 (same_seqT (same_new ht) (hb b hm).2)⟩
        have sm4 := (sm.trans (same_new (o := .tup ((x :: l).map V.int)) ht)).trans s4
        refine ⟨f, _, _, rfl, rfl, ef4, by rw [List.length_map]; exact small1000 (by omega), ?_⟩
        have lne : leastT (x :: l) ≠ [] := fun z => by
          have := (turn_nil (leastT_turn (ns := x :: l) (by simp))).mpr z
          exact absurd this (by simp)
        have pt2 := pt.add (nx_inj pm) hx ch ndl sub
        have ef5 : (upd H4 f (.lst (bs.map (fun b => V.ref b.1) ++ [V.ref q]))) f = some (.lst ((bs ++ [(q, leastT (x :: l))]).map fun b => V.ref b.1)) := by
          rw [upd_same, List.map_append]
          rfl
        have eg5 : (upd H4 f (.lst (bs.map (fun b => V.ref b.1) ++ [V.ref q]))) g = some (.lst ((leftOf row (C ++ [x :: l]).flatten).map V.int)) := by
          rw [upd_ne (fun z => nfg z.symm), Cy.flatten_snoc]
          exact eg4
        refine ⟨?_, C ++ [x :: l], bs ++ [(q, leastT (x :: l))], _, _, _, rfl, ef5, fun b hm => ?_, ?_, eg5, pt2, fun b o hb => ?_⟩
        · rw [lo, lenOf_of (i := 2) (f := g) rfl eg5, List.length_map]
          have sub2 : ∀ z ∈ (s0 : Int) :: leftOf row (C ++ [x :: l]).flatten, z ∈ leftOf row C.flatten := fun z hz => by
            rcases List.mem_cons.mp hz with rfl | hz
            · exact (leftOf_mem hs0).mpr (by rw [hxe]; exact hx)
            · obtain ⟨s2, hs2, rfl, q2⟩ := leftOf_sub hz
              refine (leftOf_mem hs2).mpr fun q3 => q2 ?_
              rw [Cy.flatten_snoc]
              exact List.mem_append_left _ q3
          have ndc : ((s0 : Int) :: leftOf row (C ++ [x :: l]).flatten).Nodup := by
            refine List.nodup_cons.mpr ⟨fun z => ?_, leftOf_nodup _ _⟩
            have := (leftOf_mem hs0).mp z
            rw [hxe, Cy.flatten_snoc] at this
            exact this (List.mem_append_right _ List.mem_cons_self)
          have := ndc.length_le_of_subset sub2
          rw [List.length_cons] at this
          exact this
        · rcases List.mem_append.mp hm with hm | hm
          · exact ⟨(hb4 b hm).1, sqT_put (hb4 b hm).2 ef4⟩
          · rw [List.mem_singleton.mp hm]
            exact ⟨lne, sqT_put hq ef4⟩
        · rw [List.map_append, List.map_append, em]
          rfl
        · rw [upd_ne (ne_of_none hb hf)]
          exact sm4 b o hb
    · have hnil : leftOf row C.flatten = [] := by simpa using c
      have cy := pt.done ndr (leftOf_nil ndr hnil)
      refine ⟨_, rfl, f, bs, rfl, SqL.of ef0, hb0, fun bs' q pb pw hq => ?_⟩
      refine k bs' q _ ⟨C, cy, ?_, List.pairwise_map.mpr pw⟩ (sm0.trans (same_new hq)) ?_ ⟨upd_same, fun b hm => same_seqT (same_new hq) (hb0 b (pb.mem_iff.mp hm)).2⟩
      · rw [← em]
        exact pb.map _
      · cases e : H q with
        | none => rfl
        | some o =>
          have := sm0 _ _ e
          rw [hq] at this
          cases this
end
end Tt
set_option maxRecDepth 100000
set_option maxHeartbeats 1000000
namespace Tt
open L2 Cy
abbrev Cor := Int × Int
def cors (row : List Int) : List Cor := row.flatMap fun e => [(e, 0), (e, 1)]
def ck (c : Cor) : List Key := [Sum.inl c.1, Sum.inl c.2]
theorem ck_inj {a b : Cor} (h : ck a = ck b) : a = b := by
  obtain ⟨a1, a2⟩ := a
  obtain ⟨b1, b2⟩ := b
  have h1 : a1 = b1 := Sum.inl.inj (List.cons.inj h).1
  have h2 : a2 = b2 := Sum.inl.inj (List.cons.inj (List.cons.inj h).2).1
  rw [h1, h2]
def dOf (cs : List Cor) (lab : Cor → Int) : List (List Key × V) := cs.map fun c => (ck c, V.int (lab c))
theorem dOf_get {cs : List Cor} {lab : Cor → Int} {c : Cor} (h : c ∈ cs) : valV (dOf cs lab) (ck c) = some (.int (lab c)) := by
  induction cs with
  | nil => cases h
  | cons d cs ih =>
    show valV ((ck d, V.int (lab d)) :: dOf cs lab) (ck c) = _
    by_cases e : d = c
    · subst e
      exact valV_pos rfl
    · rw [valV_neg (fun z => e (ck_inj z))]
      rcases List.mem_cons.mp h with h | h
      · exact absurd h.symm e
      · exact ih h
theorem dOf_none {cs : List Cor} {lab : Cor → Int} {c : Cor} (h : c ∉ cs) : valV (dOf cs lab) (ck c) = none := by
  induction cs with
  | nil => rfl
  | cons d cs ih =>
    show valV ((ck d, V.int (lab d)) :: dOf cs lab) (ck c) = _
    rw [valV_neg (fun z => h (by rw [← ck_inj z]; exact List.mem_cons_self))]
    exact ih fun z => h (List.mem_cons_of_mem _ z)
theorem dOf_new {cs : List Cor} {lab : Cor → Int} {c : Cor} (h : c ∉ cs) : putK (dOf cs lab) (ck c) (.int (lab c)) = dOf (cs ++ [c]) lab := by
  rw [putK_new _ (dOf_none h)]
  unfold dOf
  rw [List.map_append]
  rfl
theorem dOf_congr {cs : List Cor} {f g : Cor → Int} (h : ∀ c ∈ cs, f c = g c) : dOf cs f = dOf cs g := List.map_congr_left fun c hc => by rw [h c hc]
theorem dOf_put {cs : List Cor} {lab : Cor → Int} {c : Cor} (v : Int) (h : c ∈ cs) : putK (dOf cs lab) (ck c) (.int v) = dOf cs (fun d => if d = c then v else lab d) := by
  unfold putK
  rw [valV_any, dOf_get h]
  rw [if_pos (show (some (V.int (lab c))).isSome = true from rfl)]
  unfold dOf
  rw [List.map_map]
  refine List.map_congr_left fun d _ => ?_
  show (if ck d = ck c then (ck d, V.int v) else (ck d, V.int (lab d))) = (ck d, V.int (if d = c then v else lab d))
  by_cases e : d = c
  · rw [if_pos (by rw [e]), if_pos e]
  · rw [if_neg (fun z => e (ck_inj z)), if_neg e]
def relab (lab : Cor → Int) (old fresh : Int) : Cor → Int := fun c => if lab c = old then fresh else lab c
theorem relab_like {lab : Cor → Int} {old fresh : Int} {a b : Cor} (h : lab a = lab b) : relab lab old fresh a = relab lab old fresh b := by
  unfold relab
  rw [h]
theorem relab_join (lab : Cor → Int) (a b : Cor) : relab lab (lab a) (lab b) a = relab lab (lab a) (lab b) b := by
  unfold relab
  rw [if_pos rfl]
  split <;> rfl
def rep (row : List Int) (c : Cor) : Int := if c.2 = 0 then c.1 else nxt row c.1
def Sm (row : List Int) (C : List (List Int)) (a b : Cor) : Prop := ∀ c ∈ C, rep row a ∈ c ↔ rep row b ∈ c
theorem relab_sm {row : List Int} {C : List (List Int)} {lab : Cor → Int} {cs : List Cor} {x y : Cor} (hx : x ∈ cs) (hy : y ∈ cs) (h : ∀ a ∈ cs, ∀ b ∈ cs, lab a = lab b → Sm row C a b) (s : Sm row C x y) :
    ∀ a ∈ cs, ∀ b ∈ cs, relab lab (lab x) (lab y) a = relab lab (lab x) (lab y) b → Sm row C a b := fun a ha b hb e => by
  unfold relab at e
  by_cases e1 : lab a = lab x <;> by_cases e2 : lab b = lab x
  · exact h a ha b hb (e1.trans e2.symm)
  · rw [if_pos e1, if_neg e2] at e
    exact fun c hc => (h a ha x hx e1 c hc).trans ((s c hc).trans (h y hy b hb e c hc))
  · rw [if_neg e1, if_pos e2] at e
    exact fun c hc => (h a ha y hy e c hc).trans ((s c hc).symm.trans (h x hx b hb e2.symm c hc))
  · rw [if_neg e1, if_neg e2] at e
    exact h a ha b hb e
theorem cors_mem {row : List Int} {c : Cor} : c ∈ cors row ↔ c.1 ∈ row ∧ (c.2 = 0 ∨ c.2 = 1) := by
  unfold cors
  rw [List.mem_flatMap]
  constructor
  · rintro ⟨e, he, hc⟩
    rcases List.mem_cons.mp hc with rfl | hc
    · exact ⟨he, .inl rfl⟩
    · rw [List.mem_singleton.mp hc]
      exact ⟨he, .inr rfl⟩
  · obtain ⟨c1, c2⟩ := c
    rintro ⟨h1, h2 | h2⟩
    · refine ⟨c1, h1, ?_⟩
      have h3 : c2 = 0 := h2
      rw [h3]
      exact List.mem_cons_self
    · refine ⟨c1, h1, ?_⟩
      have h3 : c2 = 1 := h2
      rw [h3]
      exact List.mem_cons_of_mem _ List.mem_cons_self
theorem cors_snoc (row : List Int) (e : Int) : cors (row ++ [e]) = cors row ++ [(e, 0), (e, 1)] := by
  unfold cors
  rw [List.flatMap_append]
  simp
theorem cors_nodup {row : List Int} (nd : row.Nodup) : (cors row).Nodup := by
  induction row with
  | nil => exact List.Pairwise.nil
  | cons e row ih =>
    obtain ⟨h1, h2⟩ := List.nodup_cons.mp nd
    have e1 : cors (e :: row) = [(e, 0), (e, 1)] ++ cors row := rfl
    rw [e1]
    refine List.nodup_append.mpr ⟨?_, ih h2, fun a ha b hb q => ?_⟩
    · refine List.nodup_cons.mpr ⟨fun z => ?_, List.pairwise_singleton _ _⟩
      have := congrArg Prod.snd (List.mem_singleton.mp z)
      have h3 : (0 : Int) = 1 := this
      exact absurd h3 (by decide)
    · have hb' := (cors_mem.mp hb).1
      have ha' : a.1 = e := by
        rcases List.mem_cons.mp ha with rfl | ha
        · rfl
        · rw [List.mem_singleton.mp ha]
      rw [← q, ha'] at hb'
      exact h1 hb'
def prA (row : List Int) (i : Nat) : Cor × Cor := ((row.getD i 0, 1), (eAt row i, 0))
def prB (row : List Int) (i : Nat) : Cor × Cor := ((row.getD i 0, 0), (Wd.mate (row.getD i 0), 1))
def prsTo (row : List Int) (i : Nat) : List (Cor × Cor) := (List.range i).flatMap fun j => [prA row j, prB row j]
theorem prsTo_next (row : List Int) (i : Nat) : prsTo row (i + 1) = prsTo row i ++ [prA row i, prB row i] := by
  unfold prsTo
  rw [List.range_succ, List.flatMap_append]
  simp
theorem getD_of {row : List Int} {i : Nat} {x : Int} (h : row[i]? = some x) : row.getD i 0 = x := by
  rw [List.getD_eq_getElem?_getD, h]
  rfl
theorem prs_mem {row : List Int} {n : Nat} (pm : row.Perm (rgI (2 * n))) (n1 : 1 ≤ n) {p : Cor × Cor} (h : p ∈ prsTo row row.length) : ∃ e ∈ row, p = ((e, 1), (nxt row e, 0)) ∨ p = ((e, 0), (Wd.mate e, 1)) := by
  unfold prsTo at h
  obtain ⟨j, hj, hp⟩ := List.mem_flatMap.mp h
  have hj' := List.mem_range.mp hj
  have he : row[j]? = some row[j] := List.getElem?_eq_getElem hj'
  refine ⟨row[j], List.getElem_mem hj', ?_⟩
  rcases List.mem_cons.mp hp with rfl | hp
  · left
    unfold prA
    rw [getD_of he]
    have e3 : nxt row row[j] = eAt row j := by
      rw [← eAt_idx, idx_get (row_nodup pm) he]
    rw [e3]
  · right
    rw [List.mem_singleton.mp hp]
    unfold prB
    rw [getD_of he]
theorem prs_all {row : List Int} {n : Nat} (pm : row.Perm (rgI (2 * n))) {e : Int} (he : e ∈ row) : ((e, 1), (nxt row e, 0)) ∈ prsTo row row.length ∧ ((e, 0), (Wd.mate e, 1)) ∈ prsTo row row.length := by
  have h1 := (idx_at he).1
  have hl : row.idxOf e < row.length := List.idxOf_lt_length_of_mem he
  unfold prsTo
  refine ⟨List.mem_flatMap.mpr ⟨row.idxOf e, List.mem_range.mpr hl, ?_⟩, List.mem_flatMap.mpr ⟨row.idxOf e, List.mem_range.mpr hl, ?_⟩⟩
  · unfold prA
    rw [getD_of h1, eAt_idx]
    exact List.mem_cons_self
  · unfold prB
    rw [getD_of h1]
    exact List.mem_cons_of_mem _ List.mem_cons_self
theorem prs_len (row : List Int) (i : Nat) : (prsTo row i).length = 2 * i := by
  induction i with
  | zero => rfl
  | succ i ih =>
    rw [prsTo_next, List.length_append, ih]
    simp
    omega
section
variable {row : List Int} {n : Nat} {C : List (List Int)}
theorem cyc_nx (pm : row.Perm (rgI (2 * n))) (h : Cycles row (nx row) C) {c : List Int} (hc : c ∈ C) {e : Int} (he : e ∈ row) : e ∈ c ↔ nx row e ∈ c := by
  constructor
  · intro h1
    obtain ⟨m, t, k⟩ := cyc_turn (h.cyc c hc) h1
    refine (Cy.turn_perm t).mem_iff.mpr ?_
    cases m with
    | nil =>
      have k' : nx row e = e := k
      rw [k']
      exact List.mem_cons_self
    | cons b m =>
      rw [k.1]
      exact List.mem_cons_of_mem _ List.mem_cons_self
  · intro h1
    obtain ⟨m, t, k⟩ := cyc_turn (h.cyc c hc) h1
    obtain ⟨a, ha, ea⟩ := ch_pre k
    have hac := (Cy.turn_perm t).mem_iff.mpr ha
    have har : a ∈ row := h.all.mem_iff.mp (List.mem_flatten.mpr ⟨c, hc, hac⟩)
    rw [← nx_inj pm a har e he ea]
    exact hac
theorem pr_sm (pm : row.Perm (rgI (2 * n))) (n1 : 1 ≤ n) (h : Cycles row (nx row) C) {p : Cor × Cor} (hp : p ∈ prsTo row row.length) : p.1 ∈ cors row ∧ p.2 ∈ cors row ∧ Sm row C p.1 p.2 := by
  obtain ⟨e, he, rfl | rfl⟩ := prs_mem pm n1 hp
  · exact ⟨cors_mem.mpr ⟨he, .inr rfl⟩, cors_mem.mpr ⟨nxt_mem (row_ne pm n1), .inl rfl⟩, fun c hc => Iff.rfl⟩
  · refine ⟨cors_mem.mpr ⟨he, .inl rfl⟩, cors_mem.mpr ⟨mate_row pm he, .inr rfl⟩, fun c hc => ?_⟩
    exact cyc_nx pm h hc he
theorem labels_many (pm : row.Perm (rgI (2 * n))) (n1 : 1 ≤ n) (h : Cycles row (nx row) C) {lab : Cor → Int} (hs : ∀ a ∈ cors row, ∀ b ∈ cors row, lab a = lab b → Sm row C a b) (hp : ∀ p ∈ prsTo row row.length, lab p.1 = lab p.2)
    {D : List Int} (nd : D.Nodup) (hD : ∀ v, v ∈ D ↔ ∃ c ∈ cors row, v = lab c) : D.length = C.length := by
  have hd : ∀ c ∈ C, c.headD 0 ∈ c := fun c hc => by
    obtain ⟨x, l, rfl, _⟩ := h.cyc c hc
    exact List.mem_cons_self
  have sub : ∀ c ∈ C, ∀ z ∈ c, z ∈ row := fun c hc z hz => h.all.mem_iff.mp (List.mem_flatten.mpr ⟨c, hc, hz⟩)
  have step : ∀ e ∈ row, lab (e, 0) = lab (nx row e, 0) := fun e he => by
    have h1 := hp _ (prs_all pm he).2
    have h2 := hp _ (prs_all pm (mate_row pm he)).1
    exact h1.trans h2
  have along : ∀ (l : List Int) (x y : Int), Ch (nx row) x l y → (∀ z ∈ x :: l, z ∈ row) → ∀ z ∈ x :: l, lab (x, 0) = lab (z, 0) := fun l => by
    induction l with
    | nil =>
      intro x y _ _ z hz
      rw [List.mem_singleton.mp hz]
    | cons b l ih =>
      intro x y hc hr z hz
      rcases List.mem_cons.mp hz with rfl | hz
      · rfl
      · have h1 := step x (hr x List.mem_cons_self)
        rw [hc.1] at h1
        exact h1.trans (ih b y hc.2 (fun z hz => hr z (List.mem_cons_of_mem _ hz)) z hz)
  have all : ∀ c ∈ C, ∀ z ∈ c, lab (c.headD 0, 0) = lab (z, 0) := fun c hc z hz => by
    obtain ⟨x, l, rfl, k⟩ := h.cyc c hc
    exact along l x x k (sub _ hc) z hz
  have ndC : (C.map fun c => lab (c.headD 0, 0)).Nodup := by
    have n2 := (List.pairwise_flatten.mp (h.all.nodup_iff.mpr (row_nodup pm))).2
    show List.Pairwise _ _
    rw [List.pairwise_map]
    refine List.Pairwise.imp_of_mem (fun {a b} ha hb hab e => ?_) n2
    have s := hs (a.headD 0, 0) (cors_mem.mpr ⟨sub a ha _ (hd a ha), .inl rfl⟩) (b.headD 0, 0) (cors_mem.mpr ⟨sub b hb _ (hd b hb), .inl rfl⟩) e a ha
    have hba : b.headD 0 ∈ a := s.mp (hd a ha)
    exact hab _ hba _ (hd b hb) rfl
  have pc : D.Perm (C.map fun c => lab (c.headD 0, 0)) := (List.perm_ext_iff_of_nodup nd ndC).mpr fun v => by
    rw [hD, List.mem_map]
    constructor
    · rintro ⟨⟨e, b⟩, hc, rfl⟩
      obtain ⟨he, hb⟩ := cors_mem.mp hc
      have key : ∀ z ∈ row, ∃ a ∈ C, lab (a.headD 0, 0) = lab (z, 0) := fun z hz => by
        obtain ⟨c, hc, hzc⟩ := List.mem_flatten.mp (h.all.mem_iff.mpr hz)
        exact ⟨c, hc, all c hc z hzc⟩
      rcases hb with hb | hb
      · have hb' : b = 0 := hb
        subst hb'
        exact key e he
      · have hb' : b = 1 := hb
        subst hb'
        rw [hp _ (prs_all pm he).1]
        exact key _ (nxt_mem (row_ne pm n1))
    · rintro ⟨c, hc, rfl⟩
      exact ⟨(c.headD 0, 0), cors_mem.mpr ⟨sub c hc _ (hd c hc), .inl rfl⟩, rfl⟩
  rw [pc.length_eq, List.length_map]
end
end Tt
set_option maxRecDepth 100000
set_option maxHeartbeats 4000000
namespace Tt
open PySem L2
section
variable {P : Program} {w : World} {K : PySem.W.Frag} {mg : Str → Option Value} {base : Heap}
def spLots (K : PySem.W.Frag) : Sp := fun vs H Q _ => ∃ (p : Addr) (row : List Int) (n : Nat), vs = [.ref p] ∧ SqT K H p (row.map V.int) ∧ 1 ≤ n ∧ n ≤ 6 ∧ row.Perm (rgI (2 * n)) ∧
  ∃ (C : List (List Int)), Cy.Cycles row (nx row) C ∧ ∀ H', Same H H' → Q (.int (C.length : Int)) H'
def lab0 (c : Cor) : Int := 2 * c.1 + c.2
theorem lab0_inj {row : List Int} {C : List (List Int)} {a b : Cor} (ha : a ∈ cors row) (hb : b ∈ cors row) (h : lab0 a = lab0 b) : Sm row C a b := by
  have h1 := (cors_mem.mp ha).2
  have h2 := (cors_mem.mp hb).2
  obtain ⟨a1, a2⟩ := a
  obtain ⟨b1, b2⟩ := b
  have e1 : 2 * a1 + a2 = 2 * b1 + b2 := h
  have q1 : a2 = 0 ∨ a2 = 1 := h1
  have q2 : b2 = 0 ∨ b2 = 1 := h2
  have e2 : a1 = b1 := by omega
  have e3 : a2 = b2 := by omega
  rw [e2, e3]
  exact fun _ _ => Iff.rfl
def PairAt (H : Hp) (q : (Addr × Addr × Addr) × (Cor × Cor)) : Prop := H q.1.1 = some (.tup [.ref q.1.2.1, .ref q.1.2.2]) ∧ H q.1.2.1 = some (.tup ((ck q.2.1).map kV)) ∧ H q.1.2.2 = some (.tup ((ck q.2.2).map kV))
theorem PairAt.same {H H' : Hp} {q : (Addr × Addr × Addr) × (Cor × Cor)} (h : PairAt H q) (s : Same H H') : PairAt H' q := ⟨s _ _ h.1, s _ _ h.2.1, s _ _ h.2.2⟩
theorem PairAt.put {H : Hp} {q : (Addr × Addr × Addr) × (Cor × Cor)} {a : Addr} {o u : HO} (h : PairAt H q) (e : H a = some u) (n : ∀ xs, u ≠ .tup xs) : PairAt (upd H a o) q := by
  have ne : ∀ {b : Addr} {xs : List V}, H b = some (.tup xs) → b ≠ a := fun {b xs} hb z => by
    rw [z, e] at hb
    exact n _ (Option.some.inj hb)
  exact ⟨(upd_ne (ne h.1)).trans h.1, (upd_ne (ne h.2.1)).trans h.2.1, (upd_ne (ne h.2.2)).trans h.2.2⟩
theorem take_get {α : Type} {l : List α} {i : Nat} {x : α} (h : l[i]? = some x) : l.take (i + 1) = l.take i ++ [x] := by rw [List.take_add_one, h]; rfl
theorem cors_len (row : List Int) : (cors row).length = 2 * row.length := by
  induction row with
  | nil => rfl
  | cons e row ih =>
    have e1 : cors (e :: row) = [(e, 0), (e, 1)] ++ cors row := rfl
    rw [e1, List.length_append, ih, List.length_cons]
    simp
    omega
theorem dOf_len (cs : List Cor) (lab : Cor → Int) : (dOf cs lab).length = cs.length := List.length_map ..
theorem keep_put {H H' : Hp} {a : Addr} {o : HO} (s : Same H H') (n : H a = none) : Same H (upd H' a o) := fun b u hb => by
  rw [upd_ne (ne_of_none hb n)]
  exact s b u hb
theorem put_new {H : Hp} {d b : Addr} {cs : List Cor} {c : Cor} {lab : Cor → Int} {v : Int} (hv : v = lab c) (n : c ∉ cs) (l : cs.length ≤ 30) (e : H d = some (.dT (dOf cs lab))) (eb : H b = some (.tup ((ck c).map kV))) :
    DPut H d (.ref b) (.int v) (upd H d (.dT (dOf (cs ++ [c]) lab))) := by
  rw [← dOf_new n, hv]
  exact DPut.t e eb (by rw [dOf_len]; exact small1000 (by omega))
theorem put_old {H : Hp} {d b : Addr} {cs : List Cor} {c : Cor} {lab : Cor → Int} {v : Int} (n : c ∈ cs) (l : cs.length ≤ 30) (e : H d = some (.dT (dOf cs lab))) (eb : H b = some (.tup ((ck c).map kV))) :
    DPut H d (.ref b) (.int v) (upd H d (.dT (dOf cs fun d => if d = c then v else lab d))) := by
  rw [← dOf_put v n]
  exact DPut.t e eb (by rw [dOf_len]; exact small1000 (by omega))
theorem get_lab {H : Hp} {d b : Addr} {cs : List Cor} {c : Cor} {lab : Cor → Int} (n : c ∈ cs) (e : H d = some (.dT (dOf cs lab))) (eb : H b = some (.tup ((ck c).map kV))) : DGet H d (.ref b) (some (.int (lab c))) := by
  rw [← dOf_get (lab := lab) n]
  exact DGet.t e eb
theorem get_labF {H : Hp} {d b : Addr} {cs : List Cor} {c : Cor} {lab : Cor → Int} {od : Obj} (n : c ∈ cs) (e : H d = some (.frz od (.dT (dOf cs lab)))) (eb : H b = some (.tup ((ck c).map kV))) : DGet H d (.ref b) (some (.int (lab c))) := by
  rw [← dOf_get (lab := lab) n]
  exact .inr ⟨_, _, b, .inr ⟨od, e⟩, rfl, eb, rfl⟩
structure Pk (H : Hp) (row : List Int) (d g f : Addr) (lab : Cor → Int) (ps : List ((Addr × Addr × Addr) × (Cor × Cor))) (H' : Hp) : Prop where
  dd : H' d = some (.dT (dOf (cors row) lab))
  gg : H' g = some (.lst (ps.map fun q => V.ref q.1.1))
  pp : ∀ q ∈ ps, PairAt H' q
  ff : H' f = some (.lst [])
  sm : Same H H'
section
variable {H : Hp} {row : List Int} {d g f : Addr} {lab : Cor → Int} {ps : List ((Addr × Addr × Addr) × (Cor × Cor))} {H' : Hp}
theorem Pk.new (h : Pk H row d g f lab ps H') {a : Addr} {o : HO} (n : H' a = none) : Pk H row d g f lab ps (upd H' a o) :=
  ⟨upk n h.dd, upk n h.gg, fun q hq => (h.pp q hq).same (same_new n), upk n h.ff, h.sm.trans (same_new n)⟩
theorem Pk.app (h : Pk H row d g f lab ps H') (ngd : d ≠ g) (nfg : f ≠ g) (hg : H g = none) {q : (Addr × Addr × Addr) × (Cor × Cor)} (hq : PairAt H' q) : Pk H row d g f lab (ps ++ [q]) (upd H' g (.lst (ps.map (fun q => V.ref q.1.1) ++ [V.ref q.1.1]))) := by
  refine ⟨(upd_ne ngd).trans h.dd, ?_, fun r hr => ?_, (upd_ne nfg).trans h.ff, keep_put h.sm hg⟩
  · rw [upd_same, List.map_append]
    rfl
  · rcases List.mem_append.mp hr with hr | hr
    · exact (h.pp r hr).put h.gg fun _ z => nomatch z
    · rw [List.mem_singleton.mp hr]
      exact hq.put h.gg fun _ z => nomatch z
theorem Pk.rel (h : Pk H row d g f lab ps H') (ngd : g ≠ d) (nfd : f ≠ d) (hd : H d = none) {lab2 : Cor → Int} : Pk H row d g f lab2 ps (upd H' d (.dT (dOf (cors row) lab2))) :=
  ⟨upd_same, (upd_ne ngd).trans h.gg, fun r hr => (h.pp r hr).put h.dd (fun _ z => nomatch z), (upd_ne nfd).trans h.ff, keep_put h.sm hd⟩
end
theorem Pk.congr {H : Hp} {row : List Int} {d g f : Addr} {lab lab2 : Cor → Int} {ps : List ((Addr × Addr × Addr) × (Cor × Cor))} {H' : Hp} (h : Pk H row d g f lab ps H') (e : ∀ c ∈ cors row, lab c = lab2 c) : Pk H row d g f lab2 ps H' :=
  ⟨by rw [← dOf_congr e]; exact h.dd, h.gg, h.pp, h.ff, h.sm⟩
def labTo (row : List Int) (lab : Cor → Int) (old fresh : Int) (j : Nat) : Cor → Int := fun c => if c ∈ (cors row).take j then relab lab old fresh c else lab c
theorem ok_l_lots (T : Txt K mg) : FnOk P w K mg base CX0 2 T.l_lots.a T.l_lots.fd ["line"] (spLots K) := by
  refine T.l_lots.F.ok sc_l_lots (fun vs H Q E h => ?_) (fun cdv A outer s H vs Q E hr h => ?_)
  · obtain ⟨p, row, n, rfl, _⟩ := h
    rfl
  · obtain ⟨p, row, n, rfl, hp, n1, n6, pm, k⟩ := h
    have nd := sc_l_lots.nd
    have hu := hu_of hr
    have lm : (row.map V.int).length = row.length := List.length_map ..
    have hlen := perm_len pm
    refine ⟨_, (pss_cons (ps_asg (pe_tup (pa_cons (pe_callB call_len_seq (by rfl) T.zlen (by decide +kernel) (pa_cons (pv 0) pa_nil)) (pa_cons pe_dnewT (pa_cons (pe_lst pa_nil) (pa_cons (pe_lst pa_nil) pa_nil))))) (pg_tup rfl (pgs_cons (pg_name (i := 1) nd rfl (Or.inl rfl)) (pgs_cons (pg_name (i := 2) nd rfl (Or.inl rfl)) (pgs_cons (pg_name (i := 3) nd rfl (Or.inl rfl)) (pgs_cons (pg_name (i := 4) nd rfl (Or.inl rfl)) pgs_nil))))))
    (pss_cons (ps_for PassesOwn.never rfl (pi_tup (pv 0)) (pg_name (i := 5) nd rfl (Or.inl rfl))
      (pss_cons (ps_dput hu (pv 2) (pe_tup (pa_cons (pv 5) (pa_cons pe_int pa_nil))) (pe_op op_mul pe_int (pv 5)) rfl)
      (pss_one (ps_dput hu (pv 2) (pe_tup (pa_cons (pv 5) (pa_cons pe_int pa_nil))) (pe_op op_add (pe_op op_mul pe_int (pv 5)) pe_int) rfl))))
    (pss_cons (ps_for PassesOwn.never rfl (pi_enumU (by rfl) T.zenumerate (pa_cons (pv 0) pa_nil)) (pg_tup rfl (pgs_cons (pg_name (i := 6) nd rfl (Or.inl rfl)) (pgs_cons (pg_name (i := 5) nd rfl (Or.inl rfl)) pgs_nil)))
      (pss_cons (ps_expr (pe_bm PySem.F.plainAttrs_list PySem.F.slot_list_append PySem.F.type_list_append mt_append (pv 3) (pa_cons (pe_tup (pa_cons (pe_tup (pa_cons (pv 5) (pa_cons pe_int pa_nil))) (pa_cons (pe_tup (pa_cons (pe_ix ix_tup (pv 0) (pe_op op_mod (pe_callTy call_int1 (by rfl) T.zint (by decide +kernel) (pa_cons (pe_op op_add (pv 6) pe_int) pa_nil)) (pv 1)) (fun _ _ => rfl)) (pa_cons pe_int pa_nil))) pa_nil))) pa_nil)))
      (pss_one (ps_expr (pe_bm PySem.F.plainAttrs_list PySem.F.slot_list_append PySem.F.type_list_append mt_append (pv 3) (pa_cons (pe_tup (pa_cons (pe_tup (pa_cons (pv 5) (pa_cons pe_int pa_nil))) (pa_cons (pe_tup (pa_cons (pe_call (ok_l_mate T) (hr.mono (by decide)) (by rfl) T.l_mate.g T.l_mate.k T.l_mate.b .nil pass0 (pa_cons (pv 5) pa_nil)) (pa_cons pe_int pa_nil))) pa_nil))) pa_nil))))))
    (pss_cons (ps_for PassesOwn.never rfl (pi_list (pv 3)) (pg_tup rfl (pgs_cons (pg_name (i := 7) nd rfl (Or.inl rfl)) (pgs_cons (pg_name (i := 8) nd rfl (Or.inl rfl)) pgs_nil)))
      (pss_cons (ps_par (i := 9) (j := 10) rfl nd rfl rfl (by decide) rfl rfl (pa_cons (pe_dget hu (pv 2) (pv 7) (fun _ _ => rfl)) (pa_cons (pe_dget hu (pv 2) (pv 8) (fun _ _ => rfl)) pa_nil)) rfl)
      (pss_one (ps_for PassesOwn.never rfl (pi_list (pe_callTy (call_list_dT rfl) (by rfl) T.zlist (by decide +kernel) (pa_cons (pv 2) pa_nil))) (pg_name (i := 11) nd rfl (Or.inl rfl))
        (pss_one (ps_if (pt_cmpR (op_eqD hr.units) (pe_dget hu (pv 2) (pv 11) (fun _ _ => rfl)) (pv 9) (nomark _))
          (pss_one (ps_dput hu (pv 2) (pv 11) (pv 10) rfl))
          pss_nil))))))
    (pss_cons (ps_lock (ps_for PassesOwn.never rfl (pi_keys (pv 2)) (pg_name (i := 11) nd rfl (Or.inl rfl))
      (pss_one (ps_set (i := 4) nd rfl (Or.inl rfl) (pe_ifExp (pt_cmpR op_in_seq (pe_dget hu (pv 2) (pv 11) (fun _ _ => rfl)) (pv 4) rfl) (pv 4) (pe_op op_cat (pv 4) (pe_lst (pa_cons (pe_dget hu (pv 2) (pv 11) (fun _ _ => rfl)) pa_nil))))))))
    (pss_one (ps_ret (pe_callB call_len_seq (by rfl) T.zlen (by decide +kernel) (pa_cons (pv 4) pa_nil))))))))), ?_⟩
    obtain ⟨C, cy, k⟩ := k
    have ndr := row_nodup pm
    have hne := row_ne pm n1
    have ndc := cors_nodup ndr
    have lc := cors_len row
    refine ⟨_, rfl, p, _, rfl, .inr hp, fun d hd => ⟨(by show 0 ≤ sizeLine; decide), fun g hg => ⟨(by show 0 ≤ sizeLine; decide), fun f hf => ⟨(by show 4 ≤ sizeLine; decide), fun a ha => ⟨a, _, rfl, SqT.of upd_same, rfl, _, _, rfl, _, _, rfl, _, _, rfl, _, _, rfl, rfl, ?_⟩⟩⟩⟩⟩
    have s1 : Same H (upd H d (.dT [])) := same_new hd
    have d1 : (upd H d (.dT [])) d = some (.dT []) := upd_same
    have s2 : Same H (upd (upd H d (.dT [])) g (.lst [])) := s1.trans (same_new hg)
    have d2 := upk (u := .lst []) hg d1
    have g2 : (upd (upd H d (.dT [])) g (.lst [])) g = some (.lst []) := upd_same
    have s3 := s2.trans (same_new (o := .lst []) hf)
    have d3 := upk (u := .lst []) hf d2
    have g3 := upk (u := .lst []) hf g2
    have f3 : (upd (upd (upd H d (.dT [])) g (.lst [])) f (.lst [])) f = some (.lst []) := upd_same
    have ngd : g ≠ d := fun z => by rw [z, d1] at hg; cases hg
    have nfd : f ≠ d := fun z => by rw [z, d2] at hf; cases hf
    have nfg : f ≠ g := fun z => by rw [z, g2] at hf; cases hf
    have hgn : H g = none := by
      cases e : H g with
      | none => rfl
      | some o => rw [s1 _ _ e] at hg; cases hg
    have hfn : H f = none := by
      cases e : H f with
      | none => rfl
      | some o => rw [s2 _ _ e] at hf; cases hf
    have hal := ha
    have s4 := s3.trans (same_new (o := .tup [.int ((row.map V.int).length : Int), .ref d, .ref g, .ref f]) ha)
    have d4 := upk (u := .tup [.int ((row.map V.int).length : Int), .ref d, .ref g, .ref f]) ha d3
    have g4 := upk (u := .tup [.int ((row.map V.int).length : Int), .ref d, .ref g, .ref f]) ha g3
    have f4 := upk (u := .tup [.int ((row.map V.int).length : Int), .ref d, .ref g, .ref f]) ha f3
    generalize upd (upd (upd (upd H d (.dT [])) g (.lst [])) f (.lst [])) a (.tup [.int ((row.map V.int).length : Int), .ref d, .ref g, .ref f]) = H4 at s4 d4 g4 f4
    clear s1 d1 s2 d2 g2 s3 d3 g3 f3 ha hal hg hf
    rw [lm]
    dsimp only [tSeq]
    refine ⟨_, rfl, p, rfl, ⟨_, same_seqT s4 hp⟩, ?_⟩
    refine for_tup (K := K) (a := p) (xs := row.map V.int) (fun i σ H' => ∃ v5, σ = [some (.ref p), some (.int (row.length : Int)), some (.ref d), some (.ref g), some (.ref f), v5, none, none, none, none, none, none] ∧ H' d = some (.dT (dOf (cors (row.take i)) lab0)) ∧ H' g = some (.lst []) ∧ H' f = some (.lst []) ∧ Same H H')
      ⟨_, rfl, d4, g4, f4, s4⟩ (fun i σ H' _ ⟨_, _, _, _, _, s⟩ => same_seqT s hp) ?_ ?_
    · rintro i y σ H' hi ⟨v5, rfl, dd, gg, ff, sm⟩
      obtain ⟨x, rfl, hx⟩ := ints_at hi
      have hil : i < row.length := (List.getElem?_eq_some_iff.mp hx).1
      have hxt : x ∉ row.take i := fun z => by
        have h1 := take_get hx
        have h2 : (row.take (i + 1)).Nodup := ndr.sublist (List.take_sublist _ _)
        rw [h1] at h2
        exact (List.nodup_append.mp h2).2.2 x z x (List.mem_singleton.mpr rfl) rfl
      have c0 : ((x, 0) : Cor) ∉ cors (row.take i) := fun z => hxt (cors_mem.mp z).1
      have c1 : ((x, 1) : Cor) ∉ cors (row.take i) ++ [(x, 0)] := fun z => by
        rcases List.mem_append.mp z with z | z
        · exact hxt (cors_mem.mp z).1
        · have : (1 : Int) = 0 := congrArg Prod.snd (List.mem_singleton.mp z)
          exact absurd this (by decide)
      have ln : (cors (row.take i)).length ≤ 24 := by
        rw [cors_len]
        have := List.length_take_le' i row
        omega
      have v0 : (2 * x : Int) = lab0 (x, 0) := by show (2 * x : Int) = 2 * x + 0; omega
      refine ⟨_, rfl, _, _, rfl, rfl, .inl ⟨by decide, by decide⟩, _, rfl, _, rfl, (by show 2 ≤ sizeLine; decide), fun t ht => ?_⟩
      refine ⟨d, _, rfl, put_new (c := (x, 0)) v0 c0 (by omega) (upk ht dd) upd_same, ?_⟩
      have sm1 := keep_put (o := .dT (dOf (cors (row.take i) ++ [(x, 0)]) lab0)) (sm.trans (same_new (o := .tup [.int x, .int 0]) ht)) hd
      have gg1 := (upd_ne (o := .dT (dOf (cors (row.take i) ++ [(x, 0)]) lab0)) ngd).trans (upk (u := .tup [.int x, .int 0]) ht gg)
      have ff1 := (upd_ne (o := .dT (dOf (cors (row.take i) ++ [(x, 0)]) lab0)) nfd).trans (upk (u := .tup [.int x, .int 0]) ht ff)
      have dd1 : (upd (upd H' t (.tup [.int x, .int 0])) d (.dT (dOf (cors (row.take i) ++ [(x, 0)]) lab0))) d = some (.dT (dOf (cors (row.take i) ++ [(x, 0)]) lab0)) := upd_same
      generalize upd (upd H' t (.tup [.int x, .int 0])) d (.dT (dOf (cors (row.take i) ++ [(x, 0)]) lab0)) = H5 at sm1 gg1 ff1 dd1
      have v1 : (2 * x + 1 : Int) = lab0 (x, 1) := rfl
      refine ⟨_, rfl, _, _, rfl, rfl, .inl ⟨by decide, by decide⟩, _, _, rfl, rfl, _, rfl, _, rfl, (by show 2 ≤ sizeLine; decide), fun t2 ht2 => ?_⟩
      refine ⟨d, _, rfl, put_new (c := (x, 1)) v1 c1 (by rw [List.length_append]; simp; omega) (upk ht2 dd1) upd_same, ?_⟩
      refine ⟨_, rfl, ?_, (upd_ne ngd).trans (upk ht2 gg1), (upd_ne nfd).trans (upk ht2 ff1), keep_put (sm1.trans (same_new ht2)) hd⟩
      rw [upd_same, take_get hx, cors_snoc, List.append_assoc]
      rfl
    · rintro σ H' ⟨v5, rfl, dd, gg, ff, sm⟩
      rw [List.length_map, List.take_length] at dd
      dsimp only [tSeq]
      refine ⟨_, rfl, p, _, rfl, same_seqT sm hp, ?_⟩
      refine for_it (walk_enumU (K := K) (a := p) (xs := row.map V.int)) (fun i σ H' => ∃ v5 v6 ps, σ = [some (.ref p), some (.int (row.length : Int)), some (.ref d), some (.ref g), some (.ref f), v5, v6, none, none, none, none, none] ∧ ps.map (·.2) = prsTo row i ∧ Pk H row d g f lab0 ps H')
        ⟨v5, none, [], rfl, rfl, dd, gg, (fun _ h => absurd h (by simp)), ff, sm⟩ (fun i σ H' _ ⟨_, _, _, _, _, s⟩ => same_seqT s.sm hp) ?_ ?_
      · rintro i y σ H5 H6 hi ⟨v5, v6, ps, rfl, eps, pk⟩ ⟨t, yi, yx, rfl, ht, rfl, e1, e2⟩
        cases e1
        obtain ⟨x, rfl, hx⟩ := ints_at e2
        have hil : i < row.length := (List.getElem?_eq_some_iff.mp hx).1
        have hpl : ps.length = 2 * i := by
          have := congrArg List.length eps
          rw [List.length_map, prs_len] at this
          exact this
        have hgd := getD_of hx
        have pk1 := pk.new (o := .tup [.int (i : Int), .int x]) ht
        refine ⟨t, _, rfl, SqT.of upd_same, rfl, _, _, rfl, _, _, rfl, rfl, ?_⟩
        generalize upd H5 t (.tup [.int (i : Int), .int x]) = H7 at pk1
        refine ⟨_, rfl, .inl ⟨rfl, _, SqL.of pk1.gg⟩, _, rfl, (by show 2 ≤ sizeLine; decide), fun a1 h1 => ?_⟩
        have pk2 := pk1.new (o := .tup [.int x, .int 1]) h1
        have ea1 : (upd H7 a1 (.tup [.int x, .int 1])) a1 = some (.tup ((ck (x, 1)).map kV)) := upd_same
        generalize upd H7 a1 (.tup [.int x, .int 1]) = H8 at pk2 ea1
        refine ⟨_, rfl, _, rfl, _, _, rfl, rfl, .inl ⟨_, rfl, _, rfl, _, _, rfl, rfl, by omega, p, _, _, _, rfl, rfl, same_seqT pk2.sm hp, atI_nat (j := (i + 1) % row.length) (ints_get (eAt_get hne i)), (by show 2 ≤ sizeLine; decide), fun a2 h2 => ?_⟩⟩
        have pk3 := pk2.new (o := .tup [.int (eAt row i), .int 0]) h2
        have eb1 := upk (u := .tup [.int (eAt row i), .int 0]) h2 ea1
        have eb2 : (upd H8 a2 (.tup [.int (eAt row i), .int 0])) a2 = some (.tup ((ck (eAt row i, 0)).map kV)) := upd_same
        generalize upd H8 a2 (.tup [.int (eAt row i), .int 0]) = H9 at pk3 eb1 eb2
        refine ⟨(by show 2 ≤ sizeLine; decide), fun a3 h3 => ?_⟩
        have pk4 := pk3.new (o := .tup [.ref a1, .ref a2]) h3
        have hq : PairAt (upd H9 a3 (.tup [.ref a1, .ref a2])) ((a3, a1, a2), prA row i) := by
          unfold prA
          rw [hgd]
          exact ⟨upd_same, upk h3 eb1, upk h3 eb2⟩
        refine ⟨g, _, _, rfl, rfl, pk4.gg, by rw [List.length_map]; exact small1000 (by omega), ?_⟩
        have pk5 := pk4.app (fun z => ngd z.symm) nfg hgn hq
        generalize upd (upd H9 a3 (.tup [.ref a1, .ref a2])) g (.lst (ps.map (fun q => V.ref q.1.1) ++ [V.ref a3])) = H10 at pk5
        refine ⟨_, rfl, .inl ⟨rfl, _, SqL.of pk5.gg⟩, _, rfl, (by show 2 ≤ sizeLine; decide), fun b1 k1 => ?_⟩
        have pk6 := pk5.new (o := .tup [.int x, .int 0]) k1
        have fa1 : (upd H10 b1 (.tup [.int x, .int 0])) b1 = some (.tup ((ck (x, 0)).map kV)) := upd_same
        generalize upd H10 b1 (.tup [.int x, .int 0]) = H11 at pk6 fa1
        refine ⟨_, rfl, _, rfl, (by show 2 ≤ sizeLine; decide), fun b2 k2 => ?_⟩
        have pk7 := pk6.new (o := .tup [.int (Wd.mate x), .int 1]) k2
        have fb1 := upk (u := .tup [.int (Wd.mate x), .int 1]) k2 fa1
        have fb2 : (upd H11 b2 (.tup [.int (Wd.mate x), .int 1])) b2 = some (.tup ((ck (Wd.mate x, 1)).map kV)) := upd_same
        generalize upd H11 b2 (.tup [.int (Wd.mate x), .int 1]) = H12 at pk7 fb1 fb2
        refine ⟨(by show 2 ≤ sizeLine; decide), fun b3 k3 => ?_⟩
        have pk8 := pk7.new (o := .tup [.ref b1, .ref b2]) k3
        have hq2 : PairAt (upd H12 b3 (.tup [.ref b1, .ref b2])) ((b3, b1, b2), prB row i) := by
          unfold prB
          rw [hgd]
          exact ⟨upd_same, upk k3 fb1, upk k3 fb2⟩
        refine ⟨g, _, _, rfl, rfl, pk8.gg, by rw [List.length_map, List.length_append]; exact small1000 (by simp; omega), ?_⟩
        have pk9 := pk8.app (fun z => ngd z.symm) nfg hgn hq2
        refine ⟨_, _, _, rfl, ?_, pk9⟩
        rw [prsTo_next, List.map_append, List.map_append, eps, List.append_assoc]
        rfl
      · rintro σ H5 ⟨v5, v6, ps, rfl, eps, pk⟩
        rw [List.length_map] at eps
        dsimp only [tSeq]
        have hpl : ps.length = 2 * row.length := by
          have := congrArg List.length eps
          rw [List.length_map, prs_len] at this
          exact this
        refine ⟨_, rfl, g, rfl, ⟨_, SqL.of pk.gg⟩, ?_⟩
        refine for_list (K := K) (a := g) (xs := ps.map fun q => V.ref q.1.1) (fun i σ H' => ∃ v5 v6 v7 v8 v9 v10 v11 lab, σ = [some (.ref p), some (.int (row.length : Int)), some (.ref d), some (.ref g), some (.ref f), v5, v6, v7, v8, v9, v10, v11] ∧ Pk H row d g f lab ps H' ∧
          (∀ a ∈ cors row, ∀ b ∈ cors row, lab a = lab b → Sm row C a b) ∧ ∀ q ∈ ps.take i, lab q.2.1 = lab q.2.2)
          ⟨_, _, _, _, _, _, _, lab0, rfl, pk, fun a ha b hb => lab0_inj ha hb, fun _ h => absurd h (by simp)⟩ (fun i σ H' _ ⟨_, _, _, _, _, _, _, _, _, s, _⟩ => SqL.of s.gg) ?_ ?_
        · rintro i y σ H6 hi ⟨v5, v6, v7, v8, v9, v10, v11, lab, rfl, pk, hA, hB⟩
          obtain ⟨q, hq, rfl⟩ : ∃ q, ps[i]? = some q ∧ y = V.ref q.1.1 := by
            rw [List.getElem?_map] at hi
            cases e : ps[i]? with
            | none => rw [e] at hi; cases hi
            | some q => rw [e] at hi; exact ⟨q, rfl, (Option.some.inj hi).symm⟩
          have hqp : q.2 ∈ prsTo row row.length := by
            rw [← eps]
            exact List.mem_map.mpr ⟨q, List.mem_of_getElem? hq, rfl⟩
          obtain ⟨m1, m2, sm0⟩ := pr_sm pm n1 cy hqp
          have pq := pk.pp q (List.mem_of_getElem? hq)
          refine ⟨q.1.1, _, rfl, SqT.of pq.1, rfl, _, _, rfl, _, _, rfl, rfl, ?_⟩
          refine ⟨_, rfl, _, rfl, d, _, rfl, get_lab m1 pk.dd pq.2.1, _, rfl, _, rfl, d, _, rfl, get_lab m2 pk.dd pq.2.2, _, _, rfl, ?_⟩
          generalize ho : lab q.2.1 = old
          generalize hn : lab q.2.2 = fresh
          refine ⟨_, rfl, d, _, rfl, .inl pk.dd, fun l bs hl ik => ⟨l, rfl, ⟨_, SqL.of upd_same⟩, ?_⟩⟩
          have bl : bs.length = (cors row).length := by
            have := Paired.length ik
            rw [dOf_len] at this
            exact this.symm
          have keys : ∀ (j : Nat) (c : Cor) (b : Addr), (cors row)[j]? = some c → bs[j]? = some b → H6 b = some (.tup ((ck c).map kV)) := fun j c b hc hb => by
            have h1 : (dOf (cors row) lab)[j]? = some (ck c, V.int (lab c)) := by
              unfold dOf
              rw [List.getElem?_map, hc]
              rfl
            exact pair_at ik h1 hb
          refine for_list (K := K) (a := l) (xs := bs.map V.ref) (fun j σ H' => ∃ v11, σ = [some (.ref p), some (.int (row.length : Int)), some (.ref d), some (.ref g), some (.ref f), v5, v6, some (.ref q.1.2.1), some (.ref q.1.2.2), some (.int old), some (.int fresh), v11] ∧ Pk H row d g f (labTo row lab old fresh j) ps H' ∧
            H' l = some (.lst (bs.map V.ref)) ∧ ∀ (j : Nat) (c : Cor) (b : Addr), (cors row)[j]? = some c → bs[j]? = some b → H' b = some (.tup ((ck c).map kV)))
            ⟨v11, rfl, (pk.new hl).congr (fun c _ => by unfold labTo; rw [if_neg (by simp)]), upd_same, fun j c b hc hb => upk hl (keys j c b hc hb)⟩ (fun j σ H' _ ⟨_, _, _, h, _⟩ => SqL.of h) ?_ ?_
          · rintro j y σ H7 hj ⟨v11, rfl, pk7, hl7, keys7⟩
            obtain ⟨b, hb, rfl⟩ : ∃ b, bs[j]? = some b ∧ y = V.ref b := by
              rw [List.getElem?_map] at hj
              cases e : bs[j]? with
              | none => rw [e] at hj; cases hj
              | some b => rw [e] at hj; exact ⟨b, rfl, (Option.some.inj hj).symm⟩
            have hjl : j < (cors row).length := by rw [← bl]; exact (List.getElem?_eq_some_iff.mp hb).1
            obtain ⟨c, hc⟩ : ∃ c, (cors row)[j]? = some c := ⟨_, List.getElem?_eq_getElem hjl⟩
            have cm : c ∈ cors row := List.mem_of_getElem? hc
            have kb := keys7 j c b hc hb
            have cn : c ∉ (cors row).take j := fun z => by
              have h1 := take_get hc
              have h2 : ((cors row).take (j + 1)).Nodup := ndc.sublist (List.take_sublist _ _)
              rw [h1] at h2
              exact (List.nodup_append.mp h2).2.2 c z c (List.mem_singleton.mpr rfl) rfl
            have lj : labTo row lab old fresh j c = lab c := by
              unfold labTo
              rw [if_neg cn]
            have nx1 : ∀ c', labTo row lab old fresh (j + 1) c' = if c' = c then relab lab old fresh c else labTo row lab old fresh j c' := fun c' => by
              unfold labTo
              rw [take_get hc]
              by_cases e : c' = c
              · subst e
                rw [if_pos (List.mem_append_right _ (List.mem_singleton.mpr rfl)), if_pos rfl]
              · rw [if_neg e]
                by_cases e2 : c' ∈ (cors row).take j
                · rw [if_pos (List.mem_append_left _ e2), if_pos e2]
                · rw [if_neg (fun z => by
                    rcases List.mem_append.mp z with z | z
                    · exact e2 z
                    · exact e (List.mem_singleton.mp z)), if_neg e2]
            refine ⟨_, rfl, _, rfl, d, _, rfl, get_lab cm pk7.dd kb, _, rfl, .int _, .int _, .int _, .int _, rfl, rfl, _, rfl, ite2 (fun c1 => ?_) (fun c1 => ?_)⟩
            · have e1 : lab c = old := by
                rw [lj] at c1
                simpa [PyData.eqv] using c1
              refine ⟨_, rfl, _, rfl, _, rfl, d, _, rfl, put_old cm (by omega) pk7.dd kb, ?_⟩
              have pk8 := pk7.rel ngd nfd hd (lab2 := fun c' => if c' = c then fresh else labTo row lab old fresh j c')
              refine ⟨_, rfl, pk8.congr fun c' _ => ?_, ?_, fun j c b hc hb => ?_⟩
              · rw [nx1]
                show (if c' = c then fresh else _) = if c' = c then relab lab old fresh c else _
                unfold relab
                rw [if_pos e1]
              · rw [upd_ne (fun z => by rw [z, pk7.dd] at hl7; cases hl7)]
                exact hl7
              · have h1 := keys7 j c b hc hb
                rw [upd_ne (fun z => by rw [z, pk7.dd] at h1; cases h1)]
                exact h1
            · have e1 : ¬ lab c = old := by
                rw [lj] at c1
                simpa [PyData.eqv] using c1
              refine ⟨_, rfl, pk7.congr fun c' _ => ?_, hl7, keys7⟩
              rw [nx1]
              by_cases e : c' = c
              · subst e
                rw [if_pos rfl, lj]
                unfold relab
                rw [if_neg e1]
              · rw [if_neg e]
          · rintro σ H7 ⟨v11, rfl, pk7, _, _⟩
            have el : (bs.map V.ref).length = (cors row).length := by rw [List.length_map, bl]
            rw [el] at pk7
            refine ⟨_, _, _, _, _, _, _, relab lab old fresh, rfl, pk7.congr fun c hc => ?_, ?_, fun r hr => ?_⟩
            · unfold labTo
              rw [List.take_length, if_pos hc]
            · rw [← ho, ← hn]
              exact relab_sm m1 m2 hA sm0
            · rw [take_get hq] at hr
              rcases List.mem_append.mp hr with hr | hr
              · exact relab_like (hB r hr)
              · rw [List.mem_singleton.mp hr, ← ho, ← hn]
                exact relab_join lab q.2.1 q.2.2
        · rintro σ H6 ⟨v5, v6, v7, v8, v9, v10, v11, lab, rfl, pk, hA, hB⟩
          have el : (ps.map fun q => V.ref q.1.1).length = ps.length := List.length_map ..
          rw [el, List.take_length] at hB
          have hB2 : ∀ r ∈ prsTo row row.length, lab r.1 = lab r.2 := fun r hr => by
            rw [← eps] at hr
            obtain ⟨q, hq, rfl⟩ := List.mem_map.mp hr
            exact hB q hq
          dsimp only [tSeq]
          refine ⟨d, _, pk.dd, trivial, fun od => ?_⟩
          refine ⟨_, rfl, d, od, rfl, .inr ⟨_, upd_same, ?_⟩⟩
          have fd0 : f ≠ d := nfd
          refine for_it walk_keysT (fun j σ H' => ∃ v5 v6 v7 v8 v9 v10 v11 f D, σ = [some (.ref p), some (.int (row.length : Int)), some (.ref d), some (.ref g), some (.ref f), v5, v6, v7, v8, v9, v10, v11] ∧ f ≠ d ∧ H' f = some (.lst ((D : List Int).map V.int)) ∧ D.Nodup ∧ (∀ v, v ∈ D ↔ ∃ c ∈ (cors row).take j, v = lab c) ∧
            H' d = some (.frz od (.dT (dOf (cors row) lab))) ∧ Same H H' ∧ D.length ≤ j)
            ⟨v5, v6, v7, v8, v9, v10, v11, f, [], rfl, nfd, (upd_ne nfd).trans pk.ff, List.Pairwise.nil, fun v => by simp, upd_same, keep_put pk.sm hd, Nat.le_refl _⟩ (fun j σ H' _ ⟨_, _, _, _, _, _, _, _, _, _, _, _, _, _, h, _⟩ => h) ?_ ?_
          · rintro j y σ H7 H8 hj ⟨v5, v6, v7, v8, v9, v10, v11, f, D, rfl, nfd, ef, nD, hD, ed, sm7, lD⟩ ⟨rfl, kk, vv, b, hk, rfl, hb⟩
            have hjl : j < (cors row).length := by rw [dOf_len] at hj; exact hj
            obtain ⟨c, hc⟩ : ∃ c, (cors row)[j]? = some c := ⟨_, List.getElem?_eq_getElem hjl⟩
            have cm : c ∈ cors row := List.mem_of_getElem? hc
            have ekk : kk = ck c := by
              unfold dOf at hk
              rw [List.getElem?_map, hc] at hk
              have := Option.some.inj hk
              exact (congrArg Prod.fst this).symm
            subst ekk
            have hD2 : ∀ v, v ∈ (if lab c ∈ D then D else D ++ [lab c]) ↔ ∃ c' ∈ (cors row).take (j + 1), v = lab c' := fun v => by
              rw [take_get hc]
              constructor
              · intro h
                split at h
                · obtain ⟨c', h1, h2⟩ := (hD v).mp h
                  exact ⟨c', List.mem_append_left _ h1, h2⟩
                · rcases List.mem_append.mp h with h | h
                  · obtain ⟨c', h1, h2⟩ := (hD v).mp h
                    exact ⟨c', List.mem_append_left _ h1, h2⟩
                  · exact ⟨c, List.mem_append_right _ (List.mem_singleton.mpr rfl), List.mem_singleton.mp h⟩
              · rintro ⟨c', h1, rfl⟩
                have h3 : lab c' ∈ D ∨ lab c' = lab c := by
                  rcases List.mem_append.mp h1 with h1 | h1
                  · exact .inl ((hD _).mpr ⟨c', h1, rfl⟩)
                  · rw [List.mem_singleton.mp h1]
                    exact .inr rfl
                split
                · rename_i q
                  rcases h3 with h3 | h3
                  · exact h3
                  · rw [h3]
                    exact q
                · rcases h3 with h3 | h3
                  · exact List.mem_append_left _ h3
                  · rw [h3]
                    exact List.mem_append_right _ (List.mem_singleton.mpr rfl)
            refine ⟨_, rfl, _, rfl, d, _, rfl, get_labF cm ed hb, _, rfl, f, _, rfl, .inl (SqL.of ef), rfl, flat_ints _, _, rfl, ?_⟩
            show if inV (.int (lab c)) (D.map V.int) = true then _ else _
            rw [inV_ints]
            by_cases q : lab c ∈ D
            · rw [decide_eq_true q, if_pos rfl]
              rw [if_pos q] at hD2
              exact ⟨_, rfl, _, _, _, _, _, _, _, f, D, rfl, nfd, ef, nD, hD2, ed, sm7, Nat.le_succ_of_le lD⟩
            · rw [decide_eq_false q, if_neg (by decide)]
              rw [if_neg q] at hD2
              refine ⟨_, rfl, _, rfl, _, rfl, d, _, rfl, get_labF cm ed hb, (by show 1 ≤ sizeLine; decide), fun l1 hl1 => ?_⟩
              refine ⟨f, l1, _, _, rfl, rfl, upk hl1 ef, upd_same, ?_, fun f2 hf2 => ?_⟩
              · rw [List.length_map]
                have h1 : (1001 : Nat) ≤ sizeLine := by decide
                have h2 : D.length ≤ 24 := by omega
                simp
                omega
              have ed1 := upk (u := .lst (D.map V.int ++ [V.int (lab c)])) hf2 (upk (u := .lst [V.int (lab c)]) hl1 ed)
              refine ⟨_, _, _, _, _, _, _, f2, D ++ [lab c], rfl, fun z => ?_, ?_, ?_, hD2, ed1, (sm7.trans (same_new hl1)).trans (same_new hf2), ?_⟩
              · rw [z] at hf2
                rw [upk (u := .lst [V.int (lab c)]) hl1 ed] at hf2
                cases hf2
              · rw [upd_same, List.map_append]
                rfl
              · exact List.nodup_append.mpr ⟨nD, List.pairwise_singleton _ _, fun a ha b hb z => q (by rw [← List.mem_singleton.mp hb, ← z]; exact ha)⟩
              · rw [List.length_append, List.length_singleton]
                omega
          · rintro σ H7 ⟨v5, v6, v7, v8, v9, v10, v11, f, D, rfl, nfd, ef, nD, hD, ed, sm7, _⟩
            have e1 : (dOf (cors row) lab).length = (cors row).length := dOf_len ..
            rw [e1, List.take_length] at hD
            have many := labels_many pm n1 cy hA hB2 nD hD
            refine ⟨ed, _, rfl, f, _, rfl, .inl (SqL.of ((upd_ne nfd).trans ef)), ?_⟩
            rw [List.length_map, many]
            exact k _ (keep_put sm7 hd)
end
end Tt
set_option maxRecDepth 100000
set_option maxHeartbeats 4000000
namespace Tt
open PySem L2
open LamX (Tabs TabS TabB ExtN CodeO tLam)
structure Sh (k N : Nat) (d : PyData) : Prop where
  sh : d.showable = true
  hd : d.hasDict = false
  dp : d.depth ≤ k
  ln : d.shown.length ≤ N
theorem sh_all {k N : Nat} : ∀ ds : List PyData, (∀ d ∈ ds, Sh k N d) → PyData.showableAll ds = true ∧ PyData.hasDictAll ds = false ∧ PyData.depthAll ds ≤ k ∧ ((PyData.shownAll ds).map (·.length)).sum ≤ ds.length * N ∧ (PyData.shownAll ds).length = ds.length
  | [], _ => ⟨rfl, rfl, Nat.zero_le _, Nat.zero_le _, rfl⟩
  | d :: ds, h => by
    obtain ⟨a1, a2, a3, a4, a5⟩ := sh_all ds fun x hx => h x (List.mem_cons_of_mem _ hx)
    have b := h d List.mem_cons_self
    refine ⟨?_, ?_, ?_, ?_, ?_⟩
    · show (d.showable && PyData.showableAll ds) = true
      rw [b.sh, a1]
      rfl
    · show (d.hasDict || PyData.hasDictAll ds) = false
      rw [b.hd, a2]
      rfl
    · show max d.depth (PyData.depthAll ds) ≤ k
      have := b.dp
      omega
    · show (d.shown.length :: (PyData.shownAll ds).map (·.length)).sum ≤ (ds.length + 1) * N
      rw [List.sum_cons, Nat.add_mul, Nat.one_mul]
      have := b.ln
      omega
    · show (d.shown :: PyData.shownAll ds).length = ds.length + 1
      rw [List.length_cons, a5]
theorem Sh.list {k N : Nat} {ds : List PyData} (h : ∀ d ∈ ds, Sh k N d) : Sh (k + 1) (ds.length * N + 2 * ds.length + 3) (.list ds) := by
  obtain ⟨a1, a2, a3, a4, a5⟩ := sh_all ds h
  refine ⟨a1, a2, ?_, ?_⟩
  · show PyData.depthAll ds + 1 ≤ k + 1
    omega
  · have := listText_len_le (PyData.shownAll ds)
    show (listText (PyData.shownAll ds)).length ≤ _
    omega
theorem Sh.tuple {k N : Nat} {ds : List PyData} (h : ∀ d ∈ ds, Sh k N d) : Sh (k + 1) (ds.length * N + 2 * ds.length + 3) (.tuple ds) := by
  obtain ⟨a1, a2, a3, a4, a5⟩ := sh_all ds h
  refine ⟨a1, a2, ?_, ?_⟩
  · show PyData.depthAll ds + 1 ≤ k + 1
    omega
  · have := tupleText_len_le (PyData.shownAll ds)
    show (tupleText (PyData.shownAll ds)).length ≤ _
    omega
theorem Sh.int {i : Int} (h0 : -50 ≤ i) (h1 : i ≤ 99) : Sh 0 20 (.int i) := by
  have z : ∀ n : Fin 150, (PyData.showable (.int (((n.val : Nat) : Int) - 50))) = true ∧ (PyData.shown (.int (((n.val : Nat) : Int) - 50))).length ≤ 20 := by decide +kernel
  obtain ⟨k, e⟩ := Int.eq_ofNat_of_zero_le (show 0 ≤ i + 50 by omega)
  have e' : i = (k : Int) - 50 := by omega
  subst e'
  obtain ⟨a, b⟩ := z ⟨k, by omega⟩
  exact ⟨a, rfl, Nat.zero_le _, b⟩
theorem Sh.mono {k k' N N' : Nat} {d : PyData} (h : Sh k N d) (a : k ≤ k') (b : N ≤ N') : Sh k' N' d := ⟨h.sh, h.hd, Nat.le_trans h.dp a, Nat.le_trans h.ln b⟩
theorem Sh.ints {ns : List Int} (h : ∀ x ∈ ns, 0 ≤ x ∧ x ≤ 20) (l : ns.length ≤ 12) : Sh 1 300 (rowD ns) := by
  have h1 := Sh.tuple (k := 0) (N := 20) (ds := ns.map PyData.int) fun d hd => by
    obtain ⟨x, hx, rfl⟩ := List.mem_map.mp hd
    have := h x hx
    exact Sh.int (by omega) (by omega)
  refine h1.mono (Nat.le_refl _) ?_
  rw [List.length_map]
  omega
section
variable {P : Program} {w : World} {K : PySem.W.Frag} {mg : Str → Option Value} {base : Heap}
theorem Sh.show {k N : Nat} {d : PyData} {H : Hp} {a : Addr} {Q : VK} (h : Sh k N d) (hk : k ≤ 60) (hn : N ≤ 5000) (dp : Dp K H (.ref a) d) (q : Q (.str d.shown) H) : rShow K [.ref a] H Q :=
  ⟨a, d, rfl, dp, h.sh, h.hd, Nat.le_trans h.dp hk, Nat.le_trans h.ln (by rw [sizeLine_eq]; omega), q⟩
theorem dpAll_bs {H : Hp} : ∀ (bs : List (Addr × List Int)), (∀ b ∈ bs, SqT K H b.1 (b.2.map V.int)) → DpAll K H (bs.map fun b => V.ref b.1) ((bs.map (·.2)).map rowD)
  | [], _ => .nil
  | b :: bs, h => .cons (.tup (h b List.mem_cons_self) (dpAll_ints _ _)) (dpAll_bs bs fun c hc => h c (List.mem_cons_of_mem _ hc))
theorem RimsOf.bounds {row : List Int} {n : Nat} {R : List (List Int)} (pm : row.Perm (rgI (2 * n))) (n6 : n ≤ 6) (h : RimsOf row R) : R.length ≤ 12 ∧ ∀ r ∈ R, r ≠ [] ∧ r.length ≤ 12 ∧ ∀ x ∈ r, 0 ≤ x ∧ x ≤ 20 := by
  obtain ⟨C, cy, p, _⟩ := h
  have hl := perm_len pm
  have fl := cy.all.length_eq
  have sz : ∀ D : List (List Int), (∀ c ∈ D, Cy.Cyc (nx row) c) → D.length ≤ D.flatten.length := fun D => by
    induction D with
    | nil => exact fun _ => Nat.le_refl _
    | cons c D ih =>
      intro hc
      obtain ⟨x, l, rfl, _⟩ := hc c List.mem_cons_self
      have := ih fun c h => hc c (List.mem_cons_of_mem _ h)
      rw [List.flatten_cons, List.length_append, List.length_cons, List.length_cons]
      omega
  have hc := sz C cy.cyc
  have pl := p.length_eq
  rw [List.length_map] at pl
  refine ⟨by omega, fun r hr => ?_⟩
  obtain ⟨c, hcm, rfl⟩ := List.mem_map.mp (p.mem_iff.mp hr)
  obtain ⟨x, l, e, _⟩ := cy.cyc c hcm
  have cne : c ≠ [] := by rw [e]; simp
  have t := leastT_turn cne
  have tp := Cy.turn_perm t
  have ndC : c.Nodup := (List.pairwise_flatten.mp (cy.all.nodup_iff.mpr (row_nodup pm))).1 c hcm
  have sub : ∀ z ∈ c, z ∈ row := fun z hz => cy.all.mem_iff.mp (List.mem_flatten.mpr ⟨c, hcm, hz⟩)
  refine ⟨fun z => cne ((turn_nil t).mpr z), ?_, fun y hy => ?_⟩
  · have := ndC.length_le_of_subset (l₂ := row) sub
    rw [← tp.length_eq]
    omega
  · have := (perm_mem pm).mp (sub y (tp.mem_iff.mpr hy))
    omega
theorem rows_sh {R : List (List Int)} (h1 : R.length ≤ 12) (h2 : ∀ r ∈ R, r ≠ [] ∧ r.length ≤ 12 ∧ ∀ x ∈ r, 0 ≤ x ∧ x ≤ 20) : Sh 2 5000 (.list (R.map rowD)) := by
  have h := Sh.list (k := 1) (N := 300) (ds := R.map rowD) fun d hd => by
    obtain ⟨r, hr, rfl⟩ := List.mem_map.mp hd
    exact Sh.ints (h2 r hr).2.2 (h2 r hr).2.1
  refine h.mono (Nat.le_refl _) ?_
  rw [List.length_map]
  omega
theorem rims_one {row row2 : List Int} {n : Nat} {R R2 : List (List Int)} (pm : row.Perm (rgI (2 * n))) (n1 : 1 ≤ n) (t : Wd.Turn row row2) (h : RimsOf row R) (h2 : RimsOf row2 R2) : R = R2 := by
  obtain ⟨C, cy, p, s⟩ := h
  obtain ⟨C2, cy2, p2, s2⟩ := h2
  have tp := Cy.turn_perm t
  have cy3 : Cy.Cycles row (nx row) C2 := Cycles.congr ⟨cy2.all.trans tp.symm, cy2.cyc⟩ fun x hx => nx_turn pm n1 t hx
  exact sorted_eq (p.trans ((cycles_least (row_nodup pm) cy cy3).trans p2.symm)) s s2
theorem rims_flat {row : List Int} {n : Nat} {R : List (List Int)} (pm : row.Perm (rgI (2 * n))) (h : RimsOf row R) : R.flatten.Perm row := by
  obtain ⟨C, cy, p, s⟩ := h
  have q : ∀ D : List (List Int), (∀ c ∈ D, c ≠ []) → (D.map leastT).flatten.Perm D.flatten := fun D => by
    induction D with
    | nil => exact fun _ => List.Perm.refl _
    | cons c D ih =>
      intro hc
      rw [List.map_cons, List.flatten_cons, List.flatten_cons]
      exact ((Cy.turn_perm (leastT_turn (hc c List.mem_cons_self))).symm).append (ih fun c h => hc c (List.mem_cons_of_mem _ h))
  refine (p.flatten.trans (q C fun c hc => ?_)).trans cy.all
  obtain ⟨x, l, rfl, _⟩ := cy.cyc c hc
  simp
theorem show2 {H : Hp} {Q : VK} {l : Addr} {x y : Int} (h0 : -50 ≤ x) (h1 : x ≤ 99) (e : x = y) (hl : SqL K H l [.int x, .int y]) (k : Q (.str (PyData.list [.int x, .int x]).shown) H) : rShow K [.ref l] H Q := by
  subst e
  have h : Sh 1 50 (.list [.int x, .int x]) := (Sh.list (k := 0) (N := 20) (ds := [.int x, .int x]) fun d hd => by
    simp only [List.mem_cons, List.not_mem_nil, or_false, or_self] at hd
    rw [hd]
    exact Sh.int h0 h1).mono (Nat.le_refl _) (by simp)
  exact h.show (by omega) (by omega) (.lst hl (.cons (.int x) (.cons (.int x) .nil))) k
theorem sw_rims (T : Txt K mg) : Swaps1 T.rims.fd "skin" := T.rims.F.swaps1 fun _ _ _ _ _ _ _ => rfl
theorem sw_genus (T : Txt K mg) : Swaps1 T.genus.fd "skin" := T.genus.F.swaps1 fun _ _ _ _ _ _ _ => rfl
def lQ : Str := (("law" : Str) ++ ".<locals>.") ++ "<lambda>"
abbrev jTs (T : Txt K mg) : List (Addr × Str) := [(T.lP, lQ)]
end
section
variable {X : Cx} {A : Around} {outer : List Env} {s : Shared} {H : Hp} {E : XK} {lsc : Scope} {fl co : Addr} {p p1 p2 pos : Pos}
theorem lb_rn (T : Txt X.K X.mg) (hr : Room 7 (A.deeper (LamX.lamEnv X lsc s.heap.objs.size fl co))) (n8 : X.N[8]? = some ("no" : Str)) (v8 : Vis lsc "no") (hg : Gl (LamX.lamCx X A outer s H E lsc fl co) "rims") :
    PE (LamX.lamCx X A outer s H E lsc fl co) (.Call (.Name "rims" p) [.Name "no" p2] [] pos) (tCall (spRims T) [] E (tCons (tVar 8) tNil)) := by
  refine pe_call (CX := L2.CX X.prog X.w) (ok_rims T) (hr.mono (by decide)) hg T.rims.g T.rims.k T.rims.b .nil lamP (pa_cons ?_ pa_nil)
  exact pv (X := LamX.lamCx X A outer s H E lsc fl co) 8 n8 v8
theorem lb_gn (T : Txt X.K X.mg) (hr : Room 7 (A.deeper (LamX.lamEnv X lsc s.heap.objs.size fl co))) (n8 : X.N[8]? = some ("no" : Str)) (v8 : Vis lsc "no") (hg : Gl (LamX.lamCx X A outer s H E lsc fl co) "genus") :
    PE (LamX.lamCx X A outer s H E lsc fl co) (.Call (.Name "genus" p) [.Name "no" p2] [] pos) (tCall (spGenus T) [] E (tCons (tVar 8) tNil)) := by
  refine pe_call (CX := L2.CX X.prog X.w) (ok_genus T) (hr.mono (by decide)) hg T.genus.g T.genus.k T.genus.b .nil lamP (pa_cons ?_ pa_nil)
  exact pv (X := LamX.lamCx X A outer s H E lsc fl co) 8 n8 v8
end
end Tt
set_option maxRecDepth 100000
set_option maxHeartbeats 4000000
namespace Tt
open PySem L2
open LamX (Tabs TabS TabB ExtN CodeO tLam)
section
variable {P : Program} {w : World} {K : PySem.W.Frag} {mg : Str → Option Value} {base : Heap}
theorem kit_self (S : String) : PySem.W.kitOne K (.type S) (.type S) = some true := by
  unfold PySem.W.kitOne
  rw [if_pos (by simp)]
theorem nil_i {σ : L2.St} {H : Hp} {Q : List V → Hp → Prop} (h : Q [] H) : tNil σ H Q := h
theorem tabs_put {Ts : List (Addr × Str)} {H : Hp} {f : Addr} {xs : List V} {o : HO} (t : Tabs Ts H) (hf : H f = some (.lst xs)) : Tabs Ts (upd H f o) := fun p hp => by
  obtain ⟨ps, h1, h2, h3⟩ := t p hp
  refine ⟨ps, ?_, h2, fun pos cv hc => ?_⟩
  · rw [upd_ne]
    · exact h1
    · intro z
      rw [z, hf] at h1
      cases h1
  · obtain ⟨c, e1, e2⟩ := h3 pos cv hc
    refine ⟨c, e1, ?_⟩
    rw [upd_ne]
    · exact e2
    · intro z
      rw [z, hf] at e2
      cases e2
theorem SkAt.put {T : Txt K mg} {H : Hp} {p f : Addr} {row : List Int} {xs : List V} {o : HO} (h : SkAt T H p row) (hf : H f = some (.lst xs)) : SkAt T (upd H f o) p row := by
  obtain ⟨dx, r, q, a1, a2, a3⟩ := h
  refine ⟨dx, r, q, ?_, FzT.ne a2 hf (fun _ _ z => nomatch z), FzT.ne a3 hf (fun _ _ z => nomatch z)⟩
  rw [upd_ne]
  · exact a1
  · intro z
    rw [z, hf] at a1
    cases a1
structure Lw (T : Txt K mg) (D : Dw) (p q : Addr) (row row2 : List Int) (H : Hp) : Prop where
  dr : DrOk D H
  tb : Tabs (jTs T) H
  sk : SkAt T H p row2
  ln : FzT H q (row.map V.int)
section
variable {T : Txt K mg} {D : Dw} {p q : Addr} {row row2 : List Int} {H H' : Hp}
theorem Lw.same (c : Lw T D p q row row2 H) (s : Same H H') : Lw T D p q row row2 H' := ⟨c.dr.same s, c.tb.ext s, c.sk.same s, FzT.same c.ln s⟩
theorem Lw.put {f : Addr} {xs : List V} {o : HO} (c : Lw T D p q row row2 H) (of : Off D f) (hf : H f = some (.lst xs)) : Lw T D p q row row2 (upd H f o) := ⟨c.dr.put of, tabs_put c.tb hf, c.sk.put hf, FzT.ne c.ln hf fun _ _ z => nomatch z⟩
end
theorem RowsAt.same {H H' : Hp} {q : Addr} {bs : List (Addr × List Int)} (h : RowsAt K H q bs) (s : Same H H') : RowsAt K H' q bs := ⟨s _ _ h.1, fun b hb => same_seqT s (h.2 b hb)⟩
theorem RowsAt.dp {H : Hp} {q : Addr} {bs : List (Addr × List Int)} (h : RowsAt K H q bs) : Dp K H (.ref q) (.list ((bs.map (·.2)).map rowD)) := .lst (SqL.of h.1) (dpAll_bs bs h.2)
theorem RowsAt.put {H : Hp} {q f : Addr} {bs : List (Addr × List Int)} {xs : List V} {o : HO} (h : RowsAt K H q bs) (hf : H f = some (.lst xs)) (n : q ≠ f) : RowsAt K (upd H f o) q bs := ⟨(upd_ne n).trans h.1, fun b hb => sqT_put (h.2 b hb) hf⟩
def Lm (T : Txt K mg) (H H' : Hp) : Prop := ∃ H1, ExtN H H1 ∧ Tabs (jTs T) H1 ∧ Same H1 H'
section
variable {T : Txt K mg} {H : Hp} {σ : L2.St} {Q : VK} {y : V}
theorem lam_rn (tb : Tabs (jTs T) H) (h8 : σ[8]? = some (some y)) (sv : ∀ H', ExtN H H' → SkV T H' y false) (k : NoSk T (Lm T H) Q) :
    tLam (jTs T) (TTc K T.RoundError.C) (fun E => tCall (spRims T) [] E (tCons (tVar 8) tNil)) σ H Q := by
  refine ⟨tb, fun H1 e1 t1 => ?_⟩
  exact ⟨_, h8, _, rfl, .inl ⟨sv H1 e1, skErr_of (fun H' s => ⟨H1, e1, t1, s⟩) k⟩⟩
theorem lam_gn (tb : Tabs (jTs T) H) (h8 : σ[8]? = some (some y)) (sv : ∀ H', ExtN H H' → SkV T H' y false) (k : NoSk T (Lm T H) Q) :
    tLam (jTs T) (TTc K T.RoundError.C) (fun E => tCall (spGenus T) [] E (tCons (tVar 8) tNil)) σ H Q := by
  refine ⟨tb, fun H1 e1 t1 => ?_⟩
  exact ⟨_, h8, _, rfl, .inl ⟨sv H1 e1, skErr_of (fun H' s => ⟨H1, e1, t1, s⟩) k⟩⟩
end
theorem law_body (T : Txt K mg) (TB : TabB base mg T.lc T.lP) {A : Around} {outer : List Env} {s : Shared} {H : Hp} {E : XK} {Q : VK} {a : Addr} {zs : List Int} (hA : A.guards = some []) (hr : Room 14 (A.deeper (PyProof.Rows.envOfC "law" (defScope s_law) s.heap.objs.size T.law.a (.ref T.lc))))
    (hs : SqL K H a (zs.map V.int)) (hl : zs.length ≤ 63) (tb : Tabs (jTs T) H) (k : ∀ H', Q (.bl true) H') :
    ∃ t, PSs (cxOf CX0 P w K mg base N_law "law" (defScope s_law) T.law.a (.ref T.lc) A outer s H E).nox (defBody s_law) t ∧ t { nx := fun _ H' => Q .non H', rt := Q } (L2.start N_law [.ref a]) H := by
  have nd := sc_law.nd
  have hg : (cxOf CX0 P w K mg base N_law "law" (defScope s_law) T.law.a (.ref T.lc) A outer s H E).nox.A.guards = some [] := hA
  have hmT : (T.lP, (("law" : Str) ++ ".<locals>.") ++ "<lambda>") ∈ jTs T := List.mem_cons_self
  have hu : ∀ p ∈ jTs T, p.1 = T.lP → p.2 = (("law" : Str) ++ ".<locals>.") ++ "<lambda>" := fun p hp hq => by
    have e := List.mem_singleton.mp hp
    subst e
    exact Eq.refl lQ
  refine ⟨_, (pss_cons (ps_set (i := 1) nd rfl (Or.inl rfl) (pe_call (ok_l_begun T) (hr.mono (by decide)) (by rfl) T.l_begun.g T.l_begun.k T.l_begun.b .nil pass0 (pa_cons (pv 0) pa_nil)))
    (pss_cons (ps_for PassesOwn.never rfl (pi_range1 rfl T.zrange (pa_cons (pe_op op_add pe_int (pe_callB (call_min2 rfl) (by rfl) T.zmin (by decide +kernel) (pa_cons (pe_callB call_len_seq (by rfl) T.zlen (by decide +kernel) (pa_cons (pv 0) pa_nil)) (pa_cons pe_int pa_nil)))) pa_nil)) (pg_name (i := 2) nd rfl (Or.inl rfl))
      (pss_cons (ps_set (i := 3) nd rfl (Or.inl rfl) (pe_call (ok_l_row T) (hr.mono (by decide)) (by rfl) T.l_row.g T.l_row.k T.l_row.b .nil pass0 (pa_cons (pv 1) (pa_cons pe_int pa_nil))))
      (pss_cons (ps_par (i := 4) (j := 5) rfl nd rfl rfl (by decide) rfl rfl (pa_cons (pe_make T.Skin.kk (ok_Skin_init T) (hr.mono (by decide)) (by rfl) T.Skin.g T.Skin.b .nil passF (pa_cons (pv 3) pa_nil)) (pa_cons (pe_call (ok_l_rims T) (hr.mono (by decide)) (by rfl) T.l_rims.g T.l_rims.k T.l_rims.b .nil pass0 (pa_cons (pv 3) pa_nil)) pa_nil)) rfl)
      (pss_cons (ps_set (i := 6) nd rfl (Or.inl rfl) (pe_call (ok_rims T) (hr.mono (by decide)) (by rfl) T.rims.g T.rims.k T.rims.b .nil passF (pa_cons (pv 4) pa_nil)))
      (pss_cons (ps_if (PW.pt (pw_or (pt_not (pt_val (pe_callB call_isA (by rfl) T.zisinstance (by decide +kernel) (pa_cons (pv 6) (pa_cons (pe_bltn (v := .ty "list") (by rfl) T.zlist (by decide +kernel) rfl) pa_nil))))) (pw_or (pt_cmpR op_ne (pe_callB (call_show hg hr.units) (by rfl) T.zrepr (by decide +kernel) (pa_cons (pv 6) pa_nil)) (pe_callB (call_show hg hr.units) (by rfl) T.zrepr (by decide +kernel) (pa_cons (pv 5) pa_nil)) (nomark _)) (pw_or1 (pt_cmpR op_ne (pe_callB call_len_seq (by rfl) T.zlen (by decide +kernel) (pa_cons (pv 5) pa_nil)) (pe_call (ok_l_lots T) (hr.mono (by decide)) (by rfl) T.l_lots.g T.l_lots.k T.l_lots.b .nil pass0 (pa_cons (pv 3) pa_nil)) (nomark _))))))
        (pss_one (ps_ret pe_bl))
        pss_nil)
      (pss_cons (ps_if (pt_cmpR (op_neD hr.units) (pe_callB cr_sortedS2 (by rfl) T.zsorted (by decide +kernel) (pa_cons (pe_callB (cr_sumT rfl) (by rfl) T.zsum (by decide +kernel) (pa_cons (pv 6) (pa_cons (pe_tup pa_nil) pa_nil))) pa_nil)) (pe_listRg rfl (by rfl) T.zlist (prg_1 (by rfl) T.zrange (pe_callB call_len_seq (by rfl) T.zlen (by decide +kernel) (pa_cons (pv 3) pa_nil)))) (nomark _))
        (pss_one (ps_ret pe_bl))
        pss_nil)
      (pss_cons (ps_set (i := 7) nd rfl (Or.inl rfl) (pe_op op_sub (pe_op op_add (pe_op op_fdiv (pe_callB call_len_seq (by rfl) T.zlen (by decide +kernel) (pa_cons (pv 3) pa_nil)) pe_int) pe_int) (pe_callB call_len_seq (by rfl) T.zlen (by decide +kernel) (pa_cons (pv 5) pa_nil))))
      (pss_cons (ps_if (PW.pt (pw_or (pt_cmpR op_ne (pe_op op_mod (pe_callTy call_int1 (by rfl) T.zint (by decide +kernel) (pa_cons (pv 7) pa_nil)) pe_int) pe_int (nomark _)) (pw_or1 (pt_cmpR op_ne (pe_callB (call_show hg hr.units) (by rfl) T.zrepr (by decide +kernel) (pa_cons (pe_lst (pa_cons (pe_call (ok_genus T) (hr.mono (by decide)) (by rfl) T.genus.g T.genus.k T.genus.b .nil passF (pa_cons (pv 4) pa_nil)) (pa_cons (pe_callSw1 (ok_genus T) (hr.mono (by decide)) (by rfl) T.genus.g T.genus.k (sw_genus T) passF (pv 4)) pa_nil))) pa_nil)) (pe_callB (call_show hg hr.units) (by rfl) T.zrepr (by decide +kernel) (pa_cons (pe_op op_rep (pe_lst (pa_cons (pe_op op_fdiv (pv 7) pe_int) pa_nil)) pe_int) pa_nil)) (nomark _)))))
        (pss_one (ps_ret pe_bl))
        pss_nil)
      (pss_cons (ps_expr (pe_bm PySem.F.plainAttrs_list PySem.F.slot_list_append PySem.F.type_list_append mt_append (pv 6) (pa_cons pe_non pa_nil)))
      (pss_one (ps_if (pt_cmpR op_ne (pe_callB (call_show hg hr.units) (by rfl) T.zrepr (by decide +kernel) (pa_cons (pe_callSw1 (ok_rims T) (hr.mono (by decide)) (by rfl) T.rims.g T.rims.k (sw_rims T) passF (pv 4)) pa_nil)) (pe_callB (call_show hg hr.units) (by rfl) T.zrepr (by decide +kernel) (pa_cons (pv 5) pa_nil)) (nomark _))
        (pss_one (ps_ret pe_bl))
        pss_nil)))))))))))
    (pss_cons (ps_set (i := 8) nd rfl (Or.inr rfl) (pe_call (ok_l_pick T) (hr.mono (by decide)) (by rfl) T.l_pick.g T.l_pick.k T.l_pick.b .nil pass0 (pa_cons (pv 1) (pa_cons (pe_lst (pa_cons pe_non (pa_cons pe_int (pa_cons (pe_tup (pa_cons pe_int (pa_cons pe_int pa_nil))) (pa_cons (pe_lst (pa_cons pe_int (pa_cons pe_int pa_nil))) (pa_cons pe_str pa_nil)))))) pa_nil))))
    (pss_cons (ps_set (i := 9) nd rfl (Or.inl rfl) (pe_caught (k := 7) T (by rfl) TB rfl hmT hu (hr.mono (by decide)) (LamX.lamS_by (sc := defScope s_law) (by decide +kernel)) rfl (fun _ _ _ _ _ => rfl) (fun _ _ _ _ _ _ _ hr => lb_rn T hr rfl (Or.inr (Or.inr rfl)) (by rfl))))
    (pss_one (ps_ret (pe_and (pe_call (ok_l_skin_error T) (hr.mono (by decide)) (by rfl) T.l_skin_error.g T.l_skin_error.k T.l_skin_error.b .nil pass0 (pa_cons (pv 9) pa_nil)) (pe_one (pe_call (ok_l_skin_error T) (hr.mono (by decide)) (by rfl) T.l_skin_error.g T.l_skin_error.k T.l_skin_error.b .nil pass0 (pa_cons (pe_caught (k := 7) T (by rfl) TB rfl hmT hu (hr.mono (by decide)) (LamX.lamS_by (sc := defScope s_law) (by decide +kernel)) rfl (fun _ _ _ _ _ => rfl) (fun _ _ _ _ _ _ _ hr => lb_gn T hr rfl (Or.inr (Or.inr rfl)) (by rfl))) pa_nil)))))))))), ?_⟩
  refine ⟨_, rfl, a, zs, rfl, hs, hl, fun D H1 d1 s1 => ?_⟩
  have tb1 := tb.ext s1
  have hs1 : SqL K H1 a (zs.map V.int) := Same.seq s1 hs
  refine ⟨_, rfl, a, _, rfl, .inl hs1, _, _, rfl, _, _, rfl, rfl, _, rfl, ?_, ?_, ?_⟩
  · split <;> omega
  · split <;> omega
  refine for_range (lo := 0) (fun i σ H' => ∃ v2 v3 v4 v5 v6 v7, σ = [some (.ref a), some (.ref D.d), v2, v3, v4, v5, v6, v7, none, none] ∧ DrOk D H' ∧ Tabs (jTs T) H') ⟨none, none, none, none, none, none, rfl, d1, tb1⟩ ?_ ?_
  · rintro i σ H2 hi ⟨v2, v3, v4, v5, v6, v7, rfl, d2, tb2⟩
    refine ⟨_, rfl, D, 6, rfl, by decide, by decide, d2, fun n row q H3 n1 n6 pm d3 k3 fq => ?_⟩
    have n6' : n ≤ 6 := by omega
    have tb3 := tabs_kp tb2 d2 k3
    have hlen := perm_len pm
    have lm : (row.map V.int).length = row.length := List.length_map ..
    refine ⟨_, rfl, fun p dx hp hdx ne => ?_⟩
    have sA : Same H3 (upd (upd H3 dx (.own p)) p (.ins T.Skin.C dx [])) := (same_new hdx).trans (same_new (by rw [upd_ne ne.symm]; exact hp))
    refine ⟨p, q, dx, n, row, rfl, upd_same, FzT.same fq sA, n1, n6', pm, fun st H4 i0 sk kp => ⟨rfl, ?_⟩⟩
    have s4 : Same H3 H4 := fun b o hb => kp b o (sA b o hb) (ne_of_none hb hp)
    have pm2 := (turn_perm row st).trans pm
    have tu : Wd.Turn row (row.drop st ++ row.take st) := ⟨row.take st, row.drop st, (List.take_append_drop st row).symm, rfl⟩
    generalize row.drop st ++ row.take st = row2 at sk pm2 tu
    have c4 : Lw T D p q row row2 H4 := ⟨d3.same s4, tb3.ext s4, sk, FzT.same fq s4⟩
    clear sA s4 kp hp hdx ne i0 sk d3 k3 tb3 fq d2 tb2
    refine ⟨_, rfl, q, row, n, rfl, c4.ln.sq, n1, n6', pm, fun bs2 q2 H5 hR2 s5 hq2 hb2 => ⟨_, _, rfl, ?_⟩⟩
    have c5 := c4.same s5
    clear c4 s5 hq2
    refine ⟨_, rfl, _, rfl, .inr ⟨p, row2, n, rfl, c5.sk, n1, n6', pm2, fun bs1 q1 H6 hR1 s6 hq1 hb1 => ?_⟩⟩
    have c6 := c5.same s6
    have hb2 := hb2.same s6
    have o1 : Off D q1 := c5.dr.off hq1
    have nq : q2 ≠ q1 := fun z => by
      have := hb2.1
      rw [z] at this
      have h5 : H5 q1 = none := hq1
      have h6 := (RowsAt.same (H' := H6) ⟨‹RowsAt K H5 q2 bs2›.1, ‹RowsAt K H5 q2 bs2›.2⟩ s6)
      have h7 := ‹RowsAt K H5 q2 bs2›.1
      rw [z, h5] at h7
      cases h7
    clear c5 s6 hq1
    have eR := rims_one pm n1 tu hR2 hR1
    obtain ⟨bd1, bd2⟩ := hR2.bounds pm n6'
    have shR := rows_sh bd1 bd2
    have fl := rims_flat pm hR2
    obtain ⟨C, cy, pC, _⟩ := id hR2
    have lC : (bs2.map (·.2)).length = C.length := by rw [pC.length_eq, List.length_map]
    have lC2 : bs2.length = C.length := by rw [← lC, List.length_map]
    have par := rims_parity pm n1 cy
    refine ⟨_, rfl, .inr ⟨_, _, _, _, true, rfl, .ty _, Tt.TyB.x (K := K) (.lst (SqL.of hb1.1)), kit_self _, _, rfl, iteF ?_⟩⟩
    refine ⟨_, rfl, nil_i (Sh.show (K := K) (d := .list ((bs1.map (·.2)).map rowD)) (by rw [← eR]; exact shR) (by omega) (by omega) hb1.dp ⟨_, rfl, nil_i (Sh.show (K := K) shR (by omega) (by omega) hb2.dp ⟨rfl, _, rfl, ite2 (fun c => absurd c (by rw [eR]; simp)) (fun _ => ?_)⟩)⟩)⟩
    refine ⟨_, rfl, q2, _, rfl, .inl (SqL.of hb2.1), _, rfl, q, row, n, rfl, c6.ln.sq, n1, n6', pm, C, cy, fun H7 s7 => ⟨rfl, _, rfl, ite2 (fun c => absurd c (by rw [List.length_map, lC2]; simp)) (fun _ => ?_)⟩⟩
    have c7 := c6.same s7
    have hb1 := hb1.same s7
    have hb2 := hb2.same s7
    clear c6 s7
    refine ⟨_, rfl, (by show 0 ≤ sizeLine; decide), fun t0 ht0 => ?_⟩
    have c8 := c7.same (same_new (o := .tup []) ht0)
    have hb18 := hb1.same (same_new (o := .tup []) ht0)
    have hb28 := hb2.same (same_new (o := .tup []) ht0)
    have et0 : (upd H7 t0 (.tup [])) t0 = some (.tup []) := upd_same
    generalize upd H7 t0 (.tup []) = H8 at c8 hb18 hb28 et0
    clear c7 hb1 hb2 ht0
    have em : ((bs1.map fun b => (b.1, b.2.map V.int)).map (·.2)).flatten = ((bs1.map (·.2)).flatten).map V.int := by
      rw [List.map_map, List.map_flatten, List.map_map]
      rfl
    have lf : ((bs1.map (·.2)).flatten).length = row.length := by rw [← eR, fl.length_eq]
    refine ⟨q1, t0, bs1.map fun b => (b.1, b.2.map V.int), rfl, ?_, SqT.of et0, fun b hb => ?_, ?_, fun u H9 s9 hu9 => ?_⟩
    · rw [List.map_map]
      exact SqL.of hb18.1
    · obtain ⟨b0, hb0, rfl⟩ := List.mem_map.mp hb
      refine ⟨fun z => ?_, hb18.2 b0 hb0⟩
      have hm : b0.2 ∈ bs2.map (·.2) := by rw [eR]; exact List.mem_map.mpr ⟨b0, hb0, rfl⟩
      exact (bd2 _ hm).1 (List.map_eq_nil_iff.mp z)
    · rw [em, List.length_map, lf]
      have : (12 : Nat) ≤ sizeLine := by decide
      omega
    rw [em] at hu9
    have c9 := c8.same s9
    have hb19 := hb18.same s9
    have hb29 := hb28.same s9
    clear c8 hb18 hb28 s9 et0
    refine .inr ⟨u, _, rfl, hu9, fun ns' p2 pmS pw hp2 => ?_⟩
    have c10 := c9.same (same_new (o := .lst (ns'.map V.int)) hp2)
    have hb110 := hb19.same (same_new (o := .lst (ns'.map V.int)) hp2)
    have hb210 := hb29.same (same_new (o := .lst (ns'.map V.int)) hp2)
    have e10 : (upd H9 p2 (.lst (ns'.map V.int))) p2 = some (.lst (ns'.map V.int)) := upd_same
    generalize upd H9 p2 (.lst (ns'.map V.int)) = H10 at c10 hb110 hb210 e10
    clear c9 hb19 hb29 hu9 hp2
    refine ⟨_, rfl, q, _, rfl, .inr c10.ln.sq, _, rfl, RgOk.of_le (by omega) (by rw [lm]; omega) (by omega) (by omega), fun q3 hq3 => ?_⟩
    have eN : ns' = rgI (2 * n) := perm_sorted pmS pw (by rw [← eR]; exact fl.trans pm)
    have e1 : (upd H10 q3 (.lst (rgV 0 ((row.map V.int).length : Int)))) q3 = some (.lst ((rgI (2 * n)).map V.int)) := by
      rw [upd_same, rgV_rgI (by omega), lm, hlen, Int.toNat_natCast]
    have c11 := c10.same (same_new (o := .lst (rgV 0 ((row.map V.int).length : Int))) hq3)
    have hb111 := hb110.same (same_new (o := .lst (rgV 0 ((row.map V.int).length : Int))) hq3)
    have hb211 := hb210.same (same_new (o := .lst (rgV 0 ((row.map V.int).length : Int))) hq3)
    have e11 := upk (u := .lst (rgV 0 ((row.map V.int).length : Int))) hq3 e10
    generalize upd H10 q3 (.lst (rgV 0 ((row.map V.int).length : Int))) = H11 at e1 c11 hb111 hb211 e11
    clear c10 hb110 hb210 e10 hq3
    refine ⟨_, _, .lst (SqL.of e11) (dpAll_ints _ ns'), .lst (SqL.of e1) (dpAll_ints _ _), shapedAll_ints _, shapedAll_ints _, _, rfl, ite2 (fun c => absurd c (by rw [eqv_ints, decide_eq_true eN]; decide)) (fun _ => ?_)⟩
    clear e1 e11
    refine ⟨_, rfl, q, _, rfl, .inr c11.ln.sq, _, _, rfl, rfl, ⟨by decide, by decide⟩, _, _, rfl, rfl, _, rfl, q2, _, rfl, .inl (SqL.of hb211.1), _, _, rfl, rfl, ?_⟩
    rw [lm, List.length_map, lC2]
    have hm : ((row.length : Int) / 2 + 1 - (C.length : Int)) % 2 = 0 := by omega
    have hz : ((row.length : Int) / 2 + 1 - (C.length : Int)) / 2 = ((n : Int) + 1 - (C.length : Int)) / 2 := by
      have : (row.length : Int) / 2 = (n : Int) := by omega
      rw [this]
    have cl : C.length ≤ 12 := by rw [← lC]; exact bd1
    have gl : -50 ≤ ((n : Int) + 1 - (C.length : Int)) / 2 ∧ ((n : Int) + 1 - (C.length : Int)) / 2 ≤ 99 := by omega
    refine ⟨_, rfl, .inl ⟨_, rfl, _, _, rfl, rfl, (by show (0 : Int) < 2; decide), rfl, _, rfl, ite2 (fun c => absurd c ?_) (fun _ => ?_)⟩⟩
    · show ¬ (!decide (V.int (((row.length : Int) / 2 + 1 - (C.length : Int)) % 2) = V.int 0)) = true
      rw [hm]
      decide
    refine ⟨_, rfl, _, rfl, .inr ⟨p, row2, n, rfl, c11.sk, n1, n6', pm2, fun R H12 hR s12 => ?_⟩⟩
    have c12 := c11.same s12
    refine ⟨_, rfl, _, rfl, .inr ⟨p, row2, n, rfl, c12.sk, n1, n6', pm2, fun R' H13 hR' s13 => ⟨(by show 2 ≤ sizeLine; decide), fun l1 hl1 => ?_⟩⟩⟩
    have lR : R.length = C.length := by rw [← rims_one pm n1 tu hR2 hR, lC]
    have lR' : R'.length = C.length := by rw [← rims_one pm n1 tu hR2 hR', lC]
    have c13 := c12.same s13
    have hb113 := (hb111.same s12).same s13
    have hb213 := (hb211.same s12).same s13
    rw [lR, lR']
    generalize hgz : ((n : Int) + 1 - (C.length : Int)) / 2 = gz at gl hz
    have c14 := c13.same (same_new (o := .lst [.int gz, .int gz]) hl1)
    have hb114 := hb113.same (same_new (o := .lst [.int gz, .int gz]) hl1)
    have hb214 := hb213.same (same_new (o := .lst [.int gz, .int gz]) hl1)
    refine nil_i (show2 (K := K) (x := gz) (y := gz) gl.1 gl.2 rfl (SqL.of upd_same) ?_)
    generalize upd H13 l1 (.lst [.int gz, .int gz]) = H14 at c14 hb114 hb214
    clear c11 c12 c13 hb111 hb211 hb113 hb213 s12 s13 hl1
    refine ⟨_, rfl, _, _, rfl, rfl, ⟨by decide, by decide⟩, (by show 1 ≤ sizeLine; decide), fun l2 hl2 => ?_⟩
    have c15 := c14.same (same_new (o := .lst [.int (((row.length : Int) / 2 + 1 - (C.length : Int)) / 2)]) hl2)
    have hb115 := hb114.same (same_new (o := .lst [.int (((row.length : Int) / 2 + 1 - (C.length : Int)) / 2)]) hl2)
    have hb215 := hb214.same (same_new (o := .lst [.int (((row.length : Int) / 2 + 1 - (C.length : Int)) / 2)]) hl2)
    have e15 : (upd H14 l2 (.lst [.int (((row.length : Int) / 2 + 1 - (C.length : Int)) / 2)])) l2 = some (.lst [.int (((row.length : Int) / 2 + 1 - (C.length : Int)) / 2)]) := upd_same
    generalize upd H14 l2 (.lst [.int (((row.length : Int) / 2 + 1 - (C.length : Int)) / 2)]) = H15 at c15 hb115 hb215 e15
    clear c14 hb114 hb214 hl2
    refine ⟨l2, 2, _, rfl, rfl, e15, by decide, by decide, (by show 1 * 2 ≤ sizeLine; decide), fun l3 hl3 => ?_⟩
    have c16 := c15.same (same_new (o := .lst (List.replicate (2 : Int).toNat [V.int (((row.length : Int) / 2 + 1 - (C.length : Int)) / 2)]).flatten) hl3)
    have hb116 := hb115.same (same_new (o := .lst (List.replicate (2 : Int).toNat [V.int (((row.length : Int) / 2 + 1 - (C.length : Int)) / 2)]).flatten) hl3)
    have hb216 := hb215.same (same_new (o := .lst (List.replicate (2 : Int).toNat [V.int (((row.length : Int) / 2 + 1 - (C.length : Int)) / 2)]).flatten) hl3)
    have e16 : (upd H15 l3 (.lst (List.replicate (2 : Int).toNat [V.int (((row.length : Int) / 2 + 1 - (C.length : Int)) / 2)]).flatten)) l3 = some (.lst [.int gz, .int gz]) := by
      rw [upd_same, hz]
      rfl
    generalize upd H15 l3 (.lst (List.replicate (2 : Int).toNat [V.int (((row.length : Int) / 2 + 1 - (C.length : Int)) / 2)]).flatten) = H16 at c16 hb116 hb216 e16
    clear c15 hb115 hb215 e15 hl3
    refine nil_i (show2 (K := K) (x := gz) (y := gz) gl.1 gl.2 rfl (SqL.of e16) ⟨rfl, _, rfl, ite2 (fun c => absurd c (by simp)) (fun _ => ?_)⟩)
    refine ⟨_, rfl, .inl ⟨rfl, _, SqL.of hb116.1⟩, q1, _, .non, rfl, rfl, hb116.1, ?_, ?_⟩
    · have h1 : bs1.length ≤ 12 := by
        have := congrArg List.length eR
        rw [List.length_map, List.length_map] at this
        omega
      rw [List.length_map]
      exact small1000 (by omega)
    have c17 := c16.put (o := .lst (bs1.map (fun b => V.ref b.1) ++ [.non])) o1 hb116.1
    have hb217 := hb216.put (o := .lst (bs1.map (fun b => V.ref b.1) ++ [.non])) hb116.1 nq
    generalize upd H16 q1 (.lst (bs1.map (fun b => V.ref b.1) ++ [.non])) = H17 at c17 hb217
    refine ⟨_, rfl, _, rfl, .inr ⟨p, row2, n, rfl, c17.sk, n1, n6', pm2, fun bs3 q4 H18 hR3 s18 hq4 hb3 => ?_⟩⟩
    have eR3 := rims_one pm n1 tu hR2 hR3
    have c18 := c17.same s18
    have hb218 := hb217.same s18
    refine nil_i (Sh.show (K := K) (d := .list ((bs3.map (·.2)).map rowD)) (by rw [← eR3]; exact shR) (by omega) (by omega) hb3.dp ⟨_, rfl, nil_i (Sh.show (K := K) shR (by omega) (by omega) hb218.dp ⟨rfl, _, rfl, ite2 (fun c => absurd c (by rw [eR3]; simp)) (fun _ => ?_)⟩)⟩)
    exact ⟨_, _, _, _, _, _, rfl, c18.dr, c18.tb⟩
  · rintro σ H2 ⟨v2, v3, v4, v5, v6, v7, rfl, d2, tb2⟩
    refine ⟨_, rfl, (by show 2 ≤ sizeLine; decide), fun t1 ht1 => ⟨(by show 2 ≤ sizeLine; decide), fun l1 hl1 => ⟨(by show 5 ≤ sizeLine; decide), fun l2 hl2 => ?_⟩⟩⟩
    have s3 : Same H2 (upd H2 t1 (.tup [.int 0, .int 1])) := same_new ht1
    have e3 : (upd H2 t1 (.tup [.int 0, .int 1])) t1 = some (.tup [.int 0, .int 1]) := upd_same
    generalize upd H2 t1 (.tup [.int 0, .int 1]) = H3 at s3 e3 hl1 hl2
    have s4 : Same H3 (upd H3 l1 (.lst [.int 0, .int 1])) := same_new hl1
    have e4 : (upd H3 l1 (.lst [.int 0, .int 1])) l1 = some (.lst [.int 0, .int 1]) := upd_same
    have e3' := s4 _ _ e3
    have o1 : Off D l1 := (d2.same s3).off hl1
    generalize upd H3 l1 (.lst [.int 0, .int 1]) = H4 at s4 e4 e3' hl2
    have s5 : Same H4 (upd H4 l2 (.lst [.non, .int 5, .ref t1, .ref l1, .str "skin"])) := same_new hl2
    have e5 : (upd H4 l2 (.lst [.non, .int 5, .ref t1, .ref l1, .str "skin"])) l2 = some (.lst [.non, .int 5, .ref t1, .ref l1, .str "skin"]) := upd_same
    have e3'' := s5 _ _ e3'
    have e4' := s5 _ _ e4
    have o2 : Off D l2 := ((d2.same s3).same s4).off hl2
    have d5 := ((d2.same s3).same s4).same s5
    have tb5 := ((tb2.ext s3).ext s4).ext s5
    generalize upd H4 l2 (.lst [.non, .int 5, .ref t1, .ref l1, .str "skin"]) = H5 at s5 e5 e3'' e4' d5 tb5
    refine ⟨D, l2, _, rfl, .inl (SqL.of e5), o2.2.1, by simp, (by show 5 < 1073741824; decide), d5, fun i y H6 hi d6 k6 => ?_⟩
    have tb6 := tabs_kp tb5 d5 k6
    have yv : ∀ H', (∀ b o, H6 b = some o → (∀ ps, o ≠ .tbl ps) → H' b = some o) → SkV T H' y false := fun H' kk => by
      have hx := List.mem_of_getElem? hi
      simp only [List.mem_cons, List.not_mem_nil, or_false] at hx
      rcases hx with rfl | rfl | rfl | rfl | rfl
      · exact .ty .non T.kSN
      · exact .ty (.int 5) T.kSI
      · refine .ty (.tup (xs := [.int 0, .int 1]) (SqT.of ?_)) T.kST
        exact kk _ _ (d5.tup k6 e3'') (fun _ z => nomatch z)
      · have h1 : SqL K H' l1 [.int 0, .int 1] := SqL.of (kk _ _ (k6.at o1 e4') (fun _ z => nomatch z))
        exact .ty (.lst h1) T.kSL
      · exact .ty (.str _) T.kSY
    clear d2 tb2 s3 e3 s4 e4 e3' e5 e3'' e4' d5 tb5 k6 hl1 hl2 ht1 hi
    refine lam_rn (K := K) tb6 rfl (fun H' e => yv H' fun b o h n => e b o h n) fun a8 d8 H8 j8 ha8 hd8 => ?_
    obtain ⟨H7, x7, t7, s8⟩ := j8
    refine ⟨_, rfl, a8, d8, rfl, ha8, hd8, true, rfl, iteT ?_⟩
    have tb8 : Tabs (jTs T) H8 := t7.ext s8
    have ext : ∀ H', ExtN H8 H' → SkV T H' y false := fun H' e => yv H' fun b o h n => e b o (s8 _ _ (x7 b o h n)) n
    refine lam_gn (K := K) tb8 rfl ext fun a9 d9 H9 j9 ha9 hd9 => ?_
    exact ⟨a9, d9, rfl, ha9, hd9, k H9⟩
end
end Tt
set_option maxRecDepth 100000
set_option maxHeartbeats 4000000
namespace Tt
open PySem PySem.Spec PyProof.Rows L2
open LamX (TabB)
def firstH (a : Addr) (ts : List (Addr × Addr)) (u : Option HO) : Hp := fun b => if b = a then u else if b ∈ ts.map (·.2) then some (.tbl #[]) else none
theorem firstH_a {a : Addr} {ts : List (Addr × Addr)} {u : Option HO} : firstH a ts u a = u := if_pos rfl
theorem firstH_t {a t : Addr} {ts : List (Addr × Addr)} {u : Option HO} (n : t ≠ a) (h : t ∈ ts.map (·.2)) : firstH a ts u t = some (.tbl #[]) := (if_neg n).trans (if_pos h)
theorem firstH_o {a b : Addr} {ts : List (Addr × Addr)} {u : Option HO} (n : b ≠ a) (m : b ∉ ts.map (·.2)) : firstH a ts u b = none := (if_neg n).trans (if_neg m)
theorem law_run {P : Program} {w : World} {K : PySem.W.Frag} {mg mb : Str → Option Value} {fa a : Addr} {ts : List (Addr × Addr)} {s₁ : Shared} {vs : List Value} {ns : List Int}
    (KX : K.In s₁.heap) (hg : s₁.heap.Ns mainGlobals mg) (hb : s₁.heap.Ns builtinsNs mb) (hbb : ∀ x : Str, x ≠ "__name__" → mb x = bootBuiltins x) (lim : s₁.heap.NoLimit) (gens : s₁.gens = #[])
    (hts : ∀ p ∈ ts, s₁.heap.get? p.2 = some { cls := .none, data := .fields #[] } ∧ K.lookup p.2 = none ∧ PySem.W.CodeHd s₁.heap p.1 p.2)
    (bmain : ∃ (bm : Addr) (ob : Obj), mg "__builtins__" = some (.ref bm) ∧ bm ≠ builtinsNs ∧ s₁.heap.get? bm = some ob ∧ ob.cls = .type "module" ∧ ob.dict = some builtinsNs ∧ ob.data = .plain)
    (ha : s₁.heap.get? a = some { cls := .type "list", data := .seq vs.toArray }) (hi : IntsAre vs ns) (hl : ns.length ≤ sizeLine)
    (run : ∀ (base : Heap) (H : Hp), (∀ p ∈ ts, TabB base mg p.1 p.2) → Env0 P w K mg base callerA [] s₁ H → (∀ p ∈ ts, H p.2 = some (.tbl #[])) → SqL K H a (ns.map V.int) → codeAny (model P w) callerA (.call (.ref fa) ⟨[.ref a], []⟩) (CR CX0 [] P w H s₁ (fun v _ => v = .bl true) E0) s₁) :
    codeAny (model P w) callerA (.call (.ref fa) ⟨[.ref a], []⟩) (fun r s' => r = .ok (.ret (.bool true)) ∧ OldK s₁.heap s'.heap ∧ s'.os = s₁.os ∧ AllBare s'.gens) s₁ := by
  have rv := vals_ints hi
  have mem : ∀ {t : Addr}, t ∈ ts.map (·.2) → ∃ c, (c, t) ∈ ts := fun {t} h => by
    obtain ⟨⟨c, t'⟩, h1, rfl⟩ := List.mem_map.mp h
    exact ⟨c, h1⟩
  have nta : ∀ t ∈ ts.map (·.2), t ≠ a := fun t ht z => by
    obtain ⟨c, hc⟩ := mem ht
    have h1 := (hts _ hc).1
    rw [z, ha] at h1
    have z' : Data.seq vs.toArray _ = Data.fields #[] := congrArg Obj.data (Option.some.inj h1)
    cases z'
  obtain ⟨u, hu, hS, hK⟩ : ∃ u : Option HO, (u = none ∨ u = some (.frz { cls := .type "list", data := .seq vs.toArray } (.lst (ns.map V.int)))) ∧ SqL K (firstH a ts u) a (ns.map V.int) ∧ (u ≠ none → K.lookup a = none) := by
    cases hk : K.lookup a with
    | none => exact ⟨_, .inr rfl, .inl (.inr ⟨_, firstH_a⟩), fun _ => rfl⟩
    | some o =>
      have e := KX a o hk
      rw [ha] at e
      cases e
      exact ⟨none, .inl rfl, .inr ⟨_, vs.toArray, _, hk, rfl, rfl, rfl, by rw [List.size_toArray, hi.length]; exact hl, by simpa using rv⟩, fun z => absurd rfl z⟩
  have hT : ∀ t ∈ ts.map (·.2), firstH a ts u t = some (.tbl #[]) := fun t ht => firstH_t (nta t ht) ht
  have look : ∀ b x, firstH a ts u b = some x → (b = a ∧ u = some x) ∨ (b ∈ ts.map (·.2) ∧ x = .tbl #[]) := fun b x e => by
    by_cases h1 : b = a
    · subst h1
      exact .inl ⟨rfl, firstH_a.symm.trans e⟩
    · by_cases h2 : b ∈ ts.map (·.2)
      · rw [hT b h2] at e
        exact .inr ⟨h2, (Option.some.inj e).symm⟩
      · rw [firstH_o h1 h2] at e
        cases e
  generalize hH : firstH a ts u = H at hS hT look
  have free : ∀ {b : Addr} {o : Obj}, s₁.heap.get? b = some o → (∀ vs n, o.data ≠ .seq vs n) → o.data ≠ .fields #[] → H b = none := fun {b o} e h1 h2 => by
    cases q : H b with
    | none => rfl
    | some x =>
      rcases look b x q with ⟨rfl, _⟩ | ⟨hb, _⟩
      · rw [ha] at e
        cases e
        exact (h1 _ _ rfl).elim
      · obtain ⟨c, hc⟩ := mem hb
        rw [(hts _ hc).1] at e
        cases e
        exact (h2 rfl).elim
  have dict : ∀ {b : Addr} {m : Str → Option Value}, s₁.heap.Ns b m → (hidT s₁.heap H).Ns b m := fun {b m} ⟨o, es, ep, e, d, r⟩ =>
    ⟨o, es, ep, hidT_get e (free e (fun _ _ z => by rw [d] at z; cases z) (fun z => by rw [d] at z; cases z)), d, r⟩
  have kin : K.In (hidT s₁.heap H) := fun b o e => hidT_get (KX b o e) (by
    cases q : H b with
    | none => rfl
    | some x =>
      rcases look b x q with ⟨rfl, hx⟩ | ⟨hb, _⟩
      · rw [hK (by rw [hx]; simp)] at e
        cases e
      · obtain ⟨c, hc⟩ := mem hb
        rw [(hts _ hc).2.1] at e
        cases e)
  have mod : L2.Mod K mg (hidT s₁.heap H) := ⟨kin, dict hg, ⟨mb, dict hb, hbb⟩, let ⟨mc, h1, h2⟩ := lim; ⟨mc, dict h1, h2⟩⟩
  have TB : ∀ p ∈ ts, TabB (hidT s₁.heap H) mg p.1 p.2 := fun p hp => by
    obtain ⟨ht, nt, C⟩ := hts p hp
    refine ⟨?_, ?_, fun z => ?_⟩
    · obtain ⟨o, us, file, tf, flags, tg, inF, text, tt, e1, r1, r2, r3, rest⟩ := C
      refine ⟨o, us, file, tf, flags, tg, inF, text, tt, hidT_get e1 (free e1 (fun _ _ z => by rw [r2] at z; cases z) fun z => ?_), r1, r2, r3, rest⟩
      rw [r2] at z
      cases z
      simp at r3
    · obtain ⟨bm, ob, b1, b2, b3, b4, b5, b6⟩ := bmain
      refine ⟨bm, ob, b1, b2, fun q => ?_, fun q => ?_, hidT_get b3 (free b3 (fun _ _ z => by rw [b6] at z; cases z) (fun z => by rw [b6] at z; cases z)), b4, b5, b6⟩
      · obtain ⟨o, es, ep, e, hd, _⟩ := hg
        rw [q, e] at b3
        cases b3
        rw [hd] at b6
        cases b6
      · rw [q, ht] at b3
        cases b3
        cases b6
    · obtain ⟨o, es, ep, e, hd, _⟩ := hg
      rw [z, ht] at e
      cases e
      cases hd
  have hok : HOk P w H s₁.heap := fun b x e => by
    rcases look b x e with ⟨rfl, hx⟩ | ⟨hb, rfl⟩
    · rcases hu with rfl | rfl
      · cases hx
      · cases hx
        exact ⟨ha, by rw [List.length_map]; exact hl, vs, _, rv, ha⟩
    · obtain ⟨c, hc⟩ := mem hb
      exact (hts _ hc).1
  have e0 : Env0 P w K mg (hidT s₁.heap H) callerA [] s₁ H := ⟨rfl, mod, fun b o e => of_hidT e, Nat.le_of_eq (hidT_size _ _), trivial, fun b hb => absurd (show b ∈ ([] : List Addr) from hb) (by simp), hok, .of_eq gens⟩
  refine codeAny_mono (run _ H TB e0 (fun p hp => hT _ (List.mem_map_of_mem hp)) hS) fun r s' h => ?_
  match r, h with
  | .error e, h => exact (show False from h).elim
  | .ok .next, h => exact (show False from h).elim
  | .ok .brk, h => exact (show False from h).elim
  | .ok .cont, h => exact (show False from h).elim
  | .ok (.ret v'), h =>
    obtain ⟨v, H', os, bare, un, hok', rr, rfl⟩ := h
    obtain rfl : v' = Value.bool true := rr
    have ends : ∀ t ∈ ts.map (·.2), ∃ more : Array Value, s'.heap.get? t = some { cls := .none, data := .fields more } := fun t ht => by
      obtain ⟨more, e3⟩ := un.tbls t #[] (hT t ht)
      have e4 : s'.heap.get? t = some { cls := .none, data := .fields (#[] ++ more) } := hok' t _ e3
      rw [Array.empty_append] at e4
      exact ⟨more, e4⟩
    have stay : ∀ b o, b ∉ ts.map (·.2) → s₁.heap.get? b = some o → s'.heap.get? b = some o := fun b o nb e => by
      cases q : H b with
      | none => exact un.keep b o e q (fun z => absurd (show b ∈ ([] : List Addr) from z) (by simp)) (by simp)
      | some x =>
        rcases look b x q with ⟨rfl, hx⟩ | ⟨hb, _⟩
        · rcases hu with rfl | rfl
          · cases hx
          · cases hx
            obtain ⟨e1, _⟩ := hok b _ q
            obtain ⟨e2, _⟩ := hok' b _ (un.frzs b _ _ q)
            rw [e] at e1
            cases e1
            exact e2
        · exact absurd hb nb
    refine ⟨rfl, ⟨fun b o e => ?_, fun b o e => ?_⟩, os, bare⟩
    · by_cases nb : b ∈ ts.map (·.2)
      · obtain ⟨c, hc⟩ := mem nb
        obtain ⟨ht, nt, C⟩ := hts _ hc
        obtain ⟨more, e4⟩ := ends b nb
        have ht' : s₁.heap.get? b = some { cls := .none, data := .fields #[] } := ht
        rw [ht'] at e
        cases e
        exact .inr (.inl ⟨(C.tab ht).isCodeTable, rfl, #[], more, rfl, by rw [Array.empty_append]; exact e4⟩)
      · exact .inl (stay b o nb e)
    · by_cases nb : b ∈ ts.map (·.2)
      · obtain ⟨more, e4⟩ := ends b nb
        exact ⟨_, e4⟩
      · exact ⟨o, stay b o nb e⟩
end Tt
set_option maxRecDepth 100000
set_option maxHeartbeats 4000000
namespace Tt
open PySem PySem.Spec PyProof.Rows L2
open LamX (TabB)
theorem all_mk {K : PySem.W.Frag} {h : Heap} {mg : Str → Option Value} {fa lc lP : Addr} (X : K.In h) (G : h.Ns mainGlobals mg) (hfa : mg "law" = some (.ref fa))
    {C_RoundError : Addr}
    {C_BadSkin : Addr}
    {od_BadSkin an_BadSkin : Option Addr} {sl_BadSkin : Array (Option Value)} {oc_BadSkin kV_BadSkin dc_BadSkin pm_BadSkin cd_BadSkin ct_BadSkin : Value} {f_BadSkin : Addr}
    {nm_BadSkin qn_BadSkin : Str} {N_BadSkin : Addr} {bs_BadSkin bm_BadSkin : List Value} {sn_BadSkin : List Str} {sb_BadSkin : List Value} {ab_BadSkin : Bool} {co_BadSkin : Option Bool} {dd_BadSkin : Option Addr} {m0_BadSkin m1_BadSkin m2_BadSkin m3_BadSkin m5_BadSkin : Option Value}
    {od_is_number an_is_number : Option Addr} {sl_is_number : Array (Option Value)} {oc_is_number kV_is_number dc_is_number pm_is_number cd_is_number ct_is_number : Value} {f_is_number : Addr}
    {od_is_tuple an_is_tuple : Option Addr} {sl_is_tuple : Array (Option Value)} {oc_is_tuple kV_is_tuple dc_is_tuple pm_is_tuple cd_is_tuple ct_is_tuple : Value} {f_is_tuple : Addr}
    {od_is_list an_is_list : Option Addr} {sl_is_list : Array (Option Value)} {oc_is_list kV_is_list dc_is_list pm_is_list cd_is_list ct_is_list : Value} {f_is_list : Addr}
    {od_is_row an_is_row : Option Addr} {sl_is_row : Array (Option Value)} {oc_is_row kV_is_row dc_is_row pm_is_row cd_is_row ct_is_row : Value} {f_is_row : Addr}
    {C_Skin : Addr}
    {od_Skin an_Skin : Option Addr} {sl_Skin : Array (Option Value)} {oc_Skin kV_Skin dc_Skin pm_Skin cd_Skin ct_Skin : Value} {f_Skin : Addr}
    {od_check_skin an_check_skin : Option Addr} {sl_check_skin : Array (Option Value)} {oc_check_skin kV_check_skin dc_check_skin pm_check_skin cd_check_skin ct_check_skin : Value} {f_check_skin : Addr}
    {od_end_behind an_end_behind : Option Addr} {sl_end_behind : Array (Option Value)} {oc_end_behind kV_end_behind dc_end_behind pm_end_behind cd_end_behind ct_end_behind : Value} {f_end_behind : Addr}
    {od_least_turn an_least_turn : Option Addr} {sl_least_turn : Array (Option Value)} {oc_least_turn kV_least_turn dc_least_turn pm_least_turn cd_least_turn ct_least_turn : Value} {f_least_turn : Addr}
    {od_rim_from an_rim_from : Option Addr} {sl_rim_from : Array (Option Value)} {oc_rim_from kV_rim_from dc_rim_from pm_rim_from cd_rim_from ct_rim_from : Value} {f_rim_from : Addr}
    {od_rims an_rims : Option Addr} {sl_rims : Array (Option Value)} {oc_rims kV_rims dc_rims pm_rims cd_rims ct_rims : Value} {f_rims : Addr}
    {od_genus an_genus : Option Addr} {sl_genus : Array (Option Value)} {oc_genus kV_genus dc_genus pm_genus cd_genus ct_genus : Value} {f_genus : Addr}
    {od_l_begun an_l_begun : Option Addr} {sl_l_begun : Array (Option Value)} {oc_l_begun kV_l_begun dc_l_begun pm_l_begun cd_l_begun ct_l_begun : Value} {f_l_begun : Addr}
    {od_l_mixed an_l_mixed : Option Addr} {sl_l_mixed : Array (Option Value)} {oc_l_mixed kV_l_mixed dc_l_mixed pm_l_mixed cd_l_mixed ct_l_mixed : Value} {f_l_mixed : Addr}
    {od_l_take an_l_take : Option Addr} {sl_l_take : Array (Option Value)} {oc_l_take kV_l_take dc_l_take pm_l_take cd_l_take ct_l_take : Value} {f_l_take : Addr}
    {od_l_pick an_l_pick : Option Addr} {sl_l_pick : Array (Option Value)} {oc_l_pick kV_l_pick dc_l_pick pm_l_pick cd_l_pick ct_l_pick : Value} {f_l_pick : Addr}
    {od_l_shuffled an_l_shuffled : Option Addr} {sl_l_shuffled : Array (Option Value)} {oc_l_shuffled kV_l_shuffled dc_l_shuffled pm_l_shuffled cd_l_shuffled ct_l_shuffled : Value} {f_l_shuffled : Addr}
    {od_l_caught an_l_caught : Option Addr} {sl_l_caught : Array (Option Value)} {oc_l_caught kV_l_caught dc_l_caught pm_l_caught cd_l_caught ct_l_caught : Value} {f_l_caught : Addr}
    {od_l_skin_error an_l_skin_error : Option Addr} {sl_l_skin_error : Array (Option Value)} {oc_l_skin_error kV_l_skin_error dc_l_skin_error pm_l_skin_error cd_l_skin_error ct_l_skin_error : Value} {f_l_skin_error : Addr}
    {od_l_mate an_l_mate : Option Addr} {sl_l_mate : Array (Option Value)} {oc_l_mate kV_l_mate dc_l_mate pm_l_mate cd_l_mate ct_l_mate : Value} {f_l_mate : Addr}
    {od_l_least_turn an_l_least_turn : Option Addr} {sl_l_least_turn : Array (Option Value)} {oc_l_least_turn kV_l_least_turn dc_l_least_turn pm_l_least_turn cd_l_least_turn ct_l_least_turn : Value} {f_l_least_turn : Addr}
    {od_l_row an_l_row : Option Addr} {sl_l_row : Array (Option Value)} {oc_l_row kV_l_row dc_l_row pm_l_row cd_l_row ct_l_row : Value} {f_l_row : Addr}
    {od_l_rims an_l_rims : Option Addr} {sl_l_rims : Array (Option Value)} {oc_l_rims kV_l_rims dc_l_rims pm_l_rims cd_l_rims ct_l_rims : Value} {f_l_rims : Addr}
    {od_l_lots an_l_lots : Option Addr} {sl_l_lots : Array (Option Value)} {oc_l_lots kV_l_lots dc_l_lots pm_l_lots cd_l_lots ct_l_lots : Value} {f_l_lots : Addr}
    {od_law an_law : Option Addr} {sl_law : Array (Option Value)} {oc_law kV_law dc_law pm_law ct_law : Value} {f_law : Addr}
    (hn0 : PySem.W.specialIn K (.builtin "object.__class__") "__get__" = some (some (.builtin "getset_descriptor.__get__")))
    (ht0 : PySem.W.takesIn K (.builtin "object.__class__") = some true)
    (a_RoundError : PySem.W.nsIn K mainGlobals "RoundError" = some (some (.ref C_RoundError)))
    (k_RoundError : PySem.W.keepIn K (.ref C_RoundError) = true)
    (q_RoundError : PySem.W.excIn K C_RoundError [.type "ValueError", .type "Exception", .type "BaseException", .type "object"] "ValueError.__new__" = true)
    (ty_RoundError : PySem.W.typeIn K (.ref C_RoundError) = some (.type "type"))
    (ga_RoundError : PySem.W.findIn K (.ref C_RoundError) "__getattribute__" = some (some (.builtin "BaseException.__getattribute__")))
    (gg_RoundError : PySem.W.findIn K (.ref C_RoundError) "__getattr__" = some none)
    (ex_RoundError : PySem.W.subIn K (.ref C_RoundError) (.type "BaseException") = some true)
    (hd_RoundError : PySem.W.hasDictIn K C_RoundError = true)
    (ca_RoundError : PySem.W.findIn K (.ref C_RoundError) "__class__" = some (some (.builtin "object.__class__")))
    (mo_RoundError : PySem.W.mroIn K C_RoundError (.type "object") = some true)
    (a_BadSkin : PySem.W.nsIn K mainGlobals "BadSkin" = some (some (.ref C_BadSkin)))
    (x_BadSkin : K.lookup C_BadSkin = some (excClassObj nm_BadSkin qn_BadSkin C_BadSkin N_BadSkin bs_BadSkin bm_BadSkin true sn_BadSkin sb_BadSkin ab_BadSkin co_BadSkin dd_BadSkin m0_BadSkin m1_BadSkin m2_BadSkin m3_BadSkin m5_BadSkin "ValueError.__new__"))
    (rv_BadSkin : PySem.HandSPX.refsVE bm_BadSkin = true)
    (sa_BadSkin : PySem.W.findIn K (.ref C_BadSkin) "__setattr__" = some (some (.builtin "object.__setattr__")))
    (ty_BadSkin : PySem.W.typeIn K (.ref C_BadSkin) = some (.type "type"))
    (kc_BadSkin : PySem.W.keepIn K (.ref C_BadSkin) = true)
    (i_BadSkin : PySem.W.findIn K (.ref C_BadSkin) "__init__" = some (some (.ref f_BadSkin)))
    (t_BadSkin : PySem.W.typeIn K (.ref f_BadSkin) = some (.type "function"))
    (l_BadSkin : K.lookup f_BadSkin = some ⟨oc_BadSkin, od_BadSkin, .func (PySem.W.fnOf "__init__" "BadSkin.__init__" (defArgs s_BadSkin_init) (defBody s_BadSkin_init) (defScope s_BadSkin_init) .none kV_BadSkin dc_BadSkin pm_BadSkin an_BadSkin cd_BadSkin ct_BadSkin), sl_BadSkin⟩)
    (c_BadSkin : PySem.W.codeIn K cd_BadSkin "BadSkin.__init__" = true)
    (k_BadSkin : PySem.W.keepIn K (.ref f_BadSkin) = true)
    (nf_BadSkin : PySem.W.findIn K (.ref C_BadSkin) "part" = some none)
    (ga_BadSkin : PySem.W.findIn K (.ref C_BadSkin) "__getattribute__" = some (some (.builtin "BaseException.__getattribute__")))
    (gg_BadSkin : PySem.W.findIn K (.ref C_BadSkin) "__getattr__" = some none)
    (ex_BadSkin : PySem.W.subIn K (.ref C_BadSkin) (.type "BaseException") = some true)
    (hd_BadSkin : PySem.W.hasDictIn K C_BadSkin = true)
    (ca_BadSkin : PySem.W.findIn K (.ref C_BadSkin) "__class__" = some (some (.builtin "object.__class__")))
    (mo_BadSkin : PySem.W.mroIn K C_BadSkin (.type "object") = some true)
    (a_is_number : PySem.W.nsIn K mainGlobals "is_number" = some (some (.ref f_is_number)))
    (l_is_number : K.lookup f_is_number = some ⟨oc_is_number, od_is_number, .func (PySem.W.fnOf "is_number" "is_number" (defArgs s_is_number) (defBody s_is_number) (defScope s_is_number) .none kV_is_number dc_is_number pm_is_number an_is_number cd_is_number ct_is_number), sl_is_number⟩)
    (c_is_number : PySem.W.codeIn K cd_is_number "is_number" = true)
    (k_is_number : PySem.W.keepIn K (.ref f_is_number) = true)
    (a_is_tuple : PySem.W.nsIn K mainGlobals "is_tuple" = some (some (.ref f_is_tuple)))
    (l_is_tuple : K.lookup f_is_tuple = some ⟨oc_is_tuple, od_is_tuple, .func (PySem.W.fnOf "is_tuple" "is_tuple" (defArgs s_is_tuple) (defBody s_is_tuple) (defScope s_is_tuple) .none kV_is_tuple dc_is_tuple pm_is_tuple an_is_tuple cd_is_tuple ct_is_tuple), sl_is_tuple⟩)
    (c_is_tuple : PySem.W.codeIn K cd_is_tuple "is_tuple" = true)
    (k_is_tuple : PySem.W.keepIn K (.ref f_is_tuple) = true)
    (a_is_list : PySem.W.nsIn K mainGlobals "is_list" = some (some (.ref f_is_list)))
    (l_is_list : K.lookup f_is_list = some ⟨oc_is_list, od_is_list, .func (PySem.W.fnOf "is_list" "is_list" (defArgs s_is_list) (defBody s_is_list) (defScope s_is_list) .none kV_is_list dc_is_list pm_is_list an_is_list cd_is_list ct_is_list), sl_is_list⟩)
    (c_is_list : PySem.W.codeIn K cd_is_list "is_list" = true)
    (k_is_list : PySem.W.keepIn K (.ref f_is_list) = true)
    (a_is_row : PySem.W.nsIn K mainGlobals "is_row" = some (some (.ref f_is_row)))
    (l_is_row : K.lookup f_is_row = some ⟨oc_is_row, od_is_row, .func (PySem.W.fnOf "is_row" "is_row" (defArgs s_is_row) (defBody s_is_row) (defScope s_is_row) .none kV_is_row dc_is_row pm_is_row an_is_row cd_is_row ct_is_row), sl_is_row⟩)
    (c_is_row : PySem.W.codeIn K cd_is_row "is_row" = true)
    (k_is_row : PySem.W.keepIn K (.ref f_is_row) = true)
    (a_Skin : PySem.W.nsIn K mainGlobals "Skin" = some (some (.ref C_Skin)))
    (i_Skin : PySem.W.findIn K (.ref C_Skin) "__init__" = some (some (.ref f_Skin)))
    (fn_Skin : PySem.W.isFn K (.ref f_Skin) = true)
    (l_Skin : K.lookup f_Skin = some ⟨oc_Skin, od_Skin, .func (PySem.W.fnOf "__init__" "Skin.__init__" (defArgs s_Skin_init) (defBody s_Skin_init) (defScope s_Skin_init) .none kV_Skin dc_Skin pm_Skin an_Skin cd_Skin ct_Skin), sl_Skin⟩)
    (c_Skin : PySem.W.codeIn K cd_Skin "Skin.__init__" = true)
    (k_Skin : PySem.W.keepIn K (.ref f_Skin) = true)
    (pg_Skin : PySem.W.plainGet K C_Skin Str.empty = true)
    (hd_Skin : PySem.W.hasDictIn K C_Skin = true)
    (po_Skin : PySem.W.plainOver K C_Skin = true)
    (sa_Skin : PySem.W.findIn K (.ref C_Skin) "__setattr__" = some (some (.builtin "object.__setattr__")))
    (mk_Skin : PySem.W.makesIn K C_Skin = true)
    (kc_Skin : PySem.W.keepIn K (.ref C_Skin) = true)
    (ca_Skin : PySem.W.findIn K (.ref C_Skin) "__class__" = some (some (.builtin "object.__class__")))
    (mo_Skin : PySem.W.mroIn K C_Skin (.type "object") = some true)
    (n_Skin_row : PySem.W.findIn K (.ref C_Skin) "row" = some none)
    (n_Skin_bands : PySem.W.findIn K (.ref C_Skin) "bands" = some none)
    (n_Skin_places : PySem.W.findIn K (.ref C_Skin) "places" = some none)
    (a_check_skin : PySem.W.nsIn K mainGlobals "check_skin" = some (some (.ref f_check_skin)))
    (l_check_skin : K.lookup f_check_skin = some ⟨oc_check_skin, od_check_skin, .func (PySem.W.fnOf "check_skin" "check_skin" (defArgs s_check_skin) (defBody s_check_skin) (defScope s_check_skin) .none kV_check_skin dc_check_skin pm_check_skin an_check_skin cd_check_skin ct_check_skin), sl_check_skin⟩)
    (c_check_skin : PySem.W.codeIn K cd_check_skin "check_skin" = true)
    (k_check_skin : PySem.W.keepIn K (.ref f_check_skin) = true)
    (a_end_behind : PySem.W.nsIn K mainGlobals "end_behind" = some (some (.ref f_end_behind)))
    (l_end_behind : K.lookup f_end_behind = some ⟨oc_end_behind, od_end_behind, .func (PySem.W.fnOf "end_behind" "end_behind" (defArgs s_end_behind) (defBody s_end_behind) (defScope s_end_behind) .none kV_end_behind dc_end_behind pm_end_behind an_end_behind cd_end_behind ct_end_behind), sl_end_behind⟩)
    (c_end_behind : PySem.W.codeIn K cd_end_behind "end_behind" = true)
    (k_end_behind : PySem.W.keepIn K (.ref f_end_behind) = true)
    (a_least_turn : PySem.W.nsIn K mainGlobals "least_turn" = some (some (.ref f_least_turn)))
    (l_least_turn : K.lookup f_least_turn = some ⟨oc_least_turn, od_least_turn, .func (PySem.W.fnOf "least_turn" "least_turn" (defArgs s_least_turn) (defBody s_least_turn) (defScope s_least_turn) .none kV_least_turn dc_least_turn pm_least_turn an_least_turn cd_least_turn ct_least_turn), sl_least_turn⟩)
    (c_least_turn : PySem.W.codeIn K cd_least_turn "least_turn" = true)
    (k_least_turn : PySem.W.keepIn K (.ref f_least_turn) = true)
    (a_rim_from : PySem.W.nsIn K mainGlobals "_rim_from" = some (some (.ref f_rim_from)))
    (l_rim_from : K.lookup f_rim_from = some ⟨oc_rim_from, od_rim_from, .func (PySem.W.fnOf "_rim_from" "_rim_from" (defArgs s_rim_from) (defBody s_rim_from) (defScope s_rim_from) .none kV_rim_from dc_rim_from pm_rim_from an_rim_from cd_rim_from ct_rim_from), sl_rim_from⟩)
    (c_rim_from : PySem.W.codeIn K cd_rim_from "_rim_from" = true)
    (k_rim_from : PySem.W.keepIn K (.ref f_rim_from) = true)
    (a_rims : PySem.W.nsIn K mainGlobals "rims" = some (some (.ref f_rims)))
    (l_rims : K.lookup f_rims = some ⟨oc_rims, od_rims, .func (PySem.W.fnOf "rims" "rims" (defArgs s_rims) (defBody s_rims) (defScope s_rims) .none kV_rims dc_rims pm_rims an_rims cd_rims ct_rims), sl_rims⟩)
    (c_rims : PySem.W.codeIn K cd_rims "rims" = true)
    (k_rims : PySem.W.keepIn K (.ref f_rims) = true)
    (a_genus : PySem.W.nsIn K mainGlobals "genus" = some (some (.ref f_genus)))
    (l_genus : K.lookup f_genus = some ⟨oc_genus, od_genus, .func (PySem.W.fnOf "genus" "genus" (defArgs s_genus) (defBody s_genus) (defScope s_genus) .none kV_genus dc_genus pm_genus an_genus cd_genus ct_genus), sl_genus⟩)
    (c_genus : PySem.W.codeIn K cd_genus "genus" = true)
    (k_genus : PySem.W.keepIn K (.ref f_genus) = true)
    (a_l_begun : PySem.W.nsIn K mainGlobals "_law_begun" = some (some (.ref f_l_begun)))
    (l_l_begun : K.lookup f_l_begun = some ⟨oc_l_begun, od_l_begun, .func (PySem.W.fnOf "_law_begun" "_law_begun" (defArgs s_l_begun) (defBody s_l_begun) (defScope s_l_begun) .none kV_l_begun dc_l_begun pm_l_begun an_l_begun cd_l_begun ct_l_begun), sl_l_begun⟩)
    (c_l_begun : PySem.W.codeIn K cd_l_begun "_law_begun" = true)
    (k_l_begun : PySem.W.keepIn K (.ref f_l_begun) = true)
    (a_l_mixed : PySem.W.nsIn K mainGlobals "_law_mixed" = some (some (.ref f_l_mixed)))
    (l_l_mixed : K.lookup f_l_mixed = some ⟨oc_l_mixed, od_l_mixed, .func (PySem.W.fnOf "_law_mixed" "_law_mixed" (defArgs s_l_mixed) (defBody s_l_mixed) (defScope s_l_mixed) .none kV_l_mixed dc_l_mixed pm_l_mixed an_l_mixed cd_l_mixed ct_l_mixed), sl_l_mixed⟩)
    (c_l_mixed : PySem.W.codeIn K cd_l_mixed "_law_mixed" = true)
    (k_l_mixed : PySem.W.keepIn K (.ref f_l_mixed) = true)
    (a_l_take : PySem.W.nsIn K mainGlobals "_law_take" = some (some (.ref f_l_take)))
    (l_l_take : K.lookup f_l_take = some ⟨oc_l_take, od_l_take, .func (PySem.W.fnOf "_law_take" "_law_take" (defArgs s_l_take) (defBody s_l_take) (defScope s_l_take) .none kV_l_take dc_l_take pm_l_take an_l_take cd_l_take ct_l_take), sl_l_take⟩)
    (c_l_take : PySem.W.codeIn K cd_l_take "_law_take" = true)
    (k_l_take : PySem.W.keepIn K (.ref f_l_take) = true)
    (a_l_pick : PySem.W.nsIn K mainGlobals "_law_pick" = some (some (.ref f_l_pick)))
    (l_l_pick : K.lookup f_l_pick = some ⟨oc_l_pick, od_l_pick, .func (PySem.W.fnOf "_law_pick" "_law_pick" (defArgs s_l_pick) (defBody s_l_pick) (defScope s_l_pick) .none kV_l_pick dc_l_pick pm_l_pick an_l_pick cd_l_pick ct_l_pick), sl_l_pick⟩)
    (c_l_pick : PySem.W.codeIn K cd_l_pick "_law_pick" = true)
    (k_l_pick : PySem.W.keepIn K (.ref f_l_pick) = true)
    (a_l_shuffled : PySem.W.nsIn K mainGlobals "_law_shuffled" = some (some (.ref f_l_shuffled)))
    (l_l_shuffled : K.lookup f_l_shuffled = some ⟨oc_l_shuffled, od_l_shuffled, .func (PySem.W.fnOf "_law_shuffled" "_law_shuffled" (defArgs s_l_shuffled) (defBody s_l_shuffled) (defScope s_l_shuffled) .none kV_l_shuffled dc_l_shuffled pm_l_shuffled an_l_shuffled cd_l_shuffled ct_l_shuffled), sl_l_shuffled⟩)
    (c_l_shuffled : PySem.W.codeIn K cd_l_shuffled "_law_shuffled" = true)
    (k_l_shuffled : PySem.W.keepIn K (.ref f_l_shuffled) = true)
    (a_l_caught : PySem.W.nsIn K mainGlobals "_law_caught" = some (some (.ref f_l_caught)))
    (l_l_caught : K.lookup f_l_caught = some ⟨oc_l_caught, od_l_caught, .func (PySem.W.fnOf "_law_caught" "_law_caught" (defArgs s_l_caught) (defBody s_l_caught) (defScope s_l_caught) .none kV_l_caught dc_l_caught pm_l_caught an_l_caught cd_l_caught ct_l_caught), sl_l_caught⟩)
    (c_l_caught : PySem.W.codeIn K cd_l_caught "_law_caught" = true)
    (k_l_caught : PySem.W.keepIn K (.ref f_l_caught) = true)
    (a_l_skin_error : PySem.W.nsIn K mainGlobals "_law_skin_error" = some (some (.ref f_l_skin_error)))
    (l_l_skin_error : K.lookup f_l_skin_error = some ⟨oc_l_skin_error, od_l_skin_error, .func (PySem.W.fnOf "_law_skin_error" "_law_skin_error" (defArgs s_l_skin_error) (defBody s_l_skin_error) (defScope s_l_skin_error) .none kV_l_skin_error dc_l_skin_error pm_l_skin_error an_l_skin_error cd_l_skin_error ct_l_skin_error), sl_l_skin_error⟩)
    (c_l_skin_error : PySem.W.codeIn K cd_l_skin_error "_law_skin_error" = true)
    (k_l_skin_error : PySem.W.keepIn K (.ref f_l_skin_error) = true)
    (a_l_mate : PySem.W.nsIn K mainGlobals "_law_mate" = some (some (.ref f_l_mate)))
    (l_l_mate : K.lookup f_l_mate = some ⟨oc_l_mate, od_l_mate, .func (PySem.W.fnOf "_law_mate" "_law_mate" (defArgs s_l_mate) (defBody s_l_mate) (defScope s_l_mate) .none kV_l_mate dc_l_mate pm_l_mate an_l_mate cd_l_mate ct_l_mate), sl_l_mate⟩)
    (c_l_mate : PySem.W.codeIn K cd_l_mate "_law_mate" = true)
    (k_l_mate : PySem.W.keepIn K (.ref f_l_mate) = true)
    (a_l_least_turn : PySem.W.nsIn K mainGlobals "_law_least_turn" = some (some (.ref f_l_least_turn)))
    (l_l_least_turn : K.lookup f_l_least_turn = some ⟨oc_l_least_turn, od_l_least_turn, .func (PySem.W.fnOf "_law_least_turn" "_law_least_turn" (defArgs s_l_least_turn) (defBody s_l_least_turn) (defScope s_l_least_turn) .none kV_l_least_turn dc_l_least_turn pm_l_least_turn an_l_least_turn cd_l_least_turn ct_l_least_turn), sl_l_least_turn⟩)
    (c_l_least_turn : PySem.W.codeIn K cd_l_least_turn "_law_least_turn" = true)
    (k_l_least_turn : PySem.W.keepIn K (.ref f_l_least_turn) = true)
    (a_l_row : PySem.W.nsIn K mainGlobals "_law_row" = some (some (.ref f_l_row)))
    (l_l_row : K.lookup f_l_row = some ⟨oc_l_row, od_l_row, .func (PySem.W.fnOf "_law_row" "_law_row" (defArgs s_l_row) (defBody s_l_row) (defScope s_l_row) .none kV_l_row dc_l_row pm_l_row an_l_row cd_l_row ct_l_row), sl_l_row⟩)
    (c_l_row : PySem.W.codeIn K cd_l_row "_law_row" = true)
    (k_l_row : PySem.W.keepIn K (.ref f_l_row) = true)
    (a_l_rims : PySem.W.nsIn K mainGlobals "_law_rims" = some (some (.ref f_l_rims)))
    (l_l_rims : K.lookup f_l_rims = some ⟨oc_l_rims, od_l_rims, .func (PySem.W.fnOf "_law_rims" "_law_rims" (defArgs s_l_rims) (defBody s_l_rims) (defScope s_l_rims) .none kV_l_rims dc_l_rims pm_l_rims an_l_rims cd_l_rims ct_l_rims), sl_l_rims⟩)
    (c_l_rims : PySem.W.codeIn K cd_l_rims "_law_rims" = true)
    (k_l_rims : PySem.W.keepIn K (.ref f_l_rims) = true)
    (a_l_lots : PySem.W.nsIn K mainGlobals "_law_lots" = some (some (.ref f_l_lots)))
    (l_l_lots : K.lookup f_l_lots = some ⟨oc_l_lots, od_l_lots, .func (PySem.W.fnOf "_law_lots" "_law_lots" (defArgs s_l_lots) (defBody s_l_lots) (defScope s_l_lots) .none kV_l_lots dc_l_lots pm_l_lots an_l_lots cd_l_lots ct_l_lots), sl_l_lots⟩)
    (c_l_lots : PySem.W.codeIn K cd_l_lots "_law_lots" = true)
    (k_l_lots : PySem.W.keepIn K (.ref f_l_lots) = true)
    (a_law : PySem.W.nsIn K mainGlobals "law" = some (some (.ref f_law)))
    (l_law : K.lookup f_law = some ⟨oc_law, od_law, .func (PySem.W.fnOf "law" "law" (defArgs s_law) (defBody s_law) (defScope s_law) .none kV_law dc_law pm_law an_law (.ref lc) ct_law), sl_law⟩)
    (c_law : PySem.W.codeIn K (.ref lc) "law" = true)
    (k_law : PySem.W.keepIn K (.ref f_law) = true)
    (zabs : PySem.W.nsIn K mainGlobals "abs" = some none)
    (zall : PySem.W.nsIn K mainGlobals "all" = some none)
    (zenumerate : PySem.W.nsIn K mainGlobals "enumerate" = some none)
    (zint : PySem.W.nsIn K mainGlobals "int" = some none)
    (zisinstance : PySem.W.nsIn K mainGlobals "isinstance" = some none)
    (zlen : PySem.W.nsIn K mainGlobals "len" = some none)
    (zlist : PySem.W.nsIn K mainGlobals "list" = some none)
    (zmin : PySem.W.nsIn K mainGlobals "min" = some none)
    (zrange : PySem.W.nsIn K mainGlobals "range" = some none)
    (zrepr : PySem.W.nsIn K mainGlobals "repr" = some none)
    (zsorted : PySem.W.nsIn K mainGlobals "sorted" = some none)
    (zsum : PySem.W.nsIn K mainGlobals "sum" = some none)
    (ztuple : PySem.W.nsIn K mainGlobals "tuple" = some none)
    (ztype : PySem.W.nsIn K mainGlobals "type" = some none)
    (kSS : PySem.W.kitOne K (.ref C_Skin) (.ref C_Skin) = some true)
    (kST : PySem.W.kitOne K (.type "tuple") (.ref C_Skin) = some false)
    (kSN : PySem.W.kitOne K (.type "NoneType") (.ref C_Skin) = some false)
    (kSL : PySem.W.kitOne K (.type "list") (.ref C_Skin) = some false)
    (kSI : PySem.W.kitOne K (.type "int") (.ref C_Skin) = some false)
    (kSY : PySem.W.kitOne K (.type "str") (.ref C_Skin) = some false)
    (kSkSk : PySem.W.kitOne K (.ref C_BadSkin) (.ref C_BadSkin) = some true)
    (sSR : PySem.W.subIn K (.ref C_BadSkin) (.ref C_RoundError) = some true)
    (tgl : h.get? lP = some { cls := .none, data := .fields #[] }) (tcl : PySem.W.CodeHd h lc lP) (njl : K.lookup lP = none) :
    ∃ T : Txt K mg, fa = T.law.a ∧ (h.get? T.lP = some { cls := .none, data := .fields #[] } ∧ K.lookup T.lP = none ∧ PySem.W.CodeHd h T.lc T.lP) := by
  have no_Skin : ∀ f ∈ (["row", "bands", "places"] : List Str), NoAttr K C_Skin f := fun f hf => by
      simp only [List.mem_cons, List.not_mem_nil, or_false] at hf
      rcases hf with rfl | rfl | rfl
      · exact n_Skin_row
      · exact n_Skin_bands
      · exact n_Skin_places
  have e := hfa.symm.trans (PySem.W.mg_of X G a_law)
  cases e
  refine ⟨{
    RoundError := ⟨C_RoundError, PySem.W.mg_of X G a_RoundError, k_RoundError, q_RoundError, ty_RoundError, ⟨ga_RoundError, gg_RoundError, ex_RoundError, hd_RoundError, ca_RoundError, hn0, ht0, mo_RoundError⟩⟩,
    BadSkin := ⟨C_BadSkin, f_BadSkin, _, PySem.W.mg_of X G a_BadSkin, ⟨⟨_, _, _, _, _, _, _, _, _, _, _, _, _, _, _, x_BadSkin, rv_BadSkin⟩, sa_BadSkin, ex_BadSkin, ty_BadSkin, kc_BadSkin⟩, i_BadSkin, t_BadSkin, fun_mk (st := s_BadSkin_init) l_BadSkin c_BadSkin k_BadSkin, (fun_mk (st := s_BadSkin_init) l_BadSkin c_BadSkin k_BadSkin).binds (ps := ["self", "part"]) (fun _ _ _ _ _ _ us hl => match us, hl with | [_, _], _ => rfl), nf_BadSkin, ⟨ga_BadSkin, gg_BadSkin, ex_BadSkin, hd_BadSkin⟩, ⟨ga_BadSkin, gg_BadSkin, ex_BadSkin, hd_BadSkin, ca_BadSkin, hn0, ht0, mo_BadSkin⟩⟩,
    is_number := ⟨f_is_number, _, fun_mk (st := s_is_number) l_is_number c_is_number k_is_number, PySem.W.mg_of X G a_is_number, (fun_mk (st := s_is_number) l_is_number c_is_number k_is_number).binds (ps := ["thing"]) (fun _ _ _ _ _ _ us hl => match us, hl with | [_], _ => rfl)⟩,
    is_tuple := ⟨f_is_tuple, _, fun_mk (st := s_is_tuple) l_is_tuple c_is_tuple k_is_tuple, PySem.W.mg_of X G a_is_tuple, (fun_mk (st := s_is_tuple) l_is_tuple c_is_tuple k_is_tuple).binds (ps := ["thing"]) (fun _ _ _ _ _ _ us hl => match us, hl with | [_], _ => rfl)⟩,
    is_list := ⟨f_is_list, _, fun_mk (st := s_is_list) l_is_list c_is_list k_is_list, PySem.W.mg_of X G a_is_list, (fun_mk (st := s_is_list) l_is_list c_is_list k_is_list).binds (ps := ["thing"]) (fun _ _ _ _ _ _ us hl => match us, hl with | [_], _ => rfl)⟩,
    is_row := ⟨f_is_row, _, fun_mk (st := s_is_row) l_is_row c_is_row k_is_row, PySem.W.mg_of X G a_is_row, (fun_mk (st := s_is_row) l_is_row c_is_row k_is_row).binds (ps := ["row"]) (fun _ _ _ _ _ _ us hl => match us, hl with | [_], _ => rfl)⟩,
    Skin := ⟨C_Skin, f_Skin, _, PySem.W.mg_of X G a_Skin, ⟨pg_Skin, hd_Skin, po_Skin, sa_Skin⟩, no_Skin, ⟨mk_Skin, i_Skin, fn_Skin, kc_Skin⟩, fun_mk (st := s_Skin_init) l_Skin c_Skin k_Skin, (fun_mk (st := s_Skin_init) l_Skin c_Skin k_Skin).binds (ps := ["self", "row"]) (fun _ _ _ _ _ _ us hl => match us, hl with | [_, _], _ => rfl), ca_Skin, hn0, ht0, mo_Skin⟩,
    check_skin := ⟨f_check_skin, _, fun_mk (st := s_check_skin) l_check_skin c_check_skin k_check_skin, PySem.W.mg_of X G a_check_skin, (fun_mk (st := s_check_skin) l_check_skin c_check_skin k_check_skin).binds (ps := ["skin"]) (fun _ _ _ _ _ _ us hl => match us, hl with | [_], _ => rfl)⟩,
    end_behind := ⟨f_end_behind, _, fun_mk (st := s_end_behind) l_end_behind c_end_behind k_end_behind, PySem.W.mg_of X G a_end_behind, (fun_mk (st := s_end_behind) l_end_behind c_end_behind k_end_behind).binds (ps := ["skin", "end", "steps"]) (fun _ _ _ _ _ _ us hl => match us, hl with | [_, _, _], _ => rfl)⟩,
    least_turn := ⟨f_least_turn, _, fun_mk (st := s_least_turn) l_least_turn c_least_turn k_least_turn, PySem.W.mg_of X G a_least_turn, (fun_mk (st := s_least_turn) l_least_turn c_least_turn k_least_turn).binds (ps := ["word"]) (fun _ _ _ _ _ _ us hl => match us, hl with | [_], _ => rfl)⟩,
    rim_from := ⟨f_rim_from, _, fun_mk (st := s_rim_from) l_rim_from c_rim_from k_rim_from, PySem.W.mg_of X G a_rim_from, (fun_mk (st := s_rim_from) l_rim_from c_rim_from k_rim_from).binds (ps := ["skin", "start"]) (fun _ _ _ _ _ _ us hl => match us, hl with | [_, _], _ => rfl)⟩,
    rims := ⟨f_rims, _, fun_mk (st := s_rims) l_rims c_rims k_rims, PySem.W.mg_of X G a_rims, (fun_mk (st := s_rims) l_rims c_rims k_rims).binds (ps := ["skin"]) (fun _ _ _ _ _ _ us hl => match us, hl with | [_], _ => rfl)⟩,
    genus := ⟨f_genus, _, fun_mk (st := s_genus) l_genus c_genus k_genus, PySem.W.mg_of X G a_genus, (fun_mk (st := s_genus) l_genus c_genus k_genus).binds (ps := ["skin"]) (fun _ _ _ _ _ _ us hl => match us, hl with | [_], _ => rfl)⟩,
    l_begun := ⟨f_l_begun, _, fun_mk (st := s_l_begun) l_l_begun c_l_begun k_l_begun, PySem.W.mg_of X G a_l_begun, (fun_mk (st := s_l_begun) l_l_begun c_l_begun k_l_begun).binds (ps := ["script"]) (fun _ _ _ _ _ _ us hl => match us, hl with | [_], _ => rfl)⟩,
    l_mixed := ⟨f_l_mixed, _, fun_mk (st := s_l_mixed) l_l_mixed c_l_mixed k_l_mixed, PySem.W.mg_of X G a_l_mixed, (fun_mk (st := s_l_mixed) l_l_mixed c_l_mixed k_l_mixed).binds (ps := ["draw"]) (fun _ _ _ _ _ _ us hl => match us, hl with | [_], _ => rfl)⟩,
    l_take := ⟨f_l_take, _, fun_mk (st := s_l_take) l_l_take c_l_take k_l_take, PySem.W.mg_of X G a_l_take, (fun_mk (st := s_l_take) l_l_take c_l_take k_l_take).binds (ps := ["draw", "amount"]) (fun _ _ _ _ _ _ us hl => match us, hl with | [_, _], _ => rfl)⟩,
    l_pick := ⟨f_l_pick, _, fun_mk (st := s_l_pick) l_l_pick c_l_pick k_l_pick, PySem.W.mg_of X G a_l_pick, (fun_mk (st := s_l_pick) l_l_pick c_l_pick k_l_pick).binds (ps := ["draw", "some"]) (fun _ _ _ _ _ _ us hl => match us, hl with | [_, _], _ => rfl)⟩,
    l_shuffled := ⟨f_l_shuffled, _, fun_mk (st := s_l_shuffled) l_l_shuffled c_l_shuffled k_l_shuffled, PySem.W.mg_of X G a_l_shuffled, (fun_mk (st := s_l_shuffled) l_l_shuffled c_l_shuffled k_l_shuffled).binds (ps := ["draw", "some"]) (fun _ _ _ _ _ _ us hl => match us, hl with | [_, _], _ => rfl)⟩,
    l_caught := ⟨f_l_caught, _, fun_mk (st := s_l_caught) l_l_caught c_l_caught k_l_caught, PySem.W.mg_of X G a_l_caught, (fun_mk (st := s_l_caught) l_l_caught c_l_caught k_l_caught).binds (ps := ["work"]) (fun _ _ _ _ _ _ us hl => match us, hl with | [_], _ => rfl)⟩,
    l_skin_error := ⟨f_l_skin_error, _, fun_mk (st := s_l_skin_error) l_l_skin_error c_l_skin_error k_l_skin_error, PySem.W.mg_of X G a_l_skin_error, (fun_mk (st := s_l_skin_error) l_l_skin_error c_l_skin_error k_l_skin_error).binds (ps := ["error"]) (fun _ _ _ _ _ _ us hl => match us, hl with | [_], _ => rfl)⟩,
    l_mate := ⟨f_l_mate, _, fun_mk (st := s_l_mate) l_l_mate c_l_mate k_l_mate, PySem.W.mg_of X G a_l_mate, (fun_mk (st := s_l_mate) l_l_mate c_l_mate k_l_mate).binds (ps := ["end"]) (fun _ _ _ _ _ _ us hl => match us, hl with | [_], _ => rfl)⟩,
    l_least_turn := ⟨f_l_least_turn, _, fun_mk (st := s_l_least_turn) l_l_least_turn c_l_least_turn k_l_least_turn, PySem.W.mg_of X G a_l_least_turn, (fun_mk (st := s_l_least_turn) l_l_least_turn c_l_least_turn k_l_least_turn).binds (ps := ["word_here"]) (fun _ _ _ _ _ _ us hl => match us, hl with | [_], _ => rfl)⟩,
    l_row := ⟨f_l_row, _, fun_mk (st := s_l_row) l_l_row c_l_row k_l_row, PySem.W.mg_of X G a_l_row, (fun_mk (st := s_l_row) l_l_row c_l_row k_l_row).binds (ps := ["draw", "most"]) (fun _ _ _ _ _ _ us hl => match us, hl with | [_, _], _ => rfl)⟩,
    l_rims := ⟨f_l_rims, _, fun_mk (st := s_l_rims) l_l_rims c_l_rims k_l_rims, PySem.W.mg_of X G a_l_rims, (fun_mk (st := s_l_rims) l_l_rims c_l_rims k_l_rims).binds (ps := ["line"]) (fun _ _ _ _ _ _ us hl => match us, hl with | [_], _ => rfl)⟩,
    l_lots := ⟨f_l_lots, _, fun_mk (st := s_l_lots) l_l_lots c_l_lots k_l_lots, PySem.W.mg_of X G a_l_lots, (fun_mk (st := s_l_lots) l_l_lots c_l_lots k_l_lots).binds (ps := ["line"]) (fun _ _ _ _ _ _ us hl => match us, hl with | [_], _ => rfl)⟩,
    law := ⟨fa, _, fun_mk (st := s_law) l_law c_law k_law, PySem.W.mg_of X G a_law, (fun_mk (st := s_law) l_law c_law k_law).binds (ps := ["script"]) (fun _ _ _ _ _ _ us hl => match us, hl with | [_], _ => rfl)⟩,
    zabs := PySem.W.mg_none_of X G zabs,
    zall := PySem.W.mg_none_of X G zall,
    zenumerate := PySem.W.mg_none_of X G zenumerate,
    zint := PySem.W.mg_none_of X G zint,
    zisinstance := PySem.W.mg_none_of X G zisinstance,
    zlen := PySem.W.mg_none_of X G zlen,
    zlist := PySem.W.mg_none_of X G zlist,
    zmin := PySem.W.mg_none_of X G zmin,
    zrange := PySem.W.mg_none_of X G zrange,
    zrepr := PySem.W.mg_none_of X G zrepr,
    zsorted := PySem.W.mg_none_of X G zsorted,
    zsum := PySem.W.mg_none_of X G zsum,
    ztuple := PySem.W.mg_none_of X G ztuple,
    ztype := PySem.W.mg_none_of X G ztype,
    kSS := kSS,
    kST := kST,
    kSN := kSN,
    kSL := kSL,
    kSI := kSI,
    kSY := kSY,
    kSkSk := kSkSk,
    sSR := sSR,
    lc := lc,
    lP := lP,
    lF := ⟨_, _, _, _, _, _, _, _, rfl, l_law, c_law⟩ }, rfl, ⟨tgl, njl, tcl⟩⟩
theorem walk_law {l : PySem.W.OpenLaw} {q : Program} {loose : List Str} {XP : (Str → Option Value) → Heap → Prop} {YP : World → Heap → Prop} {d : DefRec} {K : Params → PySem.W.Frag} (hn : l.most = some 63) (hdf : d.params.defaults = [])
    (hY : ∀ (w : World) (h : Heap), YP w h → (K w.params).In h)
    (F : ∀ (w : World) (mg : Str → Option Value) (fa : Addr) (h : Heap), YP w h → (K w.params).In h → h.Ns mainGlobals mg → mg d.name = some (.ref fa) →
      ∃ T : Txt (K w.params) mg, fa = T.law.a ∧ (h.get? T.lP = some { cls := .none, data := .fields #[] } ∧ (K w.params).lookup T.lP = none ∧ PySem.W.CodeHd h T.lc T.lP)) :
    PySem.W.WalkO q loose XP YP l.row.toRowW d [] (fun f vs => PySem.call f vs) := by
  refine Att.attach_callB hn hdf fun w s₀ s₁ mg mb fa o pm cd doc a vs ns G Y ho hd hcd hmg hobj hints hlen hbits hg => ?_
  have KX := hY w _ Y
  obtain ⟨T, rfl, h_l⟩ := F w mg fa _ Y KX G.T.g hmg
  refine law_run (ts := [(T.lc, T.lP)]) KX G.T.g G.T.b G.T.builtins G.T.nolimit hg (fun p hp => ?_) G.T.bmain hobj hints (Nat.le_trans hlen (by decide)) fun base H TB e0 hT hS => ?_
  · simp only [List.mem_cons, List.not_mem_nil, or_false] at hp
    rcases hp with rfl
    · exact h_l
  have htb : LamX.Tabs (jTs T) H := fun p hp => by
    simp only [List.mem_cons, List.not_mem_nil, or_false] at hp
    rcases hp with rfl
    · exact LamX.TabS.nil (hT (T.lc, T.lP) (List.mem_cons_self))
  obtain ⟨oc, od, kV, doc', pm', an, ct, osl, e, lk, hc⟩ := T.lF.ex
  have hb := T.law.b s₁ [.ref a] KX rfl
  rw [e] at lk hb
  refine LamX.run_ofS (N := N_law) (ps := ["script"]) (k := 14) (us := [.ref a]) (vs := [.ref a]) lk hc sc_law ⟨rfl, by decide, by decide⟩ e0 hb (.cons rfl .nil) rfl fun hr' => ?_
  obtain ⟨t, h1, h2⟩ := law_body (w := w) (base := base) (E := E0) (outer := []) (Q := fun v _ => v = .bl true) T (TB (T.lc, T.lP) (List.mem_cons_self)) (A := callerA) (s := s₁) rfl hr' hS hlen htb (fun _ => rfl)
  exact ⟨t, h1.nox, h2⟩
end Tt
open PySem PySem.W PyProof.Rows in
set_option maxRecDepth 100000 in
set_option maxHeartbeats 0 in
theorem PySem.Challenge.cw_tautrounds_k02_whole_rims_and_genus_holds : PySem.Challenge.rw_tautrounds_k02_whole_rims_and_genus.Holds := by
  w_on; o_law; k_head; (case hw => w_witness2)
  k_fill
  refine' Tt.walk_law (l := PySem.Challenge.rw_tautrounds_k02_whole_rims_and_genus) rfl rfl (fun w h Y => PySem.W.km_in_of Y) ?F
  case F =>
    intro w mg fa h Y KX G hmg
    refine' Tt.all_mk KX G hmg ?hn0 ?ht0 ?a_RoundError ?k_RoundError ?q_RoundError ?ty_RoundError ?ga_RoundError ?gg_RoundError ?ex_RoundError ?hd_RoundError ?ca_RoundError ?mo_RoundError ?a_BadSkin ?x_BadSkin ?rv_BadSkin ?sa_BadSkin ?ty_BadSkin ?kc_BadSkin ?i_BadSkin ?t_BadSkin ?l_BadSkin ?c_BadSkin ?k_BadSkin ?nf_BadSkin ?ga_BadSkin ?gg_BadSkin ?ex_BadSkin ?hd_BadSkin ?ca_BadSkin ?mo_BadSkin ?a_is_number ?l_is_number ?c_is_number ?k_is_number ?a_is_tuple ?l_is_tuple ?c_is_tuple ?k_is_tuple ?a_is_list ?l_is_list ?c_is_list ?k_is_list ?a_is_row ?l_is_row ?c_is_row ?k_is_row ?a_Skin ?i_Skin ?fn_Skin ?l_Skin ?c_Skin ?k_Skin ?pg_Skin ?hd_Skin ?po_Skin ?sa_Skin ?mk_Skin ?kc_Skin ?ca_Skin ?mo_Skin ?n_Skin_row ?n_Skin_bands ?n_Skin_places ?a_check_skin ?l_check_skin ?c_check_skin ?k_check_skin ?a_end_behind ?l_end_behind ?c_end_behind ?k_end_behind ?a_least_turn ?l_least_turn ?c_least_turn ?k_least_turn ?a_rim_from ?l_rim_from ?c_rim_from ?k_rim_from ?a_rims ?l_rims ?c_rims ?k_rims ?a_genus ?l_genus ?c_genus ?k_genus ?a_l_begun ?l_l_begun ?c_l_begun ?k_l_begun ?a_l_mixed ?l_l_mixed ?c_l_mixed ?k_l_mixed ?a_l_take ?l_l_take ?c_l_take ?k_l_take ?a_l_pick ?l_l_pick ?c_l_pick ?k_l_pick ?a_l_shuffled ?l_l_shuffled ?c_l_shuffled ?k_l_shuffled ?a_l_caught ?l_l_caught ?c_l_caught ?k_l_caught ?a_l_skin_error ?l_l_skin_error ?c_l_skin_error ?k_l_skin_error ?a_l_mate ?l_l_mate ?c_l_mate ?k_l_mate ?a_l_least_turn ?l_l_least_turn ?c_l_least_turn ?k_l_least_turn ?a_l_row ?l_l_row ?c_l_row ?k_l_row ?a_l_rims ?l_l_rims ?c_l_rims ?k_l_rims ?a_l_lots ?l_l_lots ?c_l_lots ?k_l_lots ?a_law ?l_law ?c_law ?k_law ?zabs ?zall ?zenumerate ?zint ?zisinstance ?zlen ?zlist ?zmin ?zrange ?zrepr ?zsorted ?zsum ?ztuple ?ztype ?kSS ?kST ?kSN ?kSL ?kSI ?kSY ?kSkSk ?sSR ?tgl ?tcl ?njl
    (case hn0 => k_is)
    (case ht0 => k_is)
    (case a_RoundError => k_is)
    (case k_RoundError => k_is)
    (case q_RoundError => k_exc)
    (case ty_RoundError => k_is)
    (case ga_RoundError => k_is)
    (case gg_RoundError => k_is)
    (case ex_RoundError => k_is)
    (case hd_RoundError => k_is)
    (case ca_RoundError => k_is)
    (case mo_RoundError => k_is)
    (case a_BadSkin => k_is)
    (case x_BadSkin => k_is)
    (case rv_BadSkin => decide +kernel)
    (case sa_BadSkin => k_is)
    (case ty_BadSkin => k_is)
    (case kc_BadSkin => k_is)
    (case i_BadSkin => k_is)
    (case t_BadSkin => k_is)
    (case l_BadSkin => k_is)
    (case c_BadSkin => k_is)
    (case k_BadSkin => k_is)
    (case nf_BadSkin => k_is)
    (case ga_BadSkin => k_is)
    (case gg_BadSkin => k_is)
    (case ex_BadSkin => k_is)
    (case hd_BadSkin => k_is)
    (case ca_BadSkin => k_is)
    (case mo_BadSkin => k_is)
    (case a_is_number => k_is)
    (case l_is_number => k_is)
    (case c_is_number => k_is)
    (case k_is_number => k_is)
    (case a_is_tuple => k_is)
    (case l_is_tuple => k_is)
    (case c_is_tuple => k_is)
    (case k_is_tuple => k_is)
    (case a_is_list => k_is)
    (case l_is_list => k_is)
    (case c_is_list => k_is)
    (case k_is_list => k_is)
    (case a_is_row => k_is)
    (case l_is_row => k_is)
    (case c_is_row => k_is)
    (case k_is_row => k_is)
    (case a_Skin => k_is)
    (case i_Skin => k_is)
    (case fn_Skin => k_is)
    (case l_Skin => k_is)
    (case c_Skin => k_is)
    (case k_Skin => k_is)
    (case pg_Skin => k_is)
    (case hd_Skin => k_is)
    (case po_Skin => k_is)
    (case sa_Skin => k_is)
    (case mk_Skin => k_is)
    (case kc_Skin => k_is)
    (case ca_Skin => k_is)
    (case mo_Skin => k_is)
    (case n_Skin_row => k_is)
    (case n_Skin_bands => k_is)
    (case n_Skin_places => k_is)
    (case a_check_skin => k_is)
    (case l_check_skin => k_is)
    (case c_check_skin => k_is)
    (case k_check_skin => k_is)
    (case a_end_behind => k_is)
    (case l_end_behind => k_is)
    (case c_end_behind => k_is)
    (case k_end_behind => k_is)
    (case a_least_turn => k_is)
    (case l_least_turn => k_is)
    (case c_least_turn => k_is)
    (case k_least_turn => k_is)
    (case a_rim_from => k_is)
    (case l_rim_from => k_is)
    (case c_rim_from => k_is)
    (case k_rim_from => k_is)
    (case a_rims => k_is)
    (case l_rims => k_is)
    (case c_rims => k_is)
    (case k_rims => k_is)
    (case a_genus => k_is)
    (case l_genus => k_is)
    (case c_genus => k_is)
    (case k_genus => k_is)
    (case a_l_begun => k_is)
    (case l_l_begun => k_is)
    (case c_l_begun => k_is)
    (case k_l_begun => k_is)
    (case a_l_mixed => k_is)
    (case l_l_mixed => k_is)
    (case c_l_mixed => k_is)
    (case k_l_mixed => k_is)
    (case a_l_take => k_is)
    (case l_l_take => k_is)
    (case c_l_take => k_is)
    (case k_l_take => k_is)
    (case a_l_pick => k_is)
    (case l_l_pick => k_is)
    (case c_l_pick => k_is)
    (case k_l_pick => k_is)
    (case a_l_shuffled => k_is)
    (case l_l_shuffled => k_is)
    (case c_l_shuffled => k_is)
    (case k_l_shuffled => k_is)
    (case a_l_caught => k_is)
    (case l_l_caught => k_is)
    (case c_l_caught => k_is)
    (case k_l_caught => k_is)
    (case a_l_skin_error => k_is)
    (case l_l_skin_error => k_is)
    (case c_l_skin_error => k_is)
    (case k_l_skin_error => k_is)
    (case a_l_mate => k_is)
    (case l_l_mate => k_is)
    (case c_l_mate => k_is)
    (case k_l_mate => k_is)
    (case a_l_least_turn => k_is)
    (case l_l_least_turn => k_is)
    (case c_l_least_turn => k_is)
    (case k_l_least_turn => k_is)
    (case a_l_row => k_is)
    (case l_l_row => k_is)
    (case c_l_row => k_is)
    (case k_l_row => k_is)
    (case a_l_rims => k_is)
    (case l_l_rims => k_is)
    (case c_l_rims => k_is)
    (case k_l_rims => k_is)
    (case a_l_lots => k_is)
    (case l_l_lots => k_is)
    (case c_l_lots => k_is)
    (case k_l_lots => k_is)
    (case a_law => k_is)
    (case l_law => k_is)
    (case c_law => k_is)
    (case k_law => k_is)
    (case zabs => k_is)
    (case zall => k_is)
    (case zenumerate => k_is)
    (case zint => k_is)
    (case zisinstance => k_is)
    (case zlen => k_is)
    (case zlist => k_is)
    (case zmin => k_is)
    (case zrange => k_is)
    (case zrepr => k_is)
    (case zsorted => k_is)
    (case zsum => k_is)
    (case ztuple => k_is)
    (case ztype => k_is)
    (case kSS => kit_is)
    (case kST => kit_is)
    (case kSN => kit_is)
    (case kSL => kit_is)
    (case kSI => kit_is)
    (case kSY => kit_is)
    (case kSkSk => kit_is)
    (case sSR => k_is)
    (case tgl => exact PySem.W.km_tabs_of Y _ (List.mem_cons_self))
    (case tcl => exact PySem.W.codeHd_of_K KX (by kernel_rfl))
    (case njl => first | kernel_rfl | rfl)
