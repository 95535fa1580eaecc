import PyProof.Rows.All
import Wide.All
import OpenK.AllK
import Wide.FinOn
import HandS.ForMost
import HandS.ForExc
import HandS.Wide
import HandS.IsInst
import HandS.FStr
import HandS.Small
import HandS.Style
import HandS.Deep
import HandS.Walk
import HandS.ExcIs
import HandS.ExcValue
import HandS.SetFor
import HandS.Zip
import HandS.Evl
import KE.DataMinMax
import PyProof.CollectStr
import PyProof.StrOps2
import PyProof.Rows.SortShellAny
import HandS.DictComp
import HandS.SortKw
import HandS.StrMore
import KE.GoesMore
import HandS.Flow
import HandS.Strs
import PySem.Challenge.RW_ringword_k15_whole_in_order
set_option Elab.async false
set_option linter.all false
set_option maxRecDepth 100000
set_option maxHeartbeats 8000000
/-! Rules of our own, beside the hand layer: texts repeated and turned round, the least of texts, a text's signs sorted, a list of truths counted, a caught error kept. -/
namespace Rw
open PySem PySem.Spec PyProof.Rows L2

/-- a text by its codes -/
def T (l : List Nat) : Str := ⟨l.toArray⟩
theorem T_cps (l : List Nat) : (T l).cps.toList = l := by simp [T]
theorem T_of (z : Str) : T z.cps.toList = z := by cases z; simp [T]
theorem T_inj {a b : List Nat} (h : T a = T b) : a = b := by
  have e := congrArg (fun z : Str => z.cps.toList) h
  simpa [T_cps] using e
theorem T_len (l : List Nat) : (T l).length = l.length := by simp [T, Str.length]
theorem T_app (a b : List Nat) : T a ++ T b = T (a ++ b) := by
  show Str.append _ _ = _
  simp [T, Str.append]
section
variable {X : Cx}

/-! text * n -/
def rRepS : R2 := fun x y H Q => ∃ (l : List Nat) (k : Int), x = .str (T l) ∧ y = .int k ∧ 0 ≤ k ∧ k ≤ 100000 ∧ l.length * k.toNat ≤ 100000 ∧ Q (.str (T (List.replicate k.toNat l).flatten)) H
theorem rep_fold (l : List Nat) : ∀ (n : Nat) (acc : Array Nat), (List.replicate n l.toArray).foldl (· ++ ·) acc = acc ++ (List.replicate n l).flatten.toArray
  | 0, acc => by simp
  | n + 1, acc => by
    rw [List.replicate_succ, List.foldl_cons, rep_fold l n, List.replicate_succ, List.flatten_cons]
    simp [Array.append_assoc]
theorem op_rep_str : OpR X (binaryOp .Mult) rRepS := by
  intro pins s σ H x y v u Q I rx ry h
  obtain ⟨l, k, rfl, rfl, h0, h1, hz, q⟩ := h
  obtain ⟨t, rfl⟩ := rx
  obtain ⟨t', rfl⟩ := ry
  have hlen : (T l).length = l.length := T_len l
  have hll : l.length * k.toNat ≤ sizeLine := Nat.le_trans hz (by decide)
  refine P.mul_str (by
      have a1 : ¬ k < -(2 ^ 63 : Int) := by omega
      have a2 : ¬ k ≥ 2 ^ 63 := by omega
      rw [decide_eq_false a1, decide_eq_false a2]; rfl) (fun hk he => ?_) (fun hk he => ?_) ?_
  · rw [hlen]
    have hl : (l.length : Int) ≤ 100000 := by
      have : 1 ≤ k.toNat := by omega
      have := Nat.le_mul_of_pos_right l.length this
      omega
    intro hc
    have h2 : (2 ^ 63 - 1 : Int) / 100000 ≤ (2 ^ 63 - 1) / k := by
      refine Int.le_ediv_of_mul_le (by omega) ?_
      have : (2 ^ 63 - 1 : Int) / 100000 * k ≤ (2 ^ 63 - 1 : Int) / 100000 * 100000 := Int.mul_le_mul_of_nonneg_left h1 (by decide)
      exact Int.le_trans this (by decide)
    have h3 : (100000 : Int) ≤ (2 ^ 63 - 1) / 100000 := by decide
    omega
  · unfold Builtin.Str.tooLong
    rw [hlen]
    simp only [decide_eq_false_iff_not, gt_iff_lt]
    exact Nat.not_lt.mpr hll
  · by_cases hk : k < 1
    · have e : k = 0 := by omega
      subst e
      rw [if_pos (by decide)]
      exact ⟨by decide, .str _, H, I.tok _, ⟨_, rfl⟩, q⟩
    · rw [if_neg hk]
      by_cases he : (k == 1 || (T l).length == 0) = true
      · rw [if_pos he]
        have e : (List.replicate k.toNat l).flatten = l := by
          rw [hlen] at he
          simp only [Bool.or_eq_true, beq_iff_eq] at he
          rcases he with e | e
          · subst e; simp
          · have : l = [] := List.eq_nil_of_length_eq_zero e
            subst this
            simp
        rw [e] at q
        exact ⟨.str _, H, I, ⟨t, rfl⟩, q⟩
      · rw [if_neg he]
        have e := rep_fold l k.toNat #[]
        rw [Array.empty_append] at e
        show Made.post (Made.str ⟨(List.replicate k.toNat l.toArray).foldl (· ++ ·) #[]⟩) _ _
        rw [e]
        refine ⟨?_, .str _, H, I.tok _, ⟨_, rfl⟩, q⟩
        show (List.replicate k.toNat l).flatten.toArray.size ≤ sizeLine
        rw [List.size_toArray]
        have : (List.replicate k.toNat l).flatten.length = k.toNat * l.length := by simp
        rw [this, Nat.mul_comm]
        exact hll

/-! text[::-1] -/
def tRevS (te : TE) : TE := fun σ H Q => te σ H fun x H1 => ∃ l : List Nat, x = .str (T l) ∧ l.length ≤ 100000 ∧ Q (.str (T l.reverse)) H1
theorem rev_pick (x : Str) (t : Tok) : (slicePicked x none none (some ((-1 : Int), t))).filterMap (x.cps[·]?) = x.cps.toList.reverse := by
  have e : slicePicked x none none (some ((-1 : Int), t)) = (List.range x.cps.size).reverse := by
    show sliceRange ((x.length : Int) - 1) (-1) (-1) = _
    have h := PySem.W.krv_sliceRange x.length
    rw [h, PySem.W.krv_range]
    rfl
  rw [e, List.filterMap_reverse, PySem.W.krv_all]
theorem pe_revS {e : Expr} {te : TE} {k : Nat} {p1 p2 p3 pos : Pos} (he : PE X e te) : PE X (.Subscript e (.Slice none none (some (.UnaryOp .USub (.Constant (.int 1) k p1) p2)) p3) pos) (tRevS te) := by
  refine ⟨fun pins s σ H Q I h => ?_⟩
  refine Subscript_ (thn (he.run pins s σ H _ I h) fun v s1 ⟨x, H1, I1, r1, q1⟩ => ?_)
  obtain ⟨l, ex, hz, q⟩ := q1
  subst ex
  obtain ⟨t, rfl⟩ := r1
  have step : PO X (some (.UnaryOp .USub (.Constant (.int 1) k p1) p2)) (tPart (tUn (rU fun i => .int (-i)) (tC (.int 1)))) := po_some (pe_un un_neg pe_int)
  refine wpAny_Slice (thn (po_none.run pins s1 σ H1 (fun o H2 => o = none ∧ H2 = H1) I1 ⟨rfl, rfl⟩) fun vl s2 ⟨o1, H2, I2, pl, el, e2⟩ => ?_)
  subst el e2
  refine thn (po_none.run pins s2 σ H2 (fun o H3 => o = none ∧ H3 = H2) I2 ⟨rfl, rfl⟩) fun vu s3 ⟨o2, H3, I3, pu, eu, e3⟩ => ?_
  subst eu e3
  refine thn (step.run pins s3 σ H3 (fun o H4 => o = some (-1) ∧ H4 = H3) I3 ⟨1, rfl, -1, rfl, rfl, rfl⟩) fun vs s4 ⟨o3, H4, I4, ps, eo, e4⟩ => ?_
  subst eo e4
  have I5 : Inv X pins σ H4 { s4 with heap := s4.heap.push { cls := .type "slice", data := .fields #[vl, vu, vs] } } := I4.kept (t' := s4.toks) fun b ob q => Heap.get?_push_of_some _ q
  cases pl
  cases pu
  obtain ⟨u, rfl⟩ : ∃ u, vs = Value.int (-1) u := by
    cases ps with
    | int i u => exact ⟨u, rfl⟩
  show wpAny (model X.prog X.w) X.A (subscriptTail e (.Slice none none (some (.UnaryOp .USub (.Constant (.int 1) k p1) p2)) p3) (.str (T l) t) (.ref s4.heap.objs.size)) (EP X pins σ Q) X.xe _
  refine tail_any (ops := [.str (T l) t, .ref s4.heap.objs.size]) (typeIs_str _ _ _) (F.slot_str_getitem.lookup) ?_ (by with_unfolding_all rfl)
  refine wpAny_getItem_str_slice (l := none) (u := none) (st := some ((-1 : Int), u)) ⟨_, Heap.get?_push_size _ rfl, rfl, rfl⟩ (by rfl) ?_
  have nq : (((some ((-1 : Int), u) : Option (Int × Tok)).map (·.1)).getD 1 == 1 && (slicePicked (T l) none none (some ((-1 : Int), u))).length == (T l).length) = false := by
    show (((-1 : Int) == 1) && _) = false
    rfl
  unfold sliceMade
  rw [nq, if_neg Bool.false_ne_true, rev_pick, T_cps]
  refine ⟨?_, .str _, H4, I5.tok _, ⟨_, rfl⟩, q⟩
  show l.reverse.toArray.size ≤ sizeLine
  rw [List.size_toArray, List.length_reverse]
  exact Nat.le_trans hz (by decide)

/-! min of a list of texts -/
def lstT (x : List Nat) (ys : List (List Nat)) : List Nat := ys.foldl (fun a y => if y < a then y else a) x
def rMinT (K : PySem.W.Frag) : List V → Hp → VK → Prop := fun vs H Q => ∃ (a : Addr) (x : List Nat) (ys : List (List Nat)), vs = [V.ref a] ∧ SqL K H a (V.str (T x) :: ys.map fun y => V.str (T y)) ∧ Q (.str (T (lstT x ys))) H
theorem minD_strs (ys : List (List Nat)) : ∀ x : List Nat, PySem.W.minD (.str (T x)) (ys.map fun y => .str (T y)) = .str (T (lstT x ys)) := by
  induction ys with
  | nil => intro x; rfl
  | cons y r ih =>
    intro x
    show PySem.W.minD (if PySem.W.dataLt (.str (T y)) (.str (T x)) = true then .str (T y) else .str (T x)) (r.map fun y => .str (T y)) = _
    rw [PySem.W.dataLt_str, T_cps, T_cps]
    by_cases h : y < x
    · rw [decide_eq_true h, if_pos rfl, ih]
      unfold lstT
      rw [List.foldl_cons, if_pos h]
    · rw [decide_eq_false h, if_neg Bool.false_ne_true, ih]
      unfold lstT
      rw [List.foldl_cons, if_neg h]
theorem reads_strs {h : Heap} : ∀ {us : List Value} {ys : List (List Nat)}, Vals (ys.map fun y => V.str (T y)) us → ReadsAll h us (ys.map fun y => PyData.str (T y)) []
  | us, [], r => by
    cases r
    exact .nil
  | us, y :: ys, r => by
    rw [List.map_cons] at r
    cases r with
    | cons r1 r2 =>
      obtain ⟨t, rfl⟩ := r1
      exact ReadsAll.cons (as := []) (.str (T y) t) (reads_strs r2)
theorem cr_minT (hc : X.calm = true) (hu : X.A.units + 64 < cLine) : CallR X (.builtin "min") (rMinT X.K) := by
  intro pins s σ H vs us Q I r h
  obtain ⟨a, x, ys, rfl, hs, q⟩ := h
  obtain ⟨its, rv, hl, _⟩ := I.list hs
  rw [Vals.ref1 r]
  have rv' : Vals ((x :: ys).map fun y => V.str (T y)) its := rv
  have hd : ∀ l : List (List Nat), PyData.depthAll (l.map fun y => PyData.str (T y)) ≤ 1 := by
    intro l
    induction l with
    | nil => decide
    | cons y r ih =>
      rw [List.map_cons]
      unfold PyData.depthAll
      refine Nat.max_le.mpr ⟨?_, ih⟩
      first | decide | (show PyData.depth (.str _) ≤ 1; unfold PyData.depth; decide)
  have ha : PySem.W.AlikeAll ((x :: ys).map fun y => PyData.str (T y)) := by
    refine ⟨fun p hp q hq => ?_, fun p hp e => ?_⟩
    · obtain ⟨y, _, rfl⟩ := List.mem_map.mp hp
      obtain ⟨z, _, rfl⟩ := List.mem_map.mp hq
      rfl
    · obtain ⟨y, _, rfl⟩ := List.mem_map.mp hp
      cases e
  refine PySem.W.min_list_data (x := .str (T x)) (xs := ys.map fun y => .str (T y)) (I.ok.hd hc) hl.isList (by simpa using reads_strs (h := s.heap) rv') ha (by have := hd (x :: ys); simp only [List.map_cons] at this; omega) fun i v h' tk bs hv hr hk => ?_
  rw [minD_strs] at hr
  obtain ⟨t, rfl⟩ : ∃ t, v = Value.str (T (lstT x ys)) t := by
    cases hr with
    | str z t => exact ⟨t, rfl⟩
  exact ⟨.str _, H, I.kept hk, ⟨_, rfl⟩, q⟩

/-! sorted(text) -/
def rSortedT : List V → Hp → VK → Prop := fun vs H Q => ∃ l : List Nat, vs = [V.str (T l)] ∧ l.length ≤ 100000 ∧
  ∀ (ys : List Str) (p : Addr), ys.Perm (l.map fun c => T [c]) → H p = none → Q (.ref p) (upd H p (.lst (ys.map V.str)))
theorem strs_signs : ∀ (l : List Nat) (us : List Value), us.length = l.length → (∀ (j : Nat) (v : Value), us[j]? = some v → ∃ (c : Nat) (u : Tok), l[j]? = some c ∧ v = Value.str ⟨#[c]⟩ u) → StrsAre us (l.map fun c => T [c])
  | [], [], _, _ => .nil
  | [], _ :: _, h, _ => by simp at h
  | c :: l, [], h, _ => by simp at h
  | c :: l, v :: us, h, f => by
    obtain ⟨c', u, e1, e2⟩ := f 0 v rfl
    cases e1
    subst e2
    exact .cons _ _ (strs_signs l us (by simpa using h) fun j w hw => f (j + 1) w hw)
theorem cr_sortedT (hc : X.calm = true) : CallR X (.builtin "sorted") rSortedT := by
  intro pins s σ H vs us Q I r h
  obtain ⟨l, rfl, hz, q⟩ := h
  obtain ⟨u, rfl, ru⟩ := r.one
  obtain ⟨t, rfl⟩ := ru
  have hzl : l.length ≤ sizeLine := Nat.le_trans hz (by decide)
  refine Calls.call_function_entry kind_sorted plain_sorted entry_sorted (args_sorted1 _) ?_
  unfold Builtin.«sorted»
  refine wpAny_bind (m := checkCount "sorted" 1 1 _) (wpAny_pure ?_)
  refine wpAny_bind (wpAny_collect_str (by exact I.ok.hd hc) (T l) t (fun s' acc hk hg hd ho hacc => ?_) (by show l.toArray.size ≤ sizeLine; rw [List.size_toArray]; exact hzl))
  obtain ⟨hp, g, d, tk, os⟩ := s'
  simp only at hk hg hd ho
  subst hg hd ho
  have I1 : Inv X pins σ H { s with heap := hp, toks := tk } := I.kept hk
  obtain ⟨h1, h2⟩ := hacc
  have hsz : acc.toList.length = l.length := by
    rw [Array.length_toList, h1]
    show l.toArray.size = _
    rw [List.size_toArray]
  have hS : StrsAre acc.toList (l.map fun c => T [c]) := strs_signs l acc.toList hsz fun j v hv => by
    obtain ⟨c, w, e1, e2⟩ := h2 j v (by simpa using hv)
    refine ⟨c, w, ?_, e2⟩
    have : (T l).cps[j]? = l[j]? := by simp [T]
    rw [← this]
    exact e1
  refine wpAny_bind (wpAny_newList ?_ (by rw [hsz]; exact hzl))
  have hoL : (hp.push (seqObj "list" acc.toList.toArray 0)).get? hp.objs.size = some (seqObj "list" acc.toList.toArray 0) := Heap.get?_push_size _ rfl
  refine wpAny_bind (wpAny_holding (wpAny_call_entry slot_list_sort ⟨_, hoL, rfl⟩ entry_list_sort (list_sort_treeKAny strKind_oneLt hoL hS.keysOf (fun v₁ v₂ rest e => keyKind_strs (by rw [← e]; exact hS)) (by rw [hsz]; exact hzl) fun st' a1 a2 => ⟨_, rfl, ?_⟩) (args_list_sort _)))
  obtain ⟨ss', b1, b2, b3⟩ := sorted_out_str hS a1 a2
  refine wpAny_pure ⟨_, rfl, ?_⟩
  obtain ⟨ep, he'⟩ := sortedHeap_at (vs := acc.toList) (out := (arrOf st').map (·.2)) hoL
  have hlen : (ss'.map V.str).length ≤ sizeLine := by
    rw [List.length_map, b2.length_eq, List.length_map]
    exact hzl
  refine ⟨.ref hp.objs.size, upd H hp.objs.size (.lst (ss'.map V.str)), I1.laid (t' := tk) (fun b u hu => ?_) (Nat.le_refl _) ⟨hlen, ((arrOf st').map (·.2)).toList, ep, vals_of_strs b1, by rw [Array.toArray_toList]; exact he'⟩, rfl, q _ _ b2 (I1.hok.fresh (Nat.le_refl _))⟩
  have hb : b ≠ hp.objs.size := Nat.ne_of_lt (Heap.lt_size hu)
  rw [sortedHeap_old hb (by rw [size_push']; exact Nat.lt_succ_of_lt (Heap.lt_size hu))]
  exact Heap.get?_push_of_some _ hu

/-! xs.count(True), truths -/
def rCntB (K : PySem.W.Frag) : V → List V → Hp → VK → Prop := fun x xs H Q => ∃ (p : Addr) (bs : List Bool), x = .ref p ∧ xs = [.bl true] ∧ SqL K H p (bs.map V.bl) ∧ Q (.int (bs.count true : Nat)) H
def eqT (v : Value) : Bool := match v with
  | .bool b => b
  | _ => false
theorem mt_countB : MtR X "list.count" (rCntB X.K) := by
  intro pins s σ H x xs v us Q I rx rxs h
  obtain ⟨p, bs, rfl, rfl, hs, q⟩ := h
  cases rx
  obtain ⟨u, rfl, ru⟩ := rxs.one
  cases (show u = Value.bool true from ru)
  obtain ⟨its, rv, ⟨⟨cls, dd, data, sl⟩, n, ho, hc, hdn, hd⟩, hlen⟩ := I.list hs
  simp only at hc hd
  subst hc hd
  have hb : ∀ {bs : List Bool} {its : List Value}, Vals (bs.map V.bl) its → its = bs.map Value.bool := by
    intro bs
    induction bs with
    | nil => intro its r; cases r; rfl
    | cons b bs ih =>
      intro its r
      rw [List.map_cons] at r
      cases r with
      | cons r1 r2 =>
        rw [ih r2]
        cases (show _ = Value.bool b from r1)
        rfl
  have e := hb rv
  subst e
  refine call_meets PySem.F.slot_list_count ⟨_, ho, rfl⟩ PySem.F.entry_list_count (PySem.F.args_list_count_2 _ _)
    (SeqAt.list_countAt p (bs.map Value.bool).toArray n dd sl (.bool true) eqT) ⟨ho, fun y hy => ?_, ?_⟩
  · obtain ⟨b, _, rfl⟩ := List.mem_map.mp (List.mem_toArray.mp hy)
    cases b with
    | true => exact SeqAt.EqAt.bool_bool true true
    | false => exact SeqAt.EqAt.bool_bool false true
  · have ec : (bs.map Value.bool).toArray.toList.countP eqT = bs.count true := by
      show (bs.map Value.bool).countP eqT = _
      rw [List.countP_map]
      unfold List.count
      congr 1
      funext b
      cases b <;> rfl
    rw [ec]
    exact ⟨.int _, H, I.tok _, ⟨s.toks, rfl⟩, q⟩

/-! a caught error, kept: an exception object of the class cls that stands at a -/
def ExV (cls : Value) (a : Addr) : HO := .ext fun h => ∃ (oe : Obj) (vs : Array Value), h.get? a = some oe ∧ Zc cls none oe ∧ oe.data = .fields vs
theorem exV_ok {P : Program} {w : World} {H : Hp} {h : Heap} {a : Addr} {cls : Value} {oe : Obj} {vs : Array Value} (e : h.get? a = some oe) (z : Zc cls none oe) (d : oe.data = .fields vs) : ObjOk P w H h a (ExV cls a) :=
  ⟨⟨oe, vs, e, z, d⟩, ⟨oe, e⟩, fun _ _ ⟨o, v, q, r⟩ k => ⟨o, v, k o q, r⟩⟩
/-- an object that was not there at the def's entry, and is not tracked, may be tracked -/
theorem track {pins : List (Addr × Obj)} {σ : L2.St} {H : Hp} {s : Shared} {a : Addr} {o : HO} (I : Inv X pins σ H s) (n0 : X.s_0.heap.get? a = none) (hn : H a = none) (nL : a ≠ X.env.locals)
    (nC : ∀ x c, X.env.cells.lookup x = some c → c ≠ a) (nP : ∀ p ∈ X.pn ++ pins, p.1 ≠ a) (new : ObjOk X.prog X.w (upd H a o) s.heap a o) : Inv X pins σ (upd H a o) s := by
  have ne0 : ∀ b u, X.s_0.heap.get? b = some u → b ≠ a := fun b u e z => by
    rw [z, n0] at e
    cases e
  refine ⟨I.ok, I.os, I.bare, ⟨I.base.keep, I.base.slot, fun b u e n hq => ?_, I.base.there, fun b xs e => ?_, fun b u v e => ?_, fun b ps e => ?_⟩, I.loc, I.cell, ?_, fun x c e => ?_, fun p hp => ?_, HOk.laidN I.hok (fun _ _ q => q) hn new, I.len⟩
  · rw [upd_ne (ne0 b u e)]
    exact I.base.free b u e n hq
  · have q := I.base.tups b xs e
    rw [upd_ne (ne_of_none q hn)]
    exact q
  · have q := I.base.frzs b u v e
    rw [upd_ne (ne_of_none q hn)]
    exact q
  · obtain ⟨m, q⟩ := I.base.tbls b ps e
    exact ⟨m, by rw [upd_ne (ne_of_none q hn)]; exact q⟩
  · rw [upd_ne (Ne.symm nL)]
    exact I.free
  · rw [upd_ne (nC x c e)]
    exact I.freeC x c e
  · obtain ⟨e, n, ne, nf, d⟩ := I.pin p hp
    exact ⟨e, by rw [upd_ne (nP p hp)]; exact n, ne, nf, d⟩
/-- isinstance(e, c), e such an error -/
def rIsX (K : PySem.W.Frag) : List V → Hp → VK → Prop := fun xs H Q => ∃ (a D : Addr) (c : V) (cv : Value) (b : Bool), xs = [.ref a, c] ∧ H a = some (ExV (.ref D) a) ∧ ExcC K D ∧ (∀ u, RelV c u → u = cv) ∧ PySem.W.kitOne K (.ref D) cv = some b ∧ Q (.bl b) H
theorem call_isX : CallR X (.builtin "isinstance") (rIsX X.K) := by
  intro pins s σ H xs us Q I r h
  obtain ⟨a, D, c, cv, b, rfl, ha, C, hcv, e, q⟩ := h
  obtain ⟨u1, u2, rfl, rx, rt⟩ := vals2 r
  cases rx
  have ec := hcv _ rt
  subst ec
  obtain ⟨⟨oe, vs, hget, hz, hv⟩, _, _⟩ := (show ObjOk X.prog X.w H s.heap a (ExV (.ref D) a) from I.hok a _ ha)
  have J : PySem.W.InstAt s.heap a oe D none := by
    obtain ⟨oc, od, oda, osl⟩ := oe
    obtain ⟨h1, h2⟩ := hz
    dsimp only at h1 h2 hv
    subst h1 h2 hv
    exact ⟨hget, rfl, rfl, trivial⟩
  exact PySem.W.kia_one (PySem.W.handS_kitx_exc C.hg C.hk C.hs C.hd C.ha C.hn C.ht C.hm) I.kIn J e (fun z => nomatch z) fun tk => ⟨.bl b, H, I.tok _, rfl, q⟩

/-- what the clause «except c as n: m = n» asks of an error of the body (n in slot i, m in slot j): the clause takes it, and what follows holds with the error kept -/
def wVal (K : PySem.W.Frag) (c : Value) (i j : Nat) (D : Ends) : WX := fun cls d σ H =>
  PySem.W.exmOne K cls c = some true ∧ d = none ∧ ∀ a, H a = none → D.nx ((σ.set i (some (.ref a))).set j (some (.ref a)) |>.set i none) (upd H a (ExV cls a))
/-- an error that has come down: the state, the error's place, all that is known of it -/
structure Caught (X : Cx) (pins : List (Addr × Obj)) (σ : L2.St) (H : Hp) (s : Shared) (a : Addr) (cls : Value) : Prop where
  inv : Inv X pins σ H s
  free : H a = none
  new0 : X.s_0.heap.get? a = none
  loc : a ≠ X.env.locals
  frs : a ∉ X.fs
  cel : ∀ x c, X.env.cells.lookup x = some c → c ≠ a
  pin : ∀ p ∈ X.pn ++ pins, p.1 ≠ a
theorem ps_try_val {x n m : Str} {c : Value} {i j : Nat} {body orelse : List Stmt} {np p1 p2 p3 p4 pos : Pos} {tb : WX → TS} {u : TS} (ho : PSs X orelse u) (st : X.stack = X.env :: X.outer) (fm : X.env.frame = some X.env.locals) (ex0 : X.ex = [])
    (nd : X.N.Nodup) (hi : X.N[i]? = some n) (hj : X.N[j]? = some m) (ln : X.env.scope.names.lookup n = some .local) (lm : X.env.scope.names.lookup m = some .local) (kn : X.env.kindOf n = some .local) (nm : Names X x c) (nb1 : (n == ("__debug__" : Str)) = false) (nb2 : (n == ("__classdict__" : Str)) = false)
    (sw : swapsWith (.Name n p2) (some (.Name m p1)) p3.line X.env = pure false)
    (hb : ∀ (W : WX) (pn : List (Addr × Obj)) (xe : Value → Shared → Prop), Takes (X.tr pn xe) W → PassesOwn (model X.prog X.w) X.A X.env xe → PSs (X.tr pn xe) body (tb W)) :
    PS X (.Try body [.ExceptHandler (some (.Name x np)) (some n) [.Assign [.Name m p1] (.Name n p2) p3] p4] orelse [] pos) (fun D σ H => tb (wVal X.K c i j D) { D with nx := u D } σ H) := by
  constructor
  intro pins s σ H D I h
  have ok := I.ok
  have frames : X.A.frames = some (X.env :: X.outer) := st ▸ ok.frames
  apply wpAny_Try_except
  refine wpAny_mono ((hb (wVal X.K c i j D) (X.pn ++ pins) _ ?caught PassesOwn.looking).run [] s σ H { D with nx := u D } (I.toTry _) h) ?after (fun e s1 he => he)
  case caught =>
    rintro e s' ⟨a, B, sI, ps', σ', H', cls, d, rfl, J0, keepB, up, sky, na, os, ag, hyes, hd0, hgo⟩
    subst hd0
    have J : Inv X pins σ' H' sI := J0.ofTry ok
    rw [st] at keepB
    have sky' : Sky B (X.env :: X.outer) a (Zc cls none) X.env.locals s'.heap := st ▸ sky
    apply Sky.land Zc.steady frames fm sky'
    intro h3 fly up3
    have land : ∀ h4 : Heap, HandSPX.FlyingZ B (X.env :: X.outer) a (Zc cls none) h4 → sI.heap.UpToSlots h4 → Inv X pins σ' H' { s' with heap := h4 } := fun h4 fl u4 => J.landed (by rw [st]; exact keepB) fl.1 u4 os ag
    have J3 := land h3 fly (up.trans up3)
    obtain ⟨oe3, vs3, g3, z3, d3⟩ := fly.there
    have notF : a ∉ frs (X.env :: X.outer) := fun hm => by
      obtain ⟨_, o', e', hnf⟩ := fly.2.2.1.mem hm
      rw [g3] at e'
      cases e'
      exact hnf _ d3
    have nL : a ≠ X.env.locals := fun z => notF (List.mem_filterMap.mpr ⟨X.env, List.mem_cons_self, by rw [fm, z]⟩)
    have nF : a ∉ X.fs := fun hm => by
      obtain ⟨e, he, q⟩ := List.mem_filterMap.mp hm
      exact notF (List.mem_filterMap.mpr ⟨e, List.mem_cons_of_mem _ he, q⟩)
    have gone : sI.heap.get? a = none := by
      cases q : sI.heap.get? a with
      | none => rfl
      | some o =>
        have z := keepB a o q notF
        rw [fly.2.1] at z
        cases z
    have new0 : X.s_0.heap.get? a = none := by
      cases q : X.s_0.heap.get? a with
      | none => rfl
      | some o =>
        obtain ⟨o', z⟩ := J.base.there a o q (by rw [ex0]; exact fun z => nomatch z)
        rw [gone] at z
        cases z
    have cel : ∀ x c, X.env.cells.lookup x = some c → c ≠ a := fun y w e z => by
      obtain ⟨v, o, q, _⟩ := J.cell y w e
      rw [z, gone] at q
      cases q
    have pin : ∀ p ∈ X.pn ++ pins, p.1 ≠ a := fun p hp z => by
      have q := (J.pin p hp).1
      rw [z, gone] at q
      cases q
    have C : Caught X pins σ' H' sI a cls := ⟨J, na, new0, nL, nF, cel, pin⟩
    have S3 := J3.suite g3 d3 na nL nF
    apply wpAny_handleBy_cons _ (by intro q; cases q)
    apply codeAny_handlers_test
    have tyA : PySem.W.Looks (model X.prog X.w) h3 (typeOf (.ref a)) cls := fun A Q E s k q => wpAny_typeOf_ref (k _ _ g3) (by rw [z3.1]; exact q)
    have fits := PySem.W.exm_one (M := model X.prog X.w) J3.kIn tyA hyes
    have ask : ∀ {Q : Value → Shared → Prop} {E : Value → Shared → Prop}, Q c { s' with heap := h3 } → wpAny (model X.prog X.w) (X.A.mark (some (.ref a))) (eval (.Name x np) X.env) Q E { s' with heap := h3 } := by
      intro Q E q
      rcases nm with ⟨hg, dbg, hm | ⟨hm, hv, hn⟩⟩
      · exact ld_glob (X := X.suite a ((a, oe3) :: (X.pn ++ pins))) S3 hg hm q dbg
      · exact ld_blt (X := X.suite a ((a, oe3) :: (X.pn ++ pins))) S3 hg hm hv q hn dbg
    apply ask
    apply fits.here
    apply codeAny_handlers_suite_as
    apply HandSPX.lands_againZ fly
    intro h4 fly4 up4
    obtain ⟨oe4, vs4, g4, z4, d4⟩ := fly4.there
    have S4 := (land h4 fly4 ((up.trans up3).trans up4)).suite g4 d4 na nL nF
    apply store_ok (X := X.suite a ((a, oe4) :: (X.pn ++ pins))) (v := .ref a) S4 nd hi (Or.inl ln) rfl _ (Or.inr ln)
    intro s5 S5
    have suite : PSs (X.suite a ((a, oe4) :: (X.pn ++ pins))) [.Assign [.Name m p1] (.Name n p2) p3] (tAsg (tVar i) (gName j)) :=
      pss_one (ps_asg (pe_var hi (Or.inl ln) nb1 nb2) (pg_name nd hj (Or.inl lm) (Or.inr lm)) sw)
    have hiN : i < (σ'.set i (some (V.ref a))).length := by
      rw [List.length_set, J.len]
      exact (List.getElem?_eq_some_iff.mp hi).1
    have rs := suite.run [] s5 _ H' ⟨fun σ6 H6 => σ6 = (σ'.set i (some (V.ref a))).set j (some (V.ref a)) ∧ H6 = H', fun _ _ => False, fun _ _ => False, fun _ _ => False⟩ S5
      ⟨V.ref a, by rw [List.length_set] at hiN; rw [List.getElem?_set_self hiN], rfl, rfl⟩
    apply wpAny_mono rs _ fun _ _ z => False.elim z
    intro f s6 q
    cases f with
    | next =>
      obtain ⟨σ6, H6, S6, rfl, rfl⟩ := q
      have g6 := (S6.pin (a, oe4) (List.mem_append_left _ List.mem_cons_self)).1
      have J6 := track (S6.unsuite ok) C.new0 C.free C.loc C.cel C.pin (exV_ok g6 z4 d4)
      exact gone_ok J6 nd hi kn fun s7 J7 => ⟨_, _, J7, hgo a na⟩
    | brk => obtain ⟨_, _, _, z⟩ := q; exact z.elim
    | cont => obtain ⟨_, _, _, z⟩ := q; exact z.elim
    | ret w => obtain ⟨_, _, _, _, _, z⟩ := q; exact z.elim
  case after =>
    intro f s1 q
    cases f with
    | next =>
      obtain ⟨σ', H', K1, z⟩ := q
      exact ho.run pins s1 σ' H' D (K1.ofTry ok) z
    | brk =>
      obtain ⟨σ', H', K1, z⟩ := q
      exact ⟨σ', H', K1.ofTry ok, z⟩
    | cont =>
      obtain ⟨σ', H', K1, z⟩ := q
      exact ⟨σ', H', K1.ofTry ok, z⟩
    | ret w =>
      obtain ⟨v, σ', H', K1, r, z⟩ := q
      exact ⟨v, σ', H', K1.ofTry ok, r, z⟩
end
end Rw
namespace Rw
open PySem PySem.Spec PyProof.Rows L2

theorem big {n : Nat} (h : n ≤ 100000) : n ≤ sizeLine := Nat.le_trans h (by decide)
theorem bigL {n : Nat} (h : n ≤ 100000) : n < sizeLine := Nat.lt_of_le_of_lt h (by decide)
/-- a text, a list of texts, as values -/
abbrev tv (l : List Nat) : V := .str (T l)
abbrev tvs (ls : List (List Nat)) : List V := ls.map tv
theorem tv_inj {a b : List Nat} (h : tv a = tv b) : a = b := T_inj (V.str.inj h)
theorem tv_dec (a b : List Nat) : decide (tv a = tv b) = decide (a = b) := by
  by_cases e : a = b
  · subst e; simp
  · rw [decide_eq_false e, decide_eq_false fun z => e (tv_inj z)]
theorem T_beq (a b : List Nat) : (T a == T b) = decide (a = b) := by
  by_cases e : a = b
  · subst e; simp
  · rw [decide_eq_false e]
    exact beq_eq_false_iff_ne.mpr fun z => e (T_inj z)
/-- l[lo:hi] -/
def cutL {α : Type} (l : List α) (lo hi : Option Int) : List α := (l.drop (HT.sIx l.length 0 lo)).take (HT.sIx l.length l.length hi - HT.sIx l.length 0 lo)
theorem cutS_T (l : List Nat) (lo hi : Option Int) : cutS (T l) lo hi = T (cutL l lo hi) := by
  unfold cutS cutL
  rw [T_len, T_cps]
  rfl
theorem cutL_len {α : Type} (l : List α) (lo hi : Option Int) : (cutL l lo hi).length ≤ l.length := by
  unfold cutL
  rw [List.length_take, List.length_drop]
  omega
theorem sIxN (n d k : Nat) : HT.sIx n d (some (k : Int)) = min k n := HT.sIx_nat n d k
theorem cutL_from {α : Type} (l : List α) (k : Nat) : cutL l (some (k : Int)) none = l.drop k := by
  unfold cutL
  rw [sIxN, HT.sIx_none]
  by_cases h : k ≤ l.length
  · rw [Nat.min_eq_left h]
    exact List.take_of_length_le (by rw [List.length_drop]; exact Nat.le_refl _)
  · have h' : l.length ≤ k := by omega
    rw [Nat.min_eq_right h', List.drop_of_length_le (l := l) (Nat.le_refl _), List.drop_of_length_le (l := l) h']
    simp
theorem cutL_to {α : Type} (l : List α) (k : Nat) : cutL l none (some (k : Int)) = l.take k := by
  unfold cutL
  rw [sIxN, HT.sIx_none, List.drop_zero, Nat.sub_zero]
  by_cases h : k ≤ l.length
  · rw [Nat.min_eq_left h]
  · have h' : l.length ≤ k := by omega
    rw [Nat.min_eq_right h', List.take_of_length_le (l := l) (Nat.le_refl _), List.take_of_length_le (l := l) h']
theorem cutL_but {α : Type} (l : List α) : cutL l none (some (-1)) = l.dropLast := by
  unfold cutL
  have e : HT.sIx l.length l.length (some (-1)) = l.length - 1 := by
    show (if (-1 : Int) < 0 then ((-1 : Int) + (l.length : Int)).toNat else min (-1 : Int).toNat l.length) = _
    rw [if_pos (by decide)]
    omega
  rw [e, HT.sIx_none, List.drop_zero, Nat.sub_zero, List.dropLast_eq_take (l := l)]
theorem cutL_mid {α : Type} (l : List α) (i j : Nat) : cutL l (some (i : Int)) (some (j : Int)) = (l.drop i).take (j - i) := by
  unfold cutL
  rw [sIxN, sIxN]
  by_cases h : i ≤ l.length
  · rw [Nat.min_eq_left h]
    by_cases hj : j ≤ l.length
    · rw [Nat.min_eq_left hj]
    · have hj' : l.length ≤ j := by omega
      rw [Nat.min_eq_right hj', List.take_of_length_le (l := l.drop i) (by rw [List.length_drop]; omega), List.take_of_length_le (l := l.drop i) (by rw [List.length_drop]; omega)]
  · have h' : l.length ≤ i := by omega
    rw [Nat.min_eq_right h', List.drop_of_length_le (l := l) (Nat.le_refl _), List.drop_of_length_le (l := l) h']
    simp
theorem cutV_L (xs : List V) (lo hi : Option Int) : cutV xs lo hi = cutL xs lo hi := rfl
theorem cutL_map {α β : Type} (f : α → β) (l : List α) (lo hi : Option Int) : cutL (l.map f) lo hi = (cutL l lo hi).map f := by
  unfold cutL
  rw [List.length_map, List.map_take, List.map_drop]

/-! rules over texts by their codes -/
section
variable {X : Cx}
def rAddT : R2 := fun x y H Q => ∃ a b : List Nat, x = tv a ∧ y = tv b ∧ a.length + b.length ≤ 100000 ∧ Q (tv (a ++ b)) H
theorem op_addT : OpR X (binaryOp .Add) rAddT := fun pins s σ H x y v u Q I rx ry ⟨a, b, e1, e2, hz, q⟩ =>
  op_add_str pins s σ H x y v u Q I rx ry ⟨T a, T b, e1, e2, by rw [T_len, T_len]; exact big hz, by rw [T_app]; exact q⟩
def rLtT : R2 := fun x y H Q => ∃ a b : List Nat, x = tv a ∧ y = tv b ∧ Q (.bl (decide (a < b))) H
theorem op_ltT : OpR X (compareOp .Lt) rLtT := fun pins s σ H x y v u Q I rx ry ⟨a, b, e1, e2, q⟩ =>
  op_lt_str pins s σ H x y v u Q I rx ry ⟨T a, T b, e1, e2, by rw [T_cps, T_cps]; exact q⟩
def rLeT : R2 := fun x y H Q => ∃ a b : List Nat, x = tv a ∧ y = tv b ∧ Q (.bl (!decide (b < a))) H
theorem op_leT : OpR X (compareOp .LtE) rLeT := fun pins s σ H x y v u Q I rx ry ⟨a, b, e1, e2, q⟩ =>
  op_le_str pins s σ H x y v u Q I rx ry ⟨T a, T b, e1, e2, by rw [T_cps, T_cps]; exact q⟩
def rEqT : R2 := fun x y H Q => ∃ a b : List Nat, x = tv a ∧ y = tv b ∧ Q (.bl (decide (a = b))) H
theorem op_eqT : OpR X (compareOp .Eq) rEqT := fun pins s σ H x y v u Q I rx ry ⟨a, b, e1, e2, q⟩ =>
  op_eq pins s σ H x y v u Q I rx ry (by subst e1 e2; exact ⟨rfl, by rw [tv_dec]; exact q⟩)
def rNeT : R2 := fun x y H Q => ∃ a b : List Nat, x = tv a ∧ y = tv b ∧ Q (.bl (!decide (a = b))) H
theorem op_neT : OpR X (compareOp .NotEq) rNeT := fun pins s σ H x y v u Q I rx ry ⟨a, b, e1, e2, q⟩ =>
  op_ne pins s σ H x y v u Q I rx ry (by subst e1 e2; exact ⟨rfl, by rw [tv_dec]; exact q⟩)
def rLenT : List V → Hp → VK → Prop := fun xs H Q => ∃ l : List Nat, xs = [tv l] ∧ l.length ≤ 100000 ∧ Q (.int (l.length : Nat)) H
theorem call_lenT : CallR X (.builtin "len") rLenT := fun pins s σ H vs us Q I r ⟨l, e, hz, q⟩ =>
  call_len_str pins s σ H vs us Q I r ⟨T l, e, by rw [T_len]; exact big hz, by rw [T_len]; exact q⟩
def rSlT : V → Option Int → Option Int → Hp → VK → Prop := fun x lo hi H Q => ∃ l : List Nat, x = tv l ∧ l.length ≤ 100000 ∧ Q (tv (cutL l lo hi)) H
theorem sl_T : SlR X rSlT := fun pins s σ H x v vl vu lo hi sl Q I rx hs pl pu ⟨l, e, hz, q⟩ =>
  sl_str pins s σ H x v vl vu lo hi sl Q I rx hs pl pu ⟨T l, e, by rw [T_len]; exact big hz, by rw [cutS_T]; exact q⟩
def rIxT : R2 := fun x y H Q => ∃ (l : List Nat) (i : Int) (c : Nat), x = tv l ∧ y = .int i ∧ l.length ≤ 100000 ∧ atI l i = some c ∧ Q (tv [c]) H
theorem ix_T : IxR X rIxT := fun value slice pins s σ H x y v u Q I rx ry ⟨l, i, c, e1, e2, hz, ha, q⟩ hs =>
  ix_str value slice pins s σ H x y v u Q I rx ry (show rIxS x y H Q from ⟨T l, i, c, e1, e2, by rw [T_len]; exact big hz, by rw [T_cps]; exact ha, q⟩) hs
/-- ''.join(texts) -/
def rJoinT (K : PySem.W.Frag) : V → List V → Hp → VK → Prop := fun x xs H Q => ∃ (p : Addr) (ls : List (List Nat)), x = tv [] ∧ xs = [.ref p] ∧ SqL K H p (tvs ls) ∧ ls.flatten.length ≤ 100000 ∧ Q (tv ls.flatten) H
theorem join_T : ∀ ls : List (List Nat), Txt.join (T []) (ls.map T) = T ls.flatten := by
  intro ls
  have h : ∀ ls : List (List Nat), Str.join (T []) (ls.map T) = T ls.flatten := by
    intro ls
    induction ls with
    | nil => rfl
    | cons a r ih =>
      cases r with
      | nil =>
        show T a = _
        simp
      | cons b r =>
        show T a ++ T [] ++ Str.join (T []) ((b :: r).map T) = _
        rw [ih, T_app, T_app]
        simp
  rw [show Txt.join (T []) (ls.map T) = Str.join (T []) (ls.map T) from PySem.StrLaws.glued_eq_join _ _, h]
theorem mt_joinT : MtR X "str.join" (rJoinT X.K) := fun pins s σ H x xs v us Q I rx rxs ⟨p, ls, e1, e2, hs, hz, q⟩ => by
  have em : tvs ls = (ls.map T).map V.str := by rw [List.map_map]; rfl
  refine mt_join pins s σ H x xs v us Q I rx rxs ⟨T [], p, ls.map T, e1, e2, .inl (by rw [← em]; exact hs), ?_, by rw [join_T]; exact q⟩
  have e : ((ls.map T).map (·.length)).sum = ls.flatten.length := by
    rw [List.map_map, List.length_flatten]
    exact congrArg List.sum (List.map_congr_left fun l _ => T_len l)
  rw [e]
  show _ + _ * (T []).length ≤ _
  rw [T_len]
  exact Nat.le_trans (by simpa using hz) (by decide : 100000 ≤ 16777216)
theorem pe_joinT {o e : Expr} {to te : TE} {apos pos : Pos} (ho : PE X o to) (he : PE X e te)
    (h1 : starEach [e] X.env = [(false, eval e X.env)] := by rfl) (h2 : attributeBase o "join" X.env (eval o X.env) = eval o X.env := by rfl) (h3 : (apos.endLine == pos.line) = true := by rfl) :
    PE X (.Call (.Attribute o "join" apos) [e] [] pos) (tM1 (rJoinT X.K) to te) := pe_m1 F.slot_str_join F.type_str_join mt_joinT ho he h1 h2 h3
/-- w in texts, texts.index(w) -/
theorem flat_tvs (ls : List (List Nat)) : (tvs ls).all flatV = true := by simp [List.all_map]; intro x _; rfl
theorem inV_tvs (w : List Nat) (ls : List (List Nat)) : inV (tv w) (tvs ls) = decide (w ∈ ls) := by
  unfold inV
  induction ls with
  | nil => simp
  | cons a r ih =>
    rw [show tvs (a :: r) = tv a :: tvs r from rfl, List.any_cons, ih]
    have e : eqV (tv a) (tv w) = decide (a = w) := T_beq a w
    rw [e]
    by_cases h : a = w
    · simp [h]
    · have h' : ¬ w = a := fun z => h z.symm
      simp [h, h']
def rInT (K : PySem.W.Frag) (neg : Bool) : R2 := fun x y H Q => ∃ (p : Addr) (w : List Nat) (ls : List (List Nat)), x = tv w ∧ y = .ref p ∧ SqL K H p (tvs ls) ∧ Q (.bl (if neg then !decide (w ∈ ls) else decide (w ∈ ls))) H
theorem op_inT : OpR X (compareOp .In) (rInT X.K false) := fun pins s σ H x y v u Q I rx ry ⟨p, w, ls, e1, e2, hs, q⟩ =>
  op_in_seq pins s σ H x y v u Q I rx ry ⟨p, tvs ls, e2, .inl hs, by rw [e1]; rfl, flat_tvs ls, by rw [e1, inV_tvs]; exact q⟩
theorem op_notInT : OpR X (compareOp .NotIn) (rInT X.K true) := fun pins s σ H x y v u Q I rx ry ⟨p, w, ls, e1, e2, hs, q⟩ =>
  op_notIn_seq pins s σ H x y v u Q I rx ry ⟨p, tvs ls, e2, .inl hs, by rw [e1]; rfl, flat_tvs ls, by rw [e1, inV_tvs]; exact q⟩
def rIndexT (K : PySem.W.Frag) : V → List V → Hp → VK → Prop := fun x xs H Q => ∃ (p : Addr) (w : List Nat) (ls : List (List Nat)), x = .ref p ∧ xs = [tv w] ∧ SqL K H p (tvs ls) ∧ w ∈ ls ∧ Q (.int (ls.idxOf w : Nat)) H
theorem idx_first : ∀ (ls : List (List Nat)) (w : List Nat), w ∈ ls → ls[ls.idxOf w]? = some w ∧ ∀ (m : Nat) (z : List Nat), m < ls.idxOf w → ls[m]? = some z → z ≠ w
  | [], w, h => by simp at h
  | a :: r, w, h => by
    by_cases e : a = w
    · subst e
      rw [List.idxOf_cons_self]
      exact ⟨rfl, fun m z hm => absurd hm (by omega)⟩
    · have hr : w ∈ r := by
        rcases List.mem_cons.mp h with z | z
        · exact absurd z.symm e
        · exact z
      obtain ⟨h1, h2⟩ := idx_first r w hr
      have ei : (a :: r).idxOf w = r.idxOf w + 1 := by
        rw [List.idxOf_cons]
        have : (a == w) = false := beq_eq_false_iff_ne.mpr e
        rw [this]
        rfl
      rw [ei]
      refine ⟨h1, fun m z hm hz => ?_⟩
      cases m with
      | zero =>
        have : a = z := Option.some.inj hz
        rw [← this]
        exact e
      | succ m => exact h2 m z (by omega) hz
theorem mt_indexT : MtR X "list.index" (rIndexT X.K) := fun pins s σ H x xs v us Q I rx rxs ⟨p, w, ls, e1, e2, hs, hw, q⟩ => by
  obtain ⟨h1, h2⟩ := idx_first ls w hw
  refine mt_index pins s σ H x xs v us Q I rx rxs ⟨p, tvs ls, tv w, ls.idxOf w, tv w, e1, e2, hs, rfl, flat_tvs ls, ?_, ?_, ?_, q⟩
  · rw [List.getElem?_map, h1]
    rfl
  · show (T w == T w) = true
    simp
  · intro m z hm hz
    rw [List.getElem?_map] at hz
    cases e : ls[m]? with
    | none =>
      rw [e] at hz
      cases hz
    | some y =>
      rw [e] at hz
      have ez : tv y = z := Option.some.inj hz
      rw [← ez]
      show (T y == T w) = false
      rw [T_beq]
      exact decide_eq_false (h2 m y hm e)
/-- ==, != of two lists of texts -/
theorem dp_tvs {K : PySem.W.Frag} {H : Hp} : ∀ ls : List (List Nat), DpAll K H (tvs ls) (ls.map fun l => .str (T l))
  | [] => .nil
  | a :: r => .cons (.str (T a)) (dp_tvs r)
theorem eqv_tvs : ∀ a b : List (List Nat), PyData.eqvAll (a.map fun l => .str (T l)) (b.map fun l => .str (T l)) = decide (a = b)
  | [], [] => rfl
  | [], _ :: _ => rfl
  | _ :: _, [] => rfl
  | x :: xs, y :: ys => by
    rw [List.map_cons, List.map_cons]
    unfold PyData.eqvAll
    rw [eqv_tvs xs ys]
    show ((T x == T y) && _) = _
    rw [T_beq]
    by_cases h1 : x = y <;> by_cases h2 : xs = ys <;> simp [h1, h2]
/-- the codes are signs -/
def Ok (l : List Nat) : Prop := ∀ c ∈ l, c < 1114112
theorem can_tvs : ∀ ls : List (List Nat), (∀ l ∈ ls, Ok l) → PyData.canLayAll0 (ls.map fun l => .str (T l)) = true
  | [], _ => rfl
  | a :: r, h => by
    rw [List.map_cons]
    unfold PyData.canLayAll0
    rw [can_tvs r fun l hl => h l (List.mem_cons_of_mem _ hl), Bool.and_true]
    unfold PyData.canLay0
    show Array.all _ _ = true
    simp only [T, List.size_toArray, List.all_toArray', List.all_eq_true]
    intro c hc
    exact decide_eq_true (h a List.mem_cons_self c hc)
theorem depth_tvs : ∀ ls : List (List Nat), PyData.depthAll (ls.map fun l => .str (T l)) ≤ 1
  | [] => by decide
  | a :: r => by
    rw [List.map_cons]
    unfold PyData.depthAll
    refine Nat.max_le.mpr ⟨?_, depth_tvs r⟩
    first | decide | (show PyData.depth (.str _) ≤ 1; unfold PyData.depth; decide)

theorem shaped_tvs (ls : List (List Nat)) (h : ∀ l ∈ ls, Ok l) : SeqAt.shaped (.list (ls.map fun l => .str (T l))) = true := by
  unfold SeqAt.shaped
  rw [Bool.and_eq_true]
  constructor
  · unfold PyData.canLay0
    exact can_tvs ls h
  · refine decide_eq_true ?_
    unfold PyData.depth
    have := depth_tvs ls
    omega
def rEqL (K : PySem.W.Frag) (neg : Bool) : R2 := fun x y H Q => ∃ (p q : Addr) (a b : List (List Nat)), x = .ref p ∧ y = .ref q ∧ SqL K H p (tvs a) ∧ SqL K H q (tvs b) ∧ (∀ l ∈ a, Ok l) ∧ (∀ l ∈ b, Ok l) ∧ Q (.bl (if neg then !decide (a = b) else decide (a = b))) H
theorem eqv_lists (a b : List (List Nat)) : PyData.eqv (.list (a.map fun l => .str (T l))) (.list (b.map fun l => .str (T l))) = decide (a = b) := by
  unfold PyData.eqv
  exact eqv_tvs a b
theorem op_eqL (hu : X.A.units + 64 < cLine) : OpR X (compareOp .Eq) (rEqL X.K false) := fun pins s σ H x y v u Q I rx ry ⟨p, q, a, b, e1, e2, h1, h2, o1, o2, k⟩ =>
  op_eqD hu pins s σ H x y v u Q I rx ry ⟨_, _, by rw [e1]; exact .lst h1 (dp_tvs a), by rw [e2]; exact .lst h2 (dp_tvs b), shaped_tvs a o1, shaped_tvs b o2, by rw [eqv_lists]; exact k⟩
theorem op_neL (hu : X.A.units + 64 < cLine) : OpR X (compareOp .NotEq) (rEqL X.K true) := fun pins s σ H x y v u Q I rx ry ⟨p, q, a, b, e1, e2, h1, h2, o1, o2, k⟩ =>
  op_neD hu pins s σ H x y v u Q I rx ry ⟨_, _, by rw [e1]; exact .lst h1 (dp_tvs a), by rw [e2]; exact .lst h2 (dp_tvs b), shaped_tvs a o1, shaped_tvs b o2, by rw [eqv_lists]; exact k⟩
end

/-! a def of the text, as its callers need it -/
section
/-- at the module's name x stands a def that keeps sp, by at most level k -/
def Cal (CX : CXT) (P : Program) (w : World) (K : PySem.W.Frag) (mg : Str → Option Value) (base : Heap) (k : Nat) (x : Str) (sp : Sp) : Prop :=
  ∃ (f : Addr) (fd : FuncData) (ps : List Str), FnOk P w K mg base CX k f fd ps sp ∧ mg x = some (.ref f) ∧ PySem.W.keepIn K (.ref f) = true ∧ Binds K fd ps []
/-- the def st stands at the module's name x, its parameters ps -/
def Dfn (K : PySem.W.Frag) (mg : Str → Option Value) (x : Str) (st : Stmt) (ps : List Str) : Prop :=
  ∃ (f : Addr) (fd : FuncData), Fun K x x st f fd ∧ mg x = some (.ref f) ∧ Binds K fd ps []
variable {CX : CXT} {P : Program} {w : World} {K : PySem.W.Frag} {mg : Str → Option Value} {base : Heap} {x : Str} {st : Stmt} {ps : List Str} {sp : Sp} {k : Nat}
theorem Dfn.cal (D : Dfn K mg x st ps) (h : ∀ f fd, Fun K x x st f fd → FnOk P w K mg base CX k f fd ps sp) : Cal CX P w K mg base k x sp := by
  obtain ⟨f, fd, F, g, b⟩ := D
  exact ⟨f, fd, ps, h f fd F, g, F.kp, b⟩
end
section
variable {X : Cx} {CX : CXT} {k j : Nat} {sp : Sp} {E : XK} {x : Str} {p pos : Pos} {e : Expr} {es : List Expr} {t : TA}
theorem pe_cal (c : Cal CX X.prog X.w X.K X.mg X.base k x sp) (hr : Room j X.A) (hk : k ≤ j) (hx : Passes CX X E) (ha : PA X (e :: es) t) (hg : Gl X x := by rfl) (hdb : (x == ("__debug__" : Str)) = false := by decide)
    (he : starEach (e :: es) X.env = (false, eval e X.env) :: starEach es X.env := by rfl) (hpl : (backTo pos (starEach es X.env)).any (·.1) = false := by rfl) :
    PE X (.Call (.Name x p) (e :: es) [] pos) (tCall sp [] E t) := by
  refine ⟨fun pins s σ H Q I h => ?_⟩
  obtain ⟨f, fd, ps, F, g, kp, b⟩ := c
  exact (pe_call F (hr.mono hk) hg g kp b .nil hx ha hdb he hpl).run pins s σ H Q I h
theorem pe_calS {E : L2.St → XK} (c : Cal CX X.prog X.w X.K X.mg X.base k x sp) (hr : Room j X.A) (hk : k ≤ j) (hx : ∀ σ, PassesAt CX X σ (E σ)) (ha : PA X (e :: es) t) (hg : Gl X x := by rfl) (hdb : (x == ("__debug__" : Str)) = false := by decide)
    (he : starEach (e :: es) X.env = (false, eval e X.env) :: starEach es X.env := by rfl) (hpl : (backTo pos (starEach es X.env)).any (·.1) = false := by rfl) :
    PE X (.Call (.Name x p) (e :: es) [] pos) (tCallS sp E t) := by
  refine ⟨fun pins s σ H Q I h => ?_⟩
  obtain ⟨f, fd, ps, F, g, kp, b⟩ := c
  exact (pe_callS F (hr.mono hk) hg g kp b hx ha hdb he hpl).run pins s σ H Q I h
end

section
variable {X : Cx}
/-- a module's value, whatever token it bears -/
theorem pe_gx {x : Str} {v : V} {pos : Pos} (hg : Gl X x) (h : ∃ u, X.mg x = some u ∧ RelV v u) (hd : (x == ("__debug__" : Str)) = false := by decide) : PE X (.Name x pos) (tC v) := by
  obtain ⟨u, hm, r⟩ := h
  exact pe_glob hg hm r hd
end
section
variable {X : Cx}
/-- a class, a def, as a value -/
theorem pe_gr {x : Str} {a : Addr} {pos : Pos} (hg : Gl X x) (h : X.mg x = some (.ref a)) (hd : (x == ("__debug__" : Str)) = false := by decide) : PE X (.Name x pos) (tC (.ref a)) := pe_glob hg h rfl hd
end
/-! words -/
def Wd (l : List Nat) : Prop := 1 ≤ l.length ∧ l.length ≤ 300 ∧ ∀ c ∈ l, 97 ≤ c ∧ c ≤ 122
instance (l : List Nat) : Decidable (Wd l) := by unfold Wd; exact inferInstance
theorem Wd.ok {l : List Nat} (h : Wd l) : Ok l := fun c hc => by have := h.2.2 c hc; omega
theorem Wd.sz {l : List Nat} (h : Wd l) : l.length ≤ 100000 := Nat.le_trans h.2.1 (by decide)
/-- a thing of a known kind; b: whether it is a word -/
def Th (K : PySem.W.Frag) (H : Hp) (v : V) (b : Bool) : Prop :=
  (∃ l : List Nat, v = tv l ∧ l.length ≤ 100000 ∧ b = decide (Wd l)) ∨ (b = false ∧ ∃ t : String, TyX K H v (.type t) ∧ kitB t "str" = some false)
theorem Th.word {K : PySem.W.Frag} {H : Hp} {l : List Nat} (h : Wd l) : Th K H (tv l) true := .inl ⟨l, rfl, h.sz, (decide_eq_true h).symm⟩
theorem Th.get {K : PySem.W.Frag} {H : Hp} {v : V} (h : Th K H v true) : ∃ l, v = tv l ∧ Wd l := by
  rcases h with ⟨l, e, _, b⟩ | ⟨b, _⟩
  · exact ⟨l, e, of_decide_eq_true b.symm⟩
  · cases b
/-- what was put down newly -/
theorem same_upd {H : Hp} {p : Addr} {o : HO} (h : H p = none) : Same H (upd H p o) := fun b x e => by
  rw [upd_ne (ne_of_none e h)]
  exact e
theorem Same.mut {H H' : Hp} {p : Addr} {o : HO} (e : Same H H') (h : H p = none) : Same H (upd H' p o) := fun a u ha => by
  rw [upd_ne (ne_of_none ha h)]
  exact e a u ha
theorem tyx_same {K : PySem.W.Frag} {H H' : Hp} {v : V} {t : Value} (e : Same H H') (h : TyX K H v t) : TyX K H' v t := by
  cases h with
  | base b =>
    cases b with
    | non => exact .base .non
    | bl y => exact .base (.bl y)
    | int i => exact .base (.int i)
    | str y => exact .base (.str y)
    | flt y => exact .base (.flt y)
    | lst ea => exact .base (.lst (e _ _ ea))
    | frz ea => exact .base (.frz (e _ _ ea))
    | tup ea => exact .base (.tup (e _ _ ea))
    | dK ea => exact .base (.dK (e _ _ ea))
    | dT ea => exact .base (.dT (e _ _ ea))
    | ins ea cl ha hn htk hm => exact .base (.ins (e _ _ ea) cl ha hn htk hm)
  | byt b => exact .byt b
  | set ea => exact .set (e _ _ ea)
  | kList a c => exact .kList a c
  | kTuple a c => exact .kTuple a c
  | kDict a c => exact .kDict a c
  | fTuple ea => exact .fTuple (e _ _ ea)
  | fDict ea => exact .fDict (e _ _ ea)
theorem Th.same {K : PySem.W.Frag} {H H' : Hp} {v : V} {b : Bool} (e : Same H H') (h : Th K H v b) : Th K H' v b := by
  rcases h with h | ⟨h1, t, h2, h3⟩
  · exact .inl h
  · exact .inr ⟨h1, t, tyx_same e h2, h3⟩
/-! promises -/
def spIsWord (K : PySem.W.Frag) : Sp := fun vs H Q _ => ∃ v b, vs = [v] ∧ Th K H v b ∧ ∀ H', Same H H' → Q (.bl b) H'
/-- a def that refuses what is no word as its first argument, n more arguments -/
def spW (K : PySem.W.Frag) (C : Addr) (n : Nat) (body : List Nat → List V → Hp → VK → XK → Prop) : Sp := fun vs H Q E => ∃ v b rest, vs = v :: rest ∧ rest.length = n ∧ Th K H v b ∧
  (b = false → ∀ H', Same H H' → E (.ref C) none H') ∧ (∀ l, b = true → v = tv l → Wd l → body l rest H Q E)
def spNeed (K : PySem.W.Frag) (C : Addr) : Sp := spW K C 0 fun _ _ H Q _ => ∀ H', Same H H' → Q .non H'
/-- how a caller with a word says it -/
theorem spW.yes {K : PySem.W.Frag} {C : Addr} {n : Nat} {body : List Nat → List V → Hp → VK → XK → Prop} {l : List Nat} {rest : List V} {H : Hp} {Q : VK} {E : XK} (h : Wd l) (hn : rest.length = n) (q : body l rest H Q E) : spW K C n body (tv l :: rest) H Q E :=
  ⟨tv l, true, rest, rfl, hn, .word h, (fun e => nomatch e), fun l' _ e _ => by
    have z := tv_inj e
    subst z
    exact q⟩
/-- turnings, as all say it -/
def turn (l : List Nat) (k : Nat) : List Nat := l.drop k ++ l.take k
def turns (l : List Nat) : List (List Nat) := (List.range l.length).map (turn l)
/-- a new list of texts is told -/
def newT (ls : List (List Nat)) (H : Hp) (Q : VK) : Prop := ∀ p H', H p = none → Same H H' → H' p = some (.lst (tvs ls)) → Q (.ref p) H'
def spTurnings (K : PySem.W.Frag) (C : Addr) : Sp := spW K C 0 fun l _ H Q _ => newT (turns l) H Q
def spTurned (K : PySem.W.Frag) (C : Addr) : Sp := spW K C 1 fun l rest H Q _ => ∃ k : Int, rest = [.int k] ∧ ∀ H', Same H H' → Q (tv (turn l (k % l.length).toNat)) H'
/-! the law's own -/
def spCellAt (K : PySem.W.Frag) : Sp := fun vs H Q _ => ∃ (a : Addr) (ns : List Int) (k : Int), vs = [.ref a, .int k] ∧ SqL K H a (ns.map V.int) ∧ 0 ≤ k ∧ k < 1000 ∧ ∀ i : Int, Q (.int i) H
def spMixed : Sp := fun vs H Q _ => ∃ c k : Int, vs = [.int c, .int k] ∧ ∀ i : Int, 0 ≤ i → i < 2147483399 → Q (.int i) H
/-- signs a to z, some -/
def Sg (l : List Nat) : Prop := ∀ c ∈ l, 97 ≤ c ∧ c ≤ 122
def spSigns : Sp := fun vs H Q _ => ∃ c : Int, vs = [.int c] ∧ ∀ l H', Same H H' → 1 ≤ l.length → l.length ≤ 26 → Sg l → Q (tv l) H'
def spDrawn : Sp := fun vs H Q _ => ∃ (c : Int) (s : List Nat) (n : Nat), vs = [.int c, tv s, .int n] ∧ 1 ≤ s.length ∧ s.length ≤ 26 ∧ Sg s ∧ n ≤ 1000 ∧ ∀ l H', Same H H' → l.length = n → Sg l → Q (tv l) H'
def spWoven : Sp := fun vs H Q _ => ∃ (s : List Nat) (n : Nat), vs = [tv s, .int n] ∧ 1 ≤ s.length ∧ s.length ≤ 26 ∧ Sg s ∧ 1 ≤ n ∧ n ≤ 1000 ∧ ∀ l H', Same H H' → 1 ≤ l.length → l.length ≤ n → Sg l → Q (tv l) H'
def spWord : Sp := fun vs H Q _ => ∃ (c : Int) (n : Nat), vs = [.int c, .int n] ∧ 1 ≤ n ∧ n ≤ 300 ∧ ∀ l H', Same H H' → Wd l → l.length ≤ n → Q (tv l) H'
def spLTurnings : Sp := fun vs H Q _ => ∃ l : List Nat, vs = [tv l] ∧ l.length ≤ 1000 ∧ newT (turns l) H Q
/-- less than each of its other turnings -/
def early (l : List Nat) : Bool := (turns l).tail.all fun o => decide (l < o)
def spLEarly : Sp := fun vs H Q _ => ∃ l : List Nat, vs = [tv l] ∧ l.length ≤ 1000 ∧ Ok l ∧ ∀ H', Same H H' → Q (.bl (early l)) H'
def spNoWord (K : PySem.W.Frag) : Sp := fun vs H Q _ => ∃ m : Int, vs = [.int m] ∧ ∀ v H', Same H H' → Th K H' v false → Q v H'
/-! comprehensions: what is made so far -/
def LcP (H1 : Hp) (D : Addr) (Pv : Nat → List V → Prop) (i : Nat) (H : Hp) : Prop := H1 D = none ∧ ∃ acc, Same H1 H ∧ H D = some (.lst acc) ∧ acc.length ≤ i ∧ Pv i acc
section
variable {H1 H H4 : Hp} {D : Addr} {Pv : Nat → List V → Prop} {i : Nat} {acc : List V} {y : V}
theorem lcp_start (h : H1 D = none) (p : Pv 0 []) : LcP H1 D Pv 0 (upd H1 D (.lst [])) := ⟨h, [], same_upd h, upd_same, Nat.le_refl _, p⟩
theorem lcp_put (h : H1 D = none) (e : Same H1 H) (hD : H D = some (.lst acc)) (hl : acc.length ≤ i) (hi : i < 100000) (e4 : Same H H4) (p : Pv (i + 1) (acc ++ [y])) :
    ∃ acc, H4 D = some (.lst acc) ∧ acc.length < sizeLine ∧ LcP H1 D Pv (i + 1) (upd H4 D (.lst (acc ++ [y]))) :=
  ⟨acc, e4 D _ hD, bigL (by omega), h, acc ++ [y], Same.mut (e.trans e4) h, upd_same, by rw [List.length_append]; exact Nat.add_le_add hl (Nat.le_refl 1), p⟩
theorem lcp_skip (h : H1 D = none) (e : Same H1 H) (hD : H D = some (.lst acc)) (hl : acc.length ≤ i) (e4 : Same H H4) (p : Pv (i + 1) acc) : LcP H1 D Pv (i + 1) H4 :=
  ⟨h, acc, e.trans e4, e4 D _ hD, Nat.le_succ_of_le hl, p⟩
end
theorem walk_T (l : List Nat) : Walk (Its (T l)) l.length (fun _ => True) (fun i H v H' => H' = H ∧ ∃ c, l[i]? = some c ∧ v = tv [c]) := by
  have w := walk_str (z := T l)
  have e : (T l).cps.size = l.length := T_len l
  rw [e] at w
  refine w.mono (fun _ h => h) fun i H x H' _ _ ⟨e1, c, e2, e3⟩ => ⟨e1, c, ?_, e3⟩
  have : (T l).cps[i]? = l[i]? := by simp [T]
  rw [← this]
  exact e2
theorem lt_one (a b : Nat) : (([a] : List Nat) < [b]) ↔ a < b := by simp [List.cons_lt_cons_iff]
/-- a comprehension without a test -/
theorem keepAll {σ : L2.St} {H : Hp} {A B : Hp → Prop} (h : A H) : tYes σ H fun b H3 => if b = true then A H3 else B H3 := by
  show if true = true then A H else B H
  rw [if_pos rfl]
  exact h
/-! lists of single signs -/
def Sign1 (x : List Nat) : Prop := ∃ c, x = [c] ∧ 97 ≤ c ∧ c ≤ 122
theorem flat_one : ∀ {ls : List (List Nat)}, (∀ x ∈ ls, Sign1 x) → ls.flatten.length = ls.length ∧ Sg ls.flatten
  | [], _ => ⟨rfl, fun c hc => by simp at hc⟩
  | x :: r, h => by
    obtain ⟨i1, i2⟩ := flat_one (ls := r) fun y hy => h y (List.mem_cons_of_mem _ hy)
    obtain ⟨c, rfl, h1, h2⟩ := h x List.mem_cons_self
    refine ⟨by simp [i1], fun d hd => ?_⟩
    rw [List.flatten_cons] at hd
    rcases List.mem_append.mp hd with g | g
    · have : d = c := by simpa using g
      subst this
      exact ⟨h1, h2⟩
    · exact i2 d g
theorem sorted_one {ys : List Str} {ls : List (List Nat)} (p : ys.Perm (ls.map T)) (h : ∀ x ∈ ls, Sign1 x) : ∃ ls' : List (List Nat), ys.map V.str = tvs ls' ∧ ls'.length = ls.length ∧ ∀ x ∈ ls', Sign1 x := by
  refine ⟨ys.map (·.cps.toList), ?_, ?_, fun x hx => ?_⟩
  · show _ = (ys.map (·.cps.toList)).map tv
    rw [List.map_map]
    refine List.map_congr_left fun y _ => ?_
    show V.str y = V.str (T y.cps.toList)
    rw [T_of]
  · rw [List.length_map, p.length_eq, List.length_map]
  · obtain ⟨y, hy, rfl⟩ := List.mem_map.mp hx
    obtain ⟨z, hz, e⟩ := List.mem_map.mp (p.mem_iff.mp hy)
    rw [← e, T_cps]
    exact h z hz
theorem signs_one (l : List Nat) (h : Sg l) : ∀ x ∈ l.map (fun c => [c]), Sign1 x := fun x hx => by
  obtain ⟨c, hc, rfl⟩ := List.mem_map.mp hx
  exact ⟨c, rfl, h c hc⟩
theorem at_some {α : Type} {xs : List α} {j : Int} (h0 : 0 ≤ j) (h1 : j < (xs.length : Nat)) : ∃ v ∈ xs, atI xs j = some v := by
  obtain ⟨k, rfl⟩ : ∃ k : Nat, j = (k : Int) := ⟨j.toNat, by omega⟩
  have hk : k < xs.length := by omega
  exact ⟨xs[k], List.getElem_mem hk, atI_nat (List.getElem?_eq_getElem hk)⟩
theorem at_neg1 {α : Type} {xs : List α} (h : 1 ≤ xs.length) : ∃ v ∈ xs, atI xs (-1) = some v := by
  have hne : xs ≠ [] := fun e => by rw [e] at h; simp at h
  have e := List.dropLast_concat_getLast hne
  refine ⟨xs.getLast hne, List.getLast_mem hne, ?_⟩
  have z := atI_last xs.dropLast (xs.getLast hne)
  rw [e] at z
  exact z
theorem Sg.app {a b : List Nat} (h : Sg a) (k : Sg b) : Sg (a ++ b) := fun c hc => by
  rcases List.mem_append.mp hc with z | z
  · exact h c z
  · exact k c z
theorem Sg.sub {a b : List Nat} (h : Sg b) (k : ∀ c ∈ a, c ∈ b) : Sg a := fun c hc => h c (k c hc)
theorem Sg.cut {a : List Nat} (h : Sg a) (lo hi : Option Int) : Sg (cutL a lo hi) := h.sub fun c hc => List.mem_of_mem_drop (List.mem_of_mem_take hc)
theorem draw7 {i n : Int} (h0 : 0 ≤ i) (hn : 0 < n) : 0 ≤ i / 7 % n ∧ i / 7 % n < n := ⟨Int.emod_nonneg _ (by omega), Int.emod_lt_of_pos _ hn⟩
/-- the refusals' classes, as isinstance asks them: cN is NoWord -/
structure Er6 (K : PySem.W.Frag) (mg : Str → Option Value) (cW cN cS cC cM cR cT : Addr) : Prop where
  g_WordError : mg "WordError" = some (.ref cW)
  g_NoWord : mg "NoWord" = some (.ref cN)
  g_NoSigns : mg "NoSigns" = some (.ref cS)
  g_NoCount : mg "NoCount" = some (.ref cC)
  g_TooMany : mg "TooMany" = some (.ref cM)
  g_NoRing : mg "NoRing" = some (.ref cR)
  g_Twice : mg "Twice" = some (.ref cT)
  e : ExcC K cN
  i_N : PySem.W.kitOne K (.ref cN) (.ref cN) = some true
  i_S : PySem.W.kitOne K (.ref cN) (.ref cS) = some false
  i_C : PySem.W.kitOne K (.ref cN) (.ref cC) = some false
  i_M : PySem.W.kitOne K (.ref cN) (.ref cM) = some false
  i_R : PySem.W.kitOne K (.ref cN) (.ref cR) = some false
  i_T : PySem.W.kitOne K (.ref cN) (.ref cT) = some false
  i_V : PySem.W.kitOne K (.ref cN) (.type "ValueError") = some true
  x_W : PySem.W.exmOne K (.ref cN) (.ref cW) = some true
def spMark (cN : Addr) : Sp := fun vs H Q _ => ∃ a : Addr, vs = [.ref a] ∧ H a = some (ExV (.ref cN) a) ∧ ∀ H', Same H H' → Q (tv [119, 111, 114, 100]) H'
def spRefused (K : PySem.W.Frag) : Sp := fun vs H Q _ => ∃ (i : Int) (v : V), vs = [.int i, v] ∧ Th K H v false ∧ ∀ H', Same H H' → Q (.bl true) H'
def spRight : Sp := fun vs H Q _ => ∃ c : Int, vs = [.int c] ∧ ∀ H', Same H H' → Q (.bl true) H'
def spLaw (K : PySem.W.Frag) : Sp := fun vs H Q _ => ∃ (a : Addr) (ns : List Int), vs = [.ref a] ∧ SqL K H a (ns.map V.int) ∧ ns.length ≤ 63 ∧ ∀ H', Q (.bl true) H'
/-! what isinstance says of an own class, by what k_is finds -/
theorem kit_self {K : PySem.W.Frag} {C : Addr} : PySem.W.kitOne K (.ref C) (.ref C) = some true := by
  unfold PySem.W.kitOne
  rw [if_pos (by simp)]
theorem kit_other {K : PySem.W.Frag} {C D : Addr} (h1 : PySem.W.subIn K (.ref C) (.ref C) = some true) (hd : PySem.W.hasDictIn K D = true) (ht : PySem.W.typeIn K (.ref D) = some (.type "type")) (h : PySem.W.subIn K (.ref C) (.ref D) = some false) : PySem.W.kitOne K (.ref C) (.ref D) = some false := by
  have ne : ¬ (Value.ref C == Value.ref D) = true := fun e => by
    have e' : C = D := Value.ref.inj (beq_iff_eq.mp e)
    rw [e'] at h1
    rw [e', h1] at h
    cases h
  unfold PySem.W.kitOne
  rw [if_neg ne]
  obtain ⟨cd, hc, _⟩ := PySem.W.any_some hd
  have e2 : ((PySem.W.clsIn K D).isSome && PySem.W.typeIn K (.ref D) == some (.type "type")) = true := by rw [hc, ht] <;> rfl
  show (if _ = true then PySem.W.subIn K (.ref C) (.ref D) else none) = some false
  rw [if_pos e2]
  exact h
theorem kit_value {K : PySem.W.Frag} {C : Addr} (h : PySem.W.subIn K (.ref C) (.type "ValueError") = some true) : PySem.W.kitOne K (.ref C) (.type "ValueError") = some true := by
  unfold PySem.W.kitOne
  rw [if_neg (by intro e; cases (beq_iff_eq.mp e))]
  show (if PySem.W.kitMeta "ValueError" = true then PySem.W.subIn K (.ref C) (.type "ValueError") else none) = some true
  rw [if_pos (by decide +kernel)]
  exact h
/-! the least of some texts -/
def minT : List (List Nat) → List Nat
  | [] => []
  | x :: ys => lstT x ys
theorem lstT_mem : ∀ (ys : List (List Nat)) (x : List Nat), lstT x ys ∈ x :: ys
  | [], x => by simp [lstT]
  | y :: r, x => by
    have h := lstT_mem r (if y < x then y else x)
    have e : lstT x (y :: r) = lstT (if y < x then y else x) r := rfl
    rw [e]
    rcases List.mem_cons.mp h with z | z
    · rw [z]
      by_cases g : y < x
      · rw [if_pos g]; exact List.mem_cons_of_mem _ List.mem_cons_self
      · rw [if_neg g]; exact List.mem_cons_self
    · exact List.mem_cons_of_mem _ (List.mem_cons_of_mem _ z)
theorem minT_mem {ls : List (List Nat)} (h : ls ≠ []) : minT ls ∈ ls := by
  cases ls with
  | nil => exact absurd rfl h
  | cons x ys => exact lstT_mem ys x
def rMinL (K : PySem.W.Frag) : List V → Hp → VK → Prop := fun vs H Q => ∃ (a : Addr) (ls : List (List Nat)), vs = [V.ref a] ∧ SqL K H a (tvs ls) ∧ ls ≠ [] ∧ Q (tv (minT ls)) H
theorem cr_minL {X : Cx} (hc : X.calm = true) (hu : X.A.units + 64 < cLine) : CallR X (.builtin "min") (rMinL X.K) := fun pins s σ H vs us Q I r ⟨a, ls, e, hs, hne, q⟩ => by
  cases ls with
  | nil => exact absurd rfl hne
  | cons x ys => exact cr_minT hc hu pins s σ H vs us Q I r ⟨a, x, ys, e, hs, q⟩
theorem turns_ne {l : List Nat} (h : Wd l) : turns l ≠ [] := fun e => by
  have := congrArg List.length e
  simp [turns] at this
  have := h.1
  simp_all
theorem turns_len (l : List Nat) : (turns l).length = l.length := by simp [turns]
def spLeastTurn (K : PySem.W.Frag) (C : Addr) : Sp := spW K C 0 fun l _ H Q _ => ∀ H', Same H H' → Q (.int ((turns l).idxOf (minT (turns l)) : Nat)) H'
def spLeastForm (K : PySem.W.Frag) (C : Addr) : Sp := spW K C 0 fun l _ H Q _ => ∀ H', Same H H' → Q (tv (minT (turns l))) H'
def stepsV (l m : List Nat) : V := if m ∈ turns l then .int ((turns l).idxOf m : Nat) else .non
def spSteps (K : PySem.W.Frag) (C : Addr) : Sp := fun vs H Q E => ∃ v u b d, vs = [v, u] ∧ Th K H v b ∧ Th K H u d ∧ ((b && d) = false → ∀ H', Same H H' → E (.ref C) none H') ∧
  (∀ l m, (b && d) = true → v = tv l → u = tv m → Wd l → Wd m → ∀ H', Same H H' → Q (stepsV l m) H')
theorem idx_at {ls : List (List Nat)} {w : List Nat} (h : w ∈ ls) : atI (tvs ls) ((ls.idxOf w : Nat) : Int) = some (tv w) := by
  refine atI_nat ?_
  rw [List.getElem?_map, (idx_first ls w h).1]
  rfl
theorem ok_turns {l : List Nat} (h : Ok l) : ∀ x ∈ turns l, Ok x := fun x hx c hc => by
  obtain ⟨k, _, rfl⟩ := List.mem_map.mp hx
  rcases List.mem_append.mp hc with z | z
  · exact h c (List.mem_of_mem_drop z)
  · exact h c (List.mem_of_mem_take z)
end Rw
namespace Rk
open PySem PySem.Spec PyProof.Rows L2 Rw
def topS (i : Nat) : Stmt := PySem.Challenge.pw_ringword_k15_whole_in_order.main.body.getD i (.Pass ⟨0, 0, 0, 0⟩)
/-- the built-ins that the text calls, and its constants -/
structure Bt (mg : Str → Option Value) : Prop where
  m_len : mg "len" = none
  m_range : mg "range" = none
  m_sorted : mg "sorted" = none
  m_min : mg "min" = none
  m_max : mg "max" = none
  m_all : mg "all" = none
  m_isinstance : mg "isinstance" = none
  m_list : mg "list" = none
  m_tuple : mg "tuple" = none
  m_str : mg "str" = none
  m_bool : mg "bool" = none
  m_zip : mg "zip" = none
  m_enumerate : mg "enumerate" = none
  m_ValueError : mg "ValueError" = none
  m_sum : mg "sum" = none
  m_set : mg "set" = none
  m_dict : mg "dict" = none
  m_int : mg "int" = none
  g_LONGEST_WORD : ∃ u, mg "LONGEST_WORD" = some u ∧ RelV (.int 300) u
/-- the class of the refusals -/
structure Er1 (K : PySem.W.Frag) (mg : Str → Option Value) (cN : Addr) : Prop where
  g_NoWord : mg "NoWord" = some (.ref cN)
  x_NoWord : PySem.W.excIn K cN [.type "ValueError", .type "Exception", .type "BaseException", .type "object"] "ValueError.__new__" = true
  k_NoWord : PySem.W.keepIn K (.ref cN) = true
  b_NoWord : PySem.W.subIn K (.ref cN) (.type "BaseException") = some true
  t_NoWord : PySem.W.typeIn K (.ref cN) = some (.type "type")
end Rk
namespace Rk
open PySem PySem.Spec PyProof.Rows L2 Rw
abbrev s_is_word : Stmt := topS 8
abbrev n_is_word : List Str := ["thing", "sign"]
abbrev p_is_word : List Str := ["thing"]
theorem sc_is_word : FnScope n_is_word p_is_word (defScope s_is_word) := ⟨rfl, rfl, rfl, by decide +kernel, rfl, by decide +kernel, by decide +kernel⟩
theorem wd_no1 {l : List Nat} (h : ¬ (1 : Int) ≤ (l.length : Nat)) : decide (Wd l) = false := decide_eq_false fun z => h (by have := z.1; omega)
theorem wd_no2 {l : List Nat} (h : ¬ ((l.length : Nat) : Int) ≤ 300) : decide (Wd l) = false := decide_eq_false fun z => h (by have := z.2.1; omega)
def isLet (c : Nat) : Bool := decide (97 ≤ c) && decide (c ≤ 122)
theorem wd_all {l : List Nat} (h1 : (1 : Int) ≤ (l.length : Nat)) (h2 : ((l.length : Nat) : Int) ≤ 300) : (l.map isLet).all id = decide (Wd l) := by
  rw [Bool.eq_iff_iff, decide_eq_true_eq, List.all_map, List.all_eq_true]
  constructor
  · intro h
    refine ⟨by omega, by omega, fun c hc => ?_⟩
    have := h c hc
    simpa [isLet] using this
  · intro h c hc
    have := h.2.2 c hc
    simpa [isLet] using this
section
variable {P : Program} {w : World} {K : PySem.W.Frag} {mg : Str → Option Value} {base : Heap} (B : Bt mg)
include B
theorem ok_is_word (D : Dfn K mg "is_word" s_is_word p_is_word) : Cal CX0 P w K mg base 1 "is_word" (spIsWord K) := by
  refine D.cal fun f fd F => F.ok sc_is_word (fun vs H Q E h => ?_) (fun cdv A outer s H vs Q E hr h => ?_)
  · obtain ⟨v, b, rfl, _⟩ := h
    rfl
  · obtain ⟨v, b, rfl, hv, q⟩ := h
    refine ⟨_, (pss_cons (ps_if (pt_not (pt_val (pe_callB call_isi (by rfl) B.m_isinstance (by decide +kernel) (pa_cons (pv 0) (pa_cons (pe_bltn (v := .ty "str") (u := .type "str") rfl B.m_str (by decide +kernel) rfl) pa_nil))))) (pss_one (ps_ret pe_bl)) pss_nil)
      (pss_cons (ps_if (pt_not (pt_chain op_le op_le pe_int (pe_callB call_lenT (by rfl) B.m_len PySem.boot_len (pa_cons (pv 0) pa_nil)) (pe_gx rfl B.g_LONGEST_WORD))) (pss_one (ps_ret pe_bl)) pss_nil)
      (pss_one (ps_ret (pe_callB (cr_all rfl) (by rfl) B.m_all (by decide +kernel) (pa_cons (pe_lc (own := [("sign", 1)]) rfl sc_is_word.nd (pi_str (pv 0)) (blkOk_by (own := [("sign", 1)]) (N := n_is_word) (sc := defScope s_is_word) (by decide +kernel)) (fun _ _ _ _ _ => (pg_name (i := 1) sc_is_word.nd rfl (Or.inl rfl))) (fun _ _ _ _ _ => pts_nil) (fun _ _ _ _ _ => (pe_chain op_leT op_leT pe_str (pv 1) pe_str))) pa_nil)))))), ?_⟩
    rcases hv with ⟨l, rfl, hz, rfl⟩ | ⟨rfl, t, ht, hk⟩
    · refine ⟨_, rfl, _, _, _, _, true, rfl, .ty "str", .base (.str _), kit_ty (by decide +kernel), true, rfl, ?_⟩
      refine iteF ?_
      refine ⟨_, rfl, l, rfl, hz, 1, _, rfl, rfl, _, rfl, ite2 (fun h1 => ?_) (fun h1 => ?_)⟩
      · have h1 := of_decide_eq_true h1
        refine ⟨_, _, rfl, rfl, _, rfl, ite2 (fun h2 => ?_) (fun h2 => ?_)⟩
        · rw [wd_no2 (by simpa using h2)] at q
          exact q H (Same.refl H)
        · have h2 : ((l.length : Nat) : Int) ≤ 300 := by simpa using h2
          refine ⟨_, rfl, T l, rfl, fun Dl hD => ?_⟩
          refine lc_it (walk_T l) (LcP H Dl fun i acc => acc = (l.take i).map fun c => V.bl (isLet c)) (lcp_start hD rfl) (fun _ _ _ _ => trivial) ?_ ?_
          · rintro i x H2 H2' hi ⟨_, acc, e, hD2, hl, rfl⟩ ⟨rfl, c, hc, rfl⟩
            have step : (l.take (i + 1)).map (fun c => V.bl (isLet c)) = (l.take i).map (fun c => V.bl (isLet c)) ++ [V.bl (isLet c)] := by
              rw [List.take_add_one, hc, List.map_append]
              rfl
            refine ⟨rfl, keepAll ?_⟩
            refine ⟨_, rfl, [97], [c], rfl, rfl, _, rfl, ite2 (fun h => ?_) (fun h => ?_)⟩
            · have e1 : 97 ≤ c := by simpa [lt_one] using h
              refine ⟨[c], [122], rfl, rfl, lcp_put hD e hD2 hl (by omega) (Same.refl _) ?_⟩
              show _ ++ [V.bl (!decide (([122] : List Nat) < [c]))] = _
              rw [step]
              have : isLet c = !decide (([122] : List Nat) < [c]) := by
                by_cases g : 122 < c
                · have g' : ¬ c ≤ 122 := by omega
                  simp [isLet, lt_one, e1, g, g']
                · have g' : c ≤ 122 := by omega
                  simp [isLet, lt_one, e1, g, g']
              rw [this]
            · have e1 : ¬ 97 ≤ c := by simpa [lt_one] using h
              refine lcp_put hD e hD2 hl (by omega) (Same.refl _) ?_
              show _ ++ [V.bl false] = _
              rw [step]
              have : isLet c = false := by simp [isLet, e1]
              rw [this]
          · rintro H2 ⟨_, acc, e, hD2, _, rfl⟩
            refine ⟨Dl, l.map isLet, rfl, .inl (.inl ?_), ?_⟩
            · rw [hD2, List.take_length, List.map_map]
              rfl
            · rw [wd_all h1 h2]
              exact q H2 e
      · rw [wd_no1 (by simpa using h1)] at q
        exact ⟨false, rfl, iteT (q H (Same.refl H))⟩
    · refine ⟨_, rfl, _, _, _, _, false, rfl, .ty "str", ht, kit_ty hk, false, rfl, ?_⟩
      exact q H (Same.refl H)
end
end Rk
namespace Rk
open PySem PySem.Spec PyProof.Rows L2 Rw
abbrev s_need_word : Stmt := topS 9
abbrev n_need_word : List Str := ["thing"]
abbrev p_need_word : List Str := ["thing"]
theorem sc_need_word : FnScope n_need_word p_need_word (defScope s_need_word) := ⟨rfl, rfl, rfl, by decide +kernel, rfl, by decide +kernel, by decide +kernel⟩
section
variable {P : Program} {w : World} {K : PySem.W.Frag} {mg : Str → Option Value} {base : Heap} {cN : Addr} (B : Bt mg) (R : Er1 K mg cN)
include B R
theorem ok_need_word (D : Dfn K mg "need_word" s_need_word p_need_word) (c_is_word : Cal CX0 P w K mg base 1 "is_word" (spIsWord K)) : Cal (L2.CX P w) P w K mg base 2 "need_word" (spNeed K cN) := by
  refine D.cal fun f fd F => F.okX sc_need_word (fun vs H Q E h => ?_) (fun cdv A outer s H vs Q E hr h => ?_)
  · obtain ⟨v, b, rest, rfl, hr, _⟩ := h
    cases rest with
    | nil => rfl
    | cons _ _ => cases hr
  · obtain ⟨v, b, rest, rfl, hrest, hv, hno, hyes⟩ := h
    cases List.eq_nil_of_length_eq_zero hrest
    refine ⟨_, (pss_one (ps_if (pt_not (pt_val (pe_cal c_is_word hr (by decide) pass0 (pa_cons (pv 0) pa_nil)))) (pss_one (ps_raise rfl (takes_of rfl rfl rfl rfl) (pmk_ownA PySem.F.excBase_ValueError R.x_NoWord R.g_NoWord R.k_NoWord (raises_own R.b_NoWord R.t_NoWord) (by rfl) (pa_cons (pe_joined (PJ.cons pe_str (PJ.cons (pe_fmt (pe_gx rfl B.g_LONGEST_WORD)) (PJ.cons pe_str PJ.nil)))) pa_nil)))) pss_nil)), ?_⟩
    refine ⟨v, rfl, v, b, rfl, hv, fun H1 e1 => ⟨b, rfl, ?_⟩⟩
    cases b with
    | true =>
      refine iteF ?_
      obtain ⟨l, rfl, hl⟩ := hv.get
      exact hyes l rfl rfl hl H1 e1
    | false =>
      refine iteT ?_
      refine ⟨_, rfl, by decide +kernel, .inr ⟨300, rfl, by decide, _, rfl, by decide +kernel, _, rfl, by decide +kernel, ?_⟩⟩
      exact ⟨by show 1 ≤ sizeLine; decide, hno rfl H1 e1⟩
end
end Rk
namespace Rk
open PySem PySem.Spec PyProof.Rows L2 Rw
abbrev s_turnings : Stmt := topS 10
abbrev n_turnings : List Str := ["word", "place"]
abbrev p_turnings : List Str := ["word"]
theorem sc_turnings : FnScope n_turnings p_turnings (defScope s_turnings) := ⟨rfl, rfl, rfl, by decide +kernel, rfl, by decide +kernel, by decide +kernel⟩
theorem turn_step (l : List Nat) (i : Nat) : tvs ((List.range (i + 1)).map (turn l)) = tvs ((List.range i).map (turn l)) ++ [tv (turn l i)] := by
  rw [List.range_succ, List.map_append]
  exact List.map_append
theorem cut_turn (l : List Nat) (i : Nat) : cutL l (some ((0 : Int) + (i : Int))) none ++ cutL l none (some ((0 : Int) + (i : Int))) = turn l i := by
  rw [Int.zero_add, cutL_from, cutL_to]
  rfl
theorem cut_le (l : List Nat) (i : Int) (h : l.length ≤ 1000) : (cutL l (some i) none).length + (cutL l none (some i)).length ≤ 100000 := by
  have a1 := cutL_len l (some i) none
  have a2 := cutL_len l none (some i)
  omega
section
variable {P : Program} {w : World} {K : PySem.W.Frag} {mg : Str → Option Value} {base : Heap} {cN : Addr} (B : Bt mg)
include B
theorem ok_turnings (D : Dfn K mg "turnings" s_turnings p_turnings) (c_need_word : Cal (L2.CX P w) P w K mg base 2 "need_word" (spNeed K cN)) : Cal (L2.CX P w) P w K mg base 3 "turnings" (spTurnings K cN) := by
  refine D.cal fun f fd F => F.okX sc_turnings (fun vs H Q E h => ?_) (fun cdv A outer s H vs Q E hr h => ?_)
  · obtain ⟨v, b, rest, rfl, hr, _⟩ := h
    cases rest with
    | nil => rfl
    | cons _ _ => cases hr
  · obtain ⟨v, b, rest, rfl, hrest, hv, hno, hyes⟩ := h
    cases List.eq_nil_of_length_eq_zero hrest
    refine ⟨_, (pss_cons (ps_expr (pe_cal c_need_word hr (by decide) (passes_call (takes_of rfl rfl rfl rfl) fun _ _ _ _ h => h) (pa_cons (pv 0) pa_nil)))
      (pss_one (ps_ret (pe_lc (own := [("place", 1)]) rfl sc_turnings.nd (pi_range1 (by rfl) B.m_range (pa_cons (pe_callB call_lenT (by rfl) B.m_len PySem.boot_len (pa_cons (pv 0) pa_nil)) pa_nil)) (blkOk_by (own := [("place", 1)]) (N := n_turnings) (sc := defScope s_turnings) (by decide +kernel)) (fun _ _ _ _ _ => (pg_name (i := 1) sc_turnings.nd rfl (Or.inl rfl))) (fun _ _ _ _ _ => pts_nil) (fun _ _ _ _ _ => (pe_op op_addT (pe_slice sl_T (pv 0) (po_some (pv 1)) po_none) (pe_slice sl_T (pv 0) po_none (po_some (pv 1))))))))), ?_⟩
    refine ⟨v, rfl, v, b, [], rfl, rfl, hv, hno, fun l hb ev hl H1 e1 => ?_⟩
    subst hb ev
    have q := hyes l rfl rfl hl
    have hn := hl.2.1
    refine ⟨_, rfl, l, rfl, hl.sz, _, rfl, by omega, by omega, fun Dl hD => ?_⟩
    refine lc_it walk_range (LcP H1 Dl fun i acc => acc = tvs ((List.range i).map (turn l))) (lcp_start hD rfl) (fun _ _ _ _ => trivial) ?_ ?_
    · rintro i x H2 H2' hi ⟨_, acc, e, hD2, hlen, rfl⟩ ⟨rfl, rfl⟩
      have hi : i < l.length := hi
      refine ⟨rfl, keepAll ?_⟩
      refine ⟨_, rfl, _, rfl, _, rfl, l, rfl, hl.sz, _, rfl, _, rfl, _, rfl, l, rfl, hl.sz, _, _, rfl, rfl, cut_le l _ (by omega), ?_⟩
      refine lcp_put hD e hD2 hlen (by omega) (Same.refl _) ?_
      rw [turn_step, cut_turn]
    · rintro H2 ⟨_, acc, e, hD2, _, rfl⟩
      exact q Dl H2 (e1.free hD) (e1.trans e) hD2
end
end Rk
namespace Rw
open PySem PySem.Spec PyProof.Rows L2
/-- the places looked at up to n: where pieces begin, the least ending so far -/
def cutSt (l : List Nat) : Nat → List Nat × List Nat
  | 0 => ([0], l)
  | n + 1 => if l.drop (n + 1) < (cutSt l n).2 then ((cutSt l n).1 ++ [n + 1], l.drop (n + 1)) else cutSt l n
def cutsOf (l : List Nat) : List Nat := (cutSt l (l.length - 1)).1
abbrev ivs (ns : List Nat) : List V := ns.map fun n => V.int (n : Nat)
theorem tvs_app (a b : List (List Nat)) : tvs (a ++ b) = tvs a ++ tvs b := List.map_append
theorem ivs_app (a b : List Nat) : ivs (a ++ b) = ivs a ++ ivs b := List.map_append
def piecesOf (l : List Nat) : List (List Nat) := ((cutsOf l).zip ((cutsOf l).tail ++ [l.length])).map fun ab => (l.drop ab.1).take (ab.2 - ab.1)
theorem cutSt_len (l : List Nat) : ∀ n, 1 ≤ (cutSt l n).1.length ∧ (cutSt l n).1.length ≤ n + 1
  | 0 => ⟨Nat.le_refl _, Nat.le_refl _⟩
  | n + 1 => by
    obtain ⟨h1, h2⟩ := cutSt_len l n
    unfold cutSt
    by_cases g : l.drop (n + 1) < (cutSt l n).2
    · rw [if_pos g]
      show 1 ≤ ((cutSt l n).1 ++ [n + 1]).length ∧ _
      rw [List.length_append]
      exact ⟨Nat.le_add_left 1 _, Nat.succ_le_succ h2⟩
    · rw [if_neg g]
      exact ⟨h1, Nat.le_succ_of_le h2⟩
theorem cutsOf_len {l : List Nat} (h : Wd l) : 1 ≤ (cutsOf l).length ∧ (cutsOf l).length ≤ l.length := by
  have := cutSt_len l (l.length - 1)
  have := h.1
  unfold cutsOf
  omega
def spCuts (K : PySem.W.Frag) (C : Addr) : Sp := spW K C 0 fun l _ H Q _ => ∀ p H', H p = none → Same H H' → H' p = some (.lst (ivs (cutsOf l))) → Q (.ref p) H'
def spPieces (K : PySem.W.Frag) (C : Addr) : Sp := spW K C 0 fun l _ H Q _ => newT (piecesOf l) H Q
def spIsEarly (K : PySem.W.Frag) (C : Addr) : Sp := spW K C 0 fun l _ H Q _ => ∀ H', Same H H' → Q (.bl (early l)) H'
/-- rows, of anything of a known kind: b, whether it is just the list ps -/
def Rows (K : PySem.W.Frag) (H : Hp) (r : V) (ps : List (List Nat)) (b : Bool) : Prop :=
  (b = false ∧ ∃ t : String, TyX K H r (.type t) ∧ kitB t "list" = some false) ∨
  (∃ (p : Addr) (vs : List V) (bs : List Bool), r = .ref p ∧ H p = some (.lst vs) ∧ vs.length ≤ 100000 ∧ bs.length = vs.length ∧ (∀ (i : Nat) (v : V), vs[i]? = some v → ∃ c, bs[i]? = some c ∧ Th K H v c) ∧
    (bs.all id = false → b = false) ∧ (∀ ls : List (List Nat), vs = tvs ls → (∀ x ∈ ls, Wd x) → b = decide (ls = ps)))
theorem Rows.same {K : PySem.W.Frag} {H H' : Hp} {r : V} {ps : List (List Nat)} {b : Bool} (e : Same H H') (h : Rows K H r ps b) : Rows K H' r ps b := by
  rcases h with ⟨h1, t, h2, h3⟩ | ⟨p, vs, bs, h1, h2, h0, h3, h4, h5, h6⟩
  · exact .inl ⟨h1, t, tyx_same e h2, h3⟩
  · exact .inr ⟨p, vs, bs, h1, e _ _ h2, h0, h3, fun i v hv => by obtain ⟨c, q, t⟩ := h4 i v hv; exact ⟨c, q, t.same e⟩, h5, h6⟩
def spIsCutting (K : PySem.W.Frag) (C : Addr) : Sp := spW K C 1 fun l rest H Q _ => ∃ r b, rest = [r] ∧ Rows K H r (piecesOf l) b ∧ ∀ H', Same H H' → Q (.bl b) H'
theorem piece_ok {l : List Nat} (h : Ok l) : ∀ x ∈ piecesOf l, Ok x := fun x hx c hc => by
  obtain ⟨ab, _, rfl⟩ := List.mem_map.mp hx
  exact h c (List.mem_of_mem_drop (List.mem_of_mem_take hc))
theorem all_words {K : PySem.W.Frag} {H : Hp} : ∀ {vs : List V} {bs : List Bool}, bs.length = vs.length → (∀ (i : Nat) (v : V), vs[i]? = some v → ∃ c, bs[i]? = some c ∧ Th K H v c) → bs.all id = true → ∃ ls : List (List Nat), vs = tvs ls ∧ ∀ x ∈ ls, Wd x
  | [], [], _, _, _ => ⟨[], rfl, fun _ h => nomatch h⟩
  | [], _ :: _, h, _, _ => by simp at h
  | _ :: _, [], h, _, _ => by simp at h
  | v :: vs, b :: bs, h, f, a => by
    rw [List.all_cons, Bool.and_eq_true] at a
    obtain ⟨ls, e, k⟩ := all_words (vs := vs) (bs := bs) (by simpa using h) (fun i v hv => f (i + 1) v hv) a.2
    obtain ⟨c, hc, t⟩ := f 0 v rfl
    have ec : b = c := Option.some.inj hc
    have a1 : b = true := a.1
    rw [← ec, a1] at t
    obtain ⟨l, el, hl⟩ := t.get
    refine ⟨l :: ls, by rw [el, e]; rfl, fun x hx => ?_⟩
    rcases List.mem_cons.mp hx with z | z
    · rw [z]; exact hl
    · exact k x z
theorem turns_tail (l : List Nat) : cutV (tvs (turns l)) (some 1) none = tvs (turns l).tail := by
  have e : cutV (tvs (turns l)) (some ((1 : Nat) : Int)) none = (tvs (turns l)).drop 1 := cutL_from _ 1
  rw [show ((1 : Nat) : Int) = 1 from rfl] at e
  rw [e, ← List.map_drop, List.drop_one]
/-! ==, != of two lists of numbers; some texts sorted -/
theorem dp_ivs {K : PySem.W.Frag} {H : Hp} : ∀ ns : List Nat, DpAll K H (ivs ns) (ns.map fun n => .int (n : Nat))
  | [] => .nil
  | n :: r => .cons (.int _) (dp_ivs r)
theorem eqv_ivs : ∀ a b : List Nat, PyData.eqvAll (a.map fun n => .int (n : Nat)) (b.map fun n => .int (n : Nat)) = decide (a = b)
  | [], [] => rfl
  | [], _ :: _ => rfl
  | _ :: _, [] => rfl
  | x :: xs, y :: ys => by
    rw [List.map_cons, List.map_cons]
    unfold PyData.eqvAll
    rw [eqv_ivs xs ys]
    show ((((x : Nat) : Int) == ((y : Nat) : Int)) && _) = _
    have e : (((x : Nat) : Int) == ((y : Nat) : Int)) = decide (x = y) := by
      rw [Bool.eq_iff_iff, beq_iff_eq, decide_eq_true_eq]
      omega
    rw [e]
    by_cases h1 : x = y <;> by_cases h2 : xs = ys <;> simp [h1, h2]
theorem can_ivs : ∀ ns : List Nat, PyData.canLayAll0 (ns.map fun n => .int (n : Nat)) = true
  | [] => rfl
  | n :: r => by
    rw [List.map_cons]
    unfold PyData.canLayAll0
    rw [can_ivs r, Bool.and_true]
    rfl
theorem depth_ivs : ∀ ns : List Nat, PyData.depthAll (ns.map fun n => .int (n : Nat)) ≤ 1
  | [] => by decide
  | n :: r => by
    rw [List.map_cons]
    unfold PyData.depthAll
    refine Nat.max_le.mpr ⟨?_, depth_ivs r⟩
    first | decide | (show PyData.depth (.int _) ≤ 1; unfold PyData.depth; decide)
theorem shaped_ivs (ns : List Nat) : SeqAt.shaped (.list (ns.map fun n => .int (n : Nat))) = true := by
  unfold SeqAt.shaped
  rw [Bool.and_eq_true]
  constructor
  · unfold PyData.canLay0
    exact can_ivs ns
  · refine decide_eq_true ?_
    unfold PyData.depth
    have := depth_ivs ns
    omega
def rEqI (K : PySem.W.Frag) (neg : Bool) : R2 := fun x y H Q => ∃ (p q : Addr) (a b : List Nat), x = .ref p ∧ y = .ref q ∧ SqL K H p (ivs a) ∧ SqL K H q (ivs b) ∧ Q (.bl (if neg then !decide (a = b) else decide (a = b))) H
theorem eqv_nums (a b : List Nat) : PyData.eqv (.list (a.map fun n => .int (n : Nat))) (.list (b.map fun n => .int (n : Nat))) = decide (a = b) := by
  unfold PyData.eqv
  exact eqv_ivs a b
section
variable {X : Cx}
theorem op_eqI (hu : X.A.units + 64 < cLine) : OpR X (compareOp .Eq) (rEqI X.K false) := fun pins s σ H x y v u Q I rx ry ⟨p, q, a, b, e1, e2, h1, h2, k⟩ =>
  op_eqD hu pins s σ H x y v u Q I rx ry ⟨_, _, by rw [e1]; exact .lst h1 (dp_ivs a), by rw [e2]; exact .lst h2 (dp_ivs b), shaped_ivs a, shaped_ivs b, by rw [eqv_nums]; exact k⟩
theorem op_neI (hu : X.A.units + 64 < cLine) : OpR X (compareOp .NotEq) (rEqI X.K true) := fun pins s σ H x y v u Q I rx ry ⟨p, q, a, b, e1, e2, h1, h2, k⟩ =>
  op_neD hu pins s σ H x y v u Q I rx ry ⟨_, _, by rw [e1]; exact .lst h1 (dp_ivs a), by rw [e2]; exact .lst h2 (dp_ivs b), shaped_ivs a, shaped_ivs b, by rw [eqv_nums]; exact k⟩
end
theorem sorted_any {ys : List Str} {ls : List (List Nat)} (p : ys.Perm (ls.map T)) : ∃ ls' : List (List Nat), ys.map V.str = tvs ls' ∧ ls'.length = ls.length ∧ ∀ x ∈ ls', x ∈ ls := by
  refine ⟨ys.map (·.cps.toList), ?_, ?_, fun x hx => ?_⟩
  · show _ = (ys.map (·.cps.toList)).map tv
    rw [List.map_map]
    refine List.map_congr_left fun y _ => ?_
    show V.str y = V.str (T y.cps.toList)
    rw [T_of]
  · rw [List.length_map, p.length_eq, List.length_map]
  · obtain ⟨y, hy, rfl⟩ := List.mem_map.mp hx
    obtain ⟨z, hz, e⟩ := List.mem_map.mp (p.mem_iff.mp hy)
    rw [← e, T_cps]
    exact hz
theorem flat_wd {n : Nat} : ∀ {ls : List (List Nat)}, (∀ x ∈ ls, Wd x ∧ x.length ≤ n) → ls.flatten.length ≤ n * ls.length ∧ ∀ c ∈ ls.flatten, 97 ≤ c ∧ c ≤ 122
  | [], _ => ⟨Nat.zero_le _, fun c hc => by simp at hc⟩
  | x :: r, h => by
    obtain ⟨i1, i2⟩ := flat_wd (ls := r) fun y hy => h y (List.mem_cons_of_mem _ hy)
    have hx := h x List.mem_cons_self
    rw [List.flatten_cons]
    refine ⟨?_, fun c hc => ?_⟩
    · rw [List.length_append, List.length_cons, Nat.mul_succ]
      omega
    · rcases List.mem_append.mp hc with z | z
      · exact hx.1.2.2 c z
      · exact i2 c z
/-! with the written part named: within comprehensions -/
section
variable {X : Cx} {K : PySem.W.Frag}
theorem cr_minLK (hK : X.K = K) (hc : X.calm = true) (hu : X.A.units + 64 < cLine) : CallR X (.builtin "min") (rMinL K) := hK ▸ cr_minL hc hu
theorem call_isiK (hK : X.K = K) : CallR X (.builtin "isinstance") (rIsi K) := hK ▸ call_isi
theorem ix_listK (hK : X.K = K) : IxR X (rIxL K) := hK ▸ ix_list
theorem sl_listK (hK : X.K = K) : SlR X (rSlL K) := hK ▸ sl_list
theorem pe_joinTK {o e : Expr} {to te : TE} {apos pos : Pos} (hK : X.K = K) (ho : PE X o to) (he : PE X e te)
    (h1 : starEach [e] X.env = [(false, eval e X.env)] := by rfl) (h2 : attributeBase o "join" X.env (eval o X.env) = eval o X.env := by rfl) (h3 : (apos.endLine == pos.line) = true := by rfl) :
    PE X (.Call (.Attribute o "join" apos) [e] [] pos) (tM1 (rJoinT K) to te) := hK ▸ pe_joinT ho he h1 h2 h3
end
end Rw
namespace Rk
open PySem PySem.Spec PyProof.Rows L2 Rw
abbrev s_is_early : Stmt := topS 12
abbrev n_is_early : List Str := ["word", "others", "other"]
abbrev p_is_early : List Str := ["word"]
theorem sc_is_early : FnScope n_is_early p_is_early (defScope s_is_early) := ⟨rfl, rfl, rfl, by decide +kernel, rfl, by decide +kernel, by decide +kernel⟩
section
variable {P : Program} {w : World} {K : PySem.W.Frag} {mg : Str → Option Value} {base : Heap} {cN : Addr} (B : Bt mg)
include B
theorem ok_is_early (D : Dfn K mg "is_early" s_is_early p_is_early) (c_turnings : Cal (L2.CX P w) P w K mg base 3 "turnings" (spTurnings K cN)) : Cal (L2.CX P w) P w K mg base 4 "is_early" (spIsEarly K cN) := by
  refine D.cal fun f fd F => F.okX sc_is_early (fun vs H Q E h => ?_) (fun cdv A outer s H vs Q E hr h => ?_)
  · obtain ⟨v, b, rest, rfl, hr, _⟩ := h
    cases List.eq_nil_of_length_eq_zero hr
    rfl
  · obtain ⟨v, b, rest, rfl, hrest, hv, hno, hyes⟩ := h
    cases List.eq_nil_of_length_eq_zero hrest
    refine ⟨_, (pss_cons (ps_set (i := 1) sc_is_early.nd rfl (Or.inl rfl) (pe_slice sl_list (pe_cal c_turnings hr (by decide) (passes_call (takes_of rfl rfl rfl rfl) fun _ _ _ _ h => h) (pa_cons (pv 0) pa_nil)) (po_some pe_int) po_none))
      (pss_one (ps_ret (pe_callB (cr_all rfl) (by rfl) B.m_all (by decide +kernel) (pa_cons (pe_lc (own := [("other", 2)]) rfl sc_is_early.nd (pi_list (pv 1)) (blkOk_by (own := [("other", 2)]) (N := n_is_early) (sc := defScope s_is_early) (by decide +kernel)) (fun _ _ _ _ _ => (pg_name (i := 2) sc_is_early.nd rfl (Or.inl rfl))) (fun _ _ _ _ _ => pts_nil) (fun _ _ _ _ _ => (pe_cmpR op_ltT (pv 0) (pv 2) (nomark _)))) pa_nil))))), ?_⟩
    refine ⟨v, rfl, v, b, [], rfl, rfl, hv, hno, fun l hb ev hl p H1 np e1 hp => ?_⟩
    subst hb ev
    have q := hyes l rfl rfl hl
    refine ⟨1, rfl, p, tvs (turns l), rfl, SqL.of hp, fun p2 np2 => ?_⟩
    rw [turns_tail]
    have e2 := same_upd (o := .lst (tvs (turns l).tail)) np2
    refine ⟨_, rfl, p2, rfl, ⟨_, SqL.of upd_same⟩, fun Dl hD => ?_⟩
    have tl : (turns l).tail.length ≤ 300 := by
      rw [List.length_tail, turns_len]
      have := hl.2.1
      omega
    refine lc_it walk_list (LcP _ Dl fun i acc => acc = ((turns l).tail.take i).map fun o => V.bl (decide (l < o))) (lcp_start hD rfl) (fun i H3 _ ⟨_, acc, e, _, _, _⟩ => SqL.of (e _ _ upd_same)) ?_ ?_
    · rintro i x H2 H2' hi ⟨_, acc, e, hD2, hlen, rfl⟩ ⟨rfl, hx⟩
      rw [List.length_map] at hi
      rw [List.getElem?_map, List.getElem?_eq_getElem hi] at hx
      have ex : tv ((turns l).tail[i]) = x := Option.some.inj hx
      subst ex
      refine ⟨rfl, keepAll ?_⟩
      refine ⟨_, rfl, _, rfl, l, _, rfl, rfl, ?_⟩
      refine lcp_put hD e hD2 hlen (by omega) (Same.refl _) ?_
      rw [List.take_add_one, List.getElem?_eq_getElem hi, List.map_append]
      rfl
    · rintro H2 ⟨_, acc, e, hD2, _, rfl⟩
      refine ⟨Dl, (turns l).tail.map fun o => decide (l < o), rfl, SqL.of ?_, ?_⟩
      · rw [hD2, List.length_map, List.take_length, List.map_map]
        rfl
      · rw [List.all_map]
        exact q H2 ((e1.trans e2).trans e)
end
end Rk
namespace Rk
open PySem PySem.Spec PyProof.Rows L2 Rw
abbrev s_cuts : Stmt := topS 13
abbrev n_cuts : List Str := ["word", "places", "least", "place", "rest"]
abbrev p_cuts : List Str := ["word"]
theorem sc_cuts : FnScope n_cuts p_cuts (defScope s_cuts) := ⟨rfl, rfl, rfl, by decide +kernel, rfl, by decide +kernel, by decide +kernel⟩
section
variable {P : Program} {w : World} {K : PySem.W.Frag} {mg : Str → Option Value} {base : Heap} {cN : Addr} (B : Bt mg)
include B
theorem ok_cuts (D : Dfn K mg "cuts" s_cuts p_cuts) (c_need_word : Cal (L2.CX P w) P w K mg base 2 "need_word" (spNeed K cN)) : Cal (L2.CX P w) P w K mg base 3 "cuts" (spCuts K cN) := by
  refine D.cal fun f fd F => F.okX sc_cuts (fun vs H Q E h => ?_) (fun cdv A outer s H vs Q E hr h => ?_)
  · obtain ⟨v, b, rest, rfl, hr, _⟩ := h
    cases List.eq_nil_of_length_eq_zero hr
    rfl
  · obtain ⟨v, b, rest, rfl, hrest, hv, hno, hyes⟩ := h
    cases List.eq_nil_of_length_eq_zero hrest
    refine ⟨_, (pss_cons (ps_expr (pe_cal c_need_word hr (by decide) (passes_call (takes_of rfl rfl rfl rfl) fun _ _ _ _ h => h) (pa_cons (pv 0) pa_nil)))
      (pss_cons (ps_set (i := 1) sc_cuts.nd rfl (Or.inl rfl) (pe_lst (pa_cons pe_int pa_nil)))
      (pss_cons (ps_set (i := 2) sc_cuts.nd rfl (Or.inl rfl) (pv 0))
      (pss_cons (ps_for (passes_of rfl) rfl (pi_range2 (by rfl) B.m_range (pa_cons pe_int (pa_cons (pe_callB call_lenT (by rfl) B.m_len PySem.boot_len (pa_cons (pv 0) pa_nil)) pa_nil))) (pg_name (i := 3) sc_cuts.nd rfl (Or.inl rfl))
        (pss_cons (ps_set (i := 4) sc_cuts.nd rfl (Or.inl rfl) (pe_slice sl_T (pv 0) (po_some (pv 3)) po_none))
        (pss_one (ps_if (pt_cmpR op_ltT (pv 4) (pv 2) (nomark _)) (pss_cons (ps_expr (pe_bm PySem.F.plainAttrs_list PySem.F.slot_list_append PySem.F.type_list_append mt_append (pv 1) (pa_cons (pv 3) pa_nil)))
          (pss_one (ps_set (i := 2) sc_cuts.nd rfl (Or.inl rfl) (pv 4)))) pss_nil))))
      (pss_one (ps_ret (pv 1))))))), ?_⟩
    refine ⟨v, rfl, v, b, [], rfl, rfl, hv, hno, fun l hb ev hl H1 e1 => ?_⟩
    subst hb ev
    have q := hyes l rfl rfl hl
    have hn := hl.2.1
    refine ⟨(show 1 ≤ sizeLine by decide), fun p np => ?_⟩
    have npH : H p = none := e1.free np
    refine ⟨_, rfl, _, rfl, l, rfl, hl.sz, 1, ((l.length : Nat) : Int), rfl, ⟨by decide, by decide, by omega, by omega⟩, ?_⟩
    have ez : (((l.length : Nat) : Int) - 1).toNat = l.length - 1 := by omega
    rw [ez]
    refine for_range (n := l.length - 1) (fun i σ H' => ∃ y z, σ = [some (tv l), some (.ref p), some (tv (cutSt l i).2), y, z] ∧ Same H H' ∧ H' p = some (.lst (ivs (cutSt l i).1))) ?_ ?_ ?_
    · exact ⟨none, none, rfl, Same.mut e1 npH, upd_same⟩
    · rintro i σ H2 hi ⟨y, z, rfl, e2, hp⟩
      have hc := (cutSt_len l i).2
      refine ⟨_, rfl, _, rfl, _, rfl, l, rfl, hl.sz, ?_⟩
      have ej : (1 : Int) + (i : Int) = ((i + 1 : Nat) : Int) := by omega
      rw [ej, cutL_from]
      refine ⟨_, rfl, _, rfl, l.drop (i + 1), (cutSt l i).2, rfl, rfl, _, rfl, ite2 (fun h => ?_) (fun h => ?_)⟩
      · have h := of_decide_eq_true h
        have es : cutSt l (i + 1) = ((cutSt l i).1 ++ [i + 1], l.drop (i + 1)) := by
          show (if _ then _ else _) = _
          rw [if_pos h]
        refine ⟨_, rfl, .inl ⟨rfl, _, SqL.of hp⟩, _, rfl, p, _, _, rfl, rfl, hp, ?_, ?_⟩
        · rw [List.length_map]
          exact bigL (by omega)
        · rw [es]
          refine ⟨_, rfl, _, _, rfl, Same.mut e2 npH, ?_⟩
          rw [upd_same, ivs_app]
          rfl
      · have h : ¬ l.drop (i + 1) < (cutSt l i).2 := of_decide_eq_false (by simpa using h)
        have es : cutSt l (i + 1) = cutSt l i := by
          show (if _ then _ else _) = _
          rw [if_neg h]
        rw [es]
        exact ⟨_, _, rfl, e2, hp⟩
    · rintro σ H2 ⟨y, z, rfl, e2, hp⟩
      exact ⟨_, rfl, q p H2 npH e2 hp⟩
end
end Rk
namespace Rk
open PySem PySem.Spec PyProof.Rows L2 Rw
abbrev s_pieces : Stmt := topS 14
abbrev n_pieces : List Str := ["word", "starts", "ends", "start", "end"]
abbrev p_pieces : List Str := ["word"]
theorem sc_pieces : FnScope n_pieces p_pieces (defScope s_pieces) := ⟨rfl, rfl, rfl, by decide +kernel, rfl, by decide +kernel, by decide +kernel⟩
section
variable {P : Program} {w : World} {K : PySem.W.Frag} {mg : Str → Option Value} {base : Heap} {cN : Addr} (B : Bt mg)
include B
theorem ok_pieces (D : Dfn K mg "pieces" s_pieces p_pieces) (c_cuts : Cal (L2.CX P w) P w K mg base 3 "cuts" (spCuts K cN)) : Cal (L2.CX P w) P w K mg base 4 "pieces" (spPieces K cN) := by
  refine D.cal fun f fd F => F.okX sc_pieces (fun vs H Q E h => ?_) (fun cdv A outer s H vs Q E hr h => ?_)
  · obtain ⟨v, b, rest, rfl, hr, _⟩ := h
    cases List.eq_nil_of_length_eq_zero hr
    rfl
  · obtain ⟨v, b, rest, rfl, hrest, hv, hno, hyes⟩ := h
    cases List.eq_nil_of_length_eq_zero hrest
    refine ⟨_, (pss_cons (ps_set (i := 1) sc_pieces.nd rfl (Or.inl rfl) (pe_cal c_cuts hr (by decide) (passes_call (takes_of rfl rfl rfl rfl) fun _ _ _ _ h => h) (pa_cons (pv 0) pa_nil)))
      (pss_cons (ps_set (i := 2) sc_pieces.nd rfl (Or.inl rfl) (pe_op op_cat (pe_slice sl_list (pv 1) (po_some pe_int) po_none) (pe_lst (pa_cons (pe_callB call_lenT (by rfl) B.m_len PySem.boot_len (pa_cons (pv 0) pa_nil)) pa_nil))))
      (pss_one (ps_ret (pe_lc (own := [("start", 3), ("end", 4)]) (g := gTup K 2 (gCons (gName 3) (gCons (gName 4) gNil))) rfl sc_pieces.nd (pi_zip (by rfl) B.m_zip (pa_cons (pv 1) (pa_cons (pv 2) pa_nil))) (blkOk_by (own := [("start", 3), ("end", 4)]) (N := n_pieces) (sc := defScope s_pieces) (by decide +kernel)) (fun _ _ _ _ _ => (pg_tup rfl (pgs_cons (pg_name (i := 3) sc_pieces.nd rfl (Or.inl rfl)) (pgs_cons (pg_name (i := 4) sc_pieces.nd rfl (Or.inl rfl)) pgs_nil)))) (fun _ _ _ _ _ => pts_nil) (fun _ _ _ _ _ => (pe_slice sl_T (pv 0) (po_some (pv 3)) (po_some (pv 4))))))))), ?_⟩
    refine ⟨v, rfl, v, b, [], rfl, rfl, hv, hno, fun l hb ev hl p H1 np e1 hp => ?_⟩
    subst hb ev
    have q := hyes l rfl rfl hl
    obtain ⟨c1, c2⟩ := cutsOf_len hl
    have hn := hl.2.1
    refine ⟨_, rfl, 1, rfl, p, ivs (cutsOf l), rfl, SqL.of hp, fun p2 np2 => ?_⟩
    refine ⟨_, rfl, l, rfl, hl.sz, (show 1 ≤ sizeLine by decide), fun p3 np3 => ?_⟩
    have k2 := same_upd (o := .lst (cutV (ivs (cutsOf l)) (some 1) none)) np2
    have k3 := same_upd (o := .lst [V.int ((l.length : Nat) : Int)]) np3
    have ec : cutV (ivs (cutsOf l)) (some 1) none = ivs (cutsOf l).tail := by
      have e : cutV (ivs (cutsOf l)) (some ((1 : Nat) : Int)) none = (ivs (cutsOf l)).drop 1 := cutL_from _ 1
      rw [show ((1 : Nat) : Int) = 1 from rfl] at e
      rw [e, ← List.map_drop, List.drop_one]
    rw [ec] at k2 k3 ⊢
    refine ⟨p2, p3, _, _, rfl, rfl, k3 _ _ upd_same, upd_same, ?_, fun p4 np4 => ?_⟩
    · rw [List.length_map, List.length_tail]
      exact big (by show _ + 1 ≤ _; omega)
    have ee : ivs (cutsOf l).tail ++ [V.int ((l.length : Nat) : Int)] = ivs ((cutsOf l).tail ++ [l.length]) := (ivs_app (cutsOf l).tail [l.length]).symm
    rw [ee]
    have k4 := same_upd (o := .lst (ivs ((cutsOf l).tail ++ [l.length]))) np4
    have hp4 := (k2.trans (k3.trans k4)) _ _ hp
    refine ⟨_, rfl, _, rfl, p, p4, _, _, rfl, SqL.of hp4, SqL.of upd_same, fun Dl hD => ?_⟩
    have hlen2 : ((cutsOf l).tail ++ [l.length]).length = (cutsOf l).length := by
      rw [List.length_append, List.length_tail]
      show _ + 1 = _
      omega
    refine lc_it (walk_zip (n := (cutsOf l).length) (by rw [List.length_map, List.length_map, hlen2, Nat.min_self])) (LcP _ Dl fun i acc => acc = tvs (((cutsOf l).zip ((cutsOf l).tail ++ [l.length])).take i |>.map fun ab => (l.drop ab.1).take (ab.2 - ab.1))) (lcp_start hD rfl) (fun i H3 _ ⟨_, acc, e, _, _, _⟩ => ⟨SqL.of (e _ _ hp4), SqL.of (e _ _ upd_same)⟩) ?_ ?_
    · rintro i x H2 H2' hi ⟨_, acc, e, hD2, hlen, rfl⟩ ⟨T, x1, y1, rfl, nT, rfl, hx, hy⟩
      have hi2 : i < ((cutsOf l).tail ++ [l.length]).length := by omega
      dsimp only at hx hy
      rw [List.getElem?_map, List.getElem?_eq_getElem hi] at hx
      rw [List.getElem?_map, List.getElem?_eq_getElem hi2] at hy
      have ex : V.int (((cutsOf l)[i] : Nat) : Int) = x1 := Option.some.inj hx
      have ey : V.int ((((cutsOf l).tail ++ [l.length])[i] : Nat) : Int) = y1 := Option.some.inj hy
      subst ex ey
      refine ⟨T, _, rfl, .inl (.inl upd_same), rfl, _, _, rfl, _, _, rfl, rfl, rfl, keepAll ?_⟩
      refine ⟨_, rfl, _, rfl, _, rfl, _, rfl, _, rfl, l, rfl, hl.sz, ?_⟩
      rw [cutL_mid]
      refine lcp_put hD e hD2 hlen (by omega) (same_upd nT) ?_
      rw [List.take_add_one, List.getElem?_eq_getElem (by rw [List.length_zip]; omega), List.map_append]
      show _ = List.map tv (_ ++ _)
      rw [List.map_append, List.getElem_zip]
      rfl
    · rintro H2 ⟨_, acc, e, hD2, _, rfl⟩
      have hz : (cutsOf l).length = ((cutsOf l).zip ((cutsOf l).tail ++ [l.length])).length := by
        rw [List.length_zip, hlen2, Nat.min_self]
      rw [hz, List.take_length] at hD2
      have kk := ((k2.trans k3).trans k4)
      exact q Dl H2 ((e1.trans kk).free hD) ((e1.trans kk).trans e) hD2
end
end Rk
namespace Rw
open PySem PySem.Spec PyProof.Rows L2
/-! zip(text, text): the signs in new pairs -/
def ItzT (x y : Str) : It :=
  ⟨fun i _ => i < x.cps.size ∧ i < y.cps.size,
    fun i H v H' => ∃ (q : Addr) (c d : Nat), v = .ref q ∧ H q = none ∧ H' = upd H q (.tup [.str ⟨#[c]⟩, .str ⟨#[d]⟩]) ∧ x.cps[i]? = some c ∧ y.cps[i]? = some d,
    fun i _ => i ≤ x.cps.size ∧ i ≤ y.cps.size ∧ (i = x.cps.size ∨ i = y.cps.size)⟩
/-- where the five objects of such a zip stand -/
def zipAt (x y : Str) (tx ty : Tok) (z a b c d : Addr) (i : Nat) (h : Heap) : Prop :=
  (IsZip h z a b .none ∧ IsTupOf2 h a (.ref c) (.ref d)) ∧ (∃ u v, IsTupOf2 h b u v) ∧ h.IsStrIter c (strIterType x) x tx i ∧ h.IsStrIter d (strIterType y) y ty i
theorem mem5 {α : Type} {z a b c d e : α} : e ∈ [z, a, b, c, d] ↔ e = z ∨ e = a ∨ e = b ∨ e = c ∨ e = d := by simp
theorem turn_zipT2 {P : Program} {w : World} {K : PySem.W.Frag} {elts : List Expr} {kk : Nat} {tpos : Pos} {x y : Str} {tx ty : Tok} {z a b c d : Addr} (S : ZipSep2 z a b c d [c] [d]) :
    Turn P w K (.Tuple elts kk tpos) (ItzT x y) [z, a, b, c, d] z (zipAt x y tx ty z a b c d) := by
  refine { mem := mem5.mpr (.inl rfl), obj := ?_, keep := ?_, item := ?_, done := ?_, self := ?_ }
  · rintro i h ⟨⟨hz, ha⟩, ⟨u, v, hb⟩, hc, hd⟩ e he
    rcases mem5.mp he with q | q | q | q | q
    · subst q; exact ⟨_, hz, fun _ q => nomatch q⟩
    · subst q; exact ⟨_, ha, fun _ q => nomatch q⟩
    · subst q; exact ⟨_, hb, fun _ q => nomatch q⟩
    · subst q
      obtain ⟨o, e1, _, e2⟩ := hc
      exact ⟨o, e1, fun _ q => by rw [e2] at q; cases q⟩
    · subst q
      obtain ⟨o, e1, _, e2⟩ := hd
      exact ⟨o, e1, fun _ q => by rw [e2] at q; cases q⟩
  · rintro i h h' ⟨⟨hz, ha⟩, ⟨u, v, hb⟩, ⟨o1, p1, q1, r1⟩, ⟨o2, p2, q2, r2⟩⟩ k
    exact ⟨⟨k z (mem5.mpr (by simp)) _ hz, k a (mem5.mpr (by simp)) _ ha⟩, ⟨u, v, k b (mem5.mpr (by simp)) _ hb⟩, ⟨o1, k c (mem5.mpr (by simp)) _ p1, q1, r1⟩, ⟨o2, k d (mem5.mpr (by simp)) _ p2, q2, r2⟩⟩
  · rintro X rfl rfl rfl hcalm i pins s σ H E I hf ⟨⟨hz, ha⟩, ⟨u, v, hb⟩, hc, hd⟩ ⟨g1, g2⟩
    have hh : X.A.in1.handled = none := I.ok.hd hcalm
    have zl : z < s.heap.objs.size := Heap.lt_size hz
    refine wpAny_pyNext_zipD2_item S (Draws.text hh c x tx) (Draws.text hh d y ty) hz ha hb hc hd g1 g2 ?_
    rintro v1 v2 h' tk ⟨c1, t1, e1, rfl⟩ ⟨c2, t2, e2, rfl⟩ z' b' c' d' hT hs hk
    refine ⟨_, rfl, wpAny_letOwnedTupleGo_zip (s := { s with heap := h', toks := tk }) z' fun h2 z2 sb => ?_⟩
    have hT2 := (sb.2 _ (Nat.ne_of_gt zl)).trans hT
    have new : ObjOk X.prog X.w (upd H s.heap.objs.size (.tup [.str ⟨#[c1]⟩, .str ⟨#[c2]⟩])) h2 s.heap.objs.size (.tup [.str ⟨#[c1]⟩, .str ⟨#[c2]⟩]) :=
      ⟨(show 2 ≤ sizeLine by decide), [_, _], .cons ⟨t1, rfl⟩ (.cons ⟨t2, rfl⟩ .nil), ⟨_, hT2, rfl, _, rfl⟩⟩
    have far : ∀ e o, e ∉ [z, a, b, c, d] → s.heap.get? e = some o → h2.get? e = some o := fun e o he q => by
      have n : ¬ (e = z ∨ e = a ∨ e = b ∨ e = c ∨ e = d) := fun w => he (mem5.mpr w)
      exact (sb.2 _ fun w => n (.inl w)).trans (hk e o (fun w => n (.inl w)) (fun w => n (by simp [w])) (fun w => n (by simp [w])) (fun w => n (by simp [w])) q)
    have J := I.turnedNew (t' := tk) (ch := [z, a, b, c, d]) far hf (Nat.le_refl _) new
    have nz1 : c ≠ z := fun q => S.zf1 (by simp [q])
    have nz2 : d ≠ z := fun q => S.zf2 (by simp [q])
    obtain ⟨o1, p1, q1, r1⟩ := c'
    obtain ⟨o2, p2, q2, r2⟩ := d'
    refine ⟨.ref s.heap.objs.size, _, J, rfl, ⟨_, c1, c2, rfl, I.hok.fresh (Nat.le_refl _), rfl, e1, e2⟩, ⟨⟨z2, (sb.2 _ S.TIz).trans (hk _ _ S.TIz S.TITO S.TIi1 S.TIi2 ha)⟩, ⟨_, _, (sb.2 _ S.TOz).trans b'⟩, ⟨o1, (sb.2 _ nz1).trans p1, q1, r1⟩, ⟨o2, (sb.2 _ nz2).trans p2, q2, r2⟩⟩, fun e he => ?_⟩
    have lt : e < s.heap.objs.size := by
      rcases mem5.mp he with q | q | q | q | q
      · subst q; exact zl
      · subst q; exact Heap.lt_size ha
      · subst q; exact Heap.lt_size hb
      · subst q; obtain ⟨_, w, _⟩ := hc; exact Heap.lt_size w
      · subst q; obtain ⟨_, w, _⟩ := hd; exact Heap.lt_size w
    rw [upd_ne (Nat.ne_of_lt lt)]
    exact (hf e he).1
  · rintro X rfl rfl rfl hcalm i pins s σ H E I hf ⟨⟨hz, ha⟩, ⟨u, v, hb⟩, hc, hd⟩ ⟨g1, g2, g3⟩
    have hh : X.A.in1.handled = none := I.ok.hd hcalm
    refine wpAny_pyNext_zipD2_end S (Draws.text hh c x tx) (Draws.text hh d y ty) hz ha hb hc hd g1 g2 g3 fun h' tk hk => ⟨rfl, I.turnedL (t' := tk) (ch := [z, a, b, c, d]) (fun e o he q => ?_) hf⟩
    have n : ¬ (e = z ∨ e = a ∨ e = b ∨ e = c ∨ e = d) := fun w => he (mem5.mpr w)
    exact hk e o (fun w => n (.inl w)) (fun w => n (by simp [w])) (fun w => n (by simp [w])) (fun w => n (by simp [w])) q
  · exact fun A i s Q E st h => wpAny_pyIter_zip st.1.1 h
def iZipT (ta : TA) : TI := fun σ H R => ta σ H fun vs H1 => ∃ x y : List Nat, vs = [tv x, tv y] ∧ R (ItzT (T x) (T y)) H1
theorem pi_zipT {X : Cx} {e e2 : Expr} {ta : TA} {p pos tpos : Pos} {elts : List Expr} {kk : Nat} (hg : Gl X "zip") (hm : X.mg "zip" = none) (ha : PA X [e, e2] ta)
    (hs : starEach [e, e2] X.env = (false, eval e X.env) :: starEach [e2] X.env := by rfl) (hpl : (backTo pos (starEach [e2] X.env)).any (·.1) = false := by rfl) :
    PI X (.Tuple elts kk tpos) (.Call (.Name "zip" p) [e, e2] [] pos) (iZipT ta) := by
  refine ⟨fun pins s σ H R I h => Call_ (ld_blt I hg hm PyProof.Rows.boot_zip (PyProof.Rows.callWith_type1 (thn (ha.run pos pins s σ H _ I h) ?_) hs hpl))⟩
  rintro us s1 ⟨vs, H1, I1, r1, x, y, rfl, q⟩
  obtain ⟨u1, u2, rfl, ⟨tx, rfl⟩, ⟨ty, rfl⟩⟩ := vals2 r1
  refine zip_begins2 (begins_text (T x) tx) (begins_text (T y) ty) True.intro True.intro fun h' hz ha hb hc hd hs hk => wpAny_pyIter_zip hz ?_
  have J : Inv X pins σ H1 { s1 with heap := h' } := I1.kept (t' := s1.toks) hk
  have S : ZipSep2 (s1.heap.objs.size + 4) (s1.heap.objs.size + 2) (s1.heap.objs.size + 3) s1.heap.objs.size (s1.heap.objs.size + 1) [s1.heap.objs.size] [s1.heap.objs.size + 1] := by
    refine ⟨?_, ?_, ?_, ?_, ?_, ?_, ?_, ?_, ?_, ?_, ?_, ?_, ?_⟩ <;> simp <;> omega
  refine ⟨s1.heap.objs.size + 4, _, _, _, H1, rfl, J, turn_zipT2 (tx := tx) (ty := ty) S, ⟨⟨hz, ha⟩, ⟨_, _, hb⟩, ⟨_, hc, rfl, rfl⟩, ⟨_, hd, rfl, rfl⟩⟩, fun e he => ?_, q⟩
  have hle : s1.heap.objs.size ≤ e := by
    rcases mem5.mp he with q | q | q | q | q <;> rw [q] <;> first | exact Nat.le_add_right _ _ | exact Nat.le_refl _
  exact I1.fpOk hle (I1.hok.fresh hle)
theorem walk_zipT {x y : List Nat} {n : Nat} (hn : n = min x.length y.length) : Walk (ItzT (T x) (T y)) n (fun _ => True) (YPair (fun i => x[i]?.map fun c => tv [c]) (fun i => y[i]?.map fun c => tv [c])) := by
  subst hn
  have ex : ∀ l : List Nat, (T l).cps.size = l.length := T_len
  have eg : ∀ (l : List Nat) (i : Nat), (T l).cps[i]? = l[i]? := fun l i => by simp [T]
  refine ⟨fun i _ hi _ => ⟨by rw [ex]; omega, by rw [ex]; omega⟩, fun _ _ => ⟨by rw [ex]; omega, by rw [ex]; omega, ?_⟩, ?_⟩
  · rw [ex, ex]
    omega
  · rintro i H v H' hi _ ⟨q, c, d, h1, h2, h3, h4, h5⟩
    rw [eg] at h4 h5
    exact ⟨q, _, _, h1, h2, h3, by dsimp only; rw [h4]; rfl, by dsimp only; rw [h5]; rfl⟩
end Rw
namespace Rw
open PySem PySem.Spec PyProof.Rows L2
/-! text.rstrip(sign), text.index(sign), sign in text, isinstance of anything by an own class -/
def rstripL (l : List Nat) (z : Nat) : List Nat := l.take (l.length - (l.reverse.takeWhile (fun c => decide (c = z))).length)
theorem rstripL_len (l : List Nat) (z : Nat) : (rstripL l z).length ≤ l.length := by
  unfold rstripL
  rw [List.length_take]
  omega
theorem rstrip_split (l : List Nat) (z : Nat) : ∃ m, l = rstripL l z ++ List.replicate m z ∧ ∀ a, (rstripL l z).getLast? = some a → a ≠ z := by
  have h0 := List.takeWhile_append_dropWhile (p := fun c => decide (c = z)) (l := l.reverse)
  have hr : l = (l.reverse.dropWhile fun c => decide (c = z)).reverse ++ (l.reverse.takeWhile fun c => decide (c = z)).reverse := by
    rw [← List.reverse_append, h0, List.reverse_reverse]
  have e : rstripL l z = (l.reverse.dropWhile fun c => decide (c = z)).reverse := by
    have hl := congrArg List.length hr
    rw [List.length_append, List.length_reverse, List.length_reverse] at hl
    have t := List.take_left (l₁ := (l.reverse.dropWhile fun c => decide (c = z)).reverse) (l₂ := (l.reverse.takeWhile fun c => decide (c = z)).reverse)
    rw [← hr, List.length_reverse] at t
    unfold rstripL
    rw [show l.length - (l.reverse.takeWhile fun c => decide (c = z)).length = (l.reverse.dropWhile fun c => decide (c = z)).length from by omega]
    exact t
  refine ⟨(l.reverse.takeWhile fun c => decide (c = z)).length, ?_, fun a ha => ?_⟩
  · rw (occs := .pos [1]) [hr]
    rw [e]
    congr 1
    refine List.eq_replicate_iff.mpr ⟨List.length_reverse, fun b hb => ?_⟩
    have := List.all_eq_true.mp (List.all_takeWhile (p := fun c => decide (c = z)) (l := l.reverse)) b (List.mem_reverse.mp hb)
    simpa using this
  · rw [e, List.getLast?_reverse] at ha
    have := List.head?_dropWhile_not (fun c => decide (c = z)) l.reverse
    rw [ha] at this
    simpa using this
theorem rstrip_T (l : List Nat) (z : Nat) : Txt.rstripChars (T l) (T [z]) = T (rstripL l z) := by
  unfold Txt.rstripChars
  rw [PyProof.Rows.stripBy_eq, PyProof.Rows.strSub_mk]
  unfold stripLo stripHi
  simp only [Bool.false_eq_true, if_false, if_true]
  rw [T_cps, T_len, List.drop_zero, Nat.sub_zero]
  have e : (T [z]).cps.contains = fun c => decide (c = z) := by
    funext c
    simp [T]
  rw [e]
  rfl
def rRstripT : V → List V → Hp → VK → Prop := fun x xs H Q => ∃ (l : List Nat) (z : Nat), x = tv l ∧ xs = [tv [z]] ∧ l.length ≤ 100000 ∧ Q (tv (rstripL l z)) H
theorem take_one_at (l : List Nat) (i c : Nat) : (l.drop i).take 1 = [c] ↔ l[i]? = some c := by
  rw [List.take_one, List.head?_drop]
  cases l[i]? <;> simp
theorem sub_at {l : List Nat} {c i : Nat} : Builtin.Str.subAt (T l) (T [c]) i = true ↔ l[i]? = some c := by
  unfold Builtin.Str.subAt
  rw [beq_iff_eq, T_len]
  show l.toArray.extract i (i + 1) = [c].toArray ↔ _
  rw [List.extract_toArray, List.extract_eq_drop_take, ← take_one_at, show i + 1 - i = 1 from by omega]
  constructor
  · intro h
    simpa using h
  · intro h
    rw [h]
theorem idx_of {l : List Nat} {c i : Nat} (h : l[i]? = some c) (hn : ∀ k, k < i → l[k]? ≠ some c) : l.idxOf c = i := by
  have hm : c ∈ l := List.mem_of_getElem? h
  have hlt : l.idxOf c < l.length := List.idxOf_lt_length_of_mem hm
  have e : l[l.idxOf c]? = some c := by
    rw [List.getElem?_eq_getElem hlt]
    simp
  have h1 : ¬ l.idxOf c < i := fun z => hn _ z e
  have hi : i < l.length := (List.getElem?_eq_some_iff.mp h).1
  have h2 : ¬ i < l.idxOf c := fun z => by
    have := List.not_of_lt_findIdx (p := (· == c)) (xs := l) (i := i) z
    rw [(List.getElem?_eq_some_iff.mp h).2] at this
    simp at this
  omega
def rIndexC : V → List V → Hp → VK → Prop := fun x xs H Q => ∃ (l : List Nat) (c : Nat), x = tv l ∧ xs = [tv [c]] ∧ c ∈ l ∧ Q (.int (l.idxOf c : Nat)) H
section
variable {X : Cx}
theorem mt_rstripT : MtR X "str.rstrip" rRstripT := fun pins s σ H x xs v us Q I rx rxs ⟨l, z, e1, e2, hz, q⟩ =>
  mt_rstripChars pins s σ H x xs v us Q I rx rxs ⟨T l, T [z], e1, e2, by rw [T_len]; exact big hz, by rw [rstrip_T]; exact q⟩
theorem mt_indexC : MtR X "str.index" rIndexC := by
  rintro pins s σ H x xs v us Q I rx rxs ⟨l, c, rfl, rfl, hc, q⟩
  obtain ⟨t, rfl⟩ := rx
  obtain ⟨u, rfl, ru⟩ := rxs.one
  obtain ⟨t2, rfl⟩ := ru
  have atI : ∀ i, StrLaws.At (T l) (T [c]) (T l).length i ↔ l[i]? = some c := fun i => by
    unfold StrLaws.At
    rw [sub_at, T_len, T_len]
    constructor
    · exact fun h => h.2
    · exact fun h => ⟨(List.getElem?_eq_some_iff.mp h).1, h⟩
  rcases StrLaws.occ_head (T l) (T [c]) 1 (Nat.le_refl _) with ⟨_, hn⟩ | ⟨i, r, e, ha, hb⟩
  · obtain ⟨i, hi, e⟩ := List.mem_iff_getElem.mp hc
    exact absurd ((atI i).mpr (List.getElem?_eq_some_iff.mpr ⟨hi, e⟩)) (hn i)
  · have ei := idx_of ((atI i).mp ha) fun k hk z => hb k hk ((atI k).mpr z)
    rw [ei] at q
    exact call_gives PySem.F.slot_str_index (typeIs_str _ _ _) PySem.F.entry_str_index (PySem.F.args_str_index_2 _ _) (gives_str_index (T l) (T [c]) t t2 i r e) ⟨.int (i : Nat), H, I.tok _, ⟨_, rfl⟩, q⟩
def rInC : R2 := fun x y H Q => ∃ (c : Nat) (l : List Nat), x = tv [c] ∧ y = tv l ∧ Q (.bl (decide (c ∈ l))) H
theorem op_inC : OpR X (compareOp .In) rInC := fun pins s σ H x y v u Q I rx ry ⟨c, l, e1, e2, q⟩ =>
  op_in_sign pins s σ H x y v u Q I rx ry ⟨c, T l, e1, e2, by rw [T_cps]; exact q⟩
/-- isinstance(x, C), x a kept error or of a known kind -/
def rIsE (K : PySem.W.Frag) : List V → Hp → VK → Prop := fun xs H Q => ∃ (x : V) (C : Addr) (b : Bool), xs = [x, .ref C] ∧
  ((∃ a D, x = .ref a ∧ H a = some (ExV (.ref D) a) ∧ ExcC K D ∧ PySem.W.kitOne K (.ref D) (.ref C) = some b) ∨ ∃ t, TyX K H x t ∧ PySem.W.kitOne K t (.ref C) = some b) ∧ Q (.bl b) H
theorem call_isE : CallR X (.builtin "isinstance") (rIsE X.K) := by
  rintro pins s σ H xs us Q I r ⟨x, C, b, rfl, h, q⟩
  rcases h with ⟨a, D, rfl, h1, h2, h3⟩ | ⟨t, h1, h2⟩
  · exact call_isX pins s σ H _ us Q I r ⟨a, D, _, .ref C, b, rfl, h1, h2, (fun u h => h), h3, q⟩
  · exact call_isi pins s σ H _ us Q I r ⟨x, _, t, .ref C, b, rfl, .own C, h1, h2, q⟩
end
end Rw
namespace Rw
open PySem PySem.Spec PyProof.Rows L2
/-! early words, pieces: pure -/
/-- they part at a place at which the one is less -/
def Sl (a b : List Nat) : Prop := ∃ (p : List Nat) (x y : Nat) (s t : List Nat), a = p ++ x :: s ∧ b = p ++ y :: t ∧ x < y
theorem tri (a b : List Nat) : a < b ∨ a = b ∨ b < a := by
  by_cases h : a < b
  · exact .inl h
  · rcases List.le_iff_lt_or_eq.mp (List.not_lt.mp h) with g | g
    · exact .inr (.inr g)
    · exact .inr (.inl g.symm)
theorem lt_irr {a : List Nat} (h : a < a) : False := List.lt_irrefl a h
theorem lt_asym {a b : List Nat} (h : a < b) (g : b < a) : False := List.lt_irrefl a (List.lt_trans h g)
theorem lt_cases : ∀ {a b : List Nat}, a < b → Sl a b ∨ ∃ c, c ≠ [] ∧ b = a ++ c
  | [], [], h => (lt_irr h).elim
  | [], y :: t, _ => .inr ⟨y :: t, by simp, rfl⟩
  | x :: s, [], h => absurd h (List.not_lt_nil _)
  | x :: s, y :: t, h => by
    rcases List.cons_lt_cons_iff.mp h with g | ⟨rfl, g⟩
    · exact .inl ⟨[], x, y, s, t, rfl, rfl, g⟩
    · rcases lt_cases g with ⟨p, u, v, s', t', e1, e2, q⟩ | ⟨c, hc, e⟩
      · exact .inl ⟨x :: p, u, v, s', t', by rw [e1]; rfl, by rw [e2]; rfl, q⟩
      · exact .inr ⟨c, hc, by rw [e]; rfl⟩
theorem Sl.lt {a b : List Nat} (h : Sl a b) (u v : List Nat) : a ++ u < b ++ v := by
  obtain ⟨p, x, y, s, t, rfl, rfl, q⟩ := h
  rw [List.append_assoc, List.append_assoc]
  exact List.append_left_lt (List.cons_lt_cons_iff.mpr (.inl q))
theorem Sl.lt0 {a b : List Nat} (h : Sl a b) : a < b := by
  have := h.lt [] []
  simpa using this
theorem nil_lt {c : List Nat} (h : c ≠ []) : [] < c := by
  cases c with
  | nil => exact absurd rfl h
  | cons x s => exact List.nil_lt_cons x s
theorem pre_lt (a : List Nat) {c : List Nat} (h : c ≠ []) : a < a ++ c := by
  have := List.append_left_lt (l₁ := a) (nil_lt h)
  simpa using this
theorem cancel : ∀ {p a b : List Nat}, p ++ a < p ++ b → a < b
  | [], _, _, h => h
  | x :: p, _, _, h => by
    rcases List.cons_lt_cons_iff.mp h with g | ⟨_, g⟩
    · exact absurd g (Nat.lt_irrefl x)
    · exact cancel g
theorem Sl.app : ∀ {v e y : List Nat}, Sl (v ++ e) y → Sl v y ∨ ∃ y', y = v ++ y' ∧ Sl e y'
  | [], e, y, h => .inr ⟨y, rfl, h⟩
  | x :: v, e, y, ⟨p, c, d, s, t, e1, e2, q⟩ => by
    cases p with
    | nil =>
      have z := List.cons.inj e1
      exact .inl ⟨[], x, d, v, t, rfl, e2, by rw [z.1]; exact q⟩
    | cons p0 p =>
      have z := List.cons.inj e1
      rcases Sl.app (v := v) (e := e) (y := p ++ d :: t) ⟨p, c, d, s, t, z.2, rfl, q⟩ with ⟨p', c', d', s', t', h1, h2, q'⟩ | ⟨y', h1, h2⟩
      · exact .inl ⟨x :: p', c', d', s', t', by rw [h1]; rfl, by rw [e2, z.1, List.cons_append, h2]; rfl, q'⟩
      · exact .inr ⟨y', by rw [e2, z.1, List.cons_append, h1]; rfl, h2⟩
theorem Sl.trans {a b c : List Nat} (h : Sl a b) (k : Sl b c) : Sl a c := by
  obtain ⟨p, x, y, s, t, rfl, rfl, q⟩ := h
  rcases Sl.app k with ⟨p', c', d', s', t', h1, h2, q'⟩ | ⟨y', h1, p', c', d', s', t', h2, h3, q'⟩
  · exact ⟨p', c', d', s' ++ x :: s, t', by rw [h1]; simp, h2, q'⟩
  · subst h1 h3
    cases p' with
    | nil =>
      have z := List.cons.inj h2
      refine ⟨p, x, d', s, t', rfl, rfl, ?_⟩
      have z1 : y = c' := z.1
      omega
    | cons p0 p' =>
      have z := List.cons.inj h2
      exact ⟨p, x, p0, s, p' ++ d' :: t', rfl, rfl, by have z1 : y = p0 := z.1; omega⟩
theorem mem_tail {l o : List Nat} : o ∈ (turns l).tail ↔ ∃ k, 1 ≤ k ∧ k < l.length ∧ o = turn l k := by
  unfold turns
  cases hn : l.length with
  | zero =>
    constructor
    · intro h
      simp at h
    · rintro ⟨k, _, h, _⟩
      omega
  | succ n =>
    rw [List.range_succ_eq_map, List.map_cons, List.tail_cons, List.map_map]
    constructor
    · intro h
      obtain ⟨k, hk, e⟩ := List.mem_map.mp h
      have := List.mem_range.mp hk
      exact ⟨k + 1, by omega, by omega, e.symm⟩
    · rintro ⟨k, h1, h2, e⟩
      refine List.mem_map.mpr ⟨k - 1, List.mem_range.mpr (by omega), ?_⟩
      show turn l (k - 1 + 1) = o
      rw [Nat.sub_add_cancel h1, e]
theorem early_iff {l : List Nat} : early l = true ↔ ∀ k, 1 ≤ k → k < l.length → l < l.drop k ++ l.take k := by
  unfold early
  rw [List.all_eq_true]
  constructor
  · intro h k h1 h2
    exact of_decide_eq_true (h (turn l k) (mem_tail.mpr ⟨k, h1, h2, rfl⟩))
  · intro h o ho
    obtain ⟨k, h1, h2, rfl⟩ := mem_tail.mp ho
    exact decide_eq_true (h k h1 h2)
theorem early_suf {l : List Nat} (h : early l = true) {k : Nat} (h1 : 1 ≤ k) (h2 : k < l.length) : Sl l (l.drop k) := by
  have hE := early_iff.mp h
  have a1 := hE k h1 h2
  have ld : (l.drop k).length = l.length - k := List.length_drop
  have lt : (l.take k).length = k := by rw [List.length_take]; omega
  have e : l.take k ++ l.drop k = l := List.take_append_drop k l
  rcases tri l (l.drop k) with g | g | g
  · rcases lt_cases g with z | ⟨c, hc, z⟩
    · exact z
    · have := congrArg List.length z
      rw [List.length_append] at this
      omega
  · have := congrArg List.length g
    omega
  · exfalso
    rcases lt_cases g with z | ⟨c, hc, z⟩
    · have := z.lt (l.take k) []
      rw [List.append_nil] at this
      exact lt_asym a1 this
    · have lc : c.length = k := by
        have := congrArg List.length z
        rw [List.length_append] at this
        omega
      have a2 : c < l.take k := by
        rw (occs := .pos [1]) [z] at a1
        exact cancel a1
      have a3 := hE (l.length - k) (by omega) (by omega)
      have e1 : l.drop (l.length - k) = c := by
        rw (occs := .pos [2]) [z]
        rw [← ld, List.drop_left]
      have e2 : l.take (l.length - k) = l.drop k := by
        rw (occs := .pos [2]) [z]
        rw [← ld, List.take_left]
      rw [e1, e2] at a3
      rw (occs := .pos [1]) [← e] at a3
      rcases lt_cases a2 with y | ⟨d, hd, y⟩
      · exact lt_asym a3 (y.lt _ _)
      · have := congrArg List.length y
        rw [List.length_append] at this
        have : d.length = 0 := by omega
        exact hd (List.eq_nil_of_length_eq_zero this)
theorem suf_early {l : List Nat} (h : ∀ k, 1 ≤ k → k < l.length → Sl l (l.drop k)) : early l = true :=
  early_iff.mpr fun k h1 h2 => by
    have := (h k h1 h2).lt [] (l.take k)
    rwa [List.append_nil] at this
end Rw
namespace Rw
open PySem PySem.Spec PyProof.Rows L2
/-! sorted(list of texts), any number of them -/
def rSortedL (K : PySem.W.Frag) : List V → Hp → VK → Prop := fun vs H Q => ∃ (a : Addr) (ls : List (List Nat)), vs = [V.ref a] ∧ SqL K H a (tvs ls) ∧
  ∀ (ys : List (List Nat)) (p : Addr), ys.Perm ls → ys.Pairwise (fun x y => ¬ y < x) → H p = none → Q (.ref p) (upd H p (.lst (tvs ys)))
theorem strs_vals : ∀ {ls : List (List Nat)} {us : List Value}, Vals (tvs ls) us → StrsAre us (ls.map T)
  | [], _, r => by
    cases r
    exact .nil
  | l :: ls, _, r => by
    cases r with
    | cons r1 r2 =>
      obtain ⟨t, rfl⟩ := r1
      exact .cons _ t (strs_vals r2)
theorem rising_pair : ∀ (r : List Str) (p : Str), risingS p r = true → (p :: r).Pairwise fun x y => ¬ y.cps.toList < x.cps.toList
  | [], p, _ => List.pairwise_singleton _ p
  | x :: r, p, h => by
    unfold risingS at h
    rw [Bool.and_eq_true] at h
    have i := rising_pair r x h.2
    have g : ¬ x.cps.toList < p.cps.toList := by
      have z := h.1
      simpa [ltCps_eq] using z
    refine List.Pairwise.cons (fun y hy => ?_) i
    rcases List.mem_cons.mp hy with e | e
    · rw [e]; exact g
    · have k := (List.pairwise_cons.mp i).1 y e
      intro q
      rcases tri x.cps.toList p.cps.toList with u | u | u
      · exact g u
      · exact k (u ▸ q)
      · exact k (List.lt_trans q u)
theorem sorted_pair : ∀ {ys : List Str}, sortedS ys = true → ys.Pairwise fun x y => ¬ y.cps.toList < x.cps.toList
  | [], _ => List.Pairwise.nil
  | p :: r, h => rising_pair r p h
theorem cr_sortedL {X : Cx} : CallR X (.builtin "sorted") (rSortedL X.K) := by
  intro pins s σ H vs us Q I r h
  obtain ⟨a, ls, rfl, hs, q⟩ := h
  obtain ⟨its, rv, hl, hz⟩ := I.list hs
  rw [Vals.ref1 r]
  have hS : StrsAre its (ls.map T) := strs_vals rv
  have hsz : its.length ≤ sizeLine := by rw [← rv.length]; exact hz
  refine PyProof.Rows.sorted_strsAny hl.isList hS hsz fun out ys h1 h2 h3 => ?_
  obtain ⟨ep, he'⟩ := PyProof.Rows.sortedAll_at s.heap its out
  have ey : ys.map V.str = tvs (ys.map (·.cps.toList)) := by
    show _ = (ys.map (·.cps.toList)).map tv
    rw [List.map_map]
    refine List.map_congr_left fun y _ => ?_
    show V.str y = V.str (T y.cps.toList)
    rw [T_of]
  have hlen : (ys.map V.str).length ≤ sizeLine := by
    rw [List.length_map, h2.length_eq, List.length_map]
    rw [List.length_map] at hz
    exact hz
  refine ⟨.ref _, upd H (s.heap.objs.size + 1) (.lst (ys.map V.str)), I.laid (t' := s.toks) (fun _ _ => PyProof.Rows.sortedAll_old) (Nat.le_succ _) ⟨hlen, out.toList, ep, vals_of_strs h1, he'⟩, rfl, ?_⟩
  rw [ey]
  refine q _ _ ?_ ?_ (I.hok.fresh (Nat.le_succ _))
  · have z := h2.map (·.cps.toList)
    rw [List.map_map] at z
    have e : (fun x => x.cps.toList) ∘ T = id := funext T_cps
    rw [e, List.map_id] at z
    exact z
  · exact List.pairwise_map.mpr (sorted_pair h3)
end Rw
namespace Rw
open PySem PySem.Spec PyProof.Rows L2
/-! len(set(list of texts)) -/
/-- is among the first i -/
def inF (ls : List (List Nat)) (i : Nat) (k : Str) : Bool := (ls.take i).any fun l => T l == k
/-- how many unlike ones there are among the first i -/
def dis (ls : List (List Nat)) : Nat → Nat
  | 0 => 0
  | i + 1 => if inF ls i (T (ls.getD i [])) = true then dis ls i else dis ls i + 1
theorem dis_le (ls : List (List Nat)) : ∀ i, dis ls i ≤ i
  | 0 => Nat.le_refl _
  | i + 1 => by
    have := dis_le ls i
    unfold dis
    split <;> omega
theorem inF_iff {ls : List (List Nat)} {i : Nat} {l : List Nat} : inF ls i (T l) = true ↔ l ∈ ls.take i := by
  unfold inF
  rw [List.any_eq_true]
  constructor
  · rintro ⟨m, hm, e⟩
    have := T_inj (beq_iff_eq.mp e)
    rwa [← this]
  · exact fun h => ⟨l, h, beq_iff_eq.mpr rfl⟩
theorem take_next {ls : List (List Nat)} {i : Nat} (h : i < ls.length) : ls.take (i + 1) = ls.take i ++ [ls.getD i []] := by
  rw [List.take_add_one, List.getElem?_eq_getElem h, List.getD_eq_getElem?_getD, List.getElem?_eq_getElem h]
  rfl
theorem dis_spec (ls : List (List Nat)) : ∀ i, i ≤ ls.length → ∃ ys : List (List Nat), ys.Nodup ∧ (∀ u, u ∈ ys ↔ u ∈ ls.take i) ∧ ys.length = dis ls i
  | 0, _ => ⟨[], List.Pairwise.nil, fun u => by simp, rfl⟩
  | i + 1, h => by
    obtain ⟨ys, h1, h2, h3⟩ := dis_spec ls i (by omega)
    have e := take_next (ls := ls) (i := i) (by omega)
    unfold dis
    by_cases g : inF ls i (T (ls.getD i [])) = true
    · rw [if_pos g]
      refine ⟨ys, h1, fun u => ?_, h3⟩
      rw [e, List.mem_append, h2]
      constructor
      · exact .inl
      · rintro (q | q)
        · exact q
        · rw [List.mem_singleton.mp q]
          exact inF_iff.mp g
    · rw [if_neg g]
      refine ⟨ys ++ [ls.getD i []], ?_, fun u => ?_, by rw [List.length_append, h3]; rfl⟩
      · refine List.pairwise_append.mpr ⟨h1, List.pairwise_singleton _ _, fun a ha b hb z => g (inF_iff.mpr ?_)⟩
        rw [List.mem_singleton.mp hb] at z
        rw [← z]
        exact (h2 a).mp ha
      · rw [e, List.mem_append, List.mem_append, h2]
theorem inF_next {ls : List (List Nat)} {i : Nat} (h : i < ls.length) (k : Str) : (inF ls i k || decide (k = T (ls.getD i []))) = inF ls (i + 1) k := by
  unfold inF
  rw [take_next h, List.any_append, List.any_cons, List.any_nil, Bool.or_false]
  congr 1
  rw [Bool.eq_iff_iff, decide_eq_true_eq, beq_iff_eq]
  exact eq_comm
section
variable {prog : Program} {w : World} {A : Around} {R : Result → Shared → Prop} {it : Addr} {fp wr : List Addr} {G : Array GenState → Array GenState → Prop} {n : Nat} {P : Nat → Value → Prop} {St : Nat → Shared → Prop}
/-- the texts still to come, into the set at a -/
theorem set_turns (D : WalksS prog w A.in1 it fp wr G n P St) (a : Addr) (na : a ∉ fp) (ls : List (List Nat)) (hl : ls.length = n) (hn : n + 1 < scanBound)
    (hv : ∀ i v, P i v → ∃ t, v = .str (T (ls.getD i [])) t) : ∀ (k i : Nat) (s : Shared), i + k = n → St i s → s.heap.SetOf (PySem.strKind prog w) a (inF ls i) (dis ls i) →
      (∀ s', Moved (a :: wr) G s s' → s'.heap.SetOf (PySem.strKind prog w) a (inF ls n) (dis ls n) → R (.ok (.ret .none)) s') →
      codeAny (model prog w) A (.builtin "set.update.loop" ⟨[.ref a, .ref it], []⟩) R s
  | 0, i, s, hk, st, ha, hR => by
    have e : i = n := by omega
    subst e
    apply codeAny_builtin PyProof.Rows.F.entry_set_update_loop
    rw [Around.under_plainId (PyProof.Rows.F.plain_set_update_loop)]
    show wpAny _ A.in1 (do let r ← pyNext (.ref it); _) _ _ _
    refine wpAny_bind (D.done s _ _ st fun t hm => ?_)
    have nw : a ∉ wr := fun h => na (D.sub _ h)
    refine wpAny_pure (hR t (hm.mono fun b hb => .tail _ hb) ?_)
    obtain ⟨ob, es, ep, tb, g1, g2⟩ := ha
    exact ⟨ob, es, ep, tb, hm.heap a _ nw g1, g2⟩
  | k + 1, i, s, hk, st, ha, hR => by
    have hi : i < n := by omega
    have nw : a ∉ wr := fun h => na (D.sub _ h)
    apply codeAny_builtin PyProof.Rows.F.entry_set_update_loop
    rw [Around.under_plainId (PyProof.Rows.F.plain_set_update_loop)]
    show wpAny _ A.in1 (do let r ← pyNext (.ref it); _) _ _ _
    refine wpAny_bind (D.item i s _ _ hi st fun v t hP st' hm => ?_)
    obtain ⟨tk, rfl⟩ := hv i v hP
    have hat : t.heap.SetOf (PySem.strKind prog w) a (inF ls i) (dis ls i) := by
      obtain ⟨ob, es, ep, tb, g1, g2⟩ := ha
      exact ⟨ob, es, ep, tb, hm.heap a _ nw g1, g2⟩
    have key := strKind_is prog w (T (ls.getD i [])) tk
    show wpAny _ A.in1 (do let r ← holding [Value.str (T (ls.getD i [])) tk] (setAdd a (.str (T (ls.getD i [])) tk)); _) _ _ _
    refine wpAny_bind (wpAny_holding ?_)
    unfold setAdd
    refine wpAny_holding (wpAny_bind ((PySem.strKind prog w).pyHash key ?_))
    have room : dis ls i + 1 < scanBound := by have := dis_le ls i; omega
    refine wpAny_setAddHashed_of (knd := PySem.strKind prog w) (s := { t with toks := t.toks + 1 }) key rfl hat room fun h2 same hat2 => ?_
    have hat3 : h2.SetOf (PySem.strKind prog w) a (inF ls (i + 1)) (dis ls (i + 1)) := PyProof.Rows.SetOf_congr hat2 (inF_next (by omega)) rfl
    have far : ∀ b o, b ≠ a → t.heap.get? b = some o → h2.get? b = some o := fun b o hb e => (same.2 b hb).trans e
    refine wpAny_pure ⟨plainId_quiet (PyProof.Rows.F.plain_set_update_loop) _, set_turns D a na ls hl hn hv k (i + 1) _ (by omega) (D.frame (i + 1) t h2 _ st' (Nat.le_succ _) fun b hb o e => far b o (fun z => na (z ▸ hb)) e) hat3 fun u hu hs => ?_⟩
    refine hR u (Moved.trans D.gtrans ((hm.mono fun b hb => List.Mem.tail a hb).then_heap (Nat.le_succ _) fun b o hb e => ?_) hu) hs
    exact far b o (fun z => hb (z ▸ List.Mem.head _)) e
end
section
variable {prog : Program} {w : World} {A : Around} {E : Value → Shared → Prop} {s : Shared}
theorem texts_at : ∀ {us : List Value} {ls : List (List Nat)}, StrsAre us (ls.map T) → ∀ (i : Nat) (v : Value), us[i]? = some v → ∃ t, v = .str (T (ls.getD i [])) t
  | [], _, _, i, v, h => by simp at h
  | u :: us, [], h, _, _, _ => by cases h
  | u :: us, l :: ls, h, 0, v, e => by
    cases h with
    | cons _ t _ => exact ⟨t, (Option.some.inj e).symm⟩
  | u :: us, l :: ls, h, i + 1, v, e => by
    cases h with
    | cons _ t r =>
      obtain ⟨t', e'⟩ := texts_at r i v e
      exact ⟨t', e'⟩
abbrev newSetO (led : Bool) : Obj := { cls := .type "set", dict := none, data := .set #[] 0 (.fresh 0 0 led) }
/-- a new set of the texts of a list -/
theorem set_texts {l : Addr} {its : Array Value} {ls : List (List Nat)} {Q : Value → Shared → Prop} (hh : A.handled = none) (hl : s.heap.IsList l its) (hi : StrsAre its.toList (ls.map T)) (hn : ls.length + 1 < scanBound)
    (h : ∀ (h2 : Heap) (tk : Nat), h2.SetOf (PySem.strKind prog w) s.heap.objs.size (inF ls ls.length) (dis ls ls.length) → (∀ b o, b < s.heap.objs.size → s.heap.get? b = some o → h2.get? b = some o) → Q (.ref s.heap.objs.size) { s with heap := h2, toks := tk }) :
    wpAny (model prog w) A (call (.type "set") [.ref l]) Q E s := by
  have hlen : ls.length = its.size := by
    have := StrsAre.len_eq hi
    rw [List.length_map, Array.length_toList] at this
    exact this.symm
  obtain ⟨_, _, hmro⟩ := PySem.F.called_set.mro
  have made := PySem.F.called_set.made
  have sub := PySem.F.called_set.sub
  apply wpAny_call
  apply codeAny_of_tree
  show wpAny _ _ (callAny (.type "set") _) _ _ _
  have quiet := Code.quiet_builtin (id := "type.__call__") (args := ⟨[.type "set", .ref l], []⟩) (by decide +kernel)
  refine wpAny_pure ⟨quiet, codeAny_builtin PySem.F.entry_type_call ?_⟩
  rw [Around.under_plain (weight_type_call_type "set" [.ref l] []) rfl]
  have f1 := PySem.F.called_set.notType
  have f2 := PySem.F.called_set.canCreate
  have f3 := PySem.F.typeCall_set_1 (.ref l)
  repeat any_goals first | assumption | wp_step
  refine codeAny_mono (code_set_new_1 (.ref l) (E := E) (Q₁ := fun ob s1 => ∃ led : Bool, ob = .ref s.heap.objs.size ∧ s1 = { s with heap := s.heap.push (newSetO led) }) fun led => ⟨led, rfl, rfl⟩) ?_
  rintro r s1 hr
  cases r with
  | error e => exact hr
  | ok fl =>
    cases fl with
    | ret ob =>
      obtain ⟨led, rfl, rfl⟩ := hr
      have aS : (s.heap.push (newSetO led)).get? s.heap.objs.size = some (newSetO led) := Heap.get?_push_size _ rfl
      have tS : Shared.TypeIs { s with heap := s.heap.push (newSetO led) } (.ref s.heap.objs.size) "set" := ⟨_, aS, rfl⟩
      have i1 := PySem.F.called_set.init.lookup
      have i2 := PySem.F.called_set.init.bind (.ref s.heap.objs.size)
      repeat any_goals first | assumption | wp_step
      refine codeAny_mono (codeAny_call_builtin (R := wants (fun r s2 => r = .none ∧ ∃ h2 tk, s2 = { s with heap := h2, toks := tk } ∧ h2.SetOf (PySem.strKind prog w) s.heap.objs.size (inF ls ls.length) (dis ls ls.length) ∧
          ∀ b o, b < s.heap.objs.size → s.heap.get? b = some o → h2.get? b = some o) E) PySem.F.called_set.init.plain PySem.F.entry_set_init (check_set_init_1 tS ?_)) ?_
      · obtain ⟨⟨cl, dd, dat, slo⟩, ho, hc, nl, hd⟩ := hl
        simp only at hc hd
        subst hc hd
        have lt : l < s.heap.objs.size := Heap.lt_size ho
        have ho1 : (s.heap.push (newSetO led)).get? l = some { cls := .type "list", dict := dd, data := .seq its nl, slots := slo } := Heap.get?_push_of_some _ ho
        have n1 := PySem.F.sub_list_set
        have n2 := PySem.F.sub_list_frozenset
        have n3 : (Value.type "list" == Value.type "dict") = false := by decide
        have isL : (s.heap.push (newSetO led)).IsList l its := ⟨_, ho1, rfl, nl, rfl⟩
        unfold Builtin.«set.__init__» noKeywords Builtin.Frozenset.updateFrom
        generalize hIt : pyIter = iterOf
        wp_walk
        subst hIt
        refine wpAny_pyIter_list isL (wpAny_bind (wpAny_runValue ?_))
        have sz : (s.heap.push (newSetO led)).objs.size = s.heap.objs.size + 1 := Heap.size_push ..
        have hh3 : A.in1.in1.in1.handled = none := by simp [hh]
        have ne1 : l ≠ (s.heap.push (newSetO led)).objs.size := by
          rw [sz]
          exact Nat.ne_of_lt (Nat.lt_succ_of_lt lt)
        have ne2 : s.heap.objs.size ∉ [(s.heap.push (newSetO led)).objs.size, l] := by
          rw [sz]
          intro z
          rcases List.mem_cons.mp z with q | q
          · exact Nat.ne_of_lt (Nat.lt_succ_self _) q
          · exact Nat.ne_of_lt lt (List.mem_singleton.mp q).symm
        have vals : ∀ (i : Nat) (v : Value), its[i]? = some v → ∃ t, v = .str (T (ls.getD i [])) t := fun i v hv => texts_at hi i v (by rw [Array.getElem?_toList]; exact hv)
        refine set_turns ((Walks.list hh3 _ l ne1 its).toS) s.heap.objs.size ne2 ls hlen (by rw [← hlen]; exact hn) vals its.size 0 _ (Nat.zero_add _) ⟨⟨_, Heap.get?_push_size _ rfl, rfl, rfl⟩, isL.push _⟩ ?_ ?_
        · have g := Heap.get?_push_of_some { cls := .type "list_iterator", data := .fields #[.ref l, .int 0 0] } aS
          exact PyProof.Rows.SetOf_congr ((PyProof.Rows.setObjOf_fresh (knd := PySem.strKind prog w) led).setOf g (by unfold scanBound; omega)) (fun _ => rfl) rfl
        · rintro ⟨h2, g2, d2, t2, o2⟩ hm hS
          obtain rfl : g2 = s.gens := hm.gens
          obtain rfl : d2 = s.drawn := hm.drawn
          obtain rfl : o2 = s.os := hm.os
          show wpAny _ _ _ _ _ _
          apply wpAny_pure
          show wpAny _ _ (ret Value.none) _ _ _
          rw [← hlen] at hS
          refine wpAny_pure ⟨rfl, h2, t2, rfl, hS, fun b o hb e => hm.heap b o (fun z => ?_) (Heap.get?_push_of_some _ (Heap.get?_push_of_some _ e))⟩
          rcases List.mem_cons.mp z with q | q
          · exact Nat.ne_of_lt hb q
          · rw [List.mem_singleton.mp q, sz] at hb
            omega
      · rintro r2 s2 hr2
        cases r2 with
        | error e => exact hr2
        | ok fl2 =>
          cases fl2 with
          | ret r =>
            obtain ⟨rfl, h2, tk, rfl, hS, hk⟩ := hr2
            repeat any_goals first | assumption | wp_step
            exact h _ _ hS hk
          | _ => exact hr2.elim
    | _ => exact hr.elim
end
def tLenSetT (K : PySem.W.Frag) (ta : TE) : TE := fun σ H Q => ta σ H fun x H1 => ∃ (l : Addr) (ls : List (List Nat)), x = .ref l ∧ SqL K H1 l (tvs ls) ∧ ls.length ≤ 4000 ∧
  ∀ n : Nat, (∀ ys : List (List Nat), ys.Nodup → (∀ u, u ∈ ys ↔ u ∈ ls) → ys.length = n) → Q (.int (n : Nat)) H1
theorem pe_lenSetT {X : Cx} {a : Expr} {ta : TE} {p p2 q pos : Pos} (hc : X.calm = true) (hg : Gl X "len") (hm : X.mg "len" = none) (hg2 : Gl X "set") (hm2 : X.mg "set" = none) (ha : PE X a ta)
    (na : starEach [a] X.env = (false, eval a X.env) :: starEach [] X.env := by rfl) : PE X (.Call (.Name "len" p) [.Call (.Name "set" p2) [a] [] q] [] pos) (tLenSetT X.K ta) := by
  refine ⟨fun pins s σ H Q I h => ?_⟩
  refine Call_ (ld_blt I hg hm boot_len (PyProof.Rows.callWith_builtin1 (PyProof.Rows.args_cons ?_ rfl) rfl rfl))
  refine Call_ (ld_blt I hg2 hm2 boot_set (PyProof.Rows.callWith_type1 (PyProof.Rows.args_cons (thn (ha.run pins s σ H _ I h) ?_) na) na rfl))
  rintro v s1 ⟨x, H1, I1, r1, l, ls, rfl, hs, hl, k⟩
  cases r1
  refine PyProof.Rows.args_nil ?_
  obtain ⟨its, rv, pl, _⟩ := I1.list hs
  have hS : StrsAre its.toArray.toList (ls.map T) := by simpa using strs_vals rv
  refine set_texts (I1.ok.hd hc) pl.isList hS (by unfold scanBound; omega) fun h2 tk hset hk => PyProof.Rows.args_nil ?_
  obtain ⟨ob, es, ep, t, ho, hex, hd, _, _, _, hf, hn⟩ := hset
  have I2 : Inv X pins σ H1 { s1 with heap := h2, toks := tk } := I1.kept fun b o e => hk b o (Heap.lt_size e) e
  have dl := dis_le ls ls.length
  refine call_len_set ho hex hd hf (by rw [hn]; omega) ⟨.int (dis ls ls.length : Nat), H1, I2.tok _, ⟨_, by rw [hn]⟩, k _ fun ys hy hmem => ?_⟩
  obtain ⟨zs, z1, z2, z3⟩ := dis_spec ls ls.length (Nat.le_refl _)
  rw [List.take_length] at z2
  rw [← z3]
  exact ((List.perm_ext_iff_of_nodup hy z1).mpr fun u => (hmem u).trans (z2 u).symm).length_eq
end Rw
namespace Rw
open PySem PySem.Spec PyProof.Rows L2
/-- a piece from place a up to place b, as the least endings tell it -/
def Seg (l : List Nat) (a b : Nat) : Prop := a < b ∧ b ≤ l.length ∧ (∀ i, a < i → i < b → l.drop a < l.drop i) ∧ l.drop b < l.drop a
def Segs (l : List Nat) : List Nat → Prop
  | a :: b :: r => Seg l a b ∧ Segs l (b :: r)
  | _ => True
def segW (l : List Nat) : List Nat → List (List Nat)
  | a :: b :: r => (l.drop a).take (b - a) :: segW l (b :: r)
  | _ => []
/-- none less than the next one -/
def NonInc : List (List Nat) → Prop
  | u :: v :: r => ¬ u < v ∧ NonInc (v :: r)
  | _ => True
def Good (ls : List (List Nat)) : Prop := (∀ x ∈ ls, early x = true ∧ x ≠ []) ∧ NonInc ls
theorem seg_split {l : List Nat} {a b : Nat} (h : Seg l a b) : l.drop a = (l.drop a).take (b - a) ++ l.drop b := by
  have e : l.drop b = (l.drop a).drop (b - a) := by
    rw [List.drop_drop]
    congr 1
    have := h.1
    omega
  rw [e, List.take_append_drop]
theorem seg_len {l : List Nat} {a b : Nat} (h : Seg l a b) : ((l.drop a).take (b - a)).length = b - a := by
  rw [List.length_take, List.length_drop]
  have := h.1
  have := h.2.1
  omega
theorem seg_in {l : List Nat} {a b k : Nat} (h : Seg l a b) (hk : k ≤ b - a) : l.drop (a + k) = ((l.drop a).take (b - a)).drop k ++ l.drop b := by
  rw [← List.drop_drop]
  have e := seg_split h
  have n := seg_len h
  generalize (l.drop a).take (b - a) = u at e n ⊢
  rw [e, List.drop_append_of_le_length (by omega)]
theorem seg_early {l : List Nat} {a b : Nat} (h : Seg l a b) : early ((l.drop a).take (b - a)) = true := by
  obtain ⟨h1, h2, h3, h4⟩ := id h
  refine suf_early fun k k1 k2 => ?_
  have n := seg_len h
  have e := seg_split h
  have ek := fun k hk => seg_in (k := k) h hk
  rw [n] at k2
  generalize (l.drop a).take (b - a) = u at *
  have hS := h3 (a + k) (by omega) (by omega)
  rw [ek k (by omega)] at hS
  have nd : (u.drop k).length = u.length - k := List.length_drop
  rcases tri u (u.drop k) with g | g | g
  · rcases lt_cases g with z | ⟨c, hc, z⟩
    · exact z
    · have := congrArg List.length z
      rw [List.length_append] at this
      omega
  · have := congrArg List.length g
    omega
  · exfalso
    rw [e] at hS
    rcases lt_cases g with z | ⟨c, hc, z⟩
    · exact lt_asym hS (z.lt _ _)
    · have hS' : c ++ l.drop b < l.drop b := by
        have q : u ++ l.drop b = u.drop k ++ (c ++ l.drop b) := by
          rw [← List.append_assoc, ← z]
        rw [q] at hS
        exact cancel hS
      have i2 := h3 (a + (u.length - k)) (by omega) (by omega)
      rw [ek (u.length - k) (by omega)] at i2
      have ec : u.drop (u.length - k) = c := by
        have q : u.drop (u.drop k).length = (u.drop k ++ c).drop (u.drop k).length := congrArg _ z
        rw [List.drop_left, nd] at q
        exact q
      rw [ec] at i2
      exact lt_irr (List.lt_trans (List.lt_trans i2 hS') h4)
theorem seg_ge {l : List Nat} {a b c : Nat} (h : Seg l a b) (k : Seg l b c) : ¬ (l.drop a).take (b - a) < (l.drop b).take (c - b) := by
  intro g
  obtain ⟨h1, h2, h3, h4⟩ := id h
  obtain ⟨k1, k2, k3, k4⟩ := id k
  have n := seg_len h
  have e := seg_split h
  have n' := seg_len k
  have e' := seg_split k
  have ek := fun i hi => seg_in (k := i) k hi
  generalize (l.drop a).take (b - a) = u at *
  generalize (l.drop b).take (c - b) = v at *
  rcases lt_cases g with z | ⟨y, hy, z⟩
  · have q := z.lt (l.drop b) (l.drop c)
    rw [← e, ← e'] at q
    exact lt_asym q h4
  · have ly : v.length = u.length + y.length := by rw [z, List.length_append]
    have y0 : y.length ≠ 0 := fun q => hy (List.eq_nil_of_length_eq_zero q)
    have q1 : y ++ l.drop c < l.drop b := by
      have q := h4
      rw [e, e', z, List.append_assoc] at q
      have q2 := cancel q
      rw [← List.append_assoc, ← z, ← e'] at q2
      exact q2
    have i2 := k3 (b + u.length) (by omega) (by omega)
    rw [ek u.length (by omega)] at i2
    have ed : v.drop u.length = y := by
      rw [z, List.drop_left]
    rw [ed] at i2
    exact lt_asym i2 q1
theorem segs_good {l : List Nat} : ∀ {ps : List Nat}, Segs l ps → Good (segW l ps)
  | [], _ => ⟨fun _ h => (List.not_mem_nil h).elim, trivial⟩
  | [_], _ => ⟨fun _ h => (List.not_mem_nil h).elim, trivial⟩
  | [a, b], h => by
    refine ⟨fun x hx => ?_, trivial⟩
    have e : x = (l.drop a).take (b - a) := by simpa [segW] using hx
    subst e
    refine ⟨seg_early h.1, fun z => ?_⟩
    have g1 := seg_len h.1
    rw [z] at g1
    have g2 := h.1.1
    have g3 : b - a = 0 := g1.symm
    omega
  | a :: b :: c :: r, h => by
    obtain ⟨i1, i2⟩ := segs_good (ps := b :: c :: r) h.2
    refine ⟨fun x hx => ?_, seg_ge h.1 h.2.1, i2⟩
    rcases List.mem_cons.mp hx with e | e
    · subst e
      refine ⟨seg_early h.1, fun z => ?_⟩
      have g1 := seg_len h.1
      rw [z] at g1
      have g2 := h.1.1
      have g3 : b - a = 0 := g1.symm
      omega
    · exact i1 x e
def lastP : Nat → List Nat → Nat
  | a, [] => a
  | _, b :: r => lastP b r
theorem segs_flat {l : List Nat} : ∀ {r : List Nat} {a : Nat}, Segs l (a :: r) → (segW l (a :: r)).flatten ++ l.drop (lastP a r) = l.drop a
  | [], a, _ => by simp [segW, lastP]
  | b :: r, a, h => by
    have i := segs_flat (r := r) (a := b) h.2
    show ((l.drop a).take (b - a) :: segW l (b :: r)).flatten ++ l.drop (lastP b r) = l.drop a
    rw [List.flatten_cons, List.append_assoc, i, ← seg_split h.1]
theorem segs_app {l : List Nat} : ∀ {qs : List Nat} {a b : Nat}, Segs l (qs ++ [a]) → Seg l a b → Segs l (qs ++ [a] ++ [b])
  | [], _, _, _, k => ⟨k, trivial⟩
  | [_], _, _, h, k => ⟨h.1, k, trivial⟩
  | _ :: x :: qs, _, _, h, k => ⟨h.1, segs_app (qs := x :: qs) h.2 k⟩
theorem cut_inv {l : List Nat} : ∀ n, n + 1 ≤ l.length → ∃ qs a, (cutSt l n).1 = qs ++ [a] ∧ (cutSt l n).2 = l.drop a ∧ Segs l (qs ++ [a]) ∧ a ≤ n ∧ (∀ i, a < i → i ≤ n → l.drop a < l.drop i) ∧ ∃ r, qs ++ [a] = 0 :: r
  | 0, _ => ⟨[], 0, rfl, rfl, trivial, Nat.le_refl _, fun i h1 h2 => absurd h1 (by omega), [], rfl⟩
  | n + 1, h => by
    obtain ⟨qs, a, e1, e2, hs, ha, hm, r, er⟩ := cut_inv (l := l) n (by omega)
    have eu : cutSt l (n + 1) = if l.drop (n + 1) < (cutSt l n).2 then ((cutSt l n).1 ++ [n + 1], l.drop (n + 1)) else cutSt l n := rfl
    by_cases g : l.drop (n + 1) < (cutSt l n).2
    · rw [eu, if_pos g]
      refine ⟨qs ++ [a], n + 1, by rw [e1], rfl, segs_app hs ⟨by omega, by omega, fun i h1 h2 => hm i h1 (by omega), by rw [← e2]; exact g⟩, Nat.le_refl _, fun i h1 h2 => absurd h1 (by omega), r ++ [n + 1], by rw [er]; rfl⟩
    · rw [eu, if_neg g]
      refine ⟨qs, a, e1, e2, hs, by omega, fun i h1 h2 => ?_, r, er⟩
      by_cases hi : i ≤ n
      · exact hm i h1 hi
      · have ei : i = n + 1 := by omega
        subst ei
        rw [e2] at g
        rcases tri (l.drop a) (l.drop (n + 1)) with z | z | z
        · exact z
        · have := congrArg List.length z
          rw [List.length_drop, List.length_drop] at this
          omega
        · exact absurd z g
theorem zip_seg (l : List Nat) (e : Nat) : ∀ (r : List Nat) (a : Nat), ((a :: r).zip (r ++ [e])).map (fun ab => (l.drop ab.1).take (ab.2 - ab.1)) = segW l ((a :: r) ++ [e])
  | [], _ => rfl
  | b :: r, a => by
    have i := zip_seg l e r b
    show _ :: ((b :: r).zip (r ++ [e])).map _ = _
    rw [i]
    rfl
theorem last_app : ∀ (r : List Nat) (a e : Nat), lastP a (r ++ [e]) = e
  | [], _, _ => rfl
  | b :: r, _, e => last_app r b e
/-- the places are segments -/
theorem cuts_segs {l : List Nat} (h : 1 ≤ l.length) : ∃ r, cutsOf l = 0 :: r ∧ Segs l ((0 :: r) ++ [l.length]) := by
  obtain ⟨qs, a, e1, _, hs, ha, hm, r, er⟩ := cut_inv (l := l) (l.length - 1) (by omega)
  refine ⟨r, by unfold cutsOf; rw [e1, er], ?_⟩
  rw [← er]
  refine segs_app hs ⟨by omega, Nat.le_refl _, fun i h1 h2 => hm i h1 (by omega), ?_⟩
  rw [List.drop_length]
  refine nil_lt fun z => ?_
  have := congrArg List.length z
  rw [List.length_drop] at this
  simp at this
  omega
theorem pieces_seg {l : List Nat} (h : 1 ≤ l.length) : ∃ r, cutsOf l = 0 :: r ∧ Segs l ((0 :: r) ++ [l.length]) ∧ piecesOf l = segW l ((0 :: r) ++ [l.length]) := by
  obtain ⟨r, e, hs⟩ := cuts_segs h
  refine ⟨r, e, hs, ?_⟩
  unfold piecesOf
  rw [e, List.tail_cons, zip_seg]
theorem pieces_flat {l : List Nat} (h : 1 ≤ l.length) : (piecesOf l).flatten = l := by
  obtain ⟨r, e, hs, ep⟩ := pieces_seg h
  have q := segs_flat (l := l) (r := r ++ [l.length]) (a := 0) hs
  rw [last_app, List.drop_length, List.append_nil] at q
  rw [ep]
  exact q
theorem pieces_good {l : List Nat} (h : 1 ≤ l.length) : Good (piecesOf l) := by
  obtain ⟨r, e, hs, ep⟩ := pieces_seg h
  rw [ep]
  exact segs_good hs
theorem pieces_wd {l : List Nat} (h : Wd l) : ∀ x ∈ piecesOf l, Wd x := fun x hx => by
  have g := (pieces_good h.1).1 x hx
  have e := pieces_flat h.1
  refine ⟨?_, ?_, fun c hc => h.2.2 c (by rw [← e]; exact List.mem_flatten.mpr ⟨x, hx, hc⟩)⟩
  · cases x with
    | nil => exact absurd rfl g.2
    | cons _ _ => exact Nat.le_add_left 1 _
  · have h2 := h.2.1
    obtain ⟨s, t, es⟩ := List.append_of_mem hx
    rw [← e, es, List.flatten_append, List.flatten_cons, List.length_append, List.length_append] at h2
    omega
theorem pieces_ne {l : List Nat} (h : 1 ≤ l.length) : piecesOf l ≠ [] := fun z => by
  have e := pieces_flat h
  rw [z] at e
  rw [← e] at h
  simp at h
end Rw
namespace Rw
theorem nonInc_at : ∀ {ls : List (List Nat)} {i : Nat} {a b : List Nat}, NonInc ls → ls[i]? = some a → ls[i + 1]? = some b → ¬ a < b
  | u :: v :: r, 0, a, b, h, ha, hb => by
    have e1 : u = a := Option.some.inj ha
    have e2 : v = b := Option.some.inj hb
    rw [← e1, ← e2]
    exact h.1
  | [_], 0, _, _, _, _, hb => nomatch hb
  | _ :: v :: r, i + 1, _, _, h, ha, hb => nonInc_at (ls := v :: r) (i := i) h.2 ha hb
  | [_], _ + 1, _, _, _, _, hb => nomatch hb
theorem segW_len (l : List Nat) : ∀ (r : List Nat) (a : Nat), (segW l (a :: r)).length = r.length
  | [], _ => rfl
  | b :: r, _ => by
    show (segW l (b :: r)).length + 1 = _
    rw [segW_len l r b]
    rfl
theorem segW_at {l : List Nat} : ∀ {r : List Nat} {a k : Nat}, Segs l (a :: r) → k ≤ r.length → (a :: r)[k]? = some (((segW l (a :: r)).take k).flatten.length + a)
  | r, a, 0, _, _ => by simp
  | [], _, k + 1, _, h => by simp at h
  | b :: r, a, k + 1, h, hk => by
    have i := segW_at (r := r) (a := b) (k := k) h.2 (by simpa using hk)
    have n := seg_len h.1
    have g := h.1.1
    show (b :: r)[k]? = some ((((l.drop a).take (b - a) :: segW l (b :: r)).take (k + 1)).flatten.length + a)
    rw [i, List.take_succ_cons, List.flatten_cons, List.length_append, n]
    congr 1
    omega
theorem cuts_due {l : List Nat} (h : 1 ≤ l.length) : cutsOf l = (List.range (piecesOf l).length).map fun k => ((piecesOf l).take k).flatten.length := by
  obtain ⟨r, e, hs, ep⟩ := pieces_seg h
  have hl : (piecesOf l).length = r.length + 1 := by
    rw [ep]
    show (segW l (0 :: (r ++ [l.length]))).length = _
    rw [segW_len, List.length_append]
    rfl
  refine List.ext_getElem? fun k => ?_
  by_cases hk : k < r.length + 1
  · have q := segW_at (l := l) (r := r ++ [l.length]) (a := 0) (k := k) hs (by rw [List.length_append]; exact Nat.le_of_lt hk)
    rw [e, List.getElem?_map, List.getElem?_range (by omega), ep]
    have e2 : (0 :: (r ++ [l.length]))[k]? = (0 :: r)[k]? := by
      show ((0 :: r) ++ [l.length])[k]? = _
      rw [List.getElem?_append_left (by simpa using hk)]
    rw [← e2, q]
    rfl
  · rw [e, List.getElem?_eq_none (by simpa using Nat.not_lt.mp hk), List.getElem?_eq_none (by rw [List.length_map, List.length_range]; omega)]
end Rw
namespace Rw
open PySem PySem.Spec PyProof.Rows L2
/-! only one cutting is so; all ways to cut -/
theorem Good.tail {w : List Nat} {vs : List (List Nat)} (h : Good (w :: vs)) : Good vs :=
  ⟨fun x hx => h.1 x (List.mem_cons_of_mem _ hx), match vs, h.2 with
    | [], _ => trivial
    | _ :: _, k => k.2⟩
theorem nonInc_le : ∀ {vs : List (List Nat)} {w : List Nat}, NonInc (w :: vs) → ∀ v ∈ vs, ¬ w < v
  | [], _, _, _, h => (List.not_mem_nil h).elim
  | u :: vs, w, h, v, hv => by
    rcases List.mem_cons.mp hv with e | e
    · rw [e]; exact h.1
    · intro g
      have i := nonInc_le (vs := vs) (w := u) h.2 v e
      rcases tri w u with z | z | z
      · exact h.1 z
      · exact i (z ▸ g)
      · exact i (List.lt_trans z g)
theorem claimB {w : List Nat} (hw : early w = true) : ∀ vs : List (List Nat), (∀ v ∈ vs, ¬ w < v) → ∀ z y r : List Nat, w = z ++ y → z ≠ [] → y ≠ [] → vs.flatten < y ++ r
  | [], _, z, y, r, _, _, hy => nil_lt fun e => hy (List.append_eq_nil_iff.mp e).1
  | v :: vs, h, z, y, r, e, hz, hy => by
    have lz : 1 ≤ z.length := by
      cases z with
      | nil => exact absurd rfl hz
      | cons _ _ => exact Nat.le_add_left 1 _
    have ly : 1 ≤ y.length := by
      cases y with
      | nil => exact absurd rfl hy
      | cons _ _ => exact Nat.le_add_left 1 _
    have hs : Sl w y := by
      have := early_suf hw (k := z.length) lz (by rw [e, List.length_append]; omega)
      rwa [show w.drop z.length = y from by rw [e, List.drop_left]] at this
    rw [List.flatten_cons]
    rcases tri v w with g | g | g
    · rcases lt_cases g with k | ⟨t, ht, k⟩
      · exact (k.trans hs).lt _ _
      · rw [k] at hs
        rcases hs.app with q | ⟨y', q1, q2⟩
        · exact q.lt _ _
        · have hy' : y' ≠ [] := fun z => by
            obtain ⟨p, a, b, s, t, _, e2, _⟩ := q2
            rw [z] at e2
            simp at e2
          have i := claimB hw vs (fun u hu => h u (List.mem_cons_of_mem _ hu)) (z ++ v) y' r (by rw [e, q1, List.append_assoc]) (fun q => hz (List.append_eq_nil_iff.mp q).1) hy'
          rw [q1, List.append_assoc]
          exact List.append_left_lt i
    · rw [g]
      exact hs.lt _ _
    · exact absurd g (h v List.mem_cons_self)
theorem claimA : ∀ (vs : List (List Nat)) (w : List Nat), Good (w :: vs) → vs.flatten < w ++ vs.flatten
  | [], w, h => by
    simpa using nil_lt (h.1 w List.mem_cons_self).2
  | v :: vs, w, h => by
    have hle := nonInc_le h.2
    rcases tri v w with g | g | g
    · rcases lt_cases g with k | ⟨t, ht, k⟩
      · rw [List.flatten_cons]
        exact k.lt _ _
      · have hv := (h.1 v (List.mem_cons_of_mem _ List.mem_cons_self)).2
        have b := claimB (h.1 w List.mem_cons_self).1 vs (fun u hu => hle u (List.mem_cons_of_mem _ hu)) v t (v :: vs).flatten k hv ht
        have q := List.append_left_lt (l₁ := v) b
        rw [← List.append_assoc, ← k] at q
        exact q
    · have i := claimA vs v h.tail
      have q := List.append_left_lt (l₁ := v) i
      rw [List.flatten_cons, ← g]
      exact q
    · exact absurd g (hle v List.mem_cons_self)
theorem no_early {w F : List Nat} (hw : early w = true) {i : Nat} (h1 : 1 ≤ i) (h2 : i < w.length) : ¬ (w ++ F).drop i < w ++ F := fun g => by
  have s := (early_suf hw h1 h2).lt F F
  rw [List.drop_append_of_le_length (by omega)] at g
  exact lt_asym s g
theorem first_len {w w' : List Nat} {vs vs' : List (List Nat)} (h : Good (w :: vs)) (h' : Good (w' :: vs')) (e : w ++ vs.flatten = w' ++ vs'.flatten) : ¬ w.length < w'.length := fun g => by
  have a := claimA vs w h
  have lw : 1 ≤ w.length := by
    have := (h.1 w List.mem_cons_self).2
    cases w with
    | nil => exact absurd rfl this
    | cons _ _ => exact Nat.le_add_left 1 _
  have b := no_early (F := vs'.flatten) (h'.1 w' List.mem_cons_self).1 lw g
  rw [← e, List.drop_left] at b
  exact b a
theorem uniq : ∀ (ls ls' : List (List Nat)), Good ls → Good ls' → ls.flatten = ls'.flatten → ls = ls'
  | [], [], _, _, _ => rfl
  | [], w :: vs, _, h, e => by
    have := (h.1 w List.mem_cons_self).2
    rw [List.flatten_cons] at e
    exact absurd (List.append_eq_nil_iff.mp e.symm).1 this
  | w :: vs, [], h, _, e => by
    have := (h.1 w List.mem_cons_self).2
    rw [List.flatten_cons] at e
    exact absurd (List.append_eq_nil_iff.mp e).1 this
  | w :: vs, w' :: vs', h, h', e => by
    rw [List.flatten_cons, List.flatten_cons] at e
    have l1 := first_len h h' e
    have l2 := first_len h' h e.symm
    obtain ⟨e1, e2⟩ := List.append_inj e (by omega)
    rw [e1, uniq vs vs' h.tail h'.tail e2]
/-- all ways to cut -/
def wStep (f : List (List (List Nat))) (c : Nat) : List (List (List Nat)) := f.map (fun r => r ++ [[c]]) ++ f.map (fun r => r.dropLast ++ [r.getLastD [] ++ [c]])
def waysSt (l : List Nat) (i : Nat) : List (List (List Nat)) := ((l.drop 1).take i).foldl wStep [[l.take 1]]
def waysOf (l : List Nat) : List (List (List Nat)) := waysSt l (l.length - 1)
theorem ways_succ {l : List Nat} {i c : Nat} (h : (l.drop 1)[i]? = some c) : waysSt l (i + 1) = wStep (waysSt l i) c := by
  unfold waysSt
  rw [List.take_add_one (l := l.drop 1), h, List.foldl_append]
  rfl
theorem take_succ' {l : List Nat} {i c : Nat} (h : (l.drop 1)[i]? = some c) : l.take (i + 2) = l.take (i + 1) ++ [c] := by
  rw [List.take_add_one]
  rw [List.getElem?_drop] at h
  rw [show i + 1 = 1 + i from Nat.add_comm _ _, h]
  rfl
theorem snoc {α : Type} {r : List α} (h : r ≠ []) (d : α) : r.dropLast ++ [r.getLastD d] = r := by
  rw [List.getLastD_eq_getLast?, List.getLast?_eq_some_getLast h]
  exact List.dropLast_concat_getLast h
/-- what all ways are -/
theorem ways_all {l : List Nat} (hl : 1 ≤ l.length) : ∀ i, i + 1 ≤ l.length → (waysSt l i).length = 2 ^ i ∧ ∀ r ∈ waysSt l i, r ≠ [] ∧ (∀ x ∈ r, x ≠ []) ∧ r.flatten = l.take (i + 1) ∧ r.length ≤ i + 1
  | 0, _ => by
    refine ⟨rfl, fun r hr => ?_⟩
    have e : r = [l.take 1] := List.mem_singleton.mp hr
    rw [e]
    refine ⟨(fun z => nomatch z), fun x hx z => ?_, by simp, Nat.le_refl _⟩
    rw [List.mem_singleton.mp hx] at z
    have := congrArg List.length z
    rw [List.length_take] at this
    have q : min 1 l.length = 0 := this
    omega
  | i + 1, h => by
    obtain ⟨i1, i2⟩ := ways_all hl i (by omega)
    obtain ⟨c, hc⟩ : ∃ c, (l.drop 1)[i]? = some c := ⟨_, List.getElem?_eq_getElem (by rw [List.length_drop]; omega)⟩
    rw [ways_succ hc, take_succ' hc]
    refine ⟨?_, fun r hr => ?_⟩
    · unfold wStep
      rw [List.length_append, List.length_map, List.length_map, i1, Nat.pow_succ]
      omega
    · rcases List.mem_append.mp hr with z | z
      · obtain ⟨s, hs, rfl⟩ := List.mem_map.mp z
        obtain ⟨a1, a2, a3, a4⟩ := i2 s hs
        refine ⟨by simp, fun x hx => ?_, by rw [List.flatten_append, a3]; simp, by rw [List.length_append]; exact Nat.succ_le_succ a4⟩
        rcases List.mem_append.mp hx with y | y
        · exact a2 x y
        · rw [List.mem_singleton.mp y]
          exact fun z => nomatch z
      · obtain ⟨s, hs, rfl⟩ := List.mem_map.mp z
        obtain ⟨a1, a2, a3, a4⟩ := i2 s hs
        refine ⟨by simp, fun x hx => ?_, ?_, ?_⟩
        · rcases List.mem_append.mp hx with y | y
          · exact a2 x (List.dropLast_subset s y)
          · rw [List.mem_singleton.mp y]
            simp
        · rw [← a3, List.flatten_append]
          have e := congrArg List.flatten (snoc a1 [])
          rw [List.flatten_append] at e
          rw [← e]
          simp
        · rw [List.length_append, List.length_dropLast]
          show _ + 1 ≤ _
          omega
theorem filter_eq_map {α β : Type} [DecidableEq α] [DecidableEq β] (f : α → β) (xs : List α) (a : α) (b : β) (h : ∀ x ∈ xs, f x = b ↔ x = a) (i : xs.filter (fun x => decide (x = a)) = [a]) (hb : f a = b) : (xs.map f).filter (fun y => decide (y = b)) = [b] := by
  rw [List.filter_map]
  have e : xs.filter ((fun y => decide (y = b)) ∘ f) = xs.filter fun x => decide (x = a) := List.filter_congr fun x hx => by
    show decide (f x = b) = decide (x = a)
    by_cases g : x = a
    · rw [decide_eq_true g, decide_eq_true ((h x hx).mpr g)]
    · rw [decide_eq_false g, decide_eq_false fun z => g ((h x hx).mp z)]
  rw [e, i, List.map_singleton, hb]
theorem filter_none_map {α β : Type} [DecidableEq β] (f : α → β) (xs : List α) (b : β) (h : ∀ x ∈ xs, f x ≠ b) : (xs.map f).filter (fun y => decide (y = b)) = [] := by
  rw [List.filter_eq_nil_iff]
  intro y hy
  obtain ⟨x, hx, rfl⟩ := List.mem_map.mp hy
  simpa using h x hx
theorem ways_once {l : List Nat} (hl : 1 ≤ l.length) : ∀ i, i + 1 ≤ l.length → ∀ ls : List (List Nat), ls.flatten = l.take (i + 1) → (∀ x ∈ ls, x ≠ []) → (waysSt l i).filter (fun r => decide (r = ls)) = [ls]
  | 0, _, ls, e, hne => by
    have el : ls = [l.take 1] := by
      have l1 : (l.take (0 + 1)).length = 1 := by rw [List.length_take]; omega
      match ls, e, hne with
      | [], e, _ =>
        have := congrArg List.length e
        rw [l1] at this
        cases this
      | [x], e, _ =>
        have : x = l.take 1 := by simpa using e
        rw [this]
      | x :: y :: r, e, hne =>
        have h1 := hne x List.mem_cons_self
        have h2 := hne y (List.mem_cons_of_mem _ List.mem_cons_self)
        have q := congrArg List.length e
        rw [l1, List.flatten_cons, List.flatten_cons, List.length_append, List.length_append] at q
        have q1 : x.length ≠ 0 := fun z => h1 (List.eq_nil_of_length_eq_zero z)
        have q2 : y.length ≠ 0 := fun z => h2 (List.eq_nil_of_length_eq_zero z)
        omega
    rw [el]
    show [[l.take 1]].filter _ = _
    simp
  | i + 1, h, ls, e, hne => by
    obtain ⟨c, hc⟩ : ∃ c, (l.drop 1)[i]? = some c := ⟨_, List.getElem?_eq_getElem (by rw [List.length_drop]; omega)⟩
    have hall := (ways_all hl i (by omega)).2
    rw [take_succ' hc] at e
    rw [ways_succ hc]
    have hls : ls ≠ [] := fun z => by
      rw [z] at e
      simp at e
    obtain ⟨l1, x, rfl⟩ : ∃ l1 x, ls = l1 ++ [x] := ⟨_, _, (snoc hls []).symm⟩
    have hx : x ≠ [] := hne x (List.mem_append_right _ (List.mem_singleton.mpr rfl))
    obtain ⟨v, d, rfl⟩ : ∃ v d, x = v ++ [d] := ⟨_, _, (snoc hx 0).symm⟩
    have e' : (l1.flatten ++ v) ++ [d] = l.take (i + 1) ++ [c] := by
      rw [← e, List.flatten_append]
      simp
    obtain ⟨e1, e2⟩ := List.append_inj' e' rfl
    have ed : d = c := (List.cons.inj e2).1
    subst ed
    unfold wStep
    rw [List.filter_append]
    by_cases hv : v = []
    · subst hv
      rw [List.append_nil] at e1
      have i1 := ways_once hl i (by omega) l1 e1 fun y hy => hne y (List.mem_append_left _ hy)
      rw [filter_eq_map (fun r => r ++ [[d]]) _ l1 (l1 ++ [[] ++ [d]]) (fun r _ => by
          constructor
          · intro z
            exact (List.append_inj' z rfl).1
          · intro z
            rw [z]
            rfl) i1 rfl, filter_none_map]
      · rfl
      · intro r hr z
        have z2 := (List.cons.inj (List.append_inj' z rfl).2).1
        obtain ⟨a1, a2, _⟩ := hall r hr
        have q : r.getLastD [] = [] := by
          have := congrArg List.length z2
          rw [List.length_append, List.length_append] at this
          exact List.eq_nil_of_length_eq_zero (Nat.add_right_cancel this)
        have m : r.getLastD [] ∈ r := by
          have s := snoc a1 []
          have m : r.getLastD [] ∈ r.dropLast ++ [r.getLastD []] := List.mem_append_right _ (List.mem_singleton.mpr rfl)
          rw [s] at m
          exact m
        exact a2 _ m q
    · have i1 := ways_once hl i (by omega) (l1 ++ [v]) (by rw [List.flatten_append]; simpa using e1) (fun y hy => by
        rcases List.mem_append.mp hy with z | z
        · exact hne y (List.mem_append_left _ z)
        · rw [List.mem_singleton.mp z]
          exact hv)
      rw [filter_none_map, filter_eq_map (fun r => r.dropLast ++ [r.getLastD [] ++ [d]]) _ (l1 ++ [v]) (l1 ++ [v ++ [d]]) (fun r hr => by
          obtain ⟨a1, a2, _⟩ := hall r hr
          constructor
          · intro z
            have z1 := List.append_inj' z rfl
            have z2 := (List.append_inj' (List.cons.inj z1.2).1 rfl).1
            rw [← snoc a1 [], z1.1, z2]
          · intro z
            rw [z]
            simp) i1 (by simp)]
      · rfl
      · intro r _ z
        have z2 := (List.cons.inj (List.append_inj' z rfl).2).1
        have := congrArg List.length z2
        rw [List.length_append] at this
        exact hv (List.eq_nil_of_length_eq_zero (by
          have q : 1 = v.length + 1 := this
          omega))
/-- among all ways just the pieces pass a test that means this -/
theorem ways_pieces {l : List Nat} (hl : 1 ≤ l.length) (p : List (List Nat) → Bool) (h : ∀ r ∈ waysOf l, p r = decide (r = piecesOf l)) : (waysOf l).filter p = [piecesOf l] := by
  have e : (waysOf l).filter p = (waysOf l).filter fun r => decide (r = piecesOf l) := List.filter_congr h
  rw [e]
  have ft : l.take (l.length - 1 + 1) = l := List.take_of_length_le (by omega)
  exact ways_once hl (l.length - 1) (by omega) (piecesOf l) (by rw [ft]; exact pieces_flat hl) fun x hx => ((pieces_good hl).1 x hx).2
theorem ways_good {l : List Nat} (hl : 1 ≤ l.length) : ∀ r ∈ waysOf l, (NonInc r ∧ ∀ x ∈ r, early x = true) ↔ r = piecesOf l := fun r hr => by
  have ft : l.take (l.length - 1 + 1) = l := List.take_of_length_le (by omega)
  obtain ⟨a1, a2, a3, _⟩ := (ways_all hl (l.length - 1) (by omega)).2 r hr
  rw [ft] at a3
  constructor
  · rintro ⟨h1, h2⟩
    exact uniq _ _ ⟨fun x hx => ⟨h2 x hx, a2 x hx⟩, h1⟩ (pieces_good hl) (a3.trans (pieces_flat hl).symm)
  · intro e
    rw [e]
    obtain ⟨g1, g2⟩ := pieces_good hl
    exact ⟨g2, fun x hx => (g1 x hx).1⟩
end Rw
namespace Rw
/-! the least turning: one early word some times -/
theorem lstT_le : ∀ (ys : List (List Nat)) (x : List Nat), ∀ z ∈ x :: ys, ¬ z < lstT x ys
  | [], x, z, hz => by
    rw [List.mem_singleton.mp hz]
    exact fun q => lt_irr q
  | y :: r, x, z, hz => by
    have e : lstT x (y :: r) = lstT (if y < x then y else x) r := rfl
    rw [e]
    have i := lstT_le r (if y < x then y else x)
    have i0 := i _ List.mem_cons_self
    rcases List.mem_cons.mp hz with q | q
    · subst q
      by_cases g : y < z
      · rw [if_pos g] at i0 ⊢
        exact fun k => i0 (List.lt_trans g k)
      · rw [if_neg g] at i0 ⊢
        exact i0
    · rcases List.mem_cons.mp q with q | q
      · subst q
        by_cases g : z < x
        · rw [if_pos g] at i0 ⊢
          exact i0
        · rw [if_neg g] at i0 ⊢
          intro k
          rcases tri z x with u | u | u
          · exact g u
          · exact i0 (u ▸ k)
          · exact i0 (List.lt_trans u k)
      · exact i z (List.mem_cons_of_mem _ q)
theorem minT_le {ls : List (List Nat)} : ∀ z ∈ ls, ¬ z < minT ls := by
  cases ls with
  | nil => exact fun z h => (List.not_mem_nil h).elim
  | cons x ys => exact lstT_le ys x
theorem turn_len (l : List Nat) (k : Nat) : (turn l k).length = l.length := by
  unfold turn
  rw [List.length_append, List.length_drop, List.length_take]
  omega
theorem turn_app {x y : List Nat} : turn (x ++ y) x.length = y ++ x := by
  unfold turn
  rw [List.drop_left, List.take_left]
/-- a piece of a rising end: the first and the last piece of what is least of its turnings are alike -/
theorem least_ends {u v : List Nat} {X : List (List Nat)} (hg : Good (u :: X ++ [v])) (hl : ¬ turn ((u :: X ++ [v]).flatten) ((u :: X).flatten.length) < (u :: X ++ [v]).flatten) : u = v := by
  have ef : (u :: X ++ [v]).flatten = (u :: X).flatten ++ v := by
    rw [List.flatten_append]
    simp
  rw [ef, turn_app, List.flatten_cons] at hl
  have hle := nonInc_le (w := u) (vs := X ++ [v]) hg.2 v (List.mem_append_right _ (List.mem_singleton.mpr rfl))
  rcases tri v u with g | g | g
  · exfalso
    rcases lt_cases g with k | ⟨y, hy, k⟩
    · refine hl ?_
      rw [List.append_assoc]
      exact k.lt _ _
    · have hu := hg.1 u List.mem_cons_self
      have hv := hg.1 v (List.mem_append_right _ (List.mem_singleton.mpr rfl))
      have lv : 1 ≤ v.length := by
        cases v with
        | nil => exact absurd rfl hv.2
        | cons _ _ => exact Nat.le_add_left 1 _
      have ly : 1 ≤ y.length := by
        cases y with
        | nil => exact absurd rfl hy
        | cons _ _ => exact Nat.le_add_left 1 _
      have s := early_suf hu.1 (k := v.length) lv (by rw [k, List.length_append]; omega)
      rw [show u.drop v.length = y from by rw [k, List.drop_left]] at s
      refine hl ?_
      have e : u ++ X.flatten ++ v = v ++ (y ++ (X.flatten ++ v)) := by
        rw (occs := .pos [1]) [k]
        simp
      rw [e]
      exact List.append_left_lt (s.lt _ _)
  · exact g.symm
  · exact absurd g hle
theorem nonInc_all {u : List Nat} : ∀ {X : List (List Nat)}, NonInc (u :: X ++ [u]) → ∀ x ∈ X, x = u
  | [], _, x, h => (List.not_mem_nil h).elim
  | y :: X, h, x, hx => by
    have h1 := nonInc_le (w := u) (vs := (y :: X) ++ [u]) h y List.mem_cons_self
    have h2 := nonInc_le (w := y) (vs := X ++ [u]) h.2 u (List.mem_append_right _ (List.mem_singleton.mpr rfl))
    have e : y = u := by
      rcases tri y u with g | g | g
      · exact absurd g h2
      · exact g
      · exact absurd g h1
    subst e
    rcases List.mem_cons.mp hx with q | q
    · exact q
    · exact nonInc_all (X := X) h.2 x q
/-- what is least of its turnings is an early word some times -/
theorem least_pieces {m : List Nat} (h : 1 ≤ m.length) (hl : ∀ k, k < m.length → ¬ turn m k < m) : ∃ u n, early u = true ∧ u ≠ [] ∧ 1 ≤ n ∧ piecesOf m = List.replicate n u ∧ (List.replicate n u).flatten = m := by
  have hg := pieces_good h
  have hf := pieces_flat h
  have hne := pieces_ne h
  generalize piecesOf m = ps at *
  have key : ∃ u n, 1 ≤ n ∧ ps = List.replicate n u := by
    cases ps with
    | nil => exact absurd rfl hne
    | cons u r =>
      by_cases hr : r = []
      · subst hr
        exact ⟨u, 1, Nat.le_refl _, rfl⟩
      · obtain ⟨X, v, rfl⟩ : ∃ X v, r = X ++ [v] := ⟨_, _, (snoc hr []).symm⟩
        have hv := hg.1 v (List.mem_cons_of_mem _ (List.mem_append_right _ (List.mem_singleton.mpr rfl)))
        have lv : 1 ≤ v.length := by
          cases v with
          | nil => exact absurd rfl hv.2
          | cons _ _ => exact Nat.le_add_left 1 _
        have ln : (u :: X).flatten.length < m.length := by
          rw [← hf]
          show _ < ((u :: X) ++ [v]).flatten.length
          rw [List.flatten_append, List.length_append]
          have : ([v] : List (List Nat)).flatten.length = v.length := by simp
          omega
        have e := least_ends (u := u) (v := v) (X := X) hg (by
          have z := hl _ ln
          rw [← hf] at z
          exact z)
        subst e
        have al := nonInc_all (u := u) (X := X) hg.2
        refine ⟨u, X.length + 2, by omega, ?_⟩
        have eX : X = List.replicate X.length u := List.eq_replicate_iff.mpr ⟨rfl, al⟩
        rw (occs := .pos [1]) [eX]
        rw [List.replicate_succ]
        congr 1
        exact (List.replicate_succ' ..).symm
  obtain ⟨u, n, hn, e⟩ := key
  have hu := hg.1 u (by rw [e]; exact List.mem_replicate.mpr ⟨by omega, rfl⟩)
  exact ⟨u, n, hu.1, hu.2, hn, e, by rw [← e]; exact hf⟩
/-- it comes to itself by no number of steps that is less than the early word's length -/
theorem power_turn {u : List Nat} {n k : Nat} (hu : early u = true) (hn : 1 ≤ n) (h1 : 1 ≤ k) (h2 : k < u.length) : (List.replicate n u).flatten < turn (List.replicate n u).flatten k := by
  obtain ⟨m, rfl⟩ : ∃ m, n = m + 1 := ⟨n - 1, by omega⟩
  have s := early_suf hu h1 h2
  rw [List.replicate_succ, List.flatten_cons]
  unfold turn
  rw [List.drop_append_of_le_length (by omega), List.append_assoc]
  exact s.lt _ _
/-- turned and turned again -/
theorem turn_turn {l : List Nat} {a b : Nat} (ha : a ≤ l.length) (hb : b ≤ l.length) : turn (turn l a) b = if a + b ≤ l.length then turn l (a + b) else turn l (a + b - l.length) := by
  unfold turn
  by_cases h : a + b ≤ l.length
  · rw [if_pos h, List.drop_append_of_le_length (by rw [List.length_drop]; omega), List.take_append_of_le_length (by rw [List.length_drop]; omega), List.drop_drop, List.append_assoc]
    congr 1
    rw [List.take_add]
  · rw [if_neg h]
    have e1 : (l.drop a ++ l.take a).drop b = (l.take a).drop (b - (l.length - a)) := by
      rw [List.drop_append, List.length_drop, List.drop_of_length_le (by rw [List.length_drop]; omega), List.nil_append]
    have e2 : (l.drop a ++ l.take a).take b = l.drop a ++ (l.take a).take (b - (l.length - a)) := by
      rw [List.take_append, List.length_drop, List.take_of_length_le (by rw [List.length_drop]; omega)]
    have e3 : b - (l.length - a) = a + b - l.length := by omega
    rw [e1, e2, e3, List.take_take, Nat.min_eq_left (by omega)]
    have e4 : ∀ j, j ≤ a → l.drop j = (l.take a).drop j ++ l.drop a := fun j hj => by
      have q := congrArg (List.drop j) (List.take_append_drop a l)
      rw [List.drop_append_of_le_length (by rw [List.length_take]; omega)] at q
      exact q.symm
    rw [e4 (a + b - l.length) (by omega), List.append_assoc]
theorem min_least {l : List Nat} (h : 1 ≤ l.length) : ∀ k, k < (minT (turns l)).length → ¬ turn (minT (turns l)) k < minT (turns l) := fun k hk g => by
  have hne : turns l ≠ [] := fun z => by
    have := congrArg List.length z
    rw [turns_len] at this
    have q : l.length = 0 := this
    omega
  obtain ⟨a, ha, e⟩ := List.mem_map.mp (minT_mem hne)
  have ha := List.mem_range.mp ha
  have e : turn l a = minT (turns l) := e
  have hlen : (minT (turns l)).length = l.length := by rw [← e, turn_len]
  have hm : turn (minT (turns l)) k ∈ turns l := by
    rw [← e, turn_turn (by omega) (by omega)]
    by_cases z : a + k ≤ l.length
    · rw [if_pos z]
      by_cases y : a + k = l.length
      · rw [y]
        refine List.mem_map.mpr ⟨0, List.mem_range.mpr (by omega), ?_⟩
        show turn l 0 = turn l l.length
        simp [turn]
      · exact List.mem_map.mpr ⟨a + k, List.mem_range.mpr (by omega), rfl⟩
    · rw [if_neg z]
      exact List.mem_map.mpr ⟨a + k - l.length, List.mem_range.mpr (by omega), rfl⟩
  exact minT_le _ hm g
end Rw
namespace Rw
/-! the early word behind an early word -/
/-- a beginning of w again and again -/
def PreW (w x : List Nat) : Prop := ∃ (m : Nat) (t : List Nat), (List.replicate m w).flatten = x ++ t
theorem Sl.ext {a b : List Nat} (h : Sl a b) (u v : List Nat) : Sl (a ++ u) (b ++ v) := by
  obtain ⟨p, c, d, s, t, rfl, rfl, q⟩ := h
  exact ⟨p, c, d, s ++ u, t ++ v, by simp, by simp, q⟩
theorem not_sl_pre {a b : List Nat} : ¬ Sl a (a ++ b) := fun ⟨p, c, d, s, t, e1, e2, q⟩ => by
  subst e1
  have e : c :: (s ++ b) = d :: t := by
    have z : p ++ (c :: (s ++ b)) = p ++ d :: t := by rw [← e2]; simp
    exact List.append_cancel_left z
  have := (List.cons.inj e).1
  omega
theorem not_sl_pre' {a b : List Nat} : ¬ Sl (a ++ b) a := fun ⟨p, c, d, s, t, e1, e2, q⟩ => by
  subst e2
  have e : d :: (t ++ b) = c :: s := by
    have z : p ++ (d :: (t ++ b)) = p ++ c :: s := by rw [← e1]; simp
    exact List.append_cancel_left z
  have := (List.cons.inj e).1
  omega
theorem sl_len {a b : List Nat} (h : a.length = b.length) (g : a < b) : Sl a b := by
  rcases lt_cases g with z | ⟨c, hc, z⟩
  · exact z
  · have := congrArg List.length z
    rw [List.length_append] at this
    exact absurd (List.eq_nil_of_length_eq_zero (by omega)) hc
theorem sl_not_eq {a b : List Nat} (h : Sl a b) : a < b := h.lt0
theorem PreW.nil (w : List Nat) : PreW w [] := ⟨0, [], rfl⟩
theorem PreW.pre {w x y : List Nat} (h : PreW w (x ++ y)) : PreW w x := by
  obtain ⟨m, t, e⟩ := h
  exact ⟨m, y ++ t, by rw [e, List.append_assoc]⟩
/-- two beginnings of the same: one begins with the other -/
theorem pre_two {a b c d : List Nat} (h : a ++ b = c ++ d) (l : a.length ≤ c.length) : ∃ t, c = a ++ t := by
  rcases List.append_eq_append_iff.mp h with ⟨t, h1, _⟩ | ⟨t, h1, _⟩
  · exact ⟨t, h1⟩
  · have := congrArg List.length h1
    rw [List.length_append] at this
    have z : t = [] := List.eq_nil_of_length_eq_zero (by omega)
    rw [z, List.append_nil] at h1
    exact ⟨[], by rw [List.append_nil, h1]⟩
theorem rep_app (w : List Nat) (m k : Nat) : (List.replicate (m + k) w).flatten = (List.replicate m w).flatten ++ (List.replicate k w).flatten := by
  rw [← List.flatten_append, List.replicate_append_replicate]
theorem PreW.two {w x y : List Nat} (h : PreW w x) (k : PreW w y) (l : x.length ≤ y.length) : ∃ t, y = x ++ t := by
  obtain ⟨m, t, e⟩ := h
  obtain ⟨n, s, f⟩ := k
  have e1 : x ++ (t ++ (List.replicate n w).flatten) = y ++ (s ++ (List.replicate m w).flatten) := by
    rw [← List.append_assoc, ← List.append_assoc, ← e, ← f, ← rep_app, ← rep_app, Nat.add_comm]
  exact pre_two e1 l
theorem PreW.self (w : List Nat) : PreW w w := ⟨1, [], by simp⟩
theorem PreW.not_sl {w x y : List Nat} (h : PreW w x) (k : PreW w y) : ¬ Sl x y := fun s => by
  by_cases l : x.length ≤ y.length
  · obtain ⟨t, rfl⟩ := h.two k l
    exact not_sl_pre s
  · obtain ⟨t, rfl⟩ := k.two h (by omega)
    exact not_sl_pre' s
/-- without its first time -/
theorem PreW.tail {w x : List Nat} (h : PreW w (w ++ x)) (hw : w ≠ []) : PreW w x := by
  obtain ⟨m, t, e⟩ := h
  cases m with
  | zero =>
    have := congrArg List.length e
    simp at this
    exact absurd (List.eq_nil_of_length_eq_zero (by omega)) hw
  | succ m =>
    rw [List.replicate_succ, List.flatten_cons, List.append_assoc] at e
    exact ⟨m, t, List.append_cancel_left e⟩
/-- an early word that is not less parts from it only upwards -/
theorem no_less {w u : List Nat} (hw : w ≠ []) (hu : early u = true) (hle : ¬ u < w) : ∀ (n : Nat) (x : List Nat), x.length ≤ n → PreW w x → ¬ Sl u x
  | 0, x, hn, _, ⟨p, c, d, s, t, _, e, _⟩ => by
    rw [e, List.length_append] at hn
    simp at hn
  | n + 1, x, hn, h, ⟨p, c, d, s, t, e1, e2, q⟩ => by
    have lw : 1 ≤ w.length := by
      cases w with
      | nil => exact absurd rfl hw
      | cons _ _ => exact Nat.le_add_left 1 _
    by_cases l : p.length < w.length
    · have hp : PreW w (p ++ [d]) := PreW.pre (y := t) (by rw [e2] at h; simpa using h)
      obtain ⟨r, er⟩ := hp.two (PreW.self w) (by rw [List.length_append]; exact l)
      refine hle (Sl.lt0 ⟨p, c, d, s, r, e1, ?_, q⟩)
      rw (occs := .pos [1]) [er]
      simp
    · have hp : PreW w p := PreW.pre (y := d :: t) (by rw [← e2]; exact h)
      obtain ⟨p', ep⟩ := (PreW.self w).two hp (by omega)
      have hx : x = w ++ (p' ++ d :: t) := by rw [e2, ep, List.append_assoc]
      have hu' : u = w ++ (p' ++ c :: s) := by rw [e1, ep, List.append_assoc]
      have s1 := early_suf hu (k := w.length) lw (by rw [hu', List.length_append, List.length_append]; simp; omega)
      rw [show u.drop w.length = p' ++ c :: s from by rw [hu', List.drop_left]] at s1
      rw [hx] at h hn
      rw [List.length_append] at hn
      exact no_less hw hu hle n _ (by omega) (h.tail hw) (s1.trans ⟨p', c, d, s, t, rfl, rfl, q⟩)
/-- no ending of a beginning is less than a beginning -/
theorem suf_ge {w : List Nat} (hw : w ≠ []) (he : early w = true) : ∀ (n : Nat) (x : List Nat), x.length ≤ n → PreW w x → ∀ (k : Nat) (y : List Nat), PreW w y → ¬ Sl (x.drop k) y
  | 0, x, hn, _, k, y, _, ⟨p, c, d, s, t, e, _, _⟩ => by
    have := congrArg List.length e
    rw [List.length_drop, List.length_append] at this
    simp at this
    omega
  | n + 1, x, hn, h, k, y, hy, sl => by
    have lw : 1 ≤ w.length := by
      cases w with
      | nil => exact absurd rfl hw
      | cons _ _ => exact Nat.le_add_left 1 _
    by_cases l : w.length ≤ x.length
    · obtain ⟨x', ex⟩ := (PreW.self w).two h l
      rw [ex] at h hn sl
      rw [List.length_append] at hn
      by_cases hk : w.length ≤ k
      · rw [List.drop_append, List.drop_of_length_le hk, List.nil_append] at sl
        exact suf_ge hw he n x' (by omega) (h.tail hw) (k - w.length) y hy sl
      · by_cases k0 : k = 0
        · rw [k0, List.drop_zero] at sl
          exact h.not_sl hy sl
        · have s1 := early_suf he (k := k) (by omega) (by omega)
          rw [List.drop_append_of_le_length (by omega)] at sl
          have s2 := (s1.ext [] x').trans sl
          rw [List.append_nil] at s2
          exact (PreW.self w).not_sl hy s2
    · obtain ⟨t, et⟩ := h.two (PreW.self w) (by omega)
      by_cases k0 : k = 0
      · rw [k0, List.drop_zero] at sl
        exact h.not_sl hy sl
      · by_cases hk : k < x.length
        · have s1 := early_suf he (k := k) (by omega) (by omega)
          have ed : w.drop k = x.drop k ++ t := by
            rw (occs := .pos [1]) [et]
            exact List.drop_append_of_le_length (by omega)
          rw [ed] at s1
          have s2 := sl.ext t []
          rw [List.append_nil] at s2
          exact (PreW.self w).not_sl hy (s1.trans s2)
        · rw [List.drop_of_length_le (by omega)] at sl
          obtain ⟨p, c, d, s, t, e, _, _⟩ := sl
          simp at e
/-- the last sign raised: early -/
theorem up_early {w y : List Nat} {a b : Nat} (hw : w ≠ []) (he : early w = true) (h : PreW w (y ++ [a])) (hab : a < b) : early (y ++ [b]) = true := by
  refine suf_early fun k k1 k2 => ?_
  rw [List.length_append] at k2
  have k2 : k < y.length + 1 := k2
  rw [List.drop_append_of_le_length (by omega)]
  have ge := suf_ge hw he _ _ (Nat.le_refl _) h k
  rw [List.drop_append_of_le_length (by omega)] at ge
  have ls : (y.drop k).length + 1 ≤ y.length := by rw [List.length_drop]; omega
  have hp : PreW w (y.take ((y.drop k).length + 1)) := PreW.pre (y := y.drop ((y.drop k).length + 1) ++ [a]) (by rw [← List.append_assoc, List.take_append_drop]; exact h)
  have lp : (y.take ((y.drop k).length + 1)).length = (y.drop k).length + 1 := by rw [List.length_take]; omega
  have sb : Sl (y.drop k ++ [a]) (y.drop k ++ [b]) := ⟨y.drop k, a, b, [], [], rfl, rfl, hab⟩
  have key : Sl (y.take ((y.drop k).length + 1)) (y.drop k ++ [b]) := by
    rcases tri (y.take ((y.drop k).length + 1)) (y.drop k ++ [a]) with g | g | g
    · exact (sl_len (by rw [lp, List.length_append]; rfl) g).trans sb
    · rw [g]
      exact sb
    · exact absurd (sl_len (by rw [lp, List.length_append]; rfl) g) (ge _ hp)
  have z := key.ext (y.drop ((y.drop k).length + 1) ++ [b]) []
  rw [← List.append_assoc, List.take_append_drop, List.append_nil] at z
  exact z
/-- an early word that comes behind w and is no longer than x parts from x upwards -/
theorem behind {w u x : List Nat} (hw : w ≠ []) (hu : early u = true) (hlt : w < u) (hx : PreW w x) (hl : u.length ≤ x.length) (hwx : w.length ≤ x.length) : Sl x u := by
  have hle : ¬ u < w := fun z => lt_asym z hlt
  have n1 := no_less hw hu hle _ x (Nat.le_refl _) hx
  -- u is no beginning of it
  have n2 : ¬ PreW w u := fun h => by
    by_cases l : w.length ≤ u.length
    · obtain ⟨t, et⟩ := (PreW.self w).two h l
      have ht : t ≠ [] := fun z => by
        rw [z, List.append_nil] at et
        rw [et] at hlt
        exact lt_irr hlt
      have lw : 1 ≤ w.length := by
        cases w with
        | nil => exact absurd rfl hw
        | cons _ _ => exact Nat.le_add_left 1 _
      have lt : 1 ≤ t.length := by
        cases t with
        | nil => exact absurd rfl ht
        | cons _ _ => exact Nat.le_add_left 1 _
      have s1 := early_suf hu (k := w.length) lw (by rw [et, List.length_append]; omega)
      rw [show u.drop w.length = t from by rw [et, List.drop_left]] at s1
      rw [et] at h
      exact no_less hw hu hle _ t (Nat.le_refl _) (h.tail hw) s1
    · obtain ⟨t, et⟩ := h.two (PreW.self w) (by omega)
      refine hle ?_
      rw [et]
      refine pre_lt u fun z => ?_
      rw [z, List.append_nil] at et
      rw [et] at l
      omega
  rcases tri x u with g | g | g
  · rcases lt_cases g with z | ⟨c, hc, z⟩
    · exact z
    · have := congrArg List.length z
      rw [List.length_append] at this
      exact absurd (List.eq_nil_of_length_eq_zero (by omega)) hc
  · exact absurd (g ▸ hx) n2
  · rcases lt_cases g with z | ⟨c, hc, z⟩
    · exact absurd z n1
    · rw [z] at hx
      exact absurd hx.pre n2
/-- and so is not less than the raised one -/
theorem next_least {w u y : List Nat} {a b z m : Nat} (hw : w ≠ []) (hu : early u = true) (hlt : w < u) (hx : PreW w (y ++ a :: List.replicate m z)) (hl : u.length ≤ (y ++ a :: List.replicate m z).length)
    (hwx : w.length ≤ (y ++ a :: List.replicate m z).length) (hz : ∀ c ∈ u, c ≤ z) (hb : ∀ c ∈ u, a < c → b ≤ c) : ¬ u < y ++ [b] := fun g => by
  obtain ⟨p, e, f, s, t, e1, e2, q⟩ := behind hw hu hlt hx hl hwx
  have hf : f ∈ u := by rw [e2]; exact List.mem_append_right _ List.mem_cons_self
  rcases List.append_eq_append_iff.mp e1 with ⟨r, h1, h2⟩ | ⟨r, h1, h2⟩
  · -- p = y ++ r
    cases r with
    | nil =>
      have h3 := List.cons.inj h2
      rw [List.append_nil] at h1
      subst h1
      have ef : b ≤ f := hb f hf (by rw [h3.1]; exact q)
      rw [e2] at g
      have g2 := cancel g
      rcases List.cons_lt_cons_iff.mp g2 with k | ⟨_, k⟩
      · omega
      · exact List.not_lt_nil _ k
    | cons r0 r =>
      have h3 := (List.cons.inj h2).2
      have he : e ∈ List.replicate m z := by rw [h3]; exact List.mem_append_right _ List.mem_cons_self
      have := (List.mem_replicate.mp he).2
      have := hz f hf
      omega
  · -- y = p ++ r
    cases r with
    | nil =>
      have h3 := List.cons.inj h2
      rw [List.append_nil] at h1
      subst h1
      have ef : b ≤ f := hb f hf (by rw [← h3.1]; exact q)
      rw [e2] at g
      have g2 := cancel g
      rcases List.cons_lt_cons_iff.mp g2 with k | ⟨_, k⟩
      · omega
      · exact List.not_lt_nil _ k
    | cons r0 r =>
      have h3 := (List.cons.inj h2).1
      rw [e2, h1, List.append_assoc] at g
      have g2 := cancel g
      rcases List.cons_lt_cons_iff.mp g2 with k | ⟨k, _⟩ <;> omega
/-- nothing comes behind where all that is left is the last sign -/
theorem next_none {w u : List Nat} {z m : Nat} (hw : w ≠ []) (hu : early u = true) (hlt : w < u) (hx : PreW w (List.replicate m z)) (hl : u.length ≤ m) (hwx : w.length ≤ m) (hz : ∀ c ∈ u, c ≤ z) : False := by
  obtain ⟨p, e, f, s, t, e1, e2, q⟩ := behind hw hu hlt hx (by rw [List.length_replicate]; exact hl) (by rw [List.length_replicate]; exact hwx)
  have he : e ∈ List.replicate m z := by rw [e1]; exact List.mem_append_right _ List.mem_cons_self
  have := (List.mem_replicate.mp he).2
  have := hz f (by rw [e2]; exact List.mem_append_right _ List.mem_cons_self)
  omega
end Rw
namespace Rw
/-! two early words, roots, borders and beats -/
theorem len_pos {l : List Nat} (h : l ≠ []) : 1 ≤ l.length := by
  cases l with
  | nil => exact absurd rfl h
  | cons _ _ => exact Nat.le_add_left 1 _
theorem Sl.under (p : List Nat) {a b : List Nat} (h : Sl a b) : Sl (p ++ a) (p ++ b) := by
  obtain ⟨q, c, d, s, t, rfl, rfl, g⟩ := h
  exact ⟨p ++ q, c, d, s, t, by simp, by simp, g⟩
/-- the less ahead: early -/
theorem early_app {u v : List Nat} (hu : early u = true) (hv : early v = true) (nu : u ≠ []) (h : u < v) : early (u ++ v) = true := by
  have lu := len_pos nu
  have key : Sl (u ++ v) v := by
    rcases lt_cases h with z | ⟨c, hc, z⟩
    · have := z.ext v []
      rwa [List.append_nil] at this
    · have lc := len_pos hc
      have s := early_suf hv (k := u.length) lu (by rw [z, List.length_append]; omega)
      rw [show v.drop u.length = c from by rw [z, List.drop_left]] at s
      have := Sl.under u s
      rw [← z] at this
      exact this
  refine suf_early fun k k1 k2 => ?_
  rw [List.length_append] at k2
  by_cases g : k < u.length
  · rw [List.drop_append_of_le_length (by omega)]
    exact (early_suf hu k1 g).ext _ _
  · rw [List.drop_append, List.drop_of_length_le (by omega), List.nil_append]
    by_cases e : k = u.length
    · rw [e, Nat.sub_self, List.drop_zero]
      exact key
    · exact key.trans (early_suf hv (by omega) (by omega))
theorem early_twice {u : List Nat} (nu : u ≠ []) : early (u ++ u) = false := by
  cases h : early (u ++ u) with
  | false => rfl
  | true =>
    have lu := len_pos nu
    have s := early_suf h (k := u.length) lu (by rw [List.length_append]; omega)
    rw [List.drop_left] at s
    exact (not_sl_pre' s).elim
/-- some times the first d signs -/
def again (l : List Nat) (d : Nat) : Prop := 1 ≤ d ∧ d ≤ l.length ∧ ∃ n, (List.replicate n (l.take d)).flatten = l
theorem flat_len (n : Nat) (u : List Nat) : (List.replicate n u).flatten.length = n * u.length := by simp
theorem again_turn {l : List Nat} {d : Nat} (h : again l d) : turn l d = l := by
  obtain ⟨h1, h2, n, e⟩ := h
  have ld : (l.take d).length = d := by rw [List.length_take]; omega
  generalize l.take d = r at e ld
  cases n with
  | zero =>
    rw [← e] at h2
    simp at h2
    omega
  | succ n =>
    rw [List.replicate_succ, List.flatten_cons] at e
    rw [← e, ← ld]
    rw (occs := .pos [2]) [← List.flatten_cons]
    rw [turn_app]
    rw [← List.replicate_succ, List.replicate_succ', List.flatten_append]
    simp
/-- of an early word some times, none shorter is it again and again -/
theorem again_early {u : List Nat} {n d : Nat} (hu : early u = true) (nu : u ≠ []) (hn : 1 ≤ n) : again (List.replicate n u).flatten u.length ∧ (again (List.replicate n u).flatten d → u.length ≤ d) := by
  have lu := len_pos nu
  constructor
  · refine ⟨lu, ?_, n, ?_⟩
    · rw [flat_len]
      exact Nat.le_mul_of_pos_left _ hn
    · obtain ⟨m, rfl⟩ : ∃ m, n = m + 1 := ⟨n - 1, by omega⟩
      have e : (List.replicate (m + 1) u).flatten.take u.length = u := by
        rw [List.replicate_succ, List.flatten_cons, List.take_left]
      rw [e]
  · intro h
    by_cases g : u.length ≤ d
    · exact g
    · have p := power_turn (k := d) hu hn h.1 (by omega)
      rw [again_turn h] at p
      exact (lt_irr p).elim
end Rw
namespace Rw
open PySem PySem.Spec PyProof.Rows L2
/-! tuples, and lists of tuples, of numbers and texts: ==, != -/
abbrev Fl := Int ⊕ List Nat
def flV : Fl → V
  | .inl i => .int i
  | .inr l => tv l
def flD : Fl → PyData
  | .inl i => .int i
  | .inr l => .str (T l)
def FlOk : Fl → Prop
  | .inl _ => True
  | .inr l => Ok l
theorem dp_fl1 {K : PySem.W.Frag} {H : Hp} (x : Fl) : Dp K H (flV x) (flD x) := by
  cases x with
  | inl i => exact .int i
  | inr l => exact .str (T l)
theorem dp_fl {K : PySem.W.Frag} {H : Hp} : ∀ xs : List Fl, DpAll K H (xs.map flV) (xs.map flD)
  | [] => .nil
  | x :: r => .cons (dp_fl1 x) (dp_fl r)
theorem eqv_fl1 (x y : Fl) : PyData.eqv (flD x) (flD y) = decide (x = y) := by
  cases x with
  | inl i =>
    cases y with
    | inl j =>
      show (i == j) = _
      rw [Bool.eq_iff_iff, beq_iff_eq, decide_eq_true_eq]
      simp
    | inr m => exact (decide_eq_false (fun h => nomatch h)).symm
  | inr l =>
    cases y with
    | inl j => exact (decide_eq_false (fun h => nomatch h)).symm
    | inr m =>
      show (T l == T m) = _
      rw [T_beq]
      exact decide_eq_decide.mpr (by simp)
theorem eqv_fl : ∀ xs ys : List Fl, PyData.eqvAll (xs.map flD) (ys.map flD) = decide (xs = ys)
  | [], [] => rfl
  | [], _ :: _ => rfl
  | _ :: _, [] => rfl
  | x :: xs, y :: ys => by
    rw [List.map_cons, List.map_cons]
    unfold PyData.eqvAll
    rw [eqv_fl xs ys, eqv_fl1]
    by_cases h1 : x = y <;> by_cases h2 : xs = ys <;> simp [h1, h2]
theorem can_str {a : List Nat} (h : Ok a) : PyData.canLay0 (.str (T a)) = true := by
  unfold PyData.canLay0
  show Array.all _ _ = true
  simp only [T, List.size_toArray, List.all_toArray', List.all_eq_true]
  intro c hc
  exact decide_eq_true (h c hc)
theorem can_fl : ∀ xs : List Fl, (∀ x ∈ xs, FlOk x) → PyData.canLayAll0 (xs.map flD) = true
  | [], _ => rfl
  | x :: r, h => by
    rw [List.map_cons]
    unfold PyData.canLayAll0
    rw [can_fl r fun y hy => h y (List.mem_cons_of_mem _ hy), Bool.and_true]
    have hx := h x List.mem_cons_self
    cases x with
    | inl i => rfl
    | inr l => exact can_str hx
theorem depth_fl : ∀ xs : List Fl, PyData.depthAll (xs.map flD) ≤ 1
  | [] => by decide
  | x :: r => by
    rw [List.map_cons]
    unfold PyData.depthAll
    refine Nat.max_le.mpr ⟨?_, depth_fl r⟩
    cases x with
    | inl i => first | decide | (show PyData.depth (.int _) ≤ 1; unfold PyData.depth; decide)
    | inr l => first | decide | (show PyData.depth (.str _) ≤ 1; unfold PyData.depth; decide)
theorem shaped_fl (xs : List Fl) (h : ∀ x ∈ xs, FlOk x) : SeqAt.shaped (.tuple (xs.map flD)) = true := by
  unfold SeqAt.shaped
  rw [Bool.and_eq_true]
  constructor
  · unfold PyData.canLay0
    exact can_fl xs h
  · refine decide_eq_true ?_
    unfold PyData.depth
    have := depth_fl xs
    omega
def rEqTF (K : PySem.W.Frag) (neg : Bool) : R2 := fun x y H Q => ∃ (p q : Addr) (xs ys : List Fl), x = .ref p ∧ y = .ref q ∧ SqT K H p (xs.map flV) ∧ SqT K H q (ys.map flV) ∧ (∀ x ∈ xs, FlOk x) ∧ (∀ y ∈ ys, FlOk y) ∧ Q (.bl (if neg then !decide (xs = ys) else decide (xs = ys))) H
theorem eqv_tups (xs ys : List Fl) : PyData.eqv (.tuple (xs.map flD)) (.tuple (ys.map flD)) = decide (xs = ys) := by
  unfold PyData.eqv
  exact eqv_fl xs ys
section
variable {X : Cx}
theorem op_eqTF (hu : X.A.units + 64 < cLine) : OpR X (compareOp .Eq) (rEqTF X.K false) := fun pins s σ H x y v u Q I rx ry ⟨p, q, a, b, e1, e2, h1, h2, o1, o2, k⟩ =>
  op_eqD hu pins s σ H x y v u Q I rx ry ⟨_, _, by rw [e1]; exact .tup h1 (dp_fl a), by rw [e2]; exact .tup h2 (dp_fl b), shaped_fl a o1, shaped_fl b o2, by rw [eqv_tups]; exact k⟩
theorem op_neTF (hu : X.A.units + 64 < cLine) : OpR X (compareOp .NotEq) (rEqTF X.K true) := fun pins s σ H x y v u Q I rx ry ⟨p, q, a, b, e1, e2, h1, h2, o1, o2, k⟩ =>
  op_neD hu pins s σ H x y v u Q I rx ry ⟨_, _, by rw [e1]; exact .tup h1 (dp_fl a), by rw [e2]; exact .tup h2 (dp_fl b), shaped_fl a o1, shaped_fl b o2, by rw [eqv_tups]; exact k⟩
end
theorem fl_two {a : List Nat} {i : Int} (h : Ok a) : ∀ x ∈ ([.inr a, .inl i] : List Fl), FlOk x := fun x hx => by
  simp only [List.mem_cons, List.not_mem_nil, or_false] at hx
  rcases hx with rfl | rfl
  · exact h
  · exact True.intro
end Rw
namespace Rw
/-- a border is what is left where it beats -/
def isBorder (l : List Nat) (k : Nat) : Prop := l.take k = l.drop (l.length - k)
def beats (l : List Nat) (p : Nat) : Prop := ∀ i a b, l[i]? = some a → l[i + p]? = some b → a = b
theorem border_beats {l : List Nat} {p : Nat} (hp : p ≤ l.length) : beats l p ↔ isBorder l (l.length - p) := by
  have e : l.length - (l.length - p) = p := by omega
  unfold isBorder
  rw [e]
  constructor
  · intro h
    refine List.ext_getElem? fun i => ?_
    by_cases hi : i < l.length - p
    · rw [List.getElem?_take_of_lt hi, List.getElem?_drop]
      have h1 : l[i]? = some l[i] := List.getElem?_eq_getElem (by omega)
      have h2 : l[p + i]? = some l[p + i] := List.getElem?_eq_getElem (by omega)
      rw [h1, h2]
      exact congrArg some (h i _ _ h1 (by rw [Nat.add_comm]; exact h2))
    · rw [List.getElem?_eq_none (by rw [List.length_take]; omega), List.getElem?_eq_none (by rw [List.length_drop]; omega)]
  · intro h i a b ha hb
    have hi : i + p < l.length := (List.getElem?_eq_some_iff.mp hb).1
    have q := congrArg (fun x => x[i]?) h
    rw [List.getElem?_take_of_lt (by omega), List.getElem?_drop, ha, Nat.add_comm p i, hb] at q
    exact Option.some.inj q
instance (l : List Nat) (k : Nat) : Decidable (isBorder l k) := by unfold isBorder; exact inferInstance
def bordersOf (l : List Nat) : List Nat := ((List.range (l.length - 1)).map (1 + ·)).filter fun k => decide (isBorder l k)
theorem mem_borders {l : List Nat} {k : Nat} : k ∈ bordersOf l ↔ (1 ≤ k ∧ k < l.length) ∧ isBorder l k := by
  unfold bordersOf
  rw [List.mem_filter, decide_eq_true_eq, List.mem_map]
  constructor
  · rintro ⟨⟨i, hi, rfl⟩, h⟩
    have := List.mem_range.mp hi
    exact ⟨⟨by omega, by omega⟩, h⟩
  · rintro ⟨⟨h1, h2⟩, h⟩
    exact ⟨⟨k - 1, List.mem_range.mpr (by omega), by omega⟩, h⟩
def beatOf (l : List Nat) : Nat := l.length - (bordersOf l).foldl max 0
theorem foldMax_le : ∀ (ns : List Nat) (n : Nat), n ≤ ns.foldl max n ∧ ∀ k ∈ ns, k ≤ ns.foldl max n
  | [], n => ⟨Nat.le_refl _, fun k h => (List.not_mem_nil h).elim⟩
  | m :: r, n => by
    obtain ⟨i1, i2⟩ := foldMax_le r (max n m)
    rw [List.foldl_cons]
    refine ⟨by omega, fun k hk => ?_⟩
    rcases List.mem_cons.mp hk with e | e
    · omega
    · exact i2 k e
theorem foldMax_mem : ∀ (ns : List Nat) (n : Nat), ns.foldl max n = n ∨ ns.foldl max n ∈ ns
  | [], n => .inl rfl
  | m :: r, n => by
    rw [List.foldl_cons]
    rcases foldMax_mem r (max n m) with e | e
    · rw [e]
      by_cases h : n ≤ m
      · exact .inr (by rw [Nat.max_eq_right h]; exact List.mem_cons_self)
      · exact .inl (Nat.max_eq_left (by omega))
    · exact .inr (List.mem_cons_of_mem _ e)
theorem beat_spec {l : List Nat} (h : 1 ≤ l.length) : 1 ≤ beatOf l ∧ beatOf l ≤ l.length ∧ beats l (beatOf l) ∧ ∀ p, 1 ≤ p → beats l p → beatOf l ≤ p := by
  have key : ∀ p, 1 ≤ p → p < l.length → beats l p → l.length - p ≤ (bordersOf l).foldl max 0 := fun p h1 h2 hb =>
    (foldMax_le _ 0).2 _ (mem_borders.mpr ⟨⟨by omega, by omega⟩, (border_beats (by omega)).mp hb⟩)
  have key2 : ∀ p, 1 ≤ p → beats l p → beatOf l ≤ p := fun p h1 hb => by
    unfold beatOf
    by_cases g : p < l.length
    · have := key p h1 g hb
      omega
    · omega
  rcases foldMax_mem (bordersOf l) 0 with e | e
  · have eb : beatOf l = l.length := by unfold beatOf; omega
    refine ⟨by omega, by omega, ?_, key2⟩
    rw [eb]
    intro i a b _ hb
    have := (List.getElem?_eq_some_iff.mp hb).1
    omega
  · obtain ⟨⟨h1, h2⟩, hb⟩ := mem_borders.mp e
    refine ⟨by unfold beatOf; omega, by unfold beatOf; omega, ?_, key2⟩
    refine (border_beats (by unfold beatOf; omega)).mpr ?_
    have e2 : l.length - beatOf l = (bordersOf l).foldl max 0 := by unfold beatOf; omega
    rw [e2]
    exact hb
/-- whether each sign comes again so many places on, looked for -/
def beatsB (l : List Nat) (p : Nat) : Bool := decide ((List.range (l.length - p)).filter (fun k => !decide (l[k]? = l[k + p]?)) = [])
theorem beatsB_iff {l : List Nat} {p : Nat} : beatsB l p = true ↔ beats l p := by
  unfold beatsB beats
  rw [decide_eq_true_eq, List.filter_eq_nil_iff]
  constructor
  · intro h i a b ha hb
    have hi := (List.getElem?_eq_some_iff.mp hb).1
    have := h i (List.mem_range.mpr (by omega))
    rw [ha, hb] at this
    simpa using this
  · intro h k hk
    have hk := List.mem_range.mp hk
    have e1 : l[k]? = some l[k] := List.getElem?_eq_getElem (by omega)
    have e2 : l[k + p]? = some l[k + p] := List.getElem?_eq_getElem (by omega)
    have := h k _ _ e1 e2
    rw [e1, e2, this]
    simp
theorem first_filter {n m : Nat} {f : Nat → Bool} (h1 : 1 ≤ m) (h2 : m ≤ n) (hm : f m = true) (hl : ∀ p, 1 ≤ p → f p = true → m ≤ p) : (((List.range n).map (1 + ·)).filter f)[0]? = some m := by
  rw [← List.head?_eq_getElem?, List.head?_filter, List.find?_map]
  have e : (List.range n).find? (f ∘ (1 + ·)) = some (m - 1) := by
    rw [List.find?_range_eq_some]
    refine ⟨?_, List.mem_range.mpr (by omega), fun j hj => ?_⟩
    · show f (1 + (m - 1)) = true
      rw [show 1 + (m - 1) = m from by omega]
      exact hm
    · show (!f (1 + j)) = true
      cases g : f (1 + j) with
      | false => rfl
      | true =>
        have := hl _ (by omega) g
        omega
  rw [e]
  show some (1 + (m - 1)) = some m
  rw [show 1 + (m - 1) = m from by omega]
theorem first_beat {l : List Nat} (h : 1 ≤ l.length) : (((List.range l.length).map (1 + ·)).filter (beatsB l))[0]? = some (beatOf l) := by
  obtain ⟨b1, b2, b3, b4⟩ := beat_spec h
  exact first_filter b1 b2 (beatsB_iff.mpr b3) fun p hp hb => b4 p hp (beatsB_iff.mp hb)
end Rw
namespace Rw
/-! the root, by the beat -/
theorem beats_sub {l : List Nat} {p q : Nat} (hp : beats l p) (hq : beats l q) (h : p < q) (hn : p + q ≤ l.length) : beats l (q - p) := by
  intro i a b ha hb
  have hi := (List.getElem?_eq_some_iff.mp hb).1
  by_cases g : p ≤ i
  · -- one place back, then on
    have h1 : l[i - p]? = some l[i - p] := List.getElem?_eq_getElem (by omega)
    have e1 := hp (i - p) _ a h1 (by rw [show i - p + p = i from by omega]; exact ha)
    have e2 := hq (i - p) _ b h1 (by rw [show i - p + q = i + (q - p) from by omega]; exact hb)
    rw [← e1, ← e2]
  · have h1 : l[i + q]? = some l[i + q] := List.getElem?_eq_getElem (by omega)
    have e1 := hq i a _ ha h1
    have e2 := hp (i + (q - p)) b _ hb (by rw [show i + (q - p) + p = i + q from by omega]; exact h1)
    rw [e1, e2]
theorem beat_dvd {l : List Nat} (h : 1 ≤ l.length) : ∀ (m q : Nat), q ≤ m → 1 ≤ q → beats l q → beatOf l + q ≤ l.length → beatOf l ∣ q
  | 0, q, hm, h1, _, _ => by omega
  | m + 1, q, hm, h1, hb, hn => by
    obtain ⟨b1, b2, b3, b4⟩ := beat_spec h
    have hle := b4 q h1 hb
    by_cases e : beatOf l = q
    · rw [e]
      exact Nat.dvd_refl q
    · have hs := beats_sub b3 hb (by omega) hn
      have hd := beat_dvd h m (q - beatOf l) (by omega) (by omega) hs (by omega)
      have := Nat.dvd_add hd (Nat.dvd_refl (beatOf l))
      rwa [show q - beatOf l + beatOf l = q from by omega] at this
/-- the first d signs again and again -/
def againB (l : List Nat) (d : Nat) : Bool := decide (l.length % d = 0) && decide ((List.replicate (l.length / d) (l.take d)).flatten = l)
theorem flat_rep_len (n : Nat) (u : List Nat) : (List.replicate n u).flatten.length = n * u.length := by simp
theorem rep_beats {u : List Nat} {m : Nat} (hm : 1 ≤ m) : beats (List.replicate m u).flatten u.length := by
  obtain ⟨k, rfl⟩ : ∃ k, m = k + 1 := ⟨m - 1, by omega⟩
  have hl : (List.replicate (k + 1) u).flatten.length = k * u.length + u.length := by
    rw [flat_rep_len, Nat.succ_mul]
  refine (border_beats (by rw [hl]; omega)).mpr ?_
  unfold isBorder
  rw [hl]
  have e : k * u.length + u.length - (k * u.length + u.length - u.length) = u.length := by omega
  have e2 : k * u.length + u.length - u.length = (List.replicate k u).flatten.length := by rw [flat_rep_len]; omega
  rw [e, e2]
  have t : (List.replicate (k + 1) u).flatten = (List.replicate k u).flatten ++ u := by
    rw [List.replicate_succ', List.flatten_append]
    simp
  have d : (List.replicate (k + 1) u).flatten = u ++ (List.replicate k u).flatten := by
    rw [List.replicate_succ, List.flatten_cons]
  rw (occs := .pos [1]) [t]
  rw [d, List.take_left, List.drop_left]
theorem again_beats {l : List Nat} {d : Nat} (h : 1 ≤ l.length) (hd : 1 ≤ d) (ha : againB l d = true) : beats l d ∧ d ∣ l.length := by
  unfold againB at ha
  rw [Bool.and_eq_true, decide_eq_true_eq, decide_eq_true_eq] at ha
  obtain ⟨h1, h2⟩ := ha
  have hv := Nat.dvd_of_mod_eq_zero h1
  have hle := Nat.le_of_dvd (by omega) hv
  have hlt : (l.take d).length = d := by rw [List.length_take]; omega
  have b := rep_beats (u := l.take d) (m := l.length / d) (Nat.div_pos hle hd)
  rw [h2, hlt] at b
  exact ⟨b, hv⟩
theorem beats_rep : ∀ (m : Nat) (l : List Nat) (d : Nat), 1 ≤ d → l.length = m * d → beats l d → l = (List.replicate m (l.take d)).flatten
  | 0, l, d, _, hl, _ => by
    have : l = [] := List.eq_nil_of_length_eq_zero (by rw [hl]; omega)
    subst this
    rfl
  | m + 1, l, d, hd, hl, hb => by
    have hl' : l.length = m * d + d := by rw [hl, Nat.succ_mul]
    have hb' : beats (l.drop d) d := fun i a b ha hb2 => by
      rw [List.getElem?_drop] at ha hb2
      exact hb (d + i) a b ha (by rw [show d + i + d = d + (i + d) from by omega]; exact hb2)
    have ih := beats_rep m (l.drop d) d hd (by rw [List.length_drop]; omega) hb'
    rw [List.replicate_succ, List.flatten_cons]
    rw (occs := .pos [1]) [← List.take_append_drop d l]
    congr 1
    cases m with
    | zero =>
      have : (l.drop d) = [] := List.eq_nil_of_length_eq_zero (by rw [List.length_drop]; omega)
      rw [this]
      rfl
    | succ m =>
      have et : (l.drop d).take d = l.take d := by
        refine List.ext_getElem? fun i => ?_
        by_cases g : i < d
        · rw [List.getElem?_take_of_lt g, List.getElem?_take_of_lt g, List.getElem?_drop]
          have hm : m * d + d + d = l.length := by rw [hl', Nat.succ_mul]
          have h1 : l[i]? = some l[i] := List.getElem?_eq_getElem (by omega)
          have h2 : l[d + i]? = some l[d + i] := List.getElem?_eq_getElem (by omega)
          rw [h1, h2, hb i _ _ h1 (by rw [Nat.add_comm]; exact h2)]
        · rw [List.getElem?_eq_none (by rw [List.length_take]; omega), List.getElem?_eq_none (by rw [List.length_take]; omega)]
      rw [et] at ih
      exact ih
def rootLen (l : List Nat) : Nat := if 0 < l.length % beatOf l then l.length else beatOf l
theorem rootLen_spec {l : List Nat} (h : 1 ≤ l.length) : 1 ≤ rootLen l ∧ rootLen l ≤ l.length ∧ againB l (rootLen l) = true ∧ ∀ d, 1 ≤ d → againB l d = true → rootLen l ≤ d := by
  obtain ⟨b1, b2, b3, b4⟩ := beat_spec h
  unfold rootLen
  by_cases g : 0 < l.length % beatOf l
  · rw [if_pos g]
    refine ⟨h, Nat.le_refl _, ?_, fun d hd ha => ?_⟩
    · unfold againB
      rw [Nat.mod_self, Nat.div_self h, List.take_length]
      simp
    · obtain ⟨a1, a2⟩ := again_beats h hd ha
      have hle := Nat.le_of_dvd (by omega) a2
      by_cases e : d = l.length
      · omega
      · exfalso
        obtain ⟨m, hm⟩ := a2
        have m2 : 2 ≤ m := by
          rcases m with _ | _ | m
          · omega
          · omega
          · omega
        have : d * 2 ≤ d * m := Nat.mul_le_mul_left d m2
        have hb := b4 d hd a1
        have hd2 := beat_dvd h d d (Nat.le_refl _) hd a1 (by omega)
        have := Nat.mod_eq_zero_of_dvd (Nat.dvd_trans hd2 ⟨m, hm⟩)
        omega
  · rw [if_neg g]
    have g0 : l.length % beatOf l = 0 := by omega
    refine ⟨b1, b2, ?_, fun d hd ha => b4 d hd (again_beats h hd ha).1⟩
    unfold againB
    rw [g0]
    have e := beats_rep (l.length / beatOf l) l (beatOf l) b1 (Nat.div_mul_cancel (Nat.dvd_of_mod_eq_zero g0)).symm b3
    rw [← e]
    simp
theorem first_root {l : List Nat} (h : 1 ≤ l.length) : (((List.range l.length).map (1 + ·)).filter (againB l))[0]? = some (rootLen l) := by
  obtain ⟨b1, b2, b3, b4⟩ := rootLen_spec h
  exact first_filter b1 b2 b3 b4
def rootOf (l : List Nat) : List Nat × Nat := if 0 < l.length % beatOf l then (l, 1) else (l.take (beatOf l), l.length / beatOf l)
theorem rootOf_eq {l : List Nat} (h : 1 ≤ l.length) : rootOf l = (l.take (rootLen l), l.length / rootLen l) := by
  unfold rootOf rootLen
  by_cases g : 0 < l.length % beatOf l
  · rw [if_pos g, if_pos g, List.take_length, Nat.div_self h]
  · rw [if_neg g, if_neg g]
end Rw
namespace Rw
/-! the early word behind an early word, as the program finds it -/
def Sgn (s : List Nat) : Prop := Wd s ∧ s.length ≤ 6 ∧ s.Pairwise (· < ·)
instance (s : List Nat) : Decidable (Sgn s) := by unfold Sgn; exact inferInstance
def Among (l s : List Nat) (n : Nat) : Prop := l.length ≤ n ∧ early l = true ∧ ∀ c ∈ l, c ∈ s
instance (l s : List Nat) (n : Nat) : Decidable (Among l s n) := by unfold Among; exact inferInstance
def fillOf (w : List Nat) (n : Nat) : List Nat := (List.replicate n w).flatten.take n
def stemOf (w s : List Nat) (n : Nat) : List Nat := rstripL (fillOf w n) (s.getLastD 0)
def follow (w s : List Nat) (n : Nat) : Option (List Nat) := match (stemOf w s n).getLast? with
  | none => none
  | some a => some ((stemOf w s n).dropLast ++ [s.getD (s.idxOf a + 1) 0])
theorem rise_last {s : List Nat} (h : s.Pairwise (· < ·)) : ∀ c ∈ s, c ≤ s.getLastD 0 := by
  intro c hc
  have hne : s ≠ [] := List.ne_nil_of_mem hc
  have e := List.dropLast_concat_getLast hne
  have el : s.getLastD 0 = s.getLast hne := by
    rw [List.getLastD_eq_getLast?, List.getLast?_eq_some_getLast hne]
    rfl
  rw [el]
  rw [← e] at hc h
  rcases List.mem_append.mp hc with q | q
  · exact Nat.le_of_lt ((List.pairwise_append.mp h).2.2 c q _ (List.mem_singleton.mpr rfl))
  · exact Nat.le_of_eq (List.mem_singleton.mp q)
theorem rise_next {s : List Nat} (h : s.Pairwise (· < ·)) {a : Nat} (ha : a ∈ s) (hz : a ≠ s.getLastD 0) :
    s.idxOf a + 1 < s.length ∧ s.getD (s.idxOf a + 1) 0 ∈ s ∧ a < s.getD (s.idxOf a + 1) 0 ∧ ∀ c ∈ s, a < c → s.getD (s.idxOf a + 1) 0 ≤ c := by
  have hlt : s.idxOf a < s.length := List.idxOf_lt_length_of_mem ha
  have e : s[s.idxOf a] = a := List.getElem_idxOf hlt
  have mono : ∀ (i j : Nat) (hi : i < s.length) (hj : j < s.length), i < j → s[i] < s[j] := fun i j hi hj hij => List.pairwise_iff_getElem.mp h i j hi hj hij
  have h1 : s.idxOf a + 1 < s.length := by
    by_cases g : s.idxOf a + 1 < s.length
    · exact g
    · exfalso
      have hne : s ≠ [] := List.ne_nil_of_mem ha
      refine hz ?_
      rw [List.getLastD_eq_getLast?, List.getLast?_eq_some_getLast hne, List.getLast_eq_getElem hne]
      show a = s[s.length - 1]
      refine e.symm.trans ?_
      congr 1
      omega
  have eb : s.getD (s.idxOf a + 1) 0 = s[s.idxOf a + 1] := by
    rw [List.getD_eq_getElem?_getD, List.getElem?_eq_getElem h1]
    rfl
  refine ⟨h1, by rw [eb]; exact List.getElem_mem h1, ?_, fun c hc hac => ?_⟩
  · rw [eb]
    have := mono _ _ hlt h1 (Nat.lt_succ_self _)
    rw [e] at this
    exact this
  · rw [eb]
    obtain ⟨j, hj, ec⟩ := List.mem_iff_getElem.mp hc
    by_cases g : s.idxOf a + 1 = j
    · subst g
      exact Nat.le_of_eq ec
    · by_cases g2 : s.idxOf a + 1 < j
      · have := mono _ _ h1 hj g2
        omega
      · exfalso
        by_cases g3 : j = s.idxOf a
        · subst g3
          omega
        · have := mono _ _ hj hlt (by omega)
          omega
theorem fill_spec {w : List Nat} {n : Nat} (hw : w ≠ []) (hn : w.length ≤ n) : (fillOf w n).length = n ∧ PreW w (fillOf w n) ∧ ∀ c ∈ fillOf w n, c ∈ w := by
  have lw : 1 ≤ w.length := by
    cases w with
    | nil => exact absurd rfl hw
    | cons _ _ => exact Nat.le_add_left 1 _
  have lf : (List.replicate n w).flatten.length = n * w.length := by simp
  refine ⟨?_, ⟨n, (List.replicate n w).flatten.drop n, (List.take_append_drop _ _).symm⟩, fun c hc => ?_⟩
  · unfold fillOf
    rw [List.length_take, lf]
    exact Nat.min_eq_left (Nat.le_mul_of_pos_right n lw)
  · obtain ⟨x, hx, hcx⟩ := List.mem_flatten.mp (List.mem_of_mem_take hc)
    rwa [(List.mem_replicate.mp hx).2] at hcx
theorem follow_none {w s : List Nat} {n : Nat} (hs : s.Pairwise (· < ·)) (hw : w ≠ []) (ha : Among w s n) (e : follow w s n = none) : ∀ u, Among u s n → ¬ w < u := by
  intro u hu hlt
  obtain ⟨f1, f2, f3⟩ := fill_spec hw ha.1
  obtain ⟨m, em, _⟩ := rstrip_split (fillOf w n) (s.getLastD 0)
  have e0 : stemOf w s n = [] := by
    unfold follow at e
    cases g : (stemOf w s n).getLast? with
    | none => exact List.getLast?_eq_none_iff.mp g
    | some a => rw [g] at e; cases e
  have e0' : rstripL (fillOf w n) (s.getLastD 0) = [] := e0
  rw [e0', List.nil_append] at em
  have lm := congrArg List.length em
  rw [f1, List.length_replicate] at lm
  rw [em] at f2
  exact next_none hw hu.2.1 hlt f2 (by rw [← lm]; exact hu.1) (by rw [← lm]; exact ha.1) fun c hc => rise_last hs c (hu.2.2 c hc)
theorem follow_some {w s y : List Nat} {n : Nat} (hs : s.Pairwise (· < ·)) (hw : w ≠ []) (ha : Among w s n) (e : follow w s n = some y) :
    y ≠ [] ∧ Among y s n ∧ w < y ∧ ∀ u, Among u s n → w < u → ¬ u < y := by
  obtain ⟨f1, f2, f3⟩ := fill_spec hw ha.1
  obtain ⟨m, em, hl⟩ := rstrip_split (fillOf w n) (s.getLastD 0)
  change fillOf w n = stemOf w s n ++ _ at em
  change ∀ a, (stemOf w s n).getLast? = some a → _ at hl
  unfold follow at e
  cases g : (stemOf w s n).getLast? with
  | none => rw [g] at e; cases e
  | some a =>
    rw [g] at e
    have e := Option.some.inj e
    have hne : stemOf w s n ≠ [] := fun z => by rw [z] at g; cases g
    have est : stemOf w s n = (stemOf w s n).dropLast ++ [a] := by
      have := List.dropLast_concat_getLast hne
      rw [List.getLast?_eq_some_getLast hne] at g
      rw [Option.some.inj g] at this
      exact this.symm
    generalize (stemOf w s n).dropLast = y0 at *
    rw [est] at em
    have has : a ∈ s := ha.2.2 a (f3 a (by rw [em]; simp))
    obtain ⟨r1, r2, r3, r4⟩ := rise_next hs has (hl a g)
    generalize s.getD (s.idxOf a + 1) 0 = b at *
    subst e
    have hp : PreW w (y0 ++ [a]) := PreW.pre (y := List.replicate m (s.getLastD 0)) (by rw [← em]; exact f2)
    have em2 : fillOf w n = y0 ++ a :: List.replicate m (s.getLastD 0) := by rw [em]; simp
    have ln := congrArg List.length em2
    rw [f1, List.length_append, List.length_cons] at ln
    have lenx : (y0 ++ a :: List.replicate m (s.getLastD 0)).length = n := by rw [← em2, f1]
    refine ⟨by simp, ⟨?_, up_early hw ha.2.1 hp r3, ?_⟩, ?_, fun u hu hlt => ?_⟩
    · rw [List.length_append]
      show y0.length + 1 ≤ n
      omega
    · intro c hc
      rcases List.mem_append.mp hc with q | q
      · exact ha.2.2 c (f3 c (by rw [em2]; exact List.mem_append_left _ q))
      · rw [List.mem_singleton.mp q]
        exact r2
    · -- it is behind w
      by_cases l : w.length ≤ y0.length
      · have h0 : PreW w y0 := hp.pre
        obtain ⟨t, et⟩ := (PreW.self w).two h0 l
        rw [et, List.append_assoc]
        exact pre_lt w (by simp)
      · obtain ⟨t, et⟩ := hp.two (PreW.self w) (by rw [List.length_append]; show y0.length + 1 ≤ _; omega)
        refine Sl.lt0 ⟨y0, a, b, t, [], ?_, rfl, r3⟩
        rw [et]
        simp
    · rw [em2] at f2
      exact next_least hw hu.2.1 hlt f2 (by rw [lenx]; exact hu.1) (by rw [lenx]; exact ha.1) (fun c hc => rise_last hs c (hu.2.2 c hc)) fun c hc => r4 c (hu.2.2 c hc)
/-- in a list of all, in order, it is the next one -/
theorem follow_at {s : List Nat} {n : Nat} {due : List (List Nat)} (hs : s.Pairwise (· < ·)) (ho : due.Pairwise fun x y => ¬ y < x) (hn : due.Nodup) (hm : ∀ u, u ∈ due ↔ u ≠ [] ∧ Among u s n) {k : Nat} {w : List Nat} (hk : due[k]? = some w) : due[k + 1]? = follow w s n := by
  have mono : ∀ (i j : Nat) (x y : List Nat), due[i]? = some x → due[j]? = some y → i < j → x < y := fun i j x y hx hy hij => by
    obtain ⟨hi, ex⟩ := List.getElem?_eq_some_iff.mp hx
    obtain ⟨hj, ey⟩ := List.getElem?_eq_some_iff.mp hy
    have h1 := List.pairwise_iff_getElem.mp ho i j hi hj hij
    have h2 := List.pairwise_iff_getElem.mp hn i j hi hj hij
    rw [ex, ey] at h1 h2
    rcases tri x y with q | q | q
    · exact q
    · exact absurd q h2
    · exact absurd q h1
  obtain ⟨w1, w2⟩ := (hm w).mp (List.mem_of_getElem? hk)
  cases e : follow w s n with
  | none =>
    cases g : due[k + 1]? with
    | none => rfl
    | some u =>
      exact absurd (mono _ _ _ _ hk g (Nat.lt_succ_self _)) (follow_none hs w1 w2 e u ((hm u).mp (List.mem_of_getElem? g)).2)
  | some y =>
    obtain ⟨y1, y2, y3, y4⟩ := follow_some hs w1 w2 e
    obtain ⟨j, hj, ej⟩ := List.mem_iff_getElem.mp ((hm y).mpr ⟨y1, y2⟩)
    have ej : due[j]? = some y := by rw [List.getElem?_eq_getElem hj, ej]
    have hkj : k < j := by
      rcases Nat.lt_trichotomy k j with q | q | q
      · exact q
      · subst q
        rw [hk] at ej
        have := Option.some.inj ej
        rw [this] at y3
        exact (lt_irr y3).elim
      · exact (lt_asym y3 (mono _ _ _ _ ej hk q)).elim
    by_cases g : k + 1 = j
    · rw [g, ej]
    · exfalso
      have h1 : k + 1 < due.length := by omega
      have e1 : due[k + 1]? = some due[k + 1] := List.getElem?_eq_getElem h1
      exact y4 _ ((hm _).mp (List.getElem_mem h1)).2 (mono _ _ _ _ hk e1 (Nat.lt_succ_self _)) (mono _ _ _ _ e1 ej (by omega))
/-! all words of some signs -/
def longer (ls : List (List Nat)) (s : List Nat) : List (List Nat) := ls.flatMap fun w => s.map fun c => w ++ [c]
def wordsL (s : List Nat) : Nat → List (List Nat)
  | 0 => [[]]
  | n + 1 => longer (wordsL s n) s
def allE (s : List Nat) (n : Nat) : List (List Nat) := (List.range n).flatMap fun i => (wordsL s (i + 1)).filter early
theorem mem_wordsL {s : List Nat} : ∀ {n : Nat} {u : List Nat}, u ∈ wordsL s n ↔ u.length = n ∧ ∀ c ∈ u, c ∈ s
  | 0, u => by
    unfold wordsL
    rw [List.mem_singleton]
    constructor
    · rintro rfl
      exact ⟨rfl, fun c h => (List.not_mem_nil h).elim⟩
    · exact fun h => List.eq_nil_of_length_eq_zero h.1
  | n + 1, u => by
    unfold wordsL longer
    rw [List.mem_flatMap]
    constructor
    · rintro ⟨w, hw, hu⟩
      obtain ⟨c, hc, rfl⟩ := List.mem_map.mp hu
      obtain ⟨h1, h2⟩ := mem_wordsL.mp hw
      refine ⟨by rw [List.length_append, h1]; rfl, fun d hd => ?_⟩
      rcases List.mem_append.mp hd with q | q
      · exact h2 d q
      · rw [List.mem_singleton.mp q]
        exact hc
    · rintro ⟨h1, h2⟩
      have hne : u ≠ [] := fun z => by rw [z] at h1; cases h1
      have e := List.dropLast_concat_getLast hne
      refine ⟨u.dropLast, mem_wordsL.mpr ⟨by rw [List.length_dropLast]; omega, fun c hc => h2 c (by rw [← e]; exact List.mem_append_left _ hc)⟩, List.mem_map.mpr ⟨u.getLast hne, h2 _ (List.getLast_mem hne), e⟩⟩
theorem len_longer (ls : List (List Nat)) (s : List Nat) : (longer ls s).length = ls.length * s.length := by
  unfold longer
  induction ls with
  | nil => simp
  | cons w r ih =>
    rw [List.flatMap_cons, List.length_append, ih, List.length_map, List.length_cons, Nat.succ_mul, Nat.add_comm]
theorem len_wordsL (s : List Nat) : ∀ n, (wordsL s n).length = s.length ^ n
  | 0 => rfl
  | n + 1 => by
    show (longer (wordsL s n) s).length = _
    rw [len_longer, len_wordsL s n, Nat.pow_succ]
theorem nodup_wordsL {s : List Nat} (h : s.Nodup) : ∀ n, (wordsL s n).Nodup
  | 0 => by
    unfold wordsL
    exact List.pairwise_singleton _ _
  | n + 1 => by
    show (longer (wordsL s n) s).Nodup
    unfold longer
    refine List.pairwise_flatMap.mpr ⟨fun w _ => List.pairwise_map.mpr (h.imp fun hab z => hab ?_), (nodup_wordsL h n).imp fun hab x hx y hy z => hab ?_⟩
    · exact (List.cons.inj (List.append_cancel_left z)).1
    · obtain ⟨c, _, rfl⟩ := List.mem_map.mp hx
      obtain ⟨d, _, rfl⟩ := List.mem_map.mp hy
      exact (List.append_inj' z rfl).1
theorem mem_allE {s : List Nat} {n : Nat} {u : List Nat} : u ∈ allE s n ↔ u ≠ [] ∧ Among u s n := by
  unfold allE
  rw [List.mem_flatMap]
  constructor
  · rintro ⟨i, hi, hu⟩
    obtain ⟨h1, h2⟩ := List.mem_filter.mp hu
    obtain ⟨h3, h4⟩ := mem_wordsL.mp h1
    have := List.mem_range.mp hi
    refine ⟨(fun z => by rw [z] at h3; cases h3), by omega, h2, h4⟩
  · rintro ⟨h0, h1, h2, h3⟩
    have : 1 ≤ u.length := by
      cases u with
      | nil => exact absurd rfl h0
      | cons _ _ => exact Nat.le_add_left 1 _
    exact ⟨u.length - 1, List.mem_range.mpr (by omega), List.mem_filter.mpr ⟨mem_wordsL.mpr ⟨by omega, h3⟩, h2⟩⟩
theorem nodup_allE {s : List Nat} (h : s.Nodup) (n : Nat) : (allE s n).Nodup := by
  unfold allE
  refine List.pairwise_flatMap.mpr ⟨fun i _ => (nodup_wordsL h (i + 1)).filter _, List.nodup_range.imp fun hab x hx y hy z => hab ?_⟩
  have h1 := (mem_wordsL.mp (List.mem_filter.mp hx).1).1
  have h2 := (mem_wordsL.mp (List.mem_filter.mp hy).1).1
  rw [z] at h1
  omega
theorem rise_nodup {s : List Nat} (h : s.Pairwise (· < ·)) : s.Nodup := h.imp fun hab z => by omega
theorem len_allE (s : List Nat) (n : Nat) (h : 1 ≤ s.length) : (allE s n).length ≤ n * s.length ^ n := by
  have key : ∀ k, k ≤ n → ((List.range k).flatMap fun i => (wordsL s (i + 1)).filter early).length ≤ k * s.length ^ n := by
    intro k
    induction k with
    | zero => intro _; simp
    | succ k ih =>
      intro hk
      rw [List.range_succ, List.flatMap_append, List.length_append, Nat.succ_mul]
      have h1 := ih (by omega)
      have h2 : ([k].flatMap fun i => (wordsL s (i + 1)).filter early).length ≤ s.length ^ n := by
        rw [List.flatMap_singleton]
        refine Nat.le_trans (List.length_filter_le _ _) ?_
        rw [len_wordsL]
        exact Nat.pow_le_pow_right h (by omega)
      omega
  exact key n (Nat.le_refl n)
end Rw
namespace Rw
/-! the root of what is least of its turnings -/
theorem again_of {l : List Nat} {d : Nat} (h : 1 ≤ l.length) (hd : 1 ≤ d) (ha : againB l d = true) : again l d := by
  unfold againB at ha
  rw [Bool.and_eq_true, decide_eq_true_eq, decide_eq_true_eq] at ha
  exact ⟨hd, Nat.le_of_dvd (by omega) (Nat.dvd_of_mod_eq_zero ha.1), _, ha.2⟩
theorem of_again {l : List Nat} {d : Nat} (ha : again l d) : againB l d = true := by
  obtain ⟨h1, h2, n, e⟩ := ha
  have hl : (l.take d).length = d := by rw [List.length_take]; omega
  have en := congrArg List.length e
  rw [flat_rep_len, hl] at en
  unfold againB
  rw [← en, Nat.mul_mod_left, Nat.mul_div_left n h1, e]
  simp
theorem least_root {m : List Nat} (h : 1 ≤ m.length) (hl : ∀ k, k < m.length → ¬ turn m k < m) :
    early (m.take (rootLen m)) = true ∧ m.take (rootLen m) ≠ [] ∧ (List.replicate (m.length / rootLen m) (m.take (rootLen m))).flatten = m ∧ piecesOf m = List.replicate (m.length / rootLen m) (m.take (rootLen m)) := by
  obtain ⟨u, n, h1, h2, h3, h4, h5⟩ := least_pieces h hl
  have lu := len_pos h2
  obtain ⟨r1, r2, r3, r4⟩ := rootLen_spec h
  obtain ⟨a1, _⟩ := again_early (d := rootLen m) h1 h2 h3
  have a2 := (again_early (d := rootLen m) h1 h2 h3).2
  rw [h5] at a1 a2
  have e : rootLen m = u.length := Nat.le_antisymm (r4 _ lu (of_again a1)) (a2 (again_of h r1 r3))
  have et : m.take u.length = u := by
    obtain ⟨k, rfl⟩ : ∃ k, n = k + 1 := ⟨n - 1, by omega⟩
    rw [← h5, List.replicate_succ, List.flatten_cons, List.take_left]
  have en : m.length / u.length = n := by
    rw [← h5, flat_rep_len]
    exact Nat.mul_div_left n lu
  rw [e, et, en]
  exact ⟨h1, h2, h5, h4⟩
theorem fill12 {u : List Nat} {n : Nat} (hu : u ≠ []) (hn : n ≤ 12) : (List.replicate 12 u).flatten.take n = fillOf u n := by
  have lu := len_pos hu
  have e : (List.replicate 12 u).flatten = (List.replicate n u).flatten ++ (List.replicate (12 - n) u).flatten := by
    rw [← rep_app]
    congr 2
    omega
  unfold fillOf
  rw [e, List.take_append_of_le_length]
  rw [flat_rep_len]
  exact Nat.le_mul_of_pos_right n lu
end Rw
namespace Rw
/-! how many early words there are -/
def divs (n : Nat) : List Nat := ((List.range n).map (1 + ·)).filter fun d => decide (n % d = 0)
theorem mem_divs {n d : Nat} : d ∈ divs n ↔ 1 ≤ d ∧ d ≤ n ∧ n % d = 0 := by
  unfold divs
  rw [List.mem_filter, decide_eq_true_eq, List.mem_map]
  constructor
  · rintro ⟨⟨i, hi, rfl⟩, h⟩
    have := List.mem_range.mp hi
    exact ⟨by omega, by omega, h⟩
  · rintro ⟨h1, h2, h⟩
    exact ⟨⟨d - 1, List.mem_range.mpr (by omega), by omega⟩, h⟩
theorem nodup_up (n : Nat) : ((List.range n).map (1 + ·)).Nodup := List.pairwise_map.mpr (List.nodup_range.imp fun h z => h (by omega))
theorem nodup_divs (n : Nat) : (divs n).Nodup := (nodup_up n).filter _
/-- early words of just n of these signs -/
def earlyL (s : List Nat) (n : Nat) : List (List Nat) := (wordsL s n).filter early
theorem mem_earlyL {s u : List Nat} {n : Nat} : u ∈ earlyL s n ↔ (u.length = n ∧ ∀ c ∈ u, c ∈ s) ∧ early u = true := by
  unfold earlyL
  rw [List.mem_filter, mem_wordsL]
theorem nodup_earlyL {s : List Nat} (h : s.Nodup) (n : Nat) : (earlyL s n).Nodup := (nodup_wordsL h n).filter _
/-- u again and again is least of its turnings -/
theorem rep_turn {u : List Nat} {t j : Nat} (ht : 1 ≤ t) (h : u.length + j ≤ t * u.length) (hu : u ≠ []) : turn (List.replicate t u).flatten (u.length + j) = turn (List.replicate t u).flatten j := by
  have ln := flat_rep_len t u
  have lu := len_pos hu
  have ha : again (List.replicate t u).flatten u.length := by
    refine ⟨lu, by rw [ln]; exact Nat.le_mul_of_pos_left _ ht, t, ?_⟩
    obtain ⟨k, rfl⟩ : ∃ k, t = k + 1 := ⟨t - 1, by omega⟩
    have e : (List.replicate (k + 1) u).flatten.take u.length = u := by rw [List.replicate_succ, List.flatten_cons, List.take_left]
    rw [e]
  have e := again_turn ha
  have e2 := turn_turn (l := (List.replicate t u).flatten) (a := u.length) (b := j) (by rw [ln]; omega) (by rw [ln]; omega)
  rw [e, if_pos (by rw [ln]; exact h)] at e2
  exact e2.symm
theorem rep_turn_mod {u : List Nat} {t : Nat} (ht : 1 ≤ t) (hu : u ≠ []) : ∀ j, j ≤ t * u.length → turn (List.replicate t u).flatten j = turn (List.replicate t u).flatten (j % u.length) := by
  have lu := len_pos hu
  intro j
  induction j using Nat.strongRecOn with
  | _ j ih =>
    intro hj
    by_cases g : j < u.length
    · rw [Nat.mod_eq_of_lt g]
    · have e := rep_turn (j := j - u.length) ht (by omega) hu
      rw [show u.length + (j - u.length) = j from by omega] at e
      rw [e, ih (j - u.length) (by omega) (by omega), ← Nat.mod_eq_sub_mod (by omega)]
theorem rep_least {u : List Nat} {t : Nat} (ht : 1 ≤ t) (hu : u ≠ []) (he : early u = true) (k : Nat) (hk : k ≤ t * u.length) : ¬ turn (List.replicate t u).flatten k < (List.replicate t u).flatten := by
  have lu := len_pos hu
  rw [rep_turn_mod ht hu k hk]
  by_cases g : k % u.length = 0
  · rw [g]
    unfold turn
    rw [List.drop_zero, List.take_zero, List.append_nil]
    exact fun z => lt_irr z
  · exact fun z => lt_asym z (power_turn he ht (by omega) (Nat.mod_lt _ lu))
/-- the rings of early words lie apart -/
theorem ring_apart {u v : List Nat} {t r i j : Nat} (hu : u ≠ []) (hv : v ≠ []) (eu : early u = true) (ev : early v = true) (ht : 1 ≤ t) (hr : 1 ≤ r) (hn : t * u.length = r * v.length) (hj : j < u.length) (hi : i < v.length)
    (e : turn (List.replicate t u).flatten j = turn (List.replicate r v).flatten i) : u = v ∧ j = i := by
  have lu := flat_rep_len t u
  have lv := flat_rep_len r v
  have l1 : u.length ≤ t * u.length := Nat.le_mul_of_pos_left _ ht
  have l2 : v.length ≤ r * v.length := Nat.le_mul_of_pos_left _ hr
  have m1 := rep_least ht hu eu
  have m2 := rep_least hr hv ev
  have a1 := again_early (u := u) (n := t) (d := v.length) eu hu ht
  have a2 := again_early (u := v) (n := r) (d := u.length) ev hv hr
  have p1 := fun k => power_turn (u := u) (n := t) (k := k) eu ht
  have tu : (List.replicate t u).flatten.take u.length = u := by
    obtain ⟨k, rfl⟩ : ∃ k, t = k + 1 := ⟨t - 1, by omega⟩
    rw [List.replicate_succ, List.flatten_cons, List.take_left]
  have tv' : (List.replicate r v).flatten.take v.length = v := by
    obtain ⟨k, rfl⟩ : ∃ k, r = k + 1 := ⟨r - 1, by omega⟩
    rw [List.replicate_succ, List.flatten_cons, List.take_left]
  generalize (List.replicate t u).flatten = m at *
  generalize (List.replicate r v).flatten = w at *
  -- turned on to its end it is itself
  have back : ∀ (x : List Nat) (a b : Nat), a ≤ x.length → b ≤ x.length → turn (turn x a) b = if a + b ≤ x.length then turn x (a + b) else turn x (a + b - x.length) := fun x a b ha hb => turn_turn ha hb
  have whole : ∀ x : List Nat, turn x x.length = x := fun x => by
    unfold turn
    rw [List.drop_length, List.take_length, List.nil_append]
  have em : ∃ k, k ≤ w.length ∧ m = turn w k := by
    have h1 := back m j (m.length - j) (by omega) (by omega)
    rw [if_pos (by omega), show j + (m.length - j) = m.length from by omega, whole] at h1
    rw [← h1, e, back w i (m.length - j) (by omega) (by omega)]
    by_cases g : i + (m.length - j) ≤ w.length
    · rw [if_pos g]
      exact ⟨_, g, rfl⟩
    · rw [if_neg g]
      exact ⟨_, by omega, rfl⟩
  have ew : ∃ k, k ≤ m.length ∧ w = turn m k := by
    have h1 := back w i (w.length - i) (by omega) (by omega)
    rw [if_pos (by omega), show i + (w.length - i) = w.length from by omega, whole] at h1
    rw [← h1, ← e, back m j (w.length - i) (by omega) (by omega)]
    by_cases g : j + (w.length - i) ≤ m.length
    · rw [if_pos g]
      exact ⟨_, g, rfl⟩
    · rw [if_neg g]
      exact ⟨_, by omega, rfl⟩
  have emw : m = w := by
    obtain ⟨k, hk, e1⟩ := em
    obtain ⟨k2, hk2, e2⟩ := ew
    rcases tri m w with q | q | q
    · rw [e1] at q
      exact absurd q (m2 k (by omega))
    · exact q
    · rw [e2] at q
      exact absurd q (m1 k2 (by omega))
  subst emw
  have ll : u.length = v.length := Nat.le_antisymm (a1.2 a2.1) (a2.2 a1.1)
  have euv : u = v := by rw [← tu, ll, tv']
  refine ⟨euv, ?_⟩
  -- the steps are alike
  have step : ∀ a b, a < b → b < u.length → turn m a = turn m b → False := fun a b hab hb hh => by
    have h1 := back m a (m.length - a) (by omega) (by omega)
    rw [if_pos (by omega), show a + (m.length - a) = m.length from by omega, whole, hh, back m b (m.length - a) (by omega) (by omega), if_neg (by omega)] at h1
    have h2 := p1 (b + (m.length - a) - m.length) (by omega) (by omega)
    rw [h1] at h2
    exact lt_irr h2
  rcases Nat.lt_trichotomy j i with q | q | q
  · exact (step j i q (by omega) e).elim
  · exact q
  · exact (step i j q (by omega) e.symm).elim
/-- all words, as turnings of early words some times -/
def byRings (s : List Nat) (n : Nat) : List (List Nat) := (divs n).flatMap fun d => (earlyL s d).flatMap fun u => (List.range d).map fun j => turn (List.replicate (n / d) u).flatten j
theorem div_pos' {n d : Nat} (h : d ∈ divs n) : 1 ≤ n / d ∧ n / d * d = n := by
  obtain ⟨h1, h2, h3⟩ := mem_divs.mp h
  exact ⟨Nat.div_pos h2 h1, Nat.div_mul_cancel (Nat.dvd_of_mod_eq_zero h3)⟩
theorem nodup_byRings {s : List Nat} (h : s.Nodup) (n : Nat) : (byRings s n).Nodup := by
  unfold byRings
  refine List.pairwise_flatMap.mpr ⟨fun d hd => List.pairwise_flatMap.mpr ⟨fun u hu => List.pairwise_map.mpr ?_, ?_⟩, ?_⟩
  · obtain ⟨⟨h1, _⟩, h3⟩ := mem_earlyL.mp hu
    obtain ⟨p1, p2⟩ := div_pos' hd
    have hd1 := (mem_divs.mp hd).1
    have hne : u ≠ [] := fun z => by rw [z] at h1; simp at h1; omega
    refine List.Pairwise.imp_of_mem ?_ List.nodup_range
    intro i j hi hj hij z
    exact hij (ring_apart hne hne h3 h3 p1 p1 rfl (by rw [h1]; exact List.mem_range.mp hi) (by rw [h1]; exact List.mem_range.mp hj) z).2
  · refine List.Pairwise.imp_of_mem ?_ (nodup_earlyL h d)
    intro u v hu hv huv x hx y hy z
    subst z
    obtain ⟨⟨u1, _⟩, u3⟩ := mem_earlyL.mp hu
    obtain ⟨⟨v1, _⟩, v3⟩ := mem_earlyL.mp hv
    obtain ⟨p1, p2⟩ := div_pos' hd
    have hd1 := (mem_divs.mp hd).1
    obtain ⟨i, hi, e1⟩ := List.mem_map.mp hx
    obtain ⟨j, hj, e2⟩ := List.mem_map.mp hy
    exact huv (ring_apart (fun z => by rw [z] at u1; simp at u1; omega) (fun z => by rw [z] at v1; simp at v1; omega) u3 v3 p1 p1 (by rw [u1, v1]) (by rw [u1]; exact List.mem_range.mp hi) (by rw [v1]; exact List.mem_range.mp hj) (e1.trans e2.symm)).1
  · refine List.Pairwise.imp_of_mem ?_ (nodup_divs n)
    intro d e hd he hde x hx y hy z
    subst z
    obtain ⟨u, hu, hx⟩ := List.mem_flatMap.mp hx
    obtain ⟨v, hv, hy⟩ := List.mem_flatMap.mp hy
    obtain ⟨⟨u1, _⟩, u3⟩ := mem_earlyL.mp hu
    obtain ⟨⟨v1, _⟩, v3⟩ := mem_earlyL.mp hv
    obtain ⟨p1, p2⟩ := div_pos' hd
    obtain ⟨q1, q2⟩ := div_pos' he
    have hd1 := (mem_divs.mp hd).1
    have he1 := (mem_divs.mp he).1
    obtain ⟨i, hi, e1⟩ := List.mem_map.mp hx
    obtain ⟨j, hj, e2⟩ := List.mem_map.mp hy
    have := (ring_apart (fun z => by rw [z] at u1; simp at u1; omega) (fun z => by rw [z] at v1; simp at v1; omega) u3 v3 p1 q1 (by rw [u1, v1, p2, q2]) (by rw [u1]; exact List.mem_range.mp hi) (by rw [v1]; exact List.mem_range.mp hj) (e1.trans e2.symm)).1
    rw [this, v1] at u1
    exact hde u1.symm
/-- a word and its least turning -/
theorem least_form {l : List Nat} (h : 1 ≤ l.length) : ∃ a, a ≤ l.length ∧ minT (turns l) = turn l a ∧ (minT (turns l)).length = l.length ∧ (∀ c ∈ minT (turns l), c ∈ l) ∧ ∀ k, k < (minT (turns l)).length → ¬ turn (minT (turns l)) k < minT (turns l) := by
  have tne : turns l ≠ [] := fun z => by
    have := congrArg List.length z
    rw [turns_len] at this
    have q : l.length = 0 := this
    omega
  obtain ⟨k, hk, em⟩ := List.mem_map.mp (minT_mem tne)
  have em : turn l k = minT (turns l) := em
  have hk := List.mem_range.mp hk
  refine ⟨k, by omega, em.symm, by rw [← em, turn_len], fun c hc => ?_, min_least h⟩
  rw [← em] at hc
  rcases List.mem_append.mp hc with r | r
  · exact List.mem_of_mem_drop r
  · exact List.mem_of_mem_take r
theorem mem_byRings {s : List Nat} {n : Nat} (hn : 1 ≤ n) {w : List Nat} : w ∈ byRings s n ↔ w ∈ wordsL s n := by
  unfold byRings
  rw [List.mem_flatMap, mem_wordsL]
  constructor
  · rintro ⟨d, hd, hw⟩
    obtain ⟨u, hu, hw⟩ := List.mem_flatMap.mp hw
    obtain ⟨j, hj, rfl⟩ := List.mem_map.mp hw
    obtain ⟨⟨u1, u2⟩, _⟩ := mem_earlyL.mp hu
    obtain ⟨_, p2⟩ := div_pos' hd
    refine ⟨by rw [turn_len, flat_rep_len, u1, p2], fun c hc => ?_⟩
    have : c ∈ (List.replicate (n / d) u).flatten := by
      rcases List.mem_append.mp hc with r | r
      · exact List.mem_of_mem_drop r
      · exact List.mem_of_mem_take r
    obtain ⟨x, hx, hcx⟩ := List.mem_flatten.mp this
    rw [(List.mem_replicate.mp hx).2] at hcx
    exact u2 c hcx
  · rintro ⟨h1, h2⟩
    obtain ⟨a, ha, em, ml, mm, least⟩ := least_form (l := w) (by omega)
    have hm1 : 1 ≤ (minT (turns w)).length := by omega
    obtain ⟨r1, r2, r3, _⟩ := rootLen_spec hm1
    obtain ⟨t1, t2, t3, _⟩ := least_root hm1 least
    have hd : rootLen (minT (turns w)) ∈ divs n := mem_divs.mpr ⟨r1, by omega, by
      have := (again_beats hm1 r1 r3).2
      rw [ml, h1] at this
      exact Nat.mod_eq_zero_of_dvd this⟩
    have ul : ((minT (turns w)).take (rootLen (minT (turns w)))).length = rootLen (minT (turns w)) := by rw [List.length_take]; omega
    refine ⟨_, hd, List.mem_flatMap.mpr ⟨(minT (turns w)).take (rootLen (minT (turns w))), mem_earlyL.mpr ⟨⟨ul, fun c hc => h2 c (mm c (List.mem_of_mem_take hc))⟩, t1⟩, ?_⟩⟩
    rw [ml, h1] at t3
    refine List.mem_map.mpr ⟨(n - a) % rootLen (minT (turns w)), List.mem_range.mpr (Nat.mod_lt _ r1), ?_⟩
    obtain ⟨p1, p2⟩ := div_pos' hd
    have e := rep_turn_mod p1 t2 (n - a) (by rw [ul, p2]; omega)
    rw [ul] at e
    rw [← e, t3, em, turn_turn ha (by omega)]
    by_cases g : a + (n - a) ≤ w.length
    · rw [if_pos g, show a + (n - a) = w.length from by omega]
      unfold turn
      rw [List.drop_length, List.take_length, List.nil_append]
    · omega
def cnt (s : List Nat) (d : Nat) : Nat := (earlyL s d).length
theorem sum_map_const {α : Type} (l : List α) (c : Nat) : (l.map fun _ => c).sum = l.length * c := by
  induction l with
  | nil => simp
  | cons x r ih => rw [List.map_cons, List.sum_cons, ih, List.length_cons, Nat.succ_mul, Nat.add_comm]
theorem len_byRings (s : List Nat) (n : Nat) : (byRings s n).length = ((divs n).map fun d => d * cnt s d).sum := by
  unfold byRings
  rw [List.length_flatMap]
  congr 1
  refine List.map_congr_left fun d _ => ?_
  rw [List.length_flatMap]
  have e : ((earlyL s d).map fun u => ((List.range d).map fun j => turn (List.replicate (n / d) u).flatten j).length) = (earlyL s d).map fun _ => d := by
    refine List.map_congr_left fun u _ => ?_
    rw [List.length_map, List.length_range]
  rw [e, sum_map_const, Nat.mul_comm]
  rfl
/-- many to the power of n is the sum of its divisors, each by its early words -/
theorem count_all {s : List Nat} (h : s.Nodup) {n : Nat} (hn : 1 ≤ n) : s.length ^ n = ((divs n).map fun d => d * cnt s d).sum := by
  rw [← len_byRings, ← len_wordsL]
  exact ((List.perm_ext_iff_of_nodup (nodup_wordsL h n) (nodup_byRings h n)).mpr fun w => (mem_byRings hn).symm).length_eq
end Rw
namespace Rw
/-! counts by how many signs alone, rings, turnings that leave alike -/
def propers (n : Nat) : List Nat := ((List.range (n - 1)).map (1 + ·)).filter fun d => decide (n % d = 0)
theorem divs_snoc {n : Nat} (hn : 1 ≤ n) : divs n = propers n ++ [n] := by
  obtain ⟨m, rfl⟩ : ∃ m, n = m + 1 := ⟨n - 1, by omega⟩
  unfold divs propers
  rw [List.range_succ, List.map_append, List.filter_append]
  congr 1
  rw [List.map_singleton, Nat.add_comm 1 m]
  simp
theorem mem_propers {n d : Nat} : d ∈ propers n ↔ 1 ≤ d ∧ d < n ∧ n % d = 0 := by
  unfold propers
  rw [List.mem_filter, decide_eq_true_eq, List.mem_map]
  constructor
  · rintro ⟨⟨i, hi, rfl⟩, h⟩
    have := List.mem_range.mp hi
    exact ⟨by omega, by omega, h⟩
  · rintro ⟨h1, h2, h⟩
    exact ⟨⟨d - 1, List.mem_range.mpr (by omega), by omega⟩, h⟩
theorem count_step {s : List Nat} (h : s.Nodup) {n : Nat} (hn : 1 ≤ n) : ((propers n).map fun d => d * cnt s d).sum + n * cnt s n = s.length ^ n := by
  rw [count_all h hn, divs_snoc hn, List.map_append, List.sum_append_nat]
  simp
theorem cnt_len {s t : List Nat} (hs : s.Nodup) (ht : t.Nodup) (hl : s.length = t.length) : ∀ n, 1 ≤ n → cnt s n = cnt t n := by
  intro n
  induction n using Nat.strongRecOn with
  | _ n ih =>
    intro hn
    have h1 := count_step hs hn
    have h2 := count_step ht hn
    have e : ((propers n).map fun d => d * cnt s d) = (propers n).map fun d => d * cnt t d := by
      refine List.map_congr_left fun d hd => ?_
      obtain ⟨d1, d2, _⟩ := mem_propers.mp hd
      rw [ih d d2 d1]
    rw [e, hl] at h1
    exact Nat.eq_of_mul_eq_mul_left (by omega : 0 < n) (by omega)
/-- how many early words there are of just n of k signs -/
def Lc (k n : Nat) : Nat := cnt (List.range k) n
theorem lc_step (k : Nat) {n : Nat} (hn : 1 ≤ n) : ((propers n).map fun d => d * Lc k d).sum + n * Lc k n = k ^ n := by
  have := count_step (s := List.range k) List.nodup_range hn
  rwa [List.length_range] at this
theorem lc_all (k : Nat) {n : Nat} (hn : 1 ≤ n) : ((divs n).map fun d => d * Lc k d).sum = k ^ n := by
  have := count_all (s := List.range k) List.nodup_range hn
  rw [List.length_range] at this
  exact this.symm
theorem lc_cnt {s : List Nat} (h : s.Nodup) {n : Nat} (hn : 1 ≤ n) : cnt s n = Lc s.length n := cnt_len h List.nodup_range (by rw [List.length_range]) n hn
/-! rings -/
def ringForms (s : List Nat) (n : Nat) : List (List Nat) := (divs n).flatMap fun d => (earlyL s d).map fun u => (List.replicate (n / d) u).flatten
theorem turn_zero (l : List Nat) : turn l 0 = l := by
  unfold turn
  rw [List.drop_zero, List.take_zero, List.append_nil]
theorem len_ringForms (s : List Nat) (n : Nat) : (ringForms s n).length = ((divs n).map fun d => cnt s d).sum := by
  unfold ringForms
  rw [List.length_flatMap]
  congr 1
  refine List.map_congr_left fun d _ => ?_
  rw [List.length_map]
  rfl
theorem nodup_ringForms {s : List Nat} (h : s.Nodup) (n : Nat) : (ringForms s n).Nodup := by
  have one : ∀ {d e : Nat} {u v : List Nat}, d ∈ divs n → e ∈ divs n → u ∈ earlyL s d → v ∈ earlyL s e → (List.replicate (n / d) u).flatten = (List.replicate (n / e) v).flatten → u = v := fun {d e u v} hd he hu hv z => by
    obtain ⟨⟨u1, _⟩, u3⟩ := mem_earlyL.mp hu
    obtain ⟨⟨v1, _⟩, v3⟩ := mem_earlyL.mp hv
    obtain ⟨p1, p2⟩ := div_pos' hd
    obtain ⟨q1, q2⟩ := div_pos' he
    have hd1 := (mem_divs.mp hd).1
    have he1 := (mem_divs.mp he).1
    exact (ring_apart (j := 0) (i := 0) (fun z => by rw [z] at u1; simp at u1; omega) (fun z => by rw [z] at v1; simp at v1; omega) u3 v3 p1 q1 (by rw [u1, v1, p2, q2]) (by omega) (by omega) (by rw [turn_zero, turn_zero]; exact z)).1
  unfold ringForms
  refine List.pairwise_flatMap.mpr ⟨fun d hd => List.pairwise_map.mpr (List.Pairwise.imp_of_mem (fun hu hv huv z => huv (one hd hd hu hv z)) (nodup_earlyL h d)), List.Pairwise.imp_of_mem ?_ (nodup_divs n)⟩
  intro d e hd he hde x hx y hy z
  obtain ⟨u, hu, rfl⟩ := List.mem_map.mp hx
  obtain ⟨v, hv, rfl⟩ := List.mem_map.mp hy
  have := one hd he hu hv z
  have u1 := (mem_earlyL.mp hu).1.1
  have v1 := (mem_earlyL.mp hv).1.1
  rw [this, v1] at u1
  exact hde u1.symm
theorem least_self {m : List Nat} (h : 1 ≤ m.length) (hl : ∀ k, k < m.length → ¬ turn m k < m) : minT (turns m) = m := by
  have tne : turns m ≠ [] := fun z => by
    have := congrArg List.length z
    rw [turns_len] at this
    have q : m.length = 0 := this
    omega
  have hm : m ∈ turns m := List.mem_map.mpr ⟨0, List.mem_range.mpr (by omega), turn_zero m⟩
  obtain ⟨k, hk, e⟩ := List.mem_map.mp (minT_mem tne)
  have e : turn m k = minT (turns m) := e
  have h1 := hl k (List.mem_range.mp hk)
  rw [e] at h1
  rcases tri (minT (turns m)) m with q | q | q
  · exact absurd q h1
  · exact q
  · exact absurd q (minT_le m hm)
theorem mem_ringForms {s : List Nat} {n : Nat} (hn : 1 ≤ n) {m : List Nat} : m ∈ ringForms s n ↔ ∃ w ∈ wordsL s n, minT (turns w) = m := by
  unfold ringForms
  rw [List.mem_flatMap]
  constructor
  · rintro ⟨d, hd, hm⟩
    obtain ⟨u, hu, rfl⟩ := List.mem_map.mp hm
    obtain ⟨⟨u1, u2⟩, u3⟩ := mem_earlyL.mp hu
    obtain ⟨p1, p2⟩ := div_pos' hd
    have hd1 := (mem_divs.mp hd).1
    have hne : u ≠ [] := fun z => by rw [z] at u1; simp at u1; omega
    have hl : (List.replicate (n / d) u).flatten.length = n := by rw [flat_rep_len, u1, p2]
    refine ⟨_, mem_wordsL.mpr ⟨hl, fun c hc => ?_⟩, least_self (by omega) fun k hk => rep_least p1 hne u3 k (by rw [u1, p2]; omega)⟩
    obtain ⟨x, hx, hcx⟩ := List.mem_flatten.mp hc
    rw [(List.mem_replicate.mp hx).2] at hcx
    exact u2 c hcx
  · rintro ⟨w, hw, rfl⟩
    obtain ⟨h1, h2⟩ := mem_wordsL.mp hw
    obtain ⟨a, ha, em, ml, mm, least⟩ := least_form (l := w) (by omega)
    have hm1 : 1 ≤ (minT (turns w)).length := by omega
    obtain ⟨r1, r2, r3, _⟩ := rootLen_spec hm1
    obtain ⟨t1, t2, t3, _⟩ := least_root hm1 least
    have hd : rootLen (minT (turns w)) ∈ divs n := mem_divs.mpr ⟨r1, by omega, by
      have := (again_beats hm1 r1 r3).2
      rw [ml, h1] at this
      exact Nat.mod_eq_zero_of_dvd this⟩
    have ul : ((minT (turns w)).take (rootLen (minT (turns w)))).length = rootLen (minT (turns w)) := by rw [List.length_take]; omega
    rw [ml, h1] at t3
    exact ⟨_, hd, List.mem_map.mpr ⟨_, mem_earlyL.mpr ⟨⟨ul, fun c hc => h2 c (mm c (List.mem_of_mem_take hc))⟩, t1⟩, t3⟩⟩
/-- how many rings there are of just n of k signs -/
def Rc (k n : Nat) : Nat := ((divs n).map fun d => Lc k d).sum
theorem rings_count {s : List Nat} (h : s.Nodup) (n : Nat) : (ringForms s n).length = Rc s.length n := by
  rw [len_ringForms]
  unfold Rc
  congr 1
  refine List.map_congr_left fun d hd => ?_
  exact lc_cnt h (mem_divs.mp hd).1
/-! turnings that leave alike -/
def ups (n : Nat) : List Nat := (List.range n).map (1 + ·)
theorem sum_filter (p : Nat → Bool) (f : Nat → Nat) : ∀ l : List Nat, ((l.filter p).map f).sum = (l.map fun x => if p x = true then f x else 0).sum
  | [] => rfl
  | x :: r => by
    rw [List.map_cons, List.sum_cons, ← sum_filter p f r]
    cases g : p x with
    | true => rw [List.filter_cons_of_pos g, List.map_cons, List.sum_cons, if_pos rfl]
    | false => rw [List.filter_cons_of_neg (by rw [g]; decide), if_neg (by decide), Nat.zero_add]
theorem sum_add_map (f g : Nat → Nat) : ∀ l : List Nat, (l.map fun x => f x + g x).sum = (l.map f).sum + (l.map g).sum
  | [] => rfl
  | x :: r => by
    rw [List.map_cons, List.map_cons, List.map_cons, List.sum_cons, List.sum_cons, List.sum_cons, sum_add_map f g r]
    omega
theorem sum_swap (F : Nat → Nat → Nat) (B : List Nat) : ∀ A : List Nat, (A.map fun a => (B.map fun b => F a b).sum).sum = (B.map fun b => (A.map fun a => F a b).sum).sum
  | [] => by
    have e : (B.map fun b => (([] : List Nat).map fun a => F a b).sum) = B.map fun _ => 0 := List.map_congr_left fun _ _ => rfl
    rw [e, sum_map_const]
    rfl
  | a :: r => by
    rw [List.map_cons, List.sum_cons, sum_swap F B r]
    have e : (B.map fun b => ((a :: r).map fun a => F a b).sum) = B.map fun b => F a b + (r.map fun a => F a b).sum := List.map_congr_left fun _ _ => by rw [List.map_cons, List.sum_cons]
    rw [e, sum_add_map]
theorem mult_count {d : Nat} (hd : 1 ≤ d) : ∀ n, ((ups n).filter fun s => decide (s % d = 0)).length = n / d
  | 0 => by
    rw [Nat.zero_div]
    rfl
  | n + 1 => by
    unfold ups
    rw [List.range_succ, List.map_append, List.filter_append, List.length_append]
    have ih := mult_count hd n
    unfold ups at ih
    rw [ih, Nat.succ_div, List.map_singleton, Nat.add_comm 1 n]
    congr 1
    by_cases g : d ∣ n + 1
    · rw [if_pos g, List.filter_cons_of_pos (by rw [decide_eq_true_eq]; exact Nat.mod_eq_zero_of_dvd g)]
      rfl
    · rw [if_neg g, List.filter_cons_of_neg (by rw [decide_eq_true_eq]; exact fun z => g (Nat.dvd_of_mod_eq_zero z))]
      rfl
theorem divs_gcd {s n : Nat} (hs : 1 ≤ s) (hn : 1 ≤ n) : (divs (Nat.gcd s n)).Perm ((divs n).filter fun d => decide (s % d = 0)) := by
  refine (List.perm_ext_iff_of_nodup (nodup_divs _) ((nodup_divs n).filter _)).mpr fun d => ?_
  rw [List.mem_filter, mem_divs, mem_divs, decide_eq_true_eq]
  constructor
  · rintro ⟨h1, _, h3⟩
    have hd := Nat.dvd_of_mod_eq_zero h3
    have hdn := Nat.dvd_trans hd (Nat.gcd_dvd_right s n)
    exact ⟨⟨h1, Nat.le_of_dvd (by omega) hdn, Nat.mod_eq_zero_of_dvd hdn⟩, Nat.mod_eq_zero_of_dvd (Nat.dvd_trans hd (Nat.gcd_dvd_left s n))⟩
  · rintro ⟨⟨h1, h2, h3⟩, h4⟩
    have hd := Nat.dvd_gcd (Nat.dvd_of_mod_eq_zero h4) (Nat.dvd_of_mod_eq_zero h3)
    exact ⟨h1, Nat.le_of_dvd (Nat.gcd_pos_of_pos_left n (by omega)) hd, Nat.mod_eq_zero_of_dvd hd⟩
theorem burnside (k : Nat) {n : Nat} (hn : 1 ≤ n) : ((ups n).map fun s => k ^ Nat.gcd s n).sum = Rc k n * n := by
  have e1 : ((ups n).map fun s => k ^ Nat.gcd s n) = (ups n).map fun s => ((divs n).map fun d => if decide (s % d = 0) = true then d * Lc k d else 0).sum := by
    refine List.map_congr_left fun s hs => ?_
    obtain ⟨i, hi, rfl⟩ := List.mem_map.mp hs
    have h1 : 1 ≤ 1 + i := by omega
    rw [← lc_all k (Nat.gcd_pos_of_pos_left n (by omega)), ← sum_filter (fun d => decide ((1 + i) % d = 0)) (fun d => d * Lc k d)]
    exact ((divs_gcd h1 hn).map _).sum_nat
  rw [e1, sum_swap]
  have e2 : ((divs n).map fun d => ((ups n).map fun s => if decide (s % d = 0) = true then d * Lc k d else 0).sum) = (divs n).map fun d => Lc k d * n := by
    refine List.map_congr_left fun d hd => ?_
    obtain ⟨d1, d2, d3⟩ := mem_divs.mp hd
    rw [← sum_filter (fun s => decide (s % d = 0)) (fun _ => d * Lc k d), sum_map_const, mult_count d1]
    have := Nat.div_mul_cancel (Nat.dvd_of_mod_eq_zero d3)
    rw [← Nat.mul_assoc, this, Nat.mul_comm]
  rw [e2]
  unfold Rc
  generalize divs n = D
  induction D with
  | nil => simp
  | cons d r ih => rw [List.map_cons, List.sum_cons, ih, List.map_cons, List.sum_cons, Nat.add_mul]
end Rw
namespace Rw
open PySem PySem.Spec PyProof.Rows L2
theorem filt_step (f : Nat → Bool) (i : Nat) : ((List.range (i + 1)).map (1 + ·)).filter f = ((List.range i).map (1 + ·)).filter f ++ (if f (1 + i) = true then [1 + i] else []) := by
  rw [List.range_succ, List.map_append, List.filter_append]
  congr 1
  cases g : f (1 + i) <;> simp [g]
theorem filt_step0 (f : Nat → Bool) (i : Nat) : (List.range (i + 1)).filter f = (List.range i).filter f ++ (if f i = true then [i] else []) := by
  rw [List.range_succ, List.filter_append]
  congr 1
  cases g : f i <;> simp [g]
/-! text.endswith, max(numbers, default=0), True in truths -/
theorem ends_T (a b : List Nat) (h : b.length ≤ a.length) : Txt.endswith (T a) (T b) = decide (b = a.drop (a.length - b.length)) := by
  unfold Txt.endswith
  rw [T_len, T_len]
  have h1 : decide (0 + b.length ≤ a.length) = true := decide_eq_true (by omega)
  rw [h1, Bool.true_and]
  unfold Builtin.Str.subAt
  rw [T_len]
  rw [Bool.eq_iff_iff, beq_iff_eq, decide_eq_true_eq]
  show (a.toArray.extract _ _ = b.toArray) ↔ _
  rw [List.extract_toArray]
  have e : (a.drop (a.length - b.length)).take b.length = a.drop (a.length - b.length) := List.take_of_length_le (by rw [List.length_drop]; omega)
  have e2 : a.length - b.length + b.length - (a.length - b.length) = b.length := by omega
  have e3 : a.extract (a.length - b.length) (a.length - b.length + b.length) = a.drop (a.length - b.length) := by
    rw [List.extract_eq_drop_take, e2, e]
  rw [e3]
  constructor
  · intro z
    have : a.drop (a.length - b.length) = b := by simpa using z
    exact this.symm
  · intro z
    rw [← z]
def rEndsT : V → List V → Hp → VK → Prop := fun x xs H Q => ∃ a b : List Nat, x = tv a ∧ xs = [tv b] ∧ b.length ≤ a.length ∧ Q (.bl (decide (b = a.drop (a.length - b.length)))) H
section
variable {X : Cx}
theorem mt_endsT : MtR X "str.endswith" rEndsT := fun pins s σ H x xs v us Q I rx rxs ⟨a, b, e1, e2, h, q⟩ =>
  mt_endswith pins s σ H x xs v us Q I rx rxs ⟨T a, T b, e1, e2, by rw [ends_T a b h]; exact q⟩
def rMaxD (K : PySem.W.Frag) : List V → List V → Hp → VK → Prop := fun xs zs H Q => ∃ (a : Addr) (ns : List Nat), xs = [.ref a] ∧ zs = [.int 0] ∧ SqL K H a (ivs ns) ∧ Q (.int ((ns.foldl max 0 : Nat) : Int)) H
theorem reads_ints {h : Heap} : ∀ {us : List Value} {ns : List Nat}, Vals (ivs ns) us → ReadsAll h us (ns.map fun n => PyData.int (n : Nat)) []
  | us, [], r => by
    cases r
    exact .nil
  | us, n :: ns, r => by
    cases r with
    | cons r1 r2 =>
      obtain ⟨t, rfl⟩ := r1
      exact ReadsAll.cons (as := []) (.int _ t) (reads_ints r2)
theorem fold_max_cast : ∀ (ns : List Nat) (n : Nat), (ns.map fun k => ((k : Nat) : Int)).foldl max (n : Int) = ((ns.foldl max n : Nat) : Int)
  | [], n => rfl
  | k :: r, n => by
    rw [List.map_cons, List.foldl_cons, List.foldl_cons, ← fold_max_cast r (max n k)]
    congr 1
    omega
theorem cr_maxD (hc : X.calm = true) (hu : X.A.units + 64 < cLine) : CallRK X (.builtin "max") [("default" : Str)] (rMaxD X.K) := by
  intro pins s σ H xs zs us ws Q I r rz h
  obtain ⟨a, ns, rfl, rfl, hs, q⟩ := h
  obtain ⟨its, rv, hl, _⟩ := I.list hs
  rw [Vals.ref1 r]
  obtain ⟨u, rfl, ru⟩ := rz.one
  obtain ⟨t, rfl⟩ := ru
  have hd : ∀ l : List Nat, PyData.depthAll (l.map fun n => PyData.int (n : Nat)) ≤ 1 := depth_ivs
  have ha : PySem.W.AlikeAll (ns.map fun n => PyData.int (n : Nat)) := by
    refine ⟨fun p hp q hq => ?_, fun p hp e => ?_⟩
    · obtain ⟨y, _, rfl⟩ := List.mem_map.mp hp
      obtain ⟨z, _, rfl⟩ := List.mem_map.mp hq
      rfl
    · obtain ⟨y, _, rfl⟩ := List.mem_map.mp hp
      cases e
  refine PySem.W.max_list_default (xs := ns.map fun n => PyData.int (n : Nat)) (I.ok.hd hc) hl.isList (by simpa using reads_ints (h := s.heap) rv) ha (by have := hd ns; omega) (fun e h' tk hk => ?_) (fun y ys i v h' tk bs e hv hr hk => ?_)
  · have en : ns = [] := by simpa using e
    subst en
    exact ⟨.int 0, H, I.kept hk, ⟨_, rfl⟩, q⟩
  · cases ns with
    | nil => simp at e
    | cons n r =>
      rw [List.map_cons] at e
      obtain ⟨e1, e2⟩ := List.cons.inj e
      subst e1 e2
      have e3 : (r.map fun n => PyData.int (n : Nat)) = (r.map fun n => ((n : Nat) : Int)).map .int := by rw [List.map_map]; rfl
      rw [e3, PySem.W.maxD_ints, fold_max_cast] at hr
      obtain ⟨t, rfl⟩ : ∃ t, v = Value.int ((r.foldl max n : Nat) : Int) t := by
        cases hr with
        | int z t => exact ⟨t, rfl⟩
      have e4 : (n :: r).foldl max 0 = r.foldl max n := by
        rw [List.foldl_cons, Nat.zero_max]
      rw [e4] at q
      exact ⟨.int _, H, I.kept hk, ⟨_, rfl⟩, q⟩
def rInB (K : PySem.W.Frag) : R2 := fun x y H Q => ∃ (p : Addr) (bs : List Bool), x = .bl true ∧ y = .ref p ∧ SqL K H p (bs.map V.bl) ∧ Q (.bl (decide (true ∈ bs))) H
theorem op_inB : OpR X (compareOp .In) (rInB X.K) := fun pins s σ H x y v u Q I rx ry ⟨p, bs, e1, e2, hs, q⟩ => by
  have e : ∀ bs : List Bool, inV (.bl true) (bs.map V.bl) = decide (true ∈ bs) := by
    intro bs
    induction bs with
    | nil => rfl
    | cons b r ih =>
      have e1 : inV (.bl true) ((b :: r).map V.bl) = ((b == true) || inV (.bl true) (r.map V.bl)) := rfl
      rw [e1, ih]
      cases b <;> simp
  exact op_in_seq pins s σ H x y v u Q I rx ry ⟨p, bs.map V.bl, e2, .inl hs, by rw [e1]; rfl, by rw [List.all_map]; exact List.all_eq_true.mpr fun _ _ => rfl, by rw [e1, e bs]; exact q⟩
end
end Rw
namespace Rw
open PySem PySem.Spec PyProof.Rows L2
def spBorders (K : PySem.W.Frag) (C : Addr) : Sp := spW K C 0 fun l _ H Q _ => ∀ p H', H p = none → Same H H' → H' p = some (.lst (ivs (bordersOf l))) → Q (.ref p) H'
def spBeat (K : PySem.W.Frag) (C : Addr) : Sp := spW K C 0 fun l _ H Q _ => ∀ H', Same H H' → Q (.int (beatOf l : Nat)) H'
end Rw
namespace Rk
open PySem PySem.Spec PyProof.Rows L2 Rw
abbrev s_borders : Stmt := topS 29
abbrev n_borders : List Str := ["word", "long"]
abbrev p_borders : List Str := ["word"]
theorem sc_borders : FnScope n_borders p_borders (defScope s_borders) := ⟨rfl, rfl, rfl, by decide +kernel, rfl, by decide +kernel, by decide +kernel⟩
abbrev s_beat : Stmt := topS 30
abbrev n_beat : List Str := ["word", "lengths", "longest"]
abbrev p_beat : List Str := ["word"]
theorem sc_beat : FnScope n_beat p_beat (defScope s_beat) := ⟨rfl, rfl, rfl, by decide +kernel, rfl, by decide +kernel, by decide +kernel⟩
section
variable {P : Program} {w : World} {K : PySem.W.Frag} {mg : Str → Option Value} {base : Heap} {cN : Addr} (B : Bt mg)
include B
theorem ok_borders (D : Dfn K mg "borders" s_borders p_borders) (c_need_word : Cal (L2.CX P w) P w K mg base 2 "need_word" (spNeed K cN)) : Cal (L2.CX P w) P w K mg base 3 "borders" (spBorders K cN) := by
  refine D.cal fun f fd F => F.okX sc_borders (fun vs H Q E h => ?_) (fun cdv A outer s H vs Q E hr h => ?_)
  · obtain ⟨v, b, rest, rfl, hr, _⟩ := h
    cases List.eq_nil_of_length_eq_zero hr
    rfl
  · obtain ⟨v, b, rest, rfl, hrest, hv, hno, hyes⟩ := h
    cases List.eq_nil_of_length_eq_zero hrest
    refine ⟨_, (pss_cons (ps_expr (pe_cal c_need_word hr (by decide) (passes_call (takes_of rfl rfl rfl rfl) fun _ _ _ _ h => h) (pa_cons (pv 0) pa_nil)))
      (pss_one (ps_ret (pe_lc (own := [("long", 1)]) rfl sc_borders.nd (pi_range2 (by rfl) B.m_range (pa_cons pe_int (pa_cons (pe_callB call_lenT (by rfl) B.m_len PySem.boot_len (pa_cons (pv 0) pa_nil)) pa_nil))) (blkOk_by (own := [("long", 1)]) (N := n_borders) (sc := defScope s_borders) (by decide +kernel)) (fun _ _ _ _ _ => (pg_name (i := 1) sc_borders.nd rfl (Or.inl rfl))) (fun _ _ _ _ _ => (pts_one (pt_val (pe_m1 PySem.F.slot_str_endswith PySem.F.type_str_endswith mt_endsT (pv 0) (pe_slice sl_T (pv 0) po_none (po_some (pv 1))))))) (fun _ _ _ _ _ => (pv 1)))))), ?_⟩
    refine ⟨v, rfl, v, b, [], rfl, rfl, hv, hno, fun l hb ev hl H1 e1 => ?_⟩
    subst hb ev
    have q := hyes l rfl rfl hl
    have hn := hl.2.1
    have h1 := hl.1
    refine ⟨_, rfl, l, rfl, hl.sz, 1, ((l.length : Nat) : Int), rfl, ⟨by decide, by decide, by omega, by omega⟩, fun Dl hD => ?_⟩
    have ez : (((l.length : Nat) : Int) - 1).toNat = l.length - 1 := by omega
    rw [ez]
    refine lc_it walk_range (LcP H1 Dl fun i acc => acc = ivs (((List.range i).map (1 + ·)).filter fun k => decide (isBorder l k))) (lcp_start hD rfl) (fun _ _ _ _ => trivial) ?_ ?_
    · rintro i x H2 H2' hi ⟨_, acc, e, hD2, hlen, rfl⟩ ⟨rfl, rfl⟩
      have hi : i < l.length - 1 := hi
      refine ⟨rfl, ?_⟩
      have ec : cutL l none (some ((1 : Int) + (i : Int))) = l.take (1 + i) := by
        rw [show (1 : Int) + (i : Int) = ((1 + i : Nat) : Int) from by omega, cutL_to]
      have el : (l.take (1 + i)).length = 1 + i := by rw [List.length_take]; omega
      refine ⟨_, rfl, ⟨_, rfl⟩, _, rfl, _, rfl, _, rfl, l, rfl, hl.sz, l, l.take (1 + i), rfl, by rw [ec], by rw [el]; omega, _, rfl, ?_⟩
      rw [el]
      have st := filt_step (fun k => decide (isBorder l k)) i
      cases g : decide (l.take (1 + i) = l.drop (l.length - (1 + i))) with
      | true =>
        have g' : decide (isBorder l (1 + i)) = true := g
        refine iteT ?_
        refine ⟨_, rfl, ?_⟩
        refine lcp_put hD e hD2 hlen (by omega) (Same.refl _) ?_
        rw [st, g', if_pos rfl, ivs_app]
        show _ = _ ++ [V.int ((1 + i : Nat) : Int)]
        rw [show ((1 + i : Nat) : Int) = (1 : Int) + (i : Int) from by omega]
      | false =>
        have g' : decide (isBorder l (1 + i)) = false := g
        refine iteF ?_
        refine lcp_skip hD e hD2 hlen (Same.refl _) ?_
        rw [st, g', if_neg (by decide), List.append_nil]
    · rintro H2 ⟨_, acc, e, hD2, _, rfl⟩
      exact q Dl H2 (e1.free hD) (e1.trans e) hD2
theorem ok_beat (D : Dfn K mg "beat" s_beat p_beat) (c_borders : Cal (L2.CX P w) P w K mg base 3 "borders" (spBorders K cN)) : Cal (L2.CX P w) P w K mg base 4 "beat" (spBeat K cN) := by
  refine D.cal fun f fd F => F.okX sc_beat (fun vs H Q E h => ?_) (fun cdv A outer s H vs Q E hr h => ?_)
  · obtain ⟨v, b, rest, rfl, hr, _⟩ := h
    cases List.eq_nil_of_length_eq_zero hr
    rfl
  · obtain ⟨v, b, rest, rfl, hrest, hv, hno, hyes⟩ := h
    cases List.eq_nil_of_length_eq_zero hrest
    refine ⟨_, (pss_cons (ps_set (i := 1) sc_beat.nd rfl (Or.inl rfl) (pe_cal c_borders hr (by decide) (passes_call (takes_of rfl rfl rfl rfl) fun _ _ _ _ h => h) (pa_cons (pv 0) pa_nil)))
      (pss_cons (ps_set (i := 2) sc_beat.nd rfl (Or.inl rfl) (pe_callBK (cr_maxD rfl hr.units) (by rfl) B.m_max (by decide +kernel) (pa_cons (pv 1) pa_nil) (pk_cons pe_int pk_nil)))
      (pss_one (ps_ret (pe_op op_sub (pe_callB call_lenT (by rfl) B.m_len PySem.boot_len (pa_cons (pv 0) pa_nil)) (pv 2)))))), ?_⟩
    refine ⟨v, rfl, v, b, [], rfl, rfl, hv, hno, fun l hb ev hl p H1 np e1 hp => ?_⟩
    subst hb ev
    have q := hyes l rfl rfl hl
    refine ⟨_, rfl, p, bordersOf l, rfl, rfl, SqL.of hp, ?_⟩
    refine ⟨_, rfl, l, rfl, hl.sz, _, rfl, _, _, rfl, rfl, ?_⟩
    obtain ⟨b1, b2, _⟩ := beat_spec hl.1
    have e : ((l.length : Nat) : Int) - (((bordersOf l).foldl max 0 : Nat) : Int) = ((beatOf l : Nat) : Int) := by
      unfold beatOf at b1 ⊢
      omega
    show Q (.int (_ - _)) H1
    rw [e]
    exact q H1 e1
end
end Rk
namespace Rw
open PySem PySem.Spec PyProof.Rows L2
def spRoot (K : PySem.W.Frag) (C : Addr) : Sp := spW K C 0 fun l _ H Q _ => ∀ p H', H p = none → Same H H' → H' p = some (.tup [tv (rootOf l).1, .int ((rootOf l).2 : Nat)]) → Q (.ref p) H'
end Rw
namespace Rk
open PySem PySem.Spec PyProof.Rows L2 Rw
abbrev s_root : Stmt := topS 31
abbrev n_root : List Str := ["word", "long"]
abbrev p_root : List Str := ["word"]
theorem sc_root : FnScope n_root p_root (defScope s_root) := ⟨rfl, rfl, rfl, by decide +kernel, rfl, by decide +kernel, by decide +kernel⟩
section
variable {P : Program} {w : World} {K : PySem.W.Frag} {mg : Str → Option Value} {base : Heap} {cN : Addr} (B : Bt mg)
include B
theorem ok_root (D : Dfn K mg "root" s_root p_root) (c_beat : Cal (L2.CX P w) P w K mg base 4 "beat" (spBeat K cN)) : Cal (L2.CX P w) P w K mg base 5 "root" (spRoot K cN) := by
  refine D.cal fun f fd F => F.okX sc_root (fun vs H Q E h => ?_) (fun cdv A outer s H vs Q E hr h => ?_)
  · obtain ⟨v, b, rest, rfl, hr, _⟩ := h
    cases List.eq_nil_of_length_eq_zero hr
    rfl
  · obtain ⟨v, b, rest, rfl, hrest, hv, hno, hyes⟩ := h
    cases List.eq_nil_of_length_eq_zero hrest
    refine ⟨_, (pss_cons (ps_set (i := 1) sc_root.nd rfl (Or.inl rfl) (pe_cal c_beat hr (by decide) (passes_call (takes_of rfl rfl rfl rfl) fun _ _ _ _ h => h) (pa_cons (pv 0) pa_nil)))
      (pss_cons (ps_if (pt_cmpR op_gt (pe_op op_mod (pe_callB call_lenT (by rfl) B.m_len PySem.boot_len (pa_cons (pv 0) pa_nil)) (pv 1)) pe_int (nomark _)) (pss_one (ps_ret (pe_tup (pa_cons (pv 0) (pa_cons pe_int pa_nil))))) pss_nil)
      (pss_one (ps_ret (pe_tup (pa_cons (pe_slice sl_T (pv 0) po_none (po_some (pv 1))) (pa_cons (pe_op op_fdiv (pe_callB call_lenT (by rfl) B.m_len PySem.boot_len (pa_cons (pv 0) pa_nil)) (pv 1)) pa_nil))))))), ?_⟩
    refine ⟨v, rfl, v, b, [], rfl, rfl, hv, hno, fun l hb ev hl H1 e1 => ?_⟩
    subst hb ev
    have q : ∀ p H', H p = none → Same H H' → H' p = some (.tup [tv (rootOf l).1, .int ((rootOf l).2 : Nat)]) → Q (.ref p) H' := hyes l rfl rfl hl
    have hn := hl.2.1
    obtain ⟨b1, b2, _⟩ := beat_spec hl.1
    refine ⟨_, rfl, l, rfl, hl.sz, _, rfl, _, _, rfl, rfl, (show (0 : Int) < ((beatOf l : Nat) : Int) by omega), _, _, rfl, rfl, _, rfl, ite2 (fun h => ?_) (fun h => ?_)⟩
    · have h := of_decide_eq_true h
      have g : 0 < l.length % beatOf l := by
        have h : ((l.length : Nat) : Int) % ((beatOf l : Nat) : Int) > 0 := h
        omega
      have e : rootOf l = (l, 1) := by
        unfold rootOf
        rw [if_pos g]
      rw [e] at q
      exact ⟨_, rfl, (show 2 ≤ sizeLine by decide), fun p np => q p _ (e1.free np) (e1.trans (same_upd np)) upd_same⟩
    · have h : ¬ ((l.length : Nat) : Int) % ((beatOf l : Nat) : Int) > 0 := of_decide_eq_false (by simpa using h)
      have g : ¬ 0 < l.length % beatOf l := by omega
      have e : rootOf l = (l.take (beatOf l), l.length / beatOf l) := by
        unfold rootOf
        rw [if_neg g]
      rw [e] at q
      refine ⟨_, rfl, _, rfl, _, rfl, l, rfl, hl.sz, _, rfl, l, rfl, hl.sz, _, rfl, _, _, rfl, rfl, ⟨by omega, by omega⟩, (show 2 ≤ sizeLine by decide), fun p np => ?_⟩
      refine q p _ (e1.free np) (e1.trans (same_upd np)) ?_
      rw [upd_same, cutL_to]
      rfl
end
end Rk
namespace Rw
open PySem PySem.Spec PyProof.Rows L2
/-! sum of numbers, text.strip(signs) of nothing but these -/
def rSumN (K : PySem.W.Frag) : List V → Hp → VK → Prop := fun vs H Q => ∃ (a : Addr) (ns : List Nat), vs = [.ref a] ∧ SqL K H a (ivs ns) ∧ Q (.int (ns.sum : Nat)) H
theorem sum_cast : ∀ ns : List Nat, (ns.map fun n => ((n : Nat) : Int)).sum = ((ns.sum : Nat) : Int)
  | [] => rfl
  | n :: r => by
    rw [List.map_cons, List.sum_cons, List.sum_cons, sum_cast r, Int.natCast_add]
section
variable {X : Cx}
theorem cr_sumN (hc : X.calm = true) : CallR X (.builtin "sum") (rSumN X.K) := fun pins s σ H vs us Q I r ⟨a, ns, e, hs, q⟩ =>
  cr_sum hc pins s σ H vs us Q I r ⟨a, ns.map fun n => ((n : Nat) : Int), e, by rw [List.map_map]; exact hs, by rw [sum_cast]; exact q⟩
theorem cr_sumNK {K : PySem.W.Frag} (hK : X.K = K) (hc : X.calm = true) : CallR X (.builtin "sum") (rSumN K) := hK ▸ cr_sumN hc
theorem tw_all {p : Nat → Bool} : ∀ {l : List Nat}, (∀ c ∈ l, p c = true) → l.takeWhile p = l
  | [], _ => rfl
  | c :: r, h => by
    rw [List.takeWhile_cons_of_pos (h c List.mem_cons_self), tw_all fun d hd => h d (List.mem_cons_of_mem _ hd)]
theorem strip_T {l cs : List Nat} (h : ∀ c ∈ l, c ∈ cs) : Txt.stripChars (T l) (T cs) = T [] := by
  unfold Txt.stripChars
  rw [PyProof.Rows.stripBy_eq, PyProof.Rows.strSub_mk]
  unfold stripLo
  rw [if_pos rfl, T_cps]
  have e : l.takeWhile (T cs).cps.contains = l := tw_all fun c hc => by
    have : c ∈ cs := h c hc
    simp [T, this]
  rw [e, List.drop_length, List.take_nil]
  rfl
def rStripT : V → List V → Hp → VK → Prop := fun x xs H Q => ∃ l cs : List Nat, x = tv l ∧ xs = [tv cs] ∧ l.length ≤ 100000 ∧ (∀ c ∈ l, c ∈ cs) ∧ Q (tv []) H
theorem mt_stripT : MtR X "str.strip" rStripT := fun pins s σ H x xs v us Q I rx rxs ⟨l, cs, e1, e2, hz, hm, q⟩ =>
  mt_stripChars pins s σ H x xs v us Q I rx rxs ⟨T l, T cs, e1, e2, by rw [T_len]; exact big hz, by rw [strip_T hm]; exact q⟩
end
end Rw
namespace Rw
open PySem PySem.Spec PyProof.Rows L2
/-! sum(d.values()) of numbers -/
def tSumVals (td : TE) : TE := fun σ H Q => td σ H fun x H1 => ∃ (a : Addr) (kvs : List (Key × V)) (ns : List Nat), x = .ref a ∧ H1 a = some (.dK kvs) ∧ kvs.map (·.2) = ivs ns ∧ Q (.int (ns.sum : Nat)) H1
theorem kv_get {kvs : List (Key × V)} {vs : List (Key × Value)} (r : KV kvs vs) : ∀ {i : Nat} {k : Key} {v : Value}, vs[i]? = some (k, v) → ∃ x, (kvs.map (·.2))[i]? = some x ∧ RelV x v := by
  unfold KV at r
  induction r with
  | nil => exact fun e => by simp at e
  | @cons p q ps qs h t ih =>
    intro i k v e
    cases i with
    | zero =>
      have e' : q = (k, v) := Option.some.inj e
      subst e'
      exact ⟨p.2, rfl, h.2⟩
    | succ i =>
      obtain ⟨x, h1, h2⟩ := ih (i := i) (k := k) (v := v) e
      exact ⟨x, h1, h2⟩
theorem pe_sumVals {X : Cx} {o : Expr} {p pos apos mpos : Pos} {td : TE} (hc : X.calm = true) (hg : Gl X "sum") (hm : X.mg "sum" = none) (hd : PE X o td) (hbase : attributeBase o "values" X.env (eval o X.env) = eval o X.env := by rfl)
    (hline : (apos.endLine == mpos.line) = true := by rfl) (hse : starEach [Expr.Call (.Attribute o "values" apos) [] [] mpos] X.env = [(false, eval (Expr.Call (.Attribute o "values" apos) [] [] mpos) X.env)] := by rfl) :
    PE X (.Call (.Name "sum" p) [.Call (.Attribute o "values" apos) [] [] mpos] [] pos) (tSumVals td) := by
  refine ⟨fun pins s σ H Q I h => ?_⟩
  have atS : bootBuiltins "sum" = some (.builtin "sum") := by decide +kernel
  refine wpAny_Call_Name_kw (ld_blt I hg hm atS ?_ (by decide) (by decide))
  rw [hse]
  refine PySem.callWith_builtin1 (wpAny_Call_method0_late hbase hline (thn (hd.run pins s σ H _ I h) ?_))
  rintro v s1 ⟨x, H1, I1, r1, a, kvs, ns, rfl, ha, hv, q⟩
  obtain rfl : v = Value.ref a := r1
  obtain ⟨_, hsys, vs, rel, dof⟩ := dk_of I1.hok ha
  obtain ⟨ep, dat⟩ := dof.dictAt
  obtain ⟨ob, es, ho, hex, hdat, hko, hpr, hnd⟩ := id dat
  refine ⟨"dict", "dict.values", F.plainAttrs_dict, F.slot_dict_values, F.type_dict_values, ⟨ob, ho, hex.1⟩, ?_, ?_⟩
  · intro b e
    cases e
    exact ⟨ob, ho, hex.2.1⟩
  refine Calls.callWith_builtin rfl (PySem.evalArgs_none (call_meetsIn F.slot_dict_values ⟨ob, ho, hex.1⟩ F.entry_dict_values (F.args_dict_values_1 _) (meets_dict_values (mixKind X.prog X.w) a hsys) ⟨⟨vs, dof⟩, ?_⟩))
  generalize hview : s1.heap.push { cls := .type "dict_values", data := .fields #[.ref a] } = hV
  have up : ∀ b u, s1.heap.get? b = some u → hV.get? b = some u := fun b u e => hview ▸ Heap.get?_push_of_some _ e
  have dat1 : hV.DictAt (mixKind X.prog X.w) a vs ep := dat.keep up
  have hsz : hV.objs.size = s1.heap.objs.size + 1 := hview ▸ Heap.size_push _ _
  have aV : hV.get? s1.heap.objs.size = some { cls := .type "dict_values", data := .fields #[.ref a] } := hview ▸ Heap.get?_push_size _ rfl
  have hlt : a < s1.heap.objs.size := Heap.lt_size ho
  have hlen : vs.length = ns.length := by
    have e1 := congrArg List.length hv
    rw [List.length_map, List.length_map] at e1
    exact (KV.length rel).symm.trans e1
  have hval : ∀ (i : Nat) (v : Value), (∃ k, vs[i]? = some (k, v)) → ∃ t, v = Value.int ((ns.map fun n => ((n : Nat) : Int)).getD i 0) t := by
    rintro i v ⟨k, hk⟩
    obtain ⟨x, h1, h2⟩ := kv_get rel hk
    rw [hv, List.getElem?_map] at h1
    obtain ⟨n, hn, rfl⟩ := Option.map_eq_some_iff.mp h1
    obtain ⟨t, e3⟩ := h2
    refine ⟨t, ?_⟩
    rw [e3, List.getD_eq_getElem?_getD, List.getElem?_map, hn]
    rfl
  refine call_sum_walkG (wpAny_pyIter_values (v := s1.heap.objs.size) (d := a) ⟨_, aV, rfl, rfl⟩ dat1 ?_)
  refine ⟨_, _, _, _, _, _, _, rfl, Walks.dictValues (knd := mixKind X.prog X.w) (A := X.A.in1) (I.ok.hd hc) hV.objs.size a (by rw [hsz]; exact Nat.ne_of_lt (Nat.lt_succ_of_lt hlt)) vs ep, ⟨⟨_, Heap.get?_push_size _ rfl, rfl, rfl⟩, dat1.keep fun b u e => Heap.get?_push_of_some _ e⟩, ?_, hval, ?_⟩
  · intro b hb
    show b < (hV.push _).objs.size
    rw [Heap.size_push]
    rcases List.mem_cons.mp hb with e | hb
    · rw [e]
      exact Nat.lt_succ_self _
    · rw [List.mem_singleton.mp hb, hsz]
      exact Nat.lt_succ_of_lt (Nat.lt_succ_of_lt hlt)
  · intro h' tk t' hk
    have es : preSum (fun i => (ns.map fun n => ((n : Nat) : Int)).getD i 0) vs.length = ((ns.sum : Nat) : Int) := by
      rw [PyProof.Rows.preSum_getD, List.take_of_length_le (by rw [List.length_map, hlen]; exact Nat.le_refl _), sum_cast]
    refine ⟨.int _, H1, I1.kept (t' := tk) fun b u e => hk b u (fun hmem => ?_) (Heap.get?_push_of_some _ (up b u e)), ⟨t', by rw [es]⟩, q⟩
    have e1 := List.mem_singleton.mp hmem
    have e2 := Heap.lt_size e
    rw [e1, hsz] at e2
    exact absurd e2 (Nat.not_lt.mpr (Nat.le_succ _))
end Rw
namespace Rw
open PySem PySem.Spec PyProof.Rows L2
/-- a class of refusals that is raised -/
structure ErX (K : PySem.W.Frag) (mg : Str → Option Value) (name : Str) (C : Addr) : Prop where
  g : mg name = some (.ref C)
  x : PySem.W.excIn K C [.type "ValueError", .type "Exception", .type "BaseException", .type "object"] "ValueError.__new__" = true
  k : PySem.W.keepIn K (.ref C) = true
  b : PySem.W.subIn K (.ref C) (.type "BaseException") = some true
  t : PySem.W.typeIn K (.ref C) = some (.type "type")
/-- a module's number -/
def Cst (mg : Str → Option Value) (x : Str) (i : Int) : Prop := ∃ u, mg x = some u ∧ RelV (.int i) u
/-- a thing of a known kind; b: whether it is a number from 1 to most -/
def ThN (K : PySem.W.Frag) (H : Hp) (v : V) (most : Int) (b : Bool) : Prop :=
  (∃ i : Int, v = .int i ∧ b = decide (1 ≤ i ∧ i ≤ most)) ∨ (b = false ∧ ((∃ y, v = .bl y) ∨ ∃ t : String, TyX K H v (.type t) ∧ kitB t "bool" = some false ∧ kitB t "int" = some false))
theorem ThN.same {K : PySem.W.Frag} {H H' : Hp} {v : V} {most : Int} {b : Bool} (e : Same H H') (h : ThN K H v most b) : ThN K H' v most b := by
  rcases h with h | ⟨h1, h2 | ⟨t, h3, h4⟩⟩
  · exact .inl h
  · exact .inr ⟨h1, .inl h2⟩
  · exact .inr ⟨h1, .inr ⟨t, tyx_same e h3, h4⟩⟩
def spNeedCount (K : PySem.W.Frag) (C : Addr) : Sp := fun vs H Q E => ∃ (v : V) (most : Int) (b : Bool), vs = [v, .int most] ∧ (most = 12 ∨ most = 26 ∨ most = 60) ∧ ThN K H v most b ∧
  (b = false → ∀ H', Same H H' → E (.ref C) none H') ∧ (b = true → ∀ H', Same H H' → Q .non H')
def optV : Option (List Nat) → V
  | none => .non
  | some l => tv l
end Rw
namespace Rk
open PySem PySem.Spec PyProof.Rows L2 Rw
abbrev s_need_count : Stmt := topS 16
abbrev n_need_count : List Str := ["thing", "most"]
abbrev p_need_count : List Str := ["thing", "most"]
theorem sc_need_count : FnScope n_need_count p_need_count (defScope s_need_count) := ⟨rfl, rfl, rfl, by decide +kernel, rfl, by decide +kernel, by decide +kernel⟩
section
variable {P : Program} {w : World} {K : PySem.W.Frag} {mg : Str → Option Value} {base : Heap} {cC : Addr} (B : Bt mg) (R_NoCount : ErX K mg "NoCount" cC)
include B R_NoCount
theorem ok_need_count (D : Dfn K mg "need_count" s_need_count p_need_count) : Cal (L2.CX P w) P w K mg base 1 "need_count" (spNeedCount K cC) := by
  refine D.cal fun f fd F => F.okX sc_need_count (fun vs H Q E h => ?_) (fun cdv A outer s H vs Q E hr h => ?_)
  · obtain ⟨v, most, b, rfl, _⟩ := h
    rfl
  · obtain ⟨v, most, b, rfl, hm, hv, hno, hyes⟩ := h
    refine ⟨_, (pss_one (ps_if (PW.pt (pw_or (pt_val (pe_callB call_isi (by rfl) B.m_isinstance (by decide +kernel) (pa_cons (pv 0) (pa_cons (pe_bltn (v := .ty "bool") (u := .type "bool") rfl B.m_bool (by decide +kernel) rfl) pa_nil)))) (pw_or (pt_not (pt_val (pe_callB call_isi (by rfl) B.m_isinstance (by decide +kernel) (pa_cons (pv 0) (pa_cons (pe_bltn (v := .ty "int") (u := .type "int") rfl B.m_int (by decide +kernel) rfl) pa_nil))))) (pw_or1 (pt_not (pt_chain op_le op_le pe_int (pv 0) (pv 1))))))) (pss_one (ps_raise rfl (takes_of rfl rfl rfl rfl) (pmk_ownA PySem.F.excBase_ValueError R_NoCount.x R_NoCount.g R_NoCount.k (raises_own R_NoCount.b R_NoCount.t) (by rfl) (pa_cons (pe_joined (PJ.cons pe_str (PJ.cons (pe_fmt (pv 1)) (PJ.cons pe_str PJ.nil)))) pa_nil)))) pss_nil)), ?_⟩
    rcases hv with ⟨i, rfl, rfl⟩ | ⟨rfl, ⟨y, rfl⟩ | ⟨t, h1, h2, h3⟩⟩
    · refine ⟨_, rfl, _, _, _, _, false, rfl, .ty "bool", .base (.int _), kit_ty (by decide +kernel), false, rfl, iteF ?_⟩
      refine ⟨_, rfl, _, _, _, _, true, rfl, .ty "int", .base (.int _), kit_ty (by decide +kernel), true, rfl, iteF ?_⟩
      refine ⟨_, rfl, _, _, rfl, rfl, _, rfl, ite2 (fun a1 => ?_) (fun a1 => ?_)⟩
      · have a1 := of_decide_eq_true a1
        refine ⟨_, rfl, _, _, rfl, rfl, _, rfl, ite2 (fun a2 => ?_) (fun a2 => ?_)⟩
        · have a2 : ¬ i ≤ most := of_decide_eq_false (by simpa using a2)
          have eb : decide (1 ≤ i ∧ i ≤ most) = false := decide_eq_false fun z => a2 z.2
          rw [eb] at hno
          rcases hm with rfl | rfl | rfl <;>
          exact ⟨_, rfl, by decide +kernel, _, rfl, .inr ⟨_, rfl, by decide, _, rfl, by decide +kernel, _, rfl, by decide +kernel, ⟨(show 1 ≤ sizeLine by decide), hno rfl H (Same.refl H)⟩⟩⟩
        · have a2 : i ≤ most := by simpa using a2
          exact hyes (decide_eq_true ⟨a1, a2⟩) H (Same.refl H)
      · have a1 : ¬ 1 ≤ i := of_decide_eq_false (by simpa using a1)
        have eb : decide (1 ≤ i ∧ i ≤ most) = false := decide_eq_false fun z => a1 z.1
        rw [eb] at hno
        refine ⟨false, rfl, iteT ?_⟩
        rcases hm with rfl | rfl | rfl <;>
        exact ⟨_, rfl, by decide +kernel, _, rfl, .inr ⟨_, rfl, by decide, _, rfl, by decide +kernel, _, rfl, by decide +kernel, ⟨(show 1 ≤ sizeLine by decide), hno rfl H (Same.refl H)⟩⟩⟩
    · refine ⟨_, rfl, _, _, _, _, true, rfl, .ty "bool", .base (.bl _), kit_ty (by decide +kernel), true, rfl, iteT ?_⟩
      rcases hm with rfl | rfl | rfl <;>
      exact ⟨_, rfl, by decide +kernel, _, rfl, .inr ⟨_, rfl, by decide, _, rfl, by decide +kernel, _, rfl, by decide +kernel, ⟨(show 1 ≤ sizeLine by decide), hno rfl H (Same.refl H)⟩⟩⟩
    · refine ⟨_, rfl, _, _, _, _, false, rfl, .ty "bool", h1, kit_ty h2, false, rfl, iteF ?_⟩
      refine ⟨_, rfl, _, _, _, _, false, rfl, .ty "int", h1, kit_ty h3, false, rfl, iteT ?_⟩
      rcases hm with rfl | rfl | rfl <;>
      exact ⟨_, rfl, by decide +kernel, _, rfl, .inr ⟨_, rfl, by decide, _, rfl, by decide +kernel, _, rfl, by decide +kernel, ⟨(show 1 ≤ sizeLine by decide), hno rfl H (Same.refl H)⟩⟩⟩
end
end Rk
namespace Rw
open PySem PySem.Spec PyProof.Rows L2
theorem ip_mul {X : Cx} : PIp X .Mult (fun x y H Q => ∃ i j, x = .int i ∧ y = .int j ∧ CMul i j ∧ Q (.int (i * j)) H) := by
  rintro pins s σ H x y v u Q I r1 r2 ⟨i, j, rfl, rfl, hc, q⟩
  obtain ⟨t, rfl⟩ := r1
  obtain ⟨t', rfl⟩ := r2
  exact PySem.AutoIntOps.imul_0 ⟨.int _, H, I.tok _, ⟨_, rfl⟩, q⟩ hc.ok
def spPower : Sp := fun vs H Q _ => ∃ b n : Nat, vs = [.int (b : Nat), .int (n : Nat)] ∧ b ≤ 1000 ∧ n ≤ 1000 ∧ ∀ H', Same H H' → Q (.int ((b ^ n : Nat) : Int)) H'
end Rw
namespace Rk
open PySem PySem.Spec PyProof.Rows L2 Rw
abbrev s_power : Stmt := topS 17
abbrev n_power : List Str := ["base", "times", "result", "_"]
abbrev p_power : List Str := ["base", "times"]
theorem sc_power : FnScope n_power p_power (defScope s_power) := ⟨rfl, rfl, rfl, by decide +kernel, rfl, by decide +kernel, by decide +kernel⟩
section
variable {P : Program} {w : World} {K : PySem.W.Frag} {mg : Str → Option Value} {base : Heap} (B : Bt mg)
include B
theorem ok_power (D : Dfn K mg "power" s_power p_power) : Cal CX0 P w K mg base 1 "power" spPower := by
  refine D.cal fun f fd F => F.ok sc_power (fun vs H Q E h => ?_) (fun cdv A outer st H vs Q E hr h => ?_)
  · obtain ⟨b, n, rfl, _⟩ := h
    rfl
  · obtain ⟨b, n, rfl, hb, hn, q⟩ := h
    refine ⟨_, (pss_cons (ps_set (i := 2) sc_power.nd rfl (Or.inl rfl) pe_int)
      (pss_cons (ps_for PassesOwn.never rfl (pi_range1 (by rfl) B.m_range (pa_cons (pv 1) pa_nil)) (pg_name (i := 3) sc_power.nd rfl (Or.inl rfl))
        (pss_one (ps_aug (i := 2) sc_power.nd rfl (Or.inl rfl) (pv 0) ip_mul)))
      (pss_one (ps_ret (pv 2))))), ?_⟩
    refine ⟨_, rfl, (n : Int), rfl, by omega, by omega, for_range (lo := 0) (n := n) (fun i σ H' => ∃ y, σ = [some (.int (b : Nat)), some (.int (n : Nat)), some (.int ((b ^ i : Nat) : Int)), y] ∧ Same H H') ⟨none, rfl, Same.refl H⟩ ?_ ?_⟩
    · rintro i σ H1 hi ⟨y, rfl, e1⟩
      refine ⟨_, rfl, _, rfl, _, _, rfl, rfl, .inr ⟨by omega, by omega⟩, ?_⟩
      refine ⟨some (.int ((0 : Int) + (i : Int))), ?_, e1⟩
      show [some (V.int (b : Nat)), some (V.int (n : Nat)), some (V.int (((b ^ i : Nat) : Int) * ((b : Nat) : Int))), some (.int ((0 : Int) + (i : Int)))] = _
      rw [Nat.pow_succ, Int.natCast_mul]
    · rintro σ H1 ⟨y, rfl, e1⟩
      exact ⟨_, rfl, q H1 e1⟩
end
end Rk
namespace Rw
open PySem PySem.Spec PyProof.Rows L2
/-- a thing of a known kind; b: whether it is signs -/
def ThS (K : PySem.W.Frag) (H : Hp) (v : V) (b : Bool) : Prop :=
  (∃ l : List Nat, v = tv l ∧ l.length ≤ 100000 ∧ b = decide (Sgn l)) ∨ (b = false ∧ ∃ t : String, TyX K H v (.type t) ∧ kitB t "str" = some false)
theorem ThS.same {K : PySem.W.Frag} {H H' : Hp} {v : V} {b : Bool} (e : Same H H') (h : ThS K H v b) : ThS K H' v b := by
  rcases h with h | ⟨h1, t, h2, h3⟩
  · exact .inl h
  · exact .inr ⟨h1, t, tyx_same e h2, h3⟩
theorem ThS.yes {K : PySem.W.Frag} {H : Hp} {l : List Nat} (h : Sgn l) : ThS K H (tv l) true := .inl ⟨l, rfl, h.1.sz, (decide_eq_true h).symm⟩
theorem ThS.get {K : PySem.W.Frag} {H : Hp} {v : V} (h : ThS K H v true) : ∃ l, v = tv l ∧ Sgn l := by
  rcases h with ⟨l, e, _, b⟩ | ⟨b, _⟩
  · exact ⟨l, e, of_decide_eq_true b.symm⟩
  · cases b
def spAreSigns (K : PySem.W.Frag) : Sp := fun vs H Q _ => ∃ v b, vs = [v] ∧ ThS K H v b ∧ ∀ H', Same H H' → Q (.bl b) H'
def spNeedSigns (K : PySem.W.Frag) (C : Addr) : Sp := fun vs H Q E => ∃ v b, vs = [v] ∧ ThS K H v b ∧ (b = false → ∀ H', Same H H' → E (.ref C) none H') ∧ (b = true → ∀ H', Same H H' → Q .non H')
def spFollowing : Sp := fun vs H Q _ => ∃ (w s : List Nat) (n : Nat), vs = [tv w, tv s, .int (n : Nat)] ∧ Sgn s ∧ w ≠ [] ∧ w.length ≤ n ∧ n ≤ 12 ∧ (∀ c ∈ w, c ∈ s) ∧ ∀ H', Same H H' → Q (optV (follow w s n)) H'
theorem rise_iff : ∀ l : List Nat, ((l.zip l.tail).map fun p => decide (p.1 < p.2)).all id = decide (l.Pairwise (· < ·))
  | [] => by simp
  | [a] => by simp
  | a :: b :: r => by
    have ih := rise_iff (b :: r)
    rw [List.tail_cons, List.zip_cons_cons, List.map_cons, List.all_cons]
    rw [List.tail_cons] at ih
    rw [ih, Bool.eq_iff_iff]
    simp only [id, Bool.and_eq_true, decide_eq_true_eq]
    constructor
    · rintro ⟨h1, h2⟩
      refine List.Pairwise.cons (fun c hc => ?_) h2
      rcases List.mem_cons.mp hc with q | q
      · rw [q]; exact h1
      · exact Nat.lt_trans h1 ((List.pairwise_cons.mp h2).1 c q)
    · intro h
      obtain ⟨h1, h2⟩ := List.pairwise_cons.mp h
      exact ⟨h1 b List.mem_cons_self, h2⟩
theorem stem_nil {w s : List Nat} {n : Nat} (h : stemOf w s n = []) : follow w s n = none := by
  unfold follow
  rw [h]
  rfl
theorem stem_some {w s : List Nat} {n : Nat} (hne : stemOf w s n ≠ []) : follow w s n = some ((stemOf w s n).dropLast ++ [s.getD (s.idxOf ((stemOf w s n).getLast hne) + 1) 0]) := by
  unfold follow
  rw [List.getLast?_eq_some_getLast hne]
theorem at_last {l : List Nat} (h : l ≠ []) : atI l (-1) = some (l.getLast h) := by
  have e := List.dropLast_concat_getLast h
  have z := atI_last l.dropLast (l.getLast h)
  rwa [e] at z
theorem getLastD_eq {l : List Nat} (h : l ≠ []) : l.getLastD 0 = l.getLast h := by
  rw [List.getLastD_eq_getLast?, List.getLast?_eq_some_getLast h]
  rfl
/-- what the last sign of the stem is -/
theorem stem_last {w s : List Nat} {n : Nat} (hs : Sgn s) (hw : w ≠ []) (hn : w.length ≤ n) (hm : ∀ c ∈ w, c ∈ s) (hne : stemOf w s n ≠ []) :
    (stemOf w s n).getLast hne ∈ s ∧ s.idxOf ((stemOf w s n).getLast hne) + 1 < s.length ∧ s[s.idxOf ((stemOf w s n).getLast hne) + 1]? = some (s.getD (s.idxOf ((stemOf w s n).getLast hne) + 1) 0) := by
  obtain ⟨f1, f2, f3⟩ := fill_spec hw hn
  obtain ⟨m, em, hl⟩ := rstrip_split (fillOf w n) (s.getLastD 0)
  change fillOf w n = stemOf w s n ++ _ at em
  have ha : (stemOf w s n).getLast hne ∈ s := hm _ (f3 _ (by rw [em]; exact List.mem_append_left _ (List.getLast_mem hne)))
  obtain ⟨r1, _⟩ := rise_next hs.2.2 ha (hl _ (List.getLast?_eq_some_getLast hne))
  refine ⟨ha, r1, ?_⟩
  rw [List.getD_eq_getElem?_getD, List.getElem?_eq_getElem r1]
  rfl
end Rw
namespace Rk
open PySem PySem.Spec PyProof.Rows L2 Rw
abbrev s__need_signs : Stmt := topS 24
abbrev n__need_signs : List Str := ["thing"]
abbrev p__need_signs : List Str := ["thing"]
theorem sc__need_signs : FnScope n__need_signs p__need_signs (defScope s__need_signs) := ⟨rfl, rfl, rfl, by decide +kernel, rfl, by decide +kernel, by decide +kernel⟩
abbrev s__are_signs : Stmt := topS 25
abbrev n__are_signs : List Str := ["thing", "one", "other"]
abbrev p__are_signs : List Str := ["thing"]
theorem sc__are_signs : FnScope n__are_signs p__are_signs (defScope s__are_signs) := ⟨rfl, rfl, rfl, by decide +kernel, rfl, by decide +kernel, by decide +kernel⟩
abbrev s__following : Stmt := topS 27
abbrev n__following : List Str := ["word", "signs", "longest", "filled", "stem", "place"]
abbrev p__following : List Str := ["word", "signs", "longest"]
theorem sc__following : FnScope n__following p__following (defScope s__following) := ⟨rfl, rfl, rfl, by decide +kernel, rfl, by decide +kernel, by decide +kernel⟩
section
variable {P : Program} {w : World} {K : PySem.W.Frag} {mg : Str → Option Value} {base : Heap} {cS : Addr} (B : Bt mg)
include B
theorem ok_are_signs (C_MOST_SIGNS : Cst mg "MOST_SIGNS" 6) (D : Dfn K mg "_are_signs" s__are_signs p__are_signs) (c_is_word : Cal CX0 P w K mg base 1 "is_word" (spIsWord K)) : Cal CX0 P w K mg base 2 "_are_signs" (spAreSigns K) := by
  refine D.cal fun f fd F => F.ok sc__are_signs (fun vs H Q E h => ?_) (fun cdv A outer s H vs Q E hr h => ?_)
  · obtain ⟨v, b, rfl, _⟩ := h
    rfl
  · obtain ⟨v, b, rfl, hv, q⟩ := h
    refine ⟨_, (pss_cons (ps_if (PW.pt (pw_or (pt_not (pt_val (pe_cal c_is_word hr (by decide) pass0 (pa_cons (pv 0) pa_nil)))) (pw_or1 (pt_cmpR op_gt (pe_callB call_lenT (by rfl) B.m_len PySem.boot_len (pa_cons (pv 0) pa_nil)) (pe_gx rfl C_MOST_SIGNS) (nomark _))))) (pss_one (ps_ret pe_bl)) pss_nil)
      (pss_one (ps_ret (pe_callB (cr_all rfl) (by rfl) B.m_all (by decide +kernel) (pa_cons (pe_lc (own := [("one", 1), ("other", 2)]) (g := gTup K 2 (gCons (gName 1) (gCons (gName 2) gNil))) rfl sc__are_signs.nd (pi_zipT (by rfl) B.m_zip (pa_cons (pv 0) (pa_cons (pe_slice sl_T (pv 0) (po_some pe_int) po_none) pa_nil))) (blkOk_by (own := [("one", 1), ("other", 2)]) (N := n__are_signs) (sc := defScope s__are_signs) (by decide +kernel)) (fun _ _ _ _ _ => (pg_tup rfl (pgs_cons (pg_name (i := 1) sc__are_signs.nd rfl (Or.inl rfl)) (pgs_cons (pg_name (i := 2) sc__are_signs.nd rfl (Or.inl rfl)) pgs_nil)))) (fun _ _ _ _ _ => pts_nil) (fun _ _ _ _ _ => (pe_cmpR op_ltT (pv 1) (pv 2) (nomark _)))) pa_nil))))), ?_⟩
    rcases hv with ⟨l, rfl, hz, rfl⟩ | ⟨rfl, t, h1, h2⟩
    · refine ⟨_, rfl, tv l, decide (Wd l), rfl, .inl ⟨l, rfl, hz, rfl⟩, fun H1 e1 => ⟨_, rfl, ?_⟩⟩
      by_cases hw : Wd l
      · rw [decide_eq_true hw]
        refine iteF ?_
        refine ⟨_, rfl, l, rfl, hz, _, _, rfl, rfl, _, rfl, ite2 (fun h => ?_) (fun h => ?_)⟩
        · have h : ((l.length : Nat) : Int) > 6 := of_decide_eq_true h
          have e : decide (Sgn l) = false := decide_eq_false fun z => by have := z.2.1; omega
          rw [e] at q
          exact q H1 e1
        · have h : ¬ ((l.length : Nat) : Int) > 6 := of_decide_eq_false (by simpa using h)
          have ed : cutL l (some ((1 : Nat) : Int)) none = l.drop 1 := cutL_from l 1
          rw [show ((1 : Nat) : Int) = 1 from rfl] at ed
          refine ⟨_, rfl, _, rfl, 1, rfl, l, rfl, hz, l, l.tail, by rw [ed, List.drop_one], fun Dl hD => ?_⟩
          refine lc_it (walk_zipT (n := l.length - 1) (by rw [List.length_tail]; omega)) (LcP H1 Dl fun i acc => acc = ((l.zip l.tail).take i).map fun p => V.bl (decide (p.1 < p.2))) (lcp_start hD rfl) (fun _ _ _ _ => trivial) ?_ ?_
          · rintro i x H2 H2' hi ⟨_, acc, e, hD2, hlen, rfl⟩ ⟨T, x1, y1, rfl, nT, rfl, hx, hy⟩
            have hl2 : (l.zip l.tail).length = l.length - 1 := by
              rw [List.length_zip, List.length_tail]
              omega
            have g1 : l[i]? = some l[i] := List.getElem?_eq_getElem (by omega)
            have ht : i < l.tail.length := by rw [List.length_tail]; omega
            have g2 : l.tail[i]? = some l.tail[i] := List.getElem?_eq_getElem ht
            dsimp only at hx hy
            rw [g1] at hx
            rw [g2] at hy
            have ex : tv [l[i]] = x1 := Option.some.inj hx
            have ey : tv [l.tail[i]] = y1 := Option.some.inj hy
            subst ex ey
            refine ⟨T, _, rfl, .inl (.inl upd_same), rfl, _, _, rfl, _, _, rfl, rfl, rfl, keepAll ?_⟩
            refine ⟨_, rfl, _, rfl, [l[i]], [l.tail[i]], rfl, rfl, ?_⟩
            refine lcp_put hD e hD2 hlen (by omega) (same_upd nT) ?_
            rw [List.take_add_one, List.getElem?_eq_getElem (by omega), List.map_append, List.getElem_zip]
            show _ = _ ++ [V.bl (decide (l[i] < l.tail[i]))]
            rw [show decide (([l[i]] : List Nat) < [l.tail[i]]) = decide (l[i] < l.tail[i]) from decide_eq_decide.mpr (lt_one _ _)]
          · rintro H2 ⟨_, acc, e, hD2, _, rfl⟩
            refine ⟨Dl, (l.zip l.tail).map fun p => decide (p.1 < p.2), rfl, .inl (.inl ?_), ?_⟩
            · rw [hD2, List.take_of_length_le (by rw [List.length_zip, List.length_tail]; omega), List.map_map]
              rfl
            · rw [rise_iff]
              have e2 : decide (Sgn l) = decide (l.Pairwise (· < ·)) := decide_eq_decide.mpr ⟨fun z => z.2.2, fun z => ⟨hw, by omega, z⟩⟩
              rw [e2] at q
              exact q H2 (e1.trans e)
      · have e : decide (Sgn l) = false := decide_eq_false fun z => hw z.1
        rw [e] at q
        rw [decide_eq_false hw]
        exact iteT (q H1 e1)
    · exact ⟨_, rfl, v, false, rfl, .inr ⟨rfl, t, h1, h2⟩, fun H1 e1 => ⟨false, rfl, iteT (q H1 e1)⟩⟩
theorem ok_need_signs (C_MOST_SIGNS : Cst mg "MOST_SIGNS" 6) (R_NoSigns : ErX K mg "NoSigns" cS) (D : Dfn K mg "_need_signs" s__need_signs p__need_signs) (c__are_signs : Cal CX0 P w K mg base 2 "_are_signs" (spAreSigns K)) : Cal (L2.CX P w) P w K mg base 3 "_need_signs" (spNeedSigns K cS) := by
  refine D.cal fun f fd F => F.okX sc__need_signs (fun vs H Q E h => ?_) (fun cdv A outer s H vs Q E hr h => ?_)
  · obtain ⟨v, b, rfl, _⟩ := h
    rfl
  · obtain ⟨v, b, rfl, hv, hno, hyes⟩ := h
    refine ⟨_, (pss_one (ps_if (pt_not (pt_val (pe_cal c__are_signs hr (by decide) pass0 (pa_cons (pv 0) pa_nil)))) (pss_one (ps_raise rfl (takes_of rfl rfl rfl rfl) (pmk_ownA PySem.F.excBase_ValueError R_NoSigns.x R_NoSigns.g R_NoSigns.k (raises_own R_NoSigns.b R_NoSigns.t) (by rfl) (pa_cons (pe_joined (PJ.cons pe_str (PJ.cons (pe_fmt (pe_gx rfl C_MOST_SIGNS)) (PJ.cons pe_str PJ.nil)))) pa_nil)))) pss_nil)), ?_⟩
    refine ⟨v, rfl, v, b, rfl, hv, fun H1 e1 => ⟨b, rfl, ?_⟩⟩
    cases b with
    | true => exact iteF (hyes rfl H1 e1)
    | false =>
      refine iteT ?_
      refine ⟨_, rfl, by decide +kernel, .inr ⟨6, rfl, by decide, _, rfl, by decide +kernel, _, rfl, by decide +kernel, ?_⟩⟩
      exact ⟨(show 1 ≤ sizeLine by decide), hno rfl H1 e1⟩
theorem ok_following (D : Dfn K mg "_following" s__following p__following) : Cal CX0 P w K mg base 1 "_following" spFollowing := by
  refine D.cal fun f fd F => F.ok sc__following (fun vs H Q E h => ?_) (fun cdv A outer s H vs Q E hr h => ?_)
  · obtain ⟨u, s, n, rfl, _⟩ := h
    rfl
  · obtain ⟨u, s, n, rfl, hs, hu, hl, hn, hm, q⟩ := h
    refine ⟨_, (pss_cons (ps_set (i := 3) sc__following.nd rfl (Or.inl rfl) (pe_slice sl_T (pe_op op_rep_str (pv 0) (pv 2)) po_none (po_some (pv 2))))
      (pss_cons (ps_set (i := 4) sc__following.nd rfl (Or.inl rfl) (pe_m1 PySem.F.slot_str_rstrip PySem.F.type_str_rstrip mt_rstripT (pv 3) (pe_ix ix_T (pv 1) (pe_un un_neg pe_int) (fun _ _ => rfl))))
      (pss_cons (ps_if (pt_cmpR op_eqT (pv 4) pe_str (nomark _)) (pss_one (ps_ret pe_non)) pss_nil)
      (pss_cons (ps_set (i := 5) sc__following.nd rfl (Or.inl rfl) (pe_m1 PySem.F.slot_str_index PySem.F.type_str_index mt_indexC (pv 1) (pe_ix ix_T (pv 4) (pe_un un_neg pe_int) (fun _ _ => rfl))))
      (pss_one (ps_ret (pe_op op_addT (pe_slice sl_T (pv 4) po_none (po_some (pe_un un_neg pe_int))) (pe_ix ix_T (pv 1) (pe_op op_add (pv 5) pe_int) (fun _ _ => rfl))))))))), ?_⟩
    have s1 := hs.1.1
    have s6 := hs.2.1
    have sne : s ≠ [] := fun z => by rw [z] at s1; simp at s1
    have fl : (List.replicate n u).flatten.length = n * u.length := by simp
    have fs : n * u.length ≤ 12 * 12 := Nat.mul_le_mul hn (Nat.le_trans hl hn)
    have fs2 : u.length * n ≤ 12 * 12 := Nat.mul_le_mul (Nat.le_trans hl hn) hn
    obtain ⟨f1, f2, f3⟩ := fill_spec hu hl
    refine ⟨_, rfl, _, rfl, u, (n : Int), rfl, rfl, by omega, by omega, by rw [Int.toNat_natCast]; omega, _, rfl, _, rfl, (List.replicate n u).flatten, by rw [Int.toNat_natCast], by omega, ?_⟩
    rw [cutL_to]
    change ∃ v, _
    refine ⟨_, rfl, ⟨_, rfl⟩, _, rfl, 1, rfl, s, -1, s.getLastD 0, rfl, rfl, by omega, by rw [getLastD_eq sne]; exact at_last sne, fillOf u n, s.getLastD 0, rfl, rfl, by omega, ?_⟩
    refine ⟨_, rfl, stemOf u s n, [], rfl, by decide +kernel, _, rfl, ite2 (fun h => ?_) (fun h => ?_)⟩
    · have h := of_decide_eq_true h
      rw [stem_nil h] at q
      exact q H (Same.refl H)
    · have h : ¬ stemOf u s n = [] := of_decide_eq_false (by simpa using h)
      obtain ⟨l1, l2, l3⟩ := stem_last hs hu hl hm h
      rw [stem_some h] at q
      have sl : (stemOf u s n).length ≤ n := by
        have := rstripL_len (fillOf u n) (s.getLastD 0)
        rw [f1] at this
        exact this
      refine ⟨_, rfl, ⟨_, rfl⟩, _, rfl, 1, rfl, stemOf u s n, -1, _, rfl, rfl, by omega, at_last h, s, _, rfl, rfl, l1, ?_⟩
      refine ⟨_, rfl, 1, rfl, -1, rfl, stemOf u s n, rfl, by omega, _, rfl, _, rfl, _, _, rfl, rfl, s, _, s.getD (s.idxOf ((stemOf u s n).getLast h) + 1) 0, rfl, rfl, by omega, atI_nat (j := s.idxOf ((stemOf u s n).getLast h) + 1) l3, _, _, rfl, rfl, ?_, ?_⟩
      · have := cutL_len (stemOf u s n) none (some (-1))
        show _ + 1 ≤ _
        omega
      · rw [cutL_but]
        exact q H (Same.refl H)
end
end Rk
namespace Rw
open PySem PySem.Spec PyProof.Rows L2
def spIsAmong : Sp := fun vs H Q _ => ∃ (l s : List Nat) (n : Nat), vs = [tv l, tv s, .int (n : Nat)] ∧ Wd l ∧ Sgn s ∧ ∀ H', Same H H' → Q (.bl (decide (Among l s n))) H'
/-- what next_early does: a refusal (by its place among the classes), or an answer -/
inductive NextOut (K : PySem.W.Frag) (H : Hp) : V → V → V → Nat ⊕ V → Prop
  | w {v u m : V} : Th K H v false → NextOut K H v u m (.inl 0)
  | s {v u m : V} : Th K H v true → ThS K H u false → NextOut K H v u m (.inl 1)
  | c {v u m : V} : Th K H v true → ThS K H u true → ThN K H m 12 false → NextOut K H v u m (.inl 2)
  | n {l s : List Nat} {n : Nat} : Wd l → Sgn s → 1 ≤ n → n ≤ 12 → ¬ Among l s n → NextOut K H (tv l) (tv s) (.int (n : Nat)) (.inl 0)
  | y {l s : List Nat} {n : Nat} : Wd l → Sgn s → 1 ≤ n → n ≤ 12 → Among l s n → NextOut K H (tv l) (tv s) (.int (n : Nat)) (.inr (optV (follow l s n)))
def spNextEarly (K : PySem.W.Frag) (cs : Nat → Addr) : Sp := fun vs H Q E => ∃ (v u m : V) (o : Nat ⊕ V), vs = [v, u, m] ∧ NextOut K H v u m o ∧ ∀ H', Same H H' → match o with
  | .inl j => E (.ref (cs j)) none H'
  | .inr r => Q r H'
end Rw
namespace Rk
open PySem PySem.Spec PyProof.Rows L2 Rw
abbrev s__is_among : Stmt := topS 26
abbrev n__is_among : List Str := ["word", "signs", "longest", "letter"]
abbrev p__is_among : List Str := ["word", "signs", "longest"]
theorem sc__is_among : FnScope n__is_among p__is_among (defScope s__is_among) := ⟨rfl, rfl, rfl, by decide +kernel, rfl, by decide +kernel, by decide +kernel⟩
abbrev s_next_early : Stmt := topS 23
abbrev n_next_early : List Str := ["word", "signs", "longest"]
abbrev p_next_early : List Str := ["word", "signs", "longest"]
theorem sc_next_early : FnScope n_next_early p_next_early (defScope s_next_early) := ⟨rfl, rfl, rfl, by decide +kernel, rfl, by decide +kernel, by decide +kernel⟩
section
variable {P : Program} {w : World} {K : PySem.W.Frag} {mg : Str → Option Value} {base : Heap} {cs : Nat → Addr} (B : Bt mg)
include B
theorem ok_is_among (D : Dfn K mg "_is_among" s__is_among p__is_among) (c_is_early : Cal (L2.CX P w) P w K mg base 4 "is_early" (spIsEarly K (cs 0))) : Cal (L2.CX P w) P w K mg base 5 "_is_among" spIsAmong := by
  refine D.cal fun f fd F => F.okX sc__is_among (fun vs H Q E h => ?_) (fun cdv A outer s H vs Q E hr h => ?_)
  · obtain ⟨l, s, n, rfl, _⟩ := h
    rfl
  · obtain ⟨l, s, n, rfl, hl, hs, q⟩ := h
    refine ⟨_, (pss_cons (ps_if (PW.pt (pw_or (pt_cmpR op_gt (pe_callB call_lenT (by rfl) B.m_len PySem.boot_len (pa_cons (pv 0) pa_nil)) (pv 2) (nomark _)) (pw_or1 (pt_not (pt_val (pe_cal c_is_early hr (by decide) (passes_call (takes_of rfl rfl rfl rfl) fun _ _ _ _ h => h) (pa_cons (pv 0) pa_nil))))))) (pss_one (ps_ret pe_bl)) pss_nil)
      (pss_one (ps_ret (pe_callB (cr_all rfl) (by rfl) B.m_all (by decide +kernel) (pa_cons (pe_lc (own := [("letter", 3)]) rfl sc__is_among.nd (pi_str (pv 0)) (blkOk_by (own := [("letter", 3)]) (N := n__is_among) (sc := defScope s__is_among) (by decide +kernel)) (fun _ _ _ _ _ => (pg_name (i := 3) sc__is_among.nd rfl (Or.inl rfl))) (fun _ _ _ _ _ => pts_nil) (fun _ _ _ _ _ => (pe_cmpR op_inC (pv 3) (pv 1) (by rfl)))) pa_nil))))), ?_⟩
    refine ⟨_, rfl, l, rfl, hl.sz, _, rfl, _, _, rfl, rfl, _, rfl, ite2 (fun h => ?_) (fun h => ?_)⟩
    · have h : ((l.length : Nat) : Int) > ((n : Nat) : Int) := of_decide_eq_true h
      have e : decide (Among l s n) = false := decide_eq_false fun z => by have := z.1; omega
      rw [e] at q
      exact q H (Same.refl H)
    · have h : ¬ ((l.length : Nat) : Int) > ((n : Nat) : Int) := of_decide_eq_false (by simpa using h)
      refine ⟨_, rfl, tv l, true, [], rfl, rfl, .word hl, (fun e => nomatch e), fun l' _ el _ H1 e1 => ?_⟩
      cases tv_inj el
      refine ⟨_, rfl, ?_⟩
      cases he : early l with
      | false =>
        have e : decide (Among l s n) = false := decide_eq_false fun z => by have := z.2.1; rw [he] at this; cases this
        rw [e] at q
        exact iteT (q H1 e1)
      | true =>
        refine iteF ?_
        have hz := hl.2.1
        refine ⟨_, rfl, T l, rfl, fun Dl hD => ?_⟩
        refine lc_it (walk_T l) (LcP H1 Dl fun i acc => acc = (l.take i).map fun c => V.bl (decide (c ∈ s))) (lcp_start hD rfl) (fun _ _ _ _ => trivial) ?_ ?_
        · rintro i x H2 H2' hi ⟨_, acc, e, hD2, hlen, rfl⟩ ⟨rfl, c, hc, rfl⟩
          refine ⟨rfl, keepAll ?_⟩
          refine ⟨_, rfl, _, rfl, c, s, rfl, rfl, ?_⟩
          refine lcp_put hD e hD2 hlen (by omega) (Same.refl _) ?_
          rw [List.take_add_one, hc, List.map_append]
          rfl
        · rintro H2 ⟨_, acc, e, hD2, _, rfl⟩
          refine ⟨Dl, l.map fun c => decide (c ∈ s), rfl, .inl (.inl ?_), ?_⟩
          · rw [hD2, List.take_length, List.map_map]
            rfl
          · have ea : (l.map fun c => decide (c ∈ s)).all id = decide (Among l s n) := by
              rw [Bool.eq_iff_iff, decide_eq_true_eq, List.all_map, List.all_eq_true]
              constructor
              · intro k
                exact ⟨by omega, he, fun c hc => by simpa using k c hc⟩
              · intro k c hc
                simpa using k.2.2 c hc
            rw [ea]
            exact q H2 (e1.trans e)
theorem ok_next_early (R : Er1 K mg (cs 0)) (C_MOST_LONG : Cst mg "MOST_LONG_rows" 12) (D : Dfn K mg "next_early" s_next_early p_next_early) (c_need_word : Cal (L2.CX P w) P w K mg base 2 "need_word" (spNeed K (cs 0)))
    (c__need_signs : Cal (L2.CX P w) P w K mg base 3 "_need_signs" (spNeedSigns K (cs 1))) (c_need_count : Cal (L2.CX P w) P w K mg base 1 "need_count" (spNeedCount K (cs 2)))
    (c__is_among : Cal (L2.CX P w) P w K mg base 5 "_is_among" spIsAmong) (c__following : Cal CX0 P w K mg base 1 "_following" spFollowing) : Cal (L2.CX P w) P w K mg base 6 "next_early" (spNextEarly K cs) := by
  refine D.cal fun f fd F => F.okX sc_next_early (fun vs H Q E h => ?_) (fun cdv A outer s H vs Q E hr h => ?_)
  · obtain ⟨v, u, m, o, rfl, _⟩ := h
    rfl
  · obtain ⟨v, u, m, o, rfl, ho, q⟩ := h
    refine ⟨_, (pss_cons (ps_expr (pe_cal c_need_word hr (by decide) (passes_call (takes_of rfl rfl rfl rfl) fun _ _ _ _ h => h) (pa_cons (pv 0) pa_nil)))
      (pss_cons (ps_expr (pe_cal c__need_signs hr (by decide) (passes_call (takes_of rfl rfl rfl rfl) fun _ _ _ _ h => h) (pa_cons (pv 1) pa_nil)))
      (pss_cons (ps_expr (pe_cal c_need_count hr (by decide) (passes_call (takes_of rfl rfl rfl rfl) fun _ _ _ _ h => h) (pa_cons (pv 2) (pa_cons (pe_gx rfl C_MOST_LONG) pa_nil))))
      (pss_cons (ps_if (pt_not (pt_val (pe_cal c__is_among hr (by decide) (passes_call (takes_of rfl rfl rfl rfl) fun _ _ _ _ h => h) (pa_cons (pv 0) (pa_cons (pv 1) (pa_cons (pv 2) pa_nil)))))) (pss_one (ps_raise rfl (takes_of rfl rfl rfl rfl) (pmk_ownA PySem.F.excBase_ValueError R.x_NoWord R.g_NoWord R.k_NoWord (raises_own R.b_NoWord R.t_NoWord) (by rfl) (pa_cons pe_str pa_nil)))) pss_nil)
      (pss_one (ps_ret (pe_cal c__following hr (by decide) pass0 (pa_cons (pv 0) (pa_cons (pv 1) (pa_cons (pv 2) pa_nil)))))))))), ?_⟩
    cases ho with
    | w hv => exact ⟨_, rfl, v, false, [], rfl, rfl, hv, (fun _ H1 e1 => q H1 e1), fun l hb => nomatch hb⟩
    | s hv hu =>
      refine ⟨_, rfl, v, true, [], rfl, rfl, hv, (fun e => nomatch e), fun l _ el hl H1 e1 => ?_⟩
      exact ⟨_, rfl, u, false, rfl, hu.same e1, (fun _ H2 e2 => q H2 (e1.trans e2)), fun hb => nomatch hb⟩
    | c hv hu hm =>
      refine ⟨_, rfl, v, true, [], rfl, rfl, hv, (fun e => nomatch e), fun l _ el hl H1 e1 => ?_⟩
      refine ⟨_, rfl, u, true, rfl, hu.same e1, (fun hb => nomatch hb), fun _ H2 e2 => ?_⟩
      exact ⟨_, rfl, m, 12, false, rfl, .inl rfl, hm.same (e1.trans e2), (fun _ H3 e3 => q H3 ((e1.trans e2).trans e3)), fun hb => nomatch hb⟩
    | @n l s n hl hs h1 h2 hn =>
      refine ⟨_, rfl, tv l, true, [], rfl, rfl, .word hl, (fun e => nomatch e), fun l' _ el _ H1 e1 => ?_⟩
      cases tv_inj el
      refine ⟨_, rfl, tv s, true, rfl, .yes hs, (fun hb => nomatch hb), fun _ H2 e2 => ?_⟩
      refine ⟨_, rfl, _, 12, true, rfl, .inl rfl, .inl ⟨_, rfl, (decide_eq_true ⟨by omega, by omega⟩).symm⟩, (fun hb => nomatch hb), fun _ H3 e3 => ?_⟩
      refine ⟨_, rfl, _, rfl, _, rfl, l, s, n, rfl, hl, hs, fun H4 e4 => ⟨_, rfl, ?_⟩⟩
      rw [decide_eq_false hn]
      refine iteT ?_
      exact ⟨(show 1 ≤ sizeLine by decide), q H4 (((e1.trans e2).trans e3).trans e4)⟩
    | @y l s n hl hs h1 h2 hn =>
      refine ⟨_, rfl, tv l, true, [], rfl, rfl, .word hl, (fun e => nomatch e), fun l' _ el _ H1 e1 => ?_⟩
      cases tv_inj el
      refine ⟨_, rfl, tv s, true, rfl, .yes hs, (fun hb => nomatch hb), fun _ H2 e2 => ?_⟩
      refine ⟨_, rfl, _, 12, true, rfl, .inl rfl, .inl ⟨_, rfl, (decide_eq_true ⟨by omega, by omega⟩).symm⟩, (fun hb => nomatch hb), fun _ H3 e3 => ?_⟩
      refine ⟨_, rfl, _, rfl, _, rfl, l, s, n, rfl, hl, hs, fun H4 e4 => ⟨_, rfl, ?_⟩⟩
      rw [decide_eq_true hn]
      refine iteF ?_
      refine ⟨_, rfl, _, rfl, _, rfl, l, s, n, rfl, hs, (fun z => by have := hl.1; rw [z] at this; simp at this), hn.1, h2, hn.2.2, fun H5 e5 => ?_⟩
      exact q H5 ((((e1.trans e2).trans e3).trans e4).trans e5)
end
end Rk
namespace Rw
open PySem PySem.Spec PyProof.Rows L2
/-- the list of all early words that are meant, in order -/
def IsEw (L : List (List Nat)) (s : List Nat) (n : Nat) : Prop := L.Pairwise (· < ·) ∧ ∀ u, u ∈ L ↔ u ≠ [] ∧ Among u s n
theorem sorted_uniq : ∀ {a b : List (List Nat)}, a.Pairwise (· < ·) → b.Pairwise (· < ·) → (∀ u, u ∈ a ↔ u ∈ b) → a = b
  | [], [], _, _, _ => rfl
  | [], y :: b, _, _, h => by
    have := (h y).mpr List.mem_cons_self
    exact (List.not_mem_nil this).elim
  | x :: a, [], _, _, h => by
    have := (h x).mp List.mem_cons_self
    exact (List.not_mem_nil this).elim
  | x :: a, y :: b, ha, hb, h => by
    obtain ⟨a1, a2⟩ := List.pairwise_cons.mp ha
    obtain ⟨b1, b2⟩ := List.pairwise_cons.mp hb
    have e : x = y := by
      rcases List.mem_cons.mp ((h x).mp List.mem_cons_self) with q | q
      · exact q
      · rcases List.mem_cons.mp ((h y).mpr List.mem_cons_self) with r | r
        · exact r.symm
        · exact (lt_asym (b1 x q) (a1 y r)).elim
    subst e
    congr 1
    refine sorted_uniq a2 b2 fun u => ?_
    constructor
    · intro hu
      rcases List.mem_cons.mp ((h u).mp (List.mem_cons_of_mem _ hu)) with q | q
      · exact (lt_irr (q ▸ a1 u hu)).elim
      · exact q
    · intro hu
      rcases List.mem_cons.mp ((h u).mpr (List.mem_cons_of_mem _ hu)) with q | q
      · exact (lt_irr (q ▸ b1 u hu)).elim
      · exact q
theorem IsEw.uniq {L M : List (List Nat)} {s : List Nat} {n : Nat} (h : IsEw L s n) (g : IsEw M s n) : L = M := sorted_uniq h.1 g.1 fun u => (h.2 u).trans (g.2 u).symm
theorem lt_nodup {L : List (List Nat)} (h : L.Pairwise (· < ·)) : L.Nodup := h.imp fun {a b} hab (z : a = b) => by
  rw [z] at hab
  exact lt_irr hab
theorem IsEw.perm {L : List (List Nat)} {s : List Nat} {n : Nat} (hs : s.Pairwise (· < ·)) (h : IsEw L s n) : L.Perm (allE s n) :=
  (List.perm_ext_iff_of_nodup (lt_nodup h.1) (nodup_allE (rise_nodup hs) n)).mpr fun u => (h.2 u).trans mem_allE.symm
/-- sorted, each once, all: it is that list -/
theorem IsEw.of {L : List (List Nat)} {s : List Nat} {n : Nat} (hs : s.Pairwise (· < ·)) (hp : L.Perm (allE s n)) (ho : L.Pairwise fun x y => ¬ y < x) : IsEw L s n := by
  have hn : L.Nodup := hp.nodup_iff.mpr (nodup_allE (rise_nodup hs) n)
  refine ⟨(ho.and hn).imp fun {a b} h => ?_, fun u => (hp.mem_iff).trans mem_allE⟩
  rcases tri a b with q | q | q
  · exact q
  · exact absurd q h.2
  · exact absurd q h.1
/-- what has been found, and where it goes on -/
structure EwSt (s : List Nat) (n : Nat) (acc : List (List Nat)) (cur : Option (List Nat)) : Prop where
  up : acc.Pairwise (· < ·)
  mem : ∀ u ∈ acc, u ≠ [] ∧ Among u s n
  here : ∀ w, cur = some w → (w ≠ [] ∧ Among w s n) ∧ ∀ u ∈ acc, u < w
  all : ∀ u, u ≠ [] → Among u s n → u ∈ acc ∨ ∃ w, cur = some w ∧ ¬ u < w
theorem EwSt.start {s : List Nat} {n : Nat} {c : Nat} {r : List Nat} (e : s = c :: r) (hs : s.Pairwise (· < ·)) (hn : 1 ≤ n) : EwSt s n [] (some [c]) := by
  refine ⟨List.Pairwise.nil, fun u h => (List.not_mem_nil h).elim, fun w hw => ?_, fun u hne hu => .inr ⟨[c], rfl, fun hlt => ?_⟩⟩
  · rw [← Option.some.inj hw]
    exact ⟨⟨by simp, hn, by rfl, fun d hd => by rw [List.mem_singleton.mp hd, e]; exact List.mem_cons_self⟩, fun u h => (List.not_mem_nil h).elim⟩
  · cases u with
    | nil => exact hne rfl
    | cons d t =>
      have hd := hu.2.2 d List.mem_cons_self
      rw [e] at hd hs
      rcases List.cons_lt_cons_iff.mp hlt with q | ⟨_, q⟩
      · rcases List.mem_cons.mp hd with z | z
        · omega
        · have := (List.pairwise_cons.mp hs).1 d z
          omega
      · exact List.not_lt_nil _ q
theorem EwSt.step {s : List Nat} {n : Nat} {acc : List (List Nat)} {w : List Nat} (hs : s.Pairwise (· < ·)) (h : EwSt s n acc (some w)) : EwSt s n (acc ++ [w]) (follow w s n) := by
  obtain ⟨⟨w1, w2⟩, w3⟩ := h.here w rfl
  refine ⟨List.pairwise_append.mpr ⟨h.up, List.pairwise_singleton _ _, fun a ha b hb => ?_⟩, fun u hu => ?_, fun y hy => ?_, fun u hne hu => ?_⟩
  · rw [List.mem_singleton.mp hb]
    exact w3 a ha
  · rcases List.mem_append.mp hu with q | q
    · exact h.mem u q
    · rw [List.mem_singleton.mp q]
      exact ⟨w1, w2⟩
  · obtain ⟨y1, y2, y3, _⟩ := follow_some hs w1 w2 hy
    refine ⟨⟨y1, y2⟩, fun u hu => ?_⟩
    rcases List.mem_append.mp hu with q | q
    · exact List.lt_trans (w3 u q) y3
    · rw [List.mem_singleton.mp q]
      exact y3
  · rcases h.all u hne hu with q | ⟨w', ew, q⟩
    · exact .inl (List.mem_append_left _ q)
    · cases Option.some.inj ew
      rcases tri u w with r | r | r
      · exact absurd r q
      · exact .inl (List.mem_append_right _ (by rw [r]; exact List.mem_singleton.mpr rfl))
      · cases e : follow w s n with
        | none => exact absurd r (follow_none hs w1 w2 e u hu)
        | some y => exact .inr ⟨y, rfl, (follow_some hs w1 w2 e).2.2.2 u hu r⟩
theorem EwSt.fin {s : List Nat} {n : Nat} {acc : List (List Nat)} (h : EwSt s n acc none) : IsEw acc s n :=
  ⟨h.up, fun u => ⟨h.mem u, fun ⟨h1, h2⟩ => by
    rcases h.all u h1 h2 with q | ⟨w, e, _⟩
    · exact q
    · cases e⟩⟩
theorem EwSt.len {s : List Nat} {n : Nat} {acc : List (List Nat)} {cur : Option (List Nat)} (h : EwSt s n acc cur) : acc.length ≤ (allE s n).length :=
  List.Nodup.length_le_of_subset (lt_nodup h.up) fun u hu => mem_allE.mpr (h.mem u hu)
/-- what early_words does -/
inductive EwOut (K : PySem.W.Frag) (H : Hp) : V → V → Nat ⊕ (List Nat × Nat) → Prop
  | s {u m : V} : ThS K H u false → EwOut K H u m (.inl 1)
  | c {u m : V} : ThS K H u true → ThN K H m 12 false → EwOut K H u m (.inl 2)
  | m {s : List Nat} {n : Nat} : Sgn s → 1 ≤ n → n ≤ 12 → 4096 < s.length ^ n → EwOut K H (tv s) (.int (n : Nat)) (.inl 3)
  | y {s : List Nat} {n : Nat} : Sgn s → 1 ≤ n → n ≤ 12 → s.length ^ n ≤ 4096 → EwOut K H (tv s) (.int (n : Nat)) (.inr (s, n))
def spEarlyWords (K : PySem.W.Frag) (cs : Nat → Addr) : Sp := fun vs H Q E => ∃ (u m : V) (o : Nat ⊕ (List Nat × Nat)), vs = [u, m] ∧ EwOut K H u m o ∧ match o with
  | .inl j => ∀ H', Same H H' → E (.ref (cs j)) none H'
  | .inr (s, n) => ∀ (L : List (List Nat)) (p : Addr) (H' : Hp), IsEw L s n → H p = none → Same H H' → H' p = some (.lst (tvs L)) → Q (.ref p) H'
end Rw
namespace Rk
open PySem PySem.Spec PyProof.Rows L2 Rw
abbrev s_early_words : Stmt := topS 22
abbrev n_early_words : List Str := ["signs", "longest", "found", "word"]
abbrev p_early_words : List Str := ["signs", "longest"]
theorem sc_early_words : FnScope n_early_words p_early_words (defScope s_early_words) := ⟨rfl, rfl, rfl, by decide +kernel, rfl, by decide +kernel, by decide +kernel⟩
section
variable {P : Program} {w : World} {K : PySem.W.Frag} {mg : Str → Option Value} {base : Heap} {cs : Nat → Addr} (B : Bt mg)
include B
theorem ok_early_words (R_TooMany : ErX K mg "TooMany" (cs 3)) (C_MOST_LONG : Cst mg "MOST_LONG_rows" 12) (C_MOST_WORDS : Cst mg "MOST_WORDS" 4096) (D : Dfn K mg "early_words" s_early_words p_early_words)
    (c__need_signs : Cal (L2.CX P w) P w K mg base 3 "_need_signs" (spNeedSigns K (cs 1))) (c_need_count : Cal (L2.CX P w) P w K mg base 1 "need_count" (spNeedCount K (cs 2)))
    (c_power : Cal CX0 P w K mg base 1 "power" spPower) (c__following : Cal CX0 P w K mg base 1 "_following" spFollowing) : Cal (L2.CX P w) P w K mg base 4 "early_words" (spEarlyWords K cs) := by
  refine D.cal fun f fd F => F.okX sc_early_words (fun vs H Q E h => ?_) (fun cdv A outer st H vs Q E hr h => ?_)
  · obtain ⟨u, m, o, rfl, _⟩ := h
    rfl
  · obtain ⟨u, m, o, rfl, ho, q⟩ := h
    refine ⟨_, (pss_cons (ps_expr (pe_cal c__need_signs hr (by decide) (passes_call (takes_of rfl rfl rfl rfl) fun _ _ _ _ h => h) (pa_cons (pv 0) pa_nil)))
      (pss_cons (ps_expr (pe_cal c_need_count hr (by decide) (passes_call (takes_of rfl rfl rfl rfl) fun _ _ _ _ h => h) (pa_cons (pv 1) (pa_cons (pe_gx rfl C_MOST_LONG) pa_nil))))
      (pss_cons (ps_if (pt_cmpR op_gt (pe_cal c_power hr (by decide) pass0 (pa_cons (pe_callB call_lenT (by rfl) B.m_len PySem.boot_len (pa_cons (pv 0) pa_nil)) (pa_cons (pv 1) pa_nil))) (pe_gx rfl C_MOST_WORDS) (nomark _)) (pss_one (ps_raise rfl (takes_of rfl rfl rfl rfl) (pmk_ownA PySem.F.excBase_ValueError R_TooMany.x R_TooMany.g R_TooMany.k (raises_own R_TooMany.b R_TooMany.t) (by rfl) (pa_cons (pe_joined (PJ.cons pe_str (PJ.cons (pe_fmt (pe_gx rfl C_MOST_WORDS)) (PJ.cons pe_str PJ.nil)))) pa_nil)))) pss_nil)
      (pss_cons (ps_set (i := 2) sc_early_words.nd rfl (Or.inl rfl) (pe_lst pa_nil))
      (pss_cons (ps_set (i := 3) sc_early_words.nd rfl (Or.inl rfl) (pe_ix ix_T (pv 0) pe_int (fun _ _ => rfl)))
      (pss_cons (ps_while (passes_of rfl) (pt_cmpR op_notN (pv 3) pe_non (nomark _)) (pss_cons (ps_expr (pe_bm PySem.F.plainAttrs_list PySem.F.slot_list_append PySem.F.type_list_append mt_append (pv 2) (pa_cons (pv 3) pa_nil)))
        (pss_one (ps_set (i := 3) sc_early_words.nd rfl (Or.inl rfl) (pe_cal c__following hr (by decide) pass0 (pa_cons (pv 3) (pa_cons (pv 0) (pa_cons (pv 1) pa_nil))))))))
      (pss_one (ps_ret (pv 2))))))))), ?_⟩
    cases ho with
    | s hu => exact ⟨_, rfl, u, false, rfl, hu, (fun _ H2 e2 => q H2 e2), fun hb => nomatch hb⟩
    | c hu hm =>
      refine ⟨_, rfl, u, true, rfl, hu, (fun hb => nomatch hb), fun _ H2 e2 => ?_⟩
      exact ⟨_, rfl, m, 12, false, rfl, .inl rfl, hm.same e2, (fun _ H3 e3 => q H3 (e2.trans e3)), fun hb => nomatch hb⟩
    | @m s n hs h1 h2 h4 =>
      have s6 := hs.2.1
      refine ⟨_, rfl, tv s, true, rfl, .yes hs, (fun hb => nomatch hb), fun _ H2 e2 => ?_⟩
      refine ⟨_, rfl, _, 12, true, rfl, .inl rfl, .inl ⟨_, rfl, (decide_eq_true ⟨by omega, by omega⟩).symm⟩, (fun hb => nomatch hb), fun _ H3 e3 => ?_⟩
      refine ⟨_, rfl, s, rfl, by omega, _, rfl, s.length, n, rfl, by omega, by omega, fun H4 e4 => ⟨_, _, rfl, rfl, true, ?_, iteT ?_⟩⟩
      · refine congrArg V.bl (decide_eq_true ?_)
        show ((s.length ^ n : Nat) : Int) > 4096
        omega
      · exact ⟨_, rfl, by decide +kernel, .inr ⟨4096, rfl, by decide, _, rfl, by decide +kernel, _, rfl, by decide +kernel, (show 1 ≤ sizeLine by decide), q H4 ((e2.trans e3).trans e4)⟩⟩
    | @y s n hs h1 h2 h4 =>
      have s1 := hs.1.1
      have s6 := hs.2.1
      refine ⟨_, rfl, tv s, true, rfl, .yes hs, (fun hb => nomatch hb), fun _ H2 e2 => ?_⟩
      refine ⟨_, rfl, _, 12, true, rfl, .inl rfl, .inl ⟨_, rfl, (decide_eq_true ⟨by omega, by omega⟩).symm⟩, (fun hb => nomatch hb), fun _ H3 e3 => ?_⟩
      refine ⟨_, rfl, s, rfl, by omega, _, rfl, s.length, n, rfl, by omega, by omega, fun H4 e4 => ⟨_, _, rfl, rfl, false, ?_, iteF ?_⟩⟩
      · refine congrArg V.bl (decide_eq_false ?_)
        show ¬ ((s.length ^ n : Nat) : Int) > 4096
        omega
      have E4 := (e2.trans e3).trans e4
      obtain ⟨c, r, es⟩ : ∃ c r, s = c :: r := by
        cases s with
        | nil => simp at s1
        | cons c r => exact ⟨c, r, rfl⟩
      have lim : (allE s n).length ≤ 12 * 4096 := Nat.le_trans (len_allE s n s1) (Nat.mul_le_mul h2 h4)
      refine ⟨(show 0 ≤ sizeLine by decide), fun p np => ?_⟩
      have npH : H p = none := E4.free np
      refine ⟨_, rfl, s, 0, c, rfl, rfl, by omega, by rw [es]; exact atI_nat (j := 0) rfl, ?_⟩
      refine ⟨fun m σ H' => ∃ acc cur, σ = [some (tv s), some (.int (n : Nat)), some (.ref p), some (optV cur)] ∧ Same H H' ∧ H' p = some (.lst (tvs acc)) ∧ EwSt s n acc cur ∧ m = (allE s n).length - acc.length + (match cur with | none => 0 | some _ => 1), ⟨_, [], some [c], rfl, Same.mut E4 npH, upd_same, .start es hs.2.2 h1, rfl⟩, ?_⟩
      rintro m σ H5 ⟨acc, cur, rfl, e5, hp, hst, rfl⟩
      have al := hst.len
      cases cur with
      | none =>
        refine ⟨_, rfl, rfl, false, by simp [optV], iteF ?_⟩
        exact ⟨_, rfl, q acc p H5 hst.fin npH e5 hp⟩
      | some w =>
        obtain ⟨⟨w1, w2⟩, _⟩ := hst.here w rfl
        refine ⟨_, rfl, rfl, true, by simp [optV], iteT ?_⟩
        have st2 := hst.step hs.2.2
        have al2 := st2.len
        rw [List.length_append] at al2
        have al2 : acc.length + 1 ≤ (allE s n).length := al2
        refine ⟨fun σ' H' => σ' = [some (tv s), some (.int (n : Nat)), some (.ref p), some (optV (follow w s n))] ∧ Same H H' ∧ H' p = some (.lst (tvs (acc ++ [w]))), ?_, ?_⟩
        · rintro σ' H' ⟨rfl, e6, hp6⟩
          refine ⟨_, ?_, _, _, rfl, e6, hp6, st2, rfl⟩
          rw [List.length_append]
          show (allE s n).length - (acc.length + 1) + _ < _
          cases follow w s n with
          | none => show _ + 0 < _ + 1; omega
          | some y => show _ + 1 < _ + 1; omega
        · refine ⟨_, rfl, .inl ⟨rfl, _, SqL.of hp⟩, _, rfl, p, _, _, rfl, rfl, hp, by rw [List.length_map]; exact bigL (by omega), ?_⟩
          refine ⟨_, rfl, _, rfl, _, rfl, w, s, n, rfl, hs, w1, w2.1, h2, w2.2.2, fun H6 e6 => ?_⟩
          refine ⟨rfl, (Same.mut e5 npH).trans e6, ?_⟩
          rw [tvs_app]
          exact e6 _ _ upd_same
end
end Rk
namespace Rk
open PySem PySem.Spec PyProof.Rows L2 Rw
abbrev s_least_form : Stmt := topS 39
abbrev n_least_form : List Str := ["word"]
abbrev p_least_form : List Str := ["word"]
theorem sc_least_form : FnScope n_least_form p_least_form (defScope s_least_form) := ⟨rfl, rfl, rfl, by decide +kernel, rfl, by decide +kernel, by decide +kernel⟩
section
variable {P : Program} {w : World} {K : PySem.W.Frag} {mg : Str → Option Value} {base : Heap} {cN : Addr} (B : Bt mg)
include B
theorem ok_least_form (D : Dfn K mg "least_form" s_least_form p_least_form) (c_turnings : Cal (L2.CX P w) P w K mg base 3 "turnings" (spTurnings K cN)) : Cal (L2.CX P w) P w K mg base 4 "least_form" (spLeastForm K cN) := by
  refine D.cal fun f fd F => F.okX sc_least_form (fun vs H Q E h => ?_) (fun cdv A outer s H vs Q E hr h => ?_)
  · obtain ⟨v, b, rest, rfl, hr, _⟩ := h
    cases List.eq_nil_of_length_eq_zero hr
    rfl
  · obtain ⟨v, b, rest, rfl, hrest, hv, hno, hyes⟩ := h
    cases List.eq_nil_of_length_eq_zero hrest
    refine ⟨_, (pss_one (ps_ret (pe_callB (cr_minL rfl hr.units) (by rfl) B.m_min (by decide +kernel) (pa_cons (pe_cal c_turnings hr (by decide) (passes_call (takes_of rfl rfl rfl rfl) fun _ _ _ _ h => h) (pa_cons (pv 0) pa_nil)) pa_nil)))), ?_⟩
    refine ⟨v, rfl, v, b, [], rfl, rfl, hv, hno, fun l hb ev hl p H1 np e1 hp => ?_⟩
    exact ⟨p, turns l, rfl, SqL.of hp, turns_ne hl, hyes l hb ev hl H1 e1⟩
end
end Rk
namespace Rw
open PySem PySem.Spec PyProof.Rows L2
/-- the divisors of n among the first i, each with its early words -/
def upTo (n i : Nat) : List Nat := ((List.range i).map (1 + ·)).filter fun d => decide (n % d = 0)
def cntE (k d : Nat) : Key × V := (.inl (d : Nat), .int (Lc k d : Nat))
def cntK (k n i : Nat) : List (Key × V) := (upTo n i).map (cntE k)
theorem upTo_all (n : Nat) : upTo n n = divs n := rfl
theorem upTo_succ (n i : Nat) : upTo n (i + 1) = upTo n i ++ (if n % (1 + i) = 0 then [1 + i] else []) := by
  unfold upTo
  rw [filt_step]
  by_cases g : n % (1 + i) = 0
  · rw [if_pos g, if_pos (decide_eq_true g)]
  · rw [if_neg g, if_neg (by rw [decide_eq_true_eq]; exact g)]
theorem valV_cnt {k : Nat} {x : Nat} : ∀ {l : List Nat}, x ∈ l → valV (l.map (cntE k)) (.inl (x : Nat)) = some (.int (Lc k x : Nat))
  | d :: r, h => by
    by_cases e : d = x
    · subst e
      exact valV_pos rfl
    · have hr : x ∈ r := by
        rcases List.mem_cons.mp h with q | q
        · exact absurd q.symm e
        · exact q
      rw [List.map_cons, valV_neg, valV_cnt hr]
      intro z
      have : ((d : Nat) : Int) = ((x : Nat) : Int) := Sum.inl.inj z
      omega
theorem putK_new {k : Nat} {x : Nat} {v : V} : ∀ {l : List Nat}, x ∉ l → putK (l.map (cntE k)) (.inl (x : Nat)) v = l.map (cntE k) ++ [(.inl (x : Nat), v)] := by
  intro l h
  unfold putK
  rw [if_neg]
  rw [List.any_eq_true]
  rintro ⟨p, hp, e⟩
  obtain ⟨d, hd, rfl⟩ := List.mem_map.mp hp
  have : Sum.inl (d : Int) = (Sum.inl (x : Int) : Key) := of_decide_eq_true e
  have := Sum.inl.inj this
  have : d = x := by omega
  rw [this] at hd
  exact h hd
theorem upTo_propers {n i : Nat} (h : n % (1 + i) = 0) : (upTo n i).filter (fun d => decide ((1 + i) % d = 0)) = propers (1 + i) := by
  unfold upTo propers
  rw [List.filter_filter, show 1 + i - 1 = i from by omega]
  refine List.filter_congr fun d _ => ?_
  by_cases g : (1 + i) % d = 0
  · have : n % d = 0 := Nat.mod_eq_zero_of_dvd (Nat.dvd_trans (Nat.dvd_of_mod_eq_zero g) (Nat.dvd_of_mod_eq_zero h))
    rw [decide_eq_true g, decide_eq_true this]
    rfl
  · rw [decide_eq_false g]
    rfl
/-- what the counts do: a refusal, or numbers in their bounds -/
inductive CntOut (K : PySem.W.Frag) (H : Hp) : V → V → Option (Nat × Nat) → Prop
  | a {u v : V} : ThN K H u 26 false → CntOut K H u v none
  | b {u v : V} : ThN K H u 26 true → ThN K H v 60 false → CntOut K H u v none
  | y {k n : Nat} : 1 ≤ k → k ≤ 26 → 1 ≤ n → n ≤ 60 → CntOut K H (.int (k : Nat)) (.int (n : Nat)) (some (k, n))
def spCnts (K : PySem.W.Frag) (C : Addr) : Sp := fun vs H Q E => ∃ (u v : V) (o : Option (Nat × Nat)), vs = [u, v] ∧ CntOut K H u v o ∧ match o with
  | none => ∀ H', Same H H' → E (.ref C) none H'
  | some (k, n) => ∀ (p : Addr) (H' : Hp), H p = none → Same H H' → H' p = some (.dK (cntK k n n)) → Q (.ref p) H'
def spCnt (K : PySem.W.Frag) (C : Addr) (f : Nat → Nat → Nat) : Sp := fun vs H Q E => ∃ (u v : V) (o : Option (Nat × Nat)), vs = [u, v] ∧ CntOut K H u v o ∧ match o with
  | none => ∀ H', Same H H' → E (.ref C) none H'
  | some (k, n) => ∀ H', Same H H' → Q (.int (f k n : Nat)) H'
end Rw
namespace Rk
open PySem PySem.Spec PyProof.Rows L2 Rw
abbrev s_early_count : Stmt := topS 35
abbrev n_early_count : List Str := ["many", "long"]
abbrev p_early_count : List Str := ["many", "long"]
theorem sc_early_count : FnScope n_early_count p_early_count (defScope s_early_count) := ⟨rfl, rfl, rfl, by decide +kernel, rfl, by decide +kernel, by decide +kernel⟩
abbrev s_ring_count : Stmt := topS 36
abbrev n_ring_count : List Str := ["many", "long"]
abbrev p_ring_count : List Str := ["many", "long"]
theorem sc_ring_count : FnScope n_ring_count p_ring_count (defScope s_ring_count) := ⟨rfl, rfl, rfl, by decide +kernel, rfl, by decide +kernel, by decide +kernel⟩
abbrev s__early_counts : Stmt := topS 37
abbrev n__early_counts : List Str := ["many", "long", "found", "size", "shorter", "part"]
abbrev p__early_counts : List Str := ["many", "long"]
theorem sc__early_counts : FnScope n__early_counts p__early_counts (defScope s__early_counts) := ⟨rfl, rfl, rfl, by decide +kernel, rfl, by decide +kernel, by decide +kernel⟩
section
variable {P : Program} {w : World} {K : PySem.W.Frag} {mg : Str → Option Value} {base : Heap} {cC : Addr} (B : Bt mg)
include B
theorem ok_early_counts (C_MOST_LETTERS : Cst mg "MOST_LETTERS" 26) (C_MOST_LONG : Cst mg "MOST_LONG_counts" 60) (D : Dfn K mg "_early_counts" s__early_counts p__early_counts) (c_need_count : Cal (L2.CX P w) P w K mg base 1 "need_count" (spNeedCount K cC))
    (c_power : Cal CX0 P w K mg base 1 "power" spPower) : Cal (L2.CX P w) P w K mg base 2 "_early_counts" (spCnts K cC) := by
  refine D.cal fun f fd F => F.okX sc__early_counts (fun vs H Q E h => ?_) (fun cdv A outer st H vs Q E hr h => ?_)
  · obtain ⟨u, v, o, rfl, _⟩ := h
    rfl
  · obtain ⟨u, v, o, rfl, ho, q⟩ := h
    refine ⟨_, (pss_cons (ps_expr (pe_cal c_need_count hr (by decide) (passes_call (takes_of rfl rfl rfl rfl) fun _ _ _ _ h => h) (pa_cons (pv 0) (pa_cons (pe_gx rfl C_MOST_LETTERS) pa_nil))))
      (pss_cons (ps_expr (pe_cal c_need_count hr (by decide) (passes_call (takes_of rfl rfl rfl rfl) fun _ _ _ _ h => h) (pa_cons (pv 1) (pa_cons (pe_gx rfl C_MOST_LONG) pa_nil))))
      (pss_cons (ps_set (i := 2) sc__early_counts.nd rfl (Or.inr rfl) pe_dnewK)
      (pss_cons (ps_for (passes_of rfl) rfl (pi_range2 (by rfl) B.m_range (pa_cons pe_int (pa_cons (pe_op op_add (pv 1) pe_int) pa_nil))) (pg_name (i := 3) sc__early_counts.nd rfl (Or.inr rfl))
        (pss_one (ps_if (pt_cmpR op_eq (pe_op op_mod (pv 1) (pv 3)) pe_int (nomark _)) (pss_cons (ps_set (i := 4) sc__early_counts.nd rfl (Or.inl rfl) (pe_callB (cr_sumN rfl) (by rfl) B.m_sum (by decide +kernel) (pa_cons (pe_lock (pe_lc (own := [("part", 5)]) rfl sc__early_counts.nd (pi_keys (pv 2)) (blkOk_by (own := [("part", 5)]) (N := n__early_counts) (sc := defScope s__early_counts) (by decide +kernel)) (fun _ _ _ _ _ => (pg_name (i := 5) sc__early_counts.nd rfl (Or.inl rfl))) (fun _ _ _ _ _ => (pts_one (pt_cmpR op_eq (pe_op op_mod (pv 3) (pv 5)) pe_int (nomark _)))) (fun _ _ _ _ _ => (pe_op op_mul (pv 5) (pe_dget (hu_of hr) (pv 2) (pv 5) (fun _ _ => rfl)))))) pa_nil)))
          (pss_one (ps_dput (hu_of hr) (pv 2) (pv 3) (pe_op op_fdiv (pe_op op_sub (pe_cal c_power hr (by decide) pass0 (pa_cons (pv 0) (pa_cons (pv 3) pa_nil))) (pv 4)) (pv 3)) rfl))) pss_nil)))
      (pss_one (ps_ret (pv 2))))))), ?_⟩
    cases ho with
    | a hu => exact ⟨_, rfl, u, 26, false, rfl, .inr (.inl rfl), hu, (fun _ H1 e1 => q H1 e1), fun hb => nomatch hb⟩
    | b hu hv =>
      refine ⟨_, rfl, u, 26, true, rfl, .inr (.inl rfl), hu, (fun hb => nomatch hb), fun _ H1 e1 => ?_⟩
      exact ⟨_, rfl, v, 60, false, rfl, .inr (.inr rfl), hv.same e1, (fun _ H2 e2 => q H2 (e1.trans e2)), fun hb => nomatch hb⟩
    | @y k n k1 k2 n1 n2 =>
      refine ⟨_, rfl, _, 26, true, rfl, .inr (.inl rfl), .inl ⟨_, rfl, (decide_eq_true ⟨by omega, by omega⟩).symm⟩, (fun hb => nomatch hb), fun _ H1 e1 => ?_⟩
      refine ⟨_, rfl, _, 60, true, rfl, .inr (.inr rfl), .inl ⟨_, rfl, (decide_eq_true ⟨by omega, by omega⟩).symm⟩, (fun hb => nomatch hb), fun _ H2 e2 => ?_⟩
      intro p np
      have npH : H p = none := (e1.trans e2).free np
      have E2 := Same.mut (o := .dK []) (e1.trans e2) npH
      refine ⟨_, rfl, _, _, rfl, rfl, 1, ((n : Nat) : Int) + 1, rfl, ⟨by decide, by decide, by omega, by omega⟩, ?_⟩
      have ez : (((n : Nat) : Int) + 1 - 1).toNat = n := by omega
      rw [ez]
      refine for_range (lo := 1) (n := n) (fun i σ H' => ∃ y y2, σ = [some (.int (k : Nat)), some (.int (n : Nat)), some (.ref p), y, y2, none] ∧ Same H H' ∧ H' p = some (.dK (cntK k n i))) ⟨none, none, rfl, E2, upd_same⟩ ?_ ?_
      · rintro i σ H3 hi ⟨y, y2, rfl, e3, hp⟩
        have hi : i < n := hi
        have e1i : (1 : Int) + (i : Int) = ((1 + i : Nat) : Int) := by omega
        refine ⟨_, rfl, _, rfl, _, _, rfl, rfl, (show (0 : Int) < 1 + (i : Int) by omega), rfl, _, rfl, ite2 (fun h => ?_) (fun h => ?_)⟩
        · have h : V.int (((n : Nat) : Int) % (1 + (i : Int))) = V.int 0 := of_decide_eq_true h
          have hd : n % (1 + i) = 0 := by
            have := V.int.inj h
            rw [e1i] at this
            omega
          refine ⟨p, _, hp, trivial, fun od => ?_⟩
          have hf : upd H3 p (.frz od (.dK (cntK k n i))) p = some (.frz od (.dK (cntK k n i))) := upd_same
          refine ⟨_, rfl, p, od, rfl, .inl ⟨_, hf, fun Dl hD => ?_⟩⟩
          have nD : Dl ≠ p := fun z => by rw [z, hf] at hD; cases hD
          have lk : (cntK k n i).length = (upTo n i).length := List.length_map ..
          have ul : (upTo n i).length ≤ i := by
            have := List.length_filter_le (fun d => decide (n % d = 0)) ((List.range i).map (1 + ·))
            rw [List.length_map, List.length_range] at this
            exact this
          refine lc_it walk_keys (LcP (upd H3 p (.frz od (.dK (cntK k n i)))) Dl fun j acc => acc = ivs ((((upTo n i).take j).filter fun d => decide ((1 + i) % d = 0)).map fun d => d * Lc k d)) (lcp_start hD rfl) (fun j H4 _ ⟨_, acc, e, _, _, _⟩ => e _ _ hf) ?_ ?_
          · rintro j x H4 H4' hj ⟨_, acc, e, hD4, hlen, rfl⟩ ⟨rfl, key, val, hkv, rfl⟩
            rw [lk] at hj
            obtain ⟨d, hdj⟩ : ∃ d, (upTo n i)[j]? = some d := ⟨_, List.getElem?_eq_getElem hj⟩
            have hkv' : (cntK k n i)[j]? = some (cntE k d) := by
              unfold cntK
              rw [List.getElem?_map, hdj]
              rfl
            rw [hkv'] at hkv
            cases hkv
            have hdm := List.mem_of_getElem? hdj
            obtain ⟨d', hd', ed'⟩ := List.mem_map.mp (List.mem_filter.mp hdm).1
            have hd1 : 1 ≤ d := by omega
            have hd60 : d ≤ 60 := by
              have := List.mem_range.mp hd'
              omega
            refine ⟨rfl, ?_⟩
            have st : ((upTo n i).take (j + 1)).filter (fun d => decide ((1 + i) % d = 0)) = ((upTo n i).take j).filter (fun d => decide ((1 + i) % d = 0)) ++ (if (1 + i) % d = 0 then [d] else []) := by
              rw [List.take_add_one, hdj, List.filter_append]
              congr 1
              by_cases g : (1 + i) % d = 0 <;> simp [g]
            refine ⟨_, rfl, _, rfl, _, ((d : Nat) : Int), rfl, rfl, (show (0 : Int) < ((d : Nat) : Int) by omega), rfl, _, rfl, ite2 (fun h => ?_) (fun h => ?_)⟩
            · have h : V.int (((1 : Int) + (i : Int)) % ((d : Nat) : Int)) = V.int 0 := of_decide_eq_true h
              have hdd : (1 + i) % d = 0 := by
                have := V.int.inj h
                rw [e1i] at this
                omega
              refine ⟨_, rfl, _, rfl, _, rfl, p, _, rfl, .inl ⟨cntK k n i, .inl ((d : Nat) : Int), .inr ⟨od, e _ _ hf⟩, rfl, (valV_cnt hdm).symm⟩, _, _, rfl, rfl, .inl ⟨by omega, by omega⟩, ?_⟩
              refine lcp_put hD e hD4 hlen (by omega) (Same.refl _) ?_
              rw [st, if_pos hdd, List.map_append, ivs_app]
              show _ = _ ++ [V.int ((d * Lc k d : Nat) : Int)]
              rw [Int.natCast_mul]
            · have h : ¬ V.int (((1 : Int) + (i : Int)) % ((d : Nat) : Int)) = V.int 0 := of_decide_eq_false (by simpa using h)
              have hdd : ¬ (1 + i) % d = 0 := fun z => h (by
                rw [e1i]
                exact congrArg V.int (by omega))
              refine lcp_skip hD e hD4 hlen (Same.refl _) ?_
              rw [st, if_neg hdd, List.append_nil]
          · rintro H4 ⟨_, acc, e4, hD4, _, rfl⟩
            rw [lk, List.take_length, upTo_propers hd] at hD4
            have hp4 := e4 _ _ hf
            refine ⟨hp4, ?_⟩
            have hp5 : upd H4 p (.dK (cntK k n i)) p = some (.dK (cntK k n i)) := upd_same
            have hD5 : upd H4 p (.dK (cntK k n i)) Dl = some (.lst (ivs ((propers (1 + i)).map fun d => d * Lc k d))) := by rw [upd_ne nD]; exact hD4
            have E5 : Same H (upd H4 p (.dK (cntK k n i))) := by
              have s1 := Same.mut (o := .frz od (.dK (cntK k n i))) e3 npH
              exact Same.mut (s1.trans e4) npH
            generalize upd H4 p (.dK (cntK k n i)) = H5 at *
            refine ⟨Dl, _, rfl, SqL.of hD5, ?_⟩
            -- put down
            have hs := lc_step k (n := 1 + i) (by omega)
            generalize ((propers (1 + i)).map fun d => d * Lc k d).sum = S at *
            refine ⟨_, rfl, _, rfl, k, 1 + i, ?_, by omega, by omega, fun H6 e6 => ⟨_, rfl, _, _, rfl, rfl, _, rfl, _, _, rfl, rfl, ⟨by omega, by omega⟩, ?_⟩⟩
            · rw [← e1i]
              rfl
            have hp6 := e6 _ _ hp5
            refine ⟨_, rfl, _, rfl, p, _, rfl, .inl ⟨cntK k n i, .inl ((1 + i : Nat) : Int), hp6, ?_, ?_, rfl⟩, ?_⟩
            · show V.int ((1 : Int) + (i : Int)) = V.int ((1 + i : Nat) : Int)
              rw [e1i]
            · rw [lk]
              exact bigL (by omega)
            refine ⟨some (.int ((1 : Int) + (i : Int))), some (.int (S : Nat)), rfl, Same.mut (E5.trans e6) npH, ?_⟩
            rw [upd_same]
            have nin : 1 + i ∉ upTo n i := fun z => by
              obtain ⟨d', hd', ed'⟩ := List.mem_map.mp (List.mem_filter.mp z).1
              have := List.mem_range.mp hd'
              omega
            have ed : (((k ^ (1 + i) : Nat) : Int) - ((S : Nat) : Int)) / (1 + (i : Int)) = ((Lc k (1 + i) : Nat) : Int) := by
              rw [← hs, e1i, Int.natCast_add, Int.natCast_mul]
              rw [show ((S : Nat) : Int) + ((1 + i : Nat) : Int) * ((Lc k (1 + i) : Nat) : Int) - ((S : Nat) : Int) = ((1 + i : Nat) : Int) * ((Lc k (1 + i) : Nat) : Int) from by omega]
              exact Int.mul_ediv_cancel_left _ (by omega)
            show some (HO.dK (putK (cntK k n i) (.inl ((1 + i : Nat) : Int)) (V.int ((((k ^ (1 + i) : Nat) : Int) - ((S : Nat) : Int)) / (1 + (i : Int)))))) = _
            rw [ed]
            unfold cntK
            rw [putK_new nin, upTo_succ, if_pos hd, List.map_append]
            rfl
        · have h : ¬ V.int (((n : Nat) : Int) % (1 + (i : Int))) = V.int 0 := of_decide_eq_false (by simpa using h)
          have hd : ¬ n % (1 + i) = 0 := fun z => h (by
            rw [e1i]
            exact congrArg V.int (by omega))
          refine ⟨_, _, rfl, e3, ?_⟩
          unfold cntK
          rw [upTo_succ, if_neg hd, List.append_nil]
          exact hp
      · rintro σ H3 ⟨y, y2, rfl, e3, hp⟩
        exact ⟨_, rfl, q p H3 npH e3 hp⟩
theorem ok_early_count (D : Dfn K mg "early_count" s_early_count p_early_count) (c__early_counts : Cal (L2.CX P w) P w K mg base 2 "_early_counts" (spCnts K cC)) : Cal (L2.CX P w) P w K mg base 3 "early_count" (spCnt K cC Lc) := by
  refine D.cal fun f fd F => F.okX sc_early_count (fun vs H Q E h => ?_) (fun cdv A outer st H vs Q E hr h => ?_)
  · obtain ⟨u, v, o, rfl, _⟩ := h
    rfl
  · obtain ⟨u, v, o, rfl, ho, q⟩ := h
    refine ⟨_, (pss_one (ps_ret (pe_dget (hu_of hr) (pe_cal c__early_counts hr (by decide) (passes_call (takes_of rfl rfl rfl rfl) fun _ _ _ _ h => h) (pa_cons (pv 0) (pa_cons (pv 1) pa_nil))) (pv 1) (fun _ _ => rfl)))), ?_⟩
    refine ⟨_, rfl, _, rfl, u, v, o, rfl, ho, ?_⟩
    cases o with
    | none => exact q
    | some x =>
      obtain ⟨k, n⟩ := x
      intro p H1 np e1 hp
      cases ho with
      | y k1 k2 n1 n2 =>
        refine ⟨_, rfl, p, _, rfl, .inl ⟨cntK k n n, .inl ((n : Nat) : Int), .inl hp, rfl, ?_⟩, q H1 e1⟩
        exact (valV_cnt (l := upTo n n) (mem_divs.mpr ⟨n1, Nat.le_refl n, Nat.mod_self n⟩)).symm
theorem ok_ring_count (D : Dfn K mg "ring_count" s_ring_count p_ring_count) (c__early_counts : Cal (L2.CX P w) P w K mg base 2 "_early_counts" (spCnts K cC)) : Cal (L2.CX P w) P w K mg base 3 "ring_count" (spCnt K cC Rc) := by
  refine D.cal fun f fd F => F.okX sc_ring_count (fun vs H Q E h => ?_) (fun cdv A outer st H vs Q E hr h => ?_)
  · obtain ⟨u, v, o, rfl, _⟩ := h
    rfl
  · obtain ⟨u, v, o, rfl, ho, q⟩ := h
    refine ⟨_, (pss_one (ps_ret (pe_sumVals rfl (by rfl) B.m_sum (pe_cal c__early_counts hr (by decide) (passes_call (takes_of rfl rfl rfl rfl) fun _ _ _ _ h => h) (pa_cons (pv 0) (pa_cons (pv 1) pa_nil)))))), ?_⟩
    refine ⟨_, rfl, _, rfl, u, v, o, rfl, ho, ?_⟩
    cases o with
    | none => exact q
    | some x =>
      obtain ⟨k, n⟩ := x
      intro p H1 np e1 hp
      refine ⟨p, _, (divs n).map fun d => Lc k d, rfl, hp, ?_, q H1 e1⟩
      unfold cntK
      rw [List.map_map, upTo_all]
      unfold ivs
      rw [List.map_map]
      rfl
end
end Rk
namespace Rw
open PySem PySem.Spec PyProof.Rows L2
theorem cr_sortedLK {X : Cx} {K : PySem.W.Frag} (hK : X.K = K) : CallR X (.builtin "sorted") (rSortedL K) := hK ▸ cr_sortedL
def spLLonger (K : PySem.W.Frag) : Sp := fun vs H Q _ => ∃ (a : Addr) (ls : List (List Nat)) (s : List Nat), vs = [.ref a, tv s] ∧ SqL K H a (tvs ls) ∧ ls.length * s.length ≤ 100000 ∧ s.length ≤ 1000 ∧ (∀ x ∈ ls, x.length ≤ 1000) ∧ newT (longer ls s) H Q
end Rw
namespace Rk
open PySem PySem.Spec PyProof.Rows L2 Rw
abbrev s_l_longer : Stmt := topS 43
abbrev n_l_longer : List Str := ["_law_words_here", "_law_signs", "_law_found", "_law_word", "_law_sign"]
abbrev p_l_longer : List Str := ["_law_words_here", "_law_signs"]
theorem sc_l_longer : FnScope n_l_longer p_l_longer (defScope s_l_longer) := ⟨rfl, rfl, rfl, by decide +kernel, rfl, by decide +kernel, by decide +kernel⟩
section
variable {P : Program} {w : World} {K : PySem.W.Frag} {mg : Str → Option Value} {base : Heap} (B : Bt mg)
theorem ok_llonger (D : Dfn K mg "_law_longer" s_l_longer p_l_longer) : Cal CX0 P w K mg base 1 "_law_longer" (spLLonger K) := by
  refine D.cal fun f fd F => F.ok sc_l_longer (fun vs H Q E h => ?_) (fun cdv A outer st H vs Q E hr h => ?_)
  · obtain ⟨a, ls, s, rfl, _⟩ := h
    rfl
  · obtain ⟨a, ls, s, rfl, hs, hn, hsl, hx, q⟩ := h
    refine ⟨_, (pss_cons (ps_set (i := 2) sc_l_longer.nd rfl (Or.inl rfl) (pe_lst pa_nil))
      (pss_cons (ps_for PassesOwn.never rfl (pi_list (pv 0)) (pg_name (i := 3) sc_l_longer.nd rfl (Or.inr rfl))
        (pss_one (ps_set (i := 2) sc_l_longer.nd rfl (Or.inl rfl) (pe_op op_cat (pv 2) (pe_lc (own := [("_law_sign", 4)]) rfl sc_l_longer.nd (pi_str (pv 1)) (blkOk_by (own := [("_law_sign", 4)]) (N := n_l_longer) (sc := defScope s_l_longer) (by decide +kernel)) (fun _ _ _ _ _ => (pg_name (i := 4) sc_l_longer.nd rfl (Or.inl rfl))) (fun _ _ _ _ _ => pts_nil) (fun _ _ _ _ _ => (pe_op op_addT (pv 3) (pv 4))))))))
      (pss_one (ps_ret (pv 2))))), ?_⟩
    refine ⟨(show 0 ≤ sizeLine by decide), fun p np => ?_⟩
    have e0 := same_upd (o := .lst []) np
    refine ⟨_, rfl, a, rfl, ⟨_, e0.seq hs⟩, for_list (xs := tvs ls) (fun i σ H' => ∃ r y z, σ = [some (.ref a), some (tv s), some (.ref r), y, z] ∧ Same H H' ∧ H r = none ∧ H' r = some (.lst (tvs (longer (ls.take i) s)))) ⟨p, none, none, rfl, e0, np, upd_same⟩ ?_ ?_ ?_⟩
    · rintro i σ H2 _ ⟨r, y, z, rfl, e2, _, _⟩
      exact e2.seq hs
    · rintro i x σ H2 hxi ⟨r, y, z, rfl, e2, nr, hr2⟩
      obtain ⟨u, hu, rfl⟩ : ∃ u, ls[i]? = some u ∧ tv u = x := by
        rw [List.getElem?_map] at hxi
        cases g : ls[i]? with
        | none => rw [g] at hxi; cases hxi
        | some u => rw [g] at hxi; exact ⟨u, rfl, Option.some.inj hxi⟩
      have hi : i < ls.length := (List.getElem?_eq_some_iff.mp hu).1
      have ux := hx u (List.mem_of_getElem? hu)
      refine ⟨_, rfl, _, rfl, T s, rfl, fun Dl hD => ?_⟩
      refine lc_it (walk_T s) (LcP H2 Dl fun k acc => acc = tvs ((s.take k).map fun c => u ++ [c])) (lcp_start hD rfl) (fun _ _ _ _ => trivial) ?_ ?_
      · rintro k x H3 H3' hk ⟨_, acc, e, hD2, hlen, rfl⟩ ⟨rfl, c, hc, rfl⟩
        refine ⟨rfl, keepAll ?_⟩
        refine ⟨_, rfl, _, rfl, u, [c], rfl, rfl, (show u.length + 1 ≤ 100000 by omega), ?_⟩
        refine lcp_put hD e hD2 hlen (by omega) (Same.refl _) ?_
        rw [List.take_add_one, hc, List.map_append, tvs_app]
        rfl
      · rintro H3 ⟨_, acc, e3, hD3, _, rfl⟩
        rw [List.take_length] at hD3
        have ml : ls.length * s.length ≤ 100000 := hn
        have m1 : (i + 1) * s.length ≤ ls.length * s.length := Nat.mul_le_mul_right _ hi
        rw [Nat.succ_mul] at m1
        have hlt : (longer (ls.take i) s).length = i * s.length := by rw [len_longer, List.length_take, Nat.min_eq_left (by omega)]
        refine ⟨r, Dl, _, _, rfl, rfl, e3 _ _ hr2, hD3, ?_, fun p5 np5 => ?_⟩
        · rw [List.length_map, List.length_map, List.length_map, hlt]
          exact big (by omega)
        · refine ⟨p5, _, _, rfl, (e2.trans e3).trans (same_upd np5), (e2.trans e3).free np5, ?_⟩
          rw [upd_same, ← tvs_app, List.take_add_one, hu]
          unfold longer
          rw [List.flatMap_append, Option.toList_some, List.flatMap_singleton]
    · rintro σ H2 ⟨r, y, z, rfl, e2, nr, hr2⟩
      rw [List.length_map, List.take_length] at hr2
      exact ⟨_, rfl, q r H2 nr e2 hr2⟩
end
end Rk
namespace Rk
open PySem PySem.Spec PyProof.Rows L2 Rw
abbrev s_l_cell_at : Stmt := topS 41
abbrev n_l_cell_at : List Str := ["_law_script", "_law_k"]
abbrev p_l_cell_at : List Str := ["_law_script", "_law_k"]
theorem sc_l_cell_at : FnScope n_l_cell_at p_l_cell_at (defScope s_l_cell_at) := ⟨rfl, rfl, rfl, by decide +kernel, rfl, by decide +kernel, by decide +kernel⟩
abbrev s_l_mixed : Stmt := topS 42
abbrev n_l_mixed : List Str := ["_law_cell", "_law_k", "_law_mix"]
abbrev p_l_mixed : List Str := ["_law_cell", "_law_k"]
theorem sc_l_mixed : FnScope n_l_mixed p_l_mixed (defScope s_l_mixed) := ⟨rfl, rfl, rfl, by decide +kernel, rfl, by decide +kernel, by decide +kernel⟩
section
variable {P : Program} {w : World} {K : PySem.W.Frag} {mg : Str → Option Value} {base : Heap} (B : Bt mg)
theorem ok_mixed (D : Dfn K mg "_law_mixed" s_l_mixed p_l_mixed) : Cal CX0 P w K mg base 1 "_law_mixed" spMixed := by
  refine D.cal fun f fd F => F.ok sc_l_mixed (fun vs H Q E h => ?_) (fun cdv A outer s H vs Q E hr h => ?_)
  · obtain ⟨c, k, rfl, _⟩ := h
    rfl
  · obtain ⟨c, k, rfl, q⟩ := h
    refine ⟨_, (pss_cons (ps_set (i := 2) sc_l_mixed.nd rfl (Or.inl rfl) (pe_op op_mod (pe_op op_mul (pe_op op_add (pe_op op_add (pv 0) (pe_op op_mul pe_int (pv 1))) pe_int) pe_int) pe_int))
      (pss_one (ps_ret (pe_op op_mod (pe_op op_add (pe_op op_mul (pv 2) (pv 2)) (pe_op op_mul pe_int (pv 2))) pe_int)))), ?_⟩
    refine ⟨_, rfl, _, rfl, 7919, k, rfl, rfl, .inl ⟨by decide, by decide⟩, _, _, rfl, rfl, _, _, rfl, rfl, _, _, rfl, rfl, .inr ⟨by decide, by decide⟩, _, _, rfl, rfl, (by decide : (0 : Int) < 2147483647), ?_⟩
    refine ⟨_, rfl, _, rfl, _, _, rfl, rfl, .inl ⟨by omega, by omega⟩, _, rfl, _, _, rfl, rfl, .inl ⟨by decide, by decide⟩, _, _, rfl, rfl, _, _, rfl, rfl, (by decide : (0 : Int) < 2147483399), ?_⟩
    exact q _ (Int.emod_nonneg _ (by decide)) (Int.emod_lt_of_pos _ (by decide))
include B
theorem ok_cell (D : Dfn K mg "_law_cell_at" s_l_cell_at p_l_cell_at) : Cal CX0 P w K mg base 1 "_law_cell_at" (spCellAt K) := by
  refine D.cal fun f fd F => F.ok sc_l_cell_at (fun vs H Q E h => ?_) (fun cdv A outer s H vs Q E hr h => ?_)
  · obtain ⟨a, ns, k, rfl, _⟩ := h
    rfl
  · obtain ⟨a, ns, k, rfl, hs, h0, h1, q⟩ := h
    refine ⟨_, (pss_cons (ps_if (pt_cmpR op_lt (pv 1) (pe_callB call_len_seq (by rfl) B.m_len PySem.boot_len (pa_cons (pv 0) pa_nil)) (nomark _)) (pss_one (ps_ret (pe_ix ix_list (pv 0) (pv 1) (fun _ _ => rfl)))) pss_nil)
      (pss_one (ps_ret (pe_op op_mul (pe_op op_mul (pe_op op_add (pv 1) pe_int) (pe_op op_add (pv 1) pe_int)) pe_int)))), ?_⟩
    refine ⟨_, rfl, _, rfl, a, _, rfl, .inl hs, k, _, rfl, rfl, _, rfl, ite2 (fun h => ?_) (fun h => ?_)⟩
    · have h := of_decide_eq_true h
      rw [List.length_map] at h
      obtain ⟨j, rfl⟩ : ∃ j : Nat, k = (j : Int) := ⟨k.toNat, by omega⟩
      have hj : j < ns.length := by omega
      refine ⟨_, rfl, _, rfl, a, _, _, .int ns[j], rfl, rfl, hs, atI_nat ?_, q _⟩
      rw [List.getElem?_map, List.getElem?_eq_getElem hj]
      rfl
    · refine ⟨_, rfl, k, 3, rfl, rfl, _, rfl, k, 7, rfl, rfl, _, _, rfl, rfl, .inl ⟨by omega, by omega⟩, _, _, rfl, rfl, .inr ⟨by decide, by decide⟩, q _⟩
end
end Rk
namespace Rw
open PySem PySem.Spec PyProof.Rows L2
/-- what the law's mixing tells -/
def mixF (c k : Int) : Int := ((c + 7919 * k + 11) * 48271 % 2147483647 * ((c + 7919 * k + 11) * 48271 % 2147483647) + 40692 * ((c + 7919 * k + 11) * 48271 % 2147483647)) % 2147483399
theorem mixF_lo (c k : Int) : 0 ≤ mixF c k := Int.emod_nonneg _ (by decide)
theorem mixF_hi (c k : Int) : mixF c k < 2147483399 := Int.emod_lt_of_pos _ (by decide)
def spMixF : Sp := fun vs H Q _ => ∃ c k : Int, vs = [.int c, .int k] ∧ Q (.int (mixF c k)) H
end Rw
namespace Rk
open PySem PySem.Spec PyProof.Rows L2 Rw
section
variable {P : Program} {w : World} {K : PySem.W.Frag} {mg : Str → Option Value} {base : Heap}
theorem ok_mixF (D : Dfn K mg "_law_mixed" s_l_mixed p_l_mixed) : Cal CX0 P w K mg base 1 "_law_mixed" spMixF := by
  refine D.cal fun f fd F => F.ok sc_l_mixed (fun vs H Q E h => ?_) (fun cdv A outer s H vs Q E hr h => ?_)
  · obtain ⟨c, k, rfl, _⟩ := h
    rfl
  · obtain ⟨c, k, rfl, q⟩ := h
    refine ⟨_, (pss_cons (ps_set (i := 2) sc_l_mixed.nd rfl (Or.inl rfl) (pe_op op_mod (pe_op op_mul (pe_op op_add (pe_op op_add (pv 0) (pe_op op_mul pe_int (pv 1))) pe_int) pe_int) pe_int))
      (pss_one (ps_ret (pe_op op_mod (pe_op op_add (pe_op op_mul (pv 2) (pv 2)) (pe_op op_mul pe_int (pv 2))) pe_int)))), ?_⟩
    refine ⟨_, rfl, _, rfl, 7919, k, rfl, rfl, .inl ⟨by decide, by decide⟩, _, _, rfl, rfl, _, _, rfl, rfl, _, _, rfl, rfl, .inr ⟨by decide, by decide⟩, _, _, rfl, rfl, (by decide : (0 : Int) < 2147483647), ?_⟩
    refine ⟨_, rfl, _, rfl, _, _, rfl, rfl, .inl ⟨by omega, by omega⟩, _, rfl, _, _, rfl, rfl, .inl ⟨by decide, by decide⟩, _, _, rfl, rfl, _, _, rfl, rfl, (by decide : (0 : Int) < 2147483399), ?_⟩
    exact q
end
end Rk
namespace Rw
open PySem PySem.Spec PyProof.Rows L2
theorem pi_listK {X : Cx} {K : PySem.W.Frag} {tg l : Expr} {tl : TE} (hK : X.K = K) (hl : PE X l tl) : PI X tg l (iList K tl) := hK ▸ pi_list hl
theorem op_neLK {X : Cx} {K : PySem.W.Frag} (hK : X.K = K) (hu : X.A.units + 64 < cLine) : OpR X (compareOp .NotEq) (rEqL K true) := hK ▸ op_neL hu
theorem op_eqLK {X : Cx} {K : PySem.W.Frag} (hK : X.K = K) (hu : X.A.units + 64 < cLine) : OpR X (compareOp .Eq) (rEqL K false) := hK ▸ op_eqL hu
theorem op_inTK {X : Cx} {K : PySem.W.Frag} (hK : X.K = K) : OpR X (compareOp .In) (rInT K false) := hK ▸ op_inT
theorem op_notInTK {X : Cx} {K : PySem.W.Frag} (hK : X.K = K) : OpR X (compareOp .NotIn) (rInT K true) := hK ▸ op_notInT
end Rw
namespace Rw
open PySem PySem.Spec PyProof.Rows L2
def spLWords : Sp := fun vs H Q _ => ∃ (s : List Nat) (n : Nat), vs = [tv s, .int (n : Nat)] ∧ 1 ≤ s.length ∧ s.length ≤ 6 ∧ n ≤ 12 ∧ s.length ^ n ≤ 5000 ∧ newT (wordsL s n) H Q
end Rw
namespace Rk
open PySem PySem.Spec PyProof.Rows L2 Rw
abbrev s_l_words : Stmt := topS 44
abbrev n_l_words : List Str := ["_law_signs", "_law_long", "_law_words_here", "_law_turn"]
abbrev p_l_words : List Str := ["_law_signs", "_law_long"]
theorem sc_l_words : FnScope n_l_words p_l_words (defScope s_l_words) := ⟨rfl, rfl, rfl, by decide +kernel, rfl, by decide +kernel, by decide +kernel⟩
section
variable {P : Program} {w : World} {K : PySem.W.Frag} {mg : Str → Option Value} {base : Heap} (B : Bt mg)
include B
theorem ok_lwords (D : Dfn K mg "_law_words" s_l_words p_l_words) (c__law_longer : Cal CX0 P w K mg base 1 "_law_longer" (spLLonger K)) : Cal CX0 P w K mg base 2 "_law_words" spLWords := by
  refine D.cal fun f fd F => F.ok sc_l_words (fun vs H Q E h => ?_) (fun cdv A outer st H vs Q E hr h => ?_)
  · obtain ⟨s, n, rfl, _⟩ := h
    rfl
  · obtain ⟨s, n, rfl, s1, s6, hn, hpow, q⟩ := h
    refine ⟨_, (pss_cons (ps_set (i := 2) sc_l_words.nd rfl (Or.inl rfl) (pe_lst (pa_cons pe_str pa_nil)))
      (pss_cons (ps_for PassesOwn.never rfl (pi_range1 (by rfl) B.m_range (pa_cons (pv 1) pa_nil)) (pg_name (i := 3) sc_l_words.nd rfl (Or.inl rfl))
        (pss_one (ps_set (i := 2) sc_l_words.nd rfl (Or.inl rfl) (pe_cal c__law_longer hr (by decide) pass0 (pa_cons (pv 2) (pa_cons (pv 0) pa_nil))))))
      (pss_one (ps_ret (pv 2))))), ?_⟩
    refine ⟨(show 1 ≤ sizeLine by decide), fun p2 np2 => ?_⟩
    have pw : ∀ i, i ≤ n → s.length ^ i ≤ 5000 := fun i hi => Nat.le_trans (Nat.pow_le_pow_right s1 hi) hpow
    refine ⟨_, rfl, (n : Int), rfl, by omega, by omega, for_range (lo := 0) (n := n) (fun i σ H' => ∃ r y, σ = [some (tv s), some (.int (n : Nat)), some (.ref r), y] ∧ Same H H' ∧ H r = none ∧ H' r = some (.lst (tvs (wordsL s i)))) ⟨p2, none, rfl, same_upd np2, np2, ?_⟩ ?_ ?_⟩
    · rw [upd_same]
      have : (V.str "") = tv [] := by decide +kernel
      rw [this]
      rfl
    · rintro i σ H2 hi ⟨r, y, rfl, e2, nr, hr2⟩
      have hi : i < n := hi
      have wl : ∀ x ∈ wordsL s i, x.length ≤ 1000 := fun x hx => by
        have := (mem_wordsL.mp hx).1
        omega
      have lw := len_wordsL s i
      have hp := pw i (by omega)
      have hm : s.length ^ i * s.length ≤ 5000 * 6 := Nat.mul_le_mul hp (by omega)
      refine ⟨_, rfl, _, rfl, r, wordsL s i, s, rfl, SqL.of hr2, by rw [lw]; omega, by omega, wl, fun p3 H3 np3 e3 hp3 => ?_⟩
      exact ⟨p3, _, rfl, e2.trans e3, e2.free np3, hp3⟩
    · rintro σ H2 ⟨r, y, rfl, e2, nr, hr⟩
      exact ⟨_, rfl, q r H2 nr e2 hr⟩
end
end Rk
namespace Rw
open PySem PySem.Spec PyProof.Rows L2
theorem ix_tupK {X : Cx} {K : PySem.W.Frag} (hK : X.K = K) : IxR X (L2.rIxT K) := hK ▸ ix_tup
theorem words_rise {s : List Nat} (hs : s.Pairwise (· < ·)) : ∀ n, (wordsL s n).Pairwise (· < ·)
  | 0 => List.pairwise_singleton _ _
  | n + 1 => by
    show (longer (wordsL s n) s).Pairwise (· < ·)
    unfold longer
    refine List.pairwise_flatMap.mpr ⟨fun w _ => List.pairwise_map.mpr (hs.imp fun {a b} hab => ?_), ?_⟩
    · have h : Sl [a] [b] := ⟨[], a, b, [], [], rfl, rfl, hab⟩
      exact (h.under w).lt0
    · refine List.Pairwise.imp_of_mem ?_ (words_rise hs n)
      intro u v hu hv huv x hx y hy
      obtain ⟨c, _, rfl⟩ := List.mem_map.mp hx
      obtain ⟨d, _, rfl⟩ := List.mem_map.mp hy
      exact (sl_len (by rw [(mem_wordsL.mp hu).1, (mem_wordsL.mp hv).1]) huv).lt [c] [d]
theorem filt_take {α : Type} {p : α → Bool} {l : List α} {j : Nat} {u : α} (hu : l[j]? = some u) : (l.take (j + 1)).filter p = (l.take j).filter p ++ (if p u = true then [u] else []) := by
  rw [List.take_add_one, hu, List.filter_append]
  congr 1
  cases g : p u <;> simp [g]
/-- least of its turnings and its root once: early -/
theorem early_self {u : List Nat} (h : 1 ≤ u.length) : (minT (turns u) = u ∧ (rootOf u).2 = 1) ↔ early u = true := by
  obtain ⟨r1, r2, r3, _⟩ := rootLen_spec h
  rw [rootOf_eq h]
  show (_ ∧ u.length / rootLen u = 1) ↔ _
  constructor
  · rintro ⟨h1, h2⟩
    have hl := min_least h
    rw [h1] at hl
    obtain ⟨t1, t2, t3, _⟩ := least_root h hl
    rw [h2] at t3
    simp only [List.replicate_one, List.flatten_cons, List.flatten_nil, List.append_nil] at t3
    rwa [t3] at t1
  · intro he
    have hne : u ≠ [] := fun z => by rw [z] at h; simp at h
    refine ⟨least_self h fun k hk g => ?_, ?_⟩
    · by_cases k0 : k = 0
      · subst k0
        rw [turn_zero] at g
        exact lt_irr g
      · exact lt_asym g (early_iff.mp he k (by omega) hk)
    · have ha := (again_early (u := u) (n := 1) (d := rootLen u) he hne (by omega)).2
      simp only [List.replicate_one, List.flatten_cons, List.flatten_nil, List.append_nil] at ha
      have := ha (again_of h r1 r3)
      rw [show rootLen u = u.length from by omega]
      exact Nat.div_self (by omega)
def fewB (u : List Nat) : Bool := decide (minT (turns u) = u) && decide ((rootOf u).2 = 1)
theorem few_early {s : List Nat} {n : Nat} (hn : 1 ≤ n) : (wordsL s n).filter fewB = (wordsL s n).filter early := by
  refine List.filter_congr fun u hu => ?_
  have h := early_self (u := u) (by rw [(mem_wordsL.mp hu).1]; exact hn)
  unfold fewB
  rw [Bool.eq_iff_iff, Bool.and_eq_true, decide_eq_true_eq, decide_eq_true_eq]
  exact h
theorem few_found {s : List Nat} {n N : Nat} {L : List (List Nat)} (hs : s.Pairwise (· < ·)) (hL : IsEw L s N) (hn : 1 ≤ n) (hN : n ≤ N) : (wordsL s n).filter early = L.filter fun u => decide (u.length = n) := by
  refine sorted_uniq ((words_rise hs n).filter _) (hL.1.filter _) fun u => ?_
  rw [List.mem_filter, List.mem_filter, mem_wordsL, hL.2, decide_eq_true_eq]
  constructor
  · rintro ⟨⟨h1, h2⟩, h3⟩
    exact ⟨⟨fun z => by rw [z] at h1; simp at h1; omega, by omega, h3, h2⟩, h1⟩
  · rintro ⟨⟨_, _, h3, h2⟩, h1⟩
    exact ⟨⟨h1, h2⟩, h3⟩
theorem mem_flat_len {x : List Nat} : ∀ {ls : List (List Nat)}, x ∈ ls → x.length ≤ ls.flatten.length
  | y :: r, h => by
    rw [List.flatten_cons, List.length_append]
    rcases List.mem_cons.mp h with q | q
    · subst q
      omega
    · have := mem_flat_len q
      omega
theorem pieces_in {s : List Nat} {n N : Nat} {L : List (List Nat)} (hL : IsEw L s N) (hn : 1 ≤ n) (hN : n ≤ N) {u : List Nat} (hu : u ∈ wordsL s n) : ∀ x ∈ piecesOf u, x ∈ L := fun x hx => by
  obtain ⟨u1, u2⟩ := mem_wordsL.mp hu
  have hl : 1 ≤ u.length := by omega
  obtain ⟨h1, h2⟩ := (pieces_good hl).1 x hx
  have hf := pieces_flat hl
  refine (hL.2 x).mpr ⟨h2, ?_, h1, fun c hc => u2 c ?_⟩
  · have := mem_flat_len hx
    rw [hf] at this
    omega
  · rw [← hf]
    exact List.mem_flatten.mpr ⟨x, hx, hc⟩
theorem pair_early {x y : List Nat} (hx : early x = true) (hy : early y = true) (nx : x ≠ []) (h : ¬ y < x) : early (x ++ y) = decide (x < y) := by
  rcases tri x y with q | q | q
  · rw [early_app hx hy nx q, decide_eq_true q]
  · subst q
    rw [early_twice nx, decide_eq_false fun z => lt_irr z]
  · exact absurd q h
theorem ew_next {s : List Nat} {N : Nat} {L : List (List Nat)} (hs : s.Pairwise (· < ·)) (hL : IsEw L s N) {k : Nat} {w : List Nat} (hk : L[k]? = some w) : (tvs L ++ [V.non])[k + 1]? = some (optV (follow w s N)) := by
  have hf := follow_at hs (hL.1.imp fun {a b} h z => lt_asym h z) (lt_nodup hL.1) hL.2 hk
  rw [← hf]
  have hkl : k < L.length := (List.getElem?_eq_some_iff.mp hk).1
  by_cases g : k + 1 < L.length
  · rw [List.getElem?_append_left (by rw [List.length_map]; exact g), List.getElem?_map, List.getElem?_eq_getElem g]
    rfl
  · have e : k + 1 = L.length := by omega
    rw [List.getElem?_append_right (by rw [List.length_map]; omega), List.length_map, e, Nat.sub_self, List.getElem?_eq_none (Nat.le_refl _)]
    rfl
end Rw
namespace Rw
def csOf4 (a b c d : PySem.Addr) : Nat → PySem.Addr
  | 0 => a
  | 1 => b
  | 2 => c
  | _ => d
end Rw
namespace Rk
open PySem PySem.Spec PyProof.Rows L2 Rw
abbrev s_law : Stmt := topS 45
abbrev n_law : List Str := ["_law_script", "_law_cell", "_law_signs", "_law_longest", "_law_found", "_law_k", "_law_long", "_law_words_here", "_law_few", "_law_one", "_law_mix", "_law_pair", "_law_word"]
abbrev p_law : List Str := ["_law_script"]
theorem sc_law : FnScope n_law p_law (defScope s_law) := ⟨rfl, rfl, rfl, by decide +kernel, rfl, by decide +kernel, by decide +kernel⟩
def scOuter : Scope := { kind := .function, names := ([(".0", .local), ("_law_word", .local), ("pieces", .globalImplicit), ("_law_found", .free)] : List (Str × NameKind)).map (fun (n, k) => if (k == NameKind.free && (defScope s_law).kind == .function && (defScope s_law).names.lookup n == some NameKind.cell) then (n, NameKind.cell) else (n, k)), isGenerator := false, isCoroutine := false }
section
variable {P : Program} {w : World} {K : PySem.W.Frag} {mg : Str → Option Value} {base : Heap} {cs : Nat → Addr} (B : Bt mg)
include B
theorem ok_law {f : Addr} {fd : FuncData} (F : Fun K "law" "law" s_law f fd) (c__law_mixed : Cal CX0 P w K mg base 1 "_law_mixed" spMixF) (c__law_cell_at : Cal CX0 P w K mg base 1 "_law_cell_at" (spCellAt K))
    (c_early_words : Cal (L2.CX P w) P w K mg base 4 "early_words" (spEarlyWords K cs)) (c_next_early : Cal (L2.CX P w) P w K mg base 6 "next_early" (spNextEarly K cs)) (c_is_early : Cal (L2.CX P w) P w K mg base 4 "is_early" (spIsEarly K (cs 0)))
    (c__law_words : Cal CX0 P w K mg base 2 "_law_words" spLWords) (c_least_form : Cal (L2.CX P w) P w K mg base 4 "least_form" (spLeastForm K (cs 0))) (c_root : Cal (L2.CX P w) P w K mg base 5 "root" (spRoot K (cs 0)))
    (c_early_count : Cal (L2.CX P w) P w K mg base 3 "early_count" (spCnt K (cs 2) Lc)) (c_ring_count : Cal (L2.CX P w) P w K mg base 3 "ring_count" (spCnt K (cs 2) Rc)) (c_pieces : Cal (L2.CX P w) P w K mg base 4 "pieces" (spPieces K (cs 0))) : FnOk P w K mg base CX0 7 f fd p_law (spLaw K) := by
  refine F.ok sc_law (fun vs H Q E h => ?_) (fun cdv A outer st H vs Q E hr h => ?_)
  · obtain ⟨a, ns, rfl, _⟩ := h
    rfl
  · obtain ⟨a, ns, rfl, hS, hlen, q⟩ := h
    refine ⟨_, (pss_cons (ps_set (i := 1) sc_law.nd rfl (Or.inl rfl) (pe_cal c__law_mixed hr (by decide) pass0 (pa_cons (pe_cal c__law_cell_at hr (by decide) pass0 (pa_cons (pv 0) (pa_cons pe_int pa_nil))) (pa_cons pe_int pa_nil))))
      (pss_cons (ps_set (i := 2) sc_law.nd rfl (Or.inl rfl) (pe_ix ix_list (pe_lst (pa_cons pe_str (pa_cons pe_str (pa_cons pe_str (pa_cons pe_str pa_nil))))) (pe_op op_mod (pe_op op_fdiv (pe_cal c__law_mixed hr (by decide) pass0 (pa_cons (pv 1) (pa_cons pe_int pa_nil))) pe_int) pe_int) (fun _ _ => rfl)))
      (pss_cons (ps_set (i := 3) sc_law.nd rfl (Or.inl rfl) (pe_op op_add pe_int (pe_op op_mod (pe_op op_fdiv (pe_cal c__law_mixed hr (by decide) pass0 (pa_cons (pv 1) (pa_cons pe_int pa_nil))) pe_int) (pe_ix ix_list (pe_lst (pa_cons pe_int (pa_cons pe_int pa_nil))) (pe_op op_sub (pe_callB call_lenT (by rfl) B.m_len PySem.boot_len (pa_cons (pv 2) pa_nil)) pe_int) (fun _ _ => rfl)))))
      (pss_cons (ps_set (i := 4) sc_law.nd rfl (Or.inr rfl) (pe_cal c_early_words hr (by decide) passL (pa_cons (pv 2) (pa_cons (pv 3) pa_nil))))
      (pss_cons (ps_for PassesOwn.never rfl (pi_range1 (by rfl) B.m_range (pa_cons (pe_callB call_len_seq (by rfl) B.m_len PySem.boot_len (pa_cons (pv 4) pa_nil)) pa_nil)) (pg_name (i := 5) sc_law.nd rfl (Or.inl rfl))
        (pss_one (ps_if (PW.pt (pw_or (pt_cmpR op_ne (pe_cal c_next_early hr (by decide) passL (pa_cons (pe_ix ix_list (pv 4) (pv 5) (fun _ _ => rfl)) (pa_cons (pv 2) (pa_cons (pv 3) pa_nil)))) (pe_ix ix_list (pe_op op_cat (pv 4) (pe_lst (pa_cons pe_non pa_nil))) (pe_op op_add (pv 5) pe_int) (fun _ _ => rfl)) (nomark _)) (pw_or1 (pt_not (pt_val (pe_cal c_is_early hr (by decide) passL (pa_cons (pe_ix ix_list (pv 4) (pv 5) (fun _ _ => rfl)) pa_nil))))))) (pss_one (ps_ret pe_bl)) pss_nil)))
      (pss_cons (ps_for PassesOwn.never rfl (pi_range2 (by rfl) B.m_range (pa_cons pe_int (pa_cons (pe_op op_add (pv 3) pe_int) pa_nil))) (pg_name (i := 6) sc_law.nd rfl (Or.inr rfl))
        (pss_cons (ps_set (i := 7) sc_law.nd rfl (Or.inl rfl) (pe_cal c__law_words hr (by decide) pass0 (pa_cons (pv 2) (pa_cons (pv 6) pa_nil))))
        (pss_cons (ps_setLc (i := 8) (own := [("_law_word", 12)]) rfl sc_law.nd rfl rfl (sw_true rfl rfl rfl (by decide +kernel)) (pi_list (pv 7)) (blkOk_by (own := [("_law_word", 12)]) (N := n_law) (sc := defScope s_law) (by decide +kernel)) (fun _ _ _ _ _ => (pg_name (i := 12) sc_law.nd rfl (Or.inl rfl))) (fun _ _ _ _ _ => (pts_one (PW.pt (pw_and (pt_cmpR op_eqT (pe_cal c_least_form hr (by decide) passL (pa_cons (pv 12) pa_nil)) (pv 12) (nomark _)) (pw_and1 (pt_cmpR op_eq (pe_ix (ix_tupK (K := K) rfl) (pe_cal c_root hr (by decide) passL (pa_cons (pv 12) pa_nil)) pe_int (fun _ _ => rfl)) pe_int (nomark _))))))) (fun _ _ _ _ _ => (pv 12)))
        (pss_cons (ps_if (PW.pt (pw_or (pt_cmpR (op_neL hr.units) (pv 8) (pe_lc (own := [("_law_word", 12)]) rfl sc_law.nd (pi_list (pv 4)) (blkOk_by (own := [("_law_word", 12)]) (N := n_law) (sc := defScope s_law) (by decide +kernel)) (fun _ _ _ _ _ => (pg_name (i := 12) sc_law.nd rfl (Or.inl rfl))) (fun _ _ _ _ _ => (pts_one (pt_cmpR op_eq (pe_callB call_lenT (by rfl) B.m_len PySem.boot_len (pa_cons (pv 12) pa_nil)) (pv 6) (nomark _)))) (fun _ _ _ _ _ => (pv 12))) (nomark _)) (pw_or1 (pt_cmpR op_ne (pe_callB call_len_seq (by rfl) B.m_len PySem.boot_len (pa_cons (pv 8) pa_nil)) (pe_cal c_early_count hr (by decide) passL (pa_cons (pe_callB call_lenT (by rfl) B.m_len PySem.boot_len (pa_cons (pv 2) pa_nil)) (pa_cons (pv 6) pa_nil))) (nomark _))))) (pss_one (ps_ret pe_bl)) pss_nil)
        (pss_cons (ps_if (pt_cmpR op_ne (pe_lenSetT rfl (by rfl) B.m_len (by rfl) B.m_set (pe_lc (own := [("_law_word", 12)]) rfl sc_law.nd (pi_list (pv 7)) (blkOk_by (own := [("_law_word", 12)]) (N := n_law) (sc := defScope s_law) (by decide +kernel)) (fun _ _ _ _ _ => (pg_name (i := 12) sc_law.nd rfl (Or.inl rfl))) (fun _ _ _ _ _ => pts_nil) (fun _ _ _ _ _ => (pe_cal c_least_form hr (by decide) passL (pa_cons (pv 12) pa_nil))))) (pe_cal c_ring_count hr (by decide) passL (pa_cons (pe_callB call_lenT (by rfl) B.m_len PySem.boot_len (pa_cons (pv 2) pa_nil)) (pa_cons (pv 6) pa_nil))) (nomark _)) (pss_one (ps_ret pe_bl)) pss_nil)
        (pss_one (ps_if (pt_cmpR (op_neL hr.units) (pe_lc (own := [("_law_word", 12)]) rfl sc_law.nd (pi_list (pv 7)) (blkOk_by (own := [("_law_word", 12)]) (N := n_law) (sc := defScope s_law) (by decide +kernel)) (fun _ _ _ _ _ => (pg_name (i := 12) sc_law.nd rfl (Or.inl rfl))) (fun _ _ _ _ _ => (pts_one (pt_cmpR (op_neLK (K := K) rfl hr.units) (pe_lc (own := [("_law_one", 9)]) rfl sc_law.nd (pi_listK (K := K) rfl (pe_cal c_pieces hr (by decide) passL (pa_cons (pv 12) pa_nil))) (blkOk_by (own := [("_law_one", 9)]) (N := n_law) (sc := scOuter) (by decide +kernel)) (fun _ _ _ _ _ => (pg_name (i := 9) sc_law.nd rfl (Or.inl rfl))) (fun _ _ _ _ _ => (pts_one (pt_cmpR (op_notInTK (K := K) rfl) (pv 9) (pv 4) (by rfl)))) (fun _ _ _ _ _ => (pv 9))) (pe_lst pa_nil) (nomark _)))) (fun _ _ _ _ _ => (pv 12))) (pe_lst pa_nil) (nomark _)) (pss_one (ps_ret pe_bl)) pss_nil)))))))
      (pss_cons (ps_for PassesOwn.never rfl (pi_enum (by rfl) B.m_enumerate (pa_cons (pe_slice sl_list (pe_op op_cat (pe_lst (pa_cons pe_int pa_nil)) (pe_callTy call_list_of (by rfl) B.m_list (by decide +kernel) (pa_cons (pv 0) pa_nil))) po_none (po_some pe_int)) pa_nil)) (pg_tup rfl (pgs_cons (pg_name (i := 5) sc_law.nd rfl (Or.inl rfl)) (pgs_cons (pg_name (i := 9) sc_law.nd rfl (Or.inl rfl)) pgs_nil)))
        (pss_cons (ps_set (i := 10) sc_law.nd rfl (Or.inl rfl) (pe_cal c__law_mixed hr (by decide) pass0 (pa_cons (pv 9) (pa_cons (pe_op op_add pe_int (pv 5)) pa_nil))))
        (pss_cons (ps_set (i := 11) sc_law.nd rfl (Or.inl rfl) (pe_callB cr_sortedL (by rfl) B.m_sorted (by decide +kernel) (pa_cons (pe_lst (pa_cons (pe_ix ix_list (pv 4) (pe_op op_mod (pe_op op_fdiv (pv 10) pe_int) (pe_callB call_len_seq (by rfl) B.m_len PySem.boot_len (pa_cons (pv 4) pa_nil))) (fun _ _ => rfl)) (pa_cons (pe_ix ix_list (pv 4) (pe_op op_mod (pe_op op_fdiv (pe_cal c__law_mixed hr (by decide) pass0 (pa_cons (pv 10) (pa_cons pe_int pa_nil))) pe_int) (pe_callB call_len_seq (by rfl) B.m_len PySem.boot_len (pa_cons (pv 4) pa_nil))) (fun _ _ => rfl)) pa_nil))) pa_nil)))
        (pss_one (ps_if (pt_cmpR op_ne (pe_cal c_is_early hr (by decide) passL (pa_cons (pe_op op_addT (pe_ix ix_list (pv 11) pe_int (fun _ _ => rfl)) (pe_ix ix_list (pv 11) pe_int (fun _ _ => rfl))) pa_nil)) (pe_cmpR op_ltT (pe_ix ix_list (pv 11) pe_int (fun _ _ => rfl)) (pe_ix ix_list (pv 11) pe_int (fun _ _ => rfl)) (nomark _)) (nomark _)) (pss_one (ps_ret pe_bl)) pss_nil)))))
      (pss_one (ps_ret pe_bl))))))))), ?_⟩
    refine ⟨_, rfl, a, ns, 0, rfl, hS, by decide, by decide, fun cell => ⟨cell, 460, rfl, ?_⟩⟩
    generalize mixF cell 460 = c
    -- signs
    refine ⟨(show 4 ≤ sizeLine by decide), fun p1 n1 => ?_⟩
    obtain ⟨d0, d1⟩ := draw7 (mixF_lo c 1) (by decide : (0 : Int) < 4)
    obtain ⟨vsg, hvs, has⟩ := at_some (xs := [V.str "ab", V.str "abc", V.str "kz", V.str "mno"]) d0 d1
    have k1 := same_upd (o := .lst [V.str "ab", V.str "abc", V.str "kz", V.str "mno"]) n1
    refine ⟨_, rfl, c, 1, rfl, mixF c 1, 7, rfl, rfl, ⟨by decide, by decide⟩, _, 4, rfl, rfl, (show (0 : Int) < 4 by decide), p1, _, _, vsg, rfl, rfl, SqL.of upd_same, has, ?_⟩
    obtain ⟨s, rfl, hs, hsl⟩ : ∃ s : List Nat, vsg = tv s ∧ Sgn s ∧ (s.length = 2 ∨ s.length = 3) := by
      simp only [List.mem_cons, List.not_mem_nil, or_false] at hvs
      rcases hvs with rfl | rfl | rfl | rfl
      · exact ⟨[97, 98], by decide +kernel, by decide, by decide⟩
      · exact ⟨[97, 98, 99], by decide +kernel, by decide, by decide⟩
      · exact ⟨[107, 122], by decide +kernel, by decide, by decide⟩
      · exact ⟨[109, 110, 111], by decide +kernel, by decide, by decide⟩
    generalize upd H p1 (.lst [V.str "ab", V.str "abc", V.str "kz", V.str "mno"]) = H1 at *
    clear hvs has d0 d1 n1
    -- how long
    refine ⟨_, rfl, c, 2, rfl, mixF c 2, 7, rfl, rfl, ⟨by decide, by decide⟩, (show 2 ≤ sizeLine by decide), fun p3 np3 => ?_⟩
    have k3 := same_upd (o := .lst [V.int 6, V.int 5]) np3
    obtain ⟨top, hta, ht1, htb, ht6⟩ : ∃ top : Nat, atI [V.int 6, V.int 5] (((s.length : Nat) : Int) - 2) = some (.int (top : Int)) ∧ 1 ≤ top ∧ s.length ^ top ≤ 243 ∧ top ≤ 6 := by
      rcases hsl with e | e <;> rw [e]
      · exact ⟨6, rfl, by decide, by decide, by decide⟩
      · exact ⟨5, rfl, by decide, by decide, by decide⟩
    refine ⟨_, rfl, s, rfl, by omega, _, _, rfl, rfl, p3, _, _, _, rfl, rfl, SqL.of upd_same, hta, _, (top : Int), rfl, rfl, (show (0 : Int) < (top : Int) by omega), _, _, rfl, rfl, ?_⟩
    obtain ⟨d0, d1⟩ := draw7 (mixF_lo c 2) (by omega : (0 : Int) < (top : Int))
    obtain ⟨N, hN⟩ : ∃ N : Nat, 1 + mixF c 2 / 7 % (top : Int) = (N : Int) := ⟨(1 + mixF c 2 / 7 % (top : Int)).toNat, by omega⟩
    have N1 : 1 ≤ N := by omega
    have N6 : N ≤ 6 := by omega
    have hpow : ∀ i, i ≤ N → s.length ^ i ≤ 243 := fun i hi => Nat.le_trans (Nat.pow_le_pow_right (by omega) (by omega : i ≤ top)) htb
    have hpN := hpow N (Nat.le_refl N)
    dsimp only
    rw [hN]
    clear hN d0 d1 hta
    have E3 := k1.trans k3
    generalize upd H1 p3 (.lst [V.int 6, V.int 5]) = H3 at *
    -- the early words
    refine ⟨_, rfl, _, rfl, tv s, .int (N : Nat), .inr (s, N), rfl, .y hs N1 (by omega) (by omega), fun L p H4 hL np e4 hp => ?_⟩
    have hsn := rise_nodup hs.2.2
    have hLn := lt_nodup hL.1
    have hLl : L.length ≤ 2000 := by
      rw [(hL.perm hs.2.2).length_eq]
      have h1 := len_allE s N (by omega)
      have h2 : N * s.length ^ N ≤ 6 * 243 := Nat.mul_le_mul N6 hpN
      omega
    have hLu : ∀ u ∈ L, Wd u ∧ early u = true ∧ u.length ≤ N := fun u hu => by
      obtain ⟨u0, u1, u2, u3⟩ := (hL.2 u).mp hu
      exact ⟨⟨len_pos u0, by omega, fun d hd => hs.1.2.2 d (u3 d hd)⟩, u2, u1⟩
    have hok : ∀ u ∈ L, Ok u := fun u hu d hd => by
      have := (hLu u hu).1.2.2 d hd
      omega
    have hL1 : 1 ≤ L.length := by
      have s1 := hs.1.1
      cases s with
      | nil => simp at s1
      | cons d r =>
        have := (hL.2 [d]).mpr ⟨by simp, N1, by rfl, fun z hz => by rw [List.mem_singleton.mp hz]; exact List.mem_cons_self⟩
        exact List.length_pos_of_mem this
    have E4 := E3.trans e4
    clear np e4 E3 k3 k1 np3
    have lL : (tvs L).length = L.length := List.length_map ..
    -- each behind the one ahead
    refine ⟨_, rfl, p, tvs L, rfl, .inl (SqL.of hp), ((tvs L).length : Int), rfl, by omega, by omega, for_range (lo := 0) (n := (tvs L).length) (fun i σ H' => ∃ y, σ = [some (.ref a), some (.int c), some (tv s), some (.int (N : Nat)), some (.ref p), y, none, none, none, none, none, none, none] ∧ Same H4 H') ⟨none, rfl, Same.refl H4⟩ ?_ ?_⟩
    · rintro i σ H5 hi ⟨y, rfl, e5⟩
      have hi : i < (tvs L).length := hi
      obtain ⟨u, hu⟩ : ∃ u, L[i]? = some u := ⟨_, List.getElem?_eq_getElem (by omega)⟩
      obtain ⟨u1, u2, u3⟩ := hLu u (List.mem_of_getElem? hu)
      have hua : atI (tvs L) ((0 : Int) + (i : Int)) = some (tv u) := by
        rw [Int.zero_add]
        refine atI_nat ?_
        rw [List.getElem?_map, hu]
        rfl
      have hp5 := e5 _ _ hp
      refine ⟨_, rfl, _, rfl, p, _, _, tv u, rfl, rfl, SqL.of hp5, hua, _, rfl, _, rfl, tv u, tv s, .int (N : Nat), .inr (optV (follow u s N)), rfl, .y u1 hs N1 (by omega) ⟨u3, u2, ((hL.2 u).mp (List.mem_of_getElem? hu)).2.2.2⟩, fun H6 e6 => ?_⟩
      have hp6 := e6 _ _ hp5
      refine ⟨_, rfl, (show 1 ≤ sizeLine by decide), fun p5 n5 => ?_⟩
      have k5 := same_upd (o := .lst [V.non]) n5
      refine ⟨p, p5, _, _, rfl, rfl, k5 _ _ hp6, upd_same, by rw [lL]; exact big (by show _ + 1 ≤ _; omega), fun p6 n6 => ?_⟩
      have k6 := same_upd (o := .lst (tvs L ++ [V.non])) n6
      have hz : atI (tvs L ++ [V.non]) ((0 : Int) + (i : Int) + 1) = some (optV (follow u s N)) := by
        rw [show (0 : Int) + (i : Int) + 1 = ((i + 1 : Nat) : Int) from by omega]
        exact atI_nat (ew_next hs.2.2 hL hu)
      refine ⟨_, rfl, _, _, rfl, rfl, p6, _, _, optV (follow u s N), rfl, rfl, SqL.of upd_same, hz, ?_, false, by simp, iteF ?_⟩
      · cases follow u s N <;> rfl
      have e7 := (e6.trans k5).trans k6
      have hp7 := e7 _ _ hp5
      generalize upd (upd H6 p5 (.lst [V.non])) p6 (.lst (tvs L ++ [V.non])) = H7 at *
      refine ⟨_, rfl, _, rfl, p, _, _, tv u, rfl, rfl, SqL.of hp7, hua, tv u, true, [], rfl, rfl, .word u1, (fun e => nomatch e), fun l' _ el _ H8 e8 => ?_⟩
      cases tv_inj el
      refine ⟨_, rfl, ?_⟩
      rw [u2]
      exact iteF ⟨_, rfl, (e5.trans e7).trans e8⟩
    rintro σ H5 ⟨y5, rfl, e5⟩
    -- each length
    refine ⟨_, rfl, _, _, rfl, rfl, 1, ((N : Nat) : Int) + 1, rfl, ⟨by decide, by decide, by omega, by omega⟩, ?_⟩
    have ez : (((N : Nat) : Int) + 1 - 1).toNat = N := by omega
    rw [ez]
    refine for_range (lo := 1) (n := N) (fun i σ H' => ∃ y5 y6 y7 y8, σ = [some (.ref a), some (.int c), some (tv s), some (.int (N : Nat)), some (.ref p), y5, y6, y7, y8, none, none, none, none] ∧ Same H4 H') ⟨_, none, none, none, rfl, e5⟩ ?_ ?_
    · rintro i σ H6 hi ⟨y5, y6, y7, y8, rfl, e6⟩
      have hi : i < N := hi
      have e1i : (1 : Int) + (i : Int) = ((1 + i : Nat) : Int) := by omega
      rw [e1i]
      obtain ⟨n, hn⟩ : ∃ n, 1 + i = n := ⟨_, rfl⟩
      rw [hn]
      have n1 : 1 ≤ n := by omega
      have nN : n ≤ N := by omega
      have hpn := hpow n nN
      refine ⟨_, rfl, _, rfl, s, n, rfl, by omega, by omega, by omega, by omega, fun pw H7 npw e7 hpw => ?_⟩
      have hp7 := e7 _ _ (e6 _ _ hp)
      have E7 := e6.trans e7
      have hwl : (wordsL s n).length ≤ 243 := by rw [len_wordsL]; exact hpn
      have hwu : ∀ u ∈ wordsL s n, Wd u ∧ u.length = n := fun u hu => by
        obtain ⟨u1, u2⟩ := mem_wordsL.mp hu
        exact ⟨⟨by omega, by omega, fun d hd => hs.1.2.2 d (u2 d hd)⟩, u1⟩
      clear e6 e7 npw
      -- those that are least and a root once
      refine ⟨_, rfl, pw, rfl, ⟨_, SqL.of hpw⟩, fun Dl hD => ?_⟩
      refine lc_it walk_list (LcP H7 Dl fun j acc => acc = tvs (((wordsL s n).take j).filter fewB)) (lcp_start hD rfl) (fun j H8 _ ⟨_, acc, e, _, _, _⟩ => SqL.of (e _ _ hpw)) ?_ ?_
      · rintro j x H8 H8' hj ⟨_, acc, e, hD8, hlen8, rfl⟩ ⟨rfl, hx⟩
        rw [List.length_map] at hj
        obtain ⟨u, hu⟩ : ∃ u, (wordsL s n)[j]? = some u := ⟨_, List.getElem?_eq_getElem hj⟩
        rw [List.getElem?_map, hu] at hx
        have ex : tv u = x := Option.some.inj hx
        subst ex
        obtain ⟨u1, u2⟩ := hwu u (List.mem_of_getElem? hu)
        refine ⟨rfl, ?_⟩
        refine ⟨_, rfl, tv u, true, [], rfl, rfl, .word u1, (fun e => nomatch e), fun l' _ el _ H9 e9 => ?_⟩
        cases tv_inj el
        refine ⟨_, rfl, minT (turns u), u, rfl, rfl, _, rfl, ite2 (fun g1 => ?_) (fun g1 => ?_)⟩
        · have g1 := of_decide_eq_true g1
          refine ⟨_, rfl, tv u, true, [], rfl, rfl, .word u1, (fun e => nomatch e), fun l' _ el _ pr H10 npr e10 hpr => ?_⟩
          cases tv_inj el
          refine ⟨pr, _, 1, V.int ((rootOf u).2 : Nat), rfl, rfl, SqT.of hpr, atI_nat (j := 1) rfl, rfl, _, rfl, ite2 (fun g2 => ?_) (fun g2 => ?_)⟩
          · have g2 : V.int ((rootOf u).2 : Nat) = V.int 1 := of_decide_eq_true g2
            have g2 : (rootOf u).2 = 1 := by
              have := V.int.inj g2
              omega
            refine ⟨_, rfl, ?_⟩
            refine lcp_put hD e hD8 hlen8 (by omega) (e9.trans e10) ?_
            have hf : fewB u = true := by
              unfold fewB
              rw [decide_eq_true g1, decide_eq_true g2]
              rfl
            rw [filt_take hu, if_pos hf, tvs_app]
            rfl
          · have g2 : ¬ V.int ((rootOf u).2 : Nat) = V.int 1 := of_decide_eq_false (by simpa using g2)
            have g2 : ¬ (rootOf u).2 = 1 := fun z => g2 (by rw [z]; rfl)
            refine lcp_skip hD e hD8 hlen8 (e9.trans e10) ?_
            have hf : fewB u = false := by
              unfold fewB
              rw [decide_eq_false g2, Bool.and_false]
            rw [filt_take hu, hf, if_neg (by decide), List.append_nil]
        · have g1 : ¬ minT (turns u) = u := of_decide_eq_false (by simpa using g1)
          refine iteF (lcp_skip hD e hD8 hlen8 e9 ?_)
          have hf : fewB u = false := by
            unfold fewB
            rw [decide_eq_false g1, Bool.false_and]
          rw [filt_take hu, hf, if_neg (by decide), List.append_nil]
      rintro H8 ⟨_, acc, e8, hD8, _, rfl⟩
      rw [List.length_map, List.take_length, few_early n1] at hD8
      have hp8 := e8 _ _ hp7
      have hpw8 := e8 _ _ hpw
      have E8 := E7.trans e8
      clear E7 e8 hp7 hpw hD
      -- those of the early words
      refine ⟨_, rfl, _, rfl, p, rfl, ⟨_, SqL.of hp8⟩, fun D2 hD2 => ?_⟩
      refine lc_it walk_list (LcP H8 D2 fun j acc => acc = tvs ((L.take j).filter fun u => decide (u.length = n))) (lcp_start hD2 rfl) (fun j H9 _ ⟨_, acc, e, _, _, _⟩ => SqL.of (e _ _ hp8)) ?_ ?_
      · rintro j x H9 H9' hj ⟨_, acc, e, hD9, hlen9, rfl⟩ ⟨rfl, hx⟩
        rw [List.length_map] at hj
        obtain ⟨u, hu⟩ : ∃ u, L[j]? = some u := ⟨_, List.getElem?_eq_getElem hj⟩
        rw [List.getElem?_map, hu] at hx
        have ex : tv u = x := Option.some.inj hx
        subst ex
        obtain ⟨u1, _, u3⟩ := hLu u (List.mem_of_getElem? hu)
        refine ⟨rfl, ?_⟩
        refine ⟨_, rfl, u, rfl, by omega, _, rfl, rfl, _, rfl, ite2 (fun g => ?_) (fun g => ?_)⟩
        · have g : V.int (u.length : Nat) = V.int (n : Nat) := of_decide_eq_true g
          have g : u.length = n := by
            have := V.int.inj g
            omega
          refine ⟨_, rfl, ?_⟩
          refine lcp_put hD2 e hD9 hlen9 (by omega) (Same.refl _) ?_
          rw [filt_take hu, if_pos (decide_eq_true g), tvs_app]
          rfl
        · have g : ¬ V.int (u.length : Nat) = V.int (n : Nat) := of_decide_eq_false (by simpa using g)
          have g : ¬ u.length = n := fun z => g (by rw [z])
          refine lcp_skip hD2 e hD9 hlen9 (Same.refl _) ?_
          rw [filt_take hu, if_neg (by rw [decide_eq_true_eq]; exact g), List.append_nil]
      rintro H9 ⟨_, acc, e9, hD9, _, rfl⟩
      rw [List.length_map, List.take_length, ← few_found hs.2.2 hL n1 nN] at hD9
      have hf9 := e9 _ _ hD8
      have fok : ∀ u ∈ (wordsL s n).filter early, Ok u := fun u hu d hd => by
        have := (hwu u (List.mem_filter.mp hu).1).1.2.2 d hd
        omega
      refine ⟨Dl, D2, _, _, rfl, rfl, SqL.of hf9, SqL.of hD9, fok, fok, false, by simp, iteF ?_⟩
      have hfl : (((wordsL s n).filter early).map tv).length = Lc s.length n := by
        rw [List.length_map]
        exact lc_cnt hsn n1
      refine ⟨_, rfl, Dl, _, rfl, .inl (SqL.of hf9), _, rfl, s, rfl, by omega, _, rfl, .int (s.length : Nat), .int (n : Nat), some (s.length, n), rfl, .y (by omega) (by omega) n1 (by omega), fun H10 e10 => ⟨rfl, false, by rw [hfl]; simp, iteF ?_⟩⟩
      have hp10 := e10 _ _ (e9 _ _ hp8)
      have hpw10 := e10 _ _ (e9 _ _ hpw8)
      have E10 := (E8.trans e9).trans e10
      clear E8 e9 e10 hp8 hpw8 hf9 hD9 hD2
      -- the rings
      refine ⟨_, rfl, pw, rfl, ⟨_, SqL.of hpw10⟩, fun D3 hD3 => ?_⟩
      refine lc_it walk_list (LcP H10 D3 fun j acc => acc = tvs (((wordsL s n).take j).map fun u => minT (turns u))) (lcp_start hD3 rfl) (fun j H11 _ ⟨_, acc, e, _, _, _⟩ => SqL.of (e _ _ hpw10)) ?_ ?_
      · rintro j x H11 H11' hj ⟨_, acc, e, hD11, hlen11, rfl⟩ ⟨rfl, hx⟩
        rw [List.length_map] at hj
        obtain ⟨u, hu⟩ : ∃ u, (wordsL s n)[j]? = some u := ⟨_, List.getElem?_eq_getElem hj⟩
        rw [List.getElem?_map, hu] at hx
        have ex : tv u = x := Option.some.inj hx
        subst ex
        obtain ⟨u1, _⟩ := hwu u (List.mem_of_getElem? hu)
        refine ⟨rfl, keepAll ?_⟩
        refine ⟨_, rfl, tv u, true, [], rfl, rfl, .word u1, (fun e => nomatch e), fun l' _ el _ H12 e12 => ?_⟩
        cases tv_inj el
        refine lcp_put hD3 e hD11 hlen11 (by omega) e12 ?_
        rw [List.take_add_one, hu, List.map_append, tvs_app]
        rfl
      rintro H11 ⟨_, acc, e11, hD11, _, rfl⟩
      rw [List.length_map, List.take_length] at hD11
      refine ⟨D3, _, rfl, SqL.of hD11, by rw [List.length_map]; omega, fun m hm => ?_⟩
      have hmr : m = Rc s.length n := by
        rw [← hm (ringForms s n) (nodup_ringForms hsn n) fun u => by rw [mem_ringForms n1, List.mem_map], rings_count hsn]
      refine ⟨_, rfl, s, rfl, by omega, _, rfl, .int (s.length : Nat), .int (n : Nat), some (s.length, n), rfl, .y (by omega) (by omega) n1 (by omega), fun H12 e12 => ⟨rfl, false, by rw [hmr]; simp, iteF ?_⟩⟩
      have hp12 := e12 _ _ (e11 _ _ hp10)
      have hpw12 := e12 _ _ (e11 _ _ hpw10)
      have E12 := (E10.trans e11).trans e12
      clear E10 e11 e12 hp10 hpw10 hD11 hD3
      -- the pieces
      refine ⟨_, rfl, pw, rfl, ⟨_, SqL.of hpw12⟩, fun D4 hD4 => ?_⟩
      refine lc_it walk_list (LcP H12 D4 fun j acc => acc = []) (lcp_start hD4 rfl) (fun j H13 _ ⟨_, acc, e, _, _, _⟩ => SqL.of (e _ _ hpw12)) ?_ ?_
      · rintro j x H13 H13' hj ⟨_, acc, e, hD13, hlen13, rfl⟩ ⟨rfl, hx⟩
        rw [List.length_map] at hj
        obtain ⟨u, hu⟩ : ∃ u, (wordsL s n)[j]? = some u := ⟨_, List.getElem?_eq_getElem hj⟩
        rw [List.getElem?_map, hu] at hx
        have ex : tv u = x := Option.some.inj hx
        subst ex
        have hum := List.mem_of_getElem? hu
        obtain ⟨u1, u2⟩ := hwu u hum
        refine ⟨rfl, ?_⟩
        refine ⟨_, rfl, tv u, true, [], rfl, rfl, .word u1, (fun e => nomatch e), fun l' _ el _ pp H14 npp e14 hpp => ?_⟩
        cases tv_inj el
        have hpi := pieces_in hL n1 nN hum
        have hp14 := e14 _ _ (e _ _ hp12)
        refine ⟨pp, rfl, ⟨_, SqL.of hpp⟩, fun D5 hD5 => ?_⟩
        refine lc_it walk_list (LcP H14 D5 fun j acc => acc = []) (lcp_start hD5 rfl) (fun j H15 _ ⟨_, acc, e, _, _, _⟩ => SqL.of (e _ _ hpp)) ?_ ?_
        · rintro j2 x H15 H15' hj2 ⟨_, acc, e15, hD15, hlen15, rfl⟩ ⟨rfl, hx⟩
          rw [List.length_map] at hj2
          obtain ⟨z, hz⟩ : ∃ z, (piecesOf u)[j2]? = some z := ⟨_, List.getElem?_eq_getElem hj2⟩
          rw [List.getElem?_map, hz] at hx
          have ex : tv z = x := Option.some.inj hx
          subst ex
          refine ⟨rfl, ?_⟩
          refine ⟨_, rfl, _, rfl, p, z, L, rfl, rfl, SqL.of (e15 _ _ hp14), false, ?_, iteF ?_⟩
          · have := hpi z (List.mem_of_getElem? hz)
            simp [this]
          exact lcp_skip hD5 e15 hD15 hlen15 (Same.refl _) rfl
        rintro H15 ⟨_, acc, e15, hD15, _, rfl⟩
        refine ⟨(show 0 ≤ sizeLine by decide), fun p7 n7 => ?_⟩
        have k7 := same_upd (o := .lst []) n7
        refine ⟨D5, p7, [], [], rfl, rfl, SqL.of (k7 _ _ hD15), SqL.of upd_same, (fun _ h => nomatch h), (fun _ h => nomatch h), false, by simp, iteF ?_⟩
        exact lcp_skip hD4 e hD13 hlen13 ((e14.trans e15).trans k7) rfl
      rintro H13 ⟨_, acc, e13, hD13, _, rfl⟩
      refine ⟨(show 0 ≤ sizeLine by decide), fun p9 n9 => ?_⟩
      have k9 := same_upd (o := .lst []) n9
      refine ⟨D4, p9, [], [], rfl, rfl, SqL.of (k9 _ _ hD13), SqL.of upd_same, (fun _ h => nomatch h), (fun _ h => nomatch h), false, by simp, iteF ?_⟩
      exact ⟨_, _, _, _, rfl, (E12.trans e13).trans k9⟩
    rintro σ H6 ⟨y5', y6, y7, y8, rfl, e6⟩
    -- two of them
    have E6 := E4.trans e6
    refine ⟨(show 1 ≤ sizeLine by decide), fun q1 m1 => ?_⟩
    have j1 := same_upd (o := .lst [V.int 5]) m1
    refine ⟨_, rfl, a, ns.map V.int, rfl, .inl ((E6.trans j1).seq hS), fun q2 m2 => ?_⟩
    have j2 := same_upd (o := .lst (ns.map V.int)) m2
    refine ⟨q1, q2, _, _, rfl, rfl, j2 _ _ upd_same, upd_same, by rw [List.length_map]; exact big (by show 1 + _ ≤ _; omega), fun q3 m3 => ?_⟩
    have e3 : [V.int 5] ++ ns.map V.int = (5 :: ns).map V.int := rfl
    rw [e3]
    have j3 := same_upd (o := .lst ((5 :: ns).map V.int)) m3
    refine ⟨41, rfl, q3, _, rfl, SqL.of upd_same, fun q4 m4 => ?_⟩
    have e5' : cutV ((5 :: ns).map V.int) none (some 41) = ((5 :: ns).take 41).map V.int := by
      have z : cutV ((5 :: ns).map V.int) none (some ((41 : Nat) : Int)) = ((5 :: ns).map V.int).take 41 := cutL_to _ 41
      rw [show ((41 : Nat) : Int) = 41 from rfl] at z
      rw [z, List.map_take]
    rw [e5']
    have u2 : ((5 :: ns).take 41).length ≤ 41 := by rw [List.length_take]; omega
    generalize (5 :: ns).take 41 = us at u2 ⊢
    have j4 := same_upd (o := .lst (us.map V.int)) m4
    have e7 := (((e6.trans j1).trans j2).trans j3).trans j4
    have hq4 : upd (upd (upd (upd H6 q1 (.lst [V.int 5])) q2 (.lst (ns.map V.int))) q3 (.lst ((5 :: ns).map V.int))) q4 (.lst (us.map V.int)) q4 = some (.lst (us.map V.int)) := upd_same
    generalize upd (upd (upd (upd H6 q1 (.lst [V.int 5])) q2 (.lst (ns.map V.int))) q3 (.lst ((5 :: ns).map V.int))) q4 (.lst (us.map V.int)) = H7 at *
    have hp7 := e7 _ _ hp
    clear j1 j2 j3 j4 m1 m2 m3 m4 e3 e5' E6
    refine ⟨q4, us.map V.int, rfl, SqL.of hq4, ?_⟩
    refine for_it walk_enum (fun i σ H' => ∃ y5 y9 y10 y11, σ = [some (.ref a), some (.int c), some (tv s), some (.int (N : Nat)), some (.ref p), y5, y6, y7, y8, y9, y10, y11, none] ∧ Same H7 H') ⟨_, none, none, none, rfl, Same.refl H7⟩ (fun i σ H8 _ ⟨_, _, _, _, _, e8⟩ => SqL.of (e8 _ _ hq4)) ?_ ?_
    · rintro i x σ H8 H8' hi ⟨y5, y9, y10, y11, rfl, e8⟩ ⟨Ta, x1, y1, rfl, nT, rfl, hx, hy⟩
      rw [List.length_map] at hi
      have ex : V.int ((i : Nat) : Int) = x1 := Option.some.inj hx
      dsimp only at hy
      obtain ⟨z, hz⟩ : ∃ z, us[i]? = some z := ⟨_, List.getElem?_eq_getElem hi⟩
      rw [List.getElem?_map, hz] at hy
      have ey : V.int z = y1 := Option.some.inj hy
      subst ex ey
      have k8 := same_upd (o := .tup [V.int ((i : Nat) : Int), V.int z]) nT
      refine ⟨Ta, _, rfl, .inl (.inl upd_same), rfl, _, _, rfl, _, _, rfl, rfl, ?_⟩
      have e9 := e8.trans k8
      have hp9 := e9 _ _ hp7
      generalize upd H8 Ta (.tup [V.int ((i : Nat) : Int), V.int z]) = H9 at *
      refine ⟨_, rfl, _, rfl, _, _, rfl, rfl, z, 470 + (i : Int), rfl, ?_⟩
      have g0 := mixF_lo z (470 + (i : Int))
      generalize mixF z (470 + (i : Int)) = mx at *
      have hl0 : (0 : Int) < ((tvs L).length : Nat) := by omega
      obtain ⟨d0, d1⟩ := draw7 g0 hl0
      obtain ⟨d2, d3⟩ := draw7 (mixF_lo mx 1) hl0
      obtain ⟨v1, hv1, ha1⟩ := at_some (xs := tvs L) d0 d1
      obtain ⟨v2, hv2, ha2⟩ := at_some (xs := tvs L) d2 d3
      obtain ⟨w1, hw1, rfl⟩ := List.mem_map.mp hv1
      obtain ⟨w2, hw2, rfl⟩ := List.mem_map.mp hv2
      refine ⟨_, rfl, _, rfl, mx, 7, rfl, rfl, ⟨by decide, by decide⟩, _, rfl, p, tvs L, rfl, .inl (SqL.of hp9), _, _, rfl, rfl, hl0, p, _, _, tv w1, rfl, rfl, SqL.of hp9, ha1, ?_⟩
      refine ⟨_, rfl, _, rfl, mx, 1, rfl, mixF mx 1, 7, rfl, rfl, ⟨by decide, by decide⟩, _, rfl, p, tvs L, rfl, .inl (SqL.of hp9), _, _, rfl, rfl, hl0, p, _, _, tv w2, rfl, rfl, SqL.of hp9, ha2, ?_⟩
      refine ⟨(show 2 ≤ sizeLine by decide), fun r1 o1 => ?_⟩
      have l1 := same_upd (o := .lst [tv w1, tv w2]) o1
      refine ⟨r1, [w1, w2], rfl, SqL.of upd_same, fun ys r2 hperm hpair o2 => ?_⟩
      have l2 := same_upd (o := .lst (tvs ys)) o2
      obtain ⟨x, y, rfl⟩ : ∃ x y, ys = [x, y] := by
        have := hperm.length_eq
        match ys, this with
        | [x, y], _ => exact ⟨x, y, rfl⟩
      have hle : ¬ y < x := (List.pairwise_cons.mp hpair).1 y (List.mem_singleton.mpr rfl)
      have hin : ∀ t ∈ [x, y], t ∈ L := fun t ht => by
        have := hperm.mem_iff.mp ht
        simp only [List.mem_cons, List.not_mem_nil, or_false] at this
        rcases this with rfl | rfl <;> assumption
      obtain ⟨x1, x2, x3⟩ := hLu x (hin x List.mem_cons_self)
      obtain ⟨y1, y2, y3⟩ := hLu y (hin y (List.mem_cons_of_mem _ List.mem_cons_self))
      have hxy : Wd (x ++ y) := ⟨by rw [List.length_append]; have := x1.1; omega, by rw [List.length_append]; omega, fun d hd => by
        rcases List.mem_append.mp hd with r | r
        · exact x1.2.2 d r
        · exact y1.2.2 d r⟩
      have e10 := (e9.trans l1).trans l2
      have hr2 : upd (upd H9 r1 (.lst [tv w1, tv w2])) r2 (.lst (tvs [x, y])) r2 = some (.lst [tv x, tv y]) := upd_same
      generalize upd (upd H9 r1 (.lst [tv w1, tv w2])) r2 (.lst (tvs [x, y])) = H10 at *
      clear l1 l2 o1 o2 hperm hpair
      refine ⟨_, rfl, r2, _, 0, tv x, rfl, rfl, SqL.of hr2, atI_nat (j := 0) rfl, _, rfl, r2, _, 1, tv y, rfl, rfl, SqL.of hr2, atI_nat (j := 1) rfl, x, y, rfl, rfl, by omega, tv (x ++ y), true, [], rfl, rfl, .word hxy, (fun e => nomatch e), fun l' _ el _ H11 e11 => ?_⟩
      cases tv_inj el
      have hr11 := e11 _ _ hr2
      refine ⟨_, rfl, r2, _, 0, tv x, rfl, rfl, SqL.of hr11, atI_nat (j := 0) rfl, _, rfl, r2, _, 1, tv y, rfl, rfl, SqL.of hr11, atI_nat (j := 1) rfl, x, y, rfl, rfl, rfl, false, ?_, iteF ?_⟩
      · rw [pair_early x2 y2 (fun z => by have := x1.1; rw [z] at this; simp at this) hle]
        simp
      exact ⟨_, _, _, _, rfl, e10.trans e11⟩
    · rintro σ H8 ⟨y5, y9, y10, y11, rfl, e8⟩
      exact q H8
end
end Rk
namespace Rk
open PySem PySem.Spec PyProof.Rows L2 Rw
theorem all_mk {l : PySem.W.OpenLaw} {w : World} {K : PySem.W.Frag} {h : Heap} {mg : Str → Option Value} {fa f_is_word f_need_word f_turnings f_is_early f_cuts f_pieces f_need_count f_power f_early_words f_next_early f__need_signs f__are_signs f__is_among f__following f_borders f_beat f_root f_early_count f_ring_count f__early_counts f_least_form f_l_cell_at f_l_mixed f_l_longer f_l_words f_law q_WordError q_NoWord q_NoSigns q_NoCount q_TooMany : Addr} (X : K.In h) (G : h.Ns mainGlobals mg) (hfa : mg "law" = some (.ref fa))
    {od_is_word an_is_word : Option Addr} {sl_is_word : Array (Option Value)} {oc_is_word kV_is_word dc_is_word pm_is_word cd_is_word ct_is_word : Value}
    (a_is_word : PySem.W.nsIn K mainGlobals "is_word" = some (some (.ref f_is_word)))
    (l_is_word : K.lookup f_is_word = some ⟨oc_is_word, od_is_word, .func (PySem.W.fnOf "is_word" "is_word" (defArgs s_is_word) (defBody s_is_word) (defScope s_is_word) .none kV_is_word dc_is_word pm_is_word an_is_word cd_is_word ct_is_word), sl_is_word⟩)
    (c_is_word : PySem.W.codeIn K cd_is_word "is_word" = true) (k_is_word : PySem.W.keepIn K (.ref f_is_word) = true)
    {od_need_word an_need_word : Option Addr} {sl_need_word : Array (Option Value)} {oc_need_word kV_need_word dc_need_word pm_need_word cd_need_word ct_need_word : Value}
    (a_need_word : PySem.W.nsIn K mainGlobals "need_word" = some (some (.ref f_need_word)))
    (l_need_word : K.lookup f_need_word = some ⟨oc_need_word, od_need_word, .func (PySem.W.fnOf "need_word" "need_word" (defArgs s_need_word) (defBody s_need_word) (defScope s_need_word) .none kV_need_word dc_need_word pm_need_word an_need_word cd_need_word ct_need_word), sl_need_word⟩)
    (c_need_word : PySem.W.codeIn K cd_need_word "need_word" = true) (k_need_word : PySem.W.keepIn K (.ref f_need_word) = true)
    {od_turnings an_turnings : Option Addr} {sl_turnings : Array (Option Value)} {oc_turnings kV_turnings dc_turnings pm_turnings cd_turnings ct_turnings : Value}
    (a_turnings : PySem.W.nsIn K mainGlobals "turnings" = some (some (.ref f_turnings)))
    (l_turnings : K.lookup f_turnings = some ⟨oc_turnings, od_turnings, .func (PySem.W.fnOf "turnings" "turnings" (defArgs s_turnings) (defBody s_turnings) (defScope s_turnings) .none kV_turnings dc_turnings pm_turnings an_turnings cd_turnings ct_turnings), sl_turnings⟩)
    (c_turnings : PySem.W.codeIn K cd_turnings "turnings" = true) (k_turnings : PySem.W.keepIn K (.ref f_turnings) = true)
    {od_is_early an_is_early : Option Addr} {sl_is_early : Array (Option Value)} {oc_is_early kV_is_early dc_is_early pm_is_early cd_is_early ct_is_early : Value}
    (a_is_early : PySem.W.nsIn K mainGlobals "is_early" = some (some (.ref f_is_early)))
    (l_is_early : K.lookup f_is_early = some ⟨oc_is_early, od_is_early, .func (PySem.W.fnOf "is_early" "is_early" (defArgs s_is_early) (defBody s_is_early) (defScope s_is_early) .none kV_is_early dc_is_early pm_is_early an_is_early cd_is_early ct_is_early), sl_is_early⟩)
    (c_is_early : PySem.W.codeIn K cd_is_early "is_early" = true) (k_is_early : PySem.W.keepIn K (.ref f_is_early) = true)
    {od_cuts an_cuts : Option Addr} {sl_cuts : Array (Option Value)} {oc_cuts kV_cuts dc_cuts pm_cuts cd_cuts ct_cuts : Value}
    (a_cuts : PySem.W.nsIn K mainGlobals "cuts" = some (some (.ref f_cuts)))
    (l_cuts : K.lookup f_cuts = some ⟨oc_cuts, od_cuts, .func (PySem.W.fnOf "cuts" "cuts" (defArgs s_cuts) (defBody s_cuts) (defScope s_cuts) .none kV_cuts dc_cuts pm_cuts an_cuts cd_cuts ct_cuts), sl_cuts⟩)
    (c_cuts : PySem.W.codeIn K cd_cuts "cuts" = true) (k_cuts : PySem.W.keepIn K (.ref f_cuts) = true)
    {od_pieces an_pieces : Option Addr} {sl_pieces : Array (Option Value)} {oc_pieces kV_pieces dc_pieces pm_pieces cd_pieces ct_pieces : Value}
    (a_pieces : PySem.W.nsIn K mainGlobals "pieces" = some (some (.ref f_pieces)))
    (l_pieces : K.lookup f_pieces = some ⟨oc_pieces, od_pieces, .func (PySem.W.fnOf "pieces" "pieces" (defArgs s_pieces) (defBody s_pieces) (defScope s_pieces) .none kV_pieces dc_pieces pm_pieces an_pieces cd_pieces ct_pieces), sl_pieces⟩)
    (c_pieces : PySem.W.codeIn K cd_pieces "pieces" = true) (k_pieces : PySem.W.keepIn K (.ref f_pieces) = true)
    {od_need_count an_need_count : Option Addr} {sl_need_count : Array (Option Value)} {oc_need_count kV_need_count dc_need_count pm_need_count cd_need_count ct_need_count : Value}
    (a_need_count : PySem.W.nsIn K mainGlobals "need_count" = some (some (.ref f_need_count)))
    (l_need_count : K.lookup f_need_count = some ⟨oc_need_count, od_need_count, .func (PySem.W.fnOf "need_count" "need_count" (defArgs s_need_count) (defBody s_need_count) (defScope s_need_count) .none kV_need_count dc_need_count pm_need_count an_need_count cd_need_count ct_need_count), sl_need_count⟩)
    (c_need_count : PySem.W.codeIn K cd_need_count "need_count" = true) (k_need_count : PySem.W.keepIn K (.ref f_need_count) = true)
    {od_power an_power : Option Addr} {sl_power : Array (Option Value)} {oc_power kV_power dc_power pm_power cd_power ct_power : Value}
    (a_power : PySem.W.nsIn K mainGlobals "power" = some (some (.ref f_power)))
    (l_power : K.lookup f_power = some ⟨oc_power, od_power, .func (PySem.W.fnOf "power" "power" (defArgs s_power) (defBody s_power) (defScope s_power) .none kV_power dc_power pm_power an_power cd_power ct_power), sl_power⟩)
    (c_power : PySem.W.codeIn K cd_power "power" = true) (k_power : PySem.W.keepIn K (.ref f_power) = true)
    {od_early_words an_early_words : Option Addr} {sl_early_words : Array (Option Value)} {oc_early_words kV_early_words dc_early_words pm_early_words cd_early_words ct_early_words : Value}
    (a_early_words : PySem.W.nsIn K mainGlobals "early_words" = some (some (.ref f_early_words)))
    (l_early_words : K.lookup f_early_words = some ⟨oc_early_words, od_early_words, .func (PySem.W.fnOf "early_words" "early_words" (defArgs s_early_words) (defBody s_early_words) (defScope s_early_words) .none kV_early_words dc_early_words pm_early_words an_early_words cd_early_words ct_early_words), sl_early_words⟩)
    (c_early_words : PySem.W.codeIn K cd_early_words "early_words" = true) (k_early_words : PySem.W.keepIn K (.ref f_early_words) = true)
    {od_next_early an_next_early : Option Addr} {sl_next_early : Array (Option Value)} {oc_next_early kV_next_early dc_next_early pm_next_early cd_next_early ct_next_early : Value}
    (a_next_early : PySem.W.nsIn K mainGlobals "next_early" = some (some (.ref f_next_early)))
    (l_next_early : K.lookup f_next_early = some ⟨oc_next_early, od_next_early, .func (PySem.W.fnOf "next_early" "next_early" (defArgs s_next_early) (defBody s_next_early) (defScope s_next_early) .none kV_next_early dc_next_early pm_next_early an_next_early cd_next_early ct_next_early), sl_next_early⟩)
    (c_next_early : PySem.W.codeIn K cd_next_early "next_early" = true) (k_next_early : PySem.W.keepIn K (.ref f_next_early) = true)
    {od__need_signs an__need_signs : Option Addr} {sl__need_signs : Array (Option Value)} {oc__need_signs kV__need_signs dc__need_signs pm__need_signs cd__need_signs ct__need_signs : Value}
    (a__need_signs : PySem.W.nsIn K mainGlobals "_need_signs" = some (some (.ref f__need_signs)))
    (l__need_signs : K.lookup f__need_signs = some ⟨oc__need_signs, od__need_signs, .func (PySem.W.fnOf "_need_signs" "_need_signs" (defArgs s__need_signs) (defBody s__need_signs) (defScope s__need_signs) .none kV__need_signs dc__need_signs pm__need_signs an__need_signs cd__need_signs ct__need_signs), sl__need_signs⟩)
    (c__need_signs : PySem.W.codeIn K cd__need_signs "_need_signs" = true) (k__need_signs : PySem.W.keepIn K (.ref f__need_signs) = true)
    {od__are_signs an__are_signs : Option Addr} {sl__are_signs : Array (Option Value)} {oc__are_signs kV__are_signs dc__are_signs pm__are_signs cd__are_signs ct__are_signs : Value}
    (a__are_signs : PySem.W.nsIn K mainGlobals "_are_signs" = some (some (.ref f__are_signs)))
    (l__are_signs : K.lookup f__are_signs = some ⟨oc__are_signs, od__are_signs, .func (PySem.W.fnOf "_are_signs" "_are_signs" (defArgs s__are_signs) (defBody s__are_signs) (defScope s__are_signs) .none kV__are_signs dc__are_signs pm__are_signs an__are_signs cd__are_signs ct__are_signs), sl__are_signs⟩)
    (c__are_signs : PySem.W.codeIn K cd__are_signs "_are_signs" = true) (k__are_signs : PySem.W.keepIn K (.ref f__are_signs) = true)
    {od__is_among an__is_among : Option Addr} {sl__is_among : Array (Option Value)} {oc__is_among kV__is_among dc__is_among pm__is_among cd__is_among ct__is_among : Value}
    (a__is_among : PySem.W.nsIn K mainGlobals "_is_among" = some (some (.ref f__is_among)))
    (l__is_among : K.lookup f__is_among = some ⟨oc__is_among, od__is_among, .func (PySem.W.fnOf "_is_among" "_is_among" (defArgs s__is_among) (defBody s__is_among) (defScope s__is_among) .none kV__is_among dc__is_among pm__is_among an__is_among cd__is_among ct__is_among), sl__is_among⟩)
    (c__is_among : PySem.W.codeIn K cd__is_among "_is_among" = true) (k__is_among : PySem.W.keepIn K (.ref f__is_among) = true)
    {od__following an__following : Option Addr} {sl__following : Array (Option Value)} {oc__following kV__following dc__following pm__following cd__following ct__following : Value}
    (a__following : PySem.W.nsIn K mainGlobals "_following" = some (some (.ref f__following)))
    (l__following : K.lookup f__following = some ⟨oc__following, od__following, .func (PySem.W.fnOf "_following" "_following" (defArgs s__following) (defBody s__following) (defScope s__following) .none kV__following dc__following pm__following an__following cd__following ct__following), sl__following⟩)
    (c__following : PySem.W.codeIn K cd__following "_following" = true) (k__following : PySem.W.keepIn K (.ref f__following) = true)
    {od_borders an_borders : Option Addr} {sl_borders : Array (Option Value)} {oc_borders kV_borders dc_borders pm_borders cd_borders ct_borders : Value}
    (a_borders : PySem.W.nsIn K mainGlobals "borders" = some (some (.ref f_borders)))
    (l_borders : K.lookup f_borders = some ⟨oc_borders, od_borders, .func (PySem.W.fnOf "borders" "borders" (defArgs s_borders) (defBody s_borders) (defScope s_borders) .none kV_borders dc_borders pm_borders an_borders cd_borders ct_borders), sl_borders⟩)
    (c_borders : PySem.W.codeIn K cd_borders "borders" = true) (k_borders : PySem.W.keepIn K (.ref f_borders) = true)
    {od_beat an_beat : Option Addr} {sl_beat : Array (Option Value)} {oc_beat kV_beat dc_beat pm_beat cd_beat ct_beat : Value}
    (a_beat : PySem.W.nsIn K mainGlobals "beat" = some (some (.ref f_beat)))
    (l_beat : K.lookup f_beat = some ⟨oc_beat, od_beat, .func (PySem.W.fnOf "beat" "beat" (defArgs s_beat) (defBody s_beat) (defScope s_beat) .none kV_beat dc_beat pm_beat an_beat cd_beat ct_beat), sl_beat⟩)
    (c_beat : PySem.W.codeIn K cd_beat "beat" = true) (k_beat : PySem.W.keepIn K (.ref f_beat) = true)
    {od_root an_root : Option Addr} {sl_root : Array (Option Value)} {oc_root kV_root dc_root pm_root cd_root ct_root : Value}
    (a_root : PySem.W.nsIn K mainGlobals "root" = some (some (.ref f_root)))
    (l_root : K.lookup f_root = some ⟨oc_root, od_root, .func (PySem.W.fnOf "root" "root" (defArgs s_root) (defBody s_root) (defScope s_root) .none kV_root dc_root pm_root an_root cd_root ct_root), sl_root⟩)
    (c_root : PySem.W.codeIn K cd_root "root" = true) (k_root : PySem.W.keepIn K (.ref f_root) = true)
    {od_early_count an_early_count : Option Addr} {sl_early_count : Array (Option Value)} {oc_early_count kV_early_count dc_early_count pm_early_count cd_early_count ct_early_count : Value}
    (a_early_count : PySem.W.nsIn K mainGlobals "early_count" = some (some (.ref f_early_count)))
    (l_early_count : K.lookup f_early_count = some ⟨oc_early_count, od_early_count, .func (PySem.W.fnOf "early_count" "early_count" (defArgs s_early_count) (defBody s_early_count) (defScope s_early_count) .none kV_early_count dc_early_count pm_early_count an_early_count cd_early_count ct_early_count), sl_early_count⟩)
    (c_early_count : PySem.W.codeIn K cd_early_count "early_count" = true) (k_early_count : PySem.W.keepIn K (.ref f_early_count) = true)
    {od_ring_count an_ring_count : Option Addr} {sl_ring_count : Array (Option Value)} {oc_ring_count kV_ring_count dc_ring_count pm_ring_count cd_ring_count ct_ring_count : Value}
    (a_ring_count : PySem.W.nsIn K mainGlobals "ring_count" = some (some (.ref f_ring_count)))
    (l_ring_count : K.lookup f_ring_count = some ⟨oc_ring_count, od_ring_count, .func (PySem.W.fnOf "ring_count" "ring_count" (defArgs s_ring_count) (defBody s_ring_count) (defScope s_ring_count) .none kV_ring_count dc_ring_count pm_ring_count an_ring_count cd_ring_count ct_ring_count), sl_ring_count⟩)
    (c_ring_count : PySem.W.codeIn K cd_ring_count "ring_count" = true) (k_ring_count : PySem.W.keepIn K (.ref f_ring_count) = true)
    {od__early_counts an__early_counts : Option Addr} {sl__early_counts : Array (Option Value)} {oc__early_counts kV__early_counts dc__early_counts pm__early_counts cd__early_counts ct__early_counts : Value}
    (a__early_counts : PySem.W.nsIn K mainGlobals "_early_counts" = some (some (.ref f__early_counts)))
    (l__early_counts : K.lookup f__early_counts = some ⟨oc__early_counts, od__early_counts, .func (PySem.W.fnOf "_early_counts" "_early_counts" (defArgs s__early_counts) (defBody s__early_counts) (defScope s__early_counts) .none kV__early_counts dc__early_counts pm__early_counts an__early_counts cd__early_counts ct__early_counts), sl__early_counts⟩)
    (c__early_counts : PySem.W.codeIn K cd__early_counts "_early_counts" = true) (k__early_counts : PySem.W.keepIn K (.ref f__early_counts) = true)
    {od_least_form an_least_form : Option Addr} {sl_least_form : Array (Option Value)} {oc_least_form kV_least_form dc_least_form pm_least_form cd_least_form ct_least_form : Value}
    (a_least_form : PySem.W.nsIn K mainGlobals "least_form" = some (some (.ref f_least_form)))
    (l_least_form : K.lookup f_least_form = some ⟨oc_least_form, od_least_form, .func (PySem.W.fnOf "least_form" "least_form" (defArgs s_least_form) (defBody s_least_form) (defScope s_least_form) .none kV_least_form dc_least_form pm_least_form an_least_form cd_least_form ct_least_form), sl_least_form⟩)
    (c_least_form : PySem.W.codeIn K cd_least_form "least_form" = true) (k_least_form : PySem.W.keepIn K (.ref f_least_form) = true)
    {od_l_cell_at an_l_cell_at : Option Addr} {sl_l_cell_at : Array (Option Value)} {oc_l_cell_at kV_l_cell_at dc_l_cell_at pm_l_cell_at cd_l_cell_at ct_l_cell_at : Value}
    (a_l_cell_at : PySem.W.nsIn K mainGlobals "_law_cell_at" = some (some (.ref f_l_cell_at)))
    (l_l_cell_at : K.lookup f_l_cell_at = some ⟨oc_l_cell_at, od_l_cell_at, .func (PySem.W.fnOf "_law_cell_at" "_law_cell_at" (defArgs s_l_cell_at) (defBody s_l_cell_at) (defScope s_l_cell_at) .none kV_l_cell_at dc_l_cell_at pm_l_cell_at an_l_cell_at cd_l_cell_at ct_l_cell_at), sl_l_cell_at⟩)
    (c_l_cell_at : PySem.W.codeIn K cd_l_cell_at "_law_cell_at" = true) (k_l_cell_at : PySem.W.keepIn K (.ref f_l_cell_at) = true)
    {od_l_mixed an_l_mixed : Option Addr} {sl_l_mixed : Array (Option Value)} {oc_l_mixed kV_l_mixed dc_l_mixed pm_l_mixed cd_l_mixed ct_l_mixed : Value}
    (a_l_mixed : PySem.W.nsIn K mainGlobals "_law_mixed" = some (some (.ref f_l_mixed)))
    (l_l_mixed : K.lookup f_l_mixed = some ⟨oc_l_mixed, od_l_mixed, .func (PySem.W.fnOf "_law_mixed" "_law_mixed" (defArgs s_l_mixed) (defBody s_l_mixed) (defScope s_l_mixed) .none kV_l_mixed dc_l_mixed pm_l_mixed an_l_mixed cd_l_mixed ct_l_mixed), sl_l_mixed⟩)
    (c_l_mixed : PySem.W.codeIn K cd_l_mixed "_law_mixed" = true) (k_l_mixed : PySem.W.keepIn K (.ref f_l_mixed) = true)
    {od_l_longer an_l_longer : Option Addr} {sl_l_longer : Array (Option Value)} {oc_l_longer kV_l_longer dc_l_longer pm_l_longer cd_l_longer ct_l_longer : Value}
    (a_l_longer : PySem.W.nsIn K mainGlobals "_law_longer" = some (some (.ref f_l_longer)))
    (l_l_longer : K.lookup f_l_longer = some ⟨oc_l_longer, od_l_longer, .func (PySem.W.fnOf "_law_longer" "_law_longer" (defArgs s_l_longer) (defBody s_l_longer) (defScope s_l_longer) .none kV_l_longer dc_l_longer pm_l_longer an_l_longer cd_l_longer ct_l_longer), sl_l_longer⟩)
    (c_l_longer : PySem.W.codeIn K cd_l_longer "_law_longer" = true) (k_l_longer : PySem.W.keepIn K (.ref f_l_longer) = true)
    {od_l_words an_l_words : Option Addr} {sl_l_words : Array (Option Value)} {oc_l_words kV_l_words dc_l_words pm_l_words cd_l_words ct_l_words : Value}
    (a_l_words : PySem.W.nsIn K mainGlobals "_law_words" = some (some (.ref f_l_words)))
    (l_l_words : K.lookup f_l_words = some ⟨oc_l_words, od_l_words, .func (PySem.W.fnOf "_law_words" "_law_words" (defArgs s_l_words) (defBody s_l_words) (defScope s_l_words) .none kV_l_words dc_l_words pm_l_words an_l_words cd_l_words ct_l_words), sl_l_words⟩)
    (c_l_words : PySem.W.codeIn K cd_l_words "_law_words" = true) (k_l_words : PySem.W.keepIn K (.ref f_l_words) = true)
    {od_law an_law : Option Addr} {sl_law : Array (Option Value)} {oc_law kV_law dc_law pm_law cd_law ct_law : Value}
    (a_law : PySem.W.nsIn K mainGlobals "law" = some (some (.ref f_law)))
    (l_law : K.lookup f_law = some ⟨oc_law, od_law, .func (PySem.W.fnOf "law" "law" (defArgs s_law) (defBody s_law) (defScope s_law) .none kV_law dc_law pm_law an_law cd_law ct_law), sl_law⟩)
    (c_law : PySem.W.codeIn K cd_law "law" = true) (k_law : PySem.W.keepIn K (.ref f_law) = true)
    (z_len : PySem.W.nsIn K mainGlobals "len" = some none)
    (z_range : PySem.W.nsIn K mainGlobals "range" = some none)
    (z_sorted : PySem.W.nsIn K mainGlobals "sorted" = some none)
    (z_min : PySem.W.nsIn K mainGlobals "min" = some none)
    (z_max : PySem.W.nsIn K mainGlobals "max" = some none)
    (z_all : PySem.W.nsIn K mainGlobals "all" = some none)
    (z_isinstance : PySem.W.nsIn K mainGlobals "isinstance" = some none)
    (z_list : PySem.W.nsIn K mainGlobals "list" = some none)
    (z_tuple : PySem.W.nsIn K mainGlobals "tuple" = some none)
    (z_str : PySem.W.nsIn K mainGlobals "str" = some none)
    (z_bool : PySem.W.nsIn K mainGlobals "bool" = some none)
    (z_zip : PySem.W.nsIn K mainGlobals "zip" = some none)
    (z_enumerate : PySem.W.nsIn K mainGlobals "enumerate" = some none)
    (z_ValueError : PySem.W.nsIn K mainGlobals "ValueError" = some none)
    (z_sum : PySem.W.nsIn K mainGlobals "sum" = some none)
    (z_set : PySem.W.nsIn K mainGlobals "set" = some none)
    (z_dict : PySem.W.nsIn K mainGlobals "dict" = some none)
    (z_int : PySem.W.nsIn K mainGlobals "int" = some none)
    {t_LONGEST_WORD : Tok} (z_LONGEST_WORD : PySem.W.nsIn K mainGlobals "LONGEST_WORD" = some (some (.int 300 t_LONGEST_WORD)))
    {t_MOST_SIGNS : Tok} (z_MOST_SIGNS : PySem.W.nsIn K mainGlobals "MOST_SIGNS" = some (some (.int 6 t_MOST_SIGNS)))
    {t_MOST_LONG_rows : Tok} (z_MOST_LONG_rows : PySem.W.nsIn K mainGlobals "MOST_LONG_rows" = some (some (.int 12 t_MOST_LONG_rows)))
    {t_MOST_WORDS : Tok} (z_MOST_WORDS : PySem.W.nsIn K mainGlobals "MOST_WORDS" = some (some (.int 4096 t_MOST_WORDS)))
    {t_MOST_LETTERS : Tok} (z_MOST_LETTERS : PySem.W.nsIn K mainGlobals "MOST_LETTERS" = some (some (.int 26 t_MOST_LETTERS)))
    {t_MOST_LONG_counts : Tok} (z_MOST_LONG_counts : PySem.W.nsIn K mainGlobals "MOST_LONG_counts" = some (some (.int 60 t_MOST_LONG_counts)))
    (g_WordError : PySem.W.nsIn K mainGlobals "WordError" = some (some (.ref q_WordError)))
    (g_NoWord : PySem.W.nsIn K mainGlobals "NoWord" = some (some (.ref q_NoWord)))
    (g_NoSigns : PySem.W.nsIn K mainGlobals "NoSigns" = some (some (.ref q_NoSigns)))
    (g_NoCount : PySem.W.nsIn K mainGlobals "NoCount" = some (some (.ref q_NoCount)))
    (g_TooMany : PySem.W.nsIn K mainGlobals "TooMany" = some (some (.ref q_TooMany)))
    (x_NoWord : PySem.W.excIn K q_NoWord [.type "ValueError", .type "Exception", .type "BaseException", .type "object"] "ValueError.__new__" = true)
    (k_NoWord : PySem.W.keepIn K (.ref q_NoWord) = true)
    (b_NoWord : PySem.W.subIn K (.ref q_NoWord) (.type "BaseException") = some true)
    (t_NoWord : PySem.W.typeIn K (.ref q_NoWord) = some (.type "type"))
    (x_NoSigns : PySem.W.excIn K q_NoSigns [.type "ValueError", .type "Exception", .type "BaseException", .type "object"] "ValueError.__new__" = true)
    (k_NoSigns : PySem.W.keepIn K (.ref q_NoSigns) = true)
    (b_NoSigns : PySem.W.subIn K (.ref q_NoSigns) (.type "BaseException") = some true)
    (t_NoSigns : PySem.W.typeIn K (.ref q_NoSigns) = some (.type "type"))
    (x_NoCount : PySem.W.excIn K q_NoCount [.type "ValueError", .type "Exception", .type "BaseException", .type "object"] "ValueError.__new__" = true)
    (k_NoCount : PySem.W.keepIn K (.ref q_NoCount) = true)
    (b_NoCount : PySem.W.subIn K (.ref q_NoCount) (.type "BaseException") = some true)
    (t_NoCount : PySem.W.typeIn K (.ref q_NoCount) = some (.type "type"))
    (x_TooMany : PySem.W.excIn K q_TooMany [.type "ValueError", .type "Exception", .type "BaseException", .type "object"] "ValueError.__new__" = true)
    (k_TooMany : PySem.W.keepIn K (.ref q_TooMany) = true)
    (b_TooMany : PySem.W.subIn K (.ref q_TooMany) (.type "BaseException") = some true)
    (t_TooMany : PySem.W.typeIn K (.ref q_TooMany) = some (.type "type")) :
    ∃ fd : FuncData, (∀ (s : Shared) (v : Value), BindsTo s fd ⟨[v], []⟩ [("_law_script", v)]) ∧ ∀ base : Heap, K.In base → base.Ns mainGlobals mg → FnOk l.prog w K mg base CX0 7 fa fd ["_law_script"] (spLaw K) := by
  have e := hfa.symm.trans (PySem.W.mg_of X G a_law)
  cases e
  have B : Bt mg := ⟨PySem.W.mg_none_of X G z_len, PySem.W.mg_none_of X G z_range, PySem.W.mg_none_of X G z_sorted, PySem.W.mg_none_of X G z_min, PySem.W.mg_none_of X G z_max, PySem.W.mg_none_of X G z_all, PySem.W.mg_none_of X G z_isinstance, PySem.W.mg_none_of X G z_list, PySem.W.mg_none_of X G z_tuple, PySem.W.mg_none_of X G z_str, PySem.W.mg_none_of X G z_bool, PySem.W.mg_none_of X G z_zip, PySem.W.mg_none_of X G z_enumerate, PySem.W.mg_none_of X G z_ValueError, PySem.W.mg_none_of X G z_sum, PySem.W.mg_none_of X G z_set, PySem.W.mg_none_of X G z_dict, PySem.W.mg_none_of X G z_int, ⟨_, PySem.W.mg_of X G z_LONGEST_WORD, ⟨_, rfl⟩⟩⟩
  have C_MOST_SIGNS : Cst mg "MOST_SIGNS" 6 := ⟨_, PySem.W.mg_of X G z_MOST_SIGNS, ⟨_, rfl⟩⟩
  have C_MOST_LONG_rows : Cst mg "MOST_LONG_rows" 12 := ⟨_, PySem.W.mg_of X G z_MOST_LONG_rows, ⟨_, rfl⟩⟩
  have C_MOST_WORDS : Cst mg "MOST_WORDS" 4096 := ⟨_, PySem.W.mg_of X G z_MOST_WORDS, ⟨_, rfl⟩⟩
  have C_MOST_LETTERS : Cst mg "MOST_LETTERS" 26 := ⟨_, PySem.W.mg_of X G z_MOST_LETTERS, ⟨_, rfl⟩⟩
  have C_MOST_LONG_counts : Cst mg "MOST_LONG_counts" 60 := ⟨_, PySem.W.mg_of X G z_MOST_LONG_counts, ⟨_, rfl⟩⟩
  have X_NoWord : ErX K mg "NoWord" q_NoWord := ⟨PySem.W.mg_of X G g_NoWord, x_NoWord, k_NoWord, b_NoWord, t_NoWord⟩
  have X_NoSigns : ErX K mg "NoSigns" q_NoSigns := ⟨PySem.W.mg_of X G g_NoSigns, x_NoSigns, k_NoSigns, b_NoSigns, t_NoSigns⟩
  have X_NoCount : ErX K mg "NoCount" q_NoCount := ⟨PySem.W.mg_of X G g_NoCount, x_NoCount, k_NoCount, b_NoCount, t_NoCount⟩
  have X_TooMany : ErX K mg "TooMany" q_TooMany := ⟨PySem.W.mg_of X G g_TooMany, x_TooMany, k_TooMany, b_TooMany, t_TooMany⟩
  have R1 : Er1 K mg q_NoWord := ⟨PySem.W.mg_of X G g_NoWord, x_NoWord, k_NoWord, b_NoWord, t_NoWord⟩
  have D_is_word : Dfn K mg "is_word" s_is_word p_is_word := ⟨f_is_word, _, fun_mk l_is_word c_is_word k_is_word, PySem.W.mg_of X G a_is_word, (fun_mk l_is_word c_is_word k_is_word).binds (ps := p_is_word) fun _ _ _ _ _ _ us hl => match us, hl with | [_], _ => rfl⟩
  have D_need_word : Dfn K mg "need_word" s_need_word p_need_word := ⟨f_need_word, _, fun_mk l_need_word c_need_word k_need_word, PySem.W.mg_of X G a_need_word, (fun_mk l_need_word c_need_word k_need_word).binds (ps := p_need_word) fun _ _ _ _ _ _ us hl => match us, hl with | [_], _ => rfl⟩
  have D_turnings : Dfn K mg "turnings" s_turnings p_turnings := ⟨f_turnings, _, fun_mk l_turnings c_turnings k_turnings, PySem.W.mg_of X G a_turnings, (fun_mk l_turnings c_turnings k_turnings).binds (ps := p_turnings) fun _ _ _ _ _ _ us hl => match us, hl with | [_], _ => rfl⟩
  have D_is_early : Dfn K mg "is_early" s_is_early p_is_early := ⟨f_is_early, _, fun_mk l_is_early c_is_early k_is_early, PySem.W.mg_of X G a_is_early, (fun_mk l_is_early c_is_early k_is_early).binds (ps := p_is_early) fun _ _ _ _ _ _ us hl => match us, hl with | [_], _ => rfl⟩
  have D_cuts : Dfn K mg "cuts" s_cuts p_cuts := ⟨f_cuts, _, fun_mk l_cuts c_cuts k_cuts, PySem.W.mg_of X G a_cuts, (fun_mk l_cuts c_cuts k_cuts).binds (ps := p_cuts) fun _ _ _ _ _ _ us hl => match us, hl with | [_], _ => rfl⟩
  have D_pieces : Dfn K mg "pieces" s_pieces p_pieces := ⟨f_pieces, _, fun_mk l_pieces c_pieces k_pieces, PySem.W.mg_of X G a_pieces, (fun_mk l_pieces c_pieces k_pieces).binds (ps := p_pieces) fun _ _ _ _ _ _ us hl => match us, hl with | [_], _ => rfl⟩
  have D_need_count : Dfn K mg "need_count" s_need_count p_need_count := ⟨f_need_count, _, fun_mk l_need_count c_need_count k_need_count, PySem.W.mg_of X G a_need_count, (fun_mk l_need_count c_need_count k_need_count).binds (ps := p_need_count) fun _ _ _ _ _ _ us hl => match us, hl with | [_, _], _ => rfl⟩
  have D_power : Dfn K mg "power" s_power p_power := ⟨f_power, _, fun_mk l_power c_power k_power, PySem.W.mg_of X G a_power, (fun_mk l_power c_power k_power).binds (ps := p_power) fun _ _ _ _ _ _ us hl => match us, hl with | [_, _], _ => rfl⟩
  have D_early_words : Dfn K mg "early_words" s_early_words p_early_words := ⟨f_early_words, _, fun_mk l_early_words c_early_words k_early_words, PySem.W.mg_of X G a_early_words, (fun_mk l_early_words c_early_words k_early_words).binds (ps := p_early_words) fun _ _ _ _ _ _ us hl => match us, hl with | [_, _], _ => rfl⟩
  have D_next_early : Dfn K mg "next_early" s_next_early p_next_early := ⟨f_next_early, _, fun_mk l_next_early c_next_early k_next_early, PySem.W.mg_of X G a_next_early, (fun_mk l_next_early c_next_early k_next_early).binds (ps := p_next_early) fun _ _ _ _ _ _ us hl => match us, hl with | [_, _, _], _ => rfl⟩
  have D__need_signs : Dfn K mg "_need_signs" s__need_signs p__need_signs := ⟨f__need_signs, _, fun_mk l__need_signs c__need_signs k__need_signs, PySem.W.mg_of X G a__need_signs, (fun_mk l__need_signs c__need_signs k__need_signs).binds (ps := p__need_signs) fun _ _ _ _ _ _ us hl => match us, hl with | [_], _ => rfl⟩
  have D__are_signs : Dfn K mg "_are_signs" s__are_signs p__are_signs := ⟨f__are_signs, _, fun_mk l__are_signs c__are_signs k__are_signs, PySem.W.mg_of X G a__are_signs, (fun_mk l__are_signs c__are_signs k__are_signs).binds (ps := p__are_signs) fun _ _ _ _ _ _ us hl => match us, hl with | [_], _ => rfl⟩
  have D__is_among : Dfn K mg "_is_among" s__is_among p__is_among := ⟨f__is_among, _, fun_mk l__is_among c__is_among k__is_among, PySem.W.mg_of X G a__is_among, (fun_mk l__is_among c__is_among k__is_among).binds (ps := p__is_among) fun _ _ _ _ _ _ us hl => match us, hl with | [_, _, _], _ => rfl⟩
  have D__following : Dfn K mg "_following" s__following p__following := ⟨f__following, _, fun_mk l__following c__following k__following, PySem.W.mg_of X G a__following, (fun_mk l__following c__following k__following).binds (ps := p__following) fun _ _ _ _ _ _ us hl => match us, hl with | [_, _, _], _ => rfl⟩
  have D_borders : Dfn K mg "borders" s_borders p_borders := ⟨f_borders, _, fun_mk l_borders c_borders k_borders, PySem.W.mg_of X G a_borders, (fun_mk l_borders c_borders k_borders).binds (ps := p_borders) fun _ _ _ _ _ _ us hl => match us, hl with | [_], _ => rfl⟩
  have D_beat : Dfn K mg "beat" s_beat p_beat := ⟨f_beat, _, fun_mk l_beat c_beat k_beat, PySem.W.mg_of X G a_beat, (fun_mk l_beat c_beat k_beat).binds (ps := p_beat) fun _ _ _ _ _ _ us hl => match us, hl with | [_], _ => rfl⟩
  have D_root : Dfn K mg "root" s_root p_root := ⟨f_root, _, fun_mk l_root c_root k_root, PySem.W.mg_of X G a_root, (fun_mk l_root c_root k_root).binds (ps := p_root) fun _ _ _ _ _ _ us hl => match us, hl with | [_], _ => rfl⟩
  have D_early_count : Dfn K mg "early_count" s_early_count p_early_count := ⟨f_early_count, _, fun_mk l_early_count c_early_count k_early_count, PySem.W.mg_of X G a_early_count, (fun_mk l_early_count c_early_count k_early_count).binds (ps := p_early_count) fun _ _ _ _ _ _ us hl => match us, hl with | [_, _], _ => rfl⟩
  have D_ring_count : Dfn K mg "ring_count" s_ring_count p_ring_count := ⟨f_ring_count, _, fun_mk l_ring_count c_ring_count k_ring_count, PySem.W.mg_of X G a_ring_count, (fun_mk l_ring_count c_ring_count k_ring_count).binds (ps := p_ring_count) fun _ _ _ _ _ _ us hl => match us, hl with | [_, _], _ => rfl⟩
  have D__early_counts : Dfn K mg "_early_counts" s__early_counts p__early_counts := ⟨f__early_counts, _, fun_mk l__early_counts c__early_counts k__early_counts, PySem.W.mg_of X G a__early_counts, (fun_mk l__early_counts c__early_counts k__early_counts).binds (ps := p__early_counts) fun _ _ _ _ _ _ us hl => match us, hl with | [_, _], _ => rfl⟩
  have D_least_form : Dfn K mg "least_form" s_least_form p_least_form := ⟨f_least_form, _, fun_mk l_least_form c_least_form k_least_form, PySem.W.mg_of X G a_least_form, (fun_mk l_least_form c_least_form k_least_form).binds (ps := p_least_form) fun _ _ _ _ _ _ us hl => match us, hl with | [_], _ => rfl⟩
  have D_l_cell_at : Dfn K mg "_law_cell_at" s_l_cell_at p_l_cell_at := ⟨f_l_cell_at, _, fun_mk l_l_cell_at c_l_cell_at k_l_cell_at, PySem.W.mg_of X G a_l_cell_at, (fun_mk l_l_cell_at c_l_cell_at k_l_cell_at).binds (ps := p_l_cell_at) fun _ _ _ _ _ _ us hl => match us, hl with | [_, _], _ => rfl⟩
  have D_l_mixed : Dfn K mg "_law_mixed" s_l_mixed p_l_mixed := ⟨f_l_mixed, _, fun_mk l_l_mixed c_l_mixed k_l_mixed, PySem.W.mg_of X G a_l_mixed, (fun_mk l_l_mixed c_l_mixed k_l_mixed).binds (ps := p_l_mixed) fun _ _ _ _ _ _ us hl => match us, hl with | [_, _], _ => rfl⟩
  have D_l_longer : Dfn K mg "_law_longer" s_l_longer p_l_longer := ⟨f_l_longer, _, fun_mk l_l_longer c_l_longer k_l_longer, PySem.W.mg_of X G a_l_longer, (fun_mk l_l_longer c_l_longer k_l_longer).binds (ps := p_l_longer) fun _ _ _ _ _ _ us hl => match us, hl with | [_, _], _ => rfl⟩
  have D_l_words : Dfn K mg "_law_words" s_l_words p_l_words := ⟨f_l_words, _, fun_mk l_l_words c_l_words k_l_words, PySem.W.mg_of X G a_l_words, (fun_mk l_l_words c_l_words k_l_words).binds (ps := p_l_words) fun _ _ _ _ _ _ us hl => match us, hl with | [_, _], _ => rfl⟩
  have FL := fun_mk (st := s_law) l_law c_law k_law
  refine ⟨PySem.W.fnOf "law" "law" (defArgs s_law) (defBody s_law) (defScope s_law) .none kV_law dc_law pm_law an_law cd_law ct_law, fun s v => .of_eq rfl, fun base _ _ => ?_⟩
  have c1 := ok_is_word (P := l.prog) (w := w) (base := base) B D_is_word
  have c2 := ok_need_word B R1 D_need_word c1
  have c3 := ok_turnings B D_turnings c2
  have c4 := ok_is_early B D_is_early c3
  have b1 := ok_cuts B D_cuts c2
  have b2 := ok_pieces B D_pieces b1
  have b3 := ok_borders B D_borders c2
  have b4 := ok_beat B D_beat b3
  have b5 := ok_root B D_root b4
  have b6 := ok_least_form B D_least_form c3
  have c5 := ok_need_count (P := l.prog) (w := w) (base := base) B X_NoCount D_need_count
  have c6 := ok_are_signs B C_MOST_SIGNS D__are_signs c1
  have c7 := ok_need_signs B C_MOST_SIGNS X_NoSigns D__need_signs c6
  have c8 := ok_following (P := l.prog) (w := w) (base := base) B D__following
  have c9 := ok_is_among (cs := csOf4 q_NoWord q_NoSigns q_NoCount q_TooMany) B D__is_among c4
  have c10 := ok_next_early (cs := csOf4 q_NoWord q_NoSigns q_NoCount q_TooMany) B R1 C_MOST_LONG_rows D_next_early c2 c7 c5 c9 c8
  have c11 := ok_power (P := l.prog) (w := w) (base := base) B D_power
  have c12 := ok_early_words (cs := csOf4 q_NoWord q_NoSigns q_NoCount q_TooMany) B X_TooMany C_MOST_LONG_rows C_MOST_WORDS D_early_words c7 c5 c11 c8
  have c13 := ok_early_counts B C_MOST_LETTERS C_MOST_LONG_counts D__early_counts c5 c11
  have c14 := ok_early_count B D_early_count c13
  have c15 := ok_ring_count B D_ring_count c13
  have d1 := ok_mixF (P := l.prog) (w := w) (base := base) D_l_mixed
  have d2 := ok_cell (P := l.prog) (w := w) (base := base) B D_l_cell_at
  have e4 := ok_llonger (P := l.prog) (w := w) (base := base) D_l_longer
  have e5 := ok_lwords B D_l_words e4
  exact ok_law (cs := csOf4 q_NoWord q_NoSigns q_NoCount q_TooMany) B FL d1 d2 c12 c10 c4 e5 b6 b5 c14 c15 b2
end Rk
open PySem PySem.W PyProof.Rows
set_option maxHeartbeats 0 in
theorem PySem.Challenge.cw_ringword_k15_whole_in_order_holds : PySem.Challenge.rw_ringword_k15_whole_in_order.Holds := by
  w_on; o_law; k_head; (case hw => w_witness2)
  k_fill
  refine L2.walk_of (l := PySem.Challenge.rw_ringword_k15_whole_in_order) (n := 63) (k := 7) (x := "_law_script") (CX := fun _ => L2.CX0) (sp := fun w => Rw.spLaw _) rfl (by decide) rfl ⟨rfl, by decide, by decide⟩ (fun w h Y => PySem.W.kIn_of Y) ?F (fun _ _ a ns hl _ hS => ⟨a, ns, rfl, hS, hl, fun _ => rfl⟩) (fun _ _ _ _ _ h => h)
  case F =>
    intro w mg fa h KX G hmg
    refine' Rk.all_mk KX G hmg ?a_is_word ?l_is_word ?c_is_word ?k_is_word ?a_need_word ?l_need_word ?c_need_word ?k_need_word ?a_turnings ?l_turnings ?c_turnings ?k_turnings ?a_is_early ?l_is_early ?c_is_early ?k_is_early ?a_cuts ?l_cuts ?c_cuts ?k_cuts ?a_pieces ?l_pieces ?c_pieces ?k_pieces ?a_need_count ?l_need_count ?c_need_count ?k_need_count ?a_power ?l_power ?c_power ?k_power ?a_early_words ?l_early_words ?c_early_words ?k_early_words ?a_next_early ?l_next_early ?c_next_early ?k_next_early ?a__need_signs ?l__need_signs ?c__need_signs ?k__need_signs ?a__are_signs ?l__are_signs ?c__are_signs ?k__are_signs ?a__is_among ?l__is_among ?c__is_among ?k__is_among ?a__following ?l__following ?c__following ?k__following ?a_borders ?l_borders ?c_borders ?k_borders ?a_beat ?l_beat ?c_beat ?k_beat ?a_root ?l_root ?c_root ?k_root ?a_early_count ?l_early_count ?c_early_count ?k_early_count ?a_ring_count ?l_ring_count ?c_ring_count ?k_ring_count ?a__early_counts ?l__early_counts ?c__early_counts ?k__early_counts ?a_least_form ?l_least_form ?c_least_form ?k_least_form ?a_l_cell_at ?l_l_cell_at ?c_l_cell_at ?k_l_cell_at ?a_l_mixed ?l_l_mixed ?c_l_mixed ?k_l_mixed ?a_l_longer ?l_l_longer ?c_l_longer ?k_l_longer ?a_l_words ?l_l_words ?c_l_words ?k_l_words ?a_law ?l_law ?c_law ?k_law ?z_len ?z_range ?z_sorted ?z_min ?z_max ?z_all ?z_isinstance ?z_list ?z_tuple ?z_str ?z_bool ?z_zip ?z_enumerate ?z_ValueError ?z_sum ?z_set ?z_dict ?z_int ?z_LONGEST_WORD ?z_MOST_SIGNS ?z_MOST_LONG_rows ?z_MOST_WORDS ?z_MOST_LETTERS ?z_MOST_LONG_counts ?g_WordError ?g_NoWord ?g_NoSigns ?g_NoCount ?g_TooMany ?x_NoWord ?k_NoWord ?b_NoWord ?t_NoWord ?x_NoSigns ?k_NoSigns ?b_NoSigns ?t_NoSigns ?x_NoCount ?k_NoCount ?b_NoCount ?t_NoCount ?x_TooMany ?k_TooMany ?b_TooMany ?t_TooMany
    (case a_is_word => first | k_is | rfl)
    (case l_is_word => first | k_is | rfl)
    (case c_is_word => first | k_is | rfl)
    (case k_is_word => first | k_is | rfl)
    (case a_need_word => first | k_is | rfl)
    (case l_need_word => first | k_is | rfl)
    (case c_need_word => first | k_is | rfl)
    (case k_need_word => first | k_is | rfl)
    (case a_turnings => first | k_is | rfl)
    (case l_turnings => first | k_is | rfl)
    (case c_turnings => first | k_is | rfl)
    (case k_turnings => first | k_is | rfl)
    (case a_is_early => first | k_is | rfl)
    (case l_is_early => first | k_is | rfl)
    (case c_is_early => first | k_is | rfl)
    (case k_is_early => first | k_is | rfl)
    (case a_cuts => first | k_is | rfl)
    (case l_cuts => first | k_is | rfl)
    (case c_cuts => first | k_is | rfl)
    (case k_cuts => first | k_is | rfl)
    (case a_pieces => first | k_is | rfl)
    (case l_pieces => first | k_is | rfl)
    (case c_pieces => first | k_is | rfl)
    (case k_pieces => first | k_is | rfl)
    (case a_need_count => first | k_is | rfl)
    (case l_need_count => first | k_is | rfl)
    (case c_need_count => first | k_is | rfl)
    (case k_need_count => first | k_is | rfl)
    (case a_power => first | k_is | rfl)
    (case l_power => first | k_is | rfl)
    (case c_power => first | k_is | rfl)
    (case k_power => first | k_is | rfl)
    (case a_early_words => first | k_is | rfl)
    (case l_early_words => first | k_is | rfl)
    (case c_early_words => first | k_is | rfl)
    (case k_early_words => first | k_is | rfl)
    (case a_next_early => first | k_is | rfl)
    (case l_next_early => first | k_is | rfl)
    (case c_next_early => first | k_is | rfl)
    (case k_next_early => first | k_is | rfl)
    (case a__need_signs => first | k_is | rfl)
    (case l__need_signs => first | k_is | rfl)
    (case c__need_signs => first | k_is | rfl)
    (case k__need_signs => first | k_is | rfl)
    (case a__are_signs => first | k_is | rfl)
    (case l__are_signs => first | k_is | rfl)
    (case c__are_signs => first | k_is | rfl)
    (case k__are_signs => first | k_is | rfl)
    (case a__is_among => first | k_is | rfl)
    (case l__is_among => first | k_is | rfl)
    (case c__is_among => first | k_is | rfl)
    (case k__is_among => first | k_is | rfl)
    (case a__following => first | k_is | rfl)
    (case l__following => first | k_is | rfl)
    (case c__following => first | k_is | rfl)
    (case k__following => first | k_is | rfl)
    (case a_borders => first | k_is | rfl)
    (case l_borders => first | k_is | rfl)
    (case c_borders => first | k_is | rfl)
    (case k_borders => first | k_is | rfl)
    (case a_beat => first | k_is | rfl)
    (case l_beat => first | k_is | rfl)
    (case c_beat => first | k_is | rfl)
    (case k_beat => first | k_is | rfl)
    (case a_root => first | k_is | rfl)
    (case l_root => first | k_is | rfl)
    (case c_root => first | k_is | rfl)
    (case k_root => first | k_is | rfl)
    (case a_early_count => first | k_is | rfl)
    (case l_early_count => first | k_is | rfl)
    (case c_early_count => first | k_is | rfl)
    (case k_early_count => first | k_is | rfl)
    (case a_ring_count => first | k_is | rfl)
    (case l_ring_count => first | k_is | rfl)
    (case c_ring_count => first | k_is | rfl)
    (case k_ring_count => first | k_is | rfl)
    (case a__early_counts => first | k_is | rfl)
    (case l__early_counts => first | k_is | rfl)
    (case c__early_counts => first | k_is | rfl)
    (case k__early_counts => first | k_is | rfl)
    (case a_least_form => first | k_is | rfl)
    (case l_least_form => first | k_is | rfl)
    (case c_least_form => first | k_is | rfl)
    (case k_least_form => first | k_is | rfl)
    (case a_l_cell_at => first | k_is | rfl)
    (case l_l_cell_at => first | k_is | rfl)
    (case c_l_cell_at => first | k_is | rfl)
    (case k_l_cell_at => first | k_is | rfl)
    (case a_l_mixed => first | k_is | rfl)
    (case l_l_mixed => first | k_is | rfl)
    (case c_l_mixed => first | k_is | rfl)
    (case k_l_mixed => first | k_is | rfl)
    (case a_l_longer => first | k_is | rfl)
    (case l_l_longer => first | k_is | rfl)
    (case c_l_longer => first | k_is | rfl)
    (case k_l_longer => first | k_is | rfl)
    (case a_l_words => first | k_is | rfl)
    (case l_l_words => first | k_is | rfl)
    (case c_l_words => first | k_is | rfl)
    (case k_l_words => first | k_is | rfl)
    (case a_law => first | k_is | rfl)
    (case l_law => first | k_is | rfl)
    (case c_law => first | k_is | rfl)
    (case k_law => first | k_is | rfl)
    (case z_len => first | k_is | rfl)
    (case z_range => first | k_is | rfl)
    (case z_sorted => first | k_is | rfl)
    (case z_min => first | k_is | rfl)
    (case z_max => first | k_is | rfl)
    (case z_all => first | k_is | rfl)
    (case z_isinstance => first | k_is | rfl)
    (case z_list => first | k_is | rfl)
    (case z_tuple => first | k_is | rfl)
    (case z_str => first | k_is | rfl)
    (case z_bool => first | k_is | rfl)
    (case z_zip => first | k_is | rfl)
    (case z_enumerate => first | k_is | rfl)
    (case z_ValueError => first | k_is | rfl)
    (case z_sum => first | k_is | rfl)
    (case z_set => first | k_is | rfl)
    (case z_dict => first | k_is | rfl)
    (case z_int => first | k_is | rfl)
    (case z_LONGEST_WORD => first | k_is | rfl)
    (case z_MOST_SIGNS => first | k_is | rfl)
    (case z_MOST_LONG_rows => first | k_is | rfl)
    (case z_MOST_WORDS => first | k_is | rfl)
    (case z_MOST_LETTERS => first | k_is | rfl)
    (case z_MOST_LONG_counts => first | k_is | rfl)
    (case g_WordError => first | k_is | rfl)
    (case g_NoWord => first | k_is | rfl)
    (case g_NoSigns => first | k_is | rfl)
    (case g_NoCount => first | k_is | rfl)
    (case g_TooMany => first | k_is | rfl)
    (case x_NoWord => k_exc)
    (case k_NoWord => first | k_is | rfl)
    (case b_NoWord => first | k_is | rfl)
    (case t_NoWord => first | k_is | rfl)
    (case x_NoSigns => k_exc)
    (case k_NoSigns => first | k_is | rfl)
    (case b_NoSigns => first | k_is | rfl)
    (case t_NoSigns => first | k_is | rfl)
    (case x_NoCount => k_exc)
    (case k_NoCount => first | k_is | rfl)
    (case b_NoCount => first | k_is | rfl)
    (case t_NoCount => first | k_is | rfl)
    (case x_TooMany => k_exc)
    (case k_TooMany => first | k_is | rfl)
    (case b_TooMany => first | k_is | rfl)
    (case t_TooMany => first | k_is | rfl)
