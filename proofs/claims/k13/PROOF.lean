import PyProof.Rows.All
import Wide.All
import OpenK.AllK
import Wide.FinOn
import HandS.ForMost
import HandS.ForExc
import HandS.Wide
import HandS.IsInst
import HandS.FStr
import HandS.Small
import HandS.Style
import HandS.Deep
import HandS.Walk
import HandS.ExcIs
import HandS.ExcValue
import HandS.SetFor
import HandS.Zip
import HandS.Evl
import KE.DataMinMax
import PyProof.CollectStr
import PyProof.StrOps2
import PyProof.Rows.SortShellAny
import HandS.DictComp
import HandS.SortKw
import HandS.StrMore
import PySem.Challenge.RW_ringword_k13_whole_one_cutting
set_option Elab.async false
set_option linter.all false
set_option maxRecDepth 100000
set_option maxHeartbeats 8000000
/-! Rules of our own, beside the hand layer: texts repeated and turned round, the least of texts, a text's signs sorted, a list of truths counted, a caught error kept. -/
namespace Rw
open PySem PySem.Spec PyProof.Rows L2

/-- a text by its codes -/
def T (l : List Nat) : Str := ⟨l.toArray⟩
theorem T_cps (l : List Nat) : (T l).cps.toList = l := by simp [T]
theorem T_of (z : Str) : T z.cps.toList = z := by cases z; simp [T]
theorem T_inj {a b : List Nat} (h : T a = T b) : a = b := by
  have e := congrArg (fun z : Str => z.cps.toList) h
  simpa [T_cps] using e
theorem T_len (l : List Nat) : (T l).length = l.length := by simp [T, Str.length]
theorem T_app (a b : List Nat) : T a ++ T b = T (a ++ b) := by
  show Str.append _ _ = _
  simp [T, Str.append]
section
variable {X : Cx}

/-! text * n -/
def rRepS : R2 := fun x y H Q => ∃ (l : List Nat) (k : Int), x = .str (T l) ∧ y = .int k ∧ 0 ≤ k ∧ k ≤ 100000 ∧ l.length * k.toNat ≤ 100000 ∧ Q (.str (T (List.replicate k.toNat l).flatten)) H
theorem rep_fold (l : List Nat) : ∀ (n : Nat) (acc : Array Nat), (List.replicate n l.toArray).foldl (· ++ ·) acc = acc ++ (List.replicate n l).flatten.toArray
  | 0, acc => by simp
  | n + 1, acc => by
    rw [List.replicate_succ, List.foldl_cons, rep_fold l n, List.replicate_succ, List.flatten_cons]
    simp [Array.append_assoc]
theorem op_rep_str : OpR X (binaryOp .Mult) rRepS := by
  intro pins s σ H x y v u Q I rx ry h
  obtain ⟨l, k, rfl, rfl, h0, h1, hz, q⟩ := h
  obtain ⟨t, rfl⟩ := rx
  obtain ⟨t', rfl⟩ := ry
  have hlen : (T l).length = l.length := T_len l
  have hll : l.length * k.toNat ≤ sizeLine := Nat.le_trans hz (by decide)
  refine P.mul_str (by
      have a1 : ¬ k < -(2 ^ 63 : Int) := by omega
      have a2 : ¬ k ≥ 2 ^ 63 := by omega
      rw [decide_eq_false a1, decide_eq_false a2]; rfl) (fun hk he => ?_) (fun hk he => ?_) ?_
  · rw [hlen]
    have hl : (l.length : Int) ≤ 100000 := by
      have : 1 ≤ k.toNat := by omega
      have := Nat.le_mul_of_pos_right l.length this
      omega
    intro hc
    have h2 : (2 ^ 63 - 1 : Int) / 100000 ≤ (2 ^ 63 - 1) / k := by
      refine Int.le_ediv_of_mul_le (by omega) ?_
      have : (2 ^ 63 - 1 : Int) / 100000 * k ≤ (2 ^ 63 - 1 : Int) / 100000 * 100000 := Int.mul_le_mul_of_nonneg_left h1 (by decide)
      exact Int.le_trans this (by decide)
    have h3 : (100000 : Int) ≤ (2 ^ 63 - 1) / 100000 := by decide
    omega
  · unfold Builtin.Str.tooLong
    rw [hlen]
    simp only [decide_eq_false_iff_not, gt_iff_lt]
    exact Nat.not_lt.mpr hll
  · by_cases hk : k < 1
    · have e : k = 0 := by omega
      subst e
      rw [if_pos (by decide)]
      exact ⟨by decide, .str _, H, I.tok _, ⟨_, rfl⟩, q⟩
    · rw [if_neg hk]
      by_cases he : (k == 1 || (T l).length == 0) = true
      · rw [if_pos he]
        have e : (List.replicate k.toNat l).flatten = l := by
          rw [hlen] at he
          simp only [Bool.or_eq_true, beq_iff_eq] at he
          rcases he with e | e
          · subst e; simp
          · have : l = [] := List.eq_nil_of_length_eq_zero e
            subst this
            simp
        rw [e] at q
        exact ⟨.str _, H, I, ⟨t, rfl⟩, q⟩
      · rw [if_neg he]
        have e := rep_fold l k.toNat #[]
        rw [Array.empty_append] at e
        show Made.post (Made.str ⟨(List.replicate k.toNat l.toArray).foldl (· ++ ·) #[]⟩) _ _
        rw [e]
        refine ⟨?_, .str _, H, I.tok _, ⟨_, rfl⟩, q⟩
        show (List.replicate k.toNat l).flatten.toArray.size ≤ sizeLine
        rw [List.size_toArray]
        have : (List.replicate k.toNat l).flatten.length = k.toNat * l.length := by simp
        rw [this, Nat.mul_comm]
        exact hll

/-! text[::-1] -/
def tRevS (te : TE) : TE := fun σ H Q => te σ H fun x H1 => ∃ l : List Nat, x = .str (T l) ∧ l.length ≤ 100000 ∧ Q (.str (T l.reverse)) H1
theorem rev_pick (x : Str) (t : Tok) : (slicePicked x none none (some ((-1 : Int), t))).filterMap (x.cps[·]?) = x.cps.toList.reverse := by
  have e : slicePicked x none none (some ((-1 : Int), t)) = (List.range x.cps.size).reverse := by
    show sliceRange ((x.length : Int) - 1) (-1) (-1) = _
    have h := PySem.W.krv_sliceRange x.length
    rw [h, PySem.W.krv_range]
    rfl
  rw [e, List.filterMap_reverse, PySem.W.krv_all]
theorem pe_revS {e : Expr} {te : TE} {k : Nat} {p1 p2 p3 pos : Pos} (he : PE X e te) : PE X (.Subscript e (.Slice none none (some (.UnaryOp .USub (.Constant (.int 1) k p1) p2)) p3) pos) (tRevS te) := by
  refine ⟨fun pins s σ H Q I h => ?_⟩
  refine Subscript_ (thn (he.run pins s σ H _ I h) fun v s1 ⟨x, H1, I1, r1, q1⟩ => ?_)
  obtain ⟨l, ex, hz, q⟩ := q1
  subst ex
  obtain ⟨t, rfl⟩ := r1
  have step : PO X (some (.UnaryOp .USub (.Constant (.int 1) k p1) p2)) (tPart (tUn (rU fun i => .int (-i)) (tC (.int 1)))) := po_some (pe_un un_neg pe_int)
  refine wpAny_Slice (thn (po_none.run pins s1 σ H1 (fun o H2 => o = none ∧ H2 = H1) I1 ⟨rfl, rfl⟩) fun vl s2 ⟨o1, H2, I2, pl, el, e2⟩ => ?_)
  subst el e2
  refine thn (po_none.run pins s2 σ H2 (fun o H3 => o = none ∧ H3 = H2) I2 ⟨rfl, rfl⟩) fun vu s3 ⟨o2, H3, I3, pu, eu, e3⟩ => ?_
  subst eu e3
  refine thn (step.run pins s3 σ H3 (fun o H4 => o = some (-1) ∧ H4 = H3) I3 ⟨1, rfl, -1, rfl, rfl, rfl⟩) fun vs s4 ⟨o3, H4, I4, ps, eo, e4⟩ => ?_
  subst eo e4
  have I5 : Inv X pins σ H4 { s4 with heap := s4.heap.push { cls := .type "slice", data := .fields #[vl, vu, vs] } } := I4.kept (t' := s4.toks) fun b ob q => Heap.get?_push_of_some _ q
  cases pl
  cases pu
  obtain ⟨u, rfl⟩ : ∃ u, vs = Value.int (-1) u := by
    cases ps with
    | int i u => exact ⟨u, rfl⟩
  show wpAny (model X.prog X.w) X.A (subscriptTail e (.Slice none none (some (.UnaryOp .USub (.Constant (.int 1) k p1) p2)) p3) (.str (T l) t) (.ref s4.heap.objs.size)) (EP X pins σ Q) X.xe _
  refine tail_any (ops := [.str (T l) t, .ref s4.heap.objs.size]) (typeIs_str _ _ _) (F.slot_str_getitem.lookup) ?_ (by with_unfolding_all rfl)
  refine wpAny_getItem_str_slice (l := none) (u := none) (st := some ((-1 : Int), u)) ⟨_, Heap.get?_push_size _ rfl, rfl, rfl⟩ (by rfl) ?_
  have nq : (((some ((-1 : Int), u) : Option (Int × Tok)).map (·.1)).getD 1 == 1 && (slicePicked (T l) none none (some ((-1 : Int), u))).length == (T l).length) = false := by
    show (((-1 : Int) == 1) && _) = false
    rfl
  unfold sliceMade
  rw [nq, if_neg Bool.false_ne_true, rev_pick, T_cps]
  refine ⟨?_, .str _, H4, I5.tok _, ⟨_, rfl⟩, q⟩
  show l.reverse.toArray.size ≤ sizeLine
  rw [List.size_toArray, List.length_reverse]
  exact Nat.le_trans hz (by decide)

/-! min of a list of texts -/
def lstT (x : List Nat) (ys : List (List Nat)) : List Nat := ys.foldl (fun a y => if y < a then y else a) x
def rMinT (K : PySem.W.Frag) : List V → Hp → VK → Prop := fun vs H Q => ∃ (a : Addr) (x : List Nat) (ys : List (List Nat)), vs = [V.ref a] ∧ SqL K H a (V.str (T x) :: ys.map fun y => V.str (T y)) ∧ Q (.str (T (lstT x ys))) H
theorem minD_strs (ys : List (List Nat)) : ∀ x : List Nat, PySem.W.minD (.str (T x)) (ys.map fun y => .str (T y)) = .str (T (lstT x ys)) := by
  induction ys with
  | nil => intro x; rfl
  | cons y r ih =>
    intro x
    show PySem.W.minD (if PySem.W.dataLt (.str (T y)) (.str (T x)) = true then .str (T y) else .str (T x)) (r.map fun y => .str (T y)) = _
    rw [PySem.W.dataLt_str, T_cps, T_cps]
    by_cases h : y < x
    · rw [decide_eq_true h, if_pos rfl, ih]
      unfold lstT
      rw [List.foldl_cons, if_pos h]
    · rw [decide_eq_false h, if_neg Bool.false_ne_true, ih]
      unfold lstT
      rw [List.foldl_cons, if_neg h]
theorem reads_strs {h : Heap} : ∀ {us : List Value} {ys : List (List Nat)}, Vals (ys.map fun y => V.str (T y)) us → ReadsAll h us (ys.map fun y => PyData.str (T y)) []
  | us, [], r => by
    cases r
    exact .nil
  | us, y :: ys, r => by
    rw [List.map_cons] at r
    cases r with
    | cons r1 r2 =>
      obtain ⟨t, rfl⟩ := r1
      exact ReadsAll.cons (as := []) (.str (T y) t) (reads_strs r2)
theorem cr_minT (hc : X.calm = true) (hu : X.A.units + 64 < cLine) : CallR X (.builtin "min") (rMinT X.K) := by
  intro pins s σ H vs us Q I r h
  obtain ⟨a, x, ys, rfl, hs, q⟩ := h
  obtain ⟨its, rv, hl, _⟩ := I.list hs
  rw [Vals.ref1 r]
  have rv' : Vals ((x :: ys).map fun y => V.str (T y)) its := rv
  have hd : ∀ l : List (List Nat), PyData.depthAll (l.map fun y => PyData.str (T y)) ≤ 1 := by
    intro l
    induction l with
    | nil => decide
    | cons y r ih =>
      rw [List.map_cons]
      unfold PyData.depthAll
      refine Nat.max_le.mpr ⟨?_, ih⟩
      first | decide | (show PyData.depth (.str _) ≤ 1; unfold PyData.depth; decide)
  have ha : PySem.W.AlikeAll ((x :: ys).map fun y => PyData.str (T y)) := by
    refine ⟨fun p hp q hq => ?_, fun p hp e => ?_⟩
    · obtain ⟨y, _, rfl⟩ := List.mem_map.mp hp
      obtain ⟨z, _, rfl⟩ := List.mem_map.mp hq
      rfl
    · obtain ⟨y, _, rfl⟩ := List.mem_map.mp hp
      cases e
  refine PySem.W.min_list_data (x := .str (T x)) (xs := ys.map fun y => .str (T y)) (I.ok.hd hc) hl.isList (by simpa using reads_strs (h := s.heap) rv') ha (by have := hd (x :: ys); simp only [List.map_cons] at this; omega) fun i v h' tk bs hv hr hk => ?_
  rw [minD_strs] at hr
  obtain ⟨t, rfl⟩ : ∃ t, v = Value.str (T (lstT x ys)) t := by
    cases hr with
    | str z t => exact ⟨t, rfl⟩
  exact ⟨.str _, H, I.kept hk, ⟨_, rfl⟩, q⟩

/-! sorted(text) -/
def rSortedT : List V → Hp → VK → Prop := fun vs H Q => ∃ l : List Nat, vs = [V.str (T l)] ∧ l.length ≤ 100000 ∧
  ∀ (ys : List Str) (p : Addr), ys.Perm (l.map fun c => T [c]) → H p = none → Q (.ref p) (upd H p (.lst (ys.map V.str)))
theorem strs_signs : ∀ (l : List Nat) (us : List Value), us.length = l.length → (∀ (j : Nat) (v : Value), us[j]? = some v → ∃ (c : Nat) (u : Tok), l[j]? = some c ∧ v = Value.str ⟨#[c]⟩ u) → StrsAre us (l.map fun c => T [c])
  | [], [], _, _ => .nil
  | [], _ :: _, h, _ => by simp at h
  | c :: l, [], h, _ => by simp at h
  | c :: l, v :: us, h, f => by
    obtain ⟨c', u, e1, e2⟩ := f 0 v rfl
    cases e1
    subst e2
    exact .cons _ _ (strs_signs l us (by simpa using h) fun j w hw => f (j + 1) w hw)
theorem cr_sortedT (hc : X.calm = true) : CallR X (.builtin "sorted") rSortedT := by
  intro pins s σ H vs us Q I r h
  obtain ⟨l, rfl, hz, q⟩ := h
  obtain ⟨u, rfl, ru⟩ := r.one
  obtain ⟨t, rfl⟩ := ru
  have hzl : l.length ≤ sizeLine := Nat.le_trans hz (by decide)
  refine Calls.call_function_entry kind_sorted plain_sorted entry_sorted (args_sorted1 _) ?_
  unfold Builtin.«sorted»
  refine wpAny_bind (m := checkCount "sorted" 1 1 _) (wpAny_pure ?_)
  refine wpAny_bind (wpAny_collect_str (by exact I.ok.hd hc) (T l) t (fun s' acc hk hg hd ho hacc => ?_) (by show l.toArray.size ≤ sizeLine; rw [List.size_toArray]; exact hzl))
  obtain ⟨hp, g, d, tk, os⟩ := s'
  simp only at hk hg hd ho
  subst hg hd ho
  have I1 : Inv X pins σ H { s with heap := hp, toks := tk } := I.kept hk
  obtain ⟨h1, h2⟩ := hacc
  have hsz : acc.toList.length = l.length := by
    rw [Array.length_toList, h1]
    show l.toArray.size = _
    rw [List.size_toArray]
  have hS : StrsAre acc.toList (l.map fun c => T [c]) := strs_signs l acc.toList hsz fun j v hv => by
    obtain ⟨c, w, e1, e2⟩ := h2 j v (by simpa using hv)
    refine ⟨c, w, ?_, e2⟩
    have : (T l).cps[j]? = l[j]? := by simp [T]
    rw [← this]
    exact e1
  refine wpAny_bind (wpAny_newList ?_ (by rw [hsz]; exact hzl))
  have hoL : (hp.push (seqObj "list" acc.toList.toArray 0)).get? hp.objs.size = some (seqObj "list" acc.toList.toArray 0) := Heap.get?_push_size _ rfl
  refine wpAny_bind (wpAny_holding (wpAny_call_entry slot_list_sort ⟨_, hoL, rfl⟩ entry_list_sort (list_sort_treeKAny strKind_oneLt hoL hS.keysOf (fun v₁ v₂ rest e => keyKind_strs (by rw [← e]; exact hS)) (by rw [hsz]; exact hzl) fun st' a1 a2 => ⟨_, rfl, ?_⟩) (args_list_sort _)))
  obtain ⟨ss', b1, b2, b3⟩ := sorted_out_str hS a1 a2
  refine wpAny_pure ⟨_, rfl, ?_⟩
  obtain ⟨ep, he'⟩ := sortedHeap_at (vs := acc.toList) (out := (arrOf st').map (·.2)) hoL
  have hlen : (ss'.map V.str).length ≤ sizeLine := by
    rw [List.length_map, b2.length_eq, List.length_map]
    exact hzl
  refine ⟨.ref hp.objs.size, upd H hp.objs.size (.lst (ss'.map V.str)), I1.laid (t' := tk) (fun b u hu => ?_) (Nat.le_refl _) ⟨hlen, ((arrOf st').map (·.2)).toList, ep, vals_of_strs b1, by rw [Array.toArray_toList]; exact he'⟩, rfl, q _ _ b2 (I1.hok.fresh (Nat.le_refl _))⟩
  have hb : b ≠ hp.objs.size := Nat.ne_of_lt (Heap.lt_size hu)
  rw [sortedHeap_old hb (by rw [size_push']; exact Nat.lt_succ_of_lt (Heap.lt_size hu))]
  exact Heap.get?_push_of_some _ hu

/-! xs.count(True), truths -/
def rCntB (K : PySem.W.Frag) : V → List V → Hp → VK → Prop := fun x xs H Q => ∃ (p : Addr) (bs : List Bool), x = .ref p ∧ xs = [.bl true] ∧ SqL K H p (bs.map V.bl) ∧ Q (.int (bs.count true : Nat)) H
def eqT (v : Value) : Bool := match v with
  | .bool b => b
  | _ => false
theorem mt_countB : MtR X "list.count" (rCntB X.K) := by
  intro pins s σ H x xs v us Q I rx rxs h
  obtain ⟨p, bs, rfl, rfl, hs, q⟩ := h
  cases rx
  obtain ⟨u, rfl, ru⟩ := rxs.one
  cases (show u = Value.bool true from ru)
  obtain ⟨its, rv, ⟨⟨cls, dd, data, sl⟩, n, ho, hc, hdn, hd⟩, hlen⟩ := I.list hs
  simp only at hc hd
  subst hc hd
  have hb : ∀ {bs : List Bool} {its : List Value}, Vals (bs.map V.bl) its → its = bs.map Value.bool := by
    intro bs
    induction bs with
    | nil => intro its r; cases r; rfl
    | cons b bs ih =>
      intro its r
      rw [List.map_cons] at r
      cases r with
      | cons r1 r2 =>
        rw [ih r2]
        cases (show _ = Value.bool b from r1)
        rfl
  have e := hb rv
  subst e
  refine call_meets PySem.F.slot_list_count ⟨_, ho, rfl⟩ PySem.F.entry_list_count (PySem.F.args_list_count_2 _ _)
    (SeqAt.list_countAt p (bs.map Value.bool).toArray n dd sl (.bool true) eqT) ⟨ho, fun y hy => ?_, ?_⟩
  · obtain ⟨b, _, rfl⟩ := List.mem_map.mp (List.mem_toArray.mp hy)
    cases b with
    | true => exact SeqAt.EqAt.bool_bool true true
    | false => exact SeqAt.EqAt.bool_bool false true
  · have ec : (bs.map Value.bool).toArray.toList.countP eqT = bs.count true := by
      show (bs.map Value.bool).countP eqT = _
      rw [List.countP_map]
      unfold List.count
      congr 1
      funext b
      cases b <;> rfl
    rw [ec]
    exact ⟨.int _, H, I.tok _, ⟨s.toks, rfl⟩, q⟩

/-! a caught error, kept: an exception object of the class cls that stands at a -/
def ExV (cls : Value) (a : Addr) : HO := .ext fun h => ∃ (oe : Obj) (vs : Array Value), h.get? a = some oe ∧ Zc cls none oe ∧ oe.data = .fields vs
theorem exV_ok {P : Program} {w : World} {H : Hp} {h : Heap} {a : Addr} {cls : Value} {oe : Obj} {vs : Array Value} (e : h.get? a = some oe) (z : Zc cls none oe) (d : oe.data = .fields vs) : ObjOk P w H h a (ExV cls a) :=
  ⟨⟨oe, vs, e, z, d⟩, ⟨oe, e⟩, fun _ _ ⟨o, v, q, r⟩ k => ⟨o, v, k o q, r⟩⟩
/-- an object that was not there at the def's entry, and is not tracked, may be tracked -/
theorem track {pins : List (Addr × Obj)} {σ : L2.St} {H : Hp} {s : Shared} {a : Addr} {o : HO} (I : Inv X pins σ H s) (n0 : X.s_0.heap.get? a = none) (hn : H a = none) (nL : a ≠ X.env.locals)
    (nC : ∀ x c, X.env.cells.lookup x = some c → c ≠ a) (nP : ∀ p ∈ X.pn ++ pins, p.1 ≠ a) (new : ObjOk X.prog X.w (upd H a o) s.heap a o) : Inv X pins σ (upd H a o) s := by
  have ne0 : ∀ b u, X.s_0.heap.get? b = some u → b ≠ a := fun b u e z => by
    rw [z, n0] at e
    cases e
  refine ⟨I.ok, I.os, I.bare, ⟨I.base.keep, I.base.slot, fun b u e n hq => ?_, I.base.there, fun b xs e => ?_, fun b u v e => ?_, fun b ps e => ?_⟩, I.loc, I.cell, ?_, fun x c e => ?_, fun p hp => ?_, HOk.laidN I.hok (fun _ _ q => q) hn new, I.len⟩
  · rw [upd_ne (ne0 b u e)]
    exact I.base.free b u e n hq
  · have q := I.base.tups b xs e
    rw [upd_ne (ne_of_none q hn)]
    exact q
  · have q := I.base.frzs b u v e
    rw [upd_ne (ne_of_none q hn)]
    exact q
  · obtain ⟨m, q⟩ := I.base.tbls b ps e
    exact ⟨m, by rw [upd_ne (ne_of_none q hn)]; exact q⟩
  · rw [upd_ne (Ne.symm nL)]
    exact I.free
  · rw [upd_ne (nC x c e)]
    exact I.freeC x c e
  · obtain ⟨e, n, ne, nf, d⟩ := I.pin p hp
    exact ⟨e, by rw [upd_ne (nP p hp)]; exact n, ne, nf, d⟩
/-- isinstance(e, c), e such an error -/
def rIsX (K : PySem.W.Frag) : List V → Hp → VK → Prop := fun xs H Q => ∃ (a D : Addr) (c : V) (cv : Value) (b : Bool), xs = [.ref a, c] ∧ H a = some (ExV (.ref D) a) ∧ ExcC K D ∧ (∀ u, RelV c u → u = cv) ∧ PySem.W.kitOne K (.ref D) cv = some b ∧ Q (.bl b) H
theorem call_isX : CallR X (.builtin "isinstance") (rIsX X.K) := by
  intro pins s σ H xs us Q I r h
  obtain ⟨a, D, c, cv, b, rfl, ha, C, hcv, e, q⟩ := h
  obtain ⟨u1, u2, rfl, rx, rt⟩ := vals2 r
  cases rx
  have ec := hcv _ rt
  subst ec
  obtain ⟨⟨oe, vs, hget, hz, hv⟩, _, _⟩ := (show ObjOk X.prog X.w H s.heap a (ExV (.ref D) a) from I.hok a _ ha)
  have J : PySem.W.InstAt s.heap a oe D none := by
    obtain ⟨oc, od, oda, osl⟩ := oe
    obtain ⟨h1, h2⟩ := hz
    dsimp only at h1 h2 hv
    subst h1 h2 hv
    exact ⟨hget, rfl, rfl, trivial⟩
  exact PySem.W.kia_one (PySem.W.handS_kitx_exc C.hg C.hk C.hs C.hd C.ha C.hn C.ht C.hm) I.kIn J e (fun z => nomatch z) fun tk => ⟨.bl b, H, I.tok _, rfl, q⟩

/-- what the clause «except c as n: m = n» asks of an error of the body (n in slot i, m in slot j): the clause takes it, and what follows holds with the error kept -/
def wVal (K : PySem.W.Frag) (c : Value) (i j : Nat) (D : Ends) : WX := fun cls d σ H =>
  PySem.W.exmOne K cls c = some true ∧ d = none ∧ ∀ a, H a = none → D.nx ((σ.set i (some (.ref a))).set j (some (.ref a)) |>.set i none) (upd H a (ExV cls a))
/-- an error that has come down: the state, the error's place, all that is known of it -/
structure Caught (X : Cx) (pins : List (Addr × Obj)) (σ : L2.St) (H : Hp) (s : Shared) (a : Addr) (cls : Value) : Prop where
  inv : Inv X pins σ H s
  free : H a = none
  new0 : X.s_0.heap.get? a = none
  loc : a ≠ X.env.locals
  frs : a ∉ X.fs
  cel : ∀ x c, X.env.cells.lookup x = some c → c ≠ a
  pin : ∀ p ∈ X.pn ++ pins, p.1 ≠ a
theorem ps_try_val {x n m : Str} {c : Value} {i j : Nat} {body orelse : List Stmt} {np p1 p2 p3 p4 pos : Pos} {tb : WX → TS} {u : TS} (ho : PSs X orelse u) (st : X.stack = X.env :: X.outer) (fm : X.env.frame = some X.env.locals) (ex0 : X.ex = [])
    (nd : X.N.Nodup) (hi : X.N[i]? = some n) (hj : X.N[j]? = some m) (ln : X.env.scope.names.lookup n = some .local) (lm : X.env.scope.names.lookup m = some .local) (kn : X.env.kindOf n = some .local) (nm : Names X x c) (nb1 : (n == ("__debug__" : Str)) = false) (nb2 : (n == ("__classdict__" : Str)) = false)
    (sw : swapsWith (.Name n p2) (some (.Name m p1)) p3.line X.env = pure false)
    (hb : ∀ (W : WX) (pn : List (Addr × Obj)) (xe : Value → Shared → Prop), Takes (X.tr pn xe) W → PassesOwn (model X.prog X.w) X.A X.env xe → PSs (X.tr pn xe) body (tb W)) :
    PS X (.Try body [.ExceptHandler (some (.Name x np)) (some n) [.Assign [.Name m p1] (.Name n p2) p3] p4] orelse [] pos) (fun D σ H => tb (wVal X.K c i j D) { D with nx := u D } σ H) := by
  constructor
  intro pins s σ H D I h
  have ok := I.ok
  have frames : X.A.frames = some (X.env :: X.outer) := st ▸ ok.frames
  apply wpAny_Try_except
  refine wpAny_mono ((hb (wVal X.K c i j D) (X.pn ++ pins) _ ?caught PassesOwn.looking).run [] s σ H { D with nx := u D } (I.toTry _) h) ?after (fun e s1 he => he)
  case caught =>
    rintro e s' ⟨a, B, sI, ps', σ', H', cls, d, rfl, J0, keepB, up, sky, na, os, ag, hyes, hd0, hgo⟩
    subst hd0
    have J : Inv X pins σ' H' sI := J0.ofTry ok
    rw [st] at keepB
    have sky' : Sky B (X.env :: X.outer) a (Zc cls none) X.env.locals s'.heap := st ▸ sky
    apply Sky.land Zc.steady frames fm sky'
    intro h3 fly up3
    have land : ∀ h4 : Heap, HandSPX.FlyingZ B (X.env :: X.outer) a (Zc cls none) h4 → sI.heap.UpToSlots h4 → Inv X pins σ' H' { s' with heap := h4 } := fun h4 fl u4 => J.landed (by rw [st]; exact keepB) fl.1 u4 os ag
    have J3 := land h3 fly (up.trans up3)
    obtain ⟨oe3, vs3, g3, z3, d3⟩ := fly.there
    have notF : a ∉ frs (X.env :: X.outer) := fun hm => by
      obtain ⟨_, o', e', hnf⟩ := fly.2.2.1.mem hm
      rw [g3] at e'
      cases e'
      exact hnf _ d3
    have nL : a ≠ X.env.locals := fun z => notF (List.mem_filterMap.mpr ⟨X.env, List.mem_cons_self, by rw [fm, z]⟩)
    have nF : a ∉ X.fs := fun hm => by
      obtain ⟨e, he, q⟩ := List.mem_filterMap.mp hm
      exact notF (List.mem_filterMap.mpr ⟨e, List.mem_cons_of_mem _ he, q⟩)
    have gone : sI.heap.get? a = none := by
      cases q : sI.heap.get? a with
      | none => rfl
      | some o =>
        have z := keepB a o q notF
        rw [fly.2.1] at z
        cases z
    have new0 : X.s_0.heap.get? a = none := by
      cases q : X.s_0.heap.get? a with
      | none => rfl
      | some o =>
        obtain ⟨o', z⟩ := J.base.there a o q (by rw [ex0]; exact fun z => nomatch z)
        rw [gone] at z
        cases z
    have cel : ∀ x c, X.env.cells.lookup x = some c → c ≠ a := fun y w e z => by
      obtain ⟨v, o, q, _⟩ := J.cell y w e
      rw [z, gone] at q
      cases q
    have pin : ∀ p ∈ X.pn ++ pins, p.1 ≠ a := fun p hp z => by
      have q := (J.pin p hp).1
      rw [z, gone] at q
      cases q
    have C : Caught X pins σ' H' sI a cls := ⟨J, na, new0, nL, nF, cel, pin⟩
    have S3 := J3.suite g3 d3 na nL nF
    apply wpAny_handleBy_cons _ (by intro q; cases q)
    apply codeAny_handlers_test
    have tyA : PySem.W.Looks (model X.prog X.w) h3 (typeOf (.ref a)) cls := fun A Q E s k q => wpAny_typeOf_ref (k _ _ g3) (by rw [z3.1]; exact q)
    have fits := PySem.W.exm_one (M := model X.prog X.w) J3.kIn tyA hyes
    have ask : ∀ {Q : Value → Shared → Prop} {E : Value → Shared → Prop}, Q c { s' with heap := h3 } → wpAny (model X.prog X.w) (X.A.mark (some (.ref a))) (eval (.Name x np) X.env) Q E { s' with heap := h3 } := by
      intro Q E q
      rcases nm with ⟨hg, dbg, hm | ⟨hm, hv, hn⟩⟩
      · exact ld_glob (X := X.suite a ((a, oe3) :: (X.pn ++ pins))) S3 hg hm q dbg
      · exact ld_blt (X := X.suite a ((a, oe3) :: (X.pn ++ pins))) S3 hg hm hv q hn dbg
    apply ask
    apply fits.here
    apply codeAny_handlers_suite_as
    apply HandSPX.lands_againZ fly
    intro h4 fly4 up4
    obtain ⟨oe4, vs4, g4, z4, d4⟩ := fly4.there
    have S4 := (land h4 fly4 ((up.trans up3).trans up4)).suite g4 d4 na nL nF
    apply store_ok (X := X.suite a ((a, oe4) :: (X.pn ++ pins))) (v := .ref a) S4 nd hi (Or.inl ln) rfl _ (Or.inr ln)
    intro s5 S5
    have suite : PSs (X.suite a ((a, oe4) :: (X.pn ++ pins))) [.Assign [.Name m p1] (.Name n p2) p3] (tAsg (tVar i) (gName j)) :=
      pss_one (ps_asg (pe_var hi (Or.inl ln) nb1 nb2) (pg_name nd hj (Or.inl lm) (Or.inr lm)) sw)
    have hiN : i < (σ'.set i (some (V.ref a))).length := by
      rw [List.length_set, J.len]
      exact (List.getElem?_eq_some_iff.mp hi).1
    have rs := suite.run [] s5 _ H' ⟨fun σ6 H6 => σ6 = (σ'.set i (some (V.ref a))).set j (some (V.ref a)) ∧ H6 = H', fun _ _ => False, fun _ _ => False, fun _ _ => False⟩ S5
      ⟨V.ref a, by rw [List.length_set] at hiN; rw [List.getElem?_set_self hiN], rfl, rfl⟩
    apply wpAny_mono rs _ fun _ _ z => False.elim z
    intro f s6 q
    cases f with
    | next =>
      obtain ⟨σ6, H6, S6, rfl, rfl⟩ := q
      have g6 := (S6.pin (a, oe4) (List.mem_append_left _ List.mem_cons_self)).1
      have J6 := track (S6.unsuite ok) C.new0 C.free C.loc C.cel C.pin (exV_ok g6 z4 d4)
      exact gone_ok J6 nd hi kn fun s7 J7 => ⟨_, _, J7, hgo a na⟩
    | brk => obtain ⟨_, _, _, z⟩ := q; exact z.elim
    | cont => obtain ⟨_, _, _, z⟩ := q; exact z.elim
    | ret w => obtain ⟨_, _, _, _, _, z⟩ := q; exact z.elim
  case after =>
    intro f s1 q
    cases f with
    | next =>
      obtain ⟨σ', H', K1, z⟩ := q
      exact ho.run pins s1 σ' H' D (K1.ofTry ok) z
    | brk =>
      obtain ⟨σ', H', K1, z⟩ := q
      exact ⟨σ', H', K1.ofTry ok, z⟩
    | cont =>
      obtain ⟨σ', H', K1, z⟩ := q
      exact ⟨σ', H', K1.ofTry ok, z⟩
    | ret w =>
      obtain ⟨v, σ', H', K1, r, z⟩ := q
      exact ⟨v, σ', H', K1.ofTry ok, r, z⟩
end
end Rw
namespace Rw
open PySem PySem.Spec PyProof.Rows L2

theorem big {n : Nat} (h : n ≤ 100000) : n ≤ sizeLine := Nat.le_trans h (by decide)
theorem bigL {n : Nat} (h : n ≤ 100000) : n < sizeLine := Nat.lt_of_le_of_lt h (by decide)
/-- a text, a list of texts, as values -/
abbrev tv (l : List Nat) : V := .str (T l)
abbrev tvs (ls : List (List Nat)) : List V := ls.map tv
theorem tv_inj {a b : List Nat} (h : tv a = tv b) : a = b := T_inj (V.str.inj h)
theorem tv_dec (a b : List Nat) : decide (tv a = tv b) = decide (a = b) := by
  by_cases e : a = b
  · subst e; simp
  · rw [decide_eq_false e, decide_eq_false fun z => e (tv_inj z)]
theorem T_beq (a b : List Nat) : (T a == T b) = decide (a = b) := by
  by_cases e : a = b
  · subst e; simp
  · rw [decide_eq_false e]
    exact beq_eq_false_iff_ne.mpr fun z => e (T_inj z)
/-- l[lo:hi] -/
def cutL {α : Type} (l : List α) (lo hi : Option Int) : List α := (l.drop (HT.sIx l.length 0 lo)).take (HT.sIx l.length l.length hi - HT.sIx l.length 0 lo)
theorem cutS_T (l : List Nat) (lo hi : Option Int) : cutS (T l) lo hi = T (cutL l lo hi) := by
  unfold cutS cutL
  rw [T_len, T_cps]
  rfl
theorem cutL_len {α : Type} (l : List α) (lo hi : Option Int) : (cutL l lo hi).length ≤ l.length := by
  unfold cutL
  rw [List.length_take, List.length_drop]
  omega
theorem sIxN (n d k : Nat) : HT.sIx n d (some (k : Int)) = min k n := HT.sIx_nat n d k
theorem cutL_from {α : Type} (l : List α) (k : Nat) : cutL l (some (k : Int)) none = l.drop k := by
  unfold cutL
  rw [sIxN, HT.sIx_none]
  by_cases h : k ≤ l.length
  · rw [Nat.min_eq_left h]
    exact List.take_of_length_le (by rw [List.length_drop]; exact Nat.le_refl _)
  · have h' : l.length ≤ k := by omega
    rw [Nat.min_eq_right h', List.drop_of_length_le (l := l) (Nat.le_refl _), List.drop_of_length_le (l := l) h']
    simp
theorem cutL_to {α : Type} (l : List α) (k : Nat) : cutL l none (some (k : Int)) = l.take k := by
  unfold cutL
  rw [sIxN, HT.sIx_none, List.drop_zero, Nat.sub_zero]
  by_cases h : k ≤ l.length
  · rw [Nat.min_eq_left h]
  · have h' : l.length ≤ k := by omega
    rw [Nat.min_eq_right h', List.take_of_length_le (l := l) (Nat.le_refl _), List.take_of_length_le (l := l) h']
theorem cutL_but {α : Type} (l : List α) : cutL l none (some (-1)) = l.dropLast := by
  unfold cutL
  have e : HT.sIx l.length l.length (some (-1)) = l.length - 1 := by
    show (if (-1 : Int) < 0 then ((-1 : Int) + (l.length : Int)).toNat else min (-1 : Int).toNat l.length) = _
    rw [if_pos (by decide)]
    omega
  rw [e, HT.sIx_none, List.drop_zero, Nat.sub_zero, List.dropLast_eq_take (l := l)]
theorem cutL_mid {α : Type} (l : List α) (i j : Nat) : cutL l (some (i : Int)) (some (j : Int)) = (l.drop i).take (j - i) := by
  unfold cutL
  rw [sIxN, sIxN]
  by_cases h : i ≤ l.length
  · rw [Nat.min_eq_left h]
    by_cases hj : j ≤ l.length
    · rw [Nat.min_eq_left hj]
    · have hj' : l.length ≤ j := by omega
      rw [Nat.min_eq_right hj', List.take_of_length_le (l := l.drop i) (by rw [List.length_drop]; omega), List.take_of_length_le (l := l.drop i) (by rw [List.length_drop]; omega)]
  · have h' : l.length ≤ i := by omega
    rw [Nat.min_eq_right h', List.drop_of_length_le (l := l) (Nat.le_refl _), List.drop_of_length_le (l := l) h']
    simp
theorem cutV_L (xs : List V) (lo hi : Option Int) : cutV xs lo hi = cutL xs lo hi := rfl
theorem cutL_map {α β : Type} (f : α → β) (l : List α) (lo hi : Option Int) : cutL (l.map f) lo hi = (cutL l lo hi).map f := by
  unfold cutL
  rw [List.length_map, List.map_take, List.map_drop]

/-! rules over texts by their codes -/
section
variable {X : Cx}
def rAddT : R2 := fun x y H Q => ∃ a b : List Nat, x = tv a ∧ y = tv b ∧ a.length + b.length ≤ 100000 ∧ Q (tv (a ++ b)) H
theorem op_addT : OpR X (binaryOp .Add) rAddT := fun pins s σ H x y v u Q I rx ry ⟨a, b, e1, e2, hz, q⟩ =>
  op_add_str pins s σ H x y v u Q I rx ry ⟨T a, T b, e1, e2, by rw [T_len, T_len]; exact big hz, by rw [T_app]; exact q⟩
def rLtT : R2 := fun x y H Q => ∃ a b : List Nat, x = tv a ∧ y = tv b ∧ Q (.bl (decide (a < b))) H
theorem op_ltT : OpR X (compareOp .Lt) rLtT := fun pins s σ H x y v u Q I rx ry ⟨a, b, e1, e2, q⟩ =>
  op_lt_str pins s σ H x y v u Q I rx ry ⟨T a, T b, e1, e2, by rw [T_cps, T_cps]; exact q⟩
def rLeT : R2 := fun x y H Q => ∃ a b : List Nat, x = tv a ∧ y = tv b ∧ Q (.bl (!decide (b < a))) H
theorem op_leT : OpR X (compareOp .LtE) rLeT := fun pins s σ H x y v u Q I rx ry ⟨a, b, e1, e2, q⟩ =>
  op_le_str pins s σ H x y v u Q I rx ry ⟨T a, T b, e1, e2, by rw [T_cps, T_cps]; exact q⟩
def rEqT : R2 := fun x y H Q => ∃ a b : List Nat, x = tv a ∧ y = tv b ∧ Q (.bl (decide (a = b))) H
theorem op_eqT : OpR X (compareOp .Eq) rEqT := fun pins s σ H x y v u Q I rx ry ⟨a, b, e1, e2, q⟩ =>
  op_eq pins s σ H x y v u Q I rx ry (by subst e1 e2; exact ⟨rfl, by rw [tv_dec]; exact q⟩)
def rNeT : R2 := fun x y H Q => ∃ a b : List Nat, x = tv a ∧ y = tv b ∧ Q (.bl (!decide (a = b))) H
theorem op_neT : OpR X (compareOp .NotEq) rNeT := fun pins s σ H x y v u Q I rx ry ⟨a, b, e1, e2, q⟩ =>
  op_ne pins s σ H x y v u Q I rx ry (by subst e1 e2; exact ⟨rfl, by rw [tv_dec]; exact q⟩)
def rLenT : List V → Hp → VK → Prop := fun xs H Q => ∃ l : List Nat, xs = [tv l] ∧ l.length ≤ 100000 ∧ Q (.int (l.length : Nat)) H
theorem call_lenT : CallR X (.builtin "len") rLenT := fun pins s σ H vs us Q I r ⟨l, e, hz, q⟩ =>
  call_len_str pins s σ H vs us Q I r ⟨T l, e, by rw [T_len]; exact big hz, by rw [T_len]; exact q⟩
def rSlT : V → Option Int → Option Int → Hp → VK → Prop := fun x lo hi H Q => ∃ l : List Nat, x = tv l ∧ l.length ≤ 100000 ∧ Q (tv (cutL l lo hi)) H
theorem sl_T : SlR X rSlT := fun pins s σ H x v vl vu lo hi sl Q I rx hs pl pu ⟨l, e, hz, q⟩ =>
  sl_str pins s σ H x v vl vu lo hi sl Q I rx hs pl pu ⟨T l, e, by rw [T_len]; exact big hz, by rw [cutS_T]; exact q⟩
def rIxT : R2 := fun x y H Q => ∃ (l : List Nat) (i : Int) (c : Nat), x = tv l ∧ y = .int i ∧ l.length ≤ 100000 ∧ atI l i = some c ∧ Q (tv [c]) H
theorem ix_T : IxR X rIxT := fun value slice pins s σ H x y v u Q I rx ry ⟨l, i, c, e1, e2, hz, ha, q⟩ hs =>
  ix_str value slice pins s σ H x y v u Q I rx ry (show rIxS x y H Q from ⟨T l, i, c, e1, e2, by rw [T_len]; exact big hz, by rw [T_cps]; exact ha, q⟩) hs
/-- ''.join(texts) -/
def rJoinT (K : PySem.W.Frag) : V → List V → Hp → VK → Prop := fun x xs H Q => ∃ (p : Addr) (ls : List (List Nat)), x = tv [] ∧ xs = [.ref p] ∧ SqL K H p (tvs ls) ∧ ls.flatten.length ≤ 100000 ∧ Q (tv ls.flatten) H
theorem join_T : ∀ ls : List (List Nat), Txt.join (T []) (ls.map T) = T ls.flatten := by
  intro ls
  have h : ∀ ls : List (List Nat), Str.join (T []) (ls.map T) = T ls.flatten := by
    intro ls
    induction ls with
    | nil => rfl
    | cons a r ih =>
      cases r with
      | nil =>
        show T a = _
        simp
      | cons b r =>
        show T a ++ T [] ++ Str.join (T []) ((b :: r).map T) = _
        rw [ih, T_app, T_app]
        simp
  rw [show Txt.join (T []) (ls.map T) = Str.join (T []) (ls.map T) from PySem.StrLaws.glued_eq_join _ _, h]
theorem mt_joinT : MtR X "str.join" (rJoinT X.K) := fun pins s σ H x xs v us Q I rx rxs ⟨p, ls, e1, e2, hs, hz, q⟩ => by
  have em : tvs ls = (ls.map T).map V.str := by rw [List.map_map]; rfl
  refine mt_join pins s σ H x xs v us Q I rx rxs ⟨T [], p, ls.map T, e1, e2, .inl (by rw [← em]; exact hs), ?_, by rw [join_T]; exact q⟩
  have e : ((ls.map T).map (·.length)).sum = ls.flatten.length := by
    rw [List.map_map, List.length_flatten]
    exact congrArg List.sum (List.map_congr_left fun l _ => T_len l)
  rw [e]
  show _ + _ * (T []).length ≤ _
  rw [T_len]
  exact Nat.le_trans (by simpa using hz) (by decide : 100000 ≤ 16777216)
theorem pe_joinT {o e : Expr} {to te : TE} {apos pos : Pos} (ho : PE X o to) (he : PE X e te)
    (h1 : starEach [e] X.env = [(false, eval e X.env)] := by rfl) (h2 : attributeBase o "join" X.env (eval o X.env) = eval o X.env := by rfl) (h3 : (apos.endLine == pos.line) = true := by rfl) :
    PE X (.Call (.Attribute o "join" apos) [e] [] pos) (tM1 (rJoinT X.K) to te) := pe_m1 F.slot_str_join F.type_str_join mt_joinT ho he h1 h2 h3
/-- w in texts, texts.index(w) -/
theorem flat_tvs (ls : List (List Nat)) : (tvs ls).all flatV = true := by simp [List.all_map]; intro x _; rfl
theorem inV_tvs (w : List Nat) (ls : List (List Nat)) : inV (tv w) (tvs ls) = decide (w ∈ ls) := by
  unfold inV
  induction ls with
  | nil => simp
  | cons a r ih =>
    rw [show tvs (a :: r) = tv a :: tvs r from rfl, List.any_cons, ih]
    have e : eqV (tv a) (tv w) = decide (a = w) := T_beq a w
    rw [e]
    by_cases h : a = w
    · simp [h]
    · have h' : ¬ w = a := fun z => h z.symm
      simp [h, h']
def rInT (K : PySem.W.Frag) (neg : Bool) : R2 := fun x y H Q => ∃ (p : Addr) (w : List Nat) (ls : List (List Nat)), x = tv w ∧ y = .ref p ∧ SqL K H p (tvs ls) ∧ Q (.bl (if neg then !decide (w ∈ ls) else decide (w ∈ ls))) H
theorem op_inT : OpR X (compareOp .In) (rInT X.K false) := fun pins s σ H x y v u Q I rx ry ⟨p, w, ls, e1, e2, hs, q⟩ =>
  op_in_seq pins s σ H x y v u Q I rx ry ⟨p, tvs ls, e2, .inl hs, by rw [e1]; rfl, flat_tvs ls, by rw [e1, inV_tvs]; exact q⟩
theorem op_notInT : OpR X (compareOp .NotIn) (rInT X.K true) := fun pins s σ H x y v u Q I rx ry ⟨p, w, ls, e1, e2, hs, q⟩ =>
  op_notIn_seq pins s σ H x y v u Q I rx ry ⟨p, tvs ls, e2, .inl hs, by rw [e1]; rfl, flat_tvs ls, by rw [e1, inV_tvs]; exact q⟩
def rIndexT (K : PySem.W.Frag) : V → List V → Hp → VK → Prop := fun x xs H Q => ∃ (p : Addr) (w : List Nat) (ls : List (List Nat)), x = .ref p ∧ xs = [tv w] ∧ SqL K H p (tvs ls) ∧ w ∈ ls ∧ Q (.int (ls.idxOf w : Nat)) H
theorem idx_first : ∀ (ls : List (List Nat)) (w : List Nat), w ∈ ls → ls[ls.idxOf w]? = some w ∧ ∀ (m : Nat) (z : List Nat), m < ls.idxOf w → ls[m]? = some z → z ≠ w
  | [], w, h => by simp at h
  | a :: r, w, h => by
    by_cases e : a = w
    · subst e
      rw [List.idxOf_cons_self]
      exact ⟨rfl, fun m z hm => absurd hm (by omega)⟩
    · have hr : w ∈ r := by
        rcases List.mem_cons.mp h with z | z
        · exact absurd z.symm e
        · exact z
      obtain ⟨h1, h2⟩ := idx_first r w hr
      have ei : (a :: r).idxOf w = r.idxOf w + 1 := by
        rw [List.idxOf_cons]
        have : (a == w) = false := beq_eq_false_iff_ne.mpr e
        rw [this]
        rfl
      rw [ei]
      refine ⟨h1, fun m z hm hz => ?_⟩
      cases m with
      | zero =>
        have : a = z := Option.some.inj hz
        rw [← this]
        exact e
      | succ m => exact h2 m z (by omega) hz
theorem mt_indexT : MtR X "list.index" (rIndexT X.K) := fun pins s σ H x xs v us Q I rx rxs ⟨p, w, ls, e1, e2, hs, hw, q⟩ => by
  obtain ⟨h1, h2⟩ := idx_first ls w hw
  refine mt_index pins s σ H x xs v us Q I rx rxs ⟨p, tvs ls, tv w, ls.idxOf w, tv w, e1, e2, hs, rfl, flat_tvs ls, ?_, ?_, ?_, q⟩
  · rw [List.getElem?_map, h1]
    rfl
  · show (T w == T w) = true
    simp
  · intro m z hm hz
    rw [List.getElem?_map] at hz
    cases e : ls[m]? with
    | none =>
      rw [e] at hz
      cases hz
    | some y =>
      rw [e] at hz
      have ez : tv y = z := Option.some.inj hz
      rw [← ez]
      show (T y == T w) = false
      rw [T_beq]
      exact decide_eq_false (h2 m y hm e)
/-- ==, != of two lists of texts -/
theorem dp_tvs {K : PySem.W.Frag} {H : Hp} : ∀ ls : List (List Nat), DpAll K H (tvs ls) (ls.map fun l => .str (T l))
  | [] => .nil
  | a :: r => .cons (.str (T a)) (dp_tvs r)
theorem eqv_tvs : ∀ a b : List (List Nat), PyData.eqvAll (a.map fun l => .str (T l)) (b.map fun l => .str (T l)) = decide (a = b)
  | [], [] => rfl
  | [], _ :: _ => rfl
  | _ :: _, [] => rfl
  | x :: xs, y :: ys => by
    rw [List.map_cons, List.map_cons]
    unfold PyData.eqvAll
    rw [eqv_tvs xs ys]
    show ((T x == T y) && _) = _
    rw [T_beq]
    by_cases h1 : x = y <;> by_cases h2 : xs = ys <;> simp [h1, h2]
/-- the codes are signs -/
def Ok (l : List Nat) : Prop := ∀ c ∈ l, c < 1114112
theorem can_tvs : ∀ ls : List (List Nat), (∀ l ∈ ls, Ok l) → PyData.canLayAll0 (ls.map fun l => .str (T l)) = true
  | [], _ => rfl
  | a :: r, h => by
    rw [List.map_cons]
    unfold PyData.canLayAll0
    rw [can_tvs r fun l hl => h l (List.mem_cons_of_mem _ hl), Bool.and_true]
    unfold PyData.canLay0
    show Array.all _ _ = true
    simp only [T, List.size_toArray, List.all_toArray', List.all_eq_true]
    intro c hc
    exact decide_eq_true (h a List.mem_cons_self c hc)
theorem depth_tvs : ∀ ls : List (List Nat), PyData.depthAll (ls.map fun l => .str (T l)) ≤ 1
  | [] => by decide
  | a :: r => by
    rw [List.map_cons]
    unfold PyData.depthAll
    refine Nat.max_le.mpr ⟨?_, depth_tvs r⟩
    first | decide | (show PyData.depth (.str _) ≤ 1; unfold PyData.depth; decide)

theorem shaped_tvs (ls : List (List Nat)) (h : ∀ l ∈ ls, Ok l) : SeqAt.shaped (.list (ls.map fun l => .str (T l))) = true := by
  unfold SeqAt.shaped
  rw [Bool.and_eq_true]
  constructor
  · unfold PyData.canLay0
    exact can_tvs ls h
  · refine decide_eq_true ?_
    unfold PyData.depth
    have := depth_tvs ls
    omega
def rEqL (K : PySem.W.Frag) (neg : Bool) : R2 := fun x y H Q => ∃ (p q : Addr) (a b : List (List Nat)), x = .ref p ∧ y = .ref q ∧ SqL K H p (tvs a) ∧ SqL K H q (tvs b) ∧ (∀ l ∈ a, Ok l) ∧ (∀ l ∈ b, Ok l) ∧ Q (.bl (if neg then !decide (a = b) else decide (a = b))) H
theorem eqv_lists (a b : List (List Nat)) : PyData.eqv (.list (a.map fun l => .str (T l))) (.list (b.map fun l => .str (T l))) = decide (a = b) := by
  unfold PyData.eqv
  exact eqv_tvs a b
theorem op_eqL (hu : X.A.units + 64 < cLine) : OpR X (compareOp .Eq) (rEqL X.K false) := fun pins s σ H x y v u Q I rx ry ⟨p, q, a, b, e1, e2, h1, h2, o1, o2, k⟩ =>
  op_eqD hu pins s σ H x y v u Q I rx ry ⟨_, _, by rw [e1]; exact .lst h1 (dp_tvs a), by rw [e2]; exact .lst h2 (dp_tvs b), shaped_tvs a o1, shaped_tvs b o2, by rw [eqv_lists]; exact k⟩
theorem op_neL (hu : X.A.units + 64 < cLine) : OpR X (compareOp .NotEq) (rEqL X.K true) := fun pins s σ H x y v u Q I rx ry ⟨p, q, a, b, e1, e2, h1, h2, o1, o2, k⟩ =>
  op_neD hu pins s σ H x y v u Q I rx ry ⟨_, _, by rw [e1]; exact .lst h1 (dp_tvs a), by rw [e2]; exact .lst h2 (dp_tvs b), shaped_tvs a o1, shaped_tvs b o2, by rw [eqv_lists]; exact k⟩
end

/-! a def of the text, as its callers need it -/
section
/-- at the module's name x stands a def that keeps sp, by at most level k -/
def Cal (CX : CXT) (P : Program) (w : World) (K : PySem.W.Frag) (mg : Str → Option Value) (base : Heap) (k : Nat) (x : Str) (sp : Sp) : Prop :=
  ∃ (f : Addr) (fd : FuncData) (ps : List Str), FnOk P w K mg base CX k f fd ps sp ∧ mg x = some (.ref f) ∧ PySem.W.keepIn K (.ref f) = true ∧ Binds K fd ps []
/-- the def st stands at the module's name x, its parameters ps -/
def Dfn (K : PySem.W.Frag) (mg : Str → Option Value) (x : Str) (st : Stmt) (ps : List Str) : Prop :=
  ∃ (f : Addr) (fd : FuncData), Fun K x x st f fd ∧ mg x = some (.ref f) ∧ Binds K fd ps []
variable {CX : CXT} {P : Program} {w : World} {K : PySem.W.Frag} {mg : Str → Option Value} {base : Heap} {x : Str} {st : Stmt} {ps : List Str} {sp : Sp} {k : Nat}
theorem Dfn.cal (D : Dfn K mg x st ps) (h : ∀ f fd, Fun K x x st f fd → FnOk P w K mg base CX k f fd ps sp) : Cal CX P w K mg base k x sp := by
  obtain ⟨f, fd, F, g, b⟩ := D
  exact ⟨f, fd, ps, h f fd F, g, F.kp, b⟩
end
section
variable {X : Cx} {CX : CXT} {k j : Nat} {sp : Sp} {E : XK} {x : Str} {p pos : Pos} {e : Expr} {es : List Expr} {t : TA}
theorem pe_cal (c : Cal CX X.prog X.w X.K X.mg X.base k x sp) (hr : Room j X.A) (hk : k ≤ j) (hx : Passes CX X E) (ha : PA X (e :: es) t) (hg : Gl X x := by rfl) (hdb : (x == ("__debug__" : Str)) = false := by decide)
    (he : starEach (e :: es) X.env = (false, eval e X.env) :: starEach es X.env := by rfl) (hpl : (backTo pos (starEach es X.env)).any (·.1) = false := by rfl) :
    PE X (.Call (.Name x p) (e :: es) [] pos) (tCall sp [] E t) := by
  refine ⟨fun pins s σ H Q I h => ?_⟩
  obtain ⟨f, fd, ps, F, g, kp, b⟩ := c
  exact (pe_call F (hr.mono hk) hg g kp b .nil hx ha hdb he hpl).run pins s σ H Q I h
theorem pe_calS {E : L2.St → XK} (c : Cal CX X.prog X.w X.K X.mg X.base k x sp) (hr : Room j X.A) (hk : k ≤ j) (hx : ∀ σ, PassesAt CX X σ (E σ)) (ha : PA X (e :: es) t) (hg : Gl X x := by rfl) (hdb : (x == ("__debug__" : Str)) = false := by decide)
    (he : starEach (e :: es) X.env = (false, eval e X.env) :: starEach es X.env := by rfl) (hpl : (backTo pos (starEach es X.env)).any (·.1) = false := by rfl) :
    PE X (.Call (.Name x p) (e :: es) [] pos) (tCallS sp E t) := by
  refine ⟨fun pins s σ H Q I h => ?_⟩
  obtain ⟨f, fd, ps, F, g, kp, b⟩ := c
  exact (pe_callS F (hr.mono hk) hg g kp b hx ha hdb he hpl).run pins s σ H Q I h
end

section
variable {X : Cx}
/-- a module's value, whatever token it bears -/
theorem pe_gx {x : Str} {v : V} {pos : Pos} (hg : Gl X x) (h : ∃ u, X.mg x = some u ∧ RelV v u) (hd : (x == ("__debug__" : Str)) = false := by decide) : PE X (.Name x pos) (tC v) := by
  obtain ⟨u, hm, r⟩ := h
  exact pe_glob hg hm r hd
end
section
variable {X : Cx}
/-- a class, a def, as a value -/
theorem pe_gr {x : Str} {a : Addr} {pos : Pos} (hg : Gl X x) (h : X.mg x = some (.ref a)) (hd : (x == ("__debug__" : Str)) = false := by decide) : PE X (.Name x pos) (tC (.ref a)) := pe_glob hg h rfl hd
end
/-! words -/
def Wd (l : List Nat) : Prop := 1 ≤ l.length ∧ l.length ≤ 300 ∧ ∀ c ∈ l, 97 ≤ c ∧ c ≤ 122
instance (l : List Nat) : Decidable (Wd l) := by unfold Wd; exact inferInstance
theorem Wd.ok {l : List Nat} (h : Wd l) : Ok l := fun c hc => by have := h.2.2 c hc; omega
theorem Wd.sz {l : List Nat} (h : Wd l) : l.length ≤ 100000 := Nat.le_trans h.2.1 (by decide)
/-- a thing of a known kind; b: whether it is a word -/
def Th (K : PySem.W.Frag) (H : Hp) (v : V) (b : Bool) : Prop :=
  (∃ l : List Nat, v = tv l ∧ l.length ≤ 100000 ∧ b = decide (Wd l)) ∨ (b = false ∧ ∃ t : String, TyX K H v (.type t) ∧ kitB t "str" = some false)
theorem Th.word {K : PySem.W.Frag} {H : Hp} {l : List Nat} (h : Wd l) : Th K H (tv l) true := .inl ⟨l, rfl, h.sz, (decide_eq_true h).symm⟩
theorem Th.get {K : PySem.W.Frag} {H : Hp} {v : V} (h : Th K H v true) : ∃ l, v = tv l ∧ Wd l := by
  rcases h with ⟨l, e, _, b⟩ | ⟨b, _⟩
  · exact ⟨l, e, of_decide_eq_true b.symm⟩
  · cases b
/-- what was put down newly -/
theorem same_upd {H : Hp} {p : Addr} {o : HO} (h : H p = none) : Same H (upd H p o) := fun b x e => by
  rw [upd_ne (ne_of_none e h)]
  exact e
theorem Same.mut {H H' : Hp} {p : Addr} {o : HO} (e : Same H H') (h : H p = none) : Same H (upd H' p o) := fun a u ha => by
  rw [upd_ne (ne_of_none ha h)]
  exact e a u ha
theorem tyx_same {K : PySem.W.Frag} {H H' : Hp} {v : V} {t : Value} (e : Same H H') (h : TyX K H v t) : TyX K H' v t := by
  cases h with
  | base b =>
    cases b with
    | non => exact .base .non
    | bl y => exact .base (.bl y)
    | int i => exact .base (.int i)
    | str y => exact .base (.str y)
    | flt y => exact .base (.flt y)
    | lst ea => exact .base (.lst (e _ _ ea))
    | frz ea => exact .base (.frz (e _ _ ea))
    | tup ea => exact .base (.tup (e _ _ ea))
    | dK ea => exact .base (.dK (e _ _ ea))
    | dT ea => exact .base (.dT (e _ _ ea))
    | ins ea cl ha hn htk hm => exact .base (.ins (e _ _ ea) cl ha hn htk hm)
  | byt b => exact .byt b
  | set ea => exact .set (e _ _ ea)
  | kList a c => exact .kList a c
  | kTuple a c => exact .kTuple a c
  | kDict a c => exact .kDict a c
  | fTuple ea => exact .fTuple (e _ _ ea)
  | fDict ea => exact .fDict (e _ _ ea)
theorem Th.same {K : PySem.W.Frag} {H H' : Hp} {v : V} {b : Bool} (e : Same H H') (h : Th K H v b) : Th K H' v b := by
  rcases h with h | ⟨h1, t, h2, h3⟩
  · exact .inl h
  · exact .inr ⟨h1, t, tyx_same e h2, h3⟩
/-! promises -/
def spIsWord (K : PySem.W.Frag) : Sp := fun vs H Q _ => ∃ v b, vs = [v] ∧ Th K H v b ∧ ∀ H', Same H H' → Q (.bl b) H'
/-- a def that refuses what is no word as its first argument, n more arguments -/
def spW (K : PySem.W.Frag) (C : Addr) (n : Nat) (body : List Nat → List V → Hp → VK → XK → Prop) : Sp := fun vs H Q E => ∃ v b rest, vs = v :: rest ∧ rest.length = n ∧ Th K H v b ∧
  (b = false → ∀ H', Same H H' → E (.ref C) none H') ∧ (∀ l, b = true → v = tv l → Wd l → body l rest H Q E)
def spNeed (K : PySem.W.Frag) (C : Addr) : Sp := spW K C 0 fun _ _ H Q _ => ∀ H', Same H H' → Q .non H'
/-- how a caller with a word says it -/
theorem spW.yes {K : PySem.W.Frag} {C : Addr} {n : Nat} {body : List Nat → List V → Hp → VK → XK → Prop} {l : List Nat} {rest : List V} {H : Hp} {Q : VK} {E : XK} (h : Wd l) (hn : rest.length = n) (q : body l rest H Q E) : spW K C n body (tv l :: rest) H Q E :=
  ⟨tv l, true, rest, rfl, hn, .word h, (fun e => nomatch e), fun l' _ e _ => by
    have z := tv_inj e
    subst z
    exact q⟩
/-- turnings, as all say it -/
def turn (l : List Nat) (k : Nat) : List Nat := l.drop k ++ l.take k
def turns (l : List Nat) : List (List Nat) := (List.range l.length).map (turn l)
/-- a new list of texts is told -/
def newT (ls : List (List Nat)) (H : Hp) (Q : VK) : Prop := ∀ p H', H p = none → Same H H' → H' p = some (.lst (tvs ls)) → Q (.ref p) H'
def spTurnings (K : PySem.W.Frag) (C : Addr) : Sp := spW K C 0 fun l _ H Q _ => newT (turns l) H Q
def spTurned (K : PySem.W.Frag) (C : Addr) : Sp := spW K C 1 fun l rest H Q _ => ∃ k : Int, rest = [.int k] ∧ ∀ H', Same H H' → Q (tv (turn l (k % l.length).toNat)) H'
/-! the law's own -/
def spCellAt (K : PySem.W.Frag) : Sp := fun vs H Q _ => ∃ (a : Addr) (ns : List Int) (k : Int), vs = [.ref a, .int k] ∧ SqL K H a (ns.map V.int) ∧ 0 ≤ k ∧ k < 1000 ∧ ∀ i : Int, Q (.int i) H
def spMixed : Sp := fun vs H Q _ => ∃ c k : Int, vs = [.int c, .int k] ∧ ∀ i : Int, 0 ≤ i → i < 2147483399 → Q (.int i) H
/-- signs a to z, some -/
def Sg (l : List Nat) : Prop := ∀ c ∈ l, 97 ≤ c ∧ c ≤ 122
def spSigns : Sp := fun vs H Q _ => ∃ c : Int, vs = [.int c] ∧ ∀ l H', Same H H' → 1 ≤ l.length → l.length ≤ 26 → Sg l → Q (tv l) H'
def spDrawn : Sp := fun vs H Q _ => ∃ (c : Int) (s : List Nat) (n : Nat), vs = [.int c, tv s, .int n] ∧ 1 ≤ s.length ∧ s.length ≤ 26 ∧ Sg s ∧ n ≤ 1000 ∧ ∀ l H', Same H H' → l.length = n → Sg l → Q (tv l) H'
def spWoven : Sp := fun vs H Q _ => ∃ (s : List Nat) (n : Nat), vs = [tv s, .int n] ∧ 1 ≤ s.length ∧ s.length ≤ 26 ∧ Sg s ∧ 1 ≤ n ∧ n ≤ 1000 ∧ ∀ l H', Same H H' → 1 ≤ l.length → l.length ≤ n → Sg l → Q (tv l) H'
def spWord : Sp := fun vs H Q _ => ∃ (c : Int) (n : Nat), vs = [.int c, .int n] ∧ 1 ≤ n ∧ n ≤ 300 ∧ ∀ l H', Same H H' → Wd l → l.length ≤ n → Q (tv l) H'
def spLTurnings : Sp := fun vs H Q _ => ∃ l : List Nat, vs = [tv l] ∧ l.length ≤ 1000 ∧ newT (turns l) H Q
/-- less than each of its other turnings -/
def early (l : List Nat) : Bool := (turns l).tail.all fun o => decide (l < o)
def spLEarly : Sp := fun vs H Q _ => ∃ l : List Nat, vs = [tv l] ∧ l.length ≤ 1000 ∧ Ok l ∧ ∀ H', Same H H' → Q (.bl (early l)) H'
def spNoWord (K : PySem.W.Frag) : Sp := fun vs H Q _ => ∃ m : Int, vs = [.int m] ∧ ∀ v H', Same H H' → Th K H' v false → Q v H'
/-! comprehensions: what is made so far -/
def LcP (H1 : Hp) (D : Addr) (Pv : Nat → List V → Prop) (i : Nat) (H : Hp) : Prop := H1 D = none ∧ ∃ acc, Same H1 H ∧ H D = some (.lst acc) ∧ acc.length ≤ i ∧ Pv i acc
section
variable {H1 H H4 : Hp} {D : Addr} {Pv : Nat → List V → Prop} {i : Nat} {acc : List V} {y : V}
theorem lcp_start (h : H1 D = none) (p : Pv 0 []) : LcP H1 D Pv 0 (upd H1 D (.lst [])) := ⟨h, [], same_upd h, upd_same, Nat.le_refl _, p⟩
theorem lcp_put (h : H1 D = none) (e : Same H1 H) (hD : H D = some (.lst acc)) (hl : acc.length ≤ i) (hi : i < 100000) (e4 : Same H H4) (p : Pv (i + 1) (acc ++ [y])) :
    ∃ acc, H4 D = some (.lst acc) ∧ acc.length < sizeLine ∧ LcP H1 D Pv (i + 1) (upd H4 D (.lst (acc ++ [y]))) :=
  ⟨acc, e4 D _ hD, bigL (by omega), h, acc ++ [y], Same.mut (e.trans e4) h, upd_same, by rw [List.length_append]; exact Nat.add_le_add hl (Nat.le_refl 1), p⟩
theorem lcp_skip (h : H1 D = none) (e : Same H1 H) (hD : H D = some (.lst acc)) (hl : acc.length ≤ i) (e4 : Same H H4) (p : Pv (i + 1) acc) : LcP H1 D Pv (i + 1) H4 :=
  ⟨h, acc, e.trans e4, e4 D _ hD, Nat.le_succ_of_le hl, p⟩
end
theorem walk_T (l : List Nat) : Walk (Its (T l)) l.length (fun _ => True) (fun i H v H' => H' = H ∧ ∃ c, l[i]? = some c ∧ v = tv [c]) := by
  have w := walk_str (z := T l)
  have e : (T l).cps.size = l.length := T_len l
  rw [e] at w
  refine w.mono (fun _ h => h) fun i H x H' _ _ ⟨e1, c, e2, e3⟩ => ⟨e1, c, ?_, e3⟩
  have : (T l).cps[i]? = l[i]? := by simp [T]
  rw [← this]
  exact e2
theorem lt_one (a b : Nat) : (([a] : List Nat) < [b]) ↔ a < b := by simp [List.cons_lt_cons_iff]
/-- a comprehension without a test -/
theorem keepAll {σ : L2.St} {H : Hp} {A B : Hp → Prop} (h : A H) : tYes σ H fun b H3 => if b = true then A H3 else B H3 := by
  show if true = true then A H else B H
  rw [if_pos rfl]
  exact h
/-! lists of single signs -/
def Sign1 (x : List Nat) : Prop := ∃ c, x = [c] ∧ 97 ≤ c ∧ c ≤ 122
theorem flat_one : ∀ {ls : List (List Nat)}, (∀ x ∈ ls, Sign1 x) → ls.flatten.length = ls.length ∧ Sg ls.flatten
  | [], _ => ⟨rfl, fun c hc => by simp at hc⟩
  | x :: r, h => by
    obtain ⟨i1, i2⟩ := flat_one (ls := r) fun y hy => h y (List.mem_cons_of_mem _ hy)
    obtain ⟨c, rfl, h1, h2⟩ := h x List.mem_cons_self
    refine ⟨by simp [i1], fun d hd => ?_⟩
    rw [List.flatten_cons] at hd
    rcases List.mem_append.mp hd with g | g
    · have : d = c := by simpa using g
      subst this
      exact ⟨h1, h2⟩
    · exact i2 d g
theorem sorted_one {ys : List Str} {ls : List (List Nat)} (p : ys.Perm (ls.map T)) (h : ∀ x ∈ ls, Sign1 x) : ∃ ls' : List (List Nat), ys.map V.str = tvs ls' ∧ ls'.length = ls.length ∧ ∀ x ∈ ls', Sign1 x := by
  refine ⟨ys.map (·.cps.toList), ?_, ?_, fun x hx => ?_⟩
  · show _ = (ys.map (·.cps.toList)).map tv
    rw [List.map_map]
    refine List.map_congr_left fun y _ => ?_
    show V.str y = V.str (T y.cps.toList)
    rw [T_of]
  · rw [List.length_map, p.length_eq, List.length_map]
  · obtain ⟨y, hy, rfl⟩ := List.mem_map.mp hx
    obtain ⟨z, hz, e⟩ := List.mem_map.mp (p.mem_iff.mp hy)
    rw [← e, T_cps]
    exact h z hz
theorem signs_one (l : List Nat) (h : Sg l) : ∀ x ∈ l.map (fun c => [c]), Sign1 x := fun x hx => by
  obtain ⟨c, hc, rfl⟩ := List.mem_map.mp hx
  exact ⟨c, rfl, h c hc⟩
theorem at_some {α : Type} {xs : List α} {j : Int} (h0 : 0 ≤ j) (h1 : j < (xs.length : Nat)) : ∃ v ∈ xs, atI xs j = some v := by
  obtain ⟨k, rfl⟩ : ∃ k : Nat, j = (k : Int) := ⟨j.toNat, by omega⟩
  have hk : k < xs.length := by omega
  exact ⟨xs[k], List.getElem_mem hk, atI_nat (List.getElem?_eq_getElem hk)⟩
theorem at_neg1 {α : Type} {xs : List α} (h : 1 ≤ xs.length) : ∃ v ∈ xs, atI xs (-1) = some v := by
  have hne : xs ≠ [] := fun e => by rw [e] at h; simp at h
  have e := List.dropLast_concat_getLast hne
  refine ⟨xs.getLast hne, List.getLast_mem hne, ?_⟩
  have z := atI_last xs.dropLast (xs.getLast hne)
  rw [e] at z
  exact z
theorem Sg.app {a b : List Nat} (h : Sg a) (k : Sg b) : Sg (a ++ b) := fun c hc => by
  rcases List.mem_append.mp hc with z | z
  · exact h c z
  · exact k c z
theorem Sg.sub {a b : List Nat} (h : Sg b) (k : ∀ c ∈ a, c ∈ b) : Sg a := fun c hc => h c (k c hc)
theorem Sg.cut {a : List Nat} (h : Sg a) (lo hi : Option Int) : Sg (cutL a lo hi) := h.sub fun c hc => List.mem_of_mem_drop (List.mem_of_mem_take hc)
theorem draw7 {i n : Int} (h0 : 0 ≤ i) (hn : 0 < n) : 0 ≤ i / 7 % n ∧ i / 7 % n < n := ⟨Int.emod_nonneg _ (by omega), Int.emod_lt_of_pos _ hn⟩
/-- the refusals' classes, as isinstance asks them: cN is NoWord -/
structure Er6 (K : PySem.W.Frag) (mg : Str → Option Value) (cW cN cS cC cM cR cT : Addr) : Prop where
  g_WordError : mg "WordError" = some (.ref cW)
  g_NoWord : mg "NoWord" = some (.ref cN)
  g_NoSigns : mg "NoSigns" = some (.ref cS)
  g_NoCount : mg "NoCount" = some (.ref cC)
  g_TooMany : mg "TooMany" = some (.ref cM)
  g_NoRing : mg "NoRing" = some (.ref cR)
  g_Twice : mg "Twice" = some (.ref cT)
  e : ExcC K cN
  i_N : PySem.W.kitOne K (.ref cN) (.ref cN) = some true
  i_S : PySem.W.kitOne K (.ref cN) (.ref cS) = some false
  i_C : PySem.W.kitOne K (.ref cN) (.ref cC) = some false
  i_M : PySem.W.kitOne K (.ref cN) (.ref cM) = some false
  i_R : PySem.W.kitOne K (.ref cN) (.ref cR) = some false
  i_T : PySem.W.kitOne K (.ref cN) (.ref cT) = some false
  i_V : PySem.W.kitOne K (.ref cN) (.type "ValueError") = some true
  x_W : PySem.W.exmOne K (.ref cN) (.ref cW) = some true
def spMark (cN : Addr) : Sp := fun vs H Q _ => ∃ a : Addr, vs = [.ref a] ∧ H a = some (ExV (.ref cN) a) ∧ ∀ H', Same H H' → Q (tv [119, 111, 114, 100]) H'
def spRefused (K : PySem.W.Frag) : Sp := fun vs H Q _ => ∃ (i : Int) (v : V), vs = [.int i, v] ∧ Th K H v false ∧ ∀ H', Same H H' → Q (.bl true) H'
def spRight : Sp := fun vs H Q _ => ∃ c : Int, vs = [.int c] ∧ ∀ H', Same H H' → Q (.bl true) H'
def spLaw (K : PySem.W.Frag) : Sp := fun vs H Q _ => ∃ (a : Addr) (ns : List Int), vs = [.ref a] ∧ SqL K H a (ns.map V.int) ∧ ns.length ≤ 63 ∧ ∀ H', Q (.bl true) H'
/-! what isinstance says of an own class, by what k_is finds -/
theorem kit_self {K : PySem.W.Frag} {C : Addr} : PySem.W.kitOne K (.ref C) (.ref C) = some true := by
  unfold PySem.W.kitOne
  rw [if_pos (by simp)]
theorem kit_other {K : PySem.W.Frag} {C D : Addr} (h1 : PySem.W.subIn K (.ref C) (.ref C) = some true) (hd : PySem.W.hasDictIn K D = true) (ht : PySem.W.typeIn K (.ref D) = some (.type "type")) (h : PySem.W.subIn K (.ref C) (.ref D) = some false) : PySem.W.kitOne K (.ref C) (.ref D) = some false := by
  have ne : ¬ (Value.ref C == Value.ref D) = true := fun e => by
    have e' : C = D := Value.ref.inj (beq_iff_eq.mp e)
    rw [e'] at h1
    rw [e', h1] at h
    cases h
  unfold PySem.W.kitOne
  rw [if_neg ne]
  obtain ⟨cd, hc, _⟩ := PySem.W.any_some hd
  have e2 : ((PySem.W.clsIn K D).isSome && PySem.W.typeIn K (.ref D) == some (.type "type")) = true := by rw [hc, ht] <;> rfl
  show (if _ = true then PySem.W.subIn K (.ref C) (.ref D) else none) = some false
  rw [if_pos e2]
  exact h
theorem kit_value {K : PySem.W.Frag} {C : Addr} (h : PySem.W.subIn K (.ref C) (.type "ValueError") = some true) : PySem.W.kitOne K (.ref C) (.type "ValueError") = some true := by
  unfold PySem.W.kitOne
  rw [if_neg (by intro e; cases (beq_iff_eq.mp e))]
  show (if PySem.W.kitMeta "ValueError" = true then PySem.W.subIn K (.ref C) (.type "ValueError") else none) = some true
  rw [if_pos (by decide +kernel)]
  exact h
/-! the least of some texts -/
def minT : List (List Nat) → List Nat
  | [] => []
  | x :: ys => lstT x ys
theorem lstT_mem : ∀ (ys : List (List Nat)) (x : List Nat), lstT x ys ∈ x :: ys
  | [], x => by simp [lstT]
  | y :: r, x => by
    have h := lstT_mem r (if y < x then y else x)
    have e : lstT x (y :: r) = lstT (if y < x then y else x) r := rfl
    rw [e]
    rcases List.mem_cons.mp h with z | z
    · rw [z]
      by_cases g : y < x
      · rw [if_pos g]; exact List.mem_cons_of_mem _ List.mem_cons_self
      · rw [if_neg g]; exact List.mem_cons_self
    · exact List.mem_cons_of_mem _ (List.mem_cons_of_mem _ z)
theorem minT_mem {ls : List (List Nat)} (h : ls ≠ []) : minT ls ∈ ls := by
  cases ls with
  | nil => exact absurd rfl h
  | cons x ys => exact lstT_mem ys x
def rMinL (K : PySem.W.Frag) : List V → Hp → VK → Prop := fun vs H Q => ∃ (a : Addr) (ls : List (List Nat)), vs = [V.ref a] ∧ SqL K H a (tvs ls) ∧ ls ≠ [] ∧ Q (tv (minT ls)) H
theorem cr_minL {X : Cx} (hc : X.calm = true) (hu : X.A.units + 64 < cLine) : CallR X (.builtin "min") (rMinL X.K) := fun pins s σ H vs us Q I r ⟨a, ls, e, hs, hne, q⟩ => by
  cases ls with
  | nil => exact absurd rfl hne
  | cons x ys => exact cr_minT hc hu pins s σ H vs us Q I r ⟨a, x, ys, e, hs, q⟩
theorem turns_ne {l : List Nat} (h : Wd l) : turns l ≠ [] := fun e => by
  have := congrArg List.length e
  simp [turns] at this
  have := h.1
  simp_all
theorem turns_len (l : List Nat) : (turns l).length = l.length := by simp [turns]
def spLeastTurn (K : PySem.W.Frag) (C : Addr) : Sp := spW K C 0 fun l _ H Q _ => ∀ H', Same H H' → Q (.int ((turns l).idxOf (minT (turns l)) : Nat)) H'
def spLeastForm (K : PySem.W.Frag) (C : Addr) : Sp := spW K C 0 fun l _ H Q _ => ∀ H', Same H H' → Q (tv (minT (turns l))) H'
def stepsV (l m : List Nat) : V := if m ∈ turns l then .int ((turns l).idxOf m : Nat) else .non
def spSteps (K : PySem.W.Frag) (C : Addr) : Sp := fun vs H Q E => ∃ v u b d, vs = [v, u] ∧ Th K H v b ∧ Th K H u d ∧ ((b && d) = false → ∀ H', Same H H' → E (.ref C) none H') ∧
  (∀ l m, (b && d) = true → v = tv l → u = tv m → Wd l → Wd m → ∀ H', Same H H' → Q (stepsV l m) H')
theorem idx_at {ls : List (List Nat)} {w : List Nat} (h : w ∈ ls) : atI (tvs ls) ((ls.idxOf w : Nat) : Int) = some (tv w) := by
  refine atI_nat ?_
  rw [List.getElem?_map, (idx_first ls w h).1]
  rfl
theorem ok_turns {l : List Nat} (h : Ok l) : ∀ x ∈ turns l, Ok x := fun x hx c hc => by
  obtain ⟨k, _, rfl⟩ := List.mem_map.mp hx
  rcases List.mem_append.mp hc with z | z
  · exact h c (List.mem_of_mem_drop z)
  · exact h c (List.mem_of_mem_take z)
end Rw
namespace Rk
open PySem PySem.Spec PyProof.Rows L2 Rw
def topS (i : Nat) : Stmt := PySem.Challenge.pw_ringword_k13_whole_one_cutting.main.body.getD i (.Pass ⟨0, 0, 0, 0⟩)
/-- the built-ins that the text calls, and its constants -/
structure Bt (mg : Str → Option Value) : Prop where
  m_len : mg "len" = none
  m_range : mg "range" = none
  m_sorted : mg "sorted" = none
  m_min : mg "min" = none
  m_max : mg "max" = none
  m_all : mg "all" = none
  m_isinstance : mg "isinstance" = none
  m_list : mg "list" = none
  m_tuple : mg "tuple" = none
  m_str : mg "str" = none
  m_bool : mg "bool" = none
  m_zip : mg "zip" = none
  m_enumerate : mg "enumerate" = none
  m_ValueError : mg "ValueError" = none
  m_sum : mg "sum" = none
  m_set : mg "set" = none
  m_dict : mg "dict" = none
  m_int : mg "int" = none
  g_LONGEST_WORD : ∃ u, mg "LONGEST_WORD" = some u ∧ RelV (.int 300) u
/-- the class of the refusals -/
structure Er1 (K : PySem.W.Frag) (mg : Str → Option Value) (cN : Addr) : Prop where
  g_NoWord : mg "NoWord" = some (.ref cN)
  x_NoWord : PySem.W.excIn K cN [.type "ValueError", .type "Exception", .type "BaseException", .type "object"] "ValueError.__new__" = true
  k_NoWord : PySem.W.keepIn K (.ref cN) = true
  b_NoWord : PySem.W.subIn K (.ref cN) (.type "BaseException") = some true
  t_NoWord : PySem.W.typeIn K (.ref cN) = some (.type "type")
end Rk
namespace Rk
open PySem PySem.Spec PyProof.Rows L2 Rw
abbrev s_is_word : Stmt := topS 5
abbrev n_is_word : List Str := ["thing", "sign"]
abbrev p_is_word : List Str := ["thing"]
theorem sc_is_word : FnScope n_is_word p_is_word (defScope s_is_word) := ⟨rfl, rfl, rfl, by decide +kernel, rfl, by decide +kernel, by decide +kernel⟩
theorem wd_no1 {l : List Nat} (h : ¬ (1 : Int) ≤ (l.length : Nat)) : decide (Wd l) = false := decide_eq_false fun z => h (by have := z.1; omega)
theorem wd_no2 {l : List Nat} (h : ¬ ((l.length : Nat) : Int) ≤ 300) : decide (Wd l) = false := decide_eq_false fun z => h (by have := z.2.1; omega)
def isLet (c : Nat) : Bool := decide (97 ≤ c) && decide (c ≤ 122)
theorem wd_all {l : List Nat} (h1 : (1 : Int) ≤ (l.length : Nat)) (h2 : ((l.length : Nat) : Int) ≤ 300) : (l.map isLet).all id = decide (Wd l) := by
  rw [Bool.eq_iff_iff, decide_eq_true_eq, List.all_map, List.all_eq_true]
  constructor
  · intro h
    refine ⟨by omega, by omega, fun c hc => ?_⟩
    have := h c hc
    simpa [isLet] using this
  · intro h c hc
    have := h.2.2 c hc
    simpa [isLet] using this
section
variable {P : Program} {w : World} {K : PySem.W.Frag} {mg : Str → Option Value} {base : Heap} (B : Bt mg)
include B
theorem ok_is_word (D : Dfn K mg "is_word" s_is_word p_is_word) : Cal CX0 P w K mg base 1 "is_word" (spIsWord K) := by
  refine D.cal fun f fd F => F.ok sc_is_word (fun vs H Q E h => ?_) (fun cdv A outer s H vs Q E hr h => ?_)
  · obtain ⟨v, b, rfl, _⟩ := h
    rfl
  · obtain ⟨v, b, rfl, hv, q⟩ := h
    refine ⟨_, (pss_cons (ps_if (pt_not (pt_val (pe_callB call_isi (by rfl) B.m_isinstance (by decide +kernel) (pa_cons (pv 0) (pa_cons (pe_bltn (v := .ty "str") (u := .type "str") rfl B.m_str (by decide +kernel) rfl) pa_nil))))) (pss_one (ps_ret pe_bl)) pss_nil)
      (pss_cons (ps_if (pt_not (pt_chain op_le op_le pe_int (pe_callB call_lenT (by rfl) B.m_len PySem.boot_len (pa_cons (pv 0) pa_nil)) (pe_gx rfl B.g_LONGEST_WORD))) (pss_one (ps_ret pe_bl)) pss_nil)
      (pss_one (ps_ret (pe_callB (cr_all rfl) (by rfl) B.m_all (by decide +kernel) (pa_cons (pe_lc (own := [("sign", 1)]) rfl sc_is_word.nd (pi_str (pv 0)) (blkOk_by (own := [("sign", 1)]) (N := n_is_word) (sc := defScope s_is_word) (by decide +kernel)) (fun _ _ _ _ _ => (pg_name (i := 1) sc_is_word.nd rfl (Or.inl rfl))) (fun _ _ _ _ _ => pts_nil) (fun _ _ _ _ _ => (pe_chain op_leT op_leT pe_str (pv 1) pe_str))) pa_nil)))))), ?_⟩
    rcases hv with ⟨l, rfl, hz, rfl⟩ | ⟨rfl, t, ht, hk⟩
    · refine ⟨_, rfl, _, _, _, _, true, rfl, .ty "str", .base (.str _), kit_ty (by decide +kernel), true, rfl, ?_⟩
      refine iteF ?_
      refine ⟨_, rfl, l, rfl, hz, 1, _, rfl, rfl, _, rfl, ite2 (fun h1 => ?_) (fun h1 => ?_)⟩
      · have h1 := of_decide_eq_true h1
        refine ⟨_, _, rfl, rfl, _, rfl, ite2 (fun h2 => ?_) (fun h2 => ?_)⟩
        · rw [wd_no2 (by simpa using h2)] at q
          exact q H (Same.refl H)
        · have h2 : ((l.length : Nat) : Int) ≤ 300 := by simpa using h2
          refine ⟨_, rfl, T l, rfl, fun Dl hD => ?_⟩
          refine lc_it (walk_T l) (LcP H Dl fun i acc => acc = (l.take i).map fun c => V.bl (isLet c)) (lcp_start hD rfl) (fun _ _ _ _ => trivial) ?_ ?_
          · rintro i x H2 H2' hi ⟨_, acc, e, hD2, hl, rfl⟩ ⟨rfl, c, hc, rfl⟩
            have step : (l.take (i + 1)).map (fun c => V.bl (isLet c)) = (l.take i).map (fun c => V.bl (isLet c)) ++ [V.bl (isLet c)] := by
              rw [List.take_add_one, hc, List.map_append]
              rfl
            refine ⟨rfl, keepAll ?_⟩
            refine ⟨_, rfl, [97], [c], rfl, rfl, _, rfl, ite2 (fun h => ?_) (fun h => ?_)⟩
            · have e1 : 97 ≤ c := by simpa [lt_one] using h
              refine ⟨[c], [122], rfl, rfl, lcp_put hD e hD2 hl (by omega) (Same.refl _) ?_⟩
              show _ ++ [V.bl (!decide (([122] : List Nat) < [c]))] = _
              rw [step]
              have : isLet c = !decide (([122] : List Nat) < [c]) := by
                by_cases g : 122 < c
                · have g' : ¬ c ≤ 122 := by omega
                  simp [isLet, lt_one, e1, g, g']
                · have g' : c ≤ 122 := by omega
                  simp [isLet, lt_one, e1, g, g']
              rw [this]
            · have e1 : ¬ 97 ≤ c := by simpa [lt_one] using h
              refine lcp_put hD e hD2 hl (by omega) (Same.refl _) ?_
              show _ ++ [V.bl false] = _
              rw [step]
              have : isLet c = false := by simp [isLet, e1]
              rw [this]
          · rintro H2 ⟨_, acc, e, hD2, _, rfl⟩
            refine ⟨Dl, l.map isLet, rfl, .inl (.inl ?_), ?_⟩
            · rw [hD2, List.take_length, List.map_map]
              rfl
            · rw [wd_all h1 h2]
              exact q H2 e
      · rw [wd_no1 (by simpa using h1)] at q
        exact ⟨false, rfl, iteT (q H (Same.refl H))⟩
    · refine ⟨_, rfl, _, _, _, _, false, rfl, .ty "str", ht, kit_ty hk, false, rfl, ?_⟩
      exact q H (Same.refl H)
end
end Rk
namespace Rk
open PySem PySem.Spec PyProof.Rows L2 Rw
abbrev s_need_word : Stmt := topS 6
abbrev n_need_word : List Str := ["thing"]
abbrev p_need_word : List Str := ["thing"]
theorem sc_need_word : FnScope n_need_word p_need_word (defScope s_need_word) := ⟨rfl, rfl, rfl, by decide +kernel, rfl, by decide +kernel, by decide +kernel⟩
section
variable {P : Program} {w : World} {K : PySem.W.Frag} {mg : Str → Option Value} {base : Heap} {cN : Addr} (B : Bt mg) (R : Er1 K mg cN)
include B R
theorem ok_need_word (D : Dfn K mg "need_word" s_need_word p_need_word) (c_is_word : Cal CX0 P w K mg base 1 "is_word" (spIsWord K)) : Cal (L2.CX P w) P w K mg base 2 "need_word" (spNeed K cN) := by
  refine D.cal fun f fd F => F.okX sc_need_word (fun vs H Q E h => ?_) (fun cdv A outer s H vs Q E hr h => ?_)
  · obtain ⟨v, b, rest, rfl, hr, _⟩ := h
    cases rest with
    | nil => rfl
    | cons _ _ => cases hr
  · obtain ⟨v, b, rest, rfl, hrest, hv, hno, hyes⟩ := h
    cases List.eq_nil_of_length_eq_zero hrest
    refine ⟨_, (pss_one (ps_if (pt_not (pt_val (pe_cal c_is_word hr (by decide) pass0 (pa_cons (pv 0) pa_nil)))) (pss_one (ps_raise rfl (takes_of rfl rfl rfl rfl) (pmk_ownA PySem.F.excBase_ValueError R.x_NoWord R.g_NoWord R.k_NoWord (raises_own R.b_NoWord R.t_NoWord) (by rfl) (pa_cons (pe_joined (PJ.cons pe_str (PJ.cons (pe_fmt (pe_gx rfl B.g_LONGEST_WORD)) (PJ.cons pe_str PJ.nil)))) pa_nil)))) pss_nil)), ?_⟩
    refine ⟨v, rfl, v, b, rfl, hv, fun H1 e1 => ⟨b, rfl, ?_⟩⟩
    cases b with
    | true =>
      refine iteF ?_
      obtain ⟨l, rfl, hl⟩ := hv.get
      exact hyes l rfl rfl hl H1 e1
    | false =>
      refine iteT ?_
      refine ⟨_, rfl, by decide +kernel, .inr ⟨300, rfl, by decide, _, rfl, by decide +kernel, _, rfl, by decide +kernel, ?_⟩⟩
      exact ⟨by show 1 ≤ sizeLine; decide, hno rfl H1 e1⟩
end
end Rk
namespace Rw
open PySem PySem.Spec PyProof.Rows L2
/-- the places looked at up to n: where pieces begin, the least ending so far -/
def cutSt (l : List Nat) : Nat → List Nat × List Nat
  | 0 => ([0], l)
  | n + 1 => if l.drop (n + 1) < (cutSt l n).2 then ((cutSt l n).1 ++ [n + 1], l.drop (n + 1)) else cutSt l n
def cutsOf (l : List Nat) : List Nat := (cutSt l (l.length - 1)).1
abbrev ivs (ns : List Nat) : List V := ns.map fun n => V.int (n : Nat)
theorem ivs_app (a b : List Nat) : ivs (a ++ b) = ivs a ++ ivs b := List.map_append
def piecesOf (l : List Nat) : List (List Nat) := ((cutsOf l).zip ((cutsOf l).tail ++ [l.length])).map fun ab => (l.drop ab.1).take (ab.2 - ab.1)
theorem cutSt_len (l : List Nat) : ∀ n, 1 ≤ (cutSt l n).1.length ∧ (cutSt l n).1.length ≤ n + 1
  | 0 => ⟨Nat.le_refl _, Nat.le_refl _⟩
  | n + 1 => by
    obtain ⟨h1, h2⟩ := cutSt_len l n
    unfold cutSt
    by_cases g : l.drop (n + 1) < (cutSt l n).2
    · rw [if_pos g]
      show 1 ≤ ((cutSt l n).1 ++ [n + 1]).length ∧ _
      rw [List.length_append]
      exact ⟨Nat.le_add_left 1 _, Nat.succ_le_succ h2⟩
    · rw [if_neg g]
      exact ⟨h1, Nat.le_succ_of_le h2⟩
theorem cutsOf_len {l : List Nat} (h : Wd l) : 1 ≤ (cutsOf l).length ∧ (cutsOf l).length ≤ l.length := by
  have := cutSt_len l (l.length - 1)
  have := h.1
  unfold cutsOf
  omega
def spCuts (K : PySem.W.Frag) (C : Addr) : Sp := spW K C 0 fun l _ H Q _ => ∀ p H', H p = none → Same H H' → H' p = some (.lst (ivs (cutsOf l))) → Q (.ref p) H'
def spPieces (K : PySem.W.Frag) (C : Addr) : Sp := spW K C 0 fun l _ H Q _ => newT (piecesOf l) H Q
def spIsEarly (K : PySem.W.Frag) (C : Addr) : Sp := spW K C 0 fun l _ H Q _ => ∀ H', Same H H' → Q (.bl (early l)) H'
/-- rows, of anything of a known kind: b, whether it is just the list ps -/
def Rows (K : PySem.W.Frag) (H : Hp) (r : V) (ps : List (List Nat)) (b : Bool) : Prop :=
  (b = false ∧ ∃ t : String, TyX K H r (.type t) ∧ kitB t "list" = some false) ∨
  (∃ (p : Addr) (vs : List V) (bs : List Bool), r = .ref p ∧ H p = some (.lst vs) ∧ vs.length ≤ 100000 ∧ bs.length = vs.length ∧ (∀ (i : Nat) (v : V), vs[i]? = some v → ∃ c, bs[i]? = some c ∧ Th K H v c) ∧
    (bs.all id = false → b = false) ∧ (∀ ls : List (List Nat), vs = tvs ls → (∀ x ∈ ls, Wd x) → b = decide (ls = ps)))
theorem Rows.same {K : PySem.W.Frag} {H H' : Hp} {r : V} {ps : List (List Nat)} {b : Bool} (e : Same H H') (h : Rows K H r ps b) : Rows K H' r ps b := by
  rcases h with ⟨h1, t, h2, h3⟩ | ⟨p, vs, bs, h1, h2, h0, h3, h4, h5, h6⟩
  · exact .inl ⟨h1, t, tyx_same e h2, h3⟩
  · exact .inr ⟨p, vs, bs, h1, e _ _ h2, h0, h3, fun i v hv => by obtain ⟨c, q, t⟩ := h4 i v hv; exact ⟨c, q, t.same e⟩, h5, h6⟩
def spIsCutting (K : PySem.W.Frag) (C : Addr) : Sp := spW K C 1 fun l rest H Q _ => ∃ r b, rest = [r] ∧ Rows K H r (piecesOf l) b ∧ ∀ H', Same H H' → Q (.bl b) H'
theorem piece_ok {l : List Nat} (h : Ok l) : ∀ x ∈ piecesOf l, Ok x := fun x hx c hc => by
  obtain ⟨ab, _, rfl⟩ := List.mem_map.mp hx
  exact h c (List.mem_of_mem_drop (List.mem_of_mem_take hc))
theorem all_words {K : PySem.W.Frag} {H : Hp} : ∀ {vs : List V} {bs : List Bool}, bs.length = vs.length → (∀ (i : Nat) (v : V), vs[i]? = some v → ∃ c, bs[i]? = some c ∧ Th K H v c) → bs.all id = true → ∃ ls : List (List Nat), vs = tvs ls ∧ ∀ x ∈ ls, Wd x
  | [], [], _, _, _ => ⟨[], rfl, fun _ h => nomatch h⟩
  | [], _ :: _, h, _, _ => by simp at h
  | _ :: _, [], h, _, _ => by simp at h
  | v :: vs, b :: bs, h, f, a => by
    rw [List.all_cons, Bool.and_eq_true] at a
    obtain ⟨ls, e, k⟩ := all_words (vs := vs) (bs := bs) (by simpa using h) (fun i v hv => f (i + 1) v hv) a.2
    obtain ⟨c, hc, t⟩ := f 0 v rfl
    have ec : b = c := Option.some.inj hc
    have a1 : b = true := a.1
    rw [← ec, a1] at t
    obtain ⟨l, el, hl⟩ := t.get
    refine ⟨l :: ls, by rw [el, e]; rfl, fun x hx => ?_⟩
    rcases List.mem_cons.mp hx with z | z
    · rw [z]; exact hl
    · exact k x z
theorem turns_tail (l : List Nat) : cutV (tvs (turns l)) (some 1) none = tvs (turns l).tail := by
  have e : cutV (tvs (turns l)) (some ((1 : Nat) : Int)) none = (tvs (turns l)).drop 1 := cutL_from _ 1
  rw [show ((1 : Nat) : Int) = 1 from rfl] at e
  rw [e, ← List.map_drop, List.drop_one]
/-! ==, != of two lists of numbers; some texts sorted -/
theorem dp_ivs {K : PySem.W.Frag} {H : Hp} : ∀ ns : List Nat, DpAll K H (ivs ns) (ns.map fun n => .int (n : Nat))
  | [] => .nil
  | n :: r => .cons (.int _) (dp_ivs r)
theorem eqv_ivs : ∀ a b : List Nat, PyData.eqvAll (a.map fun n => .int (n : Nat)) (b.map fun n => .int (n : Nat)) = decide (a = b)
  | [], [] => rfl
  | [], _ :: _ => rfl
  | _ :: _, [] => rfl
  | x :: xs, y :: ys => by
    rw [List.map_cons, List.map_cons]
    unfold PyData.eqvAll
    rw [eqv_ivs xs ys]
    show ((((x : Nat) : Int) == ((y : Nat) : Int)) && _) = _
    have e : (((x : Nat) : Int) == ((y : Nat) : Int)) = decide (x = y) := by
      rw [Bool.eq_iff_iff, beq_iff_eq, decide_eq_true_eq]
      omega
    rw [e]
    by_cases h1 : x = y <;> by_cases h2 : xs = ys <;> simp [h1, h2]
theorem can_ivs : ∀ ns : List Nat, PyData.canLayAll0 (ns.map fun n => .int (n : Nat)) = true
  | [] => rfl
  | n :: r => by
    rw [List.map_cons]
    unfold PyData.canLayAll0
    rw [can_ivs r, Bool.and_true]
    rfl
theorem depth_ivs : ∀ ns : List Nat, PyData.depthAll (ns.map fun n => .int (n : Nat)) ≤ 1
  | [] => by decide
  | n :: r => by
    rw [List.map_cons]
    unfold PyData.depthAll
    refine Nat.max_le.mpr ⟨?_, depth_ivs r⟩
    first | decide | (show PyData.depth (.int _) ≤ 1; unfold PyData.depth; decide)
theorem shaped_ivs (ns : List Nat) : SeqAt.shaped (.list (ns.map fun n => .int (n : Nat))) = true := by
  unfold SeqAt.shaped
  rw [Bool.and_eq_true]
  constructor
  · unfold PyData.canLay0
    exact can_ivs ns
  · refine decide_eq_true ?_
    unfold PyData.depth
    have := depth_ivs ns
    omega
def rEqI (K : PySem.W.Frag) (neg : Bool) : R2 := fun x y H Q => ∃ (p q : Addr) (a b : List Nat), x = .ref p ∧ y = .ref q ∧ SqL K H p (ivs a) ∧ SqL K H q (ivs b) ∧ Q (.bl (if neg then !decide (a = b) else decide (a = b))) H
theorem eqv_nums (a b : List Nat) : PyData.eqv (.list (a.map fun n => .int (n : Nat))) (.list (b.map fun n => .int (n : Nat))) = decide (a = b) := by
  unfold PyData.eqv
  exact eqv_ivs a b
section
variable {X : Cx}
theorem op_eqI (hu : X.A.units + 64 < cLine) : OpR X (compareOp .Eq) (rEqI X.K false) := fun pins s σ H x y v u Q I rx ry ⟨p, q, a, b, e1, e2, h1, h2, k⟩ =>
  op_eqD hu pins s σ H x y v u Q I rx ry ⟨_, _, by rw [e1]; exact .lst h1 (dp_ivs a), by rw [e2]; exact .lst h2 (dp_ivs b), shaped_ivs a, shaped_ivs b, by rw [eqv_nums]; exact k⟩
theorem op_neI (hu : X.A.units + 64 < cLine) : OpR X (compareOp .NotEq) (rEqI X.K true) := fun pins s σ H x y v u Q I rx ry ⟨p, q, a, b, e1, e2, h1, h2, k⟩ =>
  op_neD hu pins s σ H x y v u Q I rx ry ⟨_, _, by rw [e1]; exact .lst h1 (dp_ivs a), by rw [e2]; exact .lst h2 (dp_ivs b), shaped_ivs a, shaped_ivs b, by rw [eqv_nums]; exact k⟩
end
theorem sorted_any {ys : List Str} {ls : List (List Nat)} (p : ys.Perm (ls.map T)) : ∃ ls' : List (List Nat), ys.map V.str = tvs ls' ∧ ls'.length = ls.length ∧ ∀ x ∈ ls', x ∈ ls := by
  refine ⟨ys.map (·.cps.toList), ?_, ?_, fun x hx => ?_⟩
  · show _ = (ys.map (·.cps.toList)).map tv
    rw [List.map_map]
    refine List.map_congr_left fun y _ => ?_
    show V.str y = V.str (T y.cps.toList)
    rw [T_of]
  · rw [List.length_map, p.length_eq, List.length_map]
  · obtain ⟨y, hy, rfl⟩ := List.mem_map.mp hx
    obtain ⟨z, hz, e⟩ := List.mem_map.mp (p.mem_iff.mp hy)
    rw [← e, T_cps]
    exact hz
theorem flat_wd {n : Nat} : ∀ {ls : List (List Nat)}, (∀ x ∈ ls, Wd x ∧ x.length ≤ n) → ls.flatten.length ≤ n * ls.length ∧ ∀ c ∈ ls.flatten, 97 ≤ c ∧ c ≤ 122
  | [], _ => ⟨Nat.zero_le _, fun c hc => by simp at hc⟩
  | x :: r, h => by
    obtain ⟨i1, i2⟩ := flat_wd (ls := r) fun y hy => h y (List.mem_cons_of_mem _ hy)
    have hx := h x List.mem_cons_self
    rw [List.flatten_cons]
    refine ⟨?_, fun c hc => ?_⟩
    · rw [List.length_append, List.length_cons, Nat.mul_succ]
      omega
    · rcases List.mem_append.mp hc with z | z
      · exact hx.1.2.2 c z
      · exact i2 c z
/-! with the written part named: within comprehensions -/
section
variable {X : Cx} {K : PySem.W.Frag}
theorem cr_minLK (hK : X.K = K) (hc : X.calm = true) (hu : X.A.units + 64 < cLine) : CallR X (.builtin "min") (rMinL K) := hK ▸ cr_minL hc hu
theorem call_isiK (hK : X.K = K) : CallR X (.builtin "isinstance") (rIsi K) := hK ▸ call_isi
theorem ix_listK (hK : X.K = K) : IxR X (rIxL K) := hK ▸ ix_list
theorem sl_listK (hK : X.K = K) : SlR X (rSlL K) := hK ▸ sl_list
theorem pe_joinTK {o e : Expr} {to te : TE} {apos pos : Pos} (hK : X.K = K) (ho : PE X o to) (he : PE X e te)
    (h1 : starEach [e] X.env = [(false, eval e X.env)] := by rfl) (h2 : attributeBase o "join" X.env (eval o X.env) = eval o X.env := by rfl) (h3 : (apos.endLine == pos.line) = true := by rfl) :
    PE X (.Call (.Attribute o "join" apos) [e] [] pos) (tM1 (rJoinT K) to te) := hK ▸ pe_joinT ho he h1 h2 h3
end
end Rw
namespace Rk
open PySem PySem.Spec PyProof.Rows L2 Rw
abbrev s_cuts : Stmt := topS 8
abbrev n_cuts : List Str := ["word", "places", "least", "place", "rest"]
abbrev p_cuts : List Str := ["word"]
theorem sc_cuts : FnScope n_cuts p_cuts (defScope s_cuts) := ⟨rfl, rfl, rfl, by decide +kernel, rfl, by decide +kernel, by decide +kernel⟩
section
variable {P : Program} {w : World} {K : PySem.W.Frag} {mg : Str → Option Value} {base : Heap} {cN : Addr} (B : Bt mg)
include B
theorem ok_cuts (D : Dfn K mg "cuts" s_cuts p_cuts) (c_need_word : Cal (L2.CX P w) P w K mg base 2 "need_word" (spNeed K cN)) : Cal (L2.CX P w) P w K mg base 3 "cuts" (spCuts K cN) := by
  refine D.cal fun f fd F => F.okX sc_cuts (fun vs H Q E h => ?_) (fun cdv A outer s H vs Q E hr h => ?_)
  · obtain ⟨v, b, rest, rfl, hr, _⟩ := h
    cases List.eq_nil_of_length_eq_zero hr
    rfl
  · obtain ⟨v, b, rest, rfl, hrest, hv, hno, hyes⟩ := h
    cases List.eq_nil_of_length_eq_zero hrest
    refine ⟨_, (pss_cons (ps_expr (pe_cal c_need_word hr (by decide) (passes_call (takes_of rfl rfl rfl rfl) fun _ _ _ _ h => h) (pa_cons (pv 0) pa_nil)))
      (pss_cons (ps_set (i := 1) sc_cuts.nd rfl (Or.inl rfl) (pe_lst (pa_cons pe_int pa_nil)))
      (pss_cons (ps_set (i := 2) sc_cuts.nd rfl (Or.inl rfl) (pv 0))
      (pss_cons (ps_for (passes_of rfl) rfl (pi_range2 (by rfl) B.m_range (pa_cons pe_int (pa_cons (pe_callB call_lenT (by rfl) B.m_len PySem.boot_len (pa_cons (pv 0) pa_nil)) pa_nil))) (pg_name (i := 3) sc_cuts.nd rfl (Or.inl rfl))
        (pss_cons (ps_set (i := 4) sc_cuts.nd rfl (Or.inl rfl) (pe_slice sl_T (pv 0) (po_some (pv 3)) po_none))
        (pss_one (ps_if (pt_cmpR op_ltT (pv 4) (pv 2) (nomark _)) (pss_cons (ps_expr (pe_bm PySem.F.plainAttrs_list PySem.F.slot_list_append PySem.F.type_list_append mt_append (pv 1) (pa_cons (pv 3) pa_nil)))
          (pss_one (ps_set (i := 2) sc_cuts.nd rfl (Or.inl rfl) (pv 4)))) pss_nil))))
      (pss_one (ps_ret (pv 1))))))), ?_⟩
    refine ⟨v, rfl, v, b, [], rfl, rfl, hv, hno, fun l hb ev hl H1 e1 => ?_⟩
    subst hb ev
    have q := hyes l rfl rfl hl
    have hn := hl.2.1
    refine ⟨(show 1 ≤ sizeLine by decide), fun p np => ?_⟩
    have npH : H p = none := e1.free np
    refine ⟨_, rfl, _, rfl, l, rfl, hl.sz, 1, ((l.length : Nat) : Int), rfl, ⟨by decide, by decide, by omega, by omega⟩, ?_⟩
    have ez : (((l.length : Nat) : Int) - 1).toNat = l.length - 1 := by omega
    rw [ez]
    refine for_range (n := l.length - 1) (fun i σ H' => ∃ y z, σ = [some (tv l), some (.ref p), some (tv (cutSt l i).2), y, z] ∧ Same H H' ∧ H' p = some (.lst (ivs (cutSt l i).1))) ?_ ?_ ?_
    · exact ⟨none, none, rfl, Same.mut e1 npH, upd_same⟩
    · rintro i σ H2 hi ⟨y, z, rfl, e2, hp⟩
      have hc := (cutSt_len l i).2
      refine ⟨_, rfl, _, rfl, _, rfl, l, rfl, hl.sz, ?_⟩
      have ej : (1 : Int) + (i : Int) = ((i + 1 : Nat) : Int) := by omega
      rw [ej, cutL_from]
      refine ⟨_, rfl, _, rfl, l.drop (i + 1), (cutSt l i).2, rfl, rfl, _, rfl, ite2 (fun h => ?_) (fun h => ?_)⟩
      · have h := of_decide_eq_true h
        have es : cutSt l (i + 1) = ((cutSt l i).1 ++ [i + 1], l.drop (i + 1)) := by
          show (if _ then _ else _) = _
          rw [if_pos h]
        refine ⟨_, rfl, .inl ⟨rfl, _, SqL.of hp⟩, _, rfl, p, _, _, rfl, rfl, hp, ?_, ?_⟩
        · rw [List.length_map]
          exact bigL (by omega)
        · rw [es]
          refine ⟨_, rfl, _, _, rfl, Same.mut e2 npH, ?_⟩
          rw [upd_same, ivs_app]
          rfl
      · have h : ¬ l.drop (i + 1) < (cutSt l i).2 := of_decide_eq_false (by simpa using h)
        have es : cutSt l (i + 1) = cutSt l i := by
          show (if _ then _ else _) = _
          rw [if_neg h]
        rw [es]
        exact ⟨_, _, rfl, e2, hp⟩
    · rintro σ H2 ⟨y, z, rfl, e2, hp⟩
      exact ⟨_, rfl, q p H2 npH e2 hp⟩
end
end Rk
namespace Rk
open PySem PySem.Spec PyProof.Rows L2 Rw
abbrev s_pieces : Stmt := topS 9
abbrev n_pieces : List Str := ["word", "starts", "ends", "start", "end"]
abbrev p_pieces : List Str := ["word"]
theorem sc_pieces : FnScope n_pieces p_pieces (defScope s_pieces) := ⟨rfl, rfl, rfl, by decide +kernel, rfl, by decide +kernel, by decide +kernel⟩
section
variable {P : Program} {w : World} {K : PySem.W.Frag} {mg : Str → Option Value} {base : Heap} {cN : Addr} (B : Bt mg)
include B
theorem ok_pieces (D : Dfn K mg "pieces" s_pieces p_pieces) (c_cuts : Cal (L2.CX P w) P w K mg base 3 "cuts" (spCuts K cN)) : Cal (L2.CX P w) P w K mg base 4 "pieces" (spPieces K cN) := by
  refine D.cal fun f fd F => F.okX sc_pieces (fun vs H Q E h => ?_) (fun cdv A outer s H vs Q E hr h => ?_)
  · obtain ⟨v, b, rest, rfl, hr, _⟩ := h
    cases List.eq_nil_of_length_eq_zero hr
    rfl
  · obtain ⟨v, b, rest, rfl, hrest, hv, hno, hyes⟩ := h
    cases List.eq_nil_of_length_eq_zero hrest
    refine ⟨_, (pss_cons (ps_set (i := 1) sc_pieces.nd rfl (Or.inl rfl) (pe_cal c_cuts hr (by decide) (passes_call (takes_of rfl rfl rfl rfl) fun _ _ _ _ h => h) (pa_cons (pv 0) pa_nil)))
      (pss_cons (ps_set (i := 2) sc_pieces.nd rfl (Or.inl rfl) (pe_op op_cat (pe_slice sl_list (pv 1) (po_some pe_int) po_none) (pe_lst (pa_cons (pe_callB call_lenT (by rfl) B.m_len PySem.boot_len (pa_cons (pv 0) pa_nil)) pa_nil))))
      (pss_one (ps_ret (pe_lc (own := [("start", 3), ("end", 4)]) (g := gTup K 2 (gCons (gName 3) (gCons (gName 4) gNil))) rfl sc_pieces.nd (pi_zip (by rfl) B.m_zip (pa_cons (pv 1) (pa_cons (pv 2) pa_nil))) (blkOk_by (own := [("start", 3), ("end", 4)]) (N := n_pieces) (sc := defScope s_pieces) (by decide +kernel)) (fun _ _ _ _ _ => (pg_tup rfl (pgs_cons (pg_name (i := 3) sc_pieces.nd rfl (Or.inl rfl)) (pgs_cons (pg_name (i := 4) sc_pieces.nd rfl (Or.inl rfl)) pgs_nil)))) (fun _ _ _ _ _ => pts_nil) (fun _ _ _ _ _ => (pe_slice sl_T (pv 0) (po_some (pv 3)) (po_some (pv 4))))))))), ?_⟩
    refine ⟨v, rfl, v, b, [], rfl, rfl, hv, hno, fun l hb ev hl p H1 np e1 hp => ?_⟩
    subst hb ev
    have q := hyes l rfl rfl hl
    obtain ⟨c1, c2⟩ := cutsOf_len hl
    have hn := hl.2.1
    refine ⟨_, rfl, 1, rfl, p, ivs (cutsOf l), rfl, SqL.of hp, fun p2 np2 => ?_⟩
    refine ⟨_, rfl, l, rfl, hl.sz, (show 1 ≤ sizeLine by decide), fun p3 np3 => ?_⟩
    have k2 := same_upd (o := .lst (cutV (ivs (cutsOf l)) (some 1) none)) np2
    have k3 := same_upd (o := .lst [V.int ((l.length : Nat) : Int)]) np3
    have ec : cutV (ivs (cutsOf l)) (some 1) none = ivs (cutsOf l).tail := by
      have e : cutV (ivs (cutsOf l)) (some ((1 : Nat) : Int)) none = (ivs (cutsOf l)).drop 1 := cutL_from _ 1
      rw [show ((1 : Nat) : Int) = 1 from rfl] at e
      rw [e, ← List.map_drop, List.drop_one]
    rw [ec] at k2 k3 ⊢
    refine ⟨p2, p3, _, _, rfl, rfl, k3 _ _ upd_same, upd_same, ?_, fun p4 np4 => ?_⟩
    · rw [List.length_map, List.length_tail]
      exact big (by show _ + 1 ≤ _; omega)
    have ee : ivs (cutsOf l).tail ++ [V.int ((l.length : Nat) : Int)] = ivs ((cutsOf l).tail ++ [l.length]) := (ivs_app (cutsOf l).tail [l.length]).symm
    rw [ee]
    have k4 := same_upd (o := .lst (ivs ((cutsOf l).tail ++ [l.length]))) np4
    have hp4 := (k2.trans (k3.trans k4)) _ _ hp
    refine ⟨_, rfl, _, rfl, p, p4, _, _, rfl, SqL.of hp4, SqL.of upd_same, fun Dl hD => ?_⟩
    have hlen2 : ((cutsOf l).tail ++ [l.length]).length = (cutsOf l).length := by
      rw [List.length_append, List.length_tail]
      show _ + 1 = _
      omega
    refine lc_it (walk_zip (n := (cutsOf l).length) (by rw [List.length_map, List.length_map, hlen2, Nat.min_self])) (LcP _ Dl fun i acc => acc = tvs (((cutsOf l).zip ((cutsOf l).tail ++ [l.length])).take i |>.map fun ab => (l.drop ab.1).take (ab.2 - ab.1))) (lcp_start hD rfl) (fun i H3 _ ⟨_, acc, e, _, _, _⟩ => ⟨SqL.of (e _ _ hp4), SqL.of (e _ _ upd_same)⟩) ?_ ?_
    · rintro i x H2 H2' hi ⟨_, acc, e, hD2, hlen, rfl⟩ ⟨T, x1, y1, rfl, nT, rfl, hx, hy⟩
      have hi2 : i < ((cutsOf l).tail ++ [l.length]).length := by omega
      dsimp only at hx hy
      rw [List.getElem?_map, List.getElem?_eq_getElem hi] at hx
      rw [List.getElem?_map, List.getElem?_eq_getElem hi2] at hy
      have ex : V.int (((cutsOf l)[i] : Nat) : Int) = x1 := Option.some.inj hx
      have ey : V.int ((((cutsOf l).tail ++ [l.length])[i] : Nat) : Int) = y1 := Option.some.inj hy
      subst ex ey
      refine ⟨T, _, rfl, .inl (.inl upd_same), rfl, _, _, rfl, _, _, rfl, rfl, rfl, keepAll ?_⟩
      refine ⟨_, rfl, _, rfl, _, rfl, _, rfl, _, rfl, l, rfl, hl.sz, ?_⟩
      rw [cutL_mid]
      refine lcp_put hD e hD2 hlen (by omega) (same_upd nT) ?_
      rw [List.take_add_one, List.getElem?_eq_getElem (by rw [List.length_zip]; omega), List.map_append]
      show _ = List.map tv (_ ++ _)
      rw [List.map_append, List.getElem_zip]
      rfl
    · rintro H2 ⟨_, acc, e, hD2, _, rfl⟩
      have hz : (cutsOf l).length = ((cutsOf l).zip ((cutsOf l).tail ++ [l.length])).length := by
        rw [List.length_zip, hlen2, Nat.min_self]
      rw [hz, List.take_length] at hD2
      have kk := ((k2.trans k3).trans k4)
      exact q Dl H2 ((e1.trans kk).free hD) ((e1.trans kk).trans e) hD2
end
end Rk
namespace Rk
open PySem PySem.Spec PyProof.Rows L2 Rw
abbrev s_is_cutting : Stmt := topS 10
abbrev n_is_cutting : List Str := ["word", "rows", "right", "row"]
abbrev p_is_cutting : List Str := ["word", "rows"]
theorem sc_is_cutting : FnScope n_is_cutting p_is_cutting (defScope s_is_cutting) := ⟨rfl, rfl, rfl, by decide +kernel, rfl, by decide +kernel, by decide +kernel⟩
section
variable {P : Program} {w : World} {K : PySem.W.Frag} {mg : Str → Option Value} {base : Heap} {cN : Addr} (B : Bt mg)
include B
theorem ok_is_cutting (D : Dfn K mg "is_cutting" s_is_cutting p_is_cutting) (c_is_word : Cal CX0 P w K mg base 1 "is_word" (spIsWord K)) (c_pieces : Cal (L2.CX P w) P w K mg base 4 "pieces" (spPieces K cN)) : Cal (L2.CX P w) P w K mg base 5 "is_cutting" (spIsCutting K cN) := by
  refine D.cal fun f fd F => F.okX sc_is_cutting (fun vs H Q E h => ?_) (fun cdv A outer s H vs Q E hr h => ?_)
  · obtain ⟨v, b, rest, rfl, hr, _⟩ := h
    match rest, hr with
    | [_], _ => rfl
  · obtain ⟨v, b, rest, rfl, hrest, hv, hno, hyes⟩ := h
    obtain ⟨r, rfl⟩ : ∃ r, rest = [r] := match rest, hrest with | [r], _ => ⟨r, rfl⟩
    refine ⟨_, (pss_cons (ps_set (i := 2) sc_is_cutting.nd rfl (Or.inl rfl) (pe_cal c_pieces hr (by decide) (passes_call (takes_of rfl rfl rfl rfl) fun _ _ _ _ h => h) (pa_cons (pv 0) pa_nil)))
      (pss_cons (ps_if (pt_not (pt_val (pe_callB call_isi (by rfl) B.m_isinstance (by decide +kernel) (pa_cons (pv 1) (pa_cons (pe_bltn (v := .ty "list") (u := .type "list") rfl B.m_list (by decide +kernel) rfl) pa_nil))))) (pss_one (ps_ret pe_bl)) pss_nil)
      (pss_cons (ps_if (pt_not (pt_val (pe_callB (cr_all rfl) (by rfl) B.m_all (by decide +kernel) (pa_cons (pe_lc (own := [("row", 3)]) rfl sc_is_cutting.nd (pi_list (pv 1)) (blkOk_by (own := [("row", 3)]) (N := n_is_cutting) (sc := defScope s_is_cutting) (by decide +kernel)) (fun _ _ _ _ _ => (pg_name (i := 3) sc_is_cutting.nd rfl (Or.inl rfl))) (fun _ _ _ _ _ => pts_nil) (fun _ _ _ _ _ => (pe_cal c_is_word hr (by decide) pass0 (pa_cons (pv 3) pa_nil)))) pa_nil)))) (pss_one (ps_ret pe_bl)) pss_nil)
      (pss_one (ps_ret (pe_cmpR (op_eqL hr.units) (pv 1) (pv 2) (nomark _))))))), ?_⟩
    refine ⟨v, rfl, v, b, [], rfl, rfl, hv, hno, fun l hb ev hl p H1 np e1 hp => ?_⟩
    subst hb ev
    obtain ⟨r', c, er, hR, q⟩ := hyes l rfl rfl hl
    cases er
    rcases hR.same e1 with ⟨rfl, t, ht, hk⟩ | ⟨a, us, bs, rfl, ha, hz, hlen, hth, hno, hyes⟩
    · refine ⟨_, rfl, _, _, _, _, false, rfl, .ty "list", ht, kit_ty hk, false, rfl, iteT ?_⟩
      exact q H1 e1
    · refine ⟨_, rfl, _, _, _, _, true, rfl, .ty "list", .base (.lst ha), kit_ty (by decide +kernel), true, rfl, iteF ?_⟩
      refine ⟨_, rfl, a, rfl, ⟨_, SqL.of ha⟩, fun Dl hD => ?_⟩
      refine lc_it walk_list (LcP _ Dl fun i acc => acc = (bs.take i).map V.bl) (lcp_start hD rfl) (fun i H3 _ ⟨_, acc, e, _, _, _⟩ => SqL.of (e _ _ ha)) ?_ ?_
      · rintro i x H2 H2' hi ⟨_, acc, e, hD2, hl2, rfl⟩ ⟨rfl, hx⟩
        obtain ⟨c, hc, ht⟩ := hth i x hx
        refine ⟨rfl, keepAll ?_⟩
        refine ⟨_, rfl, x, c, rfl, ht.same e, fun H3 e3 => ?_⟩
        refine lcp_put hD e hD2 hl2 (by omega) e3 ?_
        rw [List.take_add_one, hc, List.map_append]
        rfl
      · rintro H2 ⟨_, acc, e, hD2, _, rfl⟩
        refine ⟨Dl, bs, rfl, SqL.of ?_, ?_⟩
        · rw [hD2, ← hlen, List.take_length]
        cases hall : bs.all id with
        | false =>
          have ec := hno hall
          subst ec
          exact ⟨false, rfl, iteT (q H2 (e1.trans e))⟩
        | true =>
          obtain ⟨ls, els, hls⟩ := all_words hlen hth hall
          have ec := hyes ls els hls
          rw [els] at ha
          refine ⟨true, rfl, iteF ?_⟩
          refine ⟨_, rfl, _, rfl, a, p, ls, piecesOf l, rfl, rfl, SqL.of (e _ _ ha), SqL.of (e _ _ hp), fun x hx => (hls x hx).ok, piece_ok hl.ok, ?_⟩
          rw [← ec]
          exact q H2 (e1.trans e)
end
end Rk
namespace Rk
open PySem PySem.Spec PyProof.Rows L2 Rw
abbrev s_l_cell_at : Stmt := topS 12
abbrev n_l_cell_at : List Str := ["_law_script", "_law_k"]
abbrev p_l_cell_at : List Str := ["_law_script", "_law_k"]
theorem sc_l_cell_at : FnScope n_l_cell_at p_l_cell_at (defScope s_l_cell_at) := ⟨rfl, rfl, rfl, by decide +kernel, rfl, by decide +kernel, by decide +kernel⟩
abbrev s_l_mixed : Stmt := topS 13
abbrev n_l_mixed : List Str := ["_law_cell", "_law_k", "_law_mix"]
abbrev p_l_mixed : List Str := ["_law_cell", "_law_k"]
theorem sc_l_mixed : FnScope n_l_mixed p_l_mixed (defScope s_l_mixed) := ⟨rfl, rfl, rfl, by decide +kernel, rfl, by decide +kernel, by decide +kernel⟩
section
variable {P : Program} {w : World} {K : PySem.W.Frag} {mg : Str → Option Value} {base : Heap} (B : Bt mg)
theorem ok_mixed (D : Dfn K mg "_law_mixed" s_l_mixed p_l_mixed) : Cal CX0 P w K mg base 1 "_law_mixed" spMixed := by
  refine D.cal fun f fd F => F.ok sc_l_mixed (fun vs H Q E h => ?_) (fun cdv A outer s H vs Q E hr h => ?_)
  · obtain ⟨c, k, rfl, _⟩ := h
    rfl
  · obtain ⟨c, k, rfl, q⟩ := h
    refine ⟨_, (pss_cons (ps_set (i := 2) sc_l_mixed.nd rfl (Or.inl rfl) (pe_op op_mod (pe_op op_mul (pe_op op_add (pe_op op_add (pv 0) (pe_op op_mul pe_int (pv 1))) pe_int) pe_int) pe_int))
      (pss_one (ps_ret (pe_op op_mod (pe_op op_add (pe_op op_mul (pv 2) (pv 2)) (pe_op op_mul pe_int (pv 2))) pe_int)))), ?_⟩
    refine ⟨_, rfl, _, rfl, 7919, k, rfl, rfl, .inl ⟨by decide, by decide⟩, _, _, rfl, rfl, _, _, rfl, rfl, _, _, rfl, rfl, .inr ⟨by decide, by decide⟩, _, _, rfl, rfl, (by decide : (0 : Int) < 2147483647), ?_⟩
    refine ⟨_, rfl, _, rfl, _, _, rfl, rfl, .inl ⟨by omega, by omega⟩, _, rfl, _, _, rfl, rfl, .inl ⟨by decide, by decide⟩, _, _, rfl, rfl, _, _, rfl, rfl, (by decide : (0 : Int) < 2147483399), ?_⟩
    exact q _ (Int.emod_nonneg _ (by decide)) (Int.emod_lt_of_pos _ (by decide))
include B
theorem ok_cell (D : Dfn K mg "_law_cell_at" s_l_cell_at p_l_cell_at) : Cal CX0 P w K mg base 1 "_law_cell_at" (spCellAt K) := by
  refine D.cal fun f fd F => F.ok sc_l_cell_at (fun vs H Q E h => ?_) (fun cdv A outer s H vs Q E hr h => ?_)
  · obtain ⟨a, ns, k, rfl, _⟩ := h
    rfl
  · obtain ⟨a, ns, k, rfl, hs, h0, h1, q⟩ := h
    refine ⟨_, (pss_cons (ps_if (pt_cmpR op_lt (pv 1) (pe_callB call_len_seq (by rfl) B.m_len PySem.boot_len (pa_cons (pv 0) pa_nil)) (nomark _)) (pss_one (ps_ret (pe_ix ix_list (pv 0) (pv 1) (fun _ _ => rfl)))) pss_nil)
      (pss_one (ps_ret (pe_op op_mul (pe_op op_mul (pe_op op_add (pv 1) pe_int) (pe_op op_add (pv 1) pe_int)) pe_int)))), ?_⟩
    refine ⟨_, rfl, _, rfl, a, _, rfl, .inl hs, k, _, rfl, rfl, _, rfl, ite2 (fun h => ?_) (fun h => ?_)⟩
    · have h := of_decide_eq_true h
      rw [List.length_map] at h
      obtain ⟨j, rfl⟩ : ∃ j : Nat, k = (j : Int) := ⟨k.toNat, by omega⟩
      have hj : j < ns.length := by omega
      refine ⟨_, rfl, _, rfl, a, _, _, .int ns[j], rfl, rfl, hs, atI_nat ?_, q _⟩
      rw [List.getElem?_map, List.getElem?_eq_getElem hj]
      rfl
    · refine ⟨_, rfl, k, 3, rfl, rfl, _, rfl, k, 7, rfl, rfl, _, _, rfl, rfl, .inl ⟨by omega, by omega⟩, _, _, rfl, rfl, .inr ⟨by decide, by decide⟩, q _⟩
end
end Rk
namespace Rk
open PySem PySem.Spec PyProof.Rows L2 Rw
abbrev s_l_signs : Stmt := topS 15
abbrev n_l_signs : List Str := ["_law_cell", "_law_letters", "_law_many", "_law_step", "_law_found", "_law_k"]
abbrev p_l_signs : List Str := ["_law_cell"]
theorem sc_l_signs : FnScope n_l_signs p_l_signs (defScope s_l_signs) := ⟨rfl, rfl, rfl, by decide +kernel, rfl, by decide +kernel, by decide +kernel⟩
def abc : List Nat := [97, 98, 99, 100, 101, 102, 103, 104, 105, 106, 107, 108, 109, 110, 111, 112, 113, 114, 115, 116, 117, 118, 119, 120, 121, 122]
theorem abc_is : ("abcdefghijklmnopqrstuvwxyz" : Str) = T abc := by decide +kernel
theorem abc_sg : Sg abc := by unfold Sg abc; decide +kernel
theorem pick_many {v : V} (h : v ∈ [V.int 1, V.int 2, V.int 2, V.int 3, V.int 2, V.int 4, V.int 5, V.int 26]) : ∃ n : Nat, v = .int (n : Int) ∧ 1 ≤ n ∧ n ≤ 26 := by
  simp only [List.mem_cons, List.not_mem_nil, or_false] at h
  rcases h with rfl | rfl | rfl | rfl | rfl | rfl | rfl | rfl
  · exact ⟨1, rfl, by decide, by decide⟩
  · exact ⟨2, rfl, by decide, by decide⟩
  · exact ⟨2, rfl, by decide, by decide⟩
  · exact ⟨3, rfl, by decide, by decide⟩
  · exact ⟨2, rfl, by decide, by decide⟩
  · exact ⟨4, rfl, by decide, by decide⟩
  · exact ⟨5, rfl, by decide, by decide⟩
  · exact ⟨26, rfl, by decide, by decide⟩
theorem pick_step {v : V} (h : v ∈ [V.int 1, V.int 3, V.int 5]) : ∃ n : Int, v = .int n ∧ 1 ≤ n ∧ n ≤ 5 := by
  simp only [List.mem_cons, List.not_mem_nil, or_false] at h
  rcases h with rfl | rfl | rfl
  · exact ⟨1, rfl, by decide, by decide⟩
  · exact ⟨3, rfl, by decide, by decide⟩
  · exact ⟨5, rfl, by decide, by decide⟩
/-- so many lists of one sign -/
def Ones (i : Nat) (acc : List V) : Prop := ∃ ls : List (List Nat), acc = tvs ls ∧ ls.length = i ∧ ∀ x ∈ ls, Sign1 x
theorem Ones.nil : Ones 0 [] := ⟨[], rfl, rfl, fun x hx => by simp at hx⟩
theorem Ones.snoc {i : Nat} {acc : List V} {c : Nat} (h : Ones i acc) (h1 : 97 ≤ c) (h2 : c ≤ 122) : Ones (i + 1) (acc ++ [tv [c]]) := by
  obtain ⟨ls, rfl, hl, ho⟩ := h
  refine ⟨ls ++ [[c]], by simp, by simp [hl], fun x hx => ?_⟩
  rcases List.mem_append.mp hx with z | z
  · exact ho x z
  · have : x = [c] := by simpa using z
    exact ⟨c, this, h1, h2⟩
section
variable {P : Program} {w : World} {K : PySem.W.Frag} {mg : Str → Option Value} {base : Heap} (B : Bt mg)
include B
theorem ok_signs (D : Dfn K mg "_law_signs" s_l_signs p_l_signs) (c__law_mixed : Cal CX0 P w K mg base 1 "_law_mixed" spMixed) : Cal CX0 P w K mg base 2 "_law_signs" spSigns := by
  refine D.cal fun f fd F => F.ok sc_l_signs (fun vs H Q E h => ?_) (fun cdv A outer s H vs Q E hr h => ?_)
  · obtain ⟨c, rfl, _⟩ := h
    rfl
  · obtain ⟨c, rfl, q⟩ := h
    refine ⟨_, (pss_cons (ps_set (i := 1) sc_l_signs.nd rfl (Or.inr rfl) pe_str)
      (pss_cons (ps_set (i := 2) sc_l_signs.nd rfl (Or.inl rfl) (pe_ix ix_list (pe_lst (pa_cons pe_int (pa_cons pe_int (pa_cons pe_int (pa_cons pe_int (pa_cons pe_int (pa_cons pe_int (pa_cons pe_int (pa_cons pe_int pa_nil))))))))) (pe_op op_mod (pe_op op_fdiv (pe_cal c__law_mixed hr (by decide) pass0 (pa_cons (pv 0) (pa_cons pe_int pa_nil))) pe_int) pe_int) (fun _ _ => rfl)))
      (pss_cons (ps_set (i := 3) sc_l_signs.nd rfl (Or.inr rfl) (pe_ix ix_list (pe_lst (pa_cons pe_int (pa_cons pe_int (pa_cons pe_int pa_nil)))) (pe_op op_mod (pe_op op_fdiv (pe_cal c__law_mixed hr (by decide) pass0 (pa_cons (pv 0) (pa_cons pe_int pa_nil))) pe_int) pe_int) (fun _ _ => rfl)))
      (pss_cons (ps_setLc (i := 4) (own := [("_law_k", 5)]) rfl sc_l_signs.nd rfl rfl (sw_true rfl rfl rfl (by decide +kernel)) (pi_range1 (by rfl) B.m_range (pa_cons (pv 2) pa_nil)) (blkOk_by (own := [("_law_k", 5)]) (N := n_l_signs) (sc := defScope s_l_signs) (by decide +kernel)) (fun _ _ _ _ _ => (pg_name (i := 5) sc_l_signs.nd rfl (Or.inl rfl))) (fun _ _ _ _ _ => pts_nil) (fun _ _ _ _ _ => (pe_ix ix_T (pv 1) (pe_op op_mod (pe_op op_add (pe_op op_fdiv (pe_cal c__law_mixed hr (by decide) pass0 (pa_cons (pv 0) (pa_cons pe_int pa_nil))) pe_int) (pe_op op_mul (pv 3) (pv 5))) pe_int) (fun _ _ => rfl))))
      (pss_one (ps_ret (pe_joinT pe_str (pe_callB cr_sortedS (by rfl) B.m_sorted (by decide +kernel) (pa_cons (pv 4) pa_nil))))))))), ?_⟩
    -- letters, many
    refine ⟨by decide, fun p1 np1 => ?_⟩
    refine ⟨_, rfl, c, 201, rfl, fun i h0 h1 => ?_⟩
    obtain ⟨d0, d1⟩ := draw7 h0 (by decide : (0 : Int) < 8)
    obtain ⟨v, hv, ha⟩ := at_some (xs := [V.int 1, V.int 2, V.int 2, V.int 3, V.int 2, V.int 4, V.int 5, V.int 26]) d0 d1
    obtain ⟨n, rfl, n1, n2⟩ := pick_many hv
    refine ⟨i, 7, rfl, rfl, ⟨by decide, by decide⟩, _, 8, rfl, rfl, (show (0 : Int) < 8 by decide), p1, _, _, _, rfl, rfl, SqL.of upd_same, ha, ?_⟩
    have s1 : Same H (upd H p1 (.lst [V.int 1, V.int 2, V.int 2, V.int 3, V.int 2, V.int 4, V.int 5, V.int 26])) := same_upd np1
    -- step
    refine ⟨by decide, fun p2 np2 => ?_⟩
    refine ⟨_, rfl, c, 202, rfl, fun i2 g0 g1 => ?_⟩
    obtain ⟨d0, d1⟩ := draw7 g0 (by decide : (0 : Int) < 3)
    obtain ⟨v, hv, ha⟩ := at_some (xs := [V.int 1, V.int 3, V.int 5]) d0 d1
    obtain ⟨st, rfl, t1, t2⟩ := pick_step hv
    refine ⟨i2, 7, rfl, rfl, ⟨by decide, by decide⟩, _, 3, rfl, rfl, (show (0 : Int) < 3 by decide), p2, _, _, _, rfl, rfl, SqL.of upd_same, ha, ?_⟩
    have s2 := s1.trans (same_upd (o := .lst [V.int 1, V.int 3, V.int 5]) np2)
    -- found
    refine ⟨_, rfl, _, rfl, by omega, by omega, fun Dl hD => ?_⟩
    refine lc_it walk_range (LcP _ Dl Ones) (lcp_start hD Ones.nil) (fun _ _ _ _ => trivial) ?_ ?_
    · rintro i x H2 H2' hi ⟨_, acc, e, hD2, hlen, ho⟩ ⟨rfl, rfl⟩
      have hi : i < n := hi
      refine ⟨rfl, keepAll ?_⟩
      refine ⟨_, rfl, _, rfl, c, 203, rfl, fun i3 k0 k1 => ?_⟩
      obtain ⟨d0, d1⟩ : 0 ≤ (i3 / 7 + st * ((0 : Int) + (i : Int))) % 26 ∧ (i3 / 7 + st * ((0 : Int) + (i : Int))) % 26 < 26 := ⟨Int.emod_nonneg _ (by decide), Int.emod_lt_of_pos _ (by decide)⟩
      obtain ⟨a, ha, hat⟩ := at_some (xs := abc) d0 d1
      refine ⟨i3, 7, rfl, rfl, ⟨by decide, by decide⟩, _, rfl, _, rfl, _, _, rfl, rfl, .inl ⟨by omega, by omega⟩, _, _, rfl, rfl, _, 26, rfl, rfl, (show (0 : Int) < 26 by decide), abc, _, a, ?_, rfl, by decide, hat, ?_⟩
      · rw [abc_is]
      · exact lcp_put hD e hD2 hlen (by omega) (Same.refl _) (ho.snoc (abc_sg a ha).1 (abc_sg a ha).2)
    · rintro H2 ⟨_, acc, e, hD2, _, ls, rfl, hl, ho⟩
      refine ⟨⟨_, rfl⟩, _, rfl, Dl, ls.map T, rfl, SqL.of (by rw [hD2, List.map_map]; rfl), by rw [List.length_map]; omega, fun ys p3 hp _ np3 => ?_⟩
      obtain ⟨ls', e1, e2, e3⟩ := sorted_one hp ho
      obtain ⟨f1, f2⟩ := flat_one e3
      refine ⟨p3, ls', rfl, rfl, SqL.of (by rw [upd_same, e1]), by omega, ?_⟩
      exact q _ _ ((s2.trans e).trans (same_upd np3)) (by omega) (by omega) f2
end
end Rk
namespace Rk
open PySem PySem.Spec PyProof.Rows L2 Rw
theorem turn_step (l : List Nat) (i : Nat) : tvs ((List.range (i + 1)).map (turn l)) = tvs ((List.range i).map (turn l)) ++ [tv (turn l i)] := by
  rw [List.range_succ, List.map_append]
  exact List.map_append
theorem cut_turn (l : List Nat) (i : Nat) : cutL l (some ((0 : Int) + (i : Int))) none ++ cutL l none (some ((0 : Int) + (i : Int))) = turn l i := by
  rw [Int.zero_add, cutL_from, cutL_to]
  rfl
theorem cut_le (l : List Nat) (i : Int) (h : l.length ≤ 1000) : (cutL l (some i) none).length + (cutL l none (some i)).length ≤ 100000 := by
  have a1 := cutL_len l (some i) none
  have a2 := cutL_len l none (some i)
  omega
end Rk
namespace Rk
open PySem PySem.Spec PyProof.Rows L2 Rw
abbrev s_l_turnings : Stmt := topS 16
abbrev n_l_turnings : List Str := ["_law_word", "_law_k"]
abbrev p_l_turnings : List Str := ["_law_word"]
theorem sc_l_turnings : FnScope n_l_turnings p_l_turnings (defScope s_l_turnings) := ⟨rfl, rfl, rfl, by decide +kernel, rfl, by decide +kernel, by decide +kernel⟩
section
variable {P : Program} {w : World} {K : PySem.W.Frag} {mg : Str → Option Value} {base : Heap} (B : Bt mg)
include B
theorem ok_lturnings (D : Dfn K mg "_law_turnings" s_l_turnings p_l_turnings) : Cal CX0 P w K mg base 1 "_law_turnings" spLTurnings := by
  refine D.cal fun f fd F => F.ok sc_l_turnings (fun vs H Q E h => ?_) (fun cdv A outer s H vs Q E hr h => ?_)
  · obtain ⟨l, rfl, _⟩ := h
    rfl
  · obtain ⟨l, rfl, hn, q⟩ := h
    refine ⟨_, (pss_one (ps_ret (pe_lc (own := [("_law_k", 1)]) rfl sc_l_turnings.nd (pi_range1 (by rfl) B.m_range (pa_cons (pe_callB call_lenT (by rfl) B.m_len PySem.boot_len (pa_cons (pv 0) pa_nil)) pa_nil)) (blkOk_by (own := [("_law_k", 1)]) (N := n_l_turnings) (sc := defScope s_l_turnings) (by decide +kernel)) (fun _ _ _ _ _ => (pg_name (i := 1) sc_l_turnings.nd rfl (Or.inl rfl))) (fun _ _ _ _ _ => pts_nil) (fun _ _ _ _ _ => (pe_op op_addT (pe_slice sl_T (pv 0) (po_some (pv 1)) po_none) (pe_slice sl_T (pv 0) po_none (po_some (pv 1)))))))), ?_⟩
    refine ⟨_, rfl, l, rfl, by omega, _, rfl, by omega, by omega, fun Dl hD => ?_⟩
    refine lc_it walk_range (LcP H Dl fun i acc => acc = tvs ((List.range i).map (turn l))) (lcp_start hD rfl) (fun _ _ _ _ => trivial) ?_ ?_
    · rintro i x H2 H2' hi ⟨_, acc, e, hD2, hlen, rfl⟩ ⟨rfl, rfl⟩
      have hi : i < l.length := hi
      refine ⟨rfl, keepAll ?_⟩
      refine ⟨_, rfl, _, rfl, _, rfl, l, rfl, by omega, _, rfl, _, rfl, _, rfl, l, rfl, by omega, _, _, rfl, rfl, cut_le l _ hn, ?_⟩
      refine lcp_put hD e hD2 hlen (by omega) (Same.refl _) ?_
      rw [turn_step, cut_turn]
    · rintro H2 ⟨_, acc, e, hD2, _, rfl⟩
      exact q Dl H2 hD e hD2
end
end Rk
namespace Rk
open PySem PySem.Spec PyProof.Rows L2 Rw
abbrev s_l_early : Stmt := topS 17
abbrev n_l_early : List Str := ["_law_word", "_law_one"]
abbrev p_l_early : List Str := ["_law_word"]
theorem sc_l_early : FnScope n_l_early p_l_early (defScope s_l_early) := ⟨rfl, rfl, rfl, by decide +kernel, rfl, by decide +kernel, by decide +kernel⟩
theorem early_filter (l : List Nat) : decide ((turns l).tail.filter (fun o => !decide (l < o)) = []) = early l := by
  unfold early
  rw [Bool.eq_iff_iff, decide_eq_true_eq, List.filter_eq_nil_iff, List.all_eq_true]
  constructor
  · intro h o ho
    have := h o ho
    simpa using this
  · intro h o ho
    have := h o ho
    simpa using this
section
variable {P : Program} {w : World} {K : PySem.W.Frag} {mg : Str → Option Value} {base : Heap} (B : Bt mg)
include B
theorem ok_learly (D : Dfn K mg "_law_early" s_l_early p_l_early) (c__law_turnings : Cal CX0 P w K mg base 1 "_law_turnings" spLTurnings) : Cal CX0 P w K mg base 2 "_law_early" spLEarly := by
  refine D.cal fun f fd F => F.ok sc_l_early (fun vs H Q E h => ?_) (fun cdv A outer s H vs Q E hr h => ?_)
  · obtain ⟨l, rfl, _⟩ := h
    rfl
  · obtain ⟨l, rfl, hn, ho, q⟩ := h
    refine ⟨_, (pss_one (ps_ret (pe_cmpR (op_eqL hr.units) (pe_lc (own := [("_law_one", 1)]) rfl sc_l_early.nd (pi_list (pe_slice sl_list (pe_cal c__law_turnings hr (by decide) pass0 (pa_cons (pv 0) pa_nil)) (po_some pe_int) po_none)) (blkOk_by (own := [("_law_one", 1)]) (N := n_l_early) (sc := defScope s_l_early) (by decide +kernel)) (fun _ _ _ _ _ => (pg_name (i := 1) sc_l_early.nd rfl (Or.inl rfl))) (fun _ _ _ _ _ => (pts_one (pt_cmpR op_leT (pv 1) (pv 0) (nomark _)))) (fun _ _ _ _ _ => (pv 1))) (pe_lst pa_nil) (nomark _)))), ?_⟩
    refine ⟨_, rfl, l, rfl, hn, fun p H1 np e1 hp => ?_⟩
    refine ⟨1, rfl, p, tvs (turns l), rfl, SqL.of hp, fun p2 np2 => ?_⟩
    rw [turns_tail]
    have e2 := same_upd (o := .lst (tvs (turns l).tail)) np2
    refine ⟨p2, rfl, ⟨_, SqL.of upd_same⟩, fun Dl hD => ?_⟩
    have tl : (turns l).tail.length ≤ 1000 := by
      rw [List.length_tail, turns_len]
      omega
    refine lc_it walk_list (LcP _ Dl fun i acc => acc = tvs (((turns l).tail.take i).filter fun o => !decide (l < o))) (lcp_start hD rfl) (fun i H3 _ ⟨_, acc, e, _, _, _⟩ => SqL.of (e _ _ upd_same)) ?_ ?_
    · rintro i x H2 H2' hi ⟨_, acc, e, hD2, hlen, rfl⟩ ⟨rfl, hx⟩
      rw [List.length_map] at hi
      obtain ⟨z, hz⟩ : ∃ z, (turns l).tail[i]? = some z := ⟨_, List.getElem?_eq_getElem hi⟩
      rw [List.getElem?_map, hz] at hx
      have ex : tv z = x := Option.some.inj hx
      subst ex
      refine ⟨rfl, ?_⟩
      refine ⟨_, rfl, _, rfl, z, l, rfl, rfl, _, rfl, ?_⟩
      have step : ((turns l).tail.take (i + 1)).filter (fun o => !decide (l < o)) = ((turns l).tail.take i).filter (fun o => !decide (l < o)) ++ (if (!decide (l < z)) = true then [z] else []) := by
        rw [List.take_add_one, hz, List.filter_append]
        congr 1
        cases g : decide (l < z) <;> simp [g]
      cases g : decide (l < z) with
      | true =>
        refine iteF ?_
        refine lcp_skip hD e hD2 hlen (Same.refl _) ?_
        rw [step, g]
        simp
      | false =>
        refine iteT ?_
        refine ⟨_, rfl, ?_⟩
        refine lcp_put hD e hD2 hlen (by omega) (Same.refl _) ?_
        rw [step, g]
        exact (List.map_append (f := tv) (l₂ := [z])).symm
    · rintro H2 ⟨_, acc, e, hD2, _, rfl⟩
      rw [List.take_of_length_le (l := (turns l).tail) (by rw [List.length_map]; exact Nat.le_refl _)] at hD2
      refine ⟨(show 0 ≤ sizeLine by decide), fun p3 np3 => ?_⟩
      have k3 := same_upd (o := .lst []) np3
      refine ⟨Dl, p3, _, [], rfl, rfl, SqL.of (k3 _ _ hD2), SqL.of upd_same, (fun x hx => ?_), (fun x hx => nomatch hx), ?_⟩
      · exact ok_turns ho x (List.mem_of_mem_tail (List.mem_filter.mp hx).1)
      · show Q (.bl (decide _)) _
        rw [early_filter]
        exact q _ (((e1.trans e2).trans e).trans k3)
end
end Rk
namespace Rk
open PySem PySem.Spec PyProof.Rows L2 Rw
abbrev s_l_truth : Stmt := topS 14
abbrev n_l_truth : List Str := ["_law_found", "_law_due"]
abbrev p_l_truth : List Str := ["_law_found", "_law_due"]
theorem sc_l_truth : FnScope n_l_truth p_l_truth (defScope s_l_truth) := ⟨rfl, rfl, rfl, by decide +kernel, rfl, by decide +kernel, by decide +kernel⟩
def spTruth : Sp := fun vs H Q _ => ∃ a b : Bool, vs = [.bl a, .bl b] ∧ Q (.bl (decide (a = b))) H
section
variable {P : Program} {w : World} {K : PySem.W.Frag} {mg : Str → Option Value} {base : Heap} (B : Bt mg)
include B
theorem ok_ltruth (D : Dfn K mg "_law_truth" s_l_truth p_l_truth) : Cal CX0 P w K mg base 1 "_law_truth" spTruth := by
  refine D.cal fun f fd F => F.ok sc_l_truth (fun vs H Q E h => ?_) (fun cdv A outer s H vs Q E hr h => ?_)
  · obtain ⟨a, b, rfl, _⟩ := h
    rfl
  · obtain ⟨a, b, rfl, q⟩ := h
    refine ⟨_, (pss_one (ps_ret (pe_and (pe_callB call_isi (by rfl) B.m_isinstance (by decide +kernel) (pa_cons (pv 0) (pa_cons (pe_bltn (v := .ty "bool") (u := .type "bool") rfl B.m_bool (by decide +kernel) rfl) pa_nil))) (pe_one (pe_cmpR op_eq (pv 0) (pv 1) (nomark _)))))), ?_⟩
    refine ⟨_, rfl, _, _, _, _, true, rfl, .ty "bool", .base (.bl a), kit_ty (by decide +kernel), true, rfl, iteT ?_⟩
    refine ⟨_, rfl, _, rfl, rfl, ?_⟩
    have e : decide (V.bl a = V.bl b) = decide (a = b) := by cases a <;> cases b <;> rfl
    rw [e]
    exact q
end
end Rk
namespace Rw
open PySem PySem.Spec PyProof.Rows L2
/-! early words, pieces: pure -/
/-- they part at a place at which the one is less -/
def Sl (a b : List Nat) : Prop := ∃ (p : List Nat) (x y : Nat) (s t : List Nat), a = p ++ x :: s ∧ b = p ++ y :: t ∧ x < y
theorem tri (a b : List Nat) : a < b ∨ a = b ∨ b < a := by
  by_cases h : a < b
  · exact .inl h
  · rcases List.le_iff_lt_or_eq.mp (List.not_lt.mp h) with g | g
    · exact .inr (.inr g)
    · exact .inr (.inl g.symm)
theorem lt_irr {a : List Nat} (h : a < a) : False := List.lt_irrefl a h
theorem lt_asym {a b : List Nat} (h : a < b) (g : b < a) : False := List.lt_irrefl a (List.lt_trans h g)
theorem lt_cases : ∀ {a b : List Nat}, a < b → Sl a b ∨ ∃ c, c ≠ [] ∧ b = a ++ c
  | [], [], h => (lt_irr h).elim
  | [], y :: t, _ => .inr ⟨y :: t, by simp, rfl⟩
  | x :: s, [], h => absurd h (List.not_lt_nil _)
  | x :: s, y :: t, h => by
    rcases List.cons_lt_cons_iff.mp h with g | ⟨rfl, g⟩
    · exact .inl ⟨[], x, y, s, t, rfl, rfl, g⟩
    · rcases lt_cases g with ⟨p, u, v, s', t', e1, e2, q⟩ | ⟨c, hc, e⟩
      · exact .inl ⟨x :: p, u, v, s', t', by rw [e1]; rfl, by rw [e2]; rfl, q⟩
      · exact .inr ⟨c, hc, by rw [e]; rfl⟩
theorem Sl.lt {a b : List Nat} (h : Sl a b) (u v : List Nat) : a ++ u < b ++ v := by
  obtain ⟨p, x, y, s, t, rfl, rfl, q⟩ := h
  rw [List.append_assoc, List.append_assoc]
  exact List.append_left_lt (List.cons_lt_cons_iff.mpr (.inl q))
theorem Sl.lt0 {a b : List Nat} (h : Sl a b) : a < b := by
  have := h.lt [] []
  simpa using this
theorem nil_lt {c : List Nat} (h : c ≠ []) : [] < c := by
  cases c with
  | nil => exact absurd rfl h
  | cons x s => exact List.nil_lt_cons x s
theorem pre_lt (a : List Nat) {c : List Nat} (h : c ≠ []) : a < a ++ c := by
  have := List.append_left_lt (l₁ := a) (nil_lt h)
  simpa using this
theorem cancel : ∀ {p a b : List Nat}, p ++ a < p ++ b → a < b
  | [], _, _, h => h
  | x :: p, _, _, h => by
    rcases List.cons_lt_cons_iff.mp h with g | ⟨_, g⟩
    · exact absurd g (Nat.lt_irrefl x)
    · exact cancel g
theorem Sl.app : ∀ {v e y : List Nat}, Sl (v ++ e) y → Sl v y ∨ ∃ y', y = v ++ y' ∧ Sl e y'
  | [], e, y, h => .inr ⟨y, rfl, h⟩
  | x :: v, e, y, ⟨p, c, d, s, t, e1, e2, q⟩ => by
    cases p with
    | nil =>
      have z := List.cons.inj e1
      exact .inl ⟨[], x, d, v, t, rfl, e2, by rw [z.1]; exact q⟩
    | cons p0 p =>
      have z := List.cons.inj e1
      rcases Sl.app (v := v) (e := e) (y := p ++ d :: t) ⟨p, c, d, s, t, z.2, rfl, q⟩ with ⟨p', c', d', s', t', h1, h2, q'⟩ | ⟨y', h1, h2⟩
      · exact .inl ⟨x :: p', c', d', s', t', by rw [h1]; rfl, by rw [e2, z.1, List.cons_append, h2]; rfl, q'⟩
      · exact .inr ⟨y', by rw [e2, z.1, List.cons_append, h1]; rfl, h2⟩
theorem Sl.trans {a b c : List Nat} (h : Sl a b) (k : Sl b c) : Sl a c := by
  obtain ⟨p, x, y, s, t, rfl, rfl, q⟩ := h
  rcases Sl.app k with ⟨p', c', d', s', t', h1, h2, q'⟩ | ⟨y', h1, p', c', d', s', t', h2, h3, q'⟩
  · exact ⟨p', c', d', s' ++ x :: s, t', by rw [h1]; simp, h2, q'⟩
  · subst h1 h3
    cases p' with
    | nil =>
      have z := List.cons.inj h2
      refine ⟨p, x, d', s, t', rfl, rfl, ?_⟩
      have z1 : y = c' := z.1
      omega
    | cons p0 p' =>
      have z := List.cons.inj h2
      exact ⟨p, x, p0, s, p' ++ d' :: t', rfl, rfl, by have z1 : y = p0 := z.1; omega⟩
theorem mem_tail {l o : List Nat} : o ∈ (turns l).tail ↔ ∃ k, 1 ≤ k ∧ k < l.length ∧ o = turn l k := by
  unfold turns
  cases hn : l.length with
  | zero =>
    constructor
    · intro h
      simp at h
    · rintro ⟨k, _, h, _⟩
      omega
  | succ n =>
    rw [List.range_succ_eq_map, List.map_cons, List.tail_cons, List.map_map]
    constructor
    · intro h
      obtain ⟨k, hk, e⟩ := List.mem_map.mp h
      have := List.mem_range.mp hk
      exact ⟨k + 1, by omega, by omega, e.symm⟩
    · rintro ⟨k, h1, h2, e⟩
      refine List.mem_map.mpr ⟨k - 1, List.mem_range.mpr (by omega), ?_⟩
      show turn l (k - 1 + 1) = o
      rw [Nat.sub_add_cancel h1, e]
theorem early_iff {l : List Nat} : early l = true ↔ ∀ k, 1 ≤ k → k < l.length → l < l.drop k ++ l.take k := by
  unfold early
  rw [List.all_eq_true]
  constructor
  · intro h k h1 h2
    exact of_decide_eq_true (h (turn l k) (mem_tail.mpr ⟨k, h1, h2, rfl⟩))
  · intro h o ho
    obtain ⟨k, h1, h2, rfl⟩ := mem_tail.mp ho
    exact decide_eq_true (h k h1 h2)
theorem early_suf {l : List Nat} (h : early l = true) {k : Nat} (h1 : 1 ≤ k) (h2 : k < l.length) : Sl l (l.drop k) := by
  have hE := early_iff.mp h
  have a1 := hE k h1 h2
  have ld : (l.drop k).length = l.length - k := List.length_drop
  have lt : (l.take k).length = k := by rw [List.length_take]; omega
  have e : l.take k ++ l.drop k = l := List.take_append_drop k l
  rcases tri l (l.drop k) with g | g | g
  · rcases lt_cases g with z | ⟨c, hc, z⟩
    · exact z
    · have := congrArg List.length z
      rw [List.length_append] at this
      omega
  · have := congrArg List.length g
    omega
  · exfalso
    rcases lt_cases g with z | ⟨c, hc, z⟩
    · have := z.lt (l.take k) []
      rw [List.append_nil] at this
      exact lt_asym a1 this
    · have lc : c.length = k := by
        have := congrArg List.length z
        rw [List.length_append] at this
        omega
      have a2 : c < l.take k := by
        rw (occs := .pos [1]) [z] at a1
        exact cancel a1
      have a3 := hE (l.length - k) (by omega) (by omega)
      have e1 : l.drop (l.length - k) = c := by
        rw (occs := .pos [2]) [z]
        rw [← ld, List.drop_left]
      have e2 : l.take (l.length - k) = l.drop k := by
        rw (occs := .pos [2]) [z]
        rw [← ld, List.take_left]
      rw [e1, e2] at a3
      rw (occs := .pos [1]) [← e] at a3
      rcases lt_cases a2 with y | ⟨d, hd, y⟩
      · exact lt_asym a3 (y.lt _ _)
      · have := congrArg List.length y
        rw [List.length_append] at this
        have : d.length = 0 := by omega
        exact hd (List.eq_nil_of_length_eq_zero this)
theorem suf_early {l : List Nat} (h : ∀ k, 1 ≤ k → k < l.length → Sl l (l.drop k)) : early l = true :=
  early_iff.mpr fun k h1 h2 => by
    have := (h k h1 h2).lt [] (l.take k)
    rwa [List.append_nil] at this
end Rw
namespace Rw
open PySem PySem.Spec PyProof.Rows L2
/-- a piece from place a up to place b, as the least endings tell it -/
def Seg (l : List Nat) (a b : Nat) : Prop := a < b ∧ b ≤ l.length ∧ (∀ i, a < i → i < b → l.drop a < l.drop i) ∧ l.drop b < l.drop a
def Segs (l : List Nat) : List Nat → Prop
  | a :: b :: r => Seg l a b ∧ Segs l (b :: r)
  | _ => True
def segW (l : List Nat) : List Nat → List (List Nat)
  | a :: b :: r => (l.drop a).take (b - a) :: segW l (b :: r)
  | _ => []
/-- none less than the next one -/
def NonInc : List (List Nat) → Prop
  | u :: v :: r => ¬ u < v ∧ NonInc (v :: r)
  | _ => True
def Good (ls : List (List Nat)) : Prop := (∀ x ∈ ls, early x = true ∧ x ≠ []) ∧ NonInc ls
theorem seg_split {l : List Nat} {a b : Nat} (h : Seg l a b) : l.drop a = (l.drop a).take (b - a) ++ l.drop b := by
  have e : l.drop b = (l.drop a).drop (b - a) := by
    rw [List.drop_drop]
    congr 1
    have := h.1
    omega
  rw [e, List.take_append_drop]
theorem seg_len {l : List Nat} {a b : Nat} (h : Seg l a b) : ((l.drop a).take (b - a)).length = b - a := by
  rw [List.length_take, List.length_drop]
  have := h.1
  have := h.2.1
  omega
theorem seg_in {l : List Nat} {a b k : Nat} (h : Seg l a b) (hk : k ≤ b - a) : l.drop (a + k) = ((l.drop a).take (b - a)).drop k ++ l.drop b := by
  rw [← List.drop_drop]
  have e := seg_split h
  have n := seg_len h
  generalize (l.drop a).take (b - a) = u at e n ⊢
  rw [e, List.drop_append_of_le_length (by omega)]
theorem seg_early {l : List Nat} {a b : Nat} (h : Seg l a b) : early ((l.drop a).take (b - a)) = true := by
  obtain ⟨h1, h2, h3, h4⟩ := id h
  refine suf_early fun k k1 k2 => ?_
  have n := seg_len h
  have e := seg_split h
  have ek := fun k hk => seg_in (k := k) h hk
  rw [n] at k2
  generalize (l.drop a).take (b - a) = u at *
  have hS := h3 (a + k) (by omega) (by omega)
  rw [ek k (by omega)] at hS
  have nd : (u.drop k).length = u.length - k := List.length_drop
  rcases tri u (u.drop k) with g | g | g
  · rcases lt_cases g with z | ⟨c, hc, z⟩
    · exact z
    · have := congrArg List.length z
      rw [List.length_append] at this
      omega
  · have := congrArg List.length g
    omega
  · exfalso
    rw [e] at hS
    rcases lt_cases g with z | ⟨c, hc, z⟩
    · exact lt_asym hS (z.lt _ _)
    · have hS' : c ++ l.drop b < l.drop b := by
        have q : u ++ l.drop b = u.drop k ++ (c ++ l.drop b) := by
          rw [← List.append_assoc, ← z]
        rw [q] at hS
        exact cancel hS
      have i2 := h3 (a + (u.length - k)) (by omega) (by omega)
      rw [ek (u.length - k) (by omega)] at i2
      have ec : u.drop (u.length - k) = c := by
        have q : u.drop (u.drop k).length = (u.drop k ++ c).drop (u.drop k).length := congrArg _ z
        rw [List.drop_left, nd] at q
        exact q
      rw [ec] at i2
      exact lt_irr (List.lt_trans (List.lt_trans i2 hS') h4)
theorem seg_ge {l : List Nat} {a b c : Nat} (h : Seg l a b) (k : Seg l b c) : ¬ (l.drop a).take (b - a) < (l.drop b).take (c - b) := by
  intro g
  obtain ⟨h1, h2, h3, h4⟩ := id h
  obtain ⟨k1, k2, k3, k4⟩ := id k
  have n := seg_len h
  have e := seg_split h
  have n' := seg_len k
  have e' := seg_split k
  have ek := fun i hi => seg_in (k := i) k hi
  generalize (l.drop a).take (b - a) = u at *
  generalize (l.drop b).take (c - b) = v at *
  rcases lt_cases g with z | ⟨y, hy, z⟩
  · have q := z.lt (l.drop b) (l.drop c)
    rw [← e, ← e'] at q
    exact lt_asym q h4
  · have ly : v.length = u.length + y.length := by rw [z, List.length_append]
    have y0 : y.length ≠ 0 := fun q => hy (List.eq_nil_of_length_eq_zero q)
    have q1 : y ++ l.drop c < l.drop b := by
      have q := h4
      rw [e, e', z, List.append_assoc] at q
      have q2 := cancel q
      rw [← List.append_assoc, ← z, ← e'] at q2
      exact q2
    have i2 := k3 (b + u.length) (by omega) (by omega)
    rw [ek u.length (by omega)] at i2
    have ed : v.drop u.length = y := by
      rw [z, List.drop_left]
    rw [ed] at i2
    exact lt_asym i2 q1
theorem segs_good {l : List Nat} : ∀ {ps : List Nat}, Segs l ps → Good (segW l ps)
  | [], _ => ⟨fun _ h => (List.not_mem_nil h).elim, trivial⟩
  | [_], _ => ⟨fun _ h => (List.not_mem_nil h).elim, trivial⟩
  | [a, b], h => by
    refine ⟨fun x hx => ?_, trivial⟩
    have e : x = (l.drop a).take (b - a) := by simpa [segW] using hx
    subst e
    refine ⟨seg_early h.1, fun z => ?_⟩
    have g1 := seg_len h.1
    rw [z] at g1
    have g2 := h.1.1
    have g3 : b - a = 0 := g1.symm
    omega
  | a :: b :: c :: r, h => by
    obtain ⟨i1, i2⟩ := segs_good (ps := b :: c :: r) h.2
    refine ⟨fun x hx => ?_, seg_ge h.1 h.2.1, i2⟩
    rcases List.mem_cons.mp hx with e | e
    · subst e
      refine ⟨seg_early h.1, fun z => ?_⟩
      have g1 := seg_len h.1
      rw [z] at g1
      have g2 := h.1.1
      have g3 : b - a = 0 := g1.symm
      omega
    · exact i1 x e
def lastP : Nat → List Nat → Nat
  | a, [] => a
  | _, b :: r => lastP b r
theorem segs_flat {l : List Nat} : ∀ {r : List Nat} {a : Nat}, Segs l (a :: r) → (segW l (a :: r)).flatten ++ l.drop (lastP a r) = l.drop a
  | [], a, _ => by simp [segW, lastP]
  | b :: r, a, h => by
    have i := segs_flat (r := r) (a := b) h.2
    show ((l.drop a).take (b - a) :: segW l (b :: r)).flatten ++ l.drop (lastP b r) = l.drop a
    rw [List.flatten_cons, List.append_assoc, i, ← seg_split h.1]
theorem segs_app {l : List Nat} : ∀ {qs : List Nat} {a b : Nat}, Segs l (qs ++ [a]) → Seg l a b → Segs l (qs ++ [a] ++ [b])
  | [], _, _, _, k => ⟨k, trivial⟩
  | [_], _, _, h, k => ⟨h.1, k, trivial⟩
  | _ :: x :: qs, _, _, h, k => ⟨h.1, segs_app (qs := x :: qs) h.2 k⟩
theorem cut_inv {l : List Nat} : ∀ n, n + 1 ≤ l.length → ∃ qs a, (cutSt l n).1 = qs ++ [a] ∧ (cutSt l n).2 = l.drop a ∧ Segs l (qs ++ [a]) ∧ a ≤ n ∧ (∀ i, a < i → i ≤ n → l.drop a < l.drop i) ∧ ∃ r, qs ++ [a] = 0 :: r
  | 0, _ => ⟨[], 0, rfl, rfl, trivial, Nat.le_refl _, fun i h1 h2 => absurd h1 (by omega), [], rfl⟩
  | n + 1, h => by
    obtain ⟨qs, a, e1, e2, hs, ha, hm, r, er⟩ := cut_inv (l := l) n (by omega)
    have eu : cutSt l (n + 1) = if l.drop (n + 1) < (cutSt l n).2 then ((cutSt l n).1 ++ [n + 1], l.drop (n + 1)) else cutSt l n := rfl
    by_cases g : l.drop (n + 1) < (cutSt l n).2
    · rw [eu, if_pos g]
      refine ⟨qs ++ [a], n + 1, by rw [e1], rfl, segs_app hs ⟨by omega, by omega, fun i h1 h2 => hm i h1 (by omega), by rw [← e2]; exact g⟩, Nat.le_refl _, fun i h1 h2 => absurd h1 (by omega), r ++ [n + 1], by rw [er]; rfl⟩
    · rw [eu, if_neg g]
      refine ⟨qs, a, e1, e2, hs, by omega, fun i h1 h2 => ?_, r, er⟩
      by_cases hi : i ≤ n
      · exact hm i h1 hi
      · have ei : i = n + 1 := by omega
        subst ei
        rw [e2] at g
        rcases tri (l.drop a) (l.drop (n + 1)) with z | z | z
        · exact z
        · have := congrArg List.length z
          rw [List.length_drop, List.length_drop] at this
          omega
        · exact absurd z g
theorem zip_seg (l : List Nat) (e : Nat) : ∀ (r : List Nat) (a : Nat), ((a :: r).zip (r ++ [e])).map (fun ab => (l.drop ab.1).take (ab.2 - ab.1)) = segW l ((a :: r) ++ [e])
  | [], _ => rfl
  | b :: r, a => by
    have i := zip_seg l e r b
    show _ :: ((b :: r).zip (r ++ [e])).map _ = _
    rw [i]
    rfl
theorem last_app : ∀ (r : List Nat) (a e : Nat), lastP a (r ++ [e]) = e
  | [], _, _ => rfl
  | b :: r, _, e => last_app r b e
/-- the places are segments -/
theorem cuts_segs {l : List Nat} (h : 1 ≤ l.length) : ∃ r, cutsOf l = 0 :: r ∧ Segs l ((0 :: r) ++ [l.length]) := by
  obtain ⟨qs, a, e1, _, hs, ha, hm, r, er⟩ := cut_inv (l := l) (l.length - 1) (by omega)
  refine ⟨r, by unfold cutsOf; rw [e1, er], ?_⟩
  rw [← er]
  refine segs_app hs ⟨by omega, Nat.le_refl _, fun i h1 h2 => hm i h1 (by omega), ?_⟩
  rw [List.drop_length]
  refine nil_lt fun z => ?_
  have := congrArg List.length z
  rw [List.length_drop] at this
  simp at this
  omega
theorem pieces_seg {l : List Nat} (h : 1 ≤ l.length) : ∃ r, cutsOf l = 0 :: r ∧ Segs l ((0 :: r) ++ [l.length]) ∧ piecesOf l = segW l ((0 :: r) ++ [l.length]) := by
  obtain ⟨r, e, hs⟩ := cuts_segs h
  refine ⟨r, e, hs, ?_⟩
  unfold piecesOf
  rw [e, List.tail_cons, zip_seg]
theorem pieces_flat {l : List Nat} (h : 1 ≤ l.length) : (piecesOf l).flatten = l := by
  obtain ⟨r, e, hs, ep⟩ := pieces_seg h
  have q := segs_flat (l := l) (r := r ++ [l.length]) (a := 0) hs
  rw [last_app, List.drop_length, List.append_nil] at q
  rw [ep]
  exact q
theorem pieces_good {l : List Nat} (h : 1 ≤ l.length) : Good (piecesOf l) := by
  obtain ⟨r, e, hs, ep⟩ := pieces_seg h
  rw [ep]
  exact segs_good hs
theorem pieces_wd {l : List Nat} (h : Wd l) : ∀ x ∈ piecesOf l, Wd x := fun x hx => by
  have g := (pieces_good h.1).1 x hx
  have e := pieces_flat h.1
  refine ⟨?_, ?_, fun c hc => h.2.2 c (by rw [← e]; exact List.mem_flatten.mpr ⟨x, hx, hc⟩)⟩
  · cases x with
    | nil => exact absurd rfl g.2
    | cons _ _ => exact Nat.le_add_left 1 _
  · have h2 := h.2.1
    obtain ⟨s, t, es⟩ := List.append_of_mem hx
    rw [← e, es, List.flatten_append, List.flatten_cons, List.length_append, List.length_append] at h2
    omega
theorem pieces_ne {l : List Nat} (h : 1 ≤ l.length) : piecesOf l ≠ [] := fun z => by
  have e := pieces_flat h
  rw [z] at e
  rw [← e] at h
  simp at h
end Rw
namespace Rw
theorem nonInc_at : ∀ {ls : List (List Nat)} {i : Nat} {a b : List Nat}, NonInc ls → ls[i]? = some a → ls[i + 1]? = some b → ¬ a < b
  | u :: v :: r, 0, a, b, h, ha, hb => by
    have e1 : u = a := Option.some.inj ha
    have e2 : v = b := Option.some.inj hb
    rw [← e1, ← e2]
    exact h.1
  | [_], 0, _, _, _, _, hb => nomatch hb
  | _ :: v :: r, i + 1, _, _, h, ha, hb => nonInc_at (ls := v :: r) (i := i) h.2 ha hb
  | [_], _ + 1, _, _, _, _, hb => nomatch hb
theorem segW_len (l : List Nat) : ∀ (r : List Nat) (a : Nat), (segW l (a :: r)).length = r.length
  | [], _ => rfl
  | b :: r, _ => by
    show (segW l (b :: r)).length + 1 = _
    rw [segW_len l r b]
    rfl
theorem segW_at {l : List Nat} : ∀ {r : List Nat} {a k : Nat}, Segs l (a :: r) → k ≤ r.length → (a :: r)[k]? = some (((segW l (a :: r)).take k).flatten.length + a)
  | r, a, 0, _, _ => by simp
  | [], _, k + 1, _, h => by simp at h
  | b :: r, a, k + 1, h, hk => by
    have i := segW_at (r := r) (a := b) (k := k) h.2 (by simpa using hk)
    have n := seg_len h.1
    have g := h.1.1
    show (b :: r)[k]? = some ((((l.drop a).take (b - a) :: segW l (b :: r)).take (k + 1)).flatten.length + a)
    rw [i, List.take_succ_cons, List.flatten_cons, List.length_append, n]
    congr 1
    omega
theorem cuts_due {l : List Nat} (h : 1 ≤ l.length) : cutsOf l = (List.range (piecesOf l).length).map fun k => ((piecesOf l).take k).flatten.length := by
  obtain ⟨r, e, hs, ep⟩ := pieces_seg h
  have hl : (piecesOf l).length = r.length + 1 := by
    rw [ep]
    show (segW l (0 :: (r ++ [l.length]))).length = _
    rw [segW_len, List.length_append]
    rfl
  refine List.ext_getElem? fun k => ?_
  by_cases hk : k < r.length + 1
  · have q := segW_at (l := l) (r := r ++ [l.length]) (a := 0) (k := k) hs (by rw [List.length_append]; exact Nat.le_of_lt hk)
    rw [e, List.getElem?_map, List.getElem?_range (by omega), ep]
    have e2 : (0 :: (r ++ [l.length]))[k]? = (0 :: r)[k]? := by
      show ((0 :: r) ++ [l.length])[k]? = _
      rw [List.getElem?_append_left (by simpa using hk)]
    rw [← e2, q]
    rfl
  · rw [e, List.getElem?_eq_none (by simpa using Nat.not_lt.mp hk), List.getElem?_eq_none (by rw [List.length_map, List.length_range]; omega)]
end Rw
namespace Rw
open PySem PySem.Spec PyProof.Rows L2
/-! only one cutting is so; all ways to cut -/
theorem Good.tail {w : List Nat} {vs : List (List Nat)} (h : Good (w :: vs)) : Good vs :=
  ⟨fun x hx => h.1 x (List.mem_cons_of_mem _ hx), match vs, h.2 with
    | [], _ => trivial
    | _ :: _, k => k.2⟩
theorem nonInc_le : ∀ {vs : List (List Nat)} {w : List Nat}, NonInc (w :: vs) → ∀ v ∈ vs, ¬ w < v
  | [], _, _, _, h => (List.not_mem_nil h).elim
  | u :: vs, w, h, v, hv => by
    rcases List.mem_cons.mp hv with e | e
    · rw [e]; exact h.1
    · intro g
      have i := nonInc_le (vs := vs) (w := u) h.2 v e
      rcases tri w u with z | z | z
      · exact h.1 z
      · exact i (z ▸ g)
      · exact i (List.lt_trans z g)
theorem claimB {w : List Nat} (hw : early w = true) : ∀ vs : List (List Nat), (∀ v ∈ vs, ¬ w < v) → ∀ z y r : List Nat, w = z ++ y → z ≠ [] → y ≠ [] → vs.flatten < y ++ r
  | [], _, z, y, r, _, _, hy => nil_lt fun e => hy (List.append_eq_nil_iff.mp e).1
  | v :: vs, h, z, y, r, e, hz, hy => by
    have lz : 1 ≤ z.length := by
      cases z with
      | nil => exact absurd rfl hz
      | cons _ _ => exact Nat.le_add_left 1 _
    have ly : 1 ≤ y.length := by
      cases y with
      | nil => exact absurd rfl hy
      | cons _ _ => exact Nat.le_add_left 1 _
    have hs : Sl w y := by
      have := early_suf hw (k := z.length) lz (by rw [e, List.length_append]; omega)
      rwa [show w.drop z.length = y from by rw [e, List.drop_left]] at this
    rw [List.flatten_cons]
    rcases tri v w with g | g | g
    · rcases lt_cases g with k | ⟨t, ht, k⟩
      · exact (k.trans hs).lt _ _
      · rw [k] at hs
        rcases hs.app with q | ⟨y', q1, q2⟩
        · exact q.lt _ _
        · have hy' : y' ≠ [] := fun z => by
            obtain ⟨p, a, b, s, t, _, e2, _⟩ := q2
            rw [z] at e2
            simp at e2
          have i := claimB hw vs (fun u hu => h u (List.mem_cons_of_mem _ hu)) (z ++ v) y' r (by rw [e, q1, List.append_assoc]) (fun q => hz (List.append_eq_nil_iff.mp q).1) hy'
          rw [q1, List.append_assoc]
          exact List.append_left_lt i
    · rw [g]
      exact hs.lt _ _
    · exact absurd g (h v List.mem_cons_self)
theorem claimA : ∀ (vs : List (List Nat)) (w : List Nat), Good (w :: vs) → vs.flatten < w ++ vs.flatten
  | [], w, h => by
    simpa using nil_lt (h.1 w List.mem_cons_self).2
  | v :: vs, w, h => by
    have hle := nonInc_le h.2
    rcases tri v w with g | g | g
    · rcases lt_cases g with k | ⟨t, ht, k⟩
      · rw [List.flatten_cons]
        exact k.lt _ _
      · have hv := (h.1 v (List.mem_cons_of_mem _ List.mem_cons_self)).2
        have b := claimB (h.1 w List.mem_cons_self).1 vs (fun u hu => hle u (List.mem_cons_of_mem _ hu)) v t (v :: vs).flatten k hv ht
        have q := List.append_left_lt (l₁ := v) b
        rw [← List.append_assoc, ← k] at q
        exact q
    · have i := claimA vs v h.tail
      have q := List.append_left_lt (l₁ := v) i
      rw [List.flatten_cons, ← g]
      exact q
    · exact absurd g (hle v List.mem_cons_self)
theorem no_early {w F : List Nat} (hw : early w = true) {i : Nat} (h1 : 1 ≤ i) (h2 : i < w.length) : ¬ (w ++ F).drop i < w ++ F := fun g => by
  have s := (early_suf hw h1 h2).lt F F
  rw [List.drop_append_of_le_length (by omega)] at g
  exact lt_asym s g
theorem first_len {w w' : List Nat} {vs vs' : List (List Nat)} (h : Good (w :: vs)) (h' : Good (w' :: vs')) (e : w ++ vs.flatten = w' ++ vs'.flatten) : ¬ w.length < w'.length := fun g => by
  have a := claimA vs w h
  have lw : 1 ≤ w.length := by
    have := (h.1 w List.mem_cons_self).2
    cases w with
    | nil => exact absurd rfl this
    | cons _ _ => exact Nat.le_add_left 1 _
  have b := no_early (F := vs'.flatten) (h'.1 w' List.mem_cons_self).1 lw g
  rw [← e, List.drop_left] at b
  exact b a
theorem uniq : ∀ (ls ls' : List (List Nat)), Good ls → Good ls' → ls.flatten = ls'.flatten → ls = ls'
  | [], [], _, _, _ => rfl
  | [], w :: vs, _, h, e => by
    have := (h.1 w List.mem_cons_self).2
    rw [List.flatten_cons] at e
    exact absurd (List.append_eq_nil_iff.mp e.symm).1 this
  | w :: vs, [], h, _, e => by
    have := (h.1 w List.mem_cons_self).2
    rw [List.flatten_cons] at e
    exact absurd (List.append_eq_nil_iff.mp e).1 this
  | w :: vs, w' :: vs', h, h', e => by
    rw [List.flatten_cons, List.flatten_cons] at e
    have l1 := first_len h h' e
    have l2 := first_len h' h e.symm
    obtain ⟨e1, e2⟩ := List.append_inj e (by omega)
    rw [e1, uniq vs vs' h.tail h'.tail e2]
/-- all ways to cut -/
def wStep (f : List (List (List Nat))) (c : Nat) : List (List (List Nat)) := f.map (fun r => r ++ [[c]]) ++ f.map (fun r => r.dropLast ++ [r.getLastD [] ++ [c]])
def waysSt (l : List Nat) (i : Nat) : List (List (List Nat)) := ((l.drop 1).take i).foldl wStep [[l.take 1]]
def waysOf (l : List Nat) : List (List (List Nat)) := waysSt l (l.length - 1)
theorem ways_succ {l : List Nat} {i c : Nat} (h : (l.drop 1)[i]? = some c) : waysSt l (i + 1) = wStep (waysSt l i) c := by
  unfold waysSt
  rw [List.take_add_one (l := l.drop 1), h, List.foldl_append]
  rfl
theorem take_succ' {l : List Nat} {i c : Nat} (h : (l.drop 1)[i]? = some c) : l.take (i + 2) = l.take (i + 1) ++ [c] := by
  rw [List.take_add_one]
  rw [List.getElem?_drop] at h
  rw [show i + 1 = 1 + i from Nat.add_comm _ _, h]
  rfl
theorem snoc {α : Type} {r : List α} (h : r ≠ []) (d : α) : r.dropLast ++ [r.getLastD d] = r := by
  rw [List.getLastD_eq_getLast?, List.getLast?_eq_some_getLast h]
  exact List.dropLast_concat_getLast h
/-- what all ways are -/
theorem ways_all {l : List Nat} (hl : 1 ≤ l.length) : ∀ i, i + 1 ≤ l.length → (waysSt l i).length = 2 ^ i ∧ ∀ r ∈ waysSt l i, r ≠ [] ∧ (∀ x ∈ r, x ≠ []) ∧ r.flatten = l.take (i + 1) ∧ r.length ≤ i + 1
  | 0, _ => by
    refine ⟨rfl, fun r hr => ?_⟩
    have e : r = [l.take 1] := List.mem_singleton.mp hr
    rw [e]
    refine ⟨(fun z => nomatch z), fun x hx z => ?_, by simp, Nat.le_refl _⟩
    rw [List.mem_singleton.mp hx] at z
    have := congrArg List.length z
    rw [List.length_take] at this
    have q : min 1 l.length = 0 := this
    omega
  | i + 1, h => by
    obtain ⟨i1, i2⟩ := ways_all hl i (by omega)
    obtain ⟨c, hc⟩ : ∃ c, (l.drop 1)[i]? = some c := ⟨_, List.getElem?_eq_getElem (by rw [List.length_drop]; omega)⟩
    rw [ways_succ hc, take_succ' hc]
    refine ⟨?_, fun r hr => ?_⟩
    · unfold wStep
      rw [List.length_append, List.length_map, List.length_map, i1, Nat.pow_succ]
      omega
    · rcases List.mem_append.mp hr with z | z
      · obtain ⟨s, hs, rfl⟩ := List.mem_map.mp z
        obtain ⟨a1, a2, a3, a4⟩ := i2 s hs
        refine ⟨by simp, fun x hx => ?_, by rw [List.flatten_append, a3]; simp, by rw [List.length_append]; exact Nat.succ_le_succ a4⟩
        rcases List.mem_append.mp hx with y | y
        · exact a2 x y
        · rw [List.mem_singleton.mp y]
          exact fun z => nomatch z
      · obtain ⟨s, hs, rfl⟩ := List.mem_map.mp z
        obtain ⟨a1, a2, a3, a4⟩ := i2 s hs
        refine ⟨by simp, fun x hx => ?_, ?_, ?_⟩
        · rcases List.mem_append.mp hx with y | y
          · exact a2 x (List.dropLast_subset s y)
          · rw [List.mem_singleton.mp y]
            simp
        · rw [← a3, List.flatten_append]
          have e := congrArg List.flatten (snoc a1 [])
          rw [List.flatten_append] at e
          rw [← e]
          simp
        · rw [List.length_append, List.length_dropLast]
          show _ + 1 ≤ _
          omega
theorem filter_eq_map {α β : Type} [DecidableEq α] [DecidableEq β] (f : α → β) (xs : List α) (a : α) (b : β) (h : ∀ x ∈ xs, f x = b ↔ x = a) (i : xs.filter (fun x => decide (x = a)) = [a]) (hb : f a = b) : (xs.map f).filter (fun y => decide (y = b)) = [b] := by
  rw [List.filter_map]
  have e : xs.filter ((fun y => decide (y = b)) ∘ f) = xs.filter fun x => decide (x = a) := List.filter_congr fun x hx => by
    show decide (f x = b) = decide (x = a)
    by_cases g : x = a
    · rw [decide_eq_true g, decide_eq_true ((h x hx).mpr g)]
    · rw [decide_eq_false g, decide_eq_false fun z => g ((h x hx).mp z)]
  rw [e, i, List.map_singleton, hb]
theorem filter_none_map {α β : Type} [DecidableEq β] (f : α → β) (xs : List α) (b : β) (h : ∀ x ∈ xs, f x ≠ b) : (xs.map f).filter (fun y => decide (y = b)) = [] := by
  rw [List.filter_eq_nil_iff]
  intro y hy
  obtain ⟨x, hx, rfl⟩ := List.mem_map.mp hy
  simpa using h x hx
theorem ways_once {l : List Nat} (hl : 1 ≤ l.length) : ∀ i, i + 1 ≤ l.length → ∀ ls : List (List Nat), ls.flatten = l.take (i + 1) → (∀ x ∈ ls, x ≠ []) → (waysSt l i).filter (fun r => decide (r = ls)) = [ls]
  | 0, _, ls, e, hne => by
    have el : ls = [l.take 1] := by
      have l1 : (l.take (0 + 1)).length = 1 := by rw [List.length_take]; omega
      match ls, e, hne with
      | [], e, _ =>
        have := congrArg List.length e
        rw [l1] at this
        cases this
      | [x], e, _ =>
        have : x = l.take 1 := by simpa using e
        rw [this]
      | x :: y :: r, e, hne =>
        have h1 := hne x List.mem_cons_self
        have h2 := hne y (List.mem_cons_of_mem _ List.mem_cons_self)
        have q := congrArg List.length e
        rw [l1, List.flatten_cons, List.flatten_cons, List.length_append, List.length_append] at q
        have q1 : x.length ≠ 0 := fun z => h1 (List.eq_nil_of_length_eq_zero z)
        have q2 : y.length ≠ 0 := fun z => h2 (List.eq_nil_of_length_eq_zero z)
        omega
    rw [el]
    show [[l.take 1]].filter _ = _
    simp
  | i + 1, h, ls, e, hne => by
    obtain ⟨c, hc⟩ : ∃ c, (l.drop 1)[i]? = some c := ⟨_, List.getElem?_eq_getElem (by rw [List.length_drop]; omega)⟩
    have hall := (ways_all hl i (by omega)).2
    rw [take_succ' hc] at e
    rw [ways_succ hc]
    have hls : ls ≠ [] := fun z => by
      rw [z] at e
      simp at e
    obtain ⟨l1, x, rfl⟩ : ∃ l1 x, ls = l1 ++ [x] := ⟨_, _, (snoc hls []).symm⟩
    have hx : x ≠ [] := hne x (List.mem_append_right _ (List.mem_singleton.mpr rfl))
    obtain ⟨v, d, rfl⟩ : ∃ v d, x = v ++ [d] := ⟨_, _, (snoc hx 0).symm⟩
    have e' : (l1.flatten ++ v) ++ [d] = l.take (i + 1) ++ [c] := by
      rw [← e, List.flatten_append]
      simp
    obtain ⟨e1, e2⟩ := List.append_inj' e' rfl
    have ed : d = c := (List.cons.inj e2).1
    subst ed
    unfold wStep
    rw [List.filter_append]
    by_cases hv : v = []
    · subst hv
      rw [List.append_nil] at e1
      have i1 := ways_once hl i (by omega) l1 e1 fun y hy => hne y (List.mem_append_left _ hy)
      rw [filter_eq_map (fun r => r ++ [[d]]) _ l1 (l1 ++ [[] ++ [d]]) (fun r _ => by
          constructor
          · intro z
            exact (List.append_inj' z rfl).1
          · intro z
            rw [z]
            rfl) i1 rfl, filter_none_map]
      · rfl
      · intro r hr z
        have z2 := (List.cons.inj (List.append_inj' z rfl).2).1
        obtain ⟨a1, a2, _⟩ := hall r hr
        have q : r.getLastD [] = [] := by
          have := congrArg List.length z2
          rw [List.length_append, List.length_append] at this
          exact List.eq_nil_of_length_eq_zero (Nat.add_right_cancel this)
        have m : r.getLastD [] ∈ r := by
          have s := snoc a1 []
          have m : r.getLastD [] ∈ r.dropLast ++ [r.getLastD []] := List.mem_append_right _ (List.mem_singleton.mpr rfl)
          rw [s] at m
          exact m
        exact a2 _ m q
    · have i1 := ways_once hl i (by omega) (l1 ++ [v]) (by rw [List.flatten_append]; simpa using e1) (fun y hy => by
        rcases List.mem_append.mp hy with z | z
        · exact hne y (List.mem_append_left _ z)
        · rw [List.mem_singleton.mp z]
          exact hv)
      rw [filter_none_map, filter_eq_map (fun r => r.dropLast ++ [r.getLastD [] ++ [d]]) _ (l1 ++ [v]) (l1 ++ [v ++ [d]]) (fun r hr => by
          obtain ⟨a1, a2, _⟩ := hall r hr
          constructor
          · intro z
            have z1 := List.append_inj' z rfl
            have z2 := (List.append_inj' (List.cons.inj z1.2).1 rfl).1
            rw [← snoc a1 [], z1.1, z2]
          · intro z
            rw [z]
            simp) i1 (by simp)]
      · rfl
      · intro r _ z
        have z2 := (List.cons.inj (List.append_inj' z rfl).2).1
        have := congrArg List.length z2
        rw [List.length_append] at this
        exact hv (List.eq_nil_of_length_eq_zero (by
          have q : 1 = v.length + 1 := this
          omega))
/-- among all ways just the pieces pass a test that means this -/
theorem ways_pieces {l : List Nat} (hl : 1 ≤ l.length) (p : List (List Nat) → Bool) (h : ∀ r ∈ waysOf l, p r = decide (r = piecesOf l)) : (waysOf l).filter p = [piecesOf l] := by
  have e : (waysOf l).filter p = (waysOf l).filter fun r => decide (r = piecesOf l) := List.filter_congr h
  rw [e]
  have ft : l.take (l.length - 1 + 1) = l := List.take_of_length_le (by omega)
  exact ways_once hl (l.length - 1) (by omega) (piecesOf l) (by rw [ft]; exact pieces_flat hl) fun x hx => ((pieces_good hl).1 x hx).2
theorem ways_good {l : List Nat} (hl : 1 ≤ l.length) : ∀ r ∈ waysOf l, (NonInc r ∧ ∀ x ∈ r, early x = true) ↔ r = piecesOf l := fun r hr => by
  have ft : l.take (l.length - 1 + 1) = l := List.take_of_length_le (by omega)
  obtain ⟨a1, a2, a3, _⟩ := (ways_all hl (l.length - 1) (by omega)).2 r hr
  rw [ft] at a3
  constructor
  · rintro ⟨h1, h2⟩
    exact uniq _ _ ⟨fun x hx => ⟨h2 x hx, a2 x hx⟩, h1⟩ (pieces_good hl) (a3.trans (pieces_flat hl).symm)
  · intro e
    rw [e]
    obtain ⟨g1, g2⟩ := pieces_good hl
    exact ⟨g2, fun x hx => (g1 x hx).1⟩
end Rw
namespace Rw
open PySem PySem.Spec PyProof.Rows L2
/-! list(text) -/
def rListT : List V → Hp → VK → Prop := fun vs H Q => ∃ l : List Nat, vs = [tv l] ∧ l.length ≤ 100000 ∧ ∀ p, H p = none → Q (.ref p) (upd H p (.lst (tvs (l.map fun c => [c]))))
theorem call_listT {X : Cx} (hc : X.calm = true) : CallR X (.type "list") rListT := by
  intro pins s σ H vs us Q I r h
  obtain ⟨l, rfl, hz, q⟩ := h
  obtain ⟨u, rfl, ru⟩ := r.one
  obtain ⟨t, rfl⟩ := ru
  have hzl : l.length ≤ sizeLine := Nat.le_trans hz (by decide)
  refine PySem.call_list_str (I.ok.hd hc) (T l) t (fun h' tk acc c' hk hS hacc => ?_) (by show l.toArray.size ≤ sizeLine; rw [List.size_toArray]; exact hzl)
  obtain ⟨h1, h2⟩ := hacc
  have hsz : acc.toList.length = l.length := by
    rw [Array.length_toList, h1]
    show l.toArray.size = _
    rw [List.size_toArray]
  have hv : ∀ (l : List Nat) (us : List Value), us.length = l.length → (∀ (j : Nat) (v : Value), us[j]? = some v → ∃ (c : Nat) (u : Tok), l[j]? = some c ∧ v = Value.str ⟨#[c]⟩ u) → Vals (tvs (l.map fun c => [c])) us := by
    intro l
    induction l with
    | nil =>
      intro us h _
      cases us with
      | nil => exact .nil
      | cons _ _ => simp at h
    | cons c l ih =>
      intro us h f
      cases us with
      | nil => simp at h
      | cons v us =>
        obtain ⟨c', u, e1, e2⟩ := f 0 v rfl
        cases e1
        subst e2
        exact .cons ⟨u, rfl⟩ (ih us (by simpa using h) fun j w hw => f (j + 1) w hw)
  refine ⟨.ref s.heap.objs.size, upd H s.heap.objs.size (.lst (tvs (l.map fun c => [c]))), I.laid hk (Nat.le_refl _) ⟨?_, acc.toList, c', ?_, by rw [Array.toArray_toList]; exact hS⟩, rfl, q _ (I.hok.fresh (Nat.le_refl _))⟩
  · rw [List.length_map, List.length_map]
    exact hzl
  · refine hv l acc.toList hsz fun j v hv => ?_
    obtain ⟨c, w, e1, e2⟩ := h2 j v (by simpa using hv)
    refine ⟨c, w, ?_, e2⟩
    have : (T l).cps[j]? = l[j]? := by simp [T]
    rw [← this]
    exact e1
/-! what stands in rows -/
inductive Itm where
  | txt (l : List Nat)
  | non
  | lst (ls : List (List Nat))
deriving DecidableEq
def ItAt (H : Hp) : V → Itm → Prop
  | v, .txt l => v = tv l ∧ l.length ≤ 100000 ∧ Ok l
  | v, .non => v = .non
  | v, .lst ls => ∃ p, v = .ref p ∧ H p = some (.lst (tvs ls)) ∧ ∀ x ∈ ls, Ok x
inductive ItAll (H : Hp) : List V → List Itm → Prop
  | nil : ItAll H [] []
  | cons {v vs i is} : ItAt H v i → ItAll H vs is → ItAll H (v :: vs) (i :: is)
theorem ItAt.same {H H' : Hp} (e : Same H H') : ∀ {v : V} {i : Itm}, ItAt H v i → ItAt H' v i
  | _, .txt _, h => h
  | _, .non, h => h
  | _, .lst _, ⟨p, h1, h2, h3⟩ => ⟨p, h1, e _ _ h2, h3⟩
theorem ItAll.same {H H' : Hp} (e : Same H H') : ∀ {vs : List V} {is : List Itm}, ItAll H vs is → ItAll H' vs is
  | _, _, .nil => .nil
  | _, _, .cons a b => .cons (a.same e) (b.same e)
theorem ItAll.app {H : Hp} : ∀ {vs us : List V} {is js : List Itm}, ItAll H vs is → ItAll H us js → ItAll H (vs ++ us) (is ++ js)
  | _, _, _, _, .nil, k => k
  | _, _, _, _, .cons a b, k => .cons a (b.app k)
theorem ItAll.len {H : Hp} : ∀ {vs : List V} {is : List Itm}, ItAll H vs is → vs.length = is.length
  | _, _, .nil => rfl
  | _, _, .cons _ b => congrArg (· + 1) b.len
theorem it_txts {H : Hp} : ∀ {ls : List (List Nat)}, (∀ x ∈ ls, x.length ≤ 100000 ∧ Ok x) → ItAll H (tvs ls) (ls.map .txt)
  | [], _ => .nil
  | x :: r, h => .cons ⟨rfl, (h x List.mem_cons_self).1, (h x List.mem_cons_self).2⟩ (it_txts fun y hy => h y (List.mem_cons_of_mem _ hy))
def dat : Itm → PyData
  | .txt l => .str (T l)
  | .non => .none
  | .lst ls => .list (ls.map fun l => .str (T l))
theorem it_dp {K : PySem.W.Frag} {H : Hp} : ∀ {v : V} {i : Itm}, ItAt H v i → Dp K H v (dat i)
  | _, .txt l, ⟨h, _, _⟩ => by rw [h]; exact .str _
  | _, .non, h => by rw [show _ = V.non from h]; exact .non
  | _, .lst ls, ⟨p, h, hp, _⟩ => by rw [h]; exact .lst (SqL.of hp) (dp_tvs ls)
theorem its_dp {K : PySem.W.Frag} {H : Hp} : ∀ {vs : List V} {is : List Itm}, ItAll H vs is → DpAll K H vs (is.map dat)
  | _, _, .nil => .nil
  | _, _, .cons a b => .cons (it_dp a) (its_dp b)
theorem it_can {H : Hp} : ∀ {v : V} {i : Itm}, ItAt H v i → PyData.canLay0 (dat i) = true
  | _, .txt l, ⟨_, _, h⟩ => by
    have := can_tvs [l] fun x hx => by
      rw [List.mem_singleton.mp hx]
      exact h
    unfold PyData.canLayAll0 at this
    rw [List.map_cons, List.map_nil] at this
    unfold PyData.canLayAll0 at this
    simpa [dat, PyData.canLayAll0] using this
  | _, .non, _ => rfl
  | _, .lst ls, ⟨_, _, _, h⟩ => by
    show PyData.canLay0 (.list _) = true
    unfold PyData.canLay0
    exact can_tvs ls h
theorem its_can {H : Hp} : ∀ {vs : List V} {is : List Itm}, ItAll H vs is → PyData.canLayAll0 (is.map dat) = true
  | _, _, .nil => rfl
  | _, _, .cons (i := i) (is := is) a b => by
    rw [List.map_cons]
    unfold PyData.canLayAll0
    rw [its_can b, it_can a]
    rfl
theorem it_depth : ∀ i : Itm, PyData.depth (dat i) ≤ 2
  | .txt _ => by show PyData.depth (.str _) ≤ 2; unfold PyData.depth; decide
  | .non => by show PyData.depth .none ≤ 2; unfold PyData.depth; decide
  | .lst ls => by
    show PyData.depth (.list _) ≤ 2
    unfold PyData.depth
    have := depth_tvs ls
    omega
theorem its_depth : ∀ is : List Itm, PyData.depthAll (is.map dat) ≤ 2
  | [] => by decide
  | i :: r => by
    rw [List.map_cons]
    unfold PyData.depthAll
    exact Nat.max_le.mpr ⟨it_depth i, its_depth r⟩
theorem its_shaped {H : Hp} {vs : List V} {is : List Itm} (h : ItAll H vs is) : SeqAt.shaped (.list (is.map dat)) = true := by
  unfold SeqAt.shaped
  rw [Bool.and_eq_true]
  constructor
  · unfold PyData.canLay0
    exact its_can h
  · refine decide_eq_true ?_
    unfold PyData.depth
    have := its_depth is
    omega
theorem it_eqv (i : Itm) (l : List Nat) : PyData.eqv (dat i) (.str (T l)) = decide (i = .txt l) := by
  cases i with
  | txt m =>
    show (T m == T l) = _
    rw [T_beq]
    by_cases e : m = l <;> simp [e]
  | non => rfl
  | lst _ => rfl
theorem its_eqv : ∀ (is : List Itm) (ps : List (List Nat)), PyData.eqvAll (is.map dat) (ps.map fun l => .str (T l)) = decide (is = ps.map .txt)
  | [], [] => rfl
  | [], _ :: _ => rfl
  | _ :: _, [] => rfl
  | i :: is, p :: ps => by
    rw [List.map_cons, List.map_cons, List.map_cons]
    unfold PyData.eqvAll
    rw [its_eqv is ps, it_eqv]
    by_cases h1 : i = .txt p <;> by_cases h2 : is = ps.map .txt <;> simp [h1, h2]
theorem its_eqvL (is : List Itm) (ps : List (List Nat)) : PyData.eqv (.list (is.map dat)) (.list (ps.map fun l => .str (T l))) = decide (is = ps.map .txt) := by
  unfold PyData.eqv
  exact its_eqv is ps
def isW : Itm → Bool
  | .txt l => decide (Wd l)
  | _ => false
theorem it_th {K : PySem.W.Frag} {H : Hp} : ∀ {v : V} {i : Itm}, ItAt H v i → Th K H v (isW i)
  | _, .txt l, ⟨h, hz, _⟩ => .inl ⟨l, h, hz, rfl⟩
  | _, .non, h => .inr ⟨rfl, "NoneType", by rw [show _ = V.non from h]; exact .base .non, by decide +kernel⟩
  | _, .lst ls, ⟨p, h, hp, _⟩ => .inr ⟨rfl, "list", by rw [h]; exact .base (.lst hp), by decide +kernel⟩
theorem its_th {K : PySem.W.Frag} {H : Hp} : ∀ {vs : List V} {is : List Itm}, ItAll H vs is → ∀ (i : Nat) (v : V), vs[i]? = some v → ∃ c, (is.map isW)[i]? = some c ∧ Th K H v c
  | _, _, .nil, i, v, h => by simp at h
  | _, _, .cons a b, 0, v, h => by
    cases h
    exact ⟨_, rfl, it_th a⟩
  | _, _, .cons a b, i + 1, v, h => its_th b i v h
theorem its_tvs {H : Hp} : ∀ {vs : List V} {is : List Itm} {ls : List (List Nat)}, ItAll H vs is → vs = tvs ls → is = ls.map .txt
  | _, _, [], .nil, _ => rfl
  | _, _, _ :: _, .nil, e => nomatch e
  | _, _, [], .cons _ _, e => nomatch e
  | _, _, l :: ls, .cons (i := i) a b, e => by
    have e1 := (List.cons.inj e).1
    have e2 := (List.cons.inj e).2
    rw [its_tvs b e2]
    subst e1
    cases i with
    | txt m =>
      have := tv_inj a.1
      rw [this]
      rfl
    | non => exact nomatch (show tv l = V.non from a)
    | lst ls =>
      obtain ⟨p, h, _⟩ := a
      exact nomatch h
theorem txts_inj : ∀ {a b : List (List Nat)}, a.map Itm.txt = b.map Itm.txt → a = b
  | [], [], _ => rfl
  | [], _ :: _, h => nomatch h
  | _ :: _, [], h => nomatch h
  | x :: a, y :: b, h => by
    have h1 := Itm.txt.inj (List.cons.inj h).1
    have h2 := txts_inj (List.cons.inj h).2
    rw [h1, h2]
theorem its_rows {K : PySem.W.Frag} {H : Hp} {p : Addr} {vs : List V} {is : List Itm} {ps : List (List Nat)} (hp : H p = some (.lst vs)) (h : ItAll H vs is) (hz : is.length ≤ 1000) (hw : ∀ x ∈ ps, Wd x) :
    Rows K H (.ref p) ps (decide (is = ps.map .txt)) := by
  refine .inr ⟨p, vs, is.map isW, rfl, hp, by rw [h.len]; omega, by rw [List.length_map, h.len], its_th h, fun hb => decide_eq_false fun e => ?_, fun ls e _ => ?_⟩
  · rw [e, List.map_map] at hb
    have : (ps.map (isW ∘ Itm.txt)).all id = true := by
      rw [List.all_map, List.all_eq_true]
      exact fun x hx => decide_eq_true (hw x hx)
    rw [this] at hb
    cases hb
  · rw [its_tvs h e]
    by_cases g : ls = ps
    · rw [g]; simp
    · rw [decide_eq_false g]
      exact decide_eq_false fun z => g (txts_inj z)
/-- what may be handed in -/
def Handed (K : PySem.W.Frag) (H : Hp) (r : V) (ps : List (List Nat)) (b : Bool) : Prop :=
  (b = false ∧ (∃ t : String, TyX K H r (.type t) ∧ kitB t "list" = some false) ∧ ((∃ d, Dp K H r d ∧ SeqAt.shaped d = true) ∨ ∃ a, r = .ref a ∧ H a = some (.dK []))) ∨
  (∃ (p : Addr) (vs : List V) (is : List Itm), r = .ref p ∧ H p = some (.lst vs) ∧ ItAll H vs is ∧ is.length ≤ 1000 ∧ b = decide (is = ps.map .txt))
def rNeK (K : PySem.W.Frag) : R2 := fun x y H Q => rNeD K x y H Q ∨ rNeDA x y H Q
theorem op_neK {X : Cx} (hu : X.A.units + 64 < cLine) : OpR X (compareOp .NotEq) (rNeK X.K) := fun pins s σ H x y v u Q I rx ry h =>
  h.elim (fun h => op_neD hu pins s σ H x y v u Q I rx ry h) fun h => op_ne_dictA (by omega) pins s σ H x y v u Q I rx ry h
theorem shaped_refl {d : PyData} (h : SeqAt.shaped d = true) : PyData.eqv d d = true := by
  unfold SeqAt.shaped at h
  rw [Bool.and_eq_true] at h
  exact SeqAt.eqv_refl d h.1
end Rw
namespace Rw
open PySem PySem.Spec PyProof.Rows L2
mutual
theorem dp_same {K : PySem.W.Frag} {H H' : Hp} (e : Same H H') : ∀ (d : PyData) (v : V), Dp K H v d → Dp K H' v d
  | .none, _, h => by cases h; exact .non
  | .bool b, _, h => by cases h; exact .bl b
  | .int i, _, h => by cases h; exact .int i
  | .str x, _, h => by cases h; exact .str x
  | .list ds, _, h => by
    cases h with
    | lst h1 h2 => exact .lst (e.seq h1) (dps_same e ds _ h2)
  | .tuple ds, _, h => by
    cases h with
    | tup h1 h2 =>
      refine .tup ?_ (dps_same e ds _ h2)
      rcases h1 with (h | ⟨o, h⟩) | h
      · exact .inl (.inl (e _ _ h))
      · exact .inl (.inr ⟨o, e _ _ h⟩)
      · exact .inr h
  | .dict _, _, h => nomatch h
theorem dps_same {K : PySem.W.Frag} {H H' : Hp} (e : Same H H') : ∀ (ds : List PyData) (vs : List V), DpAll K H vs ds → DpAll K H' vs ds
  | [], _, h => by cases h; exact .nil
  | d :: ds, _, h => by
    cases h with
    | cons h1 h2 => exact .cons (dp_same e d _ h1) (dps_same e ds _ h2)
end
end Rw
namespace Rk
open PySem PySem.Spec PyProof.Rows L2 Rw
abbrev s_l_long : Stmt := topS 18
abbrev n_l_long : List Str := ["_law_script", "_law_cell", "_law_signs_here", "_law_cells", "_law_k", "_law_one"]
abbrev p_l_long : List Str := ["_law_script", "_law_cell"]
theorem sc_l_long : FnScope n_l_long p_l_long (defScope s_l_long) := ⟨rfl, rfl, rfl, by decide +kernel, rfl, by decide +kernel, by decide +kernel⟩
def spLong (K : PySem.W.Frag) : Sp := fun vs H Q _ => ∃ (a : Addr) (ns : List Int) (c : Int), vs = [.ref a, .int c] ∧ SqL K H a (ns.map V.int) ∧ ns.length ≤ 63 ∧ ∀ l H', Same H H' → Wd l → Q (tv l) H'
section
variable {P : Program} {w : World} {K : PySem.W.Frag} {mg : Str → Option Value} {base : Heap} (B : Bt mg)
include B
theorem ok_long (D : Dfn K mg "_law_long" s_l_long p_l_long) (c__law_mixed : Cal CX0 P w K mg base 1 "_law_mixed" spMixed) (c__law_signs : Cal CX0 P w K mg base 2 "_law_signs" spSigns) : Cal CX0 P w K mg base 3 "_law_long" (spLong K) := by
  refine D.cal fun f fd F => F.ok sc_l_long (fun vs H Q E h => ?_) (fun cdv A outer s H vs Q E hr h => ?_)
  · obtain ⟨a, ns, c, rfl, _⟩ := h
    rfl
  · obtain ⟨a, ns, c, rfl, hS, h63, q⟩ := h
    refine ⟨_, (pss_cons (ps_set (i := 2) sc_l_long.nd rfl (Or.inr rfl) (pe_slice sl_T (pe_cal c__law_signs hr (by decide) pass0 (pa_cons (pv 1) pa_nil)) po_none (po_some pe_int)))
      (pss_cons (ps_set (i := 3) sc_l_long.nd rfl (Or.inl rfl) (pe_slice sl_list (pe_op op_cat (pe_lst (pa_cons pe_int pa_nil)) (pe_callTy call_list_of (by rfl) B.m_list (by decide +kernel) (pa_cons (pv 0) pa_nil))) po_none (po_some pe_int)))
      (pss_one (ps_ret (pe_joinT pe_str (pe_lc (own := [("_law_k", 4), ("_law_one", 5)]) (g := gTup K 2 (gCons (gName 4) (gCons (gName 5) gNil))) rfl sc_l_long.nd (pi_enum (by rfl) B.m_enumerate (pa_cons (pv 3) pa_nil)) (blkOk_by (own := [("_law_k", 4), ("_law_one", 5)]) (N := n_l_long) (sc := defScope s_l_long) (by decide +kernel)) (fun _ _ _ _ _ => (pg_tup rfl (pgs_cons (pg_name (i := 4) sc_l_long.nd rfl (Or.inl rfl)) (pgs_cons (pg_name (i := 5) sc_l_long.nd rfl (Or.inl rfl)) pgs_nil)))) (fun _ _ _ _ _ => pts_nil) (fun _ _ _ _ _ => (pe_ix ix_T (pv 2) (pe_op op_mod (pe_op op_fdiv (pe_cal c__law_mixed hr (by decide) pass0 (pa_cons (pv 5) (pa_cons (pe_op op_add pe_int (pv 4)) pa_nil))) pe_int) (pe_callB call_lenT (by rfl) B.m_len PySem.boot_len (pa_cons (pv 2) pa_nil))) (fun _ _ => rfl))))))))), ?_⟩
    refine ⟨_, rfl, c, rfl, fun s0 H1 e1 s1 s2 sg => ?_⟩
    refine ⟨4, rfl, s0, rfl, by omega, ?_⟩
    have e4 : cutL s0 none (some 4) = s0.take 4 := cutL_to s0 4
    rw [e4]
    have t1 : 1 ≤ (s0.take 4).length := by rw [List.length_take]; omega
    have t2 : (s0.take 4).length ≤ 4 := by rw [List.length_take]; omega
    have tg : Sg (s0.take 4) := sg.sub fun c hc => List.mem_of_mem_take hc
    generalize s0.take 4 = t at t1 t2 tg ⊢
    refine ⟨(show 1 ≤ sizeLine by decide), fun p1 n1 => ?_⟩
    have k1 := same_upd (o := .lst [V.int 3]) n1
    refine ⟨_, rfl, a, ns.map V.int, rfl, .inl ((e1.trans k1).seq hS), fun p2 n2 => ?_⟩
    have k2 := same_upd (o := .lst (ns.map V.int)) n2
    refine ⟨p1, p2, _, _, rfl, rfl, k2 _ _ upd_same, upd_same, by rw [List.length_map]; exact big (by show 1 + _ ≤ _; omega), fun p3 n3 => ?_⟩
    have e3 : [V.int 3] ++ ns.map V.int = (3 :: ns).map V.int := rfl
    rw [e3]
    have k3 := same_upd (o := .lst ((3 :: ns).map V.int)) n3
    refine ⟨300, rfl, p3, _, rfl, SqL.of upd_same, fun p4 n4 => ?_⟩
    have e5 : cutV ((3 :: ns).map V.int) none (some 300) = ((3 :: ns).take 300).map V.int := by
      have z : cutV ((3 :: ns).map V.int) none (some ((300 : Nat) : Int)) = ((3 :: ns).map V.int).take 300 := cutL_to _ 300
      rw [show ((300 : Nat) : Int) = 300 from rfl] at z
      rw [z, List.map_take]
    rw [e5]
    have u1 : 1 ≤ ((3 :: ns).take 300).length := by rw [List.length_take, List.length_cons]; omega
    have u2 : ((3 :: ns).take 300).length ≤ 64 := by rw [List.length_take, List.length_cons]; omega
    generalize (3 :: ns).take 300 = us at u1 u2 ⊢
    have k4 := same_upd (o := .lst (us.map V.int)) n4
    have kk := (e1.trans (k1.trans (k2.trans k3))).trans k4
    refine ⟨⟨_, rfl⟩, _, rfl, p4, us.map V.int, rfl, SqL.of upd_same, fun Dl hD => ?_⟩
    refine lc_it walk_enum (LcP _ Dl Ones) (lcp_start hD Ones.nil) (fun i H3 _ ⟨_, acc, e, _, _, _⟩ => SqL.of (e _ _ upd_same)) ?_ ?_
    · rintro i x H2 H2' hi ⟨_, acc, e, hD2, hlen, ho⟩ ⟨Ta, x1, y1, rfl, nT, rfl, hx, hy⟩
      rw [List.length_map] at hi
      have ex : V.int ((i : Nat) : Int) = x1 := Option.some.inj hx
      dsimp only at hy
      obtain ⟨z, hz⟩ : ∃ z, us[i]? = some z := ⟨_, List.getElem?_eq_getElem hi⟩
      rw [List.getElem?_map, hz] at hy
      have ey : V.int z = y1 := Option.some.inj hy
      subst ex ey
      refine ⟨Ta, _, rfl, .inl (.inl upd_same), rfl, _, _, rfl, _, _, rfl, rfl, rfl, keepAll ?_⟩
      refine ⟨_, rfl, _, rfl, _, rfl, 420, _, rfl, rfl, z, _, rfl, fun i3 g0 g1 => ?_⟩
      have ht0 : (0 : Int) < (t.length : Nat) := by omega
      obtain ⟨d0, d1⟩ := draw7 g0 ht0
      obtain ⟨y, hy, hyt⟩ := at_some (xs := t) d0 d1
      refine ⟨i3, 7, rfl, rfl, ⟨by decide, by decide⟩, _, rfl, t, rfl, by omega, _, _, rfl, rfl, ht0, t, _, y, rfl, rfl, by omega, hyt, ?_⟩
      exact lcp_put hD e hD2 hlen (by omega) (same_upd nT) (ho.snoc (tg y hy).1 (tg y hy).2)
    · rintro H2 ⟨_, acc, e, hD2, _, ls, rfl, hl, ho⟩
      rw [List.length_map] at hl
      obtain ⟨f1, f2⟩ := flat_one ho
      refine ⟨Dl, ls, rfl, rfl, SqL.of hD2, by omega, ?_⟩
      exact q _ _ (kk.trans e) ⟨by omega, by omega, f2⟩
end
end Rk
namespace Rk
open PySem PySem.Spec PyProof.Rows L2 Rw
abbrev s_l_so : Stmt := topS 20
abbrev n_l_so : List Str := ["_law_rows", "_law_k"]
abbrev p_l_so : List Str := ["_law_rows"]
theorem sc_l_so : FnScope n_l_so p_l_so (defScope s_l_so) := ⟨rfl, rfl, rfl, by decide +kernel, rfl, by decide +kernel, by decide +kernel⟩
def So (ls : List (List Nat)) : Prop := NonInc ls ∧ ∀ x ∈ ls, early x = true
theorem nonInc_of : ∀ {ls : List (List Nat)}, (∀ i a b, ls[i]? = some a → ls[i + 1]? = some b → ¬ a < b) → NonInc ls
  | [], _ => trivial
  | [_], _ => trivial
  | u :: v :: r, h => ⟨h 0 u v rfl rfl, nonInc_of (ls := v :: r) fun i a b ha hb => h (i + 1) a b ha hb⟩
def spSo (K : PySem.W.Frag) : Sp := fun vs H Q _ => ∃ (p : Addr) (ls : List (List Nat)), vs = [.ref p] ∧ H p = some (.lst (tvs ls)) ∧ ls.length ≤ 1000 ∧ (∀ x ∈ ls, x.length ≤ 1000 ∧ Ok x) ∧ ∀ b H', Same H H' → (b = true ↔ So ls) → Q (.bl b) H'
section
variable {P : Program} {w : World} {K : PySem.W.Frag} {mg : Str → Option Value} {base : Heap} (B : Bt mg)
include B
theorem ok_so (D : Dfn K mg "_law_so" s_l_so p_l_so) (c__law_early : Cal CX0 P w K mg base 2 "_law_early" spLEarly) : Cal CX0 P w K mg base 3 "_law_so" (spSo K) := by
  refine D.cal fun f fd F => F.ok sc_l_so (fun vs H Q E h => ?_) (fun cdv A outer s H vs Q E hr h => ?_)
  · obtain ⟨p, ls, rfl, _⟩ := h
    rfl
  · obtain ⟨p, ps, rfl, hp, hl, hx, q⟩ := h
    refine ⟨_, (pss_cons (ps_for PassesOwn.never rfl (pi_range1 (by rfl) B.m_range (pa_cons (pe_callB call_len_seq (by rfl) B.m_len PySem.boot_len (pa_cons (pv 0) pa_nil)) pa_nil)) (pg_name (i := 1) sc_l_so.nd rfl (Or.inl rfl))
        (pss_one (ps_if (PW.pt (pw_or (pt_not (pt_val (pe_cal c__law_early hr (by decide) pass0 (pa_cons (pe_ix ix_list (pv 0) (pv 1) (fun _ _ => rfl)) pa_nil)))) (pw_or1 (PW.pt (pw_and (pt_cmpR op_gt (pv 1) pe_int (nomark _)) (pw_and1 (pt_cmpR op_ltT (pe_ix ix_list (pv 0) (pe_op op_sub (pv 1) pe_int) (fun _ _ => rfl)) (pe_ix ix_list (pv 0) (pv 1) (fun _ _ => rfl)) (nomark _)))))))) (pss_one (ps_ret pe_bl)) pss_nil)))
      (pss_one (ps_ret pe_bl))), ?_⟩
    refine ⟨_, rfl, p, tvs ps, rfl, .inl (SqL.of hp), _, rfl, by omega, by rw [List.length_map]; omega, ?_⟩
    refine for_range (lo := 0) (n := (tvs ps).length) (fun i σ H' => (∃ y, σ = [some (.ref p), y]) ∧ Same H H' ∧ (∀ j x, j < i → ps[j]? = some x → early x = true) ∧ (∀ j a b, j + 1 < i → ps[j]? = some a → ps[j + 1]? = some b → ¬ a < b)) ⟨⟨none, rfl⟩, Same.refl H, fun j x h => absurd h (by omega), fun j a b h => absurd h (by omega)⟩ ?_ ?_
    · rintro i σ H4 hi ⟨⟨y, rfl⟩, e4, o1, o2⟩
      have hi : i < (tvs ps).length := hi
      rw [List.length_map] at hi
      obtain ⟨x, hx1⟩ : ∃ x, ps[i]? = some x := ⟨_, List.getElem?_eq_getElem hi⟩
      have hxm := List.mem_of_getElem? hx1
      have hxw := hx x hxm
      have ei : (0 : Int) + (i : Int) = ((i : Nat) : Int) := Int.zero_add _
      rw [ei]
      have at1 : atI (tvs ps) ((i : Nat) : Int) = some (tv x) := atI_nat (by rw [List.getElem?_map, hx1]; rfl)
      have hp4 := e4 _ _ hp
      refine ⟨_, rfl, _, rfl, p, _, _, _, rfl, rfl, SqL.of hp4, at1, x, rfl, hxw.1, hxw.2, fun H5 e5 => ?_⟩
      have hp5 := e5 _ _ hp4
      cases he : early x with
      | false =>
        refine ⟨false, rfl, iteT (iteT ?_)⟩
        exact q false H5 (e4.trans e5) ⟨(fun z => nomatch z), fun z => by rw [z.2 x hxm] at he; cases he⟩
      | true =>
        have o1' : ∀ j x, j < i + 1 → ps[j]? = some x → early x = true := fun j x' hj hx' => by
          by_cases g : j < i
          · exact o1 j x' g hx'
          · have ej : j = i := by omega
            rw [ej, hx1] at hx'
            rw [← Option.some.inj hx']
            exact he
        refine ⟨true, rfl, iteF ?_⟩
        refine ⟨_, rfl, _, _, rfl, rfl, _, rfl, ite2 (fun h => ?_) (fun h => ?_)⟩
        · have h := of_decide_eq_true h
          obtain ⟨j, rfl⟩ : ∃ j, i = j + 1 := ⟨i - 1, by omega⟩
          obtain ⟨z, hz⟩ : ∃ z, ps[j]? = some z := ⟨_, List.getElem?_eq_getElem (by omega)⟩
          have at2 : atI (tvs ps) (((j + 1 : Nat) : Int) - 1) = some (tv z) := by
            rw [show ((j + 1 : Nat) : Int) - 1 = ((j : Nat) : Int) from by omega]
            exact atI_nat (by rw [List.getElem?_map, hz]; rfl)
          refine ⟨_, rfl, _, rfl, _, _, rfl, rfl, p, _, _, _, rfl, rfl, SqL.of hp5, at2, _, rfl, _, rfl, p, _, _, _, rfl, rfl, SqL.of hp5, at1, z, x, rfl, rfl, ?_⟩
          cases hd : decide (z < x) with
          | true =>
            refine ⟨true, rfl, iteT ?_⟩
            exact q false H5 (e4.trans e5) ⟨(fun z => nomatch z), fun k => absurd (of_decide_eq_true hd) (nonInc_at k.1 hz hx1)⟩
          | false =>
            refine ⟨false, rfl, iteF ?_⟩
            refine ⟨⟨_, rfl⟩, e4.trans e5, o1', fun j' a b hj ha hb => ?_⟩
            by_cases g : j' + 1 < j + 1
            · exact o2 j' a b g ha hb
            · have ej : j' = j := by omega
              subst ej
              rw [hz] at ha
              rw [hx1] at hb
              rw [← Option.some.inj ha, ← Option.some.inj hb]
              exact of_decide_eq_false hd
        · have h : ¬ (0 : Int) < ((i : Nat) : Int) := by simpa using h
          refine iteF ⟨⟨_, rfl⟩, e4.trans e5, o1', fun j' a b hj => absurd hj (by omega)⟩
    · rintro σ H4 ⟨⟨y, rfl⟩, e4, o1, o2⟩
      rw [List.length_map] at o1 o2
      refine q true H4 e4 ⟨fun _ => ⟨nonInc_of fun i a b ha hb => o2 i a b ?_ ha hb, fun x hx => ?_⟩, fun _ => rfl⟩
      · exact (List.getElem?_eq_some_iff.mp hb).1
      · obtain ⟨j, hj, e⟩ := List.getElem_of_mem hx
        exact o1 j x hj (by rw [List.getElem?_eq_getElem hj, e])
end
end Rk
namespace Rk
open PySem PySem.Spec PyProof.Rows L2 Rw
abbrev s_l_ways : Stmt := topS 19
abbrev n_l_ways : List Str := ["_law_word", "_law_found", "_law_sign", "_law_rows"]
abbrev p_l_ways : List Str := ["_law_word"]
theorem sc_l_ways : FnScope n_l_ways p_l_ways (defScope s_l_ways) := ⟨rfl, rfl, rfl, by decide +kernel, rfl, by decide +kernel, by decide +kernel⟩
/-- lists of texts, where they stand -/
inductive Nest (H : Hp) : List Addr → List (List (List Nat)) → Prop
  | nil : Nest H [] []
  | cons {a as r rs} : H a = some (.lst (tvs r)) → Nest H as rs → Nest H (a :: as) (r :: rs)
theorem Nest.same {H H' : Hp} (e : Same H H') : ∀ {as : List Addr} {rs : List (List (List Nat))}, Nest H as rs → Nest H' as rs
  | _, _, .nil => .nil
  | _, _, .cons a b => .cons (e _ _ a) (b.same e)
theorem Nest.upd {H : Hp} {D : Addr} {o : HO} : ∀ {as : List Addr} {rs : List (List (List Nat))}, D ∉ as → Nest H as rs → Nest (upd H D o) as rs
  | _, _, _, .nil => .nil
  | _, _, h, .cons a b => .cons (by rw [upd_ne (fun z => h (by rw [← z]; exact List.mem_cons_self))]; exact a) (b.upd fun z => h (List.mem_cons_of_mem _ z))
theorem Nest.app {H : Hp} : ∀ {as bs : List Addr} {rs ss : List (List (List Nat))}, Nest H as rs → Nest H bs ss → Nest H (as ++ bs) (rs ++ ss)
  | _, _, _, _, .nil, k => k
  | _, _, _, _, .cons a b, k => .cons a (b.app k)
theorem Nest.len {H : Hp} : ∀ {as : List Addr} {rs : List (List (List Nat))}, Nest H as rs → as.length = rs.length
  | _, _, .nil => rfl
  | _, _, .cons _ b => congrArg (· + 1) b.len
theorem Nest.at {H : Hp} : ∀ {as : List Addr} {rs : List (List (List Nat))} {i : Nat} {a : Addr}, Nest H as rs → as[i]? = some a → ∃ r, rs[i]? = some r ∧ H a = some (.lst (tvs r))
  | _, _, _, _, .nil, h => by simp at h
  | _, _, 0, _, .cons a b, h => ⟨_, rfl, by rw [← Option.some.inj h]; exact a⟩
  | _, _, i + 1, _, .cons a b, h => b.at (i := i) h
/-- a comprehension that makes lists -/
def LcN (H1 : Hp) (D : Addr) (G : List (List (List Nat))) (i : Nat) (H : Hp) : Prop := H1 D = none ∧ ∃ as : List Addr, Same H1 H ∧ H D = some (.lst (as.map V.ref)) ∧ as.length ≤ i ∧ D ∉ as ∧ Nest H as (G.take i)
theorem lcn_start {H1 : Hp} {D : Addr} {G : List (List (List Nat))} (h : H1 D = none) : LcN H1 D G 0 (upd H1 D (.lst [])) := ⟨h, [], same_upd h, upd_same, Nat.le_refl _, (fun z => nomatch z), .nil⟩
theorem lcn_put {H1 H H4 : Hp} {D a : Addr} {G : List (List (List Nat))} {i : Nat} {r : List (List Nat)} (h : LcN H1 D G i H) (e4 : Same H H4) (ha : H4 a = some (.lst (tvs r))) (hne : D ≠ a) (hG : G[i]? = some r) (hi : i < 100000) :
    ∃ acc, H4 D = some (.lst acc) ∧ acc.length < sizeLine ∧ LcN H1 D G (i + 1) (L2.upd H4 D (.lst (acc ++ [.ref a]))) := by
  obtain ⟨h1, as, e, hD, hl, hn, hN⟩ := h
  refine ⟨as.map V.ref, e4 _ _ hD, by rw [List.length_map]; exact bigL (by omega), h1, as ++ [a], Same.mut (e.trans e4) h1, by rw [upd_same, List.map_append]; rfl, by rw [List.length_append]; exact Nat.succ_le_succ hl, fun z => ?_, ?_⟩
  · rcases List.mem_append.mp z with q | q
    · exact hn q
    · exact hne (List.mem_singleton.mp q)
  · rw [List.take_add_one, hG]
    exact ((hN.same e4).upd hn).app (.cons (by rw [upd_ne (Ne.symm hne)]; exact ha) .nil)
def spWays : Sp := fun vs H Q _ => ∃ l : List Nat, vs = [tv l] ∧ 1 ≤ l.length ∧ l.length ≤ 8 ∧ ∀ (p : Addr) (as : List Addr) (H' : Hp), H p = none → Same H H' → H' p = some (.lst (as.map V.ref)) → Nest H' as (waysOf l) → Q (.ref p) H'
section
variable {P : Program} {w : World} {K : PySem.W.Frag} {mg : Str → Option Value} {base : Heap} (B : Bt mg)
include B
theorem ok_ways (D : Dfn K mg "_law_ways" s_l_ways p_l_ways) : Cal CX0 P w K mg base 1 "_law_ways" spWays := by
  refine D.cal fun f fd F => F.ok sc_l_ways (fun vs H Q E h => ?_) (fun cdv A outer s H vs Q E hr h => ?_)
  · obtain ⟨l, rfl, _⟩ := h
    rfl
  · obtain ⟨l, rfl, h1, h8, q⟩ := h
    refine ⟨_, (pss_cons (ps_set (i := 1) sc_l_ways.nd rfl (Or.inl rfl) (pe_lst (pa_cons (pe_lst (pa_cons (pe_slice sl_T (pv 0) po_none (po_some pe_int)) pa_nil)) pa_nil)))
      (pss_cons (ps_for PassesOwn.never rfl (pi_str (pe_slice sl_T (pv 0) (po_some pe_int) po_none)) (pg_name (i := 2) sc_l_ways.nd rfl (Or.inr rfl))
        (pss_one (ps_set (i := 1) sc_l_ways.nd rfl (Or.inl rfl) (pe_op op_cat (pe_lc (own := [("_law_rows", 3)]) rfl sc_l_ways.nd (pi_list (pv 1)) (blkOk_by (own := [("_law_rows", 3)]) (N := n_l_ways) (sc := defScope s_l_ways) (by decide +kernel)) (fun _ _ _ _ _ => (pg_name (i := 3) sc_l_ways.nd rfl (Or.inl rfl))) (fun _ _ _ _ _ => pts_nil) (fun _ _ _ _ _ => (pe_op op_cat (pv 3) (pe_lst (pa_cons (pv 2) pa_nil))))) (pe_lc (own := [("_law_rows", 3)]) rfl sc_l_ways.nd (pi_list (pv 1)) (blkOk_by (own := [("_law_rows", 3)]) (N := n_l_ways) (sc := defScope s_l_ways) (by decide +kernel)) (fun _ _ _ _ _ => (pg_name (i := 3) sc_l_ways.nd rfl (Or.inl rfl))) (fun _ _ _ _ _ => pts_nil) (fun _ _ _ _ _ => (pe_op op_cat (pe_slice (sl_listK (K := K) rfl) (pv 3) po_none (po_some (pe_un un_neg pe_int))) (pe_lst (pa_cons (pe_op op_addT (pe_ix (ix_listK (K := K) rfl) (pv 3) (pe_un un_neg pe_int) (fun _ _ => rfl)) (pv 2)) pa_nil)))))))))
      (pss_one (ps_ret (pv 1))))), ?_⟩
    refine ⟨_, rfl, 1, rfl, l, rfl, by omega, (show 1 ≤ sizeLine by decide), fun a0 n0 => ?_⟩
    have e1 : cutL l none (some 1) = l.take 1 := cutL_to l 1
    have e2 : cutL l (some 1) none = l.drop 1 := cutL_from l 1
    rw [e1]
    refine ⟨(show 1 ≤ sizeLine by decide), fun p0 np0 => ?_⟩
    have k0 := same_upd (o := .lst [tv (l.take 1)]) n0
    have k1 := same_upd (o := .lst [V.ref a0]) np0
    refine ⟨_, rfl, 1, rfl, l, rfl, by omega, ?_⟩
    rw [e2]
    refine ⟨T (l.drop 1), rfl, ?_⟩
    refine for_it (walk_T (l.drop 1)) (fun i σ H' => ∃ (p : Addr) (as : List Addr) (y : Option V), σ = [some (tv l), some (.ref p), y, none] ∧ H p = none ∧ Same H H' ∧ H' p = some (.lst (as.map V.ref)) ∧ Nest H' as (waysSt l i)) ⟨p0, [a0], none, rfl, k0.free np0, k0.trans k1, upd_same, .cons (k1 _ _ upd_same) .nil⟩ (fun _ _ _ _ _ => trivial) ?_ ?_
    · rintro i x σ H0 H1 hi ⟨p, as, y, rfl, np, e3, hp, hN⟩ ⟨rfl, c, hc, rfl⟩
      have hi2 : i + 2 ≤ l.length := by rw [List.length_drop] at hi; omega
      obtain ⟨w1, w2⟩ := ways_all h1 i (by omega)
      have hpow : 2 ^ i ≤ 128 := Nat.le_trans (Nat.pow_le_pow_right (by decide) (show i ≤ 7 by omega)) (by decide)
      have hlen := hN.len
      have fin : ∀ (G : List (List (List Nat))) (n : Nat), n = G.length → G.take n = G := fun G n h => List.take_of_length_le (by omega)
      refine ⟨_, rfl, p, rfl, ⟨_, SqL.of hp⟩, fun D1 hD1 => ?_⟩
      refine lc_it walk_list (LcN H1 D1 ((waysSt l i).map fun r => r ++ [[c]])) (lcn_start hD1) (fun j H3 _ ⟨_, _, e, _, _, _, _⟩ => SqL.of (e _ _ hp)) ?_ ?_
      · rintro j x H2 H2' hj hL ⟨rfl, hx⟩
        rw [List.length_map] at hj
        obtain ⟨a, ha⟩ : ∃ a, as[j]? = some a := ⟨_, List.getElem?_eq_getElem hj⟩
        rw [List.getElem?_map, ha] at hx
        have ex : V.ref a = x := Option.some.inj hx
        subst ex
        obtain ⟨r, hr1, hr2⟩ := hN.at ha
        have hrl := (w2 r (List.mem_of_getElem? hr1)).2.2.2
        obtain ⟨_, _, e, hD2, _, _, _⟩ := id hL
        have hr3 := e _ _ hr2
        refine ⟨rfl, keepAll ?_⟩
        refine ⟨_, rfl, _, rfl, (show 1 ≤ sizeLine by decide), fun a1 na1 => ?_⟩
        have k1 := same_upd (o := .lst [tv [c]]) na1
        refine ⟨a, a1, _, _, rfl, rfl, k1 _ _ hr3, upd_same, by rw [List.length_map]; exact big (by show _ + 1 ≤ _; omega), fun a2 na2 => ?_⟩
        have e3 : tvs r ++ [tv [c]] = tvs (r ++ [[c]]) := (List.map_append (f := tv) (l₂ := [[c]])).symm
        rw [e3]
        refine lcn_put hL (k1.trans (same_upd na2)) upd_same (fun z => ?_) (by rw [List.getElem?_map, hr1]; rfl) (by omega)
        rw [← z, k1 _ _ hD2] at na2
        cases na2
      rintro H2 ⟨_, as1, e4, hD12, hl1, hn1, hN1⟩
      rw [fin _ _ (by rw [List.length_map, List.length_map]; exact hlen)] at hN1
      rw [List.length_map] at hl1
      have hp2 := e4 _ _ hp
      have hNp := hN.same e4
      refine ⟨_, rfl, p, rfl, ⟨_, SqL.of hp2⟩, fun D2 hD2 => ?_⟩
      refine lc_it walk_list (LcN H2 D2 ((waysSt l i).map fun r => r.dropLast ++ [r.getLastD [] ++ [c]])) (lcn_start hD2) (fun j H3 _ ⟨_, _, e, _, _, _, _⟩ => SqL.of (e _ _ hp2)) ?_ ?_
      · rintro j x H3 H3' hj hL ⟨rfl, hx⟩
        rw [List.length_map] at hj
        obtain ⟨a, ha⟩ : ∃ a, as[j]? = some a := ⟨_, List.getElem?_eq_getElem hj⟩
        rw [List.getElem?_map, ha] at hx
        have ex : V.ref a = x := Option.some.inj hx
        subst ex
        obtain ⟨r, hr1, hr2⟩ := hNp.at ha
        obtain ⟨r0, _, rf, hrl⟩ := w2 r (List.mem_of_getElem? hr1)
        obtain ⟨_, _, e, hD3, _, _, _⟩ := id hL
        have hr3 := e _ _ hr2
        have hlast : (r.getLastD []).length ≤ 8 := by
          have q := congrArg List.length (congrArg List.flatten (snoc r0 []))
          rw [List.flatten_append, List.length_append, rf, List.length_take] at q
          have q2 : ([r.getLastD []] : List (List Nat)).flatten.length = (r.getLastD []).length := by simp
          omega
        refine ⟨rfl, keepAll ?_⟩
        refine ⟨_, rfl, 1, rfl, _, rfl, a, tvs r, rfl, SqL.of hr3, fun b1 nb1 => ?_⟩
        have ed : cutV (tvs r) none (some (-1)) = tvs r.dropLast := by
          rw [cutV_L, cutL_map, cutL_but]
        rw [ed]
        have k1 := same_upd (o := .lst (tvs r.dropLast)) nb1
        have hat : atI (tvs r) (-1) = some (tv (r.getLastD [])) := by
          have q := atI_last (tvs r.dropLast) (tv (r.getLastD []))
          have z : tvs r.dropLast ++ [tv (r.getLastD [])] = tvs r := by
            have y := congrArg tvs (snoc r0 [])
            rw [← y]
            exact (List.map_append (f := tv) (l₂ := [_])).symm
          rw [z] at q
          exact q
        refine ⟨_, rfl, 1, rfl, a, _, _, _, rfl, rfl, SqL.of (k1 _ _ hr3), hat, _, rfl, r.getLastD [], [c], rfl, rfl, by show _ + 1 ≤ _; omega, (show 1 ≤ sizeLine by decide), fun a1 na1 => ?_⟩
        have k2 := same_upd (o := .lst [tv (r.getLastD [] ++ [c])]) na1
        refine ⟨b1, a1, _, _, rfl, rfl, k2 _ _ upd_same, upd_same, by rw [List.length_map, List.length_dropLast]; exact big (by show _ + 1 ≤ _; omega), fun a2 na2 => ?_⟩
        have e3 : tvs r.dropLast ++ [tv (r.getLastD [] ++ [c])] = tvs (r.dropLast ++ [r.getLastD [] ++ [c]]) := (List.map_append (f := tv) (l₂ := [_])).symm
        rw [e3]
        refine lcn_put hL ((k1.trans k2).trans (same_upd na2)) upd_same (fun z => ?_) (by rw [List.getElem?_map, hr1]; rfl) (by omega)
        rw [← z, (k1.trans k2) _ _ hD3] at na2
        cases na2
      rintro H3 ⟨_, as2, e5, hD23, hl2, hn2, hN2⟩
      rw [fin _ _ (by rw [List.length_map, List.length_map]; exact hlen)] at hN2
      rw [List.length_map] at hl2
      refine ⟨D1, D2, _, _, rfl, rfl, e5 _ _ hD12, hD23, by rw [List.length_map, List.length_map]; exact big (by omega), fun p' np' => ?_⟩
      have k5 := same_upd (o := .lst (as1.map V.ref ++ as2.map V.ref)) np'
      have e35 := (e3.trans e4).trans e5
      refine ⟨p', as1 ++ as2, _, rfl, e35.free np', e35.trans k5, by rw [upd_same, List.map_append], ?_⟩
      rw [ways_succ hc]
      exact ((hN1.same e5).same k5).app (hN2.same k5)
    · rintro σ H1 ⟨p, as, y, rfl, np, e3, hp, hN⟩
      rw [List.length_drop] at hN
      exact ⟨_, rfl, q p as H1 np e3 hp hN⟩
end
end Rk
namespace Rk
open PySem PySem.Spec PyProof.Rows L2 Rw
abbrev s_law : Stmt := topS 21
abbrev n_law : List Str := ["_law_script", "_law_word", "_law_found", "_law_ends", "_law_round_about", "_law_begin", "_law_good", "_law_taken", "_law_k", "_law_rows"]
abbrev p_law : List Str := ["_law_script"]
theorem sc_law : FnScope n_law p_law (defScope s_law) := ⟨rfl, rfl, rfl, by decide +kernel, rfl, by decide +kernel, by decide +kernel⟩
/-! the least ending is the last piece -/
theorem cut_min {l : List Nat} : ∀ n, n + 1 ≤ l.length → ∀ i, i ≤ n → ¬ l.drop i < (cutSt l n).2
  | 0, _, i, hi => by
    have e : i = 0 := by omega
    rw [e]
    exact fun z => lt_irr z
  | n + 1, h, i, hi => by
    have eu : cutSt l (n + 1) = if l.drop (n + 1) < (cutSt l n).2 then ((cutSt l n).1 ++ [n + 1], l.drop (n + 1)) else cutSt l n := rfl
    by_cases g : l.drop (n + 1) < (cutSt l n).2
    · rw [eu, if_pos g]
      by_cases e : i ≤ n
      · exact fun z => cut_min n (by omega) i e (List.lt_trans z g)
      · have e : i = n + 1 := by omega
        rw [e]
        exact fun z => lt_irr z
    · rw [eu, if_neg g]
      by_cases e : i ≤ n
      · exact cut_min n (by omega) i e
      · have e : i = n + 1 := by omega
        rw [e]
        exact g
theorem segW_last (l : List Nat) (a e : Nat) : ∀ qs : List Nat, ∃ X, segW l (qs ++ [a] ++ [e]) = X ++ [(l.drop a).take (e - a)]
  | [] => ⟨[], rfl⟩
  | [b] => ⟨[(l.drop b).take (a - b)], rfl⟩
  | b :: c :: qs => by
    obtain ⟨X, h⟩ := segW_last l a e (c :: qs)
    exact ⟨(l.drop b).take (c - b) :: X, by
      show (l.drop b).take (c - b) :: segW l (c :: qs ++ [a] ++ [e]) = _
      rw [h]
      rfl⟩
theorem last_end {l : List Nat} (h : 1 ≤ l.length) : ∃ X a, piecesOf l = X ++ [l.drop a] ∧ a < l.length ∧ ∀ i, i < l.length → ¬ l.drop i < l.drop a := by
  obtain ⟨qs, a, e1, e2, hs, ha, hm, r, er⟩ := cut_inv (l := l) (l.length - 1) (by omega)
  obtain ⟨X, hX⟩ := segW_last l a l.length qs
  refine ⟨X, a, ?_, by omega, fun i hi => by rw [← e2]; exact cut_min _ (by omega) i (by omega)⟩
  have ft : (l.drop a).take (l.length - a) = l.drop a := List.take_of_length_le (by rw [List.length_drop]; exact Nat.le_refl _)
  rw [ft] at hX
  rw [← hX]
  have ec : cutsOf l = 0 :: r := by
    unfold cutsOf
    rw [e1, er]
  unfold piecesOf
  rw [ec, List.tail_cons, zip_seg, er]
theorem lstT_le : ∀ (ys : List (List Nat)) (x : List Nat), ∀ z ∈ x :: ys, ¬ z < lstT x ys
  | [], x, z, hz => by
    rw [List.mem_singleton.mp hz]
    exact fun q => lt_irr q
  | y :: r, x, z, hz => by
    have e : lstT x (y :: r) = lstT (if y < x then y else x) r := rfl
    rw [e]
    have i := lstT_le r (if y < x then y else x)
    have i0 := i _ List.mem_cons_self
    rcases List.mem_cons.mp hz with q | q
    · subst q
      by_cases g : y < z
      · rw [if_pos g] at i0 ⊢
        exact fun k => i0 (List.lt_trans g k)
      · rw [if_neg g] at i0 ⊢
        exact i0
    · rcases List.mem_cons.mp q with q | q
      · subst q
        by_cases g : z < x
        · rw [if_pos g] at i0 ⊢
          exact i0
        · rw [if_neg g] at i0 ⊢
          intro k
          rcases tri z x with u | u | u
          · exact g u
          · exact i0 (u ▸ k)
          · exact i0 (List.lt_trans u k)
      · exact i z (List.mem_cons_of_mem _ q)
theorem minT_le {ls : List (List Nat)} : ∀ z ∈ ls, ¬ z < minT ls := by
  cases ls with
  | nil => exact fun z h => (List.not_mem_nil h).elim
  | cons x ys => exact lstT_le ys x
theorem min_end {l : List Nat} (h : 1 ≤ l.length) : ∃ X, piecesOf l = X ++ [minT ((List.range l.length).map fun k => l.drop k)] := by
  obtain ⟨X, a, e, ha, hm⟩ := last_end h
  refine ⟨X, ?_⟩
  have hne : (List.range l.length).map (fun k => l.drop k) ≠ [] := fun z => by
    have := congrArg List.length z
    rw [List.length_map, List.length_range] at this
    have q : l.length = 0 := this
    omega
  obtain ⟨k, hk, ek⟩ := List.mem_map.mp (minT_mem hne)
  have h1 := hm k (List.mem_range.mp hk)
  have h2 := minT_le (ls := (List.range l.length).map fun k => l.drop k) (l.drop a) (List.mem_map.mpr ⟨a, List.mem_range.mpr ha, rfl⟩)
  have ek : l.drop k = minT ((List.range l.length).map fun k => l.drop k) := ek
  rw [ek] at h1
  rcases tri (l.drop a) (minT ((List.range l.length).map fun k => l.drop k)) with z | z | z
  · exact absurd z h2
  · rw [← z, e]
  · exact absurd z h1
theorem rows_txts {K : PySem.W.Frag} {H : Hp} {p : Addr} {ls ps : List (List Nat)} (hp : H p = some (.lst (tvs ls))) (hw : ∀ x ∈ ls, Wd x) (hz : ls.length ≤ 1000) : Rows K H (.ref p) ps (decide (ls = ps)) := by
  refine .inr ⟨p, tvs ls, ls.map fun _ => true, rfl, hp, by rw [List.length_map]; omega, by rw [List.length_map, List.length_map], fun i v hv => ?_, fun h => ?_, fun ls' e _ => ?_⟩
  · rw [List.getElem?_map] at hv
    cases e : ls[i]? with
    | none =>
      rw [e] at hv
      cases hv
    | some x =>
      rw [e] at hv
      have ev : tv x = v := Option.some.inj hv
      rw [← ev]
      exact ⟨true, by rw [List.getElem?_map, e]; rfl, .word (hw x (List.mem_of_getElem? e))⟩
  · rw [List.all_map, List.all_eq_false] at h
    obtain ⟨x, _, hx⟩ := h
    exact absurd rfl hx
  · have h : ∀ {a b : List (List Nat)}, tvs a = tvs b → a = b := by
      intro a
      induction a with
      | nil =>
        intro b e
        cases b with
        | nil => rfl
        | cons _ _ => cases e
      | cons x a ih =>
        intro b e
        cases b with
        | nil => cases e
        | cons y b =>
          have e1 := tv_inj (List.cons.inj e).1
          have e2 := ih (List.cons.inj e).2
          rw [e1, e2]
    rw [h e]
theorem nest_one {H : Hp} {bs : List Addr} {r : List (List Nat)} (h : Nest H bs [r]) : ∃ g, bs = [g] ∧ H g = some (.lst (tvs r)) := by
  cases h with
  | cons a b =>
    cases b
    exact ⟨_, rfl, a⟩
theorem flat_wds {r : List (List Nat)} {l : List Nat} (hl : Wd l) (h : r.flatten = l) (hn : ∀ x ∈ r, x ≠ []) : ∀ x ∈ r, Wd x := fun x hx => by
  refine ⟨?_, ?_, fun c hc => hl.2.2 c (by rw [← h]; exact List.mem_flatten.mpr ⟨x, hx, hc⟩)⟩
  · cases x with
    | nil => exact absurd rfl (hn [] hx)
    | cons _ _ => exact Nat.le_add_left 1 _
  · have h2 := hl.2.1
    obtain ⟨s, t, es⟩ := List.append_of_mem hx
    rw [← h, es, List.flatten_append, List.flatten_cons, List.length_append, List.length_append] at h2
    omega
section
variable {P : Program} {w : World} {K : PySem.W.Frag} {mg : Str → Option Value} {base : Heap} {cN : Addr} (B : Bt mg)
theorem ok_law {f : Addr} {fd : FuncData} (F : Fun K "law" "law" s_law f fd) (B : Bt mg) (c_pieces : Cal (L2.CX P w) P w K mg base 4 "pieces" (spPieces K cN)) (c_is_cutting : Cal (L2.CX P w) P w K mg base 5 "is_cutting" (spIsCutting K cN)) (c__law_mixed : Cal CX0 P w K mg base 1 "_law_mixed" spMixed) (c__law_cell_at : Cal CX0 P w K mg base 1 "_law_cell_at" (spCellAt K))
    (c__law_long : Cal CX0 P w K mg base 3 "_law_long" (spLong K)) (c__law_truth : Cal CX0 P w K mg base 1 "_law_truth" spTruth) (c__law_ways : Cal CX0 P w K mg base 1 "_law_ways" spWays) (c__law_so : Cal CX0 P w K mg base 3 "_law_so" (spSo K)) : FnOk P w K mg base CX0 6 f fd p_law (spLaw K) := by
  refine F.ok sc_law (fun vs H Q E h => ?_) (fun cdv A outer s H vs Q E hr h => ?_)
  · obtain ⟨a, ns, rfl, _⟩ := h
    rfl
  · obtain ⟨a, ns, rfl, hS, hlen, q⟩ := h
    refine ⟨_, (pss_cons (ps_set (i := 1) sc_law.nd rfl (Or.inr rfl) (pe_cal c__law_long hr (by decide) pass0 (pa_cons (pv 0) (pa_cons (pe_cal c__law_mixed hr (by decide) pass0 (pa_cons (pe_cal c__law_cell_at hr (by decide) pass0 (pa_cons (pv 0) (pa_cons pe_int pa_nil))) (pa_cons pe_int pa_nil))) pa_nil))))
      (pss_cons (ps_set (i := 2) sc_law.nd rfl (Or.inl rfl) (pe_cal c_pieces hr (by decide) passL (pa_cons (pv 1) pa_nil)))
      (pss_cons (ps_if (PW.pt (pw_or (pt_cmpR op_neT (pe_joinT pe_str (pv 2)) (pv 1) (nomark _)) (pw_or1 (pt_not (pt_val (pe_cal c__law_so hr (by decide) pass0 (pa_cons (pv 2) pa_nil))))))) (pss_one (ps_ret pe_bl)) pss_nil)
      (pss_cons (ps_setLc (i := 3) (own := [("_law_k", 8)]) rfl sc_law.nd rfl rfl (sw_true rfl rfl rfl (by decide +kernel)) (pi_range1 (by rfl) B.m_range (pa_cons (pe_callB call_lenT (by rfl) B.m_len PySem.boot_len (pa_cons (pv 1) pa_nil)) pa_nil)) (blkOk_by (own := [("_law_k", 8)]) (N := n_law) (sc := defScope s_law) (by decide +kernel)) (fun _ _ _ _ _ => (pg_name (i := 8) sc_law.nd rfl (Or.inl rfl))) (fun _ _ _ _ _ => pts_nil) (fun _ _ _ _ _ => (pe_slice sl_T (pv 1) (po_some (pv 8)) po_none)))
      (pss_cons (ps_if (PW.pt (pw_or (pt_cmpR op_neT (pe_callB (cr_minL rfl hr.units) (by rfl) B.m_min (by decide +kernel) (pa_cons (pv 3) pa_nil)) (pe_ix ix_list (pv 2) (pe_un un_neg pe_int) (fun _ _ => rfl)) (nomark _)) (pw_or1 (pt_not (pt_val (pe_cal c__law_truth hr (by decide) pass0 (pa_cons (pe_cal c_is_cutting hr (by decide) passL (pa_cons (pv 1) (pa_cons (pv 2) pa_nil))) (pa_cons pe_bl pa_nil)))))))) (pss_one (ps_ret pe_bl)) pss_nil)
      (pss_cons (ps_set (i := 4) sc_law.nd rfl (Or.inl rfl) (pe_op op_cat (pe_slice sl_list (pv 2) (po_some pe_int) po_none) (pe_slice sl_list (pv 2) po_none (po_some pe_int))))
      (pss_cons (ps_if (pt_not (pt_val (pe_cal c__law_truth hr (by decide) pass0 (pa_cons (pe_cal c_is_cutting hr (by decide) passL (pa_cons (pv 1) (pa_cons (pv 4) pa_nil))) (pa_cons (pe_cmpR (op_eqL hr.units) (pv 4) (pv 2) (nomark _)) pa_nil))))) (pss_one (ps_ret pe_bl)) pss_nil)
      (pss_cons (ps_set (i := 5) sc_law.nd rfl (Or.inr rfl) (pe_slice sl_T (pv 1) po_none (po_some pe_int)))
      (pss_cons (ps_setLc (i := 6) (own := [("_law_rows", 9)]) rfl sc_law.nd rfl rfl (sw_true rfl rfl rfl (by decide +kernel)) (pi_list (pe_cal c__law_ways hr (by decide) pass0 (pa_cons (pv 5) pa_nil))) (blkOk_by (own := [("_law_rows", 9)]) (N := n_law) (sc := defScope s_law) (by decide +kernel)) (fun _ _ _ _ _ => (pg_name (i := 9) sc_law.nd rfl (Or.inl rfl))) (fun _ _ _ _ _ => (pts_one (pt_val (pe_cal c__law_so hr (by decide) pass0 (pa_cons (pv 9) pa_nil))))) (fun _ _ _ _ _ => (pv 9)))
      (pss_cons (ps_setLc (i := 7) (own := [("_law_rows", 9)]) rfl sc_law.nd rfl rfl (sw_true rfl rfl rfl (by decide +kernel)) (pi_list (pe_cal c__law_ways hr (by decide) pass0 (pa_cons (pv 5) pa_nil))) (blkOk_by (own := [("_law_rows", 9)]) (N := n_law) (sc := defScope s_law) (by decide +kernel)) (fun _ _ _ _ _ => (pg_name (i := 9) sc_law.nd rfl (Or.inl rfl))) (fun _ _ _ _ _ => (pts_one (pt_val (pe_cal c_is_cutting hr (by decide) passL (pa_cons (pv 5) (pa_cons (pv 9) pa_nil)))))) (fun _ _ _ _ _ => (pv 9)))
      (pss_one (ps_ret (pe_and (pe_cmpR op_eq (pe_callB call_len_seq (by rfl) B.m_len PySem.boot_len (pa_cons (pv 6) pa_nil)) pe_int (nomark _)) (pe_and (pe_cmpR (op_eqD hr.units) (pv 7) (pv 6) (nomark _)) (pe_one (pe_cmpR (op_eqL hr.units) (pe_cal c_pieces hr (by decide) passL (pa_cons (pv 5) pa_nil)) (pe_ix ix_list (pv 6) pe_int (fun _ _ => rfl)) (nomark _))))))))))))))))), ?_⟩
    refine ⟨_, rfl, _, rfl, a, ns, 0, rfl, hS, by decide, by decide, fun cell => ?_⟩
    refine ⟨cell, 430, rfl, fun c _ _ => ⟨a, ns, c, rfl, hS, hlen, fun l H1 e1 hl => ?_⟩⟩
    refine ⟨_, rfl, tv l, true, [], rfl, rfl, .word hl, (fun e => nomatch e), fun m' _ em _ p H2 np e2 hp => ?_⟩
    cases tv_inj em
    have h1 := hl.1
    have gw := pieces_wd hl
    have gf := pieces_flat h1
    obtain ⟨g1, g2⟩ := pieces_good h1
    obtain ⟨X, hX⟩ := min_end h1
    have gl : (piecesOf l).length ≤ 300 := by
      have := cutsOf_len hl
      have e := congrArg List.length (cuts_due h1)
      rw [List.length_map, List.length_range] at e
      have := hl.2.1
      omega
    -- the pieces
    refine ⟨⟨_, rfl⟩, _, rfl, p, piecesOf l, rfl, rfl, SqL.of hp, by rw [gf]; exact hl.sz, _, rfl, _, _, rfl, rfl, false, by simp [gf], iteF ?_⟩
    refine ⟨_, rfl, p, piecesOf l, rfl, hp, by omega, fun x hx => ⟨by have := (gw x hx).2.1; omega, (gw x hx).ok⟩, fun b H3 e3 hb => ?_⟩
    obtain rfl : b = true := hb.mpr ⟨g2, fun x hx => (g1 x hx).1⟩
    refine ⟨true, rfl, iteF ?_⟩
    have hp3 := e3 _ _ hp
    -- the endings
    refine ⟨_, rfl, l, rfl, hl.sz, _, rfl, by omega, by have := hl.2.1; omega, fun Dl hD => ?_⟩
    refine lc_it walk_range (LcP H3 Dl fun i acc => acc = tvs ((List.range i).map fun k => l.drop k)) (lcp_start hD rfl) (fun _ _ _ _ => trivial) ?_ ?_
    · rintro i x H4 H4' hi ⟨_, acc, e, hD2, hlen2, rfl⟩ ⟨rfl, rfl⟩
      have hi : i < l.length := hi
      refine ⟨rfl, keepAll ?_⟩
      refine ⟨_, rfl, _, rfl, _, rfl, l, rfl, hl.sz, ?_⟩
      refine lcp_put hD e hD2 hlen2 (by have := hl.2.1; omega) (Same.refl _) ?_
      rw [List.range_succ, List.map_append, Int.zero_add, cutL_from]
      exact (List.map_append (f := tv) (l₂ := [_])).symm
    rintro H4 ⟨_, acc, e4, hD4, _, rfl⟩
    rw [Int.toNat_natCast] at hD4
    have hp4 := e4 _ _ hp3
    have hne : (List.range l.length).map (fun k => l.drop k) ≠ [] := fun z => by
      have := congrArg List.length z
      rw [List.length_map, List.length_range] at this
      have q : l.length = 0 := this
      omega
    generalize hps : piecesOf l = ps at *
    have hat : atI (tvs ps) (-1) = some (tv (minT ((List.range l.length).map fun k => l.drop k))) := by
      rw [hX]
      have z : ∀ y, tvs (X ++ [y]) = tvs X ++ [tv y] := fun y => List.map_append (f := tv) (l₂ := [y])
      rw [z]
      exact atI_last _ _
    refine ⟨_, rfl, Dl, _, rfl, SqL.of hD4, hne, _, rfl, 1, rfl, p, _, _, _, rfl, rfl, SqL.of hp4, hat, _, _, rfl, rfl, false, by simp, iteF ?_⟩
    refine ⟨_, rfl, _, rfl, tv l, true, [.ref p], rfl, rfl, .word hl, (fun e => nomatch e), fun m' _ em _ => ?_⟩
    cases tv_inj em
    refine ⟨.ref p, _, rfl, rows_txts hp4 gw (by omega), fun H5 e5 => ?_⟩
    refine ⟨_, true, rfl, true, by rw [hps]; simp, iteF ?_⟩
    have hp5 := e5 _ _ hp4
    -- the first one put last
    have ec : ∀ lo hi, cutV (tvs ps) lo hi = tvs (cutL ps lo hi) := fun lo hi => by rw [cutV_L]; exact cutL_map tv ps lo hi
    refine ⟨_, rfl, 1, rfl, p, tvs ps, rfl, SqL.of hp5, fun p1 n1 => ?_⟩
    rw [ec]
    have k1 := same_upd (o := .lst (tvs (cutL ps (some 1) none))) n1
    refine ⟨_, rfl, 1, rfl, p, tvs ps, rfl, SqL.of (k1 _ _ hp5), fun p2 n2 => ?_⟩
    rw [ec]
    have k2 := same_upd (o := .lst (tvs (cutL ps none (some 1)))) n2
    have c1 := cutL_len ps (some 1) none
    have c2 := cutL_len ps none (some 1)
    refine ⟨p1, p2, _, _, rfl, rfl, k2 _ _ upd_same, upd_same, by rw [List.length_map, List.length_map]; exact big (by omega), fun p3 n3 => ?_⟩
    have er : tvs (cutL ps (some 1) none) ++ tvs (cutL ps none (some 1)) = tvs (cutL ps (some 1) none ++ cutL ps none (some 1)) := List.map_append.symm
    rw [er]
    have k3 := same_upd (o := .lst (tvs (cutL ps (some 1) none ++ cutL ps none (some 1)))) n3
    have rw1 : ∀ x ∈ cutL ps (some 1) none ++ cutL ps none (some 1), Wd x := fun x hx => by
      rcases List.mem_append.mp hx with z | z
      · exact gw x (List.mem_of_mem_drop (List.mem_of_mem_take z))
      · exact gw x (List.mem_of_mem_drop (List.mem_of_mem_take z))
    have rl : (cutL ps (some 1) none ++ cutL ps none (some 1)).length ≤ 1000 := by rw [List.length_append]; omega
    generalize cutL ps (some 1) none ++ cutL ps none (some 1) = rs at k3 rw1 rl ⊢
    have hp6 := (k1.trans (k2.trans k3)) _ _ hp5
    refine ⟨_, rfl, _, rfl, tv l, true, [.ref p3], rfl, rfl, .word hl, (fun e => nomatch e), fun m' _ em _ => ?_⟩
    cases tv_inj em
    refine ⟨.ref p3, _, rfl, rows_txts upd_same rw1 rl, fun H7 e7 => ?_⟩
    refine ⟨_, rfl, _, rfl, p3, p, rs, ps, rfl, rfl, SqL.of (e7 _ _ upd_same), SqL.of (e7 _ _ hp6), fun x hx => (rw1 x hx).ok, fun x hx => (gw x hx).ok, ?_⟩
    refine ⟨_, _, rfl, true, by rw [hps]; simp, iteF ?_⟩
    -- its beginning, all ways
    refine ⟨_, rfl, 8, rfl, l, rfl, hl.sz, ?_⟩
    have e8 : cutL l none (some 8) = l.take 8 := cutL_to l 8
    rw [e8]
    have hb : Wd (l.take 8) := ⟨by rw [List.length_take]; omega, by rw [List.length_take]; have := hl.2.1; omega, fun c hc => hl.2.2 c (List.mem_of_mem_take hc)⟩
    have hb8 : (l.take 8).length ≤ 8 := by rw [List.length_take]; omega
    generalize l.take 8 = b at hb hb8 ⊢
    have b1 := hb.1
    have wall := (ways_all b1 (b.length - 1) (by omega)).2
    have ft : b.take (b.length - 1 + 1) = b := List.take_of_length_le (by omega)
    rw [ft] at wall
    have wg := ways_good b1
    have wp := ways_pieces b1 (fun r => decide (r = piecesOf b)) fun r _ => rfl
    have wlen : (waysOf b).length ≤ 1000 := by
      have z := (ways_all b1 (b.length - 1) (by omega)).1
      have y : 2 ^ (b.length - 1) ≤ 128 := Nat.le_trans (Nat.pow_le_pow_right (by decide) (show b.length - 1 ≤ 7 by omega)) (by decide)
      exact Nat.le_trans (Nat.le_of_eq z) (by omega)
    have hbp := pieces_wd hb
    have ww : ∀ r ∈ waysOf b, (∀ x ∈ r, Wd x) ∧ r.length ≤ 1000 := fun r hr => by
      obtain ⟨_, a2, a3, a4⟩ := wall r hr
      exact ⟨flat_wds hb a3 a2, by omega⟩
    refine ⟨_, rfl, b, rfl, b1, hb8, fun p8 as H8 np8 e8 hp8 hN => ?_⟩
    refine ⟨p8, rfl, ⟨_, SqL.of hp8⟩, fun Dg hDg => ?_⟩
    refine lc_it walk_list (LcP H8 Dg fun i acc => ∃ bs : List Addr, acc = bs.map V.ref ∧ Nest H8 bs (((waysOf b).take i).filter fun r => decide (r = piecesOf b))) (lcp_start hDg ⟨[], rfl, .nil⟩) (fun i H3 _ ⟨_, acc, e, _, _, _⟩ => SqL.of (e _ _ hp8)) ?_ ?_
    · rintro i x H9 H9' hi ⟨_, acc, e, hD2, hlen2, bs, rfl, hBs⟩ ⟨rfl, hx⟩
      rw [List.length_map] at hi
      obtain ⟨a, ha⟩ : ∃ a, as[i]? = some a := ⟨_, List.getElem?_eq_getElem hi⟩
      rw [List.getElem?_map, ha] at hx
      have ex : V.ref a = x := Option.some.inj hx
      subst ex
      obtain ⟨r, hr1, hr2⟩ := hN.at ha
      have hrm := List.mem_of_getElem? hr1
      obtain ⟨hrw, hrl⟩ := ww r hrm
      have hil : i < 100000 := by have := hN.len; omega
      have step : ((waysOf b).take (i + 1)).filter (fun r => decide (r = piecesOf b)) = ((waysOf b).take i).filter (fun r => decide (r = piecesOf b)) ++ (if decide (r = piecesOf b) = true then [r] else []) := by
        rw [List.take_add_one, hr1, List.filter_append]
        congr 1
        cases g : decide (r = piecesOf b) <;> simp [g]
      refine ⟨rfl, ?_⟩
      refine ⟨_, rfl, a, r, rfl, e _ _ hr2, hrl, fun x hx => ⟨by have := (hrw x hx).2.1; omega, (hrw x hx).ok⟩, fun t H10 e10 ht => ?_⟩
      have et : decide (r = piecesOf b) = t := by
        have z := ht.trans (wg r hrm)
        cases t with
        | true => exact decide_eq_true (z.mp rfl)
        | false => exact decide_eq_false fun k => nomatch z.mpr k
      refine ⟨t, rfl, ?_⟩
      cases t with
      | false =>
        refine iteF ?_
        refine lcp_skip hDg e hD2 hlen2 e10 ⟨bs, rfl, ?_⟩
        rw [step, et]
        simpa using hBs
      | true =>
        refine iteT ?_
        refine ⟨_, rfl, ?_⟩
        refine lcp_put hDg e hD2 hlen2 hil e10 ⟨bs ++ [a], by rw [List.map_append]; rfl, ?_⟩
        rw [step, et]
        exact hBs.app (.cons hr2 .nil)
    rintro H9 ⟨_, acc, e9, hD9, _, bs, rfl, hBs⟩
    rw [List.length_map, List.take_of_length_le (by rw [hN.len]; exact Nat.le_refl _), wp] at hBs
    obtain ⟨ga, rfl, hga⟩ := nest_one hBs
    have hga9 := e9 _ _ hga
    clear hN hp8 hBs
    refine ⟨_, rfl, b, rfl, b1, hb8, fun p10 as2 H10 np10 e10 hp10 hN => ?_⟩
    refine ⟨p10, rfl, ⟨_, SqL.of hp10⟩, fun Dt hDt => ?_⟩
    refine lc_it walk_list (LcP H10 Dt fun i acc => ∃ bs : List Addr, acc = bs.map V.ref ∧ Nest H10 bs (((waysOf b).take i).filter fun r => decide (r = piecesOf b))) (lcp_start hDt ⟨[], rfl, .nil⟩) (fun i H3 _ ⟨_, acc, e, _, _, _⟩ => SqL.of (e _ _ hp10)) ?_ ?_
    · rintro i x H11 H11' hi ⟨_, acc, e, hD2, hlen2, bs, rfl, hBs⟩ ⟨rfl, hx⟩
      rw [List.length_map] at hi
      obtain ⟨a, ha⟩ : ∃ a, as2[i]? = some a := ⟨_, List.getElem?_eq_getElem hi⟩
      rw [List.getElem?_map, ha] at hx
      have ex : V.ref a = x := Option.some.inj hx
      subst ex
      obtain ⟨r, hr1, hr2⟩ := hN.at ha
      have hrm := List.mem_of_getElem? hr1
      obtain ⟨hrw, hrl⟩ := ww r hrm
      have hil : i < 100000 := by have := hN.len; omega
      have step : ((waysOf b).take (i + 1)).filter (fun r => decide (r = piecesOf b)) = ((waysOf b).take i).filter (fun r => decide (r = piecesOf b)) ++ (if decide (r = piecesOf b) = true then [r] else []) := by
        rw [List.take_add_one, hr1, List.filter_append]
        congr 1
        cases g : decide (r = piecesOf b) <;> simp [g]
      refine ⟨rfl, ?_⟩
      refine ⟨_, rfl, _, rfl, tv b, true, [.ref a], rfl, rfl, .word hb, (fun e => nomatch e), fun m' _ em _ => ?_⟩
      cases tv_inj em
      refine ⟨.ref a, _, rfl, rows_txts (e _ _ hr2) hrw hrl, fun H12 e12 => ?_⟩
      refine ⟨_, rfl, ?_⟩
      cases et : decide (r = piecesOf b) with
      | false =>
        refine iteF ?_
        refine lcp_skip hDt e hD2 hlen2 e12 ⟨bs, rfl, ?_⟩
        rw [step, et]
        simpa using hBs
      | true =>
        refine iteT ?_
        refine ⟨_, rfl, ?_⟩
        refine lcp_put hDt e hD2 hlen2 hil e12 ⟨bs ++ [a], by rw [List.map_append]; rfl, ?_⟩
        rw [step, et]
        exact hBs.app (.cons hr2 .nil)
    rintro H11 ⟨_, acc, e11, hD11, _, bs, rfl, hBs⟩
    rw [List.length_map, List.take_of_length_le (by rw [hN.len]; exact Nat.le_refl _), wp] at hBs
    obtain ⟨ta, rfl, hta⟩ := nest_one hBs
    have hta11 := e11 _ _ hta
    have hga11 := (e10.trans e11) _ _ hga9
    have hDg11 := (e10.trans e11) _ _ hD9
    have hok : ∀ x ∈ piecesOf b, Ok x := fun x hx => (hbp x hx).ok
    have i1 : ItAll H11 [V.ref ga] [.lst (piecesOf b)] := .cons ⟨ga, rfl, hga11, hok⟩ .nil
    have i2 : ItAll H11 [V.ref ta] [.lst (piecesOf b)] := .cons ⟨ta, rfl, hta11, hok⟩ .nil
    refine ⟨_, rfl, Dg, _, rfl, .inl (SqL.of hDg11), rfl, true, by simp, iteT ?_⟩
    refine ⟨_, rfl, _, rfl, _, _, .lst (SqL.of hD11) (its_dp i2), .lst (SqL.of hDg11) (its_dp i1), its_shaped i2, its_shaped i1, true, by rw [shaped_refl (its_shaped i2)], iteT ?_⟩
    refine ⟨_, rfl, tv b, true, [], rfl, rfl, .word hb, (fun e => nomatch e), fun m' _ em _ p12 H12 np12 e12 hp12 => ?_⟩
    cases tv_inj em
    refine ⟨_, rfl, Dg, _, 0, _, rfl, rfl, SqL.of (e12 _ _ hDg11), atI_nat (j := 0) rfl, p12, ga, piecesOf b, piecesOf b, rfl, rfl, SqL.of hp12, SqL.of (e12 _ _ hga11), hok, hok, ?_⟩
    show Q (.bl (decide _)) _
    rw [decide_eq_true rfl]
    exact q H12
end
end Rk
namespace Rk
open PySem PySem.Spec PyProof.Rows L2 Rw
theorem all_mk {l : PySem.W.OpenLaw} {w : World} {K : PySem.W.Frag} {h : Heap} {mg : Str → Option Value} {fa f_is_word f_need_word f_cuts f_pieces f_is_cutting f_l_cell_at f_l_mixed f_l_truth f_l_signs f_l_turnings f_l_early f_l_long f_l_ways f_l_so f_law q_WordError q_NoWord : Addr} (X : K.In h) (G : h.Ns mainGlobals mg) (hfa : mg "law" = some (.ref fa))
    {od_is_word an_is_word : Option Addr} {sl_is_word : Array (Option Value)} {oc_is_word kV_is_word dc_is_word pm_is_word cd_is_word ct_is_word : Value}
    (a_is_word : PySem.W.nsIn K mainGlobals "is_word" = some (some (.ref f_is_word)))
    (l_is_word : K.lookup f_is_word = some ⟨oc_is_word, od_is_word, .func (PySem.W.fnOf "is_word" "is_word" (defArgs s_is_word) (defBody s_is_word) (defScope s_is_word) .none kV_is_word dc_is_word pm_is_word an_is_word cd_is_word ct_is_word), sl_is_word⟩)
    (c_is_word : PySem.W.codeIn K cd_is_word "is_word" = true) (k_is_word : PySem.W.keepIn K (.ref f_is_word) = true)
    {od_need_word an_need_word : Option Addr} {sl_need_word : Array (Option Value)} {oc_need_word kV_need_word dc_need_word pm_need_word cd_need_word ct_need_word : Value}
    (a_need_word : PySem.W.nsIn K mainGlobals "need_word" = some (some (.ref f_need_word)))
    (l_need_word : K.lookup f_need_word = some ⟨oc_need_word, od_need_word, .func (PySem.W.fnOf "need_word" "need_word" (defArgs s_need_word) (defBody s_need_word) (defScope s_need_word) .none kV_need_word dc_need_word pm_need_word an_need_word cd_need_word ct_need_word), sl_need_word⟩)
    (c_need_word : PySem.W.codeIn K cd_need_word "need_word" = true) (k_need_word : PySem.W.keepIn K (.ref f_need_word) = true)
    {od_cuts an_cuts : Option Addr} {sl_cuts : Array (Option Value)} {oc_cuts kV_cuts dc_cuts pm_cuts cd_cuts ct_cuts : Value}
    (a_cuts : PySem.W.nsIn K mainGlobals "cuts" = some (some (.ref f_cuts)))
    (l_cuts : K.lookup f_cuts = some ⟨oc_cuts, od_cuts, .func (PySem.W.fnOf "cuts" "cuts" (defArgs s_cuts) (defBody s_cuts) (defScope s_cuts) .none kV_cuts dc_cuts pm_cuts an_cuts cd_cuts ct_cuts), sl_cuts⟩)
    (c_cuts : PySem.W.codeIn K cd_cuts "cuts" = true) (k_cuts : PySem.W.keepIn K (.ref f_cuts) = true)
    {od_pieces an_pieces : Option Addr} {sl_pieces : Array (Option Value)} {oc_pieces kV_pieces dc_pieces pm_pieces cd_pieces ct_pieces : Value}
    (a_pieces : PySem.W.nsIn K mainGlobals "pieces" = some (some (.ref f_pieces)))
    (l_pieces : K.lookup f_pieces = some ⟨oc_pieces, od_pieces, .func (PySem.W.fnOf "pieces" "pieces" (defArgs s_pieces) (defBody s_pieces) (defScope s_pieces) .none kV_pieces dc_pieces pm_pieces an_pieces cd_pieces ct_pieces), sl_pieces⟩)
    (c_pieces : PySem.W.codeIn K cd_pieces "pieces" = true) (k_pieces : PySem.W.keepIn K (.ref f_pieces) = true)
    {od_is_cutting an_is_cutting : Option Addr} {sl_is_cutting : Array (Option Value)} {oc_is_cutting kV_is_cutting dc_is_cutting pm_is_cutting cd_is_cutting ct_is_cutting : Value}
    (a_is_cutting : PySem.W.nsIn K mainGlobals "is_cutting" = some (some (.ref f_is_cutting)))
    (l_is_cutting : K.lookup f_is_cutting = some ⟨oc_is_cutting, od_is_cutting, .func (PySem.W.fnOf "is_cutting" "is_cutting" (defArgs s_is_cutting) (defBody s_is_cutting) (defScope s_is_cutting) .none kV_is_cutting dc_is_cutting pm_is_cutting an_is_cutting cd_is_cutting ct_is_cutting), sl_is_cutting⟩)
    (c_is_cutting : PySem.W.codeIn K cd_is_cutting "is_cutting" = true) (k_is_cutting : PySem.W.keepIn K (.ref f_is_cutting) = true)
    {od_l_cell_at an_l_cell_at : Option Addr} {sl_l_cell_at : Array (Option Value)} {oc_l_cell_at kV_l_cell_at dc_l_cell_at pm_l_cell_at cd_l_cell_at ct_l_cell_at : Value}
    (a_l_cell_at : PySem.W.nsIn K mainGlobals "_law_cell_at" = some (some (.ref f_l_cell_at)))
    (l_l_cell_at : K.lookup f_l_cell_at = some ⟨oc_l_cell_at, od_l_cell_at, .func (PySem.W.fnOf "_law_cell_at" "_law_cell_at" (defArgs s_l_cell_at) (defBody s_l_cell_at) (defScope s_l_cell_at) .none kV_l_cell_at dc_l_cell_at pm_l_cell_at an_l_cell_at cd_l_cell_at ct_l_cell_at), sl_l_cell_at⟩)
    (c_l_cell_at : PySem.W.codeIn K cd_l_cell_at "_law_cell_at" = true) (k_l_cell_at : PySem.W.keepIn K (.ref f_l_cell_at) = true)
    {od_l_mixed an_l_mixed : Option Addr} {sl_l_mixed : Array (Option Value)} {oc_l_mixed kV_l_mixed dc_l_mixed pm_l_mixed cd_l_mixed ct_l_mixed : Value}
    (a_l_mixed : PySem.W.nsIn K mainGlobals "_law_mixed" = some (some (.ref f_l_mixed)))
    (l_l_mixed : K.lookup f_l_mixed = some ⟨oc_l_mixed, od_l_mixed, .func (PySem.W.fnOf "_law_mixed" "_law_mixed" (defArgs s_l_mixed) (defBody s_l_mixed) (defScope s_l_mixed) .none kV_l_mixed dc_l_mixed pm_l_mixed an_l_mixed cd_l_mixed ct_l_mixed), sl_l_mixed⟩)
    (c_l_mixed : PySem.W.codeIn K cd_l_mixed "_law_mixed" = true) (k_l_mixed : PySem.W.keepIn K (.ref f_l_mixed) = true)
    {od_l_truth an_l_truth : Option Addr} {sl_l_truth : Array (Option Value)} {oc_l_truth kV_l_truth dc_l_truth pm_l_truth cd_l_truth ct_l_truth : Value}
    (a_l_truth : PySem.W.nsIn K mainGlobals "_law_truth" = some (some (.ref f_l_truth)))
    (l_l_truth : K.lookup f_l_truth = some ⟨oc_l_truth, od_l_truth, .func (PySem.W.fnOf "_law_truth" "_law_truth" (defArgs s_l_truth) (defBody s_l_truth) (defScope s_l_truth) .none kV_l_truth dc_l_truth pm_l_truth an_l_truth cd_l_truth ct_l_truth), sl_l_truth⟩)
    (c_l_truth : PySem.W.codeIn K cd_l_truth "_law_truth" = true) (k_l_truth : PySem.W.keepIn K (.ref f_l_truth) = true)
    {od_l_signs an_l_signs : Option Addr} {sl_l_signs : Array (Option Value)} {oc_l_signs kV_l_signs dc_l_signs pm_l_signs cd_l_signs ct_l_signs : Value}
    (a_l_signs : PySem.W.nsIn K mainGlobals "_law_signs" = some (some (.ref f_l_signs)))
    (l_l_signs : K.lookup f_l_signs = some ⟨oc_l_signs, od_l_signs, .func (PySem.W.fnOf "_law_signs" "_law_signs" (defArgs s_l_signs) (defBody s_l_signs) (defScope s_l_signs) .none kV_l_signs dc_l_signs pm_l_signs an_l_signs cd_l_signs ct_l_signs), sl_l_signs⟩)
    (c_l_signs : PySem.W.codeIn K cd_l_signs "_law_signs" = true) (k_l_signs : PySem.W.keepIn K (.ref f_l_signs) = true)
    {od_l_turnings an_l_turnings : Option Addr} {sl_l_turnings : Array (Option Value)} {oc_l_turnings kV_l_turnings dc_l_turnings pm_l_turnings cd_l_turnings ct_l_turnings : Value}
    (a_l_turnings : PySem.W.nsIn K mainGlobals "_law_turnings" = some (some (.ref f_l_turnings)))
    (l_l_turnings : K.lookup f_l_turnings = some ⟨oc_l_turnings, od_l_turnings, .func (PySem.W.fnOf "_law_turnings" "_law_turnings" (defArgs s_l_turnings) (defBody s_l_turnings) (defScope s_l_turnings) .none kV_l_turnings dc_l_turnings pm_l_turnings an_l_turnings cd_l_turnings ct_l_turnings), sl_l_turnings⟩)
    (c_l_turnings : PySem.W.codeIn K cd_l_turnings "_law_turnings" = true) (k_l_turnings : PySem.W.keepIn K (.ref f_l_turnings) = true)
    {od_l_early an_l_early : Option Addr} {sl_l_early : Array (Option Value)} {oc_l_early kV_l_early dc_l_early pm_l_early cd_l_early ct_l_early : Value}
    (a_l_early : PySem.W.nsIn K mainGlobals "_law_early" = some (some (.ref f_l_early)))
    (l_l_early : K.lookup f_l_early = some ⟨oc_l_early, od_l_early, .func (PySem.W.fnOf "_law_early" "_law_early" (defArgs s_l_early) (defBody s_l_early) (defScope s_l_early) .none kV_l_early dc_l_early pm_l_early an_l_early cd_l_early ct_l_early), sl_l_early⟩)
    (c_l_early : PySem.W.codeIn K cd_l_early "_law_early" = true) (k_l_early : PySem.W.keepIn K (.ref f_l_early) = true)
    {od_l_long an_l_long : Option Addr} {sl_l_long : Array (Option Value)} {oc_l_long kV_l_long dc_l_long pm_l_long cd_l_long ct_l_long : Value}
    (a_l_long : PySem.W.nsIn K mainGlobals "_law_long" = some (some (.ref f_l_long)))
    (l_l_long : K.lookup f_l_long = some ⟨oc_l_long, od_l_long, .func (PySem.W.fnOf "_law_long" "_law_long" (defArgs s_l_long) (defBody s_l_long) (defScope s_l_long) .none kV_l_long dc_l_long pm_l_long an_l_long cd_l_long ct_l_long), sl_l_long⟩)
    (c_l_long : PySem.W.codeIn K cd_l_long "_law_long" = true) (k_l_long : PySem.W.keepIn K (.ref f_l_long) = true)
    {od_l_ways an_l_ways : Option Addr} {sl_l_ways : Array (Option Value)} {oc_l_ways kV_l_ways dc_l_ways pm_l_ways cd_l_ways ct_l_ways : Value}
    (a_l_ways : PySem.W.nsIn K mainGlobals "_law_ways" = some (some (.ref f_l_ways)))
    (l_l_ways : K.lookup f_l_ways = some ⟨oc_l_ways, od_l_ways, .func (PySem.W.fnOf "_law_ways" "_law_ways" (defArgs s_l_ways) (defBody s_l_ways) (defScope s_l_ways) .none kV_l_ways dc_l_ways pm_l_ways an_l_ways cd_l_ways ct_l_ways), sl_l_ways⟩)
    (c_l_ways : PySem.W.codeIn K cd_l_ways "_law_ways" = true) (k_l_ways : PySem.W.keepIn K (.ref f_l_ways) = true)
    {od_l_so an_l_so : Option Addr} {sl_l_so : Array (Option Value)} {oc_l_so kV_l_so dc_l_so pm_l_so cd_l_so ct_l_so : Value}
    (a_l_so : PySem.W.nsIn K mainGlobals "_law_so" = some (some (.ref f_l_so)))
    (l_l_so : K.lookup f_l_so = some ⟨oc_l_so, od_l_so, .func (PySem.W.fnOf "_law_so" "_law_so" (defArgs s_l_so) (defBody s_l_so) (defScope s_l_so) .none kV_l_so dc_l_so pm_l_so an_l_so cd_l_so ct_l_so), sl_l_so⟩)
    (c_l_so : PySem.W.codeIn K cd_l_so "_law_so" = true) (k_l_so : PySem.W.keepIn K (.ref f_l_so) = true)
    {od_law an_law : Option Addr} {sl_law : Array (Option Value)} {oc_law kV_law dc_law pm_law cd_law ct_law : Value}
    (a_law : PySem.W.nsIn K mainGlobals "law" = some (some (.ref f_law)))
    (l_law : K.lookup f_law = some ⟨oc_law, od_law, .func (PySem.W.fnOf "law" "law" (defArgs s_law) (defBody s_law) (defScope s_law) .none kV_law dc_law pm_law an_law cd_law ct_law), sl_law⟩)
    (c_law : PySem.W.codeIn K cd_law "law" = true) (k_law : PySem.W.keepIn K (.ref f_law) = true)
    (z_len : PySem.W.nsIn K mainGlobals "len" = some none)
    (z_range : PySem.W.nsIn K mainGlobals "range" = some none)
    (z_sorted : PySem.W.nsIn K mainGlobals "sorted" = some none)
    (z_min : PySem.W.nsIn K mainGlobals "min" = some none)
    (z_max : PySem.W.nsIn K mainGlobals "max" = some none)
    (z_all : PySem.W.nsIn K mainGlobals "all" = some none)
    (z_isinstance : PySem.W.nsIn K mainGlobals "isinstance" = some none)
    (z_list : PySem.W.nsIn K mainGlobals "list" = some none)
    (z_tuple : PySem.W.nsIn K mainGlobals "tuple" = some none)
    (z_str : PySem.W.nsIn K mainGlobals "str" = some none)
    (z_bool : PySem.W.nsIn K mainGlobals "bool" = some none)
    (z_zip : PySem.W.nsIn K mainGlobals "zip" = some none)
    (z_enumerate : PySem.W.nsIn K mainGlobals "enumerate" = some none)
    (z_ValueError : PySem.W.nsIn K mainGlobals "ValueError" = some none)
    (z_sum : PySem.W.nsIn K mainGlobals "sum" = some none)
    (z_set : PySem.W.nsIn K mainGlobals "set" = some none)
    (z_dict : PySem.W.nsIn K mainGlobals "dict" = some none)
    (z_int : PySem.W.nsIn K mainGlobals "int" = some none)
    {tL : Tok} (z_L : PySem.W.nsIn K mainGlobals "LONGEST_WORD" = some (some (.int 300 tL)))
    (g_WordError : PySem.W.nsIn K mainGlobals "WordError" = some (some (.ref q_WordError)))
    (g_NoWord : PySem.W.nsIn K mainGlobals "NoWord" = some (some (.ref q_NoWord)))
    (x_N : PySem.W.excIn K q_NoWord [.type "ValueError", .type "Exception", .type "BaseException", .type "object"] "ValueError.__new__" = true)
    (k_N : PySem.W.keepIn K (.ref q_NoWord) = true)
    (b_N : PySem.W.subIn K (.ref q_NoWord) (.type "BaseException") = some true)
    (t_N : PySem.W.typeIn K (.ref q_NoWord) = some (.type "type")) :
    ∃ fd : FuncData, (∀ (s : Shared) (v : Value), BindsTo s fd ⟨[v], []⟩ [("_law_script", v)]) ∧ ∀ base : Heap, K.In base → base.Ns mainGlobals mg → FnOk l.prog w K mg base CX0 6 fa fd ["_law_script"] (spLaw K) := by
  have e := hfa.symm.trans (PySem.W.mg_of X G a_law)
  cases e
  have B : Bt mg := ⟨PySem.W.mg_none_of X G z_len, PySem.W.mg_none_of X G z_range, PySem.W.mg_none_of X G z_sorted, PySem.W.mg_none_of X G z_min, PySem.W.mg_none_of X G z_max, PySem.W.mg_none_of X G z_all, PySem.W.mg_none_of X G z_isinstance, PySem.W.mg_none_of X G z_list, PySem.W.mg_none_of X G z_tuple, PySem.W.mg_none_of X G z_str, PySem.W.mg_none_of X G z_bool, PySem.W.mg_none_of X G z_zip, PySem.W.mg_none_of X G z_enumerate, PySem.W.mg_none_of X G z_ValueError, PySem.W.mg_none_of X G z_sum, PySem.W.mg_none_of X G z_set, PySem.W.mg_none_of X G z_dict, PySem.W.mg_none_of X G z_int, ⟨_, PySem.W.mg_of X G z_L, ⟨_, rfl⟩⟩⟩
  have R1 : Er1 K mg q_NoWord := ⟨PySem.W.mg_of X G g_NoWord, x_N, k_N, b_N, t_N⟩
  have D_is_word : Dfn K mg "is_word" s_is_word p_is_word := ⟨f_is_word, _, fun_mk l_is_word c_is_word k_is_word, PySem.W.mg_of X G a_is_word, (fun_mk l_is_word c_is_word k_is_word).binds (ps := p_is_word) fun _ _ _ _ _ _ us hl => match us, hl with | [_], _ => rfl⟩
  have D_need_word : Dfn K mg "need_word" s_need_word p_need_word := ⟨f_need_word, _, fun_mk l_need_word c_need_word k_need_word, PySem.W.mg_of X G a_need_word, (fun_mk l_need_word c_need_word k_need_word).binds (ps := p_need_word) fun _ _ _ _ _ _ us hl => match us, hl with | [_], _ => rfl⟩
  have D_cuts : Dfn K mg "cuts" s_cuts p_cuts := ⟨f_cuts, _, fun_mk l_cuts c_cuts k_cuts, PySem.W.mg_of X G a_cuts, (fun_mk l_cuts c_cuts k_cuts).binds (ps := p_cuts) fun _ _ _ _ _ _ us hl => match us, hl with | [_], _ => rfl⟩
  have D_pieces : Dfn K mg "pieces" s_pieces p_pieces := ⟨f_pieces, _, fun_mk l_pieces c_pieces k_pieces, PySem.W.mg_of X G a_pieces, (fun_mk l_pieces c_pieces k_pieces).binds (ps := p_pieces) fun _ _ _ _ _ _ us hl => match us, hl with | [_], _ => rfl⟩
  have D_is_cutting : Dfn K mg "is_cutting" s_is_cutting p_is_cutting := ⟨f_is_cutting, _, fun_mk l_is_cutting c_is_cutting k_is_cutting, PySem.W.mg_of X G a_is_cutting, (fun_mk l_is_cutting c_is_cutting k_is_cutting).binds (ps := p_is_cutting) fun _ _ _ _ _ _ us hl => match us, hl with | [_, _], _ => rfl⟩
  have D_l_cell_at : Dfn K mg "_law_cell_at" s_l_cell_at p_l_cell_at := ⟨f_l_cell_at, _, fun_mk l_l_cell_at c_l_cell_at k_l_cell_at, PySem.W.mg_of X G a_l_cell_at, (fun_mk l_l_cell_at c_l_cell_at k_l_cell_at).binds (ps := p_l_cell_at) fun _ _ _ _ _ _ us hl => match us, hl with | [_, _], _ => rfl⟩
  have D_l_mixed : Dfn K mg "_law_mixed" s_l_mixed p_l_mixed := ⟨f_l_mixed, _, fun_mk l_l_mixed c_l_mixed k_l_mixed, PySem.W.mg_of X G a_l_mixed, (fun_mk l_l_mixed c_l_mixed k_l_mixed).binds (ps := p_l_mixed) fun _ _ _ _ _ _ us hl => match us, hl with | [_, _], _ => rfl⟩
  have D_l_truth : Dfn K mg "_law_truth" s_l_truth p_l_truth := ⟨f_l_truth, _, fun_mk l_l_truth c_l_truth k_l_truth, PySem.W.mg_of X G a_l_truth, (fun_mk l_l_truth c_l_truth k_l_truth).binds (ps := p_l_truth) fun _ _ _ _ _ _ us hl => match us, hl with | [_, _], _ => rfl⟩
  have D_l_signs : Dfn K mg "_law_signs" s_l_signs p_l_signs := ⟨f_l_signs, _, fun_mk l_l_signs c_l_signs k_l_signs, PySem.W.mg_of X G a_l_signs, (fun_mk l_l_signs c_l_signs k_l_signs).binds (ps := p_l_signs) fun _ _ _ _ _ _ us hl => match us, hl with | [_], _ => rfl⟩
  have D_l_turnings : Dfn K mg "_law_turnings" s_l_turnings p_l_turnings := ⟨f_l_turnings, _, fun_mk l_l_turnings c_l_turnings k_l_turnings, PySem.W.mg_of X G a_l_turnings, (fun_mk l_l_turnings c_l_turnings k_l_turnings).binds (ps := p_l_turnings) fun _ _ _ _ _ _ us hl => match us, hl with | [_], _ => rfl⟩
  have D_l_early : Dfn K mg "_law_early" s_l_early p_l_early := ⟨f_l_early, _, fun_mk l_l_early c_l_early k_l_early, PySem.W.mg_of X G a_l_early, (fun_mk l_l_early c_l_early k_l_early).binds (ps := p_l_early) fun _ _ _ _ _ _ us hl => match us, hl with | [_], _ => rfl⟩
  have D_l_long : Dfn K mg "_law_long" s_l_long p_l_long := ⟨f_l_long, _, fun_mk l_l_long c_l_long k_l_long, PySem.W.mg_of X G a_l_long, (fun_mk l_l_long c_l_long k_l_long).binds (ps := p_l_long) fun _ _ _ _ _ _ us hl => match us, hl with | [_, _], _ => rfl⟩
  have D_l_ways : Dfn K mg "_law_ways" s_l_ways p_l_ways := ⟨f_l_ways, _, fun_mk l_l_ways c_l_ways k_l_ways, PySem.W.mg_of X G a_l_ways, (fun_mk l_l_ways c_l_ways k_l_ways).binds (ps := p_l_ways) fun _ _ _ _ _ _ us hl => match us, hl with | [_], _ => rfl⟩
  have D_l_so : Dfn K mg "_law_so" s_l_so p_l_so := ⟨f_l_so, _, fun_mk l_l_so c_l_so k_l_so, PySem.W.mg_of X G a_l_so, (fun_mk l_l_so c_l_so k_l_so).binds (ps := p_l_so) fun _ _ _ _ _ _ us hl => match us, hl with | [_], _ => rfl⟩
  have FL := fun_mk (st := s_law) l_law c_law k_law
  refine ⟨PySem.W.fnOf "law" "law" (defArgs s_law) (defBody s_law) (defScope s_law) .none kV_law dc_law pm_law an_law cd_law ct_law, fun s v => .of_eq rfl, fun base _ _ => ?_⟩
  have c1 := ok_is_word (P := l.prog) (w := w) (base := base) B D_is_word
  have c2 := ok_need_word B R1 D_need_word c1
  have c6 := ok_cuts B D_cuts c2
  have c7 := ok_pieces B D_pieces c6
  have c8 := ok_is_cutting B D_is_cutting c1 c7
  have d1 := ok_mixed (P := l.prog) (w := w) (base := base) D_l_mixed
  have d2 := ok_cell (P := l.prog) (w := w) (base := base) B D_l_cell_at
  have d3 := ok_signs B D_l_signs d1
  have d7 := ok_lturnings (P := l.prog) (w := w) (base := base) B D_l_turnings
  have d8 := ok_learly B D_l_early d7
  have d9 := ok_ltruth (P := l.prog) (w := w) (base := base) B D_l_truth
  have e1 := ok_long B D_l_long d1 d3
  have e2 := ok_ways (P := l.prog) (w := w) (base := base) B D_l_ways
  have e3 := ok_so B D_l_so d8
  exact ok_law FL B c7 c8 d1 d2 e1 d9 e2 e3
end Rk
open PySem PySem.W PyProof.Rows
set_option maxHeartbeats 0 in
theorem PySem.Challenge.cw_ringword_k13_whole_one_cutting_holds : PySem.Challenge.rw_ringword_k13_whole_one_cutting.Holds := by
  w_on; o_law; k_head; (case hw => w_witness2)
  k_fill
  refine L2.walk_of (l := PySem.Challenge.rw_ringword_k13_whole_one_cutting) (n := 63) (k := 6) (x := "_law_script") (CX := fun _ => L2.CX0) (sp := fun w => Rw.spLaw _) rfl (by decide) rfl ⟨rfl, by decide, by decide⟩ (fun w h Y => PySem.W.kIn_of Y) ?F (fun _ _ a ns hl _ hS => ⟨a, ns, rfl, hS, hl, fun _ => rfl⟩) (fun _ _ _ _ _ h => h)
  case F =>
    intro w mg fa h KX G hmg
    refine' Rk.all_mk KX G hmg ?a_is_word ?l_is_word ?c_is_word ?k_is_word ?a_need_word ?l_need_word ?c_need_word ?k_need_word ?a_cuts ?l_cuts ?c_cuts ?k_cuts ?a_pieces ?l_pieces ?c_pieces ?k_pieces ?a_is_cutting ?l_is_cutting ?c_is_cutting ?k_is_cutting ?a_l_cell_at ?l_l_cell_at ?c_l_cell_at ?k_l_cell_at ?a_l_mixed ?l_l_mixed ?c_l_mixed ?k_l_mixed ?a_l_truth ?l_l_truth ?c_l_truth ?k_l_truth ?a_l_signs ?l_l_signs ?c_l_signs ?k_l_signs ?a_l_turnings ?l_l_turnings ?c_l_turnings ?k_l_turnings ?a_l_early ?l_l_early ?c_l_early ?k_l_early ?a_l_long ?l_l_long ?c_l_long ?k_l_long ?a_l_ways ?l_l_ways ?c_l_ways ?k_l_ways ?a_l_so ?l_l_so ?c_l_so ?k_l_so ?a_law ?l_law ?c_law ?k_law ?z_len ?z_range ?z_sorted ?z_min ?z_max ?z_all ?z_isinstance ?z_list ?z_tuple ?z_str ?z_bool ?z_zip ?z_enumerate ?z_ValueError ?z_sum ?z_set ?z_dict ?z_int ?z_L ?g_WordError ?g_NoWord ?x_N ?k_N ?b_N ?t_N
    (case a_is_word => first | k_is | rfl)
    (case l_is_word => first | k_is | rfl)
    (case c_is_word => first | k_is | rfl)
    (case k_is_word => first | k_is | rfl)
    (case a_need_word => first | k_is | rfl)
    (case l_need_word => first | k_is | rfl)
    (case c_need_word => first | k_is | rfl)
    (case k_need_word => first | k_is | rfl)
    (case a_cuts => first | k_is | rfl)
    (case l_cuts => first | k_is | rfl)
    (case c_cuts => first | k_is | rfl)
    (case k_cuts => first | k_is | rfl)
    (case a_pieces => first | k_is | rfl)
    (case l_pieces => first | k_is | rfl)
    (case c_pieces => first | k_is | rfl)
    (case k_pieces => first | k_is | rfl)
    (case a_is_cutting => first | k_is | rfl)
    (case l_is_cutting => first | k_is | rfl)
    (case c_is_cutting => first | k_is | rfl)
    (case k_is_cutting => first | k_is | rfl)
    (case a_l_cell_at => first | k_is | rfl)
    (case l_l_cell_at => first | k_is | rfl)
    (case c_l_cell_at => first | k_is | rfl)
    (case k_l_cell_at => first | k_is | rfl)
    (case a_l_mixed => first | k_is | rfl)
    (case l_l_mixed => first | k_is | rfl)
    (case c_l_mixed => first | k_is | rfl)
    (case k_l_mixed => first | k_is | rfl)
    (case a_l_truth => first | k_is | rfl)
    (case l_l_truth => first | k_is | rfl)
    (case c_l_truth => first | k_is | rfl)
    (case k_l_truth => first | k_is | rfl)
    (case a_l_signs => first | k_is | rfl)
    (case l_l_signs => first | k_is | rfl)
    (case c_l_signs => first | k_is | rfl)
    (case k_l_signs => first | k_is | rfl)
    (case a_l_turnings => first | k_is | rfl)
    (case l_l_turnings => first | k_is | rfl)
    (case c_l_turnings => first | k_is | rfl)
    (case k_l_turnings => first | k_is | rfl)
    (case a_l_early => first | k_is | rfl)
    (case l_l_early => first | k_is | rfl)
    (case c_l_early => first | k_is | rfl)
    (case k_l_early => first | k_is | rfl)
    (case a_l_long => first | k_is | rfl)
    (case l_l_long => first | k_is | rfl)
    (case c_l_long => first | k_is | rfl)
    (case k_l_long => first | k_is | rfl)
    (case a_l_ways => first | k_is | rfl)
    (case l_l_ways => first | k_is | rfl)
    (case c_l_ways => first | k_is | rfl)
    (case k_l_ways => first | k_is | rfl)
    (case a_l_so => first | k_is | rfl)
    (case l_l_so => first | k_is | rfl)
    (case c_l_so => first | k_is | rfl)
    (case k_l_so => first | k_is | rfl)
    (case a_law => first | k_is | rfl)
    (case l_law => first | k_is | rfl)
    (case c_law => first | k_is | rfl)
    (case k_law => first | k_is | rfl)
    (case z_len => first | k_is | rfl)
    (case z_range => first | k_is | rfl)
    (case z_sorted => first | k_is | rfl)
    (case z_min => first | k_is | rfl)
    (case z_max => first | k_is | rfl)
    (case z_all => first | k_is | rfl)
    (case z_isinstance => first | k_is | rfl)
    (case z_list => first | k_is | rfl)
    (case z_tuple => first | k_is | rfl)
    (case z_str => first | k_is | rfl)
    (case z_bool => first | k_is | rfl)
    (case z_zip => first | k_is | rfl)
    (case z_enumerate => first | k_is | rfl)
    (case z_ValueError => first | k_is | rfl)
    (case z_sum => first | k_is | rfl)
    (case z_set => first | k_is | rfl)
    (case z_dict => first | k_is | rfl)
    (case z_int => first | k_is | rfl)
    (case z_L => first | k_is | rfl)
    (case g_WordError => first | k_is | rfl)
    (case g_NoWord => first | k_is | rfl)
    (case x_N => k_exc)
    (case k_N => first | k_is | rfl)
    (case b_N => first | k_is | rfl)
    (case t_N => first | k_is | rfl)
