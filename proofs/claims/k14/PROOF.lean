import PyProof.Rows.All
import Wide.All
import OpenK.AllK
import Wide.FinOn
import HandS.ForMost
import HandS.ForExc
import HandS.Wide
import HandS.IsInst
import HandS.FStr
import HandS.Small
import HandS.Style
import HandS.Deep
import HandS.Walk
import HandS.ExcIs
import HandS.ExcValue
import HandS.SetFor
import HandS.Zip
import HandS.Evl
import KE.DataMinMax
import PyProof.CollectStr
import PyProof.StrOps2
import PyProof.Rows.SortShellAny
import HandS.DictComp
import HandS.SortKw
import HandS.StrMore
import KE.GoesMore
import HandS.Flow
import HandS.Strs
import PySem.Challenge.RW_ringword_k14_whole_rings
set_option Elab.async false
set_option linter.all false
set_option maxRecDepth 100000
set_option maxHeartbeats 8000000
/-! Rules of our own, beside the hand layer: texts repeated and turned round, the least of texts, a text's signs sorted, a list of truths counted, a caught error kept. -/
namespace Rw
open PySem PySem.Spec PyProof.Rows L2

/-- a text by its codes -/
def T (l : List Nat) : Str := ⟨l.toArray⟩
theorem T_cps (l : List Nat) : (T l).cps.toList = l := by simp [T]
theorem T_of (z : Str) : T z.cps.toList = z := by cases z; simp [T]
theorem T_inj {a b : List Nat} (h : T a = T b) : a = b := by
  have e := congrArg (fun z : Str => z.cps.toList) h
  simpa [T_cps] using e
theorem T_len (l : List Nat) : (T l).length = l.length := by simp [T, Str.length]
theorem T_app (a b : List Nat) : T a ++ T b = T (a ++ b) := by
  show Str.append _ _ = _
  simp [T, Str.append]
section
variable {X : Cx}

/-! text * n -/
def rRepS : R2 := fun x y H Q => ∃ (l : List Nat) (k : Int), x = .str (T l) ∧ y = .int k ∧ 0 ≤ k ∧ k ≤ 100000 ∧ l.length * k.toNat ≤ 100000 ∧ Q (.str (T (List.replicate k.toNat l).flatten)) H
theorem rep_fold (l : List Nat) : ∀ (n : Nat) (acc : Array Nat), (List.replicate n l.toArray).foldl (· ++ ·) acc = acc ++ (List.replicate n l).flatten.toArray
  | 0, acc => by simp
  | n + 1, acc => by
    rw [List.replicate_succ, List.foldl_cons, rep_fold l n, List.replicate_succ, List.flatten_cons]
    simp [Array.append_assoc]
theorem op_rep_str : OpR X (binaryOp .Mult) rRepS := by
  intro pins s σ H x y v u Q I rx ry h
  obtain ⟨l, k, rfl, rfl, h0, h1, hz, q⟩ := h
  obtain ⟨t, rfl⟩ := rx
  obtain ⟨t', rfl⟩ := ry
  have hlen : (T l).length = l.length := T_len l
  have hll : l.length * k.toNat ≤ sizeLine := Nat.le_trans hz (by decide)
  refine P.mul_str (by
      have a1 : ¬ k < -(2 ^ 63 : Int) := by omega
      have a2 : ¬ k ≥ 2 ^ 63 := by omega
      rw [decide_eq_false a1, decide_eq_false a2]; rfl) (fun hk he => ?_) (fun hk he => ?_) ?_
  · rw [hlen]
    have hl : (l.length : Int) ≤ 100000 := by
      have : 1 ≤ k.toNat := by omega
      have := Nat.le_mul_of_pos_right l.length this
      omega
    intro hc
    have h2 : (2 ^ 63 - 1 : Int) / 100000 ≤ (2 ^ 63 - 1) / k := by
      refine Int.le_ediv_of_mul_le (by omega) ?_
      have : (2 ^ 63 - 1 : Int) / 100000 * k ≤ (2 ^ 63 - 1 : Int) / 100000 * 100000 := Int.mul_le_mul_of_nonneg_left h1 (by decide)
      exact Int.le_trans this (by decide)
    have h3 : (100000 : Int) ≤ (2 ^ 63 - 1) / 100000 := by decide
    omega
  · unfold Builtin.Str.tooLong
    rw [hlen]
    simp only [decide_eq_false_iff_not, gt_iff_lt]
    exact Nat.not_lt.mpr hll
  · by_cases hk : k < 1
    · have e : k = 0 := by omega
      subst e
      rw [if_pos (by decide)]
      exact ⟨by decide, .str _, H, I.tok _, ⟨_, rfl⟩, q⟩
    · rw [if_neg hk]
      by_cases he : (k == 1 || (T l).length == 0) = true
      · rw [if_pos he]
        have e : (List.replicate k.toNat l).flatten = l := by
          rw [hlen] at he
          simp only [Bool.or_eq_true, beq_iff_eq] at he
          rcases he with e | e
          · subst e; simp
          · have : l = [] := List.eq_nil_of_length_eq_zero e
            subst this
            simp
        rw [e] at q
        exact ⟨.str _, H, I, ⟨t, rfl⟩, q⟩
      · rw [if_neg he]
        have e := rep_fold l k.toNat #[]
        rw [Array.empty_append] at e
        show Made.post (Made.str ⟨(List.replicate k.toNat l.toArray).foldl (· ++ ·) #[]⟩) _ _
        rw [e]
        refine ⟨?_, .str _, H, I.tok _, ⟨_, rfl⟩, q⟩
        show (List.replicate k.toNat l).flatten.toArray.size ≤ sizeLine
        rw [List.size_toArray]
        have : (List.replicate k.toNat l).flatten.length = k.toNat * l.length := by simp
        rw [this, Nat.mul_comm]
        exact hll

/-! text[::-1] -/
def tRevS (te : TE) : TE := fun σ H Q => te σ H fun x H1 => ∃ l : List Nat, x = .str (T l) ∧ l.length ≤ 100000 ∧ Q (.str (T l.reverse)) H1
theorem rev_pick (x : Str) (t : Tok) : (slicePicked x none none (some ((-1 : Int), t))).filterMap (x.cps[·]?) = x.cps.toList.reverse := by
  have e : slicePicked x none none (some ((-1 : Int), t)) = (List.range x.cps.size).reverse := by
    show sliceRange ((x.length : Int) - 1) (-1) (-1) = _
    have h := PySem.W.krv_sliceRange x.length
    rw [h, PySem.W.krv_range]
    rfl
  rw [e, List.filterMap_reverse, PySem.W.krv_all]
theorem pe_revS {e : Expr} {te : TE} {k : Nat} {p1 p2 p3 pos : Pos} (he : PE X e te) : PE X (.Subscript e (.Slice none none (some (.UnaryOp .USub (.Constant (.int 1) k p1) p2)) p3) pos) (tRevS te) := by
  refine ⟨fun pins s σ H Q I h => ?_⟩
  refine Subscript_ (thn (he.run pins s σ H _ I h) fun v s1 ⟨x, H1, I1, r1, q1⟩ => ?_)
  obtain ⟨l, ex, hz, q⟩ := q1
  subst ex
  obtain ⟨t, rfl⟩ := r1
  have step : PO X (some (.UnaryOp .USub (.Constant (.int 1) k p1) p2)) (tPart (tUn (rU fun i => .int (-i)) (tC (.int 1)))) := po_some (pe_un un_neg pe_int)
  refine wpAny_Slice (thn (po_none.run pins s1 σ H1 (fun o H2 => o = none ∧ H2 = H1) I1 ⟨rfl, rfl⟩) fun vl s2 ⟨o1, H2, I2, pl, el, e2⟩ => ?_)
  subst el e2
  refine thn (po_none.run pins s2 σ H2 (fun o H3 => o = none ∧ H3 = H2) I2 ⟨rfl, rfl⟩) fun vu s3 ⟨o2, H3, I3, pu, eu, e3⟩ => ?_
  subst eu e3
  refine thn (step.run pins s3 σ H3 (fun o H4 => o = some (-1) ∧ H4 = H3) I3 ⟨1, rfl, -1, rfl, rfl, rfl⟩) fun vs s4 ⟨o3, H4, I4, ps, eo, e4⟩ => ?_
  subst eo e4
  have I5 : Inv X pins σ H4 { s4 with heap := s4.heap.push { cls := .type "slice", data := .fields #[vl, vu, vs] } } := I4.kept (t' := s4.toks) fun b ob q => Heap.get?_push_of_some _ q
  cases pl
  cases pu
  obtain ⟨u, rfl⟩ : ∃ u, vs = Value.int (-1) u := by
    cases ps with
    | int i u => exact ⟨u, rfl⟩
  show wpAny (model X.prog X.w) X.A (subscriptTail e (.Slice none none (some (.UnaryOp .USub (.Constant (.int 1) k p1) p2)) p3) (.str (T l) t) (.ref s4.heap.objs.size)) (EP X pins σ Q) X.xe _
  refine tail_any (ops := [.str (T l) t, .ref s4.heap.objs.size]) (typeIs_str _ _ _) (F.slot_str_getitem.lookup) ?_ (by with_unfolding_all rfl)
  refine wpAny_getItem_str_slice (l := none) (u := none) (st := some ((-1 : Int), u)) ⟨_, Heap.get?_push_size _ rfl, rfl, rfl⟩ (by rfl) ?_
  have nq : (((some ((-1 : Int), u) : Option (Int × Tok)).map (·.1)).getD 1 == 1 && (slicePicked (T l) none none (some ((-1 : Int), u))).length == (T l).length) = false := by
    show (((-1 : Int) == 1) && _) = false
    rfl
  unfold sliceMade
  rw [nq, if_neg Bool.false_ne_true, rev_pick, T_cps]
  refine ⟨?_, .str _, H4, I5.tok _, ⟨_, rfl⟩, q⟩
  show l.reverse.toArray.size ≤ sizeLine
  rw [List.size_toArray, List.length_reverse]
  exact Nat.le_trans hz (by decide)

/-! min of a list of texts -/
def lstT (x : List Nat) (ys : List (List Nat)) : List Nat := ys.foldl (fun a y => if y < a then y else a) x
def rMinT (K : PySem.W.Frag) : List V → Hp → VK → Prop := fun vs H Q => ∃ (a : Addr) (x : List Nat) (ys : List (List Nat)), vs = [V.ref a] ∧ SqL K H a (V.str (T x) :: ys.map fun y => V.str (T y)) ∧ Q (.str (T (lstT x ys))) H
theorem minD_strs (ys : List (List Nat)) : ∀ x : List Nat, PySem.W.minD (.str (T x)) (ys.map fun y => .str (T y)) = .str (T (lstT x ys)) := by
  induction ys with
  | nil => intro x; rfl
  | cons y r ih =>
    intro x
    show PySem.W.minD (if PySem.W.dataLt (.str (T y)) (.str (T x)) = true then .str (T y) else .str (T x)) (r.map fun y => .str (T y)) = _
    rw [PySem.W.dataLt_str, T_cps, T_cps]
    by_cases h : y < x
    · rw [decide_eq_true h, if_pos rfl, ih]
      unfold lstT
      rw [List.foldl_cons, if_pos h]
    · rw [decide_eq_false h, if_neg Bool.false_ne_true, ih]
      unfold lstT
      rw [List.foldl_cons, if_neg h]
theorem reads_strs {h : Heap} : ∀ {us : List Value} {ys : List (List Nat)}, Vals (ys.map fun y => V.str (T y)) us → ReadsAll h us (ys.map fun y => PyData.str (T y)) []
  | us, [], r => by
    cases r
    exact .nil
  | us, y :: ys, r => by
    rw [List.map_cons] at r
    cases r with
    | cons r1 r2 =>
      obtain ⟨t, rfl⟩ := r1
      exact ReadsAll.cons (as := []) (.str (T y) t) (reads_strs r2)
theorem cr_minT (hc : X.calm = true) (hu : X.A.units + 64 < cLine) : CallR X (.builtin "min") (rMinT X.K) := by
  intro pins s σ H vs us Q I r h
  obtain ⟨a, x, ys, rfl, hs, q⟩ := h
  obtain ⟨its, rv, hl, _⟩ := I.list hs
  rw [Vals.ref1 r]
  have rv' : Vals ((x :: ys).map fun y => V.str (T y)) its := rv
  have hd : ∀ l : List (List Nat), PyData.depthAll (l.map fun y => PyData.str (T y)) ≤ 1 := by
    intro l
    induction l with
    | nil => decide
    | cons y r ih =>
      rw [List.map_cons]
      unfold PyData.depthAll
      refine Nat.max_le.mpr ⟨?_, ih⟩
      first | decide | (show PyData.depth (.str _) ≤ 1; unfold PyData.depth; decide)
  have ha : PySem.W.AlikeAll ((x :: ys).map fun y => PyData.str (T y)) := by
    refine ⟨fun p hp q hq => ?_, fun p hp e => ?_⟩
    · obtain ⟨y, _, rfl⟩ := List.mem_map.mp hp
      obtain ⟨z, _, rfl⟩ := List.mem_map.mp hq
      rfl
    · obtain ⟨y, _, rfl⟩ := List.mem_map.mp hp
      cases e
  refine PySem.W.min_list_data (x := .str (T x)) (xs := ys.map fun y => .str (T y)) (I.ok.hd hc) hl.isList (by simpa using reads_strs (h := s.heap) rv') ha (by have := hd (x :: ys); simp only [List.map_cons] at this; omega) fun i v h' tk bs hv hr hk => ?_
  rw [minD_strs] at hr
  obtain ⟨t, rfl⟩ : ∃ t, v = Value.str (T (lstT x ys)) t := by
    cases hr with
    | str z t => exact ⟨t, rfl⟩
  exact ⟨.str _, H, I.kept hk, ⟨_, rfl⟩, q⟩

/-! sorted(text) -/
def rSortedT : List V → Hp → VK → Prop := fun vs H Q => ∃ l : List Nat, vs = [V.str (T l)] ∧ l.length ≤ 100000 ∧
  ∀ (ys : List Str) (p : Addr), ys.Perm (l.map fun c => T [c]) → H p = none → Q (.ref p) (upd H p (.lst (ys.map V.str)))
theorem strs_signs : ∀ (l : List Nat) (us : List Value), us.length = l.length → (∀ (j : Nat) (v : Value), us[j]? = some v → ∃ (c : Nat) (u : Tok), l[j]? = some c ∧ v = Value.str ⟨#[c]⟩ u) → StrsAre us (l.map fun c => T [c])
  | [], [], _, _ => .nil
  | [], _ :: _, h, _ => by simp at h
  | c :: l, [], h, _ => by simp at h
  | c :: l, v :: us, h, f => by
    obtain ⟨c', u, e1, e2⟩ := f 0 v rfl
    cases e1
    subst e2
    exact .cons _ _ (strs_signs l us (by simpa using h) fun j w hw => f (j + 1) w hw)
theorem cr_sortedT (hc : X.calm = true) : CallR X (.builtin "sorted") rSortedT := by
  intro pins s σ H vs us Q I r h
  obtain ⟨l, rfl, hz, q⟩ := h
  obtain ⟨u, rfl, ru⟩ := r.one
  obtain ⟨t, rfl⟩ := ru
  have hzl : l.length ≤ sizeLine := Nat.le_trans hz (by decide)
  refine Calls.call_function_entry kind_sorted plain_sorted entry_sorted (args_sorted1 _) ?_
  unfold Builtin.«sorted»
  refine wpAny_bind (m := checkCount "sorted" 1 1 _) (wpAny_pure ?_)
  refine wpAny_bind (wpAny_collect_str (by exact I.ok.hd hc) (T l) t (fun s' acc hk hg hd ho hacc => ?_) (by show l.toArray.size ≤ sizeLine; rw [List.size_toArray]; exact hzl))
  obtain ⟨hp, g, d, tk, os⟩ := s'
  simp only at hk hg hd ho
  subst hg hd ho
  have I1 : Inv X pins σ H { s with heap := hp, toks := tk } := I.kept hk
  obtain ⟨h1, h2⟩ := hacc
  have hsz : acc.toList.length = l.length := by
    rw [Array.length_toList, h1]
    show l.toArray.size = _
    rw [List.size_toArray]
  have hS : StrsAre acc.toList (l.map fun c => T [c]) := strs_signs l acc.toList hsz fun j v hv => by
    obtain ⟨c, w, e1, e2⟩ := h2 j v (by simpa using hv)
    refine ⟨c, w, ?_, e2⟩
    have : (T l).cps[j]? = l[j]? := by simp [T]
    rw [← this]
    exact e1
  refine wpAny_bind (wpAny_newList ?_ (by rw [hsz]; exact hzl))
  have hoL : (hp.push (seqObj "list" acc.toList.toArray 0)).get? hp.objs.size = some (seqObj "list" acc.toList.toArray 0) := Heap.get?_push_size _ rfl
  refine wpAny_bind (wpAny_holding (wpAny_call_entry slot_list_sort ⟨_, hoL, rfl⟩ entry_list_sort (list_sort_treeKAny strKind_oneLt hoL hS.keysOf (fun v₁ v₂ rest e => keyKind_strs (by rw [← e]; exact hS)) (by rw [hsz]; exact hzl) fun st' a1 a2 => ⟨_, rfl, ?_⟩) (args_list_sort _)))
  obtain ⟨ss', b1, b2, b3⟩ := sorted_out_str hS a1 a2
  refine wpAny_pure ⟨_, rfl, ?_⟩
  obtain ⟨ep, he'⟩ := sortedHeap_at (vs := acc.toList) (out := (arrOf st').map (·.2)) hoL
  have hlen : (ss'.map V.str).length ≤ sizeLine := by
    rw [List.length_map, b2.length_eq, List.length_map]
    exact hzl
  refine ⟨.ref hp.objs.size, upd H hp.objs.size (.lst (ss'.map V.str)), I1.laid (t' := tk) (fun b u hu => ?_) (Nat.le_refl _) ⟨hlen, ((arrOf st').map (·.2)).toList, ep, vals_of_strs b1, by rw [Array.toArray_toList]; exact he'⟩, rfl, q _ _ b2 (I1.hok.fresh (Nat.le_refl _))⟩
  have hb : b ≠ hp.objs.size := Nat.ne_of_lt (Heap.lt_size hu)
  rw [sortedHeap_old hb (by rw [size_push']; exact Nat.lt_succ_of_lt (Heap.lt_size hu))]
  exact Heap.get?_push_of_some _ hu

/-! xs.count(True), truths -/
def rCntB (K : PySem.W.Frag) : V → List V → Hp → VK → Prop := fun x xs H Q => ∃ (p : Addr) (bs : List Bool), x = .ref p ∧ xs = [.bl true] ∧ SqL K H p (bs.map V.bl) ∧ Q (.int (bs.count true : Nat)) H
def eqT (v : Value) : Bool := match v with
  | .bool b => b
  | _ => false
theorem mt_countB : MtR X "list.count" (rCntB X.K) := by
  intro pins s σ H x xs v us Q I rx rxs h
  obtain ⟨p, bs, rfl, rfl, hs, q⟩ := h
  cases rx
  obtain ⟨u, rfl, ru⟩ := rxs.one
  cases (show u = Value.bool true from ru)
  obtain ⟨its, rv, ⟨⟨cls, dd, data, sl⟩, n, ho, hc, hdn, hd⟩, hlen⟩ := I.list hs
  simp only at hc hd
  subst hc hd
  have hb : ∀ {bs : List Bool} {its : List Value}, Vals (bs.map V.bl) its → its = bs.map Value.bool := by
    intro bs
    induction bs with
    | nil => intro its r; cases r; rfl
    | cons b bs ih =>
      intro its r
      rw [List.map_cons] at r
      cases r with
      | cons r1 r2 =>
        rw [ih r2]
        cases (show _ = Value.bool b from r1)
        rfl
  have e := hb rv
  subst e
  refine call_meets PySem.F.slot_list_count ⟨_, ho, rfl⟩ PySem.F.entry_list_count (PySem.F.args_list_count_2 _ _)
    (SeqAt.list_countAt p (bs.map Value.bool).toArray n dd sl (.bool true) eqT) ⟨ho, fun y hy => ?_, ?_⟩
  · obtain ⟨b, _, rfl⟩ := List.mem_map.mp (List.mem_toArray.mp hy)
    cases b with
    | true => exact SeqAt.EqAt.bool_bool true true
    | false => exact SeqAt.EqAt.bool_bool false true
  · have ec : (bs.map Value.bool).toArray.toList.countP eqT = bs.count true := by
      show (bs.map Value.bool).countP eqT = _
      rw [List.countP_map]
      unfold List.count
      congr 1
      funext b
      cases b <;> rfl
    rw [ec]
    exact ⟨.int _, H, I.tok _, ⟨s.toks, rfl⟩, q⟩

/-! a caught error, kept: an exception object of the class cls that stands at a -/
def ExV (cls : Value) (a : Addr) : HO := .ext fun h => ∃ (oe : Obj) (vs : Array Value), h.get? a = some oe ∧ Zc cls none oe ∧ oe.data = .fields vs
theorem exV_ok {P : Program} {w : World} {H : Hp} {h : Heap} {a : Addr} {cls : Value} {oe : Obj} {vs : Array Value} (e : h.get? a = some oe) (z : Zc cls none oe) (d : oe.data = .fields vs) : ObjOk P w H h a (ExV cls a) :=
  ⟨⟨oe, vs, e, z, d⟩, ⟨oe, e⟩, fun _ _ ⟨o, v, q, r⟩ k => ⟨o, v, k o q, r⟩⟩
/-- an object that was not there at the def's entry, and is not tracked, may be tracked -/
theorem track {pins : List (Addr × Obj)} {σ : L2.St} {H : Hp} {s : Shared} {a : Addr} {o : HO} (I : Inv X pins σ H s) (n0 : X.s_0.heap.get? a = none) (hn : H a = none) (nL : a ≠ X.env.locals)
    (nC : ∀ x c, X.env.cells.lookup x = some c → c ≠ a) (nP : ∀ p ∈ X.pn ++ pins, p.1 ≠ a) (new : ObjOk X.prog X.w (upd H a o) s.heap a o) : Inv X pins σ (upd H a o) s := by
  have ne0 : ∀ b u, X.s_0.heap.get? b = some u → b ≠ a := fun b u e z => by
    rw [z, n0] at e
    cases e
  refine ⟨I.ok, I.os, I.bare, ⟨I.base.keep, I.base.slot, fun b u e n hq => ?_, I.base.there, fun b xs e => ?_, fun b u v e => ?_, fun b ps e => ?_⟩, I.loc, I.cell, ?_, fun x c e => ?_, fun p hp => ?_, HOk.laidN I.hok (fun _ _ q => q) hn new, I.len⟩
  · rw [upd_ne (ne0 b u e)]
    exact I.base.free b u e n hq
  · have q := I.base.tups b xs e
    rw [upd_ne (ne_of_none q hn)]
    exact q
  · have q := I.base.frzs b u v e
    rw [upd_ne (ne_of_none q hn)]
    exact q
  · obtain ⟨m, q⟩ := I.base.tbls b ps e
    exact ⟨m, by rw [upd_ne (ne_of_none q hn)]; exact q⟩
  · rw [upd_ne (Ne.symm nL)]
    exact I.free
  · rw [upd_ne (nC x c e)]
    exact I.freeC x c e
  · obtain ⟨e, n, ne, nf, d⟩ := I.pin p hp
    exact ⟨e, by rw [upd_ne (nP p hp)]; exact n, ne, nf, d⟩
/-- isinstance(e, c), e such an error -/
def rIsX (K : PySem.W.Frag) : List V → Hp → VK → Prop := fun xs H Q => ∃ (a D : Addr) (c : V) (cv : Value) (b : Bool), xs = [.ref a, c] ∧ H a = some (ExV (.ref D) a) ∧ ExcC K D ∧ (∀ u, RelV c u → u = cv) ∧ PySem.W.kitOne K (.ref D) cv = some b ∧ Q (.bl b) H
theorem call_isX : CallR X (.builtin "isinstance") (rIsX X.K) := by
  intro pins s σ H xs us Q I r h
  obtain ⟨a, D, c, cv, b, rfl, ha, C, hcv, e, q⟩ := h
  obtain ⟨u1, u2, rfl, rx, rt⟩ := vals2 r
  cases rx
  have ec := hcv _ rt
  subst ec
  obtain ⟨⟨oe, vs, hget, hz, hv⟩, _, _⟩ := (show ObjOk X.prog X.w H s.heap a (ExV (.ref D) a) from I.hok a _ ha)
  have J : PySem.W.InstAt s.heap a oe D none := by
    obtain ⟨oc, od, oda, osl⟩ := oe
    obtain ⟨h1, h2⟩ := hz
    dsimp only at h1 h2 hv
    subst h1 h2 hv
    exact ⟨hget, rfl, rfl, trivial⟩
  exact PySem.W.kia_one (PySem.W.handS_kitx_exc C.hg C.hk C.hs C.hd C.ha C.hn C.ht C.hm) I.kIn J e (fun z => nomatch z) fun tk => ⟨.bl b, H, I.tok _, rfl, q⟩

/-- what the clause «except c as n: m = n» asks of an error of the body (n in slot i, m in slot j): the clause takes it, and what follows holds with the error kept -/
def wVal (K : PySem.W.Frag) (c : Value) (i j : Nat) (D : Ends) : WX := fun cls d σ H =>
  PySem.W.exmOne K cls c = some true ∧ d = none ∧ ∀ a, H a = none → D.nx ((σ.set i (some (.ref a))).set j (some (.ref a)) |>.set i none) (upd H a (ExV cls a))
/-- an error that has come down: the state, the error's place, all that is known of it -/
structure Caught (X : Cx) (pins : List (Addr × Obj)) (σ : L2.St) (H : Hp) (s : Shared) (a : Addr) (cls : Value) : Prop where
  inv : Inv X pins σ H s
  free : H a = none
  new0 : X.s_0.heap.get? a = none
  loc : a ≠ X.env.locals
  frs : a ∉ X.fs
  cel : ∀ x c, X.env.cells.lookup x = some c → c ≠ a
  pin : ∀ p ∈ X.pn ++ pins, p.1 ≠ a
theorem ps_try_val {x n m : Str} {c : Value} {i j : Nat} {body orelse : List Stmt} {np p1 p2 p3 p4 pos : Pos} {tb : WX → TS} {u : TS} (ho : PSs X orelse u) (st : X.stack = X.env :: X.outer) (fm : X.env.frame = some X.env.locals) (ex0 : X.ex = [])
    (nd : X.N.Nodup) (hi : X.N[i]? = some n) (hj : X.N[j]? = some m) (ln : X.env.scope.names.lookup n = some .local) (lm : X.env.scope.names.lookup m = some .local) (kn : X.env.kindOf n = some .local) (nm : Names X x c) (nb1 : (n == ("__debug__" : Str)) = false) (nb2 : (n == ("__classdict__" : Str)) = false)
    (sw : swapsWith (.Name n p2) (some (.Name m p1)) p3.line X.env = pure false)
    (hb : ∀ (W : WX) (pn : List (Addr × Obj)) (xe : Value → Shared → Prop), Takes (X.tr pn xe) W → PassesOwn (model X.prog X.w) X.A X.env xe → PSs (X.tr pn xe) body (tb W)) :
    PS X (.Try body [.ExceptHandler (some (.Name x np)) (some n) [.Assign [.Name m p1] (.Name n p2) p3] p4] orelse [] pos) (fun D σ H => tb (wVal X.K c i j D) { D with nx := u D } σ H) := by
  constructor
  intro pins s σ H D I h
  have ok := I.ok
  have frames : X.A.frames = some (X.env :: X.outer) := st ▸ ok.frames
  apply wpAny_Try_except
  refine wpAny_mono ((hb (wVal X.K c i j D) (X.pn ++ pins) _ ?caught PassesOwn.looking).run [] s σ H { D with nx := u D } (I.toTry _) h) ?after (fun e s1 he => he)
  case caught =>
    rintro e s' ⟨a, B, sI, ps', σ', H', cls, d, rfl, J0, keepB, up, sky, na, os, ag, hyes, hd0, hgo⟩
    subst hd0
    have J : Inv X pins σ' H' sI := J0.ofTry ok
    rw [st] at keepB
    have sky' : Sky B (X.env :: X.outer) a (Zc cls none) X.env.locals s'.heap := st ▸ sky
    apply Sky.land Zc.steady frames fm sky'
    intro h3 fly up3
    have land : ∀ h4 : Heap, HandSPX.FlyingZ B (X.env :: X.outer) a (Zc cls none) h4 → sI.heap.UpToSlots h4 → Inv X pins σ' H' { s' with heap := h4 } := fun h4 fl u4 => J.landed (by rw [st]; exact keepB) fl.1 u4 os ag
    have J3 := land h3 fly (up.trans up3)
    obtain ⟨oe3, vs3, g3, z3, d3⟩ := fly.there
    have notF : a ∉ frs (X.env :: X.outer) := fun hm => by
      obtain ⟨_, o', e', hnf⟩ := fly.2.2.1.mem hm
      rw [g3] at e'
      cases e'
      exact hnf _ d3
    have nL : a ≠ X.env.locals := fun z => notF (List.mem_filterMap.mpr ⟨X.env, List.mem_cons_self, by rw [fm, z]⟩)
    have nF : a ∉ X.fs := fun hm => by
      obtain ⟨e, he, q⟩ := List.mem_filterMap.mp hm
      exact notF (List.mem_filterMap.mpr ⟨e, List.mem_cons_of_mem _ he, q⟩)
    have gone : sI.heap.get? a = none := by
      cases q : sI.heap.get? a with
      | none => rfl
      | some o =>
        have z := keepB a o q notF
        rw [fly.2.1] at z
        cases z
    have new0 : X.s_0.heap.get? a = none := by
      cases q : X.s_0.heap.get? a with
      | none => rfl
      | some o =>
        obtain ⟨o', z⟩ := J.base.there a o q (by rw [ex0]; exact fun z => nomatch z)
        rw [gone] at z
        cases z
    have cel : ∀ x c, X.env.cells.lookup x = some c → c ≠ a := fun y w e z => by
      obtain ⟨v, o, q, _⟩ := J.cell y w e
      rw [z, gone] at q
      cases q
    have pin : ∀ p ∈ X.pn ++ pins, p.1 ≠ a := fun p hp z => by
      have q := (J.pin p hp).1
      rw [z, gone] at q
      cases q
    have C : Caught X pins σ' H' sI a cls := ⟨J, na, new0, nL, nF, cel, pin⟩
    have S3 := J3.suite g3 d3 na nL nF
    apply wpAny_handleBy_cons _ (by intro q; cases q)
    apply codeAny_handlers_test
    have tyA : PySem.W.Looks (model X.prog X.w) h3 (typeOf (.ref a)) cls := fun A Q E s k q => wpAny_typeOf_ref (k _ _ g3) (by rw [z3.1]; exact q)
    have fits := PySem.W.exm_one (M := model X.prog X.w) J3.kIn tyA hyes
    have ask : ∀ {Q : Value → Shared → Prop} {E : Value → Shared → Prop}, Q c { s' with heap := h3 } → wpAny (model X.prog X.w) (X.A.mark (some (.ref a))) (eval (.Name x np) X.env) Q E { s' with heap := h3 } := by
      intro Q E q
      rcases nm with ⟨hg, dbg, hm | ⟨hm, hv, hn⟩⟩
      · exact ld_glob (X := X.suite a ((a, oe3) :: (X.pn ++ pins))) S3 hg hm q dbg
      · exact ld_blt (X := X.suite a ((a, oe3) :: (X.pn ++ pins))) S3 hg hm hv q hn dbg
    apply ask
    apply fits.here
    apply codeAny_handlers_suite_as
    apply HandSPX.lands_againZ fly
    intro h4 fly4 up4
    obtain ⟨oe4, vs4, g4, z4, d4⟩ := fly4.there
    have S4 := (land h4 fly4 ((up.trans up3).trans up4)).suite g4 d4 na nL nF
    apply store_ok (X := X.suite a ((a, oe4) :: (X.pn ++ pins))) (v := .ref a) S4 nd hi (Or.inl ln) rfl _ (Or.inr ln)
    intro s5 S5
    have suite : PSs (X.suite a ((a, oe4) :: (X.pn ++ pins))) [.Assign [.Name m p1] (.Name n p2) p3] (tAsg (tVar i) (gName j)) :=
      pss_one (ps_asg (pe_var hi (Or.inl ln) nb1 nb2) (pg_name nd hj (Or.inl lm) (Or.inr lm)) sw)
    have hiN : i < (σ'.set i (some (V.ref a))).length := by
      rw [List.length_set, J.len]
      exact (List.getElem?_eq_some_iff.mp hi).1
    have rs := suite.run [] s5 _ H' ⟨fun σ6 H6 => σ6 = (σ'.set i (some (V.ref a))).set j (some (V.ref a)) ∧ H6 = H', fun _ _ => False, fun _ _ => False, fun _ _ => False⟩ S5
      ⟨V.ref a, by rw [List.length_set] at hiN; rw [List.getElem?_set_self hiN], rfl, rfl⟩
    apply wpAny_mono rs _ fun _ _ z => False.elim z
    intro f s6 q
    cases f with
    | next =>
      obtain ⟨σ6, H6, S6, rfl, rfl⟩ := q
      have g6 := (S6.pin (a, oe4) (List.mem_append_left _ List.mem_cons_self)).1
      have J6 := track (S6.unsuite ok) C.new0 C.free C.loc C.cel C.pin (exV_ok g6 z4 d4)
      exact gone_ok J6 nd hi kn fun s7 J7 => ⟨_, _, J7, hgo a na⟩
    | brk => obtain ⟨_, _, _, z⟩ := q; exact z.elim
    | cont => obtain ⟨_, _, _, z⟩ := q; exact z.elim
    | ret w => obtain ⟨_, _, _, _, _, z⟩ := q; exact z.elim
  case after =>
    intro f s1 q
    cases f with
    | next =>
      obtain ⟨σ', H', K1, z⟩ := q
      exact ho.run pins s1 σ' H' D (K1.ofTry ok) z
    | brk =>
      obtain ⟨σ', H', K1, z⟩ := q
      exact ⟨σ', H', K1.ofTry ok, z⟩
    | cont =>
      obtain ⟨σ', H', K1, z⟩ := q
      exact ⟨σ', H', K1.ofTry ok, z⟩
    | ret w =>
      obtain ⟨v, σ', H', K1, r, z⟩ := q
      exact ⟨v, σ', H', K1.ofTry ok, r, z⟩
end
end Rw
namespace Rw
open PySem PySem.Spec PyProof.Rows L2

theorem big {n : Nat} (h : n ≤ 100000) : n ≤ sizeLine := Nat.le_trans h (by decide)
theorem bigL {n : Nat} (h : n ≤ 100000) : n < sizeLine := Nat.lt_of_le_of_lt h (by decide)
/-- a text, a list of texts, as values -/
abbrev tv (l : List Nat) : V := .str (T l)
abbrev tvs (ls : List (List Nat)) : List V := ls.map tv
theorem tv_inj {a b : List Nat} (h : tv a = tv b) : a = b := T_inj (V.str.inj h)
theorem tv_dec (a b : List Nat) : decide (tv a = tv b) = decide (a = b) := by
  by_cases e : a = b
  · subst e; simp
  · rw [decide_eq_false e, decide_eq_false fun z => e (tv_inj z)]
theorem T_beq (a b : List Nat) : (T a == T b) = decide (a = b) := by
  by_cases e : a = b
  · subst e; simp
  · rw [decide_eq_false e]
    exact beq_eq_false_iff_ne.mpr fun z => e (T_inj z)
/-- l[lo:hi] -/
def cutL {α : Type} (l : List α) (lo hi : Option Int) : List α := (l.drop (HT.sIx l.length 0 lo)).take (HT.sIx l.length l.length hi - HT.sIx l.length 0 lo)
theorem cutS_T (l : List Nat) (lo hi : Option Int) : cutS (T l) lo hi = T (cutL l lo hi) := by
  unfold cutS cutL
  rw [T_len, T_cps]
  rfl
theorem cutL_len {α : Type} (l : List α) (lo hi : Option Int) : (cutL l lo hi).length ≤ l.length := by
  unfold cutL
  rw [List.length_take, List.length_drop]
  omega
theorem sIxN (n d k : Nat) : HT.sIx n d (some (k : Int)) = min k n := HT.sIx_nat n d k
theorem cutL_from {α : Type} (l : List α) (k : Nat) : cutL l (some (k : Int)) none = l.drop k := by
  unfold cutL
  rw [sIxN, HT.sIx_none]
  by_cases h : k ≤ l.length
  · rw [Nat.min_eq_left h]
    exact List.take_of_length_le (by rw [List.length_drop]; exact Nat.le_refl _)
  · have h' : l.length ≤ k := by omega
    rw [Nat.min_eq_right h', List.drop_of_length_le (l := l) (Nat.le_refl _), List.drop_of_length_le (l := l) h']
    simp
theorem cutL_to {α : Type} (l : List α) (k : Nat) : cutL l none (some (k : Int)) = l.take k := by
  unfold cutL
  rw [sIxN, HT.sIx_none, List.drop_zero, Nat.sub_zero]
  by_cases h : k ≤ l.length
  · rw [Nat.min_eq_left h]
  · have h' : l.length ≤ k := by omega
    rw [Nat.min_eq_right h', List.take_of_length_le (l := l) (Nat.le_refl _), List.take_of_length_le (l := l) h']
theorem cutL_but {α : Type} (l : List α) : cutL l none (some (-1)) = l.dropLast := by
  unfold cutL
  have e : HT.sIx l.length l.length (some (-1)) = l.length - 1 := by
    show (if (-1 : Int) < 0 then ((-1 : Int) + (l.length : Int)).toNat else min (-1 : Int).toNat l.length) = _
    rw [if_pos (by decide)]
    omega
  rw [e, HT.sIx_none, List.drop_zero, Nat.sub_zero, List.dropLast_eq_take (l := l)]
theorem cutL_mid {α : Type} (l : List α) (i j : Nat) : cutL l (some (i : Int)) (some (j : Int)) = (l.drop i).take (j - i) := by
  unfold cutL
  rw [sIxN, sIxN]
  by_cases h : i ≤ l.length
  · rw [Nat.min_eq_left h]
    by_cases hj : j ≤ l.length
    · rw [Nat.min_eq_left hj]
    · have hj' : l.length ≤ j := by omega
      rw [Nat.min_eq_right hj', List.take_of_length_le (l := l.drop i) (by rw [List.length_drop]; omega), List.take_of_length_le (l := l.drop i) (by rw [List.length_drop]; omega)]
  · have h' : l.length ≤ i := by omega
    rw [Nat.min_eq_right h', List.drop_of_length_le (l := l) (Nat.le_refl _), List.drop_of_length_le (l := l) h']
    simp
theorem cutV_L (xs : List V) (lo hi : Option Int) : cutV xs lo hi = cutL xs lo hi := rfl
theorem cutL_map {α β : Type} (f : α → β) (l : List α) (lo hi : Option Int) : cutL (l.map f) lo hi = (cutL l lo hi).map f := by
  unfold cutL
  rw [List.length_map, List.map_take, List.map_drop]

/-! rules over texts by their codes -/
section
variable {X : Cx}
def rAddT : R2 := fun x y H Q => ∃ a b : List Nat, x = tv a ∧ y = tv b ∧ a.length + b.length ≤ 100000 ∧ Q (tv (a ++ b)) H
theorem op_addT : OpR X (binaryOp .Add) rAddT := fun pins s σ H x y v u Q I rx ry ⟨a, b, e1, e2, hz, q⟩ =>
  op_add_str pins s σ H x y v u Q I rx ry ⟨T a, T b, e1, e2, by rw [T_len, T_len]; exact big hz, by rw [T_app]; exact q⟩
def rLtT : R2 := fun x y H Q => ∃ a b : List Nat, x = tv a ∧ y = tv b ∧ Q (.bl (decide (a < b))) H
theorem op_ltT : OpR X (compareOp .Lt) rLtT := fun pins s σ H x y v u Q I rx ry ⟨a, b, e1, e2, q⟩ =>
  op_lt_str pins s σ H x y v u Q I rx ry ⟨T a, T b, e1, e2, by rw [T_cps, T_cps]; exact q⟩
def rLeT : R2 := fun x y H Q => ∃ a b : List Nat, x = tv a ∧ y = tv b ∧ Q (.bl (!decide (b < a))) H
theorem op_leT : OpR X (compareOp .LtE) rLeT := fun pins s σ H x y v u Q I rx ry ⟨a, b, e1, e2, q⟩ =>
  op_le_str pins s σ H x y v u Q I rx ry ⟨T a, T b, e1, e2, by rw [T_cps, T_cps]; exact q⟩
def rEqT : R2 := fun x y H Q => ∃ a b : List Nat, x = tv a ∧ y = tv b ∧ Q (.bl (decide (a = b))) H
theorem op_eqT : OpR X (compareOp .Eq) rEqT := fun pins s σ H x y v u Q I rx ry ⟨a, b, e1, e2, q⟩ =>
  op_eq pins s σ H x y v u Q I rx ry (by subst e1 e2; exact ⟨rfl, by rw [tv_dec]; exact q⟩)
def rNeT : R2 := fun x y H Q => ∃ a b : List Nat, x = tv a ∧ y = tv b ∧ Q (.bl (!decide (a = b))) H
theorem op_neT : OpR X (compareOp .NotEq) rNeT := fun pins s σ H x y v u Q I rx ry ⟨a, b, e1, e2, q⟩ =>
  op_ne pins s σ H x y v u Q I rx ry (by subst e1 e2; exact ⟨rfl, by rw [tv_dec]; exact q⟩)
def rLenT : List V → Hp → VK → Prop := fun xs H Q => ∃ l : List Nat, xs = [tv l] ∧ l.length ≤ 100000 ∧ Q (.int (l.length : Nat)) H
theorem call_lenT : CallR X (.builtin "len") rLenT := fun pins s σ H vs us Q I r ⟨l, e, hz, q⟩ =>
  call_len_str pins s σ H vs us Q I r ⟨T l, e, by rw [T_len]; exact big hz, by rw [T_len]; exact q⟩
def rSlT : V → Option Int → Option Int → Hp → VK → Prop := fun x lo hi H Q => ∃ l : List Nat, x = tv l ∧ l.length ≤ 100000 ∧ Q (tv (cutL l lo hi)) H
theorem sl_T : SlR X rSlT := fun pins s σ H x v vl vu lo hi sl Q I rx hs pl pu ⟨l, e, hz, q⟩ =>
  sl_str pins s σ H x v vl vu lo hi sl Q I rx hs pl pu ⟨T l, e, by rw [T_len]; exact big hz, by rw [cutS_T]; exact q⟩
def rIxT : R2 := fun x y H Q => ∃ (l : List Nat) (i : Int) (c : Nat), x = tv l ∧ y = .int i ∧ l.length ≤ 100000 ∧ atI l i = some c ∧ Q (tv [c]) H
theorem ix_T : IxR X rIxT := fun value slice pins s σ H x y v u Q I rx ry ⟨l, i, c, e1, e2, hz, ha, q⟩ hs =>
  ix_str value slice pins s σ H x y v u Q I rx ry (show rIxS x y H Q from ⟨T l, i, c, e1, e2, by rw [T_len]; exact big hz, by rw [T_cps]; exact ha, q⟩) hs
/-- ''.join(texts) -/
def rJoinT (K : PySem.W.Frag) : V → List V → Hp → VK → Prop := fun x xs H Q => ∃ (p : Addr) (ls : List (List Nat)), x = tv [] ∧ xs = [.ref p] ∧ SqL K H p (tvs ls) ∧ ls.flatten.length ≤ 100000 ∧ Q (tv ls.flatten) H
theorem join_T : ∀ ls : List (List Nat), Txt.join (T []) (ls.map T) = T ls.flatten := by
  intro ls
  have h : ∀ ls : List (List Nat), Str.join (T []) (ls.map T) = T ls.flatten := by
    intro ls
    induction ls with
    | nil => rfl
    | cons a r ih =>
      cases r with
      | nil =>
        show T a = _
        simp
      | cons b r =>
        show T a ++ T [] ++ Str.join (T []) ((b :: r).map T) = _
        rw [ih, T_app, T_app]
        simp
  rw [show Txt.join (T []) (ls.map T) = Str.join (T []) (ls.map T) from PySem.StrLaws.glued_eq_join _ _, h]
theorem mt_joinT : MtR X "str.join" (rJoinT X.K) := fun pins s σ H x xs v us Q I rx rxs ⟨p, ls, e1, e2, hs, hz, q⟩ => by
  have em : tvs ls = (ls.map T).map V.str := by rw [List.map_map]; rfl
  refine mt_join pins s σ H x xs v us Q I rx rxs ⟨T [], p, ls.map T, e1, e2, .inl (by rw [← em]; exact hs), ?_, by rw [join_T]; exact q⟩
  have e : ((ls.map T).map (·.length)).sum = ls.flatten.length := by
    rw [List.map_map, List.length_flatten]
    exact congrArg List.sum (List.map_congr_left fun l _ => T_len l)
  rw [e]
  show _ + _ * (T []).length ≤ _
  rw [T_len]
  exact Nat.le_trans (by simpa using hz) (by decide : 100000 ≤ 16777216)
theorem pe_joinT {o e : Expr} {to te : TE} {apos pos : Pos} (ho : PE X o to) (he : PE X e te)
    (h1 : starEach [e] X.env = [(false, eval e X.env)] := by rfl) (h2 : attributeBase o "join" X.env (eval o X.env) = eval o X.env := by rfl) (h3 : (apos.endLine == pos.line) = true := by rfl) :
    PE X (.Call (.Attribute o "join" apos) [e] [] pos) (tM1 (rJoinT X.K) to te) := pe_m1 F.slot_str_join F.type_str_join mt_joinT ho he h1 h2 h3
/-- w in texts, texts.index(w) -/
theorem flat_tvs (ls : List (List Nat)) : (tvs ls).all flatV = true := by simp [List.all_map]; intro x _; rfl
theorem inV_tvs (w : List Nat) (ls : List (List Nat)) : inV (tv w) (tvs ls) = decide (w ∈ ls) := by
  unfold inV
  induction ls with
  | nil => simp
  | cons a r ih =>
    rw [show tvs (a :: r) = tv a :: tvs r from rfl, List.any_cons, ih]
    have e : eqV (tv a) (tv w) = decide (a = w) := T_beq a w
    rw [e]
    by_cases h : a = w
    · simp [h]
    · have h' : ¬ w = a := fun z => h z.symm
      simp [h, h']
def rInT (K : PySem.W.Frag) (neg : Bool) : R2 := fun x y H Q => ∃ (p : Addr) (w : List Nat) (ls : List (List Nat)), x = tv w ∧ y = .ref p ∧ SqL K H p (tvs ls) ∧ Q (.bl (if neg then !decide (w ∈ ls) else decide (w ∈ ls))) H
theorem op_inT : OpR X (compareOp .In) (rInT X.K false) := fun pins s σ H x y v u Q I rx ry ⟨p, w, ls, e1, e2, hs, q⟩ =>
  op_in_seq pins s σ H x y v u Q I rx ry ⟨p, tvs ls, e2, .inl hs, by rw [e1]; rfl, flat_tvs ls, by rw [e1, inV_tvs]; exact q⟩
theorem op_notInT : OpR X (compareOp .NotIn) (rInT X.K true) := fun pins s σ H x y v u Q I rx ry ⟨p, w, ls, e1, e2, hs, q⟩ =>
  op_notIn_seq pins s σ H x y v u Q I rx ry ⟨p, tvs ls, e2, .inl hs, by rw [e1]; rfl, flat_tvs ls, by rw [e1, inV_tvs]; exact q⟩
def rIndexT (K : PySem.W.Frag) : V → List V → Hp → VK → Prop := fun x xs H Q => ∃ (p : Addr) (w : List Nat) (ls : List (List Nat)), x = .ref p ∧ xs = [tv w] ∧ SqL K H p (tvs ls) ∧ w ∈ ls ∧ Q (.int (ls.idxOf w : Nat)) H
theorem idx_first : ∀ (ls : List (List Nat)) (w : List Nat), w ∈ ls → ls[ls.idxOf w]? = some w ∧ ∀ (m : Nat) (z : List Nat), m < ls.idxOf w → ls[m]? = some z → z ≠ w
  | [], w, h => by simp at h
  | a :: r, w, h => by
    by_cases e : a = w
    · subst e
      rw [List.idxOf_cons_self]
      exact ⟨rfl, fun m z hm => absurd hm (by omega)⟩
    · have hr : w ∈ r := by
        rcases List.mem_cons.mp h with z | z
        · exact absurd z.symm e
        · exact z
      obtain ⟨h1, h2⟩ := idx_first r w hr
      have ei : (a :: r).idxOf w = r.idxOf w + 1 := by
        rw [List.idxOf_cons]
        have : (a == w) = false := beq_eq_false_iff_ne.mpr e
        rw [this]
        rfl
      rw [ei]
      refine ⟨h1, fun m z hm hz => ?_⟩
      cases m with
      | zero =>
        have : a = z := Option.some.inj hz
        rw [← this]
        exact e
      | succ m => exact h2 m z (by omega) hz
theorem mt_indexT : MtR X "list.index" (rIndexT X.K) := fun pins s σ H x xs v us Q I rx rxs ⟨p, w, ls, e1, e2, hs, hw, q⟩ => by
  obtain ⟨h1, h2⟩ := idx_first ls w hw
  refine mt_index pins s σ H x xs v us Q I rx rxs ⟨p, tvs ls, tv w, ls.idxOf w, tv w, e1, e2, hs, rfl, flat_tvs ls, ?_, ?_, ?_, q⟩
  · rw [List.getElem?_map, h1]
    rfl
  · show (T w == T w) = true
    simp
  · intro m z hm hz
    rw [List.getElem?_map] at hz
    cases e : ls[m]? with
    | none =>
      rw [e] at hz
      cases hz
    | some y =>
      rw [e] at hz
      have ez : tv y = z := Option.some.inj hz
      rw [← ez]
      show (T y == T w) = false
      rw [T_beq]
      exact decide_eq_false (h2 m y hm e)
/-- ==, != of two lists of texts -/
theorem dp_tvs {K : PySem.W.Frag} {H : Hp} : ∀ ls : List (List Nat), DpAll K H (tvs ls) (ls.map fun l => .str (T l))
  | [] => .nil
  | a :: r => .cons (.str (T a)) (dp_tvs r)
theorem eqv_tvs : ∀ a b : List (List Nat), PyData.eqvAll (a.map fun l => .str (T l)) (b.map fun l => .str (T l)) = decide (a = b)
  | [], [] => rfl
  | [], _ :: _ => rfl
  | _ :: _, [] => rfl
  | x :: xs, y :: ys => by
    rw [List.map_cons, List.map_cons]
    unfold PyData.eqvAll
    rw [eqv_tvs xs ys]
    show ((T x == T y) && _) = _
    rw [T_beq]
    by_cases h1 : x = y <;> by_cases h2 : xs = ys <;> simp [h1, h2]
/-- the codes are signs -/
def Ok (l : List Nat) : Prop := ∀ c ∈ l, c < 1114112
theorem can_tvs : ∀ ls : List (List Nat), (∀ l ∈ ls, Ok l) → PyData.canLayAll0 (ls.map fun l => .str (T l)) = true
  | [], _ => rfl
  | a :: r, h => by
    rw [List.map_cons]
    unfold PyData.canLayAll0
    rw [can_tvs r fun l hl => h l (List.mem_cons_of_mem _ hl), Bool.and_true]
    unfold PyData.canLay0
    show Array.all _ _ = true
    simp only [T, List.size_toArray, List.all_toArray', List.all_eq_true]
    intro c hc
    exact decide_eq_true (h a List.mem_cons_self c hc)
theorem depth_tvs : ∀ ls : List (List Nat), PyData.depthAll (ls.map fun l => .str (T l)) ≤ 1
  | [] => by decide
  | a :: r => by
    rw [List.map_cons]
    unfold PyData.depthAll
    refine Nat.max_le.mpr ⟨?_, depth_tvs r⟩
    first | decide | (show PyData.depth (.str _) ≤ 1; unfold PyData.depth; decide)

theorem shaped_tvs (ls : List (List Nat)) (h : ∀ l ∈ ls, Ok l) : SeqAt.shaped (.list (ls.map fun l => .str (T l))) = true := by
  unfold SeqAt.shaped
  rw [Bool.and_eq_true]
  constructor
  · unfold PyData.canLay0
    exact can_tvs ls h
  · refine decide_eq_true ?_
    unfold PyData.depth
    have := depth_tvs ls
    omega
def rEqL (K : PySem.W.Frag) (neg : Bool) : R2 := fun x y H Q => ∃ (p q : Addr) (a b : List (List Nat)), x = .ref p ∧ y = .ref q ∧ SqL K H p (tvs a) ∧ SqL K H q (tvs b) ∧ (∀ l ∈ a, Ok l) ∧ (∀ l ∈ b, Ok l) ∧ Q (.bl (if neg then !decide (a = b) else decide (a = b))) H
theorem eqv_lists (a b : List (List Nat)) : PyData.eqv (.list (a.map fun l => .str (T l))) (.list (b.map fun l => .str (T l))) = decide (a = b) := by
  unfold PyData.eqv
  exact eqv_tvs a b
theorem op_eqL (hu : X.A.units + 64 < cLine) : OpR X (compareOp .Eq) (rEqL X.K false) := fun pins s σ H x y v u Q I rx ry ⟨p, q, a, b, e1, e2, h1, h2, o1, o2, k⟩ =>
  op_eqD hu pins s σ H x y v u Q I rx ry ⟨_, _, by rw [e1]; exact .lst h1 (dp_tvs a), by rw [e2]; exact .lst h2 (dp_tvs b), shaped_tvs a o1, shaped_tvs b o2, by rw [eqv_lists]; exact k⟩
theorem op_neL (hu : X.A.units + 64 < cLine) : OpR X (compareOp .NotEq) (rEqL X.K true) := fun pins s σ H x y v u Q I rx ry ⟨p, q, a, b, e1, e2, h1, h2, o1, o2, k⟩ =>
  op_neD hu pins s σ H x y v u Q I rx ry ⟨_, _, by rw [e1]; exact .lst h1 (dp_tvs a), by rw [e2]; exact .lst h2 (dp_tvs b), shaped_tvs a o1, shaped_tvs b o2, by rw [eqv_lists]; exact k⟩
end

/-! a def of the text, as its callers need it -/
section
/-- at the module's name x stands a def that keeps sp, by at most level k -/
def Cal (CX : CXT) (P : Program) (w : World) (K : PySem.W.Frag) (mg : Str → Option Value) (base : Heap) (k : Nat) (x : Str) (sp : Sp) : Prop :=
  ∃ (f : Addr) (fd : FuncData) (ps : List Str), FnOk P w K mg base CX k f fd ps sp ∧ mg x = some (.ref f) ∧ PySem.W.keepIn K (.ref f) = true ∧ Binds K fd ps []
/-- the def st stands at the module's name x, its parameters ps -/
def Dfn (K : PySem.W.Frag) (mg : Str → Option Value) (x : Str) (st : Stmt) (ps : List Str) : Prop :=
  ∃ (f : Addr) (fd : FuncData), Fun K x x st f fd ∧ mg x = some (.ref f) ∧ Binds K fd ps []
variable {CX : CXT} {P : Program} {w : World} {K : PySem.W.Frag} {mg : Str → Option Value} {base : Heap} {x : Str} {st : Stmt} {ps : List Str} {sp : Sp} {k : Nat}
theorem Dfn.cal (D : Dfn K mg x st ps) (h : ∀ f fd, Fun K x x st f fd → FnOk P w K mg base CX k f fd ps sp) : Cal CX P w K mg base k x sp := by
  obtain ⟨f, fd, F, g, b⟩ := D
  exact ⟨f, fd, ps, h f fd F, g, F.kp, b⟩
end
section
variable {X : Cx} {CX : CXT} {k j : Nat} {sp : Sp} {E : XK} {x : Str} {p pos : Pos} {e : Expr} {es : List Expr} {t : TA}
theorem pe_cal (c : Cal CX X.prog X.w X.K X.mg X.base k x sp) (hr : Room j X.A) (hk : k ≤ j) (hx : Passes CX X E) (ha : PA X (e :: es) t) (hg : Gl X x := by rfl) (hdb : (x == ("__debug__" : Str)) = false := by decide)
    (he : starEach (e :: es) X.env = (false, eval e X.env) :: starEach es X.env := by rfl) (hpl : (backTo pos (starEach es X.env)).any (·.1) = false := by rfl) :
    PE X (.Call (.Name x p) (e :: es) [] pos) (tCall sp [] E t) := by
  refine ⟨fun pins s σ H Q I h => ?_⟩
  obtain ⟨f, fd, ps, F, g, kp, b⟩ := c
  exact (pe_call F (hr.mono hk) hg g kp b .nil hx ha hdb he hpl).run pins s σ H Q I h
theorem pe_calS {E : L2.St → XK} (c : Cal CX X.prog X.w X.K X.mg X.base k x sp) (hr : Room j X.A) (hk : k ≤ j) (hx : ∀ σ, PassesAt CX X σ (E σ)) (ha : PA X (e :: es) t) (hg : Gl X x := by rfl) (hdb : (x == ("__debug__" : Str)) = false := by decide)
    (he : starEach (e :: es) X.env = (false, eval e X.env) :: starEach es X.env := by rfl) (hpl : (backTo pos (starEach es X.env)).any (·.1) = false := by rfl) :
    PE X (.Call (.Name x p) (e :: es) [] pos) (tCallS sp E t) := by
  refine ⟨fun pins s σ H Q I h => ?_⟩
  obtain ⟨f, fd, ps, F, g, kp, b⟩ := c
  exact (pe_callS F (hr.mono hk) hg g kp b hx ha hdb he hpl).run pins s σ H Q I h
end

section
variable {X : Cx}
/-- a module's value, whatever token it bears -/
theorem pe_gx {x : Str} {v : V} {pos : Pos} (hg : Gl X x) (h : ∃ u, X.mg x = some u ∧ RelV v u) (hd : (x == ("__debug__" : Str)) = false := by decide) : PE X (.Name x pos) (tC v) := by
  obtain ⟨u, hm, r⟩ := h
  exact pe_glob hg hm r hd
end
section
variable {X : Cx}
/-- a class, a def, as a value -/
theorem pe_gr {x : Str} {a : Addr} {pos : Pos} (hg : Gl X x) (h : X.mg x = some (.ref a)) (hd : (x == ("__debug__" : Str)) = false := by decide) : PE X (.Name x pos) (tC (.ref a)) := pe_glob hg h rfl hd
end
/-! words -/
def Wd (l : List Nat) : Prop := 1 ≤ l.length ∧ l.length ≤ 300 ∧ ∀ c ∈ l, 97 ≤ c ∧ c ≤ 122
instance (l : List Nat) : Decidable (Wd l) := by unfold Wd; exact inferInstance
theorem Wd.ok {l : List Nat} (h : Wd l) : Ok l := fun c hc => by have := h.2.2 c hc; omega
theorem Wd.sz {l : List Nat} (h : Wd l) : l.length ≤ 100000 := Nat.le_trans h.2.1 (by decide)
/-- a thing of a known kind; b: whether it is a word -/
def Th (K : PySem.W.Frag) (H : Hp) (v : V) (b : Bool) : Prop :=
  (∃ l : List Nat, v = tv l ∧ l.length ≤ 100000 ∧ b = decide (Wd l)) ∨ (b = false ∧ ∃ t : String, TyX K H v (.type t) ∧ kitB t "str" = some false)
theorem Th.word {K : PySem.W.Frag} {H : Hp} {l : List Nat} (h : Wd l) : Th K H (tv l) true := .inl ⟨l, rfl, h.sz, (decide_eq_true h).symm⟩
theorem Th.get {K : PySem.W.Frag} {H : Hp} {v : V} (h : Th K H v true) : ∃ l, v = tv l ∧ Wd l := by
  rcases h with ⟨l, e, _, b⟩ | ⟨b, _⟩
  · exact ⟨l, e, of_decide_eq_true b.symm⟩
  · cases b
/-- what was put down newly -/
theorem same_upd {H : Hp} {p : Addr} {o : HO} (h : H p = none) : Same H (upd H p o) := fun b x e => by
  rw [upd_ne (ne_of_none e h)]
  exact e
theorem Same.mut {H H' : Hp} {p : Addr} {o : HO} (e : Same H H') (h : H p = none) : Same H (upd H' p o) := fun a u ha => by
  rw [upd_ne (ne_of_none ha h)]
  exact e a u ha
theorem tyx_same {K : PySem.W.Frag} {H H' : Hp} {v : V} {t : Value} (e : Same H H') (h : TyX K H v t) : TyX K H' v t := by
  cases h with
  | base b =>
    cases b with
    | non => exact .base .non
    | bl y => exact .base (.bl y)
    | int i => exact .base (.int i)
    | str y => exact .base (.str y)
    | flt y => exact .base (.flt y)
    | lst ea => exact .base (.lst (e _ _ ea))
    | frz ea => exact .base (.frz (e _ _ ea))
    | tup ea => exact .base (.tup (e _ _ ea))
    | dK ea => exact .base (.dK (e _ _ ea))
    | dT ea => exact .base (.dT (e _ _ ea))
    | ins ea cl ha hn htk hm => exact .base (.ins (e _ _ ea) cl ha hn htk hm)
  | byt b => exact .byt b
  | set ea => exact .set (e _ _ ea)
  | kList a c => exact .kList a c
  | kTuple a c => exact .kTuple a c
  | kDict a c => exact .kDict a c
  | fTuple ea => exact .fTuple (e _ _ ea)
  | fDict ea => exact .fDict (e _ _ ea)
theorem Th.same {K : PySem.W.Frag} {H H' : Hp} {v : V} {b : Bool} (e : Same H H') (h : Th K H v b) : Th K H' v b := by
  rcases h with h | ⟨h1, t, h2, h3⟩
  · exact .inl h
  · exact .inr ⟨h1, t, tyx_same e h2, h3⟩
/-! promises -/
def spIsWord (K : PySem.W.Frag) : Sp := fun vs H Q _ => ∃ v b, vs = [v] ∧ Th K H v b ∧ ∀ H', Same H H' → Q (.bl b) H'
/-- a def that refuses what is no word as its first argument, n more arguments -/
def spW (K : PySem.W.Frag) (C : Addr) (n : Nat) (body : List Nat → List V → Hp → VK → XK → Prop) : Sp := fun vs H Q E => ∃ v b rest, vs = v :: rest ∧ rest.length = n ∧ Th K H v b ∧
  (b = false → ∀ H', Same H H' → E (.ref C) none H') ∧ (∀ l, b = true → v = tv l → Wd l → body l rest H Q E)
def spNeed (K : PySem.W.Frag) (C : Addr) : Sp := spW K C 0 fun _ _ H Q _ => ∀ H', Same H H' → Q .non H'
/-- how a caller with a word says it -/
theorem spW.yes {K : PySem.W.Frag} {C : Addr} {n : Nat} {body : List Nat → List V → Hp → VK → XK → Prop} {l : List Nat} {rest : List V} {H : Hp} {Q : VK} {E : XK} (h : Wd l) (hn : rest.length = n) (q : body l rest H Q E) : spW K C n body (tv l :: rest) H Q E :=
  ⟨tv l, true, rest, rfl, hn, .word h, (fun e => nomatch e), fun l' _ e _ => by
    have z := tv_inj e
    subst z
    exact q⟩
/-- turnings, as all say it -/
def turn (l : List Nat) (k : Nat) : List Nat := l.drop k ++ l.take k
def turns (l : List Nat) : List (List Nat) := (List.range l.length).map (turn l)
/-- a new list of texts is told -/
def newT (ls : List (List Nat)) (H : Hp) (Q : VK) : Prop := ∀ p H', H p = none → Same H H' → H' p = some (.lst (tvs ls)) → Q (.ref p) H'
def spTurnings (K : PySem.W.Frag) (C : Addr) : Sp := spW K C 0 fun l _ H Q _ => newT (turns l) H Q
def spTurned (K : PySem.W.Frag) (C : Addr) : Sp := spW K C 1 fun l rest H Q _ => ∃ k : Int, rest = [.int k] ∧ ∀ H', Same H H' → Q (tv (turn l (k % l.length).toNat)) H'
/-! the law's own -/
def spCellAt (K : PySem.W.Frag) : Sp := fun vs H Q _ => ∃ (a : Addr) (ns : List Int) (k : Int), vs = [.ref a, .int k] ∧ SqL K H a (ns.map V.int) ∧ 0 ≤ k ∧ k < 1000 ∧ ∀ i : Int, Q (.int i) H
def spMixed : Sp := fun vs H Q _ => ∃ c k : Int, vs = [.int c, .int k] ∧ ∀ i : Int, 0 ≤ i → i < 2147483399 → Q (.int i) H
/-- signs a to z, some -/
def Sg (l : List Nat) : Prop := ∀ c ∈ l, 97 ≤ c ∧ c ≤ 122
def spSigns : Sp := fun vs H Q _ => ∃ c : Int, vs = [.int c] ∧ ∀ l H', Same H H' → 1 ≤ l.length → l.length ≤ 26 → Sg l → Q (tv l) H'
def spDrawn : Sp := fun vs H Q _ => ∃ (c : Int) (s : List Nat) (n : Nat), vs = [.int c, tv s, .int n] ∧ 1 ≤ s.length ∧ s.length ≤ 26 ∧ Sg s ∧ n ≤ 1000 ∧ ∀ l H', Same H H' → l.length = n → Sg l → Q (tv l) H'
def spWoven : Sp := fun vs H Q _ => ∃ (s : List Nat) (n : Nat), vs = [tv s, .int n] ∧ 1 ≤ s.length ∧ s.length ≤ 26 ∧ Sg s ∧ 1 ≤ n ∧ n ≤ 1000 ∧ ∀ l H', Same H H' → 1 ≤ l.length → l.length ≤ n → Sg l → Q (tv l) H'
def spWord : Sp := fun vs H Q _ => ∃ (c : Int) (n : Nat), vs = [.int c, .int n] ∧ 1 ≤ n ∧ n ≤ 300 ∧ ∀ l H', Same H H' → Wd l → l.length ≤ n → Q (tv l) H'
def spLTurnings : Sp := fun vs H Q _ => ∃ l : List Nat, vs = [tv l] ∧ l.length ≤ 1000 ∧ newT (turns l) H Q
/-- less than each of its other turnings -/
def early (l : List Nat) : Bool := (turns l).tail.all fun o => decide (l < o)
def spLEarly : Sp := fun vs H Q _ => ∃ l : List Nat, vs = [tv l] ∧ l.length ≤ 1000 ∧ Ok l ∧ ∀ H', Same H H' → Q (.bl (early l)) H'
def spNoWord (K : PySem.W.Frag) : Sp := fun vs H Q _ => ∃ m : Int, vs = [.int m] ∧ ∀ v H', Same H H' → Th K H' v false → Q v H'
/-! comprehensions: what is made so far -/
def LcP (H1 : Hp) (D : Addr) (Pv : Nat → List V → Prop) (i : Nat) (H : Hp) : Prop := H1 D = none ∧ ∃ acc, Same H1 H ∧ H D = some (.lst acc) ∧ acc.length ≤ i ∧ Pv i acc
section
variable {H1 H H4 : Hp} {D : Addr} {Pv : Nat → List V → Prop} {i : Nat} {acc : List V} {y : V}
theorem lcp_start (h : H1 D = none) (p : Pv 0 []) : LcP H1 D Pv 0 (upd H1 D (.lst [])) := ⟨h, [], same_upd h, upd_same, Nat.le_refl _, p⟩
theorem lcp_put (h : H1 D = none) (e : Same H1 H) (hD : H D = some (.lst acc)) (hl : acc.length ≤ i) (hi : i < 100000) (e4 : Same H H4) (p : Pv (i + 1) (acc ++ [y])) :
    ∃ acc, H4 D = some (.lst acc) ∧ acc.length < sizeLine ∧ LcP H1 D Pv (i + 1) (upd H4 D (.lst (acc ++ [y]))) :=
  ⟨acc, e4 D _ hD, bigL (by omega), h, acc ++ [y], Same.mut (e.trans e4) h, upd_same, by rw [List.length_append]; exact Nat.add_le_add hl (Nat.le_refl 1), p⟩
theorem lcp_skip (h : H1 D = none) (e : Same H1 H) (hD : H D = some (.lst acc)) (hl : acc.length ≤ i) (e4 : Same H H4) (p : Pv (i + 1) acc) : LcP H1 D Pv (i + 1) H4 :=
  ⟨h, acc, e.trans e4, e4 D _ hD, Nat.le_succ_of_le hl, p⟩
end
theorem walk_T (l : List Nat) : Walk (Its (T l)) l.length (fun _ => True) (fun i H v H' => H' = H ∧ ∃ c, l[i]? = some c ∧ v = tv [c]) := by
  have w := walk_str (z := T l)
  have e : (T l).cps.size = l.length := T_len l
  rw [e] at w
  refine w.mono (fun _ h => h) fun i H x H' _ _ ⟨e1, c, e2, e3⟩ => ⟨e1, c, ?_, e3⟩
  have : (T l).cps[i]? = l[i]? := by simp [T]
  rw [← this]
  exact e2
theorem lt_one (a b : Nat) : (([a] : List Nat) < [b]) ↔ a < b := by simp [List.cons_lt_cons_iff]
/-- a comprehension without a test -/
theorem keepAll {σ : L2.St} {H : Hp} {A B : Hp → Prop} (h : A H) : tYes σ H fun b H3 => if b = true then A H3 else B H3 := by
  show if true = true then A H else B H
  rw [if_pos rfl]
  exact h
/-! lists of single signs -/
def Sign1 (x : List Nat) : Prop := ∃ c, x = [c] ∧ 97 ≤ c ∧ c ≤ 122
theorem flat_one : ∀ {ls : List (List Nat)}, (∀ x ∈ ls, Sign1 x) → ls.flatten.length = ls.length ∧ Sg ls.flatten
  | [], _ => ⟨rfl, fun c hc => by simp at hc⟩
  | x :: r, h => by
    obtain ⟨i1, i2⟩ := flat_one (ls := r) fun y hy => h y (List.mem_cons_of_mem _ hy)
    obtain ⟨c, rfl, h1, h2⟩ := h x List.mem_cons_self
    refine ⟨by simp [i1], fun d hd => ?_⟩
    rw [List.flatten_cons] at hd
    rcases List.mem_append.mp hd with g | g
    · have : d = c := by simpa using g
      subst this
      exact ⟨h1, h2⟩
    · exact i2 d g
theorem sorted_one {ys : List Str} {ls : List (List Nat)} (p : ys.Perm (ls.map T)) (h : ∀ x ∈ ls, Sign1 x) : ∃ ls' : List (List Nat), ys.map V.str = tvs ls' ∧ ls'.length = ls.length ∧ ∀ x ∈ ls', Sign1 x := by
  refine ⟨ys.map (·.cps.toList), ?_, ?_, fun x hx => ?_⟩
  · show _ = (ys.map (·.cps.toList)).map tv
    rw [List.map_map]
    refine List.map_congr_left fun y _ => ?_
    show V.str y = V.str (T y.cps.toList)
    rw [T_of]
  · rw [List.length_map, p.length_eq, List.length_map]
  · obtain ⟨y, hy, rfl⟩ := List.mem_map.mp hx
    obtain ⟨z, hz, e⟩ := List.mem_map.mp (p.mem_iff.mp hy)
    rw [← e, T_cps]
    exact h z hz
theorem signs_one (l : List Nat) (h : Sg l) : ∀ x ∈ l.map (fun c => [c]), Sign1 x := fun x hx => by
  obtain ⟨c, hc, rfl⟩ := List.mem_map.mp hx
  exact ⟨c, rfl, h c hc⟩
theorem at_some {α : Type} {xs : List α} {j : Int} (h0 : 0 ≤ j) (h1 : j < (xs.length : Nat)) : ∃ v ∈ xs, atI xs j = some v := by
  obtain ⟨k, rfl⟩ : ∃ k : Nat, j = (k : Int) := ⟨j.toNat, by omega⟩
  have hk : k < xs.length := by omega
  exact ⟨xs[k], List.getElem_mem hk, atI_nat (List.getElem?_eq_getElem hk)⟩
theorem at_neg1 {α : Type} {xs : List α} (h : 1 ≤ xs.length) : ∃ v ∈ xs, atI xs (-1) = some v := by
  have hne : xs ≠ [] := fun e => by rw [e] at h; simp at h
  have e := List.dropLast_concat_getLast hne
  refine ⟨xs.getLast hne, List.getLast_mem hne, ?_⟩
  have z := atI_last xs.dropLast (xs.getLast hne)
  rw [e] at z
  exact z
theorem Sg.app {a b : List Nat} (h : Sg a) (k : Sg b) : Sg (a ++ b) := fun c hc => by
  rcases List.mem_append.mp hc with z | z
  · exact h c z
  · exact k c z
theorem Sg.sub {a b : List Nat} (h : Sg b) (k : ∀ c ∈ a, c ∈ b) : Sg a := fun c hc => h c (k c hc)
theorem Sg.cut {a : List Nat} (h : Sg a) (lo hi : Option Int) : Sg (cutL a lo hi) := h.sub fun c hc => List.mem_of_mem_drop (List.mem_of_mem_take hc)
theorem draw7 {i n : Int} (h0 : 0 ≤ i) (hn : 0 < n) : 0 ≤ i / 7 % n ∧ i / 7 % n < n := ⟨Int.emod_nonneg _ (by omega), Int.emod_lt_of_pos _ hn⟩
/-- the refusals' classes, as isinstance asks them: cN is NoWord -/
structure Er6 (K : PySem.W.Frag) (mg : Str → Option Value) (cW cN cS cC cM cR cT : Addr) : Prop where
  g_WordError : mg "WordError" = some (.ref cW)
  g_NoWord : mg "NoWord" = some (.ref cN)
  g_NoSigns : mg "NoSigns" = some (.ref cS)
  g_NoCount : mg "NoCount" = some (.ref cC)
  g_TooMany : mg "TooMany" = some (.ref cM)
  g_NoRing : mg "NoRing" = some (.ref cR)
  g_Twice : mg "Twice" = some (.ref cT)
  e : ExcC K cN
  i_N : PySem.W.kitOne K (.ref cN) (.ref cN) = some true
  i_S : PySem.W.kitOne K (.ref cN) (.ref cS) = some false
  i_C : PySem.W.kitOne K (.ref cN) (.ref cC) = some false
  i_M : PySem.W.kitOne K (.ref cN) (.ref cM) = some false
  i_R : PySem.W.kitOne K (.ref cN) (.ref cR) = some false
  i_T : PySem.W.kitOne K (.ref cN) (.ref cT) = some false
  i_V : PySem.W.kitOne K (.ref cN) (.type "ValueError") = some true
  x_W : PySem.W.exmOne K (.ref cN) (.ref cW) = some true
def spMark (cN : Addr) : Sp := fun vs H Q _ => ∃ a : Addr, vs = [.ref a] ∧ H a = some (ExV (.ref cN) a) ∧ ∀ H', Same H H' → Q (tv [119, 111, 114, 100]) H'
def spRefused (K : PySem.W.Frag) : Sp := fun vs H Q _ => ∃ (i : Int) (v : V), vs = [.int i, v] ∧ Th K H v false ∧ ∀ H', Same H H' → Q (.bl true) H'
def spRight : Sp := fun vs H Q _ => ∃ c : Int, vs = [.int c] ∧ ∀ H', Same H H' → Q (.bl true) H'
def spLaw (K : PySem.W.Frag) : Sp := fun vs H Q _ => ∃ (a : Addr) (ns : List Int), vs = [.ref a] ∧ SqL K H a (ns.map V.int) ∧ ns.length ≤ 63 ∧ ∀ H', Q (.bl true) H'
/-! what isinstance says of an own class, by what k_is finds -/
theorem kit_self {K : PySem.W.Frag} {C : Addr} : PySem.W.kitOne K (.ref C) (.ref C) = some true := by
  unfold PySem.W.kitOne
  rw [if_pos (by simp)]
theorem kit_other {K : PySem.W.Frag} {C D : Addr} (h1 : PySem.W.subIn K (.ref C) (.ref C) = some true) (hd : PySem.W.hasDictIn K D = true) (ht : PySem.W.typeIn K (.ref D) = some (.type "type")) (h : PySem.W.subIn K (.ref C) (.ref D) = some false) : PySem.W.kitOne K (.ref C) (.ref D) = some false := by
  have ne : ¬ (Value.ref C == Value.ref D) = true := fun e => by
    have e' : C = D := Value.ref.inj (beq_iff_eq.mp e)
    rw [e'] at h1
    rw [e', h1] at h
    cases h
  unfold PySem.W.kitOne
  rw [if_neg ne]
  obtain ⟨cd, hc, _⟩ := PySem.W.any_some hd
  have e2 : ((PySem.W.clsIn K D).isSome && PySem.W.typeIn K (.ref D) == some (.type "type")) = true := by rw [hc, ht] <;> rfl
  show (if _ = true then PySem.W.subIn K (.ref C) (.ref D) else none) = some false
  rw [if_pos e2]
  exact h
theorem kit_value {K : PySem.W.Frag} {C : Addr} (h : PySem.W.subIn K (.ref C) (.type "ValueError") = some true) : PySem.W.kitOne K (.ref C) (.type "ValueError") = some true := by
  unfold PySem.W.kitOne
  rw [if_neg (by intro e; cases (beq_iff_eq.mp e))]
  show (if PySem.W.kitMeta "ValueError" = true then PySem.W.subIn K (.ref C) (.type "ValueError") else none) = some true
  rw [if_pos (by decide +kernel)]
  exact h
/-! the least of some texts -/
def minT : List (List Nat) → List Nat
  | [] => []
  | x :: ys => lstT x ys
theorem lstT_mem : ∀ (ys : List (List Nat)) (x : List Nat), lstT x ys ∈ x :: ys
  | [], x => by simp [lstT]
  | y :: r, x => by
    have h := lstT_mem r (if y < x then y else x)
    have e : lstT x (y :: r) = lstT (if y < x then y else x) r := rfl
    rw [e]
    rcases List.mem_cons.mp h with z | z
    · rw [z]
      by_cases g : y < x
      · rw [if_pos g]; exact List.mem_cons_of_mem _ List.mem_cons_self
      · rw [if_neg g]; exact List.mem_cons_self
    · exact List.mem_cons_of_mem _ (List.mem_cons_of_mem _ z)
theorem minT_mem {ls : List (List Nat)} (h : ls ≠ []) : minT ls ∈ ls := by
  cases ls with
  | nil => exact absurd rfl h
  | cons x ys => exact lstT_mem ys x
def rMinL (K : PySem.W.Frag) : List V → Hp → VK → Prop := fun vs H Q => ∃ (a : Addr) (ls : List (List Nat)), vs = [V.ref a] ∧ SqL K H a (tvs ls) ∧ ls ≠ [] ∧ Q (tv (minT ls)) H
theorem cr_minL {X : Cx} (hc : X.calm = true) (hu : X.A.units + 64 < cLine) : CallR X (.builtin "min") (rMinL X.K) := fun pins s σ H vs us Q I r ⟨a, ls, e, hs, hne, q⟩ => by
  cases ls with
  | nil => exact absurd rfl hne
  | cons x ys => exact cr_minT hc hu pins s σ H vs us Q I r ⟨a, x, ys, e, hs, q⟩
theorem turns_ne {l : List Nat} (h : Wd l) : turns l ≠ [] := fun e => by
  have := congrArg List.length e
  simp [turns] at this
  have := h.1
  simp_all
theorem turns_len (l : List Nat) : (turns l).length = l.length := by simp [turns]
def spLeastTurn (K : PySem.W.Frag) (C : Addr) : Sp := spW K C 0 fun l _ H Q _ => ∀ H', Same H H' → Q (.int ((turns l).idxOf (minT (turns l)) : Nat)) H'
def spLeastForm (K : PySem.W.Frag) (C : Addr) : Sp := spW K C 0 fun l _ H Q _ => ∀ H', Same H H' → Q (tv (minT (turns l))) H'
def stepsV (l m : List Nat) : V := if m ∈ turns l then .int ((turns l).idxOf m : Nat) else .non
def spSteps (K : PySem.W.Frag) (C : Addr) : Sp := fun vs H Q E => ∃ v u b d, vs = [v, u] ∧ Th K H v b ∧ Th K H u d ∧ ((b && d) = false → ∀ H', Same H H' → E (.ref C) none H') ∧
  (∀ l m, (b && d) = true → v = tv l → u = tv m → Wd l → Wd m → ∀ H', Same H H' → Q (stepsV l m) H')
theorem idx_at {ls : List (List Nat)} {w : List Nat} (h : w ∈ ls) : atI (tvs ls) ((ls.idxOf w : Nat) : Int) = some (tv w) := by
  refine atI_nat ?_
  rw [List.getElem?_map, (idx_first ls w h).1]
  rfl
theorem ok_turns {l : List Nat} (h : Ok l) : ∀ x ∈ turns l, Ok x := fun x hx c hc => by
  obtain ⟨k, _, rfl⟩ := List.mem_map.mp hx
  rcases List.mem_append.mp hc with z | z
  · exact h c (List.mem_of_mem_drop z)
  · exact h c (List.mem_of_mem_take z)
end Rw
namespace Rk
open PySem PySem.Spec PyProof.Rows L2 Rw
def topS (i : Nat) : Stmt := PySem.Challenge.pw_ringword_k14_whole_rings.main.body.getD i (.Pass ⟨0, 0, 0, 0⟩)
/-- the built-ins that the text calls, and its constants -/
structure Bt (mg : Str → Option Value) : Prop where
  m_len : mg "len" = none
  m_range : mg "range" = none
  m_sorted : mg "sorted" = none
  m_min : mg "min" = none
  m_max : mg "max" = none
  m_all : mg "all" = none
  m_isinstance : mg "isinstance" = none
  m_list : mg "list" = none
  m_tuple : mg "tuple" = none
  m_str : mg "str" = none
  m_bool : mg "bool" = none
  m_zip : mg "zip" = none
  m_enumerate : mg "enumerate" = none
  m_ValueError : mg "ValueError" = none
  m_sum : mg "sum" = none
  m_set : mg "set" = none
  m_dict : mg "dict" = none
  m_int : mg "int" = none
  g_LONGEST_WORD : ∃ u, mg "LONGEST_WORD" = some u ∧ RelV (.int 300) u
/-- the class of the refusals -/
structure Er1 (K : PySem.W.Frag) (mg : Str → Option Value) (cN : Addr) : Prop where
  g_NoWord : mg "NoWord" = some (.ref cN)
  x_NoWord : PySem.W.excIn K cN [.type "ValueError", .type "Exception", .type "BaseException", .type "object"] "ValueError.__new__" = true
  k_NoWord : PySem.W.keepIn K (.ref cN) = true
  b_NoWord : PySem.W.subIn K (.ref cN) (.type "BaseException") = some true
  t_NoWord : PySem.W.typeIn K (.ref cN) = some (.type "type")
end Rk
namespace Rk
open PySem PySem.Spec PyProof.Rows L2 Rw
abbrev s_is_word : Stmt := topS 7
abbrev n_is_word : List Str := ["thing", "sign"]
abbrev p_is_word : List Str := ["thing"]
theorem sc_is_word : FnScope n_is_word p_is_word (defScope s_is_word) := ⟨rfl, rfl, rfl, by decide +kernel, rfl, by decide +kernel, by decide +kernel⟩
theorem wd_no1 {l : List Nat} (h : ¬ (1 : Int) ≤ (l.length : Nat)) : decide (Wd l) = false := decide_eq_false fun z => h (by have := z.1; omega)
theorem wd_no2 {l : List Nat} (h : ¬ ((l.length : Nat) : Int) ≤ 300) : decide (Wd l) = false := decide_eq_false fun z => h (by have := z.2.1; omega)
def isLet (c : Nat) : Bool := decide (97 ≤ c) && decide (c ≤ 122)
theorem wd_all {l : List Nat} (h1 : (1 : Int) ≤ (l.length : Nat)) (h2 : ((l.length : Nat) : Int) ≤ 300) : (l.map isLet).all id = decide (Wd l) := by
  rw [Bool.eq_iff_iff, decide_eq_true_eq, List.all_map, List.all_eq_true]
  constructor
  · intro h
    refine ⟨by omega, by omega, fun c hc => ?_⟩
    have := h c hc
    simpa [isLet] using this
  · intro h c hc
    have := h.2.2 c hc
    simpa [isLet] using this
section
variable {P : Program} {w : World} {K : PySem.W.Frag} {mg : Str → Option Value} {base : Heap} (B : Bt mg)
include B
theorem ok_is_word (D : Dfn K mg "is_word" s_is_word p_is_word) : Cal CX0 P w K mg base 1 "is_word" (spIsWord K) := by
  refine D.cal fun f fd F => F.ok sc_is_word (fun vs H Q E h => ?_) (fun cdv A outer s H vs Q E hr h => ?_)
  · obtain ⟨v, b, rfl, _⟩ := h
    rfl
  · obtain ⟨v, b, rfl, hv, q⟩ := h
    refine ⟨_, (pss_cons (ps_if (pt_not (pt_val (pe_callB call_isi (by rfl) B.m_isinstance (by decide +kernel) (pa_cons (pv 0) (pa_cons (pe_bltn (v := .ty "str") (u := .type "str") rfl B.m_str (by decide +kernel) rfl) pa_nil))))) (pss_one (ps_ret pe_bl)) pss_nil)
      (pss_cons (ps_if (pt_not (pt_chain op_le op_le pe_int (pe_callB call_lenT (by rfl) B.m_len PySem.boot_len (pa_cons (pv 0) pa_nil)) (pe_gx rfl B.g_LONGEST_WORD))) (pss_one (ps_ret pe_bl)) pss_nil)
      (pss_one (ps_ret (pe_callB (cr_all rfl) (by rfl) B.m_all (by decide +kernel) (pa_cons (pe_lc (own := [("sign", 1)]) rfl sc_is_word.nd (pi_str (pv 0)) (blkOk_by (own := [("sign", 1)]) (N := n_is_word) (sc := defScope s_is_word) (by decide +kernel)) (fun _ _ _ _ _ => (pg_name (i := 1) sc_is_word.nd rfl (Or.inl rfl))) (fun _ _ _ _ _ => pts_nil) (fun _ _ _ _ _ => (pe_chain op_leT op_leT pe_str (pv 1) pe_str))) pa_nil)))))), ?_⟩
    rcases hv with ⟨l, rfl, hz, rfl⟩ | ⟨rfl, t, ht, hk⟩
    · refine ⟨_, rfl, _, _, _, _, true, rfl, .ty "str", .base (.str _), kit_ty (by decide +kernel), true, rfl, ?_⟩
      refine iteF ?_
      refine ⟨_, rfl, l, rfl, hz, 1, _, rfl, rfl, _, rfl, ite2 (fun h1 => ?_) (fun h1 => ?_)⟩
      · have h1 := of_decide_eq_true h1
        refine ⟨_, _, rfl, rfl, _, rfl, ite2 (fun h2 => ?_) (fun h2 => ?_)⟩
        · rw [wd_no2 (by simpa using h2)] at q
          exact q H (Same.refl H)
        · have h2 : ((l.length : Nat) : Int) ≤ 300 := by simpa using h2
          refine ⟨_, rfl, T l, rfl, fun Dl hD => ?_⟩
          refine lc_it (walk_T l) (LcP H Dl fun i acc => acc = (l.take i).map fun c => V.bl (isLet c)) (lcp_start hD rfl) (fun _ _ _ _ => trivial) ?_ ?_
          · rintro i x H2 H2' hi ⟨_, acc, e, hD2, hl, rfl⟩ ⟨rfl, c, hc, rfl⟩
            have step : (l.take (i + 1)).map (fun c => V.bl (isLet c)) = (l.take i).map (fun c => V.bl (isLet c)) ++ [V.bl (isLet c)] := by
              rw [List.take_add_one, hc, List.map_append]
              rfl
            refine ⟨rfl, keepAll ?_⟩
            refine ⟨_, rfl, [97], [c], rfl, rfl, _, rfl, ite2 (fun h => ?_) (fun h => ?_)⟩
            · have e1 : 97 ≤ c := by simpa [lt_one] using h
              refine ⟨[c], [122], rfl, rfl, lcp_put hD e hD2 hl (by omega) (Same.refl _) ?_⟩
              show _ ++ [V.bl (!decide (([122] : List Nat) < [c]))] = _
              rw [step]
              have : isLet c = !decide (([122] : List Nat) < [c]) := by
                by_cases g : 122 < c
                · have g' : ¬ c ≤ 122 := by omega
                  simp [isLet, lt_one, e1, g, g']
                · have g' : c ≤ 122 := by omega
                  simp [isLet, lt_one, e1, g, g']
              rw [this]
            · have e1 : ¬ 97 ≤ c := by simpa [lt_one] using h
              refine lcp_put hD e hD2 hl (by omega) (Same.refl _) ?_
              show _ ++ [V.bl false] = _
              rw [step]
              have : isLet c = false := by simp [isLet, e1]
              rw [this]
          · rintro H2 ⟨_, acc, e, hD2, _, rfl⟩
            refine ⟨Dl, l.map isLet, rfl, .inl (.inl ?_), ?_⟩
            · rw [hD2, List.take_length, List.map_map]
              rfl
            · rw [wd_all h1 h2]
              exact q H2 e
      · rw [wd_no1 (by simpa using h1)] at q
        exact ⟨false, rfl, iteT (q H (Same.refl H))⟩
    · refine ⟨_, rfl, _, _, _, _, false, rfl, .ty "str", ht, kit_ty hk, false, rfl, ?_⟩
      exact q H (Same.refl H)
end
end Rk
namespace Rk
open PySem PySem.Spec PyProof.Rows L2 Rw
abbrev s_need_word : Stmt := topS 8
abbrev n_need_word : List Str := ["thing"]
abbrev p_need_word : List Str := ["thing"]
theorem sc_need_word : FnScope n_need_word p_need_word (defScope s_need_word) := ⟨rfl, rfl, rfl, by decide +kernel, rfl, by decide +kernel, by decide +kernel⟩
section
variable {P : Program} {w : World} {K : PySem.W.Frag} {mg : Str → Option Value} {base : Heap} {cN : Addr} (B : Bt mg) (R : Er1 K mg cN)
include B R
theorem ok_need_word (D : Dfn K mg "need_word" s_need_word p_need_word) (c_is_word : Cal CX0 P w K mg base 1 "is_word" (spIsWord K)) : Cal (L2.CX P w) P w K mg base 2 "need_word" (spNeed K cN) := by
  refine D.cal fun f fd F => F.okX sc_need_word (fun vs H Q E h => ?_) (fun cdv A outer s H vs Q E hr h => ?_)
  · obtain ⟨v, b, rest, rfl, hr, _⟩ := h
    cases rest with
    | nil => rfl
    | cons _ _ => cases hr
  · obtain ⟨v, b, rest, rfl, hrest, hv, hno, hyes⟩ := h
    cases List.eq_nil_of_length_eq_zero hrest
    refine ⟨_, (pss_one (ps_if (pt_not (pt_val (pe_cal c_is_word hr (by decide) pass0 (pa_cons (pv 0) pa_nil)))) (pss_one (ps_raise rfl (takes_of rfl rfl rfl rfl) (pmk_ownA PySem.F.excBase_ValueError R.x_NoWord R.g_NoWord R.k_NoWord (raises_own R.b_NoWord R.t_NoWord) (by rfl) (pa_cons (pe_joined (PJ.cons pe_str (PJ.cons (pe_fmt (pe_gx rfl B.g_LONGEST_WORD)) (PJ.cons pe_str PJ.nil)))) pa_nil)))) pss_nil)), ?_⟩
    refine ⟨v, rfl, v, b, rfl, hv, fun H1 e1 => ⟨b, rfl, ?_⟩⟩
    cases b with
    | true =>
      refine iteF ?_
      obtain ⟨l, rfl, hl⟩ := hv.get
      exact hyes l rfl rfl hl H1 e1
    | false =>
      refine iteT ?_
      refine ⟨_, rfl, by decide +kernel, .inr ⟨300, rfl, by decide, _, rfl, by decide +kernel, _, rfl, by decide +kernel, ?_⟩⟩
      exact ⟨by show 1 ≤ sizeLine; decide, hno rfl H1 e1⟩
end
end Rk
namespace Rk
open PySem PySem.Spec PyProof.Rows L2 Rw
abbrev s_turned : Stmt := topS 9
abbrev n_turned : List Str := ["word", "steps", "place"]
abbrev p_turned : List Str := ["word", "steps"]
theorem sc_turned : FnScope n_turned p_turned (defScope s_turned) := ⟨rfl, rfl, rfl, by decide +kernel, rfl, by decide +kernel, by decide +kernel⟩
section
variable {P : Program} {w : World} {K : PySem.W.Frag} {mg : Str → Option Value} {base : Heap} {cN : Addr} (B : Bt mg)
include B
theorem ok_turned (D : Dfn K mg "turned" s_turned p_turned) (c_need_word : Cal (L2.CX P w) P w K mg base 2 "need_word" (spNeed K cN)) : Cal (L2.CX P w) P w K mg base 3 "turned" (spTurned K cN) := by
  refine D.cal fun f fd F => F.okX sc_turned (fun vs H Q E h => ?_) (fun cdv A outer s H vs Q E hr h => ?_)
  · obtain ⟨v, b, rest, rfl, hr, _⟩ := h
    match rest, hr with
    | [_], _ => rfl
  · obtain ⟨v, b, rest, rfl, hrest, hv, hno, hyes⟩ := h
    match rest, hrest with
    | [k], _ =>
    refine ⟨_, (pss_cons (ps_expr (pe_cal c_need_word hr (by decide) (passes_call (takes_of rfl rfl rfl rfl) fun _ _ _ _ h => h) (pa_cons (pv 0) pa_nil)))
      (pss_cons (ps_set (i := 2) sc_turned.nd rfl (Or.inl rfl) (pe_op op_mod (pv 1) (pe_callB call_lenT (by rfl) B.m_len PySem.boot_len (pa_cons (pv 0) pa_nil))))
      (pss_one (ps_ret (pe_op op_addT (pe_slice sl_T (pv 0) (po_some (pv 2)) po_none) (pe_slice sl_T (pv 0) po_none (po_some (pv 2)))))))), ?_⟩
    refine ⟨v, rfl, v, b, [], rfl, rfl, hv, hno, fun l hb ev hl H1 e1 => ?_⟩
    subst hb ev
    obtain ⟨k, rfl, q⟩ := (by simpa using hyes l rfl rfl hl : ∃ k' : Int, k = .int k' ∧ ∀ H', Same H H' → Q (tv (turn l (k' % l.length).toNat)) H')
    have h1 : (0 : Int) < (l.length : Nat) := by have := hl.1; omega
    refine ⟨_, rfl, _, rfl, l, rfl, hl.sz, _, _, rfl, rfl, h1, ?_⟩
    obtain ⟨j, hj⟩ : ∃ j : Nat, k % (l.length : Nat) = (j : Int) := ⟨(k % (l.length : Nat)).toNat, by have := Int.emod_nonneg k (by omega : ((l.length : Nat) : Int) ≠ 0); omega⟩
    refine ⟨_, rfl, _, rfl, _, rfl, l, rfl, hl.sz, _, rfl, _, rfl, _, rfl, l, rfl, hl.sz, _, _, rfl, rfl, ?_, ?_⟩
    · have a1 := cutL_len l (some (k % (l.length : Nat))) none
      have a2 := cutL_len l none (some (k % (l.length : Nat)))
      have := hl.2.1
      omega
    · rw [hj, cutL_from, cutL_to]
      have z := q H1 e1
      rw [hj, Int.toNat_natCast] at z
      exact z
end
end Rk
namespace Rk
open PySem PySem.Spec PyProof.Rows L2 Rw
abbrev s_turnings : Stmt := topS 10
abbrev n_turnings : List Str := ["word", "place"]
abbrev p_turnings : List Str := ["word"]
theorem sc_turnings : FnScope n_turnings p_turnings (defScope s_turnings) := ⟨rfl, rfl, rfl, by decide +kernel, rfl, by decide +kernel, by decide +kernel⟩
theorem turn_step (l : List Nat) (i : Nat) : tvs ((List.range (i + 1)).map (turn l)) = tvs ((List.range i).map (turn l)) ++ [tv (turn l i)] := by
  rw [List.range_succ, List.map_append]
  exact List.map_append
theorem cut_turn (l : List Nat) (i : Nat) : cutL l (some ((0 : Int) + (i : Int))) none ++ cutL l none (some ((0 : Int) + (i : Int))) = turn l i := by
  rw [Int.zero_add, cutL_from, cutL_to]
  rfl
theorem cut_le (l : List Nat) (i : Int) (h : l.length ≤ 1000) : (cutL l (some i) none).length + (cutL l none (some i)).length ≤ 100000 := by
  have a1 := cutL_len l (some i) none
  have a2 := cutL_len l none (some i)
  omega
section
variable {P : Program} {w : World} {K : PySem.W.Frag} {mg : Str → Option Value} {base : Heap} {cN : Addr} (B : Bt mg)
include B
theorem ok_turnings (D : Dfn K mg "turnings" s_turnings p_turnings) (c_need_word : Cal (L2.CX P w) P w K mg base 2 "need_word" (spNeed K cN)) : Cal (L2.CX P w) P w K mg base 3 "turnings" (spTurnings K cN) := by
  refine D.cal fun f fd F => F.okX sc_turnings (fun vs H Q E h => ?_) (fun cdv A outer s H vs Q E hr h => ?_)
  · obtain ⟨v, b, rest, rfl, hr, _⟩ := h
    cases rest with
    | nil => rfl
    | cons _ _ => cases hr
  · obtain ⟨v, b, rest, rfl, hrest, hv, hno, hyes⟩ := h
    cases List.eq_nil_of_length_eq_zero hrest
    refine ⟨_, (pss_cons (ps_expr (pe_cal c_need_word hr (by decide) (passes_call (takes_of rfl rfl rfl rfl) fun _ _ _ _ h => h) (pa_cons (pv 0) pa_nil)))
      (pss_one (ps_ret (pe_lc (own := [("place", 1)]) rfl sc_turnings.nd (pi_range1 (by rfl) B.m_range (pa_cons (pe_callB call_lenT (by rfl) B.m_len PySem.boot_len (pa_cons (pv 0) pa_nil)) pa_nil)) (blkOk_by (own := [("place", 1)]) (N := n_turnings) (sc := defScope s_turnings) (by decide +kernel)) (fun _ _ _ _ _ => (pg_name (i := 1) sc_turnings.nd rfl (Or.inl rfl))) (fun _ _ _ _ _ => pts_nil) (fun _ _ _ _ _ => (pe_op op_addT (pe_slice sl_T (pv 0) (po_some (pv 1)) po_none) (pe_slice sl_T (pv 0) po_none (po_some (pv 1))))))))), ?_⟩
    refine ⟨v, rfl, v, b, [], rfl, rfl, hv, hno, fun l hb ev hl H1 e1 => ?_⟩
    subst hb ev
    have q := hyes l rfl rfl hl
    have hn := hl.2.1
    refine ⟨_, rfl, l, rfl, hl.sz, _, rfl, by omega, by omega, fun Dl hD => ?_⟩
    refine lc_it walk_range (LcP H1 Dl fun i acc => acc = tvs ((List.range i).map (turn l))) (lcp_start hD rfl) (fun _ _ _ _ => trivial) ?_ ?_
    · rintro i x H2 H2' hi ⟨_, acc, e, hD2, hlen, rfl⟩ ⟨rfl, rfl⟩
      have hi : i < l.length := hi
      refine ⟨rfl, keepAll ?_⟩
      refine ⟨_, rfl, _, rfl, _, rfl, l, rfl, hl.sz, _, rfl, _, rfl, _, rfl, l, rfl, hl.sz, _, _, rfl, rfl, cut_le l _ (by omega), ?_⟩
      refine lcp_put hD e hD2 hlen (by omega) (Same.refl _) ?_
      rw [turn_step, cut_turn]
    · rintro H2 ⟨_, acc, e, hD2, _, rfl⟩
      exact q Dl H2 (e1.free hD) (e1.trans e) hD2
end
end Rk
namespace Rw
open PySem PySem.Spec PyProof.Rows L2
/-- the places looked at up to n: where pieces begin, the least ending so far -/
def cutSt (l : List Nat) : Nat → List Nat × List Nat
  | 0 => ([0], l)
  | n + 1 => if l.drop (n + 1) < (cutSt l n).2 then ((cutSt l n).1 ++ [n + 1], l.drop (n + 1)) else cutSt l n
def cutsOf (l : List Nat) : List Nat := (cutSt l (l.length - 1)).1
abbrev ivs (ns : List Nat) : List V := ns.map fun n => V.int (n : Nat)
theorem tvs_app (a b : List (List Nat)) : tvs (a ++ b) = tvs a ++ tvs b := List.map_append
theorem ivs_app (a b : List Nat) : ivs (a ++ b) = ivs a ++ ivs b := List.map_append
def piecesOf (l : List Nat) : List (List Nat) := ((cutsOf l).zip ((cutsOf l).tail ++ [l.length])).map fun ab => (l.drop ab.1).take (ab.2 - ab.1)
theorem cutSt_len (l : List Nat) : ∀ n, 1 ≤ (cutSt l n).1.length ∧ (cutSt l n).1.length ≤ n + 1
  | 0 => ⟨Nat.le_refl _, Nat.le_refl _⟩
  | n + 1 => by
    obtain ⟨h1, h2⟩ := cutSt_len l n
    unfold cutSt
    by_cases g : l.drop (n + 1) < (cutSt l n).2
    · rw [if_pos g]
      show 1 ≤ ((cutSt l n).1 ++ [n + 1]).length ∧ _
      rw [List.length_append]
      exact ⟨Nat.le_add_left 1 _, Nat.succ_le_succ h2⟩
    · rw [if_neg g]
      exact ⟨h1, Nat.le_succ_of_le h2⟩
theorem cutsOf_len {l : List Nat} (h : Wd l) : 1 ≤ (cutsOf l).length ∧ (cutsOf l).length ≤ l.length := by
  have := cutSt_len l (l.length - 1)
  have := h.1
  unfold cutsOf
  omega
def spCuts (K : PySem.W.Frag) (C : Addr) : Sp := spW K C 0 fun l _ H Q _ => ∀ p H', H p = none → Same H H' → H' p = some (.lst (ivs (cutsOf l))) → Q (.ref p) H'
def spPieces (K : PySem.W.Frag) (C : Addr) : Sp := spW K C 0 fun l _ H Q _ => newT (piecesOf l) H Q
def spIsEarly (K : PySem.W.Frag) (C : Addr) : Sp := spW K C 0 fun l _ H Q _ => ∀ H', Same H H' → Q (.bl (early l)) H'
/-- rows, of anything of a known kind: b, whether it is just the list ps -/
def Rows (K : PySem.W.Frag) (H : Hp) (r : V) (ps : List (List Nat)) (b : Bool) : Prop :=
  (b = false ∧ ∃ t : String, TyX K H r (.type t) ∧ kitB t "list" = some false) ∨
  (∃ (p : Addr) (vs : List V) (bs : List Bool), r = .ref p ∧ H p = some (.lst vs) ∧ vs.length ≤ 100000 ∧ bs.length = vs.length ∧ (∀ (i : Nat) (v : V), vs[i]? = some v → ∃ c, bs[i]? = some c ∧ Th K H v c) ∧
    (bs.all id = false → b = false) ∧ (∀ ls : List (List Nat), vs = tvs ls → (∀ x ∈ ls, Wd x) → b = decide (ls = ps)))
theorem Rows.same {K : PySem.W.Frag} {H H' : Hp} {r : V} {ps : List (List Nat)} {b : Bool} (e : Same H H') (h : Rows K H r ps b) : Rows K H' r ps b := by
  rcases h with ⟨h1, t, h2, h3⟩ | ⟨p, vs, bs, h1, h2, h0, h3, h4, h5, h6⟩
  · exact .inl ⟨h1, t, tyx_same e h2, h3⟩
  · exact .inr ⟨p, vs, bs, h1, e _ _ h2, h0, h3, fun i v hv => by obtain ⟨c, q, t⟩ := h4 i v hv; exact ⟨c, q, t.same e⟩, h5, h6⟩
def spIsCutting (K : PySem.W.Frag) (C : Addr) : Sp := spW K C 1 fun l rest H Q _ => ∃ r b, rest = [r] ∧ Rows K H r (piecesOf l) b ∧ ∀ H', Same H H' → Q (.bl b) H'
theorem piece_ok {l : List Nat} (h : Ok l) : ∀ x ∈ piecesOf l, Ok x := fun x hx c hc => by
  obtain ⟨ab, _, rfl⟩ := List.mem_map.mp hx
  exact h c (List.mem_of_mem_drop (List.mem_of_mem_take hc))
theorem all_words {K : PySem.W.Frag} {H : Hp} : ∀ {vs : List V} {bs : List Bool}, bs.length = vs.length → (∀ (i : Nat) (v : V), vs[i]? = some v → ∃ c, bs[i]? = some c ∧ Th K H v c) → bs.all id = true → ∃ ls : List (List Nat), vs = tvs ls ∧ ∀ x ∈ ls, Wd x
  | [], [], _, _, _ => ⟨[], rfl, fun _ h => nomatch h⟩
  | [], _ :: _, h, _, _ => by simp at h
  | _ :: _, [], h, _, _ => by simp at h
  | v :: vs, b :: bs, h, f, a => by
    rw [List.all_cons, Bool.and_eq_true] at a
    obtain ⟨ls, e, k⟩ := all_words (vs := vs) (bs := bs) (by simpa using h) (fun i v hv => f (i + 1) v hv) a.2
    obtain ⟨c, hc, t⟩ := f 0 v rfl
    have ec : b = c := Option.some.inj hc
    have a1 : b = true := a.1
    rw [← ec, a1] at t
    obtain ⟨l, el, hl⟩ := t.get
    refine ⟨l :: ls, by rw [el, e]; rfl, fun x hx => ?_⟩
    rcases List.mem_cons.mp hx with z | z
    · rw [z]; exact hl
    · exact k x z
theorem turns_tail (l : List Nat) : cutV (tvs (turns l)) (some 1) none = tvs (turns l).tail := by
  have e : cutV (tvs (turns l)) (some ((1 : Nat) : Int)) none = (tvs (turns l)).drop 1 := cutL_from _ 1
  rw [show ((1 : Nat) : Int) = 1 from rfl] at e
  rw [e, ← List.map_drop, List.drop_one]
/-! ==, != of two lists of numbers; some texts sorted -/
theorem dp_ivs {K : PySem.W.Frag} {H : Hp} : ∀ ns : List Nat, DpAll K H (ivs ns) (ns.map fun n => .int (n : Nat))
  | [] => .nil
  | n :: r => .cons (.int _) (dp_ivs r)
theorem eqv_ivs : ∀ a b : List Nat, PyData.eqvAll (a.map fun n => .int (n : Nat)) (b.map fun n => .int (n : Nat)) = decide (a = b)
  | [], [] => rfl
  | [], _ :: _ => rfl
  | _ :: _, [] => rfl
  | x :: xs, y :: ys => by
    rw [List.map_cons, List.map_cons]
    unfold PyData.eqvAll
    rw [eqv_ivs xs ys]
    show ((((x : Nat) : Int) == ((y : Nat) : Int)) && _) = _
    have e : (((x : Nat) : Int) == ((y : Nat) : Int)) = decide (x = y) := by
      rw [Bool.eq_iff_iff, beq_iff_eq, decide_eq_true_eq]
      omega
    rw [e]
    by_cases h1 : x = y <;> by_cases h2 : xs = ys <;> simp [h1, h2]
theorem can_ivs : ∀ ns : List Nat, PyData.canLayAll0 (ns.map fun n => .int (n : Nat)) = true
  | [] => rfl
  | n :: r => by
    rw [List.map_cons]
    unfold PyData.canLayAll0
    rw [can_ivs r, Bool.and_true]
    rfl
theorem depth_ivs : ∀ ns : List Nat, PyData.depthAll (ns.map fun n => .int (n : Nat)) ≤ 1
  | [] => by decide
  | n :: r => by
    rw [List.map_cons]
    unfold PyData.depthAll
    refine Nat.max_le.mpr ⟨?_, depth_ivs r⟩
    first | decide | (show PyData.depth (.int _) ≤ 1; unfold PyData.depth; decide)
theorem shaped_ivs (ns : List Nat) : SeqAt.shaped (.list (ns.map fun n => .int (n : Nat))) = true := by
  unfold SeqAt.shaped
  rw [Bool.and_eq_true]
  constructor
  · unfold PyData.canLay0
    exact can_ivs ns
  · refine decide_eq_true ?_
    unfold PyData.depth
    have := depth_ivs ns
    omega
def rEqI (K : PySem.W.Frag) (neg : Bool) : R2 := fun x y H Q => ∃ (p q : Addr) (a b : List Nat), x = .ref p ∧ y = .ref q ∧ SqL K H p (ivs a) ∧ SqL K H q (ivs b) ∧ Q (.bl (if neg then !decide (a = b) else decide (a = b))) H
theorem eqv_nums (a b : List Nat) : PyData.eqv (.list (a.map fun n => .int (n : Nat))) (.list (b.map fun n => .int (n : Nat))) = decide (a = b) := by
  unfold PyData.eqv
  exact eqv_ivs a b
section
variable {X : Cx}
theorem op_eqI (hu : X.A.units + 64 < cLine) : OpR X (compareOp .Eq) (rEqI X.K false) := fun pins s σ H x y v u Q I rx ry ⟨p, q, a, b, e1, e2, h1, h2, k⟩ =>
  op_eqD hu pins s σ H x y v u Q I rx ry ⟨_, _, by rw [e1]; exact .lst h1 (dp_ivs a), by rw [e2]; exact .lst h2 (dp_ivs b), shaped_ivs a, shaped_ivs b, by rw [eqv_nums]; exact k⟩
theorem op_neI (hu : X.A.units + 64 < cLine) : OpR X (compareOp .NotEq) (rEqI X.K true) := fun pins s σ H x y v u Q I rx ry ⟨p, q, a, b, e1, e2, h1, h2, k⟩ =>
  op_neD hu pins s σ H x y v u Q I rx ry ⟨_, _, by rw [e1]; exact .lst h1 (dp_ivs a), by rw [e2]; exact .lst h2 (dp_ivs b), shaped_ivs a, shaped_ivs b, by rw [eqv_nums]; exact k⟩
end
theorem sorted_any {ys : List Str} {ls : List (List Nat)} (p : ys.Perm (ls.map T)) : ∃ ls' : List (List Nat), ys.map V.str = tvs ls' ∧ ls'.length = ls.length ∧ ∀ x ∈ ls', x ∈ ls := by
  refine ⟨ys.map (·.cps.toList), ?_, ?_, fun x hx => ?_⟩
  · show _ = (ys.map (·.cps.toList)).map tv
    rw [List.map_map]
    refine List.map_congr_left fun y _ => ?_
    show V.str y = V.str (T y.cps.toList)
    rw [T_of]
  · rw [List.length_map, p.length_eq, List.length_map]
  · obtain ⟨y, hy, rfl⟩ := List.mem_map.mp hx
    obtain ⟨z, hz, e⟩ := List.mem_map.mp (p.mem_iff.mp hy)
    rw [← e, T_cps]
    exact hz
theorem flat_wd {n : Nat} : ∀ {ls : List (List Nat)}, (∀ x ∈ ls, Wd x ∧ x.length ≤ n) → ls.flatten.length ≤ n * ls.length ∧ ∀ c ∈ ls.flatten, 97 ≤ c ∧ c ≤ 122
  | [], _ => ⟨Nat.zero_le _, fun c hc => by simp at hc⟩
  | x :: r, h => by
    obtain ⟨i1, i2⟩ := flat_wd (ls := r) fun y hy => h y (List.mem_cons_of_mem _ hy)
    have hx := h x List.mem_cons_self
    rw [List.flatten_cons]
    refine ⟨?_, fun c hc => ?_⟩
    · rw [List.length_append, List.length_cons, Nat.mul_succ]
      omega
    · rcases List.mem_append.mp hc with z | z
      · exact hx.1.2.2 c z
      · exact i2 c z
/-! with the written part named: within comprehensions -/
section
variable {X : Cx} {K : PySem.W.Frag}
theorem cr_minLK (hK : X.K = K) (hc : X.calm = true) (hu : X.A.units + 64 < cLine) : CallR X (.builtin "min") (rMinL K) := hK ▸ cr_minL hc hu
theorem call_isiK (hK : X.K = K) : CallR X (.builtin "isinstance") (rIsi K) := hK ▸ call_isi
theorem ix_listK (hK : X.K = K) : IxR X (rIxL K) := hK ▸ ix_list
theorem sl_listK (hK : X.K = K) : SlR X (rSlL K) := hK ▸ sl_list
theorem pe_joinTK {o e : Expr} {to te : TE} {apos pos : Pos} (hK : X.K = K) (ho : PE X o to) (he : PE X e te)
    (h1 : starEach [e] X.env = [(false, eval e X.env)] := by rfl) (h2 : attributeBase o "join" X.env (eval o X.env) = eval o X.env := by rfl) (h3 : (apos.endLine == pos.line) = true := by rfl) :
    PE X (.Call (.Attribute o "join" apos) [e] [] pos) (tM1 (rJoinT K) to te) := hK ▸ pe_joinT ho he h1 h2 h3
end
end Rw
namespace Rk
open PySem PySem.Spec PyProof.Rows L2 Rw
abbrev s_cuts : Stmt := topS 20
abbrev n_cuts : List Str := ["word", "places", "least", "place", "rest"]
abbrev p_cuts : List Str := ["word"]
theorem sc_cuts : FnScope n_cuts p_cuts (defScope s_cuts) := ⟨rfl, rfl, rfl, by decide +kernel, rfl, by decide +kernel, by decide +kernel⟩
section
variable {P : Program} {w : World} {K : PySem.W.Frag} {mg : Str → Option Value} {base : Heap} {cN : Addr} (B : Bt mg)
include B
theorem ok_cuts (D : Dfn K mg "cuts" s_cuts p_cuts) (c_need_word : Cal (L2.CX P w) P w K mg base 2 "need_word" (spNeed K cN)) : Cal (L2.CX P w) P w K mg base 3 "cuts" (spCuts K cN) := by
  refine D.cal fun f fd F => F.okX sc_cuts (fun vs H Q E h => ?_) (fun cdv A outer s H vs Q E hr h => ?_)
  · obtain ⟨v, b, rest, rfl, hr, _⟩ := h
    cases List.eq_nil_of_length_eq_zero hr
    rfl
  · obtain ⟨v, b, rest, rfl, hrest, hv, hno, hyes⟩ := h
    cases List.eq_nil_of_length_eq_zero hrest
    refine ⟨_, (pss_cons (ps_expr (pe_cal c_need_word hr (by decide) (passes_call (takes_of rfl rfl rfl rfl) fun _ _ _ _ h => h) (pa_cons (pv 0) pa_nil)))
      (pss_cons (ps_set (i := 1) sc_cuts.nd rfl (Or.inl rfl) (pe_lst (pa_cons pe_int pa_nil)))
      (pss_cons (ps_set (i := 2) sc_cuts.nd rfl (Or.inl rfl) (pv 0))
      (pss_cons (ps_for (passes_of rfl) rfl (pi_range2 (by rfl) B.m_range (pa_cons pe_int (pa_cons (pe_callB call_lenT (by rfl) B.m_len PySem.boot_len (pa_cons (pv 0) pa_nil)) pa_nil))) (pg_name (i := 3) sc_cuts.nd rfl (Or.inl rfl))
        (pss_cons (ps_set (i := 4) sc_cuts.nd rfl (Or.inl rfl) (pe_slice sl_T (pv 0) (po_some (pv 3)) po_none))
        (pss_one (ps_if (pt_cmpR op_ltT (pv 4) (pv 2) (nomark _)) (pss_cons (ps_expr (pe_bm PySem.F.plainAttrs_list PySem.F.slot_list_append PySem.F.type_list_append mt_append (pv 1) (pa_cons (pv 3) pa_nil)))
          (pss_one (ps_set (i := 2) sc_cuts.nd rfl (Or.inl rfl) (pv 4)))) pss_nil))))
      (pss_one (ps_ret (pv 1))))))), ?_⟩
    refine ⟨v, rfl, v, b, [], rfl, rfl, hv, hno, fun l hb ev hl H1 e1 => ?_⟩
    subst hb ev
    have q := hyes l rfl rfl hl
    have hn := hl.2.1
    refine ⟨(show 1 ≤ sizeLine by decide), fun p np => ?_⟩
    have npH : H p = none := e1.free np
    refine ⟨_, rfl, _, rfl, l, rfl, hl.sz, 1, ((l.length : Nat) : Int), rfl, ⟨by decide, by decide, by omega, by omega⟩, ?_⟩
    have ez : (((l.length : Nat) : Int) - 1).toNat = l.length - 1 := by omega
    rw [ez]
    refine for_range (n := l.length - 1) (fun i σ H' => ∃ y z, σ = [some (tv l), some (.ref p), some (tv (cutSt l i).2), y, z] ∧ Same H H' ∧ H' p = some (.lst (ivs (cutSt l i).1))) ?_ ?_ ?_
    · exact ⟨none, none, rfl, Same.mut e1 npH, upd_same⟩
    · rintro i σ H2 hi ⟨y, z, rfl, e2, hp⟩
      have hc := (cutSt_len l i).2
      refine ⟨_, rfl, _, rfl, _, rfl, l, rfl, hl.sz, ?_⟩
      have ej : (1 : Int) + (i : Int) = ((i + 1 : Nat) : Int) := by omega
      rw [ej, cutL_from]
      refine ⟨_, rfl, _, rfl, l.drop (i + 1), (cutSt l i).2, rfl, rfl, _, rfl, ite2 (fun h => ?_) (fun h => ?_)⟩
      · have h := of_decide_eq_true h
        have es : cutSt l (i + 1) = ((cutSt l i).1 ++ [i + 1], l.drop (i + 1)) := by
          show (if _ then _ else _) = _
          rw [if_pos h]
        refine ⟨_, rfl, .inl ⟨rfl, _, SqL.of hp⟩, _, rfl, p, _, _, rfl, rfl, hp, ?_, ?_⟩
        · rw [List.length_map]
          exact bigL (by omega)
        · rw [es]
          refine ⟨_, rfl, _, _, rfl, Same.mut e2 npH, ?_⟩
          rw [upd_same, ivs_app]
          rfl
      · have h : ¬ l.drop (i + 1) < (cutSt l i).2 := of_decide_eq_false (by simpa using h)
        have es : cutSt l (i + 1) = cutSt l i := by
          show (if _ then _ else _) = _
          rw [if_neg h]
        rw [es]
        exact ⟨_, _, rfl, e2, hp⟩
    · rintro σ H2 ⟨y, z, rfl, e2, hp⟩
      exact ⟨_, rfl, q p H2 npH e2 hp⟩
end
end Rk
namespace Rk
open PySem PySem.Spec PyProof.Rows L2 Rw
abbrev s_pieces : Stmt := topS 21
abbrev n_pieces : List Str := ["word", "starts", "ends", "start", "end"]
abbrev p_pieces : List Str := ["word"]
theorem sc_pieces : FnScope n_pieces p_pieces (defScope s_pieces) := ⟨rfl, rfl, rfl, by decide +kernel, rfl, by decide +kernel, by decide +kernel⟩
section
variable {P : Program} {w : World} {K : PySem.W.Frag} {mg : Str → Option Value} {base : Heap} {cN : Addr} (B : Bt mg)
include B
theorem ok_pieces (D : Dfn K mg "pieces" s_pieces p_pieces) (c_cuts : Cal (L2.CX P w) P w K mg base 3 "cuts" (spCuts K cN)) : Cal (L2.CX P w) P w K mg base 4 "pieces" (spPieces K cN) := by
  refine D.cal fun f fd F => F.okX sc_pieces (fun vs H Q E h => ?_) (fun cdv A outer s H vs Q E hr h => ?_)
  · obtain ⟨v, b, rest, rfl, hr, _⟩ := h
    cases List.eq_nil_of_length_eq_zero hr
    rfl
  · obtain ⟨v, b, rest, rfl, hrest, hv, hno, hyes⟩ := h
    cases List.eq_nil_of_length_eq_zero hrest
    refine ⟨_, (pss_cons (ps_set (i := 1) sc_pieces.nd rfl (Or.inl rfl) (pe_cal c_cuts hr (by decide) (passes_call (takes_of rfl rfl rfl rfl) fun _ _ _ _ h => h) (pa_cons (pv 0) pa_nil)))
      (pss_cons (ps_set (i := 2) sc_pieces.nd rfl (Or.inl rfl) (pe_op op_cat (pe_slice sl_list (pv 1) (po_some pe_int) po_none) (pe_lst (pa_cons (pe_callB call_lenT (by rfl) B.m_len PySem.boot_len (pa_cons (pv 0) pa_nil)) pa_nil))))
      (pss_one (ps_ret (pe_lc (own := [("start", 3), ("end", 4)]) (g := gTup K 2 (gCons (gName 3) (gCons (gName 4) gNil))) rfl sc_pieces.nd (pi_zip (by rfl) B.m_zip (pa_cons (pv 1) (pa_cons (pv 2) pa_nil))) (blkOk_by (own := [("start", 3), ("end", 4)]) (N := n_pieces) (sc := defScope s_pieces) (by decide +kernel)) (fun _ _ _ _ _ => (pg_tup rfl (pgs_cons (pg_name (i := 3) sc_pieces.nd rfl (Or.inl rfl)) (pgs_cons (pg_name (i := 4) sc_pieces.nd rfl (Or.inl rfl)) pgs_nil)))) (fun _ _ _ _ _ => pts_nil) (fun _ _ _ _ _ => (pe_slice sl_T (pv 0) (po_some (pv 3)) (po_some (pv 4))))))))), ?_⟩
    refine ⟨v, rfl, v, b, [], rfl, rfl, hv, hno, fun l hb ev hl p H1 np e1 hp => ?_⟩
    subst hb ev
    have q := hyes l rfl rfl hl
    obtain ⟨c1, c2⟩ := cutsOf_len hl
    have hn := hl.2.1
    refine ⟨_, rfl, 1, rfl, p, ivs (cutsOf l), rfl, SqL.of hp, fun p2 np2 => ?_⟩
    refine ⟨_, rfl, l, rfl, hl.sz, (show 1 ≤ sizeLine by decide), fun p3 np3 => ?_⟩
    have k2 := same_upd (o := .lst (cutV (ivs (cutsOf l)) (some 1) none)) np2
    have k3 := same_upd (o := .lst [V.int ((l.length : Nat) : Int)]) np3
    have ec : cutV (ivs (cutsOf l)) (some 1) none = ivs (cutsOf l).tail := by
      have e : cutV (ivs (cutsOf l)) (some ((1 : Nat) : Int)) none = (ivs (cutsOf l)).drop 1 := cutL_from _ 1
      rw [show ((1 : Nat) : Int) = 1 from rfl] at e
      rw [e, ← List.map_drop, List.drop_one]
    rw [ec] at k2 k3 ⊢
    refine ⟨p2, p3, _, _, rfl, rfl, k3 _ _ upd_same, upd_same, ?_, fun p4 np4 => ?_⟩
    · rw [List.length_map, List.length_tail]
      exact big (by show _ + 1 ≤ _; omega)
    have ee : ivs (cutsOf l).tail ++ [V.int ((l.length : Nat) : Int)] = ivs ((cutsOf l).tail ++ [l.length]) := (ivs_app (cutsOf l).tail [l.length]).symm
    rw [ee]
    have k4 := same_upd (o := .lst (ivs ((cutsOf l).tail ++ [l.length]))) np4
    have hp4 := (k2.trans (k3.trans k4)) _ _ hp
    refine ⟨_, rfl, _, rfl, p, p4, _, _, rfl, SqL.of hp4, SqL.of upd_same, fun Dl hD => ?_⟩
    have hlen2 : ((cutsOf l).tail ++ [l.length]).length = (cutsOf l).length := by
      rw [List.length_append, List.length_tail]
      show _ + 1 = _
      omega
    refine lc_it (walk_zip (n := (cutsOf l).length) (by rw [List.length_map, List.length_map, hlen2, Nat.min_self])) (LcP _ Dl fun i acc => acc = tvs (((cutsOf l).zip ((cutsOf l).tail ++ [l.length])).take i |>.map fun ab => (l.drop ab.1).take (ab.2 - ab.1))) (lcp_start hD rfl) (fun i H3 _ ⟨_, acc, e, _, _, _⟩ => ⟨SqL.of (e _ _ hp4), SqL.of (e _ _ upd_same)⟩) ?_ ?_
    · rintro i x H2 H2' hi ⟨_, acc, e, hD2, hlen, rfl⟩ ⟨T, x1, y1, rfl, nT, rfl, hx, hy⟩
      have hi2 : i < ((cutsOf l).tail ++ [l.length]).length := by omega
      dsimp only at hx hy
      rw [List.getElem?_map, List.getElem?_eq_getElem hi] at hx
      rw [List.getElem?_map, List.getElem?_eq_getElem hi2] at hy
      have ex : V.int (((cutsOf l)[i] : Nat) : Int) = x1 := Option.some.inj hx
      have ey : V.int ((((cutsOf l).tail ++ [l.length])[i] : Nat) : Int) = y1 := Option.some.inj hy
      subst ex ey
      refine ⟨T, _, rfl, .inl (.inl upd_same), rfl, _, _, rfl, _, _, rfl, rfl, rfl, keepAll ?_⟩
      refine ⟨_, rfl, _, rfl, _, rfl, _, rfl, _, rfl, l, rfl, hl.sz, ?_⟩
      rw [cutL_mid]
      refine lcp_put hD e hD2 hlen (by omega) (same_upd nT) ?_
      rw [List.take_add_one, List.getElem?_eq_getElem (by rw [List.length_zip]; omega), List.map_append]
      show _ = List.map tv (_ ++ _)
      rw [List.map_append, List.getElem_zip]
      rfl
    · rintro H2 ⟨_, acc, e, hD2, _, rfl⟩
      have hz : (cutsOf l).length = ((cutsOf l).zip ((cutsOf l).tail ++ [l.length])).length := by
        rw [List.length_zip, hlen2, Nat.min_self]
      rw [hz, List.take_length] at hD2
      have kk := ((k2.trans k3).trans k4)
      exact q Dl H2 ((e1.trans kk).free hD) ((e1.trans kk).trans e) hD2
end
end Rk
namespace Rw
open PySem PySem.Spec PyProof.Rows L2
/-! text.rstrip(sign), text.index(sign), sign in text, isinstance of anything by an own class -/
def rstripL (l : List Nat) (z : Nat) : List Nat := l.take (l.length - (l.reverse.takeWhile (fun c => decide (c = z))).length)
theorem rstripL_len (l : List Nat) (z : Nat) : (rstripL l z).length ≤ l.length := by
  unfold rstripL
  rw [List.length_take]
  omega
theorem rstrip_split (l : List Nat) (z : Nat) : ∃ m, l = rstripL l z ++ List.replicate m z ∧ ∀ a, (rstripL l z).getLast? = some a → a ≠ z := by
  have h0 := List.takeWhile_append_dropWhile (p := fun c => decide (c = z)) (l := l.reverse)
  have hr : l = (l.reverse.dropWhile fun c => decide (c = z)).reverse ++ (l.reverse.takeWhile fun c => decide (c = z)).reverse := by
    rw [← List.reverse_append, h0, List.reverse_reverse]
  have e : rstripL l z = (l.reverse.dropWhile fun c => decide (c = z)).reverse := by
    have hl := congrArg List.length hr
    rw [List.length_append, List.length_reverse, List.length_reverse] at hl
    have t := List.take_left (l₁ := (l.reverse.dropWhile fun c => decide (c = z)).reverse) (l₂ := (l.reverse.takeWhile fun c => decide (c = z)).reverse)
    rw [← hr, List.length_reverse] at t
    unfold rstripL
    rw [show l.length - (l.reverse.takeWhile fun c => decide (c = z)).length = (l.reverse.dropWhile fun c => decide (c = z)).length from by omega]
    exact t
  refine ⟨(l.reverse.takeWhile fun c => decide (c = z)).length, ?_, fun a ha => ?_⟩
  · rw (occs := .pos [1]) [hr]
    rw [e]
    congr 1
    refine List.eq_replicate_iff.mpr ⟨List.length_reverse, fun b hb => ?_⟩
    have := List.all_eq_true.mp (List.all_takeWhile (p := fun c => decide (c = z)) (l := l.reverse)) b (List.mem_reverse.mp hb)
    simpa using this
  · rw [e, List.getLast?_reverse] at ha
    have := List.head?_dropWhile_not (fun c => decide (c = z)) l.reverse
    rw [ha] at this
    simpa using this
theorem rstrip_T (l : List Nat) (z : Nat) : Txt.rstripChars (T l) (T [z]) = T (rstripL l z) := by
  unfold Txt.rstripChars
  rw [PyProof.Rows.stripBy_eq, PyProof.Rows.strSub_mk]
  unfold stripLo stripHi
  simp only [Bool.false_eq_true, if_false, if_true]
  rw [T_cps, T_len, List.drop_zero, Nat.sub_zero]
  have e : (T [z]).cps.contains = fun c => decide (c = z) := by
    funext c
    simp [T]
  rw [e]
  rfl
def rRstripT : V → List V → Hp → VK → Prop := fun x xs H Q => ∃ (l : List Nat) (z : Nat), x = tv l ∧ xs = [tv [z]] ∧ l.length ≤ 100000 ∧ Q (tv (rstripL l z)) H
theorem take_one_at (l : List Nat) (i c : Nat) : (l.drop i).take 1 = [c] ↔ l[i]? = some c := by
  rw [List.take_one, List.head?_drop]
  cases l[i]? <;> simp
theorem sub_at {l : List Nat} {c i : Nat} : Builtin.Str.subAt (T l) (T [c]) i = true ↔ l[i]? = some c := by
  unfold Builtin.Str.subAt
  rw [beq_iff_eq, T_len]
  show l.toArray.extract i (i + 1) = [c].toArray ↔ _
  rw [List.extract_toArray, List.extract_eq_drop_take, ← take_one_at, show i + 1 - i = 1 from by omega]
  constructor
  · intro h
    simpa using h
  · intro h
    rw [h]
theorem idx_of {l : List Nat} {c i : Nat} (h : l[i]? = some c) (hn : ∀ k, k < i → l[k]? ≠ some c) : l.idxOf c = i := by
  have hm : c ∈ l := List.mem_of_getElem? h
  have hlt : l.idxOf c < l.length := List.idxOf_lt_length_of_mem hm
  have e : l[l.idxOf c]? = some c := by
    rw [List.getElem?_eq_getElem hlt]
    simp
  have h1 : ¬ l.idxOf c < i := fun z => hn _ z e
  have hi : i < l.length := (List.getElem?_eq_some_iff.mp h).1
  have h2 : ¬ i < l.idxOf c := fun z => by
    have := List.not_of_lt_findIdx (p := (· == c)) (xs := l) (i := i) z
    rw [(List.getElem?_eq_some_iff.mp h).2] at this
    simp at this
  omega
def rIndexC : V → List V → Hp → VK → Prop := fun x xs H Q => ∃ (l : List Nat) (c : Nat), x = tv l ∧ xs = [tv [c]] ∧ c ∈ l ∧ Q (.int (l.idxOf c : Nat)) H
section
variable {X : Cx}
theorem mt_rstripT : MtR X "str.rstrip" rRstripT := fun pins s σ H x xs v us Q I rx rxs ⟨l, z, e1, e2, hz, q⟩ =>
  mt_rstripChars pins s σ H x xs v us Q I rx rxs ⟨T l, T [z], e1, e2, by rw [T_len]; exact big hz, by rw [rstrip_T]; exact q⟩
theorem mt_indexC : MtR X "str.index" rIndexC := by
  rintro pins s σ H x xs v us Q I rx rxs ⟨l, c, rfl, rfl, hc, q⟩
  obtain ⟨t, rfl⟩ := rx
  obtain ⟨u, rfl, ru⟩ := rxs.one
  obtain ⟨t2, rfl⟩ := ru
  have atI : ∀ i, StrLaws.At (T l) (T [c]) (T l).length i ↔ l[i]? = some c := fun i => by
    unfold StrLaws.At
    rw [sub_at, T_len, T_len]
    constructor
    · exact fun h => h.2
    · exact fun h => ⟨(List.getElem?_eq_some_iff.mp h).1, h⟩
  rcases StrLaws.occ_head (T l) (T [c]) 1 (Nat.le_refl _) with ⟨_, hn⟩ | ⟨i, r, e, ha, hb⟩
  · obtain ⟨i, hi, e⟩ := List.mem_iff_getElem.mp hc
    exact absurd ((atI i).mpr (List.getElem?_eq_some_iff.mpr ⟨hi, e⟩)) (hn i)
  · have ei := idx_of ((atI i).mp ha) fun k hk z => hb k hk ((atI k).mpr z)
    rw [ei] at q
    exact call_gives PySem.F.slot_str_index (typeIs_str _ _ _) PySem.F.entry_str_index (PySem.F.args_str_index_2 _ _) (gives_str_index (T l) (T [c]) t t2 i r e) ⟨.int (i : Nat), H, I.tok _, ⟨_, rfl⟩, q⟩
def rInC : R2 := fun x y H Q => ∃ (c : Nat) (l : List Nat), x = tv [c] ∧ y = tv l ∧ Q (.bl (decide (c ∈ l))) H
theorem op_inC : OpR X (compareOp .In) rInC := fun pins s σ H x y v u Q I rx ry ⟨c, l, e1, e2, q⟩ =>
  op_in_sign pins s σ H x y v u Q I rx ry ⟨c, T l, e1, e2, by rw [T_cps]; exact q⟩
/-- isinstance(x, C), x a kept error or of a known kind -/
def rIsE (K : PySem.W.Frag) : List V → Hp → VK → Prop := fun xs H Q => ∃ (x : V) (C : Addr) (b : Bool), xs = [x, .ref C] ∧
  ((∃ a D, x = .ref a ∧ H a = some (ExV (.ref D) a) ∧ ExcC K D ∧ PySem.W.kitOne K (.ref D) (.ref C) = some b) ∨ ∃ t, TyX K H x t ∧ PySem.W.kitOne K t (.ref C) = some b) ∧ Q (.bl b) H
theorem call_isE : CallR X (.builtin "isinstance") (rIsE X.K) := by
  rintro pins s σ H xs us Q I r ⟨x, C, b, rfl, h, q⟩
  rcases h with ⟨a, D, rfl, h1, h2, h3⟩ | ⟨t, h1, h2⟩
  · exact call_isX pins s σ H _ us Q I r ⟨a, D, _, .ref C, b, rfl, h1, h2, (fun u h => h), h3, q⟩
  · exact call_isi pins s σ H _ us Q I r ⟨x, _, t, .ref C, b, rfl, .own C, h1, h2, q⟩
end
end Rw
namespace Rw
open PySem PySem.Spec PyProof.Rows L2
/-! early words, pieces: pure -/
/-- they part at a place at which the one is less -/
def Sl (a b : List Nat) : Prop := ∃ (p : List Nat) (x y : Nat) (s t : List Nat), a = p ++ x :: s ∧ b = p ++ y :: t ∧ x < y
theorem tri (a b : List Nat) : a < b ∨ a = b ∨ b < a := by
  by_cases h : a < b
  · exact .inl h
  · rcases List.le_iff_lt_or_eq.mp (List.not_lt.mp h) with g | g
    · exact .inr (.inr g)
    · exact .inr (.inl g.symm)
theorem lt_irr {a : List Nat} (h : a < a) : False := List.lt_irrefl a h
theorem lt_asym {a b : List Nat} (h : a < b) (g : b < a) : False := List.lt_irrefl a (List.lt_trans h g)
theorem lt_cases : ∀ {a b : List Nat}, a < b → Sl a b ∨ ∃ c, c ≠ [] ∧ b = a ++ c
  | [], [], h => (lt_irr h).elim
  | [], y :: t, _ => .inr ⟨y :: t, by simp, rfl⟩
  | x :: s, [], h => absurd h (List.not_lt_nil _)
  | x :: s, y :: t, h => by
    rcases List.cons_lt_cons_iff.mp h with g | ⟨rfl, g⟩
    · exact .inl ⟨[], x, y, s, t, rfl, rfl, g⟩
    · rcases lt_cases g with ⟨p, u, v, s', t', e1, e2, q⟩ | ⟨c, hc, e⟩
      · exact .inl ⟨x :: p, u, v, s', t', by rw [e1]; rfl, by rw [e2]; rfl, q⟩
      · exact .inr ⟨c, hc, by rw [e]; rfl⟩
theorem Sl.lt {a b : List Nat} (h : Sl a b) (u v : List Nat) : a ++ u < b ++ v := by
  obtain ⟨p, x, y, s, t, rfl, rfl, q⟩ := h
  rw [List.append_assoc, List.append_assoc]
  exact List.append_left_lt (List.cons_lt_cons_iff.mpr (.inl q))
theorem Sl.lt0 {a b : List Nat} (h : Sl a b) : a < b := by
  have := h.lt [] []
  simpa using this
theorem nil_lt {c : List Nat} (h : c ≠ []) : [] < c := by
  cases c with
  | nil => exact absurd rfl h
  | cons x s => exact List.nil_lt_cons x s
theorem pre_lt (a : List Nat) {c : List Nat} (h : c ≠ []) : a < a ++ c := by
  have := List.append_left_lt (l₁ := a) (nil_lt h)
  simpa using this
theorem cancel : ∀ {p a b : List Nat}, p ++ a < p ++ b → a < b
  | [], _, _, h => h
  | x :: p, _, _, h => by
    rcases List.cons_lt_cons_iff.mp h with g | ⟨_, g⟩
    · exact absurd g (Nat.lt_irrefl x)
    · exact cancel g
theorem Sl.app : ∀ {v e y : List Nat}, Sl (v ++ e) y → Sl v y ∨ ∃ y', y = v ++ y' ∧ Sl e y'
  | [], e, y, h => .inr ⟨y, rfl, h⟩
  | x :: v, e, y, ⟨p, c, d, s, t, e1, e2, q⟩ => by
    cases p with
    | nil =>
      have z := List.cons.inj e1
      exact .inl ⟨[], x, d, v, t, rfl, e2, by rw [z.1]; exact q⟩
    | cons p0 p =>
      have z := List.cons.inj e1
      rcases Sl.app (v := v) (e := e) (y := p ++ d :: t) ⟨p, c, d, s, t, z.2, rfl, q⟩ with ⟨p', c', d', s', t', h1, h2, q'⟩ | ⟨y', h1, h2⟩
      · exact .inl ⟨x :: p', c', d', s', t', by rw [h1]; rfl, by rw [e2, z.1, List.cons_append, h2]; rfl, q'⟩
      · exact .inr ⟨y', by rw [e2, z.1, List.cons_append, h1]; rfl, h2⟩
theorem Sl.trans {a b c : List Nat} (h : Sl a b) (k : Sl b c) : Sl a c := by
  obtain ⟨p, x, y, s, t, rfl, rfl, q⟩ := h
  rcases Sl.app k with ⟨p', c', d', s', t', h1, h2, q'⟩ | ⟨y', h1, p', c', d', s', t', h2, h3, q'⟩
  · exact ⟨p', c', d', s' ++ x :: s, t', by rw [h1]; simp, h2, q'⟩
  · subst h1 h3
    cases p' with
    | nil =>
      have z := List.cons.inj h2
      refine ⟨p, x, d', s, t', rfl, rfl, ?_⟩
      have z1 : y = c' := z.1
      omega
    | cons p0 p' =>
      have z := List.cons.inj h2
      exact ⟨p, x, p0, s, p' ++ d' :: t', rfl, rfl, by have z1 : y = p0 := z.1; omega⟩
theorem mem_tail {l o : List Nat} : o ∈ (turns l).tail ↔ ∃ k, 1 ≤ k ∧ k < l.length ∧ o = turn l k := by
  unfold turns
  cases hn : l.length with
  | zero =>
    constructor
    · intro h
      simp at h
    · rintro ⟨k, _, h, _⟩
      omega
  | succ n =>
    rw [List.range_succ_eq_map, List.map_cons, List.tail_cons, List.map_map]
    constructor
    · intro h
      obtain ⟨k, hk, e⟩ := List.mem_map.mp h
      have := List.mem_range.mp hk
      exact ⟨k + 1, by omega, by omega, e.symm⟩
    · rintro ⟨k, h1, h2, e⟩
      refine List.mem_map.mpr ⟨k - 1, List.mem_range.mpr (by omega), ?_⟩
      show turn l (k - 1 + 1) = o
      rw [Nat.sub_add_cancel h1, e]
theorem early_iff {l : List Nat} : early l = true ↔ ∀ k, 1 ≤ k → k < l.length → l < l.drop k ++ l.take k := by
  unfold early
  rw [List.all_eq_true]
  constructor
  · intro h k h1 h2
    exact of_decide_eq_true (h (turn l k) (mem_tail.mpr ⟨k, h1, h2, rfl⟩))
  · intro h o ho
    obtain ⟨k, h1, h2, rfl⟩ := mem_tail.mp ho
    exact decide_eq_true (h k h1 h2)
theorem early_suf {l : List Nat} (h : early l = true) {k : Nat} (h1 : 1 ≤ k) (h2 : k < l.length) : Sl l (l.drop k) := by
  have hE := early_iff.mp h
  have a1 := hE k h1 h2
  have ld : (l.drop k).length = l.length - k := List.length_drop
  have lt : (l.take k).length = k := by rw [List.length_take]; omega
  have e : l.take k ++ l.drop k = l := List.take_append_drop k l
  rcases tri l (l.drop k) with g | g | g
  · rcases lt_cases g with z | ⟨c, hc, z⟩
    · exact z
    · have := congrArg List.length z
      rw [List.length_append] at this
      omega
  · have := congrArg List.length g
    omega
  · exfalso
    rcases lt_cases g with z | ⟨c, hc, z⟩
    · have := z.lt (l.take k) []
      rw [List.append_nil] at this
      exact lt_asym a1 this
    · have lc : c.length = k := by
        have := congrArg List.length z
        rw [List.length_append] at this
        omega
      have a2 : c < l.take k := by
        rw (occs := .pos [1]) [z] at a1
        exact cancel a1
      have a3 := hE (l.length - k) (by omega) (by omega)
      have e1 : l.drop (l.length - k) = c := by
        rw (occs := .pos [2]) [z]
        rw [← ld, List.drop_left]
      have e2 : l.take (l.length - k) = l.drop k := by
        rw (occs := .pos [2]) [z]
        rw [← ld, List.take_left]
      rw [e1, e2] at a3
      rw (occs := .pos [1]) [← e] at a3
      rcases lt_cases a2 with y | ⟨d, hd, y⟩
      · exact lt_asym a3 (y.lt _ _)
      · have := congrArg List.length y
        rw [List.length_append] at this
        have : d.length = 0 := by omega
        exact hd (List.eq_nil_of_length_eq_zero this)
theorem suf_early {l : List Nat} (h : ∀ k, 1 ≤ k → k < l.length → Sl l (l.drop k)) : early l = true :=
  early_iff.mpr fun k h1 h2 => by
    have := (h k h1 h2).lt [] (l.take k)
    rwa [List.append_nil] at this
end Rw
namespace Rw
open PySem PySem.Spec PyProof.Rows L2
/-! sorted(list of texts), any number of them -/
def rSortedL (K : PySem.W.Frag) : List V → Hp → VK → Prop := fun vs H Q => ∃ (a : Addr) (ls : List (List Nat)), vs = [V.ref a] ∧ SqL K H a (tvs ls) ∧
  ∀ (ys : List (List Nat)) (p : Addr), ys.Perm ls → ys.Pairwise (fun x y => ¬ y < x) → H p = none → Q (.ref p) (upd H p (.lst (tvs ys)))
theorem strs_vals : ∀ {ls : List (List Nat)} {us : List Value}, Vals (tvs ls) us → StrsAre us (ls.map T)
  | [], _, r => by
    cases r
    exact .nil
  | l :: ls, _, r => by
    cases r with
    | cons r1 r2 =>
      obtain ⟨t, rfl⟩ := r1
      exact .cons _ t (strs_vals r2)
theorem rising_pair : ∀ (r : List Str) (p : Str), risingS p r = true → (p :: r).Pairwise fun x y => ¬ y.cps.toList < x.cps.toList
  | [], p, _ => List.pairwise_singleton _ p
  | x :: r, p, h => by
    unfold risingS at h
    rw [Bool.and_eq_true] at h
    have i := rising_pair r x h.2
    have g : ¬ x.cps.toList < p.cps.toList := by
      have z := h.1
      simpa [ltCps_eq] using z
    refine List.Pairwise.cons (fun y hy => ?_) i
    rcases List.mem_cons.mp hy with e | e
    · rw [e]; exact g
    · have k := (List.pairwise_cons.mp i).1 y e
      intro q
      rcases tri x.cps.toList p.cps.toList with u | u | u
      · exact g u
      · exact k (u ▸ q)
      · exact k (List.lt_trans q u)
theorem sorted_pair : ∀ {ys : List Str}, sortedS ys = true → ys.Pairwise fun x y => ¬ y.cps.toList < x.cps.toList
  | [], _ => List.Pairwise.nil
  | p :: r, h => rising_pair r p h
theorem cr_sortedL {X : Cx} : CallR X (.builtin "sorted") (rSortedL X.K) := by
  intro pins s σ H vs us Q I r h
  obtain ⟨a, ls, rfl, hs, q⟩ := h
  obtain ⟨its, rv, hl, hz⟩ := I.list hs
  rw [Vals.ref1 r]
  have hS : StrsAre its (ls.map T) := strs_vals rv
  have hsz : its.length ≤ sizeLine := by rw [← rv.length]; exact hz
  refine PyProof.Rows.sorted_strsAny hl.isList hS hsz fun out ys h1 h2 h3 => ?_
  obtain ⟨ep, he'⟩ := PyProof.Rows.sortedAll_at s.heap its out
  have ey : ys.map V.str = tvs (ys.map (·.cps.toList)) := by
    show _ = (ys.map (·.cps.toList)).map tv
    rw [List.map_map]
    refine List.map_congr_left fun y _ => ?_
    show V.str y = V.str (T y.cps.toList)
    rw [T_of]
  have hlen : (ys.map V.str).length ≤ sizeLine := by
    rw [List.length_map, h2.length_eq, List.length_map]
    rw [List.length_map] at hz
    exact hz
  refine ⟨.ref _, upd H (s.heap.objs.size + 1) (.lst (ys.map V.str)), I.laid (t' := s.toks) (fun _ _ => PyProof.Rows.sortedAll_old) (Nat.le_succ _) ⟨hlen, out.toList, ep, vals_of_strs h1, he'⟩, rfl, ?_⟩
  rw [ey]
  refine q _ _ ?_ ?_ (I.hok.fresh (Nat.le_succ _))
  · have z := h2.map (·.cps.toList)
    rw [List.map_map] at z
    have e : (fun x => x.cps.toList) ∘ T = id := funext T_cps
    rw [e, List.map_id] at z
    exact z
  · exact List.pairwise_map.mpr (sorted_pair h3)
end Rw
namespace Rw
open PySem PySem.Spec PyProof.Rows L2
/-- a piece from place a up to place b, as the least endings tell it -/
def Seg (l : List Nat) (a b : Nat) : Prop := a < b ∧ b ≤ l.length ∧ (∀ i, a < i → i < b → l.drop a < l.drop i) ∧ l.drop b < l.drop a
def Segs (l : List Nat) : List Nat → Prop
  | a :: b :: r => Seg l a b ∧ Segs l (b :: r)
  | _ => True
def segW (l : List Nat) : List Nat → List (List Nat)
  | a :: b :: r => (l.drop a).take (b - a) :: segW l (b :: r)
  | _ => []
/-- none less than the next one -/
def NonInc : List (List Nat) → Prop
  | u :: v :: r => ¬ u < v ∧ NonInc (v :: r)
  | _ => True
def Good (ls : List (List Nat)) : Prop := (∀ x ∈ ls, early x = true ∧ x ≠ []) ∧ NonInc ls
theorem seg_split {l : List Nat} {a b : Nat} (h : Seg l a b) : l.drop a = (l.drop a).take (b - a) ++ l.drop b := by
  have e : l.drop b = (l.drop a).drop (b - a) := by
    rw [List.drop_drop]
    congr 1
    have := h.1
    omega
  rw [e, List.take_append_drop]
theorem seg_len {l : List Nat} {a b : Nat} (h : Seg l a b) : ((l.drop a).take (b - a)).length = b - a := by
  rw [List.length_take, List.length_drop]
  have := h.1
  have := h.2.1
  omega
theorem seg_in {l : List Nat} {a b k : Nat} (h : Seg l a b) (hk : k ≤ b - a) : l.drop (a + k) = ((l.drop a).take (b - a)).drop k ++ l.drop b := by
  rw [← List.drop_drop]
  have e := seg_split h
  have n := seg_len h
  generalize (l.drop a).take (b - a) = u at e n ⊢
  rw [e, List.drop_append_of_le_length (by omega)]
theorem seg_early {l : List Nat} {a b : Nat} (h : Seg l a b) : early ((l.drop a).take (b - a)) = true := by
  obtain ⟨h1, h2, h3, h4⟩ := id h
  refine suf_early fun k k1 k2 => ?_
  have n := seg_len h
  have e := seg_split h
  have ek := fun k hk => seg_in (k := k) h hk
  rw [n] at k2
  generalize (l.drop a).take (b - a) = u at *
  have hS := h3 (a + k) (by omega) (by omega)
  rw [ek k (by omega)] at hS
  have nd : (u.drop k).length = u.length - k := List.length_drop
  rcases tri u (u.drop k) with g | g | g
  · rcases lt_cases g with z | ⟨c, hc, z⟩
    · exact z
    · have := congrArg List.length z
      rw [List.length_append] at this
      omega
  · have := congrArg List.length g
    omega
  · exfalso
    rw [e] at hS
    rcases lt_cases g with z | ⟨c, hc, z⟩
    · exact lt_asym hS (z.lt _ _)
    · have hS' : c ++ l.drop b < l.drop b := by
        have q : u ++ l.drop b = u.drop k ++ (c ++ l.drop b) := by
          rw [← List.append_assoc, ← z]
        rw [q] at hS
        exact cancel hS
      have i2 := h3 (a + (u.length - k)) (by omega) (by omega)
      rw [ek (u.length - k) (by omega)] at i2
      have ec : u.drop (u.length - k) = c := by
        have q : u.drop (u.drop k).length = (u.drop k ++ c).drop (u.drop k).length := congrArg _ z
        rw [List.drop_left, nd] at q
        exact q
      rw [ec] at i2
      exact lt_irr (List.lt_trans (List.lt_trans i2 hS') h4)
theorem seg_ge {l : List Nat} {a b c : Nat} (h : Seg l a b) (k : Seg l b c) : ¬ (l.drop a).take (b - a) < (l.drop b).take (c - b) := by
  intro g
  obtain ⟨h1, h2, h3, h4⟩ := id h
  obtain ⟨k1, k2, k3, k4⟩ := id k
  have n := seg_len h
  have e := seg_split h
  have n' := seg_len k
  have e' := seg_split k
  have ek := fun i hi => seg_in (k := i) k hi
  generalize (l.drop a).take (b - a) = u at *
  generalize (l.drop b).take (c - b) = v at *
  rcases lt_cases g with z | ⟨y, hy, z⟩
  · have q := z.lt (l.drop b) (l.drop c)
    rw [← e, ← e'] at q
    exact lt_asym q h4
  · have ly : v.length = u.length + y.length := by rw [z, List.length_append]
    have y0 : y.length ≠ 0 := fun q => hy (List.eq_nil_of_length_eq_zero q)
    have q1 : y ++ l.drop c < l.drop b := by
      have q := h4
      rw [e, e', z, List.append_assoc] at q
      have q2 := cancel q
      rw [← List.append_assoc, ← z, ← e'] at q2
      exact q2
    have i2 := k3 (b + u.length) (by omega) (by omega)
    rw [ek u.length (by omega)] at i2
    have ed : v.drop u.length = y := by
      rw [z, List.drop_left]
    rw [ed] at i2
    exact lt_asym i2 q1
theorem segs_good {l : List Nat} : ∀ {ps : List Nat}, Segs l ps → Good (segW l ps)
  | [], _ => ⟨fun _ h => (List.not_mem_nil h).elim, trivial⟩
  | [_], _ => ⟨fun _ h => (List.not_mem_nil h).elim, trivial⟩
  | [a, b], h => by
    refine ⟨fun x hx => ?_, trivial⟩
    have e : x = (l.drop a).take (b - a) := by simpa [segW] using hx
    subst e
    refine ⟨seg_early h.1, fun z => ?_⟩
    have g1 := seg_len h.1
    rw [z] at g1
    have g2 := h.1.1
    have g3 : b - a = 0 := g1.symm
    omega
  | a :: b :: c :: r, h => by
    obtain ⟨i1, i2⟩ := segs_good (ps := b :: c :: r) h.2
    refine ⟨fun x hx => ?_, seg_ge h.1 h.2.1, i2⟩
    rcases List.mem_cons.mp hx with e | e
    · subst e
      refine ⟨seg_early h.1, fun z => ?_⟩
      have g1 := seg_len h.1
      rw [z] at g1
      have g2 := h.1.1
      have g3 : b - a = 0 := g1.symm
      omega
    · exact i1 x e
def lastP : Nat → List Nat → Nat
  | a, [] => a
  | _, b :: r => lastP b r
theorem segs_flat {l : List Nat} : ∀ {r : List Nat} {a : Nat}, Segs l (a :: r) → (segW l (a :: r)).flatten ++ l.drop (lastP a r) = l.drop a
  | [], a, _ => by simp [segW, lastP]
  | b :: r, a, h => by
    have i := segs_flat (r := r) (a := b) h.2
    show ((l.drop a).take (b - a) :: segW l (b :: r)).flatten ++ l.drop (lastP b r) = l.drop a
    rw [List.flatten_cons, List.append_assoc, i, ← seg_split h.1]
theorem segs_app {l : List Nat} : ∀ {qs : List Nat} {a b : Nat}, Segs l (qs ++ [a]) → Seg l a b → Segs l (qs ++ [a] ++ [b])
  | [], _, _, _, k => ⟨k, trivial⟩
  | [_], _, _, h, k => ⟨h.1, k, trivial⟩
  | _ :: x :: qs, _, _, h, k => ⟨h.1, segs_app (qs := x :: qs) h.2 k⟩
theorem cut_inv {l : List Nat} : ∀ n, n + 1 ≤ l.length → ∃ qs a, (cutSt l n).1 = qs ++ [a] ∧ (cutSt l n).2 = l.drop a ∧ Segs l (qs ++ [a]) ∧ a ≤ n ∧ (∀ i, a < i → i ≤ n → l.drop a < l.drop i) ∧ ∃ r, qs ++ [a] = 0 :: r
  | 0, _ => ⟨[], 0, rfl, rfl, trivial, Nat.le_refl _, fun i h1 h2 => absurd h1 (by omega), [], rfl⟩
  | n + 1, h => by
    obtain ⟨qs, a, e1, e2, hs, ha, hm, r, er⟩ := cut_inv (l := l) n (by omega)
    have eu : cutSt l (n + 1) = if l.drop (n + 1) < (cutSt l n).2 then ((cutSt l n).1 ++ [n + 1], l.drop (n + 1)) else cutSt l n := rfl
    by_cases g : l.drop (n + 1) < (cutSt l n).2
    · rw [eu, if_pos g]
      refine ⟨qs ++ [a], n + 1, by rw [e1], rfl, segs_app hs ⟨by omega, by omega, fun i h1 h2 => hm i h1 (by omega), by rw [← e2]; exact g⟩, Nat.le_refl _, fun i h1 h2 => absurd h1 (by omega), r ++ [n + 1], by rw [er]; rfl⟩
    · rw [eu, if_neg g]
      refine ⟨qs, a, e1, e2, hs, by omega, fun i h1 h2 => ?_, r, er⟩
      by_cases hi : i ≤ n
      · exact hm i h1 hi
      · have ei : i = n + 1 := by omega
        subst ei
        rw [e2] at g
        rcases tri (l.drop a) (l.drop (n + 1)) with z | z | z
        · exact z
        · have := congrArg List.length z
          rw [List.length_drop, List.length_drop] at this
          omega
        · exact absurd z g
theorem zip_seg (l : List Nat) (e : Nat) : ∀ (r : List Nat) (a : Nat), ((a :: r).zip (r ++ [e])).map (fun ab => (l.drop ab.1).take (ab.2 - ab.1)) = segW l ((a :: r) ++ [e])
  | [], _ => rfl
  | b :: r, a => by
    have i := zip_seg l e r b
    show _ :: ((b :: r).zip (r ++ [e])).map _ = _
    rw [i]
    rfl
theorem last_app : ∀ (r : List Nat) (a e : Nat), lastP a (r ++ [e]) = e
  | [], _, _ => rfl
  | b :: r, _, e => last_app r b e
/-- the places are segments -/
theorem cuts_segs {l : List Nat} (h : 1 ≤ l.length) : ∃ r, cutsOf l = 0 :: r ∧ Segs l ((0 :: r) ++ [l.length]) := by
  obtain ⟨qs, a, e1, _, hs, ha, hm, r, er⟩ := cut_inv (l := l) (l.length - 1) (by omega)
  refine ⟨r, by unfold cutsOf; rw [e1, er], ?_⟩
  rw [← er]
  refine segs_app hs ⟨by omega, Nat.le_refl _, fun i h1 h2 => hm i h1 (by omega), ?_⟩
  rw [List.drop_length]
  refine nil_lt fun z => ?_
  have := congrArg List.length z
  rw [List.length_drop] at this
  simp at this
  omega
theorem pieces_seg {l : List Nat} (h : 1 ≤ l.length) : ∃ r, cutsOf l = 0 :: r ∧ Segs l ((0 :: r) ++ [l.length]) ∧ piecesOf l = segW l ((0 :: r) ++ [l.length]) := by
  obtain ⟨r, e, hs⟩ := cuts_segs h
  refine ⟨r, e, hs, ?_⟩
  unfold piecesOf
  rw [e, List.tail_cons, zip_seg]
theorem pieces_flat {l : List Nat} (h : 1 ≤ l.length) : (piecesOf l).flatten = l := by
  obtain ⟨r, e, hs, ep⟩ := pieces_seg h
  have q := segs_flat (l := l) (r := r ++ [l.length]) (a := 0) hs
  rw [last_app, List.drop_length, List.append_nil] at q
  rw [ep]
  exact q
theorem pieces_good {l : List Nat} (h : 1 ≤ l.length) : Good (piecesOf l) := by
  obtain ⟨r, e, hs, ep⟩ := pieces_seg h
  rw [ep]
  exact segs_good hs
theorem pieces_wd {l : List Nat} (h : Wd l) : ∀ x ∈ piecesOf l, Wd x := fun x hx => by
  have g := (pieces_good h.1).1 x hx
  have e := pieces_flat h.1
  refine ⟨?_, ?_, fun c hc => h.2.2 c (by rw [← e]; exact List.mem_flatten.mpr ⟨x, hx, hc⟩)⟩
  · cases x with
    | nil => exact absurd rfl g.2
    | cons _ _ => exact Nat.le_add_left 1 _
  · have h2 := h.2.1
    obtain ⟨s, t, es⟩ := List.append_of_mem hx
    rw [← e, es, List.flatten_append, List.flatten_cons, List.length_append, List.length_append] at h2
    omega
theorem pieces_ne {l : List Nat} (h : 1 ≤ l.length) : piecesOf l ≠ [] := fun z => by
  have e := pieces_flat h
  rw [z] at e
  rw [← e] at h
  simp at h
end Rw
namespace Rw
theorem nonInc_at : ∀ {ls : List (List Nat)} {i : Nat} {a b : List Nat}, NonInc ls → ls[i]? = some a → ls[i + 1]? = some b → ¬ a < b
  | u :: v :: r, 0, a, b, h, ha, hb => by
    have e1 : u = a := Option.some.inj ha
    have e2 : v = b := Option.some.inj hb
    rw [← e1, ← e2]
    exact h.1
  | [_], 0, _, _, _, _, hb => nomatch hb
  | _ :: v :: r, i + 1, _, _, h, ha, hb => nonInc_at (ls := v :: r) (i := i) h.2 ha hb
  | [_], _ + 1, _, _, _, _, hb => nomatch hb
theorem segW_len (l : List Nat) : ∀ (r : List Nat) (a : Nat), (segW l (a :: r)).length = r.length
  | [], _ => rfl
  | b :: r, _ => by
    show (segW l (b :: r)).length + 1 = _
    rw [segW_len l r b]
    rfl
theorem segW_at {l : List Nat} : ∀ {r : List Nat} {a k : Nat}, Segs l (a :: r) → k ≤ r.length → (a :: r)[k]? = some (((segW l (a :: r)).take k).flatten.length + a)
  | r, a, 0, _, _ => by simp
  | [], _, k + 1, _, h => by simp at h
  | b :: r, a, k + 1, h, hk => by
    have i := segW_at (r := r) (a := b) (k := k) h.2 (by simpa using hk)
    have n := seg_len h.1
    have g := h.1.1
    show (b :: r)[k]? = some ((((l.drop a).take (b - a) :: segW l (b :: r)).take (k + 1)).flatten.length + a)
    rw [i, List.take_succ_cons, List.flatten_cons, List.length_append, n]
    congr 1
    omega
theorem cuts_due {l : List Nat} (h : 1 ≤ l.length) : cutsOf l = (List.range (piecesOf l).length).map fun k => ((piecesOf l).take k).flatten.length := by
  obtain ⟨r, e, hs, ep⟩ := pieces_seg h
  have hl : (piecesOf l).length = r.length + 1 := by
    rw [ep]
    show (segW l (0 :: (r ++ [l.length]))).length = _
    rw [segW_len, List.length_append]
    rfl
  refine List.ext_getElem? fun k => ?_
  by_cases hk : k < r.length + 1
  · have q := segW_at (l := l) (r := r ++ [l.length]) (a := 0) (k := k) hs (by rw [List.length_append]; exact Nat.le_of_lt hk)
    rw [e, List.getElem?_map, List.getElem?_range (by omega), ep]
    have e2 : (0 :: (r ++ [l.length]))[k]? = (0 :: r)[k]? := by
      show ((0 :: r) ++ [l.length])[k]? = _
      rw [List.getElem?_append_left (by simpa using hk)]
    rw [← e2, q]
    rfl
  · rw [e, List.getElem?_eq_none (by simpa using Nat.not_lt.mp hk), List.getElem?_eq_none (by rw [List.length_map, List.length_range]; omega)]
end Rw
namespace Rw
open PySem PySem.Spec PyProof.Rows L2
/-! only one cutting is so; all ways to cut -/
theorem Good.tail {w : List Nat} {vs : List (List Nat)} (h : Good (w :: vs)) : Good vs :=
  ⟨fun x hx => h.1 x (List.mem_cons_of_mem _ hx), match vs, h.2 with
    | [], _ => trivial
    | _ :: _, k => k.2⟩
theorem nonInc_le : ∀ {vs : List (List Nat)} {w : List Nat}, NonInc (w :: vs) → ∀ v ∈ vs, ¬ w < v
  | [], _, _, _, h => (List.not_mem_nil h).elim
  | u :: vs, w, h, v, hv => by
    rcases List.mem_cons.mp hv with e | e
    · rw [e]; exact h.1
    · intro g
      have i := nonInc_le (vs := vs) (w := u) h.2 v e
      rcases tri w u with z | z | z
      · exact h.1 z
      · exact i (z ▸ g)
      · exact i (List.lt_trans z g)
theorem claimB {w : List Nat} (hw : early w = true) : ∀ vs : List (List Nat), (∀ v ∈ vs, ¬ w < v) → ∀ z y r : List Nat, w = z ++ y → z ≠ [] → y ≠ [] → vs.flatten < y ++ r
  | [], _, z, y, r, _, _, hy => nil_lt fun e => hy (List.append_eq_nil_iff.mp e).1
  | v :: vs, h, z, y, r, e, hz, hy => by
    have lz : 1 ≤ z.length := by
      cases z with
      | nil => exact absurd rfl hz
      | cons _ _ => exact Nat.le_add_left 1 _
    have ly : 1 ≤ y.length := by
      cases y with
      | nil => exact absurd rfl hy
      | cons _ _ => exact Nat.le_add_left 1 _
    have hs : Sl w y := by
      have := early_suf hw (k := z.length) lz (by rw [e, List.length_append]; omega)
      rwa [show w.drop z.length = y from by rw [e, List.drop_left]] at this
    rw [List.flatten_cons]
    rcases tri v w with g | g | g
    · rcases lt_cases g with k | ⟨t, ht, k⟩
      · exact (k.trans hs).lt _ _
      · rw [k] at hs
        rcases hs.app with q | ⟨y', q1, q2⟩
        · exact q.lt _ _
        · have hy' : y' ≠ [] := fun z => by
            obtain ⟨p, a, b, s, t, _, e2, _⟩ := q2
            rw [z] at e2
            simp at e2
          have i := claimB hw vs (fun u hu => h u (List.mem_cons_of_mem _ hu)) (z ++ v) y' r (by rw [e, q1, List.append_assoc]) (fun q => hz (List.append_eq_nil_iff.mp q).1) hy'
          rw [q1, List.append_assoc]
          exact List.append_left_lt i
    · rw [g]
      exact hs.lt _ _
    · exact absurd g (h v List.mem_cons_self)
theorem claimA : ∀ (vs : List (List Nat)) (w : List Nat), Good (w :: vs) → vs.flatten < w ++ vs.flatten
  | [], w, h => by
    simpa using nil_lt (h.1 w List.mem_cons_self).2
  | v :: vs, w, h => by
    have hle := nonInc_le h.2
    rcases tri v w with g | g | g
    · rcases lt_cases g with k | ⟨t, ht, k⟩
      · rw [List.flatten_cons]
        exact k.lt _ _
      · have hv := (h.1 v (List.mem_cons_of_mem _ List.mem_cons_self)).2
        have b := claimB (h.1 w List.mem_cons_self).1 vs (fun u hu => hle u (List.mem_cons_of_mem _ hu)) v t (v :: vs).flatten k hv ht
        have q := List.append_left_lt (l₁ := v) b
        rw [← List.append_assoc, ← k] at q
        exact q
    · have i := claimA vs v h.tail
      have q := List.append_left_lt (l₁ := v) i
      rw [List.flatten_cons, ← g]
      exact q
    · exact absurd g (hle v List.mem_cons_self)
theorem no_early {w F : List Nat} (hw : early w = true) {i : Nat} (h1 : 1 ≤ i) (h2 : i < w.length) : ¬ (w ++ F).drop i < w ++ F := fun g => by
  have s := (early_suf hw h1 h2).lt F F
  rw [List.drop_append_of_le_length (by omega)] at g
  exact lt_asym s g
theorem first_len {w w' : List Nat} {vs vs' : List (List Nat)} (h : Good (w :: vs)) (h' : Good (w' :: vs')) (e : w ++ vs.flatten = w' ++ vs'.flatten) : ¬ w.length < w'.length := fun g => by
  have a := claimA vs w h
  have lw : 1 ≤ w.length := by
    have := (h.1 w List.mem_cons_self).2
    cases w with
    | nil => exact absurd rfl this
    | cons _ _ => exact Nat.le_add_left 1 _
  have b := no_early (F := vs'.flatten) (h'.1 w' List.mem_cons_self).1 lw g
  rw [← e, List.drop_left] at b
  exact b a
theorem uniq : ∀ (ls ls' : List (List Nat)), Good ls → Good ls' → ls.flatten = ls'.flatten → ls = ls'
  | [], [], _, _, _ => rfl
  | [], w :: vs, _, h, e => by
    have := (h.1 w List.mem_cons_self).2
    rw [List.flatten_cons] at e
    exact absurd (List.append_eq_nil_iff.mp e.symm).1 this
  | w :: vs, [], h, _, e => by
    have := (h.1 w List.mem_cons_self).2
    rw [List.flatten_cons] at e
    exact absurd (List.append_eq_nil_iff.mp e).1 this
  | w :: vs, w' :: vs', h, h', e => by
    rw [List.flatten_cons, List.flatten_cons] at e
    have l1 := first_len h h' e
    have l2 := first_len h' h e.symm
    obtain ⟨e1, e2⟩ := List.append_inj e (by omega)
    rw [e1, uniq vs vs' h.tail h'.tail e2]
/-- all ways to cut -/
def wStep (f : List (List (List Nat))) (c : Nat) : List (List (List Nat)) := f.map (fun r => r ++ [[c]]) ++ f.map (fun r => r.dropLast ++ [r.getLastD [] ++ [c]])
def waysSt (l : List Nat) (i : Nat) : List (List (List Nat)) := ((l.drop 1).take i).foldl wStep [[l.take 1]]
def waysOf (l : List Nat) : List (List (List Nat)) := waysSt l (l.length - 1)
theorem ways_succ {l : List Nat} {i c : Nat} (h : (l.drop 1)[i]? = some c) : waysSt l (i + 1) = wStep (waysSt l i) c := by
  unfold waysSt
  rw [List.take_add_one (l := l.drop 1), h, List.foldl_append]
  rfl
theorem take_succ' {l : List Nat} {i c : Nat} (h : (l.drop 1)[i]? = some c) : l.take (i + 2) = l.take (i + 1) ++ [c] := by
  rw [List.take_add_one]
  rw [List.getElem?_drop] at h
  rw [show i + 1 = 1 + i from Nat.add_comm _ _, h]
  rfl
theorem snoc {α : Type} {r : List α} (h : r ≠ []) (d : α) : r.dropLast ++ [r.getLastD d] = r := by
  rw [List.getLastD_eq_getLast?, List.getLast?_eq_some_getLast h]
  exact List.dropLast_concat_getLast h
/-- what all ways are -/
theorem ways_all {l : List Nat} (hl : 1 ≤ l.length) : ∀ i, i + 1 ≤ l.length → (waysSt l i).length = 2 ^ i ∧ ∀ r ∈ waysSt l i, r ≠ [] ∧ (∀ x ∈ r, x ≠ []) ∧ r.flatten = l.take (i + 1) ∧ r.length ≤ i + 1
  | 0, _ => by
    refine ⟨rfl, fun r hr => ?_⟩
    have e : r = [l.take 1] := List.mem_singleton.mp hr
    rw [e]
    refine ⟨(fun z => nomatch z), fun x hx z => ?_, by simp, Nat.le_refl _⟩
    rw [List.mem_singleton.mp hx] at z
    have := congrArg List.length z
    rw [List.length_take] at this
    have q : min 1 l.length = 0 := this
    omega
  | i + 1, h => by
    obtain ⟨i1, i2⟩ := ways_all hl i (by omega)
    obtain ⟨c, hc⟩ : ∃ c, (l.drop 1)[i]? = some c := ⟨_, List.getElem?_eq_getElem (by rw [List.length_drop]; omega)⟩
    rw [ways_succ hc, take_succ' hc]
    refine ⟨?_, fun r hr => ?_⟩
    · unfold wStep
      rw [List.length_append, List.length_map, List.length_map, i1, Nat.pow_succ]
      omega
    · rcases List.mem_append.mp hr with z | z
      · obtain ⟨s, hs, rfl⟩ := List.mem_map.mp z
        obtain ⟨a1, a2, a3, a4⟩ := i2 s hs
        refine ⟨by simp, fun x hx => ?_, by rw [List.flatten_append, a3]; simp, by rw [List.length_append]; exact Nat.succ_le_succ a4⟩
        rcases List.mem_append.mp hx with y | y
        · exact a2 x y
        · rw [List.mem_singleton.mp y]
          exact fun z => nomatch z
      · obtain ⟨s, hs, rfl⟩ := List.mem_map.mp z
        obtain ⟨a1, a2, a3, a4⟩ := i2 s hs
        refine ⟨by simp, fun x hx => ?_, ?_, ?_⟩
        · rcases List.mem_append.mp hx with y | y
          · exact a2 x (List.dropLast_subset s y)
          · rw [List.mem_singleton.mp y]
            simp
        · rw [← a3, List.flatten_append]
          have e := congrArg List.flatten (snoc a1 [])
          rw [List.flatten_append] at e
          rw [← e]
          simp
        · rw [List.length_append, List.length_dropLast]
          show _ + 1 ≤ _
          omega
theorem filter_eq_map {α β : Type} [DecidableEq α] [DecidableEq β] (f : α → β) (xs : List α) (a : α) (b : β) (h : ∀ x ∈ xs, f x = b ↔ x = a) (i : xs.filter (fun x => decide (x = a)) = [a]) (hb : f a = b) : (xs.map f).filter (fun y => decide (y = b)) = [b] := by
  rw [List.filter_map]
  have e : xs.filter ((fun y => decide (y = b)) ∘ f) = xs.filter fun x => decide (x = a) := List.filter_congr fun x hx => by
    show decide (f x = b) = decide (x = a)
    by_cases g : x = a
    · rw [decide_eq_true g, decide_eq_true ((h x hx).mpr g)]
    · rw [decide_eq_false g, decide_eq_false fun z => g ((h x hx).mp z)]
  rw [e, i, List.map_singleton, hb]
theorem filter_none_map {α β : Type} [DecidableEq β] (f : α → β) (xs : List α) (b : β) (h : ∀ x ∈ xs, f x ≠ b) : (xs.map f).filter (fun y => decide (y = b)) = [] := by
  rw [List.filter_eq_nil_iff]
  intro y hy
  obtain ⟨x, hx, rfl⟩ := List.mem_map.mp hy
  simpa using h x hx
theorem ways_once {l : List Nat} (hl : 1 ≤ l.length) : ∀ i, i + 1 ≤ l.length → ∀ ls : List (List Nat), ls.flatten = l.take (i + 1) → (∀ x ∈ ls, x ≠ []) → (waysSt l i).filter (fun r => decide (r = ls)) = [ls]
  | 0, _, ls, e, hne => by
    have el : ls = [l.take 1] := by
      have l1 : (l.take (0 + 1)).length = 1 := by rw [List.length_take]; omega
      match ls, e, hne with
      | [], e, _ =>
        have := congrArg List.length e
        rw [l1] at this
        cases this
      | [x], e, _ =>
        have : x = l.take 1 := by simpa using e
        rw [this]
      | x :: y :: r, e, hne =>
        have h1 := hne x List.mem_cons_self
        have h2 := hne y (List.mem_cons_of_mem _ List.mem_cons_self)
        have q := congrArg List.length e
        rw [l1, List.flatten_cons, List.flatten_cons, List.length_append, List.length_append] at q
        have q1 : x.length ≠ 0 := fun z => h1 (List.eq_nil_of_length_eq_zero z)
        have q2 : y.length ≠ 0 := fun z => h2 (List.eq_nil_of_length_eq_zero z)
        omega
    rw [el]
    show [[l.take 1]].filter _ = _
    simp
  | i + 1, h, ls, e, hne => by
    obtain ⟨c, hc⟩ : ∃ c, (l.drop 1)[i]? = some c := ⟨_, List.getElem?_eq_getElem (by rw [List.length_drop]; omega)⟩
    have hall := (ways_all hl i (by omega)).2
    rw [take_succ' hc] at e
    rw [ways_succ hc]
    have hls : ls ≠ [] := fun z => by
      rw [z] at e
      simp at e
    obtain ⟨l1, x, rfl⟩ : ∃ l1 x, ls = l1 ++ [x] := ⟨_, _, (snoc hls []).symm⟩
    have hx : x ≠ [] := hne x (List.mem_append_right _ (List.mem_singleton.mpr rfl))
    obtain ⟨v, d, rfl⟩ : ∃ v d, x = v ++ [d] := ⟨_, _, (snoc hx 0).symm⟩
    have e' : (l1.flatten ++ v) ++ [d] = l.take (i + 1) ++ [c] := by
      rw [← e, List.flatten_append]
      simp
    obtain ⟨e1, e2⟩ := List.append_inj' e' rfl
    have ed : d = c := (List.cons.inj e2).1
    subst ed
    unfold wStep
    rw [List.filter_append]
    by_cases hv : v = []
    · subst hv
      rw [List.append_nil] at e1
      have i1 := ways_once hl i (by omega) l1 e1 fun y hy => hne y (List.mem_append_left _ hy)
      rw [filter_eq_map (fun r => r ++ [[d]]) _ l1 (l1 ++ [[] ++ [d]]) (fun r _ => by
          constructor
          · intro z
            exact (List.append_inj' z rfl).1
          · intro z
            rw [z]
            rfl) i1 rfl, filter_none_map]
      · rfl
      · intro r hr z
        have z2 := (List.cons.inj (List.append_inj' z rfl).2).1
        obtain ⟨a1, a2, _⟩ := hall r hr
        have q : r.getLastD [] = [] := by
          have := congrArg List.length z2
          rw [List.length_append, List.length_append] at this
          exact List.eq_nil_of_length_eq_zero (Nat.add_right_cancel this)
        have m : r.getLastD [] ∈ r := by
          have s := snoc a1 []
          have m : r.getLastD [] ∈ r.dropLast ++ [r.getLastD []] := List.mem_append_right _ (List.mem_singleton.mpr rfl)
          rw [s] at m
          exact m
        exact a2 _ m q
    · have i1 := ways_once hl i (by omega) (l1 ++ [v]) (by rw [List.flatten_append]; simpa using e1) (fun y hy => by
        rcases List.mem_append.mp hy with z | z
        · exact hne y (List.mem_append_left _ z)
        · rw [List.mem_singleton.mp z]
          exact hv)
      rw [filter_none_map, filter_eq_map (fun r => r.dropLast ++ [r.getLastD [] ++ [d]]) _ (l1 ++ [v]) (l1 ++ [v ++ [d]]) (fun r hr => by
          obtain ⟨a1, a2, _⟩ := hall r hr
          constructor
          · intro z
            have z1 := List.append_inj' z rfl
            have z2 := (List.append_inj' (List.cons.inj z1.2).1 rfl).1
            rw [← snoc a1 [], z1.1, z2]
          · intro z
            rw [z]
            simp) i1 (by simp)]
      · rfl
      · intro r _ z
        have z2 := (List.cons.inj (List.append_inj' z rfl).2).1
        have := congrArg List.length z2
        rw [List.length_append] at this
        exact hv (List.eq_nil_of_length_eq_zero (by
          have q : 1 = v.length + 1 := this
          omega))
/-- among all ways just the pieces pass a test that means this -/
theorem ways_pieces {l : List Nat} (hl : 1 ≤ l.length) (p : List (List Nat) → Bool) (h : ∀ r ∈ waysOf l, p r = decide (r = piecesOf l)) : (waysOf l).filter p = [piecesOf l] := by
  have e : (waysOf l).filter p = (waysOf l).filter fun r => decide (r = piecesOf l) := List.filter_congr h
  rw [e]
  have ft : l.take (l.length - 1 + 1) = l := List.take_of_length_le (by omega)
  exact ways_once hl (l.length - 1) (by omega) (piecesOf l) (by rw [ft]; exact pieces_flat hl) fun x hx => ((pieces_good hl).1 x hx).2
theorem ways_good {l : List Nat} (hl : 1 ≤ l.length) : ∀ r ∈ waysOf l, (NonInc r ∧ ∀ x ∈ r, early x = true) ↔ r = piecesOf l := fun r hr => by
  have ft : l.take (l.length - 1 + 1) = l := List.take_of_length_le (by omega)
  obtain ⟨a1, a2, a3, _⟩ := (ways_all hl (l.length - 1) (by omega)).2 r hr
  rw [ft] at a3
  constructor
  · rintro ⟨h1, h2⟩
    exact uniq _ _ ⟨fun x hx => ⟨h2 x hx, a2 x hx⟩, h1⟩ (pieces_good hl) (a3.trans (pieces_flat hl).symm)
  · intro e
    rw [e]
    obtain ⟨g1, g2⟩ := pieces_good hl
    exact ⟨g2, fun x hx => (g1 x hx).1⟩
end Rw
namespace Rw
/-! the least turning: one early word some times -/
theorem lstT_le : ∀ (ys : List (List Nat)) (x : List Nat), ∀ z ∈ x :: ys, ¬ z < lstT x ys
  | [], x, z, hz => by
    rw [List.mem_singleton.mp hz]
    exact fun q => lt_irr q
  | y :: r, x, z, hz => by
    have e : lstT x (y :: r) = lstT (if y < x then y else x) r := rfl
    rw [e]
    have i := lstT_le r (if y < x then y else x)
    have i0 := i _ List.mem_cons_self
    rcases List.mem_cons.mp hz with q | q
    · subst q
      by_cases g : y < z
      · rw [if_pos g] at i0 ⊢
        exact fun k => i0 (List.lt_trans g k)
      · rw [if_neg g] at i0 ⊢
        exact i0
    · rcases List.mem_cons.mp q with q | q
      · subst q
        by_cases g : z < x
        · rw [if_pos g] at i0 ⊢
          exact i0
        · rw [if_neg g] at i0 ⊢
          intro k
          rcases tri z x with u | u | u
          · exact g u
          · exact i0 (u ▸ k)
          · exact i0 (List.lt_trans u k)
      · exact i z (List.mem_cons_of_mem _ q)
theorem minT_le {ls : List (List Nat)} : ∀ z ∈ ls, ¬ z < minT ls := by
  cases ls with
  | nil => exact fun z h => (List.not_mem_nil h).elim
  | cons x ys => exact lstT_le ys x
theorem turn_len (l : List Nat) (k : Nat) : (turn l k).length = l.length := by
  unfold turn
  rw [List.length_append, List.length_drop, List.length_take]
  omega
theorem turn_app {x y : List Nat} : turn (x ++ y) x.length = y ++ x := by
  unfold turn
  rw [List.drop_left, List.take_left]
/-- a piece of a rising end: the first and the last piece of what is least of its turnings are alike -/
theorem least_ends {u v : List Nat} {X : List (List Nat)} (hg : Good (u :: X ++ [v])) (hl : ¬ turn ((u :: X ++ [v]).flatten) ((u :: X).flatten.length) < (u :: X ++ [v]).flatten) : u = v := by
  have ef : (u :: X ++ [v]).flatten = (u :: X).flatten ++ v := by
    rw [List.flatten_append]
    simp
  rw [ef, turn_app, List.flatten_cons] at hl
  have hle := nonInc_le (w := u) (vs := X ++ [v]) hg.2 v (List.mem_append_right _ (List.mem_singleton.mpr rfl))
  rcases tri v u with g | g | g
  · exfalso
    rcases lt_cases g with k | ⟨y, hy, k⟩
    · refine hl ?_
      rw [List.append_assoc]
      exact k.lt _ _
    · have hu := hg.1 u List.mem_cons_self
      have hv := hg.1 v (List.mem_append_right _ (List.mem_singleton.mpr rfl))
      have lv : 1 ≤ v.length := by
        cases v with
        | nil => exact absurd rfl hv.2
        | cons _ _ => exact Nat.le_add_left 1 _
      have ly : 1 ≤ y.length := by
        cases y with
        | nil => exact absurd rfl hy
        | cons _ _ => exact Nat.le_add_left 1 _
      have s := early_suf hu.1 (k := v.length) lv (by rw [k, List.length_append]; omega)
      rw [show u.drop v.length = y from by rw [k, List.drop_left]] at s
      refine hl ?_
      have e : u ++ X.flatten ++ v = v ++ (y ++ (X.flatten ++ v)) := by
        rw (occs := .pos [1]) [k]
        simp
      rw [e]
      exact List.append_left_lt (s.lt _ _)
  · exact g.symm
  · exact absurd g hle
theorem nonInc_all {u : List Nat} : ∀ {X : List (List Nat)}, NonInc (u :: X ++ [u]) → ∀ x ∈ X, x = u
  | [], _, x, h => (List.not_mem_nil h).elim
  | y :: X, h, x, hx => by
    have h1 := nonInc_le (w := u) (vs := (y :: X) ++ [u]) h y List.mem_cons_self
    have h2 := nonInc_le (w := y) (vs := X ++ [u]) h.2 u (List.mem_append_right _ (List.mem_singleton.mpr rfl))
    have e : y = u := by
      rcases tri y u with g | g | g
      · exact absurd g h2
      · exact g
      · exact absurd g h1
    subst e
    rcases List.mem_cons.mp hx with q | q
    · exact q
    · exact nonInc_all (X := X) h.2 x q
/-- what is least of its turnings is an early word some times -/
theorem least_pieces {m : List Nat} (h : 1 ≤ m.length) (hl : ∀ k, k < m.length → ¬ turn m k < m) : ∃ u n, early u = true ∧ u ≠ [] ∧ 1 ≤ n ∧ piecesOf m = List.replicate n u ∧ (List.replicate n u).flatten = m := by
  have hg := pieces_good h
  have hf := pieces_flat h
  have hne := pieces_ne h
  generalize piecesOf m = ps at *
  have key : ∃ u n, 1 ≤ n ∧ ps = List.replicate n u := by
    cases ps with
    | nil => exact absurd rfl hne
    | cons u r =>
      by_cases hr : r = []
      · subst hr
        exact ⟨u, 1, Nat.le_refl _, rfl⟩
      · obtain ⟨X, v, rfl⟩ : ∃ X v, r = X ++ [v] := ⟨_, _, (snoc hr []).symm⟩
        have hv := hg.1 v (List.mem_cons_of_mem _ (List.mem_append_right _ (List.mem_singleton.mpr rfl)))
        have lv : 1 ≤ v.length := by
          cases v with
          | nil => exact absurd rfl hv.2
          | cons _ _ => exact Nat.le_add_left 1 _
        have ln : (u :: X).flatten.length < m.length := by
          rw [← hf]
          show _ < ((u :: X) ++ [v]).flatten.length
          rw [List.flatten_append, List.length_append]
          have : ([v] : List (List Nat)).flatten.length = v.length := by simp
          omega
        have e := least_ends (u := u) (v := v) (X := X) hg (by
          have z := hl _ ln
          rw [← hf] at z
          exact z)
        subst e
        have al := nonInc_all (u := u) (X := X) hg.2
        refine ⟨u, X.length + 2, by omega, ?_⟩
        have eX : X = List.replicate X.length u := List.eq_replicate_iff.mpr ⟨rfl, al⟩
        rw (occs := .pos [1]) [eX]
        rw [List.replicate_succ]
        congr 1
        exact (List.replicate_succ' ..).symm
  obtain ⟨u, n, hn, e⟩ := key
  have hu := hg.1 u (by rw [e]; exact List.mem_replicate.mpr ⟨by omega, rfl⟩)
  exact ⟨u, n, hu.1, hu.2, hn, e, by rw [← e]; exact hf⟩
/-- it comes to itself by no number of steps that is less than the early word's length -/
theorem power_turn {u : List Nat} {n k : Nat} (hu : early u = true) (hn : 1 ≤ n) (h1 : 1 ≤ k) (h2 : k < u.length) : (List.replicate n u).flatten < turn (List.replicate n u).flatten k := by
  obtain ⟨m, rfl⟩ : ∃ m, n = m + 1 := ⟨n - 1, by omega⟩
  have s := early_suf hu h1 h2
  rw [List.replicate_succ, List.flatten_cons]
  unfold turn
  rw [List.drop_append_of_le_length (by omega), List.append_assoc]
  exact s.lt _ _
/-- turned and turned again -/
theorem turn_turn {l : List Nat} {a b : Nat} (ha : a ≤ l.length) (hb : b ≤ l.length) : turn (turn l a) b = if a + b ≤ l.length then turn l (a + b) else turn l (a + b - l.length) := by
  unfold turn
  by_cases h : a + b ≤ l.length
  · rw [if_pos h, List.drop_append_of_le_length (by rw [List.length_drop]; omega), List.take_append_of_le_length (by rw [List.length_drop]; omega), List.drop_drop, List.append_assoc]
    congr 1
    rw [List.take_add]
  · rw [if_neg h]
    have e1 : (l.drop a ++ l.take a).drop b = (l.take a).drop (b - (l.length - a)) := by
      rw [List.drop_append, List.length_drop, List.drop_of_length_le (by rw [List.length_drop]; omega), List.nil_append]
    have e2 : (l.drop a ++ l.take a).take b = l.drop a ++ (l.take a).take (b - (l.length - a)) := by
      rw [List.take_append, List.length_drop, List.take_of_length_le (by rw [List.length_drop]; omega)]
    have e3 : b - (l.length - a) = a + b - l.length := by omega
    rw [e1, e2, e3, List.take_take, Nat.min_eq_left (by omega)]
    have e4 : ∀ j, j ≤ a → l.drop j = (l.take a).drop j ++ l.drop a := fun j hj => by
      have q := congrArg (List.drop j) (List.take_append_drop a l)
      rw [List.drop_append_of_le_length (by rw [List.length_take]; omega)] at q
      exact q.symm
    rw [e4 (a + b - l.length) (by omega), List.append_assoc]
theorem min_least {l : List Nat} (h : 1 ≤ l.length) : ∀ k, k < (minT (turns l)).length → ¬ turn (minT (turns l)) k < minT (turns l) := fun k hk g => by
  have hne : turns l ≠ [] := fun z => by
    have := congrArg List.length z
    rw [turns_len] at this
    have q : l.length = 0 := this
    omega
  obtain ⟨a, ha, e⟩ := List.mem_map.mp (minT_mem hne)
  have ha := List.mem_range.mp ha
  have e : turn l a = minT (turns l) := e
  have hlen : (minT (turns l)).length = l.length := by rw [← e, turn_len]
  have hm : turn (minT (turns l)) k ∈ turns l := by
    rw [← e, turn_turn (by omega) (by omega)]
    by_cases z : a + k ≤ l.length
    · rw [if_pos z]
      by_cases y : a + k = l.length
      · rw [y]
        refine List.mem_map.mpr ⟨0, List.mem_range.mpr (by omega), ?_⟩
        show turn l 0 = turn l l.length
        simp [turn]
      · exact List.mem_map.mpr ⟨a + k, List.mem_range.mpr (by omega), rfl⟩
    · rw [if_neg z]
      exact List.mem_map.mpr ⟨a + k - l.length, List.mem_range.mpr (by omega), rfl⟩
  exact minT_le _ hm g
end Rw
namespace Rw
/-! the early word behind an early word -/
/-- a beginning of w again and again -/
def PreW (w x : List Nat) : Prop := ∃ (m : Nat) (t : List Nat), (List.replicate m w).flatten = x ++ t
theorem Sl.ext {a b : List Nat} (h : Sl a b) (u v : List Nat) : Sl (a ++ u) (b ++ v) := by
  obtain ⟨p, c, d, s, t, rfl, rfl, q⟩ := h
  exact ⟨p, c, d, s ++ u, t ++ v, by simp, by simp, q⟩
theorem not_sl_pre {a b : List Nat} : ¬ Sl a (a ++ b) := fun ⟨p, c, d, s, t, e1, e2, q⟩ => by
  subst e1
  have e : c :: (s ++ b) = d :: t := by
    have z : p ++ (c :: (s ++ b)) = p ++ d :: t := by rw [← e2]; simp
    exact List.append_cancel_left z
  have := (List.cons.inj e).1
  omega
theorem not_sl_pre' {a b : List Nat} : ¬ Sl (a ++ b) a := fun ⟨p, c, d, s, t, e1, e2, q⟩ => by
  subst e2
  have e : d :: (t ++ b) = c :: s := by
    have z : p ++ (d :: (t ++ b)) = p ++ c :: s := by rw [← e1]; simp
    exact List.append_cancel_left z
  have := (List.cons.inj e).1
  omega
theorem sl_len {a b : List Nat} (h : a.length = b.length) (g : a < b) : Sl a b := by
  rcases lt_cases g with z | ⟨c, hc, z⟩
  · exact z
  · have := congrArg List.length z
    rw [List.length_append] at this
    exact absurd (List.eq_nil_of_length_eq_zero (by omega)) hc
theorem sl_not_eq {a b : List Nat} (h : Sl a b) : a < b := h.lt0
theorem PreW.nil (w : List Nat) : PreW w [] := ⟨0, [], rfl⟩
theorem PreW.pre {w x y : List Nat} (h : PreW w (x ++ y)) : PreW w x := by
  obtain ⟨m, t, e⟩ := h
  exact ⟨m, y ++ t, by rw [e, List.append_assoc]⟩
/-- two beginnings of the same: one begins with the other -/
theorem pre_two {a b c d : List Nat} (h : a ++ b = c ++ d) (l : a.length ≤ c.length) : ∃ t, c = a ++ t := by
  rcases List.append_eq_append_iff.mp h with ⟨t, h1, _⟩ | ⟨t, h1, _⟩
  · exact ⟨t, h1⟩
  · have := congrArg List.length h1
    rw [List.length_append] at this
    have z : t = [] := List.eq_nil_of_length_eq_zero (by omega)
    rw [z, List.append_nil] at h1
    exact ⟨[], by rw [List.append_nil, h1]⟩
theorem rep_app (w : List Nat) (m k : Nat) : (List.replicate (m + k) w).flatten = (List.replicate m w).flatten ++ (List.replicate k w).flatten := by
  rw [← List.flatten_append, List.replicate_append_replicate]
theorem PreW.two {w x y : List Nat} (h : PreW w x) (k : PreW w y) (l : x.length ≤ y.length) : ∃ t, y = x ++ t := by
  obtain ⟨m, t, e⟩ := h
  obtain ⟨n, s, f⟩ := k
  have e1 : x ++ (t ++ (List.replicate n w).flatten) = y ++ (s ++ (List.replicate m w).flatten) := by
    rw [← List.append_assoc, ← List.append_assoc, ← e, ← f, ← rep_app, ← rep_app, Nat.add_comm]
  exact pre_two e1 l
theorem PreW.self (w : List Nat) : PreW w w := ⟨1, [], by simp⟩
theorem PreW.not_sl {w x y : List Nat} (h : PreW w x) (k : PreW w y) : ¬ Sl x y := fun s => by
  by_cases l : x.length ≤ y.length
  · obtain ⟨t, rfl⟩ := h.two k l
    exact not_sl_pre s
  · obtain ⟨t, rfl⟩ := k.two h (by omega)
    exact not_sl_pre' s
/-- without its first time -/
theorem PreW.tail {w x : List Nat} (h : PreW w (w ++ x)) (hw : w ≠ []) : PreW w x := by
  obtain ⟨m, t, e⟩ := h
  cases m with
  | zero =>
    have := congrArg List.length e
    simp at this
    exact absurd (List.eq_nil_of_length_eq_zero (by omega)) hw
  | succ m =>
    rw [List.replicate_succ, List.flatten_cons, List.append_assoc] at e
    exact ⟨m, t, List.append_cancel_left e⟩
/-- an early word that is not less parts from it only upwards -/
theorem no_less {w u : List Nat} (hw : w ≠ []) (hu : early u = true) (hle : ¬ u < w) : ∀ (n : Nat) (x : List Nat), x.length ≤ n → PreW w x → ¬ Sl u x
  | 0, x, hn, _, ⟨p, c, d, s, t, _, e, _⟩ => by
    rw [e, List.length_append] at hn
    simp at hn
  | n + 1, x, hn, h, ⟨p, c, d, s, t, e1, e2, q⟩ => by
    have lw : 1 ≤ w.length := by
      cases w with
      | nil => exact absurd rfl hw
      | cons _ _ => exact Nat.le_add_left 1 _
    by_cases l : p.length < w.length
    · have hp : PreW w (p ++ [d]) := PreW.pre (y := t) (by rw [e2] at h; simpa using h)
      obtain ⟨r, er⟩ := hp.two (PreW.self w) (by rw [List.length_append]; exact l)
      refine hle (Sl.lt0 ⟨p, c, d, s, r, e1, ?_, q⟩)
      rw (occs := .pos [1]) [er]
      simp
    · have hp : PreW w p := PreW.pre (y := d :: t) (by rw [← e2]; exact h)
      obtain ⟨p', ep⟩ := (PreW.self w).two hp (by omega)
      have hx : x = w ++ (p' ++ d :: t) := by rw [e2, ep, List.append_assoc]
      have hu' : u = w ++ (p' ++ c :: s) := by rw [e1, ep, List.append_assoc]
      have s1 := early_suf hu (k := w.length) lw (by rw [hu', List.length_append, List.length_append]; simp; omega)
      rw [show u.drop w.length = p' ++ c :: s from by rw [hu', List.drop_left]] at s1
      rw [hx] at h hn
      rw [List.length_append] at hn
      exact no_less hw hu hle n _ (by omega) (h.tail hw) (s1.trans ⟨p', c, d, s, t, rfl, rfl, q⟩)
/-- no ending of a beginning is less than a beginning -/
theorem suf_ge {w : List Nat} (hw : w ≠ []) (he : early w = true) : ∀ (n : Nat) (x : List Nat), x.length ≤ n → PreW w x → ∀ (k : Nat) (y : List Nat), PreW w y → ¬ Sl (x.drop k) y
  | 0, x, hn, _, k, y, _, ⟨p, c, d, s, t, e, _, _⟩ => by
    have := congrArg List.length e
    rw [List.length_drop, List.length_append] at this
    simp at this
    omega
  | n + 1, x, hn, h, k, y, hy, sl => by
    have lw : 1 ≤ w.length := by
      cases w with
      | nil => exact absurd rfl hw
      | cons _ _ => exact Nat.le_add_left 1 _
    by_cases l : w.length ≤ x.length
    · obtain ⟨x', ex⟩ := (PreW.self w).two h l
      rw [ex] at h hn sl
      rw [List.length_append] at hn
      by_cases hk : w.length ≤ k
      · rw [List.drop_append, List.drop_of_length_le hk, List.nil_append] at sl
        exact suf_ge hw he n x' (by omega) (h.tail hw) (k - w.length) y hy sl
      · by_cases k0 : k = 0
        · rw [k0, List.drop_zero] at sl
          exact h.not_sl hy sl
        · have s1 := early_suf he (k := k) (by omega) (by omega)
          rw [List.drop_append_of_le_length (by omega)] at sl
          have s2 := (s1.ext [] x').trans sl
          rw [List.append_nil] at s2
          exact (PreW.self w).not_sl hy s2
    · obtain ⟨t, et⟩ := h.two (PreW.self w) (by omega)
      by_cases k0 : k = 0
      · rw [k0, List.drop_zero] at sl
        exact h.not_sl hy sl
      · by_cases hk : k < x.length
        · have s1 := early_suf he (k := k) (by omega) (by omega)
          have ed : w.drop k = x.drop k ++ t := by
            rw (occs := .pos [1]) [et]
            exact List.drop_append_of_le_length (by omega)
          rw [ed] at s1
          have s2 := sl.ext t []
          rw [List.append_nil] at s2
          exact (PreW.self w).not_sl hy (s1.trans s2)
        · rw [List.drop_of_length_le (by omega)] at sl
          obtain ⟨p, c, d, s, t, e, _, _⟩ := sl
          simp at e
/-- the last sign raised: early -/
theorem up_early {w y : List Nat} {a b : Nat} (hw : w ≠ []) (he : early w = true) (h : PreW w (y ++ [a])) (hab : a < b) : early (y ++ [b]) = true := by
  refine suf_early fun k k1 k2 => ?_
  rw [List.length_append] at k2
  have k2 : k < y.length + 1 := k2
  rw [List.drop_append_of_le_length (by omega)]
  have ge := suf_ge hw he _ _ (Nat.le_refl _) h k
  rw [List.drop_append_of_le_length (by omega)] at ge
  have ls : (y.drop k).length + 1 ≤ y.length := by rw [List.length_drop]; omega
  have hp : PreW w (y.take ((y.drop k).length + 1)) := PreW.pre (y := y.drop ((y.drop k).length + 1) ++ [a]) (by rw [← List.append_assoc, List.take_append_drop]; exact h)
  have lp : (y.take ((y.drop k).length + 1)).length = (y.drop k).length + 1 := by rw [List.length_take]; omega
  have sb : Sl (y.drop k ++ [a]) (y.drop k ++ [b]) := ⟨y.drop k, a, b, [], [], rfl, rfl, hab⟩
  have key : Sl (y.take ((y.drop k).length + 1)) (y.drop k ++ [b]) := by
    rcases tri (y.take ((y.drop k).length + 1)) (y.drop k ++ [a]) with g | g | g
    · exact (sl_len (by rw [lp, List.length_append]; rfl) g).trans sb
    · rw [g]
      exact sb
    · exact absurd (sl_len (by rw [lp, List.length_append]; rfl) g) (ge _ hp)
  have z := key.ext (y.drop ((y.drop k).length + 1) ++ [b]) []
  rw [← List.append_assoc, List.take_append_drop, List.append_nil] at z
  exact z
/-- an early word that comes behind w and is no longer than x parts from x upwards -/
theorem behind {w u x : List Nat} (hw : w ≠ []) (hu : early u = true) (hlt : w < u) (hx : PreW w x) (hl : u.length ≤ x.length) (hwx : w.length ≤ x.length) : Sl x u := by
  have hle : ¬ u < w := fun z => lt_asym z hlt
  have n1 := no_less hw hu hle _ x (Nat.le_refl _) hx
  -- u is no beginning of it
  have n2 : ¬ PreW w u := fun h => by
    by_cases l : w.length ≤ u.length
    · obtain ⟨t, et⟩ := (PreW.self w).two h l
      have ht : t ≠ [] := fun z => by
        rw [z, List.append_nil] at et
        rw [et] at hlt
        exact lt_irr hlt
      have lw : 1 ≤ w.length := by
        cases w with
        | nil => exact absurd rfl hw
        | cons _ _ => exact Nat.le_add_left 1 _
      have lt : 1 ≤ t.length := by
        cases t with
        | nil => exact absurd rfl ht
        | cons _ _ => exact Nat.le_add_left 1 _
      have s1 := early_suf hu (k := w.length) lw (by rw [et, List.length_append]; omega)
      rw [show u.drop w.length = t from by rw [et, List.drop_left]] at s1
      rw [et] at h
      exact no_less hw hu hle _ t (Nat.le_refl _) (h.tail hw) s1
    · obtain ⟨t, et⟩ := h.two (PreW.self w) (by omega)
      refine hle ?_
      rw [et]
      refine pre_lt u fun z => ?_
      rw [z, List.append_nil] at et
      rw [et] at l
      omega
  rcases tri x u with g | g | g
  · rcases lt_cases g with z | ⟨c, hc, z⟩
    · exact z
    · have := congrArg List.length z
      rw [List.length_append] at this
      exact absurd (List.eq_nil_of_length_eq_zero (by omega)) hc
  · exact absurd (g ▸ hx) n2
  · rcases lt_cases g with z | ⟨c, hc, z⟩
    · exact absurd z n1
    · rw [z] at hx
      exact absurd hx.pre n2
/-- and so is not less than the raised one -/
theorem next_least {w u y : List Nat} {a b z m : Nat} (hw : w ≠ []) (hu : early u = true) (hlt : w < u) (hx : PreW w (y ++ a :: List.replicate m z)) (hl : u.length ≤ (y ++ a :: List.replicate m z).length)
    (hwx : w.length ≤ (y ++ a :: List.replicate m z).length) (hz : ∀ c ∈ u, c ≤ z) (hb : ∀ c ∈ u, a < c → b ≤ c) : ¬ u < y ++ [b] := fun g => by
  obtain ⟨p, e, f, s, t, e1, e2, q⟩ := behind hw hu hlt hx hl hwx
  have hf : f ∈ u := by rw [e2]; exact List.mem_append_right _ List.mem_cons_self
  rcases List.append_eq_append_iff.mp e1 with ⟨r, h1, h2⟩ | ⟨r, h1, h2⟩
  · -- p = y ++ r
    cases r with
    | nil =>
      have h3 := List.cons.inj h2
      rw [List.append_nil] at h1
      subst h1
      have ef : b ≤ f := hb f hf (by rw [h3.1]; exact q)
      rw [e2] at g
      have g2 := cancel g
      rcases List.cons_lt_cons_iff.mp g2 with k | ⟨_, k⟩
      · omega
      · exact List.not_lt_nil _ k
    | cons r0 r =>
      have h3 := (List.cons.inj h2).2
      have he : e ∈ List.replicate m z := by rw [h3]; exact List.mem_append_right _ List.mem_cons_self
      have := (List.mem_replicate.mp he).2
      have := hz f hf
      omega
  · -- y = p ++ r
    cases r with
    | nil =>
      have h3 := List.cons.inj h2
      rw [List.append_nil] at h1
      subst h1
      have ef : b ≤ f := hb f hf (by rw [← h3.1]; exact q)
      rw [e2] at g
      have g2 := cancel g
      rcases List.cons_lt_cons_iff.mp g2 with k | ⟨_, k⟩
      · omega
      · exact List.not_lt_nil _ k
    | cons r0 r =>
      have h3 := (List.cons.inj h2).1
      rw [e2, h1, List.append_assoc] at g
      have g2 := cancel g
      rcases List.cons_lt_cons_iff.mp g2 with k | ⟨k, _⟩ <;> omega
/-- nothing comes behind where all that is left is the last sign -/
theorem next_none {w u : List Nat} {z m : Nat} (hw : w ≠ []) (hu : early u = true) (hlt : w < u) (hx : PreW w (List.replicate m z)) (hl : u.length ≤ m) (hwx : w.length ≤ m) (hz : ∀ c ∈ u, c ≤ z) : False := by
  obtain ⟨p, e, f, s, t, e1, e2, q⟩ := behind hw hu hlt hx (by rw [List.length_replicate]; exact hl) (by rw [List.length_replicate]; exact hwx)
  have he : e ∈ List.replicate m z := by rw [e1]; exact List.mem_append_right _ List.mem_cons_self
  have := (List.mem_replicate.mp he).2
  have := hz f (by rw [e2]; exact List.mem_append_right _ List.mem_cons_self)
  omega
end Rw
namespace Rw
/-! two early words, roots, borders and beats -/
theorem len_pos {l : List Nat} (h : l ≠ []) : 1 ≤ l.length := by
  cases l with
  | nil => exact absurd rfl h
  | cons _ _ => exact Nat.le_add_left 1 _
theorem Sl.under (p : List Nat) {a b : List Nat} (h : Sl a b) : Sl (p ++ a) (p ++ b) := by
  obtain ⟨q, c, d, s, t, rfl, rfl, g⟩ := h
  exact ⟨p ++ q, c, d, s, t, by simp, by simp, g⟩
/-- the less ahead: early -/
theorem early_app {u v : List Nat} (hu : early u = true) (hv : early v = true) (nu : u ≠ []) (h : u < v) : early (u ++ v) = true := by
  have lu := len_pos nu
  have key : Sl (u ++ v) v := by
    rcases lt_cases h with z | ⟨c, hc, z⟩
    · have := z.ext v []
      rwa [List.append_nil] at this
    · have lc := len_pos hc
      have s := early_suf hv (k := u.length) lu (by rw [z, List.length_append]; omega)
      rw [show v.drop u.length = c from by rw [z, List.drop_left]] at s
      have := Sl.under u s
      rw [← z] at this
      exact this
  refine suf_early fun k k1 k2 => ?_
  rw [List.length_append] at k2
  by_cases g : k < u.length
  · rw [List.drop_append_of_le_length (by omega)]
    exact (early_suf hu k1 g).ext _ _
  · rw [List.drop_append, List.drop_of_length_le (by omega), List.nil_append]
    by_cases e : k = u.length
    · rw [e, Nat.sub_self, List.drop_zero]
      exact key
    · exact key.trans (early_suf hv (by omega) (by omega))
theorem early_twice {u : List Nat} (nu : u ≠ []) : early (u ++ u) = false := by
  cases h : early (u ++ u) with
  | false => rfl
  | true =>
    have lu := len_pos nu
    have s := early_suf h (k := u.length) lu (by rw [List.length_append]; omega)
    rw [List.drop_left] at s
    exact (not_sl_pre' s).elim
/-- some times the first d signs -/
def again (l : List Nat) (d : Nat) : Prop := 1 ≤ d ∧ d ≤ l.length ∧ ∃ n, (List.replicate n (l.take d)).flatten = l
theorem flat_len (n : Nat) (u : List Nat) : (List.replicate n u).flatten.length = n * u.length := by simp
theorem again_turn {l : List Nat} {d : Nat} (h : again l d) : turn l d = l := by
  obtain ⟨h1, h2, n, e⟩ := h
  have ld : (l.take d).length = d := by rw [List.length_take]; omega
  generalize l.take d = r at e ld
  cases n with
  | zero =>
    rw [← e] at h2
    simp at h2
    omega
  | succ n =>
    rw [List.replicate_succ, List.flatten_cons] at e
    rw [← e, ← ld]
    rw (occs := .pos [2]) [← List.flatten_cons]
    rw [turn_app]
    rw [← List.replicate_succ, List.replicate_succ', List.flatten_append]
    simp
/-- of an early word some times, none shorter is it again and again -/
theorem again_early {u : List Nat} {n d : Nat} (hu : early u = true) (nu : u ≠ []) (hn : 1 ≤ n) : again (List.replicate n u).flatten u.length ∧ (again (List.replicate n u).flatten d → u.length ≤ d) := by
  have lu := len_pos nu
  constructor
  · refine ⟨lu, ?_, n, ?_⟩
    · rw [flat_len]
      exact Nat.le_mul_of_pos_left _ hn
    · obtain ⟨m, rfl⟩ : ∃ m, n = m + 1 := ⟨n - 1, by omega⟩
      have e : (List.replicate (m + 1) u).flatten.take u.length = u := by
        rw [List.replicate_succ, List.flatten_cons, List.take_left]
      rw [e]
  · intro h
    by_cases g : u.length ≤ d
    · exact g
    · have p := power_turn (k := d) hu hn h.1 (by omega)
      rw [again_turn h] at p
      exact (lt_irr p).elim
end Rw
namespace Rw
open PySem PySem.Spec PyProof.Rows L2
/-! tuples, and lists of tuples, of numbers and texts: ==, != -/
abbrev Fl := Int ⊕ List Nat
def flV : Fl → V
  | .inl i => .int i
  | .inr l => tv l
def flD : Fl → PyData
  | .inl i => .int i
  | .inr l => .str (T l)
def FlOk : Fl → Prop
  | .inl _ => True
  | .inr l => Ok l
theorem dp_fl1 {K : PySem.W.Frag} {H : Hp} (x : Fl) : Dp K H (flV x) (flD x) := by
  cases x with
  | inl i => exact .int i
  | inr l => exact .str (T l)
theorem dp_fl {K : PySem.W.Frag} {H : Hp} : ∀ xs : List Fl, DpAll K H (xs.map flV) (xs.map flD)
  | [] => .nil
  | x :: r => .cons (dp_fl1 x) (dp_fl r)
theorem eqv_fl1 (x y : Fl) : PyData.eqv (flD x) (flD y) = decide (x = y) := by
  cases x with
  | inl i =>
    cases y with
    | inl j =>
      show (i == j) = _
      rw [Bool.eq_iff_iff, beq_iff_eq, decide_eq_true_eq]
      simp
    | inr m => exact (decide_eq_false (fun h => nomatch h)).symm
  | inr l =>
    cases y with
    | inl j => exact (decide_eq_false (fun h => nomatch h)).symm
    | inr m =>
      show (T l == T m) = _
      rw [T_beq]
      exact decide_eq_decide.mpr (by simp)
theorem eqv_fl : ∀ xs ys : List Fl, PyData.eqvAll (xs.map flD) (ys.map flD) = decide (xs = ys)
  | [], [] => rfl
  | [], _ :: _ => rfl
  | _ :: _, [] => rfl
  | x :: xs, y :: ys => by
    rw [List.map_cons, List.map_cons]
    unfold PyData.eqvAll
    rw [eqv_fl xs ys, eqv_fl1]
    by_cases h1 : x = y <;> by_cases h2 : xs = ys <;> simp [h1, h2]
theorem can_str {a : List Nat} (h : Ok a) : PyData.canLay0 (.str (T a)) = true := by
  unfold PyData.canLay0
  show Array.all _ _ = true
  simp only [T, List.size_toArray, List.all_toArray', List.all_eq_true]
  intro c hc
  exact decide_eq_true (h c hc)
theorem can_fl : ∀ xs : List Fl, (∀ x ∈ xs, FlOk x) → PyData.canLayAll0 (xs.map flD) = true
  | [], _ => rfl
  | x :: r, h => by
    rw [List.map_cons]
    unfold PyData.canLayAll0
    rw [can_fl r fun y hy => h y (List.mem_cons_of_mem _ hy), Bool.and_true]
    have hx := h x List.mem_cons_self
    cases x with
    | inl i => rfl
    | inr l => exact can_str hx
theorem depth_fl : ∀ xs : List Fl, PyData.depthAll (xs.map flD) ≤ 1
  | [] => by decide
  | x :: r => by
    rw [List.map_cons]
    unfold PyData.depthAll
    refine Nat.max_le.mpr ⟨?_, depth_fl r⟩
    cases x with
    | inl i => first | decide | (show PyData.depth (.int _) ≤ 1; unfold PyData.depth; decide)
    | inr l => first | decide | (show PyData.depth (.str _) ≤ 1; unfold PyData.depth; decide)
theorem shaped_fl (xs : List Fl) (h : ∀ x ∈ xs, FlOk x) : SeqAt.shaped (.tuple (xs.map flD)) = true := by
  unfold SeqAt.shaped
  rw [Bool.and_eq_true]
  constructor
  · unfold PyData.canLay0
    exact can_fl xs h
  · refine decide_eq_true ?_
    unfold PyData.depth
    have := depth_fl xs
    omega
def rEqTF (K : PySem.W.Frag) (neg : Bool) : R2 := fun x y H Q => ∃ (p q : Addr) (xs ys : List Fl), x = .ref p ∧ y = .ref q ∧ SqT K H p (xs.map flV) ∧ SqT K H q (ys.map flV) ∧ (∀ x ∈ xs, FlOk x) ∧ (∀ y ∈ ys, FlOk y) ∧ Q (.bl (if neg then !decide (xs = ys) else decide (xs = ys))) H
theorem eqv_tups (xs ys : List Fl) : PyData.eqv (.tuple (xs.map flD)) (.tuple (ys.map flD)) = decide (xs = ys) := by
  unfold PyData.eqv
  exact eqv_fl xs ys
section
variable {X : Cx}
theorem op_eqTF (hu : X.A.units + 64 < cLine) : OpR X (compareOp .Eq) (rEqTF X.K false) := fun pins s σ H x y v u Q I rx ry ⟨p, q, a, b, e1, e2, h1, h2, o1, o2, k⟩ =>
  op_eqD hu pins s σ H x y v u Q I rx ry ⟨_, _, by rw [e1]; exact .tup h1 (dp_fl a), by rw [e2]; exact .tup h2 (dp_fl b), shaped_fl a o1, shaped_fl b o2, by rw [eqv_tups]; exact k⟩
theorem op_neTF (hu : X.A.units + 64 < cLine) : OpR X (compareOp .NotEq) (rEqTF X.K true) := fun pins s σ H x y v u Q I rx ry ⟨p, q, a, b, e1, e2, h1, h2, o1, o2, k⟩ =>
  op_neD hu pins s σ H x y v u Q I rx ry ⟨_, _, by rw [e1]; exact .tup h1 (dp_fl a), by rw [e2]; exact .tup h2 (dp_fl b), shaped_fl a o1, shaped_fl b o2, by rw [eqv_tups]; exact k⟩
end
theorem fl_two {a : List Nat} {i : Int} (h : Ok a) : ∀ x ∈ ([.inr a, .inl i] : List Fl), FlOk x := fun x hx => by
  simp only [List.mem_cons, List.not_mem_nil, or_false] at hx
  rcases hx with rfl | rfl
  · exact h
  · exact True.intro
end Rw
namespace Rw
/-- a border is what is left where it beats -/
def isBorder (l : List Nat) (k : Nat) : Prop := l.take k = l.drop (l.length - k)
def beats (l : List Nat) (p : Nat) : Prop := ∀ i a b, l[i]? = some a → l[i + p]? = some b → a = b
theorem border_beats {l : List Nat} {p : Nat} (hp : p ≤ l.length) : beats l p ↔ isBorder l (l.length - p) := by
  have e : l.length - (l.length - p) = p := by omega
  unfold isBorder
  rw [e]
  constructor
  · intro h
    refine List.ext_getElem? fun i => ?_
    by_cases hi : i < l.length - p
    · rw [List.getElem?_take_of_lt hi, List.getElem?_drop]
      have h1 : l[i]? = some l[i] := List.getElem?_eq_getElem (by omega)
      have h2 : l[p + i]? = some l[p + i] := List.getElem?_eq_getElem (by omega)
      rw [h1, h2]
      exact congrArg some (h i _ _ h1 (by rw [Nat.add_comm]; exact h2))
    · rw [List.getElem?_eq_none (by rw [List.length_take]; omega), List.getElem?_eq_none (by rw [List.length_drop]; omega)]
  · intro h i a b ha hb
    have hi : i + p < l.length := (List.getElem?_eq_some_iff.mp hb).1
    have q := congrArg (fun x => x[i]?) h
    rw [List.getElem?_take_of_lt (by omega), List.getElem?_drop, ha, Nat.add_comm p i, hb] at q
    exact Option.some.inj q
instance (l : List Nat) (k : Nat) : Decidable (isBorder l k) := by unfold isBorder; exact inferInstance
def bordersOf (l : List Nat) : List Nat := ((List.range (l.length - 1)).map (1 + ·)).filter fun k => decide (isBorder l k)
theorem mem_borders {l : List Nat} {k : Nat} : k ∈ bordersOf l ↔ (1 ≤ k ∧ k < l.length) ∧ isBorder l k := by
  unfold bordersOf
  rw [List.mem_filter, decide_eq_true_eq, List.mem_map]
  constructor
  · rintro ⟨⟨i, hi, rfl⟩, h⟩
    have := List.mem_range.mp hi
    exact ⟨⟨by omega, by omega⟩, h⟩
  · rintro ⟨⟨h1, h2⟩, h⟩
    exact ⟨⟨k - 1, List.mem_range.mpr (by omega), by omega⟩, h⟩
def beatOf (l : List Nat) : Nat := l.length - (bordersOf l).foldl max 0
theorem foldMax_le : ∀ (ns : List Nat) (n : Nat), n ≤ ns.foldl max n ∧ ∀ k ∈ ns, k ≤ ns.foldl max n
  | [], n => ⟨Nat.le_refl _, fun k h => (List.not_mem_nil h).elim⟩
  | m :: r, n => by
    obtain ⟨i1, i2⟩ := foldMax_le r (max n m)
    rw [List.foldl_cons]
    refine ⟨by omega, fun k hk => ?_⟩
    rcases List.mem_cons.mp hk with e | e
    · omega
    · exact i2 k e
theorem foldMax_mem : ∀ (ns : List Nat) (n : Nat), ns.foldl max n = n ∨ ns.foldl max n ∈ ns
  | [], n => .inl rfl
  | m :: r, n => by
    rw [List.foldl_cons]
    rcases foldMax_mem r (max n m) with e | e
    · rw [e]
      by_cases h : n ≤ m
      · exact .inr (by rw [Nat.max_eq_right h]; exact List.mem_cons_self)
      · exact .inl (Nat.max_eq_left (by omega))
    · exact .inr (List.mem_cons_of_mem _ e)
theorem beat_spec {l : List Nat} (h : 1 ≤ l.length) : 1 ≤ beatOf l ∧ beatOf l ≤ l.length ∧ beats l (beatOf l) ∧ ∀ p, 1 ≤ p → beats l p → beatOf l ≤ p := by
  have key : ∀ p, 1 ≤ p → p < l.length → beats l p → l.length - p ≤ (bordersOf l).foldl max 0 := fun p h1 h2 hb =>
    (foldMax_le _ 0).2 _ (mem_borders.mpr ⟨⟨by omega, by omega⟩, (border_beats (by omega)).mp hb⟩)
  have key2 : ∀ p, 1 ≤ p → beats l p → beatOf l ≤ p := fun p h1 hb => by
    unfold beatOf
    by_cases g : p < l.length
    · have := key p h1 g hb
      omega
    · omega
  rcases foldMax_mem (bordersOf l) 0 with e | e
  · have eb : beatOf l = l.length := by unfold beatOf; omega
    refine ⟨by omega, by omega, ?_, key2⟩
    rw [eb]
    intro i a b _ hb
    have := (List.getElem?_eq_some_iff.mp hb).1
    omega
  · obtain ⟨⟨h1, h2⟩, hb⟩ := mem_borders.mp e
    refine ⟨by unfold beatOf; omega, by unfold beatOf; omega, ?_, key2⟩
    refine (border_beats (by unfold beatOf; omega)).mpr ?_
    have e2 : l.length - beatOf l = (bordersOf l).foldl max 0 := by unfold beatOf; omega
    rw [e2]
    exact hb
/-- whether each sign comes again so many places on, looked for -/
def beatsB (l : List Nat) (p : Nat) : Bool := decide ((List.range (l.length - p)).filter (fun k => !decide (l[k]? = l[k + p]?)) = [])
theorem beatsB_iff {l : List Nat} {p : Nat} : beatsB l p = true ↔ beats l p := by
  unfold beatsB beats
  rw [decide_eq_true_eq, List.filter_eq_nil_iff]
  constructor
  · intro h i a b ha hb
    have hi := (List.getElem?_eq_some_iff.mp hb).1
    have := h i (List.mem_range.mpr (by omega))
    rw [ha, hb] at this
    simpa using this
  · intro h k hk
    have hk := List.mem_range.mp hk
    have e1 : l[k]? = some l[k] := List.getElem?_eq_getElem (by omega)
    have e2 : l[k + p]? = some l[k + p] := List.getElem?_eq_getElem (by omega)
    have := h k _ _ e1 e2
    rw [e1, e2, this]
    simp
theorem first_filter {n m : Nat} {f : Nat → Bool} (h1 : 1 ≤ m) (h2 : m ≤ n) (hm : f m = true) (hl : ∀ p, 1 ≤ p → f p = true → m ≤ p) : (((List.range n).map (1 + ·)).filter f)[0]? = some m := by
  rw [← List.head?_eq_getElem?, List.head?_filter, List.find?_map]
  have e : (List.range n).find? (f ∘ (1 + ·)) = some (m - 1) := by
    rw [List.find?_range_eq_some]
    refine ⟨?_, List.mem_range.mpr (by omega), fun j hj => ?_⟩
    · show f (1 + (m - 1)) = true
      rw [show 1 + (m - 1) = m from by omega]
      exact hm
    · show (!f (1 + j)) = true
      cases g : f (1 + j) with
      | false => rfl
      | true =>
        have := hl _ (by omega) g
        omega
  rw [e]
  show some (1 + (m - 1)) = some m
  rw [show 1 + (m - 1) = m from by omega]
theorem first_beat {l : List Nat} (h : 1 ≤ l.length) : (((List.range l.length).map (1 + ·)).filter (beatsB l))[0]? = some (beatOf l) := by
  obtain ⟨b1, b2, b3, b4⟩ := beat_spec h
  exact first_filter b1 b2 (beatsB_iff.mpr b3) fun p hp hb => b4 p hp (beatsB_iff.mp hb)
end Rw
namespace Rw
/-! the root, by the beat -/
theorem beats_sub {l : List Nat} {p q : Nat} (hp : beats l p) (hq : beats l q) (h : p < q) (hn : p + q ≤ l.length) : beats l (q - p) := by
  intro i a b ha hb
  have hi := (List.getElem?_eq_some_iff.mp hb).1
  by_cases g : p ≤ i
  · -- one place back, then on
    have h1 : l[i - p]? = some l[i - p] := List.getElem?_eq_getElem (by omega)
    have e1 := hp (i - p) _ a h1 (by rw [show i - p + p = i from by omega]; exact ha)
    have e2 := hq (i - p) _ b h1 (by rw [show i - p + q = i + (q - p) from by omega]; exact hb)
    rw [← e1, ← e2]
  · have h1 : l[i + q]? = some l[i + q] := List.getElem?_eq_getElem (by omega)
    have e1 := hq i a _ ha h1
    have e2 := hp (i + (q - p)) b _ hb (by rw [show i + (q - p) + p = i + q from by omega]; exact h1)
    rw [e1, e2]
theorem beat_dvd {l : List Nat} (h : 1 ≤ l.length) : ∀ (m q : Nat), q ≤ m → 1 ≤ q → beats l q → beatOf l + q ≤ l.length → beatOf l ∣ q
  | 0, q, hm, h1, _, _ => by omega
  | m + 1, q, hm, h1, hb, hn => by
    obtain ⟨b1, b2, b3, b4⟩ := beat_spec h
    have hle := b4 q h1 hb
    by_cases e : beatOf l = q
    · rw [e]
      exact Nat.dvd_refl q
    · have hs := beats_sub b3 hb (by omega) hn
      have hd := beat_dvd h m (q - beatOf l) (by omega) (by omega) hs (by omega)
      have := Nat.dvd_add hd (Nat.dvd_refl (beatOf l))
      rwa [show q - beatOf l + beatOf l = q from by omega] at this
/-- the first d signs again and again -/
def againB (l : List Nat) (d : Nat) : Bool := decide (l.length % d = 0) && decide ((List.replicate (l.length / d) (l.take d)).flatten = l)
theorem flat_rep_len (n : Nat) (u : List Nat) : (List.replicate n u).flatten.length = n * u.length := by simp
theorem rep_beats {u : List Nat} {m : Nat} (hm : 1 ≤ m) : beats (List.replicate m u).flatten u.length := by
  obtain ⟨k, rfl⟩ : ∃ k, m = k + 1 := ⟨m - 1, by omega⟩
  have hl : (List.replicate (k + 1) u).flatten.length = k * u.length + u.length := by
    rw [flat_rep_len, Nat.succ_mul]
  refine (border_beats (by rw [hl]; omega)).mpr ?_
  unfold isBorder
  rw [hl]
  have e : k * u.length + u.length - (k * u.length + u.length - u.length) = u.length := by omega
  have e2 : k * u.length + u.length - u.length = (List.replicate k u).flatten.length := by rw [flat_rep_len]; omega
  rw [e, e2]
  have t : (List.replicate (k + 1) u).flatten = (List.replicate k u).flatten ++ u := by
    rw [List.replicate_succ', List.flatten_append]
    simp
  have d : (List.replicate (k + 1) u).flatten = u ++ (List.replicate k u).flatten := by
    rw [List.replicate_succ, List.flatten_cons]
  rw (occs := .pos [1]) [t]
  rw [d, List.take_left, List.drop_left]
theorem again_beats {l : List Nat} {d : Nat} (h : 1 ≤ l.length) (hd : 1 ≤ d) (ha : againB l d = true) : beats l d ∧ d ∣ l.length := by
  unfold againB at ha
  rw [Bool.and_eq_true, decide_eq_true_eq, decide_eq_true_eq] at ha
  obtain ⟨h1, h2⟩ := ha
  have hv := Nat.dvd_of_mod_eq_zero h1
  have hle := Nat.le_of_dvd (by omega) hv
  have hlt : (l.take d).length = d := by rw [List.length_take]; omega
  have b := rep_beats (u := l.take d) (m := l.length / d) (Nat.div_pos hle hd)
  rw [h2, hlt] at b
  exact ⟨b, hv⟩
theorem beats_rep : ∀ (m : Nat) (l : List Nat) (d : Nat), 1 ≤ d → l.length = m * d → beats l d → l = (List.replicate m (l.take d)).flatten
  | 0, l, d, _, hl, _ => by
    have : l = [] := List.eq_nil_of_length_eq_zero (by rw [hl]; omega)
    subst this
    rfl
  | m + 1, l, d, hd, hl, hb => by
    have hl' : l.length = m * d + d := by rw [hl, Nat.succ_mul]
    have hb' : beats (l.drop d) d := fun i a b ha hb2 => by
      rw [List.getElem?_drop] at ha hb2
      exact hb (d + i) a b ha (by rw [show d + i + d = d + (i + d) from by omega]; exact hb2)
    have ih := beats_rep m (l.drop d) d hd (by rw [List.length_drop]; omega) hb'
    rw [List.replicate_succ, List.flatten_cons]
    rw (occs := .pos [1]) [← List.take_append_drop d l]
    congr 1
    cases m with
    | zero =>
      have : (l.drop d) = [] := List.eq_nil_of_length_eq_zero (by rw [List.length_drop]; omega)
      rw [this]
      rfl
    | succ m =>
      have et : (l.drop d).take d = l.take d := by
        refine List.ext_getElem? fun i => ?_
        by_cases g : i < d
        · rw [List.getElem?_take_of_lt g, List.getElem?_take_of_lt g, List.getElem?_drop]
          have hm : m * d + d + d = l.length := by rw [hl', Nat.succ_mul]
          have h1 : l[i]? = some l[i] := List.getElem?_eq_getElem (by omega)
          have h2 : l[d + i]? = some l[d + i] := List.getElem?_eq_getElem (by omega)
          rw [h1, h2, hb i _ _ h1 (by rw [Nat.add_comm]; exact h2)]
        · rw [List.getElem?_eq_none (by rw [List.length_take]; omega), List.getElem?_eq_none (by rw [List.length_take]; omega)]
      rw [et] at ih
      exact ih
def rootLen (l : List Nat) : Nat := if 0 < l.length % beatOf l then l.length else beatOf l
theorem rootLen_spec {l : List Nat} (h : 1 ≤ l.length) : 1 ≤ rootLen l ∧ rootLen l ≤ l.length ∧ againB l (rootLen l) = true ∧ ∀ d, 1 ≤ d → againB l d = true → rootLen l ≤ d := by
  obtain ⟨b1, b2, b3, b4⟩ := beat_spec h
  unfold rootLen
  by_cases g : 0 < l.length % beatOf l
  · rw [if_pos g]
    refine ⟨h, Nat.le_refl _, ?_, fun d hd ha => ?_⟩
    · unfold againB
      rw [Nat.mod_self, Nat.div_self h, List.take_length]
      simp
    · obtain ⟨a1, a2⟩ := again_beats h hd ha
      have hle := Nat.le_of_dvd (by omega) a2
      by_cases e : d = l.length
      · omega
      · exfalso
        obtain ⟨m, hm⟩ := a2
        have m2 : 2 ≤ m := by
          rcases m with _ | _ | m
          · omega
          · omega
          · omega
        have : d * 2 ≤ d * m := Nat.mul_le_mul_left d m2
        have hb := b4 d hd a1
        have hd2 := beat_dvd h d d (Nat.le_refl _) hd a1 (by omega)
        have := Nat.mod_eq_zero_of_dvd (Nat.dvd_trans hd2 ⟨m, hm⟩)
        omega
  · rw [if_neg g]
    have g0 : l.length % beatOf l = 0 := by omega
    refine ⟨b1, b2, ?_, fun d hd ha => b4 d hd (again_beats h hd ha).1⟩
    unfold againB
    rw [g0]
    have e := beats_rep (l.length / beatOf l) l (beatOf l) b1 (Nat.div_mul_cancel (Nat.dvd_of_mod_eq_zero g0)).symm b3
    rw [← e]
    simp
theorem first_root {l : List Nat} (h : 1 ≤ l.length) : (((List.range l.length).map (1 + ·)).filter (againB l))[0]? = some (rootLen l) := by
  obtain ⟨b1, b2, b3, b4⟩ := rootLen_spec h
  exact first_filter b1 b2 b3 b4
def rootOf (l : List Nat) : List Nat × Nat := if 0 < l.length % beatOf l then (l, 1) else (l.take (beatOf l), l.length / beatOf l)
theorem rootOf_eq {l : List Nat} (h : 1 ≤ l.length) : rootOf l = (l.take (rootLen l), l.length / rootLen l) := by
  unfold rootOf rootLen
  by_cases g : 0 < l.length % beatOf l
  · rw [if_pos g, if_pos g, List.take_length, Nat.div_self h]
  · rw [if_neg g, if_neg g]
end Rw
namespace Rw
/-! the early word behind an early word, as the program finds it -/
def Sgn (s : List Nat) : Prop := Wd s ∧ s.length ≤ 6 ∧ s.Pairwise (· < ·)
instance (s : List Nat) : Decidable (Sgn s) := by unfold Sgn; exact inferInstance
def Among (l s : List Nat) (n : Nat) : Prop := l.length ≤ n ∧ early l = true ∧ ∀ c ∈ l, c ∈ s
instance (l s : List Nat) (n : Nat) : Decidable (Among l s n) := by unfold Among; exact inferInstance
def fillOf (w : List Nat) (n : Nat) : List Nat := (List.replicate n w).flatten.take n
def stemOf (w s : List Nat) (n : Nat) : List Nat := rstripL (fillOf w n) (s.getLastD 0)
def follow (w s : List Nat) (n : Nat) : Option (List Nat) := match (stemOf w s n).getLast? with
  | none => none
  | some a => some ((stemOf w s n).dropLast ++ [s.getD (s.idxOf a + 1) 0])
theorem rise_last {s : List Nat} (h : s.Pairwise (· < ·)) : ∀ c ∈ s, c ≤ s.getLastD 0 := by
  intro c hc
  have hne : s ≠ [] := List.ne_nil_of_mem hc
  have e := List.dropLast_concat_getLast hne
  have el : s.getLastD 0 = s.getLast hne := by
    rw [List.getLastD_eq_getLast?, List.getLast?_eq_some_getLast hne]
    rfl
  rw [el]
  rw [← e] at hc h
  rcases List.mem_append.mp hc with q | q
  · exact Nat.le_of_lt ((List.pairwise_append.mp h).2.2 c q _ (List.mem_singleton.mpr rfl))
  · exact Nat.le_of_eq (List.mem_singleton.mp q)
theorem rise_next {s : List Nat} (h : s.Pairwise (· < ·)) {a : Nat} (ha : a ∈ s) (hz : a ≠ s.getLastD 0) :
    s.idxOf a + 1 < s.length ∧ s.getD (s.idxOf a + 1) 0 ∈ s ∧ a < s.getD (s.idxOf a + 1) 0 ∧ ∀ c ∈ s, a < c → s.getD (s.idxOf a + 1) 0 ≤ c := by
  have hlt : s.idxOf a < s.length := List.idxOf_lt_length_of_mem ha
  have e : s[s.idxOf a] = a := List.getElem_idxOf hlt
  have mono : ∀ (i j : Nat) (hi : i < s.length) (hj : j < s.length), i < j → s[i] < s[j] := fun i j hi hj hij => List.pairwise_iff_getElem.mp h i j hi hj hij
  have h1 : s.idxOf a + 1 < s.length := by
    by_cases g : s.idxOf a + 1 < s.length
    · exact g
    · exfalso
      have hne : s ≠ [] := List.ne_nil_of_mem ha
      refine hz ?_
      rw [List.getLastD_eq_getLast?, List.getLast?_eq_some_getLast hne, List.getLast_eq_getElem hne]
      show a = s[s.length - 1]
      refine e.symm.trans ?_
      congr 1
      omega
  have eb : s.getD (s.idxOf a + 1) 0 = s[s.idxOf a + 1] := by
    rw [List.getD_eq_getElem?_getD, List.getElem?_eq_getElem h1]
    rfl
  refine ⟨h1, by rw [eb]; exact List.getElem_mem h1, ?_, fun c hc hac => ?_⟩
  · rw [eb]
    have := mono _ _ hlt h1 (Nat.lt_succ_self _)
    rw [e] at this
    exact this
  · rw [eb]
    obtain ⟨j, hj, ec⟩ := List.mem_iff_getElem.mp hc
    by_cases g : s.idxOf a + 1 = j
    · subst g
      exact Nat.le_of_eq ec
    · by_cases g2 : s.idxOf a + 1 < j
      · have := mono _ _ h1 hj g2
        omega
      · exfalso
        by_cases g3 : j = s.idxOf a
        · subst g3
          omega
        · have := mono _ _ hj hlt (by omega)
          omega
theorem fill_spec {w : List Nat} {n : Nat} (hw : w ≠ []) (hn : w.length ≤ n) : (fillOf w n).length = n ∧ PreW w (fillOf w n) ∧ ∀ c ∈ fillOf w n, c ∈ w := by
  have lw : 1 ≤ w.length := by
    cases w with
    | nil => exact absurd rfl hw
    | cons _ _ => exact Nat.le_add_left 1 _
  have lf : (List.replicate n w).flatten.length = n * w.length := by simp
  refine ⟨?_, ⟨n, (List.replicate n w).flatten.drop n, (List.take_append_drop _ _).symm⟩, fun c hc => ?_⟩
  · unfold fillOf
    rw [List.length_take, lf]
    exact Nat.min_eq_left (Nat.le_mul_of_pos_right n lw)
  · obtain ⟨x, hx, hcx⟩ := List.mem_flatten.mp (List.mem_of_mem_take hc)
    rwa [(List.mem_replicate.mp hx).2] at hcx
theorem follow_none {w s : List Nat} {n : Nat} (hs : s.Pairwise (· < ·)) (hw : w ≠ []) (ha : Among w s n) (e : follow w s n = none) : ∀ u, Among u s n → ¬ w < u := by
  intro u hu hlt
  obtain ⟨f1, f2, f3⟩ := fill_spec hw ha.1
  obtain ⟨m, em, _⟩ := rstrip_split (fillOf w n) (s.getLastD 0)
  have e0 : stemOf w s n = [] := by
    unfold follow at e
    cases g : (stemOf w s n).getLast? with
    | none => exact List.getLast?_eq_none_iff.mp g
    | some a => rw [g] at e; cases e
  have e0' : rstripL (fillOf w n) (s.getLastD 0) = [] := e0
  rw [e0', List.nil_append] at em
  have lm := congrArg List.length em
  rw [f1, List.length_replicate] at lm
  rw [em] at f2
  exact next_none hw hu.2.1 hlt f2 (by rw [← lm]; exact hu.1) (by rw [← lm]; exact ha.1) fun c hc => rise_last hs c (hu.2.2 c hc)
theorem follow_some {w s y : List Nat} {n : Nat} (hs : s.Pairwise (· < ·)) (hw : w ≠ []) (ha : Among w s n) (e : follow w s n = some y) :
    y ≠ [] ∧ Among y s n ∧ w < y ∧ ∀ u, Among u s n → w < u → ¬ u < y := by
  obtain ⟨f1, f2, f3⟩ := fill_spec hw ha.1
  obtain ⟨m, em, hl⟩ := rstrip_split (fillOf w n) (s.getLastD 0)
  change fillOf w n = stemOf w s n ++ _ at em
  change ∀ a, (stemOf w s n).getLast? = some a → _ at hl
  unfold follow at e
  cases g : (stemOf w s n).getLast? with
  | none => rw [g] at e; cases e
  | some a =>
    rw [g] at e
    have e := Option.some.inj e
    have hne : stemOf w s n ≠ [] := fun z => by rw [z] at g; cases g
    have est : stemOf w s n = (stemOf w s n).dropLast ++ [a] := by
      have := List.dropLast_concat_getLast hne
      rw [List.getLast?_eq_some_getLast hne] at g
      rw [Option.some.inj g] at this
      exact this.symm
    generalize (stemOf w s n).dropLast = y0 at *
    rw [est] at em
    have has : a ∈ s := ha.2.2 a (f3 a (by rw [em]; simp))
    obtain ⟨r1, r2, r3, r4⟩ := rise_next hs has (hl a g)
    generalize s.getD (s.idxOf a + 1) 0 = b at *
    subst e
    have hp : PreW w (y0 ++ [a]) := PreW.pre (y := List.replicate m (s.getLastD 0)) (by rw [← em]; exact f2)
    have em2 : fillOf w n = y0 ++ a :: List.replicate m (s.getLastD 0) := by rw [em]; simp
    have ln := congrArg List.length em2
    rw [f1, List.length_append, List.length_cons] at ln
    have lenx : (y0 ++ a :: List.replicate m (s.getLastD 0)).length = n := by rw [← em2, f1]
    refine ⟨by simp, ⟨?_, up_early hw ha.2.1 hp r3, ?_⟩, ?_, fun u hu hlt => ?_⟩
    · rw [List.length_append]
      show y0.length + 1 ≤ n
      omega
    · intro c hc
      rcases List.mem_append.mp hc with q | q
      · exact ha.2.2 c (f3 c (by rw [em2]; exact List.mem_append_left _ q))
      · rw [List.mem_singleton.mp q]
        exact r2
    · -- it is behind w
      by_cases l : w.length ≤ y0.length
      · have h0 : PreW w y0 := hp.pre
        obtain ⟨t, et⟩ := (PreW.self w).two h0 l
        rw [et, List.append_assoc]
        exact pre_lt w (by simp)
      · obtain ⟨t, et⟩ := hp.two (PreW.self w) (by rw [List.length_append]; show y0.length + 1 ≤ _; omega)
        refine Sl.lt0 ⟨y0, a, b, t, [], ?_, rfl, r3⟩
        rw [et]
        simp
    · rw [em2] at f2
      exact next_least hw hu.2.1 hlt f2 (by rw [lenx]; exact hu.1) (by rw [lenx]; exact ha.1) (fun c hc => rise_last hs c (hu.2.2 c hc)) fun c hc => r4 c (hu.2.2 c hc)
/-- in a list of all, in order, it is the next one -/
theorem follow_at {s : List Nat} {n : Nat} {due : List (List Nat)} (hs : s.Pairwise (· < ·)) (ho : due.Pairwise fun x y => ¬ y < x) (hn : due.Nodup) (hm : ∀ u, u ∈ due ↔ u ≠ [] ∧ Among u s n) {k : Nat} {w : List Nat} (hk : due[k]? = some w) : due[k + 1]? = follow w s n := by
  have mono : ∀ (i j : Nat) (x y : List Nat), due[i]? = some x → due[j]? = some y → i < j → x < y := fun i j x y hx hy hij => by
    obtain ⟨hi, ex⟩ := List.getElem?_eq_some_iff.mp hx
    obtain ⟨hj, ey⟩ := List.getElem?_eq_some_iff.mp hy
    have h1 := List.pairwise_iff_getElem.mp ho i j hi hj hij
    have h2 := List.pairwise_iff_getElem.mp hn i j hi hj hij
    rw [ex, ey] at h1 h2
    rcases tri x y with q | q | q
    · exact q
    · exact absurd q h2
    · exact absurd q h1
  obtain ⟨w1, w2⟩ := (hm w).mp (List.mem_of_getElem? hk)
  cases e : follow w s n with
  | none =>
    cases g : due[k + 1]? with
    | none => rfl
    | some u =>
      exact absurd (mono _ _ _ _ hk g (Nat.lt_succ_self _)) (follow_none hs w1 w2 e u ((hm u).mp (List.mem_of_getElem? g)).2)
  | some y =>
    obtain ⟨y1, y2, y3, y4⟩ := follow_some hs w1 w2 e
    obtain ⟨j, hj, ej⟩ := List.mem_iff_getElem.mp ((hm y).mpr ⟨y1, y2⟩)
    have ej : due[j]? = some y := by rw [List.getElem?_eq_getElem hj, ej]
    have hkj : k < j := by
      rcases Nat.lt_trichotomy k j with q | q | q
      · exact q
      · subst q
        rw [hk] at ej
        have := Option.some.inj ej
        rw [this] at y3
        exact (lt_irr y3).elim
      · exact (lt_asym y3 (mono _ _ _ _ ej hk q)).elim
    by_cases g : k + 1 = j
    · rw [g, ej]
    · exfalso
      have h1 : k + 1 < due.length := by omega
      have e1 : due[k + 1]? = some due[k + 1] := List.getElem?_eq_getElem h1
      exact y4 _ ((hm _).mp (List.getElem_mem h1)).2 (mono _ _ _ _ hk e1 (Nat.lt_succ_self _)) (mono _ _ _ _ e1 ej (by omega))
/-! all words of some signs -/
def longer (ls : List (List Nat)) (s : List Nat) : List (List Nat) := ls.flatMap fun w => s.map fun c => w ++ [c]
def wordsL (s : List Nat) : Nat → List (List Nat)
  | 0 => [[]]
  | n + 1 => longer (wordsL s n) s
def allE (s : List Nat) (n : Nat) : List (List Nat) := (List.range n).flatMap fun i => (wordsL s (i + 1)).filter early
theorem mem_wordsL {s : List Nat} : ∀ {n : Nat} {u : List Nat}, u ∈ wordsL s n ↔ u.length = n ∧ ∀ c ∈ u, c ∈ s
  | 0, u => by
    unfold wordsL
    rw [List.mem_singleton]
    constructor
    · rintro rfl
      exact ⟨rfl, fun c h => (List.not_mem_nil h).elim⟩
    · exact fun h => List.eq_nil_of_length_eq_zero h.1
  | n + 1, u => by
    unfold wordsL longer
    rw [List.mem_flatMap]
    constructor
    · rintro ⟨w, hw, hu⟩
      obtain ⟨c, hc, rfl⟩ := List.mem_map.mp hu
      obtain ⟨h1, h2⟩ := mem_wordsL.mp hw
      refine ⟨by rw [List.length_append, h1]; rfl, fun d hd => ?_⟩
      rcases List.mem_append.mp hd with q | q
      · exact h2 d q
      · rw [List.mem_singleton.mp q]
        exact hc
    · rintro ⟨h1, h2⟩
      have hne : u ≠ [] := fun z => by rw [z] at h1; cases h1
      have e := List.dropLast_concat_getLast hne
      refine ⟨u.dropLast, mem_wordsL.mpr ⟨by rw [List.length_dropLast]; omega, fun c hc => h2 c (by rw [← e]; exact List.mem_append_left _ hc)⟩, List.mem_map.mpr ⟨u.getLast hne, h2 _ (List.getLast_mem hne), e⟩⟩
theorem len_longer (ls : List (List Nat)) (s : List Nat) : (longer ls s).length = ls.length * s.length := by
  unfold longer
  induction ls with
  | nil => simp
  | cons w r ih =>
    rw [List.flatMap_cons, List.length_append, ih, List.length_map, List.length_cons, Nat.succ_mul, Nat.add_comm]
theorem len_wordsL (s : List Nat) : ∀ n, (wordsL s n).length = s.length ^ n
  | 0 => rfl
  | n + 1 => by
    show (longer (wordsL s n) s).length = _
    rw [len_longer, len_wordsL s n, Nat.pow_succ]
theorem nodup_wordsL {s : List Nat} (h : s.Nodup) : ∀ n, (wordsL s n).Nodup
  | 0 => by
    unfold wordsL
    exact List.pairwise_singleton _ _
  | n + 1 => by
    show (longer (wordsL s n) s).Nodup
    unfold longer
    refine List.pairwise_flatMap.mpr ⟨fun w _ => List.pairwise_map.mpr (h.imp fun hab z => hab ?_), (nodup_wordsL h n).imp fun hab x hx y hy z => hab ?_⟩
    · exact (List.cons.inj (List.append_cancel_left z)).1
    · obtain ⟨c, _, rfl⟩ := List.mem_map.mp hx
      obtain ⟨d, _, rfl⟩ := List.mem_map.mp hy
      exact (List.append_inj' z rfl).1
theorem mem_allE {s : List Nat} {n : Nat} {u : List Nat} : u ∈ allE s n ↔ u ≠ [] ∧ Among u s n := by
  unfold allE
  rw [List.mem_flatMap]
  constructor
  · rintro ⟨i, hi, hu⟩
    obtain ⟨h1, h2⟩ := List.mem_filter.mp hu
    obtain ⟨h3, h4⟩ := mem_wordsL.mp h1
    have := List.mem_range.mp hi
    refine ⟨(fun z => by rw [z] at h3; cases h3), by omega, h2, h4⟩
  · rintro ⟨h0, h1, h2, h3⟩
    have : 1 ≤ u.length := by
      cases u with
      | nil => exact absurd rfl h0
      | cons _ _ => exact Nat.le_add_left 1 _
    exact ⟨u.length - 1, List.mem_range.mpr (by omega), List.mem_filter.mpr ⟨mem_wordsL.mpr ⟨by omega, h3⟩, h2⟩⟩
theorem nodup_allE {s : List Nat} (h : s.Nodup) (n : Nat) : (allE s n).Nodup := by
  unfold allE
  refine List.pairwise_flatMap.mpr ⟨fun i _ => (nodup_wordsL h (i + 1)).filter _, List.nodup_range.imp fun hab x hx y hy z => hab ?_⟩
  have h1 := (mem_wordsL.mp (List.mem_filter.mp hx).1).1
  have h2 := (mem_wordsL.mp (List.mem_filter.mp hy).1).1
  rw [z] at h1
  omega
theorem rise_nodup {s : List Nat} (h : s.Pairwise (· < ·)) : s.Nodup := h.imp fun hab z => by omega
theorem len_allE (s : List Nat) (n : Nat) (h : 1 ≤ s.length) : (allE s n).length ≤ n * s.length ^ n := by
  have key : ∀ k, k ≤ n → ((List.range k).flatMap fun i => (wordsL s (i + 1)).filter early).length ≤ k * s.length ^ n := by
    intro k
    induction k with
    | zero => intro _; simp
    | succ k ih =>
      intro hk
      rw [List.range_succ, List.flatMap_append, List.length_append, Nat.succ_mul]
      have h1 := ih (by omega)
      have h2 : ([k].flatMap fun i => (wordsL s (i + 1)).filter early).length ≤ s.length ^ n := by
        rw [List.flatMap_singleton]
        refine Nat.le_trans (List.length_filter_le _ _) ?_
        rw [len_wordsL]
        exact Nat.pow_le_pow_right h (by omega)
      omega
  exact key n (Nat.le_refl n)
end Rw
namespace Rw
/-! the root of what is least of its turnings -/
theorem again_of {l : List Nat} {d : Nat} (h : 1 ≤ l.length) (hd : 1 ≤ d) (ha : againB l d = true) : again l d := by
  unfold againB at ha
  rw [Bool.and_eq_true, decide_eq_true_eq, decide_eq_true_eq] at ha
  exact ⟨hd, Nat.le_of_dvd (by omega) (Nat.dvd_of_mod_eq_zero ha.1), _, ha.2⟩
theorem of_again {l : List Nat} {d : Nat} (ha : again l d) : againB l d = true := by
  obtain ⟨h1, h2, n, e⟩ := ha
  have hl : (l.take d).length = d := by rw [List.length_take]; omega
  have en := congrArg List.length e
  rw [flat_rep_len, hl] at en
  unfold againB
  rw [← en, Nat.mul_mod_left, Nat.mul_div_left n h1, e]
  simp
theorem least_root {m : List Nat} (h : 1 ≤ m.length) (hl : ∀ k, k < m.length → ¬ turn m k < m) :
    early (m.take (rootLen m)) = true ∧ m.take (rootLen m) ≠ [] ∧ (List.replicate (m.length / rootLen m) (m.take (rootLen m))).flatten = m ∧ piecesOf m = List.replicate (m.length / rootLen m) (m.take (rootLen m)) := by
  obtain ⟨u, n, h1, h2, h3, h4, h5⟩ := least_pieces h hl
  have lu := len_pos h2
  obtain ⟨r1, r2, r3, r4⟩ := rootLen_spec h
  obtain ⟨a1, _⟩ := again_early (d := rootLen m) h1 h2 h3
  have a2 := (again_early (d := rootLen m) h1 h2 h3).2
  rw [h5] at a1 a2
  have e : rootLen m = u.length := Nat.le_antisymm (r4 _ lu (of_again a1)) (a2 (again_of h r1 r3))
  have et : m.take u.length = u := by
    obtain ⟨k, rfl⟩ : ∃ k, n = k + 1 := ⟨n - 1, by omega⟩
    rw [← h5, List.replicate_succ, List.flatten_cons, List.take_left]
  have en : m.length / u.length = n := by
    rw [← h5, flat_rep_len]
    exact Nat.mul_div_left n lu
  rw [e, et, en]
  exact ⟨h1, h2, h5, h4⟩
theorem fill12 {u : List Nat} {n : Nat} (hu : u ≠ []) (hn : n ≤ 12) : (List.replicate 12 u).flatten.take n = fillOf u n := by
  have lu := len_pos hu
  have e : (List.replicate 12 u).flatten = (List.replicate n u).flatten ++ (List.replicate (12 - n) u).flatten := by
    rw [← rep_app]
    congr 2
    omega
  unfold fillOf
  rw [e, List.take_append_of_le_length]
  rw [flat_rep_len]
  exact Nat.le_mul_of_pos_right n lu
end Rw
namespace Rw
open PySem PySem.Spec PyProof.Rows L2
theorem filt_step (f : Nat → Bool) (i : Nat) : ((List.range (i + 1)).map (1 + ·)).filter f = ((List.range i).map (1 + ·)).filter f ++ (if f (1 + i) = true then [1 + i] else []) := by
  rw [List.range_succ, List.map_append, List.filter_append]
  congr 1
  cases g : f (1 + i) <;> simp [g]
theorem filt_step0 (f : Nat → Bool) (i : Nat) : (List.range (i + 1)).filter f = (List.range i).filter f ++ (if f i = true then [i] else []) := by
  rw [List.range_succ, List.filter_append]
  congr 1
  cases g : f i <;> simp [g]
/-! text.endswith, max(numbers, default=0), True in truths -/
theorem ends_T (a b : List Nat) (h : b.length ≤ a.length) : Txt.endswith (T a) (T b) = decide (b = a.drop (a.length - b.length)) := by
  unfold Txt.endswith
  rw [T_len, T_len]
  have h1 : decide (0 + b.length ≤ a.length) = true := decide_eq_true (by omega)
  rw [h1, Bool.true_and]
  unfold Builtin.Str.subAt
  rw [T_len]
  rw [Bool.eq_iff_iff, beq_iff_eq, decide_eq_true_eq]
  show (a.toArray.extract _ _ = b.toArray) ↔ _
  rw [List.extract_toArray]
  have e : (a.drop (a.length - b.length)).take b.length = a.drop (a.length - b.length) := List.take_of_length_le (by rw [List.length_drop]; omega)
  have e2 : a.length - b.length + b.length - (a.length - b.length) = b.length := by omega
  have e3 : a.extract (a.length - b.length) (a.length - b.length + b.length) = a.drop (a.length - b.length) := by
    rw [List.extract_eq_drop_take, e2, e]
  rw [e3]
  constructor
  · intro z
    have : a.drop (a.length - b.length) = b := by simpa using z
    exact this.symm
  · intro z
    rw [← z]
def rEndsT : V → List V → Hp → VK → Prop := fun x xs H Q => ∃ a b : List Nat, x = tv a ∧ xs = [tv b] ∧ b.length ≤ a.length ∧ Q (.bl (decide (b = a.drop (a.length - b.length)))) H
section
variable {X : Cx}
theorem mt_endsT : MtR X "str.endswith" rEndsT := fun pins s σ H x xs v us Q I rx rxs ⟨a, b, e1, e2, h, q⟩ =>
  mt_endswith pins s σ H x xs v us Q I rx rxs ⟨T a, T b, e1, e2, by rw [ends_T a b h]; exact q⟩
def rMaxD (K : PySem.W.Frag) : List V → List V → Hp → VK → Prop := fun xs zs H Q => ∃ (a : Addr) (ns : List Nat), xs = [.ref a] ∧ zs = [.int 0] ∧ SqL K H a (ivs ns) ∧ Q (.int ((ns.foldl max 0 : Nat) : Int)) H
theorem reads_ints {h : Heap} : ∀ {us : List Value} {ns : List Nat}, Vals (ivs ns) us → ReadsAll h us (ns.map fun n => PyData.int (n : Nat)) []
  | us, [], r => by
    cases r
    exact .nil
  | us, n :: ns, r => by
    cases r with
    | cons r1 r2 =>
      obtain ⟨t, rfl⟩ := r1
      exact ReadsAll.cons (as := []) (.int _ t) (reads_ints r2)
theorem fold_max_cast : ∀ (ns : List Nat) (n : Nat), (ns.map fun k => ((k : Nat) : Int)).foldl max (n : Int) = ((ns.foldl max n : Nat) : Int)
  | [], n => rfl
  | k :: r, n => by
    rw [List.map_cons, List.foldl_cons, List.foldl_cons, ← fold_max_cast r (max n k)]
    congr 1
    omega
theorem cr_maxD (hc : X.calm = true) (hu : X.A.units + 64 < cLine) : CallRK X (.builtin "max") [("default" : Str)] (rMaxD X.K) := by
  intro pins s σ H xs zs us ws Q I r rz h
  obtain ⟨a, ns, rfl, rfl, hs, q⟩ := h
  obtain ⟨its, rv, hl, _⟩ := I.list hs
  rw [Vals.ref1 r]
  obtain ⟨u, rfl, ru⟩ := rz.one
  obtain ⟨t, rfl⟩ := ru
  have hd : ∀ l : List Nat, PyData.depthAll (l.map fun n => PyData.int (n : Nat)) ≤ 1 := depth_ivs
  have ha : PySem.W.AlikeAll (ns.map fun n => PyData.int (n : Nat)) := by
    refine ⟨fun p hp q hq => ?_, fun p hp e => ?_⟩
    · obtain ⟨y, _, rfl⟩ := List.mem_map.mp hp
      obtain ⟨z, _, rfl⟩ := List.mem_map.mp hq
      rfl
    · obtain ⟨y, _, rfl⟩ := List.mem_map.mp hp
      cases e
  refine PySem.W.max_list_default (xs := ns.map fun n => PyData.int (n : Nat)) (I.ok.hd hc) hl.isList (by simpa using reads_ints (h := s.heap) rv) ha (by have := hd ns; omega) (fun e h' tk hk => ?_) (fun y ys i v h' tk bs e hv hr hk => ?_)
  · have en : ns = [] := by simpa using e
    subst en
    exact ⟨.int 0, H, I.kept hk, ⟨_, rfl⟩, q⟩
  · cases ns with
    | nil => simp at e
    | cons n r =>
      rw [List.map_cons] at e
      obtain ⟨e1, e2⟩ := List.cons.inj e
      subst e1 e2
      have e3 : (r.map fun n => PyData.int (n : Nat)) = (r.map fun n => ((n : Nat) : Int)).map .int := by rw [List.map_map]; rfl
      rw [e3, PySem.W.maxD_ints, fold_max_cast] at hr
      obtain ⟨t, rfl⟩ : ∃ t, v = Value.int ((r.foldl max n : Nat) : Int) t := by
        cases hr with
        | int z t => exact ⟨t, rfl⟩
      have e4 : (n :: r).foldl max 0 = r.foldl max n := by
        rw [List.foldl_cons, Nat.zero_max]
      rw [e4] at q
      exact ⟨.int _, H, I.kept hk, ⟨_, rfl⟩, q⟩
def rInB (K : PySem.W.Frag) : R2 := fun x y H Q => ∃ (p : Addr) (bs : List Bool), x = .bl true ∧ y = .ref p ∧ SqL K H p (bs.map V.bl) ∧ Q (.bl (decide (true ∈ bs))) H
theorem op_inB : OpR X (compareOp .In) (rInB X.K) := fun pins s σ H x y v u Q I rx ry ⟨p, bs, e1, e2, hs, q⟩ => by
  have e : ∀ bs : List Bool, inV (.bl true) (bs.map V.bl) = decide (true ∈ bs) := by
    intro bs
    induction bs with
    | nil => rfl
    | cons b r ih =>
      have e1 : inV (.bl true) ((b :: r).map V.bl) = ((b == true) || inV (.bl true) (r.map V.bl)) := rfl
      rw [e1, ih]
      cases b <;> simp
  exact op_in_seq pins s σ H x y v u Q I rx ry ⟨p, bs.map V.bl, e2, .inl hs, by rw [e1]; rfl, by rw [List.all_map]; exact List.all_eq_true.mpr fun _ _ => rfl, by rw [e1, e bs]; exact q⟩
end
end Rw
namespace Rw
open PySem PySem.Spec PyProof.Rows L2
def spBorders (K : PySem.W.Frag) (C : Addr) : Sp := spW K C 0 fun l _ H Q _ => ∀ p H', H p = none → Same H H' → H' p = some (.lst (ivs (bordersOf l))) → Q (.ref p) H'
def spBeat (K : PySem.W.Frag) (C : Addr) : Sp := spW K C 0 fun l _ H Q _ => ∀ H', Same H H' → Q (.int (beatOf l : Nat)) H'
end Rw
namespace Rk
open PySem PySem.Spec PyProof.Rows L2 Rw
abbrev s_borders : Stmt := topS 16
abbrev n_borders : List Str := ["word", "long"]
abbrev p_borders : List Str := ["word"]
theorem sc_borders : FnScope n_borders p_borders (defScope s_borders) := ⟨rfl, rfl, rfl, by decide +kernel, rfl, by decide +kernel, by decide +kernel⟩
abbrev s_beat : Stmt := topS 17
abbrev n_beat : List Str := ["word", "lengths", "longest"]
abbrev p_beat : List Str := ["word"]
theorem sc_beat : FnScope n_beat p_beat (defScope s_beat) := ⟨rfl, rfl, rfl, by decide +kernel, rfl, by decide +kernel, by decide +kernel⟩
section
variable {P : Program} {w : World} {K : PySem.W.Frag} {mg : Str → Option Value} {base : Heap} {cN : Addr} (B : Bt mg)
include B
theorem ok_borders (D : Dfn K mg "borders" s_borders p_borders) (c_need_word : Cal (L2.CX P w) P w K mg base 2 "need_word" (spNeed K cN)) : Cal (L2.CX P w) P w K mg base 3 "borders" (spBorders K cN) := by
  refine D.cal fun f fd F => F.okX sc_borders (fun vs H Q E h => ?_) (fun cdv A outer s H vs Q E hr h => ?_)
  · obtain ⟨v, b, rest, rfl, hr, _⟩ := h
    cases List.eq_nil_of_length_eq_zero hr
    rfl
  · obtain ⟨v, b, rest, rfl, hrest, hv, hno, hyes⟩ := h
    cases List.eq_nil_of_length_eq_zero hrest
    refine ⟨_, (pss_cons (ps_expr (pe_cal c_need_word hr (by decide) (passes_call (takes_of rfl rfl rfl rfl) fun _ _ _ _ h => h) (pa_cons (pv 0) pa_nil)))
      (pss_one (ps_ret (pe_lc (own := [("long", 1)]) rfl sc_borders.nd (pi_range2 (by rfl) B.m_range (pa_cons pe_int (pa_cons (pe_callB call_lenT (by rfl) B.m_len PySem.boot_len (pa_cons (pv 0) pa_nil)) pa_nil))) (blkOk_by (own := [("long", 1)]) (N := n_borders) (sc := defScope s_borders) (by decide +kernel)) (fun _ _ _ _ _ => (pg_name (i := 1) sc_borders.nd rfl (Or.inl rfl))) (fun _ _ _ _ _ => (pts_one (pt_val (pe_m1 PySem.F.slot_str_endswith PySem.F.type_str_endswith mt_endsT (pv 0) (pe_slice sl_T (pv 0) po_none (po_some (pv 1))))))) (fun _ _ _ _ _ => (pv 1)))))), ?_⟩
    refine ⟨v, rfl, v, b, [], rfl, rfl, hv, hno, fun l hb ev hl H1 e1 => ?_⟩
    subst hb ev
    have q := hyes l rfl rfl hl
    have hn := hl.2.1
    have h1 := hl.1
    refine ⟨_, rfl, l, rfl, hl.sz, 1, ((l.length : Nat) : Int), rfl, ⟨by decide, by decide, by omega, by omega⟩, fun Dl hD => ?_⟩
    have ez : (((l.length : Nat) : Int) - 1).toNat = l.length - 1 := by omega
    rw [ez]
    refine lc_it walk_range (LcP H1 Dl fun i acc => acc = ivs (((List.range i).map (1 + ·)).filter fun k => decide (isBorder l k))) (lcp_start hD rfl) (fun _ _ _ _ => trivial) ?_ ?_
    · rintro i x H2 H2' hi ⟨_, acc, e, hD2, hlen, rfl⟩ ⟨rfl, rfl⟩
      have hi : i < l.length - 1 := hi
      refine ⟨rfl, ?_⟩
      have ec : cutL l none (some ((1 : Int) + (i : Int))) = l.take (1 + i) := by
        rw [show (1 : Int) + (i : Int) = ((1 + i : Nat) : Int) from by omega, cutL_to]
      have el : (l.take (1 + i)).length = 1 + i := by rw [List.length_take]; omega
      refine ⟨_, rfl, ⟨_, rfl⟩, _, rfl, _, rfl, _, rfl, l, rfl, hl.sz, l, l.take (1 + i), rfl, by rw [ec], by rw [el]; omega, _, rfl, ?_⟩
      rw [el]
      have st := filt_step (fun k => decide (isBorder l k)) i
      cases g : decide (l.take (1 + i) = l.drop (l.length - (1 + i))) with
      | true =>
        have g' : decide (isBorder l (1 + i)) = true := g
        refine iteT ?_
        refine ⟨_, rfl, ?_⟩
        refine lcp_put hD e hD2 hlen (by omega) (Same.refl _) ?_
        rw [st, g', if_pos rfl, ivs_app]
        show _ = _ ++ [V.int ((1 + i : Nat) : Int)]
        rw [show ((1 + i : Nat) : Int) = (1 : Int) + (i : Int) from by omega]
      | false =>
        have g' : decide (isBorder l (1 + i)) = false := g
        refine iteF ?_
        refine lcp_skip hD e hD2 hlen (Same.refl _) ?_
        rw [st, g', if_neg (by decide), List.append_nil]
    · rintro H2 ⟨_, acc, e, hD2, _, rfl⟩
      exact q Dl H2 (e1.free hD) (e1.trans e) hD2
theorem ok_beat (D : Dfn K mg "beat" s_beat p_beat) (c_borders : Cal (L2.CX P w) P w K mg base 3 "borders" (spBorders K cN)) : Cal (L2.CX P w) P w K mg base 4 "beat" (spBeat K cN) := by
  refine D.cal fun f fd F => F.okX sc_beat (fun vs H Q E h => ?_) (fun cdv A outer s H vs Q E hr h => ?_)
  · obtain ⟨v, b, rest, rfl, hr, _⟩ := h
    cases List.eq_nil_of_length_eq_zero hr
    rfl
  · obtain ⟨v, b, rest, rfl, hrest, hv, hno, hyes⟩ := h
    cases List.eq_nil_of_length_eq_zero hrest
    refine ⟨_, (pss_cons (ps_set (i := 1) sc_beat.nd rfl (Or.inl rfl) (pe_cal c_borders hr (by decide) (passes_call (takes_of rfl rfl rfl rfl) fun _ _ _ _ h => h) (pa_cons (pv 0) pa_nil)))
      (pss_cons (ps_set (i := 2) sc_beat.nd rfl (Or.inl rfl) (pe_callBK (cr_maxD rfl hr.units) (by rfl) B.m_max (by decide +kernel) (pa_cons (pv 1) pa_nil) (pk_cons pe_int pk_nil)))
      (pss_one (ps_ret (pe_op op_sub (pe_callB call_lenT (by rfl) B.m_len PySem.boot_len (pa_cons (pv 0) pa_nil)) (pv 2)))))), ?_⟩
    refine ⟨v, rfl, v, b, [], rfl, rfl, hv, hno, fun l hb ev hl p H1 np e1 hp => ?_⟩
    subst hb ev
    have q := hyes l rfl rfl hl
    refine ⟨_, rfl, p, bordersOf l, rfl, rfl, SqL.of hp, ?_⟩
    refine ⟨_, rfl, l, rfl, hl.sz, _, rfl, _, _, rfl, rfl, ?_⟩
    obtain ⟨b1, b2, _⟩ := beat_spec hl.1
    have e : ((l.length : Nat) : Int) - (((bordersOf l).foldl max 0 : Nat) : Int) = ((beatOf l : Nat) : Int) := by
      unfold beatOf at b1 ⊢
      omega
    show Q (.int (_ - _)) H1
    rw [e]
    exact q H1 e1
end
end Rk
namespace Rw
open PySem PySem.Spec PyProof.Rows L2
def spRoot (K : PySem.W.Frag) (C : Addr) : Sp := spW K C 0 fun l _ H Q _ => ∀ p H', H p = none → Same H H' → H' p = some (.tup [tv (rootOf l).1, .int ((rootOf l).2 : Nat)]) → Q (.ref p) H'
end Rw
namespace Rk
open PySem PySem.Spec PyProof.Rows L2 Rw
abbrev s_root : Stmt := topS 18
abbrev n_root : List Str := ["word", "long"]
abbrev p_root : List Str := ["word"]
theorem sc_root : FnScope n_root p_root (defScope s_root) := ⟨rfl, rfl, rfl, by decide +kernel, rfl, by decide +kernel, by decide +kernel⟩
section
variable {P : Program} {w : World} {K : PySem.W.Frag} {mg : Str → Option Value} {base : Heap} {cN : Addr} (B : Bt mg)
include B
theorem ok_root (D : Dfn K mg "root" s_root p_root) (c_beat : Cal (L2.CX P w) P w K mg base 4 "beat" (spBeat K cN)) : Cal (L2.CX P w) P w K mg base 5 "root" (spRoot K cN) := by
  refine D.cal fun f fd F => F.okX sc_root (fun vs H Q E h => ?_) (fun cdv A outer s H vs Q E hr h => ?_)
  · obtain ⟨v, b, rest, rfl, hr, _⟩ := h
    cases List.eq_nil_of_length_eq_zero hr
    rfl
  · obtain ⟨v, b, rest, rfl, hrest, hv, hno, hyes⟩ := h
    cases List.eq_nil_of_length_eq_zero hrest
    refine ⟨_, (pss_cons (ps_set (i := 1) sc_root.nd rfl (Or.inl rfl) (pe_cal c_beat hr (by decide) (passes_call (takes_of rfl rfl rfl rfl) fun _ _ _ _ h => h) (pa_cons (pv 0) pa_nil)))
      (pss_cons (ps_if (pt_cmpR op_gt (pe_op op_mod (pe_callB call_lenT (by rfl) B.m_len PySem.boot_len (pa_cons (pv 0) pa_nil)) (pv 1)) pe_int (nomark _)) (pss_one (ps_ret (pe_tup (pa_cons (pv 0) (pa_cons pe_int pa_nil))))) pss_nil)
      (pss_one (ps_ret (pe_tup (pa_cons (pe_slice sl_T (pv 0) po_none (po_some (pv 1))) (pa_cons (pe_op op_fdiv (pe_callB call_lenT (by rfl) B.m_len PySem.boot_len (pa_cons (pv 0) pa_nil)) (pv 1)) pa_nil))))))), ?_⟩
    refine ⟨v, rfl, v, b, [], rfl, rfl, hv, hno, fun l hb ev hl H1 e1 => ?_⟩
    subst hb ev
    have q : ∀ p H', H p = none → Same H H' → H' p = some (.tup [tv (rootOf l).1, .int ((rootOf l).2 : Nat)]) → Q (.ref p) H' := hyes l rfl rfl hl
    have hn := hl.2.1
    obtain ⟨b1, b2, _⟩ := beat_spec hl.1
    refine ⟨_, rfl, l, rfl, hl.sz, _, rfl, _, _, rfl, rfl, (show (0 : Int) < ((beatOf l : Nat) : Int) by omega), _, _, rfl, rfl, _, rfl, ite2 (fun h => ?_) (fun h => ?_)⟩
    · have h := of_decide_eq_true h
      have g : 0 < l.length % beatOf l := by
        have h : ((l.length : Nat) : Int) % ((beatOf l : Nat) : Int) > 0 := h
        omega
      have e : rootOf l = (l, 1) := by
        unfold rootOf
        rw [if_pos g]
      rw [e] at q
      exact ⟨_, rfl, (show 2 ≤ sizeLine by decide), fun p np => q p _ (e1.free np) (e1.trans (same_upd np)) upd_same⟩
    · have h : ¬ ((l.length : Nat) : Int) % ((beatOf l : Nat) : Int) > 0 := of_decide_eq_false (by simpa using h)
      have g : ¬ 0 < l.length % beatOf l := by omega
      have e : rootOf l = (l.take (beatOf l), l.length / beatOf l) := by
        unfold rootOf
        rw [if_neg g]
      rw [e] at q
      refine ⟨_, rfl, _, rfl, _, rfl, l, rfl, hl.sz, _, rfl, l, rfl, hl.sz, _, rfl, _, _, rfl, rfl, ⟨by omega, by omega⟩, (show 2 ≤ sizeLine by decide), fun p np => ?_⟩
      refine q p _ (e1.free np) (e1.trans (same_upd np)) ?_
      rw [upd_same, cutL_to]
      rfl
end
end Rk
namespace Rw
open PySem PySem.Spec PyProof.Rows L2
/-! sum of numbers, text.strip(signs) of nothing but these -/
def rSumN (K : PySem.W.Frag) : List V → Hp → VK → Prop := fun vs H Q => ∃ (a : Addr) (ns : List Nat), vs = [.ref a] ∧ SqL K H a (ivs ns) ∧ Q (.int (ns.sum : Nat)) H
theorem sum_cast : ∀ ns : List Nat, (ns.map fun n => ((n : Nat) : Int)).sum = ((ns.sum : Nat) : Int)
  | [] => rfl
  | n :: r => by
    rw [List.map_cons, List.sum_cons, List.sum_cons, sum_cast r, Int.natCast_add]
section
variable {X : Cx}
theorem cr_sumN (hc : X.calm = true) : CallR X (.builtin "sum") (rSumN X.K) := fun pins s σ H vs us Q I r ⟨a, ns, e, hs, q⟩ =>
  cr_sum hc pins s σ H vs us Q I r ⟨a, ns.map fun n => ((n : Nat) : Int), e, by rw [List.map_map]; exact hs, by rw [sum_cast]; exact q⟩
theorem cr_sumNK {K : PySem.W.Frag} (hK : X.K = K) (hc : X.calm = true) : CallR X (.builtin "sum") (rSumN K) := hK ▸ cr_sumN hc
theorem tw_all {p : Nat → Bool} : ∀ {l : List Nat}, (∀ c ∈ l, p c = true) → l.takeWhile p = l
  | [], _ => rfl
  | c :: r, h => by
    rw [List.takeWhile_cons_of_pos (h c List.mem_cons_self), tw_all fun d hd => h d (List.mem_cons_of_mem _ hd)]
theorem strip_T {l cs : List Nat} (h : ∀ c ∈ l, c ∈ cs) : Txt.stripChars (T l) (T cs) = T [] := by
  unfold Txt.stripChars
  rw [PyProof.Rows.stripBy_eq, PyProof.Rows.strSub_mk]
  unfold stripLo
  rw [if_pos rfl, T_cps]
  have e : l.takeWhile (T cs).cps.contains = l := tw_all fun c hc => by
    have : c ∈ cs := h c hc
    simp [T, this]
  rw [e, List.drop_length, List.take_nil]
  rfl
def rStripT : V → List V → Hp → VK → Prop := fun x xs H Q => ∃ l cs : List Nat, x = tv l ∧ xs = [tv cs] ∧ l.length ≤ 100000 ∧ (∀ c ∈ l, c ∈ cs) ∧ Q (tv []) H
theorem mt_stripT : MtR X "str.strip" rStripT := fun pins s σ H x xs v us Q I rx rxs ⟨l, cs, e1, e2, hz, hm, q⟩ =>
  mt_stripChars pins s σ H x xs v us Q I rx rxs ⟨T l, T cs, e1, e2, by rw [T_len]; exact big hz, by rw [strip_T hm]; exact q⟩
end
end Rw
namespace Rk
open PySem PySem.Spec PyProof.Rows L2 Rw
abbrev s_least_turn : Stmt := topS 12
abbrev n_least_turn : List Str := ["word", "rows"]
abbrev p_least_turn : List Str := ["word"]
theorem sc_least_turn : FnScope n_least_turn p_least_turn (defScope s_least_turn) := ⟨rfl, rfl, rfl, by decide +kernel, rfl, by decide +kernel, by decide +kernel⟩
abbrev s_least_form : Stmt := topS 13
abbrev n_least_form : List Str := ["word"]
abbrev p_least_form : List Str := ["word"]
theorem sc_least_form : FnScope n_least_form p_least_form (defScope s_least_form) := ⟨rfl, rfl, rfl, by decide +kernel, rfl, by decide +kernel, by decide +kernel⟩
section
variable {P : Program} {w : World} {K : PySem.W.Frag} {mg : Str → Option Value} {base : Heap} {cN : Addr} (B : Bt mg)
include B
theorem ok_least_turn (D : Dfn K mg "least_turn" s_least_turn p_least_turn) (c_turnings : Cal (L2.CX P w) P w K mg base 3 "turnings" (spTurnings K cN)) : Cal (L2.CX P w) P w K mg base 4 "least_turn" (spLeastTurn K cN) := by
  refine D.cal fun f fd F => F.okX sc_least_turn (fun vs H Q E h => ?_) (fun cdv A outer s H vs Q E hr h => ?_)
  · obtain ⟨v, b, rest, rfl, hr, _⟩ := h
    cases List.eq_nil_of_length_eq_zero hr
    rfl
  · obtain ⟨v, b, rest, rfl, hrest, hv, hno, hyes⟩ := h
    cases List.eq_nil_of_length_eq_zero hrest
    refine ⟨_, (pss_cons (ps_set (i := 1) sc_least_turn.nd rfl (Or.inl rfl) (pe_cal c_turnings hr (by decide) (passes_call (takes_of rfl rfl rfl rfl) fun _ _ _ _ h => h) (pa_cons (pv 0) pa_nil)))
      (pss_one (ps_ret (pe_bm PySem.F.plainAttrs_list PySem.F.slot_list_index PySem.F.type_list_index mt_indexT (pv 1) (pa_cons (pe_callB (cr_minL rfl hr.units) (by rfl) B.m_min (by decide +kernel) (pa_cons (pv 1) pa_nil)) pa_nil))))), ?_⟩
    refine ⟨v, rfl, v, b, [], rfl, rfl, hv, hno, fun l hb ev hl p H1 np e1 hp => ?_⟩
    have q := hyes l hb ev hl
    refine ⟨_, rfl, .inl ⟨rfl, _, SqL.of hp⟩, _, rfl, p, turns l, rfl, SqL.of hp, turns_ne hl, p, minT (turns l), turns l, rfl, rfl, SqL.of hp, minT_mem (turns_ne hl), ?_⟩
    exact q H1 e1
theorem ok_least_form (D : Dfn K mg "least_form" s_least_form p_least_form) (c_turnings : Cal (L2.CX P w) P w K mg base 3 "turnings" (spTurnings K cN)) : Cal (L2.CX P w) P w K mg base 4 "least_form" (spLeastForm K cN) := by
  refine D.cal fun f fd F => F.okX sc_least_form (fun vs H Q E h => ?_) (fun cdv A outer s H vs Q E hr h => ?_)
  · obtain ⟨v, b, rest, rfl, hr, _⟩ := h
    cases List.eq_nil_of_length_eq_zero hr
    rfl
  · obtain ⟨v, b, rest, rfl, hrest, hv, hno, hyes⟩ := h
    cases List.eq_nil_of_length_eq_zero hrest
    refine ⟨_, (pss_one (ps_ret (pe_callB (cr_minL rfl hr.units) (by rfl) B.m_min (by decide +kernel) (pa_cons (pe_cal c_turnings hr (by decide) (passes_call (takes_of rfl rfl rfl rfl) fun _ _ _ _ h => h) (pa_cons (pv 0) pa_nil)) pa_nil)))), ?_⟩
    refine ⟨v, rfl, v, b, [], rfl, rfl, hv, hno, fun l hb ev hl p H1 np e1 hp => ?_⟩
    exact ⟨p, turns l, rfl, SqL.of hp, turns_ne hl, hyes l hb ev hl H1 e1⟩
end
end Rk
namespace Rk
open PySem PySem.Spec PyProof.Rows L2 Rw
abbrev s_steps_between : Stmt := topS 14
abbrev n_steps_between : List Str := ["one", "other", "rows"]
abbrev p_steps_between : List Str := ["one", "other"]
theorem sc_steps_between : FnScope n_steps_between p_steps_between (defScope s_steps_between) := ⟨rfl, rfl, rfl, by decide +kernel, rfl, by decide +kernel, by decide +kernel⟩
section
variable {P : Program} {w : World} {K : PySem.W.Frag} {mg : Str → Option Value} {base : Heap} {cN : Addr} (B : Bt mg)
include B
theorem ok_steps (D : Dfn K mg "steps_between" s_steps_between p_steps_between) (c_need_word : Cal (L2.CX P w) P w K mg base 2 "need_word" (spNeed K cN)) (c_turnings : Cal (L2.CX P w) P w K mg base 3 "turnings" (spTurnings K cN)) : Cal (L2.CX P w) P w K mg base 4 "steps_between" (spSteps K cN) := by
  refine D.cal fun f fd F => F.okX sc_steps_between (fun vs H Q E h => ?_) (fun cdv A outer s H vs Q E hr h => ?_)
  · obtain ⟨v, u, b, d, rfl, _⟩ := h
    rfl
  · obtain ⟨v, u, b, d, rfl, hv, hu, hno, hyes⟩ := h
    refine ⟨_, (pss_cons (ps_expr (pe_cal c_need_word hr (by decide) (passes_call (takes_of rfl rfl rfl rfl) fun _ _ _ _ h => h) (pa_cons (pv 0) pa_nil)))
      (pss_cons (ps_expr (pe_cal c_need_word hr (by decide) (passes_call (takes_of rfl rfl rfl rfl) fun _ _ _ _ h => h) (pa_cons (pv 1) pa_nil)))
      (pss_cons (ps_set (i := 2) sc_steps_between.nd rfl (Or.inl rfl) (pe_cal c_turnings hr (by decide) (passes_call (takes_of rfl rfl rfl rfl) fun _ _ _ _ h => h) (pa_cons (pv 0) pa_nil)))
      (pss_cons (ps_if (pt_cmpR op_notInT (pv 1) (pv 2) (by rfl)) (pss_one (ps_ret pe_non)) pss_nil)
      (pss_one (ps_ret (pe_bm PySem.F.plainAttrs_list PySem.F.slot_list_index PySem.F.type_list_index mt_indexT (pv 2) (pa_cons (pv 1) pa_nil)))))))), ?_⟩
    refine ⟨v, rfl, v, b, [], rfl, rfl, hv, (fun hb H' e => hno (by rw [hb]; rfl) H' e), fun l hb ev hl H1 e1 => ?_⟩
    subst hb ev
    refine ⟨u, rfl, u, d, [], rfl, rfl, hu.same e1, (fun hd H' e => hno (by rw [hd]; rfl) H' (e1.trans e)), fun m hd eu hm H2 e2 => ?_⟩
    subst hd eu
    have q := hyes l m rfl rfl rfl hl hm
    refine ⟨_, rfl, tv l, true, [], rfl, rfl, .word hl, (fun e => nomatch e), fun l' _ el _ p H3 np e3 hp => ?_⟩
    cases tv_inj el
    have e := (e1.trans e2).trans e3
    unfold stepsV at q
    by_cases g : m ∈ turns l
    · rw [if_pos g] at q
      refine ⟨_, rfl, _, rfl, p, m, turns l, rfl, rfl, SqL.of hp, false, by simp [g], iteF ?_⟩
      exact ⟨_, rfl, .inl ⟨rfl, _, SqL.of hp⟩, _, rfl, p, m, turns l, rfl, rfl, SqL.of hp, g, q H3 e⟩
    · rw [if_neg g] at q
      refine ⟨_, rfl, _, rfl, p, m, turns l, rfl, rfl, SqL.of hp, true, by simp [g], iteT ?_⟩
      exact q H3 e
end
end Rk
namespace Rw
open PySem PySem.Spec PyProof.Rows L2
/-- a class of refusals that is raised -/
structure ErX (K : PySem.W.Frag) (mg : Str → Option Value) (name : Str) (C : Addr) : Prop where
  g : mg name = some (.ref C)
  x : PySem.W.excIn K C [.type "ValueError", .type "Exception", .type "BaseException", .type "object"] "ValueError.__new__" = true
  k : PySem.W.keepIn K (.ref C) = true
  b : PySem.W.subIn K (.ref C) (.type "BaseException") = some true
  t : PySem.W.typeIn K (.ref C) = some (.type "type")
end Rw
namespace Rw
open PySem PySem.Spec PyProof.Rows L2
/-! methods of an own class, as their callers need them -/
section
def MCal (CX : CXT) (P : Program) (w : World) (K : PySem.W.Frag) (mg : Str → Option Value) (base : Heap) (k : Nat) (C : Addr) (x : Str) (sp : Sp) : Prop :=
  ∃ (f : Addr) (fd : FuncData) (ps : List Str), FnOk P w K mg base CX k f fd ps sp ∧ Meth K C x f ∧ Binds K fd ps []
def MDfn (K : PySem.W.Frag) (C : Addr) (x q : Str) (st : Stmt) (ps : List Str) : Prop :=
  ∃ (f : Addr) (fd : FuncData), Fun K x q st f fd ∧ Meth K C x f ∧ Binds K fd ps []
variable {CX : CXT} {P : Program} {w : World} {K : PySem.W.Frag} {mg : Str → Option Value} {base : Heap} {C : Addr} {x q : Str} {st : Stmt} {ps : List Str} {sp : Sp} {k : Nat}
theorem MDfn.cal (D : MDfn K C x q st ps) (h : ∀ f fd, Fun K x q st f fd → FnOk P w K mg base CX k f fd ps sp) : MCal CX P w K mg base k C x sp := by
  obtain ⟨f, fd, F, g, b⟩ := D
  exact ⟨f, fd, ps, h f fd F, g, b⟩
end
/-- the class of books -/
structure RgC (K : PySem.W.Frag) (mg : Str → Option Value) (C : Addr) : Prop where
  cl : Cls K C
  n1 : NoAttr K C "_next"
  n2 : NoAttr K C "_numbers"
  n3 : NoAttr K C "_words"
  mks : PySem.W.makesIn K C = true
  kc : PySem.W.keepIn K (.ref C) = true
  g : mg "Rings" = some (.ref C)
section
variable {X : Cx} {CX : CXT} {k j : Nat} {sp : Sp} {E : XK} {C : Addr} {m x : Str} {o e : Expr} {es : List Expr} {ta : TE} {t : TA} {apos pos p : Pos}
theorem pe_mcal {pl : Sem Bool} (he : PE X o ta) (c : Cls X.K C) (M : MCal CX X.prog X.w X.K X.mg X.base k C m sp) (hr : Room j X.A) (hk : k ≤ j) (hx : Passes CX X E) (ha : PA X (e :: es) t)
    (hst : starEach (e :: es) X.env = (false, eval e X.env) :: starEach es X.env := by rfl) (hpl : (backTo pos (starEach es X.env)).any (·.1) = false := by rfl)
    (ht : eval (.Call (.Attribute o m apos) (e :: es) [] pos) X.env = (do
      let ov ← eval o X.env
      standAt apos.atName
      let (f, first) ← holding [ov] (getMethod ov m pl)
      callWith pos f first (backTo pos (starEach (e :: es) X.env)) (backToKw pos (keywordEach [] X.env))) := by rfl) :
    PE X (.Call (.Attribute o m apos) (e :: es) [] pos) (tMeth C m sp [] E ta t) := by
  refine ⟨fun pins s σ H Q I h => ?_⟩
  obtain ⟨f, fd, ps, F, g, b⟩ := M
  exact (pe_meth he c g F (hr.mono hk) b .nil hx ha hst hpl ht).run pins s σ H Q I h
theorem pe_mcal0 {pl : Sem Bool} (he : PE X o ta) (c : Cls X.K C) (M : MCal CX X.prog X.w X.K X.mg X.base k C m sp) (hr : Room j X.A) (hk : k ≤ j) (hx : Passes CX X E)
    (ht : eval (.Call (.Attribute o m apos) [] [] pos) X.env = (do
      let ov ← eval o X.env
      standAt apos.atName
      let (f, first) ← holding [ov] (getMethod ov m pl)
      callWith pos f first (backTo pos (starEach [] X.env)) (backToKw pos (keywordEach [] X.env))) := by rfl) :
    PE X (.Call (.Attribute o m apos) [] [] pos) (tMeth C m sp [] E ta tNil) := by
  refine ⟨fun pins s σ H Q I h => ?_⟩
  obtain ⟨f, fd, ps, F, g, b⟩ := M
  exact (pe_meth0 he c g F (hr.mono hk) b .nil hx ht).run pins s σ H Q I h
theorem pe_mkcal (mk : PySem.W.makesIn X.K C = true) (kc : PySem.W.keepIn X.K (.ref C) = true) (M : MCal CX X.prog X.w X.K X.mg X.base k C "__init__" sp) (hr : Room j X.A) (hk : k + 1 ≤ j) (hm : X.mg x = some (.ref C)) (hx : Passes CX X E)
    (hg : Gl X x := by rfl) (hdb : (x == ("__debug__" : Str)) = false := by decide) : PE X (.Call (.Name x p) [] [] pos) (tMake C sp [] E tNil) := by
  refine ⟨fun pins s σ H Q I h => ?_⟩
  obtain ⟨f, fd, ps, F, g, b⟩ := M
  exact (pe_make0 ⟨mk, g.at_, g.fn, kc⟩ F (hr.mono hk) hg hm b .nil hx hdb).run pins s σ H Q I h
end
theorem call_len_seqK {X : Cx} {K : PySem.W.Frag} (hK : X.K = K) : CallR X (.builtin "len") (fun xs H Q => ∃ p ys, xs = [.ref p] ∧ (SqL K H p ys ∨ SqT K H p ys) ∧ Q (.int (ys.length : Nat)) H) := hK ▸ call_len_seq
/-- all but these places stands as it stood -/
def Fr (F : List Addr) (H H' : Hp) : Prop := ∀ b u, H b = some u → b ∉ F → H' b = some u
theorem Fr.of {F : List Addr} {H H' : Hp} (e : Same H H') : Fr F H H' := fun b u h _ => e b u h
theorem Fr.trans {F : List Addr} {H H' H'' : Hp} (a : Fr F H H') (b : Fr F H' H'') : Fr F H H'' := fun x u h n => b x u (a x u h n) n
theorem Fr.put {F : List Addr} {H H' : Hp} {a : Addr} {o : HO} (e : Fr F H H') (h : a ∈ F) : Fr F H (upd H' a o) := fun x u hx n => by
  rw [upd_ne (fun z => n (by rw [z]; exact h))]
  exact e x u hx n
theorem Fr.new {F : List Addr} {H H' : Hp} {a : Addr} {o : HO} (e : Fr F H H') (h : H a = none) : Fr F H (upd H' a o) := fun x u hx n => by
  rw [upd_ne (ne_of_none hx h)]
  exact e x u hx n
theorem Fr.mono {F G : List Addr} {H H' : Hp} (e : Fr F H H') (h : ∀ a ∈ F, a ∈ G) : Fr G H H' := fun x u hx n => e x u hx fun z => n (h x z)
end Rw
namespace Rw
open PySem PySem.Spec PyProof.Rows L2
/-- a ring in the book: its least form, its number, its list, its words -/
structure Ent where
  f : List Nat
  n : Nat
  a : Addr
  ws : List (List Nat)
def numK (es : List Ent) : List (Key × V) := es.map fun e => (.inr (T e.f), .int (e.n : Nat))
def wrdK (es : List Ent) : List (Key × V) := es.map fun e => (.inl (e.n : Nat), .ref e.a)
def bf (nx : Nat) (d1 d2 : Addr) : List (Str × V) := [("_next", .int (nx : Nat)), ("_numbers", .ref d1), ("_words", .ref d2)]
theorem s12 : ¬ (("_next" : Str) = "_numbers") := by decide +kernel
theorem s13 : ¬ (("_next" : Str) = "_words") := by decide +kernel
theorem s23 : ¬ (("_numbers" : Str) = "_words") := by decide +kernel
theorem bf_next (nx : Nat) (d1 d2 : Addr) : (bf nx d1 d2).lookup ("_next" : Str) = some (V.int (nx : Nat)) := by unfold bf; simp
theorem bf_numbers (nx : Nat) (d1 d2 : Addr) : (bf nx d1 d2).lookup ("_numbers" : Str) = some (V.ref d1) := by
  have h : (("_numbers" : Str) == ("_next" : Str)) = false := by decide +kernel
  unfold bf
  rw [List.lookup_cons, h]
  simp
theorem bf_words (nx : Nat) (d1 d2 : Addr) : (bf nx d1 d2).lookup ("_words" : Str) = some (V.ref d2) := by
  have h : (("_words" : Str) == ("_next" : Str)) = false := by decide +kernel
  have h2 : (("_words" : Str) == ("_numbers" : Str)) = false := by decide +kernel
  unfold bf
  rw [List.lookup_cons, h]
  dsimp only
  rw [List.lookup_cons, h2]
  simp
theorem bf_no {m : Str} (nx : Nat) (d1 d2 : Addr) (h : (m == ("_next" : Str)) = false) (h2 : (m == ("_numbers" : Str)) = false) (h3 : (m == ("_words" : Str)) = false) : (bf nx d1 d2).lookup m = Option.none := by
  unfold bf
  rw [List.lookup_cons, h]
  dsimp only
  rw [List.lookup_cons, h2]
  dsimp only
  rw [List.lookup_cons, h3]
  rfl
theorem bf_up (nx : Nat) (d1 d2 : Addr) (v : Nat) : putF "_next" (.int (v : Nat)) (bf nx d1 d2) = bf v d1 d2 := by
  show (if ("_next" : Str) = "_next" then _ else _) = _
  rw [if_pos rfl]
  rfl
theorem bf_init (d1 d2 : Addr) : putF "_words" (.ref d2) (putF "_numbers" (.ref d1) (putF "_next" (.int 0) [])) = bf 0 d1 d2 := by
  show putF "_words" (.ref d2) (if ("_next" : Str) = "_numbers" then _ else _) = _
  rw [if_neg s12]
  show (if ("_next" : Str) = "_words" then _ else _ :: (if ("_numbers" : Str) = "_words" then _ else _)) = _
  rw [if_neg s13, if_neg s23]
  rfl
/-- the book in the heap -/
structure BkH (C : Addr) (H : Hp) (p dx d1 d2 : Addr) (nx : Nat) (es : List Ent) : Prop where
  hp : H p = some (.ins C dx (bf nx d1 d2))
  h1 : H d1 = some (.dK (numK es))
  h2 : H d2 = some (.dK (wrdK es))
  hl : ∀ (i : Nat) (e : Ent), es[i]? = some e → H e.a = some (.lst (tvs e.ws))
  an : ∀ (i j : Nat) (e x : Ent), es[i]? = some e → es[j]? = some x → e.a = x.a → i = j
  nd : d1 ≠ d2
theorem BkH.keep {C p dx d1 d2 : Addr} {H H' : Hp} {nx : Nat} {es : List Ent} (b : BkH C H p dx d1 d2 nx es) (k : ∀ a u, H a = some u → a ∈ p :: d1 :: d2 :: es.map Ent.a → H' a = some u) : BkH C H' p dx d1 d2 nx es :=
  ⟨k _ _ b.hp (by simp), k _ _ b.h1 (by simp), k _ _ b.h2 (by simp), fun i e he => k _ _ (b.hl i e he) (by simp; exact .inr (.inr (.inr ⟨e, List.mem_of_getElem? he, rfl⟩))), b.an, b.nd⟩
theorem BkH.same {C p dx d1 d2 : Addr} {H H' : Hp} {nx : Nat} {es : List Ent} (b : BkH C H p dx d1 d2 nx es) (k : Same H H') : BkH C H' p dx d1 d2 nx es := b.keep fun a u h _ => k a u h
/-- what a ring is -/
structure BkP (nx : Nat) (es : List Ent) : Prop where
  fu : ∀ (i j : Nat) (e x : Ent), es[i]? = some e → es[j]? = some x → e.f = x.f → i = j
  nu : es.Pairwise fun e x => e.n < x.n
  nl : ∀ e ∈ es, e.n < nx
  ws : ∀ e ∈ es, e.ws ≠ [] ∧ e.ws.Nodup ∧ ∀ u ∈ e.ws, Wd u ∧ minT (turns u) = e.f
inductive RingOut (es : List Ent) (f : List Nat) : V → Prop
  | no : (∀ e ∈ es, e.f ≠ f) → RingOut es f .non
  | yes {i : Nat} {e : Ent} : es[i]? = some e → e.f = f → RingOut es f (.int (e.n : Nat))
theorem num_get (f : List Nat) : ∀ es : List Ent, RingOut es f ((valV (numK es) (.inr (T f))).getD .non)
  | [] => .no fun e h => nomatch h
  | e :: r => by
    by_cases g : e.f = f
    · rw [show numK (e :: r) = (.inr (T e.f), .int (e.n : Nat)) :: numK r from rfl, valV_pos (by rw [g])]
      exact .yes (i := 0) (e := e) rfl g
    · rw [show numK (e :: r) = (.inr (T e.f), .int (e.n : Nat)) :: numK r from rfl, valV_neg (fun z => g (T_inj (Sum.inr.inj z)))]
      generalize hv : (valV (numK r) (.inr (T f))).getD .non = v
      have ih := num_get f r
      rw [hv] at ih
      cases ih with
      | no h =>
        refine .no fun x hx => ?_
        rcases List.mem_cons.mp hx with q | q
        · rw [q]
          exact g
        · exact h x q
      | @yes i x h1 h2 => exact .yes (i := i + 1) (e := x) h1 h2
theorem wrd_get : ∀ {es : List Ent} {i : Nat} {e : Ent}, es.Pairwise (fun e x => e.n < x.n) → es[i]? = some e → valV (wrdK es) (.inl (e.n : Nat)) = some (.ref e.a)
  | [], i, e, _, h => by simp at h
  | x :: r, 0, e, _, h => by
    have : x = e := Option.some.inj h
    subst this
    exact valV_pos rfl
  | x :: r, i + 1, e, hp, h => by
    obtain ⟨p1, p2⟩ := List.pairwise_cons.mp hp
    have h : r[i]? = some e := h
    have := p1 e (List.mem_of_getElem? h)
    rw [show wrdK (x :: r) = (.inl (x.n : Nat), .ref x.a) :: wrdK r from rfl, valV_neg (fun z => by have := Sum.inl.inj z; omega)]
    exact wrd_get p2 h
theorem putN {es : List Ent} {f : List Nat} {v : V} (h : ∀ e ∈ es, e.f ≠ f) : putK (numK es) (.inr (T f)) v = numK es ++ [(.inr (T f), v)] := by
  unfold putK
  rw [if_neg]
  rw [List.any_eq_true]
  rintro ⟨p, hp, e⟩
  obtain ⟨d, hd, rfl⟩ := List.mem_map.mp hp
  have : Sum.inr (T d.f) = (Sum.inr (T f) : Key) := of_decide_eq_true e
  exact h d hd (T_inj (Sum.inr.inj this))
theorem putW {es : List Ent} {n : Nat} {v : V} (h : ∀ e ∈ es, e.n < n) : putK (wrdK es) (.inl (n : Nat)) v = wrdK es ++ [(.inl (n : Nat), v)] := by
  unfold putK
  rw [if_neg]
  rw [List.any_eq_true]
  rintro ⟨p, hp, e⟩
  obtain ⟨d, hd, rfl⟩ := List.mem_map.mp hp
  have : Sum.inl ((d.n : Nat) : Int) = (Sum.inl ((n : Nat) : Int) : Key) := of_decide_eq_true e
  have := Sum.inl.inj this
  have := h d hd
  omega
theorem set_map {α : Type} {g : Ent → α} {e x : Ent} (hg : g x = g e) : ∀ {es : List Ent} {i : Nat}, es[i]? = some e → (es.set i x).map g = es.map g
  | [], _, h => by simp at h
  | y :: r, 0, h => by
    have : y = e := Option.some.inj h
    subst this
    show g x :: r.map g = _
    rw [hg]
    rfl
  | y :: r, i + 1, h => by
    show g y :: (r.set i x).map g = _
    rw [set_map hg (es := r) h]
    rfl
theorem set_at {es : List Ent} {i j : Nat} {x y : Ent} (h : (es.set i x)[j]? = some y) : (i = j ∧ x = y) ∨ (i ≠ j ∧ es[j]? = some y) := by
  rw [List.getElem?_set] at h
  by_cases g : i = j
  · rw [if_pos g] at h
    by_cases g2 : i < es.length
    · rw [if_pos g2] at h
      exact .inl ⟨g, Option.some.inj h⟩
    · rw [if_neg g2] at h
      cases h
  · rw [if_neg g] at h
    exact .inr ⟨g, h⟩
/-- a list of it is changed -/
theorem BkH.set {C p dx d1 d2 : Addr} {H : Hp} {nx : Nat} {es : List Ent} (b : BkH C H p dx d1 d2 nx es) {i : Nat} {e : Ent} (he : es[i]? = some e) (ws : List (List Nat)) :
    BkH C (upd H e.a (.lst (tvs ws))) p dx d1 d2 nx (es.set i { e with ws := ws }) := by
  have hL := b.hl i e he
  have np : p ≠ e.a := ne_of b.hp hL (by intro q; cases q)
  have n1 : d1 ≠ e.a := ne_of b.h1 hL (by intro q; cases q)
  have n2 : d2 ≠ e.a := ne_of b.h2 hL (by intro q; cases q)
  refine ⟨by rw [upd_ne np]; exact b.hp, ?_, ?_, fun j y hy => ?_, fun j k y z hy hz ha => ?_, b.nd⟩
  · rw [upd_ne n1, b.h1]
    unfold numK
    rw [set_map (e := e) (by rfl) he]
  · rw [upd_ne n2, b.h2]
    unfold wrdK
    rw [set_map (e := e) (by rfl) he]
  · rcases set_at hy with ⟨_, rfl⟩ | ⟨g, h⟩
    · exact upd_same
    · rw [upd_ne (fun z => g (b.an i j e y he h z.symm))]
      exact b.hl j y h
  · rcases set_at hy with ⟨rfl, rfl⟩ | ⟨g, h⟩
    · rcases set_at hz with ⟨q, _⟩ | ⟨g2, h2⟩
      · exact q
      · exact b.an i k e z he h2 ha
    · rcases set_at hz with ⟨rfl, rfl⟩ | ⟨g2, h2⟩
      · exact b.an j i y e h he ha
      · exact b.an j k y z h h2 ha
def spRInit (C : Addr) : Sp := fun vs H Q _ => ∃ p dx : Addr, vs = [.ref p] ∧ H p = some (.ins C dx []) ∧ ∀ (d1 d2 : Addr) (H' : Hp), H d1 = none → H d2 = none → BkH C H' p dx d1 d2 0 [] → Fr [p] H H' → Q .non H'
def spRingOf (K : PySem.W.Frag) (C cN : Addr) : Sp := fun vs H Q E => ∃ (p dx d1 d2 : Addr) (nx : Nat) (es : List Ent) (v : V) (b : Bool), vs = [.ref p, v] ∧ BkH C H p dx d1 d2 nx es ∧ Th K H v b ∧
  (b = false → ∀ H', Same H H' → E (.ref cN) none H') ∧ (∀ l, b = true → v = tv l → Wd l → ∀ r H', RingOut es (minT (turns l)) r → Same H H' → Q r H')
def spBegin (C : Addr) : Sp := fun vs H Q _ => ∃ (p dx d1 d2 : Addr) (nx : Nat) (es : List Ent) (f : List Nat), vs = [.ref p, tv f] ∧ BkH C H p dx d1 d2 nx es ∧ (∀ e ∈ es, e.f ≠ f) ∧ (∀ e ∈ es, e.n < nx) ∧ es.length ≤ 1000 ∧
  ∀ (a : Addr) (H' : Hp), H a = none → BkH C H' p dx d1 d2 (nx + 1) (es ++ [⟨f, nx, a, []⟩]) → Fr [p, d1, d2] H H' → Q (.int (nx : Nat)) H'
inductive AddOut (H : Hp) (es : List Ent) (nx : Nat) (l : List Nat) : List Ent → Nat → Nat → Prop
  | new {a : Addr} : H a = none → (∀ e ∈ es, e.f ≠ minT (turns l)) → AddOut H es nx l (es ++ [⟨minT (turns l), nx, a, [l]⟩]) (nx + 1) nx
  | old {i : Nat} {e : Ent} : es[i]? = some e → e.f = minT (turns l) → l ∉ e.ws → AddOut H es nx l (es.set i { e with ws := e.ws ++ [l] }) nx e.n
def spAdd (K : PySem.W.Frag) (C cN cT : Addr) : Sp := fun vs H Q E => ∃ (p dx d1 d2 : Addr) (nx : Nat) (es : List Ent) (v : V) (b : Bool), vs = [.ref p, v] ∧ BkH C H p dx d1 d2 nx es ∧ BkP nx es ∧ es.length ≤ 1000 ∧ (∀ e ∈ es, e.ws.length ≤ 1000) ∧ Th K H v b ∧
  (b = false → ∀ H', Same H H' → E (.ref cN) none H') ∧ (∀ l, b = true → v = tv l → Wd l →
    (∀ (i : Nat) (e : Ent), es[i]? = some e → e.f = minT (turns l) → l ∈ e.ws → ∀ H', Same H H' → E (.ref cT) none H') ∧
    (∀ (es' : List Ent) (nx' num : Nat) (H' : Hp), AddOut H es nx l es' nx' num → BkH C H' p dx d1 d2 nx' es' → Fr (p :: d1 :: d2 :: es.map Ent.a) H H' → Q (.int (num : Nat)) H'))
def spForms (C : Addr) : Sp := fun vs H Q _ => ∃ (p dx d1 d2 : Addr) (nx : Nat) (es : List Ent), vs = [.ref p] ∧ BkH C H p dx d1 d2 nx es ∧ es.length ≤ 1000 ∧
  ∀ (q : Addr) (ts : List Addr) (H' : Hp), Same H H' → H q = none → H' q = some (.lst (ts.map V.ref)) → ts.length = es.length → (∀ (i : Nat) (t : Addr) (e : Ent), ts[i]? = some t → es[i]? = some e → H t = none ∧ H' t = some (.tup [.int (e.n : Nat), tv e.f])) → Q (.ref q) H'
def manyOf (es : List Ent) : Nat := (es.map fun e => e.ws.length).sum
def spMany (C : Addr) : Sp := fun vs H Q _ => ∃ (p dx d1 d2 : Addr) (nx : Nat) (es : List Ent), vs = [.ref p] ∧ BkH C H p dx d1 d2 nx es ∧ es.length ≤ 1000 ∧ ∀ H', Same H H' → Q (.int (manyOf es : Nat)) H'
end Rw
namespace Rk
open PySem PySem.Spec PyProof.Rows L2 Rw
abbrev s_Rings___init__ : Stmt := inClass (topS 23) 0
abbrev n_Rings___init__ : List Str := ["self"]
abbrev p_Rings___init__ : List Str := ["self"]
theorem sc_Rings___init__ : FnScope n_Rings___init__ p_Rings___init__ (defScope s_Rings___init__) := ⟨rfl, rfl, rfl, by decide +kernel, rfl, by decide +kernel, by decide +kernel⟩
abbrev s_Rings_ring_of : Stmt := inClass (topS 23) 3
abbrev n_Rings_ring_of : List Str := ["self", "word"]
abbrev p_Rings_ring_of : List Str := ["self", "word"]
theorem sc_Rings_ring_of : FnScope n_Rings_ring_of p_Rings_ring_of (defScope s_Rings_ring_of) := ⟨rfl, rfl, rfl, by decide +kernel, rfl, by decide +kernel, by decide +kernel⟩
abbrev s_Rings__begin : Stmt := inClass (topS 23) 8
abbrev n_Rings__begin : List Str := ["self", "form", "number"]
abbrev p_Rings__begin : List Str := ["self", "form"]
theorem sc_Rings__begin : FnScope n_Rings__begin p_Rings__begin (defScope s_Rings__begin) := ⟨rfl, rfl, rfl, by decide +kernel, rfl, by decide +kernel, by decide +kernel⟩
section
variable {P : Program} {w : World} {K : PySem.W.Frag} {mg : Str → Option Value} {base : Heap} {C cN cT : Addr} (B : Bt mg) (RG : RgC K mg C)
include RG
theorem ok_rinit (D : MDfn K C "__init__" "Rings.__init__" s_Rings___init__ p_Rings___init__) : MCal CX0 P w K mg base 1 C "__init__" (spRInit C) := by
  refine D.cal fun f fd F => F.ok sc_Rings___init__ (fun vs H Q E h => ?_) (fun cdv A outer st H vs Q E hr h => ?_)
  · obtain ⟨p, dx, rfl, _⟩ := h
    rfl
  · obtain ⟨p, dx, rfl, hp, q⟩ := h
    refine ⟨_, (pss_cons (ps_fld (pv 0) pe_int rfl)
      (pss_cons (ps_fld (pv 0) pe_dnewK rfl)
      (pss_one (ps_fld (pv 0) pe_dnewK rfl)))), ?_⟩
    refine ⟨_, rfl, p, C, dx, [], rfl, hp, RG.cl, RG.n1, (by show 0 < 1000; decide), fun d1 n1 => ?_⟩
    have pd : p ≠ d1 := fun z => by rw [← z, upd_same] at n1; cases n1
    have n1' : H d1 = none := by rw [upd_ne pd.symm] at n1; exact n1
    refine ⟨_, rfl, p, C, dx, _, rfl, by rw [upd_ne pd, upd_same], RG.cl, RG.n2, (by show 1 < 1000; decide), fun d2 n2 => ?_⟩
    have pd2 : p ≠ d2 := fun z => by rw [← z, upd_same] at n2; cases n2
    have n2a := n2
    rw [upd_ne pd2.symm] at n2a
    have dd : d1 ≠ d2 := fun z => by rw [← z, upd_same] at n2a; cases n2a
    have n2' : H d2 = none := by rw [upd_ne dd.symm, upd_ne pd2.symm] at n2a; exact n2a
    refine ⟨_, rfl, p, C, dx, _, rfl, by rw [upd_ne pd2, upd_same], RG.cl, RG.n3, (by show (putF _ _ _).length < 1000; show (if ("_next" : Str) = "_numbers" then _ else _ : List (Str × V)).length < 1000; rw [if_neg s12]; show 2 < 1000; decide), ?_⟩
    rw [bf_init]
    refine q d1 d2 _ n1' n2' ⟨upd_same, ?_, ?_, fun i e h => by simp at h, fun i j e x h => by simp at h, dd⟩ ?_
    · rw [upd_ne pd.symm, upd_ne dd, upd_ne pd.symm, upd_same]
      rfl
    · rw [upd_ne pd2.symm, upd_same]
      rfl
    · refine Fr.put (Fr.new (Fr.put (Fr.new (Fr.put (Fr.of (Same.refl H)) (List.mem_singleton.mpr rfl)) n1') (List.mem_singleton.mpr rfl)) n2') (List.mem_singleton.mpr rfl)
include B
theorem ok_ring_of (D : MDfn K C "ring_of" "Rings.ring_of" s_Rings_ring_of p_Rings_ring_of) (c_least_form : Cal (L2.CX P w) P w K mg base 4 "least_form" (spLeastForm K cN)) : MCal (L2.CX P w) P w K mg base 5 C "ring_of" (spRingOf K C cN) := by
  refine D.cal fun f fd F => F.okX sc_Rings_ring_of (fun vs H Q E h => ?_) (fun cdv A outer st H vs Q E hr h => ?_)
  · obtain ⟨p, dx, d1, d2, nx, es, v, b, rfl, _⟩ := h
    rfl
  · obtain ⟨p, dx, d1, d2, nx, es, v, b, rfl, hb, hv, hno, hyes⟩ := h
    refine ⟨_, (pss_one (ps_ret (pe_dget1 (hu_of hr) (pe_fld (pv 0) rfl) (pe_cal c_least_form hr (by decide) (passes_call (takes_of rfl rfl rfl rfl) fun _ _ _ _ h => h) (pa_cons (pv 1) pa_nil)) ⟨rfl, rfl, rfl, rfl⟩))), ?_⟩
    refine ⟨_, rfl, p, C, dx, _, .ref d1, rfl, hb.hp, RG.cl, RG.n2, bf_numbers _ _ _, d1, rfl, .inl ⟨_, .inl hb.h1⟩, _, rfl, v, b, [], rfl, rfl, hv, hno, fun l e1 e2 hl H1 k1 => ?_⟩
    exact ⟨_, DGet.k (k := .inr (T (minT (turns l)))) (k1 _ _ hb.h1), hyes l e1 e2 hl _ H1 (num_get _ _) k1⟩
theorem ok_begin (D : MDfn K C "_begin" "Rings._begin" s_Rings__begin p_Rings__begin) : MCal CX0 P w K mg base 1 C "_begin" (spBegin C) := by
  refine D.cal fun f fd F => F.ok sc_Rings__begin (fun vs H Q E h => ?_) (fun cdv A outer st H vs Q E hr h => ?_)
  · obtain ⟨p, dx, d1, d2, nx, es, f, rfl, _⟩ := h
    rfl
  · obtain ⟨p, dx, d1, d2, nx, es, f, rfl, hb, hf, hn, hle, q⟩ := h
    refine ⟨_, (pss_cons (ps_set (i := 2) sc_Rings__begin.nd rfl (Or.inl rfl) (pe_fld (pv 0) rfl))
      (pss_cons (ps_fldaug (pv 0) pe_int in_add)
      (pss_cons (ps_dput (hu_of hr) (pe_fld (pv 0) rfl) (pv 1) (pv 2) rfl)
      (pss_cons (ps_dput (hu_of hr) (pe_fld (pv 0) rfl) (pv 2) (pe_lst pa_nil) rfl)
      (pss_one (ps_ret (pv 2))))))), ?_⟩
    have p1 : p ≠ d1 := ne_of hb.hp hb.h1 (by intro q; cases q)
    have p2 : p ≠ d2 := ne_of hb.hp hb.h2 (by intro q; cases q)
    have ln : (numK es).length = es.length := List.length_map ..
    have lw : (wrdK es).length = es.length := List.length_map ..
    refine ⟨_, rfl, p, C, dx, _, _, rfl, hb.hp, RG.cl, RG.n1, bf_next _ _ _, ?_⟩
    refine ⟨_, rfl, p, C, dx, _, _, rfl, hb.hp, RG.cl, RG.n1, bf_next _ _ _, _, _, rfl, rfl, dx, _, hb.hp, (by show 3 < 1000; decide), ?_⟩
    have e1 : putF "_next" (.int (((nx : Nat) : Int) + 1)) (bf nx d1 d2) = bf (nx + 1) d1 d2 := bf_up nx d1 d2 (nx + 1)
    rw [e1]
    refine ⟨_, rfl, _, rfl, p, C, dx, _, .ref d1, rfl, upd_same, RG.cl, RG.n2, bf_numbers _ _ _, _, rfl, d1, _, rfl, .inl ⟨numK es, .inr (T f), by rw [upd_ne p1.symm]; exact hb.h1, rfl, by rw [ln]; exact bigL (by omega), rfl⟩, ?_⟩
    rw [putN hf]
    refine ⟨(show 0 ≤ sizeLine by decide), fun a na => ?_⟩
    have na1 : d1 ≠ a := fun z => by rw [← z, upd_same] at na; cases na
    rw [upd_ne na1.symm] at na
    have nap : p ≠ a := fun z => by rw [← z, upd_same] at na; cases na
    rw [upd_ne nap.symm] at na
    have na2 : d2 ≠ a := fun z => by rw [← z, hb.h2] at na; cases na
    refine ⟨_, rfl, p, C, dx, _, .ref d2, rfl, by rw [upd_ne nap, upd_ne p1, upd_same], RG.cl, RG.n3, bf_words _ _ _, _, rfl, d2, _, rfl, .inl ⟨wrdK es, .inl ((nx : Nat) : Int), by rw [upd_ne na2, upd_ne hb.nd.symm, upd_ne p2.symm]; exact hb.h2, rfl, by rw [lw]; exact bigL (by omega), rfl⟩, ?_⟩
    rw [putW hn]
    refine ⟨_, rfl, q a _ na ⟨?_, ?_, ?_, fun i e he => ?_, fun i j e x he hx ha => ?_, hb.nd⟩ ?_⟩
    · rw [upd_ne p2, upd_ne nap, upd_ne p1, upd_same]
    · rw [upd_ne hb.nd, upd_ne na1, upd_same]
      unfold numK
      rw [List.map_append]
      rfl
    · rw [upd_same]
      unfold wrdK
      rw [List.map_append]
      rfl
    · by_cases g : i < es.length
      · rw [List.getElem?_append_left g] at he
        have hL := hb.hl i e he
        rw [upd_ne (ne_of hL hb.h2 (by intro q; cases q)), upd_ne (ne_of_none hL na), upd_ne (ne_of hL hb.h1 (by intro q; cases q)), upd_ne (ne_of hL hb.hp (by intro q; cases q))]
        exact hL
      · rw [List.getElem?_append_right (by omega)] at he
        have : e = ⟨f, nx, a, []⟩ := by
          match i - es.length, he with
          | 0, h => exact (Option.some.inj h).symm
        subst this
        show upd _ d2 _ a = _
        rw [upd_ne na2.symm, upd_same]
        rfl
    · by_cases g : i < es.length
      · rw [List.getElem?_append_left g] at he
        by_cases g2 : j < es.length
        · rw [List.getElem?_append_left g2] at hx
          exact hb.an i j e x he hx ha
        · rw [List.getElem?_append_right (by omega)] at hx
          have : x = ⟨f, nx, a, []⟩ := by
            match j - es.length, hx with
            | 0, h => exact (Option.some.inj h).symm
          subst this
          have := hb.hl i e he
          rw [show e.a = a from ha, na] at this
          cases this
      · have hi : i = es.length := by
          have := (List.getElem?_eq_some_iff.mp he).1
          rw [List.length_append] at this
          have : i < es.length + 1 := this
          omega
        by_cases g2 : j < es.length
        · rw [List.getElem?_append_left g2] at hx
          rw [List.getElem?_append_right (by omega)] at he
          have : e = ⟨f, nx, a, []⟩ := by
            match i - es.length, he with
            | 0, h => exact (Option.some.inj h).symm
          subst this
          have := hb.hl j x hx
          rw [show x.a = a from ha.symm, na] at this
          cases this
        · have := (List.getElem?_eq_some_iff.mp hx).1
          rw [List.length_append] at this
          have : j < es.length + 1 := this
          omega
    · exact Fr.put (Fr.new (Fr.put (Fr.put (Fr.of (Same.refl H)) (by simp)) (by simp)) na) (by simp)
end
end Rk
namespace Rk
open PySem PySem.Spec PyProof.Rows L2 Rw
abbrev s_Rings_add : Stmt := inClass (topS 23) 1
abbrev n_Rings_add : List Str := ["self", "word", "number"]
abbrev p_Rings_add : List Str := ["self", "word"]
theorem sc_Rings_add : FnScope n_Rings_add p_Rings_add (defScope s_Rings_add) := ⟨rfl, rfl, rfl, by decide +kernel, rfl, by decide +kernel, by decide +kernel⟩
abbrev s_Rings_forms : Stmt := inClass (topS 23) 6
abbrev n_Rings_forms : List Str := ["self", "form", "number"]
abbrev p_Rings_forms : List Str := ["self"]
theorem sc_Rings_forms : FnScope n_Rings_forms p_Rings_forms (defScope s_Rings_forms) := ⟨rfl, rfl, rfl, by decide +kernel, rfl, by decide +kernel, by decide +kernel⟩
abbrev s_Rings_many : Stmt := inClass (topS 23) 7
abbrev n_Rings_many : List Str := ["self", "words"]
abbrev p_Rings_many : List Str := ["self"]
theorem sc_Rings_many : FnScope n_Rings_many p_Rings_many (defScope s_Rings_many) := ⟨rfl, rfl, rfl, by decide +kernel, rfl, by decide +kernel, by decide +kernel⟩
theorem last_new {es : List Ent} {x : Ent} : (es ++ [x])[es.length]? = some x := by
  rw [List.getElem?_append_right (Nat.le_refl _), Nat.sub_self]
  rfl
theorem last_set {es : List Ent} {x y : Ent} : (es ++ [x]).set es.length y = es ++ [y] := by
  rw [List.set_append_right _ _ (Nat.le_refl _), Nat.sub_self]
  rfl
section
variable {P : Program} {w : World} {K : PySem.W.Frag} {mg : Str → Option Value} {base : Heap} {C cN cT : Addr} (B : Bt mg) (RG : RgC K mg C)
include RG
theorem ok_radd (R_Twice : ErX K mg "Twice" cT) (D : MDfn K C "add" "Rings.add" s_Rings_add p_Rings_add) (m_ring_of : MCal (L2.CX P w) P w K mg base 5 C "ring_of" (spRingOf K C cN)) (m__begin : MCal CX0 P w K mg base 1 C "_begin" (spBegin C))
    (c_least_form : Cal (L2.CX P w) P w K mg base 4 "least_form" (spLeastForm K cN)) : MCal (L2.CX P w) P w K mg base 6 C "add" (spAdd K C cN cT) := by
  refine D.cal fun f fd F => F.okX sc_Rings_add (fun vs H Q E h => ?_) (fun cdv A outer st H vs Q E hr h => ?_)
  · obtain ⟨p, dx, d1, d2, nx, es, v, b, rfl, _⟩ := h
    rfl
  · obtain ⟨p, dx, d1, d2, nx, es, v, b, rfl, hb, hP, hle, hws, hv, hno, hyes⟩ := h
    refine ⟨_, (pss_cons (ps_set (i := 2) sc_Rings_add.nd rfl (Or.inl rfl) (pe_mcal (pv 0) RG.cl m_ring_of hr (by decide) (passes_call (takes_of rfl rfl rfl rfl) fun _ _ _ _ h => h) (pa_cons (pv 1) pa_nil)))
      (Evl.pss_cut (ps_if (pt_cmpR op_isN (pv 2) pe_non (nomark _)) (pss_one (ps_set (i := 2) sc_Rings_add.nd rfl (Or.inl rfl) (pe_mcal (pv 0) RG.cl m__begin hr (by decide) pass0 (pa_cons (pe_cal c_least_form hr (by decide) (passes_call (takes_of rfl rfl rfl rfl) fun _ _ _ _ h => h) (pa_cons (pv 1) pa_nil)) pa_nil)))) (pss_one (ps_if (pt_cmpR op_inT (pv 1) (pe_dget (hu_of hr) (pe_fld (pv 0) rfl) (pv 2) (fun _ _ => rfl)) (by rfl)) (pss_one (ps_raise rfl (takes_of rfl rfl rfl rfl) (pmk_ownA PySem.F.excBase_ValueError R_Twice.x R_Twice.g R_Twice.k (raises_own R_Twice.b R_Twice.t) (by rfl) (pa_cons pe_str pa_nil)))) pss_nil)))
      (pss_cons (ps_expr (pe_bm PySem.F.plainAttrs_list PySem.F.slot_list_append PySem.F.type_list_append mt_append (pe_dget (hu_of hr) (pe_fld (pv 0) rfl) (pv 2) (fun _ _ => rfl)) (pa_cons (pv 1) pa_nil)))
      (pss_one (ps_ret (pv 2)))))), ?_⟩
    refine ⟨_, rfl, p, dx, _, rfl, hb.hp, bf_no _ _ _ (by decide +kernel) (by decide +kernel) (by decide +kernel), _, rfl, p, dx, d1, d2, nx, es, v, b, rfl, hb, hv, hno, fun l e1 e2 hl r H1 hR k1 => ?_⟩
    obtain ⟨hT, q⟩ := hyes l e1 e2 hl
    subst e2
    have hb1 := hb.same k1
    refine ⟨fun σ' H' => ∃ (i : Nat) (e : Ent) (es2 : List Ent) (nx2 : Nat), σ' = [some (.ref p), some (tv l), some (.int (e.n : Nat))] ∧ BkH C H' p dx d1 d2 nx2 es2 ∧ es2[i]? = some e ∧ es2.Pairwise (fun e x => e.n < x.n) ∧ e.ws.length ≤ 1000 ∧ Fr (p :: d1 :: d2 :: es.map Ent.a) H H' ∧
      AddOut H es nx l (es2.set i { e with ws := e.ws ++ [l] }) nx2 e.n ∧ (H e.a = none ∨ e.a ∈ es.map Ent.a), ?_, ?_⟩
    · cases hR with
      | no h =>
        refine ⟨_, rfl, rfl, true, by simp, iteT ?_⟩
        refine ⟨_, rfl, p, dx, _, rfl, hb1.hp, bf_no _ _ _ (by decide +kernel) (by decide +kernel) (by decide +kernel), _, rfl, tv l, true, [], rfl, rfl, .word hl, (fun e => nomatch e), fun l' _ el _ H2 k2 => ?_⟩
        cases tv_inj el
        refine ⟨p, dx, d1, d2, nx, es, _, rfl, hb1.same k2, h, hP.nl, hle, fun a H3 na hb3 f3 => ?_⟩
        have na0 := (k1.trans k2).free na
        refine ⟨es.length, _, _, nx + 1, rfl, hb3, last_new, ?_, Nat.zero_le _, (Fr.of (k1.trans k2)).trans (f3.mono fun a h => by
          simp only [List.mem_cons, List.not_mem_nil, or_false] at h ⊢
          rcases h with h | h | h
          · exact .inl h
          · exact .inr (.inl h)
          · exact .inr (.inr (.inl h))), ?_, .inl na0⟩
        · refine List.pairwise_append.mpr ⟨hP.nu, List.pairwise_singleton _ _, fun x hx y hy => ?_⟩
          rw [List.mem_singleton.mp hy]
          exact hP.nl x hx
        · rw [last_set]
          exact .new na0 h
      | @yes i e h1 h2 =>
        refine ⟨_, rfl, rfl, false, by simp, iteF ?_⟩
        have hL := hb1.hl i e h1
        refine ⟨_, rfl, _, rfl, p, C, dx, _, .ref d2, rfl, hb1.hp, RG.cl, RG.n3, bf_words _ _ _, _, rfl, d2, .ref e.a, rfl, .inl ⟨wrdK es, .inl ((e.n : Nat) : Int), .inl hb1.h2, rfl, (wrd_get hP.nu h1).symm⟩, e.a, l, e.ws, rfl, rfl, SqL.of hL, _, rfl, ite2 (fun g => ?_) (fun g => ?_)⟩
        · have g : l ∈ e.ws := of_decide_eq_true g
          exact ⟨(show 1 ≤ sizeLine by decide), hT i e h1 h2 g H1 k1⟩
        · have g : l ∉ e.ws := of_decide_eq_false (by simpa using g)
          exact ⟨i, e, es, nx, rfl, hb1, h1, hP.nu, hws e (List.mem_of_getElem? h1), Fr.of k1, .old h1 h2 g, .inr (List.mem_map.mpr ⟨e, List.mem_of_getElem? h1, rfl⟩)⟩
    · rintro σ' H2 ⟨i, e, es2, nx2, rfl, hb2, he, hpw, hwl, f2, hout, hea⟩
      have hL := hb2.hl i e he
      refine ⟨_, rfl, p, C, dx, _, .ref d2, rfl, hb2.hp, RG.cl, RG.n3, bf_words _ _ _, _, rfl, d2, .ref e.a, rfl, .inl ⟨wrdK es2, .inl ((e.n : Nat) : Int), .inl hb2.h2, rfl, (wrd_get hpw he).symm⟩, .inl ⟨rfl, _, SqL.of hL⟩, _, rfl, e.a, tvs e.ws, tv l, rfl, rfl, hL, by rw [List.length_map]; exact bigL (by omega), ?_⟩
      have et : tvs e.ws ++ [tv l] = tvs (e.ws ++ [l]) := by rw [tvs_app]; rfl
      rw [et]
      refine ⟨_, rfl, q _ _ _ _ hout (hb2.set he _) ?_⟩
      rcases hea with g | g
      · exact f2.new g
      · exact f2.put (by simp at g ⊢; exact .inr (.inr (.inr g)))
include B
theorem ok_rforms (D : MDfn K C "forms" "Rings.forms" s_Rings_forms p_Rings_forms) : MCal CX0 P w K mg base 1 C "forms" (spForms C) := by
  refine D.cal fun f fd F => F.ok sc_Rings_forms (fun vs H Q E h => ?_) (fun cdv A outer st H vs Q E hr h => ?_)
  · obtain ⟨p, dx, d1, d2, nx, es, rfl, _⟩ := h
    rfl
  · obtain ⟨p, dx, d1, d2, nx, es, rfl, hb, hle, q⟩ := h
    refine ⟨_, (pss_one (ps_ret (pe_lock (pe_lc (own := [("form", 1), ("number", 2)]) (g := gTup K 2 (gCons (gName 1) (gCons (gName 2) gNil))) rfl sc_Rings_forms.nd (pi_items (pe_fld (pv 0) rfl)) (blkOk_by (own := [("form", 1), ("number", 2)]) (N := n_Rings_forms) (sc := defScope s_Rings_forms) (by decide +kernel)) (fun _ _ _ _ _ => (pg_tup rfl (pgs_cons (pg_name (i := 1) sc_Rings_forms.nd rfl (Or.inl rfl)) (pgs_cons (pg_name (i := 2) sc_Rings_forms.nd rfl (Or.inl rfl)) pgs_nil)))) (fun _ _ _ _ _ => pts_nil) (fun _ _ _ _ _ => (pe_tup (pa_cons (pv 2) (pa_cons (pv 1) pa_nil)))))))), ?_⟩
    refine ⟨d1, _, hb.h1, trivial, fun od => ?_⟩
    have p1 : p ≠ d1 := ne_of hb.hp hb.h1 (by intro q; cases q)
    have hf : upd H d1 (.frz od (.dK (numK es))) d1 = some (.frz od (.dK (numK es))) := upd_same
    have none1 : ∀ t, upd H d1 (.frz od (.dK (numK es))) t = none → H t = none ∧ t ≠ d1 := fun t ht => by
      by_cases g : t = d1
      · rw [g, hf] at ht
        cases ht
      · rw [upd_ne g] at ht
        exact ⟨ht, g⟩
    refine ⟨_, rfl, p, C, dx, _, .ref d1, rfl, by rw [upd_ne p1]; exact hb.hp, RG.cl, RG.n2, bf_numbers _ _ _, d1, od, numK es, rfl, hf, fun Dl hD => ?_⟩
    have ln : (numK es).length = es.length := List.length_map ..
    generalize hH1 : upd H d1 (.frz od (.dK (numK es))) = H1 at *
    refine lc_it walk_items (fun j H' => ∃ ts : List Addr, ts.length = j ∧ Same H1 H' ∧ H' Dl = some (.lst (ts.map V.ref)) ∧ ∀ (i : Nat) (t : Addr) (e : Ent), ts[i]? = some t → es[i]? = some e → H1 t = none ∧ t ≠ Dl ∧ H' t = some (.tup [.int (e.n : Nat), tv e.f])) ⟨[], rfl, same_upd hD, upd_same, fun i t e h => by simp at h⟩ (fun j H4 _ ⟨_, _, e, _, _⟩ => e _ _ hf) ?_ ?_
    · rintro j x H4 H4' hj ⟨ts, hlt, e4, hD4, hts⟩ ⟨Ta, x1, y1, rfl, nT, rfl, hx, hy⟩
      rw [ln] at hj
      dsimp only at hx hy
      have he : es[j]? = some es[j] := List.getElem?_eq_getElem hj
      have hk : (numK es)[j]? = some (.inr (T es[j].f), .int (es[j].n : Nat)) := by
        unfold numK
        rw [List.getElem?_map, he]
        rfl
      rw [hk] at hx hy
      have ex : tv es[j].f = x1 := Option.some.inj hx
      have ey : V.int (es[j].n : Nat) = y1 := Option.some.inj hy
      subst ex ey
      refine ⟨Ta, _, rfl, .inl (.inl upd_same), rfl, _, _, rfl, _, _, rfl, rfl, rfl, keepAll ?_⟩
      refine ⟨_, rfl, _, rfl, (show 2 ≤ sizeLine by decide), fun t nt => ?_⟩
      have k5 := same_upd (o := .tup [tv es[j].f, V.int (es[j].n : Nat)]) nT
      have k6 := same_upd (o := .tup [V.int (es[j].n : Nat), tv es[j].f]) nt
      have k := k5.trans k6
      have ht : upd (upd H4 Ta (.tup [tv es[j].f, V.int (es[j].n : Nat)])) t (.tup [V.int (es[j].n : Nat), tv es[j].f]) t = some (.tup [V.int (es[j].n : Nat), tv es[j].f]) := upd_same
      have nt4 : H4 t = none := k5.free nt
      generalize upd (upd H4 Ta (.tup [tv es[j].f, V.int (es[j].n : Nat)])) t (.tup [V.int (es[j].n : Nat), tv es[j].f]) = H6 at *
      have tD : t ≠ Dl := fun z => by rw [z, hD4] at nt4; cases nt4
      have t1 : H1 t = none := e4.free nt4
      refine ⟨_, k _ _ hD4, by rw [List.length_map, hlt]; exact bigL (by omega), ts ++ [t], by rw [List.length_append, hlt]; rfl, Same.mut (e4.trans k) hD, ?_, fun i u e hu he' => ?_⟩
      · rw [upd_same, List.map_append]
        rfl
      · by_cases g : i < ts.length
        · rw [List.getElem?_append_left g] at hu
          obtain ⟨a1, a2, a3⟩ := hts i u e hu he'
          exact ⟨a1, a2, by rw [upd_ne a2]; exact k _ _ a3⟩
        · have hi : i = j := by
            have := (List.getElem?_eq_some_iff.mp hu).1
            rw [List.length_append] at this
            have : i < ts.length + 1 := this
            omega
          subst hi
          rw [List.getElem?_append_right (by omega), hlt, Nat.sub_self] at hu
          have : t = u := Option.some.inj hu
          subst this
          rw [he] at he'
          cases he'
          exact ⟨t1, tD, by rw [upd_ne tD]; exact ht⟩
    · rintro H4 ⟨ts, hlt, e4, hD4, hts⟩
      have hp4 := e4 _ _ hf
      refine ⟨hp4, ?_⟩
      have dD : Dl ≠ d1 := fun z => by rw [z, hf] at hD; cases hD
      have D0 : H Dl = none := (none1 Dl hD).1
      refine q Dl ts _ (fun b u hbu => ?_) D0 (by rw [upd_ne dD]; exact hD4) (by rw [hlt, ln]) fun i t e ht he => ?_
      · by_cases g : b = d1
        · subst g
          rw [upd_same, ← hb.h1, hbu]
        · rw [upd_ne g]
          refine e4 b u ?_
          rw [← hH1, upd_ne g]
          exact hbu
      · obtain ⟨a1, a2, a3⟩ := hts i t e ht he
        obtain ⟨b1, b2⟩ := none1 t a1
        exact ⟨b1, by rw [upd_ne b2]; exact a3⟩
theorem ok_rmany (D : MDfn K C "many" "Rings.many" s_Rings_many p_Rings_many) : MCal CX0 P w K mg base 1 C "many" (spMany C) := by
  refine D.cal fun f fd F => F.ok sc_Rings_many (fun vs H Q E h => ?_) (fun cdv A outer st H vs Q E hr h => ?_)
  · obtain ⟨p, dx, d1, d2, nx, es, rfl, _⟩ := h
    rfl
  · obtain ⟨p, dx, d1, d2, nx, es, rfl, hb, hle, q⟩ := h
    refine ⟨_, (pss_one (ps_ret (pe_callB (cr_sumN rfl) (by rfl) B.m_sum (by decide +kernel) (pa_cons (pe_lock (pe_lc (own := [("words", 1)]) rfl sc_Rings_many.nd (pi_values (pe_fld (pv 0) rfl)) (blkOk_by (own := [("words", 1)]) (N := n_Rings_many) (sc := defScope s_Rings_many) (by decide +kernel)) (fun _ _ _ _ _ => (pg_name (i := 1) sc_Rings_many.nd rfl (Or.inl rfl))) (fun _ _ _ _ _ => pts_nil) (fun _ _ _ _ _ => (pe_callB (call_len_seqK (K := K) rfl) (by rfl) B.m_len PySem.boot_len (pa_cons (pv 1) pa_nil))))) pa_nil)))), ?_⟩
    refine ⟨d2, _, hb.h2, trivial, fun od => ?_⟩
    have p2 : p ≠ d2 := ne_of hb.hp hb.h2 (by intro q; cases q)
    have hf : upd H d2 (.frz od (.dK (wrdK es))) d2 = some (.frz od (.dK (wrdK es))) := upd_same
    have hl1 : ∀ (i : Nat) (e : Ent), es[i]? = some e → upd H d2 (.frz od (.dK (wrdK es))) e.a = some (.lst (tvs e.ws)) := fun i e he => by
      have hL := hb.hl i e he
      rw [upd_ne (ne_of hL hb.h2 (by intro q; cases q))]
      exact hL
    refine ⟨_, rfl, p, C, dx, _, .ref d2, rfl, by rw [upd_ne p2]; exact hb.hp, RG.cl, RG.n3, bf_words _ _ _, d2, od, wrdK es, rfl, hf, fun Dl hD => ?_⟩
    have lw : (wrdK es).length = es.length := List.length_map ..
    have dD : Dl ≠ d2 := fun z => by rw [z, hf] at hD; cases hD
    have D0 : H Dl = none := by rw [upd_ne dD] at hD; exact hD
    generalize hH1 : upd H d2 (.frz od (.dK (wrdK es))) = H1 at *
    refine lc_it walk_values (LcP H1 Dl fun j acc => acc = ivs ((es.take j).map fun e => e.ws.length)) (lcp_start hD rfl) (fun j H4 _ ⟨_, _, e, _, _, _⟩ => e _ _ hf) ?_ ?_
    · rintro j x H4 H4' hj ⟨_, acc, e4, hD4, hlen, rfl⟩ ⟨rfl, key, hk⟩
      rw [lw] at hj
      have he : es[j]? = some es[j] := List.getElem?_eq_getElem hj
      have hk' : (wrdK es)[j]? = some (.inl (es[j].n : Nat), .ref es[j].a) := by
        unfold wrdK
        rw [List.getElem?_map, he]
        rfl
      rw [hk'] at hk
      cases hk
      refine ⟨rfl, keepAll ?_⟩
      refine ⟨_, rfl, es[j].a, _, rfl, .inl (SqL.of (e4 _ _ (hl1 j _ he))), ?_⟩
      refine lcp_put hD e4 hD4 hlen (by omega) (Same.refl _) ?_
      rw [List.take_add_one, he, List.map_append, ivs_app]
      show _ = _ ++ [V.int ((es[j].ws.length : Nat) : Int)]
      rw [List.length_map]
    · rintro H4 ⟨_, acc, e4, hD4, _, rfl⟩
      rw [lw, List.take_length] at hD4
      refine ⟨e4 _ _ hf, Dl, _, rfl, SqL.of (by rw [upd_ne dD]; exact hD4), ?_⟩
      refine q _ fun b u hbu => ?_
      by_cases g : b = d2
      · subst g
        rw [upd_same, ← hb.h2, hbu]
      · rw [upd_ne g]
        refine e4 b u ?_
        rw [← hH1, upd_ne g]
        exact hbu
end
end Rk
namespace Rk
open PySem PySem.Spec PyProof.Rows L2 Rw
abbrev s_l_cell_at : Stmt := topS 25
abbrev n_l_cell_at : List Str := ["_law_script", "_law_k"]
abbrev p_l_cell_at : List Str := ["_law_script", "_law_k"]
theorem sc_l_cell_at : FnScope n_l_cell_at p_l_cell_at (defScope s_l_cell_at) := ⟨rfl, rfl, rfl, by decide +kernel, rfl, by decide +kernel, by decide +kernel⟩
abbrev s_l_mixed : Stmt := topS 26
abbrev n_l_mixed : List Str := ["_law_cell", "_law_k", "_law_mix"]
abbrev p_l_mixed : List Str := ["_law_cell", "_law_k"]
theorem sc_l_mixed : FnScope n_l_mixed p_l_mixed (defScope s_l_mixed) := ⟨rfl, rfl, rfl, by decide +kernel, rfl, by decide +kernel, by decide +kernel⟩
section
variable {P : Program} {w : World} {K : PySem.W.Frag} {mg : Str → Option Value} {base : Heap} (B : Bt mg)
theorem ok_mixed (D : Dfn K mg "_law_mixed" s_l_mixed p_l_mixed) : Cal CX0 P w K mg base 1 "_law_mixed" spMixed := by
  refine D.cal fun f fd F => F.ok sc_l_mixed (fun vs H Q E h => ?_) (fun cdv A outer s H vs Q E hr h => ?_)
  · obtain ⟨c, k, rfl, _⟩ := h
    rfl
  · obtain ⟨c, k, rfl, q⟩ := h
    refine ⟨_, (pss_cons (ps_set (i := 2) sc_l_mixed.nd rfl (Or.inl rfl) (pe_op op_mod (pe_op op_mul (pe_op op_add (pe_op op_add (pv 0) (pe_op op_mul pe_int (pv 1))) pe_int) pe_int) pe_int))
      (pss_one (ps_ret (pe_op op_mod (pe_op op_add (pe_op op_mul (pv 2) (pv 2)) (pe_op op_mul pe_int (pv 2))) pe_int)))), ?_⟩
    refine ⟨_, rfl, _, rfl, 7919, k, rfl, rfl, .inl ⟨by decide, by decide⟩, _, _, rfl, rfl, _, _, rfl, rfl, _, _, rfl, rfl, .inr ⟨by decide, by decide⟩, _, _, rfl, rfl, (by decide : (0 : Int) < 2147483647), ?_⟩
    refine ⟨_, rfl, _, rfl, _, _, rfl, rfl, .inl ⟨by omega, by omega⟩, _, rfl, _, _, rfl, rfl, .inl ⟨by decide, by decide⟩, _, _, rfl, rfl, _, _, rfl, rfl, (by decide : (0 : Int) < 2147483399), ?_⟩
    exact q _ (Int.emod_nonneg _ (by decide)) (Int.emod_lt_of_pos _ (by decide))
include B
theorem ok_cell (D : Dfn K mg "_law_cell_at" s_l_cell_at p_l_cell_at) : Cal CX0 P w K mg base 1 "_law_cell_at" (spCellAt K) := by
  refine D.cal fun f fd F => F.ok sc_l_cell_at (fun vs H Q E h => ?_) (fun cdv A outer s H vs Q E hr h => ?_)
  · obtain ⟨a, ns, k, rfl, _⟩ := h
    rfl
  · obtain ⟨a, ns, k, rfl, hs, h0, h1, q⟩ := h
    refine ⟨_, (pss_cons (ps_if (pt_cmpR op_lt (pv 1) (pe_callB call_len_seq (by rfl) B.m_len PySem.boot_len (pa_cons (pv 0) pa_nil)) (nomark _)) (pss_one (ps_ret (pe_ix ix_list (pv 0) (pv 1) (fun _ _ => rfl)))) pss_nil)
      (pss_one (ps_ret (pe_op op_mul (pe_op op_mul (pe_op op_add (pv 1) pe_int) (pe_op op_add (pv 1) pe_int)) pe_int)))), ?_⟩
    refine ⟨_, rfl, _, rfl, a, _, rfl, .inl hs, k, _, rfl, rfl, _, rfl, ite2 (fun h => ?_) (fun h => ?_)⟩
    · have h := of_decide_eq_true h
      rw [List.length_map] at h
      obtain ⟨j, rfl⟩ : ∃ j : Nat, k = (j : Int) := ⟨k.toNat, by omega⟩
      have hj : j < ns.length := by omega
      refine ⟨_, rfl, _, rfl, a, _, _, .int ns[j], rfl, rfl, hs, atI_nat ?_, q _⟩
      rw [List.getElem?_map, List.getElem?_eq_getElem hj]
      rfl
    · refine ⟨_, rfl, k, 3, rfl, rfl, _, rfl, k, 7, rfl, rfl, _, _, rfl, rfl, .inl ⟨by omega, by omega⟩, _, _, rfl, rfl, .inr ⟨by decide, by decide⟩, q _⟩
end
end Rk
namespace Rk
open PySem PySem.Spec PyProof.Rows L2 Rw
abbrev s_l_signs : Stmt := topS 27
abbrev n_l_signs : List Str := ["_law_cell", "_law_letters", "_law_many", "_law_step", "_law_found", "_law_k"]
abbrev p_l_signs : List Str := ["_law_cell"]
theorem sc_l_signs : FnScope n_l_signs p_l_signs (defScope s_l_signs) := ⟨rfl, rfl, rfl, by decide +kernel, rfl, by decide +kernel, by decide +kernel⟩
def abc : List Nat := [97, 98, 99, 100, 101, 102, 103, 104, 105, 106, 107, 108, 109, 110, 111, 112, 113, 114, 115, 116, 117, 118, 119, 120, 121, 122]
theorem abc_is : ("abcdefghijklmnopqrstuvwxyz" : Str) = T abc := by decide +kernel
theorem abc_sg : Sg abc := by unfold Sg abc; decide +kernel
theorem pick_many {v : V} (h : v ∈ [V.int 1, V.int 2, V.int 2, V.int 3, V.int 2, V.int 4, V.int 5, V.int 26]) : ∃ n : Nat, v = .int (n : Int) ∧ 1 ≤ n ∧ n ≤ 26 := by
  simp only [List.mem_cons, List.not_mem_nil, or_false] at h
  rcases h with rfl | rfl | rfl | rfl | rfl | rfl | rfl | rfl
  · exact ⟨1, rfl, by decide, by decide⟩
  · exact ⟨2, rfl, by decide, by decide⟩
  · exact ⟨2, rfl, by decide, by decide⟩
  · exact ⟨3, rfl, by decide, by decide⟩
  · exact ⟨2, rfl, by decide, by decide⟩
  · exact ⟨4, rfl, by decide, by decide⟩
  · exact ⟨5, rfl, by decide, by decide⟩
  · exact ⟨26, rfl, by decide, by decide⟩
theorem pick_step {v : V} (h : v ∈ [V.int 1, V.int 3, V.int 5]) : ∃ n : Int, v = .int n ∧ 1 ≤ n ∧ n ≤ 5 := by
  simp only [List.mem_cons, List.not_mem_nil, or_false] at h
  rcases h with rfl | rfl | rfl
  · exact ⟨1, rfl, by decide, by decide⟩
  · exact ⟨3, rfl, by decide, by decide⟩
  · exact ⟨5, rfl, by decide, by decide⟩
/-- so many lists of one sign -/
def Ones (i : Nat) (acc : List V) : Prop := ∃ ls : List (List Nat), acc = tvs ls ∧ ls.length = i ∧ ∀ x ∈ ls, Sign1 x
theorem Ones.nil : Ones 0 [] := ⟨[], rfl, rfl, fun x hx => by simp at hx⟩
theorem Ones.snoc {i : Nat} {acc : List V} {c : Nat} (h : Ones i acc) (h1 : 97 ≤ c) (h2 : c ≤ 122) : Ones (i + 1) (acc ++ [tv [c]]) := by
  obtain ⟨ls, rfl, hl, ho⟩ := h
  refine ⟨ls ++ [[c]], by simp, by simp [hl], fun x hx => ?_⟩
  rcases List.mem_append.mp hx with z | z
  · exact ho x z
  · have : x = [c] := by simpa using z
    exact ⟨c, this, h1, h2⟩
section
variable {P : Program} {w : World} {K : PySem.W.Frag} {mg : Str → Option Value} {base : Heap} (B : Bt mg)
include B
theorem ok_signs (D : Dfn K mg "_law_signs" s_l_signs p_l_signs) (c__law_mixed : Cal CX0 P w K mg base 1 "_law_mixed" spMixed) : Cal CX0 P w K mg base 2 "_law_signs" spSigns := by
  refine D.cal fun f fd F => F.ok sc_l_signs (fun vs H Q E h => ?_) (fun cdv A outer s H vs Q E hr h => ?_)
  · obtain ⟨c, rfl, _⟩ := h
    rfl
  · obtain ⟨c, rfl, q⟩ := h
    refine ⟨_, (pss_cons (ps_set (i := 1) sc_l_signs.nd rfl (Or.inr rfl) pe_str)
      (pss_cons (ps_set (i := 2) sc_l_signs.nd rfl (Or.inl rfl) (pe_ix ix_list (pe_lst (pa_cons pe_int (pa_cons pe_int (pa_cons pe_int (pa_cons pe_int (pa_cons pe_int (pa_cons pe_int (pa_cons pe_int (pa_cons pe_int pa_nil))))))))) (pe_op op_mod (pe_op op_fdiv (pe_cal c__law_mixed hr (by decide) pass0 (pa_cons (pv 0) (pa_cons pe_int pa_nil))) pe_int) pe_int) (fun _ _ => rfl)))
      (pss_cons (ps_set (i := 3) sc_l_signs.nd rfl (Or.inr rfl) (pe_ix ix_list (pe_lst (pa_cons pe_int (pa_cons pe_int (pa_cons pe_int pa_nil)))) (pe_op op_mod (pe_op op_fdiv (pe_cal c__law_mixed hr (by decide) pass0 (pa_cons (pv 0) (pa_cons pe_int pa_nil))) pe_int) pe_int) (fun _ _ => rfl)))
      (pss_cons (ps_setLc (i := 4) (own := [("_law_k", 5)]) rfl sc_l_signs.nd rfl rfl (sw_true rfl rfl rfl (by decide +kernel)) (pi_range1 (by rfl) B.m_range (pa_cons (pv 2) pa_nil)) (blkOk_by (own := [("_law_k", 5)]) (N := n_l_signs) (sc := defScope s_l_signs) (by decide +kernel)) (fun _ _ _ _ _ => (pg_name (i := 5) sc_l_signs.nd rfl (Or.inl rfl))) (fun _ _ _ _ _ => pts_nil) (fun _ _ _ _ _ => (pe_ix ix_T (pv 1) (pe_op op_mod (pe_op op_add (pe_op op_fdiv (pe_cal c__law_mixed hr (by decide) pass0 (pa_cons (pv 0) (pa_cons pe_int pa_nil))) pe_int) (pe_op op_mul (pv 3) (pv 5))) pe_int) (fun _ _ => rfl))))
      (pss_one (ps_ret (pe_joinT pe_str (pe_callB cr_sortedS (by rfl) B.m_sorted (by decide +kernel) (pa_cons (pv 4) pa_nil))))))))), ?_⟩
    -- letters, many
    refine ⟨by decide, fun p1 np1 => ?_⟩
    refine ⟨_, rfl, c, 201, rfl, fun i h0 h1 => ?_⟩
    obtain ⟨d0, d1⟩ := draw7 h0 (by decide : (0 : Int) < 8)
    obtain ⟨v, hv, ha⟩ := at_some (xs := [V.int 1, V.int 2, V.int 2, V.int 3, V.int 2, V.int 4, V.int 5, V.int 26]) d0 d1
    obtain ⟨n, rfl, n1, n2⟩ := pick_many hv
    refine ⟨i, 7, rfl, rfl, ⟨by decide, by decide⟩, _, 8, rfl, rfl, (show (0 : Int) < 8 by decide), p1, _, _, _, rfl, rfl, SqL.of upd_same, ha, ?_⟩
    have s1 : Same H (upd H p1 (.lst [V.int 1, V.int 2, V.int 2, V.int 3, V.int 2, V.int 4, V.int 5, V.int 26])) := same_upd np1
    -- step
    refine ⟨by decide, fun p2 np2 => ?_⟩
    refine ⟨_, rfl, c, 202, rfl, fun i2 g0 g1 => ?_⟩
    obtain ⟨d0, d1⟩ := draw7 g0 (by decide : (0 : Int) < 3)
    obtain ⟨v, hv, ha⟩ := at_some (xs := [V.int 1, V.int 3, V.int 5]) d0 d1
    obtain ⟨st, rfl, t1, t2⟩ := pick_step hv
    refine ⟨i2, 7, rfl, rfl, ⟨by decide, by decide⟩, _, 3, rfl, rfl, (show (0 : Int) < 3 by decide), p2, _, _, _, rfl, rfl, SqL.of upd_same, ha, ?_⟩
    have s2 := s1.trans (same_upd (o := .lst [V.int 1, V.int 3, V.int 5]) np2)
    -- found
    refine ⟨_, rfl, _, rfl, by omega, by omega, fun Dl hD => ?_⟩
    refine lc_it walk_range (LcP _ Dl Ones) (lcp_start hD Ones.nil) (fun _ _ _ _ => trivial) ?_ ?_
    · rintro i x H2 H2' hi ⟨_, acc, e, hD2, hlen, ho⟩ ⟨rfl, rfl⟩
      have hi : i < n := hi
      refine ⟨rfl, keepAll ?_⟩
      refine ⟨_, rfl, _, rfl, c, 203, rfl, fun i3 k0 k1 => ?_⟩
      obtain ⟨d0, d1⟩ : 0 ≤ (i3 / 7 + st * ((0 : Int) + (i : Int))) % 26 ∧ (i3 / 7 + st * ((0 : Int) + (i : Int))) % 26 < 26 := ⟨Int.emod_nonneg _ (by decide), Int.emod_lt_of_pos _ (by decide)⟩
      obtain ⟨a, ha, hat⟩ := at_some (xs := abc) d0 d1
      refine ⟨i3, 7, rfl, rfl, ⟨by decide, by decide⟩, _, rfl, _, rfl, _, _, rfl, rfl, .inl ⟨by omega, by omega⟩, _, _, rfl, rfl, _, 26, rfl, rfl, (show (0 : Int) < 26 by decide), abc, _, a, ?_, rfl, by decide, hat, ?_⟩
      · rw [abc_is]
      · exact lcp_put hD e hD2 hlen (by omega) (Same.refl _) (ho.snoc (abc_sg a ha).1 (abc_sg a ha).2)
    · rintro H2 ⟨_, acc, e, hD2, _, ls, rfl, hl, ho⟩
      refine ⟨⟨_, rfl⟩, _, rfl, Dl, ls.map T, rfl, SqL.of (by rw [hD2, List.map_map]; rfl), by rw [List.length_map]; omega, fun ys p3 hp _ np3 => ?_⟩
      obtain ⟨ls', e1, e2, e3⟩ := sorted_one hp ho
      obtain ⟨f1, f2⟩ := flat_one e3
      refine ⟨p3, ls', rfl, rfl, SqL.of (by rw [upd_same, e1]), by omega, ?_⟩
      exact q _ _ ((s2.trans e).trans (same_upd np3)) (by omega) (by omega) f2
end
end Rk
namespace Rk
open PySem PySem.Spec PyProof.Rows L2 Rw
abbrev s_l_turnings : Stmt := topS 28
abbrev n_l_turnings : List Str := ["_law_word", "_law_k"]
abbrev p_l_turnings : List Str := ["_law_word"]
theorem sc_l_turnings : FnScope n_l_turnings p_l_turnings (defScope s_l_turnings) := ⟨rfl, rfl, rfl, by decide +kernel, rfl, by decide +kernel, by decide +kernel⟩
section
variable {P : Program} {w : World} {K : PySem.W.Frag} {mg : Str → Option Value} {base : Heap} (B : Bt mg)
include B
theorem ok_lturnings (D : Dfn K mg "_law_turnings" s_l_turnings p_l_turnings) : Cal CX0 P w K mg base 1 "_law_turnings" spLTurnings := by
  refine D.cal fun f fd F => F.ok sc_l_turnings (fun vs H Q E h => ?_) (fun cdv A outer s H vs Q E hr h => ?_)
  · obtain ⟨l, rfl, _⟩ := h
    rfl
  · obtain ⟨l, rfl, hn, q⟩ := h
    refine ⟨_, (pss_one (ps_ret (pe_lc (own := [("_law_k", 1)]) rfl sc_l_turnings.nd (pi_range1 (by rfl) B.m_range (pa_cons (pe_callB call_lenT (by rfl) B.m_len PySem.boot_len (pa_cons (pv 0) pa_nil)) pa_nil)) (blkOk_by (own := [("_law_k", 1)]) (N := n_l_turnings) (sc := defScope s_l_turnings) (by decide +kernel)) (fun _ _ _ _ _ => (pg_name (i := 1) sc_l_turnings.nd rfl (Or.inl rfl))) (fun _ _ _ _ _ => pts_nil) (fun _ _ _ _ _ => (pe_op op_addT (pe_slice sl_T (pv 0) (po_some (pv 1)) po_none) (pe_slice sl_T (pv 0) po_none (po_some (pv 1)))))))), ?_⟩
    refine ⟨_, rfl, l, rfl, by omega, _, rfl, by omega, by omega, fun Dl hD => ?_⟩
    refine lc_it walk_range (LcP H Dl fun i acc => acc = tvs ((List.range i).map (turn l))) (lcp_start hD rfl) (fun _ _ _ _ => trivial) ?_ ?_
    · rintro i x H2 H2' hi ⟨_, acc, e, hD2, hlen, rfl⟩ ⟨rfl, rfl⟩
      have hi : i < l.length := hi
      refine ⟨rfl, keepAll ?_⟩
      refine ⟨_, rfl, _, rfl, _, rfl, l, rfl, by omega, _, rfl, _, rfl, _, rfl, l, rfl, by omega, _, _, rfl, rfl, cut_le l _ hn, ?_⟩
      refine lcp_put hD e hD2 hlen (by omega) (Same.refl _) ?_
      rw [turn_step, cut_turn]
    · rintro H2 ⟨_, acc, e, hD2, _, rfl⟩
      exact q Dl H2 hD e hD2
end
end Rk
namespace Rk
open PySem PySem.Spec PyProof.Rows L2 Rw
abbrev s_l_early : Stmt := topS 29
abbrev n_l_early : List Str := ["_law_word", "_law_one"]
abbrev p_l_early : List Str := ["_law_word"]
theorem sc_l_early : FnScope n_l_early p_l_early (defScope s_l_early) := ⟨rfl, rfl, rfl, by decide +kernel, rfl, by decide +kernel, by decide +kernel⟩
theorem early_filter (l : List Nat) : decide ((turns l).tail.filter (fun o => !decide (l < o)) = []) = early l := by
  unfold early
  rw [Bool.eq_iff_iff, decide_eq_true_eq, List.filter_eq_nil_iff, List.all_eq_true]
  constructor
  · intro h o ho
    have := h o ho
    simpa using this
  · intro h o ho
    have := h o ho
    simpa using this
section
variable {P : Program} {w : World} {K : PySem.W.Frag} {mg : Str → Option Value} {base : Heap} (B : Bt mg)
include B
theorem ok_learly (D : Dfn K mg "_law_early" s_l_early p_l_early) (c__law_turnings : Cal CX0 P w K mg base 1 "_law_turnings" spLTurnings) : Cal CX0 P w K mg base 2 "_law_early" spLEarly := by
  refine D.cal fun f fd F => F.ok sc_l_early (fun vs H Q E h => ?_) (fun cdv A outer s H vs Q E hr h => ?_)
  · obtain ⟨l, rfl, _⟩ := h
    rfl
  · obtain ⟨l, rfl, hn, ho, q⟩ := h
    refine ⟨_, (pss_one (ps_ret (pe_cmpR (op_eqL hr.units) (pe_lc (own := [("_law_one", 1)]) rfl sc_l_early.nd (pi_list (pe_slice sl_list (pe_cal c__law_turnings hr (by decide) pass0 (pa_cons (pv 0) pa_nil)) (po_some pe_int) po_none)) (blkOk_by (own := [("_law_one", 1)]) (N := n_l_early) (sc := defScope s_l_early) (by decide +kernel)) (fun _ _ _ _ _ => (pg_name (i := 1) sc_l_early.nd rfl (Or.inl rfl))) (fun _ _ _ _ _ => (pts_one (pt_cmpR op_leT (pv 1) (pv 0) (nomark _)))) (fun _ _ _ _ _ => (pv 1))) (pe_lst pa_nil) (nomark _)))), ?_⟩
    refine ⟨_, rfl, l, rfl, hn, fun p H1 np e1 hp => ?_⟩
    refine ⟨1, rfl, p, tvs (turns l), rfl, SqL.of hp, fun p2 np2 => ?_⟩
    rw [turns_tail]
    have e2 := same_upd (o := .lst (tvs (turns l).tail)) np2
    refine ⟨p2, rfl, ⟨_, SqL.of upd_same⟩, fun Dl hD => ?_⟩
    have tl : (turns l).tail.length ≤ 1000 := by
      rw [List.length_tail, turns_len]
      omega
    refine lc_it walk_list (LcP _ Dl fun i acc => acc = tvs (((turns l).tail.take i).filter fun o => !decide (l < o))) (lcp_start hD rfl) (fun i H3 _ ⟨_, acc, e, _, _, _⟩ => SqL.of (e _ _ upd_same)) ?_ ?_
    · rintro i x H2 H2' hi ⟨_, acc, e, hD2, hlen, rfl⟩ ⟨rfl, hx⟩
      rw [List.length_map] at hi
      obtain ⟨z, hz⟩ : ∃ z, (turns l).tail[i]? = some z := ⟨_, List.getElem?_eq_getElem hi⟩
      rw [List.getElem?_map, hz] at hx
      have ex : tv z = x := Option.some.inj hx
      subst ex
      refine ⟨rfl, ?_⟩
      refine ⟨_, rfl, _, rfl, z, l, rfl, rfl, _, rfl, ?_⟩
      have step : ((turns l).tail.take (i + 1)).filter (fun o => !decide (l < o)) = ((turns l).tail.take i).filter (fun o => !decide (l < o)) ++ (if (!decide (l < z)) = true then [z] else []) := by
        rw [List.take_add_one, hz, List.filter_append]
        congr 1
        cases g : decide (l < z) <;> simp [g]
      cases g : decide (l < z) with
      | true =>
        refine iteF ?_
        refine lcp_skip hD e hD2 hlen (Same.refl _) ?_
        rw [step, g]
        simp
      | false =>
        refine iteT ?_
        refine ⟨_, rfl, ?_⟩
        refine lcp_put hD e hD2 hlen (by omega) (Same.refl _) ?_
        rw [step, g]
        exact (List.map_append (f := tv) (l₂ := [z])).symm
    · rintro H2 ⟨_, acc, e, hD2, _, rfl⟩
      rw [List.take_of_length_le (l := (turns l).tail) (by rw [List.length_map]; exact Nat.le_refl _)] at hD2
      refine ⟨(show 0 ≤ sizeLine by decide), fun p3 np3 => ?_⟩
      have k3 := same_upd (o := .lst []) np3
      refine ⟨Dl, p3, _, [], rfl, rfl, SqL.of (k3 _ _ hD2), SqL.of upd_same, (fun x hx => ?_), (fun x hx => nomatch hx), ?_⟩
      · exact ok_turns ho x (List.mem_of_mem_tail (List.mem_filter.mp hx).1)
      · show Q (.bl (decide _)) _
        rw [early_filter]
        exact q _ (((e1.trans e2).trans e).trans k3)
end
end Rk
namespace Rk
open PySem PySem.Spec PyProof.Rows L2 Rw
abbrev s_l_long : Stmt := topS 30
abbrev n_l_long : List Str := ["_law_script", "_law_cell", "_law_signs_here", "_law_cells", "_law_k", "_law_one"]
abbrev p_l_long : List Str := ["_law_script", "_law_cell"]
theorem sc_l_long : FnScope n_l_long p_l_long (defScope s_l_long) := ⟨rfl, rfl, rfl, by decide +kernel, rfl, by decide +kernel, by decide +kernel⟩
def spLong (K : PySem.W.Frag) : Sp := fun vs H Q _ => ∃ (a : Addr) (ns : List Int) (c : Int), vs = [.ref a, .int c] ∧ SqL K H a (ns.map V.int) ∧ ns.length ≤ 63 ∧ ∀ l H', Same H H' → Wd l → Q (tv l) H'
section
variable {P : Program} {w : World} {K : PySem.W.Frag} {mg : Str → Option Value} {base : Heap} (B : Bt mg)
include B
theorem ok_long (D : Dfn K mg "_law_long" s_l_long p_l_long) (c__law_mixed : Cal CX0 P w K mg base 1 "_law_mixed" spMixed) (c__law_signs : Cal CX0 P w K mg base 2 "_law_signs" spSigns) : Cal CX0 P w K mg base 3 "_law_long" (spLong K) := by
  refine D.cal fun f fd F => F.ok sc_l_long (fun vs H Q E h => ?_) (fun cdv A outer s H vs Q E hr h => ?_)
  · obtain ⟨a, ns, c, rfl, _⟩ := h
    rfl
  · obtain ⟨a, ns, c, rfl, hS, h63, q⟩ := h
    refine ⟨_, (pss_cons (ps_set (i := 2) sc_l_long.nd rfl (Or.inr rfl) (pe_slice sl_T (pe_cal c__law_signs hr (by decide) pass0 (pa_cons (pv 1) pa_nil)) po_none (po_some pe_int)))
      (pss_cons (ps_set (i := 3) sc_l_long.nd rfl (Or.inl rfl) (pe_slice sl_list (pe_op op_cat (pe_lst (pa_cons pe_int pa_nil)) (pe_callTy call_list_of (by rfl) B.m_list (by decide +kernel) (pa_cons (pv 0) pa_nil))) po_none (po_some pe_int)))
      (pss_one (ps_ret (pe_joinT pe_str (pe_lc (own := [("_law_k", 4), ("_law_one", 5)]) (g := gTup K 2 (gCons (gName 4) (gCons (gName 5) gNil))) rfl sc_l_long.nd (pi_enum (by rfl) B.m_enumerate (pa_cons (pv 3) pa_nil)) (blkOk_by (own := [("_law_k", 4), ("_law_one", 5)]) (N := n_l_long) (sc := defScope s_l_long) (by decide +kernel)) (fun _ _ _ _ _ => (pg_tup rfl (pgs_cons (pg_name (i := 4) sc_l_long.nd rfl (Or.inl rfl)) (pgs_cons (pg_name (i := 5) sc_l_long.nd rfl (Or.inl rfl)) pgs_nil)))) (fun _ _ _ _ _ => pts_nil) (fun _ _ _ _ _ => (pe_ix ix_T (pv 2) (pe_op op_mod (pe_op op_fdiv (pe_cal c__law_mixed hr (by decide) pass0 (pa_cons (pv 5) (pa_cons (pe_op op_add pe_int (pv 4)) pa_nil))) pe_int) (pe_callB call_lenT (by rfl) B.m_len PySem.boot_len (pa_cons (pv 2) pa_nil))) (fun _ _ => rfl))))))))), ?_⟩
    refine ⟨_, rfl, c, rfl, fun s0 H1 e1 s1 s2 sg => ?_⟩
    refine ⟨4, rfl, s0, rfl, by omega, ?_⟩
    have e4 : cutL s0 none (some 4) = s0.take 4 := cutL_to s0 4
    rw [e4]
    have t1 : 1 ≤ (s0.take 4).length := by rw [List.length_take]; omega
    have t2 : (s0.take 4).length ≤ 4 := by rw [List.length_take]; omega
    have tg : Sg (s0.take 4) := sg.sub fun c hc => List.mem_of_mem_take hc
    generalize s0.take 4 = t at t1 t2 tg ⊢
    refine ⟨(show 1 ≤ sizeLine by decide), fun p1 n1 => ?_⟩
    have k1 := same_upd (o := .lst [V.int 3]) n1
    refine ⟨_, rfl, a, ns.map V.int, rfl, .inl ((e1.trans k1).seq hS), fun p2 n2 => ?_⟩
    have k2 := same_upd (o := .lst (ns.map V.int)) n2
    refine ⟨p1, p2, _, _, rfl, rfl, k2 _ _ upd_same, upd_same, by rw [List.length_map]; exact big (by show 1 + _ ≤ _; omega), fun p3 n3 => ?_⟩
    have e3 : [V.int 3] ++ ns.map V.int = (3 :: ns).map V.int := rfl
    rw [e3]
    have k3 := same_upd (o := .lst ((3 :: ns).map V.int)) n3
    refine ⟨300, rfl, p3, _, rfl, SqL.of upd_same, fun p4 n4 => ?_⟩
    have e5 : cutV ((3 :: ns).map V.int) none (some 300) = ((3 :: ns).take 300).map V.int := by
      have z : cutV ((3 :: ns).map V.int) none (some ((300 : Nat) : Int)) = ((3 :: ns).map V.int).take 300 := cutL_to _ 300
      rw [show ((300 : Nat) : Int) = 300 from rfl] at z
      rw [z, List.map_take]
    rw [e5]
    have u1 : 1 ≤ ((3 :: ns).take 300).length := by rw [List.length_take, List.length_cons]; omega
    have u2 : ((3 :: ns).take 300).length ≤ 64 := by rw [List.length_take, List.length_cons]; omega
    generalize (3 :: ns).take 300 = us at u1 u2 ⊢
    have k4 := same_upd (o := .lst (us.map V.int)) n4
    have kk := (e1.trans (k1.trans (k2.trans k3))).trans k4
    refine ⟨⟨_, rfl⟩, _, rfl, p4, us.map V.int, rfl, SqL.of upd_same, fun Dl hD => ?_⟩
    refine lc_it walk_enum (LcP _ Dl Ones) (lcp_start hD Ones.nil) (fun i H3 _ ⟨_, acc, e, _, _, _⟩ => SqL.of (e _ _ upd_same)) ?_ ?_
    · rintro i x H2 H2' hi ⟨_, acc, e, hD2, hlen, ho⟩ ⟨Ta, x1, y1, rfl, nT, rfl, hx, hy⟩
      rw [List.length_map] at hi
      have ex : V.int ((i : Nat) : Int) = x1 := Option.some.inj hx
      dsimp only at hy
      obtain ⟨z, hz⟩ : ∃ z, us[i]? = some z := ⟨_, List.getElem?_eq_getElem hi⟩
      rw [List.getElem?_map, hz] at hy
      have ey : V.int z = y1 := Option.some.inj hy
      subst ex ey
      refine ⟨Ta, _, rfl, .inl (.inl upd_same), rfl, _, _, rfl, _, _, rfl, rfl, rfl, keepAll ?_⟩
      refine ⟨_, rfl, _, rfl, _, rfl, _, _, rfl, rfl, z, _, rfl, fun i3 g0 g1 => ?_⟩
      have ht0 : (0 : Int) < (t.length : Nat) := by omega
      obtain ⟨d0, d1⟩ := draw7 g0 ht0
      obtain ⟨y, hy, hyt⟩ := at_some (xs := t) d0 d1
      refine ⟨i3, 7, rfl, rfl, ⟨by decide, by decide⟩, _, rfl, t, rfl, by omega, _, _, rfl, rfl, ht0, t, _, y, rfl, rfl, by omega, hyt, ?_⟩
      exact lcp_put hD e hD2 hlen (by omega) (same_upd nT) (ho.snoc (tg y hy).1 (tg y hy).2)
    · rintro H2 ⟨_, acc, e, hD2, _, ls, rfl, hl, ho⟩
      rw [List.length_map] at hl
      obtain ⟨f1, f2⟩ := flat_one ho
      refine ⟨Dl, ls, rfl, rfl, SqL.of hD2, by omega, ?_⟩
      exact q _ _ (kk.trans e) ⟨by omega, by omega, f2⟩
end
end Rk
namespace Rw
open PySem PySem.Spec PyProof.Rows L2
theorem turn0 (l : List Nat) : turn l 0 = l := by
  unfold turn
  rw [List.drop_zero, List.take_zero, List.append_nil]
theorem turnN (l : List Nat) : turn l l.length = l := by
  unfold turn
  rw [List.drop_length, List.take_length, List.nil_append]
theorem turn_mem {l : List Nat} {k : Nat} (h1 : 1 ≤ l.length) (h : k ≤ l.length) : turn l k ∈ turns l := by
  by_cases g : k < l.length
  · exact List.mem_map.mpr ⟨k, List.mem_range.mpr g, rfl⟩
  · rw [show k = l.length from by omega, turnN]
    exact List.mem_map.mpr ⟨0, List.mem_range.mpr (by omega), turn0 l⟩
theorem turns_trans {x y z : List Nat} (h : x ∈ turns y) (g : y ∈ turns z) : x ∈ turns z := by
  obtain ⟨a, ha, rfl⟩ := List.mem_map.mp h
  obtain ⟨b, hb, rfl⟩ := List.mem_map.mp g
  have ha := List.mem_range.mp ha
  have hb := List.mem_range.mp hb
  rw [turn_len] at ha
  show turn (turn z b) a ∈ _
  rw [turn_turn (by omega) (by omega)]
  by_cases k : b + a ≤ z.length
  · rw [if_pos k]
    exact turn_mem (by omega) k
  · rw [if_neg k]
    exact turn_mem (by omega) (by omega)
theorem turns_sym {x y : List Nat} (h : x ∈ turns y) : y ∈ turns x := by
  obtain ⟨a, ha, rfl⟩ := List.mem_map.mp h
  have ha := List.mem_range.mp ha
  have e : turn (turn y a) (y.length - a) = y := by
    rw [turn_turn (by omega) (by omega), if_pos (by omega), show a + (y.length - a) = y.length from by omega, turnN]
  have := turn_mem (l := turn y a) (k := y.length - a) (by rw [turn_len]; omega) (by rw [turn_len]; omega)
  rw [e] at this
  exact this
theorem turns_nil {l : List Nat} (h : 1 ≤ l.length) : turns l ≠ [] := fun z => by
  have := congrArg List.length z
  rw [turns_len] at this
  have q : l.length = 0 := this
  omega
theorem ring_iff {l m : List Nat} (hl : 1 ≤ l.length) (hm : 1 ≤ m.length) : m ∈ turns l ↔ minT (turns l) = minT (turns m) := by
  have a1 := minT_mem (turns_nil hl)
  have a2 := minT_mem (turns_nil hm)
  constructor
  · intro h
    have b1 := minT_le _ (turns_trans a2 h)
    have b2 := minT_le _ (turns_trans a1 (turns_sym h))
    rcases tri (minT (turns l)) (minT (turns m)) with q | q | q
    · exact absurd q b2
    · exact q
    · exact absurd q b1
  · intro h
    rw [← h] at a2
    exact turns_trans (turns_sym a2) a1
theorem turn_beats {l : List Nat} {d : Nat} (hd : d ≤ l.length) (h : turn l d = l) : beats l d := fun i a b ha hb => by
  have hi : i + d < l.length := (List.getElem?_eq_some_iff.mp hb).1
  have e : l[i]? = l[i + d]? := by
    have z : (turn l d)[i]? = l[i]? := by rw [h]
    rw [← z]
    unfold turn
    rw [List.getElem?_append_left (by rw [List.length_drop]; omega), List.getElem?_drop, Nat.add_comm]
  rw [ha, hb] at e
  exact Option.some.inj e
theorem again_turns {m l : List Nat} {d : Nat} (hm : 1 ≤ m.length) (hd : 1 ≤ d) (ha : againB m d = true) (h : l ∈ turns m) : againB l d = true := by
  have hA := again_of hm hd ha
  have e1 := again_turn hA
  obtain ⟨_, hv⟩ := again_beats hm hd ha
  obtain ⟨b, hb, rfl⟩ := List.mem_map.mp h
  have hb := List.mem_range.mp hb
  have hdm := hA.2.1
  have e2 : turn (turn m b) d = turn m b := by
    have c := turn_turn (l := m) (a := d) (b := b) hdm (by omega)
    rw [e1] at c
    rw [turn_turn (by omega) hdm, Nat.add_comm b d, ← c]
  have hl : (turn m b).length = m.length := turn_len m b
  have hbt := turn_beats (l := turn m b) (by rw [hl]; exact hdm) e2
  have hr := beats_rep (m.length / d) (turn m b) d hd (by rw [hl]; exact (Nat.div_mul_cancel hv).symm) hbt
  exact of_again ⟨hd, by rw [hl]; exact hdm, _, hr.symm⟩
theorem root_ring {l m : List Nat} (hm : 1 ≤ m.length) (h : l ∈ turns m) : rootLen l = rootLen m := by
  have hl : 1 ≤ l.length := by
    obtain ⟨b, hb, rfl⟩ := List.mem_map.mp h
    show 1 ≤ (turn m b).length
    rw [turn_len]
    exact hm
  obtain ⟨a1, _, a3, a4⟩ := rootLen_spec hm
  obtain ⟨b1, _, b3, b4⟩ := rootLen_spec hl
  exact Nat.le_antisymm (b4 _ a1 (again_turns hm a1 a3 h)) (a4 _ b1 (again_turns hl b1 b3 (turns_sym h)))
theorem rep_rep (v : List Nat) (b : Nat) : ∀ a, (List.replicate a (List.replicate b v).flatten).flatten = (List.replicate (a * b) v).flatten
  | 0 => by simp
  | a + 1 => by
    rw [List.replicate_succ, List.flatten_cons, rep_rep v b a, Nat.succ_mul, Nat.add_comm (a * b) b, rep_app]
theorem root_root {l : List Nat} (h : 1 ≤ l.length) : rootLen (l.take (rootLen l)) = rootLen l := by
  obtain ⟨a1, a2, a3, a4⟩ := rootLen_spec h
  have hu : (l.take (rootLen l)).length = rootLen l := by rw [List.length_take]; omega
  obtain ⟨b1, b2, b3, _⟩ := rootLen_spec (l := l.take (rootLen l)) (by omega)
  obtain ⟨_, _, n, hn⟩ := again_of h a1 a3
  obtain ⟨_, _, k, hk⟩ := again_of (by omega) b1 b3
  rw [hu] at b2
  have := a4 _ b1 (of_again ⟨b1, by omega, n * k, by
    have e : l.take (rootLen (l.take (rootLen l))) = (l.take (rootLen l)).take (rootLen (l.take (rootLen l))) := by rw [List.take_take, Nat.min_eq_left b2]
    rw [e, ← rep_rep, hk, hn]⟩)
  omega
theorem max_last : ∀ (xs : List Nat) (n : Nat), (n :: xs).Pairwise (· < ·) → (n :: xs).getLast (by simp) = xs.foldl max n
  | [], n, _ => rfl
  | x :: r, n, h => by
    obtain ⟨h1, h2⟩ := List.pairwise_cons.mp h
    have := h1 x List.mem_cons_self
    rw [List.getLast_cons (by simp), List.foldl_cons, show max n x = x from by omega]
    exact max_last r x h2
theorem borders_rise (l : List Nat) : (0 :: bordersOf l).Pairwise (· < ·) := by
  refine List.pairwise_cons.mpr ⟨fun k hk => ?_, ?_⟩
  · have := (mem_borders.mp hk).1
    omega
  · unfold bordersOf
    exact (List.pairwise_map.mpr (List.pairwise_lt_range.imp fun h => by omega)).filter _
theorem borders_last (l : List Nat) : atI ([V.int 0] ++ ivs (bordersOf l)) (-1) = some (.int ((bordersOf l).foldl max 0 : Nat)) := by
  have e : [V.int 0] ++ ivs (bordersOf l) = (0 :: bordersOf l).map fun n => V.int ((n : Nat) : Int) := rfl
  have d := List.dropLast_concat_getLast (l := 0 :: bordersOf l) (by simp)
  rw [max_last _ _ (borders_rise l)] at d
  rw [e, ← d, List.map_append]
  exact atI_last _ _
end Rw
namespace Rw
open PySem PySem.Spec PyProof.Rows L2
def spPair : Sp := fun vs H Q _ => ∃ l m : List Nat, vs = [tv l, tv m] ∧ Wd l ∧ Wd m ∧ ∀ H', Same H H' → Q (.bl true) H'
def spAlone : Sp := fun vs H Q _ => ∃ l : List Nat, vs = [tv l] ∧ Wd l ∧ ∀ H', Same H H' → Q (.bl true) H'
theorem Wd.turn {l x : List Nat} (h : Wd l) (hx : x ∈ turns l) : Wd x := by
  obtain ⟨k, _, rfl⟩ := List.mem_map.mp hx
  refine ⟨?_, ?_, fun c hc => ?_⟩
  · show 1 ≤ (Rw.turn l k).length
    rw [turn_len]
    exact h.1
  · show (Rw.turn l k).length ≤ 300
    rw [turn_len]
    exact h.2.1
  · rcases List.mem_append.mp hc with r | r
    · exact h.2.2 c (List.mem_of_mem_drop r)
    · exact h.2.2 c (List.mem_of_mem_take r)
end Rw
namespace Rk
open PySem PySem.Spec PyProof.Rows L2 Rw
abbrev s_l_pair : Stmt := topS 31
abbrev n_l_pair : List Str := ["_law_one", "_law_other", "_law_steps"]
abbrev p_l_pair : List Str := ["_law_one", "_law_other"]
theorem sc_l_pair : FnScope n_l_pair p_l_pair (defScope s_l_pair) := ⟨rfl, rfl, rfl, by decide +kernel, rfl, by decide +kernel, by decide +kernel⟩
abbrev s_l_alone : Stmt := topS 32
abbrev n_l_alone : List Str := ["_law_word", "_law_form", "_law_base", "_law_times", "_law_step", "_law_due"]
abbrev p_l_alone : List Str := ["_law_word"]
theorem sc_l_alone : FnScope n_l_alone p_l_alone (defScope s_l_alone) := ⟨rfl, rfl, rfl, by decide +kernel, rfl, by decide +kernel, by decide +kernel⟩
section
variable {P : Program} {w : World} {K : PySem.W.Frag} {mg : Str → Option Value} {base : Heap} {cN : Addr} (B : Bt mg)
include B
theorem ok_lpair (D : Dfn K mg "_law_pair" s_l_pair p_l_pair) (c_steps_between : Cal (L2.CX P w) P w K mg base 4 "steps_between" (spSteps K cN)) (c_least_form : Cal (L2.CX P w) P w K mg base 4 "least_form" (spLeastForm K cN))
    (c_turned : Cal (L2.CX P w) P w K mg base 3 "turned" (spTurned K cN)) : Cal CX0 P w K mg base 6 "_law_pair" spPair := by
  refine D.cal fun f fd F => F.ok sc_l_pair (fun vs H Q E h => ?_) (fun cdv A outer st H vs Q E hr h => ?_)
  · obtain ⟨l, m, rfl, _⟩ := h
    rfl
  · obtain ⟨l, m, rfl, hl, hm, q⟩ := h
    refine ⟨_, (pss_cons (ps_set (i := 2) sc_l_pair.nd rfl (Or.inl rfl) (pe_cal c_steps_between hr (by decide) passL (pa_cons (pv 0) (pa_cons (pv 1) pa_nil))))
      (pss_cons (ps_if (pt_cmpR op_ne (pe_cmpR op_isN (pv 2) pe_non (nomark _)) (pe_cmpR op_neT (pe_cal c_least_form hr (by decide) passL (pa_cons (pv 0) pa_nil)) (pe_cal c_least_form hr (by decide) passL (pa_cons (pv 1) pa_nil)) (nomark _)) (nomark _)) (pss_one (ps_ret pe_bl)) pss_nil)
      (pss_one (ps_ret (pe_or (pe_cmpR op_isN (pv 2) pe_non (nomark _)) (pe_one (pe_and (pe_cmpR op_eqT (pe_cal c_turned hr (by decide) passL (pa_cons (pv 0) (pa_cons (pv 2) pa_nil))) (pv 1) (nomark _)) (pe_one (pe_cmpR op_eqT (pe_cal c_turned hr (by decide) passL (pa_cons (pv 1) (pa_cons (pe_un un_neg (pv 2)) pa_nil))) (pv 0) (nomark _)))))))))), ?_⟩
    have hi := ring_iff hl.1 hm.1
    refine ⟨_, rfl, _, rfl, tv l, tv m, true, true, rfl, .word hl, .word hm, (fun e => nomatch e), fun l' m' _ e1 e2 _ _ H1 k1 => ?_⟩
    cases tv_inj e1
    cases tv_inj e2
    by_cases g : m ∈ turns l
    · have es : stepsV l m = .int ((turns l).idxOf m : Nat) := if_pos g
      rw [es]
      have hj := (idx_first (turns l) m g).1
      generalize (turns l).idxOf m = j at *
      have hjl : j < l.length := by
        have := (List.getElem?_eq_some_iff.mp hj).1
        rwa [turns_len] at this
      have ht : turn l j = m := by
        unfold turns at hj
        rw [List.getElem?_map, List.getElem?_range hjl] at hj
        exact Option.some.inj hj
      have g2 := hi.mp g
      refine ⟨_, rfl, rfl, _, rfl, tv l, true, [], rfl, rfl, .word hl, (fun e => nomatch e), fun l' _ el _ H2 k2 => ?_⟩
      cases tv_inj el
      refine ⟨_, rfl, tv m, true, [], rfl, rfl, .word hm, (fun e => nomatch e), fun l' _ el _ H3 k3 => ?_⟩
      cases tv_inj el
      refine ⟨_, _, rfl, rfl, rfl, false, by rw [g2]; simp, iteF ?_⟩
      refine ⟨_, rfl, rfl, false, by simp, iteF ?_⟩
      refine ⟨_, rfl, _, rfl, tv l, true, [.int (j : Nat)], rfl, rfl, .word hl, (fun e => nomatch e), fun l' _ el _ => ⟨_, rfl, fun H4 k4 => ?_⟩⟩
      cases tv_inj el
      have e1 : (((j : Nat) : Int) % ((l.length : Nat) : Int)).toNat = j := by
        rw [Int.emod_eq_of_lt (by omega) (by omega)]
        omega
      rw [e1, ht]
      refine ⟨_, rfl, m, m, rfl, rfl, true, by simp, iteT ?_⟩
      refine ⟨_, rfl, _, rfl, _, rfl, tv m, true, [.int (-(j : Nat) : Int)], rfl, rfl, .word hm, (fun e => nomatch e), fun l' _ el _ => ⟨_, rfl, fun H5 k5 => ?_⟩⟩
      cases tv_inj el
      have ml : m.length = l.length := by rw [← ht, turn_len]
      have e2 : turn m ((-((j : Nat) : Int)) % ((m.length : Nat) : Int)).toNat = l := by
        rw [ml]
        by_cases j0 : j = 0
        · subst j0
          rw [← ht, turn0]
          show turn l ((-(0 : Int)) % _).toNat = l
          rw [Int.neg_zero, Int.zero_emod]
          exact turn0 l
        · have : ((-((j : Nat) : Int)) % ((l.length : Nat) : Int)).toNat = l.length - j := by
            have h1 : (-((j : Nat) : Int)) % ((l.length : Nat) : Int) = ((l.length - j : Nat) : Int) := by
              rw [← Int.add_emod_right, show -((j : Nat) : Int) + ((l.length : Nat) : Int) = ((l.length - j : Nat) : Int) from by omega]
              exact Int.emod_eq_of_lt (by omega) (by omega)
            rw [h1]
            omega
          rw [this, ← ht, turn_turn (by omega) (by omega), if_pos (by omega), show j + (l.length - j) = l.length from by omega, turnN]
      rw [e2]
      refine ⟨_, rfl, l, l, rfl, rfl, ?_⟩
      rw [decide_eq_true rfl]
      exact q H5 ((((k1.trans k2).trans k3).trans k4).trans k5)
    · have es : stepsV l m = .non := if_neg g
      rw [es]
      have g2 : ¬ minT (turns l) = minT (turns m) := fun z => g (hi.mpr z)
      refine ⟨_, rfl, rfl, _, rfl, tv l, true, [], rfl, rfl, .word hl, (fun e => nomatch e), fun l' _ el _ H2 k2 => ?_⟩
      cases tv_inj el
      refine ⟨_, rfl, tv m, true, [], rfl, rfl, .word hm, (fun e => nomatch e), fun l' _ el _ H3 k3 => ?_⟩
      cases tv_inj el
      refine ⟨_, _, rfl, rfl, rfl, false, by rw [decide_eq_false g2]; simp, iteF ?_⟩
      refine ⟨_, rfl, rfl, true, by simp, iteT ?_⟩
      exact q H3 ((k1.trans k2).trans k3)
end
end Rk
namespace Rk
open PySem PySem.Spec PyProof.Rows L2 Rw
theorem beat_len {l : List Nat} : beatOf l + (bordersOf l).foldl max 0 = l.length := by
  unfold beatOf
  have : (bordersOf l).foldl max 0 ≤ l.length := by
    rcases foldMax_mem (bordersOf l) 0 with h | h
    · omega
    · have := (mem_borders.mp h).1
      omega
  omega
theorem rep_one (t : Nat) (u : List Nat) : (List.replicate t [tv u]).flatten = tvs (List.replicate t u) := by
  induction t with
  | zero => rfl
  | succ t ih =>
    rw [List.replicate_succ, List.flatten_cons, ih, List.replicate_succ]
    rfl
section
variable {P : Program} {w : World} {K : PySem.W.Frag} {mg : Str → Option Value} {base : Heap} {cN : Addr} (B : Bt mg)
include B
theorem ok_lalone (D : Dfn K mg "_law_alone" s_l_alone p_l_alone) (c_least_form : Cal (L2.CX P w) P w K mg base 4 "least_form" (spLeastForm K cN)) (c_least_turn : Cal (L2.CX P w) P w K mg base 4 "least_turn" (spLeastTurn K cN))
    (c_turned : Cal (L2.CX P w) P w K mg base 3 "turned" (spTurned K cN)) (c_root : Cal (L2.CX P w) P w K mg base 5 "root" (spRoot K cN)) (c_pieces : Cal (L2.CX P w) P w K mg base 4 "pieces" (spPieces K cN))
    (c_beat : Cal (L2.CX P w) P w K mg base 4 "beat" (spBeat K cN)) (c_borders : Cal (L2.CX P w) P w K mg base 3 "borders" (spBorders K cN)) (c__law_turnings : Cal CX0 P w K mg base 1 "_law_turnings" spLTurnings) (c__law_early : Cal CX0 P w K mg base 2 "_law_early" spLEarly) : Cal CX0 P w K mg base 6 "_law_alone" spAlone := by
  refine D.cal fun f fd F => F.ok sc_l_alone (fun vs H Q E h => ?_) (fun cdv A outer st H vs Q E hr h => ?_)
  · obtain ⟨l, rfl, _⟩ := h
    rfl
  · obtain ⟨l, rfl, hl, q⟩ := h
    refine ⟨_, (pss_cons (ps_set (i := 1) sc_l_alone.nd rfl (Or.inl rfl) (pe_cal c_least_form hr (by decide) passL (pa_cons (pv 0) pa_nil)))
      (pss_cons (ps_if (PW.pt (pw_or (pt_cmpR op_neT (pv 1) (pe_callB (cr_minL rfl hr.units) (by rfl) B.m_min (by decide +kernel) (pa_cons (pe_cal c__law_turnings hr (by decide) pass0 (pa_cons (pv 0) pa_nil)) pa_nil)) (nomark _)) (pw_or1 (pt_cmpR op_neT (pe_cal c_turned hr (by decide) passL (pa_cons (pv 0) (pa_cons (pe_cal c_least_turn hr (by decide) passL (pa_cons (pv 0) pa_nil)) pa_nil))) (pv 1) (nomark _))))) (pss_one (ps_ret pe_bl)) pss_nil)
      (pss_cons (ps_asg (pe_cal c_root hr (by decide) passL (pa_cons (pv 1) pa_nil)) (pg_tup rfl (pgs_cons (pg_name (i := 2) sc_l_alone.nd rfl (Or.inl rfl)) (pgs_cons (pg_name (i := 3) sc_l_alone.nd rfl (Or.inl rfl)) pgs_nil))))
      (pss_cons (ps_if (PW.pt (pw_or (pt_not (pt_val (pe_cal c__law_early hr (by decide) pass0 (pa_cons (pv 2) pa_nil)))) (pw_or (pt_cmpR op_neT (pe_op op_rep_str (pv 2) (pv 3)) (pv 1) (nomark _)) (pw_or1 (pt_cmpR (op_neL hr.units) (pe_cal c_pieces hr (by decide) passL (pa_cons (pv 1) pa_nil)) (pe_op op_rep (pe_lst (pa_cons (pv 2) pa_nil)) (pv 3)) (nomark _)))))) (pss_one (ps_ret pe_bl)) pss_nil)
      (pss_cons (ps_set (i := 4) sc_l_alone.nd rfl (Or.inl rfl) (pe_cal c_beat hr (by decide) passL (pa_cons (pv 0) pa_nil)))
      (pss_cons (ps_set (i := 5) sc_l_alone.nd rfl (Or.inl rfl) (pe_cal c_borders hr (by decide) passL (pa_cons (pv 0) pa_nil)))
      (pss_cons (ps_if (pt_cmpR op_ne (pe_op op_add (pv 4) (pe_ix ix_list (pe_op op_cat (pe_lst (pa_cons pe_int pa_nil)) (pv 5)) (pe_un un_neg pe_int) (fun _ _ => rfl))) (pe_callB call_lenT (by rfl) B.m_len PySem.boot_len (pa_cons (pv 0) pa_nil)) (nomark _)) (pss_one (ps_ret pe_bl)) pss_nil)
      (pss_one (ps_ret (pe_and (pe_cmpR op_eq (pe_ix ix_tup (pe_cal c_root hr (by decide) passL (pa_cons (pv 0) pa_nil)) pe_int (fun _ _ => rfl)) (pv 3) (nomark _)) (pe_one (pe_cmpR (op_eqTF hr.units) (pe_cal c_root hr (by decide) passL (pa_cons (pe_ix ix_tup (pe_cal c_root hr (by decide) passL (pa_cons (pv 0) pa_nil)) pe_int (fun _ _ => rfl)) pa_nil)) (pe_tup (pa_cons (pe_ix ix_tup (pe_cal c_root hr (by decide) passL (pa_cons (pv 0) pa_nil)) pe_int (fun _ _ => rfl)) (pa_cons pe_int pa_nil))) (nomark _))))))))))))), ?_⟩
    have l300 := hl.2.1
    have mem := minT_mem (turns_ne hl)
    have hm : Wd (minT (turns l)) := hl.turn mem
    obtain ⟨t1, t2, t3, t4⟩ := least_root hm.1 (min_least hl.1)
    have erm := rootOf_eq hm.1
    have erl := rootOf_eq hl.1
    have err := root_ring hl.1 mem
    have hlen : (minT (turns l)).length = l.length := by
      obtain ⟨k, _, e⟩ := List.mem_map.mp mem
      rw [← e]
      exact turn_len l k
    have ej : turn l (((turns l).idxOf (minT (turns l)) : Nat) : Int).toNat = minT (turns l) ∧ (turns l).idxOf (minT (turns l)) < l.length := by
      have hj := (idx_first (turns l) _ mem).1
      have hjl : (turns l).idxOf (minT (turns l)) < l.length := by
        have := (List.getElem?_eq_some_iff.mp hj).1
        rwa [turns_len] at this
      refine ⟨?_, hjl⟩
      rw [Int.toNat_natCast]
      generalize (turns l).idxOf (minT (turns l)) = j at *
      unfold turns at hj
      rw [List.getElem?_map, List.getElem?_range hjl] at hj
      exact Option.some.inj hj
    have ht2 : l.length / rootLen l = (minT (turns l)).length / rootLen (minT (turns l)) := by rw [hlen, err]
    have hwu : Wd ((minT (turns l)).take (rootLen (minT (turns l)))) := ⟨len_pos t2, by rw [List.length_take]; omega, fun c hc => hm.2.2 c (List.mem_of_mem_take hc)⟩
    have htl : (minT (turns l)).length / rootLen (minT (turns l)) ≤ 300 := Nat.le_trans (Nat.div_le_self _ _) (by omega)
    have hul : Wd (l.take (rootLen l)) := by
      obtain ⟨r1, r2, _, _⟩ := rootLen_spec hl.1
      exact ⟨by rw [List.length_take]; omega, by rw [List.length_take]; omega, fun c hc => hl.2.2 c (List.mem_of_mem_take hc)⟩
    have eru : rootOf (l.take (rootLen l)) = (l.take (rootLen l), 1) := by
      obtain ⟨r1, r2, _, _⟩ := rootLen_spec hl.1
      have lu : (l.take (rootLen l)).length = rootLen l := by rw [List.length_take]; omega
      rw [rootOf_eq hul.1, root_root hl.1, lu, Nat.div_self (by omega), List.take_take, Nat.min_self]
    refine ⟨_, rfl, tv l, true, [], rfl, rfl, .word hl, (fun e => nomatch e), fun l' _ el _ H1 k1 => ?_⟩
    cases tv_inj el
    refine ⟨_, rfl, _, rfl, l, rfl, by omega, fun p H2 np k2 hp => ⟨p, turns l, rfl, SqL.of hp, turns_ne hl, _, _, rfl, rfl, false, by simp, iteF ?_⟩⟩
    refine ⟨_, rfl, _, rfl, tv l, true, [], rfl, rfl, .word hl, (fun e => nomatch e), fun l' _ el _ H3 k3 => ?_⟩
    cases tv_inj el
    refine ⟨tv l, true, [.int ((turns l).idxOf (minT (turns l)) : Nat)], rfl, rfl, .word hl, (fun e => nomatch e), fun l' _ el _ => ⟨_, rfl, fun H4 k4 => ?_⟩⟩
    cases tv_inj el
    have e1 : (((turns l).idxOf (minT (turns l)) : Nat) : Int) % ((l.length : Nat) : Int) = (((turns l).idxOf (minT (turns l)) : Nat) : Int) := Int.emod_eq_of_lt (by omega) (by omega)
    rw [e1, ej.1]
    refine ⟨_, rfl, _, _, rfl, rfl, false, by simp, iteF ?_⟩
    have K4 := ((k1.trans k2).trans k3).trans k4
    clear e1 ej k1 k2 k3 k4 hp np
    -- its root
    refine ⟨_, rfl, tv (minT (turns l)), true, [], rfl, rfl, .word hm, (fun e => nomatch e), fun l' _ el _ p5 H5 np5 k5 hp5 => ?_⟩
    cases tv_inj el
    rw [erm] at hp5
    refine ⟨p5, _, rfl, SqT.of hp5, rfl, _, _, rfl, _, _, rfl, rfl, ?_⟩
    dsimp only
    rw [← ht2] at t3 t4 htl ⊢
    generalize (minT (turns l)).take (rootLen (minT (turns l))) = u at *
    have u300 := hwu.2.1
    generalize l.length / rootLen l = t at *
    have tu : u.length * t ≤ 300 * 300 := Nat.mul_le_mul u300 htl
    refine ⟨_, rfl, u, rfl, by omega, hwu.ok, fun H6 k6 => ⟨_, rfl, ?_⟩⟩
    rw [t1]
    refine iteF ?_
    refine ⟨_, rfl, _, rfl, u, ((t : Nat) : Int), rfl, rfl, by omega, by omega, by rw [Int.toNat_natCast]; omega, _, rfl, _, minT (turns l), rfl, rfl, false, by rw [Int.toNat_natCast, t3]; simp, iteF ?_⟩
    refine ⟨_, rfl, tv (minT (turns l)), true, [], rfl, rfl, .word hm, (fun e => nomatch e), fun l' _ el _ p7 H7 np7 k7 hp7 => ?_⟩
    cases tv_inj el
    refine ⟨_, rfl, (show 1 ≤ sizeLine by decide), fun p8 np8 => ⟨_, rfl, p8, _, _, rfl, rfl, upd_same, by omega, by omega, by rw [Int.toNat_natCast]; exact big (by show 1 * t ≤ _; omega), fun p9 np9 => ?_⟩⟩
    have j8 := same_upd (o := .lst [tv u]) np8
    have j9 := same_upd (o := .lst (List.replicate ((t : Nat) : Int).toNat [tv u]).flatten) np9
    have hp9 : upd (upd H7 p8 (.lst [tv u])) p9 (.lst (List.replicate ((t : Nat) : Int).toNat [tv u]).flatten) p9 = some (.lst (tvs (List.replicate t u))) := by
      rw [upd_same, Int.toNat_natCast, rep_one]
    have K9 := (((K4.trans k5).trans k6).trans k7).trans (j8.trans j9)
    have hp7' := (j8.trans j9) _ _ hp7
    generalize upd (upd H7 p8 (.lst [tv u])) p9 (.lst (List.replicate ((t : Nat) : Int).toNat [tv u]).flatten) = H9 at *
    have okp : ∀ x ∈ List.replicate t u, Ok x := fun x hx => by
      rw [(List.mem_replicate.mp hx).2]
      exact hwu.ok
    refine ⟨p7, p9, piecesOf (minT (turns l)), List.replicate t u, rfl, rfl, SqL.of hp7', SqL.of hp9, by rw [t4]; exact okp, okp, false, by rw [t4]; simp, iteF ?_⟩
    clear j8 j9 k5 k6 k7 hp7 hp7' hp9 np8 np9 np7 hp5 np5 K4
    -- beats and borders
    refine ⟨_, rfl, tv l, true, [], rfl, rfl, .word hl, (fun e => nomatch e), fun l' _ el _ H10 k10 => ?_⟩
    cases tv_inj el
    refine ⟨_, rfl, tv l, true, [], rfl, rfl, .word hl, (fun e => nomatch e), fun l' _ el _ p11 H11 np11 k11 hp11 => ?_⟩
    cases tv_inj el
    have bl : (ivs (bordersOf l)).length ≤ 300 := by
      unfold ivs bordersOf
      rw [List.length_map]
      refine Nat.le_trans (List.length_filter_le _ _) ?_
      rw [List.length_map, List.length_range]
      omega
    refine ⟨_, rfl, (show 1 ≤ sizeLine by decide), fun q1 m1 => ⟨_, rfl, q1, p11, _, _, rfl, rfl, upd_same, (same_upd m1) _ _ hp11, big (by show 1 + _ ≤ _; omega), fun q2 m2 => ?_⟩⟩
    have j1 := same_upd (o := .lst [V.int 0]) m1
    have j2 := same_upd (o := .lst ([V.int 0] ++ ivs (bordersOf l))) m2
    refine ⟨1, rfl, q2, _, _, .int ((bordersOf l).foldl max 0 : Nat), rfl, rfl, SqL.of upd_same, borders_last l, _, _, rfl, rfl, _, rfl, l, rfl, hl.sz, rfl, false, ?_, iteF ?_⟩
    · have e : ((beatOf l : Nat) : Int) + (((bordersOf l).foldl max 0 : Nat) : Int) = ((l.length : Nat) : Int) := by
        rw [← beat_len (l := l)]
        exact (Int.natCast_add _ _).symm
      exact congrArg (fun b => V.bl (!b)) (decide_eq_true (congrArg V.int e))
    have K12 := ((K9.trans k10).trans k11).trans (j1.trans j2)
    generalize upd (upd H11 q1 (.lst [V.int 0])) q2 (.lst ([V.int 0] ++ ivs (bordersOf l))) = H12 at *
    clear j1 j2 k10 k11 hp11 np11 m1 m2 K9
    -- the root again
    refine ⟨_, rfl, tv l, true, [], rfl, rfl, .word hl, (fun e => nomatch e), fun l' _ el _ p20 H20 np20 k20 hp20 => ?_⟩
    cases tv_inj el
    rw [erl] at hp20
    refine ⟨p20, _, 1, .int (t : Nat), rfl, rfl, SqT.of hp20, atI_nat (j := 1) rfl, _, rfl, rfl, true, by simp, iteT ?_⟩
    refine ⟨_, rfl, tv l, true, [], rfl, rfl, .word hl, (fun e => nomatch e), fun l' _ el _ p21 H21 np21 k21 hp21 => ?_⟩
    cases tv_inj el
    rw [erl] at hp21
    refine ⟨p21, _, 0, tv (l.take (rootLen l)), rfl, rfl, SqT.of hp21, atI_nat (j := 0) rfl, tv (l.take (rootLen l)), true, [], rfl, rfl, .word hul, (fun e => nomatch e), fun l' _ el _ p22 H22 np22 k22 hp22 => ?_⟩
    cases tv_inj el
    rw [eru] at hp22
    refine ⟨_, rfl, tv l, true, [], rfl, rfl, .word hl, (fun e => nomatch e), fun l' _ el _ p23 H23 np23 k23 hp23 => ?_⟩
    cases tv_inj el
    rw [erl] at hp23
    refine ⟨p23, _, 0, tv (l.take (rootLen l)), rfl, rfl, SqT.of hp23, atI_nat (j := 0) rfl, (show 2 ≤ sizeLine by decide), fun p24 np24 => ?_⟩
    have j24 := same_upd (o := .tup [tv (l.take (rootLen l)), V.int 1]) np24
    refine ⟨p22, p24, [.inr (l.take (rootLen l)), .inl 1], [.inr (l.take (rootLen l)), .inl 1], rfl, rfl, SqT.of (j24 _ _ (k23 _ _ hp22)), SqT.of upd_same, fl_two hul.ok, fl_two hul.ok, ?_⟩
    show Q (.bl (decide (([.inr (l.take (rootLen l)), .inl 1] : List Fl) = [.inr (l.take (rootLen l)), .inl 1]))) _
    rw [decide_eq_true rfl]
    exact q _ ((((K12.trans k20).trans k21).trans k22).trans (k23.trans j24))
end
end Rk
namespace Rw
open PySem PySem.Spec PyProof.Rows L2
theorem merge_last {kvs : List (Key × V)} {k : Key} {v : V} : valV (mergeK [] (kvs ++ [(k, v)])) k = some v := by
  unfold mergeK
  rw [List.foldl_append]
  show valV (putK _ k v) k = _
  rw [valV_put, if_pos rfl]
theorem paired_of {α β : Type} {R : α → β → Prop} : ∀ {ts : List α} {es : List β}, ts.length = es.length → (∀ (i : Nat) (t : α) (e : β), ts[i]? = some t → es[i]? = some e → R t e) → Paired R ts es
  | [], [], _, _ => .nil
  | [], _ :: _, h, _ => nomatch h
  | _ :: _, [], h, _ => nomatch h
  | t :: ts, e :: es, h, k => .cons (k 0 t e rfl rfl) (paired_of (Nat.succ.inj h) fun i t e h1 h2 => k (i + 1) t e h1 h2)
theorem sum_ones : ∀ {es : List Ent}, (∀ e ∈ es, e.ws.length = 1) → manyOf es = es.length
  | [], _ => rfl
  | e :: r, h => by
    unfold manyOf
    rw [List.map_cons, List.sum_cons, h e List.mem_cons_self]
    have := sum_ones (es := r) fun x hx => h x (List.mem_cons_of_mem _ hx)
    unfold manyOf at this
    rw [this, List.length_cons]
    omega
end Rw
namespace Rk
open PySem PySem.Spec PyProof.Rows L2 Rw
abbrev s_law : Stmt := topS 33
abbrev n_law : List Str := ["_law_script", "_law_cell", "_law_word", "_law_at", "_law_others", "_law_other", "_law_book", "_law_k", "_law_one", "_law_number", "_law_form"]
abbrev p_law : List Str := ["_law_script"]
theorem sc_law : FnScope n_law p_law (defScope s_law) := ⟨rfl, rfl, rfl, by decide +kernel, rfl, by decide +kernel, by decide +kernel⟩
section
variable {P : Program} {w : World} {K : PySem.W.Frag} {mg : Str → Option Value} {base : Heap} {C cN cT : Addr} (B : Bt mg) (RG : RgC K mg C)
include B RG
theorem ok_law {f : Addr} {fd : FuncData} (F : Fun K "law" "law" s_law f fd) (c__law_mixed : Cal CX0 P w K mg base 1 "_law_mixed" spMixed) (c__law_cell_at : Cal CX0 P w K mg base 1 "_law_cell_at" (spCellAt K))
    (c__law_long : Cal CX0 P w K mg base 3 "_law_long" (spLong K)) (c_turned : Cal (L2.CX P w) P w K mg base 3 "turned" (spTurned K cN)) (c_least_form : Cal (L2.CX P w) P w K mg base 4 "least_form" (spLeastForm K cN))
    (c__law_pair : Cal CX0 P w K mg base 6 "_law_pair" spPair) (c__law_alone : Cal CX0 P w K mg base 6 "_law_alone" spAlone) (m___init__ : MCal CX0 P w K mg base 1 C "__init__" (spRInit C)) (m_ring_of : MCal (L2.CX P w) P w K mg base 5 C "ring_of" (spRingOf K C cN))
    (m_forms : MCal CX0 P w K mg base 1 C "forms" (spForms C)) (m_add : MCal (L2.CX P w) P w K mg base 6 C "add" (spAdd K C cN cT)) (m_many : MCal CX0 P w K mg base 1 C "many" (spMany C)) : FnOk P w K mg base CX0 7 f fd p_law (spLaw K) := by
  refine F.ok sc_law (fun vs H Q E h => ?_) (fun cdv A outer st H vs Q E hr h => ?_)
  · obtain ⟨a, ns, rfl, _⟩ := h
    rfl
  · obtain ⟨a, ns, rfl, hS, hlen, q⟩ := h
    refine ⟨_, (pss_cons (ps_set (i := 1) sc_law.nd rfl (Or.inl rfl) (pe_cal c__law_mixed hr (by decide) pass0 (pa_cons (pe_cal c__law_cell_at hr (by decide) pass0 (pa_cons (pv 0) (pa_cons pe_int pa_nil))) (pa_cons pe_int pa_nil))))
      (pss_cons (ps_set (i := 2) sc_law.nd rfl (Or.inl rfl) (pe_cal c__law_long hr (by decide) pass0 (pa_cons (pv 0) (pa_cons (pv 1) pa_nil))))
      (pss_cons (ps_set (i := 3) sc_law.nd rfl (Or.inl rfl) (pe_op op_mod (pe_op op_fdiv (pe_cal c__law_mixed hr (by decide) pass0 (pa_cons (pv 1) (pa_cons pe_int pa_nil))) pe_int) (pe_callB call_lenT (by rfl) B.m_len PySem.boot_len (pa_cons (pv 2) pa_nil))))
      (pss_cons (ps_set (i := 4) sc_law.nd rfl (Or.inl rfl) (pe_lst (pa_cons (pe_cal c_turned hr (by decide) passL (pa_cons (pv 2) (pa_cons (pv 3) pa_nil))) (pa_cons (pe_op op_addT (pe_op op_addT (pe_slice sl_T (pv 2) po_none (po_some (pv 3))) (pe_ix ix_T pe_str (pe_op op_mod (pe_op op_fdiv (pe_cal c__law_mixed hr (by decide) pass0 (pa_cons (pv 1) (pa_cons pe_int pa_nil))) pe_int) pe_int) (fun _ _ => rfl))) (pe_slice sl_T (pv 2) (po_some (pe_op op_add (pv 3) pe_int)) po_none)) (pa_cons (pe_revS (pv 2)) (pa_cons (pe_slice sl_T (pv 2) (po_some (pv 3)) po_none) pa_nil))))))
      (pss_cons (ps_if (pt_not (pt_val (pe_cal c__law_alone hr (by decide) pass0 (pa_cons (pv 2) pa_nil)))) (pss_one (ps_ret pe_bl)) pss_nil)
      (pss_cons (ps_for PassesOwn.never rfl (pi_list (pv 4)) (pg_name (i := 5) sc_law.nd rfl (Or.inl rfl))
        (pss_one (ps_if (PW.pt (pw_or (pt_not (pt_val (pe_cal c__law_pair hr (by decide) pass0 (pa_cons (pv 2) (pa_cons (pv 5) pa_nil))))) (pw_or (pt_not (pt_val (pe_cal c__law_pair hr (by decide) pass0 (pa_cons (pv 5) (pa_cons (pv 2) pa_nil))))) (pw_or1 (pt_not (pt_val (pe_cal c__law_alone hr (by decide) pass0 (pa_cons (pv 5) pa_nil)))))))) (pss_one (ps_ret pe_bl)) pss_nil)))
      (pss_cons (ps_set (i := 6) sc_law.nd rfl (Or.inl rfl) (pe_mkcal RG.mks RG.kc m___init__ hr (by decide) RG.g pass0))
      (pss_cons (ps_for PassesOwn.never rfl (pi_range1 (by rfl) B.m_range (pa_cons (pe_callB (call_min2 rfl) (by rfl) B.m_min (by decide +kernel) (pa_cons pe_int (pa_cons (pe_callB call_lenT (by rfl) B.m_len PySem.boot_len (pa_cons (pv 2) pa_nil)) pa_nil))) pa_nil)) (pg_name (i := 7) sc_law.nd rfl (Or.inl rfl))
        (pss_cons (ps_set (i := 8) sc_law.nd rfl (Or.inl rfl) (pe_cal c_turned hr (by decide) passL (pa_cons (pe_slice sl_T (pv 2) po_none (po_some (pe_op op_add pe_int (pv 7)))) (pa_cons (pe_op op_fdiv (pe_cal c__law_mixed hr (by decide) pass0 (pa_cons (pv 1) (pa_cons (pe_op op_add pe_int (pv 7)) pa_nil))) pe_int) pa_nil))))
        (pss_cons (ps_if (pt_cmpR op_ne (pe_cmpR op_isN (pe_mcal (pv 6) RG.cl m_ring_of hr (by decide) passL (pa_cons (pv 8) pa_nil)) pe_non (nomark _)) (pe_cmpR op_notInT (pe_cal c_least_form hr (by decide) passL (pa_cons (pv 8) pa_nil)) (pe_lc (own := [("_law_number", 9), ("_law_form", 10)]) (g := gTup K 2 (gCons (gName 9) (gCons (gName 10) gNil))) rfl sc_law.nd (pi_list (pe_mcal0 (pv 6) RG.cl m_forms hr (by decide) pass0)) (blkOk_by (own := [("_law_number", 9), ("_law_form", 10)]) (N := n_law) (sc := defScope s_law) (by decide +kernel)) (fun _ _ _ _ _ => (pg_tup rfl (pgs_cons (pg_name (i := 9) sc_law.nd rfl (Or.inl rfl)) (pgs_cons (pg_name (i := 10) sc_law.nd rfl (Or.inl rfl)) pgs_nil)))) (fun _ _ _ _ _ => pts_nil) (fun _ _ _ _ _ => (pv 10))) (by rfl)) (nomark _)) (pss_one (ps_ret pe_bl)) pss_nil)
        (pss_cons (ps_set (i := 9) sc_law.nd rfl (Or.inl rfl) (pe_mcal (pv 6) RG.cl m_add hr (by decide) passL (pa_cons (pv 8) pa_nil)))
        (pss_one (ps_if (PW.pt (pw_or (pt_cmpR op_neT (pe_dget (hu_of hr) (pe_callTy (call_dictP rfl) (by rfl) B.m_dict (by decide +kernel) (pa_cons (pe_mcal0 (pv 6) RG.cl m_forms hr (by decide) pass0) pa_nil)) (pv 9) (fun _ _ => rfl)) (pe_cal c_least_form hr (by decide) passL (pa_cons (pv 8) pa_nil)) (nomark _)) (pw_or1 (pt_cmpR op_ne (pe_mcal (pv 6) RG.cl m_ring_of hr (by decide) passL (pa_cons (pe_slice sl_T (pv 2) po_none (po_some (pe_op op_add pe_int (pv 7)))) pa_nil)) (pv 9) (nomark _))))) (pss_one (ps_ret pe_bl)) pss_nil))))))
      (pss_one (ps_ret (pe_cmpR op_eq (pe_mcal0 (pv 6) RG.cl m_many hr (by decide) pass0) (pe_callB (call_min2 rfl) (by rfl) B.m_min (by decide +kernel) (pa_cons pe_int (pa_cons (pe_callB call_lenT (by rfl) B.m_len PySem.boot_len (pa_cons (pv 2) pa_nil)) pa_nil))) (nomark _)))))))))))), ?_⟩
    refine ⟨_, rfl, a, ns, 0, rfl, hS, by decide, by decide, fun cell => ⟨cell, 450, rfl, fun c _ _ => ?_⟩⟩
    refine ⟨_, rfl, _, rfl, a, ns, c, rfl, hS, hlen, fun l H1 k1 hl => ?_⟩
    have l1 := hl.1
    have l300 := hl.2.1
    refine ⟨_, rfl, c, 1, rfl, fun i1 g0 _ => ⟨i1, 7, rfl, rfl, ⟨by decide, by decide⟩, _, rfl, l, rfl, hl.sz, _, _, rfl, rfl, (show (0 : Int) < ((l.length : Nat) : Int) by omega), ?_⟩⟩
    obtain ⟨d0, d1⟩ := draw7 g0 (show (0 : Int) < ((l.length : Nat) : Int) by omega)
    obtain ⟨t, ht⟩ : ∃ t : Nat, i1 / 7 % ((l.length : Nat) : Int) = (t : Int) := ⟨(i1 / 7 % ((l.length : Nat) : Int)).toNat, by omega⟩
    have tl : t < l.length := by omega
    dsimp only
    rw [ht]
    clear ht d0 d1
    -- the others
    refine ⟨_, rfl, _, rfl, tv l, true, [.int (t : Nat)], rfl, rfl, .word hl, (fun e => nomatch e), fun l' _ el _ => ⟨_, rfl, fun H2 k2 => ?_⟩⟩
    cases tv_inj el
    have w1 : Wd (turn l (((t : Nat) : Int) % ((l.length : Nat) : Int)).toNat) := hl.turn (turn_mem hl.1 (by
      rw [Int.emod_eq_of_lt (by omega) (by omega)]
      omega))
    generalize turn l (((t : Nat) : Int) % ((l.length : Nat) : Int)).toNat = x1 at *
    have ea : (V.str "abz") = tv [97, 98, 122] := by decide +kernel
    have ec1 : cutL l none (some ((t : Nat) : Int)) = l.take t := cutL_to l t
    have ec2 : cutL l (some (((t : Nat) : Int) + 1)) none = l.drop (t + 1) := cutL_from l (t + 1)
    have ec3 : cutL l (some ((t : Nat) : Int)) none = l.drop t := cutL_from l t
    refine ⟨_, rfl, _, rfl, _, rfl, l, rfl, hl.sz, ?_⟩
    rw [ec1]
    refine ⟨_, rfl, c, 2, rfl, fun i2 h0 _ => ⟨i2, 7, rfl, rfl, ⟨by decide, by decide⟩, _, 3, rfl, rfl, (show (0 : Int) < 3 by decide), ?_⟩⟩
    obtain ⟨d0, d1⟩ := draw7 h0 (by decide : (0 : Int) < 3)
    obtain ⟨ch, hch, hca⟩ := at_some (xs := ([97, 98, 122] : List Nat)) d0 d1
    have hcz : 97 ≤ ch ∧ ch ≤ 122 := by
      simp only [List.mem_cons, List.not_mem_nil, or_false] at hch
      rcases hch with rfl | rfl | rfl <;> decide
    have lt1 : (l.take t).length = t := by rw [List.length_take]; omega
    refine ⟨[97, 98, 122], _, ch, ea, rfl, by decide, hca, l.take t, [ch], rfl, rfl, by rw [lt1]; show t + 1 ≤ _; omega, ?_⟩
    refine ⟨_, rfl, _, rfl, _, _, rfl, rfl, _, rfl, l, rfl, hl.sz, ?_⟩
    rw [ec2]
    have ld1 : (l.drop (t + 1)).length = l.length - (t + 1) := List.length_drop
    have lt2 : (l.take t ++ [ch]).length = t + 1 := by rw [List.length_append, lt1]; rfl
    refine ⟨l.take t ++ [ch], l.drop (t + 1), rfl, rfl, by rw [lt2, ld1]; omega, ?_⟩
    have w2 : Wd (l.take t ++ [ch] ++ l.drop (t + 1)) := by
      refine ⟨by rw [List.length_append, lt2]; omega, by rw [List.length_append, lt2, ld1]; omega, fun d hd => ?_⟩
      rcases List.mem_append.mp hd with r | r
      · rcases List.mem_append.mp r with r | r
        · exact hl.2.2 d (List.mem_of_mem_take r)
        · rw [List.mem_singleton.mp r]
          exact hcz
      · exact hl.2.2 d (List.mem_of_mem_drop r)
    generalize l.take t ++ [ch] ++ l.drop (t + 1) = x2 at *
    have w3 : Wd l.reverse := ⟨by rw [List.length_reverse]; exact hl.1, by rw [List.length_reverse]; exact hl.2.1, fun d hd => hl.2.2 d (List.mem_reverse.mp hd)⟩
    have w4 : Wd (l.drop t) := ⟨by rw [List.length_drop]; omega, by rw [List.length_drop]; omega, fun d hd => hl.2.2 d (List.mem_of_mem_drop hd)⟩
    refine ⟨_, rfl, l, rfl, hl.sz, ?_⟩
    refine ⟨_, rfl, _, rfl, _, rfl, l, rfl, hl.sz, ?_⟩
    rw [ec3]
    refine ⟨(show 4 ≤ sizeLine by decide), fun p4 n4 => ?_⟩
    have hw4 : ∀ v ∈ [tv x1, tv x2, tv l.reverse, tv (l.drop t)], ∃ m, v = tv m ∧ Wd m := fun v hv => by
      simp only [List.mem_cons, List.not_mem_nil, or_false] at hv
      rcases hv with rfl | rfl | rfl | rfl
      · exact ⟨_, rfl, w1⟩
      · exact ⟨_, rfl, w2⟩
      · exact ⟨_, rfl, w3⟩
      · exact ⟨_, rfl, w4⟩
    have hp4 : upd H2 p4 (.lst [tv x1, tv x2, tv l.reverse, tv (l.drop t)]) p4 = some (.lst [tv x1, tv x2, tv l.reverse, tv (l.drop t)]) := upd_same
    generalize hL4 : ([tv x1, tv x2, tv l.reverse, tv (l.drop t)] : List V) = L4 at *
    change upd H2 p4 (.lst L4) p4 = some (.lst L4) at hp4
    generalize upd H2 p4 (.lst L4) = H3 at *
    refine ⟨_, rfl, l, rfl, hl, fun H5 k5 => ⟨true, rfl, iteF ?_⟩⟩
    have hp5 := k5 _ _ hp4
    refine ⟨_, rfl, p4, rfl, ⟨_, SqL.of hp5⟩, for_list (xs := L4) (fun i σ H' => ∃ y, σ = [some (.ref a), some (.int c), some (tv l), some (.int (t : Nat)), some (.ref p4), y, none, none, none, none, none] ∧ Same H5 H') ⟨none, rfl, Same.refl H5⟩ (fun i σ H6 _ ⟨_, _, e⟩ => SqL.of (e _ _ hp5)) ?_ ?_⟩
    · rintro i x σ H6 hxi ⟨y, rfl, e6⟩
      obtain ⟨m, rfl, hm⟩ := hw4 x (List.mem_of_getElem? hxi)
      exact ⟨_, rfl, _, rfl, l, m, rfl, hl, hm, fun H7 k7 => ⟨true, rfl, iteF ⟨_, rfl, _, rfl, m, l, rfl, hm, hl, fun H8 k8 => ⟨true, rfl, iteF ⟨_, rfl, m, rfl, hm, fun H9 k9 => ⟨true, rfl, iteF ⟨_, rfl, ((e6.trans k7).trans k8).trans k9⟩⟩⟩⟩⟩⟩⟩
    rintro σ H6 ⟨y5, rfl, e6⟩
    -- the book
    intro x dx nx ndx nex
    refine ⟨x, dx, rfl, upd_same, fun d1 d2 H7 _ _ hb0 _ => ⟨rfl, ?_⟩⟩
    obtain ⟨N, hN, N12, Nl⟩ : ∃ N : Nat, (if ((l.length : Nat) : Int) < 12 then ((l.length : Nat) : Int) else 12) = (N : Int) ∧ N ≤ 12 ∧ N ≤ l.length := by
      by_cases g : ((l.length : Nat) : Int) < 12
      · exact ⟨l.length, if_pos g, by omega, Nat.le_refl _⟩
      · exact ⟨12, if_neg g, Nat.le_refl _, by omega⟩
    refine ⟨_, rfl, l, rfl, hl.sz, 12, ((l.length : Nat) : Int), rfl, ?_⟩
    rw [hN]
    refine ⟨(N : Int), rfl, by omega, by omega, for_range (lo := 0) (n := N) (fun i σ H' => ∃ (y7 y8 y9 : Option V) (dx d1 d2 : Addr) (es : List Ent), σ = [some (.ref a), some (.int c), some (tv l), some (.int (t : Nat)), some (.ref p4), y5, some (.ref x), y7, y8, y9, none] ∧ BkH C H' x dx d1 d2 i es ∧ BkP i es ∧ es.length = i ∧ ∀ e ∈ es, e.f.length ≤ i ∧ e.ws.length = 1)
      ⟨none, none, none, dx, d1, d2, [], rfl, hb0, ⟨fun i j e x h => by simp at h, List.Pairwise.nil, (fun e h => nomatch h), (fun e h => nomatch h)⟩, rfl, (fun e h => nomatch h)⟩ ?_ ?_⟩
    · rintro i σ H8 hi ⟨y7, y8, y9, dx, d1, d2, es, rfl, hb, hP, hle, hes⟩
      have hi : i < N := hi
      have ecut : cutL l none (some ((1 : Int) + ((0 : Int) + (i : Int)))) = l.take (1 + i) := by
        rw [show (1 : Int) + ((0 : Int) + (i : Int)) = ((1 + i : Nat) : Int) from by omega]
        exact cutL_to l (1 + i)
      have lpk : (l.take (1 + i)).length = 1 + i := by rw [List.length_take]; omega
      have hpk : Wd (l.take (1 + i)) := ⟨by omega, by omega, fun d hd => hl.2.2 d (List.mem_of_mem_take hd)⟩
      refine ⟨_, rfl, _, rfl, _, _, rfl, rfl, _, rfl, l, rfl, hl.sz, ?_⟩
      rw [ecut]
      generalize l.take (1 + i) = pk at *
      refine ⟨_, rfl, _, rfl, _, _, rfl, rfl, c, _, rfl, fun im _ _ => ⟨im, 7, rfl, rfl, ⟨by decide, by decide⟩, tv pk, true, [.int (im / 7)], rfl, rfl, .word hpk, (fun e => nomatch e), fun l' _ el _ => ⟨_, rfl, fun H9 k9 => ?_⟩⟩⟩
      cases tv_inj el
      have hpos : (0 : Int) < ((pk.length : Nat) : Int) := by omega
      have hmem : turn pk (im / 7 % ((pk.length : Nat) : Int)).toNat ∈ turns pk := turn_mem hpk.1 (by
        have := Int.emod_lt_of_pos (im / 7) hpos
        have := Int.emod_nonneg (im / 7) (show ((pk.length : Nat) : Int) ≠ 0 by omega)
        omega)
      generalize turn pk (im / 7 % ((pk.length : Nat) : Int)).toNat = w1 at *
      have hw := hpk.turn hmem
      have hff := (ring_iff hpk.1 hw.1).mp hmem
      have lf : (minT (turns w1)).length = 1 + i := by
        obtain ⟨k, _, e⟩ := List.mem_map.mp (minT_mem (turns_ne hpk))
        have e : turn pk k = minT (turns pk) := e
        rw [← hff, ← e, turn_len, lpk]
      have hno : ∀ e ∈ es, e.f ≠ minT (turns w1) := fun e he z => by
        have := (hes e he).1
        rw [z] at this
        omega
      have hb9 := hb.same k9
      clear hb k9
      -- not there yet
      refine ⟨_, rfl, x, dx, _, rfl, hb9.hp, bf_no _ _ _ (by decide +kernel) (by decide +kernel) (by decide +kernel), _, rfl, x, dx, d1, d2, i, es, tv w1, true, rfl, hb9, .word hw, (fun e => nomatch e), fun l' _ el _ r H10 hR k10 => ?_⟩
      cases tv_inj el
      have er : r = .non := by
        cases hR with
        | no h => rfl
        | yes h1 h2 => exact absurd h2 (hno _ (List.mem_of_getElem? h1))
      subst er
      refine ⟨rfl, _, rfl, tv w1, true, [], rfl, rfl, .word hw, (fun e => nomatch e), fun l' _ el _ H11 k11 => ?_⟩
      cases tv_inj el
      have hb11 := (hb9.same k10).same k11
      refine ⟨_, rfl, x, dx, _, rfl, hb11.hp, bf_no _ _ _ (by decide +kernel) (by decide +kernel) (by decide +kernel), x, dx, d1, d2, i, es, rfl, hb11, by omega, fun q1 ts H12 k12 nq hq hlt hts => ⟨q1, rfl, ⟨_, SqL.of hq⟩, fun Dl hD => ?_⟩⟩
      refine lc_it walk_list (LcP H12 Dl fun j acc => acc = tvs ((es.take j).map Ent.f)) (lcp_start hD rfl) (fun j H13 _ ⟨_, _, e, _, _, _⟩ => SqL.of (e _ _ hq)) ?_ ?_
      · rintro j y H13 H13' hj ⟨_, acc, e13, hD13, hlen13, rfl⟩ ⟨rfl, hy⟩
        rw [List.length_map, hlt] at hj
        have hj2 : j < ts.length := by omega
        have he : es[j]? = some es[j] := List.getElem?_eq_getElem hj
        have htj : ts[j]? = some ts[j] := List.getElem?_eq_getElem hj2
        rw [List.getElem?_map, htj] at hy
        have ey : V.ref ts[j] = y := Option.some.inj hy
        subst ey
        obtain ⟨_, htt⟩ := hts j _ _ htj he
        refine ⟨ts[j], _, rfl, SqT.of (e13 _ _ htt), rfl, _, _, rfl, _, _, rfl, rfl, rfl, keepAll ?_⟩
        refine ⟨_, rfl, ?_⟩
        refine lcp_put hD e13 hD13 hlen13 (by omega) (Same.refl _) ?_
        rw [List.take_add_one, he, List.map_append, tvs_app]
        rfl
      rintro H13 ⟨_, acc, e13, hD13, _, rfl⟩
      rw [List.length_map, hlt, List.take_length] at hD13
      have hnm : minT (turns w1) ∉ es.map Ent.f := fun z => by
        obtain ⟨e, he, z⟩ := List.mem_map.mp z
        exact hno e he z
      refine ⟨Dl, minT (turns w1), es.map Ent.f, rfl, rfl, SqL.of hD13, rfl, false, by simp [hnm], iteF ?_⟩
      have hb13 := (hb11.same k12).same e13
      clear hb9 hb11 hts hq hD13 k10 k11 k12 e13
      -- put in
      refine ⟨_, rfl, x, dx, _, rfl, hb13.hp, bf_no _ _ _ (by decide +kernel) (by decide +kernel) (by decide +kernel), _, rfl, x, dx, d1, d2, i, es, tv w1, true, rfl, hb13, hP, by omega, (fun e he => by have := (hes e he).2; omega), .word hw, (fun e => nomatch e), fun l' _ el _ => ?_⟩
      cases tv_inj el
      refine ⟨fun j e he hf _ => absurd hf (hno e (List.mem_of_getElem? he)), fun es' nx' num H14 hout hb14 _ => ?_⟩
      cases hout with
      | old h1 h2 _ => exact absurd h2 (hno _ (List.mem_of_getElem? h1))
      | @new a2 ha2 _ =>
        have hlast : (es ++ [(⟨minT (turns w1), i, a2, [w1]⟩ : Ent)])[es.length]? = some ⟨minT (turns w1), i, a2, [w1]⟩ := last_new
        have hP2 : BkP (i + 1) (es ++ [⟨minT (turns w1), i, a2, [w1]⟩]) := by
          have hsplit : ∀ (j : Nat) (e : Ent), (es ++ [(⟨minT (turns w1), i, a2, [w1]⟩ : Ent)])[j]? = some e → (j < es.length ∧ es[j]? = some e) ∨ (j = es.length ∧ e = ⟨minT (turns w1), i, a2, [w1]⟩) := fun j e h => by
            by_cases g : j < es.length
            · rw [List.getElem?_append_left g] at h
              exact .inl ⟨g, h⟩
            · have hj := (List.getElem?_eq_some_iff.mp h).1
              rw [List.length_append] at hj
              have hj : j < es.length + 1 := hj
              have : j = es.length := by omega
              subst this
              rw [hlast] at h
              exact .inr ⟨rfl, (Option.some.inj h).symm⟩
          refine ⟨fun j k e y he hy hf => ?_, List.pairwise_append.mpr ⟨hP.nu, List.pairwise_singleton _ _, fun e he y hy => ?_⟩, fun e he => ?_, fun e he => ?_⟩
          · rcases hsplit j e he with ⟨g1, g2⟩ | ⟨g1, rfl⟩
            · rcases hsplit k y hy with ⟨m1, m2⟩ | ⟨m1, rfl⟩
              · exact hP.fu j k e y g2 m2 hf
              · exact absurd hf (hno e (List.mem_of_getElem? g2))
            · rcases hsplit k y hy with ⟨m1, m2⟩ | ⟨m1, rfl⟩
              · exact absurd hf.symm (hno y (List.mem_of_getElem? m2))
              · omega
          · rw [List.mem_singleton.mp hy]
            exact hP.nl e he
          · rcases List.mem_append.mp he with g | g
            · have := hP.nl e g
              omega
            · rw [List.mem_singleton.mp g]
              exact Nat.lt_succ_self i
          · rcases List.mem_append.mp he with g | g
            · exact hP.ws e g
            · rw [List.mem_singleton.mp g]
              refine ⟨by simp, by simp, fun u hu => ?_⟩
              rw [List.mem_singleton.mp hu]
              exact ⟨hw, rfl⟩
        have hes2 : ∀ e ∈ es ++ [(⟨minT (turns w1), i, a2, [w1]⟩ : Ent)], e.f.length ≤ i + 1 ∧ e.ws.length = 1 := fun e he => by
          rcases List.mem_append.mp he with g | g
          · have := hes e g
            exact ⟨by omega, this.2⟩
          · rw [List.mem_singleton.mp g]
            exact ⟨by show (minT (turns w1)).length ≤ _; omega, rfl⟩
        have hl2 : (es ++ [(⟨minT (turns w1), i, a2, [w1]⟩ : Ent)]).length = i + 1 := by rw [List.length_append, hle]; rfl
        -- its number leads to its form
        refine ⟨_, rfl, x, dx, _, rfl, hb14.hp, bf_no _ _ _ (by decide +kernel) (by decide +kernel) (by decide +kernel), x, dx, d1, d2, i + 1, _, rfl, hb14, by omega, fun q2 ts H15 k15 nq hq hlt hts => ?_⟩
        refine ⟨q2, ts, (es ++ [(⟨minT (turns w1), i, a2, [w1]⟩ : Ent)]).map fun e => (.inl ((e.n : Nat) : Int), tv e.f), rfl, SqL.of hq, ?_, fun pd npd => ?_⟩
        · refine paired_of (by rw [List.length_map]; exact hlt) fun j u kv h1 h2 => ?_
          rw [List.getElem?_map] at h2
          obtain ⟨e, he, rfl⟩ := Option.map_eq_some_iff.mp h2
          exact SqT.of (hts j u e h1 he).2
        have kd := same_upd (o := .dK (mergeK [] ((es ++ [(⟨minT (turns w1), i, a2, [w1]⟩ : Ent)]).map fun e => (.inl ((e.n : Nat) : Int), tv e.f)))) npd
        refine ⟨_, rfl, pd, tv (minT (turns w1)), rfl, .inl ⟨_, .inl ((i : Nat) : Int), .inl upd_same, rfl, ?_⟩, ?_⟩
        · rw [List.map_append]
          exact merge_last.symm
        have hb16 := (hb14.same k15).same kd
        refine ⟨_, rfl, tv w1, true, [], rfl, rfl, .word hw, (fun e => nomatch e), fun l' _ el _ H17 k17 => ?_⟩
        cases tv_inj el
        refine ⟨_, _, rfl, rfl, false, by simp, iteF ?_⟩
        have hb17 := hb16.same k17
        refine ⟨_, rfl, x, dx, _, rfl, hb17.hp, bf_no _ _ _ (by decide +kernel) (by decide +kernel) (by decide +kernel), _, rfl, _, rfl, _, _, rfl, rfl, _, rfl, l, rfl, hl.sz, x, dx, d1, d2, i + 1, _, tv pk, true, by rw [ecut]; rfl, hb17, .word hpk, (fun e => nomatch e), fun l' _ el _ r H18 hR k18 => ?_⟩
        cases tv_inj el
        rw [hff] at hR
        have er : r = .int (i : Nat) := by
          cases hR with
          | no h => exact absurd rfl (h _ (List.mem_append_right _ (List.mem_singleton.mpr rfl)))
          | @yes j e h1 h2 =>
            have := hP2.fu j es.length e _ h1 hlast h2
            subst this
            rw [hlast] at h1
            rw [← Option.some.inj h1]
        subst er
        refine ⟨_, rfl, rfl, false, by simp, iteF ?_⟩
        exact ⟨_, _, _, dx, d1, d2, _, rfl, hb17.same k18, hP2, hl2, hes2⟩
    · rintro σ H8 ⟨y7, y8, y9, dx, d1, d2, es, rfl, hb, hP, hle, hes⟩
      refine ⟨_, rfl, x, dx, _, rfl, hb.hp, bf_no _ _ _ (by decide +kernel) (by decide +kernel) (by decide +kernel), x, dx, d1, d2, N, es, rfl, hb, by omega, fun H9 k9 => ⟨_, rfl, l, rfl, hl.sz, 12, ((l.length : Nat) : Int), rfl, rfl, ?_⟩⟩
      show Q (.bl (decide (V.int (manyOf es : Nat) = V.int (if ((l.length : Nat) : Int) < 12 then ((l.length : Nat) : Int) else 12)))) H9
      rw [hN, sum_ones fun e he => (hes e he).2, hle, decide_eq_true rfl]
      exact q H9
end
end Rk
namespace Rk
open PySem PySem.Spec PyProof.Rows L2 Rw
theorem all_mk {l : PySem.W.OpenLaw} {w : World} {K : PySem.W.Frag} {h : Heap} {mg : Str → Option Value} {fa q_Rings f_is_word f_need_word f_turned f_turnings f_least_turn f_least_form f_steps_between f_borders f_beat f_root f_cuts f_pieces f_Rings___init__ f_Rings_add f_Rings_ring_of f_Rings_forms f_Rings_many f_Rings__begin f_l_cell_at f_l_mixed f_l_signs f_l_turnings f_l_early f_l_long f_l_pair f_l_alone f_law q_WordError q_NoWord q_Twice : Addr} (X : K.In h) (G : h.Ns mainGlobals mg) (hfa : mg "law" = some (.ref fa))
    (g_Rings : PySem.W.nsIn K mainGlobals "Rings" = some (some (.ref q_Rings)))
    (rg_pg : PySem.W.plainGet K q_Rings Str.empty = true)
    (rg_hd : PySem.W.hasDictIn K q_Rings = true)
    (rg_po : PySem.W.plainOver K q_Rings = true)
    (rg_sa : PySem.W.findIn K (.ref q_Rings) "__setattr__" = some (some (.builtin "object.__setattr__")))
    (rg_mk : PySem.W.makesIn K q_Rings = true)
    (rg_kc : PySem.W.keepIn K (.ref q_Rings) = true)
    (rg_n1 : PySem.W.findIn K (.ref q_Rings) "_next" = some none)
    (rg_n2 : PySem.W.findIn K (.ref q_Rings) "_numbers" = some none)
    (rg_n3 : PySem.W.findIn K (.ref q_Rings) "_words" = some none)
    {od_is_word an_is_word : Option Addr} {sl_is_word : Array (Option Value)} {oc_is_word kV_is_word dc_is_word pm_is_word cd_is_word ct_is_word : Value}
    (a_is_word : PySem.W.nsIn K mainGlobals "is_word" = some (some (.ref f_is_word)))
    (l_is_word : K.lookup f_is_word = some ⟨oc_is_word, od_is_word, .func (PySem.W.fnOf "is_word" "is_word" (defArgs s_is_word) (defBody s_is_word) (defScope s_is_word) .none kV_is_word dc_is_word pm_is_word an_is_word cd_is_word ct_is_word), sl_is_word⟩)
    (c_is_word : PySem.W.codeIn K cd_is_word "is_word" = true) (k_is_word : PySem.W.keepIn K (.ref f_is_word) = true)
    {od_need_word an_need_word : Option Addr} {sl_need_word : Array (Option Value)} {oc_need_word kV_need_word dc_need_word pm_need_word cd_need_word ct_need_word : Value}
    (a_need_word : PySem.W.nsIn K mainGlobals "need_word" = some (some (.ref f_need_word)))
    (l_need_word : K.lookup f_need_word = some ⟨oc_need_word, od_need_word, .func (PySem.W.fnOf "need_word" "need_word" (defArgs s_need_word) (defBody s_need_word) (defScope s_need_word) .none kV_need_word dc_need_word pm_need_word an_need_word cd_need_word ct_need_word), sl_need_word⟩)
    (c_need_word : PySem.W.codeIn K cd_need_word "need_word" = true) (k_need_word : PySem.W.keepIn K (.ref f_need_word) = true)
    {od_turned an_turned : Option Addr} {sl_turned : Array (Option Value)} {oc_turned kV_turned dc_turned pm_turned cd_turned ct_turned : Value}
    (a_turned : PySem.W.nsIn K mainGlobals "turned" = some (some (.ref f_turned)))
    (l_turned : K.lookup f_turned = some ⟨oc_turned, od_turned, .func (PySem.W.fnOf "turned" "turned" (defArgs s_turned) (defBody s_turned) (defScope s_turned) .none kV_turned dc_turned pm_turned an_turned cd_turned ct_turned), sl_turned⟩)
    (c_turned : PySem.W.codeIn K cd_turned "turned" = true) (k_turned : PySem.W.keepIn K (.ref f_turned) = true)
    {od_turnings an_turnings : Option Addr} {sl_turnings : Array (Option Value)} {oc_turnings kV_turnings dc_turnings pm_turnings cd_turnings ct_turnings : Value}
    (a_turnings : PySem.W.nsIn K mainGlobals "turnings" = some (some (.ref f_turnings)))
    (l_turnings : K.lookup f_turnings = some ⟨oc_turnings, od_turnings, .func (PySem.W.fnOf "turnings" "turnings" (defArgs s_turnings) (defBody s_turnings) (defScope s_turnings) .none kV_turnings dc_turnings pm_turnings an_turnings cd_turnings ct_turnings), sl_turnings⟩)
    (c_turnings : PySem.W.codeIn K cd_turnings "turnings" = true) (k_turnings : PySem.W.keepIn K (.ref f_turnings) = true)
    {od_least_turn an_least_turn : Option Addr} {sl_least_turn : Array (Option Value)} {oc_least_turn kV_least_turn dc_least_turn pm_least_turn cd_least_turn ct_least_turn : Value}
    (a_least_turn : PySem.W.nsIn K mainGlobals "least_turn" = some (some (.ref f_least_turn)))
    (l_least_turn : K.lookup f_least_turn = some ⟨oc_least_turn, od_least_turn, .func (PySem.W.fnOf "least_turn" "least_turn" (defArgs s_least_turn) (defBody s_least_turn) (defScope s_least_turn) .none kV_least_turn dc_least_turn pm_least_turn an_least_turn cd_least_turn ct_least_turn), sl_least_turn⟩)
    (c_least_turn : PySem.W.codeIn K cd_least_turn "least_turn" = true) (k_least_turn : PySem.W.keepIn K (.ref f_least_turn) = true)
    {od_least_form an_least_form : Option Addr} {sl_least_form : Array (Option Value)} {oc_least_form kV_least_form dc_least_form pm_least_form cd_least_form ct_least_form : Value}
    (a_least_form : PySem.W.nsIn K mainGlobals "least_form" = some (some (.ref f_least_form)))
    (l_least_form : K.lookup f_least_form = some ⟨oc_least_form, od_least_form, .func (PySem.W.fnOf "least_form" "least_form" (defArgs s_least_form) (defBody s_least_form) (defScope s_least_form) .none kV_least_form dc_least_form pm_least_form an_least_form cd_least_form ct_least_form), sl_least_form⟩)
    (c_least_form : PySem.W.codeIn K cd_least_form "least_form" = true) (k_least_form : PySem.W.keepIn K (.ref f_least_form) = true)
    {od_steps_between an_steps_between : Option Addr} {sl_steps_between : Array (Option Value)} {oc_steps_between kV_steps_between dc_steps_between pm_steps_between cd_steps_between ct_steps_between : Value}
    (a_steps_between : PySem.W.nsIn K mainGlobals "steps_between" = some (some (.ref f_steps_between)))
    (l_steps_between : K.lookup f_steps_between = some ⟨oc_steps_between, od_steps_between, .func (PySem.W.fnOf "steps_between" "steps_between" (defArgs s_steps_between) (defBody s_steps_between) (defScope s_steps_between) .none kV_steps_between dc_steps_between pm_steps_between an_steps_between cd_steps_between ct_steps_between), sl_steps_between⟩)
    (c_steps_between : PySem.W.codeIn K cd_steps_between "steps_between" = true) (k_steps_between : PySem.W.keepIn K (.ref f_steps_between) = true)
    {od_borders an_borders : Option Addr} {sl_borders : Array (Option Value)} {oc_borders kV_borders dc_borders pm_borders cd_borders ct_borders : Value}
    (a_borders : PySem.W.nsIn K mainGlobals "borders" = some (some (.ref f_borders)))
    (l_borders : K.lookup f_borders = some ⟨oc_borders, od_borders, .func (PySem.W.fnOf "borders" "borders" (defArgs s_borders) (defBody s_borders) (defScope s_borders) .none kV_borders dc_borders pm_borders an_borders cd_borders ct_borders), sl_borders⟩)
    (c_borders : PySem.W.codeIn K cd_borders "borders" = true) (k_borders : PySem.W.keepIn K (.ref f_borders) = true)
    {od_beat an_beat : Option Addr} {sl_beat : Array (Option Value)} {oc_beat kV_beat dc_beat pm_beat cd_beat ct_beat : Value}
    (a_beat : PySem.W.nsIn K mainGlobals "beat" = some (some (.ref f_beat)))
    (l_beat : K.lookup f_beat = some ⟨oc_beat, od_beat, .func (PySem.W.fnOf "beat" "beat" (defArgs s_beat) (defBody s_beat) (defScope s_beat) .none kV_beat dc_beat pm_beat an_beat cd_beat ct_beat), sl_beat⟩)
    (c_beat : PySem.W.codeIn K cd_beat "beat" = true) (k_beat : PySem.W.keepIn K (.ref f_beat) = true)
    {od_root an_root : Option Addr} {sl_root : Array (Option Value)} {oc_root kV_root dc_root pm_root cd_root ct_root : Value}
    (a_root : PySem.W.nsIn K mainGlobals "root" = some (some (.ref f_root)))
    (l_root : K.lookup f_root = some ⟨oc_root, od_root, .func (PySem.W.fnOf "root" "root" (defArgs s_root) (defBody s_root) (defScope s_root) .none kV_root dc_root pm_root an_root cd_root ct_root), sl_root⟩)
    (c_root : PySem.W.codeIn K cd_root "root" = true) (k_root : PySem.W.keepIn K (.ref f_root) = true)
    {od_cuts an_cuts : Option Addr} {sl_cuts : Array (Option Value)} {oc_cuts kV_cuts dc_cuts pm_cuts cd_cuts ct_cuts : Value}
    (a_cuts : PySem.W.nsIn K mainGlobals "cuts" = some (some (.ref f_cuts)))
    (l_cuts : K.lookup f_cuts = some ⟨oc_cuts, od_cuts, .func (PySem.W.fnOf "cuts" "cuts" (defArgs s_cuts) (defBody s_cuts) (defScope s_cuts) .none kV_cuts dc_cuts pm_cuts an_cuts cd_cuts ct_cuts), sl_cuts⟩)
    (c_cuts : PySem.W.codeIn K cd_cuts "cuts" = true) (k_cuts : PySem.W.keepIn K (.ref f_cuts) = true)
    {od_pieces an_pieces : Option Addr} {sl_pieces : Array (Option Value)} {oc_pieces kV_pieces dc_pieces pm_pieces cd_pieces ct_pieces : Value}
    (a_pieces : PySem.W.nsIn K mainGlobals "pieces" = some (some (.ref f_pieces)))
    (l_pieces : K.lookup f_pieces = some ⟨oc_pieces, od_pieces, .func (PySem.W.fnOf "pieces" "pieces" (defArgs s_pieces) (defBody s_pieces) (defScope s_pieces) .none kV_pieces dc_pieces pm_pieces an_pieces cd_pieces ct_pieces), sl_pieces⟩)
    (c_pieces : PySem.W.codeIn K cd_pieces "pieces" = true) (k_pieces : PySem.W.keepIn K (.ref f_pieces) = true)
    {od_Rings___init__ an_Rings___init__ : Option Addr} {sl_Rings___init__ : Array (Option Value)} {oc_Rings___init__ kV_Rings___init__ dc_Rings___init__ pm_Rings___init__ cd_Rings___init__ ct_Rings___init__ : Value}
    (a_Rings___init__ : PySem.W.findIn K (.ref q_Rings) "__init__" = some (some (.ref f_Rings___init__))) (i_Rings___init__ : PySem.W.isFn K (.ref f_Rings___init__) = true)
    (l_Rings___init__ : K.lookup f_Rings___init__ = some ⟨oc_Rings___init__, od_Rings___init__, .func (PySem.W.fnOf "__init__" "Rings.__init__" (defArgs s_Rings___init__) (defBody s_Rings___init__) (defScope s_Rings___init__) .none kV_Rings___init__ dc_Rings___init__ pm_Rings___init__ an_Rings___init__ cd_Rings___init__ ct_Rings___init__), sl_Rings___init__⟩)
    (c_Rings___init__ : PySem.W.codeIn K cd_Rings___init__ "Rings.__init__" = true) (k_Rings___init__ : PySem.W.keepIn K (.ref f_Rings___init__) = true)
    {od_Rings_add an_Rings_add : Option Addr} {sl_Rings_add : Array (Option Value)} {oc_Rings_add kV_Rings_add dc_Rings_add pm_Rings_add cd_Rings_add ct_Rings_add : Value}
    (a_Rings_add : PySem.W.findIn K (.ref q_Rings) "add" = some (some (.ref f_Rings_add))) (i_Rings_add : PySem.W.isFn K (.ref f_Rings_add) = true)
    (l_Rings_add : K.lookup f_Rings_add = some ⟨oc_Rings_add, od_Rings_add, .func (PySem.W.fnOf "add" "Rings.add" (defArgs s_Rings_add) (defBody s_Rings_add) (defScope s_Rings_add) .none kV_Rings_add dc_Rings_add pm_Rings_add an_Rings_add cd_Rings_add ct_Rings_add), sl_Rings_add⟩)
    (c_Rings_add : PySem.W.codeIn K cd_Rings_add "Rings.add" = true) (k_Rings_add : PySem.W.keepIn K (.ref f_Rings_add) = true)
    {od_Rings_ring_of an_Rings_ring_of : Option Addr} {sl_Rings_ring_of : Array (Option Value)} {oc_Rings_ring_of kV_Rings_ring_of dc_Rings_ring_of pm_Rings_ring_of cd_Rings_ring_of ct_Rings_ring_of : Value}
    (a_Rings_ring_of : PySem.W.findIn K (.ref q_Rings) "ring_of" = some (some (.ref f_Rings_ring_of))) (i_Rings_ring_of : PySem.W.isFn K (.ref f_Rings_ring_of) = true)
    (l_Rings_ring_of : K.lookup f_Rings_ring_of = some ⟨oc_Rings_ring_of, od_Rings_ring_of, .func (PySem.W.fnOf "ring_of" "Rings.ring_of" (defArgs s_Rings_ring_of) (defBody s_Rings_ring_of) (defScope s_Rings_ring_of) .none kV_Rings_ring_of dc_Rings_ring_of pm_Rings_ring_of an_Rings_ring_of cd_Rings_ring_of ct_Rings_ring_of), sl_Rings_ring_of⟩)
    (c_Rings_ring_of : PySem.W.codeIn K cd_Rings_ring_of "Rings.ring_of" = true) (k_Rings_ring_of : PySem.W.keepIn K (.ref f_Rings_ring_of) = true)
    {od_Rings_forms an_Rings_forms : Option Addr} {sl_Rings_forms : Array (Option Value)} {oc_Rings_forms kV_Rings_forms dc_Rings_forms pm_Rings_forms cd_Rings_forms ct_Rings_forms : Value}
    (a_Rings_forms : PySem.W.findIn K (.ref q_Rings) "forms" = some (some (.ref f_Rings_forms))) (i_Rings_forms : PySem.W.isFn K (.ref f_Rings_forms) = true)
    (l_Rings_forms : K.lookup f_Rings_forms = some ⟨oc_Rings_forms, od_Rings_forms, .func (PySem.W.fnOf "forms" "Rings.forms" (defArgs s_Rings_forms) (defBody s_Rings_forms) (defScope s_Rings_forms) .none kV_Rings_forms dc_Rings_forms pm_Rings_forms an_Rings_forms cd_Rings_forms ct_Rings_forms), sl_Rings_forms⟩)
    (c_Rings_forms : PySem.W.codeIn K cd_Rings_forms "Rings.forms" = true) (k_Rings_forms : PySem.W.keepIn K (.ref f_Rings_forms) = true)
    {od_Rings_many an_Rings_many : Option Addr} {sl_Rings_many : Array (Option Value)} {oc_Rings_many kV_Rings_many dc_Rings_many pm_Rings_many cd_Rings_many ct_Rings_many : Value}
    (a_Rings_many : PySem.W.findIn K (.ref q_Rings) "many" = some (some (.ref f_Rings_many))) (i_Rings_many : PySem.W.isFn K (.ref f_Rings_many) = true)
    (l_Rings_many : K.lookup f_Rings_many = some ⟨oc_Rings_many, od_Rings_many, .func (PySem.W.fnOf "many" "Rings.many" (defArgs s_Rings_many) (defBody s_Rings_many) (defScope s_Rings_many) .none kV_Rings_many dc_Rings_many pm_Rings_many an_Rings_many cd_Rings_many ct_Rings_many), sl_Rings_many⟩)
    (c_Rings_many : PySem.W.codeIn K cd_Rings_many "Rings.many" = true) (k_Rings_many : PySem.W.keepIn K (.ref f_Rings_many) = true)
    {od_Rings__begin an_Rings__begin : Option Addr} {sl_Rings__begin : Array (Option Value)} {oc_Rings__begin kV_Rings__begin dc_Rings__begin pm_Rings__begin cd_Rings__begin ct_Rings__begin : Value}
    (a_Rings__begin : PySem.W.findIn K (.ref q_Rings) "_begin" = some (some (.ref f_Rings__begin))) (i_Rings__begin : PySem.W.isFn K (.ref f_Rings__begin) = true)
    (l_Rings__begin : K.lookup f_Rings__begin = some ⟨oc_Rings__begin, od_Rings__begin, .func (PySem.W.fnOf "_begin" "Rings._begin" (defArgs s_Rings__begin) (defBody s_Rings__begin) (defScope s_Rings__begin) .none kV_Rings__begin dc_Rings__begin pm_Rings__begin an_Rings__begin cd_Rings__begin ct_Rings__begin), sl_Rings__begin⟩)
    (c_Rings__begin : PySem.W.codeIn K cd_Rings__begin "Rings._begin" = true) (k_Rings__begin : PySem.W.keepIn K (.ref f_Rings__begin) = true)
    {od_l_cell_at an_l_cell_at : Option Addr} {sl_l_cell_at : Array (Option Value)} {oc_l_cell_at kV_l_cell_at dc_l_cell_at pm_l_cell_at cd_l_cell_at ct_l_cell_at : Value}
    (a_l_cell_at : PySem.W.nsIn K mainGlobals "_law_cell_at" = some (some (.ref f_l_cell_at)))
    (l_l_cell_at : K.lookup f_l_cell_at = some ⟨oc_l_cell_at, od_l_cell_at, .func (PySem.W.fnOf "_law_cell_at" "_law_cell_at" (defArgs s_l_cell_at) (defBody s_l_cell_at) (defScope s_l_cell_at) .none kV_l_cell_at dc_l_cell_at pm_l_cell_at an_l_cell_at cd_l_cell_at ct_l_cell_at), sl_l_cell_at⟩)
    (c_l_cell_at : PySem.W.codeIn K cd_l_cell_at "_law_cell_at" = true) (k_l_cell_at : PySem.W.keepIn K (.ref f_l_cell_at) = true)
    {od_l_mixed an_l_mixed : Option Addr} {sl_l_mixed : Array (Option Value)} {oc_l_mixed kV_l_mixed dc_l_mixed pm_l_mixed cd_l_mixed ct_l_mixed : Value}
    (a_l_mixed : PySem.W.nsIn K mainGlobals "_law_mixed" = some (some (.ref f_l_mixed)))
    (l_l_mixed : K.lookup f_l_mixed = some ⟨oc_l_mixed, od_l_mixed, .func (PySem.W.fnOf "_law_mixed" "_law_mixed" (defArgs s_l_mixed) (defBody s_l_mixed) (defScope s_l_mixed) .none kV_l_mixed dc_l_mixed pm_l_mixed an_l_mixed cd_l_mixed ct_l_mixed), sl_l_mixed⟩)
    (c_l_mixed : PySem.W.codeIn K cd_l_mixed "_law_mixed" = true) (k_l_mixed : PySem.W.keepIn K (.ref f_l_mixed) = true)
    {od_l_signs an_l_signs : Option Addr} {sl_l_signs : Array (Option Value)} {oc_l_signs kV_l_signs dc_l_signs pm_l_signs cd_l_signs ct_l_signs : Value}
    (a_l_signs : PySem.W.nsIn K mainGlobals "_law_signs" = some (some (.ref f_l_signs)))
    (l_l_signs : K.lookup f_l_signs = some ⟨oc_l_signs, od_l_signs, .func (PySem.W.fnOf "_law_signs" "_law_signs" (defArgs s_l_signs) (defBody s_l_signs) (defScope s_l_signs) .none kV_l_signs dc_l_signs pm_l_signs an_l_signs cd_l_signs ct_l_signs), sl_l_signs⟩)
    (c_l_signs : PySem.W.codeIn K cd_l_signs "_law_signs" = true) (k_l_signs : PySem.W.keepIn K (.ref f_l_signs) = true)
    {od_l_turnings an_l_turnings : Option Addr} {sl_l_turnings : Array (Option Value)} {oc_l_turnings kV_l_turnings dc_l_turnings pm_l_turnings cd_l_turnings ct_l_turnings : Value}
    (a_l_turnings : PySem.W.nsIn K mainGlobals "_law_turnings" = some (some (.ref f_l_turnings)))
    (l_l_turnings : K.lookup f_l_turnings = some ⟨oc_l_turnings, od_l_turnings, .func (PySem.W.fnOf "_law_turnings" "_law_turnings" (defArgs s_l_turnings) (defBody s_l_turnings) (defScope s_l_turnings) .none kV_l_turnings dc_l_turnings pm_l_turnings an_l_turnings cd_l_turnings ct_l_turnings), sl_l_turnings⟩)
    (c_l_turnings : PySem.W.codeIn K cd_l_turnings "_law_turnings" = true) (k_l_turnings : PySem.W.keepIn K (.ref f_l_turnings) = true)
    {od_l_early an_l_early : Option Addr} {sl_l_early : Array (Option Value)} {oc_l_early kV_l_early dc_l_early pm_l_early cd_l_early ct_l_early : Value}
    (a_l_early : PySem.W.nsIn K mainGlobals "_law_early" = some (some (.ref f_l_early)))
    (l_l_early : K.lookup f_l_early = some ⟨oc_l_early, od_l_early, .func (PySem.W.fnOf "_law_early" "_law_early" (defArgs s_l_early) (defBody s_l_early) (defScope s_l_early) .none kV_l_early dc_l_early pm_l_early an_l_early cd_l_early ct_l_early), sl_l_early⟩)
    (c_l_early : PySem.W.codeIn K cd_l_early "_law_early" = true) (k_l_early : PySem.W.keepIn K (.ref f_l_early) = true)
    {od_l_long an_l_long : Option Addr} {sl_l_long : Array (Option Value)} {oc_l_long kV_l_long dc_l_long pm_l_long cd_l_long ct_l_long : Value}
    (a_l_long : PySem.W.nsIn K mainGlobals "_law_long" = some (some (.ref f_l_long)))
    (l_l_long : K.lookup f_l_long = some ⟨oc_l_long, od_l_long, .func (PySem.W.fnOf "_law_long" "_law_long" (defArgs s_l_long) (defBody s_l_long) (defScope s_l_long) .none kV_l_long dc_l_long pm_l_long an_l_long cd_l_long ct_l_long), sl_l_long⟩)
    (c_l_long : PySem.W.codeIn K cd_l_long "_law_long" = true) (k_l_long : PySem.W.keepIn K (.ref f_l_long) = true)
    {od_l_pair an_l_pair : Option Addr} {sl_l_pair : Array (Option Value)} {oc_l_pair kV_l_pair dc_l_pair pm_l_pair cd_l_pair ct_l_pair : Value}
    (a_l_pair : PySem.W.nsIn K mainGlobals "_law_pair" = some (some (.ref f_l_pair)))
    (l_l_pair : K.lookup f_l_pair = some ⟨oc_l_pair, od_l_pair, .func (PySem.W.fnOf "_law_pair" "_law_pair" (defArgs s_l_pair) (defBody s_l_pair) (defScope s_l_pair) .none kV_l_pair dc_l_pair pm_l_pair an_l_pair cd_l_pair ct_l_pair), sl_l_pair⟩)
    (c_l_pair : PySem.W.codeIn K cd_l_pair "_law_pair" = true) (k_l_pair : PySem.W.keepIn K (.ref f_l_pair) = true)
    {od_l_alone an_l_alone : Option Addr} {sl_l_alone : Array (Option Value)} {oc_l_alone kV_l_alone dc_l_alone pm_l_alone cd_l_alone ct_l_alone : Value}
    (a_l_alone : PySem.W.nsIn K mainGlobals "_law_alone" = some (some (.ref f_l_alone)))
    (l_l_alone : K.lookup f_l_alone = some ⟨oc_l_alone, od_l_alone, .func (PySem.W.fnOf "_law_alone" "_law_alone" (defArgs s_l_alone) (defBody s_l_alone) (defScope s_l_alone) .none kV_l_alone dc_l_alone pm_l_alone an_l_alone cd_l_alone ct_l_alone), sl_l_alone⟩)
    (c_l_alone : PySem.W.codeIn K cd_l_alone "_law_alone" = true) (k_l_alone : PySem.W.keepIn K (.ref f_l_alone) = true)
    {od_law an_law : Option Addr} {sl_law : Array (Option Value)} {oc_law kV_law dc_law pm_law cd_law ct_law : Value}
    (a_law : PySem.W.nsIn K mainGlobals "law" = some (some (.ref f_law)))
    (l_law : K.lookup f_law = some ⟨oc_law, od_law, .func (PySem.W.fnOf "law" "law" (defArgs s_law) (defBody s_law) (defScope s_law) .none kV_law dc_law pm_law an_law cd_law ct_law), sl_law⟩)
    (c_law : PySem.W.codeIn K cd_law "law" = true) (k_law : PySem.W.keepIn K (.ref f_law) = true)
    (z_len : PySem.W.nsIn K mainGlobals "len" = some none)
    (z_range : PySem.W.nsIn K mainGlobals "range" = some none)
    (z_sorted : PySem.W.nsIn K mainGlobals "sorted" = some none)
    (z_min : PySem.W.nsIn K mainGlobals "min" = some none)
    (z_max : PySem.W.nsIn K mainGlobals "max" = some none)
    (z_all : PySem.W.nsIn K mainGlobals "all" = some none)
    (z_isinstance : PySem.W.nsIn K mainGlobals "isinstance" = some none)
    (z_list : PySem.W.nsIn K mainGlobals "list" = some none)
    (z_tuple : PySem.W.nsIn K mainGlobals "tuple" = some none)
    (z_str : PySem.W.nsIn K mainGlobals "str" = some none)
    (z_bool : PySem.W.nsIn K mainGlobals "bool" = some none)
    (z_zip : PySem.W.nsIn K mainGlobals "zip" = some none)
    (z_enumerate : PySem.W.nsIn K mainGlobals "enumerate" = some none)
    (z_ValueError : PySem.W.nsIn K mainGlobals "ValueError" = some none)
    (z_sum : PySem.W.nsIn K mainGlobals "sum" = some none)
    (z_set : PySem.W.nsIn K mainGlobals "set" = some none)
    (z_dict : PySem.W.nsIn K mainGlobals "dict" = some none)
    (z_int : PySem.W.nsIn K mainGlobals "int" = some none)
    {t_LONGEST_WORD : Tok} (z_LONGEST_WORD : PySem.W.nsIn K mainGlobals "LONGEST_WORD" = some (some (.int 300 t_LONGEST_WORD)))
    (g_WordError : PySem.W.nsIn K mainGlobals "WordError" = some (some (.ref q_WordError)))
    (g_NoWord : PySem.W.nsIn K mainGlobals "NoWord" = some (some (.ref q_NoWord)))
    (g_Twice : PySem.W.nsIn K mainGlobals "Twice" = some (some (.ref q_Twice)))
    (x_NoWord : PySem.W.excIn K q_NoWord [.type "ValueError", .type "Exception", .type "BaseException", .type "object"] "ValueError.__new__" = true)
    (k_NoWord : PySem.W.keepIn K (.ref q_NoWord) = true)
    (b_NoWord : PySem.W.subIn K (.ref q_NoWord) (.type "BaseException") = some true)
    (t_NoWord : PySem.W.typeIn K (.ref q_NoWord) = some (.type "type"))
    (x_Twice : PySem.W.excIn K q_Twice [.type "ValueError", .type "Exception", .type "BaseException", .type "object"] "ValueError.__new__" = true)
    (k_Twice : PySem.W.keepIn K (.ref q_Twice) = true)
    (b_Twice : PySem.W.subIn K (.ref q_Twice) (.type "BaseException") = some true)
    (t_Twice : PySem.W.typeIn K (.ref q_Twice) = some (.type "type")) :
    ∃ fd : FuncData, (∀ (s : Shared) (v : Value), BindsTo s fd ⟨[v], []⟩ [("_law_script", v)]) ∧ ∀ base : Heap, K.In base → base.Ns mainGlobals mg → FnOk l.prog w K mg base CX0 7 fa fd ["_law_script"] (spLaw K) := by
  have e := hfa.symm.trans (PySem.W.mg_of X G a_law)
  cases e
  have B : Bt mg := ⟨PySem.W.mg_none_of X G z_len, PySem.W.mg_none_of X G z_range, PySem.W.mg_none_of X G z_sorted, PySem.W.mg_none_of X G z_min, PySem.W.mg_none_of X G z_max, PySem.W.mg_none_of X G z_all, PySem.W.mg_none_of X G z_isinstance, PySem.W.mg_none_of X G z_list, PySem.W.mg_none_of X G z_tuple, PySem.W.mg_none_of X G z_str, PySem.W.mg_none_of X G z_bool, PySem.W.mg_none_of X G z_zip, PySem.W.mg_none_of X G z_enumerate, PySem.W.mg_none_of X G z_ValueError, PySem.W.mg_none_of X G z_sum, PySem.W.mg_none_of X G z_set, PySem.W.mg_none_of X G z_dict, PySem.W.mg_none_of X G z_int, ⟨_, PySem.W.mg_of X G z_LONGEST_WORD, ⟨_, rfl⟩⟩⟩
  have X_NoWord : ErX K mg "NoWord" q_NoWord := ⟨PySem.W.mg_of X G g_NoWord, x_NoWord, k_NoWord, b_NoWord, t_NoWord⟩
  have X_Twice : ErX K mg "Twice" q_Twice := ⟨PySem.W.mg_of X G g_Twice, x_Twice, k_Twice, b_Twice, t_Twice⟩
  have R1 : Er1 K mg q_NoWord := ⟨PySem.W.mg_of X G g_NoWord, x_NoWord, k_NoWord, b_NoWord, t_NoWord⟩
  have D_is_word : Dfn K mg "is_word" s_is_word p_is_word := ⟨f_is_word, _, fun_mk l_is_word c_is_word k_is_word, PySem.W.mg_of X G a_is_word, (fun_mk l_is_word c_is_word k_is_word).binds (ps := p_is_word) fun _ _ _ _ _ _ us hl => match us, hl with | [_], _ => rfl⟩
  have D_need_word : Dfn K mg "need_word" s_need_word p_need_word := ⟨f_need_word, _, fun_mk l_need_word c_need_word k_need_word, PySem.W.mg_of X G a_need_word, (fun_mk l_need_word c_need_word k_need_word).binds (ps := p_need_word) fun _ _ _ _ _ _ us hl => match us, hl with | [_], _ => rfl⟩
  have D_turned : Dfn K mg "turned" s_turned p_turned := ⟨f_turned, _, fun_mk l_turned c_turned k_turned, PySem.W.mg_of X G a_turned, (fun_mk l_turned c_turned k_turned).binds (ps := p_turned) fun _ _ _ _ _ _ us hl => match us, hl with | [_, _], _ => rfl⟩
  have D_turnings : Dfn K mg "turnings" s_turnings p_turnings := ⟨f_turnings, _, fun_mk l_turnings c_turnings k_turnings, PySem.W.mg_of X G a_turnings, (fun_mk l_turnings c_turnings k_turnings).binds (ps := p_turnings) fun _ _ _ _ _ _ us hl => match us, hl with | [_], _ => rfl⟩
  have D_least_turn : Dfn K mg "least_turn" s_least_turn p_least_turn := ⟨f_least_turn, _, fun_mk l_least_turn c_least_turn k_least_turn, PySem.W.mg_of X G a_least_turn, (fun_mk l_least_turn c_least_turn k_least_turn).binds (ps := p_least_turn) fun _ _ _ _ _ _ us hl => match us, hl with | [_], _ => rfl⟩
  have D_least_form : Dfn K mg "least_form" s_least_form p_least_form := ⟨f_least_form, _, fun_mk l_least_form c_least_form k_least_form, PySem.W.mg_of X G a_least_form, (fun_mk l_least_form c_least_form k_least_form).binds (ps := p_least_form) fun _ _ _ _ _ _ us hl => match us, hl with | [_], _ => rfl⟩
  have D_steps_between : Dfn K mg "steps_between" s_steps_between p_steps_between := ⟨f_steps_between, _, fun_mk l_steps_between c_steps_between k_steps_between, PySem.W.mg_of X G a_steps_between, (fun_mk l_steps_between c_steps_between k_steps_between).binds (ps := p_steps_between) fun _ _ _ _ _ _ us hl => match us, hl with | [_, _], _ => rfl⟩
  have D_borders : Dfn K mg "borders" s_borders p_borders := ⟨f_borders, _, fun_mk l_borders c_borders k_borders, PySem.W.mg_of X G a_borders, (fun_mk l_borders c_borders k_borders).binds (ps := p_borders) fun _ _ _ _ _ _ us hl => match us, hl with | [_], _ => rfl⟩
  have D_beat : Dfn K mg "beat" s_beat p_beat := ⟨f_beat, _, fun_mk l_beat c_beat k_beat, PySem.W.mg_of X G a_beat, (fun_mk l_beat c_beat k_beat).binds (ps := p_beat) fun _ _ _ _ _ _ us hl => match us, hl with | [_], _ => rfl⟩
  have D_root : Dfn K mg "root" s_root p_root := ⟨f_root, _, fun_mk l_root c_root k_root, PySem.W.mg_of X G a_root, (fun_mk l_root c_root k_root).binds (ps := p_root) fun _ _ _ _ _ _ us hl => match us, hl with | [_], _ => rfl⟩
  have D_cuts : Dfn K mg "cuts" s_cuts p_cuts := ⟨f_cuts, _, fun_mk l_cuts c_cuts k_cuts, PySem.W.mg_of X G a_cuts, (fun_mk l_cuts c_cuts k_cuts).binds (ps := p_cuts) fun _ _ _ _ _ _ us hl => match us, hl with | [_], _ => rfl⟩
  have D_pieces : Dfn K mg "pieces" s_pieces p_pieces := ⟨f_pieces, _, fun_mk l_pieces c_pieces k_pieces, PySem.W.mg_of X G a_pieces, (fun_mk l_pieces c_pieces k_pieces).binds (ps := p_pieces) fun _ _ _ _ _ _ us hl => match us, hl with | [_], _ => rfl⟩
  have D_Rings___init__ : MDfn K q_Rings "__init__" "Rings.__init__" s_Rings___init__ p_Rings___init__ := ⟨f_Rings___init__, _, fun_mk l_Rings___init__ c_Rings___init__ k_Rings___init__, ⟨a_Rings___init__, i_Rings___init__, k_Rings___init__⟩, (fun_mk l_Rings___init__ c_Rings___init__ k_Rings___init__).binds (ps := p_Rings___init__) fun _ _ _ _ _ _ us hl => match us, hl with | [_], _ => rfl⟩
  have D_Rings_add : MDfn K q_Rings "add" "Rings.add" s_Rings_add p_Rings_add := ⟨f_Rings_add, _, fun_mk l_Rings_add c_Rings_add k_Rings_add, ⟨a_Rings_add, i_Rings_add, k_Rings_add⟩, (fun_mk l_Rings_add c_Rings_add k_Rings_add).binds (ps := p_Rings_add) fun _ _ _ _ _ _ us hl => match us, hl with | [_, _], _ => rfl⟩
  have D_Rings_ring_of : MDfn K q_Rings "ring_of" "Rings.ring_of" s_Rings_ring_of p_Rings_ring_of := ⟨f_Rings_ring_of, _, fun_mk l_Rings_ring_of c_Rings_ring_of k_Rings_ring_of, ⟨a_Rings_ring_of, i_Rings_ring_of, k_Rings_ring_of⟩, (fun_mk l_Rings_ring_of c_Rings_ring_of k_Rings_ring_of).binds (ps := p_Rings_ring_of) fun _ _ _ _ _ _ us hl => match us, hl with | [_, _], _ => rfl⟩
  have D_Rings_forms : MDfn K q_Rings "forms" "Rings.forms" s_Rings_forms p_Rings_forms := ⟨f_Rings_forms, _, fun_mk l_Rings_forms c_Rings_forms k_Rings_forms, ⟨a_Rings_forms, i_Rings_forms, k_Rings_forms⟩, (fun_mk l_Rings_forms c_Rings_forms k_Rings_forms).binds (ps := p_Rings_forms) fun _ _ _ _ _ _ us hl => match us, hl with | [_], _ => rfl⟩
  have D_Rings_many : MDfn K q_Rings "many" "Rings.many" s_Rings_many p_Rings_many := ⟨f_Rings_many, _, fun_mk l_Rings_many c_Rings_many k_Rings_many, ⟨a_Rings_many, i_Rings_many, k_Rings_many⟩, (fun_mk l_Rings_many c_Rings_many k_Rings_many).binds (ps := p_Rings_many) fun _ _ _ _ _ _ us hl => match us, hl with | [_], _ => rfl⟩
  have D_Rings__begin : MDfn K q_Rings "_begin" "Rings._begin" s_Rings__begin p_Rings__begin := ⟨f_Rings__begin, _, fun_mk l_Rings__begin c_Rings__begin k_Rings__begin, ⟨a_Rings__begin, i_Rings__begin, k_Rings__begin⟩, (fun_mk l_Rings__begin c_Rings__begin k_Rings__begin).binds (ps := p_Rings__begin) fun _ _ _ _ _ _ us hl => match us, hl with | [_, _], _ => rfl⟩
  have D_l_cell_at : Dfn K mg "_law_cell_at" s_l_cell_at p_l_cell_at := ⟨f_l_cell_at, _, fun_mk l_l_cell_at c_l_cell_at k_l_cell_at, PySem.W.mg_of X G a_l_cell_at, (fun_mk l_l_cell_at c_l_cell_at k_l_cell_at).binds (ps := p_l_cell_at) fun _ _ _ _ _ _ us hl => match us, hl with | [_, _], _ => rfl⟩
  have D_l_mixed : Dfn K mg "_law_mixed" s_l_mixed p_l_mixed := ⟨f_l_mixed, _, fun_mk l_l_mixed c_l_mixed k_l_mixed, PySem.W.mg_of X G a_l_mixed, (fun_mk l_l_mixed c_l_mixed k_l_mixed).binds (ps := p_l_mixed) fun _ _ _ _ _ _ us hl => match us, hl with | [_, _], _ => rfl⟩
  have D_l_signs : Dfn K mg "_law_signs" s_l_signs p_l_signs := ⟨f_l_signs, _, fun_mk l_l_signs c_l_signs k_l_signs, PySem.W.mg_of X G a_l_signs, (fun_mk l_l_signs c_l_signs k_l_signs).binds (ps := p_l_signs) fun _ _ _ _ _ _ us hl => match us, hl with | [_], _ => rfl⟩
  have D_l_turnings : Dfn K mg "_law_turnings" s_l_turnings p_l_turnings := ⟨f_l_turnings, _, fun_mk l_l_turnings c_l_turnings k_l_turnings, PySem.W.mg_of X G a_l_turnings, (fun_mk l_l_turnings c_l_turnings k_l_turnings).binds (ps := p_l_turnings) fun _ _ _ _ _ _ us hl => match us, hl with | [_], _ => rfl⟩
  have D_l_early : Dfn K mg "_law_early" s_l_early p_l_early := ⟨f_l_early, _, fun_mk l_l_early c_l_early k_l_early, PySem.W.mg_of X G a_l_early, (fun_mk l_l_early c_l_early k_l_early).binds (ps := p_l_early) fun _ _ _ _ _ _ us hl => match us, hl with | [_], _ => rfl⟩
  have D_l_long : Dfn K mg "_law_long" s_l_long p_l_long := ⟨f_l_long, _, fun_mk l_l_long c_l_long k_l_long, PySem.W.mg_of X G a_l_long, (fun_mk l_l_long c_l_long k_l_long).binds (ps := p_l_long) fun _ _ _ _ _ _ us hl => match us, hl with | [_, _], _ => rfl⟩
  have D_l_pair : Dfn K mg "_law_pair" s_l_pair p_l_pair := ⟨f_l_pair, _, fun_mk l_l_pair c_l_pair k_l_pair, PySem.W.mg_of X G a_l_pair, (fun_mk l_l_pair c_l_pair k_l_pair).binds (ps := p_l_pair) fun _ _ _ _ _ _ us hl => match us, hl with | [_, _], _ => rfl⟩
  have D_l_alone : Dfn K mg "_law_alone" s_l_alone p_l_alone := ⟨f_l_alone, _, fun_mk l_l_alone c_l_alone k_l_alone, PySem.W.mg_of X G a_l_alone, (fun_mk l_l_alone c_l_alone k_l_alone).binds (ps := p_l_alone) fun _ _ _ _ _ _ us hl => match us, hl with | [_], _ => rfl⟩
  have RG : RgC K mg q_Rings := ⟨⟨rg_pg, rg_hd, rg_po, rg_sa⟩, rg_n1, rg_n2, rg_n3, rg_mk, rg_kc, PySem.W.mg_of X G g_Rings⟩
  have FL := fun_mk (st := s_law) l_law c_law k_law
  refine ⟨PySem.W.fnOf "law" "law" (defArgs s_law) (defBody s_law) (defScope s_law) .none kV_law dc_law pm_law an_law cd_law ct_law, fun s v => .of_eq rfl, fun base _ _ => ?_⟩
  have c1 := ok_is_word (P := l.prog) (w := w) (base := base) B D_is_word
  have c2 := ok_need_word B R1 D_need_word c1
  have c3 := ok_turned B D_turned c2
  have c4 := ok_turnings B D_turnings c2
  have c5 := ok_least_turn B D_least_turn c4
  have c6 := ok_least_form B D_least_form c4
  have c7 := ok_steps B D_steps_between c2 c4
  have b1 := ok_borders B D_borders c2
  have b2 := ok_beat B D_beat b1
  have b3 := ok_root B D_root b2
  have b4 := ok_cuts B D_cuts c2
  have b5 := ok_pieces B D_pieces b4
  have r1 := ok_rinit (P := l.prog) (w := w) (base := base) RG D_Rings___init__
  have r2 := ok_ring_of B RG D_Rings_ring_of c6
  have r3 := ok_begin (P := l.prog) (w := w) (base := base) B RG D_Rings__begin
  have r4 := ok_radd RG X_Twice D_Rings_add r2 r3 c6
  have r5 := ok_rforms (P := l.prog) (w := w) (base := base) B RG D_Rings_forms
  have r6 := ok_rmany (P := l.prog) (w := w) (base := base) B RG D_Rings_many
  have d1 := ok_mixed (P := l.prog) (w := w) (base := base) D_l_mixed
  have d2 := ok_cell (P := l.prog) (w := w) (base := base) B D_l_cell_at
  have d3 := ok_signs B D_l_signs d1
  have d4 := ok_lturnings (P := l.prog) (w := w) (base := base) B D_l_turnings
  have d5 := ok_learly B D_l_early d4
  have d6 := ok_long B D_l_long d1 d3
  have e1 := ok_lpair B D_l_pair c7 c6 c3
  have e2 := ok_lalone B D_l_alone c6 c5 c3 b3 b5 b2 b1 d4 d5
  exact ok_law B RG FL d1 d2 d6 c3 c6 e1 e2 r1 r2 r5 r4 r6
end Rk
open PySem PySem.W PyProof.Rows
set_option maxHeartbeats 0 in
theorem PySem.Challenge.cw_ringword_k14_whole_rings_holds : PySem.Challenge.rw_ringword_k14_whole_rings.Holds := by
  w_on; o_law; k_head; (case hw => w_witness2)
  k_fill
  refine L2.walk_of (l := PySem.Challenge.rw_ringword_k14_whole_rings) (n := 63) (k := 7) (x := "_law_script") (CX := fun _ => L2.CX0) (sp := fun w => Rw.spLaw _) rfl (by decide) rfl ⟨rfl, by decide, by decide⟩ (fun w h Y => PySem.W.kIn_of Y) ?F (fun _ _ a ns hl _ hS => ⟨a, ns, rfl, hS, hl, fun _ => rfl⟩) (fun _ _ _ _ _ h => h)
  case F =>
    intro w mg fa h KX G hmg
    refine' Rk.all_mk KX G hmg ?g_Rings ?rg_pg ?rg_hd ?rg_po ?rg_sa ?rg_mk ?rg_kc ?rg_n1 ?rg_n2 ?rg_n3 ?a_is_word ?l_is_word ?c_is_word ?k_is_word ?a_need_word ?l_need_word ?c_need_word ?k_need_word ?a_turned ?l_turned ?c_turned ?k_turned ?a_turnings ?l_turnings ?c_turnings ?k_turnings ?a_least_turn ?l_least_turn ?c_least_turn ?k_least_turn ?a_least_form ?l_least_form ?c_least_form ?k_least_form ?a_steps_between ?l_steps_between ?c_steps_between ?k_steps_between ?a_borders ?l_borders ?c_borders ?k_borders ?a_beat ?l_beat ?c_beat ?k_beat ?a_root ?l_root ?c_root ?k_root ?a_cuts ?l_cuts ?c_cuts ?k_cuts ?a_pieces ?l_pieces ?c_pieces ?k_pieces ?a_Rings___init__ ?i_Rings___init__ ?l_Rings___init__ ?c_Rings___init__ ?k_Rings___init__ ?a_Rings_add ?i_Rings_add ?l_Rings_add ?c_Rings_add ?k_Rings_add ?a_Rings_ring_of ?i_Rings_ring_of ?l_Rings_ring_of ?c_Rings_ring_of ?k_Rings_ring_of ?a_Rings_forms ?i_Rings_forms ?l_Rings_forms ?c_Rings_forms ?k_Rings_forms ?a_Rings_many ?i_Rings_many ?l_Rings_many ?c_Rings_many ?k_Rings_many ?a_Rings__begin ?i_Rings__begin ?l_Rings__begin ?c_Rings__begin ?k_Rings__begin ?a_l_cell_at ?l_l_cell_at ?c_l_cell_at ?k_l_cell_at ?a_l_mixed ?l_l_mixed ?c_l_mixed ?k_l_mixed ?a_l_signs ?l_l_signs ?c_l_signs ?k_l_signs ?a_l_turnings ?l_l_turnings ?c_l_turnings ?k_l_turnings ?a_l_early ?l_l_early ?c_l_early ?k_l_early ?a_l_long ?l_l_long ?c_l_long ?k_l_long ?a_l_pair ?l_l_pair ?c_l_pair ?k_l_pair ?a_l_alone ?l_l_alone ?c_l_alone ?k_l_alone ?a_law ?l_law ?c_law ?k_law ?z_len ?z_range ?z_sorted ?z_min ?z_max ?z_all ?z_isinstance ?z_list ?z_tuple ?z_str ?z_bool ?z_zip ?z_enumerate ?z_ValueError ?z_sum ?z_set ?z_dict ?z_int ?z_LONGEST_WORD ?g_WordError ?g_NoWord ?g_Twice ?x_NoWord ?k_NoWord ?b_NoWord ?t_NoWord ?x_Twice ?k_Twice ?b_Twice ?t_Twice
    (case g_Rings => first | k_is | rfl)
    (case rg_pg => first | k_is | rfl)
    (case rg_hd => first | k_is | rfl)
    (case rg_po => first | k_is | rfl)
    (case rg_sa => first | k_is | rfl)
    (case rg_mk => first | k_is | rfl)
    (case rg_kc => first | k_is | rfl)
    (case rg_n1 => first | k_is | rfl)
    (case rg_n2 => first | k_is | rfl)
    (case rg_n3 => first | k_is | rfl)
    (case a_is_word => first | k_is | rfl)
    (case l_is_word => first | k_is | rfl)
    (case c_is_word => first | k_is | rfl)
    (case k_is_word => first | k_is | rfl)
    (case a_need_word => first | k_is | rfl)
    (case l_need_word => first | k_is | rfl)
    (case c_need_word => first | k_is | rfl)
    (case k_need_word => first | k_is | rfl)
    (case a_turned => first | k_is | rfl)
    (case l_turned => first | k_is | rfl)
    (case c_turned => first | k_is | rfl)
    (case k_turned => first | k_is | rfl)
    (case a_turnings => first | k_is | rfl)
    (case l_turnings => first | k_is | rfl)
    (case c_turnings => first | k_is | rfl)
    (case k_turnings => first | k_is | rfl)
    (case a_least_turn => first | k_is | rfl)
    (case l_least_turn => first | k_is | rfl)
    (case c_least_turn => first | k_is | rfl)
    (case k_least_turn => first | k_is | rfl)
    (case a_least_form => first | k_is | rfl)
    (case l_least_form => first | k_is | rfl)
    (case c_least_form => first | k_is | rfl)
    (case k_least_form => first | k_is | rfl)
    (case a_steps_between => first | k_is | rfl)
    (case l_steps_between => first | k_is | rfl)
    (case c_steps_between => first | k_is | rfl)
    (case k_steps_between => first | k_is | rfl)
    (case a_borders => first | k_is | rfl)
    (case l_borders => first | k_is | rfl)
    (case c_borders => first | k_is | rfl)
    (case k_borders => first | k_is | rfl)
    (case a_beat => first | k_is | rfl)
    (case l_beat => first | k_is | rfl)
    (case c_beat => first | k_is | rfl)
    (case k_beat => first | k_is | rfl)
    (case a_root => first | k_is | rfl)
    (case l_root => first | k_is | rfl)
    (case c_root => first | k_is | rfl)
    (case k_root => first | k_is | rfl)
    (case a_cuts => first | k_is | rfl)
    (case l_cuts => first | k_is | rfl)
    (case c_cuts => first | k_is | rfl)
    (case k_cuts => first | k_is | rfl)
    (case a_pieces => first | k_is | rfl)
    (case l_pieces => first | k_is | rfl)
    (case c_pieces => first | k_is | rfl)
    (case k_pieces => first | k_is | rfl)
    (case a_Rings___init__ => first | k_is | rfl)
    (case i_Rings___init__ => first | k_is | rfl)
    (case l_Rings___init__ => first | k_is | rfl)
    (case c_Rings___init__ => first | k_is | rfl)
    (case k_Rings___init__ => first | k_is | rfl)
    (case a_Rings_add => first | k_is | rfl)
    (case i_Rings_add => first | k_is | rfl)
    (case l_Rings_add => first | k_is | rfl)
    (case c_Rings_add => first | k_is | rfl)
    (case k_Rings_add => first | k_is | rfl)
    (case a_Rings_ring_of => first | k_is | rfl)
    (case i_Rings_ring_of => first | k_is | rfl)
    (case l_Rings_ring_of => first | k_is | rfl)
    (case c_Rings_ring_of => first | k_is | rfl)
    (case k_Rings_ring_of => first | k_is | rfl)
    (case a_Rings_forms => first | k_is | rfl)
    (case i_Rings_forms => first | k_is | rfl)
    (case l_Rings_forms => first | k_is | rfl)
    (case c_Rings_forms => first | k_is | rfl)
    (case k_Rings_forms => first | k_is | rfl)
    (case a_Rings_many => first | k_is | rfl)
    (case i_Rings_many => first | k_is | rfl)
    (case l_Rings_many => first | k_is | rfl)
    (case c_Rings_many => first | k_is | rfl)
    (case k_Rings_many => first | k_is | rfl)
    (case a_Rings__begin => first | k_is | rfl)
    (case i_Rings__begin => first | k_is | rfl)
    (case l_Rings__begin => first | k_is | rfl)
    (case c_Rings__begin => first | k_is | rfl)
    (case k_Rings__begin => first | k_is | rfl)
    (case a_l_cell_at => first | k_is | rfl)
    (case l_l_cell_at => first | k_is | rfl)
    (case c_l_cell_at => first | k_is | rfl)
    (case k_l_cell_at => first | k_is | rfl)
    (case a_l_mixed => first | k_is | rfl)
    (case l_l_mixed => first | k_is | rfl)
    (case c_l_mixed => first | k_is | rfl)
    (case k_l_mixed => first | k_is | rfl)
    (case a_l_signs => first | k_is | rfl)
    (case l_l_signs => first | k_is | rfl)
    (case c_l_signs => first | k_is | rfl)
    (case k_l_signs => first | k_is | rfl)
    (case a_l_turnings => first | k_is | rfl)
    (case l_l_turnings => first | k_is | rfl)
    (case c_l_turnings => first | k_is | rfl)
    (case k_l_turnings => first | k_is | rfl)
    (case a_l_early => first | k_is | rfl)
    (case l_l_early => first | k_is | rfl)
    (case c_l_early => first | k_is | rfl)
    (case k_l_early => first | k_is | rfl)
    (case a_l_long => first | k_is | rfl)
    (case l_l_long => first | k_is | rfl)
    (case c_l_long => first | k_is | rfl)
    (case k_l_long => first | k_is | rfl)
    (case a_l_pair => first | k_is | rfl)
    (case l_l_pair => first | k_is | rfl)
    (case c_l_pair => first | k_is | rfl)
    (case k_l_pair => first | k_is | rfl)
    (case a_l_alone => first | k_is | rfl)
    (case l_l_alone => first | k_is | rfl)
    (case c_l_alone => first | k_is | rfl)
    (case k_l_alone => first | k_is | rfl)
    (case a_law => first | k_is | rfl)
    (case l_law => first | k_is | rfl)
    (case c_law => first | k_is | rfl)
    (case k_law => first | k_is | rfl)
    (case z_len => first | k_is | rfl)
    (case z_range => first | k_is | rfl)
    (case z_sorted => first | k_is | rfl)
    (case z_min => first | k_is | rfl)
    (case z_max => first | k_is | rfl)
    (case z_all => first | k_is | rfl)
    (case z_isinstance => first | k_is | rfl)
    (case z_list => first | k_is | rfl)
    (case z_tuple => first | k_is | rfl)
    (case z_str => first | k_is | rfl)
    (case z_bool => first | k_is | rfl)
    (case z_zip => first | k_is | rfl)
    (case z_enumerate => first | k_is | rfl)
    (case z_ValueError => first | k_is | rfl)
    (case z_sum => first | k_is | rfl)
    (case z_set => first | k_is | rfl)
    (case z_dict => first | k_is | rfl)
    (case z_int => first | k_is | rfl)
    (case z_LONGEST_WORD => first | k_is | rfl)
    (case g_WordError => first | k_is | rfl)
    (case g_NoWord => first | k_is | rfl)
    (case g_Twice => first | k_is | rfl)
    (case x_NoWord => k_exc)
    (case k_NoWord => first | k_is | rfl)
    (case b_NoWord => first | k_is | rfl)
    (case t_NoWord => first | k_is | rfl)
    (case x_Twice => k_exc)
    (case k_Twice => first | k_is | rfl)
    (case b_Twice => first | k_is | rfl)
    (case t_Twice => first | k_is | rfl)
