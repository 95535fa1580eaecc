import PyProof.Rows.All
import Wide.All
import OpenK.AllK
import Wide.FinOn
import HandS.ForMost
import HandS.ForExc
import HandS.Wide
import HandS.IsInst
import HandS.FStr
import HandS.Small
import HandS.Style
import HandS.Deep
import HandS.Walk
import HandS.ExcIs
import HandS.ExcValue
import HandS.SetFor
import HandS.Zip
import HandS.Evl
import KE.DataMinMax
import PyProof.CollectStr
import PyProof.StrOps2
import PyProof.Rows.SortShellAny
import HandS.DictComp
import HandS.SortKw
import HandS.StrMore
import PySem.Challenge.RW_ringword_k03_early
set_option Elab.async false
set_option linter.all false
set_option maxRecDepth 100000
set_option maxHeartbeats 8000000
/-! Rules of our own, beside the hand layer: texts repeated and turned round, the least of texts, a text's signs sorted, a list of truths counted, a caught error kept. -/
namespace Rw
open PySem PySem.Spec PyProof.Rows L2

/-- a text by its codes -/
def T (l : List Nat) : Str := ⟨l.toArray⟩
theorem T_cps (l : List Nat) : (T l).cps.toList = l := by simp [T]
theorem T_of (z : Str) : T z.cps.toList = z := by cases z; simp [T]
theorem T_inj {a b : List Nat} (h : T a = T b) : a = b := by
  have e := congrArg (fun z : Str => z.cps.toList) h
  simpa [T_cps] using e
theorem T_len (l : List Nat) : (T l).length = l.length := by simp [T, Str.length]
theorem T_app (a b : List Nat) : T a ++ T b = T (a ++ b) := by
  show Str.append _ _ = _
  simp [T, Str.append]
section
variable {X : Cx}

/-! text * n -/
def rRepS : R2 := fun x y H Q => ∃ (l : List Nat) (k : Int), x = .str (T l) ∧ y = .int k ∧ 0 ≤ k ∧ k ≤ 100000 ∧ l.length * k.toNat ≤ 100000 ∧ Q (.str (T (List.replicate k.toNat l).flatten)) H
theorem rep_fold (l : List Nat) : ∀ (n : Nat) (acc : Array Nat), (List.replicate n l.toArray).foldl (· ++ ·) acc = acc ++ (List.replicate n l).flatten.toArray
  | 0, acc => by simp
  | n + 1, acc => by
    rw [List.replicate_succ, List.foldl_cons, rep_fold l n, List.replicate_succ, List.flatten_cons]
    simp [Array.append_assoc]
theorem op_rep_str : OpR X (binaryOp .Mult) rRepS := by
  intro pins s σ H x y v u Q I rx ry h
  obtain ⟨l, k, rfl, rfl, h0, h1, hz, q⟩ := h
  obtain ⟨t, rfl⟩ := rx
  obtain ⟨t', rfl⟩ := ry
  have hlen : (T l).length = l.length := T_len l
  have hll : l.length * k.toNat ≤ sizeLine := Nat.le_trans hz (by decide)
  refine P.mul_str (by
      have a1 : ¬ k < -(2 ^ 63 : Int) := by omega
      have a2 : ¬ k ≥ 2 ^ 63 := by omega
      rw [decide_eq_false a1, decide_eq_false a2]; rfl) (fun hk he => ?_) (fun hk he => ?_) ?_
  · rw [hlen]
    have hl : (l.length : Int) ≤ 100000 := by
      have : 1 ≤ k.toNat := by omega
      have := Nat.le_mul_of_pos_right l.length this
      omega
    intro hc
    have h2 : (2 ^ 63 - 1 : Int) / 100000 ≤ (2 ^ 63 - 1) / k := by
      refine Int.le_ediv_of_mul_le (by omega) ?_
      have : (2 ^ 63 - 1 : Int) / 100000 * k ≤ (2 ^ 63 - 1 : Int) / 100000 * 100000 := Int.mul_le_mul_of_nonneg_left h1 (by decide)
      exact Int.le_trans this (by decide)
    have h3 : (100000 : Int) ≤ (2 ^ 63 - 1) / 100000 := by decide
    omega
  · unfold Builtin.Str.tooLong
    rw [hlen]
    simp only [decide_eq_false_iff_not, gt_iff_lt]
    exact Nat.not_lt.mpr hll
  · by_cases hk : k < 1
    · have e : k = 0 := by omega
      subst e
      rw [if_pos (by decide)]
      exact ⟨by decide, .str _, H, I.tok _, ⟨_, rfl⟩, q⟩
    · rw [if_neg hk]
      by_cases he : (k == 1 || (T l).length == 0) = true
      · rw [if_pos he]
        have e : (List.replicate k.toNat l).flatten = l := by
          rw [hlen] at he
          simp only [Bool.or_eq_true, beq_iff_eq] at he
          rcases he with e | e
          · subst e; simp
          · have : l = [] := List.eq_nil_of_length_eq_zero e
            subst this
            simp
        rw [e] at q
        exact ⟨.str _, H, I, ⟨t, rfl⟩, q⟩
      · rw [if_neg he]
        have e := rep_fold l k.toNat #[]
        rw [Array.empty_append] at e
        show Made.post (Made.str ⟨(List.replicate k.toNat l.toArray).foldl (· ++ ·) #[]⟩) _ _
        rw [e]
        refine ⟨?_, .str _, H, I.tok _, ⟨_, rfl⟩, q⟩
        show (List.replicate k.toNat l).flatten.toArray.size ≤ sizeLine
        rw [List.size_toArray]
        have : (List.replicate k.toNat l).flatten.length = k.toNat * l.length := by simp
        rw [this, Nat.mul_comm]
        exact hll

/-! text[::-1] -/
def tRevS (te : TE) : TE := fun σ H Q => te σ H fun x H1 => ∃ l : List Nat, x = .str (T l) ∧ l.length ≤ 100000 ∧ Q (.str (T l.reverse)) H1
theorem rev_pick (x : Str) (t : Tok) : (slicePicked x none none (some ((-1 : Int), t))).filterMap (x.cps[·]?) = x.cps.toList.reverse := by
  have e : slicePicked x none none (some ((-1 : Int), t)) = (List.range x.cps.size).reverse := by
    show sliceRange ((x.length : Int) - 1) (-1) (-1) = _
    have h := PySem.W.krv_sliceRange x.length
    rw [h, PySem.W.krv_range]
    rfl
  rw [e, List.filterMap_reverse, PySem.W.krv_all]
theorem pe_revS {e : Expr} {te : TE} {k : Nat} {p1 p2 p3 pos : Pos} (he : PE X e te) : PE X (.Subscript e (.Slice none none (some (.UnaryOp .USub (.Constant (.int 1) k p1) p2)) p3) pos) (tRevS te) := by
  refine ⟨fun pins s σ H Q I h => ?_⟩
  refine Subscript_ (thn (he.run pins s σ H _ I h) fun v s1 ⟨x, H1, I1, r1, q1⟩ => ?_)
  obtain ⟨l, ex, hz, q⟩ := q1
  subst ex
  obtain ⟨t, rfl⟩ := r1
  have step : PO X (some (.UnaryOp .USub (.Constant (.int 1) k p1) p2)) (tPart (tUn (rU fun i => .int (-i)) (tC (.int 1)))) := po_some (pe_un un_neg pe_int)
  refine wpAny_Slice (thn (po_none.run pins s1 σ H1 (fun o H2 => o = none ∧ H2 = H1) I1 ⟨rfl, rfl⟩) fun vl s2 ⟨o1, H2, I2, pl, el, e2⟩ => ?_)
  subst el e2
  refine thn (po_none.run pins s2 σ H2 (fun o H3 => o = none ∧ H3 = H2) I2 ⟨rfl, rfl⟩) fun vu s3 ⟨o2, H3, I3, pu, eu, e3⟩ => ?_
  subst eu e3
  refine thn (step.run pins s3 σ H3 (fun o H4 => o = some (-1) ∧ H4 = H3) I3 ⟨1, rfl, -1, rfl, rfl, rfl⟩) fun vs s4 ⟨o3, H4, I4, ps, eo, e4⟩ => ?_
  subst eo e4
  have I5 : Inv X pins σ H4 { s4 with heap := s4.heap.push { cls := .type "slice", data := .fields #[vl, vu, vs] } } := I4.kept (t' := s4.toks) fun b ob q => Heap.get?_push_of_some _ q
  cases pl
  cases pu
  obtain ⟨u, rfl⟩ : ∃ u, vs = Value.int (-1) u := by
    cases ps with
    | int i u => exact ⟨u, rfl⟩
  show wpAny (model X.prog X.w) X.A (subscriptTail e (.Slice none none (some (.UnaryOp .USub (.Constant (.int 1) k p1) p2)) p3) (.str (T l) t) (.ref s4.heap.objs.size)) (EP X pins σ Q) X.xe _
  refine tail_any (ops := [.str (T l) t, .ref s4.heap.objs.size]) (typeIs_str _ _ _) (F.slot_str_getitem.lookup) ?_ (by with_unfolding_all rfl)
  refine wpAny_getItem_str_slice (l := none) (u := none) (st := some ((-1 : Int), u)) ⟨_, Heap.get?_push_size _ rfl, rfl, rfl⟩ (by rfl) ?_
  have nq : (((some ((-1 : Int), u) : Option (Int × Tok)).map (·.1)).getD 1 == 1 && (slicePicked (T l) none none (some ((-1 : Int), u))).length == (T l).length) = false := by
    show (((-1 : Int) == 1) && _) = false
    rfl
  unfold sliceMade
  rw [nq, if_neg Bool.false_ne_true, rev_pick, T_cps]
  refine ⟨?_, .str _, H4, I5.tok _, ⟨_, rfl⟩, q⟩
  show l.reverse.toArray.size ≤ sizeLine
  rw [List.size_toArray, List.length_reverse]
  exact Nat.le_trans hz (by decide)

/-! min of a list of texts -/
def lstT (x : List Nat) (ys : List (List Nat)) : List Nat := ys.foldl (fun a y => if y < a then y else a) x
def rMinT (K : PySem.W.Frag) : List V → Hp → VK → Prop := fun vs H Q => ∃ (a : Addr) (x : List Nat) (ys : List (List Nat)), vs = [V.ref a] ∧ SqL K H a (V.str (T x) :: ys.map fun y => V.str (T y)) ∧ Q (.str (T (lstT x ys))) H
theorem minD_strs (ys : List (List Nat)) : ∀ x : List Nat, PySem.W.minD (.str (T x)) (ys.map fun y => .str (T y)) = .str (T (lstT x ys)) := by
  induction ys with
  | nil => intro x; rfl
  | cons y r ih =>
    intro x
    show PySem.W.minD (if PySem.W.dataLt (.str (T y)) (.str (T x)) = true then .str (T y) else .str (T x)) (r.map fun y => .str (T y)) = _
    rw [PySem.W.dataLt_str, T_cps, T_cps]
    by_cases h : y < x
    · rw [decide_eq_true h, if_pos rfl, ih]
      unfold lstT
      rw [List.foldl_cons, if_pos h]
    · rw [decide_eq_false h, if_neg Bool.false_ne_true, ih]
      unfold lstT
      rw [List.foldl_cons, if_neg h]
theorem reads_strs {h : Heap} : ∀ {us : List Value} {ys : List (List Nat)}, Vals (ys.map fun y => V.str (T y)) us → ReadsAll h us (ys.map fun y => PyData.str (T y)) []
  | us, [], r => by
    cases r
    exact .nil
  | us, y :: ys, r => by
    rw [List.map_cons] at r
    cases r with
    | cons r1 r2 =>
      obtain ⟨t, rfl⟩ := r1
      exact ReadsAll.cons (as := []) (.str (T y) t) (reads_strs r2)
theorem cr_minT (hc : X.calm = true) (hu : X.A.units + 64 < cLine) : CallR X (.builtin "min") (rMinT X.K) := by
  intro pins s σ H vs us Q I r h
  obtain ⟨a, x, ys, rfl, hs, q⟩ := h
  obtain ⟨its, rv, hl, _⟩ := I.list hs
  rw [Vals.ref1 r]
  have rv' : Vals ((x :: ys).map fun y => V.str (T y)) its := rv
  have hd : ∀ l : List (List Nat), PyData.depthAll (l.map fun y => PyData.str (T y)) ≤ 1 := by
    intro l
    induction l with
    | nil => decide
    | cons y r ih =>
      rw [List.map_cons]
      unfold PyData.depthAll
      refine Nat.max_le.mpr ⟨?_, ih⟩
      first | decide | (show PyData.depth (.str _) ≤ 1; unfold PyData.depth; decide)
  have ha : PySem.W.AlikeAll ((x :: ys).map fun y => PyData.str (T y)) := by
    refine ⟨fun p hp q hq => ?_, fun p hp e => ?_⟩
    · obtain ⟨y, _, rfl⟩ := List.mem_map.mp hp
      obtain ⟨z, _, rfl⟩ := List.mem_map.mp hq
      rfl
    · obtain ⟨y, _, rfl⟩ := List.mem_map.mp hp
      cases e
  refine PySem.W.min_list_data (x := .str (T x)) (xs := ys.map fun y => .str (T y)) (I.ok.hd hc) hl.isList (by simpa using reads_strs (h := s.heap) rv') ha (by have := hd (x :: ys); simp only [List.map_cons] at this; omega) fun i v h' tk bs hv hr hk => ?_
  rw [minD_strs] at hr
  obtain ⟨t, rfl⟩ : ∃ t, v = Value.str (T (lstT x ys)) t := by
    cases hr with
    | str z t => exact ⟨t, rfl⟩
  exact ⟨.str _, H, I.kept hk, ⟨_, rfl⟩, q⟩

/-! sorted(text) -/
def rSortedT : List V → Hp → VK → Prop := fun vs H Q => ∃ l : List Nat, vs = [V.str (T l)] ∧ l.length ≤ 100000 ∧
  ∀ (ys : List Str) (p : Addr), ys.Perm (l.map fun c => T [c]) → H p = none → Q (.ref p) (upd H p (.lst (ys.map V.str)))
theorem strs_signs : ∀ (l : List Nat) (us : List Value), us.length = l.length → (∀ (j : Nat) (v : Value), us[j]? = some v → ∃ (c : Nat) (u : Tok), l[j]? = some c ∧ v = Value.str ⟨#[c]⟩ u) → StrsAre us (l.map fun c => T [c])
  | [], [], _, _ => .nil
  | [], _ :: _, h, _ => by simp at h
  | c :: l, [], h, _ => by simp at h
  | c :: l, v :: us, h, f => by
    obtain ⟨c', u, e1, e2⟩ := f 0 v rfl
    cases e1
    subst e2
    exact .cons _ _ (strs_signs l us (by simpa using h) fun j w hw => f (j + 1) w hw)
theorem cr_sortedT (hc : X.calm = true) : CallR X (.builtin "sorted") rSortedT := by
  intro pins s σ H vs us Q I r h
  obtain ⟨l, rfl, hz, q⟩ := h
  obtain ⟨u, rfl, ru⟩ := r.one
  obtain ⟨t, rfl⟩ := ru
  have hzl : l.length ≤ sizeLine := Nat.le_trans hz (by decide)
  refine Calls.call_function_entry kind_sorted plain_sorted entry_sorted (args_sorted1 _) ?_
  unfold Builtin.«sorted»
  refine wpAny_bind (m := checkCount "sorted" 1 1 _) (wpAny_pure ?_)
  refine wpAny_bind (wpAny_collect_str (by exact I.ok.hd hc) (T l) t (fun s' acc hk hg hd ho hacc => ?_) (by show l.toArray.size ≤ sizeLine; rw [List.size_toArray]; exact hzl))
  obtain ⟨hp, g, d, tk, os⟩ := s'
  simp only at hk hg hd ho
  subst hg hd ho
  have I1 : Inv X pins σ H { s with heap := hp, toks := tk } := I.kept hk
  obtain ⟨h1, h2⟩ := hacc
  have hsz : acc.toList.length = l.length := by
    rw [Array.length_toList, h1]
    show l.toArray.size = _
    rw [List.size_toArray]
  have hS : StrsAre acc.toList (l.map fun c => T [c]) := strs_signs l acc.toList hsz fun j v hv => by
    obtain ⟨c, w, e1, e2⟩ := h2 j v (by simpa using hv)
    refine ⟨c, w, ?_, e2⟩
    have : (T l).cps[j]? = l[j]? := by simp [T]
    rw [← this]
    exact e1
  refine wpAny_bind (wpAny_newList ?_ (by rw [hsz]; exact hzl))
  have hoL : (hp.push (seqObj "list" acc.toList.toArray 0)).get? hp.objs.size = some (seqObj "list" acc.toList.toArray 0) := Heap.get?_push_size _ rfl
  refine wpAny_bind (wpAny_holding (wpAny_call_entry slot_list_sort ⟨_, hoL, rfl⟩ entry_list_sort (list_sort_treeKAny strKind_oneLt hoL hS.keysOf (fun v₁ v₂ rest e => keyKind_strs (by rw [← e]; exact hS)) (by rw [hsz]; exact hzl) fun st' a1 a2 => ⟨_, rfl, ?_⟩) (args_list_sort _)))
  obtain ⟨ss', b1, b2, b3⟩ := sorted_out_str hS a1 a2
  refine wpAny_pure ⟨_, rfl, ?_⟩
  obtain ⟨ep, he'⟩ := sortedHeap_at (vs := acc.toList) (out := (arrOf st').map (·.2)) hoL
  have hlen : (ss'.map V.str).length ≤ sizeLine := by
    rw [List.length_map, b2.length_eq, List.length_map]
    exact hzl
  refine ⟨.ref hp.objs.size, upd H hp.objs.size (.lst (ss'.map V.str)), I1.laid (t' := tk) (fun b u hu => ?_) (Nat.le_refl _) ⟨hlen, ((arrOf st').map (·.2)).toList, ep, vals_of_strs b1, by rw [Array.toArray_toList]; exact he'⟩, rfl, q _ _ b2 (I1.hok.fresh (Nat.le_refl _))⟩
  have hb : b ≠ hp.objs.size := Nat.ne_of_lt (Heap.lt_size hu)
  rw [sortedHeap_old hb (by rw [size_push']; exact Nat.lt_succ_of_lt (Heap.lt_size hu))]
  exact Heap.get?_push_of_some _ hu

/-! xs.count(True), truths -/
def rCntB (K : PySem.W.Frag) : V → List V → Hp → VK → Prop := fun x xs H Q => ∃ (p : Addr) (bs : List Bool), x = .ref p ∧ xs = [.bl true] ∧ SqL K H p (bs.map V.bl) ∧ Q (.int (bs.count true : Nat)) H
def eqT (v : Value) : Bool := match v with
  | .bool b => b
  | _ => false
theorem mt_countB : MtR X "list.count" (rCntB X.K) := by
  intro pins s σ H x xs v us Q I rx rxs h
  obtain ⟨p, bs, rfl, rfl, hs, q⟩ := h
  cases rx
  obtain ⟨u, rfl, ru⟩ := rxs.one
  cases (show u = Value.bool true from ru)
  obtain ⟨its, rv, ⟨⟨cls, dd, data, sl⟩, n, ho, hc, hdn, hd⟩, hlen⟩ := I.list hs
  simp only at hc hd
  subst hc hd
  have hb : ∀ {bs : List Bool} {its : List Value}, Vals (bs.map V.bl) its → its = bs.map Value.bool := by
    intro bs
    induction bs with
    | nil => intro its r; cases r; rfl
    | cons b bs ih =>
      intro its r
      rw [List.map_cons] at r
      cases r with
      | cons r1 r2 =>
        rw [ih r2]
        cases (show _ = Value.bool b from r1)
        rfl
  have e := hb rv
  subst e
  refine call_meets PySem.F.slot_list_count ⟨_, ho, rfl⟩ PySem.F.entry_list_count (PySem.F.args_list_count_2 _ _)
    (SeqAt.list_countAt p (bs.map Value.bool).toArray n dd sl (.bool true) eqT) ⟨ho, fun y hy => ?_, ?_⟩
  · obtain ⟨b, _, rfl⟩ := List.mem_map.mp (List.mem_toArray.mp hy)
    cases b with
    | true => exact SeqAt.EqAt.bool_bool true true
    | false => exact SeqAt.EqAt.bool_bool false true
  · have ec : (bs.map Value.bool).toArray.toList.countP eqT = bs.count true := by
      show (bs.map Value.bool).countP eqT = _
      rw [List.countP_map]
      unfold List.count
      congr 1
      funext b
      cases b <;> rfl
    rw [ec]
    exact ⟨.int _, H, I.tok _, ⟨s.toks, rfl⟩, q⟩

/-! a caught error, kept: an exception object of the class cls that stands at a -/
def ExV (cls : Value) (a : Addr) : HO := .ext fun h => ∃ (oe : Obj) (vs : Array Value), h.get? a = some oe ∧ Zc cls none oe ∧ oe.data = .fields vs
theorem exV_ok {P : Program} {w : World} {H : Hp} {h : Heap} {a : Addr} {cls : Value} {oe : Obj} {vs : Array Value} (e : h.get? a = some oe) (z : Zc cls none oe) (d : oe.data = .fields vs) : ObjOk P w H h a (ExV cls a) :=
  ⟨⟨oe, vs, e, z, d⟩, ⟨oe, e⟩, fun _ _ ⟨o, v, q, r⟩ k => ⟨o, v, k o q, r⟩⟩
/-- an object that was not there at the def's entry, and is not tracked, may be tracked -/
theorem track {pins : List (Addr × Obj)} {σ : L2.St} {H : Hp} {s : Shared} {a : Addr} {o : HO} (I : Inv X pins σ H s) (n0 : X.s_0.heap.get? a = none) (hn : H a = none) (nL : a ≠ X.env.locals)
    (nC : ∀ x c, X.env.cells.lookup x = some c → c ≠ a) (nP : ∀ p ∈ X.pn ++ pins, p.1 ≠ a) (new : ObjOk X.prog X.w (upd H a o) s.heap a o) : Inv X pins σ (upd H a o) s := by
  have ne0 : ∀ b u, X.s_0.heap.get? b = some u → b ≠ a := fun b u e z => by
    rw [z, n0] at e
    cases e
  refine ⟨I.ok, I.os, I.bare, ⟨I.base.keep, I.base.slot, fun b u e n hq => ?_, I.base.there, fun b xs e => ?_, fun b u v e => ?_, fun b ps e => ?_⟩, I.loc, I.cell, ?_, fun x c e => ?_, fun p hp => ?_, HOk.laidN I.hok (fun _ _ q => q) hn new, I.len⟩
  · rw [upd_ne (ne0 b u e)]
    exact I.base.free b u e n hq
  · have q := I.base.tups b xs e
    rw [upd_ne (ne_of_none q hn)]
    exact q
  · have q := I.base.frzs b u v e
    rw [upd_ne (ne_of_none q hn)]
    exact q
  · obtain ⟨m, q⟩ := I.base.tbls b ps e
    exact ⟨m, by rw [upd_ne (ne_of_none q hn)]; exact q⟩
  · rw [upd_ne (Ne.symm nL)]
    exact I.free
  · rw [upd_ne (nC x c e)]
    exact I.freeC x c e
  · obtain ⟨e, n, ne, nf, d⟩ := I.pin p hp
    exact ⟨e, by rw [upd_ne (nP p hp)]; exact n, ne, nf, d⟩
/-- isinstance(e, c), e such an error -/
def rIsX (K : PySem.W.Frag) : List V → Hp → VK → Prop := fun xs H Q => ∃ (a D : Addr) (c : V) (cv : Value) (b : Bool), xs = [.ref a, c] ∧ H a = some (ExV (.ref D) a) ∧ ExcC K D ∧ (∀ u, RelV c u → u = cv) ∧ PySem.W.kitOne K (.ref D) cv = some b ∧ Q (.bl b) H
theorem call_isX : CallR X (.builtin "isinstance") (rIsX X.K) := by
  intro pins s σ H xs us Q I r h
  obtain ⟨a, D, c, cv, b, rfl, ha, C, hcv, e, q⟩ := h
  obtain ⟨u1, u2, rfl, rx, rt⟩ := vals2 r
  cases rx
  have ec := hcv _ rt
  subst ec
  obtain ⟨⟨oe, vs, hget, hz, hv⟩, _, _⟩ := (show ObjOk X.prog X.w H s.heap a (ExV (.ref D) a) from I.hok a _ ha)
  have J : PySem.W.InstAt s.heap a oe D none := by
    obtain ⟨oc, od, oda, osl⟩ := oe
    obtain ⟨h1, h2⟩ := hz
    dsimp only at h1 h2 hv
    subst h1 h2 hv
    exact ⟨hget, rfl, rfl, trivial⟩
  exact PySem.W.kia_one (PySem.W.handS_kitx_exc C.hg C.hk C.hs C.hd C.ha C.hn C.ht C.hm) I.kIn J e (fun z => nomatch z) fun tk => ⟨.bl b, H, I.tok _, rfl, q⟩

/-- what the clause «except c as n: m = n» asks of an error of the body (n in slot i, m in slot j): the clause takes it, and what follows holds with the error kept -/
def wVal (K : PySem.W.Frag) (c : Value) (i j : Nat) (D : Ends) : WX := fun cls d σ H =>
  PySem.W.exmOne K cls c = some true ∧ d = none ∧ ∀ a, H a = none → D.nx ((σ.set i (some (.ref a))).set j (some (.ref a)) |>.set i none) (upd H a (ExV cls a))
/-- an error that has come down: the state, the error's place, all that is known of it -/
structure Caught (X : Cx) (pins : List (Addr × Obj)) (σ : L2.St) (H : Hp) (s : Shared) (a : Addr) (cls : Value) : Prop where
  inv : Inv X pins σ H s
  free : H a = none
  new0 : X.s_0.heap.get? a = none
  loc : a ≠ X.env.locals
  frs : a ∉ X.fs
  cel : ∀ x c, X.env.cells.lookup x = some c → c ≠ a
  pin : ∀ p ∈ X.pn ++ pins, p.1 ≠ a
theorem ps_try_val {x n m : Str} {c : Value} {i j : Nat} {body orelse : List Stmt} {np p1 p2 p3 p4 pos : Pos} {tb : WX → TS} {u : TS} (ho : PSs X orelse u) (st : X.stack = X.env :: X.outer) (fm : X.env.frame = some X.env.locals) (ex0 : X.ex = [])
    (nd : X.N.Nodup) (hi : X.N[i]? = some n) (hj : X.N[j]? = some m) (ln : X.env.scope.names.lookup n = some .local) (lm : X.env.scope.names.lookup m = some .local) (kn : X.env.kindOf n = some .local) (nm : Names X x c) (nb1 : (n == ("__debug__" : Str)) = false) (nb2 : (n == ("__classdict__" : Str)) = false)
    (sw : swapsWith (.Name n p2) (some (.Name m p1)) p3.line X.env = pure false)
    (hb : ∀ (W : WX) (pn : List (Addr × Obj)) (xe : Value → Shared → Prop), Takes (X.tr pn xe) W → PassesOwn (model X.prog X.w) X.A X.env xe → PSs (X.tr pn xe) body (tb W)) :
    PS X (.Try body [.ExceptHandler (some (.Name x np)) (some n) [.Assign [.Name m p1] (.Name n p2) p3] p4] orelse [] pos) (fun D σ H => tb (wVal X.K c i j D) { D with nx := u D } σ H) := by
  constructor
  intro pins s σ H D I h
  have ok := I.ok
  have frames : X.A.frames = some (X.env :: X.outer) := st ▸ ok.frames
  apply wpAny_Try_except
  refine wpAny_mono ((hb (wVal X.K c i j D) (X.pn ++ pins) _ ?caught PassesOwn.looking).run [] s σ H { D with nx := u D } (I.toTry _) h) ?after (fun e s1 he => he)
  case caught =>
    rintro e s' ⟨a, B, sI, ps', σ', H', cls, d, rfl, J0, keepB, up, sky, na, os, ag, hyes, hd0, hgo⟩
    subst hd0
    have J : Inv X pins σ' H' sI := J0.ofTry ok
    rw [st] at keepB
    have sky' : Sky B (X.env :: X.outer) a (Zc cls none) X.env.locals s'.heap := st ▸ sky
    apply Sky.land Zc.steady frames fm sky'
    intro h3 fly up3
    have land : ∀ h4 : Heap, HandSPX.FlyingZ B (X.env :: X.outer) a (Zc cls none) h4 → sI.heap.UpToSlots h4 → Inv X pins σ' H' { s' with heap := h4 } := fun h4 fl u4 => J.landed (by rw [st]; exact keepB) fl.1 u4 os ag
    have J3 := land h3 fly (up.trans up3)
    obtain ⟨oe3, vs3, g3, z3, d3⟩ := fly.there
    have notF : a ∉ frs (X.env :: X.outer) := fun hm => by
      obtain ⟨_, o', e', hnf⟩ := fly.2.2.1.mem hm
      rw [g3] at e'
      cases e'
      exact hnf _ d3
    have nL : a ≠ X.env.locals := fun z => notF (List.mem_filterMap.mpr ⟨X.env, List.mem_cons_self, by rw [fm, z]⟩)
    have nF : a ∉ X.fs := fun hm => by
      obtain ⟨e, he, q⟩ := List.mem_filterMap.mp hm
      exact notF (List.mem_filterMap.mpr ⟨e, List.mem_cons_of_mem _ he, q⟩)
    have gone : sI.heap.get? a = none := by
      cases q : sI.heap.get? a with
      | none => rfl
      | some o =>
        have z := keepB a o q notF
        rw [fly.2.1] at z
        cases z
    have new0 : X.s_0.heap.get? a = none := by
      cases q : X.s_0.heap.get? a with
      | none => rfl
      | some o =>
        obtain ⟨o', z⟩ := J.base.there a o q (by rw [ex0]; exact fun z => nomatch z)
        rw [gone] at z
        cases z
    have cel : ∀ x c, X.env.cells.lookup x = some c → c ≠ a := fun y w e z => by
      obtain ⟨v, o, q, _⟩ := J.cell y w e
      rw [z, gone] at q
      cases q
    have pin : ∀ p ∈ X.pn ++ pins, p.1 ≠ a := fun p hp z => by
      have q := (J.pin p hp).1
      rw [z, gone] at q
      cases q
    have C : Caught X pins σ' H' sI a cls := ⟨J, na, new0, nL, nF, cel, pin⟩
    have S3 := J3.suite g3 d3 na nL nF
    apply wpAny_handleBy_cons _ (by intro q; cases q)
    apply codeAny_handlers_test
    have tyA : PySem.W.Looks (model X.prog X.w) h3 (typeOf (.ref a)) cls := fun A Q E s k q => wpAny_typeOf_ref (k _ _ g3) (by rw [z3.1]; exact q)
    have fits := PySem.W.exm_one (M := model X.prog X.w) J3.kIn tyA hyes
    have ask : ∀ {Q : Value → Shared → Prop} {E : Value → Shared → Prop}, Q c { s' with heap := h3 } → wpAny (model X.prog X.w) (X.A.mark (some (.ref a))) (eval (.Name x np) X.env) Q E { s' with heap := h3 } := by
      intro Q E q
      rcases nm with ⟨hg, dbg, hm | ⟨hm, hv, hn⟩⟩
      · exact ld_glob (X := X.suite a ((a, oe3) :: (X.pn ++ pins))) S3 hg hm q dbg
      · exact ld_blt (X := X.suite a ((a, oe3) :: (X.pn ++ pins))) S3 hg hm hv q hn dbg
    apply ask
    apply fits.here
    apply codeAny_handlers_suite_as
    apply HandSPX.lands_againZ fly
    intro h4 fly4 up4
    obtain ⟨oe4, vs4, g4, z4, d4⟩ := fly4.there
    have S4 := (land h4 fly4 ((up.trans up3).trans up4)).suite g4 d4 na nL nF
    apply store_ok (X := X.suite a ((a, oe4) :: (X.pn ++ pins))) (v := .ref a) S4 nd hi (Or.inl ln) rfl _ (Or.inr ln)
    intro s5 S5
    have suite : PSs (X.suite a ((a, oe4) :: (X.pn ++ pins))) [.Assign [.Name m p1] (.Name n p2) p3] (tAsg (tVar i) (gName j)) :=
      pss_one (ps_asg (pe_var hi (Or.inl ln) nb1 nb2) (pg_name nd hj (Or.inl lm) (Or.inr lm)) sw)
    have hiN : i < (σ'.set i (some (V.ref a))).length := by
      rw [List.length_set, J.len]
      exact (List.getElem?_eq_some_iff.mp hi).1
    have rs := suite.run [] s5 _ H' ⟨fun σ6 H6 => σ6 = (σ'.set i (some (V.ref a))).set j (some (V.ref a)) ∧ H6 = H', fun _ _ => False, fun _ _ => False, fun _ _ => False⟩ S5
      ⟨V.ref a, by rw [List.length_set] at hiN; rw [List.getElem?_set_self hiN], rfl, rfl⟩
    apply wpAny_mono rs _ fun _ _ z => False.elim z
    intro f s6 q
    cases f with
    | next =>
      obtain ⟨σ6, H6, S6, rfl, rfl⟩ := q
      have g6 := (S6.pin (a, oe4) (List.mem_append_left _ List.mem_cons_self)).1
      have J6 := track (S6.unsuite ok) C.new0 C.free C.loc C.cel C.pin (exV_ok g6 z4 d4)
      exact gone_ok J6 nd hi kn fun s7 J7 => ⟨_, _, J7, hgo a na⟩
    | brk => obtain ⟨_, _, _, z⟩ := q; exact z.elim
    | cont => obtain ⟨_, _, _, z⟩ := q; exact z.elim
    | ret w => obtain ⟨_, _, _, _, _, z⟩ := q; exact z.elim
  case after =>
    intro f s1 q
    cases f with
    | next =>
      obtain ⟨σ', H', K1, z⟩ := q
      exact ho.run pins s1 σ' H' D (K1.ofTry ok) z
    | brk =>
      obtain ⟨σ', H', K1, z⟩ := q
      exact ⟨σ', H', K1.ofTry ok, z⟩
    | cont =>
      obtain ⟨σ', H', K1, z⟩ := q
      exact ⟨σ', H', K1.ofTry ok, z⟩
    | ret w =>
      obtain ⟨v, σ', H', K1, r, z⟩ := q
      exact ⟨v, σ', H', K1.ofTry ok, r, z⟩
end
end Rw
namespace Rw
open PySem PySem.Spec PyProof.Rows L2

theorem big {n : Nat} (h : n ≤ 100000) : n ≤ sizeLine := Nat.le_trans h (by decide)
theorem bigL {n : Nat} (h : n ≤ 100000) : n < sizeLine := Nat.lt_of_le_of_lt h (by decide)
/-- a text, a list of texts, as values -/
abbrev tv (l : List Nat) : V := .str (T l)
abbrev tvs (ls : List (List Nat)) : List V := ls.map tv
theorem tv_inj {a b : List Nat} (h : tv a = tv b) : a = b := T_inj (V.str.inj h)
theorem tv_dec (a b : List Nat) : decide (tv a = tv b) = decide (a = b) := by
  by_cases e : a = b
  · subst e; simp
  · rw [decide_eq_false e, decide_eq_false fun z => e (tv_inj z)]
theorem T_beq (a b : List Nat) : (T a == T b) = decide (a = b) := by
  by_cases e : a = b
  · subst e; simp
  · rw [decide_eq_false e]
    exact beq_eq_false_iff_ne.mpr fun z => e (T_inj z)
/-- l[lo:hi] -/
def cutL {α : Type} (l : List α) (lo hi : Option Int) : List α := (l.drop (HT.sIx l.length 0 lo)).take (HT.sIx l.length l.length hi - HT.sIx l.length 0 lo)
theorem cutS_T (l : List Nat) (lo hi : Option Int) : cutS (T l) lo hi = T (cutL l lo hi) := by
  unfold cutS cutL
  rw [T_len, T_cps]
  rfl
theorem cutL_len {α : Type} (l : List α) (lo hi : Option Int) : (cutL l lo hi).length ≤ l.length := by
  unfold cutL
  rw [List.length_take, List.length_drop]
  omega
theorem sIxN (n d k : Nat) : HT.sIx n d (some (k : Int)) = min k n := HT.sIx_nat n d k
theorem cutL_from {α : Type} (l : List α) (k : Nat) : cutL l (some (k : Int)) none = l.drop k := by
  unfold cutL
  rw [sIxN, HT.sIx_none]
  by_cases h : k ≤ l.length
  · rw [Nat.min_eq_left h]
    exact List.take_of_length_le (by rw [List.length_drop]; exact Nat.le_refl _)
  · have h' : l.length ≤ k := by omega
    rw [Nat.min_eq_right h', List.drop_of_length_le (l := l) (Nat.le_refl _), List.drop_of_length_le (l := l) h']
    simp
theorem cutL_to {α : Type} (l : List α) (k : Nat) : cutL l none (some (k : Int)) = l.take k := by
  unfold cutL
  rw [sIxN, HT.sIx_none, List.drop_zero, Nat.sub_zero]
  by_cases h : k ≤ l.length
  · rw [Nat.min_eq_left h]
  · have h' : l.length ≤ k := by omega
    rw [Nat.min_eq_right h', List.take_of_length_le (l := l) (Nat.le_refl _), List.take_of_length_le (l := l) h']
theorem cutL_but {α : Type} (l : List α) : cutL l none (some (-1)) = l.dropLast := by
  unfold cutL
  have e : HT.sIx l.length l.length (some (-1)) = l.length - 1 := by
    show (if (-1 : Int) < 0 then ((-1 : Int) + (l.length : Int)).toNat else min (-1 : Int).toNat l.length) = _
    rw [if_pos (by decide)]
    omega
  rw [e, HT.sIx_none, List.drop_zero, Nat.sub_zero, List.dropLast_eq_take (l := l)]
theorem cutL_mid {α : Type} (l : List α) (i j : Nat) : cutL l (some (i : Int)) (some (j : Int)) = (l.drop i).take (j - i) := by
  unfold cutL
  rw [sIxN, sIxN]
  by_cases h : i ≤ l.length
  · rw [Nat.min_eq_left h]
    by_cases hj : j ≤ l.length
    · rw [Nat.min_eq_left hj]
    · have hj' : l.length ≤ j := by omega
      rw [Nat.min_eq_right hj', List.take_of_length_le (l := l.drop i) (by rw [List.length_drop]; omega), List.take_of_length_le (l := l.drop i) (by rw [List.length_drop]; omega)]
  · have h' : l.length ≤ i := by omega
    rw [Nat.min_eq_right h', List.drop_of_length_le (l := l) (Nat.le_refl _), List.drop_of_length_le (l := l) h']
    simp
theorem cutV_L (xs : List V) (lo hi : Option Int) : cutV xs lo hi = cutL xs lo hi := rfl
theorem cutL_map {α β : Type} (f : α → β) (l : List α) (lo hi : Option Int) : cutL (l.map f) lo hi = (cutL l lo hi).map f := by
  unfold cutL
  rw [List.length_map, List.map_take, List.map_drop]

/-! rules over texts by their codes -/
section
variable {X : Cx}
def rAddT : R2 := fun x y H Q => ∃ a b : List Nat, x = tv a ∧ y = tv b ∧ a.length + b.length ≤ 100000 ∧ Q (tv (a ++ b)) H
theorem op_addT : OpR X (binaryOp .Add) rAddT := fun pins s σ H x y v u Q I rx ry ⟨a, b, e1, e2, hz, q⟩ =>
  op_add_str pins s σ H x y v u Q I rx ry ⟨T a, T b, e1, e2, by rw [T_len, T_len]; exact big hz, by rw [T_app]; exact q⟩
def rLtT : R2 := fun x y H Q => ∃ a b : List Nat, x = tv a ∧ y = tv b ∧ Q (.bl (decide (a < b))) H
theorem op_ltT : OpR X (compareOp .Lt) rLtT := fun pins s σ H x y v u Q I rx ry ⟨a, b, e1, e2, q⟩ =>
  op_lt_str pins s σ H x y v u Q I rx ry ⟨T a, T b, e1, e2, by rw [T_cps, T_cps]; exact q⟩
def rLeT : R2 := fun x y H Q => ∃ a b : List Nat, x = tv a ∧ y = tv b ∧ Q (.bl (!decide (b < a))) H
theorem op_leT : OpR X (compareOp .LtE) rLeT := fun pins s σ H x y v u Q I rx ry ⟨a, b, e1, e2, q⟩ =>
  op_le_str pins s σ H x y v u Q I rx ry ⟨T a, T b, e1, e2, by rw [T_cps, T_cps]; exact q⟩
def rEqT : R2 := fun x y H Q => ∃ a b : List Nat, x = tv a ∧ y = tv b ∧ Q (.bl (decide (a = b))) H
theorem op_eqT : OpR X (compareOp .Eq) rEqT := fun pins s σ H x y v u Q I rx ry ⟨a, b, e1, e2, q⟩ =>
  op_eq pins s σ H x y v u Q I rx ry (by subst e1 e2; exact ⟨rfl, by rw [tv_dec]; exact q⟩)
def rNeT : R2 := fun x y H Q => ∃ a b : List Nat, x = tv a ∧ y = tv b ∧ Q (.bl (!decide (a = b))) H
theorem op_neT : OpR X (compareOp .NotEq) rNeT := fun pins s σ H x y v u Q I rx ry ⟨a, b, e1, e2, q⟩ =>
  op_ne pins s σ H x y v u Q I rx ry (by subst e1 e2; exact ⟨rfl, by rw [tv_dec]; exact q⟩)
def rLenT : List V → Hp → VK → Prop := fun xs H Q => ∃ l : List Nat, xs = [tv l] ∧ l.length ≤ 100000 ∧ Q (.int (l.length : Nat)) H
theorem call_lenT : CallR X (.builtin "len") rLenT := fun pins s σ H vs us Q I r ⟨l, e, hz, q⟩ =>
  call_len_str pins s σ H vs us Q I r ⟨T l, e, by rw [T_len]; exact big hz, by rw [T_len]; exact q⟩
def rSlT : V → Option Int → Option Int → Hp → VK → Prop := fun x lo hi H Q => ∃ l : List Nat, x = tv l ∧ l.length ≤ 100000 ∧ Q (tv (cutL l lo hi)) H
theorem sl_T : SlR X rSlT := fun pins s σ H x v vl vu lo hi sl Q I rx hs pl pu ⟨l, e, hz, q⟩ =>
  sl_str pins s σ H x v vl vu lo hi sl Q I rx hs pl pu ⟨T l, e, by rw [T_len]; exact big hz, by rw [cutS_T]; exact q⟩
def rIxT : R2 := fun x y H Q => ∃ (l : List Nat) (i : Int) (c : Nat), x = tv l ∧ y = .int i ∧ l.length ≤ 100000 ∧ atI l i = some c ∧ Q (tv [c]) H
theorem ix_T : IxR X rIxT := fun value slice pins s σ H x y v u Q I rx ry ⟨l, i, c, e1, e2, hz, ha, q⟩ hs =>
  ix_str value slice pins s σ H x y v u Q I rx ry (show rIxS x y H Q from ⟨T l, i, c, e1, e2, by rw [T_len]; exact big hz, by rw [T_cps]; exact ha, q⟩) hs
/-- ''.join(texts) -/
def rJoinT (K : PySem.W.Frag) : V → List V → Hp → VK → Prop := fun x xs H Q => ∃ (p : Addr) (ls : List (List Nat)), x = tv [] ∧ xs = [.ref p] ∧ SqL K H p (tvs ls) ∧ ls.flatten.length ≤ 100000 ∧ Q (tv ls.flatten) H
theorem join_T : ∀ ls : List (List Nat), Txt.join (T []) (ls.map T) = T ls.flatten := by
  intro ls
  have h : ∀ ls : List (List Nat), Str.join (T []) (ls.map T) = T ls.flatten := by
    intro ls
    induction ls with
    | nil => rfl
    | cons a r ih =>
      cases r with
      | nil =>
        show T a = _
        simp
      | cons b r =>
        show T a ++ T [] ++ Str.join (T []) ((b :: r).map T) = _
        rw [ih, T_app, T_app]
        simp
  rw [show Txt.join (T []) (ls.map T) = Str.join (T []) (ls.map T) from PySem.StrLaws.glued_eq_join _ _, h]
theorem mt_joinT : MtR X "str.join" (rJoinT X.K) := fun pins s σ H x xs v us Q I rx rxs ⟨p, ls, e1, e2, hs, hz, q⟩ => by
  have em : tvs ls = (ls.map T).map V.str := by rw [List.map_map]; rfl
  refine mt_join pins s σ H x xs v us Q I rx rxs ⟨T [], p, ls.map T, e1, e2, .inl (by rw [← em]; exact hs), ?_, by rw [join_T]; exact q⟩
  have e : ((ls.map T).map (·.length)).sum = ls.flatten.length := by
    rw [List.map_map, List.length_flatten]
    exact congrArg List.sum (List.map_congr_left fun l _ => T_len l)
  rw [e]
  show _ + _ * (T []).length ≤ _
  rw [T_len]
  exact Nat.le_trans (by simpa using hz) (by decide : 100000 ≤ 16777216)
theorem pe_joinT {o e : Expr} {to te : TE} {apos pos : Pos} (ho : PE X o to) (he : PE X e te)
    (h1 : starEach [e] X.env = [(false, eval e X.env)] := by rfl) (h2 : attributeBase o "join" X.env (eval o X.env) = eval o X.env := by rfl) (h3 : (apos.endLine == pos.line) = true := by rfl) :
    PE X (.Call (.Attribute o "join" apos) [e] [] pos) (tM1 (rJoinT X.K) to te) := pe_m1 F.slot_str_join F.type_str_join mt_joinT ho he h1 h2 h3
/-- w in texts, texts.index(w) -/
theorem flat_tvs (ls : List (List Nat)) : (tvs ls).all flatV = true := by simp [List.all_map]; intro x _; rfl
theorem inV_tvs (w : List Nat) (ls : List (List Nat)) : inV (tv w) (tvs ls) = decide (w ∈ ls) := by
  unfold inV
  induction ls with
  | nil => simp
  | cons a r ih =>
    rw [show tvs (a :: r) = tv a :: tvs r from rfl, List.any_cons, ih]
    have e : eqV (tv a) (tv w) = decide (a = w) := T_beq a w
    rw [e]
    by_cases h : a = w
    · simp [h]
    · have h' : ¬ w = a := fun z => h z.symm
      simp [h, h']
def rInT (K : PySem.W.Frag) (neg : Bool) : R2 := fun x y H Q => ∃ (p : Addr) (w : List Nat) (ls : List (List Nat)), x = tv w ∧ y = .ref p ∧ SqL K H p (tvs ls) ∧ Q (.bl (if neg then !decide (w ∈ ls) else decide (w ∈ ls))) H
theorem op_inT : OpR X (compareOp .In) (rInT X.K false) := fun pins s σ H x y v u Q I rx ry ⟨p, w, ls, e1, e2, hs, q⟩ =>
  op_in_seq pins s σ H x y v u Q I rx ry ⟨p, tvs ls, e2, .inl hs, by rw [e1]; rfl, flat_tvs ls, by rw [e1, inV_tvs]; exact q⟩
theorem op_notInT : OpR X (compareOp .NotIn) (rInT X.K true) := fun pins s σ H x y v u Q I rx ry ⟨p, w, ls, e1, e2, hs, q⟩ =>
  op_notIn_seq pins s σ H x y v u Q I rx ry ⟨p, tvs ls, e2, .inl hs, by rw [e1]; rfl, flat_tvs ls, by rw [e1, inV_tvs]; exact q⟩
def rIndexT (K : PySem.W.Frag) : V → List V → Hp → VK → Prop := fun x xs H Q => ∃ (p : Addr) (w : List Nat) (ls : List (List Nat)), x = .ref p ∧ xs = [tv w] ∧ SqL K H p (tvs ls) ∧ w ∈ ls ∧ Q (.int (ls.idxOf w : Nat)) H
theorem idx_first : ∀ (ls : List (List Nat)) (w : List Nat), w ∈ ls → ls[ls.idxOf w]? = some w ∧ ∀ (m : Nat) (z : List Nat), m < ls.idxOf w → ls[m]? = some z → z ≠ w
  | [], w, h => by simp at h
  | a :: r, w, h => by
    by_cases e : a = w
    · subst e
      rw [List.idxOf_cons_self]
      exact ⟨rfl, fun m z hm => absurd hm (by omega)⟩
    · have hr : w ∈ r := by
        rcases List.mem_cons.mp h with z | z
        · exact absurd z.symm e
        · exact z
      obtain ⟨h1, h2⟩ := idx_first r w hr
      have ei : (a :: r).idxOf w = r.idxOf w + 1 := by
        rw [List.idxOf_cons]
        have : (a == w) = false := beq_eq_false_iff_ne.mpr e
        rw [this]
        rfl
      rw [ei]
      refine ⟨h1, fun m z hm hz => ?_⟩
      cases m with
      | zero =>
        have : a = z := Option.some.inj hz
        rw [← this]
        exact e
      | succ m => exact h2 m z (by omega) hz
theorem mt_indexT : MtR X "list.index" (rIndexT X.K) := fun pins s σ H x xs v us Q I rx rxs ⟨p, w, ls, e1, e2, hs, hw, q⟩ => by
  obtain ⟨h1, h2⟩ := idx_first ls w hw
  refine mt_index pins s σ H x xs v us Q I rx rxs ⟨p, tvs ls, tv w, ls.idxOf w, tv w, e1, e2, hs, rfl, flat_tvs ls, ?_, ?_, ?_, q⟩
  · rw [List.getElem?_map, h1]
    rfl
  · show (T w == T w) = true
    simp
  · intro m z hm hz
    rw [List.getElem?_map] at hz
    cases e : ls[m]? with
    | none =>
      rw [e] at hz
      cases hz
    | some y =>
      rw [e] at hz
      have ez : tv y = z := Option.some.inj hz
      rw [← ez]
      show (T y == T w) = false
      rw [T_beq]
      exact decide_eq_false (h2 m y hm e)
/-- ==, != of two lists of texts -/
theorem dp_tvs {K : PySem.W.Frag} {H : Hp} : ∀ ls : List (List Nat), DpAll K H (tvs ls) (ls.map fun l => .str (T l))
  | [] => .nil
  | a :: r => .cons (.str (T a)) (dp_tvs r)
theorem eqv_tvs : ∀ a b : List (List Nat), PyData.eqvAll (a.map fun l => .str (T l)) (b.map fun l => .str (T l)) = decide (a = b)
  | [], [] => rfl
  | [], _ :: _ => rfl
  | _ :: _, [] => rfl
  | x :: xs, y :: ys => by
    rw [List.map_cons, List.map_cons]
    unfold PyData.eqvAll
    rw [eqv_tvs xs ys]
    show ((T x == T y) && _) = _
    rw [T_beq]
    by_cases h1 : x = y <;> by_cases h2 : xs = ys <;> simp [h1, h2]
/-- the codes are signs -/
def Ok (l : List Nat) : Prop := ∀ c ∈ l, c < 1114112
theorem can_tvs : ∀ ls : List (List Nat), (∀ l ∈ ls, Ok l) → PyData.canLayAll0 (ls.map fun l => .str (T l)) = true
  | [], _ => rfl
  | a :: r, h => by
    rw [List.map_cons]
    unfold PyData.canLayAll0
    rw [can_tvs r fun l hl => h l (List.mem_cons_of_mem _ hl), Bool.and_true]
    unfold PyData.canLay0
    show Array.all _ _ = true
    simp only [T, List.size_toArray, List.all_toArray', List.all_eq_true]
    intro c hc
    exact decide_eq_true (h a List.mem_cons_self c hc)
theorem depth_tvs : ∀ ls : List (List Nat), PyData.depthAll (ls.map fun l => .str (T l)) ≤ 1
  | [] => by decide
  | a :: r => by
    rw [List.map_cons]
    unfold PyData.depthAll
    refine Nat.max_le.mpr ⟨?_, depth_tvs r⟩
    first | decide | (show PyData.depth (.str _) ≤ 1; unfold PyData.depth; decide)

theorem shaped_tvs (ls : List (List Nat)) (h : ∀ l ∈ ls, Ok l) : SeqAt.shaped (.list (ls.map fun l => .str (T l))) = true := by
  unfold SeqAt.shaped
  rw [Bool.and_eq_true]
  constructor
  · unfold PyData.canLay0
    exact can_tvs ls h
  · refine decide_eq_true ?_
    unfold PyData.depth
    have := depth_tvs ls
    omega
def rEqL (K : PySem.W.Frag) (neg : Bool) : R2 := fun x y H Q => ∃ (p q : Addr) (a b : List (List Nat)), x = .ref p ∧ y = .ref q ∧ SqL K H p (tvs a) ∧ SqL K H q (tvs b) ∧ (∀ l ∈ a, Ok l) ∧ (∀ l ∈ b, Ok l) ∧ Q (.bl (if neg then !decide (a = b) else decide (a = b))) H
theorem eqv_lists (a b : List (List Nat)) : PyData.eqv (.list (a.map fun l => .str (T l))) (.list (b.map fun l => .str (T l))) = decide (a = b) := by
  unfold PyData.eqv
  exact eqv_tvs a b
theorem op_eqL (hu : X.A.units + 64 < cLine) : OpR X (compareOp .Eq) (rEqL X.K false) := fun pins s σ H x y v u Q I rx ry ⟨p, q, a, b, e1, e2, h1, h2, o1, o2, k⟩ =>
  op_eqD hu pins s σ H x y v u Q I rx ry ⟨_, _, by rw [e1]; exact .lst h1 (dp_tvs a), by rw [e2]; exact .lst h2 (dp_tvs b), shaped_tvs a o1, shaped_tvs b o2, by rw [eqv_lists]; exact k⟩
theorem op_neL (hu : X.A.units + 64 < cLine) : OpR X (compareOp .NotEq) (rEqL X.K true) := fun pins s σ H x y v u Q I rx ry ⟨p, q, a, b, e1, e2, h1, h2, o1, o2, k⟩ =>
  op_neD hu pins s σ H x y v u Q I rx ry ⟨_, _, by rw [e1]; exact .lst h1 (dp_tvs a), by rw [e2]; exact .lst h2 (dp_tvs b), shaped_tvs a o1, shaped_tvs b o2, by rw [eqv_lists]; exact k⟩
end

/-! a def of the text, as its callers need it -/
section
/-- at the module's name x stands a def that keeps sp, by at most level k -/
def Cal (CX : CXT) (P : Program) (w : World) (K : PySem.W.Frag) (mg : Str → Option Value) (base : Heap) (k : Nat) (x : Str) (sp : Sp) : Prop :=
  ∃ (f : Addr) (fd : FuncData) (ps : List Str), FnOk P w K mg base CX k f fd ps sp ∧ mg x = some (.ref f) ∧ PySem.W.keepIn K (.ref f) = true ∧ Binds K fd ps []
/-- the def st stands at the module's name x, its parameters ps -/
def Dfn (K : PySem.W.Frag) (mg : Str → Option Value) (x : Str) (st : Stmt) (ps : List Str) : Prop :=
  ∃ (f : Addr) (fd : FuncData), Fun K x x st f fd ∧ mg x = some (.ref f) ∧ Binds K fd ps []
variable {CX : CXT} {P : Program} {w : World} {K : PySem.W.Frag} {mg : Str → Option Value} {base : Heap} {x : Str} {st : Stmt} {ps : List Str} {sp : Sp} {k : Nat}
theorem Dfn.cal (D : Dfn K mg x st ps) (h : ∀ f fd, Fun K x x st f fd → FnOk P w K mg base CX k f fd ps sp) : Cal CX P w K mg base k x sp := by
  obtain ⟨f, fd, F, g, b⟩ := D
  exact ⟨f, fd, ps, h f fd F, g, F.kp, b⟩
end
section
variable {X : Cx} {CX : CXT} {k j : Nat} {sp : Sp} {E : XK} {x : Str} {p pos : Pos} {e : Expr} {es : List Expr} {t : TA}
theorem pe_cal (c : Cal CX X.prog X.w X.K X.mg X.base k x sp) (hr : Room j X.A) (hk : k ≤ j) (hx : Passes CX X E) (ha : PA X (e :: es) t) (hg : Gl X x := by rfl) (hdb : (x == ("__debug__" : Str)) = false := by decide)
    (he : starEach (e :: es) X.env = (false, eval e X.env) :: starEach es X.env := by rfl) (hpl : (backTo pos (starEach es X.env)).any (·.1) = false := by rfl) :
    PE X (.Call (.Name x p) (e :: es) [] pos) (tCall sp [] E t) := by
  refine ⟨fun pins s σ H Q I h => ?_⟩
  obtain ⟨f, fd, ps, F, g, kp, b⟩ := c
  exact (pe_call F (hr.mono hk) hg g kp b .nil hx ha hdb he hpl).run pins s σ H Q I h
theorem pe_calS {E : L2.St → XK} (c : Cal CX X.prog X.w X.K X.mg X.base k x sp) (hr : Room j X.A) (hk : k ≤ j) (hx : ∀ σ, PassesAt CX X σ (E σ)) (ha : PA X (e :: es) t) (hg : Gl X x := by rfl) (hdb : (x == ("__debug__" : Str)) = false := by decide)
    (he : starEach (e :: es) X.env = (false, eval e X.env) :: starEach es X.env := by rfl) (hpl : (backTo pos (starEach es X.env)).any (·.1) = false := by rfl) :
    PE X (.Call (.Name x p) (e :: es) [] pos) (tCallS sp E t) := by
  refine ⟨fun pins s σ H Q I h => ?_⟩
  obtain ⟨f, fd, ps, F, g, kp, b⟩ := c
  exact (pe_callS F (hr.mono hk) hg g kp b hx ha hdb he hpl).run pins s σ H Q I h
end

section
variable {X : Cx}
/-- a module's value, whatever token it bears -/
theorem pe_gx {x : Str} {v : V} {pos : Pos} (hg : Gl X x) (h : ∃ u, X.mg x = some u ∧ RelV v u) (hd : (x == ("__debug__" : Str)) = false := by decide) : PE X (.Name x pos) (tC v) := by
  obtain ⟨u, hm, r⟩ := h
  exact pe_glob hg hm r hd
end
section
variable {X : Cx}
/-- a class, a def, as a value -/
theorem pe_gr {x : Str} {a : Addr} {pos : Pos} (hg : Gl X x) (h : X.mg x = some (.ref a)) (hd : (x == ("__debug__" : Str)) = false := by decide) : PE X (.Name x pos) (tC (.ref a)) := pe_glob hg h rfl hd
end
/-! words -/
def Wd (l : List Nat) : Prop := 1 ≤ l.length ∧ l.length ≤ 300 ∧ ∀ c ∈ l, 97 ≤ c ∧ c ≤ 122
instance (l : List Nat) : Decidable (Wd l) := by unfold Wd; exact inferInstance
theorem Wd.ok {l : List Nat} (h : Wd l) : Ok l := fun c hc => by have := h.2.2 c hc; omega
theorem Wd.sz {l : List Nat} (h : Wd l) : l.length ≤ 100000 := Nat.le_trans h.2.1 (by decide)
/-- a thing of a known kind; b: whether it is a word -/
def Th (K : PySem.W.Frag) (H : Hp) (v : V) (b : Bool) : Prop :=
  (∃ l : List Nat, v = tv l ∧ l.length ≤ 100000 ∧ b = decide (Wd l)) ∨ (b = false ∧ ∃ t : String, TyX K H v (.type t) ∧ kitB t "str" = some false)
theorem Th.word {K : PySem.W.Frag} {H : Hp} {l : List Nat} (h : Wd l) : Th K H (tv l) true := .inl ⟨l, rfl, h.sz, (decide_eq_true h).symm⟩
theorem Th.get {K : PySem.W.Frag} {H : Hp} {v : V} (h : Th K H v true) : ∃ l, v = tv l ∧ Wd l := by
  rcases h with ⟨l, e, _, b⟩ | ⟨b, _⟩
  · exact ⟨l, e, of_decide_eq_true b.symm⟩
  · cases b
/-- what was put down newly -/
theorem same_upd {H : Hp} {p : Addr} {o : HO} (h : H p = none) : Same H (upd H p o) := fun b x e => by
  rw [upd_ne (ne_of_none e h)]
  exact e
theorem Same.mut {H H' : Hp} {p : Addr} {o : HO} (e : Same H H') (h : H p = none) : Same H (upd H' p o) := fun a u ha => by
  rw [upd_ne (ne_of_none ha h)]
  exact e a u ha
theorem tyx_same {K : PySem.W.Frag} {H H' : Hp} {v : V} {t : Value} (e : Same H H') (h : TyX K H v t) : TyX K H' v t := by
  cases h with
  | base b =>
    cases b with
    | non => exact .base .non
    | bl y => exact .base (.bl y)
    | int i => exact .base (.int i)
    | str y => exact .base (.str y)
    | flt y => exact .base (.flt y)
    | lst ea => exact .base (.lst (e _ _ ea))
    | frz ea => exact .base (.frz (e _ _ ea))
    | tup ea => exact .base (.tup (e _ _ ea))
    | dK ea => exact .base (.dK (e _ _ ea))
    | dT ea => exact .base (.dT (e _ _ ea))
    | ins ea cl ha hn htk hm => exact .base (.ins (e _ _ ea) cl ha hn htk hm)
  | byt b => exact .byt b
  | set ea => exact .set (e _ _ ea)
  | kList a c => exact .kList a c
  | kTuple a c => exact .kTuple a c
  | kDict a c => exact .kDict a c
  | fTuple ea => exact .fTuple (e _ _ ea)
  | fDict ea => exact .fDict (e _ _ ea)
theorem Th.same {K : PySem.W.Frag} {H H' : Hp} {v : V} {b : Bool} (e : Same H H') (h : Th K H v b) : Th K H' v b := by
  rcases h with h | ⟨h1, t, h2, h3⟩
  · exact .inl h
  · exact .inr ⟨h1, t, tyx_same e h2, h3⟩
/-! promises -/
def spIsWord (K : PySem.W.Frag) : Sp := fun vs H Q _ => ∃ v b, vs = [v] ∧ Th K H v b ∧ ∀ H', Same H H' → Q (.bl b) H'
/-- a def that refuses what is no word as its first argument, n more arguments -/
def spW (K : PySem.W.Frag) (C : Addr) (n : Nat) (body : List Nat → List V → Hp → VK → XK → Prop) : Sp := fun vs H Q E => ∃ v b rest, vs = v :: rest ∧ rest.length = n ∧ Th K H v b ∧
  (b = false → ∀ H', Same H H' → E (.ref C) none H') ∧ (∀ l, b = true → v = tv l → Wd l → body l rest H Q E)
def spNeed (K : PySem.W.Frag) (C : Addr) : Sp := spW K C 0 fun _ _ H Q _ => ∀ H', Same H H' → Q .non H'
/-- how a caller with a word says it -/
theorem spW.yes {K : PySem.W.Frag} {C : Addr} {n : Nat} {body : List Nat → List V → Hp → VK → XK → Prop} {l : List Nat} {rest : List V} {H : Hp} {Q : VK} {E : XK} (h : Wd l) (hn : rest.length = n) (q : body l rest H Q E) : spW K C n body (tv l :: rest) H Q E :=
  ⟨tv l, true, rest, rfl, hn, .word h, (fun e => nomatch e), fun l' _ e _ => by
    have z := tv_inj e
    subst z
    exact q⟩
/-- turnings, as all say it -/
def turn (l : List Nat) (k : Nat) : List Nat := l.drop k ++ l.take k
def turns (l : List Nat) : List (List Nat) := (List.range l.length).map (turn l)
/-- a new list of texts is told -/
def newT (ls : List (List Nat)) (H : Hp) (Q : VK) : Prop := ∀ p H', H p = none → Same H H' → H' p = some (.lst (tvs ls)) → Q (.ref p) H'
def spTurnings (K : PySem.W.Frag) (C : Addr) : Sp := spW K C 0 fun l _ H Q _ => newT (turns l) H Q
def spTurned (K : PySem.W.Frag) (C : Addr) : Sp := spW K C 1 fun l rest H Q _ => ∃ k : Int, rest = [.int k] ∧ ∀ H', Same H H' → Q (tv (turn l (k % l.length).toNat)) H'
/-! the law's own -/
def spCellAt (K : PySem.W.Frag) : Sp := fun vs H Q _ => ∃ (a : Addr) (ns : List Int) (k : Int), vs = [.ref a, .int k] ∧ SqL K H a (ns.map V.int) ∧ 0 ≤ k ∧ k < 1000 ∧ ∀ i : Int, Q (.int i) H
def spMixed : Sp := fun vs H Q _ => ∃ c k : Int, vs = [.int c, .int k] ∧ ∀ i : Int, 0 ≤ i → i < 2147483399 → Q (.int i) H
/-- signs a to z, some -/
def Sg (l : List Nat) : Prop := ∀ c ∈ l, 97 ≤ c ∧ c ≤ 122
def spSigns : Sp := fun vs H Q _ => ∃ c : Int, vs = [.int c] ∧ ∀ l H', Same H H' → 1 ≤ l.length → l.length ≤ 26 → Sg l → Q (tv l) H'
def spDrawn : Sp := fun vs H Q _ => ∃ (c : Int) (s : List Nat) (n : Nat), vs = [.int c, tv s, .int n] ∧ 1 ≤ s.length ∧ s.length ≤ 26 ∧ Sg s ∧ n ≤ 1000 ∧ ∀ l H', Same H H' → l.length = n → Sg l → Q (tv l) H'
def spWoven : Sp := fun vs H Q _ => ∃ (s : List Nat) (n : Nat), vs = [tv s, .int n] ∧ 1 ≤ s.length ∧ s.length ≤ 26 ∧ Sg s ∧ 1 ≤ n ∧ n ≤ 1000 ∧ ∀ l H', Same H H' → 1 ≤ l.length → l.length ≤ n → Sg l → Q (tv l) H'
def spWord : Sp := fun vs H Q _ => ∃ (c : Int) (n : Nat), vs = [.int c, .int n] ∧ 1 ≤ n ∧ n ≤ 300 ∧ ∀ l H', Same H H' → Wd l → l.length ≤ n → Q (tv l) H'
def spLTurnings : Sp := fun vs H Q _ => ∃ l : List Nat, vs = [tv l] ∧ l.length ≤ 1000 ∧ newT (turns l) H Q
/-- less than each of its other turnings -/
def early (l : List Nat) : Bool := (turns l).tail.all fun o => decide (l < o)
def spLEarly : Sp := fun vs H Q _ => ∃ l : List Nat, vs = [tv l] ∧ l.length ≤ 1000 ∧ Ok l ∧ ∀ H', Same H H' → Q (.bl (early l)) H'
def spNoWord (K : PySem.W.Frag) : Sp := fun vs H Q _ => ∃ m : Int, vs = [.int m] ∧ ∀ v H', Same H H' → Th K H' v false → Q v H'
/-! comprehensions: what is made so far -/
def LcP (H1 : Hp) (D : Addr) (Pv : Nat → List V → Prop) (i : Nat) (H : Hp) : Prop := H1 D = none ∧ ∃ acc, Same H1 H ∧ H D = some (.lst acc) ∧ acc.length ≤ i ∧ Pv i acc
section
variable {H1 H H4 : Hp} {D : Addr} {Pv : Nat → List V → Prop} {i : Nat} {acc : List V} {y : V}
theorem lcp_start (h : H1 D = none) (p : Pv 0 []) : LcP H1 D Pv 0 (upd H1 D (.lst [])) := ⟨h, [], same_upd h, upd_same, Nat.le_refl _, p⟩
theorem lcp_put (h : H1 D = none) (e : Same H1 H) (hD : H D = some (.lst acc)) (hl : acc.length ≤ i) (hi : i < 100000) (e4 : Same H H4) (p : Pv (i + 1) (acc ++ [y])) :
    ∃ acc, H4 D = some (.lst acc) ∧ acc.length < sizeLine ∧ LcP H1 D Pv (i + 1) (upd H4 D (.lst (acc ++ [y]))) :=
  ⟨acc, e4 D _ hD, bigL (by omega), h, acc ++ [y], Same.mut (e.trans e4) h, upd_same, by rw [List.length_append]; exact Nat.add_le_add hl (Nat.le_refl 1), p⟩
theorem lcp_skip (h : H1 D = none) (e : Same H1 H) (hD : H D = some (.lst acc)) (hl : acc.length ≤ i) (e4 : Same H H4) (p : Pv (i + 1) acc) : LcP H1 D Pv (i + 1) H4 :=
  ⟨h, acc, e.trans e4, e4 D _ hD, Nat.le_succ_of_le hl, p⟩
end
theorem walk_T (l : List Nat) : Walk (Its (T l)) l.length (fun _ => True) (fun i H v H' => H' = H ∧ ∃ c, l[i]? = some c ∧ v = tv [c]) := by
  have w := walk_str (z := T l)
  have e : (T l).cps.size = l.length := T_len l
  rw [e] at w
  refine w.mono (fun _ h => h) fun i H x H' _ _ ⟨e1, c, e2, e3⟩ => ⟨e1, c, ?_, e3⟩
  have : (T l).cps[i]? = l[i]? := by simp [T]
  rw [← this]
  exact e2
theorem lt_one (a b : Nat) : (([a] : List Nat) < [b]) ↔ a < b := by simp [List.cons_lt_cons_iff]
/-- a comprehension without a test -/
theorem keepAll {σ : L2.St} {H : Hp} {A B : Hp → Prop} (h : A H) : tYes σ H fun b H3 => if b = true then A H3 else B H3 := by
  show if true = true then A H else B H
  rw [if_pos rfl]
  exact h
/-! lists of single signs -/
def Sign1 (x : List Nat) : Prop := ∃ c, x = [c] ∧ 97 ≤ c ∧ c ≤ 122
theorem flat_one : ∀ {ls : List (List Nat)}, (∀ x ∈ ls, Sign1 x) → ls.flatten.length = ls.length ∧ Sg ls.flatten
  | [], _ => ⟨rfl, fun c hc => by simp at hc⟩
  | x :: r, h => by
    obtain ⟨i1, i2⟩ := flat_one (ls := r) fun y hy => h y (List.mem_cons_of_mem _ hy)
    obtain ⟨c, rfl, h1, h2⟩ := h x List.mem_cons_self
    refine ⟨by simp [i1], fun d hd => ?_⟩
    rw [List.flatten_cons] at hd
    rcases List.mem_append.mp hd with g | g
    · have : d = c := by simpa using g
      subst this
      exact ⟨h1, h2⟩
    · exact i2 d g
theorem sorted_one {ys : List Str} {ls : List (List Nat)} (p : ys.Perm (ls.map T)) (h : ∀ x ∈ ls, Sign1 x) : ∃ ls' : List (List Nat), ys.map V.str = tvs ls' ∧ ls'.length = ls.length ∧ ∀ x ∈ ls', Sign1 x := by
  refine ⟨ys.map (·.cps.toList), ?_, ?_, fun x hx => ?_⟩
  · show _ = (ys.map (·.cps.toList)).map tv
    rw [List.map_map]
    refine List.map_congr_left fun y _ => ?_
    show V.str y = V.str (T y.cps.toList)
    rw [T_of]
  · rw [List.length_map, p.length_eq, List.length_map]
  · obtain ⟨y, hy, rfl⟩ := List.mem_map.mp hx
    obtain ⟨z, hz, e⟩ := List.mem_map.mp (p.mem_iff.mp hy)
    rw [← e, T_cps]
    exact h z hz
theorem signs_one (l : List Nat) (h : Sg l) : ∀ x ∈ l.map (fun c => [c]), Sign1 x := fun x hx => by
  obtain ⟨c, hc, rfl⟩ := List.mem_map.mp hx
  exact ⟨c, rfl, h c hc⟩
theorem at_some {α : Type} {xs : List α} {j : Int} (h0 : 0 ≤ j) (h1 : j < (xs.length : Nat)) : ∃ v ∈ xs, atI xs j = some v := by
  obtain ⟨k, rfl⟩ : ∃ k : Nat, j = (k : Int) := ⟨j.toNat, by omega⟩
  have hk : k < xs.length := by omega
  exact ⟨xs[k], List.getElem_mem hk, atI_nat (List.getElem?_eq_getElem hk)⟩
theorem at_neg1 {α : Type} {xs : List α} (h : 1 ≤ xs.length) : ∃ v ∈ xs, atI xs (-1) = some v := by
  have hne : xs ≠ [] := fun e => by rw [e] at h; simp at h
  have e := List.dropLast_concat_getLast hne
  refine ⟨xs.getLast hne, List.getLast_mem hne, ?_⟩
  have z := atI_last xs.dropLast (xs.getLast hne)
  rw [e] at z
  exact z
theorem Sg.app {a b : List Nat} (h : Sg a) (k : Sg b) : Sg (a ++ b) := fun c hc => by
  rcases List.mem_append.mp hc with z | z
  · exact h c z
  · exact k c z
theorem Sg.sub {a b : List Nat} (h : Sg b) (k : ∀ c ∈ a, c ∈ b) : Sg a := fun c hc => h c (k c hc)
theorem Sg.cut {a : List Nat} (h : Sg a) (lo hi : Option Int) : Sg (cutL a lo hi) := h.sub fun c hc => List.mem_of_mem_drop (List.mem_of_mem_take hc)
theorem draw7 {i n : Int} (h0 : 0 ≤ i) (hn : 0 < n) : 0 ≤ i / 7 % n ∧ i / 7 % n < n := ⟨Int.emod_nonneg _ (by omega), Int.emod_lt_of_pos _ hn⟩
/-- the refusals' classes, as isinstance asks them: cN is NoWord -/
structure Er6 (K : PySem.W.Frag) (mg : Str → Option Value) (cW cN cS cC cM cR cT : Addr) : Prop where
  g_WordError : mg "WordError" = some (.ref cW)
  g_NoWord : mg "NoWord" = some (.ref cN)
  g_NoSigns : mg "NoSigns" = some (.ref cS)
  g_NoCount : mg "NoCount" = some (.ref cC)
  g_TooMany : mg "TooMany" = some (.ref cM)
  g_NoRing : mg "NoRing" = some (.ref cR)
  g_Twice : mg "Twice" = some (.ref cT)
  e : ExcC K cN
  i_N : PySem.W.kitOne K (.ref cN) (.ref cN) = some true
  i_S : PySem.W.kitOne K (.ref cN) (.ref cS) = some false
  i_C : PySem.W.kitOne K (.ref cN) (.ref cC) = some false
  i_M : PySem.W.kitOne K (.ref cN) (.ref cM) = some false
  i_R : PySem.W.kitOne K (.ref cN) (.ref cR) = some false
  i_T : PySem.W.kitOne K (.ref cN) (.ref cT) = some false
  i_V : PySem.W.kitOne K (.ref cN) (.type "ValueError") = some true
  x_W : PySem.W.exmOne K (.ref cN) (.ref cW) = some true
def spMark (cN : Addr) : Sp := fun vs H Q _ => ∃ a : Addr, vs = [.ref a] ∧ H a = some (ExV (.ref cN) a) ∧ ∀ H', Same H H' → Q (tv [119, 111, 114, 100]) H'
def spRefused (K : PySem.W.Frag) : Sp := fun vs H Q _ => ∃ (i : Int) (v : V), vs = [.int i, v] ∧ Th K H v false ∧ ∀ H', Same H H' → Q (.bl true) H'
def spRight : Sp := fun vs H Q _ => ∃ c : Int, vs = [.int c] ∧ ∀ H', Same H H' → Q (.bl true) H'
def spLaw (K : PySem.W.Frag) : Sp := fun vs H Q _ => ∃ (a : Addr) (ns : List Int), vs = [.ref a] ∧ SqL K H a (ns.map V.int) ∧ ns.length ≤ 63 ∧ ∀ H', Q (.bl true) H'
/-! what isinstance says of an own class, by what k_is finds -/
theorem kit_self {K : PySem.W.Frag} {C : Addr} : PySem.W.kitOne K (.ref C) (.ref C) = some true := by
  unfold PySem.W.kitOne
  rw [if_pos (by simp)]
theorem kit_other {K : PySem.W.Frag} {C D : Addr} (h1 : PySem.W.subIn K (.ref C) (.ref C) = some true) (hd : PySem.W.hasDictIn K D = true) (ht : PySem.W.typeIn K (.ref D) = some (.type "type")) (h : PySem.W.subIn K (.ref C) (.ref D) = some false) : PySem.W.kitOne K (.ref C) (.ref D) = some false := by
  have ne : ¬ (Value.ref C == Value.ref D) = true := fun e => by
    have e' : C = D := Value.ref.inj (beq_iff_eq.mp e)
    rw [e'] at h1
    rw [e', h1] at h
    cases h
  unfold PySem.W.kitOne
  rw [if_neg ne]
  obtain ⟨cd, hc, _⟩ := PySem.W.any_some hd
  have e2 : ((PySem.W.clsIn K D).isSome && PySem.W.typeIn K (.ref D) == some (.type "type")) = true := by rw [hc, ht] <;> rfl
  show (if _ = true then PySem.W.subIn K (.ref C) (.ref D) else none) = some false
  rw [if_pos e2]
  exact h
theorem kit_value {K : PySem.W.Frag} {C : Addr} (h : PySem.W.subIn K (.ref C) (.type "ValueError") = some true) : PySem.W.kitOne K (.ref C) (.type "ValueError") = some true := by
  unfold PySem.W.kitOne
  rw [if_neg (by intro e; cases (beq_iff_eq.mp e))]
  show (if PySem.W.kitMeta "ValueError" = true then PySem.W.subIn K (.ref C) (.type "ValueError") else none) = some true
  rw [if_pos (by decide +kernel)]
  exact h
/-! the least of some texts -/
def minT : List (List Nat) → List Nat
  | [] => []
  | x :: ys => lstT x ys
theorem lstT_mem : ∀ (ys : List (List Nat)) (x : List Nat), lstT x ys ∈ x :: ys
  | [], x => by simp [lstT]
  | y :: r, x => by
    have h := lstT_mem r (if y < x then y else x)
    have e : lstT x (y :: r) = lstT (if y < x then y else x) r := rfl
    rw [e]
    rcases List.mem_cons.mp h with z | z
    · rw [z]
      by_cases g : y < x
      · rw [if_pos g]; exact List.mem_cons_of_mem _ List.mem_cons_self
      · rw [if_neg g]; exact List.mem_cons_self
    · exact List.mem_cons_of_mem _ (List.mem_cons_of_mem _ z)
theorem minT_mem {ls : List (List Nat)} (h : ls ≠ []) : minT ls ∈ ls := by
  cases ls with
  | nil => exact absurd rfl h
  | cons x ys => exact lstT_mem ys x
def rMinL (K : PySem.W.Frag) : List V → Hp → VK → Prop := fun vs H Q => ∃ (a : Addr) (ls : List (List Nat)), vs = [V.ref a] ∧ SqL K H a (tvs ls) ∧ ls ≠ [] ∧ Q (tv (minT ls)) H
theorem cr_minL {X : Cx} (hc : X.calm = true) (hu : X.A.units + 64 < cLine) : CallR X (.builtin "min") (rMinL X.K) := fun pins s σ H vs us Q I r ⟨a, ls, e, hs, hne, q⟩ => by
  cases ls with
  | nil => exact absurd rfl hne
  | cons x ys => exact cr_minT hc hu pins s σ H vs us Q I r ⟨a, x, ys, e, hs, q⟩
theorem turns_ne {l : List Nat} (h : Wd l) : turns l ≠ [] := fun e => by
  have := congrArg List.length e
  simp [turns] at this
  have := h.1
  simp_all
theorem turns_len (l : List Nat) : (turns l).length = l.length := by simp [turns]
def spLeastTurn (K : PySem.W.Frag) (C : Addr) : Sp := spW K C 0 fun l _ H Q _ => ∀ H', Same H H' → Q (.int ((turns l).idxOf (minT (turns l)) : Nat)) H'
def spLeastForm (K : PySem.W.Frag) (C : Addr) : Sp := spW K C 0 fun l _ H Q _ => ∀ H', Same H H' → Q (tv (minT (turns l))) H'
def stepsV (l m : List Nat) : V := if m ∈ turns l then .int ((turns l).idxOf m : Nat) else .non
def spSteps (K : PySem.W.Frag) (C : Addr) : Sp := fun vs H Q E => ∃ v u b d, vs = [v, u] ∧ Th K H v b ∧ Th K H u d ∧ ((b && d) = false → ∀ H', Same H H' → E (.ref C) none H') ∧
  (∀ l m, (b && d) = true → v = tv l → u = tv m → Wd l → Wd m → ∀ H', Same H H' → Q (stepsV l m) H')
theorem idx_at {ls : List (List Nat)} {w : List Nat} (h : w ∈ ls) : atI (tvs ls) ((ls.idxOf w : Nat) : Int) = some (tv w) := by
  refine atI_nat ?_
  rw [List.getElem?_map, (idx_first ls w h).1]
  rfl
theorem ok_turns {l : List Nat} (h : Ok l) : ∀ x ∈ turns l, Ok x := fun x hx c hc => by
  obtain ⟨k, _, rfl⟩ := List.mem_map.mp hx
  rcases List.mem_append.mp hc with z | z
  · exact h c (List.mem_of_mem_drop z)
  · exact h c (List.mem_of_mem_take z)
end Rw
namespace Rk
open PySem PySem.Spec PyProof.Rows L2 Rw
def topS (i : Nat) : Stmt := PySem.Challenge.pw_ringword_k03_early.main.body.getD i (.Pass ⟨0, 0, 0, 0⟩)
/-- the built-ins that the text calls, and its constants -/
structure Bt (mg : Str → Option Value) : Prop where
  m_len : mg "len" = none
  m_range : mg "range" = none
  m_sorted : mg "sorted" = none
  m_min : mg "min" = none
  m_max : mg "max" = none
  m_all : mg "all" = none
  m_isinstance : mg "isinstance" = none
  m_list : mg "list" = none
  m_tuple : mg "tuple" = none
  m_str : mg "str" = none
  m_bool : mg "bool" = none
  m_zip : mg "zip" = none
  m_enumerate : mg "enumerate" = none
  m_ValueError : mg "ValueError" = none
  m_sum : mg "sum" = none
  m_set : mg "set" = none
  m_dict : mg "dict" = none
  m_int : mg "int" = none
  g_LONGEST_WORD : ∃ u, mg "LONGEST_WORD" = some u ∧ RelV (.int 300) u
/-- the class of the refusals -/
structure Er1 (K : PySem.W.Frag) (mg : Str → Option Value) (cN : Addr) : Prop where
  g_NoWord : mg "NoWord" = some (.ref cN)
  x_NoWord : PySem.W.excIn K cN [.type "ValueError", .type "Exception", .type "BaseException", .type "object"] "ValueError.__new__" = true
  k_NoWord : PySem.W.keepIn K (.ref cN) = true
  b_NoWord : PySem.W.subIn K (.ref cN) (.type "BaseException") = some true
  t_NoWord : PySem.W.typeIn K (.ref cN) = some (.type "type")
end Rk
namespace Rk
open PySem PySem.Spec PyProof.Rows L2 Rw
abbrev s_is_word : Stmt := topS 10
abbrev n_is_word : List Str := ["thing", "sign"]
abbrev p_is_word : List Str := ["thing"]
theorem sc_is_word : FnScope n_is_word p_is_word (defScope s_is_word) := ⟨rfl, rfl, rfl, by decide +kernel, rfl, by decide +kernel, by decide +kernel⟩
theorem wd_no1 {l : List Nat} (h : ¬ (1 : Int) ≤ (l.length : Nat)) : decide (Wd l) = false := decide_eq_false fun z => h (by have := z.1; omega)
theorem wd_no2 {l : List Nat} (h : ¬ ((l.length : Nat) : Int) ≤ 300) : decide (Wd l) = false := decide_eq_false fun z => h (by have := z.2.1; omega)
def isLet (c : Nat) : Bool := decide (97 ≤ c) && decide (c ≤ 122)
theorem wd_all {l : List Nat} (h1 : (1 : Int) ≤ (l.length : Nat)) (h2 : ((l.length : Nat) : Int) ≤ 300) : (l.map isLet).all id = decide (Wd l) := by
  rw [Bool.eq_iff_iff, decide_eq_true_eq, List.all_map, List.all_eq_true]
  constructor
  · intro h
    refine ⟨by omega, by omega, fun c hc => ?_⟩
    have := h c hc
    simpa [isLet] using this
  · intro h c hc
    have := h.2.2 c hc
    simpa [isLet] using this
section
variable {P : Program} {w : World} {K : PySem.W.Frag} {mg : Str → Option Value} {base : Heap} (B : Bt mg)
include B
theorem ok_is_word (D : Dfn K mg "is_word" s_is_word p_is_word) : Cal CX0 P w K mg base 1 "is_word" (spIsWord K) := by
  refine D.cal fun f fd F => F.ok sc_is_word (fun vs H Q E h => ?_) (fun cdv A outer s H vs Q E hr h => ?_)
  · obtain ⟨v, b, rfl, _⟩ := h
    rfl
  · obtain ⟨v, b, rfl, hv, q⟩ := h
    refine ⟨_, (pss_cons (ps_if (pt_not (pt_val (pe_callB call_isi (by rfl) B.m_isinstance (by decide +kernel) (pa_cons (pv 0) (pa_cons (pe_bltn (v := .ty "str") (u := .type "str") rfl B.m_str (by decide +kernel) rfl) pa_nil))))) (pss_one (ps_ret pe_bl)) pss_nil)
      (pss_cons (ps_if (pt_not (pt_chain op_le op_le pe_int (pe_callB call_lenT (by rfl) B.m_len PySem.boot_len (pa_cons (pv 0) pa_nil)) (pe_gx rfl B.g_LONGEST_WORD))) (pss_one (ps_ret pe_bl)) pss_nil)
      (pss_one (ps_ret (pe_callB (cr_all rfl) (by rfl) B.m_all (by decide +kernel) (pa_cons (pe_lc (own := [("sign", 1)]) rfl sc_is_word.nd (pi_str (pv 0)) (blkOk_by (own := [("sign", 1)]) (N := n_is_word) (sc := defScope s_is_word) (by decide +kernel)) (fun _ _ _ _ _ => (pg_name (i := 1) sc_is_word.nd rfl (Or.inl rfl))) (fun _ _ _ _ _ => pts_nil) (fun _ _ _ _ _ => (pe_chain op_leT op_leT pe_str (pv 1) pe_str))) pa_nil)))))), ?_⟩
    rcases hv with ⟨l, rfl, hz, rfl⟩ | ⟨rfl, t, ht, hk⟩
    · refine ⟨_, rfl, _, _, _, _, true, rfl, .ty "str", .base (.str _), kit_ty (by decide +kernel), true, rfl, ?_⟩
      refine iteF ?_
      refine ⟨_, rfl, l, rfl, hz, 1, _, rfl, rfl, _, rfl, ite2 (fun h1 => ?_) (fun h1 => ?_)⟩
      · have h1 := of_decide_eq_true h1
        refine ⟨_, _, rfl, rfl, _, rfl, ite2 (fun h2 => ?_) (fun h2 => ?_)⟩
        · rw [wd_no2 (by simpa using h2)] at q
          exact q H (Same.refl H)
        · have h2 : ((l.length : Nat) : Int) ≤ 300 := by simpa using h2
          refine ⟨_, rfl, T l, rfl, fun Dl hD => ?_⟩
          refine lc_it (walk_T l) (LcP H Dl fun i acc => acc = (l.take i).map fun c => V.bl (isLet c)) (lcp_start hD rfl) (fun _ _ _ _ => trivial) ?_ ?_
          · rintro i x H2 H2' hi ⟨_, acc, e, hD2, hl, rfl⟩ ⟨rfl, c, hc, rfl⟩
            have step : (l.take (i + 1)).map (fun c => V.bl (isLet c)) = (l.take i).map (fun c => V.bl (isLet c)) ++ [V.bl (isLet c)] := by
              rw [List.take_add_one, hc, List.map_append]
              rfl
            refine ⟨rfl, keepAll ?_⟩
            refine ⟨_, rfl, [97], [c], rfl, rfl, _, rfl, ite2 (fun h => ?_) (fun h => ?_)⟩
            · have e1 : 97 ≤ c := by simpa [lt_one] using h
              refine ⟨[c], [122], rfl, rfl, lcp_put hD e hD2 hl (by omega) (Same.refl _) ?_⟩
              show _ ++ [V.bl (!decide (([122] : List Nat) < [c]))] = _
              rw [step]
              have : isLet c = !decide (([122] : List Nat) < [c]) := by
                by_cases g : 122 < c
                · have g' : ¬ c ≤ 122 := by omega
                  simp [isLet, lt_one, e1, g, g']
                · have g' : c ≤ 122 := by omega
                  simp [isLet, lt_one, e1, g, g']
              rw [this]
            · have e1 : ¬ 97 ≤ c := by simpa [lt_one] using h
              refine lcp_put hD e hD2 hl (by omega) (Same.refl _) ?_
              show _ ++ [V.bl false] = _
              rw [step]
              have : isLet c = false := by simp [isLet, e1]
              rw [this]
          · rintro H2 ⟨_, acc, e, hD2, _, rfl⟩
            refine ⟨Dl, l.map isLet, rfl, .inl (.inl ?_), ?_⟩
            · rw [hD2, List.take_length, List.map_map]
              rfl
            · rw [wd_all h1 h2]
              exact q H2 e
      · rw [wd_no1 (by simpa using h1)] at q
        exact ⟨false, rfl, iteT (q H (Same.refl H))⟩
    · refine ⟨_, rfl, _, _, _, _, false, rfl, .ty "str", ht, kit_ty hk, false, rfl, ?_⟩
      exact q H (Same.refl H)
end
end Rk
namespace Rk
open PySem PySem.Spec PyProof.Rows L2 Rw
abbrev s_need_word : Stmt := topS 11
abbrev n_need_word : List Str := ["thing"]
abbrev p_need_word : List Str := ["thing"]
theorem sc_need_word : FnScope n_need_word p_need_word (defScope s_need_word) := ⟨rfl, rfl, rfl, by decide +kernel, rfl, by decide +kernel, by decide +kernel⟩
section
variable {P : Program} {w : World} {K : PySem.W.Frag} {mg : Str → Option Value} {base : Heap} {cN : Addr} (B : Bt mg) (R : Er1 K mg cN)
include B R
theorem ok_need_word (D : Dfn K mg "need_word" s_need_word p_need_word) (c_is_word : Cal CX0 P w K mg base 1 "is_word" (spIsWord K)) : Cal (L2.CX P w) P w K mg base 2 "need_word" (spNeed K cN) := by
  refine D.cal fun f fd F => F.okX sc_need_word (fun vs H Q E h => ?_) (fun cdv A outer s H vs Q E hr h => ?_)
  · obtain ⟨v, b, rest, rfl, hr, _⟩ := h
    cases rest with
    | nil => rfl
    | cons _ _ => cases hr
  · obtain ⟨v, b, rest, rfl, hrest, hv, hno, hyes⟩ := h
    cases List.eq_nil_of_length_eq_zero hrest
    refine ⟨_, (pss_one (ps_if (pt_not (pt_val (pe_cal c_is_word hr (by decide) pass0 (pa_cons (pv 0) pa_nil)))) (pss_one (ps_raise rfl (takes_of rfl rfl rfl rfl) (pmk_ownA PySem.F.excBase_ValueError R.x_NoWord R.g_NoWord R.k_NoWord (raises_own R.b_NoWord R.t_NoWord) (by rfl) (pa_cons (pe_joined (PJ.cons pe_str (PJ.cons (pe_fmt (pe_gx rfl B.g_LONGEST_WORD)) (PJ.cons pe_str PJ.nil)))) pa_nil)))) pss_nil)), ?_⟩
    refine ⟨v, rfl, v, b, rfl, hv, fun H1 e1 => ⟨b, rfl, ?_⟩⟩
    cases b with
    | true =>
      refine iteF ?_
      obtain ⟨l, rfl, hl⟩ := hv.get
      exact hyes l rfl rfl hl H1 e1
    | false =>
      refine iteT ?_
      refine ⟨_, rfl, by decide +kernel, .inr ⟨300, rfl, by decide, _, rfl, by decide +kernel, _, rfl, by decide +kernel, ?_⟩⟩
      exact ⟨by show 1 ≤ sizeLine; decide, hno rfl H1 e1⟩
end
end Rk
namespace Rk
open PySem PySem.Spec PyProof.Rows L2 Rw
abbrev s_turnings : Stmt := topS 12
abbrev n_turnings : List Str := ["word", "place"]
abbrev p_turnings : List Str := ["word"]
theorem sc_turnings : FnScope n_turnings p_turnings (defScope s_turnings) := ⟨rfl, rfl, rfl, by decide +kernel, rfl, by decide +kernel, by decide +kernel⟩
theorem turn_step (l : List Nat) (i : Nat) : tvs ((List.range (i + 1)).map (turn l)) = tvs ((List.range i).map (turn l)) ++ [tv (turn l i)] := by
  rw [List.range_succ, List.map_append]
  exact List.map_append
theorem cut_turn (l : List Nat) (i : Nat) : cutL l (some ((0 : Int) + (i : Int))) none ++ cutL l none (some ((0 : Int) + (i : Int))) = turn l i := by
  rw [Int.zero_add, cutL_from, cutL_to]
  rfl
theorem cut_le (l : List Nat) (i : Int) (h : l.length ≤ 1000) : (cutL l (some i) none).length + (cutL l none (some i)).length ≤ 100000 := by
  have a1 := cutL_len l (some i) none
  have a2 := cutL_len l none (some i)
  omega
section
variable {P : Program} {w : World} {K : PySem.W.Frag} {mg : Str → Option Value} {base : Heap} {cN : Addr} (B : Bt mg)
include B
theorem ok_turnings (D : Dfn K mg "turnings" s_turnings p_turnings) (c_need_word : Cal (L2.CX P w) P w K mg base 2 "need_word" (spNeed K cN)) : Cal (L2.CX P w) P w K mg base 3 "turnings" (spTurnings K cN) := by
  refine D.cal fun f fd F => F.okX sc_turnings (fun vs H Q E h => ?_) (fun cdv A outer s H vs Q E hr h => ?_)
  · obtain ⟨v, b, rest, rfl, hr, _⟩ := h
    cases rest with
    | nil => rfl
    | cons _ _ => cases hr
  · obtain ⟨v, b, rest, rfl, hrest, hv, hno, hyes⟩ := h
    cases List.eq_nil_of_length_eq_zero hrest
    refine ⟨_, (pss_cons (ps_expr (pe_cal c_need_word hr (by decide) (passes_call (takes_of rfl rfl rfl rfl) fun _ _ _ _ h => h) (pa_cons (pv 0) pa_nil)))
      (pss_one (ps_ret (pe_lc (own := [("place", 1)]) rfl sc_turnings.nd (pi_range1 (by rfl) B.m_range (pa_cons (pe_callB call_lenT (by rfl) B.m_len PySem.boot_len (pa_cons (pv 0) pa_nil)) pa_nil)) (blkOk_by (own := [("place", 1)]) (N := n_turnings) (sc := defScope s_turnings) (by decide +kernel)) (fun _ _ _ _ _ => (pg_name (i := 1) sc_turnings.nd rfl (Or.inl rfl))) (fun _ _ _ _ _ => pts_nil) (fun _ _ _ _ _ => (pe_op op_addT (pe_slice sl_T (pv 0) (po_some (pv 1)) po_none) (pe_slice sl_T (pv 0) po_none (po_some (pv 1))))))))), ?_⟩
    refine ⟨v, rfl, v, b, [], rfl, rfl, hv, hno, fun l hb ev hl H1 e1 => ?_⟩
    subst hb ev
    have q := hyes l rfl rfl hl
    have hn := hl.2.1
    refine ⟨_, rfl, l, rfl, hl.sz, _, rfl, by omega, by omega, fun Dl hD => ?_⟩
    refine lc_it walk_range (LcP H1 Dl fun i acc => acc = tvs ((List.range i).map (turn l))) (lcp_start hD rfl) (fun _ _ _ _ => trivial) ?_ ?_
    · rintro i x H2 H2' hi ⟨_, acc, e, hD2, hlen, rfl⟩ ⟨rfl, rfl⟩
      have hi : i < l.length := hi
      refine ⟨rfl, keepAll ?_⟩
      refine ⟨_, rfl, _, rfl, _, rfl, l, rfl, hl.sz, _, rfl, _, rfl, _, rfl, l, rfl, hl.sz, _, _, rfl, rfl, cut_le l _ (by omega), ?_⟩
      refine lcp_put hD e hD2 hlen (by omega) (Same.refl _) ?_
      rw [turn_step, cut_turn]
    · rintro H2 ⟨_, acc, e, hD2, _, rfl⟩
      exact q Dl H2 (e1.free hD) (e1.trans e) hD2
end
end Rk
namespace Rw
open PySem PySem.Spec PyProof.Rows L2
/-- the places looked at up to n: where pieces begin, the least ending so far -/
def cutSt (l : List Nat) : Nat → List Nat × List Nat
  | 0 => ([0], l)
  | n + 1 => if l.drop (n + 1) < (cutSt l n).2 then ((cutSt l n).1 ++ [n + 1], l.drop (n + 1)) else cutSt l n
def cutsOf (l : List Nat) : List Nat := (cutSt l (l.length - 1)).1
abbrev ivs (ns : List Nat) : List V := ns.map fun n => V.int (n : Nat)
theorem ivs_app (a b : List Nat) : ivs (a ++ b) = ivs a ++ ivs b := List.map_append
def piecesOf (l : List Nat) : List (List Nat) := ((cutsOf l).zip ((cutsOf l).tail ++ [l.length])).map fun ab => (l.drop ab.1).take (ab.2 - ab.1)
theorem cutSt_len (l : List Nat) : ∀ n, 1 ≤ (cutSt l n).1.length ∧ (cutSt l n).1.length ≤ n + 1
  | 0 => ⟨Nat.le_refl _, Nat.le_refl _⟩
  | n + 1 => by
    obtain ⟨h1, h2⟩ := cutSt_len l n
    unfold cutSt
    by_cases g : l.drop (n + 1) < (cutSt l n).2
    · rw [if_pos g]
      show 1 ≤ ((cutSt l n).1 ++ [n + 1]).length ∧ _
      rw [List.length_append]
      exact ⟨Nat.le_add_left 1 _, Nat.succ_le_succ h2⟩
    · rw [if_neg g]
      exact ⟨h1, Nat.le_succ_of_le h2⟩
theorem cutsOf_len {l : List Nat} (h : Wd l) : 1 ≤ (cutsOf l).length ∧ (cutsOf l).length ≤ l.length := by
  have := cutSt_len l (l.length - 1)
  have := h.1
  unfold cutsOf
  omega
def spCuts (K : PySem.W.Frag) (C : Addr) : Sp := spW K C 0 fun l _ H Q _ => ∀ p H', H p = none → Same H H' → H' p = some (.lst (ivs (cutsOf l))) → Q (.ref p) H'
def spPieces (K : PySem.W.Frag) (C : Addr) : Sp := spW K C 0 fun l _ H Q _ => newT (piecesOf l) H Q
def spIsEarly (K : PySem.W.Frag) (C : Addr) : Sp := spW K C 0 fun l _ H Q _ => ∀ H', Same H H' → Q (.bl (early l)) H'
/-- rows, of anything of a known kind: b, whether it is just the list ps -/
def Rows (K : PySem.W.Frag) (H : Hp) (r : V) (ps : List (List Nat)) (b : Bool) : Prop :=
  (b = false ∧ ∃ t : String, TyX K H r (.type t) ∧ kitB t "list" = some false) ∨
  (∃ (p : Addr) (vs : List V) (bs : List Bool), r = .ref p ∧ H p = some (.lst vs) ∧ vs.length ≤ 100000 ∧ bs.length = vs.length ∧ (∀ (i : Nat) (v : V), vs[i]? = some v → ∃ c, bs[i]? = some c ∧ Th K H v c) ∧
    (bs.all id = false → b = false) ∧ (∀ ls : List (List Nat), vs = tvs ls → (∀ x ∈ ls, Wd x) → b = decide (ls = ps)))
theorem Rows.same {K : PySem.W.Frag} {H H' : Hp} {r : V} {ps : List (List Nat)} {b : Bool} (e : Same H H') (h : Rows K H r ps b) : Rows K H' r ps b := by
  rcases h with ⟨h1, t, h2, h3⟩ | ⟨p, vs, bs, h1, h2, h0, h3, h4, h5, h6⟩
  · exact .inl ⟨h1, t, tyx_same e h2, h3⟩
  · exact .inr ⟨p, vs, bs, h1, e _ _ h2, h0, h3, fun i v hv => by obtain ⟨c, q, t⟩ := h4 i v hv; exact ⟨c, q, t.same e⟩, h5, h6⟩
def spIsCutting (K : PySem.W.Frag) (C : Addr) : Sp := spW K C 1 fun l rest H Q _ => ∃ r b, rest = [r] ∧ Rows K H r (piecesOf l) b ∧ ∀ H', Same H H' → Q (.bl b) H'
theorem piece_ok {l : List Nat} (h : Ok l) : ∀ x ∈ piecesOf l, Ok x := fun x hx c hc => by
  obtain ⟨ab, _, rfl⟩ := List.mem_map.mp hx
  exact h c (List.mem_of_mem_drop (List.mem_of_mem_take hc))
theorem all_words {K : PySem.W.Frag} {H : Hp} : ∀ {vs : List V} {bs : List Bool}, bs.length = vs.length → (∀ (i : Nat) (v : V), vs[i]? = some v → ∃ c, bs[i]? = some c ∧ Th K H v c) → bs.all id = true → ∃ ls : List (List Nat), vs = tvs ls ∧ ∀ x ∈ ls, Wd x
  | [], [], _, _, _ => ⟨[], rfl, fun _ h => nomatch h⟩
  | [], _ :: _, h, _, _ => by simp at h
  | _ :: _, [], h, _, _ => by simp at h
  | v :: vs, b :: bs, h, f, a => by
    rw [List.all_cons, Bool.and_eq_true] at a
    obtain ⟨ls, e, k⟩ := all_words (vs := vs) (bs := bs) (by simpa using h) (fun i v hv => f (i + 1) v hv) a.2
    obtain ⟨c, hc, t⟩ := f 0 v rfl
    have ec : b = c := Option.some.inj hc
    have a1 : b = true := a.1
    rw [← ec, a1] at t
    obtain ⟨l, el, hl⟩ := t.get
    refine ⟨l :: ls, by rw [el, e]; rfl, fun x hx => ?_⟩
    rcases List.mem_cons.mp hx with z | z
    · rw [z]; exact hl
    · exact k x z
theorem turns_tail (l : List Nat) : cutV (tvs (turns l)) (some 1) none = tvs (turns l).tail := by
  have e : cutV (tvs (turns l)) (some ((1 : Nat) : Int)) none = (tvs (turns l)).drop 1 := cutL_from _ 1
  rw [show ((1 : Nat) : Int) = 1 from rfl] at e
  rw [e, ← List.map_drop, List.drop_one]
/-! ==, != of two lists of numbers; some texts sorted -/
theorem dp_ivs {K : PySem.W.Frag} {H : Hp} : ∀ ns : List Nat, DpAll K H (ivs ns) (ns.map fun n => .int (n : Nat))
  | [] => .nil
  | n :: r => .cons (.int _) (dp_ivs r)
theorem eqv_ivs : ∀ a b : List Nat, PyData.eqvAll (a.map fun n => .int (n : Nat)) (b.map fun n => .int (n : Nat)) = decide (a = b)
  | [], [] => rfl
  | [], _ :: _ => rfl
  | _ :: _, [] => rfl
  | x :: xs, y :: ys => by
    rw [List.map_cons, List.map_cons]
    unfold PyData.eqvAll
    rw [eqv_ivs xs ys]
    show ((((x : Nat) : Int) == ((y : Nat) : Int)) && _) = _
    have e : (((x : Nat) : Int) == ((y : Nat) : Int)) = decide (x = y) := by
      rw [Bool.eq_iff_iff, beq_iff_eq, decide_eq_true_eq]
      omega
    rw [e]
    by_cases h1 : x = y <;> by_cases h2 : xs = ys <;> simp [h1, h2]
theorem can_ivs : ∀ ns : List Nat, PyData.canLayAll0 (ns.map fun n => .int (n : Nat)) = true
  | [] => rfl
  | n :: r => by
    rw [List.map_cons]
    unfold PyData.canLayAll0
    rw [can_ivs r, Bool.and_true]
    rfl
theorem depth_ivs : ∀ ns : List Nat, PyData.depthAll (ns.map fun n => .int (n : Nat)) ≤ 1
  | [] => by decide
  | n :: r => by
    rw [List.map_cons]
    unfold PyData.depthAll
    refine Nat.max_le.mpr ⟨?_, depth_ivs r⟩
    first | decide | (show PyData.depth (.int _) ≤ 1; unfold PyData.depth; decide)
theorem shaped_ivs (ns : List Nat) : SeqAt.shaped (.list (ns.map fun n => .int (n : Nat))) = true := by
  unfold SeqAt.shaped
  rw [Bool.and_eq_true]
  constructor
  · unfold PyData.canLay0
    exact can_ivs ns
  · refine decide_eq_true ?_
    unfold PyData.depth
    have := depth_ivs ns
    omega
def rEqI (K : PySem.W.Frag) (neg : Bool) : R2 := fun x y H Q => ∃ (p q : Addr) (a b : List Nat), x = .ref p ∧ y = .ref q ∧ SqL K H p (ivs a) ∧ SqL K H q (ivs b) ∧ Q (.bl (if neg then !decide (a = b) else decide (a = b))) H
theorem eqv_nums (a b : List Nat) : PyData.eqv (.list (a.map fun n => .int (n : Nat))) (.list (b.map fun n => .int (n : Nat))) = decide (a = b) := by
  unfold PyData.eqv
  exact eqv_ivs a b
section
variable {X : Cx}
theorem op_eqI (hu : X.A.units + 64 < cLine) : OpR X (compareOp .Eq) (rEqI X.K false) := fun pins s σ H x y v u Q I rx ry ⟨p, q, a, b, e1, e2, h1, h2, k⟩ =>
  op_eqD hu pins s σ H x y v u Q I rx ry ⟨_, _, by rw [e1]; exact .lst h1 (dp_ivs a), by rw [e2]; exact .lst h2 (dp_ivs b), shaped_ivs a, shaped_ivs b, by rw [eqv_nums]; exact k⟩
theorem op_neI (hu : X.A.units + 64 < cLine) : OpR X (compareOp .NotEq) (rEqI X.K true) := fun pins s σ H x y v u Q I rx ry ⟨p, q, a, b, e1, e2, h1, h2, k⟩ =>
  op_neD hu pins s σ H x y v u Q I rx ry ⟨_, _, by rw [e1]; exact .lst h1 (dp_ivs a), by rw [e2]; exact .lst h2 (dp_ivs b), shaped_ivs a, shaped_ivs b, by rw [eqv_nums]; exact k⟩
end
theorem sorted_any {ys : List Str} {ls : List (List Nat)} (p : ys.Perm (ls.map T)) : ∃ ls' : List (List Nat), ys.map V.str = tvs ls' ∧ ls'.length = ls.length ∧ ∀ x ∈ ls', x ∈ ls := by
  refine ⟨ys.map (·.cps.toList), ?_, ?_, fun x hx => ?_⟩
  · show _ = (ys.map (·.cps.toList)).map tv
    rw [List.map_map]
    refine List.map_congr_left fun y _ => ?_
    show V.str y = V.str (T y.cps.toList)
    rw [T_of]
  · rw [List.length_map, p.length_eq, List.length_map]
  · obtain ⟨y, hy, rfl⟩ := List.mem_map.mp hx
    obtain ⟨z, hz, e⟩ := List.mem_map.mp (p.mem_iff.mp hy)
    rw [← e, T_cps]
    exact hz
theorem flat_wd {n : Nat} : ∀ {ls : List (List Nat)}, (∀ x ∈ ls, Wd x ∧ x.length ≤ n) → ls.flatten.length ≤ n * ls.length ∧ ∀ c ∈ ls.flatten, 97 ≤ c ∧ c ≤ 122
  | [], _ => ⟨Nat.zero_le _, fun c hc => by simp at hc⟩
  | x :: r, h => by
    obtain ⟨i1, i2⟩ := flat_wd (ls := r) fun y hy => h y (List.mem_cons_of_mem _ hy)
    have hx := h x List.mem_cons_self
    rw [List.flatten_cons]
    refine ⟨?_, fun c hc => ?_⟩
    · rw [List.length_append, List.length_cons, Nat.mul_succ]
      omega
    · rcases List.mem_append.mp hc with z | z
      · exact hx.1.2.2 c z
      · exact i2 c z
/-! with the written part named: within comprehensions -/
section
variable {X : Cx} {K : PySem.W.Frag}
theorem cr_minLK (hK : X.K = K) (hc : X.calm = true) (hu : X.A.units + 64 < cLine) : CallR X (.builtin "min") (rMinL K) := hK ▸ cr_minL hc hu
theorem call_isiK (hK : X.K = K) : CallR X (.builtin "isinstance") (rIsi K) := hK ▸ call_isi
theorem ix_listK (hK : X.K = K) : IxR X (rIxL K) := hK ▸ ix_list
theorem sl_listK (hK : X.K = K) : SlR X (rSlL K) := hK ▸ sl_list
theorem pe_joinTK {o e : Expr} {to te : TE} {apos pos : Pos} (hK : X.K = K) (ho : PE X o to) (he : PE X e te)
    (h1 : starEach [e] X.env = [(false, eval e X.env)] := by rfl) (h2 : attributeBase o "join" X.env (eval o X.env) = eval o X.env := by rfl) (h3 : (apos.endLine == pos.line) = true := by rfl) :
    PE X (.Call (.Attribute o "join" apos) [e] [] pos) (tM1 (rJoinT K) to te) := hK ▸ pe_joinT ho he h1 h2 h3
end
end Rw
namespace Rk
open PySem PySem.Spec PyProof.Rows L2 Rw
abbrev s_is_early : Stmt := topS 14
abbrev n_is_early : List Str := ["word", "others", "other"]
abbrev p_is_early : List Str := ["word"]
theorem sc_is_early : FnScope n_is_early p_is_early (defScope s_is_early) := ⟨rfl, rfl, rfl, by decide +kernel, rfl, by decide +kernel, by decide +kernel⟩
section
variable {P : Program} {w : World} {K : PySem.W.Frag} {mg : Str → Option Value} {base : Heap} {cN : Addr} (B : Bt mg)
include B
theorem ok_is_early (D : Dfn K mg "is_early" s_is_early p_is_early) (c_turnings : Cal (L2.CX P w) P w K mg base 3 "turnings" (spTurnings K cN)) : Cal (L2.CX P w) P w K mg base 4 "is_early" (spIsEarly K cN) := by
  refine D.cal fun f fd F => F.okX sc_is_early (fun vs H Q E h => ?_) (fun cdv A outer s H vs Q E hr h => ?_)
  · obtain ⟨v, b, rest, rfl, hr, _⟩ := h
    cases List.eq_nil_of_length_eq_zero hr
    rfl
  · obtain ⟨v, b, rest, rfl, hrest, hv, hno, hyes⟩ := h
    cases List.eq_nil_of_length_eq_zero hrest
    refine ⟨_, (pss_cons (ps_set (i := 1) sc_is_early.nd rfl (Or.inl rfl) (pe_slice sl_list (pe_cal c_turnings hr (by decide) (passes_call (takes_of rfl rfl rfl rfl) fun _ _ _ _ h => h) (pa_cons (pv 0) pa_nil)) (po_some pe_int) po_none))
      (pss_one (ps_ret (pe_callB (cr_all rfl) (by rfl) B.m_all (by decide +kernel) (pa_cons (pe_lc (own := [("other", 2)]) rfl sc_is_early.nd (pi_list (pv 1)) (blkOk_by (own := [("other", 2)]) (N := n_is_early) (sc := defScope s_is_early) (by decide +kernel)) (fun _ _ _ _ _ => (pg_name (i := 2) sc_is_early.nd rfl (Or.inl rfl))) (fun _ _ _ _ _ => pts_nil) (fun _ _ _ _ _ => (pe_cmpR op_ltT (pv 0) (pv 2) (nomark _)))) pa_nil))))), ?_⟩
    refine ⟨v, rfl, v, b, [], rfl, rfl, hv, hno, fun l hb ev hl p H1 np e1 hp => ?_⟩
    subst hb ev
    have q := hyes l rfl rfl hl
    refine ⟨1, rfl, p, tvs (turns l), rfl, SqL.of hp, fun p2 np2 => ?_⟩
    rw [turns_tail]
    have e2 := same_upd (o := .lst (tvs (turns l).tail)) np2
    refine ⟨_, rfl, p2, rfl, ⟨_, SqL.of upd_same⟩, fun Dl hD => ?_⟩
    have tl : (turns l).tail.length ≤ 300 := by
      rw [List.length_tail, turns_len]
      have := hl.2.1
      omega
    refine lc_it walk_list (LcP _ Dl fun i acc => acc = ((turns l).tail.take i).map fun o => V.bl (decide (l < o))) (lcp_start hD rfl) (fun i H3 _ ⟨_, acc, e, _, _, _⟩ => SqL.of (e _ _ upd_same)) ?_ ?_
    · rintro i x H2 H2' hi ⟨_, acc, e, hD2, hlen, rfl⟩ ⟨rfl, hx⟩
      rw [List.length_map] at hi
      rw [List.getElem?_map, List.getElem?_eq_getElem hi] at hx
      have ex : tv ((turns l).tail[i]) = x := Option.some.inj hx
      subst ex
      refine ⟨rfl, keepAll ?_⟩
      refine ⟨_, rfl, _, rfl, l, _, rfl, rfl, ?_⟩
      refine lcp_put hD e hD2 hlen (by omega) (Same.refl _) ?_
      rw [List.take_add_one, List.getElem?_eq_getElem hi, List.map_append]
      rfl
    · rintro H2 ⟨_, acc, e, hD2, _, rfl⟩
      refine ⟨Dl, (turns l).tail.map fun o => decide (l < o), rfl, SqL.of ?_, ?_⟩
      · rw [hD2, List.length_map, List.take_length, List.map_map]
        rfl
      · rw [List.all_map]
        exact q H2 ((e1.trans e2).trans e)
end
end Rk
namespace Rk
open PySem PySem.Spec PyProof.Rows L2 Rw
abbrev s_cuts : Stmt := topS 15
abbrev n_cuts : List Str := ["word", "places", "least", "place", "rest"]
abbrev p_cuts : List Str := ["word"]
theorem sc_cuts : FnScope n_cuts p_cuts (defScope s_cuts) := ⟨rfl, rfl, rfl, by decide +kernel, rfl, by decide +kernel, by decide +kernel⟩
section
variable {P : Program} {w : World} {K : PySem.W.Frag} {mg : Str → Option Value} {base : Heap} {cN : Addr} (B : Bt mg)
include B
theorem ok_cuts (D : Dfn K mg "cuts" s_cuts p_cuts) (c_need_word : Cal (L2.CX P w) P w K mg base 2 "need_word" (spNeed K cN)) : Cal (L2.CX P w) P w K mg base 3 "cuts" (spCuts K cN) := by
  refine D.cal fun f fd F => F.okX sc_cuts (fun vs H Q E h => ?_) (fun cdv A outer s H vs Q E hr h => ?_)
  · obtain ⟨v, b, rest, rfl, hr, _⟩ := h
    cases List.eq_nil_of_length_eq_zero hr
    rfl
  · obtain ⟨v, b, rest, rfl, hrest, hv, hno, hyes⟩ := h
    cases List.eq_nil_of_length_eq_zero hrest
    refine ⟨_, (pss_cons (ps_expr (pe_cal c_need_word hr (by decide) (passes_call (takes_of rfl rfl rfl rfl) fun _ _ _ _ h => h) (pa_cons (pv 0) pa_nil)))
      (pss_cons (ps_set (i := 1) sc_cuts.nd rfl (Or.inl rfl) (pe_lst (pa_cons pe_int pa_nil)))
      (pss_cons (ps_set (i := 2) sc_cuts.nd rfl (Or.inl rfl) (pv 0))
      (pss_cons (ps_for (passes_of rfl) rfl (pi_range2 (by rfl) B.m_range (pa_cons pe_int (pa_cons (pe_callB call_lenT (by rfl) B.m_len PySem.boot_len (pa_cons (pv 0) pa_nil)) pa_nil))) (pg_name (i := 3) sc_cuts.nd rfl (Or.inl rfl))
        (pss_cons (ps_set (i := 4) sc_cuts.nd rfl (Or.inl rfl) (pe_slice sl_T (pv 0) (po_some (pv 3)) po_none))
        (pss_one (ps_if (pt_cmpR op_ltT (pv 4) (pv 2) (nomark _)) (pss_cons (ps_expr (pe_bm PySem.F.plainAttrs_list PySem.F.slot_list_append PySem.F.type_list_append mt_append (pv 1) (pa_cons (pv 3) pa_nil)))
          (pss_one (ps_set (i := 2) sc_cuts.nd rfl (Or.inl rfl) (pv 4)))) pss_nil))))
      (pss_one (ps_ret (pv 1))))))), ?_⟩
    refine ⟨v, rfl, v, b, [], rfl, rfl, hv, hno, fun l hb ev hl H1 e1 => ?_⟩
    subst hb ev
    have q := hyes l rfl rfl hl
    have hn := hl.2.1
    refine ⟨(show 1 ≤ sizeLine by decide), fun p np => ?_⟩
    have npH : H p = none := e1.free np
    refine ⟨_, rfl, _, rfl, l, rfl, hl.sz, 1, ((l.length : Nat) : Int), rfl, ⟨by decide, by decide, by omega, by omega⟩, ?_⟩
    have ez : (((l.length : Nat) : Int) - 1).toNat = l.length - 1 := by omega
    rw [ez]
    refine for_range (n := l.length - 1) (fun i σ H' => ∃ y z, σ = [some (tv l), some (.ref p), some (tv (cutSt l i).2), y, z] ∧ Same H H' ∧ H' p = some (.lst (ivs (cutSt l i).1))) ?_ ?_ ?_
    · exact ⟨none, none, rfl, Same.mut e1 npH, upd_same⟩
    · rintro i σ H2 hi ⟨y, z, rfl, e2, hp⟩
      have hc := (cutSt_len l i).2
      refine ⟨_, rfl, _, rfl, _, rfl, l, rfl, hl.sz, ?_⟩
      have ej : (1 : Int) + (i : Int) = ((i + 1 : Nat) : Int) := by omega
      rw [ej, cutL_from]
      refine ⟨_, rfl, _, rfl, l.drop (i + 1), (cutSt l i).2, rfl, rfl, _, rfl, ite2 (fun h => ?_) (fun h => ?_)⟩
      · have h := of_decide_eq_true h
        have es : cutSt l (i + 1) = ((cutSt l i).1 ++ [i + 1], l.drop (i + 1)) := by
          show (if _ then _ else _) = _
          rw [if_pos h]
        refine ⟨_, rfl, .inl ⟨rfl, _, SqL.of hp⟩, _, rfl, p, _, _, rfl, rfl, hp, ?_, ?_⟩
        · rw [List.length_map]
          exact bigL (by omega)
        · rw [es]
          refine ⟨_, rfl, _, _, rfl, Same.mut e2 npH, ?_⟩
          rw [upd_same, ivs_app]
          rfl
      · have h : ¬ l.drop (i + 1) < (cutSt l i).2 := of_decide_eq_false (by simpa using h)
        have es : cutSt l (i + 1) = cutSt l i := by
          show (if _ then _ else _) = _
          rw [if_neg h]
        rw [es]
        exact ⟨_, _, rfl, e2, hp⟩
    · rintro σ H2 ⟨y, z, rfl, e2, hp⟩
      exact ⟨_, rfl, q p H2 npH e2 hp⟩
end
end Rk
namespace Rk
open PySem PySem.Spec PyProof.Rows L2 Rw
abbrev s_pieces : Stmt := topS 16
abbrev n_pieces : List Str := ["word", "starts", "ends", "start", "end"]
abbrev p_pieces : List Str := ["word"]
theorem sc_pieces : FnScope n_pieces p_pieces (defScope s_pieces) := ⟨rfl, rfl, rfl, by decide +kernel, rfl, by decide +kernel, by decide +kernel⟩
section
variable {P : Program} {w : World} {K : PySem.W.Frag} {mg : Str → Option Value} {base : Heap} {cN : Addr} (B : Bt mg)
include B
theorem ok_pieces (D : Dfn K mg "pieces" s_pieces p_pieces) (c_cuts : Cal (L2.CX P w) P w K mg base 3 "cuts" (spCuts K cN)) : Cal (L2.CX P w) P w K mg base 4 "pieces" (spPieces K cN) := by
  refine D.cal fun f fd F => F.okX sc_pieces (fun vs H Q E h => ?_) (fun cdv A outer s H vs Q E hr h => ?_)
  · obtain ⟨v, b, rest, rfl, hr, _⟩ := h
    cases List.eq_nil_of_length_eq_zero hr
    rfl
  · obtain ⟨v, b, rest, rfl, hrest, hv, hno, hyes⟩ := h
    cases List.eq_nil_of_length_eq_zero hrest
    refine ⟨_, (pss_cons (ps_set (i := 1) sc_pieces.nd rfl (Or.inl rfl) (pe_cal c_cuts hr (by decide) (passes_call (takes_of rfl rfl rfl rfl) fun _ _ _ _ h => h) (pa_cons (pv 0) pa_nil)))
      (pss_cons (ps_set (i := 2) sc_pieces.nd rfl (Or.inl rfl) (pe_op op_cat (pe_slice sl_list (pv 1) (po_some pe_int) po_none) (pe_lst (pa_cons (pe_callB call_lenT (by rfl) B.m_len PySem.boot_len (pa_cons (pv 0) pa_nil)) pa_nil))))
      (pss_one (ps_ret (pe_lc (own := [("start", 3), ("end", 4)]) (g := gTup K 2 (gCons (gName 3) (gCons (gName 4) gNil))) rfl sc_pieces.nd (pi_zip (by rfl) B.m_zip (pa_cons (pv 1) (pa_cons (pv 2) pa_nil))) (blkOk_by (own := [("start", 3), ("end", 4)]) (N := n_pieces) (sc := defScope s_pieces) (by decide +kernel)) (fun _ _ _ _ _ => (pg_tup rfl (pgs_cons (pg_name (i := 3) sc_pieces.nd rfl (Or.inl rfl)) (pgs_cons (pg_name (i := 4) sc_pieces.nd rfl (Or.inl rfl)) pgs_nil)))) (fun _ _ _ _ _ => pts_nil) (fun _ _ _ _ _ => (pe_slice sl_T (pv 0) (po_some (pv 3)) (po_some (pv 4))))))))), ?_⟩
    refine ⟨v, rfl, v, b, [], rfl, rfl, hv, hno, fun l hb ev hl p H1 np e1 hp => ?_⟩
    subst hb ev
    have q := hyes l rfl rfl hl
    obtain ⟨c1, c2⟩ := cutsOf_len hl
    have hn := hl.2.1
    refine ⟨_, rfl, 1, rfl, p, ivs (cutsOf l), rfl, SqL.of hp, fun p2 np2 => ?_⟩
    refine ⟨_, rfl, l, rfl, hl.sz, (show 1 ≤ sizeLine by decide), fun p3 np3 => ?_⟩
    have k2 := same_upd (o := .lst (cutV (ivs (cutsOf l)) (some 1) none)) np2
    have k3 := same_upd (o := .lst [V.int ((l.length : Nat) : Int)]) np3
    have ec : cutV (ivs (cutsOf l)) (some 1) none = ivs (cutsOf l).tail := by
      have e : cutV (ivs (cutsOf l)) (some ((1 : Nat) : Int)) none = (ivs (cutsOf l)).drop 1 := cutL_from _ 1
      rw [show ((1 : Nat) : Int) = 1 from rfl] at e
      rw [e, ← List.map_drop, List.drop_one]
    rw [ec] at k2 k3 ⊢
    refine ⟨p2, p3, _, _, rfl, rfl, k3 _ _ upd_same, upd_same, ?_, fun p4 np4 => ?_⟩
    · rw [List.length_map, List.length_tail]
      exact big (by show _ + 1 ≤ _; omega)
    have ee : ivs (cutsOf l).tail ++ [V.int ((l.length : Nat) : Int)] = ivs ((cutsOf l).tail ++ [l.length]) := (ivs_app (cutsOf l).tail [l.length]).symm
    rw [ee]
    have k4 := same_upd (o := .lst (ivs ((cutsOf l).tail ++ [l.length]))) np4
    have hp4 := (k2.trans (k3.trans k4)) _ _ hp
    refine ⟨_, rfl, _, rfl, p, p4, _, _, rfl, SqL.of hp4, SqL.of upd_same, fun Dl hD => ?_⟩
    have hlen2 : ((cutsOf l).tail ++ [l.length]).length = (cutsOf l).length := by
      rw [List.length_append, List.length_tail]
      show _ + 1 = _
      omega
    refine lc_it (walk_zip (n := (cutsOf l).length) (by rw [List.length_map, List.length_map, hlen2, Nat.min_self])) (LcP _ Dl fun i acc => acc = tvs (((cutsOf l).zip ((cutsOf l).tail ++ [l.length])).take i |>.map fun ab => (l.drop ab.1).take (ab.2 - ab.1))) (lcp_start hD rfl) (fun i H3 _ ⟨_, acc, e, _, _, _⟩ => ⟨SqL.of (e _ _ hp4), SqL.of (e _ _ upd_same)⟩) ?_ ?_
    · rintro i x H2 H2' hi ⟨_, acc, e, hD2, hlen, rfl⟩ ⟨T, x1, y1, rfl, nT, rfl, hx, hy⟩
      have hi2 : i < ((cutsOf l).tail ++ [l.length]).length := by omega
      dsimp only at hx hy
      rw [List.getElem?_map, List.getElem?_eq_getElem hi] at hx
      rw [List.getElem?_map, List.getElem?_eq_getElem hi2] at hy
      have ex : V.int (((cutsOf l)[i] : Nat) : Int) = x1 := Option.some.inj hx
      have ey : V.int ((((cutsOf l).tail ++ [l.length])[i] : Nat) : Int) = y1 := Option.some.inj hy
      subst ex ey
      refine ⟨T, _, rfl, .inl (.inl upd_same), rfl, _, _, rfl, _, _, rfl, rfl, rfl, keepAll ?_⟩
      refine ⟨_, rfl, _, rfl, _, rfl, _, rfl, _, rfl, l, rfl, hl.sz, ?_⟩
      rw [cutL_mid]
      refine lcp_put hD e hD2 hlen (by omega) (same_upd nT) ?_
      rw [List.take_add_one, List.getElem?_eq_getElem (by rw [List.length_zip]; omega), List.map_append]
      show _ = List.map tv (_ ++ _)
      rw [List.map_append, List.getElem_zip]
      rfl
    · rintro H2 ⟨_, acc, e, hD2, _, rfl⟩
      have hz : (cutsOf l).length = ((cutsOf l).zip ((cutsOf l).tail ++ [l.length])).length := by
        rw [List.length_zip, hlen2, Nat.min_self]
      rw [hz, List.take_length] at hD2
      have kk := ((k2.trans k3).trans k4)
      exact q Dl H2 ((e1.trans kk).free hD) ((e1.trans kk).trans e) hD2
end
end Rk
namespace Rk
open PySem PySem.Spec PyProof.Rows L2 Rw
abbrev s_is_cutting : Stmt := topS 17
abbrev n_is_cutting : List Str := ["word", "rows", "right", "row"]
abbrev p_is_cutting : List Str := ["word", "rows"]
theorem sc_is_cutting : FnScope n_is_cutting p_is_cutting (defScope s_is_cutting) := ⟨rfl, rfl, rfl, by decide +kernel, rfl, by decide +kernel, by decide +kernel⟩
section
variable {P : Program} {w : World} {K : PySem.W.Frag} {mg : Str → Option Value} {base : Heap} {cN : Addr} (B : Bt mg)
include B
theorem ok_is_cutting (D : Dfn K mg "is_cutting" s_is_cutting p_is_cutting) (c_is_word : Cal CX0 P w K mg base 1 "is_word" (spIsWord K)) (c_pieces : Cal (L2.CX P w) P w K mg base 4 "pieces" (spPieces K cN)) : Cal (L2.CX P w) P w K mg base 5 "is_cutting" (spIsCutting K cN) := by
  refine D.cal fun f fd F => F.okX sc_is_cutting (fun vs H Q E h => ?_) (fun cdv A outer s H vs Q E hr h => ?_)
  · obtain ⟨v, b, rest, rfl, hr, _⟩ := h
    match rest, hr with
    | [_], _ => rfl
  · obtain ⟨v, b, rest, rfl, hrest, hv, hno, hyes⟩ := h
    obtain ⟨r, rfl⟩ : ∃ r, rest = [r] := match rest, hrest with | [r], _ => ⟨r, rfl⟩
    refine ⟨_, (pss_cons (ps_set (i := 2) sc_is_cutting.nd rfl (Or.inl rfl) (pe_cal c_pieces hr (by decide) (passes_call (takes_of rfl rfl rfl rfl) fun _ _ _ _ h => h) (pa_cons (pv 0) pa_nil)))
      (pss_cons (ps_if (pt_not (pt_val (pe_callB call_isi (by rfl) B.m_isinstance (by decide +kernel) (pa_cons (pv 1) (pa_cons (pe_bltn (v := .ty "list") (u := .type "list") rfl B.m_list (by decide +kernel) rfl) pa_nil))))) (pss_one (ps_ret pe_bl)) pss_nil)
      (pss_cons (ps_if (pt_not (pt_val (pe_callB (cr_all rfl) (by rfl) B.m_all (by decide +kernel) (pa_cons (pe_lc (own := [("row", 3)]) rfl sc_is_cutting.nd (pi_list (pv 1)) (blkOk_by (own := [("row", 3)]) (N := n_is_cutting) (sc := defScope s_is_cutting) (by decide +kernel)) (fun _ _ _ _ _ => (pg_name (i := 3) sc_is_cutting.nd rfl (Or.inl rfl))) (fun _ _ _ _ _ => pts_nil) (fun _ _ _ _ _ => (pe_cal c_is_word hr (by decide) pass0 (pa_cons (pv 3) pa_nil)))) pa_nil)))) (pss_one (ps_ret pe_bl)) pss_nil)
      (pss_one (ps_ret (pe_cmpR (op_eqL hr.units) (pv 1) (pv 2) (nomark _))))))), ?_⟩
    refine ⟨v, rfl, v, b, [], rfl, rfl, hv, hno, fun l hb ev hl p H1 np e1 hp => ?_⟩
    subst hb ev
    obtain ⟨r', c, er, hR, q⟩ := hyes l rfl rfl hl
    cases er
    rcases hR.same e1 with ⟨rfl, t, ht, hk⟩ | ⟨a, us, bs, rfl, ha, hz, hlen, hth, hno, hyes⟩
    · refine ⟨_, rfl, _, _, _, _, false, rfl, .ty "list", ht, kit_ty hk, false, rfl, iteT ?_⟩
      exact q H1 e1
    · refine ⟨_, rfl, _, _, _, _, true, rfl, .ty "list", .base (.lst ha), kit_ty (by decide +kernel), true, rfl, iteF ?_⟩
      refine ⟨_, rfl, a, rfl, ⟨_, SqL.of ha⟩, fun Dl hD => ?_⟩
      refine lc_it walk_list (LcP _ Dl fun i acc => acc = (bs.take i).map V.bl) (lcp_start hD rfl) (fun i H3 _ ⟨_, acc, e, _, _, _⟩ => SqL.of (e _ _ ha)) ?_ ?_
      · rintro i x H2 H2' hi ⟨_, acc, e, hD2, hl2, rfl⟩ ⟨rfl, hx⟩
        obtain ⟨c, hc, ht⟩ := hth i x hx
        refine ⟨rfl, keepAll ?_⟩
        refine ⟨_, rfl, x, c, rfl, ht.same e, fun H3 e3 => ?_⟩
        refine lcp_put hD e hD2 hl2 (by omega) e3 ?_
        rw [List.take_add_one, hc, List.map_append]
        rfl
      · rintro H2 ⟨_, acc, e, hD2, _, rfl⟩
        refine ⟨Dl, bs, rfl, SqL.of ?_, ?_⟩
        · rw [hD2, ← hlen, List.take_length]
        cases hall : bs.all id with
        | false =>
          have ec := hno hall
          subst ec
          exact ⟨false, rfl, iteT (q H2 (e1.trans e))⟩
        | true =>
          obtain ⟨ls, els, hls⟩ := all_words hlen hth hall
          have ec := hyes ls els hls
          rw [els] at ha
          refine ⟨true, rfl, iteF ?_⟩
          refine ⟨_, rfl, _, rfl, a, p, ls, piecesOf l, rfl, rfl, SqL.of (e _ _ ha), SqL.of (e _ _ hp), fun x hx => (hls x hx).ok, piece_ok hl.ok, ?_⟩
          rw [← ec]
          exact q H2 (e1.trans e)
end
end Rk
namespace Rk
open PySem PySem.Spec PyProof.Rows L2 Rw
abbrev s_l_cell_at : Stmt := topS 19
abbrev n_l_cell_at : List Str := ["_law_script", "_law_k"]
abbrev p_l_cell_at : List Str := ["_law_script", "_law_k"]
theorem sc_l_cell_at : FnScope n_l_cell_at p_l_cell_at (defScope s_l_cell_at) := ⟨rfl, rfl, rfl, by decide +kernel, rfl, by decide +kernel, by decide +kernel⟩
abbrev s_l_mixed : Stmt := topS 20
abbrev n_l_mixed : List Str := ["_law_cell", "_law_k", "_law_mix"]
abbrev p_l_mixed : List Str := ["_law_cell", "_law_k"]
theorem sc_l_mixed : FnScope n_l_mixed p_l_mixed (defScope s_l_mixed) := ⟨rfl, rfl, rfl, by decide +kernel, rfl, by decide +kernel, by decide +kernel⟩
section
variable {P : Program} {w : World} {K : PySem.W.Frag} {mg : Str → Option Value} {base : Heap} (B : Bt mg)
theorem ok_mixed (D : Dfn K mg "_law_mixed" s_l_mixed p_l_mixed) : Cal CX0 P w K mg base 1 "_law_mixed" spMixed := by
  refine D.cal fun f fd F => F.ok sc_l_mixed (fun vs H Q E h => ?_) (fun cdv A outer s H vs Q E hr h => ?_)
  · obtain ⟨c, k, rfl, _⟩ := h
    rfl
  · obtain ⟨c, k, rfl, q⟩ := h
    refine ⟨_, (pss_cons (ps_set (i := 2) sc_l_mixed.nd rfl (Or.inl rfl) (pe_op op_mod (pe_op op_mul (pe_op op_add (pe_op op_add (pv 0) (pe_op op_mul pe_int (pv 1))) pe_int) pe_int) pe_int))
      (pss_one (ps_ret (pe_op op_mod (pe_op op_add (pe_op op_mul (pv 2) (pv 2)) (pe_op op_mul pe_int (pv 2))) pe_int)))), ?_⟩
    refine ⟨_, rfl, _, rfl, 7919, k, rfl, rfl, .inl ⟨by decide, by decide⟩, _, _, rfl, rfl, _, _, rfl, rfl, _, _, rfl, rfl, .inr ⟨by decide, by decide⟩, _, _, rfl, rfl, (by decide : (0 : Int) < 2147483647), ?_⟩
    refine ⟨_, rfl, _, rfl, _, _, rfl, rfl, .inl ⟨by omega, by omega⟩, _, rfl, _, _, rfl, rfl, .inl ⟨by decide, by decide⟩, _, _, rfl, rfl, _, _, rfl, rfl, (by decide : (0 : Int) < 2147483399), ?_⟩
    exact q _ (Int.emod_nonneg _ (by decide)) (Int.emod_lt_of_pos _ (by decide))
include B
theorem ok_cell (D : Dfn K mg "_law_cell_at" s_l_cell_at p_l_cell_at) : Cal CX0 P w K mg base 1 "_law_cell_at" (spCellAt K) := by
  refine D.cal fun f fd F => F.ok sc_l_cell_at (fun vs H Q E h => ?_) (fun cdv A outer s H vs Q E hr h => ?_)
  · obtain ⟨a, ns, k, rfl, _⟩ := h
    rfl
  · obtain ⟨a, ns, k, rfl, hs, h0, h1, q⟩ := h
    refine ⟨_, (pss_cons (ps_if (pt_cmpR op_lt (pv 1) (pe_callB call_len_seq (by rfl) B.m_len PySem.boot_len (pa_cons (pv 0) pa_nil)) (nomark _)) (pss_one (ps_ret (pe_ix ix_list (pv 0) (pv 1) (fun _ _ => rfl)))) pss_nil)
      (pss_one (ps_ret (pe_op op_mul (pe_op op_mul (pe_op op_add (pv 1) pe_int) (pe_op op_add (pv 1) pe_int)) pe_int)))), ?_⟩
    refine ⟨_, rfl, _, rfl, a, _, rfl, .inl hs, k, _, rfl, rfl, _, rfl, ite2 (fun h => ?_) (fun h => ?_)⟩
    · have h := of_decide_eq_true h
      rw [List.length_map] at h
      obtain ⟨j, rfl⟩ : ∃ j : Nat, k = (j : Int) := ⟨k.toNat, by omega⟩
      have hj : j < ns.length := by omega
      refine ⟨_, rfl, _, rfl, a, _, _, .int ns[j], rfl, rfl, hs, atI_nat ?_, q _⟩
      rw [List.getElem?_map, List.getElem?_eq_getElem hj]
      rfl
    · refine ⟨_, rfl, k, 3, rfl, rfl, _, rfl, k, 7, rfl, rfl, _, _, rfl, rfl, .inl ⟨by omega, by omega⟩, _, _, rfl, rfl, .inr ⟨by decide, by decide⟩, q _⟩
end
end Rk
namespace Rk
open PySem PySem.Spec PyProof.Rows L2 Rw
abbrev s_l_signs : Stmt := topS 22
abbrev n_l_signs : List Str := ["_law_cell", "_law_letters", "_law_many", "_law_step", "_law_found", "_law_k"]
abbrev p_l_signs : List Str := ["_law_cell"]
theorem sc_l_signs : FnScope n_l_signs p_l_signs (defScope s_l_signs) := ⟨rfl, rfl, rfl, by decide +kernel, rfl, by decide +kernel, by decide +kernel⟩
def abc : List Nat := [97, 98, 99, 100, 101, 102, 103, 104, 105, 106, 107, 108, 109, 110, 111, 112, 113, 114, 115, 116, 117, 118, 119, 120, 121, 122]
theorem abc_is : ("abcdefghijklmnopqrstuvwxyz" : Str) = T abc := by decide +kernel
theorem abc_sg : Sg abc := by unfold Sg abc; decide +kernel
theorem pick_many {v : V} (h : v ∈ [V.int 1, V.int 2, V.int 2, V.int 3, V.int 2, V.int 4, V.int 5, V.int 26]) : ∃ n : Nat, v = .int (n : Int) ∧ 1 ≤ n ∧ n ≤ 26 := by
  simp only [List.mem_cons, List.not_mem_nil, or_false] at h
  rcases h with rfl | rfl | rfl | rfl | rfl | rfl | rfl | rfl
  · exact ⟨1, rfl, by decide, by decide⟩
  · exact ⟨2, rfl, by decide, by decide⟩
  · exact ⟨2, rfl, by decide, by decide⟩
  · exact ⟨3, rfl, by decide, by decide⟩
  · exact ⟨2, rfl, by decide, by decide⟩
  · exact ⟨4, rfl, by decide, by decide⟩
  · exact ⟨5, rfl, by decide, by decide⟩
  · exact ⟨26, rfl, by decide, by decide⟩
theorem pick_step {v : V} (h : v ∈ [V.int 1, V.int 3, V.int 5]) : ∃ n : Int, v = .int n ∧ 1 ≤ n ∧ n ≤ 5 := by
  simp only [List.mem_cons, List.not_mem_nil, or_false] at h
  rcases h with rfl | rfl | rfl
  · exact ⟨1, rfl, by decide, by decide⟩
  · exact ⟨3, rfl, by decide, by decide⟩
  · exact ⟨5, rfl, by decide, by decide⟩
/-- so many lists of one sign -/
def Ones (i : Nat) (acc : List V) : Prop := ∃ ls : List (List Nat), acc = tvs ls ∧ ls.length = i ∧ ∀ x ∈ ls, Sign1 x
theorem Ones.nil : Ones 0 [] := ⟨[], rfl, rfl, fun x hx => by simp at hx⟩
theorem Ones.snoc {i : Nat} {acc : List V} {c : Nat} (h : Ones i acc) (h1 : 97 ≤ c) (h2 : c ≤ 122) : Ones (i + 1) (acc ++ [tv [c]]) := by
  obtain ⟨ls, rfl, hl, ho⟩ := h
  refine ⟨ls ++ [[c]], by simp, by simp [hl], fun x hx => ?_⟩
  rcases List.mem_append.mp hx with z | z
  · exact ho x z
  · have : x = [c] := by simpa using z
    exact ⟨c, this, h1, h2⟩
section
variable {P : Program} {w : World} {K : PySem.W.Frag} {mg : Str → Option Value} {base : Heap} (B : Bt mg)
include B
theorem ok_signs (D : Dfn K mg "_law_signs" s_l_signs p_l_signs) (c__law_mixed : Cal CX0 P w K mg base 1 "_law_mixed" spMixed) : Cal CX0 P w K mg base 2 "_law_signs" spSigns := by
  refine D.cal fun f fd F => F.ok sc_l_signs (fun vs H Q E h => ?_) (fun cdv A outer s H vs Q E hr h => ?_)
  · obtain ⟨c, rfl, _⟩ := h
    rfl
  · obtain ⟨c, rfl, q⟩ := h
    refine ⟨_, (pss_cons (ps_set (i := 1) sc_l_signs.nd rfl (Or.inr rfl) pe_str)
      (pss_cons (ps_set (i := 2) sc_l_signs.nd rfl (Or.inl rfl) (pe_ix ix_list (pe_lst (pa_cons pe_int (pa_cons pe_int (pa_cons pe_int (pa_cons pe_int (pa_cons pe_int (pa_cons pe_int (pa_cons pe_int (pa_cons pe_int pa_nil))))))))) (pe_op op_mod (pe_op op_fdiv (pe_cal c__law_mixed hr (by decide) pass0 (pa_cons (pv 0) (pa_cons pe_int pa_nil))) pe_int) pe_int) (fun _ _ => rfl)))
      (pss_cons (ps_set (i := 3) sc_l_signs.nd rfl (Or.inr rfl) (pe_ix ix_list (pe_lst (pa_cons pe_int (pa_cons pe_int (pa_cons pe_int pa_nil)))) (pe_op op_mod (pe_op op_fdiv (pe_cal c__law_mixed hr (by decide) pass0 (pa_cons (pv 0) (pa_cons pe_int pa_nil))) pe_int) pe_int) (fun _ _ => rfl)))
      (pss_cons (ps_setLc (i := 4) (own := [("_law_k", 5)]) rfl sc_l_signs.nd rfl rfl (sw_true rfl rfl rfl (by decide +kernel)) (pi_range1 (by rfl) B.m_range (pa_cons (pv 2) pa_nil)) (blkOk_by (own := [("_law_k", 5)]) (N := n_l_signs) (sc := defScope s_l_signs) (by decide +kernel)) (fun _ _ _ _ _ => (pg_name (i := 5) sc_l_signs.nd rfl (Or.inl rfl))) (fun _ _ _ _ _ => pts_nil) (fun _ _ _ _ _ => (pe_ix ix_T (pv 1) (pe_op op_mod (pe_op op_add (pe_op op_fdiv (pe_cal c__law_mixed hr (by decide) pass0 (pa_cons (pv 0) (pa_cons pe_int pa_nil))) pe_int) (pe_op op_mul (pv 3) (pv 5))) pe_int) (fun _ _ => rfl))))
      (pss_one (ps_ret (pe_joinT pe_str (pe_callB cr_sortedS (by rfl) B.m_sorted (by decide +kernel) (pa_cons (pv 4) pa_nil))))))))), ?_⟩
    -- letters, many
    refine ⟨by decide, fun p1 np1 => ?_⟩
    refine ⟨_, rfl, c, 201, rfl, fun i h0 h1 => ?_⟩
    obtain ⟨d0, d1⟩ := draw7 h0 (by decide : (0 : Int) < 8)
    obtain ⟨v, hv, ha⟩ := at_some (xs := [V.int 1, V.int 2, V.int 2, V.int 3, V.int 2, V.int 4, V.int 5, V.int 26]) d0 d1
    obtain ⟨n, rfl, n1, n2⟩ := pick_many hv
    refine ⟨i, 7, rfl, rfl, ⟨by decide, by decide⟩, _, 8, rfl, rfl, (show (0 : Int) < 8 by decide), p1, _, _, _, rfl, rfl, SqL.of upd_same, ha, ?_⟩
    have s1 : Same H (upd H p1 (.lst [V.int 1, V.int 2, V.int 2, V.int 3, V.int 2, V.int 4, V.int 5, V.int 26])) := same_upd np1
    -- step
    refine ⟨by decide, fun p2 np2 => ?_⟩
    refine ⟨_, rfl, c, 202, rfl, fun i2 g0 g1 => ?_⟩
    obtain ⟨d0, d1⟩ := draw7 g0 (by decide : (0 : Int) < 3)
    obtain ⟨v, hv, ha⟩ := at_some (xs := [V.int 1, V.int 3, V.int 5]) d0 d1
    obtain ⟨st, rfl, t1, t2⟩ := pick_step hv
    refine ⟨i2, 7, rfl, rfl, ⟨by decide, by decide⟩, _, 3, rfl, rfl, (show (0 : Int) < 3 by decide), p2, _, _, _, rfl, rfl, SqL.of upd_same, ha, ?_⟩
    have s2 := s1.trans (same_upd (o := .lst [V.int 1, V.int 3, V.int 5]) np2)
    -- found
    refine ⟨_, rfl, _, rfl, by omega, by omega, fun Dl hD => ?_⟩
    refine lc_it walk_range (LcP _ Dl Ones) (lcp_start hD Ones.nil) (fun _ _ _ _ => trivial) ?_ ?_
    · rintro i x H2 H2' hi ⟨_, acc, e, hD2, hlen, ho⟩ ⟨rfl, rfl⟩
      have hi : i < n := hi
      refine ⟨rfl, keepAll ?_⟩
      refine ⟨_, rfl, _, rfl, c, 203, rfl, fun i3 k0 k1 => ?_⟩
      obtain ⟨d0, d1⟩ : 0 ≤ (i3 / 7 + st * ((0 : Int) + (i : Int))) % 26 ∧ (i3 / 7 + st * ((0 : Int) + (i : Int))) % 26 < 26 := ⟨Int.emod_nonneg _ (by decide), Int.emod_lt_of_pos _ (by decide)⟩
      obtain ⟨a, ha, hat⟩ := at_some (xs := abc) d0 d1
      refine ⟨i3, 7, rfl, rfl, ⟨by decide, by decide⟩, _, rfl, _, rfl, _, _, rfl, rfl, .inl ⟨by omega, by omega⟩, _, _, rfl, rfl, _, 26, rfl, rfl, (show (0 : Int) < 26 by decide), abc, _, a, ?_, rfl, by decide, hat, ?_⟩
      · rw [abc_is]
      · exact lcp_put hD e hD2 hlen (by omega) (Same.refl _) (ho.snoc (abc_sg a ha).1 (abc_sg a ha).2)
    · rintro H2 ⟨_, acc, e, hD2, _, ls, rfl, hl, ho⟩
      refine ⟨⟨_, rfl⟩, _, rfl, Dl, ls.map T, rfl, SqL.of (by rw [hD2, List.map_map]; rfl), by rw [List.length_map]; omega, fun ys p3 hp _ np3 => ?_⟩
      obtain ⟨ls', e1, e2, e3⟩ := sorted_one hp ho
      obtain ⟨f1, f2⟩ := flat_one e3
      refine ⟨p3, ls', rfl, rfl, SqL.of (by rw [upd_same, e1]), by omega, ?_⟩
      exact q _ _ ((s2.trans e).trans (same_upd np3)) (by omega) (by omega) f2
end
end Rk
namespace Rk
open PySem PySem.Spec PyProof.Rows L2 Rw
abbrev s_l_drawn : Stmt := topS 23
abbrev n_l_drawn : List Str := ["_law_cell", "_law_signs_here", "_law_many", "_law_k"]
abbrev p_l_drawn : List Str := ["_law_cell", "_law_signs_here", "_law_many"]
theorem sc_l_drawn : FnScope n_l_drawn p_l_drawn (defScope s_l_drawn) := ⟨rfl, rfl, rfl, by decide +kernel, rfl, by decide +kernel, by decide +kernel⟩
abbrev s_l_woven : Stmt := topS 24
abbrev n_l_woven : List Str := ["_law_signs_here", "_law_many", "_law_one", "_law_other"]
abbrev p_l_woven : List Str := ["_law_signs_here", "_law_many"]
theorem sc_l_woven : FnScope n_l_woven p_l_woven (defScope s_l_woven) := ⟨rfl, rfl, rfl, by decide +kernel, rfl, by decide +kernel, by decide +kernel⟩
section
variable {P : Program} {w : World} {K : PySem.W.Frag} {mg : Str → Option Value} {base : Heap} (B : Bt mg)
include B
theorem ok_drawn (D : Dfn K mg "_law_drawn" s_l_drawn p_l_drawn) (c__law_mixed : Cal CX0 P w K mg base 1 "_law_mixed" spMixed) : Cal CX0 P w K mg base 2 "_law_drawn" spDrawn := by
  refine D.cal fun f fd F => F.ok sc_l_drawn (fun vs H Q E h => ?_) (fun cdv A outer s H vs Q E hr h => ?_)
  · obtain ⟨c, s, n, rfl, _⟩ := h
    rfl
  · obtain ⟨c, s, n, rfl, s1, s2, sg, hn, q⟩ := h
    refine ⟨_, (pss_one (ps_ret (pe_joinT pe_str (pe_lc (own := [("_law_k", 3)]) rfl sc_l_drawn.nd (pi_range1 (by rfl) B.m_range (pa_cons (pv 2) pa_nil)) (blkOk_by (own := [("_law_k", 3)]) (N := n_l_drawn) (sc := defScope s_l_drawn) (by decide +kernel)) (fun _ _ _ _ _ => (pg_name (i := 3) sc_l_drawn.nd rfl (Or.inl rfl))) (fun _ _ _ _ _ => pts_nil) (fun _ _ _ _ _ => (pe_ix ix_T (pv 1) (pe_op op_mod (pe_op op_fdiv (pe_cal c__law_mixed hr (by decide) pass0 (pa_cons (pv 0) (pa_cons (pe_op op_add pe_int (pv 3)) pa_nil))) pe_int) (pe_callB call_lenT (by rfl) B.m_len PySem.boot_len (pa_cons (pv 1) pa_nil))) (fun _ _ => rfl))))))), ?_⟩
    refine ⟨⟨_, rfl⟩, _, rfl, _, rfl, by omega, by omega, fun Dl hD => ?_⟩
    refine lc_it walk_range (LcP _ Dl Ones) (lcp_start hD Ones.nil) (fun _ _ _ _ => trivial) ?_ ?_
    · rintro i x H2 H2' hi ⟨_, acc, e, hD2, hlen, ho⟩ ⟨rfl, rfl⟩
      have hi : i < n := hi
      refine ⟨rfl, keepAll ?_⟩
      refine ⟨_, rfl, _, rfl, _, rfl, _, _, rfl, rfl, c, _, rfl, fun i3 k0 k1 => ?_⟩
      have h1 : (0 : Int) < (s.length : Nat) := by omega
      obtain ⟨d0, d1⟩ := draw7 k0 h1
      obtain ⟨a, ha, hat⟩ := at_some d0 d1
      refine ⟨i3, 7, rfl, rfl, ⟨by decide, by decide⟩, _, rfl, s, rfl, by omega, _, _, rfl, rfl, h1, s, _, a, rfl, rfl, by omega, hat, ?_⟩
      exact lcp_put hD e hD2 hlen (by omega) (Same.refl _) (ho.snoc (sg a ha).1 (sg a ha).2)
    · rintro H2 ⟨_, acc, e, hD2, _, ls, rfl, hl, ho⟩
      obtain ⟨f1, f2⟩ := flat_one ho
      have hl : ls.length = n := hl
      exact ⟨Dl, ls, rfl, rfl, SqL.of hD2, by omega, q _ _ e (by omega) f2⟩
theorem ok_woven (D : Dfn K mg "_law_woven" s_l_woven p_l_woven) : Cal CX0 P w K mg base 1 "_law_woven" spWoven := by
  refine D.cal fun f fd F => F.ok sc_l_woven (fun vs H Q E h => ?_) (fun cdv A outer s H vs Q E hr h => ?_)
  · obtain ⟨s, n, rfl, _⟩ := h
    rfl
  · obtain ⟨s, n, rfl, s1, s2, sg, hn1, hn2, q⟩ := h
    refine ⟨_, (pss_cons (ps_par (i := 2) (j := 3) rfl sc_l_woven.nd rfl rfl (by decide) rfl rfl (pa_cons (pe_ix ix_T (pv 0) pe_int (fun _ _ => rfl)) (pa_cons (pe_op op_addT (pe_ix ix_T (pv 0) (pe_un un_neg pe_int) (fun _ _ => rfl)) (pe_ix ix_T (pv 0) pe_int (fun _ _ => rfl))) pa_nil)) (by rfl))
      (pss_cons (ps_while PassesOwn.never (pt_cmpR op_lt (pe_callB call_lenT (by rfl) B.m_len PySem.boot_len (pa_cons (pv 3) pa_nil)) (pv 1) (nomark _)) (pss_one (ps_par (i := 2) (j := 3) rfl sc_l_woven.nd rfl rfl (by decide) rfl rfl (pa_cons (pv 3) (pa_cons (pe_op op_addT (pv 3) (pv 2)) pa_nil)) (by rfl))))
      (pss_one (ps_ret (pe_slice sl_T (pv 3) po_none (po_some (pv 1))))))), ?_⟩
    obtain ⟨a, ha, hat⟩ := at_some (xs := s) (j := 0) (by decide) (by omega)
    obtain ⟨b, hb, hbt⟩ := at_neg1 (xs := s) s1
    refine ⟨_, rfl, s, 0, a, rfl, rfl, by omega, hat, ?_⟩
    refine ⟨_, rfl, 1, rfl, s, -1, b, rfl, rfl, by omega, hbt, ?_⟩
    refine ⟨_, rfl, s, 0, a, rfl, rfl, by omega, hat, [b], [a], rfl, rfl, (show 2 ≤ 100000 by decide), tv [a], tv [b, a], rfl, ?_⟩
    refine ⟨fun m σ H' => H' = H ∧ ∃ x y : List Nat, σ = [some (tv s), some (.int (n : Nat)), some (tv x), some (tv y)] ∧ 1 ≤ x.length ∧ x.length ≤ y.length ∧ y.length ≤ 2 * n + 2 ∧ Sg x ∧ Sg y ∧ m = 2 * n + 2 - y.length,
      ⟨_, rfl, [a], [b, a], rfl, Nat.le_refl 1, (show 1 ≤ 2 by decide), (show 2 ≤ 2 * n + 2 by omega), ?_, ?_, rfl⟩, ?_⟩
    · intro c hc
      have : c = a := by simpa using hc
      subst this
      exact sg _ ha
    · intro c hc
      have : c = b ∨ c = a := by simpa using hc
      rcases this with rfl | rfl
      · exact sg _ hb
      · exact sg _ ha
    · rintro m σ H' ⟨rfl, x, y, rfl, x1, xy, y2, gx, gy, rfl⟩
      refine ⟨_, rfl, y, rfl, by omega, _, rfl, _, _, rfl, rfl, _, rfl, ite2 (fun h => ?_) (fun h => ?_)⟩
      · have h := of_decide_eq_true h
        refine ⟨fun σ' H2 => H2 = H' ∧ σ' = [some (tv s), some (.int (n : Nat)), some (tv y), some (tv (y ++ x))], ?_, ?_⟩
        · rintro σ' H2 ⟨rfl, rfl⟩
          refine ⟨_, ?_, rfl, y, y ++ x, rfl, by omega, by simp, by rw [List.length_append]; omega, gy, gy.app gx, rfl⟩
          rw [List.length_append]
          omega
        · refine ⟨_, rfl, _, rfl, _, rfl, y, x, rfl, rfl, by omega, tv y, tv (y ++ x), rfl, rfl, rfl⟩
      · have h : ¬ ((y.length : Nat) : Int) < (n : Nat) := by simpa using h
        refine ⟨_, rfl, _, rfl, _, rfl, y, rfl, by omega, ?_⟩
        rw [cutL_to]
        refine q _ _ (Same.refl _) ?_ ?_ (gy.sub fun c hc => List.mem_of_mem_take hc)
        · rw [List.length_take]; omega
        · rw [List.length_take]; omega
end
end Rk
namespace Rk
open PySem PySem.Spec PyProof.Rows L2 Rw
abbrev s_l_word : Stmt := topS 25
abbrev n_l_word : List Str := ["_law_cell", "_law_most", "_law_signs_here", "_law_many", "_law_base", "_law_again", "_law_at", "_law_way"]
abbrev p_l_word : List Str := ["_law_cell", "_law_most"]
theorem sc_l_word : FnScope n_l_word p_l_word (defScope s_l_word) := ⟨rfl, rfl, rfl, by decide +kernel, rfl, by decide +kernel, by decide +kernel⟩
theorem wd_of {l : List Nat} {n : Nat} (h1 : 1 ≤ l.length) (h2 : l.length ≤ n) (hn : n ≤ 300) (g : Sg l) : Wd l := ⟨h1, by omega, g⟩
theorem rep_len (l : List Nat) (k : Nat) : (List.replicate k l).flatten.length = k * l.length := by simp
theorem rep_sg {l : List Nat} (k : Nat) (g : Sg l) : Sg (List.replicate k l).flatten := fun c hc => by
  obtain ⟨x, hx, hc⟩ := List.mem_flatten.mp hc
  rw [(List.mem_replicate.mp hx).2] at hc
  exact g c hc
section
variable {P : Program} {w : World} {K : PySem.W.Frag} {mg : Str → Option Value} {base : Heap} (B : Bt mg)
include B
theorem ok_word (D : Dfn K mg "_law_word" s_l_word p_l_word) (c__law_mixed : Cal CX0 P w K mg base 1 "_law_mixed" spMixed) (c__law_signs : Cal CX0 P w K mg base 2 "_law_signs" spSigns)
    (c__law_drawn : Cal CX0 P w K mg base 2 "_law_drawn" spDrawn) (c__law_woven : Cal CX0 P w K mg base 1 "_law_woven" spWoven) : Cal CX0 P w K mg base 3 "_law_word" spWord := by
  refine D.cal fun f fd F => F.ok sc_l_word (fun vs H Q E h => ?_) (fun cdv A outer s H vs Q E hr h => ?_)
  · obtain ⟨c, n, rfl, _⟩ := h
    rfl
  · obtain ⟨c, most, rfl, m1, m2, q⟩ := h
    refine ⟨_, (pss_cons (ps_set (i := 2) sc_l_word.nd rfl (Or.inl rfl) (pe_cal c__law_signs hr (by decide) pass0 (pa_cons (pv 0) pa_nil)))
      (pss_cons (ps_set (i := 3) sc_l_word.nd rfl (Or.inl rfl) (pe_op op_add pe_int (pe_op op_mod (pe_op op_fdiv (pe_cal c__law_mixed hr (by decide) pass0 (pa_cons (pv 0) (pa_cons pe_int pa_nil))) pe_int) (pv 1))))
      (pss_cons (ps_set (i := 4) sc_l_word.nd rfl (Or.inl rfl) (pe_cal c__law_drawn hr (by decide) pass0 (pa_cons (pv 0) (pa_cons (pv 2) (pa_cons (pe_op op_add pe_int (pe_op op_mod (pe_op op_fdiv (pe_cal c__law_mixed hr (by decide) pass0 (pa_cons (pv 0) (pa_cons pe_int pa_nil))) pe_int) (pe_callB (call_min2 rfl) (by rfl) B.m_min (by decide +kernel) (pa_cons (pv 3) (pa_cons pe_int pa_nil))))) pa_nil)))))
      (pss_cons (ps_set (i := 5) sc_l_word.nd rfl (Or.inl rfl) (pe_slice sl_T (pe_op op_rep_str (pv 4) (pv 3)) po_none (po_some (pv 3))))
      (pss_cons (ps_set (i := 6) sc_l_word.nd rfl (Or.inl rfl) (pe_op op_mod (pe_op op_fdiv (pe_cal c__law_mixed hr (by decide) pass0 (pa_cons (pv 0) (pa_cons pe_int pa_nil))) pe_int) (pv 3)))
      (pss_cons (ps_set (i := 7) sc_l_word.nd rfl (Or.inl rfl) (pe_op op_mod (pe_op op_fdiv (pe_cal c__law_mixed hr (by decide) pass0 (pa_cons (pv 0) (pa_cons pe_int pa_nil))) pe_int) pe_int))
      (pss_cons (ps_if (pt_cmpR op_eq (pv 7) pe_int (nomark _)) (pss_one (ps_ret (pv 5))) pss_nil)
      (pss_cons (ps_if (pt_cmpR op_eq (pv 7) pe_int (nomark _)) (pss_one (ps_ret (pe_op op_rep_str (pv 4) (pe_callB (call_max2 rfl) (by rfl) B.m_max (by decide +kernel) (pa_cons pe_int (pa_cons (pe_op op_fdiv (pv 3) (pe_callB call_lenT (by rfl) B.m_len PySem.boot_len (pa_cons (pv 4) pa_nil))) pa_nil)))))) pss_nil)
      (pss_cons (ps_if (pt_cmpR op_eq (pv 7) pe_int (nomark _)) (pss_one (ps_ret (pe_op op_rep_str (pe_ix ix_T (pv 2) (pe_un un_neg pe_int) (fun _ _ => rfl)) (pv 3)))) pss_nil)
      (pss_cons (ps_if (pt_cmpR op_eq (pv 7) pe_int (nomark _)) (pss_one (ps_ret (pe_cal c__law_woven hr (by decide) pass0 (pa_cons (pv 2) (pa_cons (pv 3) pa_nil))))) pss_nil)
      (pss_cons (ps_if (pt_cmpR op_eq (pv 7) pe_int (nomark _)) (pss_one (ps_ret (pe_op op_addT (pe_op op_addT (pe_slice sl_T (pv 5) po_none (po_some (pv 6))) (pe_ix ix_T (pv 2) (pe_op op_mod (pe_op op_fdiv (pe_cal c__law_mixed hr (by decide) pass0 (pa_cons (pv 0) (pa_cons pe_int pa_nil))) pe_int) (pe_callB call_lenT (by rfl) B.m_len PySem.boot_len (pa_cons (pv 2) pa_nil))) (fun _ _ => rfl))) (pe_slice sl_T (pv 5) (po_some (pe_op op_add (pv 6) pe_int)) po_none)))) pss_nil)
      (pss_cons (ps_if (pt_cmpR op_eq (pv 7) pe_int (nomark _)) (pss_one (ps_ret (pe_joinT pe_str (pe_callB (cr_sortedT rfl) (by rfl) B.m_sorted (by decide +kernel) (pa_cons (pe_cal c__law_drawn hr (by decide) pass0 (pa_cons (pv 0) (pa_cons (pv 2) (pa_cons (pv 3) pa_nil)))) pa_nil))))) pss_nil)
      (pss_cons (ps_if (pt_cmpR op_eq (pv 7) pe_int (nomark _)) (pss_one (ps_ret (pe_revS (pe_joinT pe_str (pe_callB (cr_sortedT rfl) (by rfl) B.m_sorted (by decide +kernel) (pa_cons (pe_cal c__law_drawn hr (by decide) pass0 (pa_cons (pv 0) (pa_cons (pv 2) (pa_cons (pv 3) pa_nil)))) pa_nil)))))) pss_nil)
      (pss_one (ps_ret (pe_cal c__law_drawn hr (by decide) pass0 (pa_cons (pv 0) (pa_cons (pv 2) (pa_cons (pv 3) pa_nil))))))))))))))))))), ?_⟩
    refine ⟨_, rfl, c, rfl, fun s H1 e1 s1 s2 sg => ?_⟩
    -- many
    refine ⟨_, rfl, c, 1, rfl, fun i h0 h1 => ?_⟩
    have hm : (0 : Int) < (most : Nat) := by omega
    obtain ⟨d0, d1⟩ := draw7 h0 hm
    obtain ⟨n, hn, n1, n2⟩ : ∃ n : Nat, 1 + i / 7 % (most : Nat) = (n : Int) ∧ 1 ≤ n ∧ n ≤ most := ⟨(1 + i / 7 % (most : Nat)).toNat, by omega, by omega, by omega⟩
    refine ⟨i, 7, rfl, rfl, ⟨by decide, by decide⟩, _, rfl, _, _, rfl, rfl, hm, 1, _, rfl, rfl, ?_⟩
    dsimp only
    rw [hn]
    -- base
    refine ⟨_, rfl, _, rfl, _, rfl, c, 2, rfl, fun i2 h0 h1 => ?_⟩
    refine ⟨i2, 7, rfl, rfl, ⟨by decide, by decide⟩, _, rfl, (n : Int), 7, rfl, ?_⟩
    obtain ⟨mn, hmn, mn1, mn2⟩ : ∃ mn : Int, (if (7 : Int) < (n : Int) then (7 : Int) else (n : Int)) = mn ∧ 1 ≤ mn ∧ mn ≤ n := by
      by_cases g : (7 : Int) < (n : Int)
      · exact ⟨7, if_pos g, by decide, by omega⟩
      · exact ⟨n, if_neg g, by omega, by omega⟩
    dsimp only
    rw [hmn]
    have hm2 : (0 : Int) < mn := by omega
    obtain ⟨d0, d1⟩ := draw7 h0 hm2
    obtain ⟨nb, hnb, nb1, nb2⟩ : ∃ nb : Nat, 1 + i2 / 7 % mn = (nb : Int) ∧ 1 ≤ nb ∧ nb ≤ n := ⟨(1 + i2 / 7 % mn).toNat, by omega, by omega, by omega⟩
    refine ⟨_, mn, rfl, rfl, hm2, 1, _, rfl, rfl, ?_⟩
    dsimp only
    rw [hnb]
    refine ⟨c, s, nb, rfl, s1, s2, sg, by omega, fun bs H2 e2 lb gb => ?_⟩
    -- again
    have hrep : bs.length * n ≤ 100000 := by
      rw [lb]
      have : nb * n ≤ 300 * 300 := Nat.mul_le_mul (by omega) (by omega)
      omega
    refine ⟨_, rfl, _, rfl, bs, n, rfl, rfl, by omega, by omega, by simpa using hrep, _, rfl, _, rfl, _, rfl, by rw [rep_len, Nat.mul_comm]; simpa using hrep, ?_⟩
    dsimp only
    rw [cutL_to, Int.toNat_natCast]
    have la : ((List.replicate n bs).flatten.take n).length = n := by
      rw [List.length_take, rep_len, lb]
      have : n * 1 ≤ n * nb := Nat.mul_le_mul_left n nb1
      omega
    have ga : Sg ((List.replicate n bs).flatten.take n) := (rep_sg n gb).sub fun c hc => List.mem_of_mem_take hc
    generalize (List.replicate n bs).flatten.take n = ag at la ga ⊢
    -- at
    refine ⟨_, rfl, c, 3, rfl, fun i3 h0 h1 => ?_⟩
    have hn0 : (0 : Int) < (n : Nat) := by omega
    obtain ⟨d0, d1⟩ := draw7 h0 hn0
    obtain ⟨at_, hat, at1⟩ : ∃ k : Nat, i3 / 7 % (n : Nat) = (k : Int) ∧ k < n := ⟨(i3 / 7 % (n : Nat)).toNat, by omega, by omega⟩
    refine ⟨i3, 7, rfl, rfl, ⟨by decide, by decide⟩, _, rfl, _, _, rfl, rfl, hn0, ?_⟩
    dsimp only
    rw [hat]
    -- way
    refine ⟨_, rfl, c, 4, rfl, fun i4 h0 h1 => ?_⟩
    refine ⟨i4, 7, rfl, rfl, ⟨by decide, by decide⟩, _, _, rfl, rfl, (show (0 : Int) < 9 by decide), ?_⟩
    generalize i4 / 7 % 9 = way
    have e12 := e1.trans e2
    -- 0
    refine ⟨_, rfl, rfl, _, rfl, ite2 (fun _ => ?_) (fun _ => ?_)⟩
    · exact ⟨_, rfl, q ag H2 e12 (wd_of (by omega) (by omega) m2 ga) (by omega)⟩
    -- 1
    refine ⟨_, rfl, rfl, _, rfl, ite2 (fun _ => ?_) (fun _ => ?_)⟩
    · have hlb : (0 : Int) < (bs.length : Nat) := by omega
      refine ⟨_, rfl, _, rfl, _, rfl, bs, rfl, by omega, _, _, rfl, rfl, ⟨hlb, by omega⟩, 1, _, rfl, ?_⟩
      obtain ⟨k, hk, k1, k2⟩ : ∃ k : Nat, (if ((n : Nat) : Int) / ((bs.length : Nat) : Int) > 1 then ((n : Nat) : Int) / ((bs.length : Nat) : Int) else (1 : Int)) = (k : Int) ∧ 1 ≤ k ∧ bs.length * k ≤ n := by
        by_cases g : ((n : Nat) : Int) / ((bs.length : Nat) : Int) > 1
        · refine ⟨n / bs.length, by rw [if_pos g]; exact (Int.natCast_ediv n bs.length).symm, ?_, Nat.mul_div_le n bs.length⟩
          have : ((n / bs.length : Nat) : Int) = (n : Int) / (bs.length : Int) := Int.natCast_ediv n bs.length
          omega
        · exact ⟨1, if_neg g, Nat.le_refl 1, by omega⟩
      dsimp only
      rw [hk]
      have k3 : k ≤ bs.length * k := Nat.le_mul_of_pos_left k (by omega)
      refine ⟨bs, k, rfl, rfl, by omega, by omega, by simpa using (by omega : bs.length * k ≤ 100000), ?_⟩
      have ll := rep_len bs k
      rw [Nat.mul_comm] at ll
      exact q _ H2 e12 (wd_of (by rw [Int.toNat_natCast, ll]; omega) (by rw [Int.toNat_natCast, ll]; omega) m2 (rep_sg _ gb)) (by rw [Int.toNat_natCast, ll]; omega)
    -- 2
    refine ⟨_, rfl, rfl, _, rfl, ite2 (fun _ => ?_) (fun _ => ?_)⟩
    · obtain ⟨z, hz, hzt⟩ := at_neg1 (xs := s) s1
      refine ⟨_, rfl, 1, rfl, s, -1, z, rfl, rfl, by omega, hzt, _, rfl, [z], n, rfl, rfl, by omega, by omega, by show 1 * (n : Int).toNat ≤ _; omega, ?_⟩
      have ll := rep_len [z] n
      have gz : Sg [z] := sg.sub fun c hc => by
        have : c = z := by simpa using hc
        rw [this]
        exact hz
      have l1 : ([z] : List Nat).length = 1 := rfl
      rw [l1, Nat.mul_one] at ll
      exact q _ H2 e12 (wd_of (by rw [Int.toNat_natCast, ll]; omega) (by rw [Int.toNat_natCast, ll]; exact n2) m2 (rep_sg _ gz)) (by rw [Int.toNat_natCast, ll]; exact n2)
    -- 3
    refine ⟨_, rfl, rfl, _, rfl, ite2 (fun _ => ?_) (fun _ => ?_)⟩
    · refine ⟨_, rfl, _, rfl, s, n, rfl, s1, s2, sg, n1, by omega, fun l H3 e3 l1 l2 gl => ?_⟩
      exact q l H3 (e12.trans e3) (wd_of l1 l2 (by omega) gl) (by omega)
    -- 4
    refine ⟨_, rfl, rfl, _, rfl, ite2 (fun _ => ?_) (fun _ => ?_)⟩
    · refine ⟨_, rfl, _, rfl, _, rfl, ag, rfl, by omega, ?_⟩
      have hs0 : (0 : Int) < (s.length : Nat) := by omega
      refine ⟨_, rfl, _, rfl, c, 5, rfl, fun i5 h0 h1 => ?_⟩
      obtain ⟨d0, d1⟩ := draw7 h0 hs0
      obtain ⟨z, hz, hzt⟩ := at_some (xs := s) d0 d1
      have a1 := cutL_len ag none (some (at_ : Int))
      have a2 := cutL_len ag (some ((at_ : Int) + 1)) none
      refine ⟨i5, 7, rfl, rfl, ⟨by decide, by decide⟩, _, rfl, s, rfl, by omega, _, _, rfl, rfl, hs0, s, _, z, rfl, rfl, by omega, hzt, _, [z], rfl, rfl, ?_, ?_⟩
      · show _ + 1 ≤ _
        omega
      refine ⟨_, rfl, _, rfl, _, 1, rfl, rfl, _, rfl, ag, rfl, by omega, _, _, rfl, rfl, ?_, ?_⟩
      · rw [List.length_append]
        show _ + 1 + _ ≤ _
        omega
      · have e : (at_ : Int) + 1 = ((at_ + 1 : Nat) : Int) := by omega
        rw [e, cutL_to, cutL_from]
        have ln : (ag.take at_ ++ [z] ++ ag.drop (at_ + 1)).length = n := by
          simp only [List.length_append, List.length_take, List.length_drop, List.length_singleton]
          omega
        refine q _ H2 e12 (wd_of (by omega) (by omega) m2 ?_) (by omega)
        refine Sg.app (Sg.app (ga.sub fun c hc => List.mem_of_mem_take hc) (sg.sub fun c hc => ?_)) (ga.sub fun c hc => List.mem_of_mem_drop hc)
        have : c = z := by simpa using hc
        rw [this]
        exact hz
    -- 5
    refine ⟨_, rfl, rfl, _, rfl, ite2 (fun _ => ?_) (fun _ => ?_)⟩
    · refine ⟨⟨_, rfl⟩, _, rfl, _, rfl, _, rfl, c, s, n, rfl, s1, s2, sg, by omega, fun l H3 e3 l1 gl => ⟨l, rfl, by omega, fun ys p hp np => ?_⟩⟩
      obtain ⟨ls, f1, f2, f3⟩ := sorted_one (ys := ys) (ls := l.map fun c => [c]) (by rw [List.map_map]; exact hp) (signs_one l gl)
      obtain ⟨g1, g2⟩ := flat_one f3
      rw [List.length_map] at f2
      refine ⟨p, ls, rfl, rfl, SqL.of (by rw [upd_same, f1]), by omega, ?_⟩
      exact q _ _ ((e12.trans e3).trans (same_upd np)) (wd_of (by omega) (by omega) m2 g2) (by omega)
    -- 6
    refine ⟨_, rfl, rfl, _, rfl, ite2 (fun _ => ?_) (fun _ => ?_)⟩
    · refine ⟨⟨_, rfl⟩, _, rfl, _, rfl, _, rfl, c, s, n, rfl, s1, s2, sg, by omega, fun l H3 e3 l1 gl => ⟨l, rfl, by omega, fun ys p hp np => ?_⟩⟩
      obtain ⟨ls, f1, f2, f3⟩ := sorted_one (ys := ys) (ls := l.map fun c => [c]) (by rw [List.map_map]; exact hp) (signs_one l gl)
      obtain ⟨g1, g2⟩ := flat_one f3
      rw [List.length_map] at f2
      refine ⟨p, ls, rfl, rfl, SqL.of (by rw [upd_same, f1]), by omega, ls.flatten, rfl, by omega, ?_⟩
      exact q _ _ ((e12.trans e3).trans (same_upd np)) (wd_of (by rw [List.length_reverse]; omega) (by rw [List.length_reverse]; omega) m2 (g2.sub fun c hc => List.mem_reverse.mp hc)) (by rw [List.length_reverse]; omega)
    -- else
    refine ⟨_, rfl, _, rfl, _, rfl, c, s, n, rfl, s1, s2, sg, by omega, fun l H3 e3 l1 gl => ?_⟩
    exact q l H3 (e12.trans e3) (wd_of (by omega) (by omega) m2 gl) (by omega)
end
end Rk
namespace Rk
open PySem PySem.Spec PyProof.Rows L2 Rw
abbrev s_l_turnings : Stmt := topS 26
abbrev n_l_turnings : List Str := ["_law_word_here", "_law_k"]
abbrev p_l_turnings : List Str := ["_law_word_here"]
theorem sc_l_turnings : FnScope n_l_turnings p_l_turnings (defScope s_l_turnings) := ⟨rfl, rfl, rfl, by decide +kernel, rfl, by decide +kernel, by decide +kernel⟩
section
variable {P : Program} {w : World} {K : PySem.W.Frag} {mg : Str → Option Value} {base : Heap} (B : Bt mg)
include B
theorem ok_lturnings (D : Dfn K mg "_law_turnings" s_l_turnings p_l_turnings) : Cal CX0 P w K mg base 1 "_law_turnings" spLTurnings := by
  refine D.cal fun f fd F => F.ok sc_l_turnings (fun vs H Q E h => ?_) (fun cdv A outer s H vs Q E hr h => ?_)
  · obtain ⟨l, rfl, _⟩ := h
    rfl
  · obtain ⟨l, rfl, hn, q⟩ := h
    refine ⟨_, (pss_one (ps_ret (pe_lc (own := [("_law_k", 1)]) rfl sc_l_turnings.nd (pi_range1 (by rfl) B.m_range (pa_cons (pe_callB call_lenT (by rfl) B.m_len PySem.boot_len (pa_cons (pv 0) pa_nil)) pa_nil)) (blkOk_by (own := [("_law_k", 1)]) (N := n_l_turnings) (sc := defScope s_l_turnings) (by decide +kernel)) (fun _ _ _ _ _ => (pg_name (i := 1) sc_l_turnings.nd rfl (Or.inl rfl))) (fun _ _ _ _ _ => pts_nil) (fun _ _ _ _ _ => (pe_op op_addT (pe_slice sl_T (pv 0) (po_some (pv 1)) po_none) (pe_slice sl_T (pv 0) po_none (po_some (pv 1)))))))), ?_⟩
    refine ⟨_, rfl, l, rfl, by omega, _, rfl, by omega, by omega, fun Dl hD => ?_⟩
    refine lc_it walk_range (LcP H Dl fun i acc => acc = tvs ((List.range i).map (turn l))) (lcp_start hD rfl) (fun _ _ _ _ => trivial) ?_ ?_
    · rintro i x H2 H2' hi ⟨_, acc, e, hD2, hlen, rfl⟩ ⟨rfl, rfl⟩
      have hi : i < l.length := hi
      refine ⟨rfl, keepAll ?_⟩
      refine ⟨_, rfl, _, rfl, _, rfl, l, rfl, by omega, _, rfl, _, rfl, _, rfl, l, rfl, by omega, _, _, rfl, rfl, cut_le l _ hn, ?_⟩
      refine lcp_put hD e hD2 hlen (by omega) (Same.refl _) ?_
      rw [turn_step, cut_turn]
    · rintro H2 ⟨_, acc, e, hD2, _, rfl⟩
      exact q Dl H2 hD e hD2
end
end Rk
namespace Rk
open PySem PySem.Spec PyProof.Rows L2 Rw
abbrev s_l_early : Stmt := topS 27
abbrev n_l_early : List Str := ["_law_word_here", "_law_one"]
abbrev p_l_early : List Str := ["_law_word_here"]
theorem sc_l_early : FnScope n_l_early p_l_early (defScope s_l_early) := ⟨rfl, rfl, rfl, by decide +kernel, rfl, by decide +kernel, by decide +kernel⟩
theorem early_filter (l : List Nat) : decide ((turns l).tail.filter (fun o => !decide (l < o)) = []) = early l := by
  unfold early
  rw [Bool.eq_iff_iff, decide_eq_true_eq, List.filter_eq_nil_iff, List.all_eq_true]
  constructor
  · intro h o ho
    have := h o ho
    simpa using this
  · intro h o ho
    have := h o ho
    simpa using this
section
variable {P : Program} {w : World} {K : PySem.W.Frag} {mg : Str → Option Value} {base : Heap} (B : Bt mg)
include B
theorem ok_learly (D : Dfn K mg "_law_early" s_l_early p_l_early) (c__law_turnings : Cal CX0 P w K mg base 1 "_law_turnings" spLTurnings) : Cal CX0 P w K mg base 2 "_law_early" spLEarly := by
  refine D.cal fun f fd F => F.ok sc_l_early (fun vs H Q E h => ?_) (fun cdv A outer s H vs Q E hr h => ?_)
  · obtain ⟨l, rfl, _⟩ := h
    rfl
  · obtain ⟨l, rfl, hn, ho, q⟩ := h
    refine ⟨_, (pss_one (ps_ret (pe_cmpR (op_eqL hr.units) (pe_lc (own := [("_law_one", 1)]) rfl sc_l_early.nd (pi_list (pe_slice sl_list (pe_cal c__law_turnings hr (by decide) pass0 (pa_cons (pv 0) pa_nil)) (po_some pe_int) po_none)) (blkOk_by (own := [("_law_one", 1)]) (N := n_l_early) (sc := defScope s_l_early) (by decide +kernel)) (fun _ _ _ _ _ => (pg_name (i := 1) sc_l_early.nd rfl (Or.inl rfl))) (fun _ _ _ _ _ => (pts_one (pt_cmpR op_leT (pv 1) (pv 0) (nomark _)))) (fun _ _ _ _ _ => (pv 1))) (pe_lst pa_nil) (nomark _)))), ?_⟩
    refine ⟨_, rfl, l, rfl, hn, fun p H1 np e1 hp => ?_⟩
    refine ⟨1, rfl, p, tvs (turns l), rfl, SqL.of hp, fun p2 np2 => ?_⟩
    rw [turns_tail]
    have e2 := same_upd (o := .lst (tvs (turns l).tail)) np2
    refine ⟨p2, rfl, ⟨_, SqL.of upd_same⟩, fun Dl hD => ?_⟩
    have tl : (turns l).tail.length ≤ 1000 := by
      rw [List.length_tail, turns_len]
      omega
    refine lc_it walk_list (LcP _ Dl fun i acc => acc = tvs (((turns l).tail.take i).filter fun o => !decide (l < o))) (lcp_start hD rfl) (fun i H3 _ ⟨_, acc, e, _, _, _⟩ => SqL.of (e _ _ upd_same)) ?_ ?_
    · rintro i x H2 H2' hi ⟨_, acc, e, hD2, hlen, rfl⟩ ⟨rfl, hx⟩
      rw [List.length_map] at hi
      obtain ⟨z, hz⟩ : ∃ z, (turns l).tail[i]? = some z := ⟨_, List.getElem?_eq_getElem hi⟩
      rw [List.getElem?_map, hz] at hx
      have ex : tv z = x := Option.some.inj hx
      subst ex
      refine ⟨rfl, ?_⟩
      refine ⟨_, rfl, _, rfl, z, l, rfl, rfl, _, rfl, ?_⟩
      have step : ((turns l).tail.take (i + 1)).filter (fun o => !decide (l < o)) = ((turns l).tail.take i).filter (fun o => !decide (l < o)) ++ (if (!decide (l < z)) = true then [z] else []) := by
        rw [List.take_add_one, hz, List.filter_append]
        congr 1
        cases g : decide (l < z) <;> simp [g]
      cases g : decide (l < z) with
      | true =>
        refine iteF ?_
        refine lcp_skip hD e hD2 hlen (Same.refl _) ?_
        rw [step, g]
        simp
      | false =>
        refine iteT ?_
        refine ⟨_, rfl, ?_⟩
        refine lcp_put hD e hD2 hlen (by omega) (Same.refl _) ?_
        rw [step, g]
        exact (List.map_append (f := tv) (l₂ := [z])).symm
    · rintro H2 ⟨_, acc, e, hD2, _, rfl⟩
      rw [List.take_of_length_le (l := (turns l).tail) (by rw [List.length_map]; exact Nat.le_refl _)] at hD2
      refine ⟨(show 0 ≤ sizeLine by decide), fun p3 np3 => ?_⟩
      have k3 := same_upd (o := .lst []) np3
      refine ⟨Dl, p3, _, [], rfl, rfl, SqL.of (k3 _ _ hD2), SqL.of upd_same, (fun x hx => ?_), (fun x hx => nomatch hx), ?_⟩
      · exact ok_turns ho x (List.mem_of_mem_tail (List.mem_filter.mp hx).1)
      · show Q (.bl (decide _)) _
        rw [early_filter]
        exact q _ (((e1.trans e2).trans e).trans k3)
end
end Rk
namespace Rk
open PySem PySem.Spec PyProof.Rows L2 Rw
abbrev s_l_truth : Stmt := topS 21
abbrev n_l_truth : List Str := ["_law_found", "_law_due"]
abbrev p_l_truth : List Str := ["_law_found", "_law_due"]
theorem sc_l_truth : FnScope n_l_truth p_l_truth (defScope s_l_truth) := ⟨rfl, rfl, rfl, by decide +kernel, rfl, by decide +kernel, by decide +kernel⟩
def spTruth : Sp := fun vs H Q _ => ∃ a b : Bool, vs = [.bl a, .bl b] ∧ Q (.bl (decide (a = b))) H
section
variable {P : Program} {w : World} {K : PySem.W.Frag} {mg : Str → Option Value} {base : Heap} (B : Bt mg)
include B
theorem ok_ltruth (D : Dfn K mg "_law_truth" s_l_truth p_l_truth) : Cal CX0 P w K mg base 1 "_law_truth" spTruth := by
  refine D.cal fun f fd F => F.ok sc_l_truth (fun vs H Q E h => ?_) (fun cdv A outer s H vs Q E hr h => ?_)
  · obtain ⟨a, b, rfl, _⟩ := h
    rfl
  · obtain ⟨a, b, rfl, q⟩ := h
    refine ⟨_, (pss_one (ps_ret (pe_and (pe_callB call_isi (by rfl) B.m_isinstance (by decide +kernel) (pa_cons (pv 0) (pa_cons (pe_bltn (v := .ty "bool") (u := .type "bool") rfl B.m_bool (by decide +kernel) rfl) pa_nil))) (pe_one (pe_cmpR op_eq (pv 0) (pv 1) (nomark _)))))), ?_⟩
    refine ⟨_, rfl, _, _, _, _, true, rfl, .ty "bool", .base (.bl a), kit_ty (by decide +kernel), true, rfl, iteT ?_⟩
    refine ⟨_, rfl, _, rfl, rfl, ?_⟩
    have e : decide (V.bl a = V.bl b) = decide (a = b) := by cases a <;> cases b <;> rfl
    rw [e]
    exact q
end
end Rk
namespace Rk
open PySem PySem.Spec PyProof.Rows L2 Rw
abbrev s_l_no_word : Stmt := topS 28
abbrev n_l_no_word : List Str := ["_law_mix", "_law_some"]
abbrev p_l_no_word : List Str := ["_law_mix"]
theorem sc_l_no_word : FnScope n_l_no_word p_l_no_word (defScope s_l_no_word) := ⟨rfl, rfl, rfl, by decide +kernel, rfl, by decide +kernel, by decide +kernel⟩
abbrev s_l_mark : Stmt := topS 29
abbrev n_l_mark : List Str := ["_law_e", "_law_some"]
abbrev p_l_mark : List Str := ["_law_e"]
theorem sc_l_mark : FnScope n_l_mark p_l_mark (defScope s_l_mark) := ⟨rfl, rfl, rfl, by decide +kernel, rfl, by decide +kernel, by decide +kernel⟩
theorem th_str {K : PySem.W.Frag} {H : Hp} (x : Str) (l : List Nat) (e : x = T l) (hz : l.length ≤ 100000) (h : decide (Wd l) = false) : Th K H (.str x) false := .inl ⟨l, by rw [e], hz, h.symm⟩
theorem th_int {K : PySem.W.Frag} {H : Hp} (i : Int) : Th K H (.int i) false := .inr ⟨rfl, "int", .base (.int i), by decide +kernel⟩
section
variable {P : Program} {w : World} {K : PySem.W.Frag} {mg : Str → Option Value} {base : Heap} {cW cN cS cC cM cR cT : Addr} (B : Bt mg) (R : Er6 K mg cW cN cS cC cM cR cT)
theorem ok_no_word (D : Dfn K mg "_law_no_word" s_l_no_word p_l_no_word) : Cal CX0 P w K mg base 1 "_law_no_word" (spNoWord K) := by
  refine D.cal fun f fd F => F.ok sc_l_no_word (fun vs H Q E h => ?_) (fun cdv A outer s H vs Q E hr h => ?_)
  · obtain ⟨c, rfl, _⟩ := h
    rfl
  · obtain ⟨m, rfl, q⟩ := h
    refine ⟨_, (pss_cons (ps_set (i := 1) sc_l_no_word.nd rfl (Or.inl rfl) (pe_lst (pa_cons pe_non (pa_cons pe_str (pa_cons pe_int (pa_cons pe_str (pa_cons pe_str (pa_cons pe_str (pa_cons (pe_lst (pa_cons pe_str pa_nil)) (pa_cons (pe_tup (pa_cons pe_str pa_nil)) (pa_cons (pe_op op_rep_str pe_str pe_int) (pa_cons pe_bl (pa_cons pe_str (pa_cons pe_str (pa_cons pe_dnewK (pa_cons pe_str (pa_cons pe_int (pa_cons pe_str pa_nil))))))))))))))))))
      (pss_one (ps_ret (pe_ix ix_list (pv 1) (pe_op op_mod (pe_op op_fdiv (pv 0) pe_int) pe_int) (fun _ _ => rfl))))), ?_⟩
    refine ⟨(show 1 ≤ sizeLine by decide), fun p1 n1 => ⟨(show 1 ≤ sizeLine by decide), fun p2 n2 => ⟨[97], 301, rfl, rfl, by decide, by decide, by decide, fun p3 n3 => ⟨(show 16 ≤ sizeLine by decide), fun p4 n4 => ?_⟩⟩⟩⟩
    generalize hL : ([V.non, V.str "", V.int 5, V.str "aB", V.str "a b", V.str "a1", V.ref p1, V.ref p2, tv (List.replicate (301 : Int).toNat [97]).flatten, V.bl true, V.str "ab-", V.str "A", V.ref p3, V.str "a.", V.int 0, V.str "\n"] : List V) = L
    obtain ⟨d0, d1⟩ : 0 ≤ m / 7 % 16 ∧ m / 7 % 16 < 16 := ⟨Int.emod_nonneg _ (by decide), Int.emod_lt_of_pos _ (by decide)⟩
    obtain ⟨v, hv, ha⟩ := at_some (xs := L) d0 (by rw [← hL]; exact d1)
    refine ⟨_, rfl, _, rfl, _, 7, rfl, rfl, ⟨by decide, by decide⟩, _, _, rfl, rfl, (show (0 : Int) < 16 by decide), p4, _, _, v, rfl, rfl, SqL.of upd_same, ha, ?_⟩
    have k1 : Same H (upd H p1 (.lst [V.str "a"])) := same_upd n1
    have k2 := same_upd (o := .tup [V.str "a"]) n2
    have k3 := same_upd (o := .dK []) n3
    have k4 := same_upd (o := .lst L) n4
    refine q v _ (((k1.trans k2).trans k3).trans k4) ?_
    have f1 := (k2.trans (k3.trans k4)) p1 _ upd_same
    have f2 := (k3.trans k4) p2 _ upd_same
    have f3 := k4 p3 _ upd_same
    rw [← hL] at hv
    simp only [List.mem_cons, List.not_mem_nil, or_false] at hv
    rcases hv with rfl | rfl | rfl | rfl | rfl | rfl | rfl | rfl | rfl | rfl | rfl | rfl | rfl | rfl | rfl | rfl
    · exact .inr ⟨rfl, "NoneType", .base .non, by decide +kernel⟩
    · exact th_str _ [] (by decide +kernel) (by decide) (by decide)
    · exact th_int 5
    · exact th_str _ [97, 66] (by decide +kernel) (by decide) (by decide)
    · exact th_str _ [97, 32, 98] (by decide +kernel) (by decide) (by decide)
    · exact th_str _ [97, 49] (by decide +kernel) (by decide) (by decide)
    · exact .inr ⟨rfl, "list", .base (.lst f1), by decide +kernel⟩
    · exact .inr ⟨rfl, "tuple", .base (.tup f2), by decide +kernel⟩
    · refine .inl ⟨_, rfl, by rw [List.length_flatten]; decide +kernel, (decide_eq_false fun z => ?_).symm⟩
      have := z.2.1
      have e : (List.replicate (301 : Int).toNat [97]).flatten.length = 301 := by decide +kernel
      omega
    · exact .inr ⟨rfl, "bool", .base (.bl true), by decide +kernel⟩
    · exact th_str _ [97, 98, 45] (by decide +kernel) (by decide) (by decide)
    · exact th_str _ [65] (by decide +kernel) (by decide) (by decide)
    · exact .inr ⟨rfl, "dict", .base (.dK f3), by decide +kernel⟩
    · exact th_str _ [97, 46] (by decide +kernel) (by decide) (by decide)
    · exact th_int 0
    · exact th_str _ [10] (by decide +kernel) (by decide) (by decide)
include B R
theorem ok_mark (D : Dfn K mg "_law_mark" s_l_mark p_l_mark) : Cal CX0 P w K mg base 1 "_law_mark" (spMark cN) := by
  refine D.cal fun f fd F => F.ok sc_l_mark (fun vs H Q E h => ?_) (fun cdv A outer s H vs Q E hr h => ?_)
  · obtain ⟨c, rfl, _⟩ := h
    rfl
  · obtain ⟨a, rfl, ha, q⟩ := h
    refine ⟨_, (pss_cons (ps_set (i := 1) sc_l_mark.nd rfl (Or.inl rfl) (pe_lst (pa_cons (pe_callB call_isX (by rfl) B.m_isinstance (by decide +kernel) (pa_cons (pv 0) (pa_cons (pe_gr rfl R.g_NoWord) pa_nil))) (pa_cons (pe_callB call_isX (by rfl) B.m_isinstance (by decide +kernel) (pa_cons (pv 0) (pa_cons (pe_gr rfl R.g_NoSigns) pa_nil))) (pa_cons (pe_callB call_isX (by rfl) B.m_isinstance (by decide +kernel) (pa_cons (pv 0) (pa_cons (pe_gr rfl R.g_NoCount) pa_nil))) (pa_cons (pe_callB call_isX (by rfl) B.m_isinstance (by decide +kernel) (pa_cons (pv 0) (pa_cons (pe_gr rfl R.g_TooMany) pa_nil))) pa_nil))))))
      (pss_cons (ps_set (i := 1) sc_l_mark.nd rfl (Or.inl rfl) (pe_op op_cat (pv 1) (pe_lst (pa_cons (pe_callB call_isX (by rfl) B.m_isinstance (by decide +kernel) (pa_cons (pv 0) (pa_cons (pe_gr rfl R.g_NoRing) pa_nil))) (pa_cons (pe_callB call_isX (by rfl) B.m_isinstance (by decide +kernel) (pa_cons (pv 0) (pa_cons (pe_gr rfl R.g_Twice) pa_nil))) pa_nil)))))
      (pss_cons (ps_if (PW.pt (pw_or (pt_cmpR op_ne (pe_bm PySem.F.plainAttrs_list PySem.F.slot_list_count PySem.F.type_list_count mt_countB (pv 1) (pa_cons pe_bl pa_nil)) pe_int (nomark _)) (pw_or1 (pt_not (pt_val (pe_callB call_isX (by rfl) B.m_isinstance (by decide +kernel) (pa_cons (pv 0) (pa_cons (pe_bltn (v := .ty "ValueError") (u := .type "ValueError") rfl B.m_ValueError (by decide +kernel) rfl) pa_nil)))))))) (pss_one (ps_ret pe_str)) pss_nil)
      (pss_one (ps_ret (pe_ix ix_list (pe_lst (pa_cons pe_str (pa_cons pe_str (pa_cons pe_str (pa_cons pe_str (pa_cons pe_str (pa_cons pe_str pa_nil))))))) (pe_bm PySem.F.plainAttrs_list PySem.F.slot_list_index PySem.F.type_list_index mt_index (pv 1) (pa_cons pe_bl pa_nil)) (fun _ _ => rfl))))))), ?_⟩
    refine ⟨_, rfl, a, cN, _, .ref cN, true, rfl, ha, R.e, (fun u h => h), R.i_N, ?_⟩
    refine ⟨_, rfl, a, cN, _, .ref cS, false, rfl, ha, R.e, (fun u h => h), R.i_S, ?_⟩
    refine ⟨_, rfl, a, cN, _, .ref cC, false, rfl, ha, R.e, (fun u h => h), R.i_C, ?_⟩
    refine ⟨_, rfl, a, cN, _, .ref cM, false, rfl, ha, R.e, (fun u h => h), R.i_M, ?_⟩
    refine ⟨(show 4 ≤ sizeLine by decide), fun p1 n1 => ?_⟩
    have k1 := same_upd (o := .lst [V.bl true, V.bl false, V.bl false, V.bl false]) n1
    refine ⟨_, rfl, ?_⟩
    refine ⟨_, rfl, a, cN, _, .ref cR, false, rfl, (k1 _ _ ha), R.e, (fun u h => h), R.i_R, ?_⟩
    refine ⟨_, rfl, a, cN, _, .ref cT, false, rfl, (k1 _ _ ha), R.e, (fun u h => h), R.i_T, ?_⟩
    refine ⟨(show 2 ≤ sizeLine by decide), fun p2 n2 => ?_⟩
    have k2 := same_upd (o := .lst [V.bl false, V.bl false]) n2
    refine ⟨p1, p2, _, _, rfl, rfl, k2 _ _ upd_same, upd_same, (show 4 + 2 ≤ sizeLine by decide), fun p3 n3 => ?_⟩
    have k3 := same_upd (o := .lst ([V.bl true, V.bl false, V.bl false, V.bl false] ++ [V.bl false, V.bl false])) n3
    have kk := (k1.trans k2).trans k3
    refine ⟨_, rfl, .inl ⟨rfl, _, SqL.of upd_same⟩, p3, [true, false, false, false, false, false], rfl, rfl, SqL.of upd_same, rfl, _, rfl, ?_⟩
    refine iteF ?_
    refine ⟨_, rfl, a, cN, _, .type "ValueError", true, rfl, kk _ _ ha, R.e, (fun u h => h), R.i_V, true, rfl, ?_⟩
    refine iteF ?_
    refine ⟨(show 6 ≤ sizeLine by decide), fun p4 n4 => ?_⟩
    have k4 := same_upd (o := .lst [V.str "word", V.str "signs", V.str "count", V.str "many", V.str "ring", V.str "twice"]) n4
    refine ⟨_, rfl, .inl ⟨rfl, _, SqL.of (k4 _ _ upd_same)⟩, p3, _, .bl true, 0, .bl true, rfl, rfl, SqL.of (k4 _ _ upd_same), rfl, by decide, rfl, rfl, (fun m z h => absurd h (by omega)), ?_⟩
    refine ⟨p4, _, _, .str "word", rfl, rfl, SqL.of upd_same, by decide +kernel, ?_⟩
    have e : (V.str "word") = tv [119, 111, 114, 100] := by decide +kernel
    rw [e]
    exact q _ (kk.trans k4)
end
end Rk
namespace Rk
open PySem PySem.Spec PyProof.Rows L2 Rw
abbrev s_l_refused : Stmt := topS 30
abbrev n_l_refused : List Str := ["_law_way", "_law_thing", "_law_e", "_law_told"]
abbrev p_l_refused : List Str := ["_law_way", "_law_thing"]
theorem sc_l_refused : FnScope n_l_refused p_l_refused (defScope s_l_refused) := ⟨rfl, rfl, rfl, by decide +kernel, rfl, by decide +kernel, by decide +kernel⟩
abbrev s_l_right : Stmt := topS 31
abbrev n_l_right : List Str := ["_law_cell", "_law_word_here"]
abbrev p_l_right : List Str := ["_law_cell"]
theorem sc_l_right : FnScope n_l_right p_l_right (defScope s_l_right) := ⟨rfl, rfl, rfl, by decide +kernel, rfl, by decide +kernel, by decide +kernel⟩
abbrev s_law : Stmt := topS 32
abbrev n_law : List Str := ["_law_script", "_law_k"]
abbrev p_law : List Str := ["_law_script"]
theorem sc_law : FnScope n_law p_law (defScope s_law) := ⟨rfl, rfl, rfl, by decide +kernel, rfl, by decide +kernel, by decide +kernel⟩
theorem turn_wd {l : List Nat} (k : Nat) (h : Wd l) : Wd (turn l k) ∧ (turn l k).length = l.length := by
  have e : (turn l k).length = l.length := by
    unfold turn
    rw [List.length_append, List.length_drop, List.length_take]
    omega
  refine ⟨⟨by have := h.1; omega, by have := h.2.1; omega, fun c hc => ?_⟩, e⟩
  rcases List.mem_append.mp hc with z | z
  · exact h.2.2 c (List.mem_of_mem_drop z)
  · exact h.2.2 c (List.mem_of_mem_take z)
theorem min_wd {l : List Nat} (h : Wd l) : Wd (minT (turns l)) := by
  obtain ⟨k, _, e⟩ := List.mem_map.mp (minT_mem (turns_ne h))
  have e : turn l k = minT (turns l) := e
  rw [← e]
  exact (turn_wd k h).1
section
variable {P : Program} {w : World} {K : PySem.W.Frag} {mg : Str → Option Value} {base : Heap} {cW cN cS cC cM cR cT : Addr} (B : Bt mg)
theorem ok_refused (D : Dfn K mg "_law_refused" s_l_refused p_l_refused) (R : Er6 K mg cW cN cS cC cM cR cT) (c_is_early : Cal (L2.CX P w) P w K mg base 4 "is_early" (spIsEarly K cN)) (c_pieces : Cal (L2.CX P w) P w K mg base 4 "pieces" (spPieces K cN))
    (c_cuts : Cal (L2.CX P w) P w K mg base 3 "cuts" (spCuts K cN)) (c_is_cutting : Cal (L2.CX P w) P w K mg base 5 "is_cutting" (spIsCutting K cN))
    (c__law_mark : Cal CX0 P w K mg base 1 "_law_mark" (spMark cN)) : Cal CX0 P w K mg base 6 "_law_refused" (spRefused K) := by
  refine D.cal fun f fd F => F.ok sc_l_refused (fun vs H Q E h => ?_) (fun cdv A outer s H vs Q E hr h => ?_)
  · obtain ⟨i, v, rfl, _⟩ := h
    rfl
  · obtain ⟨i, v, rfl, hv, q⟩ := h
    refine ⟨_, (pss_cons (ps_try_val (i := 2) (j := 3) (pss_one (ps_set (i := 3) sc_l_refused.nd rfl (Or.inl rfl) pe_non)) rfl rfl rfl sc_l_refused.nd rfl rfl rfl rfl rfl ⟨rfl, by decide, .inl R.g_WordError⟩ rfl rfl rfl (fun W pn xe tk _ => (pss_one (ps_if (pt_cmpR op_eq (pv 0) pe_int (nomark _)) (pss_one (ps_expr (pe_calS c_is_early hr (by decide) (fun σ => passAt tk σ) (pa_cons (pv 1) pa_nil)))) (pss_one (ps_if (pt_cmpR op_eq (pv 0) pe_int (nomark _)) (pss_one (ps_expr (pe_calS c_pieces hr (by decide) (fun σ => passAt tk σ) (pa_cons (pv 1) pa_nil)))) (pss_one (ps_if (pt_cmpR op_eq (pv 0) pe_int (nomark _)) (pss_one (ps_expr (pe_calS c_cuts hr (by decide) (fun σ => passAt tk σ) (pa_cons (pv 1) pa_nil)))) (pss_one (ps_expr (pe_calS c_is_cutting hr (by decide) (fun σ => passAt tk σ) (pa_cons (pv 1) (pa_cons (pe_lst (pa_cons pe_str pa_nil)) pa_nil)))))))))))))
      (pss_one (ps_ret (pe_and (pe_cmpR op_notN (pv 3) pe_non (nomark _)) (pe_one (pe_cmpR op_eqT (pe_cal c__law_mark hr (by decide) pass0 (pa_cons (pv 3) pa_nil)) pe_str (nomark _))))))), ?_⟩
    refine ⟨_, rfl, rfl, _, rfl, ite2 (fun _ => ?_) (fun _ => ?_)⟩
    · refine ⟨v, rfl, v, false, [], rfl, rfl, hv, (fun _ H1 e1 => ⟨R.x_W, rfl, fun a na => ?_⟩), fun l hb => nomatch hb⟩
      have k1 := same_upd (o := ExV (.ref cN) a) na
      refine ⟨.ref a, rfl, rfl, true, rfl, iteT ?_⟩
      refine ⟨.ref a, rfl, a, rfl, upd_same, fun H2 e2 => ⟨[119, 111, 114, 100], [119, 111, 114, 100], rfl, by decide +kernel, ?_⟩⟩
      rw [decide_eq_true rfl]
      exact q H2 ((e1.trans k1).trans e2)
    refine ⟨_, rfl, rfl, _, rfl, ite2 (fun _ => ?_) (fun _ => ?_)⟩
    · refine ⟨v, rfl, v, false, [], rfl, rfl, hv, (fun _ H1 e1 => ⟨R.x_W, rfl, fun a na => ?_⟩), fun l hb => nomatch hb⟩
      have k1 := same_upd (o := ExV (.ref cN) a) na
      refine ⟨.ref a, rfl, rfl, true, rfl, iteT ?_⟩
      refine ⟨.ref a, rfl, a, rfl, upd_same, fun H2 e2 => ⟨[119, 111, 114, 100], [119, 111, 114, 100], rfl, by decide +kernel, ?_⟩⟩
      rw [decide_eq_true rfl]
      exact q H2 ((e1.trans k1).trans e2)
    refine ⟨_, rfl, rfl, _, rfl, ite2 (fun _ => ?_) (fun _ => ?_)⟩
    · refine ⟨v, rfl, v, false, [], rfl, rfl, hv, (fun _ H1 e1 => ⟨R.x_W, rfl, fun a na => ?_⟩), fun l hb => nomatch hb⟩
      have k1 := same_upd (o := ExV (.ref cN) a) na
      refine ⟨.ref a, rfl, rfl, true, rfl, iteT ?_⟩
      refine ⟨.ref a, rfl, a, rfl, upd_same, fun H2 e2 => ⟨[119, 111, 114, 100], [119, 111, 114, 100], rfl, by decide +kernel, ?_⟩⟩
      rw [decide_eq_true rfl]
      exact q H2 ((e1.trans k1).trans e2)
    · refine ⟨v, rfl, (show 1 ≤ sizeLine by decide), fun p np => ?_⟩
      have k0 := same_upd (o := .lst [V.str "a"]) np
      refine ⟨v, false, [.ref p], rfl, rfl, hv.same k0, (fun _ H1 e1 => ⟨R.x_W, rfl, fun a na => ?_⟩), fun l hb => nomatch hb⟩
      have k1 := same_upd (o := ExV (.ref cN) a) na
      refine ⟨.ref a, rfl, rfl, true, rfl, iteT ?_⟩
      refine ⟨.ref a, rfl, a, rfl, upd_same, fun H2 e2 => ⟨[119, 111, 114, 100], [119, 111, 114, 100], rfl, by decide +kernel, ?_⟩⟩
      rw [decide_eq_true rfl]
      exact q H2 (((k0.trans e1).trans k1).trans e2)
include B
theorem ok_right (D : Dfn K mg "_law_right" s_l_right p_l_right) (c_is_early : Cal (L2.CX P w) P w K mg base 4 "is_early" (spIsEarly K cN)) (c__law_mixed : Cal CX0 P w K mg base 1 "_law_mixed" spMixed)
    (c__law_word : Cal CX0 P w K mg base 3 "_law_word" spWord) (c__law_turnings : Cal CX0 P w K mg base 1 "_law_turnings" spLTurnings) (c__law_early : Cal CX0 P w K mg base 2 "_law_early" spLEarly) (c__law_truth : Cal CX0 P w K mg base 1 "_law_truth" spTruth) (c__law_no_word : Cal CX0 P w K mg base 1 "_law_no_word" (spNoWord K))
    (c__law_refused : Cal CX0 P w K mg base 6 "_law_refused" (spRefused K)) : Cal CX0 P w K mg base 7 "_law_right" spRight := by
  refine D.cal fun f fd F => F.ok sc_l_right (fun vs H Q E h => ?_) (fun cdv A outer s H vs Q E hr h => ?_)
  · obtain ⟨c, rfl, _⟩ := h
    rfl
  · obtain ⟨c, rfl, q⟩ := h
    refine ⟨_, (pss_cons (ps_set (i := 1) sc_l_right.nd rfl (Or.inl rfl) (pe_cal c__law_word hr (by decide) pass0 (pa_cons (pv 0) (pa_cons pe_int pa_nil))))
      (Evl.pss_cut (ps_if (pt_cmpR op_eq (pe_op op_mod (pe_op op_fdiv (pe_cal c__law_mixed hr (by decide) pass0 (pa_cons (pv 0) (pa_cons pe_int pa_nil))) pe_int) pe_int) pe_int (nomark _)) (pss_one (ps_set (i := 1) sc_l_right.nd rfl (Or.inl rfl) (pe_callB (cr_minL rfl hr.units) (by rfl) B.m_min (by decide +kernel) (pa_cons (pe_cal c__law_turnings hr (by decide) pass0 (pa_cons (pv 1) pa_nil)) pa_nil)))) pss_nil)
      (pss_cons (ps_if (pt_not (pt_val (pe_cal c__law_truth hr (by decide) pass0 (pa_cons (pe_cal c_is_early hr (by decide) passL (pa_cons (pv 1) pa_nil)) (pa_cons (pe_cal c__law_early hr (by decide) pass0 (pa_cons (pv 1) pa_nil)) pa_nil))))) (pss_one (ps_ret pe_bl)) pss_nil)
      (pss_one (ps_ret (pe_cal c__law_refused hr (by decide) pass0 (pa_cons (pe_op op_mod (pe_op op_fdiv (pe_cal c__law_mixed hr (by decide) pass0 (pa_cons (pv 0) (pa_cons pe_int pa_nil))) pe_int) pe_int) (pa_cons (pe_cal c__law_no_word hr (by decide) pass0 (pa_cons (pe_cal c__law_mixed hr (by decide) pass0 (pa_cons (pv 0) (pa_cons pe_int pa_nil))) pa_nil)) pa_nil)))))))), ?_⟩
    refine ⟨_, rfl, c, 40, rfl, by decide, by decide, fun l H1 e1 hl _ => ?_⟩
    refine ⟨fun σ' H' => ∃ l', σ' = [some (.int c), some (tv l')] ∧ Same H H' ∧ Wd l', ?_, ?_⟩
    · refine ⟨_, rfl, c, 6, rfl, fun i h0 h1 => ?_⟩
      refine ⟨i, 7, rfl, rfl, ⟨by decide, by decide⟩, _, 2, rfl, rfl, (show (0 : Int) < 2 by decide), rfl, _, rfl, ite2 (fun _ => ?_) (fun _ => ?_)⟩
      · refine ⟨_, rfl, l, rfl, by have := hl.2.1; omega, fun p H2 np e2 hp => ?_⟩
        exact ⟨p, turns l, rfl, SqL.of hp, turns_ne hl, _, rfl, e1.trans e2, min_wd hl⟩
      · exact ⟨_, rfl, e1, hl⟩
    rintro σ' H2 ⟨m, rfl, e2, hm⟩
    clear e1 hl
    refine ⟨_, rfl, tv m, true, [], rfl, rfl, .word hm, (fun e => nomatch e), fun m' _ em _ H3 e3 => ?_⟩
    cases tv_inj em
    refine ⟨_, rfl, m, rfl, by have := hm.2.1; omega, hm.ok, fun H4 e4 => ?_⟩
    refine ⟨_, _, rfl, true, by simp, iteF ?_⟩
    have e5 := (e2.trans e3).trans e4
    refine ⟨_, rfl, c, 7, rfl, fun i7 _ _ => ⟨i7, 7, rfl, rfl, ⟨by decide, by decide⟩, _, 4, rfl, rfl, (show (0 : Int) < 4 by decide), ?_⟩⟩
    refine ⟨_, rfl, c, 8, rfl, fun i8 _ _ => ⟨i8, rfl, fun v H5 e6 hv => ⟨_, v, rfl, hv, fun H6 e7 => ?_⟩⟩⟩
    exact q H6 ((e5.trans e6).trans e7)
theorem ok_law {f : Addr} {fd : FuncData} (F : Fun K "law" "law" s_law f fd) (c__law_mixed : Cal CX0 P w K mg base 1 "_law_mixed" spMixed) (c__law_cell_at : Cal CX0 P w K mg base 1 "_law_cell_at" (spCellAt K)) (c_is_early : Cal (L2.CX P w) P w K mg base 4 "is_early" (spIsEarly K cN))
    (c__law_right : Cal CX0 P w K mg base 7 "_law_right" spRight) : FnOk P w K mg base CX0 8 f fd p_law (spLaw K) := by
  refine F.ok sc_law (fun vs H Q E h => ?_) (fun cdv A outer s H vs Q E hr h => ?_)
  · obtain ⟨a, ns, rfl, _⟩ := h
    rfl
  · obtain ⟨a, ns, rfl, hS, hlen, q⟩ := h
    refine ⟨_, (pss_cons (ps_for PassesOwn.never rfl (pi_range1 (by rfl) B.m_range (pa_cons pe_int pa_nil)) (pg_name (i := 1) sc_law.nd rfl (Or.inl rfl))
        (pss_one (ps_if (pt_not (pt_val (pe_cal c__law_right hr (by decide) pass0 (pa_cons (pe_cal c__law_mixed hr (by decide) pass0 (pa_cons (pe_cal c__law_cell_at hr (by decide) pass0 (pa_cons (pv 0) (pa_cons (pv 1) pa_nil))) (pa_cons (pe_op op_add pe_int (pv 1)) pa_nil))) pa_nil)))) (pss_one (ps_ret pe_bl)) pss_nil)))
      (pss_one (ps_ret (pe_cmpR op_isBl (pe_cal c_is_early hr (by decide) passL (pa_cons pe_str pa_nil)) pe_bl (nomark _))))), ?_⟩
    refine ⟨8, rfl, by decide, by decide, for_range (lo := 0) (n := 8) (fun i σ H' => ∃ y, σ = [some (.ref a), y] ∧ Same H H') ⟨none, rfl, Same.refl H⟩ ?_ ?_⟩
    · rintro i σ H1 hi ⟨y, rfl, e1⟩
      refine ⟨_, rfl, _, rfl, a, ns, _, rfl, e1.seq hS, by omega, by omega, fun cell => ?_⟩
      refine ⟨_, rfl, _, _, rfl, rfl, cell, _, rfl, fun m _ _ => ?_⟩
      refine ⟨m, rfl, fun H2 e2 => ⟨true, rfl, iteF ?_⟩⟩
      exact ⟨_, rfl, e1.trans e2⟩
    · rintro σ H1 ⟨y, rfl, e1⟩
      have ea : (V.str "a") = tv [97] := by decide +kernel
      have wa : Wd [97] := by decide
      refine ⟨tv [97], true, [], congrArg (fun v => [v]) ea, rfl, .word wa, (fun e => nomatch e), fun m' _ em _ H3 e3 => ?_⟩
      cases tv_inj em
      have eb : early [97] = true := by decide
      rw [eb]
      exact ⟨true, true, rfl, rfl, q H3⟩
end
end Rk
namespace Rk
open PySem PySem.Spec PyProof.Rows L2 Rw
theorem all_mk {l : PySem.W.OpenLaw} {w : World} {K : PySem.W.Frag} {h : Heap} {mg : Str → Option Value} {fa f_is_word f_need_word f_turnings f_is_early f_cuts f_pieces f_is_cutting f_l_cell_at f_l_mixed f_l_truth f_l_signs f_l_drawn f_l_woven f_l_word f_l_turnings f_l_early f_l_no_word f_l_mark f_l_refused f_l_right f_law q_WordError q_NoWord q_NoSigns q_NoCount q_TooMany q_NoRing q_Twice : Addr} (X : K.In h) (G : h.Ns mainGlobals mg) (hfa : mg "law" = some (.ref fa))
    {od_is_word an_is_word : Option Addr} {sl_is_word : Array (Option Value)} {oc_is_word kV_is_word dc_is_word pm_is_word cd_is_word ct_is_word : Value}
    (a_is_word : PySem.W.nsIn K mainGlobals "is_word" = some (some (.ref f_is_word)))
    (l_is_word : K.lookup f_is_word = some ⟨oc_is_word, od_is_word, .func (PySem.W.fnOf "is_word" "is_word" (defArgs s_is_word) (defBody s_is_word) (defScope s_is_word) .none kV_is_word dc_is_word pm_is_word an_is_word cd_is_word ct_is_word), sl_is_word⟩)
    (c_is_word : PySem.W.codeIn K cd_is_word "is_word" = true) (k_is_word : PySem.W.keepIn K (.ref f_is_word) = true)
    {od_need_word an_need_word : Option Addr} {sl_need_word : Array (Option Value)} {oc_need_word kV_need_word dc_need_word pm_need_word cd_need_word ct_need_word : Value}
    (a_need_word : PySem.W.nsIn K mainGlobals "need_word" = some (some (.ref f_need_word)))
    (l_need_word : K.lookup f_need_word = some ⟨oc_need_word, od_need_word, .func (PySem.W.fnOf "need_word" "need_word" (defArgs s_need_word) (defBody s_need_word) (defScope s_need_word) .none kV_need_word dc_need_word pm_need_word an_need_word cd_need_word ct_need_word), sl_need_word⟩)
    (c_need_word : PySem.W.codeIn K cd_need_word "need_word" = true) (k_need_word : PySem.W.keepIn K (.ref f_need_word) = true)
    {od_turnings an_turnings : Option Addr} {sl_turnings : Array (Option Value)} {oc_turnings kV_turnings dc_turnings pm_turnings cd_turnings ct_turnings : Value}
    (a_turnings : PySem.W.nsIn K mainGlobals "turnings" = some (some (.ref f_turnings)))
    (l_turnings : K.lookup f_turnings = some ⟨oc_turnings, od_turnings, .func (PySem.W.fnOf "turnings" "turnings" (defArgs s_turnings) (defBody s_turnings) (defScope s_turnings) .none kV_turnings dc_turnings pm_turnings an_turnings cd_turnings ct_turnings), sl_turnings⟩)
    (c_turnings : PySem.W.codeIn K cd_turnings "turnings" = true) (k_turnings : PySem.W.keepIn K (.ref f_turnings) = true)
    {od_is_early an_is_early : Option Addr} {sl_is_early : Array (Option Value)} {oc_is_early kV_is_early dc_is_early pm_is_early cd_is_early ct_is_early : Value}
    (a_is_early : PySem.W.nsIn K mainGlobals "is_early" = some (some (.ref f_is_early)))
    (l_is_early : K.lookup f_is_early = some ⟨oc_is_early, od_is_early, .func (PySem.W.fnOf "is_early" "is_early" (defArgs s_is_early) (defBody s_is_early) (defScope s_is_early) .none kV_is_early dc_is_early pm_is_early an_is_early cd_is_early ct_is_early), sl_is_early⟩)
    (c_is_early : PySem.W.codeIn K cd_is_early "is_early" = true) (k_is_early : PySem.W.keepIn K (.ref f_is_early) = true)
    {od_cuts an_cuts : Option Addr} {sl_cuts : Array (Option Value)} {oc_cuts kV_cuts dc_cuts pm_cuts cd_cuts ct_cuts : Value}
    (a_cuts : PySem.W.nsIn K mainGlobals "cuts" = some (some (.ref f_cuts)))
    (l_cuts : K.lookup f_cuts = some ⟨oc_cuts, od_cuts, .func (PySem.W.fnOf "cuts" "cuts" (defArgs s_cuts) (defBody s_cuts) (defScope s_cuts) .none kV_cuts dc_cuts pm_cuts an_cuts cd_cuts ct_cuts), sl_cuts⟩)
    (c_cuts : PySem.W.codeIn K cd_cuts "cuts" = true) (k_cuts : PySem.W.keepIn K (.ref f_cuts) = true)
    {od_pieces an_pieces : Option Addr} {sl_pieces : Array (Option Value)} {oc_pieces kV_pieces dc_pieces pm_pieces cd_pieces ct_pieces : Value}
    (a_pieces : PySem.W.nsIn K mainGlobals "pieces" = some (some (.ref f_pieces)))
    (l_pieces : K.lookup f_pieces = some ⟨oc_pieces, od_pieces, .func (PySem.W.fnOf "pieces" "pieces" (defArgs s_pieces) (defBody s_pieces) (defScope s_pieces) .none kV_pieces dc_pieces pm_pieces an_pieces cd_pieces ct_pieces), sl_pieces⟩)
    (c_pieces : PySem.W.codeIn K cd_pieces "pieces" = true) (k_pieces : PySem.W.keepIn K (.ref f_pieces) = true)
    {od_is_cutting an_is_cutting : Option Addr} {sl_is_cutting : Array (Option Value)} {oc_is_cutting kV_is_cutting dc_is_cutting pm_is_cutting cd_is_cutting ct_is_cutting : Value}
    (a_is_cutting : PySem.W.nsIn K mainGlobals "is_cutting" = some (some (.ref f_is_cutting)))
    (l_is_cutting : K.lookup f_is_cutting = some ⟨oc_is_cutting, od_is_cutting, .func (PySem.W.fnOf "is_cutting" "is_cutting" (defArgs s_is_cutting) (defBody s_is_cutting) (defScope s_is_cutting) .none kV_is_cutting dc_is_cutting pm_is_cutting an_is_cutting cd_is_cutting ct_is_cutting), sl_is_cutting⟩)
    (c_is_cutting : PySem.W.codeIn K cd_is_cutting "is_cutting" = true) (k_is_cutting : PySem.W.keepIn K (.ref f_is_cutting) = true)
    {od_l_cell_at an_l_cell_at : Option Addr} {sl_l_cell_at : Array (Option Value)} {oc_l_cell_at kV_l_cell_at dc_l_cell_at pm_l_cell_at cd_l_cell_at ct_l_cell_at : Value}
    (a_l_cell_at : PySem.W.nsIn K mainGlobals "_law_cell_at" = some (some (.ref f_l_cell_at)))
    (l_l_cell_at : K.lookup f_l_cell_at = some ⟨oc_l_cell_at, od_l_cell_at, .func (PySem.W.fnOf "_law_cell_at" "_law_cell_at" (defArgs s_l_cell_at) (defBody s_l_cell_at) (defScope s_l_cell_at) .none kV_l_cell_at dc_l_cell_at pm_l_cell_at an_l_cell_at cd_l_cell_at ct_l_cell_at), sl_l_cell_at⟩)
    (c_l_cell_at : PySem.W.codeIn K cd_l_cell_at "_law_cell_at" = true) (k_l_cell_at : PySem.W.keepIn K (.ref f_l_cell_at) = true)
    {od_l_mixed an_l_mixed : Option Addr} {sl_l_mixed : Array (Option Value)} {oc_l_mixed kV_l_mixed dc_l_mixed pm_l_mixed cd_l_mixed ct_l_mixed : Value}
    (a_l_mixed : PySem.W.nsIn K mainGlobals "_law_mixed" = some (some (.ref f_l_mixed)))
    (l_l_mixed : K.lookup f_l_mixed = some ⟨oc_l_mixed, od_l_mixed, .func (PySem.W.fnOf "_law_mixed" "_law_mixed" (defArgs s_l_mixed) (defBody s_l_mixed) (defScope s_l_mixed) .none kV_l_mixed dc_l_mixed pm_l_mixed an_l_mixed cd_l_mixed ct_l_mixed), sl_l_mixed⟩)
    (c_l_mixed : PySem.W.codeIn K cd_l_mixed "_law_mixed" = true) (k_l_mixed : PySem.W.keepIn K (.ref f_l_mixed) = true)
    {od_l_truth an_l_truth : Option Addr} {sl_l_truth : Array (Option Value)} {oc_l_truth kV_l_truth dc_l_truth pm_l_truth cd_l_truth ct_l_truth : Value}
    (a_l_truth : PySem.W.nsIn K mainGlobals "_law_truth" = some (some (.ref f_l_truth)))
    (l_l_truth : K.lookup f_l_truth = some ⟨oc_l_truth, od_l_truth, .func (PySem.W.fnOf "_law_truth" "_law_truth" (defArgs s_l_truth) (defBody s_l_truth) (defScope s_l_truth) .none kV_l_truth dc_l_truth pm_l_truth an_l_truth cd_l_truth ct_l_truth), sl_l_truth⟩)
    (c_l_truth : PySem.W.codeIn K cd_l_truth "_law_truth" = true) (k_l_truth : PySem.W.keepIn K (.ref f_l_truth) = true)
    {od_l_signs an_l_signs : Option Addr} {sl_l_signs : Array (Option Value)} {oc_l_signs kV_l_signs dc_l_signs pm_l_signs cd_l_signs ct_l_signs : Value}
    (a_l_signs : PySem.W.nsIn K mainGlobals "_law_signs" = some (some (.ref f_l_signs)))
    (l_l_signs : K.lookup f_l_signs = some ⟨oc_l_signs, od_l_signs, .func (PySem.W.fnOf "_law_signs" "_law_signs" (defArgs s_l_signs) (defBody s_l_signs) (defScope s_l_signs) .none kV_l_signs dc_l_signs pm_l_signs an_l_signs cd_l_signs ct_l_signs), sl_l_signs⟩)
    (c_l_signs : PySem.W.codeIn K cd_l_signs "_law_signs" = true) (k_l_signs : PySem.W.keepIn K (.ref f_l_signs) = true)
    {od_l_drawn an_l_drawn : Option Addr} {sl_l_drawn : Array (Option Value)} {oc_l_drawn kV_l_drawn dc_l_drawn pm_l_drawn cd_l_drawn ct_l_drawn : Value}
    (a_l_drawn : PySem.W.nsIn K mainGlobals "_law_drawn" = some (some (.ref f_l_drawn)))
    (l_l_drawn : K.lookup f_l_drawn = some ⟨oc_l_drawn, od_l_drawn, .func (PySem.W.fnOf "_law_drawn" "_law_drawn" (defArgs s_l_drawn) (defBody s_l_drawn) (defScope s_l_drawn) .none kV_l_drawn dc_l_drawn pm_l_drawn an_l_drawn cd_l_drawn ct_l_drawn), sl_l_drawn⟩)
    (c_l_drawn : PySem.W.codeIn K cd_l_drawn "_law_drawn" = true) (k_l_drawn : PySem.W.keepIn K (.ref f_l_drawn) = true)
    {od_l_woven an_l_woven : Option Addr} {sl_l_woven : Array (Option Value)} {oc_l_woven kV_l_woven dc_l_woven pm_l_woven cd_l_woven ct_l_woven : Value}
    (a_l_woven : PySem.W.nsIn K mainGlobals "_law_woven" = some (some (.ref f_l_woven)))
    (l_l_woven : K.lookup f_l_woven = some ⟨oc_l_woven, od_l_woven, .func (PySem.W.fnOf "_law_woven" "_law_woven" (defArgs s_l_woven) (defBody s_l_woven) (defScope s_l_woven) .none kV_l_woven dc_l_woven pm_l_woven an_l_woven cd_l_woven ct_l_woven), sl_l_woven⟩)
    (c_l_woven : PySem.W.codeIn K cd_l_woven "_law_woven" = true) (k_l_woven : PySem.W.keepIn K (.ref f_l_woven) = true)
    {od_l_word an_l_word : Option Addr} {sl_l_word : Array (Option Value)} {oc_l_word kV_l_word dc_l_word pm_l_word cd_l_word ct_l_word : Value}
    (a_l_word : PySem.W.nsIn K mainGlobals "_law_word" = some (some (.ref f_l_word)))
    (l_l_word : K.lookup f_l_word = some ⟨oc_l_word, od_l_word, .func (PySem.W.fnOf "_law_word" "_law_word" (defArgs s_l_word) (defBody s_l_word) (defScope s_l_word) .none kV_l_word dc_l_word pm_l_word an_l_word cd_l_word ct_l_word), sl_l_word⟩)
    (c_l_word : PySem.W.codeIn K cd_l_word "_law_word" = true) (k_l_word : PySem.W.keepIn K (.ref f_l_word) = true)
    {od_l_turnings an_l_turnings : Option Addr} {sl_l_turnings : Array (Option Value)} {oc_l_turnings kV_l_turnings dc_l_turnings pm_l_turnings cd_l_turnings ct_l_turnings : Value}
    (a_l_turnings : PySem.W.nsIn K mainGlobals "_law_turnings" = some (some (.ref f_l_turnings)))
    (l_l_turnings : K.lookup f_l_turnings = some ⟨oc_l_turnings, od_l_turnings, .func (PySem.W.fnOf "_law_turnings" "_law_turnings" (defArgs s_l_turnings) (defBody s_l_turnings) (defScope s_l_turnings) .none kV_l_turnings dc_l_turnings pm_l_turnings an_l_turnings cd_l_turnings ct_l_turnings), sl_l_turnings⟩)
    (c_l_turnings : PySem.W.codeIn K cd_l_turnings "_law_turnings" = true) (k_l_turnings : PySem.W.keepIn K (.ref f_l_turnings) = true)
    {od_l_early an_l_early : Option Addr} {sl_l_early : Array (Option Value)} {oc_l_early kV_l_early dc_l_early pm_l_early cd_l_early ct_l_early : Value}
    (a_l_early : PySem.W.nsIn K mainGlobals "_law_early" = some (some (.ref f_l_early)))
    (l_l_early : K.lookup f_l_early = some ⟨oc_l_early, od_l_early, .func (PySem.W.fnOf "_law_early" "_law_early" (defArgs s_l_early) (defBody s_l_early) (defScope s_l_early) .none kV_l_early dc_l_early pm_l_early an_l_early cd_l_early ct_l_early), sl_l_early⟩)
    (c_l_early : PySem.W.codeIn K cd_l_early "_law_early" = true) (k_l_early : PySem.W.keepIn K (.ref f_l_early) = true)
    {od_l_no_word an_l_no_word : Option Addr} {sl_l_no_word : Array (Option Value)} {oc_l_no_word kV_l_no_word dc_l_no_word pm_l_no_word cd_l_no_word ct_l_no_word : Value}
    (a_l_no_word : PySem.W.nsIn K mainGlobals "_law_no_word" = some (some (.ref f_l_no_word)))
    (l_l_no_word : K.lookup f_l_no_word = some ⟨oc_l_no_word, od_l_no_word, .func (PySem.W.fnOf "_law_no_word" "_law_no_word" (defArgs s_l_no_word) (defBody s_l_no_word) (defScope s_l_no_word) .none kV_l_no_word dc_l_no_word pm_l_no_word an_l_no_word cd_l_no_word ct_l_no_word), sl_l_no_word⟩)
    (c_l_no_word : PySem.W.codeIn K cd_l_no_word "_law_no_word" = true) (k_l_no_word : PySem.W.keepIn K (.ref f_l_no_word) = true)
    {od_l_mark an_l_mark : Option Addr} {sl_l_mark : Array (Option Value)} {oc_l_mark kV_l_mark dc_l_mark pm_l_mark cd_l_mark ct_l_mark : Value}
    (a_l_mark : PySem.W.nsIn K mainGlobals "_law_mark" = some (some (.ref f_l_mark)))
    (l_l_mark : K.lookup f_l_mark = some ⟨oc_l_mark, od_l_mark, .func (PySem.W.fnOf "_law_mark" "_law_mark" (defArgs s_l_mark) (defBody s_l_mark) (defScope s_l_mark) .none kV_l_mark dc_l_mark pm_l_mark an_l_mark cd_l_mark ct_l_mark), sl_l_mark⟩)
    (c_l_mark : PySem.W.codeIn K cd_l_mark "_law_mark" = true) (k_l_mark : PySem.W.keepIn K (.ref f_l_mark) = true)
    {od_l_refused an_l_refused : Option Addr} {sl_l_refused : Array (Option Value)} {oc_l_refused kV_l_refused dc_l_refused pm_l_refused cd_l_refused ct_l_refused : Value}
    (a_l_refused : PySem.W.nsIn K mainGlobals "_law_refused" = some (some (.ref f_l_refused)))
    (l_l_refused : K.lookup f_l_refused = some ⟨oc_l_refused, od_l_refused, .func (PySem.W.fnOf "_law_refused" "_law_refused" (defArgs s_l_refused) (defBody s_l_refused) (defScope s_l_refused) .none kV_l_refused dc_l_refused pm_l_refused an_l_refused cd_l_refused ct_l_refused), sl_l_refused⟩)
    (c_l_refused : PySem.W.codeIn K cd_l_refused "_law_refused" = true) (k_l_refused : PySem.W.keepIn K (.ref f_l_refused) = true)
    {od_l_right an_l_right : Option Addr} {sl_l_right : Array (Option Value)} {oc_l_right kV_l_right dc_l_right pm_l_right cd_l_right ct_l_right : Value}
    (a_l_right : PySem.W.nsIn K mainGlobals "_law_right" = some (some (.ref f_l_right)))
    (l_l_right : K.lookup f_l_right = some ⟨oc_l_right, od_l_right, .func (PySem.W.fnOf "_law_right" "_law_right" (defArgs s_l_right) (defBody s_l_right) (defScope s_l_right) .none kV_l_right dc_l_right pm_l_right an_l_right cd_l_right ct_l_right), sl_l_right⟩)
    (c_l_right : PySem.W.codeIn K cd_l_right "_law_right" = true) (k_l_right : PySem.W.keepIn K (.ref f_l_right) = true)
    {od_law an_law : Option Addr} {sl_law : Array (Option Value)} {oc_law kV_law dc_law pm_law cd_law ct_law : Value}
    (a_law : PySem.W.nsIn K mainGlobals "law" = some (some (.ref f_law)))
    (l_law : K.lookup f_law = some ⟨oc_law, od_law, .func (PySem.W.fnOf "law" "law" (defArgs s_law) (defBody s_law) (defScope s_law) .none kV_law dc_law pm_law an_law cd_law ct_law), sl_law⟩)
    (c_law : PySem.W.codeIn K cd_law "law" = true) (k_law : PySem.W.keepIn K (.ref f_law) = true)
    (z_len : PySem.W.nsIn K mainGlobals "len" = some none)
    (z_range : PySem.W.nsIn K mainGlobals "range" = some none)
    (z_sorted : PySem.W.nsIn K mainGlobals "sorted" = some none)
    (z_min : PySem.W.nsIn K mainGlobals "min" = some none)
    (z_max : PySem.W.nsIn K mainGlobals "max" = some none)
    (z_all : PySem.W.nsIn K mainGlobals "all" = some none)
    (z_isinstance : PySem.W.nsIn K mainGlobals "isinstance" = some none)
    (z_list : PySem.W.nsIn K mainGlobals "list" = some none)
    (z_tuple : PySem.W.nsIn K mainGlobals "tuple" = some none)
    (z_str : PySem.W.nsIn K mainGlobals "str" = some none)
    (z_bool : PySem.W.nsIn K mainGlobals "bool" = some none)
    (z_zip : PySem.W.nsIn K mainGlobals "zip" = some none)
    (z_enumerate : PySem.W.nsIn K mainGlobals "enumerate" = some none)
    (z_ValueError : PySem.W.nsIn K mainGlobals "ValueError" = some none)
    (z_sum : PySem.W.nsIn K mainGlobals "sum" = some none)
    (z_set : PySem.W.nsIn K mainGlobals "set" = some none)
    (z_dict : PySem.W.nsIn K mainGlobals "dict" = some none)
    (z_int : PySem.W.nsIn K mainGlobals "int" = some none)
    {tL : Tok} (z_L : PySem.W.nsIn K mainGlobals "LONGEST_WORD" = some (some (.int 300 tL)))
    (g_WordError : PySem.W.nsIn K mainGlobals "WordError" = some (some (.ref q_WordError)))
    (g_NoWord : PySem.W.nsIn K mainGlobals "NoWord" = some (some (.ref q_NoWord)))
    (g_NoSigns : PySem.W.nsIn K mainGlobals "NoSigns" = some (some (.ref q_NoSigns)))
    (g_NoCount : PySem.W.nsIn K mainGlobals "NoCount" = some (some (.ref q_NoCount)))
    (g_TooMany : PySem.W.nsIn K mainGlobals "TooMany" = some (some (.ref q_TooMany)))
    (g_NoRing : PySem.W.nsIn K mainGlobals "NoRing" = some (some (.ref q_NoRing)))
    (g_Twice : PySem.W.nsIn K mainGlobals "Twice" = some (some (.ref q_Twice)))
    (x_N : PySem.W.excIn K q_NoWord [.type "ValueError", .type "Exception", .type "BaseException", .type "object"] "ValueError.__new__" = true)
    (k_N : PySem.W.keepIn K (.ref q_NoWord) = true)
    (b_N : PySem.W.subIn K (.ref q_NoWord) (.type "BaseException") = some true)
    (t_N : PySem.W.typeIn K (.ref q_NoWord) = some (.type "type"))
    (y_hg : PySem.W.findIn K (.ref q_NoWord) "__getattribute__" = some (some (.builtin "BaseException.__getattribute__")))
    (y_hk : PySem.W.findIn K (.ref q_NoWord) "__getattr__" = some none)
    (y_hd : PySem.W.hasDictIn K q_NoWord = true)
    (y_ha : PySem.W.findIn K (.ref q_NoWord) "__class__" = some (some (.builtin "object.__class__")))
    (y_hn : PySem.W.specialIn K (.builtin "object.__class__") "__get__" = some (some (.builtin "getset_descriptor.__get__")))
    (y_ht : PySem.W.takesIn K (.builtin "object.__class__") = some true)
    (y_hm : PySem.W.mroIn K q_NoWord (.type "object") = some true)
    (y_s : PySem.W.subIn K (.ref q_NoWord) (.ref q_NoWord) = some true)
    (y_v : PySem.W.subIn K (.ref q_NoWord) (.type "ValueError") = some true)
    (d_WordError : PySem.W.hasDictIn K q_WordError = true)
    (t_WordError : PySem.W.typeIn K (.ref q_WordError) = some (.type "type"))
    (s_WordError : PySem.W.subIn K (.ref q_NoWord) (.ref q_WordError) = some true)
    (d_NoSigns : PySem.W.hasDictIn K q_NoSigns = true)
    (t_NoSigns : PySem.W.typeIn K (.ref q_NoSigns) = some (.type "type"))
    (s_NoSigns : PySem.W.subIn K (.ref q_NoWord) (.ref q_NoSigns) = some false)
    (d_NoCount : PySem.W.hasDictIn K q_NoCount = true)
    (t_NoCount : PySem.W.typeIn K (.ref q_NoCount) = some (.type "type"))
    (s_NoCount : PySem.W.subIn K (.ref q_NoWord) (.ref q_NoCount) = some false)
    (d_TooMany : PySem.W.hasDictIn K q_TooMany = true)
    (t_TooMany : PySem.W.typeIn K (.ref q_TooMany) = some (.type "type"))
    (s_TooMany : PySem.W.subIn K (.ref q_NoWord) (.ref q_TooMany) = some false)
    (d_NoRing : PySem.W.hasDictIn K q_NoRing = true)
    (t_NoRing : PySem.W.typeIn K (.ref q_NoRing) = some (.type "type"))
    (s_NoRing : PySem.W.subIn K (.ref q_NoWord) (.ref q_NoRing) = some false)
    (d_Twice : PySem.W.hasDictIn K q_Twice = true)
    (t_Twice : PySem.W.typeIn K (.ref q_Twice) = some (.type "type"))
    (s_Twice : PySem.W.subIn K (.ref q_NoWord) (.ref q_Twice) = some false)
    (b_WordError : PySem.W.subIn K (.ref q_WordError) (.type "BaseException") = some true) :
    ∃ fd : FuncData, (∀ (s : Shared) (v : Value), BindsTo s fd ⟨[v], []⟩ [("_law_script", v)]) ∧ ∀ base : Heap, K.In base → base.Ns mainGlobals mg → FnOk l.prog w K mg base CX0 8 fa fd ["_law_script"] (spLaw K) := by
  have e := hfa.symm.trans (PySem.W.mg_of X G a_law)
  cases e
  have B : Bt mg := ⟨PySem.W.mg_none_of X G z_len, PySem.W.mg_none_of X G z_range, PySem.W.mg_none_of X G z_sorted, PySem.W.mg_none_of X G z_min, PySem.W.mg_none_of X G z_max, PySem.W.mg_none_of X G z_all, PySem.W.mg_none_of X G z_isinstance, PySem.W.mg_none_of X G z_list, PySem.W.mg_none_of X G z_tuple, PySem.W.mg_none_of X G z_str, PySem.W.mg_none_of X G z_bool, PySem.W.mg_none_of X G z_zip, PySem.W.mg_none_of X G z_enumerate, PySem.W.mg_none_of X G z_ValueError, PySem.W.mg_none_of X G z_sum, PySem.W.mg_none_of X G z_set, PySem.W.mg_none_of X G z_dict, PySem.W.mg_none_of X G z_int, ⟨_, PySem.W.mg_of X G z_L, ⟨_, rfl⟩⟩⟩
  have R1 : Er1 K mg q_NoWord := ⟨PySem.W.mg_of X G g_NoWord, x_N, k_N, b_N, t_N⟩
  have R6 : Er6 K mg q_WordError q_NoWord q_NoSigns q_NoCount q_TooMany q_NoRing q_Twice := ⟨PySem.W.mg_of X G g_WordError, PySem.W.mg_of X G g_NoWord, PySem.W.mg_of X G g_NoSigns, PySem.W.mg_of X G g_NoCount, PySem.W.mg_of X G g_TooMany, PySem.W.mg_of X G g_NoRing, PySem.W.mg_of X G g_Twice, ⟨y_hg, y_hk, b_N, y_hd, y_ha, y_hn, y_ht, y_hm⟩, kit_self, kit_other y_s d_NoSigns t_NoSigns s_NoSigns, kit_other y_s d_NoCount t_NoCount s_NoCount, kit_other y_s d_TooMany t_TooMany s_TooMany, kit_other y_s d_NoRing t_NoRing s_NoRing, kit_other y_s d_Twice t_Twice s_Twice, kit_value y_v, PySem.W.exm_ref b_WordError d_WordError t_WordError s_WordError⟩
  have D_is_word : Dfn K mg "is_word" s_is_word p_is_word := ⟨f_is_word, _, fun_mk l_is_word c_is_word k_is_word, PySem.W.mg_of X G a_is_word, (fun_mk l_is_word c_is_word k_is_word).binds (ps := p_is_word) fun _ _ _ _ _ _ us hl => match us, hl with | [_], _ => rfl⟩
  have D_need_word : Dfn K mg "need_word" s_need_word p_need_word := ⟨f_need_word, _, fun_mk l_need_word c_need_word k_need_word, PySem.W.mg_of X G a_need_word, (fun_mk l_need_word c_need_word k_need_word).binds (ps := p_need_word) fun _ _ _ _ _ _ us hl => match us, hl with | [_], _ => rfl⟩
  have D_turnings : Dfn K mg "turnings" s_turnings p_turnings := ⟨f_turnings, _, fun_mk l_turnings c_turnings k_turnings, PySem.W.mg_of X G a_turnings, (fun_mk l_turnings c_turnings k_turnings).binds (ps := p_turnings) fun _ _ _ _ _ _ us hl => match us, hl with | [_], _ => rfl⟩
  have D_is_early : Dfn K mg "is_early" s_is_early p_is_early := ⟨f_is_early, _, fun_mk l_is_early c_is_early k_is_early, PySem.W.mg_of X G a_is_early, (fun_mk l_is_early c_is_early k_is_early).binds (ps := p_is_early) fun _ _ _ _ _ _ us hl => match us, hl with | [_], _ => rfl⟩
  have D_cuts : Dfn K mg "cuts" s_cuts p_cuts := ⟨f_cuts, _, fun_mk l_cuts c_cuts k_cuts, PySem.W.mg_of X G a_cuts, (fun_mk l_cuts c_cuts k_cuts).binds (ps := p_cuts) fun _ _ _ _ _ _ us hl => match us, hl with | [_], _ => rfl⟩
  have D_pieces : Dfn K mg "pieces" s_pieces p_pieces := ⟨f_pieces, _, fun_mk l_pieces c_pieces k_pieces, PySem.W.mg_of X G a_pieces, (fun_mk l_pieces c_pieces k_pieces).binds (ps := p_pieces) fun _ _ _ _ _ _ us hl => match us, hl with | [_], _ => rfl⟩
  have D_is_cutting : Dfn K mg "is_cutting" s_is_cutting p_is_cutting := ⟨f_is_cutting, _, fun_mk l_is_cutting c_is_cutting k_is_cutting, PySem.W.mg_of X G a_is_cutting, (fun_mk l_is_cutting c_is_cutting k_is_cutting).binds (ps := p_is_cutting) fun _ _ _ _ _ _ us hl => match us, hl with | [_, _], _ => rfl⟩
  have D_l_cell_at : Dfn K mg "_law_cell_at" s_l_cell_at p_l_cell_at := ⟨f_l_cell_at, _, fun_mk l_l_cell_at c_l_cell_at k_l_cell_at, PySem.W.mg_of X G a_l_cell_at, (fun_mk l_l_cell_at c_l_cell_at k_l_cell_at).binds (ps := p_l_cell_at) fun _ _ _ _ _ _ us hl => match us, hl with | [_, _], _ => rfl⟩
  have D_l_mixed : Dfn K mg "_law_mixed" s_l_mixed p_l_mixed := ⟨f_l_mixed, _, fun_mk l_l_mixed c_l_mixed k_l_mixed, PySem.W.mg_of X G a_l_mixed, (fun_mk l_l_mixed c_l_mixed k_l_mixed).binds (ps := p_l_mixed) fun _ _ _ _ _ _ us hl => match us, hl with | [_, _], _ => rfl⟩
  have D_l_truth : Dfn K mg "_law_truth" s_l_truth p_l_truth := ⟨f_l_truth, _, fun_mk l_l_truth c_l_truth k_l_truth, PySem.W.mg_of X G a_l_truth, (fun_mk l_l_truth c_l_truth k_l_truth).binds (ps := p_l_truth) fun _ _ _ _ _ _ us hl => match us, hl with | [_, _], _ => rfl⟩
  have D_l_signs : Dfn K mg "_law_signs" s_l_signs p_l_signs := ⟨f_l_signs, _, fun_mk l_l_signs c_l_signs k_l_signs, PySem.W.mg_of X G a_l_signs, (fun_mk l_l_signs c_l_signs k_l_signs).binds (ps := p_l_signs) fun _ _ _ _ _ _ us hl => match us, hl with | [_], _ => rfl⟩
  have D_l_drawn : Dfn K mg "_law_drawn" s_l_drawn p_l_drawn := ⟨f_l_drawn, _, fun_mk l_l_drawn c_l_drawn k_l_drawn, PySem.W.mg_of X G a_l_drawn, (fun_mk l_l_drawn c_l_drawn k_l_drawn).binds (ps := p_l_drawn) fun _ _ _ _ _ _ us hl => match us, hl with | [_, _, _], _ => rfl⟩
  have D_l_woven : Dfn K mg "_law_woven" s_l_woven p_l_woven := ⟨f_l_woven, _, fun_mk l_l_woven c_l_woven k_l_woven, PySem.W.mg_of X G a_l_woven, (fun_mk l_l_woven c_l_woven k_l_woven).binds (ps := p_l_woven) fun _ _ _ _ _ _ us hl => match us, hl with | [_, _], _ => rfl⟩
  have D_l_word : Dfn K mg "_law_word" s_l_word p_l_word := ⟨f_l_word, _, fun_mk l_l_word c_l_word k_l_word, PySem.W.mg_of X G a_l_word, (fun_mk l_l_word c_l_word k_l_word).binds (ps := p_l_word) fun _ _ _ _ _ _ us hl => match us, hl with | [_, _], _ => rfl⟩
  have D_l_turnings : Dfn K mg "_law_turnings" s_l_turnings p_l_turnings := ⟨f_l_turnings, _, fun_mk l_l_turnings c_l_turnings k_l_turnings, PySem.W.mg_of X G a_l_turnings, (fun_mk l_l_turnings c_l_turnings k_l_turnings).binds (ps := p_l_turnings) fun _ _ _ _ _ _ us hl => match us, hl with | [_], _ => rfl⟩
  have D_l_early : Dfn K mg "_law_early" s_l_early p_l_early := ⟨f_l_early, _, fun_mk l_l_early c_l_early k_l_early, PySem.W.mg_of X G a_l_early, (fun_mk l_l_early c_l_early k_l_early).binds (ps := p_l_early) fun _ _ _ _ _ _ us hl => match us, hl with | [_], _ => rfl⟩
  have D_l_no_word : Dfn K mg "_law_no_word" s_l_no_word p_l_no_word := ⟨f_l_no_word, _, fun_mk l_l_no_word c_l_no_word k_l_no_word, PySem.W.mg_of X G a_l_no_word, (fun_mk l_l_no_word c_l_no_word k_l_no_word).binds (ps := p_l_no_word) fun _ _ _ _ _ _ us hl => match us, hl with | [_], _ => rfl⟩
  have D_l_mark : Dfn K mg "_law_mark" s_l_mark p_l_mark := ⟨f_l_mark, _, fun_mk l_l_mark c_l_mark k_l_mark, PySem.W.mg_of X G a_l_mark, (fun_mk l_l_mark c_l_mark k_l_mark).binds (ps := p_l_mark) fun _ _ _ _ _ _ us hl => match us, hl with | [_], _ => rfl⟩
  have D_l_refused : Dfn K mg "_law_refused" s_l_refused p_l_refused := ⟨f_l_refused, _, fun_mk l_l_refused c_l_refused k_l_refused, PySem.W.mg_of X G a_l_refused, (fun_mk l_l_refused c_l_refused k_l_refused).binds (ps := p_l_refused) fun _ _ _ _ _ _ us hl => match us, hl with | [_, _], _ => rfl⟩
  have D_l_right : Dfn K mg "_law_right" s_l_right p_l_right := ⟨f_l_right, _, fun_mk l_l_right c_l_right k_l_right, PySem.W.mg_of X G a_l_right, (fun_mk l_l_right c_l_right k_l_right).binds (ps := p_l_right) fun _ _ _ _ _ _ us hl => match us, hl with | [_], _ => rfl⟩
  have FL := fun_mk (st := s_law) l_law c_law k_law
  refine ⟨PySem.W.fnOf "law" "law" (defArgs s_law) (defBody s_law) (defScope s_law) .none kV_law dc_law pm_law an_law cd_law ct_law, fun s v => .of_eq rfl, fun base _ _ => ?_⟩
  have c1 := ok_is_word (P := l.prog) (w := w) (base := base) B D_is_word
  have c2 := ok_need_word B R1 D_need_word c1
  have c4 := ok_turnings B D_turnings c2
  have c5 := ok_is_early B D_is_early c4
  have c6 := ok_cuts B D_cuts c2
  have c7 := ok_pieces B D_pieces c6
  have c8 := ok_is_cutting B D_is_cutting c1 c7
  have d1 := ok_mixed (P := l.prog) (w := w) (base := base) D_l_mixed
  have d2 := ok_cell (P := l.prog) (w := w) (base := base) B D_l_cell_at
  have d3 := ok_signs B D_l_signs d1
  have d4 := ok_drawn B D_l_drawn d1
  have d5 := ok_woven (P := l.prog) (w := w) (base := base) B D_l_woven
  have d6 := ok_word B D_l_word d1 d3 d4 d5
  have d7 := ok_lturnings (P := l.prog) (w := w) (base := base) B D_l_turnings
  have d8 := ok_learly B D_l_early d7
  have d9 := ok_ltruth (P := l.prog) (w := w) (base := base) B D_l_truth
  have e1 := ok_no_word (P := l.prog) (w := w) (base := base) D_l_no_word
  have e2 := ok_mark (P := l.prog) (w := w) (base := base) B R6 D_l_mark
  have e3 := ok_refused D_l_refused R6 c5 c7 c6 c8 e2
  have e4 := ok_right B D_l_right c5 d1 d6 d7 d8 d9 e1 e3
  exact ok_law B FL d1 d2 c5 e4
end Rk
open PySem PySem.W PyProof.Rows
set_option maxHeartbeats 0 in
theorem PySem.Challenge.cw_ringword_k03_early_holds : PySem.Challenge.rw_ringword_k03_early.Holds := by
  w_on; o_law; k_head; (case hw => w_witness2)
  k_fill
  refine L2.walk_of (l := PySem.Challenge.rw_ringword_k03_early) (n := 63) (k := 8) (x := "_law_script") (CX := fun _ => L2.CX0) (sp := fun w => Rw.spLaw _) rfl (by decide) rfl ⟨rfl, by decide, by decide⟩ (fun w h Y => PySem.W.kIn_of Y) ?F (fun _ _ a ns hl _ hS => ⟨a, ns, rfl, hS, hl, fun _ => rfl⟩) (fun _ _ _ _ _ h => h)
  case F =>
    intro w mg fa h KX G hmg
    refine' Rk.all_mk KX G hmg ?a_is_word ?l_is_word ?c_is_word ?k_is_word ?a_need_word ?l_need_word ?c_need_word ?k_need_word ?a_turnings ?l_turnings ?c_turnings ?k_turnings ?a_is_early ?l_is_early ?c_is_early ?k_is_early ?a_cuts ?l_cuts ?c_cuts ?k_cuts ?a_pieces ?l_pieces ?c_pieces ?k_pieces ?a_is_cutting ?l_is_cutting ?c_is_cutting ?k_is_cutting ?a_l_cell_at ?l_l_cell_at ?c_l_cell_at ?k_l_cell_at ?a_l_mixed ?l_l_mixed ?c_l_mixed ?k_l_mixed ?a_l_truth ?l_l_truth ?c_l_truth ?k_l_truth ?a_l_signs ?l_l_signs ?c_l_signs ?k_l_signs ?a_l_drawn ?l_l_drawn ?c_l_drawn ?k_l_drawn ?a_l_woven ?l_l_woven ?c_l_woven ?k_l_woven ?a_l_word ?l_l_word ?c_l_word ?k_l_word ?a_l_turnings ?l_l_turnings ?c_l_turnings ?k_l_turnings ?a_l_early ?l_l_early ?c_l_early ?k_l_early ?a_l_no_word ?l_l_no_word ?c_l_no_word ?k_l_no_word ?a_l_mark ?l_l_mark ?c_l_mark ?k_l_mark ?a_l_refused ?l_l_refused ?c_l_refused ?k_l_refused ?a_l_right ?l_l_right ?c_l_right ?k_l_right ?a_law ?l_law ?c_law ?k_law ?z_len ?z_range ?z_sorted ?z_min ?z_max ?z_all ?z_isinstance ?z_list ?z_tuple ?z_str ?z_bool ?z_zip ?z_enumerate ?z_ValueError ?z_sum ?z_set ?z_dict ?z_int ?z_L ?g_WordError ?g_NoWord ?g_NoSigns ?g_NoCount ?g_TooMany ?g_NoRing ?g_Twice ?x_N ?k_N ?b_N ?t_N ?y_hg ?y_hk ?y_hd ?y_ha ?y_hn ?y_ht ?y_hm ?y_s ?y_v ?d_WordError ?t_WordError ?s_WordError ?d_NoSigns ?t_NoSigns ?s_NoSigns ?d_NoCount ?t_NoCount ?s_NoCount ?d_TooMany ?t_TooMany ?s_TooMany ?d_NoRing ?t_NoRing ?s_NoRing ?d_Twice ?t_Twice ?s_Twice ?b_WordError
    (case a_is_word => first | k_is | rfl)
    (case l_is_word => first | k_is | rfl)
    (case c_is_word => first | k_is | rfl)
    (case k_is_word => first | k_is | rfl)
    (case a_need_word => first | k_is | rfl)
    (case l_need_word => first | k_is | rfl)
    (case c_need_word => first | k_is | rfl)
    (case k_need_word => first | k_is | rfl)
    (case a_turnings => first | k_is | rfl)
    (case l_turnings => first | k_is | rfl)
    (case c_turnings => first | k_is | rfl)
    (case k_turnings => first | k_is | rfl)
    (case a_is_early => first | k_is | rfl)
    (case l_is_early => first | k_is | rfl)
    (case c_is_early => first | k_is | rfl)
    (case k_is_early => first | k_is | rfl)
    (case a_cuts => first | k_is | rfl)
    (case l_cuts => first | k_is | rfl)
    (case c_cuts => first | k_is | rfl)
    (case k_cuts => first | k_is | rfl)
    (case a_pieces => first | k_is | rfl)
    (case l_pieces => first | k_is | rfl)
    (case c_pieces => first | k_is | rfl)
    (case k_pieces => first | k_is | rfl)
    (case a_is_cutting => first | k_is | rfl)
    (case l_is_cutting => first | k_is | rfl)
    (case c_is_cutting => first | k_is | rfl)
    (case k_is_cutting => first | k_is | rfl)
    (case a_l_cell_at => first | k_is | rfl)
    (case l_l_cell_at => first | k_is | rfl)
    (case c_l_cell_at => first | k_is | rfl)
    (case k_l_cell_at => first | k_is | rfl)
    (case a_l_mixed => first | k_is | rfl)
    (case l_l_mixed => first | k_is | rfl)
    (case c_l_mixed => first | k_is | rfl)
    (case k_l_mixed => first | k_is | rfl)
    (case a_l_truth => first | k_is | rfl)
    (case l_l_truth => first | k_is | rfl)
    (case c_l_truth => first | k_is | rfl)
    (case k_l_truth => first | k_is | rfl)
    (case a_l_signs => first | k_is | rfl)
    (case l_l_signs => first | k_is | rfl)
    (case c_l_signs => first | k_is | rfl)
    (case k_l_signs => first | k_is | rfl)
    (case a_l_drawn => first | k_is | rfl)
    (case l_l_drawn => first | k_is | rfl)
    (case c_l_drawn => first | k_is | rfl)
    (case k_l_drawn => first | k_is | rfl)
    (case a_l_woven => first | k_is | rfl)
    (case l_l_woven => first | k_is | rfl)
    (case c_l_woven => first | k_is | rfl)
    (case k_l_woven => first | k_is | rfl)
    (case a_l_word => first | k_is | rfl)
    (case l_l_word => first | k_is | rfl)
    (case c_l_word => first | k_is | rfl)
    (case k_l_word => first | k_is | rfl)
    (case a_l_turnings => first | k_is | rfl)
    (case l_l_turnings => first | k_is | rfl)
    (case c_l_turnings => first | k_is | rfl)
    (case k_l_turnings => first | k_is | rfl)
    (case a_l_early => first | k_is | rfl)
    (case l_l_early => first | k_is | rfl)
    (case c_l_early => first | k_is | rfl)
    (case k_l_early => first | k_is | rfl)
    (case a_l_no_word => first | k_is | rfl)
    (case l_l_no_word => first | k_is | rfl)
    (case c_l_no_word => first | k_is | rfl)
    (case k_l_no_word => first | k_is | rfl)
    (case a_l_mark => first | k_is | rfl)
    (case l_l_mark => first | k_is | rfl)
    (case c_l_mark => first | k_is | rfl)
    (case k_l_mark => first | k_is | rfl)
    (case a_l_refused => first | k_is | rfl)
    (case l_l_refused => first | k_is | rfl)
    (case c_l_refused => first | k_is | rfl)
    (case k_l_refused => first | k_is | rfl)
    (case a_l_right => first | k_is | rfl)
    (case l_l_right => first | k_is | rfl)
    (case c_l_right => first | k_is | rfl)
    (case k_l_right => first | k_is | rfl)
    (case a_law => first | k_is | rfl)
    (case l_law => first | k_is | rfl)
    (case c_law => first | k_is | rfl)
    (case k_law => first | k_is | rfl)
    (case z_len => first | k_is | rfl)
    (case z_range => first | k_is | rfl)
    (case z_sorted => first | k_is | rfl)
    (case z_min => first | k_is | rfl)
    (case z_max => first | k_is | rfl)
    (case z_all => first | k_is | rfl)
    (case z_isinstance => first | k_is | rfl)
    (case z_list => first | k_is | rfl)
    (case z_tuple => first | k_is | rfl)
    (case z_str => first | k_is | rfl)
    (case z_bool => first | k_is | rfl)
    (case z_zip => first | k_is | rfl)
    (case z_enumerate => first | k_is | rfl)
    (case z_ValueError => first | k_is | rfl)
    (case z_sum => first | k_is | rfl)
    (case z_set => first | k_is | rfl)
    (case z_dict => first | k_is | rfl)
    (case z_int => first | k_is | rfl)
    (case z_L => first | k_is | rfl)
    (case g_WordError => first | k_is | rfl)
    (case g_NoWord => first | k_is | rfl)
    (case g_NoSigns => first | k_is | rfl)
    (case g_NoCount => first | k_is | rfl)
    (case g_TooMany => first | k_is | rfl)
    (case g_NoRing => first | k_is | rfl)
    (case g_Twice => first | k_is | rfl)
    (case x_N => k_exc)
    (case k_N => first | k_is | rfl)
    (case b_N => first | k_is | rfl)
    (case t_N => first | k_is | rfl)
    (case y_hg => first | k_is | rfl)
    (case y_hk => first | k_is | rfl)
    (case y_hd => first | k_is | rfl)
    (case y_ha => first | k_is | rfl)
    (case y_hn => first | k_is | rfl)
    (case y_ht => first | k_is | rfl)
    (case y_hm => first | k_is | rfl)
    (case y_s => first | k_is | rfl)
    (case y_v => first | k_is | rfl)
    (case d_WordError => first | k_is | rfl)
    (case t_WordError => first | k_is | rfl)
    (case s_WordError => first | k_is | rfl)
    (case d_NoSigns => first | k_is | rfl)
    (case t_NoSigns => first | k_is | rfl)
    (case s_NoSigns => first | k_is | rfl)
    (case d_NoCount => first | k_is | rfl)
    (case t_NoCount => first | k_is | rfl)
    (case s_NoCount => first | k_is | rfl)
    (case d_TooMany => first | k_is | rfl)
    (case t_TooMany => first | k_is | rfl)
    (case s_TooMany => first | k_is | rfl)
    (case d_NoRing => first | k_is | rfl)
    (case t_NoRing => first | k_is | rfl)
    (case s_NoRing => first | k_is | rfl)
    (case d_Twice => first | k_is | rfl)
    (case t_Twice => first | k_is | rfl)
    (case s_Twice => first | k_is | rfl)
    (case b_WordError => first | k_is | rfl)
