import PyProof.Rows.All
import Wide.All
import OpenK.AllK
import Wide.FinOn
import HandS.ForMost
import HandS.ForExc
import HandS.Wide
import HandS.IsInst
import HandS.FStr
import HandS.Small
import HandS.Style
import HandS.Deep
import HandS.Walk
import HandS.ExcIs
import HandS.ExcValue
import HandS.SetFor
import HandS.Zip
import HandS.Evl
import KE.DataMinMax
import PyProof.CollectStr
import PyProof.StrOps2
import PyProof.Rows.SortShellAny
import HandS.DictComp
import HandS.SortKw
import HandS.StrMore
import KE.GoesMore
import HandS.Flow
import HandS.Strs
import KE.DataFind
import PySem.Challenge.RW_ringword_k12_book
set_option Elab.async false
set_option linter.all false
set_option maxRecDepth 100000
set_option maxHeartbeats 8000000
/-! Rules of our own, beside the hand layer: texts repeated and turned round, the least of texts, a text's signs sorted, a list of truths counted, a caught error kept. -/
namespace Rw
open PySem PySem.Spec PyProof.Rows L2

/-- a text by its codes -/
def T (l : List Nat) : Str := ⟨l.toArray⟩
theorem T_cps (l : List Nat) : (T l).cps.toList = l := by simp [T]
theorem T_of (z : Str) : T z.cps.toList = z := by cases z; simp [T]
theorem T_inj {a b : List Nat} (h : T a = T b) : a = b := by
  have e := congrArg (fun z : Str => z.cps.toList) h
  simpa [T_cps] using e
theorem T_len (l : List Nat) : (T l).length = l.length := by simp [T, Str.length]
theorem T_app (a b : List Nat) : T a ++ T b = T (a ++ b) := by
  show Str.append _ _ = _
  simp [T, Str.append]
section
variable {X : Cx}

/-! text * n -/
def rRepS : R2 := fun x y H Q => ∃ (l : List Nat) (k : Int), x = .str (T l) ∧ y = .int k ∧ 0 ≤ k ∧ k ≤ 100000 ∧ l.length * k.toNat ≤ 100000 ∧ Q (.str (T (List.replicate k.toNat l).flatten)) H
theorem rep_fold (l : List Nat) : ∀ (n : Nat) (acc : Array Nat), (List.replicate n l.toArray).foldl (· ++ ·) acc = acc ++ (List.replicate n l).flatten.toArray
  | 0, acc => by simp
  | n + 1, acc => by
    rw [List.replicate_succ, List.foldl_cons, rep_fold l n, List.replicate_succ, List.flatten_cons]
    simp [Array.append_assoc]
theorem op_rep_str : OpR X (binaryOp .Mult) rRepS := by
  intro pins s σ H x y v u Q I rx ry h
  obtain ⟨l, k, rfl, rfl, h0, h1, hz, q⟩ := h
  obtain ⟨t, rfl⟩ := rx
  obtain ⟨t', rfl⟩ := ry
  have hlen : (T l).length = l.length := T_len l
  have hll : l.length * k.toNat ≤ sizeLine := Nat.le_trans hz (by decide)
  refine P.mul_str (by
      have a1 : ¬ k < -(2 ^ 63 : Int) := by omega
      have a2 : ¬ k ≥ 2 ^ 63 := by omega
      rw [decide_eq_false a1, decide_eq_false a2]; rfl) (fun hk he => ?_) (fun hk he => ?_) ?_
  · rw [hlen]
    have hl : (l.length : Int) ≤ 100000 := by
      have : 1 ≤ k.toNat := by omega
      have := Nat.le_mul_of_pos_right l.length this
      omega
    intro hc
    have h2 : (2 ^ 63 - 1 : Int) / 100000 ≤ (2 ^ 63 - 1) / k := by
      refine Int.le_ediv_of_mul_le (by omega) ?_
      have : (2 ^ 63 - 1 : Int) / 100000 * k ≤ (2 ^ 63 - 1 : Int) / 100000 * 100000 := Int.mul_le_mul_of_nonneg_left h1 (by decide)
      exact Int.le_trans this (by decide)
    have h3 : (100000 : Int) ≤ (2 ^ 63 - 1) / 100000 := by decide
    omega
  · unfold Builtin.Str.tooLong
    rw [hlen]
    simp only [decide_eq_false_iff_not, gt_iff_lt]
    exact Nat.not_lt.mpr hll
  · by_cases hk : k < 1
    · have e : k = 0 := by omega
      subst e
      rw [if_pos (by decide)]
      exact ⟨by decide, .str _, H, I.tok _, ⟨_, rfl⟩, q⟩
    · rw [if_neg hk]
      by_cases he : (k == 1 || (T l).length == 0) = true
      · rw [if_pos he]
        have e : (List.replicate k.toNat l).flatten = l := by
          rw [hlen] at he
          simp only [Bool.or_eq_true, beq_iff_eq] at he
          rcases he with e | e
          · subst e; simp
          · have : l = [] := List.eq_nil_of_length_eq_zero e
            subst this
            simp
        rw [e] at q
        exact ⟨.str _, H, I, ⟨t, rfl⟩, q⟩
      · rw [if_neg he]
        have e := rep_fold l k.toNat #[]
        rw [Array.empty_append] at e
        show Made.post (Made.str ⟨(List.replicate k.toNat l.toArray).foldl (· ++ ·) #[]⟩) _ _
        rw [e]
        refine ⟨?_, .str _, H, I.tok _, ⟨_, rfl⟩, q⟩
        show (List.replicate k.toNat l).flatten.toArray.size ≤ sizeLine
        rw [List.size_toArray]
        have : (List.replicate k.toNat l).flatten.length = k.toNat * l.length := by simp
        rw [this, Nat.mul_comm]
        exact hll

/-! text[::-1] -/
def tRevS (te : TE) : TE := fun σ H Q => te σ H fun x H1 => ∃ l : List Nat, x = .str (T l) ∧ l.length ≤ 100000 ∧ Q (.str (T l.reverse)) H1
theorem rev_pick (x : Str) (t : Tok) : (slicePicked x none none (some ((-1 : Int), t))).filterMap (x.cps[·]?) = x.cps.toList.reverse := by
  have e : slicePicked x none none (some ((-1 : Int), t)) = (List.range x.cps.size).reverse := by
    show sliceRange ((x.length : Int) - 1) (-1) (-1) = _
    have h := PySem.W.krv_sliceRange x.length
    rw [h, PySem.W.krv_range]
    rfl
  rw [e, List.filterMap_reverse, PySem.W.krv_all]
theorem pe_revS {e : Expr} {te : TE} {k : Nat} {p1 p2 p3 pos : Pos} (he : PE X e te) : PE X (.Subscript e (.Slice none none (some (.UnaryOp .USub (.Constant (.int 1) k p1) p2)) p3) pos) (tRevS te) := by
  refine ⟨fun pins s σ H Q I h => ?_⟩
  refine Subscript_ (thn (he.run pins s σ H _ I h) fun v s1 ⟨x, H1, I1, r1, q1⟩ => ?_)
  obtain ⟨l, ex, hz, q⟩ := q1
  subst ex
  obtain ⟨t, rfl⟩ := r1
  have step : PO X (some (.UnaryOp .USub (.Constant (.int 1) k p1) p2)) (tPart (tUn (rU fun i => .int (-i)) (tC (.int 1)))) := po_some (pe_un un_neg pe_int)
  refine wpAny_Slice (thn (po_none.run pins s1 σ H1 (fun o H2 => o = none ∧ H2 = H1) I1 ⟨rfl, rfl⟩) fun vl s2 ⟨o1, H2, I2, pl, el, e2⟩ => ?_)
  subst el e2
  refine thn (po_none.run pins s2 σ H2 (fun o H3 => o = none ∧ H3 = H2) I2 ⟨rfl, rfl⟩) fun vu s3 ⟨o2, H3, I3, pu, eu, e3⟩ => ?_
  subst eu e3
  refine thn (step.run pins s3 σ H3 (fun o H4 => o = some (-1) ∧ H4 = H3) I3 ⟨1, rfl, -1, rfl, rfl, rfl⟩) fun vs s4 ⟨o3, H4, I4, ps, eo, e4⟩ => ?_
  subst eo e4
  have I5 : Inv X pins σ H4 { s4 with heap := s4.heap.push { cls := .type "slice", data := .fields #[vl, vu, vs] } } := I4.kept (t' := s4.toks) fun b ob q => Heap.get?_push_of_some _ q
  cases pl
  cases pu
  obtain ⟨u, rfl⟩ : ∃ u, vs = Value.int (-1) u := by
    cases ps with
    | int i u => exact ⟨u, rfl⟩
  show wpAny (model X.prog X.w) X.A (subscriptTail e (.Slice none none (some (.UnaryOp .USub (.Constant (.int 1) k p1) p2)) p3) (.str (T l) t) (.ref s4.heap.objs.size)) (EP X pins σ Q) X.xe _
  refine tail_any (ops := [.str (T l) t, .ref s4.heap.objs.size]) (typeIs_str _ _ _) (F.slot_str_getitem.lookup) ?_ (by with_unfolding_all rfl)
  refine wpAny_getItem_str_slice (l := none) (u := none) (st := some ((-1 : Int), u)) ⟨_, Heap.get?_push_size _ rfl, rfl, rfl⟩ (by rfl) ?_
  have nq : (((some ((-1 : Int), u) : Option (Int × Tok)).map (·.1)).getD 1 == 1 && (slicePicked (T l) none none (some ((-1 : Int), u))).length == (T l).length) = false := by
    show (((-1 : Int) == 1) && _) = false
    rfl
  unfold sliceMade
  rw [nq, if_neg Bool.false_ne_true, rev_pick, T_cps]
  refine ⟨?_, .str _, H4, I5.tok _, ⟨_, rfl⟩, q⟩
  show l.reverse.toArray.size ≤ sizeLine
  rw [List.size_toArray, List.length_reverse]
  exact Nat.le_trans hz (by decide)

/-! min of a list of texts -/
def lstT (x : List Nat) (ys : List (List Nat)) : List Nat := ys.foldl (fun a y => if y < a then y else a) x
def rMinT (K : PySem.W.Frag) : List V → Hp → VK → Prop := fun vs H Q => ∃ (a : Addr) (x : List Nat) (ys : List (List Nat)), vs = [V.ref a] ∧ SqL K H a (V.str (T x) :: ys.map fun y => V.str (T y)) ∧ Q (.str (T (lstT x ys))) H
theorem minD_strs (ys : List (List Nat)) : ∀ x : List Nat, PySem.W.minD (.str (T x)) (ys.map fun y => .str (T y)) = .str (T (lstT x ys)) := by
  induction ys with
  | nil => intro x; rfl
  | cons y r ih =>
    intro x
    show PySem.W.minD (if PySem.W.dataLt (.str (T y)) (.str (T x)) = true then .str (T y) else .str (T x)) (r.map fun y => .str (T y)) = _
    rw [PySem.W.dataLt_str, T_cps, T_cps]
    by_cases h : y < x
    · rw [decide_eq_true h, if_pos rfl, ih]
      unfold lstT
      rw [List.foldl_cons, if_pos h]
    · rw [decide_eq_false h, if_neg Bool.false_ne_true, ih]
      unfold lstT
      rw [List.foldl_cons, if_neg h]
theorem reads_strs {h : Heap} : ∀ {us : List Value} {ys : List (List Nat)}, Vals (ys.map fun y => V.str (T y)) us → ReadsAll h us (ys.map fun y => PyData.str (T y)) []
  | us, [], r => by
    cases r
    exact .nil
  | us, y :: ys, r => by
    rw [List.map_cons] at r
    cases r with
    | cons r1 r2 =>
      obtain ⟨t, rfl⟩ := r1
      exact ReadsAll.cons (as := []) (.str (T y) t) (reads_strs r2)
theorem cr_minT (hc : X.calm = true) (hu : X.A.units + 64 < cLine) : CallR X (.builtin "min") (rMinT X.K) := by
  intro pins s σ H vs us Q I r h
  obtain ⟨a, x, ys, rfl, hs, q⟩ := h
  obtain ⟨its, rv, hl, _⟩ := I.list hs
  rw [Vals.ref1 r]
  have rv' : Vals ((x :: ys).map fun y => V.str (T y)) its := rv
  have hd : ∀ l : List (List Nat), PyData.depthAll (l.map fun y => PyData.str (T y)) ≤ 1 := by
    intro l
    induction l with
    | nil => decide
    | cons y r ih =>
      rw [List.map_cons]
      unfold PyData.depthAll
      refine Nat.max_le.mpr ⟨?_, ih⟩
      first | decide | (show PyData.depth (.str _) ≤ 1; unfold PyData.depth; decide)
  have ha : PySem.W.AlikeAll ((x :: ys).map fun y => PyData.str (T y)) := by
    refine ⟨fun p hp q hq => ?_, fun p hp e => ?_⟩
    · obtain ⟨y, _, rfl⟩ := List.mem_map.mp hp
      obtain ⟨z, _, rfl⟩ := List.mem_map.mp hq
      rfl
    · obtain ⟨y, _, rfl⟩ := List.mem_map.mp hp
      cases e
  refine PySem.W.min_list_data (x := .str (T x)) (xs := ys.map fun y => .str (T y)) (I.ok.hd hc) hl.isList (by simpa using reads_strs (h := s.heap) rv') ha (by have := hd (x :: ys); simp only [List.map_cons] at this; omega) fun i v h' tk bs hv hr hk => ?_
  rw [minD_strs] at hr
  obtain ⟨t, rfl⟩ : ∃ t, v = Value.str (T (lstT x ys)) t := by
    cases hr with
    | str z t => exact ⟨t, rfl⟩
  exact ⟨.str _, H, I.kept hk, ⟨_, rfl⟩, q⟩

/-! sorted(text) -/
def rSortedT : List V → Hp → VK → Prop := fun vs H Q => ∃ l : List Nat, vs = [V.str (T l)] ∧ l.length ≤ 100000 ∧
  ∀ (ys : List Str) (p : Addr), ys.Perm (l.map fun c => T [c]) → H p = none → Q (.ref p) (upd H p (.lst (ys.map V.str)))
theorem strs_signs : ∀ (l : List Nat) (us : List Value), us.length = l.length → (∀ (j : Nat) (v : Value), us[j]? = some v → ∃ (c : Nat) (u : Tok), l[j]? = some c ∧ v = Value.str ⟨#[c]⟩ u) → StrsAre us (l.map fun c => T [c])
  | [], [], _, _ => .nil
  | [], _ :: _, h, _ => by simp at h
  | c :: l, [], h, _ => by simp at h
  | c :: l, v :: us, h, f => by
    obtain ⟨c', u, e1, e2⟩ := f 0 v rfl
    cases e1
    subst e2
    exact .cons _ _ (strs_signs l us (by simpa using h) fun j w hw => f (j + 1) w hw)
theorem cr_sortedT (hc : X.calm = true) : CallR X (.builtin "sorted") rSortedT := by
  intro pins s σ H vs us Q I r h
  obtain ⟨l, rfl, hz, q⟩ := h
  obtain ⟨u, rfl, ru⟩ := r.one
  obtain ⟨t, rfl⟩ := ru
  have hzl : l.length ≤ sizeLine := Nat.le_trans hz (by decide)
  refine Calls.call_function_entry kind_sorted plain_sorted entry_sorted (args_sorted1 _) ?_
  unfold Builtin.«sorted»
  refine wpAny_bind (m := checkCount "sorted" 1 1 _) (wpAny_pure ?_)
  refine wpAny_bind (wpAny_collect_str (by exact I.ok.hd hc) (T l) t (fun s' acc hk hg hd ho hacc => ?_) (by show l.toArray.size ≤ sizeLine; rw [List.size_toArray]; exact hzl))
  obtain ⟨hp, g, d, tk, os⟩ := s'
  simp only at hk hg hd ho
  subst hg hd ho
  have I1 : Inv X pins σ H { s with heap := hp, toks := tk } := I.kept hk
  obtain ⟨h1, h2⟩ := hacc
  have hsz : acc.toList.length = l.length := by
    rw [Array.length_toList, h1]
    show l.toArray.size = _
    rw [List.size_toArray]
  have hS : StrsAre acc.toList (l.map fun c => T [c]) := strs_signs l acc.toList hsz fun j v hv => by
    obtain ⟨c, w, e1, e2⟩ := h2 j v (by simpa using hv)
    refine ⟨c, w, ?_, e2⟩
    have : (T l).cps[j]? = l[j]? := by simp [T]
    rw [← this]
    exact e1
  refine wpAny_bind (wpAny_newList ?_ (by rw [hsz]; exact hzl))
  have hoL : (hp.push (seqObj "list" acc.toList.toArray 0)).get? hp.objs.size = some (seqObj "list" acc.toList.toArray 0) := Heap.get?_push_size _ rfl
  refine wpAny_bind (wpAny_holding (wpAny_call_entry slot_list_sort ⟨_, hoL, rfl⟩ entry_list_sort (list_sort_treeKAny strKind_oneLt hoL hS.keysOf (fun v₁ v₂ rest e => keyKind_strs (by rw [← e]; exact hS)) (by rw [hsz]; exact hzl) fun st' a1 a2 => ⟨_, rfl, ?_⟩) (args_list_sort _)))
  obtain ⟨ss', b1, b2, b3⟩ := sorted_out_str hS a1 a2
  refine wpAny_pure ⟨_, rfl, ?_⟩
  obtain ⟨ep, he'⟩ := sortedHeap_at (vs := acc.toList) (out := (arrOf st').map (·.2)) hoL
  have hlen : (ss'.map V.str).length ≤ sizeLine := by
    rw [List.length_map, b2.length_eq, List.length_map]
    exact hzl
  refine ⟨.ref hp.objs.size, upd H hp.objs.size (.lst (ss'.map V.str)), I1.laid (t' := tk) (fun b u hu => ?_) (Nat.le_refl _) ⟨hlen, ((arrOf st').map (·.2)).toList, ep, vals_of_strs b1, by rw [Array.toArray_toList]; exact he'⟩, rfl, q _ _ b2 (I1.hok.fresh (Nat.le_refl _))⟩
  have hb : b ≠ hp.objs.size := Nat.ne_of_lt (Heap.lt_size hu)
  rw [sortedHeap_old hb (by rw [size_push']; exact Nat.lt_succ_of_lt (Heap.lt_size hu))]
  exact Heap.get?_push_of_some _ hu

/-! xs.count(True), truths -/
def rCntB (K : PySem.W.Frag) : V → List V → Hp → VK → Prop := fun x xs H Q => ∃ (p : Addr) (bs : List Bool), x = .ref p ∧ xs = [.bl true] ∧ SqL K H p (bs.map V.bl) ∧ Q (.int (bs.count true : Nat)) H
def eqT (v : Value) : Bool := match v with
  | .bool b => b
  | _ => false
theorem mt_countB : MtR X "list.count" (rCntB X.K) := by
  intro pins s σ H x xs v us Q I rx rxs h
  obtain ⟨p, bs, rfl, rfl, hs, q⟩ := h
  cases rx
  obtain ⟨u, rfl, ru⟩ := rxs.one
  cases (show u = Value.bool true from ru)
  obtain ⟨its, rv, ⟨⟨cls, dd, data, sl⟩, n, ho, hc, hdn, hd⟩, hlen⟩ := I.list hs
  simp only at hc hd
  subst hc hd
  have hb : ∀ {bs : List Bool} {its : List Value}, Vals (bs.map V.bl) its → its = bs.map Value.bool := by
    intro bs
    induction bs with
    | nil => intro its r; cases r; rfl
    | cons b bs ih =>
      intro its r
      rw [List.map_cons] at r
      cases r with
      | cons r1 r2 =>
        rw [ih r2]
        cases (show _ = Value.bool b from r1)
        rfl
  have e := hb rv
  subst e
  refine call_meets PySem.F.slot_list_count ⟨_, ho, rfl⟩ PySem.F.entry_list_count (PySem.F.args_list_count_2 _ _)
    (SeqAt.list_countAt p (bs.map Value.bool).toArray n dd sl (.bool true) eqT) ⟨ho, fun y hy => ?_, ?_⟩
  · obtain ⟨b, _, rfl⟩ := List.mem_map.mp (List.mem_toArray.mp hy)
    cases b with
    | true => exact SeqAt.EqAt.bool_bool true true
    | false => exact SeqAt.EqAt.bool_bool false true
  · have ec : (bs.map Value.bool).toArray.toList.countP eqT = bs.count true := by
      show (bs.map Value.bool).countP eqT = _
      rw [List.countP_map]
      unfold List.count
      congr 1
      funext b
      cases b <;> rfl
    rw [ec]
    exact ⟨.int _, H, I.tok _, ⟨s.toks, rfl⟩, q⟩

/-! a caught error, kept: an exception object of the class cls that stands at a -/
def ExV (cls : Value) (a : Addr) : HO := .ext fun h => ∃ (oe : Obj) (vs : Array Value), h.get? a = some oe ∧ Zc cls none oe ∧ oe.data = .fields vs
theorem exV_ok {P : Program} {w : World} {H : Hp} {h : Heap} {a : Addr} {cls : Value} {oe : Obj} {vs : Array Value} (e : h.get? a = some oe) (z : Zc cls none oe) (d : oe.data = .fields vs) : ObjOk P w H h a (ExV cls a) :=
  ⟨⟨oe, vs, e, z, d⟩, ⟨oe, e⟩, fun _ _ ⟨o, v, q, r⟩ k => ⟨o, v, k o q, r⟩⟩
/-- an object that was not there at the def's entry, and is not tracked, may be tracked -/
theorem track {pins : List (Addr × Obj)} {σ : L2.St} {H : Hp} {s : Shared} {a : Addr} {o : HO} (I : Inv X pins σ H s) (n0 : X.s_0.heap.get? a = none) (hn : H a = none) (nL : a ≠ X.env.locals)
    (nC : ∀ x c, X.env.cells.lookup x = some c → c ≠ a) (nP : ∀ p ∈ X.pn ++ pins, p.1 ≠ a) (new : ObjOk X.prog X.w (upd H a o) s.heap a o) : Inv X pins σ (upd H a o) s := by
  have ne0 : ∀ b u, X.s_0.heap.get? b = some u → b ≠ a := fun b u e z => by
    rw [z, n0] at e
    cases e
  refine ⟨I.ok, I.os, I.bare, ⟨I.base.keep, I.base.slot, fun b u e n hq => ?_, I.base.there, fun b xs e => ?_, fun b u v e => ?_, fun b ps e => ?_⟩, I.loc, I.cell, ?_, fun x c e => ?_, fun p hp => ?_, HOk.laidN I.hok (fun _ _ q => q) hn new, I.len⟩
  · rw [upd_ne (ne0 b u e)]
    exact I.base.free b u e n hq
  · have q := I.base.tups b xs e
    rw [upd_ne (ne_of_none q hn)]
    exact q
  · have q := I.base.frzs b u v e
    rw [upd_ne (ne_of_none q hn)]
    exact q
  · obtain ⟨m, q⟩ := I.base.tbls b ps e
    exact ⟨m, by rw [upd_ne (ne_of_none q hn)]; exact q⟩
  · rw [upd_ne (Ne.symm nL)]
    exact I.free
  · rw [upd_ne (nC x c e)]
    exact I.freeC x c e
  · obtain ⟨e, n, ne, nf, d⟩ := I.pin p hp
    exact ⟨e, by rw [upd_ne (nP p hp)]; exact n, ne, nf, d⟩
/-- isinstance(e, c), e such an error -/
def rIsX (K : PySem.W.Frag) : List V → Hp → VK → Prop := fun xs H Q => ∃ (a D : Addr) (c : V) (cv : Value) (b : Bool), xs = [.ref a, c] ∧ H a = some (ExV (.ref D) a) ∧ ExcC K D ∧ (∀ u, RelV c u → u = cv) ∧ PySem.W.kitOne K (.ref D) cv = some b ∧ Q (.bl b) H
theorem call_isX : CallR X (.builtin "isinstance") (rIsX X.K) := by
  intro pins s σ H xs us Q I r h
  obtain ⟨a, D, c, cv, b, rfl, ha, C, hcv, e, q⟩ := h
  obtain ⟨u1, u2, rfl, rx, rt⟩ := vals2 r
  cases rx
  have ec := hcv _ rt
  subst ec
  obtain ⟨⟨oe, vs, hget, hz, hv⟩, _, _⟩ := (show ObjOk X.prog X.w H s.heap a (ExV (.ref D) a) from I.hok a _ ha)
  have J : PySem.W.InstAt s.heap a oe D none := by
    obtain ⟨oc, od, oda, osl⟩ := oe
    obtain ⟨h1, h2⟩ := hz
    dsimp only at h1 h2 hv
    subst h1 h2 hv
    exact ⟨hget, rfl, rfl, trivial⟩
  exact PySem.W.kia_one (PySem.W.handS_kitx_exc C.hg C.hk C.hs C.hd C.ha C.hn C.ht C.hm) I.kIn J e (fun z => nomatch z) fun tk => ⟨.bl b, H, I.tok _, rfl, q⟩

/-- what the clause «except c as n: m = n» asks of an error of the body (n in slot i, m in slot j): the clause takes it, and what follows holds with the error kept -/
def wVal (K : PySem.W.Frag) (c : Value) (i j : Nat) (D : Ends) : WX := fun cls d σ H =>
  PySem.W.exmOne K cls c = some true ∧ d = none ∧ ∀ a, H a = none → D.nx ((σ.set i (some (.ref a))).set j (some (.ref a)) |>.set i none) (upd H a (ExV cls a))
/-- an error that has come down: the state, the error's place, all that is known of it -/
structure Caught (X : Cx) (pins : List (Addr × Obj)) (σ : L2.St) (H : Hp) (s : Shared) (a : Addr) (cls : Value) : Prop where
  inv : Inv X pins σ H s
  free : H a = none
  new0 : X.s_0.heap.get? a = none
  loc : a ≠ X.env.locals
  frs : a ∉ X.fs
  cel : ∀ x c, X.env.cells.lookup x = some c → c ≠ a
  pin : ∀ p ∈ X.pn ++ pins, p.1 ≠ a
theorem ps_try_val {x n m : Str} {c : Value} {i j : Nat} {body orelse : List Stmt} {np p1 p2 p3 p4 pos : Pos} {tb : WX → TS} {u : TS} (ho : PSs X orelse u) (st : X.stack = X.env :: X.outer) (fm : X.env.frame = some X.env.locals) (ex0 : X.ex = [])
    (nd : X.N.Nodup) (hi : X.N[i]? = some n) (hj : X.N[j]? = some m) (ln : X.env.scope.names.lookup n = some .local) (lm : X.env.scope.names.lookup m = some .local) (kn : X.env.kindOf n = some .local) (nm : Names X x c) (nb1 : (n == ("__debug__" : Str)) = false) (nb2 : (n == ("__classdict__" : Str)) = false)
    (sw : swapsWith (.Name n p2) (some (.Name m p1)) p3.line X.env = pure false)
    (hb : ∀ (W : WX) (pn : List (Addr × Obj)) (xe : Value → Shared → Prop), Takes (X.tr pn xe) W → PassesOwn (model X.prog X.w) X.A X.env xe → PSs (X.tr pn xe) body (tb W)) :
    PS X (.Try body [.ExceptHandler (some (.Name x np)) (some n) [.Assign [.Name m p1] (.Name n p2) p3] p4] orelse [] pos) (fun D σ H => tb (wVal X.K c i j D) { D with nx := u D } σ H) := by
  constructor
  intro pins s σ H D I h
  have ok := I.ok
  have frames : X.A.frames = some (X.env :: X.outer) := st ▸ ok.frames
  apply wpAny_Try_except
  refine wpAny_mono ((hb (wVal X.K c i j D) (X.pn ++ pins) _ ?caught PassesOwn.looking).run [] s σ H { D with nx := u D } (I.toTry _) h) ?after (fun e s1 he => he)
  case caught =>
    rintro e s' ⟨a, B, sI, ps', σ', H', cls, d, rfl, J0, keepB, up, sky, na, os, ag, hyes, hd0, hgo⟩
    subst hd0
    have J : Inv X pins σ' H' sI := J0.ofTry ok
    rw [st] at keepB
    have sky' : Sky B (X.env :: X.outer) a (Zc cls none) X.env.locals s'.heap := st ▸ sky
    apply Sky.land Zc.steady frames fm sky'
    intro h3 fly up3
    have land : ∀ h4 : Heap, HandSPX.FlyingZ B (X.env :: X.outer) a (Zc cls none) h4 → sI.heap.UpToSlots h4 → Inv X pins σ' H' { s' with heap := h4 } := fun h4 fl u4 => J.landed (by rw [st]; exact keepB) fl.1 u4 os ag
    have J3 := land h3 fly (up.trans up3)
    obtain ⟨oe3, vs3, g3, z3, d3⟩ := fly.there
    have notF : a ∉ frs (X.env :: X.outer) := fun hm => by
      obtain ⟨_, o', e', hnf⟩ := fly.2.2.1.mem hm
      rw [g3] at e'
      cases e'
      exact hnf _ d3
    have nL : a ≠ X.env.locals := fun z => notF (List.mem_filterMap.mpr ⟨X.env, List.mem_cons_self, by rw [fm, z]⟩)
    have nF : a ∉ X.fs := fun hm => by
      obtain ⟨e, he, q⟩ := List.mem_filterMap.mp hm
      exact notF (List.mem_filterMap.mpr ⟨e, List.mem_cons_of_mem _ he, q⟩)
    have gone : sI.heap.get? a = none := by
      cases q : sI.heap.get? a with
      | none => rfl
      | some o =>
        have z := keepB a o q notF
        rw [fly.2.1] at z
        cases z
    have new0 : X.s_0.heap.get? a = none := by
      cases q : X.s_0.heap.get? a with
      | none => rfl
      | some o =>
        obtain ⟨o', z⟩ := J.base.there a o q (by rw [ex0]; exact fun z => nomatch z)
        rw [gone] at z
        cases z
    have cel : ∀ x c, X.env.cells.lookup x = some c → c ≠ a := fun y w e z => by
      obtain ⟨v, o, q, _⟩ := J.cell y w e
      rw [z, gone] at q
      cases q
    have pin : ∀ p ∈ X.pn ++ pins, p.1 ≠ a := fun p hp z => by
      have q := (J.pin p hp).1
      rw [z, gone] at q
      cases q
    have C : Caught X pins σ' H' sI a cls := ⟨J, na, new0, nL, nF, cel, pin⟩
    have S3 := J3.suite g3 d3 na nL nF
    apply wpAny_handleBy_cons _ (by intro q; cases q)
    apply codeAny_handlers_test
    have tyA : PySem.W.Looks (model X.prog X.w) h3 (typeOf (.ref a)) cls := fun A Q E s k q => wpAny_typeOf_ref (k _ _ g3) (by rw [z3.1]; exact q)
    have fits := PySem.W.exm_one (M := model X.prog X.w) J3.kIn tyA hyes
    have ask : ∀ {Q : Value → Shared → Prop} {E : Value → Shared → Prop}, Q c { s' with heap := h3 } → wpAny (model X.prog X.w) (X.A.mark (some (.ref a))) (eval (.Name x np) X.env) Q E { s' with heap := h3 } := by
      intro Q E q
      rcases nm with ⟨hg, dbg, hm | ⟨hm, hv, hn⟩⟩
      · exact ld_glob (X := X.suite a ((a, oe3) :: (X.pn ++ pins))) S3 hg hm q dbg
      · exact ld_blt (X := X.suite a ((a, oe3) :: (X.pn ++ pins))) S3 hg hm hv q hn dbg
    apply ask
    apply fits.here
    apply codeAny_handlers_suite_as
    apply HandSPX.lands_againZ fly
    intro h4 fly4 up4
    obtain ⟨oe4, vs4, g4, z4, d4⟩ := fly4.there
    have S4 := (land h4 fly4 ((up.trans up3).trans up4)).suite g4 d4 na nL nF
    apply store_ok (X := X.suite a ((a, oe4) :: (X.pn ++ pins))) (v := .ref a) S4 nd hi (Or.inl ln) rfl _ (Or.inr ln)
    intro s5 S5
    have suite : PSs (X.suite a ((a, oe4) :: (X.pn ++ pins))) [.Assign [.Name m p1] (.Name n p2) p3] (tAsg (tVar i) (gName j)) :=
      pss_one (ps_asg (pe_var hi (Or.inl ln) nb1 nb2) (pg_name nd hj (Or.inl lm) (Or.inr lm)) sw)
    have hiN : i < (σ'.set i (some (V.ref a))).length := by
      rw [List.length_set, J.len]
      exact (List.getElem?_eq_some_iff.mp hi).1
    have rs := suite.run [] s5 _ H' ⟨fun σ6 H6 => σ6 = (σ'.set i (some (V.ref a))).set j (some (V.ref a)) ∧ H6 = H', fun _ _ => False, fun _ _ => False, fun _ _ => False⟩ S5
      ⟨V.ref a, by rw [List.length_set] at hiN; rw [List.getElem?_set_self hiN], rfl, rfl⟩
    apply wpAny_mono rs _ fun _ _ z => False.elim z
    intro f s6 q
    cases f with
    | next =>
      obtain ⟨σ6, H6, S6, rfl, rfl⟩ := q
      have g6 := (S6.pin (a, oe4) (List.mem_append_left _ List.mem_cons_self)).1
      have J6 := track (S6.unsuite ok) C.new0 C.free C.loc C.cel C.pin (exV_ok g6 z4 d4)
      exact gone_ok J6 nd hi kn fun s7 J7 => ⟨_, _, J7, hgo a na⟩
    | brk => obtain ⟨_, _, _, z⟩ := q; exact z.elim
    | cont => obtain ⟨_, _, _, z⟩ := q; exact z.elim
    | ret w => obtain ⟨_, _, _, _, _, z⟩ := q; exact z.elim
  case after =>
    intro f s1 q
    cases f with
    | next =>
      obtain ⟨σ', H', K1, z⟩ := q
      exact ho.run pins s1 σ' H' D (K1.ofTry ok) z
    | brk =>
      obtain ⟨σ', H', K1, z⟩ := q
      exact ⟨σ', H', K1.ofTry ok, z⟩
    | cont =>
      obtain ⟨σ', H', K1, z⟩ := q
      exact ⟨σ', H', K1.ofTry ok, z⟩
    | ret w =>
      obtain ⟨v, σ', H', K1, r, z⟩ := q
      exact ⟨v, σ', H', K1.ofTry ok, r, z⟩
end
end Rw
namespace Rw
open PySem PySem.Spec PyProof.Rows L2

theorem big {n : Nat} (h : n ≤ 100000) : n ≤ sizeLine := Nat.le_trans h (by decide)
theorem bigL {n : Nat} (h : n ≤ 100000) : n < sizeLine := Nat.lt_of_le_of_lt h (by decide)
/-- a text, a list of texts, as values -/
abbrev tv (l : List Nat) : V := .str (T l)
abbrev tvs (ls : List (List Nat)) : List V := ls.map tv
theorem tv_inj {a b : List Nat} (h : tv a = tv b) : a = b := T_inj (V.str.inj h)
theorem tv_dec (a b : List Nat) : decide (tv a = tv b) = decide (a = b) := by
  by_cases e : a = b
  · subst e; simp
  · rw [decide_eq_false e, decide_eq_false fun z => e (tv_inj z)]
theorem T_beq (a b : List Nat) : (T a == T b) = decide (a = b) := by
  by_cases e : a = b
  · subst e; simp
  · rw [decide_eq_false e]
    exact beq_eq_false_iff_ne.mpr fun z => e (T_inj z)
/-- l[lo:hi] -/
def cutL {α : Type} (l : List α) (lo hi : Option Int) : List α := (l.drop (HT.sIx l.length 0 lo)).take (HT.sIx l.length l.length hi - HT.sIx l.length 0 lo)
theorem cutS_T (l : List Nat) (lo hi : Option Int) : cutS (T l) lo hi = T (cutL l lo hi) := by
  unfold cutS cutL
  rw [T_len, T_cps]
  rfl
theorem cutL_len {α : Type} (l : List α) (lo hi : Option Int) : (cutL l lo hi).length ≤ l.length := by
  unfold cutL
  rw [List.length_take, List.length_drop]
  omega
theorem sIxN (n d k : Nat) : HT.sIx n d (some (k : Int)) = min k n := HT.sIx_nat n d k
theorem cutL_from {α : Type} (l : List α) (k : Nat) : cutL l (some (k : Int)) none = l.drop k := by
  unfold cutL
  rw [sIxN, HT.sIx_none]
  by_cases h : k ≤ l.length
  · rw [Nat.min_eq_left h]
    exact List.take_of_length_le (by rw [List.length_drop]; exact Nat.le_refl _)
  · have h' : l.length ≤ k := by omega
    rw [Nat.min_eq_right h', List.drop_of_length_le (l := l) (Nat.le_refl _), List.drop_of_length_le (l := l) h']
    simp
theorem cutL_to {α : Type} (l : List α) (k : Nat) : cutL l none (some (k : Int)) = l.take k := by
  unfold cutL
  rw [sIxN, HT.sIx_none, List.drop_zero, Nat.sub_zero]
  by_cases h : k ≤ l.length
  · rw [Nat.min_eq_left h]
  · have h' : l.length ≤ k := by omega
    rw [Nat.min_eq_right h', List.take_of_length_le (l := l) (Nat.le_refl _), List.take_of_length_le (l := l) h']
theorem cutL_but {α : Type} (l : List α) : cutL l none (some (-1)) = l.dropLast := by
  unfold cutL
  have e : HT.sIx l.length l.length (some (-1)) = l.length - 1 := by
    show (if (-1 : Int) < 0 then ((-1 : Int) + (l.length : Int)).toNat else min (-1 : Int).toNat l.length) = _
    rw [if_pos (by decide)]
    omega
  rw [e, HT.sIx_none, List.drop_zero, Nat.sub_zero, List.dropLast_eq_take (l := l)]
theorem cutL_mid {α : Type} (l : List α) (i j : Nat) : cutL l (some (i : Int)) (some (j : Int)) = (l.drop i).take (j - i) := by
  unfold cutL
  rw [sIxN, sIxN]
  by_cases h : i ≤ l.length
  · rw [Nat.min_eq_left h]
    by_cases hj : j ≤ l.length
    · rw [Nat.min_eq_left hj]
    · have hj' : l.length ≤ j := by omega
      rw [Nat.min_eq_right hj', List.take_of_length_le (l := l.drop i) (by rw [List.length_drop]; omega), List.take_of_length_le (l := l.drop i) (by rw [List.length_drop]; omega)]
  · have h' : l.length ≤ i := by omega
    rw [Nat.min_eq_right h', List.drop_of_length_le (l := l) (Nat.le_refl _), List.drop_of_length_le (l := l) h']
    simp
theorem cutV_L (xs : List V) (lo hi : Option Int) : cutV xs lo hi = cutL xs lo hi := rfl
theorem cutL_map {α β : Type} (f : α → β) (l : List α) (lo hi : Option Int) : cutL (l.map f) lo hi = (cutL l lo hi).map f := by
  unfold cutL
  rw [List.length_map, List.map_take, List.map_drop]

/-! rules over texts by their codes -/
section
variable {X : Cx}
def rAddT : R2 := fun x y H Q => ∃ a b : List Nat, x = tv a ∧ y = tv b ∧ a.length + b.length ≤ 100000 ∧ Q (tv (a ++ b)) H
theorem op_addT : OpR X (binaryOp .Add) rAddT := fun pins s σ H x y v u Q I rx ry ⟨a, b, e1, e2, hz, q⟩ =>
  op_add_str pins s σ H x y v u Q I rx ry ⟨T a, T b, e1, e2, by rw [T_len, T_len]; exact big hz, by rw [T_app]; exact q⟩
def rLtT : R2 := fun x y H Q => ∃ a b : List Nat, x = tv a ∧ y = tv b ∧ Q (.bl (decide (a < b))) H
theorem op_ltT : OpR X (compareOp .Lt) rLtT := fun pins s σ H x y v u Q I rx ry ⟨a, b, e1, e2, q⟩ =>
  op_lt_str pins s σ H x y v u Q I rx ry ⟨T a, T b, e1, e2, by rw [T_cps, T_cps]; exact q⟩
def rLeT : R2 := fun x y H Q => ∃ a b : List Nat, x = tv a ∧ y = tv b ∧ Q (.bl (!decide (b < a))) H
theorem op_leT : OpR X (compareOp .LtE) rLeT := fun pins s σ H x y v u Q I rx ry ⟨a, b, e1, e2, q⟩ =>
  op_le_str pins s σ H x y v u Q I rx ry ⟨T a, T b, e1, e2, by rw [T_cps, T_cps]; exact q⟩
def rEqT : R2 := fun x y H Q => ∃ a b : List Nat, x = tv a ∧ y = tv b ∧ Q (.bl (decide (a = b))) H
theorem op_eqT : OpR X (compareOp .Eq) rEqT := fun pins s σ H x y v u Q I rx ry ⟨a, b, e1, e2, q⟩ =>
  op_eq pins s σ H x y v u Q I rx ry (by subst e1 e2; exact ⟨rfl, by rw [tv_dec]; exact q⟩)
def rNeT : R2 := fun x y H Q => ∃ a b : List Nat, x = tv a ∧ y = tv b ∧ Q (.bl (!decide (a = b))) H
theorem op_neT : OpR X (compareOp .NotEq) rNeT := fun pins s σ H x y v u Q I rx ry ⟨a, b, e1, e2, q⟩ =>
  op_ne pins s σ H x y v u Q I rx ry (by subst e1 e2; exact ⟨rfl, by rw [tv_dec]; exact q⟩)
def rLenT : List V → Hp → VK → Prop := fun xs H Q => ∃ l : List Nat, xs = [tv l] ∧ l.length ≤ 100000 ∧ Q (.int (l.length : Nat)) H
theorem call_lenT : CallR X (.builtin "len") rLenT := fun pins s σ H vs us Q I r ⟨l, e, hz, q⟩ =>
  call_len_str pins s σ H vs us Q I r ⟨T l, e, by rw [T_len]; exact big hz, by rw [T_len]; exact q⟩
def rSlT : V → Option Int → Option Int → Hp → VK → Prop := fun x lo hi H Q => ∃ l : List Nat, x = tv l ∧ l.length ≤ 100000 ∧ Q (tv (cutL l lo hi)) H
theorem sl_T : SlR X rSlT := fun pins s σ H x v vl vu lo hi sl Q I rx hs pl pu ⟨l, e, hz, q⟩ =>
  sl_str pins s σ H x v vl vu lo hi sl Q I rx hs pl pu ⟨T l, e, by rw [T_len]; exact big hz, by rw [cutS_T]; exact q⟩
def rIxT : R2 := fun x y H Q => ∃ (l : List Nat) (i : Int) (c : Nat), x = tv l ∧ y = .int i ∧ l.length ≤ 100000 ∧ atI l i = some c ∧ Q (tv [c]) H
theorem ix_T : IxR X rIxT := fun value slice pins s σ H x y v u Q I rx ry ⟨l, i, c, e1, e2, hz, ha, q⟩ hs =>
  ix_str value slice pins s σ H x y v u Q I rx ry (show rIxS x y H Q from ⟨T l, i, c, e1, e2, by rw [T_len]; exact big hz, by rw [T_cps]; exact ha, q⟩) hs
/-- ''.join(texts) -/
def rJoinT (K : PySem.W.Frag) : V → List V → Hp → VK → Prop := fun x xs H Q => ∃ (p : Addr) (ls : List (List Nat)), x = tv [] ∧ xs = [.ref p] ∧ SqL K H p (tvs ls) ∧ ls.flatten.length ≤ 100000 ∧ Q (tv ls.flatten) H
theorem join_T : ∀ ls : List (List Nat), Txt.join (T []) (ls.map T) = T ls.flatten := by
  intro ls
  have h : ∀ ls : List (List Nat), Str.join (T []) (ls.map T) = T ls.flatten := by
    intro ls
    induction ls with
    | nil => rfl
    | cons a r ih =>
      cases r with
      | nil =>
        show T a = _
        simp
      | cons b r =>
        show T a ++ T [] ++ Str.join (T []) ((b :: r).map T) = _
        rw [ih, T_app, T_app]
        simp
  rw [show Txt.join (T []) (ls.map T) = Str.join (T []) (ls.map T) from PySem.StrLaws.glued_eq_join _ _, h]
theorem mt_joinT : MtR X "str.join" (rJoinT X.K) := fun pins s σ H x xs v us Q I rx rxs ⟨p, ls, e1, e2, hs, hz, q⟩ => by
  have em : tvs ls = (ls.map T).map V.str := by rw [List.map_map]; rfl
  refine mt_join pins s σ H x xs v us Q I rx rxs ⟨T [], p, ls.map T, e1, e2, .inl (by rw [← em]; exact hs), ?_, by rw [join_T]; exact q⟩
  have e : ((ls.map T).map (·.length)).sum = ls.flatten.length := by
    rw [List.map_map, List.length_flatten]
    exact congrArg List.sum (List.map_congr_left fun l _ => T_len l)
  rw [e]
  show _ + _ * (T []).length ≤ _
  rw [T_len]
  exact Nat.le_trans (by simpa using hz) (by decide : 100000 ≤ 16777216)
theorem pe_joinT {o e : Expr} {to te : TE} {apos pos : Pos} (ho : PE X o to) (he : PE X e te)
    (h1 : starEach [e] X.env = [(false, eval e X.env)] := by rfl) (h2 : attributeBase o "join" X.env (eval o X.env) = eval o X.env := by rfl) (h3 : (apos.endLine == pos.line) = true := by rfl) :
    PE X (.Call (.Attribute o "join" apos) [e] [] pos) (tM1 (rJoinT X.K) to te) := pe_m1 F.slot_str_join F.type_str_join mt_joinT ho he h1 h2 h3
/-- w in texts, texts.index(w) -/
theorem flat_tvs (ls : List (List Nat)) : (tvs ls).all flatV = true := by simp [List.all_map]; intro x _; rfl
theorem inV_tvs (w : List Nat) (ls : List (List Nat)) : inV (tv w) (tvs ls) = decide (w ∈ ls) := by
  unfold inV
  induction ls with
  | nil => simp
  | cons a r ih =>
    rw [show tvs (a :: r) = tv a :: tvs r from rfl, List.any_cons, ih]
    have e : eqV (tv a) (tv w) = decide (a = w) := T_beq a w
    rw [e]
    by_cases h : a = w
    · simp [h]
    · have h' : ¬ w = a := fun z => h z.symm
      simp [h, h']
def rInT (K : PySem.W.Frag) (neg : Bool) : R2 := fun x y H Q => ∃ (p : Addr) (w : List Nat) (ls : List (List Nat)), x = tv w ∧ y = .ref p ∧ SqL K H p (tvs ls) ∧ Q (.bl (if neg then !decide (w ∈ ls) else decide (w ∈ ls))) H
theorem op_inT : OpR X (compareOp .In) (rInT X.K false) := fun pins s σ H x y v u Q I rx ry ⟨p, w, ls, e1, e2, hs, q⟩ =>
  op_in_seq pins s σ H x y v u Q I rx ry ⟨p, tvs ls, e2, .inl hs, by rw [e1]; rfl, flat_tvs ls, by rw [e1, inV_tvs]; exact q⟩
theorem op_notInT : OpR X (compareOp .NotIn) (rInT X.K true) := fun pins s σ H x y v u Q I rx ry ⟨p, w, ls, e1, e2, hs, q⟩ =>
  op_notIn_seq pins s σ H x y v u Q I rx ry ⟨p, tvs ls, e2, .inl hs, by rw [e1]; rfl, flat_tvs ls, by rw [e1, inV_tvs]; exact q⟩
def rIndexT (K : PySem.W.Frag) : V → List V → Hp → VK → Prop := fun x xs H Q => ∃ (p : Addr) (w : List Nat) (ls : List (List Nat)), x = .ref p ∧ xs = [tv w] ∧ SqL K H p (tvs ls) ∧ w ∈ ls ∧ Q (.int (ls.idxOf w : Nat)) H
theorem idx_first : ∀ (ls : List (List Nat)) (w : List Nat), w ∈ ls → ls[ls.idxOf w]? = some w ∧ ∀ (m : Nat) (z : List Nat), m < ls.idxOf w → ls[m]? = some z → z ≠ w
  | [], w, h => by simp at h
  | a :: r, w, h => by
    by_cases e : a = w
    · subst e
      rw [List.idxOf_cons_self]
      exact ⟨rfl, fun m z hm => absurd hm (by omega)⟩
    · have hr : w ∈ r := by
        rcases List.mem_cons.mp h with z | z
        · exact absurd z.symm e
        · exact z
      obtain ⟨h1, h2⟩ := idx_first r w hr
      have ei : (a :: r).idxOf w = r.idxOf w + 1 := by
        rw [List.idxOf_cons]
        have : (a == w) = false := beq_eq_false_iff_ne.mpr e
        rw [this]
        rfl
      rw [ei]
      refine ⟨h1, fun m z hm hz => ?_⟩
      cases m with
      | zero =>
        have : a = z := Option.some.inj hz
        rw [← this]
        exact e
      | succ m => exact h2 m z (by omega) hz
theorem mt_indexT : MtR X "list.index" (rIndexT X.K) := fun pins s σ H x xs v us Q I rx rxs ⟨p, w, ls, e1, e2, hs, hw, q⟩ => by
  obtain ⟨h1, h2⟩ := idx_first ls w hw
  refine mt_index pins s σ H x xs v us Q I rx rxs ⟨p, tvs ls, tv w, ls.idxOf w, tv w, e1, e2, hs, rfl, flat_tvs ls, ?_, ?_, ?_, q⟩
  · rw [List.getElem?_map, h1]
    rfl
  · show (T w == T w) = true
    simp
  · intro m z hm hz
    rw [List.getElem?_map] at hz
    cases e : ls[m]? with
    | none =>
      rw [e] at hz
      cases hz
    | some y =>
      rw [e] at hz
      have ez : tv y = z := Option.some.inj hz
      rw [← ez]
      show (T y == T w) = false
      rw [T_beq]
      exact decide_eq_false (h2 m y hm e)
/-- ==, != of two lists of texts -/
theorem dp_tvs {K : PySem.W.Frag} {H : Hp} : ∀ ls : List (List Nat), DpAll K H (tvs ls) (ls.map fun l => .str (T l))
  | [] => .nil
  | a :: r => .cons (.str (T a)) (dp_tvs r)
theorem eqv_tvs : ∀ a b : List (List Nat), PyData.eqvAll (a.map fun l => .str (T l)) (b.map fun l => .str (T l)) = decide (a = b)
  | [], [] => rfl
  | [], _ :: _ => rfl
  | _ :: _, [] => rfl
  | x :: xs, y :: ys => by
    rw [List.map_cons, List.map_cons]
    unfold PyData.eqvAll
    rw [eqv_tvs xs ys]
    show ((T x == T y) && _) = _
    rw [T_beq]
    by_cases h1 : x = y <;> by_cases h2 : xs = ys <;> simp [h1, h2]
/-- the codes are signs -/
def Ok (l : List Nat) : Prop := ∀ c ∈ l, c < 1114112
theorem can_tvs : ∀ ls : List (List Nat), (∀ l ∈ ls, Ok l) → PyData.canLayAll0 (ls.map fun l => .str (T l)) = true
  | [], _ => rfl
  | a :: r, h => by
    rw [List.map_cons]
    unfold PyData.canLayAll0
    rw [can_tvs r fun l hl => h l (List.mem_cons_of_mem _ hl), Bool.and_true]
    unfold PyData.canLay0
    show Array.all _ _ = true
    simp only [T, List.size_toArray, List.all_toArray', List.all_eq_true]
    intro c hc
    exact decide_eq_true (h a List.mem_cons_self c hc)
theorem depth_tvs : ∀ ls : List (List Nat), PyData.depthAll (ls.map fun l => .str (T l)) ≤ 1
  | [] => by decide
  | a :: r => by
    rw [List.map_cons]
    unfold PyData.depthAll
    refine Nat.max_le.mpr ⟨?_, depth_tvs r⟩
    first | decide | (show PyData.depth (.str _) ≤ 1; unfold PyData.depth; decide)

theorem shaped_tvs (ls : List (List Nat)) (h : ∀ l ∈ ls, Ok l) : SeqAt.shaped (.list (ls.map fun l => .str (T l))) = true := by
  unfold SeqAt.shaped
  rw [Bool.and_eq_true]
  constructor
  · unfold PyData.canLay0
    exact can_tvs ls h
  · refine decide_eq_true ?_
    unfold PyData.depth
    have := depth_tvs ls
    omega
def rEqL (K : PySem.W.Frag) (neg : Bool) : R2 := fun x y H Q => ∃ (p q : Addr) (a b : List (List Nat)), x = .ref p ∧ y = .ref q ∧ SqL K H p (tvs a) ∧ SqL K H q (tvs b) ∧ (∀ l ∈ a, Ok l) ∧ (∀ l ∈ b, Ok l) ∧ Q (.bl (if neg then !decide (a = b) else decide (a = b))) H
theorem eqv_lists (a b : List (List Nat)) : PyData.eqv (.list (a.map fun l => .str (T l))) (.list (b.map fun l => .str (T l))) = decide (a = b) := by
  unfold PyData.eqv
  exact eqv_tvs a b
theorem op_eqL (hu : X.A.units + 64 < cLine) : OpR X (compareOp .Eq) (rEqL X.K false) := fun pins s σ H x y v u Q I rx ry ⟨p, q, a, b, e1, e2, h1, h2, o1, o2, k⟩ =>
  op_eqD hu pins s σ H x y v u Q I rx ry ⟨_, _, by rw [e1]; exact .lst h1 (dp_tvs a), by rw [e2]; exact .lst h2 (dp_tvs b), shaped_tvs a o1, shaped_tvs b o2, by rw [eqv_lists]; exact k⟩
theorem op_neL (hu : X.A.units + 64 < cLine) : OpR X (compareOp .NotEq) (rEqL X.K true) := fun pins s σ H x y v u Q I rx ry ⟨p, q, a, b, e1, e2, h1, h2, o1, o2, k⟩ =>
  op_neD hu pins s σ H x y v u Q I rx ry ⟨_, _, by rw [e1]; exact .lst h1 (dp_tvs a), by rw [e2]; exact .lst h2 (dp_tvs b), shaped_tvs a o1, shaped_tvs b o2, by rw [eqv_lists]; exact k⟩
end

/-! a def of the text, as its callers need it -/
section
/-- at the module's name x stands a def that keeps sp, by at most level k -/
def Cal (CX : CXT) (P : Program) (w : World) (K : PySem.W.Frag) (mg : Str → Option Value) (base : Heap) (k : Nat) (x : Str) (sp : Sp) : Prop :=
  ∃ (f : Addr) (fd : FuncData) (ps : List Str), FnOk P w K mg base CX k f fd ps sp ∧ mg x = some (.ref f) ∧ PySem.W.keepIn K (.ref f) = true ∧ Binds K fd ps []
/-- the def st stands at the module's name x, its parameters ps -/
def Dfn (K : PySem.W.Frag) (mg : Str → Option Value) (x : Str) (st : Stmt) (ps : List Str) : Prop :=
  ∃ (f : Addr) (fd : FuncData), Fun K x x st f fd ∧ mg x = some (.ref f) ∧ Binds K fd ps []
variable {CX : CXT} {P : Program} {w : World} {K : PySem.W.Frag} {mg : Str → Option Value} {base : Heap} {x : Str} {st : Stmt} {ps : List Str} {sp : Sp} {k : Nat}
theorem Dfn.cal (D : Dfn K mg x st ps) (h : ∀ f fd, Fun K x x st f fd → FnOk P w K mg base CX k f fd ps sp) : Cal CX P w K mg base k x sp := by
  obtain ⟨f, fd, F, g, b⟩ := D
  exact ⟨f, fd, ps, h f fd F, g, F.kp, b⟩
end
section
variable {X : Cx} {CX : CXT} {k j : Nat} {sp : Sp} {E : XK} {x : Str} {p pos : Pos} {e : Expr} {es : List Expr} {t : TA}
theorem pe_cal (c : Cal CX X.prog X.w X.K X.mg X.base k x sp) (hr : Room j X.A) (hk : k ≤ j) (hx : Passes CX X E) (ha : PA X (e :: es) t) (hg : Gl X x := by rfl) (hdb : (x == ("__debug__" : Str)) = false := by decide)
    (he : starEach (e :: es) X.env = (false, eval e X.env) :: starEach es X.env := by rfl) (hpl : (backTo pos (starEach es X.env)).any (·.1) = false := by rfl) :
    PE X (.Call (.Name x p) (e :: es) [] pos) (tCall sp [] E t) := by
  refine ⟨fun pins s σ H Q I h => ?_⟩
  obtain ⟨f, fd, ps, F, g, kp, b⟩ := c
  exact (pe_call F (hr.mono hk) hg g kp b .nil hx ha hdb he hpl).run pins s σ H Q I h
theorem pe_calS {E : L2.St → XK} (c : Cal CX X.prog X.w X.K X.mg X.base k x sp) (hr : Room j X.A) (hk : k ≤ j) (hx : ∀ σ, PassesAt CX X σ (E σ)) (ha : PA X (e :: es) t) (hg : Gl X x := by rfl) (hdb : (x == ("__debug__" : Str)) = false := by decide)
    (he : starEach (e :: es) X.env = (false, eval e X.env) :: starEach es X.env := by rfl) (hpl : (backTo pos (starEach es X.env)).any (·.1) = false := by rfl) :
    PE X (.Call (.Name x p) (e :: es) [] pos) (tCallS sp E t) := by
  refine ⟨fun pins s σ H Q I h => ?_⟩
  obtain ⟨f, fd, ps, F, g, kp, b⟩ := c
  exact (pe_callS F (hr.mono hk) hg g kp b hx ha hdb he hpl).run pins s σ H Q I h
end

section
variable {X : Cx}
/-- a module's value, whatever token it bears -/
theorem pe_gx {x : Str} {v : V} {pos : Pos} (hg : Gl X x) (h : ∃ u, X.mg x = some u ∧ RelV v u) (hd : (x == ("__debug__" : Str)) = false := by decide) : PE X (.Name x pos) (tC v) := by
  obtain ⟨u, hm, r⟩ := h
  exact pe_glob hg hm r hd
end
section
variable {X : Cx}
/-- a class, a def, as a value -/
theorem pe_gr {x : Str} {a : Addr} {pos : Pos} (hg : Gl X x) (h : X.mg x = some (.ref a)) (hd : (x == ("__debug__" : Str)) = false := by decide) : PE X (.Name x pos) (tC (.ref a)) := pe_glob hg h rfl hd
end
/-! words -/
def Wd (l : List Nat) : Prop := 1 ≤ l.length ∧ l.length ≤ 300 ∧ ∀ c ∈ l, 97 ≤ c ∧ c ≤ 122
instance (l : List Nat) : Decidable (Wd l) := by unfold Wd; exact inferInstance
theorem Wd.ok {l : List Nat} (h : Wd l) : Ok l := fun c hc => by have := h.2.2 c hc; omega
theorem Wd.sz {l : List Nat} (h : Wd l) : l.length ≤ 100000 := Nat.le_trans h.2.1 (by decide)
/-- a thing of a known kind; b: whether it is a word -/
def Th (K : PySem.W.Frag) (H : Hp) (v : V) (b : Bool) : Prop :=
  (∃ l : List Nat, v = tv l ∧ l.length ≤ 100000 ∧ b = decide (Wd l)) ∨ (b = false ∧ ∃ t : String, TyX K H v (.type t) ∧ kitB t "str" = some false)
theorem Th.word {K : PySem.W.Frag} {H : Hp} {l : List Nat} (h : Wd l) : Th K H (tv l) true := .inl ⟨l, rfl, h.sz, (decide_eq_true h).symm⟩
theorem Th.get {K : PySem.W.Frag} {H : Hp} {v : V} (h : Th K H v true) : ∃ l, v = tv l ∧ Wd l := by
  rcases h with ⟨l, e, _, b⟩ | ⟨b, _⟩
  · exact ⟨l, e, of_decide_eq_true b.symm⟩
  · cases b
/-- what was put down newly -/
theorem same_upd {H : Hp} {p : Addr} {o : HO} (h : H p = none) : Same H (upd H p o) := fun b x e => by
  rw [upd_ne (ne_of_none e h)]
  exact e
theorem Same.mut {H H' : Hp} {p : Addr} {o : HO} (e : Same H H') (h : H p = none) : Same H (upd H' p o) := fun a u ha => by
  rw [upd_ne (ne_of_none ha h)]
  exact e a u ha
theorem tyx_same {K : PySem.W.Frag} {H H' : Hp} {v : V} {t : Value} (e : Same H H') (h : TyX K H v t) : TyX K H' v t := by
  cases h with
  | base b =>
    cases b with
    | non => exact .base .non
    | bl y => exact .base (.bl y)
    | int i => exact .base (.int i)
    | str y => exact .base (.str y)
    | flt y => exact .base (.flt y)
    | lst ea => exact .base (.lst (e _ _ ea))
    | frz ea => exact .base (.frz (e _ _ ea))
    | tup ea => exact .base (.tup (e _ _ ea))
    | dK ea => exact .base (.dK (e _ _ ea))
    | dT ea => exact .base (.dT (e _ _ ea))
    | ins ea cl ha hn htk hm => exact .base (.ins (e _ _ ea) cl ha hn htk hm)
  | byt b => exact .byt b
  | set ea => exact .set (e _ _ ea)
  | kList a c => exact .kList a c
  | kTuple a c => exact .kTuple a c
  | kDict a c => exact .kDict a c
  | fTuple ea => exact .fTuple (e _ _ ea)
  | fDict ea => exact .fDict (e _ _ ea)
theorem Th.same {K : PySem.W.Frag} {H H' : Hp} {v : V} {b : Bool} (e : Same H H') (h : Th K H v b) : Th K H' v b := by
  rcases h with h | ⟨h1, t, h2, h3⟩
  · exact .inl h
  · exact .inr ⟨h1, t, tyx_same e h2, h3⟩
/-! promises -/
def spIsWord (K : PySem.W.Frag) : Sp := fun vs H Q _ => ∃ v b, vs = [v] ∧ Th K H v b ∧ ∀ H', Same H H' → Q (.bl b) H'
/-- a def that refuses what is no word as its first argument, n more arguments -/
def spW (K : PySem.W.Frag) (C : Addr) (n : Nat) (body : List Nat → List V → Hp → VK → XK → Prop) : Sp := fun vs H Q E => ∃ v b rest, vs = v :: rest ∧ rest.length = n ∧ Th K H v b ∧
  (b = false → ∀ H', Same H H' → E (.ref C) none H') ∧ (∀ l, b = true → v = tv l → Wd l → body l rest H Q E)
def spNeed (K : PySem.W.Frag) (C : Addr) : Sp := spW K C 0 fun _ _ H Q _ => ∀ H', Same H H' → Q .non H'
/-- how a caller with a word says it -/
theorem spW.yes {K : PySem.W.Frag} {C : Addr} {n : Nat} {body : List Nat → List V → Hp → VK → XK → Prop} {l : List Nat} {rest : List V} {H : Hp} {Q : VK} {E : XK} (h : Wd l) (hn : rest.length = n) (q : body l rest H Q E) : spW K C n body (tv l :: rest) H Q E :=
  ⟨tv l, true, rest, rfl, hn, .word h, (fun e => nomatch e), fun l' _ e _ => by
    have z := tv_inj e
    subst z
    exact q⟩
/-- turnings, as all say it -/
def turn (l : List Nat) (k : Nat) : List Nat := l.drop k ++ l.take k
def turns (l : List Nat) : List (List Nat) := (List.range l.length).map (turn l)
/-- a new list of texts is told -/
def newT (ls : List (List Nat)) (H : Hp) (Q : VK) : Prop := ∀ p H', H p = none → Same H H' → H' p = some (.lst (tvs ls)) → Q (.ref p) H'
def spTurnings (K : PySem.W.Frag) (C : Addr) : Sp := spW K C 0 fun l _ H Q _ => newT (turns l) H Q
def spTurned (K : PySem.W.Frag) (C : Addr) : Sp := spW K C 1 fun l rest H Q _ => ∃ k : Int, rest = [.int k] ∧ ∀ H', Same H H' → Q (tv (turn l (k % l.length).toNat)) H'
/-! the law's own -/
def spCellAt (K : PySem.W.Frag) : Sp := fun vs H Q _ => ∃ (a : Addr) (ns : List Int) (k : Int), vs = [.ref a, .int k] ∧ SqL K H a (ns.map V.int) ∧ 0 ≤ k ∧ k < 1000 ∧ ∀ i : Int, Q (.int i) H
def spMixed : Sp := fun vs H Q _ => ∃ c k : Int, vs = [.int c, .int k] ∧ ∀ i : Int, 0 ≤ i → i < 2147483399 → Q (.int i) H
/-- signs a to z, some -/
def Sg (l : List Nat) : Prop := ∀ c ∈ l, 97 ≤ c ∧ c ≤ 122
def spSigns : Sp := fun vs H Q _ => ∃ c : Int, vs = [.int c] ∧ ∀ l H', Same H H' → 1 ≤ l.length → l.length ≤ 26 → Sg l → Q (tv l) H'
def spDrawn : Sp := fun vs H Q _ => ∃ (c : Int) (s : List Nat) (n : Nat), vs = [.int c, tv s, .int n] ∧ 1 ≤ s.length ∧ s.length ≤ 26 ∧ Sg s ∧ n ≤ 1000 ∧ ∀ l H', Same H H' → l.length = n → Sg l → Q (tv l) H'
def spWoven : Sp := fun vs H Q _ => ∃ (s : List Nat) (n : Nat), vs = [tv s, .int n] ∧ 1 ≤ s.length ∧ s.length ≤ 26 ∧ Sg s ∧ 1 ≤ n ∧ n ≤ 1000 ∧ ∀ l H', Same H H' → 1 ≤ l.length → l.length ≤ n → Sg l → Q (tv l) H'
def spWord : Sp := fun vs H Q _ => ∃ (c : Int) (n : Nat), vs = [.int c, .int n] ∧ 1 ≤ n ∧ n ≤ 300 ∧ ∀ l H', Same H H' → Wd l → l.length ≤ n → Q (tv l) H'
def spLTurnings : Sp := fun vs H Q _ => ∃ l : List Nat, vs = [tv l] ∧ l.length ≤ 1000 ∧ newT (turns l) H Q
/-- less than each of its other turnings -/
def early (l : List Nat) : Bool := (turns l).tail.all fun o => decide (l < o)
def spLEarly : Sp := fun vs H Q _ => ∃ l : List Nat, vs = [tv l] ∧ l.length ≤ 1000 ∧ Ok l ∧ ∀ H', Same H H' → Q (.bl (early l)) H'
def spNoWord (K : PySem.W.Frag) : Sp := fun vs H Q _ => ∃ m : Int, vs = [.int m] ∧ ∀ v H', Same H H' → Th K H' v false → Q v H'
/-! comprehensions: what is made so far -/
def LcP (H1 : Hp) (D : Addr) (Pv : Nat → List V → Prop) (i : Nat) (H : Hp) : Prop := H1 D = none ∧ ∃ acc, Same H1 H ∧ H D = some (.lst acc) ∧ acc.length ≤ i ∧ Pv i acc
section
variable {H1 H H4 : Hp} {D : Addr} {Pv : Nat → List V → Prop} {i : Nat} {acc : List V} {y : V}
theorem lcp_start (h : H1 D = none) (p : Pv 0 []) : LcP H1 D Pv 0 (upd H1 D (.lst [])) := ⟨h, [], same_upd h, upd_same, Nat.le_refl _, p⟩
theorem lcp_put (h : H1 D = none) (e : Same H1 H) (hD : H D = some (.lst acc)) (hl : acc.length ≤ i) (hi : i < 100000) (e4 : Same H H4) (p : Pv (i + 1) (acc ++ [y])) :
    ∃ acc, H4 D = some (.lst acc) ∧ acc.length < sizeLine ∧ LcP H1 D Pv (i + 1) (upd H4 D (.lst (acc ++ [y]))) :=
  ⟨acc, e4 D _ hD, bigL (by omega), h, acc ++ [y], Same.mut (e.trans e4) h, upd_same, by rw [List.length_append]; exact Nat.add_le_add hl (Nat.le_refl 1), p⟩
theorem lcp_skip (h : H1 D = none) (e : Same H1 H) (hD : H D = some (.lst acc)) (hl : acc.length ≤ i) (e4 : Same H H4) (p : Pv (i + 1) acc) : LcP H1 D Pv (i + 1) H4 :=
  ⟨h, acc, e.trans e4, e4 D _ hD, Nat.le_succ_of_le hl, p⟩
end
theorem walk_T (l : List Nat) : Walk (Its (T l)) l.length (fun _ => True) (fun i H v H' => H' = H ∧ ∃ c, l[i]? = some c ∧ v = tv [c]) := by
  have w := walk_str (z := T l)
  have e : (T l).cps.size = l.length := T_len l
  rw [e] at w
  refine w.mono (fun _ h => h) fun i H x H' _ _ ⟨e1, c, e2, e3⟩ => ⟨e1, c, ?_, e3⟩
  have : (T l).cps[i]? = l[i]? := by simp [T]
  rw [← this]
  exact e2
theorem lt_one (a b : Nat) : (([a] : List Nat) < [b]) ↔ a < b := by simp [List.cons_lt_cons_iff]
/-- a comprehension without a test -/
theorem keepAll {σ : L2.St} {H : Hp} {A B : Hp → Prop} (h : A H) : tYes σ H fun b H3 => if b = true then A H3 else B H3 := by
  show if true = true then A H else B H
  rw [if_pos rfl]
  exact h
/-! lists of single signs -/
def Sign1 (x : List Nat) : Prop := ∃ c, x = [c] ∧ 97 ≤ c ∧ c ≤ 122
theorem flat_one : ∀ {ls : List (List Nat)}, (∀ x ∈ ls, Sign1 x) → ls.flatten.length = ls.length ∧ Sg ls.flatten
  | [], _ => ⟨rfl, fun c hc => by simp at hc⟩
  | x :: r, h => by
    obtain ⟨i1, i2⟩ := flat_one (ls := r) fun y hy => h y (List.mem_cons_of_mem _ hy)
    obtain ⟨c, rfl, h1, h2⟩ := h x List.mem_cons_self
    refine ⟨by simp [i1], fun d hd => ?_⟩
    rw [List.flatten_cons] at hd
    rcases List.mem_append.mp hd with g | g
    · have : d = c := by simpa using g
      subst this
      exact ⟨h1, h2⟩
    · exact i2 d g
theorem sorted_one {ys : List Str} {ls : List (List Nat)} (p : ys.Perm (ls.map T)) (h : ∀ x ∈ ls, Sign1 x) : ∃ ls' : List (List Nat), ys.map V.str = tvs ls' ∧ ls'.length = ls.length ∧ ∀ x ∈ ls', Sign1 x := by
  refine ⟨ys.map (·.cps.toList), ?_, ?_, fun x hx => ?_⟩
  · show _ = (ys.map (·.cps.toList)).map tv
    rw [List.map_map]
    refine List.map_congr_left fun y _ => ?_
    show V.str y = V.str (T y.cps.toList)
    rw [T_of]
  · rw [List.length_map, p.length_eq, List.length_map]
  · obtain ⟨y, hy, rfl⟩ := List.mem_map.mp hx
    obtain ⟨z, hz, e⟩ := List.mem_map.mp (p.mem_iff.mp hy)
    rw [← e, T_cps]
    exact h z hz
theorem signs_one (l : List Nat) (h : Sg l) : ∀ x ∈ l.map (fun c => [c]), Sign1 x := fun x hx => by
  obtain ⟨c, hc, rfl⟩ := List.mem_map.mp hx
  exact ⟨c, rfl, h c hc⟩
theorem at_some {α : Type} {xs : List α} {j : Int} (h0 : 0 ≤ j) (h1 : j < (xs.length : Nat)) : ∃ v ∈ xs, atI xs j = some v := by
  obtain ⟨k, rfl⟩ : ∃ k : Nat, j = (k : Int) := ⟨j.toNat, by omega⟩
  have hk : k < xs.length := by omega
  exact ⟨xs[k], List.getElem_mem hk, atI_nat (List.getElem?_eq_getElem hk)⟩
theorem at_neg1 {α : Type} {xs : List α} (h : 1 ≤ xs.length) : ∃ v ∈ xs, atI xs (-1) = some v := by
  have hne : xs ≠ [] := fun e => by rw [e] at h; simp at h
  have e := List.dropLast_concat_getLast hne
  refine ⟨xs.getLast hne, List.getLast_mem hne, ?_⟩
  have z := atI_last xs.dropLast (xs.getLast hne)
  rw [e] at z
  exact z
theorem Sg.app {a b : List Nat} (h : Sg a) (k : Sg b) : Sg (a ++ b) := fun c hc => by
  rcases List.mem_append.mp hc with z | z
  · exact h c z
  · exact k c z
theorem Sg.sub {a b : List Nat} (h : Sg b) (k : ∀ c ∈ a, c ∈ b) : Sg a := fun c hc => h c (k c hc)
theorem Sg.cut {a : List Nat} (h : Sg a) (lo hi : Option Int) : Sg (cutL a lo hi) := h.sub fun c hc => List.mem_of_mem_drop (List.mem_of_mem_take hc)
theorem draw7 {i n : Int} (h0 : 0 ≤ i) (hn : 0 < n) : 0 ≤ i / 7 % n ∧ i / 7 % n < n := ⟨Int.emod_nonneg _ (by omega), Int.emod_lt_of_pos _ hn⟩
/-- the refusals' classes, as isinstance asks them: cN is NoWord -/
structure Er6 (K : PySem.W.Frag) (mg : Str → Option Value) (cW cN cS cC cM cR cT : Addr) : Prop where
  g_WordError : mg "WordError" = some (.ref cW)
  g_NoWord : mg "NoWord" = some (.ref cN)
  g_NoSigns : mg "NoSigns" = some (.ref cS)
  g_NoCount : mg "NoCount" = some (.ref cC)
  g_TooMany : mg "TooMany" = some (.ref cM)
  g_NoRing : mg "NoRing" = some (.ref cR)
  g_Twice : mg "Twice" = some (.ref cT)
  e : ExcC K cN
  i_N : PySem.W.kitOne K (.ref cN) (.ref cN) = some true
  i_S : PySem.W.kitOne K (.ref cN) (.ref cS) = some false
  i_C : PySem.W.kitOne K (.ref cN) (.ref cC) = some false
  i_M : PySem.W.kitOne K (.ref cN) (.ref cM) = some false
  i_R : PySem.W.kitOne K (.ref cN) (.ref cR) = some false
  i_T : PySem.W.kitOne K (.ref cN) (.ref cT) = some false
  i_V : PySem.W.kitOne K (.ref cN) (.type "ValueError") = some true
  x_W : PySem.W.exmOne K (.ref cN) (.ref cW) = some true
def spMark (cN : Addr) : Sp := fun vs H Q _ => ∃ a : Addr, vs = [.ref a] ∧ H a = some (ExV (.ref cN) a) ∧ ∀ H', Same H H' → Q (tv [119, 111, 114, 100]) H'
def spRefused (K : PySem.W.Frag) : Sp := fun vs H Q _ => ∃ (i : Int) (v : V), vs = [.int i, v] ∧ Th K H v false ∧ ∀ H', Same H H' → Q (.bl true) H'
def spRight : Sp := fun vs H Q _ => ∃ c : Int, vs = [.int c] ∧ ∀ H', Same H H' → Q (.bl true) H'
def spLaw (K : PySem.W.Frag) : Sp := fun vs H Q _ => ∃ (a : Addr) (ns : List Int), vs = [.ref a] ∧ SqL K H a (ns.map V.int) ∧ ns.length ≤ 63 ∧ ∀ H', Q (.bl true) H'
/-! what isinstance says of an own class, by what k_is finds -/
theorem kit_self {K : PySem.W.Frag} {C : Addr} : PySem.W.kitOne K (.ref C) (.ref C) = some true := by
  unfold PySem.W.kitOne
  rw [if_pos (by simp)]
theorem kit_other {K : PySem.W.Frag} {C D : Addr} (h1 : PySem.W.subIn K (.ref C) (.ref C) = some true) (hd : PySem.W.hasDictIn K D = true) (ht : PySem.W.typeIn K (.ref D) = some (.type "type")) (h : PySem.W.subIn K (.ref C) (.ref D) = some false) : PySem.W.kitOne K (.ref C) (.ref D) = some false := by
  have ne : ¬ (Value.ref C == Value.ref D) = true := fun e => by
    have e' : C = D := Value.ref.inj (beq_iff_eq.mp e)
    rw [e'] at h1
    rw [e', h1] at h
    cases h
  unfold PySem.W.kitOne
  rw [if_neg ne]
  obtain ⟨cd, hc, _⟩ := PySem.W.any_some hd
  have e2 : ((PySem.W.clsIn K D).isSome && PySem.W.typeIn K (.ref D) == some (.type "type")) = true := by rw [hc, ht] <;> rfl
  show (if _ = true then PySem.W.subIn K (.ref C) (.ref D) else none) = some false
  rw [if_pos e2]
  exact h
theorem kit_value {K : PySem.W.Frag} {C : Addr} (h : PySem.W.subIn K (.ref C) (.type "ValueError") = some true) : PySem.W.kitOne K (.ref C) (.type "ValueError") = some true := by
  unfold PySem.W.kitOne
  rw [if_neg (by intro e; cases (beq_iff_eq.mp e))]
  show (if PySem.W.kitMeta "ValueError" = true then PySem.W.subIn K (.ref C) (.type "ValueError") else none) = some true
  rw [if_pos (by decide +kernel)]
  exact h
/-! the least of some texts -/
def minT : List (List Nat) → List Nat
  | [] => []
  | x :: ys => lstT x ys
theorem lstT_mem : ∀ (ys : List (List Nat)) (x : List Nat), lstT x ys ∈ x :: ys
  | [], x => by simp [lstT]
  | y :: r, x => by
    have h := lstT_mem r (if y < x then y else x)
    have e : lstT x (y :: r) = lstT (if y < x then y else x) r := rfl
    rw [e]
    rcases List.mem_cons.mp h with z | z
    · rw [z]
      by_cases g : y < x
      · rw [if_pos g]; exact List.mem_cons_of_mem _ List.mem_cons_self
      · rw [if_neg g]; exact List.mem_cons_self
    · exact List.mem_cons_of_mem _ (List.mem_cons_of_mem _ z)
theorem minT_mem {ls : List (List Nat)} (h : ls ≠ []) : minT ls ∈ ls := by
  cases ls with
  | nil => exact absurd rfl h
  | cons x ys => exact lstT_mem ys x
def rMinL (K : PySem.W.Frag) : List V → Hp → VK → Prop := fun vs H Q => ∃ (a : Addr) (ls : List (List Nat)), vs = [V.ref a] ∧ SqL K H a (tvs ls) ∧ ls ≠ [] ∧ Q (tv (minT ls)) H
theorem cr_minL {X : Cx} (hc : X.calm = true) (hu : X.A.units + 64 < cLine) : CallR X (.builtin "min") (rMinL X.K) := fun pins s σ H vs us Q I r ⟨a, ls, e, hs, hne, q⟩ => by
  cases ls with
  | nil => exact absurd rfl hne
  | cons x ys => exact cr_minT hc hu pins s σ H vs us Q I r ⟨a, x, ys, e, hs, q⟩
theorem turns_ne {l : List Nat} (h : Wd l) : turns l ≠ [] := fun e => by
  have := congrArg List.length e
  simp [turns] at this
  have := h.1
  simp_all
theorem turns_len (l : List Nat) : (turns l).length = l.length := by simp [turns]
def spLeastTurn (K : PySem.W.Frag) (C : Addr) : Sp := spW K C 0 fun l _ H Q _ => ∀ H', Same H H' → Q (.int ((turns l).idxOf (minT (turns l)) : Nat)) H'
def spLeastForm (K : PySem.W.Frag) (C : Addr) : Sp := spW K C 0 fun l _ H Q _ => ∀ H', Same H H' → Q (tv (minT (turns l))) H'
def stepsV (l m : List Nat) : V := if m ∈ turns l then .int ((turns l).idxOf m : Nat) else .non
def spSteps (K : PySem.W.Frag) (C : Addr) : Sp := fun vs H Q E => ∃ v u b d, vs = [v, u] ∧ Th K H v b ∧ Th K H u d ∧ ((b && d) = false → ∀ H', Same H H' → E (.ref C) none H') ∧
  (∀ l m, (b && d) = true → v = tv l → u = tv m → Wd l → Wd m → ∀ H', Same H H' → Q (stepsV l m) H')
theorem idx_at {ls : List (List Nat)} {w : List Nat} (h : w ∈ ls) : atI (tvs ls) ((ls.idxOf w : Nat) : Int) = some (tv w) := by
  refine atI_nat ?_
  rw [List.getElem?_map, (idx_first ls w h).1]
  rfl
theorem ok_turns {l : List Nat} (h : Ok l) : ∀ x ∈ turns l, Ok x := fun x hx c hc => by
  obtain ⟨k, _, rfl⟩ := List.mem_map.mp hx
  rcases List.mem_append.mp hc with z | z
  · exact h c (List.mem_of_mem_drop z)
  · exact h c (List.mem_of_mem_take z)
end Rw
namespace Rk
open PySem PySem.Spec PyProof.Rows L2 Rw
def topS (i : Nat) : Stmt := PySem.Challenge.pw_ringword_k12_book.main.body.getD i (.Pass ⟨0, 0, 0, 0⟩)
/-- the built-ins that the text calls, and its constants -/
structure Bt (mg : Str → Option Value) : Prop where
  m_len : mg "len" = none
  m_range : mg "range" = none
  m_sorted : mg "sorted" = none
  m_min : mg "min" = none
  m_max : mg "max" = none
  m_all : mg "all" = none
  m_isinstance : mg "isinstance" = none
  m_list : mg "list" = none
  m_tuple : mg "tuple" = none
  m_str : mg "str" = none
  m_bool : mg "bool" = none
  m_zip : mg "zip" = none
  m_enumerate : mg "enumerate" = none
  m_ValueError : mg "ValueError" = none
  m_sum : mg "sum" = none
  m_set : mg "set" = none
  m_dict : mg "dict" = none
  m_int : mg "int" = none
  g_LONGEST_WORD : ∃ u, mg "LONGEST_WORD" = some u ∧ RelV (.int 300) u
/-- the class of the refusals -/
structure Er1 (K : PySem.W.Frag) (mg : Str → Option Value) (cN : Addr) : Prop where
  g_NoWord : mg "NoWord" = some (.ref cN)
  x_NoWord : PySem.W.excIn K cN [.type "ValueError", .type "Exception", .type "BaseException", .type "object"] "ValueError.__new__" = true
  k_NoWord : PySem.W.keepIn K (.ref cN) = true
  b_NoWord : PySem.W.subIn K (.ref cN) (.type "BaseException") = some true
  t_NoWord : PySem.W.typeIn K (.ref cN) = some (.type "type")
end Rk
namespace Rk
open PySem PySem.Spec PyProof.Rows L2 Rw
abbrev s_is_word : Stmt := topS 10
abbrev n_is_word : List Str := ["thing", "sign"]
abbrev p_is_word : List Str := ["thing"]
theorem sc_is_word : FnScope n_is_word p_is_word (defScope s_is_word) := ⟨rfl, rfl, rfl, by decide +kernel, rfl, by decide +kernel, by decide +kernel⟩
theorem wd_no1 {l : List Nat} (h : ¬ (1 : Int) ≤ (l.length : Nat)) : decide (Wd l) = false := decide_eq_false fun z => h (by have := z.1; omega)
theorem wd_no2 {l : List Nat} (h : ¬ ((l.length : Nat) : Int) ≤ 300) : decide (Wd l) = false := decide_eq_false fun z => h (by have := z.2.1; omega)
def isLet (c : Nat) : Bool := decide (97 ≤ c) && decide (c ≤ 122)
theorem wd_all {l : List Nat} (h1 : (1 : Int) ≤ (l.length : Nat)) (h2 : ((l.length : Nat) : Int) ≤ 300) : (l.map isLet).all id = decide (Wd l) := by
  rw [Bool.eq_iff_iff, decide_eq_true_eq, List.all_map, List.all_eq_true]
  constructor
  · intro h
    refine ⟨by omega, by omega, fun c hc => ?_⟩
    have := h c hc
    simpa [isLet] using this
  · intro h c hc
    have := h.2.2 c hc
    simpa [isLet] using this
section
variable {P : Program} {w : World} {K : PySem.W.Frag} {mg : Str → Option Value} {base : Heap} (B : Bt mg)
include B
theorem ok_is_word (D : Dfn K mg "is_word" s_is_word p_is_word) : Cal CX0 P w K mg base 1 "is_word" (spIsWord K) := by
  refine D.cal fun f fd F => F.ok sc_is_word (fun vs H Q E h => ?_) (fun cdv A outer s H vs Q E hr h => ?_)
  · obtain ⟨v, b, rfl, _⟩ := h
    rfl
  · obtain ⟨v, b, rfl, hv, q⟩ := h
    refine ⟨_, (pss_cons (ps_if (pt_not (pt_val (pe_callB call_isi (by rfl) B.m_isinstance (by decide +kernel) (pa_cons (pv 0) (pa_cons (pe_bltn (v := .ty "str") (u := .type "str") rfl B.m_str (by decide +kernel) rfl) pa_nil))))) (pss_one (ps_ret pe_bl)) pss_nil)
      (pss_cons (ps_if (pt_not (pt_chain op_le op_le pe_int (pe_callB call_lenT (by rfl) B.m_len PySem.boot_len (pa_cons (pv 0) pa_nil)) (pe_gx rfl B.g_LONGEST_WORD))) (pss_one (ps_ret pe_bl)) pss_nil)
      (pss_one (ps_ret (pe_callB (cr_all rfl) (by rfl) B.m_all (by decide +kernel) (pa_cons (pe_lc (own := [("sign", 1)]) rfl sc_is_word.nd (pi_str (pv 0)) (blkOk_by (own := [("sign", 1)]) (N := n_is_word) (sc := defScope s_is_word) (by decide +kernel)) (fun _ _ _ _ _ => (pg_name (i := 1) sc_is_word.nd rfl (Or.inl rfl))) (fun _ _ _ _ _ => pts_nil) (fun _ _ _ _ _ => (pe_chain op_leT op_leT pe_str (pv 1) pe_str))) pa_nil)))))), ?_⟩
    rcases hv with ⟨l, rfl, hz, rfl⟩ | ⟨rfl, t, ht, hk⟩
    · refine ⟨_, rfl, _, _, _, _, true, rfl, .ty "str", .base (.str _), kit_ty (by decide +kernel), true, rfl, ?_⟩
      refine iteF ?_
      refine ⟨_, rfl, l, rfl, hz, 1, _, rfl, rfl, _, rfl, ite2 (fun h1 => ?_) (fun h1 => ?_)⟩
      · have h1 := of_decide_eq_true h1
        refine ⟨_, _, rfl, rfl, _, rfl, ite2 (fun h2 => ?_) (fun h2 => ?_)⟩
        · rw [wd_no2 (by simpa using h2)] at q
          exact q H (Same.refl H)
        · have h2 : ((l.length : Nat) : Int) ≤ 300 := by simpa using h2
          refine ⟨_, rfl, T l, rfl, fun Dl hD => ?_⟩
          refine lc_it (walk_T l) (LcP H Dl fun i acc => acc = (l.take i).map fun c => V.bl (isLet c)) (lcp_start hD rfl) (fun _ _ _ _ => trivial) ?_ ?_
          · rintro i x H2 H2' hi ⟨_, acc, e, hD2, hl, rfl⟩ ⟨rfl, c, hc, rfl⟩
            have step : (l.take (i + 1)).map (fun c => V.bl (isLet c)) = (l.take i).map (fun c => V.bl (isLet c)) ++ [V.bl (isLet c)] := by
              rw [List.take_add_one, hc, List.map_append]
              rfl
            refine ⟨rfl, keepAll ?_⟩
            refine ⟨_, rfl, [97], [c], rfl, rfl, _, rfl, ite2 (fun h => ?_) (fun h => ?_)⟩
            · have e1 : 97 ≤ c := by simpa [lt_one] using h
              refine ⟨[c], [122], rfl, rfl, lcp_put hD e hD2 hl (by omega) (Same.refl _) ?_⟩
              show _ ++ [V.bl (!decide (([122] : List Nat) < [c]))] = _
              rw [step]
              have : isLet c = !decide (([122] : List Nat) < [c]) := by
                by_cases g : 122 < c
                · have g' : ¬ c ≤ 122 := by omega
                  simp [isLet, lt_one, e1, g, g']
                · have g' : c ≤ 122 := by omega
                  simp [isLet, lt_one, e1, g, g']
              rw [this]
            · have e1 : ¬ 97 ≤ c := by simpa [lt_one] using h
              refine lcp_put hD e hD2 hl (by omega) (Same.refl _) ?_
              show _ ++ [V.bl false] = _
              rw [step]
              have : isLet c = false := by simp [isLet, e1]
              rw [this]
          · rintro H2 ⟨_, acc, e, hD2, _, rfl⟩
            refine ⟨Dl, l.map isLet, rfl, .inl (.inl ?_), ?_⟩
            · rw [hD2, List.take_length, List.map_map]
              rfl
            · rw [wd_all h1 h2]
              exact q H2 e
      · rw [wd_no1 (by simpa using h1)] at q
        exact ⟨false, rfl, iteT (q H (Same.refl H))⟩
    · refine ⟨_, rfl, _, _, _, _, false, rfl, .ty "str", ht, kit_ty hk, false, rfl, ?_⟩
      exact q H (Same.refl H)
end
end Rk
namespace Rk
open PySem PySem.Spec PyProof.Rows L2 Rw
abbrev s_need_word : Stmt := topS 11
abbrev n_need_word : List Str := ["thing"]
abbrev p_need_word : List Str := ["thing"]
theorem sc_need_word : FnScope n_need_word p_need_word (defScope s_need_word) := ⟨rfl, rfl, rfl, by decide +kernel, rfl, by decide +kernel, by decide +kernel⟩
section
variable {P : Program} {w : World} {K : PySem.W.Frag} {mg : Str → Option Value} {base : Heap} {cN : Addr} (B : Bt mg) (R : Er1 K mg cN)
include B R
theorem ok_need_word (D : Dfn K mg "need_word" s_need_word p_need_word) (c_is_word : Cal CX0 P w K mg base 1 "is_word" (spIsWord K)) : Cal (L2.CX P w) P w K mg base 2 "need_word" (spNeed K cN) := by
  refine D.cal fun f fd F => F.okX sc_need_word (fun vs H Q E h => ?_) (fun cdv A outer s H vs Q E hr h => ?_)
  · obtain ⟨v, b, rest, rfl, hr, _⟩ := h
    cases rest with
    | nil => rfl
    | cons _ _ => cases hr
  · obtain ⟨v, b, rest, rfl, hrest, hv, hno, hyes⟩ := h
    cases List.eq_nil_of_length_eq_zero hrest
    refine ⟨_, (pss_one (ps_if (pt_not (pt_val (pe_cal c_is_word hr (by decide) pass0 (pa_cons (pv 0) pa_nil)))) (pss_one (ps_raise rfl (takes_of rfl rfl rfl rfl) (pmk_ownA PySem.F.excBase_ValueError R.x_NoWord R.g_NoWord R.k_NoWord (raises_own R.b_NoWord R.t_NoWord) (by rfl) (pa_cons (pe_joined (PJ.cons pe_str (PJ.cons (pe_fmt (pe_gx rfl B.g_LONGEST_WORD)) (PJ.cons pe_str PJ.nil)))) pa_nil)))) pss_nil)), ?_⟩
    refine ⟨v, rfl, v, b, rfl, hv, fun H1 e1 => ⟨b, rfl, ?_⟩⟩
    cases b with
    | true =>
      refine iteF ?_
      obtain ⟨l, rfl, hl⟩ := hv.get
      exact hyes l rfl rfl hl H1 e1
    | false =>
      refine iteT ?_
      refine ⟨_, rfl, by decide +kernel, .inr ⟨300, rfl, by decide, _, rfl, by decide +kernel, _, rfl, by decide +kernel, ?_⟩⟩
      exact ⟨by show 1 ≤ sizeLine; decide, hno rfl H1 e1⟩
end
end Rk
namespace Rk
open PySem PySem.Spec PyProof.Rows L2 Rw
abbrev s_turnings : Stmt := topS 12
abbrev n_turnings : List Str := ["word", "place"]
abbrev p_turnings : List Str := ["word"]
theorem sc_turnings : FnScope n_turnings p_turnings (defScope s_turnings) := ⟨rfl, rfl, rfl, by decide +kernel, rfl, by decide +kernel, by decide +kernel⟩
theorem turn_step (l : List Nat) (i : Nat) : tvs ((List.range (i + 1)).map (turn l)) = tvs ((List.range i).map (turn l)) ++ [tv (turn l i)] := by
  rw [List.range_succ, List.map_append]
  exact List.map_append
theorem cut_turn (l : List Nat) (i : Nat) : cutL l (some ((0 : Int) + (i : Int))) none ++ cutL l none (some ((0 : Int) + (i : Int))) = turn l i := by
  rw [Int.zero_add, cutL_from, cutL_to]
  rfl
theorem cut_le (l : List Nat) (i : Int) (h : l.length ≤ 1000) : (cutL l (some i) none).length + (cutL l none (some i)).length ≤ 100000 := by
  have a1 := cutL_len l (some i) none
  have a2 := cutL_len l none (some i)
  omega
section
variable {P : Program} {w : World} {K : PySem.W.Frag} {mg : Str → Option Value} {base : Heap} {cN : Addr} (B : Bt mg)
include B
theorem ok_turnings (D : Dfn K mg "turnings" s_turnings p_turnings) (c_need_word : Cal (L2.CX P w) P w K mg base 2 "need_word" (spNeed K cN)) : Cal (L2.CX P w) P w K mg base 3 "turnings" (spTurnings K cN) := by
  refine D.cal fun f fd F => F.okX sc_turnings (fun vs H Q E h => ?_) (fun cdv A outer s H vs Q E hr h => ?_)
  · obtain ⟨v, b, rest, rfl, hr, _⟩ := h
    cases rest with
    | nil => rfl
    | cons _ _ => cases hr
  · obtain ⟨v, b, rest, rfl, hrest, hv, hno, hyes⟩ := h
    cases List.eq_nil_of_length_eq_zero hrest
    refine ⟨_, (pss_cons (ps_expr (pe_cal c_need_word hr (by decide) (passes_call (takes_of rfl rfl rfl rfl) fun _ _ _ _ h => h) (pa_cons (pv 0) pa_nil)))
      (pss_one (ps_ret (pe_lc (own := [("place", 1)]) rfl sc_turnings.nd (pi_range1 (by rfl) B.m_range (pa_cons (pe_callB call_lenT (by rfl) B.m_len PySem.boot_len (pa_cons (pv 0) pa_nil)) pa_nil)) (blkOk_by (own := [("place", 1)]) (N := n_turnings) (sc := defScope s_turnings) (by decide +kernel)) (fun _ _ _ _ _ => (pg_name (i := 1) sc_turnings.nd rfl (Or.inl rfl))) (fun _ _ _ _ _ => pts_nil) (fun _ _ _ _ _ => (pe_op op_addT (pe_slice sl_T (pv 0) (po_some (pv 1)) po_none) (pe_slice sl_T (pv 0) po_none (po_some (pv 1))))))))), ?_⟩
    refine ⟨v, rfl, v, b, [], rfl, rfl, hv, hno, fun l hb ev hl H1 e1 => ?_⟩
    subst hb ev
    have q := hyes l rfl rfl hl
    have hn := hl.2.1
    refine ⟨_, rfl, l, rfl, hl.sz, _, rfl, by omega, by omega, fun Dl hD => ?_⟩
    refine lc_it walk_range (LcP H1 Dl fun i acc => acc = tvs ((List.range i).map (turn l))) (lcp_start hD rfl) (fun _ _ _ _ => trivial) ?_ ?_
    · rintro i x H2 H2' hi ⟨_, acc, e, hD2, hlen, rfl⟩ ⟨rfl, rfl⟩
      have hi : i < l.length := hi
      refine ⟨rfl, keepAll ?_⟩
      refine ⟨_, rfl, _, rfl, _, rfl, l, rfl, hl.sz, _, rfl, _, rfl, _, rfl, l, rfl, hl.sz, _, _, rfl, rfl, cut_le l _ (by omega), ?_⟩
      refine lcp_put hD e hD2 hlen (by omega) (Same.refl _) ?_
      rw [turn_step, cut_turn]
    · rintro H2 ⟨_, acc, e, hD2, _, rfl⟩
      exact q Dl H2 (e1.free hD) (e1.trans e) hD2
end
end Rk
namespace Rw
open PySem PySem.Spec PyProof.Rows L2
/-- the places looked at up to n: where pieces begin, the least ending so far -/
def cutSt (l : List Nat) : Nat → List Nat × List Nat
  | 0 => ([0], l)
  | n + 1 => if l.drop (n + 1) < (cutSt l n).2 then ((cutSt l n).1 ++ [n + 1], l.drop (n + 1)) else cutSt l n
def cutsOf (l : List Nat) : List Nat := (cutSt l (l.length - 1)).1
abbrev ivs (ns : List Nat) : List V := ns.map fun n => V.int (n : Nat)
theorem tvs_app (a b : List (List Nat)) : tvs (a ++ b) = tvs a ++ tvs b := List.map_append
theorem ivs_app (a b : List Nat) : ivs (a ++ b) = ivs a ++ ivs b := List.map_append
def piecesOf (l : List Nat) : List (List Nat) := ((cutsOf l).zip ((cutsOf l).tail ++ [l.length])).map fun ab => (l.drop ab.1).take (ab.2 - ab.1)
theorem cutSt_len (l : List Nat) : ∀ n, 1 ≤ (cutSt l n).1.length ∧ (cutSt l n).1.length ≤ n + 1
  | 0 => ⟨Nat.le_refl _, Nat.le_refl _⟩
  | n + 1 => by
    obtain ⟨h1, h2⟩ := cutSt_len l n
    unfold cutSt
    by_cases g : l.drop (n + 1) < (cutSt l n).2
    · rw [if_pos g]
      show 1 ≤ ((cutSt l n).1 ++ [n + 1]).length ∧ _
      rw [List.length_append]
      exact ⟨Nat.le_add_left 1 _, Nat.succ_le_succ h2⟩
    · rw [if_neg g]
      exact ⟨h1, Nat.le_succ_of_le h2⟩
theorem cutsOf_len {l : List Nat} (h : Wd l) : 1 ≤ (cutsOf l).length ∧ (cutsOf l).length ≤ l.length := by
  have := cutSt_len l (l.length - 1)
  have := h.1
  unfold cutsOf
  omega
def spCuts (K : PySem.W.Frag) (C : Addr) : Sp := spW K C 0 fun l _ H Q _ => ∀ p H', H p = none → Same H H' → H' p = some (.lst (ivs (cutsOf l))) → Q (.ref p) H'
def spPieces (K : PySem.W.Frag) (C : Addr) : Sp := spW K C 0 fun l _ H Q _ => newT (piecesOf l) H Q
def spIsEarly (K : PySem.W.Frag) (C : Addr) : Sp := spW K C 0 fun l _ H Q _ => ∀ H', Same H H' → Q (.bl (early l)) H'
/-- rows, of anything of a known kind: b, whether it is just the list ps -/
def Rows (K : PySem.W.Frag) (H : Hp) (r : V) (ps : List (List Nat)) (b : Bool) : Prop :=
  (b = false ∧ ∃ t : String, TyX K H r (.type t) ∧ kitB t "list" = some false) ∨
  (∃ (p : Addr) (vs : List V) (bs : List Bool), r = .ref p ∧ H p = some (.lst vs) ∧ vs.length ≤ 100000 ∧ bs.length = vs.length ∧ (∀ (i : Nat) (v : V), vs[i]? = some v → ∃ c, bs[i]? = some c ∧ Th K H v c) ∧
    (bs.all id = false → b = false) ∧ (∀ ls : List (List Nat), vs = tvs ls → (∀ x ∈ ls, Wd x) → b = decide (ls = ps)))
theorem Rows.same {K : PySem.W.Frag} {H H' : Hp} {r : V} {ps : List (List Nat)} {b : Bool} (e : Same H H') (h : Rows K H r ps b) : Rows K H' r ps b := by
  rcases h with ⟨h1, t, h2, h3⟩ | ⟨p, vs, bs, h1, h2, h0, h3, h4, h5, h6⟩
  · exact .inl ⟨h1, t, tyx_same e h2, h3⟩
  · exact .inr ⟨p, vs, bs, h1, e _ _ h2, h0, h3, fun i v hv => by obtain ⟨c, q, t⟩ := h4 i v hv; exact ⟨c, q, t.same e⟩, h5, h6⟩
def spIsCutting (K : PySem.W.Frag) (C : Addr) : Sp := spW K C 1 fun l rest H Q _ => ∃ r b, rest = [r] ∧ Rows K H r (piecesOf l) b ∧ ∀ H', Same H H' → Q (.bl b) H'
theorem piece_ok {l : List Nat} (h : Ok l) : ∀ x ∈ piecesOf l, Ok x := fun x hx c hc => by
  obtain ⟨ab, _, rfl⟩ := List.mem_map.mp hx
  exact h c (List.mem_of_mem_drop (List.mem_of_mem_take hc))
theorem all_words {K : PySem.W.Frag} {H : Hp} : ∀ {vs : List V} {bs : List Bool}, bs.length = vs.length → (∀ (i : Nat) (v : V), vs[i]? = some v → ∃ c, bs[i]? = some c ∧ Th K H v c) → bs.all id = true → ∃ ls : List (List Nat), vs = tvs ls ∧ ∀ x ∈ ls, Wd x
  | [], [], _, _, _ => ⟨[], rfl, fun _ h => nomatch h⟩
  | [], _ :: _, h, _, _ => by simp at h
  | _ :: _, [], h, _, _ => by simp at h
  | v :: vs, b :: bs, h, f, a => by
    rw [List.all_cons, Bool.and_eq_true] at a
    obtain ⟨ls, e, k⟩ := all_words (vs := vs) (bs := bs) (by simpa using h) (fun i v hv => f (i + 1) v hv) a.2
    obtain ⟨c, hc, t⟩ := f 0 v rfl
    have ec : b = c := Option.some.inj hc
    have a1 : b = true := a.1
    rw [← ec, a1] at t
    obtain ⟨l, el, hl⟩ := t.get
    refine ⟨l :: ls, by rw [el, e]; rfl, fun x hx => ?_⟩
    rcases List.mem_cons.mp hx with z | z
    · rw [z]; exact hl
    · exact k x z
theorem turns_tail (l : List Nat) : cutV (tvs (turns l)) (some 1) none = tvs (turns l).tail := by
  have e : cutV (tvs (turns l)) (some ((1 : Nat) : Int)) none = (tvs (turns l)).drop 1 := cutL_from _ 1
  rw [show ((1 : Nat) : Int) = 1 from rfl] at e
  rw [e, ← List.map_drop, List.drop_one]
/-! ==, != of two lists of numbers; some texts sorted -/
theorem dp_ivs {K : PySem.W.Frag} {H : Hp} : ∀ ns : List Nat, DpAll K H (ivs ns) (ns.map fun n => .int (n : Nat))
  | [] => .nil
  | n :: r => .cons (.int _) (dp_ivs r)
theorem eqv_ivs : ∀ a b : List Nat, PyData.eqvAll (a.map fun n => .int (n : Nat)) (b.map fun n => .int (n : Nat)) = decide (a = b)
  | [], [] => rfl
  | [], _ :: _ => rfl
  | _ :: _, [] => rfl
  | x :: xs, y :: ys => by
    rw [List.map_cons, List.map_cons]
    unfold PyData.eqvAll
    rw [eqv_ivs xs ys]
    show ((((x : Nat) : Int) == ((y : Nat) : Int)) && _) = _
    have e : (((x : Nat) : Int) == ((y : Nat) : Int)) = decide (x = y) := by
      rw [Bool.eq_iff_iff, beq_iff_eq, decide_eq_true_eq]
      omega
    rw [e]
    by_cases h1 : x = y <;> by_cases h2 : xs = ys <;> simp [h1, h2]
theorem can_ivs : ∀ ns : List Nat, PyData.canLayAll0 (ns.map fun n => .int (n : Nat)) = true
  | [] => rfl
  | n :: r => by
    rw [List.map_cons]
    unfold PyData.canLayAll0
    rw [can_ivs r, Bool.and_true]
    rfl
theorem depth_ivs : ∀ ns : List Nat, PyData.depthAll (ns.map fun n => .int (n : Nat)) ≤ 1
  | [] => by decide
  | n :: r => by
    rw [List.map_cons]
    unfold PyData.depthAll
    refine Nat.max_le.mpr ⟨?_, depth_ivs r⟩
    first | decide | (show PyData.depth (.int _) ≤ 1; unfold PyData.depth; decide)
theorem shaped_ivs (ns : List Nat) : SeqAt.shaped (.list (ns.map fun n => .int (n : Nat))) = true := by
  unfold SeqAt.shaped
  rw [Bool.and_eq_true]
  constructor
  · unfold PyData.canLay0
    exact can_ivs ns
  · refine decide_eq_true ?_
    unfold PyData.depth
    have := depth_ivs ns
    omega
def rEqI (K : PySem.W.Frag) (neg : Bool) : R2 := fun x y H Q => ∃ (p q : Addr) (a b : List Nat), x = .ref p ∧ y = .ref q ∧ SqL K H p (ivs a) ∧ SqL K H q (ivs b) ∧ Q (.bl (if neg then !decide (a = b) else decide (a = b))) H
theorem eqv_nums (a b : List Nat) : PyData.eqv (.list (a.map fun n => .int (n : Nat))) (.list (b.map fun n => .int (n : Nat))) = decide (a = b) := by
  unfold PyData.eqv
  exact eqv_ivs a b
section
variable {X : Cx}
theorem op_eqI (hu : X.A.units + 64 < cLine) : OpR X (compareOp .Eq) (rEqI X.K false) := fun pins s σ H x y v u Q I rx ry ⟨p, q, a, b, e1, e2, h1, h2, k⟩ =>
  op_eqD hu pins s σ H x y v u Q I rx ry ⟨_, _, by rw [e1]; exact .lst h1 (dp_ivs a), by rw [e2]; exact .lst h2 (dp_ivs b), shaped_ivs a, shaped_ivs b, by rw [eqv_nums]; exact k⟩
theorem op_neI (hu : X.A.units + 64 < cLine) : OpR X (compareOp .NotEq) (rEqI X.K true) := fun pins s σ H x y v u Q I rx ry ⟨p, q, a, b, e1, e2, h1, h2, k⟩ =>
  op_neD hu pins s σ H x y v u Q I rx ry ⟨_, _, by rw [e1]; exact .lst h1 (dp_ivs a), by rw [e2]; exact .lst h2 (dp_ivs b), shaped_ivs a, shaped_ivs b, by rw [eqv_nums]; exact k⟩
end
theorem sorted_any {ys : List Str} {ls : List (List Nat)} (p : ys.Perm (ls.map T)) : ∃ ls' : List (List Nat), ys.map V.str = tvs ls' ∧ ls'.length = ls.length ∧ ∀ x ∈ ls', x ∈ ls := by
  refine ⟨ys.map (·.cps.toList), ?_, ?_, fun x hx => ?_⟩
  · show _ = (ys.map (·.cps.toList)).map tv
    rw [List.map_map]
    refine List.map_congr_left fun y _ => ?_
    show V.str y = V.str (T y.cps.toList)
    rw [T_of]
  · rw [List.length_map, p.length_eq, List.length_map]
  · obtain ⟨y, hy, rfl⟩ := List.mem_map.mp hx
    obtain ⟨z, hz, e⟩ := List.mem_map.mp (p.mem_iff.mp hy)
    rw [← e, T_cps]
    exact hz
theorem flat_wd {n : Nat} : ∀ {ls : List (List Nat)}, (∀ x ∈ ls, Wd x ∧ x.length ≤ n) → ls.flatten.length ≤ n * ls.length ∧ ∀ c ∈ ls.flatten, 97 ≤ c ∧ c ≤ 122
  | [], _ => ⟨Nat.zero_le _, fun c hc => by simp at hc⟩
  | x :: r, h => by
    obtain ⟨i1, i2⟩ := flat_wd (ls := r) fun y hy => h y (List.mem_cons_of_mem _ hy)
    have hx := h x List.mem_cons_self
    rw [List.flatten_cons]
    refine ⟨?_, fun c hc => ?_⟩
    · rw [List.length_append, List.length_cons, Nat.mul_succ]
      omega
    · rcases List.mem_append.mp hc with z | z
      · exact hx.1.2.2 c z
      · exact i2 c z
/-! with the written part named: within comprehensions -/
section
variable {X : Cx} {K : PySem.W.Frag}
theorem cr_minLK (hK : X.K = K) (hc : X.calm = true) (hu : X.A.units + 64 < cLine) : CallR X (.builtin "min") (rMinL K) := hK ▸ cr_minL hc hu
theorem call_isiK (hK : X.K = K) : CallR X (.builtin "isinstance") (rIsi K) := hK ▸ call_isi
theorem ix_listK (hK : X.K = K) : IxR X (rIxL K) := hK ▸ ix_list
theorem sl_listK (hK : X.K = K) : SlR X (rSlL K) := hK ▸ sl_list
theorem pe_joinTK {o e : Expr} {to te : TE} {apos pos : Pos} (hK : X.K = K) (ho : PE X o to) (he : PE X e te)
    (h1 : starEach [e] X.env = [(false, eval e X.env)] := by rfl) (h2 : attributeBase o "join" X.env (eval o X.env) = eval o X.env := by rfl) (h3 : (apos.endLine == pos.line) = true := by rfl) :
    PE X (.Call (.Attribute o "join" apos) [e] [] pos) (tM1 (rJoinT K) to te) := hK ▸ pe_joinT ho he h1 h2 h3
end
end Rw
namespace Rw
open PySem PySem.Spec PyProof.Rows L2
/-! text.rstrip(sign), text.index(sign), sign in text, isinstance of anything by an own class -/
def rstripL (l : List Nat) (z : Nat) : List Nat := l.take (l.length - (l.reverse.takeWhile (fun c => decide (c = z))).length)
theorem rstripL_len (l : List Nat) (z : Nat) : (rstripL l z).length ≤ l.length := by
  unfold rstripL
  rw [List.length_take]
  omega
theorem rstrip_split (l : List Nat) (z : Nat) : ∃ m, l = rstripL l z ++ List.replicate m z ∧ ∀ a, (rstripL l z).getLast? = some a → a ≠ z := by
  have h0 := List.takeWhile_append_dropWhile (p := fun c => decide (c = z)) (l := l.reverse)
  have hr : l = (l.reverse.dropWhile fun c => decide (c = z)).reverse ++ (l.reverse.takeWhile fun c => decide (c = z)).reverse := by
    rw [← List.reverse_append, h0, List.reverse_reverse]
  have e : rstripL l z = (l.reverse.dropWhile fun c => decide (c = z)).reverse := by
    have hl := congrArg List.length hr
    rw [List.length_append, List.length_reverse, List.length_reverse] at hl
    have t := List.take_left (l₁ := (l.reverse.dropWhile fun c => decide (c = z)).reverse) (l₂ := (l.reverse.takeWhile fun c => decide (c = z)).reverse)
    rw [← hr, List.length_reverse] at t
    unfold rstripL
    rw [show l.length - (l.reverse.takeWhile fun c => decide (c = z)).length = (l.reverse.dropWhile fun c => decide (c = z)).length from by omega]
    exact t
  refine ⟨(l.reverse.takeWhile fun c => decide (c = z)).length, ?_, fun a ha => ?_⟩
  · rw (occs := .pos [1]) [hr]
    rw [e]
    congr 1
    refine List.eq_replicate_iff.mpr ⟨List.length_reverse, fun b hb => ?_⟩
    have := List.all_eq_true.mp (List.all_takeWhile (p := fun c => decide (c = z)) (l := l.reverse)) b (List.mem_reverse.mp hb)
    simpa using this
  · rw [e, List.getLast?_reverse] at ha
    have := List.head?_dropWhile_not (fun c => decide (c = z)) l.reverse
    rw [ha] at this
    simpa using this
theorem rstrip_T (l : List Nat) (z : Nat) : Txt.rstripChars (T l) (T [z]) = T (rstripL l z) := by
  unfold Txt.rstripChars
  rw [PyProof.Rows.stripBy_eq, PyProof.Rows.strSub_mk]
  unfold stripLo stripHi
  simp only [Bool.false_eq_true, if_false, if_true]
  rw [T_cps, T_len, List.drop_zero, Nat.sub_zero]
  have e : (T [z]).cps.contains = fun c => decide (c = z) := by
    funext c
    simp [T]
  rw [e]
  rfl
def rRstripT : V → List V → Hp → VK → Prop := fun x xs H Q => ∃ (l : List Nat) (z : Nat), x = tv l ∧ xs = [tv [z]] ∧ l.length ≤ 100000 ∧ Q (tv (rstripL l z)) H
theorem take_one_at (l : List Nat) (i c : Nat) : (l.drop i).take 1 = [c] ↔ l[i]? = some c := by
  rw [List.take_one, List.head?_drop]
  cases l[i]? <;> simp
theorem sub_at {l : List Nat} {c i : Nat} : Builtin.Str.subAt (T l) (T [c]) i = true ↔ l[i]? = some c := by
  unfold Builtin.Str.subAt
  rw [beq_iff_eq, T_len]
  show l.toArray.extract i (i + 1) = [c].toArray ↔ _
  rw [List.extract_toArray, List.extract_eq_drop_take, ← take_one_at, show i + 1 - i = 1 from by omega]
  constructor
  · intro h
    simpa using h
  · intro h
    rw [h]
theorem idx_of {l : List Nat} {c i : Nat} (h : l[i]? = some c) (hn : ∀ k, k < i → l[k]? ≠ some c) : l.idxOf c = i := by
  have hm : c ∈ l := List.mem_of_getElem? h
  have hlt : l.idxOf c < l.length := List.idxOf_lt_length_of_mem hm
  have e : l[l.idxOf c]? = some c := by
    rw [List.getElem?_eq_getElem hlt]
    simp
  have h1 : ¬ l.idxOf c < i := fun z => hn _ z e
  have hi : i < l.length := (List.getElem?_eq_some_iff.mp h).1
  have h2 : ¬ i < l.idxOf c := fun z => by
    have := List.not_of_lt_findIdx (p := (· == c)) (xs := l) (i := i) z
    rw [(List.getElem?_eq_some_iff.mp h).2] at this
    simp at this
  omega
def rIndexC : V → List V → Hp → VK → Prop := fun x xs H Q => ∃ (l : List Nat) (c : Nat), x = tv l ∧ xs = [tv [c]] ∧ c ∈ l ∧ Q (.int (l.idxOf c : Nat)) H
section
variable {X : Cx}
theorem mt_rstripT : MtR X "str.rstrip" rRstripT := fun pins s σ H x xs v us Q I rx rxs ⟨l, z, e1, e2, hz, q⟩ =>
  mt_rstripChars pins s σ H x xs v us Q I rx rxs ⟨T l, T [z], e1, e2, by rw [T_len]; exact big hz, by rw [rstrip_T]; exact q⟩
theorem mt_indexC : MtR X "str.index" rIndexC := by
  rintro pins s σ H x xs v us Q I rx rxs ⟨l, c, rfl, rfl, hc, q⟩
  obtain ⟨t, rfl⟩ := rx
  obtain ⟨u, rfl, ru⟩ := rxs.one
  obtain ⟨t2, rfl⟩ := ru
  have atI : ∀ i, StrLaws.At (T l) (T [c]) (T l).length i ↔ l[i]? = some c := fun i => by
    unfold StrLaws.At
    rw [sub_at, T_len, T_len]
    constructor
    · exact fun h => h.2
    · exact fun h => ⟨(List.getElem?_eq_some_iff.mp h).1, h⟩
  rcases StrLaws.occ_head (T l) (T [c]) 1 (Nat.le_refl _) with ⟨_, hn⟩ | ⟨i, r, e, ha, hb⟩
  · obtain ⟨i, hi, e⟩ := List.mem_iff_getElem.mp hc
    exact absurd ((atI i).mpr (List.getElem?_eq_some_iff.mpr ⟨hi, e⟩)) (hn i)
  · have ei := idx_of ((atI i).mp ha) fun k hk z => hb k hk ((atI k).mpr z)
    rw [ei] at q
    exact call_gives PySem.F.slot_str_index (typeIs_str _ _ _) PySem.F.entry_str_index (PySem.F.args_str_index_2 _ _) (gives_str_index (T l) (T [c]) t t2 i r e) ⟨.int (i : Nat), H, I.tok _, ⟨_, rfl⟩, q⟩
def rInC : R2 := fun x y H Q => ∃ (c : Nat) (l : List Nat), x = tv [c] ∧ y = tv l ∧ Q (.bl (decide (c ∈ l))) H
theorem op_inC : OpR X (compareOp .In) rInC := fun pins s σ H x y v u Q I rx ry ⟨c, l, e1, e2, q⟩ =>
  op_in_sign pins s σ H x y v u Q I rx ry ⟨c, T l, e1, e2, by rw [T_cps]; exact q⟩
/-- isinstance(x, C), x a kept error or of a known kind -/
def rIsE (K : PySem.W.Frag) : List V → Hp → VK → Prop := fun xs H Q => ∃ (x : V) (C : Addr) (b : Bool), xs = [x, .ref C] ∧
  ((∃ a D, x = .ref a ∧ H a = some (ExV (.ref D) a) ∧ ExcC K D ∧ PySem.W.kitOne K (.ref D) (.ref C) = some b) ∨ ∃ t, TyX K H x t ∧ PySem.W.kitOne K t (.ref C) = some b) ∧ Q (.bl b) H
theorem call_isE : CallR X (.builtin "isinstance") (rIsE X.K) := by
  rintro pins s σ H xs us Q I r ⟨x, C, b, rfl, h, q⟩
  rcases h with ⟨a, D, rfl, h1, h2, h3⟩ | ⟨t, h1, h2⟩
  · exact call_isX pins s σ H _ us Q I r ⟨a, D, _, .ref C, b, rfl, h1, h2, (fun u h => h), h3, q⟩
  · exact call_isi pins s σ H _ us Q I r ⟨x, _, t, .ref C, b, rfl, .own C, h1, h2, q⟩
end
end Rw
namespace Rw
open PySem PySem.Spec PyProof.Rows L2
/-! early words, pieces: pure -/
/-- they part at a place at which the one is less -/
def Sl (a b : List Nat) : Prop := ∃ (p : List Nat) (x y : Nat) (s t : List Nat), a = p ++ x :: s ∧ b = p ++ y :: t ∧ x < y
theorem tri (a b : List Nat) : a < b ∨ a = b ∨ b < a := by
  by_cases h : a < b
  · exact .inl h
  · rcases List.le_iff_lt_or_eq.mp (List.not_lt.mp h) with g | g
    · exact .inr (.inr g)
    · exact .inr (.inl g.symm)
theorem lt_irr {a : List Nat} (h : a < a) : False := List.lt_irrefl a h
theorem lt_asym {a b : List Nat} (h : a < b) (g : b < a) : False := List.lt_irrefl a (List.lt_trans h g)
theorem lt_cases : ∀ {a b : List Nat}, a < b → Sl a b ∨ ∃ c, c ≠ [] ∧ b = a ++ c
  | [], [], h => (lt_irr h).elim
  | [], y :: t, _ => .inr ⟨y :: t, by simp, rfl⟩
  | x :: s, [], h => absurd h (List.not_lt_nil _)
  | x :: s, y :: t, h => by
    rcases List.cons_lt_cons_iff.mp h with g | ⟨rfl, g⟩
    · exact .inl ⟨[], x, y, s, t, rfl, rfl, g⟩
    · rcases lt_cases g with ⟨p, u, v, s', t', e1, e2, q⟩ | ⟨c, hc, e⟩
      · exact .inl ⟨x :: p, u, v, s', t', by rw [e1]; rfl, by rw [e2]; rfl, q⟩
      · exact .inr ⟨c, hc, by rw [e]; rfl⟩
theorem Sl.lt {a b : List Nat} (h : Sl a b) (u v : List Nat) : a ++ u < b ++ v := by
  obtain ⟨p, x, y, s, t, rfl, rfl, q⟩ := h
  rw [List.append_assoc, List.append_assoc]
  exact List.append_left_lt (List.cons_lt_cons_iff.mpr (.inl q))
theorem Sl.lt0 {a b : List Nat} (h : Sl a b) : a < b := by
  have := h.lt [] []
  simpa using this
theorem nil_lt {c : List Nat} (h : c ≠ []) : [] < c := by
  cases c with
  | nil => exact absurd rfl h
  | cons x s => exact List.nil_lt_cons x s
theorem pre_lt (a : List Nat) {c : List Nat} (h : c ≠ []) : a < a ++ c := by
  have := List.append_left_lt (l₁ := a) (nil_lt h)
  simpa using this
theorem cancel : ∀ {p a b : List Nat}, p ++ a < p ++ b → a < b
  | [], _, _, h => h
  | x :: p, _, _, h => by
    rcases List.cons_lt_cons_iff.mp h with g | ⟨_, g⟩
    · exact absurd g (Nat.lt_irrefl x)
    · exact cancel g
theorem Sl.app : ∀ {v e y : List Nat}, Sl (v ++ e) y → Sl v y ∨ ∃ y', y = v ++ y' ∧ Sl e y'
  | [], e, y, h => .inr ⟨y, rfl, h⟩
  | x :: v, e, y, ⟨p, c, d, s, t, e1, e2, q⟩ => by
    cases p with
    | nil =>
      have z := List.cons.inj e1
      exact .inl ⟨[], x, d, v, t, rfl, e2, by rw [z.1]; exact q⟩
    | cons p0 p =>
      have z := List.cons.inj e1
      rcases Sl.app (v := v) (e := e) (y := p ++ d :: t) ⟨p, c, d, s, t, z.2, rfl, q⟩ with ⟨p', c', d', s', t', h1, h2, q'⟩ | ⟨y', h1, h2⟩
      · exact .inl ⟨x :: p', c', d', s', t', by rw [h1]; rfl, by rw [e2, z.1, List.cons_append, h2]; rfl, q'⟩
      · exact .inr ⟨y', by rw [e2, z.1, List.cons_append, h1]; rfl, h2⟩
theorem Sl.trans {a b c : List Nat} (h : Sl a b) (k : Sl b c) : Sl a c := by
  obtain ⟨p, x, y, s, t, rfl, rfl, q⟩ := h
  rcases Sl.app k with ⟨p', c', d', s', t', h1, h2, q'⟩ | ⟨y', h1, p', c', d', s', t', h2, h3, q'⟩
  · exact ⟨p', c', d', s' ++ x :: s, t', by rw [h1]; simp, h2, q'⟩
  · subst h1 h3
    cases p' with
    | nil =>
      have z := List.cons.inj h2
      refine ⟨p, x, d', s, t', rfl, rfl, ?_⟩
      have z1 : y = c' := z.1
      omega
    | cons p0 p' =>
      have z := List.cons.inj h2
      exact ⟨p, x, p0, s, p' ++ d' :: t', rfl, rfl, by have z1 : y = p0 := z.1; omega⟩
theorem mem_tail {l o : List Nat} : o ∈ (turns l).tail ↔ ∃ k, 1 ≤ k ∧ k < l.length ∧ o = turn l k := by
  unfold turns
  cases hn : l.length with
  | zero =>
    constructor
    · intro h
      simp at h
    · rintro ⟨k, _, h, _⟩
      omega
  | succ n =>
    rw [List.range_succ_eq_map, List.map_cons, List.tail_cons, List.map_map]
    constructor
    · intro h
      obtain ⟨k, hk, e⟩ := List.mem_map.mp h
      have := List.mem_range.mp hk
      exact ⟨k + 1, by omega, by omega, e.symm⟩
    · rintro ⟨k, h1, h2, e⟩
      refine List.mem_map.mpr ⟨k - 1, List.mem_range.mpr (by omega), ?_⟩
      show turn l (k - 1 + 1) = o
      rw [Nat.sub_add_cancel h1, e]
theorem early_iff {l : List Nat} : early l = true ↔ ∀ k, 1 ≤ k → k < l.length → l < l.drop k ++ l.take k := by
  unfold early
  rw [List.all_eq_true]
  constructor
  · intro h k h1 h2
    exact of_decide_eq_true (h (turn l k) (mem_tail.mpr ⟨k, h1, h2, rfl⟩))
  · intro h o ho
    obtain ⟨k, h1, h2, rfl⟩ := mem_tail.mp ho
    exact decide_eq_true (h k h1 h2)
theorem early_suf {l : List Nat} (h : early l = true) {k : Nat} (h1 : 1 ≤ k) (h2 : k < l.length) : Sl l (l.drop k) := by
  have hE := early_iff.mp h
  have a1 := hE k h1 h2
  have ld : (l.drop k).length = l.length - k := List.length_drop
  have lt : (l.take k).length = k := by rw [List.length_take]; omega
  have e : l.take k ++ l.drop k = l := List.take_append_drop k l
  rcases tri l (l.drop k) with g | g | g
  · rcases lt_cases g with z | ⟨c, hc, z⟩
    · exact z
    · have := congrArg List.length z
      rw [List.length_append] at this
      omega
  · have := congrArg List.length g
    omega
  · exfalso
    rcases lt_cases g with z | ⟨c, hc, z⟩
    · have := z.lt (l.take k) []
      rw [List.append_nil] at this
      exact lt_asym a1 this
    · have lc : c.length = k := by
        have := congrArg List.length z
        rw [List.length_append] at this
        omega
      have a2 : c < l.take k := by
        rw (occs := .pos [1]) [z] at a1
        exact cancel a1
      have a3 := hE (l.length - k) (by omega) (by omega)
      have e1 : l.drop (l.length - k) = c := by
        rw (occs := .pos [2]) [z]
        rw [← ld, List.drop_left]
      have e2 : l.take (l.length - k) = l.drop k := by
        rw (occs := .pos [2]) [z]
        rw [← ld, List.take_left]
      rw [e1, e2] at a3
      rw (occs := .pos [1]) [← e] at a3
      rcases lt_cases a2 with y | ⟨d, hd, y⟩
      · exact lt_asym a3 (y.lt _ _)
      · have := congrArg List.length y
        rw [List.length_append] at this
        have : d.length = 0 := by omega
        exact hd (List.eq_nil_of_length_eq_zero this)
theorem suf_early {l : List Nat} (h : ∀ k, 1 ≤ k → k < l.length → Sl l (l.drop k)) : early l = true :=
  early_iff.mpr fun k h1 h2 => by
    have := (h k h1 h2).lt [] (l.take k)
    rwa [List.append_nil] at this
end Rw
namespace Rw
open PySem PySem.Spec PyProof.Rows L2
/-! sorted(list of texts), any number of them -/
def rSortedL (K : PySem.W.Frag) : List V → Hp → VK → Prop := fun vs H Q => ∃ (a : Addr) (ls : List (List Nat)), vs = [V.ref a] ∧ SqL K H a (tvs ls) ∧
  ∀ (ys : List (List Nat)) (p : Addr), ys.Perm ls → ys.Pairwise (fun x y => ¬ y < x) → H p = none → Q (.ref p) (upd H p (.lst (tvs ys)))
theorem strs_vals : ∀ {ls : List (List Nat)} {us : List Value}, Vals (tvs ls) us → StrsAre us (ls.map T)
  | [], _, r => by
    cases r
    exact .nil
  | l :: ls, _, r => by
    cases r with
    | cons r1 r2 =>
      obtain ⟨t, rfl⟩ := r1
      exact .cons _ t (strs_vals r2)
theorem rising_pair : ∀ (r : List Str) (p : Str), risingS p r = true → (p :: r).Pairwise fun x y => ¬ y.cps.toList < x.cps.toList
  | [], p, _ => List.pairwise_singleton _ p
  | x :: r, p, h => by
    unfold risingS at h
    rw [Bool.and_eq_true] at h
    have i := rising_pair r x h.2
    have g : ¬ x.cps.toList < p.cps.toList := by
      have z := h.1
      simpa [ltCps_eq] using z
    refine List.Pairwise.cons (fun y hy => ?_) i
    rcases List.mem_cons.mp hy with e | e
    · rw [e]; exact g
    · have k := (List.pairwise_cons.mp i).1 y e
      intro q
      rcases tri x.cps.toList p.cps.toList with u | u | u
      · exact g u
      · exact k (u ▸ q)
      · exact k (List.lt_trans q u)
theorem sorted_pair : ∀ {ys : List Str}, sortedS ys = true → ys.Pairwise fun x y => ¬ y.cps.toList < x.cps.toList
  | [], _ => List.Pairwise.nil
  | p :: r, h => rising_pair r p h
theorem cr_sortedL {X : Cx} : CallR X (.builtin "sorted") (rSortedL X.K) := by
  intro pins s σ H vs us Q I r h
  obtain ⟨a, ls, rfl, hs, q⟩ := h
  obtain ⟨its, rv, hl, hz⟩ := I.list hs
  rw [Vals.ref1 r]
  have hS : StrsAre its (ls.map T) := strs_vals rv
  have hsz : its.length ≤ sizeLine := by rw [← rv.length]; exact hz
  refine PyProof.Rows.sorted_strsAny hl.isList hS hsz fun out ys h1 h2 h3 => ?_
  obtain ⟨ep, he'⟩ := PyProof.Rows.sortedAll_at s.heap its out
  have ey : ys.map V.str = tvs (ys.map (·.cps.toList)) := by
    show _ = (ys.map (·.cps.toList)).map tv
    rw [List.map_map]
    refine List.map_congr_left fun y _ => ?_
    show V.str y = V.str (T y.cps.toList)
    rw [T_of]
  have hlen : (ys.map V.str).length ≤ sizeLine := by
    rw [List.length_map, h2.length_eq, List.length_map]
    rw [List.length_map] at hz
    exact hz
  refine ⟨.ref _, upd H (s.heap.objs.size + 1) (.lst (ys.map V.str)), I.laid (t' := s.toks) (fun _ _ => PyProof.Rows.sortedAll_old) (Nat.le_succ _) ⟨hlen, out.toList, ep, vals_of_strs h1, he'⟩, rfl, ?_⟩
  rw [ey]
  refine q _ _ ?_ ?_ (I.hok.fresh (Nat.le_succ _))
  · have z := h2.map (·.cps.toList)
    rw [List.map_map] at z
    have e : (fun x => x.cps.toList) ∘ T = id := funext T_cps
    rw [e, List.map_id] at z
    exact z
  · exact List.pairwise_map.mpr (sorted_pair h3)
end Rw
namespace Rw
open PySem PySem.Spec PyProof.Rows L2
/-! tuples, and lists of tuples, of numbers and texts: ==, != -/
abbrev Fl := Int ⊕ List Nat
def flV : Fl → V
  | .inl i => .int i
  | .inr l => tv l
def flD : Fl → PyData
  | .inl i => .int i
  | .inr l => .str (T l)
def FlOk : Fl → Prop
  | .inl _ => True
  | .inr l => Ok l
theorem dp_fl1 {K : PySem.W.Frag} {H : Hp} (x : Fl) : Dp K H (flV x) (flD x) := by
  cases x with
  | inl i => exact .int i
  | inr l => exact .str (T l)
theorem dp_fl {K : PySem.W.Frag} {H : Hp} : ∀ xs : List Fl, DpAll K H (xs.map flV) (xs.map flD)
  | [] => .nil
  | x :: r => .cons (dp_fl1 x) (dp_fl r)
theorem eqv_fl1 (x y : Fl) : PyData.eqv (flD x) (flD y) = decide (x = y) := by
  cases x with
  | inl i =>
    cases y with
    | inl j =>
      show (i == j) = _
      rw [Bool.eq_iff_iff, beq_iff_eq, decide_eq_true_eq]
      simp
    | inr m => exact (decide_eq_false (fun h => nomatch h)).symm
  | inr l =>
    cases y with
    | inl j => exact (decide_eq_false (fun h => nomatch h)).symm
    | inr m =>
      show (T l == T m) = _
      rw [T_beq]
      exact decide_eq_decide.mpr (by simp)
theorem eqv_fl : ∀ xs ys : List Fl, PyData.eqvAll (xs.map flD) (ys.map flD) = decide (xs = ys)
  | [], [] => rfl
  | [], _ :: _ => rfl
  | _ :: _, [] => rfl
  | x :: xs, y :: ys => by
    rw [List.map_cons, List.map_cons]
    unfold PyData.eqvAll
    rw [eqv_fl xs ys, eqv_fl1]
    by_cases h1 : x = y <;> by_cases h2 : xs = ys <;> simp [h1, h2]
theorem can_str {a : List Nat} (h : Ok a) : PyData.canLay0 (.str (T a)) = true := by
  unfold PyData.canLay0
  show Array.all _ _ = true
  simp only [T, List.size_toArray, List.all_toArray', List.all_eq_true]
  intro c hc
  exact decide_eq_true (h c hc)
theorem can_fl : ∀ xs : List Fl, (∀ x ∈ xs, FlOk x) → PyData.canLayAll0 (xs.map flD) = true
  | [], _ => rfl
  | x :: r, h => by
    rw [List.map_cons]
    unfold PyData.canLayAll0
    rw [can_fl r fun y hy => h y (List.mem_cons_of_mem _ hy), Bool.and_true]
    have hx := h x List.mem_cons_self
    cases x with
    | inl i => rfl
    | inr l => exact can_str hx
theorem depth_fl : ∀ xs : List Fl, PyData.depthAll (xs.map flD) ≤ 1
  | [] => by decide
  | x :: r => by
    rw [List.map_cons]
    unfold PyData.depthAll
    refine Nat.max_le.mpr ⟨?_, depth_fl r⟩
    cases x with
    | inl i => first | decide | (show PyData.depth (.int _) ≤ 1; unfold PyData.depth; decide)
    | inr l => first | decide | (show PyData.depth (.str _) ≤ 1; unfold PyData.depth; decide)
theorem shaped_fl (xs : List Fl) (h : ∀ x ∈ xs, FlOk x) : SeqAt.shaped (.tuple (xs.map flD)) = true := by
  unfold SeqAt.shaped
  rw [Bool.and_eq_true]
  constructor
  · unfold PyData.canLay0
    exact can_fl xs h
  · refine decide_eq_true ?_
    unfold PyData.depth
    have := depth_fl xs
    omega
def rEqTF (K : PySem.W.Frag) (neg : Bool) : R2 := fun x y H Q => ∃ (p q : Addr) (xs ys : List Fl), x = .ref p ∧ y = .ref q ∧ SqT K H p (xs.map flV) ∧ SqT K H q (ys.map flV) ∧ (∀ x ∈ xs, FlOk x) ∧ (∀ y ∈ ys, FlOk y) ∧ Q (.bl (if neg then !decide (xs = ys) else decide (xs = ys))) H
theorem eqv_tups (xs ys : List Fl) : PyData.eqv (.tuple (xs.map flD)) (.tuple (ys.map flD)) = decide (xs = ys) := by
  unfold PyData.eqv
  exact eqv_fl xs ys
section
variable {X : Cx}
theorem op_eqTF (hu : X.A.units + 64 < cLine) : OpR X (compareOp .Eq) (rEqTF X.K false) := fun pins s σ H x y v u Q I rx ry ⟨p, q, a, b, e1, e2, h1, h2, o1, o2, k⟩ =>
  op_eqD hu pins s σ H x y v u Q I rx ry ⟨_, _, by rw [e1]; exact .tup h1 (dp_fl a), by rw [e2]; exact .tup h2 (dp_fl b), shaped_fl a o1, shaped_fl b o2, by rw [eqv_tups]; exact k⟩
theorem op_neTF (hu : X.A.units + 64 < cLine) : OpR X (compareOp .NotEq) (rEqTF X.K true) := fun pins s σ H x y v u Q I rx ry ⟨p, q, a, b, e1, e2, h1, h2, o1, o2, k⟩ =>
  op_neD hu pins s σ H x y v u Q I rx ry ⟨_, _, by rw [e1]; exact .tup h1 (dp_fl a), by rw [e2]; exact .tup h2 (dp_fl b), shaped_fl a o1, shaped_fl b o2, by rw [eqv_tups]; exact k⟩
end
theorem fl_two {a : List Nat} {i : Int} (h : Ok a) : ∀ x ∈ ([.inr a, .inl i] : List Fl), FlOk x := fun x hx => by
  simp only [List.mem_cons, List.not_mem_nil, or_false] at hx
  rcases hx with rfl | rfl
  · exact h
  · exact True.intro
end Rw
namespace Rw
open PySem PySem.Spec PyProof.Rows L2
theorem filt_step (f : Nat → Bool) (i : Nat) : ((List.range (i + 1)).map (1 + ·)).filter f = ((List.range i).map (1 + ·)).filter f ++ (if f (1 + i) = true then [1 + i] else []) := by
  rw [List.range_succ, List.map_append, List.filter_append]
  congr 1
  cases g : f (1 + i) <;> simp [g]
theorem filt_step0 (f : Nat → Bool) (i : Nat) : (List.range (i + 1)).filter f = (List.range i).filter f ++ (if f i = true then [i] else []) := by
  rw [List.range_succ, List.filter_append]
  congr 1
  cases g : f i <;> simp [g]
/-! text.endswith, max(numbers, default=0), True in truths -/
theorem ends_T (a b : List Nat) (h : b.length ≤ a.length) : Txt.endswith (T a) (T b) = decide (b = a.drop (a.length - b.length)) := by
  unfold Txt.endswith
  rw [T_len, T_len]
  have h1 : decide (0 + b.length ≤ a.length) = true := decide_eq_true (by omega)
  rw [h1, Bool.true_and]
  unfold Builtin.Str.subAt
  rw [T_len]
  rw [Bool.eq_iff_iff, beq_iff_eq, decide_eq_true_eq]
  show (a.toArray.extract _ _ = b.toArray) ↔ _
  rw [List.extract_toArray]
  have e : (a.drop (a.length - b.length)).take b.length = a.drop (a.length - b.length) := List.take_of_length_le (by rw [List.length_drop]; omega)
  have e2 : a.length - b.length + b.length - (a.length - b.length) = b.length := by omega
  have e3 : a.extract (a.length - b.length) (a.length - b.length + b.length) = a.drop (a.length - b.length) := by
    rw [List.extract_eq_drop_take, e2, e]
  rw [e3]
  constructor
  · intro z
    have : a.drop (a.length - b.length) = b := by simpa using z
    exact this.symm
  · intro z
    rw [← z]
def rEndsT : V → List V → Hp → VK → Prop := fun x xs H Q => ∃ a b : List Nat, x = tv a ∧ xs = [tv b] ∧ b.length ≤ a.length ∧ Q (.bl (decide (b = a.drop (a.length - b.length)))) H
section
variable {X : Cx}
theorem mt_endsT : MtR X "str.endswith" rEndsT := fun pins s σ H x xs v us Q I rx rxs ⟨a, b, e1, e2, h, q⟩ =>
  mt_endswith pins s σ H x xs v us Q I rx rxs ⟨T a, T b, e1, e2, by rw [ends_T a b h]; exact q⟩
def rMaxD (K : PySem.W.Frag) : List V → List V → Hp → VK → Prop := fun xs zs H Q => ∃ (a : Addr) (ns : List Nat), xs = [.ref a] ∧ zs = [.int 0] ∧ SqL K H a (ivs ns) ∧ Q (.int ((ns.foldl max 0 : Nat) : Int)) H
theorem reads_ints {h : Heap} : ∀ {us : List Value} {ns : List Nat}, Vals (ivs ns) us → ReadsAll h us (ns.map fun n => PyData.int (n : Nat)) []
  | us, [], r => by
    cases r
    exact .nil
  | us, n :: ns, r => by
    cases r with
    | cons r1 r2 =>
      obtain ⟨t, rfl⟩ := r1
      exact ReadsAll.cons (as := []) (.int _ t) (reads_ints r2)
theorem fold_max_cast : ∀ (ns : List Nat) (n : Nat), (ns.map fun k => ((k : Nat) : Int)).foldl max (n : Int) = ((ns.foldl max n : Nat) : Int)
  | [], n => rfl
  | k :: r, n => by
    rw [List.map_cons, List.foldl_cons, List.foldl_cons, ← fold_max_cast r (max n k)]
    congr 1
    omega
theorem cr_maxD (hc : X.calm = true) (hu : X.A.units + 64 < cLine) : CallRK X (.builtin "max") [("default" : Str)] (rMaxD X.K) := by
  intro pins s σ H xs zs us ws Q I r rz h
  obtain ⟨a, ns, rfl, rfl, hs, q⟩ := h
  obtain ⟨its, rv, hl, _⟩ := I.list hs
  rw [Vals.ref1 r]
  obtain ⟨u, rfl, ru⟩ := rz.one
  obtain ⟨t, rfl⟩ := ru
  have hd : ∀ l : List Nat, PyData.depthAll (l.map fun n => PyData.int (n : Nat)) ≤ 1 := depth_ivs
  have ha : PySem.W.AlikeAll (ns.map fun n => PyData.int (n : Nat)) := by
    refine ⟨fun p hp q hq => ?_, fun p hp e => ?_⟩
    · obtain ⟨y, _, rfl⟩ := List.mem_map.mp hp
      obtain ⟨z, _, rfl⟩ := List.mem_map.mp hq
      rfl
    · obtain ⟨y, _, rfl⟩ := List.mem_map.mp hp
      cases e
  refine PySem.W.max_list_default (xs := ns.map fun n => PyData.int (n : Nat)) (I.ok.hd hc) hl.isList (by simpa using reads_ints (h := s.heap) rv) ha (by have := hd ns; omega) (fun e h' tk hk => ?_) (fun y ys i v h' tk bs e hv hr hk => ?_)
  · have en : ns = [] := by simpa using e
    subst en
    exact ⟨.int 0, H, I.kept hk, ⟨_, rfl⟩, q⟩
  · cases ns with
    | nil => simp at e
    | cons n r =>
      rw [List.map_cons] at e
      obtain ⟨e1, e2⟩ := List.cons.inj e
      subst e1 e2
      have e3 : (r.map fun n => PyData.int (n : Nat)) = (r.map fun n => ((n : Nat) : Int)).map .int := by rw [List.map_map]; rfl
      rw [e3, PySem.W.maxD_ints, fold_max_cast] at hr
      obtain ⟨t, rfl⟩ : ∃ t, v = Value.int ((r.foldl max n : Nat) : Int) t := by
        cases hr with
        | int z t => exact ⟨t, rfl⟩
      have e4 : (n :: r).foldl max 0 = r.foldl max n := by
        rw [List.foldl_cons, Nat.zero_max]
      rw [e4] at q
      exact ⟨.int _, H, I.kept hk, ⟨_, rfl⟩, q⟩
def rInB (K : PySem.W.Frag) : R2 := fun x y H Q => ∃ (p : Addr) (bs : List Bool), x = .bl true ∧ y = .ref p ∧ SqL K H p (bs.map V.bl) ∧ Q (.bl (decide (true ∈ bs))) H
theorem op_inB : OpR X (compareOp .In) (rInB X.K) := fun pins s σ H x y v u Q I rx ry ⟨p, bs, e1, e2, hs, q⟩ => by
  have e : ∀ bs : List Bool, inV (.bl true) (bs.map V.bl) = decide (true ∈ bs) := by
    intro bs
    induction bs with
    | nil => rfl
    | cons b r ih =>
      have e1 : inV (.bl true) ((b :: r).map V.bl) = ((b == true) || inV (.bl true) (r.map V.bl)) := rfl
      rw [e1, ih]
      cases b <;> simp
  exact op_in_seq pins s σ H x y v u Q I rx ry ⟨p, bs.map V.bl, e2, .inl hs, by rw [e1]; rfl, by rw [List.all_map]; exact List.all_eq_true.mpr fun _ _ => rfl, by rw [e1, e bs]; exact q⟩
end
end Rw
namespace Rw
open PySem PySem.Spec PyProof.Rows L2
/-! sum of numbers, text.strip(signs) of nothing but these -/
def rSumN (K : PySem.W.Frag) : List V → Hp → VK → Prop := fun vs H Q => ∃ (a : Addr) (ns : List Nat), vs = [.ref a] ∧ SqL K H a (ivs ns) ∧ Q (.int (ns.sum : Nat)) H
theorem sum_cast : ∀ ns : List Nat, (ns.map fun n => ((n : Nat) : Int)).sum = ((ns.sum : Nat) : Int)
  | [] => rfl
  | n :: r => by
    rw [List.map_cons, List.sum_cons, List.sum_cons, sum_cast r, Int.natCast_add]
section
variable {X : Cx}
theorem cr_sumN (hc : X.calm = true) : CallR X (.builtin "sum") (rSumN X.K) := fun pins s σ H vs us Q I r ⟨a, ns, e, hs, q⟩ =>
  cr_sum hc pins s σ H vs us Q I r ⟨a, ns.map fun n => ((n : Nat) : Int), e, by rw [List.map_map]; exact hs, by rw [sum_cast]; exact q⟩
theorem cr_sumNK {K : PySem.W.Frag} (hK : X.K = K) (hc : X.calm = true) : CallR X (.builtin "sum") (rSumN K) := hK ▸ cr_sumN hc
theorem tw_all {p : Nat → Bool} : ∀ {l : List Nat}, (∀ c ∈ l, p c = true) → l.takeWhile p = l
  | [], _ => rfl
  | c :: r, h => by
    rw [List.takeWhile_cons_of_pos (h c List.mem_cons_self), tw_all fun d hd => h d (List.mem_cons_of_mem _ hd)]
theorem strip_T {l cs : List Nat} (h : ∀ c ∈ l, c ∈ cs) : Txt.stripChars (T l) (T cs) = T [] := by
  unfold Txt.stripChars
  rw [PyProof.Rows.stripBy_eq, PyProof.Rows.strSub_mk]
  unfold stripLo
  rw [if_pos rfl, T_cps]
  have e : l.takeWhile (T cs).cps.contains = l := tw_all fun c hc => by
    have : c ∈ cs := h c hc
    simp [T, this]
  rw [e, List.drop_length, List.take_nil]
  rfl
def rStripT : V → List V → Hp → VK → Prop := fun x xs H Q => ∃ l cs : List Nat, x = tv l ∧ xs = [tv cs] ∧ l.length ≤ 100000 ∧ (∀ c ∈ l, c ∈ cs) ∧ Q (tv []) H
theorem mt_stripT : MtR X "str.strip" rStripT := fun pins s σ H x xs v us Q I rx rxs ⟨l, cs, e1, e2, hz, hm, q⟩ =>
  mt_stripChars pins s σ H x xs v us Q I rx rxs ⟨T l, T cs, e1, e2, by rw [T_len]; exact big hz, by rw [strip_T hm]; exact q⟩
end
end Rw
namespace Rk
open PySem PySem.Spec PyProof.Rows L2 Rw
abbrev s_least_form : Stmt := topS 14
abbrev n_least_form : List Str := ["word"]
abbrev p_least_form : List Str := ["word"]
theorem sc_least_form : FnScope n_least_form p_least_form (defScope s_least_form) := ⟨rfl, rfl, rfl, by decide +kernel, rfl, by decide +kernel, by decide +kernel⟩
section
variable {P : Program} {w : World} {K : PySem.W.Frag} {mg : Str → Option Value} {base : Heap} {cN : Addr} (B : Bt mg)
include B
theorem ok_least_form (D : Dfn K mg "least_form" s_least_form p_least_form) (c_turnings : Cal (L2.CX P w) P w K mg base 3 "turnings" (spTurnings K cN)) : Cal (L2.CX P w) P w K mg base 4 "least_form" (spLeastForm K cN) := by
  refine D.cal fun f fd F => F.okX sc_least_form (fun vs H Q E h => ?_) (fun cdv A outer s H vs Q E hr h => ?_)
  · obtain ⟨v, b, rest, rfl, hr, _⟩ := h
    cases List.eq_nil_of_length_eq_zero hr
    rfl
  · obtain ⟨v, b, rest, rfl, hrest, hv, hno, hyes⟩ := h
    cases List.eq_nil_of_length_eq_zero hrest
    refine ⟨_, (pss_one (ps_ret (pe_callB (cr_minL rfl hr.units) (by rfl) B.m_min (by decide +kernel) (pa_cons (pe_cal c_turnings hr (by decide) (passes_call (takes_of rfl rfl rfl rfl) fun _ _ _ _ h => h) (pa_cons (pv 0) pa_nil)) pa_nil)))), ?_⟩
    refine ⟨v, rfl, v, b, [], rfl, rfl, hv, hno, fun l hb ev hl p H1 np e1 hp => ?_⟩
    exact ⟨p, turns l, rfl, SqL.of hp, turns_ne hl, hyes l hb ev hl H1 e1⟩
end
end Rk
namespace Rw
open PySem PySem.Spec PyProof.Rows L2
/-- a class of refusals that is raised -/
structure ErX (K : PySem.W.Frag) (mg : Str → Option Value) (name : Str) (C : Addr) : Prop where
  g : mg name = some (.ref C)
  x : PySem.W.excIn K C [.type "ValueError", .type "Exception", .type "BaseException", .type "object"] "ValueError.__new__" = true
  k : PySem.W.keepIn K (.ref C) = true
  b : PySem.W.subIn K (.ref C) (.type "BaseException") = some true
  t : PySem.W.typeIn K (.ref C) = some (.type "type")
end Rw
namespace Rw
open PySem PySem.Spec PyProof.Rows L2
/-! list.remove of what is data, and is there -/
def rRemD (K : PySem.W.Frag) : V → List V → Hp → VK → Prop := fun x xs H Q => ∃ (l : Addr) (y : V) (d : PyData) (vs : List V) (ds : List PyData) (j : Nat), x = .ref l ∧ xs = [y] ∧ H l = some (.lst vs) ∧ DpAll K H vs ds ∧ Dp K H y d ∧ PyData.plainAll ds = true ∧ d.plain = true ∧
  min (PyData.depthAll ds) d.depth ≤ 60 ∧ PySem.SeqAt.dataPlace ds d = some j ∧ Q .non (upd H l (.lst (vs.eraseIdx j)))
theorem mt_removeD {X : Cx} (hu : X.A.units + 64 < cLine) : MtM X "list.remove" (rRemD X.K) := by
  intro pins s σ H x xs v us Q I rx rxs h
  obtain ⟨l, y, d, vs, ds, j, rfl, rfl, hH, hds, hd, p1, p2, hm, hp, q⟩ := h
  cases rx
  obtain ⟨u, rfl, ru⟩ := rxs.one
  obtain ⟨z, its, n, r, hl, e⟩ := I.lstM hH
  obtain ⟨as, rs⟩ := Dp.readsAll I ds vs its hds r
  obtain ⟨bs, rx⟩ := Dp.reads I d y u hd ru
  have hle := r.length
  refine PySem.SeqAt.remove_list_data (vs := its.toArray) (xs := ds) (d := d) ⟨_, e, rfl, n, rfl⟩ (by simpa using rs) rx p1 p2 (by omega) hp (by rw [List.size_toArray]; omega) ?_
  refine ⟨.non, _, I.lset (its' := its.eraseIdx j) (t' := s.toks) hH e ?_ (r.eraseIdx j) ?_, rfl, q⟩
  · show its.toArray.eraseIdxIfInBounds j = (its.eraseIdx j).toArray
    rw [List.eraseIdxIfInBounds_toArray]
  · have := len_erase vs j
    omega
/-- of texts -/
def rRemT (K : PySem.W.Frag) : V → List V → Hp → VK → Prop := fun x xs H Q => ∃ (l : Addr) (w : List Nat) (ls : List (List Nat)), x = .ref l ∧ xs = [tv w] ∧ H l = some (.lst (tvs ls)) ∧ w ∈ ls ∧ Q .non (upd H l (.lst (tvs (ls.erase w))))
theorem plain_texts : ∀ ls : List (List Nat), PyData.plainAll (ls.map fun l => .str (T l)) = true
  | [] => rfl
  | a :: r => by
    rw [List.map_cons]
    unfold PyData.plainAll
    rw [plain_texts r, Bool.and_true]
    rfl
theorem place_texts {w : List Nat} : ∀ {ls : List (List Nat)}, w ∈ ls → ∃ j, PySem.SeqAt.dataPlace (ls.map fun l => .str (T l)) (.str (T w)) = some j ∧ (tvs ls).eraseIdx j = tvs (ls.erase w)
  | a :: r, h => by
    unfold PySem.SeqAt.dataPlace
    rw [List.map_cons, List.findIdx?_cons]
    have eqe : PyData.eqv (.str (T a)) (.str (T w)) = decide (a = w) := T_beq a w
    rw [eqe]
    by_cases g : a = w
    · rw [if_pos (decide_eq_true g)]
      refine ⟨0, rfl, ?_⟩
      rw [g, List.erase_cons_head]
      rfl
    · rw [if_neg (by rw [decide_eq_false g]; decide)]
      have hr : w ∈ r := by
        rcases List.mem_cons.mp h with q | q
        · exact absurd q.symm g
        · exact q
      obtain ⟨j, h1, h2⟩ := place_texts hr
      unfold PySem.SeqAt.dataPlace at h1
      rw [h1]
      refine ⟨j + 1, rfl, ?_⟩
      rw [List.erase_cons_tail (by simpa using g)]
      show tv a :: (tvs r).eraseIdx j = tv a :: tvs (r.erase w)
      rw [h2]
theorem mt_removeT {X : Cx} (hu : X.A.units + 64 < cLine) : MtM X "list.remove" (rRemT X.K) := by
  rintro pins s σ H x xs v us Q I rx rxs ⟨l, w, ls, rfl, rfl, hH, hw, q⟩
  obtain ⟨j, h1, h2⟩ := place_texts hw
  refine mt_removeD hu pins s σ H _ _ v us Q I rx rxs ⟨l, tv w, .str (T w), tvs ls, _, j, rfl, rfl, hH, dp_tvs ls, .str (T w), plain_texts ls, rfl, ?_, h1, by rw [h2]; exact q⟩
  have := depth_tvs ls
  omega
end Rw
namespace Rw
open PySem PySem.Spec PyProof.Rows L2
/-! lists of tuples of numbers and texts: ==, !=, remove -/
def tD (xs : List Fl) : PyData := .tuple (xs.map flD)
def Tps (H : Hp) (ts : List Addr) (xss : List (List Fl)) : Prop := ts.length = xss.length ∧ ∀ (i : Nat) (t : Addr) (xs : List Fl), ts[i]? = some t → xss[i]? = some xs → H t = some (.tup (xs.map flV))
/-- a word and its ring's number, as data -/
def two (q : List Nat × Nat) : List Fl := [.inr q.1, .inl (q.2 : Nat)]
theorem two_inj {p q : List Nat × Nat} (h : two p = two q) : p = q := by
  unfold two at h
  injection h with h1 h2
  injection h2 with h2 _
  have a := Sum.inr.inj h1
  have b := Sum.inl.inj h2
  exact Prod.ext a (by omega)
section
variable {K : PySem.W.Frag} {H H' : Hp} {ts : List Addr} {xss : List (List Fl)} {t : Addr} {xs : List Fl}
theorem Tps.nil : Tps H [] [] := ⟨rfl, fun i t xs h => by simp at h⟩
theorem Tps.same (w : Tps H ts xss) (e : Same H H') : Tps H' ts xss := ⟨w.1, fun i t xs h1 h2 => e _ _ (w.2 i t xs h1 h2)⟩
theorem Tps.snoc (w : Tps H ts xss) (h : H t = some (.tup (xs.map flV))) : Tps H (ts ++ [t]) (xss ++ [xs]) := by
  refine ⟨by rw [List.length_append, List.length_append, w.1]; rfl, fun i u ys h1 h2 => ?_⟩
  by_cases g : i < ts.length
  · rw [List.getElem?_append_left g] at h1
    rw [List.getElem?_append_left (by rw [← w.1]; exact g)] at h2
    exact w.2 i u ys h1 h2
  · rw [List.getElem?_append_right (by omega)] at h1
    rw [List.getElem?_append_right (by rw [← w.1]; omega), ← w.1] at h2
    match i - ts.length, h1, h2 with
    | 0, h1, h2 =>
      cases Option.some.inj h1
      cases Option.some.inj h2
      exact h
theorem Tps.tail (w : Tps H (t :: ts) (xs :: xss)) : H t = some (.tup (xs.map flV)) ∧ Tps H ts xss :=
  ⟨w.2 0 t xs rfl rfl, by have := w.1; simpa using this, fun i u ys h1 h2 => w.2 (i + 1) u ys h1 h2⟩
theorem dp_tps : ∀ {ts : List Addr} {xss : List (List Fl)}, Tps H ts xss → DpAll K H (ts.map V.ref) (xss.map tD)
  | [], [], _ => .nil
  | [], _ :: _, h => by have := h.1; simp at this
  | _ :: _, [], h => by have := h.1; simp at this
  | t :: ts, xs :: xss, h => .cons (.tup (SqT.of h.tail.1) (dp_fl xs)) (dp_tps h.tail.2)
theorem eqv_tps : ∀ a b : List (List Fl), PyData.eqvAll (a.map tD) (b.map tD) = decide (a = b)
  | [], [] => rfl
  | [], _ :: _ => rfl
  | _ :: _, [] => rfl
  | x :: xs, y :: ys => by
    rw [List.map_cons, List.map_cons]
    unfold PyData.eqvAll
    rw [eqv_tps xs ys]
    unfold tD
    rw [eqv_tups]
    by_cases h1 : x = y <;> by_cases h2 : xs = ys <;> simp [h1, h2]
theorem can_tps : ∀ xss : List (List Fl), (∀ xs ∈ xss, ∀ x ∈ xs, FlOk x) → PyData.canLayAll0 (xss.map tD) = true
  | [], _ => rfl
  | x :: r, h => by
    rw [List.map_cons]
    unfold PyData.canLayAll0
    rw [can_tps r fun y hy => h y (List.mem_cons_of_mem _ hy), Bool.and_true]
    unfold tD PyData.canLay0
    exact can_fl x (h x List.mem_cons_self)
theorem depth_tps : ∀ xss : List (List Fl), PyData.depthAll (xss.map tD) ≤ 2
  | [] => by decide
  | x :: r => by
    rw [List.map_cons]
    unfold PyData.depthAll
    refine Nat.max_le.mpr ⟨?_, depth_tps r⟩
    unfold tD PyData.depth
    have := depth_fl x
    omega
theorem shaped_tps (xss : List (List Fl)) (h : ∀ xs ∈ xss, ∀ x ∈ xs, FlOk x) : SeqAt.shaped (.list (xss.map tD)) = true := by
  unfold SeqAt.shaped
  rw [Bool.and_eq_true]
  constructor
  · unfold PyData.canLay0
    exact can_tps xss h
  · refine decide_eq_true ?_
    unfold PyData.depth
    have := depth_tps xss
    omega
theorem eqv_tlists (a b : List (List Fl)) : PyData.eqv (.list (a.map tD)) (.list (b.map tD)) = decide (a = b) := by
  unfold PyData.eqv
  exact eqv_tps a b
def rNeTs (K : PySem.W.Frag) : R2 := fun x y H Q => ∃ (p q : Addr) (ts us : List Addr) (a b : List (List Fl)), x = .ref p ∧ y = .ref q ∧ SqL K H p (ts.map V.ref) ∧ SqL K H q (us.map V.ref) ∧ Tps H ts a ∧ Tps H us b ∧ (∀ xs ∈ a, ∀ x ∈ xs, FlOk x) ∧ (∀ xs ∈ b, ∀ x ∈ xs, FlOk x) ∧ Q (.bl (!decide (a = b))) H
theorem op_neTs {X : Cx} (hu : X.A.units + 64 < cLine) : OpR X (compareOp .NotEq) (rNeTs X.K) := fun pins s σ H x y v u Q I rx ry ⟨p, q, ts, us, a, b, e1, e2, h1, h2, t1, t2, o1, o2, k⟩ =>
  op_neD hu pins s σ H x y v u Q I rx ry ⟨_, _, by rw [e1]; exact .lst h1 (dp_tps t1), by rw [e2]; exact .lst h2 (dp_tps t2), shaped_tps a o1, shaped_tps b o2, by rw [eqv_tlists]; exact k⟩
theorem plain_fl : ∀ xs : List Fl, PyData.plainAll (xs.map flD) = true
  | [] => rfl
  | x :: r => by
    rw [List.map_cons]
    unfold PyData.plainAll
    rw [plain_fl r, Bool.and_true]
    cases x <;> rfl
theorem plain_tps : ∀ xss : List (List Fl), PyData.plainAll (xss.map tD) = true
  | [] => rfl
  | x :: r => by
    rw [List.map_cons]
    unfold PyData.plainAll
    rw [plain_tps r, Bool.and_true]
    unfold tD PyData.plain
    exact plain_fl x
theorem two_map : ∀ {ts : List Addr} {ps : List (List Nat × Nat)}, Tps H ts (ps.map two) → ts.length = ps.length := fun h => by have := h.1; rwa [List.length_map] at this
theorem place_tps {q : List Nat × Nat} : ∀ {ts : List Addr} {ps : List (List Nat × Nat)}, Tps H ts (ps.map two) → q ∈ ps → ∃ j, PySem.SeqAt.dataPlace ((ps.map two).map tD) (tD (two q)) = some j ∧ Tps H (ts.eraseIdx j) ((ps.erase q).map two)
  | [], y :: r, h, _ => by have := h.1; simp at this
  | t :: ts, y :: r, h, hm => by
    unfold PySem.SeqAt.dataPlace
    rw [List.map_cons, List.map_cons, List.findIdx?_cons]
    have eqe : PyData.eqv (tD (two y)) (tD (two q)) = decide (two y = two q) := eqv_tups (two y) (two q)
    rw [eqe]
    by_cases g : y = q
    · rw [if_pos (decide_eq_true (by rw [g]))]
      refine ⟨0, rfl, ?_⟩
      rw [g, List.erase_cons_head]
      exact h.tail.2
    · rw [if_neg (by rw [decide_eq_false fun z => g (two_inj z)]; decide)]
      have hr : q ∈ r := by
        rcases List.mem_cons.mp hm with z | z
        · exact absurd z.symm g
        · exact z
      obtain ⟨j, h1, h2⟩ := place_tps h.tail.2 hr
      unfold PySem.SeqAt.dataPlace at h1
      rw [h1]
      refine ⟨j + 1, rfl, ?_⟩
      rw [List.erase_cons_tail (by simpa using g)]
      show Tps H (t :: ts.eraseIdx j) (two y :: (r.erase q).map two)
      refine ⟨by have := h2.1; simp [this], fun i u ys k1 k2 => ?_⟩
      cases i with
      | zero =>
        cases Option.some.inj k1
        cases Option.some.inj k2
        exact h.tail.1
      | succ i => exact h2.2 i u ys k1 k2
theorem erase_map (f : Addr → V) : ∀ (l : List Addr) (j : Nat), (l.eraseIdx j).map f = (l.map f).eraseIdx j
  | [], _ => rfl
  | _ :: _, 0 => rfl
  | a :: r, j + 1 => by
    show f a :: (r.eraseIdx j).map f = f a :: (r.map f).eraseIdx j
    rw [erase_map f r j]
def rRemTs (K : PySem.W.Frag) : V → List V → Hp → VK → Prop := fun x vs H Q => ∃ (l t : Addr) (ts : List Addr) (ps : List (List Nat × Nat)) (q : List Nat × Nat), x = .ref l ∧ vs = [.ref t] ∧ H l = some (.lst (ts.map V.ref)) ∧ H t = some (.tup ((two q).map flV)) ∧ Tps H ts (ps.map two) ∧ q ∈ ps ∧
  ∀ j, Tps H (ts.eraseIdx j) ((ps.erase q).map two) → Q .non (upd H l (.lst ((ts.eraseIdx j).map V.ref)))
theorem mt_removeTs {X : Cx} (hu : X.A.units + 64 < cLine) : MtM X "list.remove" (rRemTs X.K) := by
  rintro pins s σ H x xs v us Q I rx rxs ⟨l, t, ts, ps, y, rfl, rfl, hH, ht, hts, hm, q⟩
  obtain ⟨j, h1, h2⟩ := place_tps hts hm
  have q' := q j h2
  rw [erase_map V.ref] at q'
  refine mt_removeD hu pins s σ H _ _ v us Q I rx rxs ⟨l, .ref t, tD (two y), ts.map V.ref, _, j, rfl, rfl, hH, dp_tps hts, .tup (SqT.of ht) (dp_fl (two y)), plain_tps _, ?_, ?_, h1, q'⟩
  · unfold tD PyData.plain
    exact plain_fl (two y)
  · have := depth_tps (ps.map two)
    omega
end
theorem two_ok {ps : List (List Nat × Nat)} (h : ∀ q ∈ ps, Ok q.1) : ∀ xs ∈ ps.map two, ∀ x ∈ xs, FlOk x := fun xs hxs x hx => by
  obtain ⟨q, hq, rfl⟩ := List.mem_map.mp hxs
  exact fl_two (h q hq) x hx
end Rw
namespace Rw
open PySem PySem.Spec PyProof.Rows L2
/-! methods of an own class, as their callers need them -/
section
def MCal (CX : CXT) (P : Program) (w : World) (K : PySem.W.Frag) (mg : Str → Option Value) (base : Heap) (k : Nat) (C : Addr) (x : Str) (sp : Sp) : Prop :=
  ∃ (f : Addr) (fd : FuncData) (ps : List Str), FnOk P w K mg base CX k f fd ps sp ∧ Meth K C x f ∧ Binds K fd ps []
def MDfn (K : PySem.W.Frag) (C : Addr) (x q : Str) (st : Stmt) (ps : List Str) : Prop :=
  ∃ (f : Addr) (fd : FuncData), Fun K x q st f fd ∧ Meth K C x f ∧ Binds K fd ps []
variable {CX : CXT} {P : Program} {w : World} {K : PySem.W.Frag} {mg : Str → Option Value} {base : Heap} {C : Addr} {x q : Str} {st : Stmt} {ps : List Str} {sp : Sp} {k : Nat}
theorem MDfn.cal (D : MDfn K C x q st ps) (h : ∀ f fd, Fun K x q st f fd → FnOk P w K mg base CX k f fd ps sp) : MCal CX P w K mg base k C x sp := by
  obtain ⟨f, fd, F, g, b⟩ := D
  exact ⟨f, fd, ps, h f fd F, g, b⟩
end
/-- the class of books -/
structure RgC (K : PySem.W.Frag) (mg : Str → Option Value) (C : Addr) : Prop where
  cl : Cls K C
  n1 : NoAttr K C "_next"
  n2 : NoAttr K C "_numbers"
  n3 : NoAttr K C "_words"
  mks : PySem.W.makesIn K C = true
  kc : PySem.W.keepIn K (.ref C) = true
  g : mg "Rings" = some (.ref C)
section
variable {X : Cx} {CX : CXT} {k j : Nat} {sp : Sp} {E : XK} {C : Addr} {m x : Str} {o e : Expr} {es : List Expr} {ta : TE} {t : TA} {apos pos p : Pos}
theorem pe_mcal {pl : Sem Bool} (he : PE X o ta) (c : Cls X.K C) (M : MCal CX X.prog X.w X.K X.mg X.base k C m sp) (hr : Room j X.A) (hk : k ≤ j) (hx : Passes CX X E) (ha : PA X (e :: es) t)
    (hst : starEach (e :: es) X.env = (false, eval e X.env) :: starEach es X.env := by rfl) (hpl : (backTo pos (starEach es X.env)).any (·.1) = false := by rfl)
    (ht : eval (.Call (.Attribute o m apos) (e :: es) [] pos) X.env = (do
      let ov ← eval o X.env
      standAt apos.atName
      let (f, first) ← holding [ov] (getMethod ov m pl)
      callWith pos f first (backTo pos (starEach (e :: es) X.env)) (backToKw pos (keywordEach [] X.env))) := by rfl) :
    PE X (.Call (.Attribute o m apos) (e :: es) [] pos) (tMeth C m sp [] E ta t) := by
  refine ⟨fun pins s σ H Q I h => ?_⟩
  obtain ⟨f, fd, ps, F, g, b⟩ := M
  exact (pe_meth he c g F (hr.mono hk) b .nil hx ha hst hpl ht).run pins s σ H Q I h
theorem pe_mcal0 {pl : Sem Bool} (he : PE X o ta) (c : Cls X.K C) (M : MCal CX X.prog X.w X.K X.mg X.base k C m sp) (hr : Room j X.A) (hk : k ≤ j) (hx : Passes CX X E)
    (ht : eval (.Call (.Attribute o m apos) [] [] pos) X.env = (do
      let ov ← eval o X.env
      standAt apos.atName
      let (f, first) ← holding [ov] (getMethod ov m pl)
      callWith pos f first (backTo pos (starEach [] X.env)) (backToKw pos (keywordEach [] X.env))) := by rfl) :
    PE X (.Call (.Attribute o m apos) [] [] pos) (tMeth C m sp [] E ta tNil) := by
  refine ⟨fun pins s σ H Q I h => ?_⟩
  obtain ⟨f, fd, ps, F, g, b⟩ := M
  exact (pe_meth0 he c g F (hr.mono hk) b .nil hx ht).run pins s σ H Q I h
theorem pe_mkcal (mk : PySem.W.makesIn X.K C = true) (kc : PySem.W.keepIn X.K (.ref C) = true) (M : MCal CX X.prog X.w X.K X.mg X.base k C "__init__" sp) (hr : Room j X.A) (hk : k + 1 ≤ j) (hm : X.mg x = some (.ref C)) (hx : Passes CX X E)
    (hg : Gl X x := by rfl) (hdb : (x == ("__debug__" : Str)) = false := by decide) : PE X (.Call (.Name x p) [] [] pos) (tMake C sp [] E tNil) := by
  refine ⟨fun pins s σ H Q I h => ?_⟩
  obtain ⟨f, fd, ps, F, g, b⟩ := M
  exact (pe_make0 ⟨mk, g.at_, g.fn, kc⟩ F (hr.mono hk) hg hm b .nil hx hdb).run pins s σ H Q I h
end
theorem call_len_seqK {X : Cx} {K : PySem.W.Frag} (hK : X.K = K) : CallR X (.builtin "len") (fun xs H Q => ∃ p ys, xs = [.ref p] ∧ (SqL K H p ys ∨ SqT K H p ys) ∧ Q (.int (ys.length : Nat)) H) := hK ▸ call_len_seq
/-- all but these places stands as it stood -/
def Fr (F : List Addr) (H H' : Hp) : Prop := ∀ b u, H b = some u → b ∉ F → H' b = some u
theorem Fr.of {F : List Addr} {H H' : Hp} (e : Same H H') : Fr F H H' := fun b u h _ => e b u h
theorem Fr.trans {F : List Addr} {H H' H'' : Hp} (a : Fr F H H') (b : Fr F H' H'') : Fr F H H'' := fun x u h n => b x u (a x u h n) n
theorem Fr.put {F : List Addr} {H H' : Hp} {a : Addr} {o : HO} (e : Fr F H H') (h : a ∈ F) : Fr F H (upd H' a o) := fun x u hx n => by
  rw [upd_ne (fun z => n (by rw [z]; exact h))]
  exact e x u hx n
theorem Fr.new {F : List Addr} {H H' : Hp} {a : Addr} {o : HO} (e : Fr F H H') (h : H a = none) : Fr F H (upd H' a o) := fun x u hx n => by
  rw [upd_ne (ne_of_none hx h)]
  exact e x u hx n
theorem Fr.mono {F G : List Addr} {H H' : Hp} (e : Fr F H H') (h : ∀ a ∈ F, a ∈ G) : Fr G H H' := fun x u hx n => e x u hx fun z => n (h x z)
end Rw
namespace Rw
open PySem PySem.Spec PyProof.Rows L2
/-- a ring in the book: its least form, its number, its list, its words -/
structure Ent where
  f : List Nat
  n : Nat
  a : Addr
  ws : List (List Nat)
def numK (es : List Ent) : List (Key × V) := es.map fun e => (.inr (T e.f), .int (e.n : Nat))
def wrdK (es : List Ent) : List (Key × V) := es.map fun e => (.inl (e.n : Nat), .ref e.a)
def bf (nx : Nat) (d1 d2 : Addr) : List (Str × V) := [("_next", .int (nx : Nat)), ("_numbers", .ref d1), ("_words", .ref d2)]
theorem s12 : ¬ (("_next" : Str) = "_numbers") := by decide +kernel
theorem s13 : ¬ (("_next" : Str) = "_words") := by decide +kernel
theorem s23 : ¬ (("_numbers" : Str) = "_words") := by decide +kernel
theorem bf_next (nx : Nat) (d1 d2 : Addr) : (bf nx d1 d2).lookup ("_next" : Str) = some (V.int (nx : Nat)) := by unfold bf; simp
theorem bf_numbers (nx : Nat) (d1 d2 : Addr) : (bf nx d1 d2).lookup ("_numbers" : Str) = some (V.ref d1) := by
  have h : (("_numbers" : Str) == ("_next" : Str)) = false := by decide +kernel
  unfold bf
  rw [List.lookup_cons, h]
  simp
theorem bf_words (nx : Nat) (d1 d2 : Addr) : (bf nx d1 d2).lookup ("_words" : Str) = some (V.ref d2) := by
  have h : (("_words" : Str) == ("_next" : Str)) = false := by decide +kernel
  have h2 : (("_words" : Str) == ("_numbers" : Str)) = false := by decide +kernel
  unfold bf
  rw [List.lookup_cons, h]
  dsimp only
  rw [List.lookup_cons, h2]
  simp
theorem bf_no {m : Str} (nx : Nat) (d1 d2 : Addr) (h : (m == ("_next" : Str)) = false) (h2 : (m == ("_numbers" : Str)) = false) (h3 : (m == ("_words" : Str)) = false) : (bf nx d1 d2).lookup m = Option.none := by
  unfold bf
  rw [List.lookup_cons, h]
  dsimp only
  rw [List.lookup_cons, h2]
  dsimp only
  rw [List.lookup_cons, h3]
  rfl
theorem bf_up (nx : Nat) (d1 d2 : Addr) (v : Nat) : putF "_next" (.int (v : Nat)) (bf nx d1 d2) = bf v d1 d2 := by
  show (if ("_next" : Str) = "_next" then _ else _) = _
  rw [if_pos rfl]
  rfl
theorem bf_init (d1 d2 : Addr) : putF "_words" (.ref d2) (putF "_numbers" (.ref d1) (putF "_next" (.int 0) [])) = bf 0 d1 d2 := by
  show putF "_words" (.ref d2) (if ("_next" : Str) = "_numbers" then _ else _) = _
  rw [if_neg s12]
  show (if ("_next" : Str) = "_words" then _ else _ :: (if ("_numbers" : Str) = "_words" then _ else _)) = _
  rw [if_neg s13, if_neg s23]
  rfl
/-- the book in the heap -/
structure BkH (C : Addr) (H : Hp) (p dx d1 d2 : Addr) (nx : Nat) (es : List Ent) : Prop where
  hp : H p = some (.ins C dx (bf nx d1 d2))
  h1 : H d1 = some (.dK (numK es))
  h2 : H d2 = some (.dK (wrdK es))
  hl : ∀ (i : Nat) (e : Ent), es[i]? = some e → H e.a = some (.lst (tvs e.ws))
  an : ∀ (i j : Nat) (e x : Ent), es[i]? = some e → es[j]? = some x → e.a = x.a → i = j
  nd : d1 ≠ d2
theorem BkH.keep {C p dx d1 d2 : Addr} {H H' : Hp} {nx : Nat} {es : List Ent} (b : BkH C H p dx d1 d2 nx es) (k : ∀ a u, H a = some u → a ∈ p :: d1 :: d2 :: es.map Ent.a → H' a = some u) : BkH C H' p dx d1 d2 nx es :=
  ⟨k _ _ b.hp (by simp), k _ _ b.h1 (by simp), k _ _ b.h2 (by simp), fun i e he => k _ _ (b.hl i e he) (by simp; exact .inr (.inr (.inr ⟨e, List.mem_of_getElem? he, rfl⟩))), b.an, b.nd⟩
theorem BkH.same {C p dx d1 d2 : Addr} {H H' : Hp} {nx : Nat} {es : List Ent} (b : BkH C H p dx d1 d2 nx es) (k : Same H H') : BkH C H' p dx d1 d2 nx es := b.keep fun a u h _ => k a u h
/-- what a ring is -/
structure BkP (nx : Nat) (es : List Ent) : Prop where
  fu : ∀ (i j : Nat) (e x : Ent), es[i]? = some e → es[j]? = some x → e.f = x.f → i = j
  nu : es.Pairwise fun e x => e.n < x.n
  nl : ∀ e ∈ es, e.n < nx
  ws : ∀ e ∈ es, e.ws ≠ [] ∧ e.ws.Nodup ∧ ∀ u ∈ e.ws, Wd u ∧ minT (turns u) = e.f
inductive RingOut (es : List Ent) (f : List Nat) : V → Prop
  | no : (∀ e ∈ es, e.f ≠ f) → RingOut es f .non
  | yes {i : Nat} {e : Ent} : es[i]? = some e → e.f = f → RingOut es f (.int (e.n : Nat))
theorem num_get (f : List Nat) : ∀ es : List Ent, RingOut es f ((valV (numK es) (.inr (T f))).getD .non)
  | [] => .no fun e h => nomatch h
  | e :: r => by
    by_cases g : e.f = f
    · rw [show numK (e :: r) = (.inr (T e.f), .int (e.n : Nat)) :: numK r from rfl, valV_pos (by rw [g])]
      exact .yes (i := 0) (e := e) rfl g
    · rw [show numK (e :: r) = (.inr (T e.f), .int (e.n : Nat)) :: numK r from rfl, valV_neg (fun z => g (T_inj (Sum.inr.inj z)))]
      generalize hv : (valV (numK r) (.inr (T f))).getD .non = v
      have ih := num_get f r
      rw [hv] at ih
      cases ih with
      | no h =>
        refine .no fun x hx => ?_
        rcases List.mem_cons.mp hx with q | q
        · rw [q]
          exact g
        · exact h x q
      | @yes i x h1 h2 => exact .yes (i := i + 1) (e := x) h1 h2
theorem wrd_get : ∀ {es : List Ent} {i : Nat} {e : Ent}, es.Pairwise (fun e x => e.n < x.n) → es[i]? = some e → valV (wrdK es) (.inl (e.n : Nat)) = some (.ref e.a)
  | [], i, e, _, h => by simp at h
  | x :: r, 0, e, _, h => by
    have : x = e := Option.some.inj h
    subst this
    exact valV_pos rfl
  | x :: r, i + 1, e, hp, h => by
    obtain ⟨p1, p2⟩ := List.pairwise_cons.mp hp
    have h : r[i]? = some e := h
    have := p1 e (List.mem_of_getElem? h)
    rw [show wrdK (x :: r) = (.inl (x.n : Nat), .ref x.a) :: wrdK r from rfl, valV_neg (fun z => by have := Sum.inl.inj z; omega)]
    exact wrd_get p2 h
theorem putN {es : List Ent} {f : List Nat} {v : V} (h : ∀ e ∈ es, e.f ≠ f) : putK (numK es) (.inr (T f)) v = numK es ++ [(.inr (T f), v)] := by
  unfold putK
  rw [if_neg]
  rw [List.any_eq_true]
  rintro ⟨p, hp, e⟩
  obtain ⟨d, hd, rfl⟩ := List.mem_map.mp hp
  have : Sum.inr (T d.f) = (Sum.inr (T f) : Key) := of_decide_eq_true e
  exact h d hd (T_inj (Sum.inr.inj this))
theorem putW {es : List Ent} {n : Nat} {v : V} (h : ∀ e ∈ es, e.n < n) : putK (wrdK es) (.inl (n : Nat)) v = wrdK es ++ [(.inl (n : Nat), v)] := by
  unfold putK
  rw [if_neg]
  rw [List.any_eq_true]
  rintro ⟨p, hp, e⟩
  obtain ⟨d, hd, rfl⟩ := List.mem_map.mp hp
  have : Sum.inl ((d.n : Nat) : Int) = (Sum.inl ((n : Nat) : Int) : Key) := of_decide_eq_true e
  have := Sum.inl.inj this
  have := h d hd
  omega
theorem set_map {α : Type} {g : Ent → α} {e x : Ent} (hg : g x = g e) : ∀ {es : List Ent} {i : Nat}, es[i]? = some e → (es.set i x).map g = es.map g
  | [], _, h => by simp at h
  | y :: r, 0, h => by
    have : y = e := Option.some.inj h
    subst this
    show g x :: r.map g = _
    rw [hg]
    rfl
  | y :: r, i + 1, h => by
    show g y :: (r.set i x).map g = _
    rw [set_map hg (es := r) h]
    rfl
theorem set_at {es : List Ent} {i j : Nat} {x y : Ent} (h : (es.set i x)[j]? = some y) : (i = j ∧ x = y) ∨ (i ≠ j ∧ es[j]? = some y) := by
  rw [List.getElem?_set] at h
  by_cases g : i = j
  · rw [if_pos g] at h
    by_cases g2 : i < es.length
    · rw [if_pos g2] at h
      exact .inl ⟨g, Option.some.inj h⟩
    · rw [if_neg g2] at h
      cases h
  · rw [if_neg g] at h
    exact .inr ⟨g, h⟩
/-- a list of it is changed -/
theorem BkH.set {C p dx d1 d2 : Addr} {H : Hp} {nx : Nat} {es : List Ent} (b : BkH C H p dx d1 d2 nx es) {i : Nat} {e : Ent} (he : es[i]? = some e) (ws : List (List Nat)) :
    BkH C (upd H e.a (.lst (tvs ws))) p dx d1 d2 nx (es.set i { e with ws := ws }) := by
  have hL := b.hl i e he
  have np : p ≠ e.a := ne_of b.hp hL (by intro q; cases q)
  have n1 : d1 ≠ e.a := ne_of b.h1 hL (by intro q; cases q)
  have n2 : d2 ≠ e.a := ne_of b.h2 hL (by intro q; cases q)
  refine ⟨by rw [upd_ne np]; exact b.hp, ?_, ?_, fun j y hy => ?_, fun j k y z hy hz ha => ?_, b.nd⟩
  · rw [upd_ne n1, b.h1]
    unfold numK
    rw [set_map (e := e) (by rfl) he]
  · rw [upd_ne n2, b.h2]
    unfold wrdK
    rw [set_map (e := e) (by rfl) he]
  · rcases set_at hy with ⟨_, rfl⟩ | ⟨g, h⟩
    · exact upd_same
    · rw [upd_ne (fun z => g (b.an i j e y he h z.symm))]
      exact b.hl j y h
  · rcases set_at hy with ⟨rfl, rfl⟩ | ⟨g, h⟩
    · rcases set_at hz with ⟨q, _⟩ | ⟨g2, h2⟩
      · exact q
      · exact b.an i k e z he h2 ha
    · rcases set_at hz with ⟨rfl, rfl⟩ | ⟨g2, h2⟩
      · exact b.an j i y e h he ha
      · exact b.an j k y z h h2 ha
def spRInit (C : Addr) : Sp := fun vs H Q _ => ∃ p dx : Addr, vs = [.ref p] ∧ H p = some (.ins C dx []) ∧ ∀ (d1 d2 : Addr) (H' : Hp), H d1 = none → H d2 = none → BkH C H' p dx d1 d2 0 [] → Fr [p] H H' → Q .non H'
def spRingOf (K : PySem.W.Frag) (C cN : Addr) : Sp := fun vs H Q E => ∃ (p dx d1 d2 : Addr) (nx : Nat) (es : List Ent) (v : V) (b : Bool), vs = [.ref p, v] ∧ BkH C H p dx d1 d2 nx es ∧ Th K H v b ∧
  (b = false → ∀ H', Same H H' → E (.ref cN) none H') ∧ (∀ l, b = true → v = tv l → Wd l → ∀ r H', RingOut es (minT (turns l)) r → Same H H' → Q r H')
def spBegin (C : Addr) : Sp := fun vs H Q _ => ∃ (p dx d1 d2 : Addr) (nx : Nat) (es : List Ent) (f : List Nat), vs = [.ref p, tv f] ∧ BkH C H p dx d1 d2 nx es ∧ (∀ e ∈ es, e.f ≠ f) ∧ (∀ e ∈ es, e.n < nx) ∧ es.length ≤ 1000 ∧
  ∀ (a : Addr) (H' : Hp), H a = none → BkH C H' p dx d1 d2 (nx + 1) (es ++ [⟨f, nx, a, []⟩]) → Fr [p, d1, d2] H H' → Q (.int (nx : Nat)) H'
inductive AddOut (H : Hp) (es : List Ent) (nx : Nat) (l : List Nat) : List Ent → Nat → Nat → Prop
  | new {a : Addr} : H a = none → (∀ e ∈ es, e.f ≠ minT (turns l)) → AddOut H es nx l (es ++ [⟨minT (turns l), nx, a, [l]⟩]) (nx + 1) nx
  | old {i : Nat} {e : Ent} : es[i]? = some e → e.f = minT (turns l) → l ∉ e.ws → AddOut H es nx l (es.set i { e with ws := e.ws ++ [l] }) nx e.n
def spAdd (K : PySem.W.Frag) (C cN cT : Addr) : Sp := fun vs H Q E => ∃ (p dx d1 d2 : Addr) (nx : Nat) (es : List Ent) (v : V) (b : Bool), vs = [.ref p, v] ∧ BkH C H p dx d1 d2 nx es ∧ BkP nx es ∧ es.length ≤ 1000 ∧ (∀ e ∈ es, e.ws.length ≤ 1000) ∧ Th K H v b ∧
  (b = false → ∀ H', Same H H' → E (.ref cN) none H') ∧ (∀ l, b = true → v = tv l → Wd l →
    (∀ (i : Nat) (e : Ent), es[i]? = some e → e.f = minT (turns l) → l ∈ e.ws → ∀ H', Same H H' → E (.ref cT) none H') ∧
    (∀ (es' : List Ent) (nx' num : Nat) (H' : Hp), AddOut H es nx l es' nx' num → BkH C H' p dx d1 d2 nx' es' → Fr (p :: d1 :: d2 :: es.map Ent.a) H H' → Q (.int (num : Nat)) H'))
def spForms (C : Addr) : Sp := fun vs H Q _ => ∃ (p dx d1 d2 : Addr) (nx : Nat) (es : List Ent), vs = [.ref p] ∧ BkH C H p dx d1 d2 nx es ∧ es.length ≤ 1000 ∧
  ∀ (q : Addr) (ts : List Addr) (H' : Hp), Same H H' → H q = none → H' q = some (.lst (ts.map V.ref)) → ts.length = es.length → (∀ (i : Nat) (t : Addr) (e : Ent), ts[i]? = some t → es[i]? = some e → H t = none ∧ H' t = some (.tup [.int (e.n : Nat), tv e.f])) → Q (.ref q) H'
def manyOf (es : List Ent) : Nat := (es.map fun e => e.ws.length).sum
def spMany (C : Addr) : Sp := fun vs H Q _ => ∃ (p dx d1 d2 : Addr) (nx : Nat) (es : List Ent), vs = [.ref p] ∧ BkH C H p dx d1 d2 nx es ∧ es.length ≤ 1000 ∧ ∀ H', Same H H' → Q (.int (manyOf es : Nat)) H'
end Rw
namespace Rk
open PySem PySem.Spec PyProof.Rows L2 Rw
abbrev s_Rings___init__ : Stmt := inClass (topS 16) 0
abbrev n_Rings___init__ : List Str := ["self"]
abbrev p_Rings___init__ : List Str := ["self"]
theorem sc_Rings___init__ : FnScope n_Rings___init__ p_Rings___init__ (defScope s_Rings___init__) := ⟨rfl, rfl, rfl, by decide +kernel, rfl, by decide +kernel, by decide +kernel⟩
abbrev s_Rings_ring_of : Stmt := inClass (topS 16) 3
abbrev n_Rings_ring_of : List Str := ["self", "word"]
abbrev p_Rings_ring_of : List Str := ["self", "word"]
theorem sc_Rings_ring_of : FnScope n_Rings_ring_of p_Rings_ring_of (defScope s_Rings_ring_of) := ⟨rfl, rfl, rfl, by decide +kernel, rfl, by decide +kernel, by decide +kernel⟩
abbrev s_Rings__begin : Stmt := inClass (topS 16) 8
abbrev n_Rings__begin : List Str := ["self", "form", "number"]
abbrev p_Rings__begin : List Str := ["self", "form"]
theorem sc_Rings__begin : FnScope n_Rings__begin p_Rings__begin (defScope s_Rings__begin) := ⟨rfl, rfl, rfl, by decide +kernel, rfl, by decide +kernel, by decide +kernel⟩
section
variable {P : Program} {w : World} {K : PySem.W.Frag} {mg : Str → Option Value} {base : Heap} {C cN cT : Addr} (B : Bt mg) (RG : RgC K mg C)
include RG
theorem ok_rinit (D : MDfn K C "__init__" "Rings.__init__" s_Rings___init__ p_Rings___init__) : MCal CX0 P w K mg base 1 C "__init__" (spRInit C) := by
  refine D.cal fun f fd F => F.ok sc_Rings___init__ (fun vs H Q E h => ?_) (fun cdv A outer st H vs Q E hr h => ?_)
  · obtain ⟨p, dx, rfl, _⟩ := h
    rfl
  · obtain ⟨p, dx, rfl, hp, q⟩ := h
    refine ⟨_, (pss_cons (ps_fld (pv 0) pe_int rfl)
      (pss_cons (ps_fld (pv 0) pe_dnewK rfl)
      (pss_one (ps_fld (pv 0) pe_dnewK rfl)))), ?_⟩
    refine ⟨_, rfl, p, C, dx, [], rfl, hp, RG.cl, RG.n1, (by show 0 < 1000; decide), fun d1 n1 => ?_⟩
    have pd : p ≠ d1 := fun z => by rw [← z, upd_same] at n1; cases n1
    have n1' : H d1 = none := by rw [upd_ne pd.symm] at n1; exact n1
    refine ⟨_, rfl, p, C, dx, _, rfl, by rw [upd_ne pd, upd_same], RG.cl, RG.n2, (by show 1 < 1000; decide), fun d2 n2 => ?_⟩
    have pd2 : p ≠ d2 := fun z => by rw [← z, upd_same] at n2; cases n2
    have n2a := n2
    rw [upd_ne pd2.symm] at n2a
    have dd : d1 ≠ d2 := fun z => by rw [← z, upd_same] at n2a; cases n2a
    have n2' : H d2 = none := by rw [upd_ne dd.symm, upd_ne pd2.symm] at n2a; exact n2a
    refine ⟨_, rfl, p, C, dx, _, rfl, by rw [upd_ne pd2, upd_same], RG.cl, RG.n3, (by show (putF _ _ _).length < 1000; show (if ("_next" : Str) = "_numbers" then _ else _ : List (Str × V)).length < 1000; rw [if_neg s12]; show 2 < 1000; decide), ?_⟩
    rw [bf_init]
    refine q d1 d2 _ n1' n2' ⟨upd_same, ?_, ?_, fun i e h => by simp at h, fun i j e x h => by simp at h, dd⟩ ?_
    · rw [upd_ne pd.symm, upd_ne dd, upd_ne pd.symm, upd_same]
      rfl
    · rw [upd_ne pd2.symm, upd_same]
      rfl
    · refine Fr.put (Fr.new (Fr.put (Fr.new (Fr.put (Fr.of (Same.refl H)) (List.mem_singleton.mpr rfl)) n1') (List.mem_singleton.mpr rfl)) n2') (List.mem_singleton.mpr rfl)
include B
theorem ok_ring_of (D : MDfn K C "ring_of" "Rings.ring_of" s_Rings_ring_of p_Rings_ring_of) (c_least_form : Cal (L2.CX P w) P w K mg base 4 "least_form" (spLeastForm K cN)) : MCal (L2.CX P w) P w K mg base 5 C "ring_of" (spRingOf K C cN) := by
  refine D.cal fun f fd F => F.okX sc_Rings_ring_of (fun vs H Q E h => ?_) (fun cdv A outer st H vs Q E hr h => ?_)
  · obtain ⟨p, dx, d1, d2, nx, es, v, b, rfl, _⟩ := h
    rfl
  · obtain ⟨p, dx, d1, d2, nx, es, v, b, rfl, hb, hv, hno, hyes⟩ := h
    refine ⟨_, (pss_one (ps_ret (pe_dget1 (hu_of hr) (pe_fld (pv 0) rfl) (pe_cal c_least_form hr (by decide) (passes_call (takes_of rfl rfl rfl rfl) fun _ _ _ _ h => h) (pa_cons (pv 1) pa_nil)) ⟨rfl, rfl, rfl, rfl⟩))), ?_⟩
    refine ⟨_, rfl, p, C, dx, _, .ref d1, rfl, hb.hp, RG.cl, RG.n2, bf_numbers _ _ _, d1, rfl, .inl ⟨_, .inl hb.h1⟩, _, rfl, v, b, [], rfl, rfl, hv, hno, fun l e1 e2 hl H1 k1 => ?_⟩
    exact ⟨_, DGet.k (k := .inr (T (minT (turns l)))) (k1 _ _ hb.h1), hyes l e1 e2 hl _ H1 (num_get _ _) k1⟩
theorem ok_begin (D : MDfn K C "_begin" "Rings._begin" s_Rings__begin p_Rings__begin) : MCal CX0 P w K mg base 1 C "_begin" (spBegin C) := by
  refine D.cal fun f fd F => F.ok sc_Rings__begin (fun vs H Q E h => ?_) (fun cdv A outer st H vs Q E hr h => ?_)
  · obtain ⟨p, dx, d1, d2, nx, es, f, rfl, _⟩ := h
    rfl
  · obtain ⟨p, dx, d1, d2, nx, es, f, rfl, hb, hf, hn, hle, q⟩ := h
    refine ⟨_, (pss_cons (ps_set (i := 2) sc_Rings__begin.nd rfl (Or.inl rfl) (pe_fld (pv 0) rfl))
      (pss_cons (ps_fldaug (pv 0) pe_int in_add)
      (pss_cons (ps_dput (hu_of hr) (pe_fld (pv 0) rfl) (pv 1) (pv 2) rfl)
      (pss_cons (ps_dput (hu_of hr) (pe_fld (pv 0) rfl) (pv 2) (pe_lst pa_nil) rfl)
      (pss_one (ps_ret (pv 2))))))), ?_⟩
    have p1 : p ≠ d1 := ne_of hb.hp hb.h1 (by intro q; cases q)
    have p2 : p ≠ d2 := ne_of hb.hp hb.h2 (by intro q; cases q)
    have ln : (numK es).length = es.length := List.length_map ..
    have lw : (wrdK es).length = es.length := List.length_map ..
    refine ⟨_, rfl, p, C, dx, _, _, rfl, hb.hp, RG.cl, RG.n1, bf_next _ _ _, ?_⟩
    refine ⟨_, rfl, p, C, dx, _, _, rfl, hb.hp, RG.cl, RG.n1, bf_next _ _ _, _, _, rfl, rfl, dx, _, hb.hp, (by show 3 < 1000; decide), ?_⟩
    have e1 : putF "_next" (.int (((nx : Nat) : Int) + 1)) (bf nx d1 d2) = bf (nx + 1) d1 d2 := bf_up nx d1 d2 (nx + 1)
    rw [e1]
    refine ⟨_, rfl, _, rfl, p, C, dx, _, .ref d1, rfl, upd_same, RG.cl, RG.n2, bf_numbers _ _ _, _, rfl, d1, _, rfl, .inl ⟨numK es, .inr (T f), by rw [upd_ne p1.symm]; exact hb.h1, rfl, by rw [ln]; exact bigL (by omega), rfl⟩, ?_⟩
    rw [putN hf]
    refine ⟨(show 0 ≤ sizeLine by decide), fun a na => ?_⟩
    have na1 : d1 ≠ a := fun z => by rw [← z, upd_same] at na; cases na
    rw [upd_ne na1.symm] at na
    have nap : p ≠ a := fun z => by rw [← z, upd_same] at na; cases na
    rw [upd_ne nap.symm] at na
    have na2 : d2 ≠ a := fun z => by rw [← z, hb.h2] at na; cases na
    refine ⟨_, rfl, p, C, dx, _, .ref d2, rfl, by rw [upd_ne nap, upd_ne p1, upd_same], RG.cl, RG.n3, bf_words _ _ _, _, rfl, d2, _, rfl, .inl ⟨wrdK es, .inl ((nx : Nat) : Int), by rw [upd_ne na2, upd_ne hb.nd.symm, upd_ne p2.symm]; exact hb.h2, rfl, by rw [lw]; exact bigL (by omega), rfl⟩, ?_⟩
    rw [putW hn]
    refine ⟨_, rfl, q a _ na ⟨?_, ?_, ?_, fun i e he => ?_, fun i j e x he hx ha => ?_, hb.nd⟩ ?_⟩
    · rw [upd_ne p2, upd_ne nap, upd_ne p1, upd_same]
    · rw [upd_ne hb.nd, upd_ne na1, upd_same]
      unfold numK
      rw [List.map_append]
      rfl
    · rw [upd_same]
      unfold wrdK
      rw [List.map_append]
      rfl
    · by_cases g : i < es.length
      · rw [List.getElem?_append_left g] at he
        have hL := hb.hl i e he
        rw [upd_ne (ne_of hL hb.h2 (by intro q; cases q)), upd_ne (ne_of_none hL na), upd_ne (ne_of hL hb.h1 (by intro q; cases q)), upd_ne (ne_of hL hb.hp (by intro q; cases q))]
        exact hL
      · rw [List.getElem?_append_right (by omega)] at he
        have : e = ⟨f, nx, a, []⟩ := by
          match i - es.length, he with
          | 0, h => exact (Option.some.inj h).symm
        subst this
        show upd _ d2 _ a = _
        rw [upd_ne na2.symm, upd_same]
        rfl
    · by_cases g : i < es.length
      · rw [List.getElem?_append_left g] at he
        by_cases g2 : j < es.length
        · rw [List.getElem?_append_left g2] at hx
          exact hb.an i j e x he hx ha
        · rw [List.getElem?_append_right (by omega)] at hx
          have : x = ⟨f, nx, a, []⟩ := by
            match j - es.length, hx with
            | 0, h => exact (Option.some.inj h).symm
          subst this
          have := hb.hl i e he
          rw [show e.a = a from ha, na] at this
          cases this
      · have hi : i = es.length := by
          have := (List.getElem?_eq_some_iff.mp he).1
          rw [List.length_append] at this
          have : i < es.length + 1 := this
          omega
        by_cases g2 : j < es.length
        · rw [List.getElem?_append_left g2] at hx
          rw [List.getElem?_append_right (by omega)] at he
          have : e = ⟨f, nx, a, []⟩ := by
            match i - es.length, he with
            | 0, h => exact (Option.some.inj h).symm
          subst this
          have := hb.hl j x hx
          rw [show x.a = a from ha.symm, na] at this
          cases this
        · have := (List.getElem?_eq_some_iff.mp hx).1
          rw [List.length_append] at this
          have : j < es.length + 1 := this
          omega
    · exact Fr.put (Fr.new (Fr.put (Fr.put (Fr.of (Same.refl H)) (by simp)) (by simp)) na) (by simp)
end
end Rk
namespace Rk
open PySem PySem.Spec PyProof.Rows L2 Rw
abbrev s_Rings_add : Stmt := inClass (topS 16) 1
abbrev n_Rings_add : List Str := ["self", "word", "number"]
abbrev p_Rings_add : List Str := ["self", "word"]
theorem sc_Rings_add : FnScope n_Rings_add p_Rings_add (defScope s_Rings_add) := ⟨rfl, rfl, rfl, by decide +kernel, rfl, by decide +kernel, by decide +kernel⟩
abbrev s_Rings_forms : Stmt := inClass (topS 16) 6
abbrev n_Rings_forms : List Str := ["self", "form", "number"]
abbrev p_Rings_forms : List Str := ["self"]
theorem sc_Rings_forms : FnScope n_Rings_forms p_Rings_forms (defScope s_Rings_forms) := ⟨rfl, rfl, rfl, by decide +kernel, rfl, by decide +kernel, by decide +kernel⟩
abbrev s_Rings_many : Stmt := inClass (topS 16) 7
abbrev n_Rings_many : List Str := ["self", "words"]
abbrev p_Rings_many : List Str := ["self"]
theorem sc_Rings_many : FnScope n_Rings_many p_Rings_many (defScope s_Rings_many) := ⟨rfl, rfl, rfl, by decide +kernel, rfl, by decide +kernel, by decide +kernel⟩
theorem last_new {es : List Ent} {x : Ent} : (es ++ [x])[es.length]? = some x := by
  rw [List.getElem?_append_right (Nat.le_refl _), Nat.sub_self]
  rfl
theorem last_set {es : List Ent} {x y : Ent} : (es ++ [x]).set es.length y = es ++ [y] := by
  rw [List.set_append_right _ _ (Nat.le_refl _), Nat.sub_self]
  rfl
section
variable {P : Program} {w : World} {K : PySem.W.Frag} {mg : Str → Option Value} {base : Heap} {C cN cT : Addr} (B : Bt mg) (RG : RgC K mg C)
include RG
theorem ok_radd (R_Twice : ErX K mg "Twice" cT) (D : MDfn K C "add" "Rings.add" s_Rings_add p_Rings_add) (m_ring_of : MCal (L2.CX P w) P w K mg base 5 C "ring_of" (spRingOf K C cN)) (m__begin : MCal CX0 P w K mg base 1 C "_begin" (spBegin C))
    (c_least_form : Cal (L2.CX P w) P w K mg base 4 "least_form" (spLeastForm K cN)) : MCal (L2.CX P w) P w K mg base 6 C "add" (spAdd K C cN cT) := by
  refine D.cal fun f fd F => F.okX sc_Rings_add (fun vs H Q E h => ?_) (fun cdv A outer st H vs Q E hr h => ?_)
  · obtain ⟨p, dx, d1, d2, nx, es, v, b, rfl, _⟩ := h
    rfl
  · obtain ⟨p, dx, d1, d2, nx, es, v, b, rfl, hb, hP, hle, hws, hv, hno, hyes⟩ := h
    refine ⟨_, (pss_cons (ps_set (i := 2) sc_Rings_add.nd rfl (Or.inl rfl) (pe_mcal (pv 0) RG.cl m_ring_of hr (by decide) (passes_call (takes_of rfl rfl rfl rfl) fun _ _ _ _ h => h) (pa_cons (pv 1) pa_nil)))
      (Evl.pss_cut (ps_if (pt_cmpR op_isN (pv 2) pe_non (nomark _)) (pss_one (ps_set (i := 2) sc_Rings_add.nd rfl (Or.inl rfl) (pe_mcal (pv 0) RG.cl m__begin hr (by decide) pass0 (pa_cons (pe_cal c_least_form hr (by decide) (passes_call (takes_of rfl rfl rfl rfl) fun _ _ _ _ h => h) (pa_cons (pv 1) pa_nil)) pa_nil)))) (pss_one (ps_if (pt_cmpR op_inT (pv 1) (pe_dget (hu_of hr) (pe_fld (pv 0) rfl) (pv 2) (fun _ _ => rfl)) (by rfl)) (pss_one (ps_raise rfl (takes_of rfl rfl rfl rfl) (pmk_ownA PySem.F.excBase_ValueError R_Twice.x R_Twice.g R_Twice.k (raises_own R_Twice.b R_Twice.t) (by rfl) (pa_cons pe_str pa_nil)))) pss_nil)))
      (pss_cons (ps_expr (pe_bm PySem.F.plainAttrs_list PySem.F.slot_list_append PySem.F.type_list_append mt_append (pe_dget (hu_of hr) (pe_fld (pv 0) rfl) (pv 2) (fun _ _ => rfl)) (pa_cons (pv 1) pa_nil)))
      (pss_one (ps_ret (pv 2)))))), ?_⟩
    refine ⟨_, rfl, p, dx, _, rfl, hb.hp, bf_no _ _ _ (by decide +kernel) (by decide +kernel) (by decide +kernel), _, rfl, p, dx, d1, d2, nx, es, v, b, rfl, hb, hv, hno, fun l e1 e2 hl r H1 hR k1 => ?_⟩
    obtain ⟨hT, q⟩ := hyes l e1 e2 hl
    subst e2
    have hb1 := hb.same k1
    refine ⟨fun σ' H' => ∃ (i : Nat) (e : Ent) (es2 : List Ent) (nx2 : Nat), σ' = [some (.ref p), some (tv l), some (.int (e.n : Nat))] ∧ BkH C H' p dx d1 d2 nx2 es2 ∧ es2[i]? = some e ∧ es2.Pairwise (fun e x => e.n < x.n) ∧ e.ws.length ≤ 1000 ∧ Fr (p :: d1 :: d2 :: es.map Ent.a) H H' ∧
      AddOut H es nx l (es2.set i { e with ws := e.ws ++ [l] }) nx2 e.n ∧ (H e.a = none ∨ e.a ∈ es.map Ent.a), ?_, ?_⟩
    · cases hR with
      | no h =>
        refine ⟨_, rfl, rfl, true, by simp, iteT ?_⟩
        refine ⟨_, rfl, p, dx, _, rfl, hb1.hp, bf_no _ _ _ (by decide +kernel) (by decide +kernel) (by decide +kernel), _, rfl, tv l, true, [], rfl, rfl, .word hl, (fun e => nomatch e), fun l' _ el _ H2 k2 => ?_⟩
        cases tv_inj el
        refine ⟨p, dx, d1, d2, nx, es, _, rfl, hb1.same k2, h, hP.nl, hle, fun a H3 na hb3 f3 => ?_⟩
        have na0 := (k1.trans k2).free na
        refine ⟨es.length, _, _, nx + 1, rfl, hb3, last_new, ?_, Nat.zero_le _, (Fr.of (k1.trans k2)).trans (f3.mono fun a h => by
          simp only [List.mem_cons, List.not_mem_nil, or_false] at h ⊢
          rcases h with h | h | h
          · exact .inl h
          · exact .inr (.inl h)
          · exact .inr (.inr (.inl h))), ?_, .inl na0⟩
        · refine List.pairwise_append.mpr ⟨hP.nu, List.pairwise_singleton _ _, fun x hx y hy => ?_⟩
          rw [List.mem_singleton.mp hy]
          exact hP.nl x hx
        · rw [last_set]
          exact .new na0 h
      | @yes i e h1 h2 =>
        refine ⟨_, rfl, rfl, false, by simp, iteF ?_⟩
        have hL := hb1.hl i e h1
        refine ⟨_, rfl, _, rfl, p, C, dx, _, .ref d2, rfl, hb1.hp, RG.cl, RG.n3, bf_words _ _ _, _, rfl, d2, .ref e.a, rfl, .inl ⟨wrdK es, .inl ((e.n : Nat) : Int), .inl hb1.h2, rfl, (wrd_get hP.nu h1).symm⟩, e.a, l, e.ws, rfl, rfl, SqL.of hL, _, rfl, ite2 (fun g => ?_) (fun g => ?_)⟩
        · have g : l ∈ e.ws := of_decide_eq_true g
          exact ⟨(show 1 ≤ sizeLine by decide), hT i e h1 h2 g H1 k1⟩
        · have g : l ∉ e.ws := of_decide_eq_false (by simpa using g)
          exact ⟨i, e, es, nx, rfl, hb1, h1, hP.nu, hws e (List.mem_of_getElem? h1), Fr.of k1, .old h1 h2 g, .inr (List.mem_map.mpr ⟨e, List.mem_of_getElem? h1, rfl⟩)⟩
    · rintro σ' H2 ⟨i, e, es2, nx2, rfl, hb2, he, hpw, hwl, f2, hout, hea⟩
      have hL := hb2.hl i e he
      refine ⟨_, rfl, p, C, dx, _, .ref d2, rfl, hb2.hp, RG.cl, RG.n3, bf_words _ _ _, _, rfl, d2, .ref e.a, rfl, .inl ⟨wrdK es2, .inl ((e.n : Nat) : Int), .inl hb2.h2, rfl, (wrd_get hpw he).symm⟩, .inl ⟨rfl, _, SqL.of hL⟩, _, rfl, e.a, tvs e.ws, tv l, rfl, rfl, hL, by rw [List.length_map]; exact bigL (by omega), ?_⟩
      have et : tvs e.ws ++ [tv l] = tvs (e.ws ++ [l]) := by rw [tvs_app]; rfl
      rw [et]
      refine ⟨_, rfl, q _ _ _ _ hout (hb2.set he _) ?_⟩
      rcases hea with g | g
      · exact f2.new g
      · exact f2.put (by simp at g ⊢; exact .inr (.inr (.inr g)))
include B
theorem ok_rforms (D : MDfn K C "forms" "Rings.forms" s_Rings_forms p_Rings_forms) : MCal CX0 P w K mg base 1 C "forms" (spForms C) := by
  refine D.cal fun f fd F => F.ok sc_Rings_forms (fun vs H Q E h => ?_) (fun cdv A outer st H vs Q E hr h => ?_)
  · obtain ⟨p, dx, d1, d2, nx, es, rfl, _⟩ := h
    rfl
  · obtain ⟨p, dx, d1, d2, nx, es, rfl, hb, hle, q⟩ := h
    refine ⟨_, (pss_one (ps_ret (pe_lock (pe_lc (own := [("form", 1), ("number", 2)]) (g := gTup K 2 (gCons (gName 1) (gCons (gName 2) gNil))) rfl sc_Rings_forms.nd (pi_items (pe_fld (pv 0) rfl)) (blkOk_by (own := [("form", 1), ("number", 2)]) (N := n_Rings_forms) (sc := defScope s_Rings_forms) (by decide +kernel)) (fun _ _ _ _ _ => (pg_tup rfl (pgs_cons (pg_name (i := 1) sc_Rings_forms.nd rfl (Or.inl rfl)) (pgs_cons (pg_name (i := 2) sc_Rings_forms.nd rfl (Or.inl rfl)) pgs_nil)))) (fun _ _ _ _ _ => pts_nil) (fun _ _ _ _ _ => (pe_tup (pa_cons (pv 2) (pa_cons (pv 1) pa_nil)))))))), ?_⟩
    refine ⟨d1, _, hb.h1, trivial, fun od => ?_⟩
    have p1 : p ≠ d1 := ne_of hb.hp hb.h1 (by intro q; cases q)
    have hf : upd H d1 (.frz od (.dK (numK es))) d1 = some (.frz od (.dK (numK es))) := upd_same
    have none1 : ∀ t, upd H d1 (.frz od (.dK (numK es))) t = none → H t = none ∧ t ≠ d1 := fun t ht => by
      by_cases g : t = d1
      · rw [g, hf] at ht
        cases ht
      · rw [upd_ne g] at ht
        exact ⟨ht, g⟩
    refine ⟨_, rfl, p, C, dx, _, .ref d1, rfl, by rw [upd_ne p1]; exact hb.hp, RG.cl, RG.n2, bf_numbers _ _ _, d1, od, numK es, rfl, hf, fun Dl hD => ?_⟩
    have ln : (numK es).length = es.length := List.length_map ..
    generalize hH1 : upd H d1 (.frz od (.dK (numK es))) = H1 at *
    refine lc_it walk_items (fun j H' => ∃ ts : List Addr, ts.length = j ∧ Same H1 H' ∧ H' Dl = some (.lst (ts.map V.ref)) ∧ ∀ (i : Nat) (t : Addr) (e : Ent), ts[i]? = some t → es[i]? = some e → H1 t = none ∧ t ≠ Dl ∧ H' t = some (.tup [.int (e.n : Nat), tv e.f])) ⟨[], rfl, same_upd hD, upd_same, fun i t e h => by simp at h⟩ (fun j H4 _ ⟨_, _, e, _, _⟩ => e _ _ hf) ?_ ?_
    · rintro j x H4 H4' hj ⟨ts, hlt, e4, hD4, hts⟩ ⟨Ta, x1, y1, rfl, nT, rfl, hx, hy⟩
      rw [ln] at hj
      dsimp only at hx hy
      have he : es[j]? = some es[j] := List.getElem?_eq_getElem hj
      have hk : (numK es)[j]? = some (.inr (T es[j].f), .int (es[j].n : Nat)) := by
        unfold numK
        rw [List.getElem?_map, he]
        rfl
      rw [hk] at hx hy
      have ex : tv es[j].f = x1 := Option.some.inj hx
      have ey : V.int (es[j].n : Nat) = y1 := Option.some.inj hy
      subst ex ey
      refine ⟨Ta, _, rfl, .inl (.inl upd_same), rfl, _, _, rfl, _, _, rfl, rfl, rfl, keepAll ?_⟩
      refine ⟨_, rfl, _, rfl, (show 2 ≤ sizeLine by decide), fun t nt => ?_⟩
      have k5 := same_upd (o := .tup [tv es[j].f, V.int (es[j].n : Nat)]) nT
      have k6 := same_upd (o := .tup [V.int (es[j].n : Nat), tv es[j].f]) nt
      have k := k5.trans k6
      have ht : upd (upd H4 Ta (.tup [tv es[j].f, V.int (es[j].n : Nat)])) t (.tup [V.int (es[j].n : Nat), tv es[j].f]) t = some (.tup [V.int (es[j].n : Nat), tv es[j].f]) := upd_same
      have nt4 : H4 t = none := k5.free nt
      generalize upd (upd H4 Ta (.tup [tv es[j].f, V.int (es[j].n : Nat)])) t (.tup [V.int (es[j].n : Nat), tv es[j].f]) = H6 at *
      have tD : t ≠ Dl := fun z => by rw [z, hD4] at nt4; cases nt4
      have t1 : H1 t = none := e4.free nt4
      refine ⟨_, k _ _ hD4, by rw [List.length_map, hlt]; exact bigL (by omega), ts ++ [t], by rw [List.length_append, hlt]; rfl, Same.mut (e4.trans k) hD, ?_, fun i u e hu he' => ?_⟩
      · rw [upd_same, List.map_append]
        rfl
      · by_cases g : i < ts.length
        · rw [List.getElem?_append_left g] at hu
          obtain ⟨a1, a2, a3⟩ := hts i u e hu he'
          exact ⟨a1, a2, by rw [upd_ne a2]; exact k _ _ a3⟩
        · have hi : i = j := by
            have := (List.getElem?_eq_some_iff.mp hu).1
            rw [List.length_append] at this
            have : i < ts.length + 1 := this
            omega
          subst hi
          rw [List.getElem?_append_right (by omega), hlt, Nat.sub_self] at hu
          have : t = u := Option.some.inj hu
          subst this
          rw [he] at he'
          cases he'
          exact ⟨t1, tD, by rw [upd_ne tD]; exact ht⟩
    · rintro H4 ⟨ts, hlt, e4, hD4, hts⟩
      have hp4 := e4 _ _ hf
      refine ⟨hp4, ?_⟩
      have dD : Dl ≠ d1 := fun z => by rw [z, hf] at hD; cases hD
      have D0 : H Dl = none := (none1 Dl hD).1
      refine q Dl ts _ (fun b u hbu => ?_) D0 (by rw [upd_ne dD]; exact hD4) (by rw [hlt, ln]) fun i t e ht he => ?_
      · by_cases g : b = d1
        · subst g
          rw [upd_same, ← hb.h1, hbu]
        · rw [upd_ne g]
          refine e4 b u ?_
          rw [← hH1, upd_ne g]
          exact hbu
      · obtain ⟨a1, a2, a3⟩ := hts i t e ht he
        obtain ⟨b1, b2⟩ := none1 t a1
        exact ⟨b1, by rw [upd_ne b2]; exact a3⟩
theorem ok_rmany (D : MDfn K C "many" "Rings.many" s_Rings_many p_Rings_many) : MCal CX0 P w K mg base 1 C "many" (spMany C) := by
  refine D.cal fun f fd F => F.ok sc_Rings_many (fun vs H Q E h => ?_) (fun cdv A outer st H vs Q E hr h => ?_)
  · obtain ⟨p, dx, d1, d2, nx, es, rfl, _⟩ := h
    rfl
  · obtain ⟨p, dx, d1, d2, nx, es, rfl, hb, hle, q⟩ := h
    refine ⟨_, (pss_one (ps_ret (pe_callB (cr_sumN rfl) (by rfl) B.m_sum (by decide +kernel) (pa_cons (pe_lock (pe_lc (own := [("words", 1)]) rfl sc_Rings_many.nd (pi_values (pe_fld (pv 0) rfl)) (blkOk_by (own := [("words", 1)]) (N := n_Rings_many) (sc := defScope s_Rings_many) (by decide +kernel)) (fun _ _ _ _ _ => (pg_name (i := 1) sc_Rings_many.nd rfl (Or.inl rfl))) (fun _ _ _ _ _ => pts_nil) (fun _ _ _ _ _ => (pe_callB (call_len_seqK (K := K) rfl) (by rfl) B.m_len PySem.boot_len (pa_cons (pv 1) pa_nil))))) pa_nil)))), ?_⟩
    refine ⟨d2, _, hb.h2, trivial, fun od => ?_⟩
    have p2 : p ≠ d2 := ne_of hb.hp hb.h2 (by intro q; cases q)
    have hf : upd H d2 (.frz od (.dK (wrdK es))) d2 = some (.frz od (.dK (wrdK es))) := upd_same
    have hl1 : ∀ (i : Nat) (e : Ent), es[i]? = some e → upd H d2 (.frz od (.dK (wrdK es))) e.a = some (.lst (tvs e.ws)) := fun i e he => by
      have hL := hb.hl i e he
      rw [upd_ne (ne_of hL hb.h2 (by intro q; cases q))]
      exact hL
    refine ⟨_, rfl, p, C, dx, _, .ref d2, rfl, by rw [upd_ne p2]; exact hb.hp, RG.cl, RG.n3, bf_words _ _ _, d2, od, wrdK es, rfl, hf, fun Dl hD => ?_⟩
    have lw : (wrdK es).length = es.length := List.length_map ..
    have dD : Dl ≠ d2 := fun z => by rw [z, hf] at hD; cases hD
    have D0 : H Dl = none := by rw [upd_ne dD] at hD; exact hD
    generalize hH1 : upd H d2 (.frz od (.dK (wrdK es))) = H1 at *
    refine lc_it walk_values (LcP H1 Dl fun j acc => acc = ivs ((es.take j).map fun e => e.ws.length)) (lcp_start hD rfl) (fun j H4 _ ⟨_, _, e, _, _, _⟩ => e _ _ hf) ?_ ?_
    · rintro j x H4 H4' hj ⟨_, acc, e4, hD4, hlen, rfl⟩ ⟨rfl, key, hk⟩
      rw [lw] at hj
      have he : es[j]? = some es[j] := List.getElem?_eq_getElem hj
      have hk' : (wrdK es)[j]? = some (.inl (es[j].n : Nat), .ref es[j].a) := by
        unfold wrdK
        rw [List.getElem?_map, he]
        rfl
      rw [hk'] at hk
      cases hk
      refine ⟨rfl, keepAll ?_⟩
      refine ⟨_, rfl, es[j].a, _, rfl, .inl (SqL.of (e4 _ _ (hl1 j _ he))), ?_⟩
      refine lcp_put hD e4 hD4 hlen (by omega) (Same.refl _) ?_
      rw [List.take_add_one, he, List.map_append, ivs_app]
      show _ = _ ++ [V.int ((es[j].ws.length : Nat) : Int)]
      rw [List.length_map]
    · rintro H4 ⟨_, acc, e4, hD4, _, rfl⟩
      rw [lw, List.take_length] at hD4
      refine ⟨e4 _ _ hf, Dl, _, rfl, SqL.of (by rw [upd_ne dD]; exact hD4), ?_⟩
      refine q _ fun b u hbu => ?_
      by_cases g : b = d2
      · subst g
        rw [upd_same, ← hb.h2, hbu]
      · rw [upd_ne g]
        refine e4 b u ?_
        rw [← hH1, upd_ne g]
        exact hbu
end
end Rk
namespace Rw
open PySem PySem.Spec PyProof.Rows L2
theorem drop_idx {κ : Type} [DecidableEq κ] {g : Ent → κ} {h : Ent → V} : ∀ {es : List Ent} {i : Nat} {e : Ent}, (∀ (i j : Nat) (e x : Ent), es[i]? = some e → es[j]? = some x → g e = g x → i = j) → es[i]? = some e →
    dropK (es.map fun e => (g e, h e)) (g e) = (es.eraseIdx i).map fun e => (g e, h e)
  | [], i, e, _, he => by simp at he
  | x :: r, 0, e, hu, he => by
    have : x = e := Option.some.inj he
    subst this
    have hr : ∀ y ∈ r, ¬ g y = g x := fun y hy z => by
      obtain ⟨j, hj, ej⟩ := List.getElem_of_mem hy
      have := hu (j + 1) 0 y x (by rw [List.getElem?_cons_succ, List.getElem?_eq_getElem hj, ej]) rfl z
      omega
    unfold dropK
    rw [List.map_cons, List.filter_cons_of_neg (by simp)]
    show (r.map _).filter _ = r.map _
    rw [List.filter_eq_self]
    intro p hp
    obtain ⟨y, hy, rfl⟩ := List.mem_map.mp hp
    exact decide_eq_true (hr y hy)
  | x :: r, i + 1, e, hu, he => by
    have he' : r[i]? = some e := he
    have hx : ¬ g x = g e := fun z => by
      have := hu 0 (i + 1) x e rfl he z
      omega
    have ih := drop_idx (g := g) (h := h) (es := r) (i := i) (e := e) (fun a b y z hy hz hyz => by
      have := hu (a + 1) (b + 1) y z hy hz hyz
      omega) he'
    unfold dropK at ih ⊢
    rw [List.map_cons, List.filter_cons_of_pos (by simpa using hx), ih]
    rfl
theorem num_idx {es : List Ent} (h : es.Pairwise fun e x => e.n < x.n) : ∀ (i j : Nat) (e x : Ent), es[i]? = some e → es[j]? = some x → e.n = x.n → i = j := fun i j e x hi hj he => by
  obtain ⟨hi1, hi2⟩ := List.getElem?_eq_some_iff.mp hi
  obtain ⟨hj1, hj2⟩ := List.getElem?_eq_some_iff.mp hj
  have hp := List.pairwise_iff_getElem.mp h
  rcases Nat.lt_trichotomy i j with q | q | q
  · have := hp i j hi1 hj1 q
    rw [hi2, hj2] at this
    omega
  · exact q
  · have := hp j i hj1 hi1 q
    rw [hi2, hj2] at this
    omega
theorem erase_at {es : List Ent} {i j : Nat} {y : Ent} (h : (es.eraseIdx i)[j]? = some y) : es[if j < i then j else j + 1]? = some y := by
  rw [List.getElem?_eraseIdx] at h
  by_cases g : j < i
  · rw [if_pos g] at h ⊢
    exact h
  · rw [if_neg g] at h ⊢
    exact h
/-- a ring is taken out of both dicts -/
theorem BkH.drop {C p dx d1 d2 : Addr} {H : Hp} {nx : Nat} {es : List Ent} (b : BkH C H p dx d1 d2 nx es) (hf : ∀ (i j : Nat) (e x : Ent), es[i]? = some e → es[j]? = some x → e.f = x.f → i = j) (hn : es.Pairwise fun e x => e.n < x.n) {i : Nat} {e : Ent} (he : es[i]? = some e) :
    BkH C (upd (upd H d1 (.dK (dropK (numK es) (.inr (T e.f))))) d2 (.dK (dropK (wrdK es) (.inl ((e.n : Nat) : Int))))) p dx d1 d2 nx (es.eraseIdx i) := by
  have p1 : p ≠ d1 := ne_of b.hp b.h1 (by intro q; cases q)
  have p2 : p ≠ d2 := ne_of b.hp b.h2 (by intro q; cases q)
  refine ⟨by rw [upd_ne p2, upd_ne p1]; exact b.hp, ?_, ?_, fun j y hy => ?_, fun j k y z hy hz ha => ?_, b.nd⟩
  · rw [upd_ne b.nd, upd_same]
    unfold numK
    rw [drop_idx (g := fun e => (.inr (T e.f) : Key)) (h := fun e => .int (e.n : Nat)) (fun i j e x h1 h2 z => hf i j e x h1 h2 (T_inj (Sum.inr.inj z))) he]
  · rw [upd_same]
    unfold wrdK
    rw [drop_idx (g := fun e => (.inl ((e.n : Nat) : Int) : Key)) (h := fun e => .ref e.a) (fun i j e x h1 h2 z => num_idx hn i j e x h1 h2 (by have := Sum.inl.inj z; omega)) he]
  · have hL := b.hl _ y (erase_at hy)
    rw [upd_ne (ne_of hL b.h2 (by intro q; cases q)), upd_ne (ne_of hL b.h1 (by intro q; cases q))]
    exact hL
  · have := b.an _ _ y z (erase_at hy) (erase_at hz) ha
    by_cases g1 : j < i <;> by_cases g2 : k < i <;> simp only [g1, g2, if_true, if_false] at this <;> omega
def spEnd (C : Addr) : Sp := fun vs H Q _ => ∃ (p dx d1 d2 : Addr) (nx : Nat) (es : List Ent) (i : Nat) (e : Ent), vs = [.ref p, tv e.f] ∧ BkH C H p dx d1 d2 nx es ∧ (∀ (i j : Nat) (e x : Ent), es[i]? = some e → es[j]? = some x → e.f = x.f → i = j) ∧ es.Pairwise (fun e x => e.n < x.n) ∧ es[i]? = some e ∧
  ∀ H' : Hp, BkH C H' p dx d1 d2 nx (es.eraseIdx i) → Fr [p, d1, d2] H H' → Q .non H'
/-- what a word taken out leaves -/
def takeE (es : List Ent) (i : Nat) (e : Ent) (l : List Nat) : List Ent := if e.ws.erase l = [] then es.eraseIdx i else es.set i { e with ws := e.ws.erase l }
def spTake (K : PySem.W.Frag) (C cN cR : Addr) : Sp := fun vs H Q E => ∃ (p dx d1 d2 : Addr) (nx : Nat) (es : List Ent) (v : V) (b : Bool), vs = [.ref p, v] ∧ BkH C H p dx d1 d2 nx es ∧ BkP nx es ∧ (∀ e ∈ es, e.ws.length ≤ 1000) ∧ Th K H v b ∧
  (b = false → ∀ H', Same H H' → E (.ref cN) none H') ∧ (∀ l, b = true → v = tv l → Wd l →
    ((∀ e ∈ es, l ∉ e.ws) → ∀ H', Same H H' → E (.ref cR) none H') ∧
    (∀ (i : Nat) (e : Ent) (H' : Hp), es[i]? = some e → l ∈ e.ws → BkH C H' p dx d1 d2 nx (takeE es i e l) → Fr (p :: d1 :: d2 :: es.map Ent.a) H H' → Q (.int (e.n : Nat)) H'))
def spOthers (K : PySem.W.Frag) (C cN : Addr) : Sp := fun vs H Q E => ∃ (p dx d1 d2 : Addr) (nx : Nat) (es : List Ent) (v : V) (b : Bool), vs = [.ref p, v] ∧ BkH C H p dx d1 d2 nx es ∧ BkP nx es ∧ (∀ e ∈ es, e.ws.length ≤ 1000) ∧ Th K H v b ∧
  (b = false → ∀ H', Same H H' → E (.ref cN) none H') ∧ (∀ l, b = true → v = tv l → Wd l →
    ((∀ e ∈ es, e.f ≠ minT (turns l)) → newT [] H Q) ∧ (∀ (i : Nat) (e : Ent), es[i]? = some e → e.f = minT (turns l) → newT (e.ws.filter fun o => !decide (o = l)) H Q))
def spMembers (K : PySem.W.Frag) (C cR : Addr) : Sp := fun vs H Q E => ∃ (p dx d1 d2 : Addr) (nx : Nat) (es : List Ent) (n : Int), vs = [.ref p, .int n] ∧ BkH C H p dx d1 d2 nx es ∧ es.Pairwise (fun e x => e.n < x.n) ∧
  ((∀ e ∈ es, ((e.n : Nat) : Int) ≠ n) → ∀ H', Same H H' → E (.ref cR) none H') ∧ (∀ (i : Nat) (e : Ent), es[i]? = some e → ((e.n : Nat) : Int) = n → newT e.ws H Q)
theorem wrd_none {n : Int} : ∀ {es : List Ent}, (∀ e ∈ es, ((e.n : Nat) : Int) ≠ n) → valV (wrdK es) (.inl n) = none
  | [], _ => rfl
  | e :: r, h => by
    rw [show wrdK (e :: r) = (.inl ((e.n : Nat) : Int), .ref e.a) :: wrdK r from rfl, valV_neg (fun z => h e List.mem_cons_self (Sum.inl.inj z))]
    exact wrd_none fun x hx => h x (List.mem_cons_of_mem _ hx)
theorem num_at : ∀ {es : List Ent} {i : Nat} {e : Ent}, (∀ (i j : Nat) (e x : Ent), es[i]? = some e → es[j]? = some x → e.f = x.f → i = j) → es[i]? = some e → valV (numK es) (.inr (T e.f)) = some (.int (e.n : Nat))
  | [], i, e, _, h => by simp at h
  | x :: r, 0, e, _, h => by
    have : x = e := Option.some.inj h
    subst this
    exact valV_pos rfl
  | x :: r, i + 1, e, hu, h => by
    have h' : r[i]? = some e := h
    rw [show numK (x :: r) = (.inr (T x.f), .int (x.n : Nat)) :: numK r from rfl, valV_neg (fun z => by
      have := hu 0 (i + 1) x e rfl h (T_inj (Sum.inr.inj z))
      omega)]
    exact num_at (fun a b y z hy hz hyz => by
      have := hu (a + 1) (b + 1) y z hy hz hyz
      omega) h'
end Rw
namespace Rk
open PySem PySem.Spec PyProof.Rows L2 Rw
abbrev s_Rings__end : Stmt := inClass (topS 16) 9
abbrev n_Rings__end : List Str := ["self", "form", "number"]
abbrev p_Rings__end : List Str := ["self", "form"]
theorem sc_Rings__end : FnScope n_Rings__end p_Rings__end (defScope s_Rings__end) := ⟨rfl, rfl, rfl, by decide +kernel, rfl, by decide +kernel, by decide +kernel⟩
abbrev s_Rings_members : Stmt := inClass (topS 16) 5
abbrev n_Rings_members : List Str := ["self", "number"]
abbrev p_Rings_members : List Str := ["self", "number"]
theorem sc_Rings_members : FnScope n_Rings_members p_Rings_members (defScope s_Rings_members) := ⟨rfl, rfl, rfl, by decide +kernel, rfl, by decide +kernel, by decide +kernel⟩
abbrev s_Rings_others : Stmt := inClass (topS 16) 4
abbrev n_Rings_others : List Str := ["self", "word", "number", "other"]
abbrev p_Rings_others : List Str := ["self", "word"]
theorem sc_Rings_others : FnScope n_Rings_others p_Rings_others (defScope s_Rings_others) := ⟨rfl, rfl, rfl, by decide +kernel, rfl, by decide +kernel, by decide +kernel⟩
abbrev s_Rings_take : Stmt := inClass (topS 16) 2
abbrev n_Rings_take : List Str := ["self", "word", "number"]
abbrev p_Rings_take : List Str := ["self", "word"]
theorem sc_Rings_take : FnScope n_Rings_take p_Rings_take (defScope s_Rings_take) := ⟨rfl, rfl, rfl, by decide +kernel, rfl, by decide +kernel, by decide +kernel⟩
section
variable {P : Program} {w : World} {K : PySem.W.Frag} {mg : Str → Option Value} {base : Heap} {C cN cR : Addr} (B : Bt mg) (RG : RgC K mg C)
include B RG
theorem ok_end (D : MDfn K C "_end" "Rings._end" s_Rings__end p_Rings__end) : MCal CX0 P w K mg base 1 C "_end" (spEnd C) := by
  refine D.cal fun f fd F => F.ok sc_Rings__end (fun vs H Q E h => ?_) (fun cdv A outer st H vs Q E hr h => ?_)
  · obtain ⟨p, dx, d1, d2, nx, es, i, e, rfl, _⟩ := h
    rfl
  · obtain ⟨p, dx, d1, d2, nx, es, i, e, rfl, hb, hf, hn, he, q⟩ := h
    refine ⟨_, (pss_cons (ps_set (i := 2) sc_Rings__end.nd rfl (Or.inl rfl) (pe_dpop1 (pe_fld (pv 0) rfl) (pv 1) ⟨rfl, rfl, rfl, rfl⟩))
      (pss_one (ps_ddel (pe_fld (pv 0) rfl) (pv 2)))), ?_⟩
    have p1 : p ≠ d1 := ne_of hb.hp hb.h1 (by intro q; cases q)
    refine ⟨_, rfl, p, C, dx, _, .ref d1, rfl, hb.hp, RG.cl, RG.n2, bf_numbers _ _ _, d1, rfl, .inl ⟨_, .inl hb.h1⟩, _, rfl, numK es, .inr (T e.f), .int (e.n : Nat), hb.h1, rfl, num_at hf he, ?_⟩
    refine ⟨_, rfl, p, C, dx, _, .ref d2, rfl, by rw [upd_ne p1]; exact hb.hp, RG.cl, RG.n3, bf_words _ _ _, _, rfl, d2, wrdK es, .inl ((e.n : Nat) : Int), rfl, by rw [upd_ne hb.nd.symm]; exact hb.h2, rfl, by rw [wrd_get hn he]; rfl, ?_⟩
    exact q _ (hb.drop hf hn he) (Fr.put (Fr.put (Fr.of (Same.refl H)) (by simp)) (by simp))
theorem ok_members (R_NoRing : ErX K mg "NoRing" cR) (D : MDfn K C "members" "Rings.members" s_Rings_members p_Rings_members) : MCal (L2.CX P w) P w K mg base 1 C "members" (spMembers K C cR) := by
  refine D.cal fun f fd F => F.okX sc_Rings_members (fun vs H Q E h => ?_) (fun cdv A outer st H vs Q E hr h => ?_)
  · obtain ⟨p, dx, d1, d2, nx, es, n, rfl, _⟩ := h
    rfl
  · obtain ⟨p, dx, d1, d2, nx, es, n, rfl, hb, hn, hno, hyes⟩ := h
    refine ⟨_, (pss_cons (ps_if (pt_cmp (pc_dnotin (hu_of hr) (pv 1) (pe_fld (pv 0) rfl))) (pss_one (ps_raise rfl (takes_of rfl rfl rfl rfl) (pmk_ownA PySem.F.excBase_ValueError R_NoRing.x R_NoRing.g R_NoRing.k (raises_own R_NoRing.b R_NoRing.t) (by rfl) (pa_cons pe_str pa_nil)))) pss_nil)
      (pss_one (ps_ret (pe_callTy call_list_of (by rfl) B.m_list (by decide +kernel) (pa_cons (pe_dget (hu_of hr) (pe_fld (pv 0) rfl) (pv 1) (fun _ _ => rfl)) pa_nil))))), ?_⟩
    refine ⟨_, rfl, _, rfl, p, C, dx, _, .ref d2, rfl, hb.hp, RG.cl, RG.n3, bf_words _ _ _, d2, _, rfl, DGet.k (k := .inl n) hb.h2, ?_⟩
    by_cases g : ∃ e ∈ es, ((e.n : Nat) : Int) = n
    · obtain ⟨e, hem, rfl⟩ := g
      obtain ⟨i, hi, ei⟩ := List.getElem_of_mem hem
      have he : es[i]? = some e := by rw [List.getElem?_eq_getElem hi, ei]
      rw [wrd_get hn he]
      refine ⟨false, rfl, iteF ?_⟩
      have hL := hb.hl i e he
      refine ⟨_, rfl, p, C, dx, _, .ref d2, rfl, hb.hp, RG.cl, RG.n3, bf_words _ _ _, _, rfl, d2, .ref e.a, rfl, .inl ⟨wrdK es, .inl ((e.n : Nat) : Int), .inl hb.h2, rfl, (wrd_get hn he).symm⟩, e.a, tvs e.ws, rfl, .inl (SqL.of hL), fun t nt => ?_⟩
      exact hyes i e he rfl t _ nt (same_upd nt) upd_same
    · have g2 : ∀ e ∈ es, ((e.n : Nat) : Int) ≠ n := fun e he z => g ⟨e, he, z⟩
      rw [wrd_none g2]
      exact ⟨true, rfl, iteT ⟨(show 1 ≤ sizeLine by decide), hno g2 H (Same.refl H)⟩⟩
theorem ok_others (D : MDfn K C "others" "Rings.others" s_Rings_others p_Rings_others) (m_ring_of : MCal (L2.CX P w) P w K mg base 5 C "ring_of" (spRingOf K C cN)) : MCal (L2.CX P w) P w K mg base 6 C "others" (spOthers K C cN) := by
  refine D.cal fun f fd F => F.okX sc_Rings_others (fun vs H Q E h => ?_) (fun cdv A outer st H vs Q E hr h => ?_)
  · obtain ⟨p, dx, d1, d2, nx, es, v, b, rfl, _⟩ := h
    rfl
  · obtain ⟨p, dx, d1, d2, nx, es, v, b, rfl, hb, hP, hws, hv, hno, hyes⟩ := h
    refine ⟨_, (pss_cons (ps_set (i := 2) sc_Rings_others.nd rfl (Or.inl rfl) (pe_mcal (pv 0) RG.cl m_ring_of hr (by decide) (passes_call (takes_of rfl rfl rfl rfl) fun _ _ _ _ h => h) (pa_cons (pv 1) pa_nil)))
      (pss_cons (ps_if (pt_cmpR op_isN (pv 2) pe_non (nomark _)) (pss_one (ps_ret (pe_lst pa_nil))) pss_nil)
      (pss_one (ps_ret (pe_lc (own := [("other", 3)]) rfl sc_Rings_others.nd (pi_list (pe_dget (hu_of hr) (pe_fld (pv 0) rfl) (pv 2) (fun _ _ => rfl))) (blkOk_by (own := [("other", 3)]) (N := n_Rings_others) (sc := defScope s_Rings_others) (by decide +kernel)) (fun _ _ _ _ _ => (pg_name (i := 3) sc_Rings_others.nd rfl (Or.inl rfl))) (fun _ _ _ _ _ => (pts_one (pt_cmpR op_neT (pv 3) (pv 1) (nomark _)))) (fun _ _ _ _ _ => (pv 3))))))), ?_⟩
    refine ⟨_, rfl, p, dx, _, rfl, hb.hp, bf_no _ _ _ (by decide +kernel) (by decide +kernel) (by decide +kernel), _, rfl, p, dx, d1, d2, nx, es, v, b, rfl, hb, hv, hno, fun l e1 e2 hl r H1 hR k1 => ?_⟩
    obtain ⟨q0, q1⟩ := hyes l e1 e2 hl
    subst e2
    have hb1 := hb.same k1
    cases hR with
    | no h =>
      refine ⟨_, rfl, rfl, true, by simp, iteT ?_⟩
      exact ⟨(show 0 ≤ sizeLine by decide), fun t nt => q0 h t _ (k1.free nt) (k1.trans (same_upd nt)) upd_same⟩
    | @yes i e h1 h2 =>
      refine ⟨_, rfl, rfl, false, by simp, iteF ?_⟩
      have hL := hb1.hl i e h1
      have hwl := hws e (List.mem_of_getElem? h1)
      refine ⟨_, rfl, p, C, dx, _, .ref d2, rfl, hb1.hp, RG.cl, RG.n3, bf_words _ _ _, _, rfl, d2, .ref e.a, rfl, .inl ⟨wrdK es, .inl ((e.n : Nat) : Int), .inl hb1.h2, rfl, (wrd_get hP.nu h1).symm⟩, e.a, rfl, ⟨_, SqL.of hL⟩, fun Dl hD => ?_⟩
      refine lc_it walk_list (LcP H1 Dl fun j acc => acc = tvs ((e.ws.take j).filter fun o => !decide (o = l))) (lcp_start hD rfl) (fun j H4 _ ⟨_, _, e, _, _, _⟩ => SqL.of (e _ _ hL)) ?_ ?_
      · rintro j x H4 H4' hj ⟨_, acc, e4, hD4, hlen, rfl⟩ ⟨rfl, hx⟩
        rw [List.length_map] at hj
        obtain ⟨u, hu⟩ : ∃ u, e.ws[j]? = some u := ⟨_, List.getElem?_eq_getElem hj⟩
        rw [List.getElem?_map, hu] at hx
        have ex : tv u = x := Option.some.inj hx
        subst ex
        refine ⟨rfl, ?_⟩
        have stp : (e.ws.take (j + 1)).filter (fun o => !decide (o = l)) = (e.ws.take j).filter (fun o => !decide (o = l)) ++ (if (!decide (u = l)) = true then [u] else []) := by
          rw [List.take_add_one, hu, List.filter_append]
          congr 1
          cases g : decide (u = l) <;> simp [g]
        refine ⟨_, rfl, _, rfl, u, l, rfl, rfl, _, rfl, ?_⟩
        cases g : decide (u = l) with
        | true =>
          refine iteF ?_
          refine lcp_skip hD e4 hD4 hlen (Same.refl _) ?_
          rw [stp, g]
          simp
        | false =>
          refine iteT ⟨_, rfl, ?_⟩
          refine lcp_put hD e4 hD4 hlen (by omega) (Same.refl _) ?_
          rw [stp, g, tvs_app]
          rfl
      · rintro H4 ⟨_, acc, e4, hD4, _, rfl⟩
        rw [List.length_map, List.take_length] at hD4
        exact q1 i e h1 h2 Dl H4 (k1.free hD) (k1.trans e4) hD4
theorem ok_take (R_NoRing : ErX K mg "NoRing" cR) (D : MDfn K C "take" "Rings.take" s_Rings_take p_Rings_take) (m_ring_of : MCal (L2.CX P w) P w K mg base 5 C "ring_of" (spRingOf K C cN)) (m__end : MCal CX0 P w K mg base 1 C "_end" (spEnd C))
    (c_least_form : Cal (L2.CX P w) P w K mg base 4 "least_form" (spLeastForm K cN)) : MCal (L2.CX P w) P w K mg base 6 C "take" (spTake K C cN cR) := by
  refine D.cal fun f fd F => F.okX sc_Rings_take (fun vs H Q E h => ?_) (fun cdv A outer st H vs Q E hr h => ?_)
  · obtain ⟨p, dx, d1, d2, nx, es, v, b, rfl, _⟩ := h
    rfl
  · obtain ⟨p, dx, d1, d2, nx, es, v, b, rfl, hb, hP, hws, hv, hno, hyes⟩ := h
    refine ⟨_, (pss_cons (ps_set (i := 2) sc_Rings_take.nd rfl (Or.inl rfl) (pe_mcal (pv 0) RG.cl m_ring_of hr (by decide) (passes_call (takes_of rfl rfl rfl rfl) fun _ _ _ _ h => h) (pa_cons (pv 1) pa_nil)))
      (pss_cons (ps_if (PW.pt (pw_or (pt_cmpR op_isN (pv 2) pe_non (nomark _)) (pw_or1 (pt_cmpR op_notInT (pv 1) (pe_dget (hu_of hr) (pe_fld (pv 0) rfl) (pv 2) (fun _ _ => rfl)) (by rfl))))) (pss_one (ps_raise rfl (takes_of rfl rfl rfl rfl) (pmk_ownA PySem.F.excBase_ValueError R_NoRing.x R_NoRing.g R_NoRing.k (raises_own R_NoRing.b R_NoRing.t) (by rfl) (pa_cons pe_str pa_nil)))) pss_nil)
      (pss_cons (ps_expr (pe_bm PySem.F.plainAttrs_list PySem.F.slot_list_remove PySem.F.type_list_remove (mt_removeT hr.units) (pe_dget (hu_of hr) (pe_fld (pv 0) rfl) (pv 2) (fun _ _ => rfl)) (pa_cons (pv 1) pa_nil)))
      (Evl.pss_cut (ps_if (pt_cmpR op_eq (pe_callB call_len_seq (by rfl) B.m_len PySem.boot_len (pa_cons (pe_dget (hu_of hr) (pe_fld (pv 0) rfl) (pv 2) (fun _ _ => rfl)) pa_nil)) pe_int (nomark _)) (pss_one (ps_expr (pe_mcal (pv 0) RG.cl m__end hr (by decide) pass0 (pa_cons (pe_cal c_least_form hr (by decide) (passes_call (takes_of rfl rfl rfl rfl) fun _ _ _ _ h => h) (pa_cons (pv 1) pa_nil)) pa_nil)))) pss_nil)
      (pss_one (ps_ret (pv 2))))))), ?_⟩
    refine ⟨_, rfl, p, dx, _, rfl, hb.hp, bf_no _ _ _ (by decide +kernel) (by decide +kernel) (by decide +kernel), _, rfl, p, dx, d1, d2, nx, es, v, b, rfl, hb, hv, hno, fun l e1 e2 hl r H1 hR k1 => ?_⟩
    obtain ⟨q0, q1⟩ := hyes l e1 e2 hl
    subst e2
    have hb1 := hb.same k1
    cases hR with
    | no h =>
      refine ⟨_, rfl, rfl, true, by simp, iteT ?_⟩
      exact ⟨(show 1 ≤ sizeLine by decide), q0 (fun e he hle => h e he ((hP.ws e he).2.2 l hle).2.symm) H1 k1⟩
    | @yes i e h1 h2 =>
      refine ⟨_, rfl, rfl, false, by simp, iteF ?_⟩
      have hL := hb1.hl i e h1
      have hem := List.mem_of_getElem? h1
      have hwl := hws e hem
      have hdg : DGet H1 d2 (.int (e.n : Nat)) (some (.ref e.a)) := .inl ⟨wrdK es, .inl ((e.n : Nat) : Int), .inl hb1.h2, rfl, (wrd_get hP.nu h1).symm⟩
      refine ⟨_, rfl, _, rfl, p, C, dx, _, .ref d2, rfl, hb1.hp, RG.cl, RG.n3, bf_words _ _ _, _, rfl, d2, .ref e.a, rfl, hdg, e.a, l, e.ws, rfl, rfl, SqL.of hL, ?_⟩
      by_cases g : l ∈ e.ws
      · refine ⟨false, by simp [g], iteF ?_⟩
        refine ⟨_, rfl, p, C, dx, _, .ref d2, rfl, hb1.hp, RG.cl, RG.n3, bf_words _ _ _, _, rfl, d2, .ref e.a, rfl, hdg, .inl ⟨rfl, _, SqL.of hL⟩, _, rfl, e.a, l, e.ws, rfl, rfl, hL, g, ?_⟩
        have hb2 := hb1.set h1 (e.ws.erase l)
        have f2 : Fr (p :: d1 :: d2 :: es.map Ent.a) H (upd H1 e.a (.lst (tvs (e.ws.erase l)))) := Fr.put (Fr.of k1) (by simp; exact .inr (.inr (.inr ⟨e, hem, rfl⟩)))
        generalize upd H1 e.a (.lst (tvs (e.ws.erase l))) = H2 at *
        have hlt : i < es.length := (List.getElem?_eq_some_iff.mp h1).1
        have hat : (es.set i { e with ws := e.ws.erase l })[i]? = some { e with ws := e.ws.erase l } := by
          rw [List.getElem?_set, if_pos rfl, if_pos hlt]
        have hnu2 : (es.set i { e with ws := e.ws.erase l }).Pairwise fun e x => e.n < x.n := by
          have hm : (es.set i { e with ws := e.ws.erase l }).map Ent.n = es.map Ent.n := set_map (e := e) (by rfl) h1
          have h0 : (es.map Ent.n).Pairwise (· < ·) := List.pairwise_map.mpr hP.nu
          rw [← hm] at h0
          exact List.pairwise_map.mp h0
        have hfu2 : ∀ (a b : Nat) (y z : Ent), (es.set i { e with ws := e.ws.erase l })[a]? = some y → (es.set i { e with ws := e.ws.erase l })[b]? = some z → y.f = z.f → a = b := fun a b y z hy hz hyz => by
          have key : ∀ (a : Nat) (y : Ent), (es.set i { e with ws := e.ws.erase l })[a]? = some y → ∃ y', es[a]? = some y' ∧ y'.f = y.f := fun a y hy => by
            rcases set_at hy with ⟨rfl, rfl⟩ | ⟨_, h⟩
            · exact ⟨e, h1, rfl⟩
            · exact ⟨y, h, rfl⟩
          obtain ⟨y', m1, m2⟩ := key a y hy
          obtain ⟨z', m3, m4⟩ := key b z hz
          exact hP.fu a b y' z' m1 m3 (by rw [m2, m4]; exact hyz)
        have hL2 := hb2.hl i _ hat
        have hdg2 : DGet H2 d2 (.int (e.n : Nat)) (some (.ref e.a)) := .inl ⟨wrdK _, .inl ((e.n : Nat) : Int), .inl hb2.h2, rfl, (wrd_get (e := { e with ws := e.ws.erase l }) hnu2 hat).symm⟩
        refine ⟨fun σ' H' => σ' = [some (.ref p), some (tv l), some (.int (e.n : Nat))] ∧ BkH C H' p dx d1 d2 nx (takeE es i e l) ∧ Fr (p :: d1 :: d2 :: es.map Ent.a) H H', ?_, ?_⟩
        · refine ⟨_, rfl, p, C, dx, _, .ref d2, rfl, hb2.hp, RG.cl, RG.n3, bf_words _ _ _, _, rfl, d2, .ref e.a, rfl, hdg2, e.a, tvs (e.ws.erase l), rfl, .inl (SqL.of hL2), rfl, _, rfl, ite2 (fun g2 => ?_) (fun g2 => ?_)⟩
          · have g2 : V.int ((tvs (e.ws.erase l)).length : Nat) = V.int 0 := of_decide_eq_true g2
            have g3 : e.ws.erase l = [] := by
              have := V.int.inj g2
              rw [List.length_map] at this
              exact List.length_eq_zero_iff.mp (by omega)
            refine ⟨_, rfl, p, dx, _, rfl, hb2.hp, bf_no _ _ _ (by decide +kernel) (by decide +kernel) (by decide +kernel), _, rfl, tv l, true, [], rfl, rfl, .word hl, (fun e => nomatch e), fun l' _ el _ H3 k3 => ?_⟩
            cases tv_inj el
            refine ⟨p, dx, d1, d2, nx, _, i, { e with ws := e.ws.erase l }, by rw [← h2]; rfl, hb2.same k3, hfu2, hnu2, hat, fun H4 hb4 f4 => ?_⟩
            refine ⟨rfl, ?_, (f2.trans (Fr.of k3)).trans (f4.mono fun a h => ?_)⟩
            · unfold takeE
              rw [if_pos g3]
              have ee : (es.set i { e with ws := e.ws.erase l }).eraseIdx i = es.eraseIdx i := by
                rw [List.eraseIdx_set_eq]
              rw [ee] at hb4
              exact hb4
            · simp only [List.mem_cons, List.not_mem_nil, or_false] at h ⊢
              rcases h with h | h | h
              · exact .inl h
              · exact .inr (.inl h)
              · exact .inr (.inr (.inl h))
          · have g2 : ¬ V.int ((tvs (e.ws.erase l)).length : Nat) = V.int 0 := of_decide_eq_false (by simpa using g2)
            have g3 : ¬ e.ws.erase l = [] := fun z => g2 (by rw [z]; rfl)
            refine ⟨rfl, ?_, f2⟩
            unfold takeE
            rw [if_neg g3]
            exact hb2
        · rintro σ' H3 ⟨rfl, hb3, f3⟩
          exact ⟨_, rfl, q1 i e H3 h1 g hb3 f3⟩
      · refine ⟨true, by simp [g], iteT ?_⟩
        refine ⟨(show 1 ≤ sizeLine by decide), q0 (fun x hx hlx => ?_) H1 k1⟩
        obtain ⟨j, hj, ej⟩ := List.getElem_of_mem hx
        have hxj : es[j]? = some x := by rw [List.getElem?_eq_getElem hj, ej]
        have hxf := ((hP.ws x hx).2.2 l hlx).2
        have := hP.fu i j e x h1 hxj (by rw [h2, hxf])
        subst this
        rw [h1] at hxj
        cases hxj
        exact g hlx
end
end Rk
namespace Rw
open PySem PySem.Spec PyProof.Rows L2
/-! a method called within try -/
def tMethS (C : Addr) (m : Str) (sp : Sp) (E : L2.St → XK) (ta : TE) (t : TA) : TE := fun σ H Q => ta σ H fun x H1 => ∃ a dx fs, x = .ref a ∧ H1 a = some (.ins C dx fs) ∧ fs.lookup m = none ∧ t σ H1 fun vs H2 => sp (x :: vs) H2 Q (E σ)
section
variable {X : Cx} {CX : CXT} {k j : Nat} {sp : Sp} {E : L2.St → XK} {C : Addr} {m x : Str} {o e : Expr} {es : List Expr} {ta : TE} {t : TA} {apos pos p : Pos}
theorem pe_mcalS {pl : Sem Bool} (he : PE X o ta) (c : Cls X.K C) (M : MCal CX X.prog X.w X.K X.mg X.base k C m sp) (hr : Room j X.A) (hk : k ≤ j) (hx : ∀ σ, PassesAt CX X σ (E σ)) (ha : PA X (e :: es) t)
    (hst : starEach (e :: es) X.env = (false, eval e X.env) :: starEach es X.env := by rfl) (hpl : (backTo pos (starEach es X.env)).any (·.1) = false := by rfl)
    (ht : eval (.Call (.Attribute o m apos) (e :: es) [] pos) X.env = (do
      let ov ← eval o X.env
      standAt apos.atName
      let (f, first) ← holding [ov] (getMethod ov m pl)
      callWith pos f first (backTo pos (starEach (e :: es) X.env)) (backToKw pos (keywordEach [] X.env))) := by rfl) :
    PE X (.Call (.Attribute o m apos) (e :: es) [] pos) (tMethS C m sp E ta t) := by
  refine ⟨fun pins s σ H Q I h => ?_⟩
  obtain ⟨f, fd, ps, F, hm, hb⟩ := M
  refine PySem.W.methodCall_KW (pl := pl) (thn (he.run pins s σ H _ I h) fun u s1 ⟨x, H1, I1, rx, a, dx, fs, ex, ea, l, q⟩ => ?_) ht
  subst ex
  obtain rfl : u = Value.ref a := rx
  refine getmeth_ok I1 ea c hm l ?_
  refine PySem.W.callWith_K (first := [.ref a]) (h₀ := X.base) I.ok.mod.kin hm.kp (thn (ha.run pos pins s1 σ H1 _ I1 q) fun us s2 ⟨vs, H2, I2, r, q2⟩ => ⟨I2.kIn, ?_⟩) hst hpl
  exact run_fnS (us := .ref a :: us) (vs := .ref a :: vs) F (hr.mono hk) hb (hx σ) I2 (.cons rfl r) q2
end
end Rw
namespace Rk
open PySem PySem.Spec PyProof.Rows L2 Rw
abbrev s_l_cell_at : Stmt := topS 18
abbrev n_l_cell_at : List Str := ["_law_script", "_law_k"]
abbrev p_l_cell_at : List Str := ["_law_script", "_law_k"]
theorem sc_l_cell_at : FnScope n_l_cell_at p_l_cell_at (defScope s_l_cell_at) := ⟨rfl, rfl, rfl, by decide +kernel, rfl, by decide +kernel, by decide +kernel⟩
abbrev s_l_mixed : Stmt := topS 19
abbrev n_l_mixed : List Str := ["_law_cell", "_law_k", "_law_mix"]
abbrev p_l_mixed : List Str := ["_law_cell", "_law_k"]
theorem sc_l_mixed : FnScope n_l_mixed p_l_mixed (defScope s_l_mixed) := ⟨rfl, rfl, rfl, by decide +kernel, rfl, by decide +kernel, by decide +kernel⟩
section
variable {P : Program} {w : World} {K : PySem.W.Frag} {mg : Str → Option Value} {base : Heap} (B : Bt mg)
theorem ok_mixed (D : Dfn K mg "_law_mixed" s_l_mixed p_l_mixed) : Cal CX0 P w K mg base 1 "_law_mixed" spMixed := by
  refine D.cal fun f fd F => F.ok sc_l_mixed (fun vs H Q E h => ?_) (fun cdv A outer s H vs Q E hr h => ?_)
  · obtain ⟨c, k, rfl, _⟩ := h
    rfl
  · obtain ⟨c, k, rfl, q⟩ := h
    refine ⟨_, (pss_cons (ps_set (i := 2) sc_l_mixed.nd rfl (Or.inl rfl) (pe_op op_mod (pe_op op_mul (pe_op op_add (pe_op op_add (pv 0) (pe_op op_mul pe_int (pv 1))) pe_int) pe_int) pe_int))
      (pss_one (ps_ret (pe_op op_mod (pe_op op_add (pe_op op_mul (pv 2) (pv 2)) (pe_op op_mul pe_int (pv 2))) pe_int)))), ?_⟩
    refine ⟨_, rfl, _, rfl, 7919, k, rfl, rfl, .inl ⟨by decide, by decide⟩, _, _, rfl, rfl, _, _, rfl, rfl, _, _, rfl, rfl, .inr ⟨by decide, by decide⟩, _, _, rfl, rfl, (by decide : (0 : Int) < 2147483647), ?_⟩
    refine ⟨_, rfl, _, rfl, _, _, rfl, rfl, .inl ⟨by omega, by omega⟩, _, rfl, _, _, rfl, rfl, .inl ⟨by decide, by decide⟩, _, _, rfl, rfl, _, _, rfl, rfl, (by decide : (0 : Int) < 2147483399), ?_⟩
    exact q _ (Int.emod_nonneg _ (by decide)) (Int.emod_lt_of_pos _ (by decide))
include B
theorem ok_cell (D : Dfn K mg "_law_cell_at" s_l_cell_at p_l_cell_at) : Cal CX0 P w K mg base 1 "_law_cell_at" (spCellAt K) := by
  refine D.cal fun f fd F => F.ok sc_l_cell_at (fun vs H Q E h => ?_) (fun cdv A outer s H vs Q E hr h => ?_)
  · obtain ⟨a, ns, k, rfl, _⟩ := h
    rfl
  · obtain ⟨a, ns, k, rfl, hs, h0, h1, q⟩ := h
    refine ⟨_, (pss_cons (ps_if (pt_cmpR op_lt (pv 1) (pe_callB call_len_seq (by rfl) B.m_len PySem.boot_len (pa_cons (pv 0) pa_nil)) (nomark _)) (pss_one (ps_ret (pe_ix ix_list (pv 0) (pv 1) (fun _ _ => rfl)))) pss_nil)
      (pss_one (ps_ret (pe_op op_mul (pe_op op_mul (pe_op op_add (pv 1) pe_int) (pe_op op_add (pv 1) pe_int)) pe_int)))), ?_⟩
    refine ⟨_, rfl, _, rfl, a, _, rfl, .inl hs, k, _, rfl, rfl, _, rfl, ite2 (fun h => ?_) (fun h => ?_)⟩
    · have h := of_decide_eq_true h
      rw [List.length_map] at h
      obtain ⟨j, rfl⟩ : ∃ j : Nat, k = (j : Int) := ⟨k.toNat, by omega⟩
      have hj : j < ns.length := by omega
      refine ⟨_, rfl, _, rfl, a, _, _, .int ns[j], rfl, rfl, hs, atI_nat ?_, q _⟩
      rw [List.getElem?_map, List.getElem?_eq_getElem hj]
      rfl
    · refine ⟨_, rfl, k, 3, rfl, rfl, _, rfl, k, 7, rfl, rfl, _, _, rfl, rfl, .inl ⟨by omega, by omega⟩, _, _, rfl, rfl, .inr ⟨by decide, by decide⟩, q _⟩
end
end Rk
namespace Rw
open PySem PySem.Spec PyProof.Rows L2
/-- what the law's mixing tells -/
def mixF (c k : Int) : Int := ((c + 7919 * k + 11) * 48271 % 2147483647 * ((c + 7919 * k + 11) * 48271 % 2147483647) + 40692 * ((c + 7919 * k + 11) * 48271 % 2147483647)) % 2147483399
theorem mixF_lo (c k : Int) : 0 ≤ mixF c k := Int.emod_nonneg _ (by decide)
theorem mixF_hi (c k : Int) : mixF c k < 2147483399 := Int.emod_lt_of_pos _ (by decide)
def spMixF : Sp := fun vs H Q _ => ∃ c k : Int, vs = [.int c, .int k] ∧ Q (.int (mixF c k)) H
end Rw
namespace Rk
open PySem PySem.Spec PyProof.Rows L2 Rw
section
variable {P : Program} {w : World} {K : PySem.W.Frag} {mg : Str → Option Value} {base : Heap}
theorem ok_mixF (D : Dfn K mg "_law_mixed" s_l_mixed p_l_mixed) : Cal CX0 P w K mg base 1 "_law_mixed" spMixF := by
  refine D.cal fun f fd F => F.ok sc_l_mixed (fun vs H Q E h => ?_) (fun cdv A outer s H vs Q E hr h => ?_)
  · obtain ⟨c, k, rfl, _⟩ := h
    rfl
  · obtain ⟨c, k, rfl, q⟩ := h
    refine ⟨_, (pss_cons (ps_set (i := 2) sc_l_mixed.nd rfl (Or.inl rfl) (pe_op op_mod (pe_op op_mul (pe_op op_add (pe_op op_add (pv 0) (pe_op op_mul pe_int (pv 1))) pe_int) pe_int) pe_int))
      (pss_one (ps_ret (pe_op op_mod (pe_op op_add (pe_op op_mul (pv 2) (pv 2)) (pe_op op_mul pe_int (pv 2))) pe_int)))), ?_⟩
    refine ⟨_, rfl, _, rfl, 7919, k, rfl, rfl, .inl ⟨by decide, by decide⟩, _, _, rfl, rfl, _, _, rfl, rfl, _, _, rfl, rfl, .inr ⟨by decide, by decide⟩, _, _, rfl, rfl, (by decide : (0 : Int) < 2147483647), ?_⟩
    refine ⟨_, rfl, _, rfl, _, _, rfl, rfl, .inl ⟨by omega, by omega⟩, _, rfl, _, _, rfl, rfl, .inl ⟨by decide, by decide⟩, _, _, rfl, rfl, _, _, rfl, rfl, (by decide : (0 : Int) < 2147483399), ?_⟩
    exact q
end
end Rk
namespace Rk
open PySem PySem.Spec PyProof.Rows L2 Rw
abbrev s_l_turnings : Stmt := topS 22
abbrev n_l_turnings : List Str := ["_law_word", "_law_k"]
abbrev p_l_turnings : List Str := ["_law_word"]
theorem sc_l_turnings : FnScope n_l_turnings p_l_turnings (defScope s_l_turnings) := ⟨rfl, rfl, rfl, by decide +kernel, rfl, by decide +kernel, by decide +kernel⟩
section
variable {P : Program} {w : World} {K : PySem.W.Frag} {mg : Str → Option Value} {base : Heap} (B : Bt mg)
include B
theorem ok_lturnings (D : Dfn K mg "_law_turnings" s_l_turnings p_l_turnings) : Cal CX0 P w K mg base 1 "_law_turnings" spLTurnings := by
  refine D.cal fun f fd F => F.ok sc_l_turnings (fun vs H Q E h => ?_) (fun cdv A outer s H vs Q E hr h => ?_)
  · obtain ⟨l, rfl, _⟩ := h
    rfl
  · obtain ⟨l, rfl, hn, q⟩ := h
    refine ⟨_, (pss_one (ps_ret (pe_lc (own := [("_law_k", 1)]) rfl sc_l_turnings.nd (pi_range1 (by rfl) B.m_range (pa_cons (pe_callB call_lenT (by rfl) B.m_len PySem.boot_len (pa_cons (pv 0) pa_nil)) pa_nil)) (blkOk_by (own := [("_law_k", 1)]) (N := n_l_turnings) (sc := defScope s_l_turnings) (by decide +kernel)) (fun _ _ _ _ _ => (pg_name (i := 1) sc_l_turnings.nd rfl (Or.inl rfl))) (fun _ _ _ _ _ => pts_nil) (fun _ _ _ _ _ => (pe_op op_addT (pe_slice sl_T (pv 0) (po_some (pv 1)) po_none) (pe_slice sl_T (pv 0) po_none (po_some (pv 1)))))))), ?_⟩
    refine ⟨_, rfl, l, rfl, by omega, _, rfl, by omega, by omega, fun Dl hD => ?_⟩
    refine lc_it walk_range (LcP H Dl fun i acc => acc = tvs ((List.range i).map (turn l))) (lcp_start hD rfl) (fun _ _ _ _ => trivial) ?_ ?_
    · rintro i x H2 H2' hi ⟨_, acc, e, hD2, hlen, rfl⟩ ⟨rfl, rfl⟩
      have hi : i < l.length := hi
      refine ⟨rfl, keepAll ?_⟩
      refine ⟨_, rfl, _, rfl, _, rfl, l, rfl, by omega, _, rfl, _, rfl, _, rfl, l, rfl, by omega, _, _, rfl, rfl, cut_le l _ hn, ?_⟩
      refine lcp_put hD e hD2 hlen (by omega) (Same.refl _) ?_
      rw [turn_step, cut_turn]
    · rintro H2 ⟨_, acc, e, hD2, _, rfl⟩
      exact q Dl H2 hD e hD2
end
end Rk
namespace Rw
open PySem PySem.Spec PyProof.Rows L2
def csOf (a b c d e f : Addr) : Nat → Addr
  | 0 => a
  | 1 => b
  | 2 => c
  | 3 => d
  | 4 => e
  | _ => f
/-- where the six classes stand, and the one above them -/
structure Cls6 (mg : Str → Option Value) (cW : Addr) (cs : Nat → Addr) : Prop where
  g_WordError : mg "WordError" = some (.ref cW)
  g_NoWord : mg "NoWord" = some (.ref (cs 0))
  g_NoSigns : mg "NoSigns" = some (.ref (cs 1))
  g_NoCount : mg "NoCount" = some (.ref (cs 2))
  g_TooMany : mg "TooMany" = some (.ref (cs 3))
  g_NoRing : mg "NoRing" = some (.ref (cs 4))
  g_Twice : mg "Twice" = some (.ref (cs 5))
/-- the j-th of them, as isinstance and except ask it -/
structure ErJ (K : PySem.W.Frag) (cW : Addr) (cs : Nat → Addr) (j : Nat) : Prop where
  e : ExcC K (cs j)
  i : ∀ k, k < 6 → PySem.W.kitOne K (.ref (cs j)) (.ref (cs k)) = some (decide (k = j))
  i_V : PySem.W.kitOne K (.ref (cs j)) (.type "ValueError") = some true
  i_W : PySem.W.kitOne K (.ref (cs j)) (.ref cW) = some true
  x_W : PySem.W.exmOne K (.ref (cs j)) (.ref cW) = some true
/-- what is none of them -/
structure KOth (K : PySem.W.Frag) (cW : Addr) : Prop where
  str : PySem.W.kitOne K (.type "str") (.ref cW) = some false
  non : PySem.W.kitOne K (.type "NoneType") (.ref cW) = some false
  lst : PySem.W.kitOne K (.type "list") (.ref cW) = some false
  int : PySem.W.kitOne K (.type "int") (.ref cW) = some false
theorem kit_up {K : PySem.W.Frag} {C D : Addr} (hd : PySem.W.hasDictIn K D = true) (ht : PySem.W.typeIn K (.ref D) = some (.type "type")) (h : PySem.W.subIn K (.ref C) (.ref D) = some true) : PySem.W.kitOne K (.ref C) (.ref D) = some true := by
  unfold PySem.W.kitOne
  split
  · rfl
  · obtain ⟨cd, hc, _⟩ := PySem.W.any_some hd
    have e2 : ((PySem.W.clsIn K D).isSome && PySem.W.typeIn K (.ref D) == some (.type "type")) = true := by rw [hc, ht] <;> rfl
    show (if _ = true then PySem.W.subIn K (.ref C) (.ref D) else none) = some true
    rw [if_pos e2]
    exact h
theorem kit_no {K : PySem.W.Frag} {t : String} {D : Addr} (hd : PySem.W.hasDictIn K D = true) (ht : PySem.W.typeIn K (.ref D) = some (.type "type")) (h : PySem.W.subIn K (.type t) (.ref D) = some false) : PySem.W.kitOne K (.type t) (.ref D) = some false := by
  unfold PySem.W.kitOne
  rw [if_neg (by intro e; cases (beq_iff_eq.mp e))]
  obtain ⟨cd, hc, _⟩ := PySem.W.any_some hd
  have e2 : ((PySem.W.clsIn K D).isSome && PySem.W.typeIn K (.ref D) == some (.type "type")) = true := by rw [hc, ht] <;> rfl
  show (if _ = true then PySem.W.subIn K (.type t) (.ref D) else none) = some false
  rw [if_pos e2]
  exact h
def markT : Nat → List Nat
  | 0 => [119, 111, 114, 100]
  | 1 => [115, 105, 103, 110, 115]
  | 2 => [99, 111, 117, 110, 116]
  | 3 => [109, 97, 110, 121]
  | 4 => [114, 105, 110, 103]
  | _ => [116, 119, 105, 99, 101]
def spMarkJ (K : PySem.W.Frag) (cW : Addr) (cs : Nat → Addr) : Sp := fun vs H Q _ => ∃ (a : Addr) (j : Nat), vs = [.ref a] ∧ j < 6 ∧ ErJ K cW cs j ∧ H a = some (ExV (.ref (cs j)) a) ∧ ∀ H', Same H H' → Q (tv (markT j)) H'
theorem six {p : Nat → Prop} (h0 : p 0) (h1 : p 1) (h2 : p 2) (h3 : p 3) (h4 : p 4) (h5 : p 5) : ∀ j, j < 6 → p j
  | 0, _ => h0
  | 1, _ => h1
  | 2, _ => h2
  | 3, _ => h3
  | 4, _ => h4
  | 5, _ => h5
  | n + 6, h => absurd h (by omega)
end Rw
namespace Rk
open PySem PySem.Spec PyProof.Rows L2 Rw
abbrev s_l_mark : Stmt := topS 24
abbrev n_l_mark : List Str := ["_law_e", "_law_some"]
abbrev p_l_mark : List Str := ["_law_e"]
theorem sc_l_mark : FnScope n_l_mark p_l_mark (defScope s_l_mark) := ⟨rfl, rfl, rfl, by decide +kernel, rfl, by decide +kernel, by decide +kernel⟩
section
variable {P : Program} {w : World} {K : PySem.W.Frag} {mg : Str → Option Value} {base : Heap} {cW : Addr} {cs : Nat → Addr} (B : Bt mg) (R : Cls6 mg cW cs)
include B R
theorem ok_markJ (D : Dfn K mg "_law_mark" s_l_mark p_l_mark) : Cal CX0 P w K mg base 1 "_law_mark" (spMarkJ K cW cs) := by
  refine D.cal fun f fd F => F.ok sc_l_mark (fun vs H Q E h => ?_) (fun cdv A outer s H vs Q E hr h => ?_)
  · obtain ⟨a, j, rfl, _⟩ := h
    rfl
  · obtain ⟨a, j, rfl, hj, J, ha, q⟩ := h
    refine ⟨_, (pss_cons (ps_set (i := 1) sc_l_mark.nd rfl (Or.inl rfl) (pe_lst (pa_cons (pe_callB call_isX (by rfl) B.m_isinstance (by decide +kernel) (pa_cons (pv 0) (pa_cons (pe_gr rfl R.g_NoWord) pa_nil))) (pa_cons (pe_callB call_isX (by rfl) B.m_isinstance (by decide +kernel) (pa_cons (pv 0) (pa_cons (pe_gr rfl R.g_NoSigns) pa_nil))) (pa_cons (pe_callB call_isX (by rfl) B.m_isinstance (by decide +kernel) (pa_cons (pv 0) (pa_cons (pe_gr rfl R.g_NoCount) pa_nil))) (pa_cons (pe_callB call_isX (by rfl) B.m_isinstance (by decide +kernel) (pa_cons (pv 0) (pa_cons (pe_gr rfl R.g_TooMany) pa_nil))) pa_nil))))))
      (pss_cons (ps_set (i := 1) sc_l_mark.nd rfl (Or.inl rfl) (pe_op op_cat (pv 1) (pe_lst (pa_cons (pe_callB call_isX (by rfl) B.m_isinstance (by decide +kernel) (pa_cons (pv 0) (pa_cons (pe_gr rfl R.g_NoRing) pa_nil))) (pa_cons (pe_callB call_isX (by rfl) B.m_isinstance (by decide +kernel) (pa_cons (pv 0) (pa_cons (pe_gr rfl R.g_Twice) pa_nil))) pa_nil)))))
      (pss_cons (ps_if (PW.pt (pw_or (pt_cmpR op_ne (pe_bm PySem.F.plainAttrs_list PySem.F.slot_list_count PySem.F.type_list_count mt_countB (pv 1) (pa_cons pe_bl pa_nil)) pe_int (nomark _)) (pw_or1 (pt_not (pt_val (pe_callB call_isX (by rfl) B.m_isinstance (by decide +kernel) (pa_cons (pv 0) (pa_cons (pe_bltn (v := .ty "ValueError") (u := .type "ValueError") rfl B.m_ValueError (by decide +kernel) rfl) pa_nil)))))))) (pss_one (ps_ret pe_str)) pss_nil)
      (pss_one (ps_ret (pe_ix ix_list (pe_lst (pa_cons pe_str (pa_cons pe_str (pa_cons pe_str (pa_cons pe_str (pa_cons pe_str (pa_cons pe_str pa_nil))))))) (pe_bm PySem.F.plainAttrs_list PySem.F.slot_list_index PySem.F.type_list_index mt_index (pv 1) (pa_cons pe_bl pa_nil)) (fun _ _ => rfl))))))), ?_⟩
    refine ⟨_, rfl, a, cs j, _, .ref (cs 0), _, rfl, ha, J.e, (fun u h => h), J.i 0 (by decide), ?_⟩
    refine ⟨_, rfl, a, cs j, _, .ref (cs 1), _, rfl, ha, J.e, (fun u h => h), J.i 1 (by decide), ?_⟩
    refine ⟨_, rfl, a, cs j, _, .ref (cs 2), _, rfl, ha, J.e, (fun u h => h), J.i 2 (by decide), ?_⟩
    refine ⟨_, rfl, a, cs j, _, .ref (cs 3), _, rfl, ha, J.e, (fun u h => h), J.i 3 (by decide), ?_⟩
    refine ⟨(show 4 ≤ sizeLine by decide), fun p1 n1 => ?_⟩
    have k1 := same_upd (o := .lst [V.bl (decide (0 = j)), V.bl (decide (1 = j)), V.bl (decide (2 = j)), V.bl (decide (3 = j))]) n1
    refine ⟨_, rfl, ?_⟩
    refine ⟨_, rfl, a, cs j, _, .ref (cs 4), _, rfl, (k1 _ _ ha), J.e, (fun u h => h), J.i 4 (by decide), ?_⟩
    refine ⟨_, rfl, a, cs j, _, .ref (cs 5), _, rfl, (k1 _ _ ha), J.e, (fun u h => h), J.i 5 (by decide), ?_⟩
    refine ⟨(show 2 ≤ sizeLine by decide), fun p2 n2 => ?_⟩
    have k2 := same_upd (o := .lst [V.bl (decide (4 = j)), V.bl (decide (5 = j))]) n2
    refine ⟨p1, p2, _, _, rfl, rfl, k2 _ _ upd_same, upd_same, (show 4 + 2 ≤ sizeLine by decide), fun p3 n3 => ?_⟩
    generalize hL : ([V.bl (decide (0 = j)), V.bl (decide (1 = j)), V.bl (decide (2 = j)), V.bl (decide (3 = j))] ++ [V.bl (decide (4 = j)), V.bl (decide (5 = j))] : List V) = L
    have hB : L = ([decide (0 = j), decide (1 = j), decide (2 = j), decide (3 = j), decide (4 = j), decide (5 = j)] : List Bool).map V.bl := by rw [← hL]; rfl
    have k3 := same_upd (o := .lst L) n3
    have kk := (k1.trans k2).trans k3
    have hc : ([decide (0 = j), decide (1 = j), decide (2 = j), decide (3 = j), decide (4 = j), decide (5 = j)] : List Bool).count true = 1 := six (p := fun j => ([decide (0 = j), decide (1 = j), decide (2 = j), decide (3 = j), decide (4 = j), decide (5 = j)] : List Bool).count true = 1) rfl rfl rfl rfl rfl rfl j hj
    refine ⟨_, rfl, .inl ⟨rfl, _, SqL.of upd_same⟩, p3, _, rfl, rfl, SqL.of (by rw [upd_same, hB]), rfl, _, rfl, ?_⟩
    rw [hc]
    refine iteF ?_
    refine ⟨_, rfl, a, cs j, _, .type "ValueError", true, rfl, kk _ _ ha, J.e, (fun u h => h), J.i_V, true, rfl, ?_⟩
    refine iteF ?_
    refine ⟨(show 6 ≤ sizeLine by decide), fun p4 n4 => ?_⟩
    have k4 := same_upd (o := .lst [V.str "word", V.str "signs", V.str "count", V.str "many", V.str "ring", V.str "twice"]) n4
    have f1 : L.all flatV = true := by
      rw [hB, List.all_map]
      exact List.all_eq_true.mpr fun _ _ => rfl
    have f2 : L[j]? = some (.bl true) := by
      rw [hB]
      exact six (p := fun j => (([decide (0 = j), decide (1 = j), decide (2 = j), decide (3 = j), decide (4 = j), decide (5 = j)] : List Bool).map V.bl)[j]? = some (.bl true)) rfl rfl rfl rfl rfl rfl j hj
    have f3 : ∀ (m : Nat) (z : V), m < j → L[m]? = some z → eqV z (.bl true) = false := by
      intro m z hm hz
      have hb : ([decide (0 = j), decide (1 = j), decide (2 = j), decide (3 = j), decide (4 = j), decide (5 = j)] : List Bool)[m]? = some (decide (m = j)) := six (p := fun m => ([decide (0 = j), decide (1 = j), decide (2 = j), decide (3 = j), decide (4 = j), decide (5 = j)] : List Bool)[m]? = some (decide (m = j))) rfl rfl rfl rfl rfl rfl m (by omega)
      rw [hB, List.getElem?_map, hb] at hz
      have : V.bl (decide (m = j)) = z := Option.some.inj hz
      rw [← this, decide_eq_false (by omega)]
      rfl
    refine ⟨_, rfl, .inl ⟨rfl, _, SqL.of (k4 _ _ upd_same)⟩, p3, L, .bl true, j, .bl true, rfl, rfl, SqL.of (k4 _ _ upd_same), rfl, f1, f2, rfl, f3, ?_⟩
    refine ⟨p4, _, _, tv (markT j), rfl, rfl, SqL.of upd_same, atI_nat ?_, ?_⟩
    · exact six (p := fun j => ([V.str "word", V.str "signs", V.str "count", V.str "many", V.str "ring", V.str "twice"] : List V)[j]? = some (tv (markT j))) (by decide +kernel) (by decide +kernel) (by decide +kernel) (by decide +kernel) (by decide +kernel) (by decide +kernel) j hj
    · exact q _ (kk.trans k4)
end
end Rk
namespace Rw
open PySem PySem.Spec PyProof.Rows L2
/-- what the book tells, by the way it is asked -/
def Told (C : Addr) (H : Hp) (p dx d1 d2 : Addr) (nx : Nat) (es : List Ent) (l : List Nat) (Q : VK) : Nat → Prop
  | 0 => (∀ (i : Nat) (e : Ent), es[i]? = some e → e.f = minT (turns l) → l ∈ e.ws → ∀ H', Same H H' → Q (tv (markT 5)) H') ∧
    (∀ (es' : List Ent) (nx' num : Nat) (H' : Hp), AddOut H es nx l es' nx' num → BkH C H' p dx d1 d2 nx' es' → Fr (p :: d1 :: d2 :: es.map Ent.a) H H' → Q (.int (num : Nat)) H')
  | 1 => ((∀ e ∈ es, l ∉ e.ws) → ∀ H', Same H H' → Q (tv (markT 4)) H') ∧
    (∀ (i : Nat) (e : Ent) (H' : Hp), es[i]? = some e → l ∈ e.ws → BkH C H' p dx d1 d2 nx (takeE es i e l) → Fr (p :: d1 :: d2 :: es.map Ent.a) H H' → Q (.int (e.n : Nat)) H')
  | 2 => ∀ r H', RingOut es (minT (turns l)) r → Same H H' → Q r H'
  | _ => ((∀ e ∈ es, e.f ≠ minT (turns l)) → newT [] H Q) ∧ (∀ (i : Nat) (e : Ent), es[i]? = some e → e.f = minT (turns l) → newT (e.ws.filter fun o => !decide (o = l)) H Q)
def spTold12 (K : PySem.W.Frag) (C : Addr) : Sp := fun vs H Q _ => ∃ (p dx d1 d2 : Addr) (nx : Nat) (es : List Ent) (way : Nat) (v : V), vs = [.ref p, .int (way : Nat), v] ∧ BkH C H p dx d1 d2 nx es ∧ BkP nx es ∧ es.length ≤ 1000 ∧ (∀ e ∈ es, e.ws.length ≤ 1000) ∧
  ((way < 4 ∧ ∃ b, Th K H v b ∧ (b = false → ∀ H', Same H H' → Q (tv (markT 0)) H') ∧ (∀ l, b = true → v = tv l → Wd l → Told C H p dx d1 d2 nx es l Q way)) ∨
   (way = 4 ∧ ∃ n : Int, v = .int n ∧ ((∀ e ∈ es, ((e.n : Nat) : Int) ≠ n) → ∀ H', Same H H' → Q (tv (markT 4)) H') ∧ (∀ (i : Nat) (e : Ent), es[i]? = some e → ((e.n : Nat) : Int) = n → newT e.ws H Q)))
end Rw
namespace Rk
open PySem PySem.Spec PyProof.Rows L2 Rw
abbrev s_l_told : Stmt := topS 27
abbrev n_l_told : List Str := ["_law_book", "_law_way", "_law_thing", "_law_e", "_law_found"]
abbrev p_l_told : List Str := ["_law_book", "_law_way", "_law_thing"]
theorem sc_l_told : FnScope n_l_told p_l_told (defScope s_l_told) := ⟨rfl, rfl, rfl, by decide +kernel, rfl, by decide +kernel, by decide +kernel⟩
section
variable {P : Program} {w : World} {K : PySem.W.Frag} {mg : Str → Option Value} {base : Heap} {C cW : Addr} {cs : Nat → Addr} (B : Bt mg) (RG : RgC K mg C)
include B RG
theorem ok_told12 (R : Cls6 mg cW cs) (KO : KOth K cW) (J0 : ErJ K cW cs 0) (J4 : ErJ K cW cs 4) (J5 : ErJ K cW cs 5) (D : Dfn K mg "_law_told" s_l_told p_l_told) (m_add : MCal (L2.CX P w) P w K mg base 6 C "add" (spAdd K C (cs 0) (cs 5)))
    (m_take : MCal (L2.CX P w) P w K mg base 6 C "take" (spTake K C (cs 0) (cs 4))) (m_ring_of : MCal (L2.CX P w) P w K mg base 5 C "ring_of" (spRingOf K C (cs 0))) (m_others : MCal (L2.CX P w) P w K mg base 6 C "others" (spOthers K C (cs 0)))
    (m_members : MCal (L2.CX P w) P w K mg base 1 C "members" (spMembers K C (cs 4))) (c__law_mark : Cal CX0 P w K mg base 1 "_law_mark" (spMarkJ K cW cs)) : Cal CX0 P w K mg base 7 "_law_told" (spTold12 K C) := by
  refine D.cal fun f fd F => F.ok sc_l_told (fun vs H Q E h => ?_) (fun cdv A outer st H vs Q E hr h => ?_)
  · obtain ⟨p, dx, d1, d2, nx, es, way, v, rfl, _⟩ := h
    rfl
  · obtain ⟨p, dx, d1, d2, nx, es, way, v, rfl, hb, hP, hle, hws, hw⟩ := h
    refine ⟨_, (pss_cons (ps_try_val (i := 3) (j := 4) pss_nil rfl rfl rfl sc_l_told.nd rfl rfl rfl rfl rfl ⟨rfl, by decide, .inl R.g_WordError⟩ rfl rfl rfl (fun W pn xe tk _ => (pss_one (ps_if (pt_cmpR op_eq (pv 1) pe_int (nomark _)) (pss_one (ps_set (i := 4) sc_l_told.nd rfl (Or.inl rfl) (pe_mcalS (pv 0) RG.cl m_add hr (by decide) (fun σ => passAt tk σ) (pa_cons (pv 2) pa_nil)))) (pss_one (ps_if (pt_cmpR op_eq (pv 1) pe_int (nomark _)) (pss_one (ps_set (i := 4) sc_l_told.nd rfl (Or.inl rfl) (pe_mcalS (pv 0) RG.cl m_take hr (by decide) (fun σ => passAt tk σ) (pa_cons (pv 2) pa_nil)))) (pss_one (ps_if (pt_cmpR op_eq (pv 1) pe_int (nomark _)) (pss_one (ps_set (i := 4) sc_l_told.nd rfl (Or.inl rfl) (pe_mcalS (pv 0) RG.cl m_ring_of hr (by decide) (fun σ => passAt tk σ) (pa_cons (pv 2) pa_nil)))) (pss_one (ps_if (pt_cmpR op_eq (pv 1) pe_int (nomark _)) (pss_one (ps_set (i := 4) sc_l_told.nd rfl (Or.inl rfl) (pe_mcalS (pv 0) RG.cl m_others hr (by decide) (fun σ => passAt tk σ) (pa_cons (pv 2) pa_nil)))) (pss_one (ps_set (i := 4) sc_l_told.nd rfl (Or.inl rfl) (pe_mcalS (pv 0) RG.cl m_members hr (by decide) (fun σ => passAt tk σ) (pa_cons (pv 2) pa_nil))))))))))))))
      (pss_cons (ps_if (pt_val (pe_callB call_isE (by rfl) B.m_isinstance (by decide +kernel) (pa_cons (pv 4) (pa_cons (pe_gr rfl R.g_WordError) pa_nil)))) (pss_one (ps_ret (pe_cal c__law_mark hr (by decide) pass0 (pa_cons (pv 4) pa_nil)))) pss_nil)
      (pss_one (ps_ret (pv 4))))), ?_⟩
    rcases hw with ⟨hw4, b, hv, hno, hyes⟩ | ⟨rfl, n, rfl, hno, hyes⟩
    · rcases (by omega : way = 0 ∨ way = 1 ∨ way = 2 ∨ way = 3) with rfl | rfl | rfl | rfl
      · refine ⟨_, rfl, rfl, true, by simp, iteT ?_⟩
        refine ⟨_, rfl, p, dx, _, rfl, hb.hp, bf_no _ _ _ (by decide +kernel) (by decide +kernel) (by decide +kernel), _, rfl, p, dx, d1, d2, nx, es, v, b, rfl, hb, hP, hle, hws, hv, fun hbf H1 e1 => ?_, fun l h1 h2 hl => ⟨fun i e he hf hm H1 e1 => ?_, fun es' nx' num H1 ho hb1 f1 => ?_⟩⟩
        · refine ⟨J0.x_W, rfl, fun a na => ?_⟩
          have k1 := same_upd (o := ExV (.ref (cs 0)) a) na
          refine ⟨_, rfl, _, cW, true, rfl, .inl ⟨a, cs 0, rfl, upd_same, J0.e, J0.i_W⟩, true, rfl, iteT ?_⟩
          exact ⟨_, rfl, a, 0, rfl, by decide, J0, upd_same, fun H2 e2 => hno hbf H2 ((e1.trans k1).trans e2)⟩
        · refine ⟨J5.x_W, rfl, fun a na => ?_⟩
          have k1 := same_upd (o := ExV (.ref (cs 5)) a) na
          refine ⟨_, rfl, _, cW, true, rfl, .inl ⟨a, cs 5, rfl, upd_same, J5.e, J5.i_W⟩, true, rfl, iteT ?_⟩
          exact ⟨_, rfl, a, 5, rfl, by decide, J5, upd_same, fun H2 e2 => (hyes l h1 h2 hl).1 i e he hf hm H2 ((e1.trans k1).trans e2)⟩
        · refine ⟨_, rfl, _, cW, false, rfl, .inr ⟨_, .base (.int _), KO.int⟩, false, rfl, iteF ?_⟩
          exact ⟨_, rfl, (hyes l h1 h2 hl).2 es' nx' num H1 ho hb1 f1⟩
      · refine ⟨_, rfl, rfl, false, by simp, iteF ?_⟩
        refine ⟨_, rfl, rfl, true, by simp, iteT ?_⟩
        refine ⟨_, rfl, p, dx, _, rfl, hb.hp, bf_no _ _ _ (by decide +kernel) (by decide +kernel) (by decide +kernel), _, rfl, p, dx, d1, d2, nx, es, v, b, rfl, hb, hP, hws, hv, fun hbf H1 e1 => ?_, fun l h1 h2 hl => ⟨fun hn H1 e1 => ?_, fun i e H1 he hm hb1 f1 => ?_⟩⟩
        · refine ⟨J0.x_W, rfl, fun a na => ?_⟩
          have k1 := same_upd (o := ExV (.ref (cs 0)) a) na
          refine ⟨_, rfl, _, cW, true, rfl, .inl ⟨a, cs 0, rfl, upd_same, J0.e, J0.i_W⟩, true, rfl, iteT ?_⟩
          exact ⟨_, rfl, a, 0, rfl, by decide, J0, upd_same, fun H2 e2 => hno hbf H2 ((e1.trans k1).trans e2)⟩
        · refine ⟨J4.x_W, rfl, fun a na => ?_⟩
          have k1 := same_upd (o := ExV (.ref (cs 4)) a) na
          refine ⟨_, rfl, _, cW, true, rfl, .inl ⟨a, cs 4, rfl, upd_same, J4.e, J4.i_W⟩, true, rfl, iteT ?_⟩
          exact ⟨_, rfl, a, 4, rfl, by decide, J4, upd_same, fun H2 e2 => (hyes l h1 h2 hl).1 hn H2 ((e1.trans k1).trans e2)⟩
        · refine ⟨_, rfl, _, cW, false, rfl, .inr ⟨_, .base (.int _), KO.int⟩, false, rfl, iteF ?_⟩
          exact ⟨_, rfl, (hyes l h1 h2 hl).2 i e H1 he hm hb1 f1⟩
      · refine ⟨_, rfl, rfl, false, by simp, iteF ?_⟩
        refine ⟨_, rfl, rfl, false, by simp, iteF ?_⟩
        refine ⟨_, rfl, rfl, true, by simp, iteT ?_⟩
        refine ⟨_, rfl, p, dx, _, rfl, hb.hp, bf_no _ _ _ (by decide +kernel) (by decide +kernel) (by decide +kernel), _, rfl, p, dx, d1, d2, nx, es, v, b, rfl, hb, hv, fun hbf H1 e1 => ?_, fun l h1 h2 hl r H1 hR e1 => ?_⟩
        · refine ⟨J0.x_W, rfl, fun a na => ?_⟩
          have k1 := same_upd (o := ExV (.ref (cs 0)) a) na
          refine ⟨_, rfl, _, cW, true, rfl, .inl ⟨a, cs 0, rfl, upd_same, J0.e, J0.i_W⟩, true, rfl, iteT ?_⟩
          exact ⟨_, rfl, a, 0, rfl, by decide, J0, upd_same, fun H2 e2 => hno hbf H2 ((e1.trans k1).trans e2)⟩
        · have q := hyes l h1 h2 hl r H1 hR e1
          cases hR with
          | no _ =>
            refine ⟨_, rfl, _, cW, false, rfl, .inr ⟨_, .base .non, KO.non⟩, false, rfl, iteF ?_⟩
            exact ⟨_, rfl, q⟩
          | yes _ _ =>
            refine ⟨_, rfl, _, cW, false, rfl, .inr ⟨_, .base (.int _), KO.int⟩, false, rfl, iteF ?_⟩
            exact ⟨_, rfl, q⟩
      · refine ⟨_, rfl, rfl, false, by simp, iteF ?_⟩
        refine ⟨_, rfl, rfl, false, by simp, iteF ?_⟩
        refine ⟨_, rfl, rfl, false, by simp, iteF ?_⟩
        refine ⟨_, rfl, rfl, true, by simp, iteT ?_⟩
        refine ⟨_, rfl, p, dx, _, rfl, hb.hp, bf_no _ _ _ (by decide +kernel) (by decide +kernel) (by decide +kernel), _, rfl, p, dx, d1, d2, nx, es, v, b, rfl, hb, hP, hws, hv, fun hbf H1 e1 => ?_, fun l h1 h2 hl => ⟨fun hn t H1 nt e1 ht => ?_, fun i e he hf t H1 nt e1 ht => ?_⟩⟩
        · refine ⟨J0.x_W, rfl, fun a na => ?_⟩
          have k1 := same_upd (o := ExV (.ref (cs 0)) a) na
          refine ⟨_, rfl, _, cW, true, rfl, .inl ⟨a, cs 0, rfl, upd_same, J0.e, J0.i_W⟩, true, rfl, iteT ?_⟩
          exact ⟨_, rfl, a, 0, rfl, by decide, J0, upd_same, fun H2 e2 => hno hbf H2 ((e1.trans k1).trans e2)⟩
        · refine ⟨_, rfl, _, cW, false, rfl, .inr ⟨_, .base (.lst ht), KO.lst⟩, false, rfl, iteF ?_⟩
          exact ⟨_, rfl, (hyes l h1 h2 hl).1 hn t H1 nt e1 ht⟩
        · refine ⟨_, rfl, _, cW, false, rfl, .inr ⟨_, .base (.lst ht), KO.lst⟩, false, rfl, iteF ?_⟩
          exact ⟨_, rfl, (hyes l h1 h2 hl).2 i e he hf t H1 nt e1 ht⟩
    · refine ⟨_, rfl, rfl, false, by simp, iteF ?_⟩
      refine ⟨_, rfl, rfl, false, by simp, iteF ?_⟩
      refine ⟨_, rfl, rfl, false, by simp, iteF ?_⟩
      refine ⟨_, rfl, rfl, false, by simp, iteF ?_⟩
      refine ⟨_, rfl, p, dx, _, rfl, hb.hp, bf_no _ _ _ (by decide +kernel) (by decide +kernel) (by decide +kernel), _, rfl, p, dx, d1, d2, nx, es, n, rfl, hb, hP.nu, fun hn H1 e1 => ?_, fun i e he hen t H1 nt e1 ht => ?_⟩
      · refine ⟨J4.x_W, rfl, fun a na => ?_⟩
        have k1 := same_upd (o := ExV (.ref (cs 4)) a) na
        refine ⟨_, rfl, _, cW, true, rfl, .inl ⟨a, cs 4, rfl, upd_same, J4.e, J4.i_W⟩, true, rfl, iteT ?_⟩
        exact ⟨_, rfl, a, 4, rfl, by decide, J4, upd_same, fun H2 e2 => hno hn H2 ((e1.trans k1).trans e2)⟩
      · refine ⟨_, rfl, _, cW, false, rfl, .inr ⟨_, .base (.lst ht), KO.lst⟩, false, rfl, iteF ?_⟩
        exact ⟨_, rfl, hyes i e he hen t H1 nt e1 ht⟩
end
end Rk
namespace Rw
open PySem PySem.Spec PyProof.Rows L2 PySem.W
/-! set of the numbers of a list, as it is sorted afterwards -/
def HasI (w : World) (h : Heap) (a : Addr) (ns : List Int) (i : Nat) : Prop := ∃ (S : Int → Bool) (m : Nat), SetR w h a S m ∧ m ≤ i ∧ ∀ j, S j = decide (j ∈ ns.take i)
theorem take_nextI {ns : List Int} {i : Nat} (h : i < ns.length) : ns.take (i + 1) = ns.take i ++ [ns.getD i 0] := by
  rw [List.take_add_one, List.getElem?_eq_getElem h, List.getD_eq_getElem?_getD, List.getElem?_eq_getElem h]
  rfl
section
variable {prog : Program} {w : World} {A : Around} {R : Result → Shared → Prop} {it : Addr} {fp wr : List Addr} {G : Array GenState → Array GenState → Prop} {n : Nat} {P : Nat → Value → Prop} {St : Nat → Shared → Prop}
theorem seti_turns (D : WalksS prog w A.in1 it fp wr G n P St) (a : Addr) (na : a ∉ fp) (ns : List Int) (hl : ns.length = n) (hn : n + 1 < scanBound)
    (hv : ∀ i v, P i v → ∃ t, v = .int (ns.getD i 0) t) : ∀ (k i : Nat) (s : Shared), i + k = n → St i s → HasI w s.heap a ns i →
      (∀ s', Moved (a :: wr) G s s' → HasI w s'.heap a ns n → R (.ok (.ret .none)) s') →
      codeAny (model prog w) A (.builtin "set.update.loop" ⟨[.ref a, .ref it], []⟩) R s
  | 0, i, s, hk, st, ha, hR => by
    have e : i = n := by omega
    subst e
    apply codeAny_builtin PyProof.Rows.F.entry_set_update_loop
    rw [Around.under_plainId (PyProof.Rows.F.plain_set_update_loop)]
    show wpAny _ A.in1 (do let r ← pyNext (.ref it); _) _ _ _
    refine wpAny_bind (D.done s _ _ st fun t hm => ?_)
    have nw : a ∉ wr := fun h => na (D.sub _ h)
    refine wpAny_pure (hR t (hm.mono fun b hb => .tail _ hb) ?_)
    obtain ⟨S, m, g1, g2⟩ := ha
    exact ⟨S, m, g1.at fun o e => hm.heap a _ nw e, g2⟩
  | k + 1, i, s, hk, st, ha, hR => by
    have hi : i < n := by omega
    have nw : a ∉ wr := fun h => na (D.sub _ h)
    apply codeAny_builtin PyProof.Rows.F.entry_set_update_loop
    rw [Around.under_plainId (PyProof.Rows.F.plain_set_update_loop)]
    show wpAny _ A.in1 (do let r ← pyNext (.ref it); _) _ _ _
    refine wpAny_bind (D.item i s _ _ hi st fun v t hP st' hm => ?_)
    obtain ⟨tk, rfl⟩ := hv i v hP
    obtain ⟨S, m, g1, g2, g3⟩ := ha
    have hat : SetR w t.heap a S m := g1.at fun o e => hm.heap a _ nw e
    show wpAny _ A.in1 (do let r ← holding [Value.int (ns.getD i 0) tk] (setAdd a (.int (ns.getD i 0) tk)); _) _ _ _
    refine wpAny_bind (wpAny_holding ?_)
    unfold setAdd
    refine wpAny_holding (wpAny_bind ((intKind prog w).pyHash (intKind_is prog w (ns.getD i 0) tk) ?_))
    refine setR_add_hashed (s := { t with toks := t.toks + 1 }) hat (by omega) fun h2 sb hat2 => ?_
    have far : ∀ b o, b ≠ a → t.heap.get? b = some o → h2.get? b = some o := fun b o hb e => (sb.2 b hb).trans e
    have hat3 : HasI w h2 a ns (i + 1) := ⟨_, _, hat2, by split <;> omega, fun j => by
      rw [take_nextI (by omega), g3 j, Bool.eq_iff_iff]
      simp⟩
    refine wpAny_pure ⟨plainId_quiet (PyProof.Rows.F.plain_set_update_loop) _, seti_turns D a na ns hl hn hv k (i + 1) _ (by omega) (D.frame (i + 1) t h2 _ st' (Nat.le_succ _) fun b hb o e => far b o (fun z => na (z ▸ hb)) e) hat3 fun u hu hs => ?_⟩
    refine hR u (Moved.trans D.gtrans ((hm.mono fun b hb => List.Mem.tail a hb).then_heap (Nat.le_succ _) fun b o hb e => ?_) hu) hs
    exact far b o (fun z => hb (z ▸ List.Mem.head _)) e
end
end Rw
namespace Rw
open PySem PySem.Spec PyProof.Rows L2 PySem.W
section
variable {prog : Program} {w : World} {A : Around} {E : Value → Shared → Prop} {s : Shared}
abbrev newSetI (led : Bool) : Obj := { cls := .type "set", dict := none, data := .set #[] 0 (.fresh 0 0 led) }
/-- a new set of the numbers of a list -/
theorem set_ints {l : Addr} {its : Array Value} {ns : List Int} {Q : Value → Shared → Prop} (hh : A.handled = none) (hl : s.heap.IsList l its) (hi : IntsAre its.toList ns) (hn : ns.length + 1 < scanBound)
    (h : ∀ (h2 : Heap) (tk : Nat), HasI w h2 s.heap.objs.size ns ns.length → (∀ b o, b < s.heap.objs.size → s.heap.get? b = some o → h2.get? b = some o) → Q (.ref s.heap.objs.size) { s with heap := h2, toks := tk }) :
    wpAny (model prog w) A (call (.type "set") [.ref l]) Q E s := by
  have hlen : ns.length = its.size := by
    have := IntsAre.length hi
    rw [Array.length_toList] at this
    exact this.symm
  obtain ⟨_, _, hmro⟩ := PySem.F.called_set.mro
  have made := PySem.F.called_set.made
  have sub := PySem.F.called_set.sub
  apply wpAny_call
  apply codeAny_of_tree
  show wpAny _ _ (callAny (.type "set") _) _ _ _
  have quiet := Code.quiet_builtin (id := "type.__call__") (args := ⟨[.type "set", .ref l], []⟩) (by decide +kernel)
  refine wpAny_pure ⟨quiet, codeAny_builtin PySem.F.entry_type_call ?_⟩
  rw [Around.under_plain (weight_type_call_type "set" [.ref l] []) rfl]
  have f1 := PySem.F.called_set.notType
  have f2 := PySem.F.called_set.canCreate
  have f3 := PySem.F.typeCall_set_1 (.ref l)
  repeat any_goals first | assumption | wp_step
  refine codeAny_mono (code_set_led1 (.ref l) (E := E) (Q₁ := fun ob s1 => ob = .ref s.heap.objs.size ∧ s1 = { s with heap := s.heap.push (newSetI (!w.params.followText "set-order")) }) ⟨rfl, rfl⟩) ?_
  rintro r s1 hr
  cases r with
  | error e => exact hr
  | ok fl =>
    cases fl with
    | ret ob =>
      obtain ⟨rfl, rfl⟩ := hr
      have aS : (s.heap.push (newSetI (!w.params.followText "set-order"))).get? s.heap.objs.size = some (newSetI (!w.params.followText "set-order")) := Heap.get?_push_size _ rfl
      have tS : Shared.TypeIs { s with heap := s.heap.push (newSetI (!w.params.followText "set-order")) } (.ref s.heap.objs.size) "set" := ⟨_, aS, rfl⟩
      have i1 := PySem.F.called_set.init.lookup
      have i2 := PySem.F.called_set.init.bind (.ref s.heap.objs.size)
      repeat any_goals first | assumption | wp_step
      refine codeAny_mono (codeAny_call_builtin (R := wants (fun r s2 => r = .none ∧ ∃ h2 tk, s2 = { s with heap := h2, toks := tk } ∧ HasI w h2 s.heap.objs.size ns ns.length ∧
          ∀ b o, b < s.heap.objs.size → s.heap.get? b = some o → h2.get? b = some o) E) PySem.F.called_set.init.plain PySem.F.entry_set_init (check_set_init_1 tS ?_)) ?_
      · obtain ⟨⟨cl, dd, dat, slo⟩, ho, hc, nl, hd⟩ := hl
        simp only at hc hd
        subst hc hd
        have lt : l < s.heap.objs.size := Heap.lt_size ho
        have ho1 : (s.heap.push (newSetI (!w.params.followText "set-order"))).get? l = some { cls := .type "list", dict := dd, data := .seq its nl, slots := slo } := Heap.get?_push_of_some _ ho
        have n1 := PySem.F.sub_list_set
        have n2 := PySem.F.sub_list_frozenset
        have n3 : (Value.type "list" == Value.type "dict") = false := by decide
        have isL : (s.heap.push (newSetI (!w.params.followText "set-order"))).IsList l its := ⟨_, ho1, rfl, nl, rfl⟩
        unfold Builtin.«set.__init__» noKeywords Builtin.Frozenset.updateFrom
        generalize hIt : pyIter = iterOf
        wp_walk
        subst hIt
        refine wpAny_pyIter_list isL (wpAny_bind (wpAny_runValue ?_))
        have sz : (s.heap.push (newSetI (!w.params.followText "set-order"))).objs.size = s.heap.objs.size + 1 := Heap.size_push ..
        have hh3 : A.in1.in1.in1.handled = none := by simp [hh]
        have ne1 : l ≠ (s.heap.push (newSetI (!w.params.followText "set-order"))).objs.size := by
          rw [sz]
          exact Nat.ne_of_lt (Nat.lt_succ_of_lt lt)
        have ne2 : s.heap.objs.size ∉ [(s.heap.push (newSetI (!w.params.followText "set-order"))).objs.size, l] := by
          rw [sz]
          intro z
          rcases List.mem_cons.mp z with q | q
          · exact Nat.ne_of_lt (Nat.lt_succ_self _) q
          · exact Nat.ne_of_lt lt (List.mem_singleton.mp q).symm
        have vals : ∀ (i : Nat) (v : Value), its[i]? = some v → ∃ t, v = .int (ns.getD i 0) t := fun i v hv => PyProof.Rows.IntsAre.int_at hi i v (by rw [Array.getElem?_toList]; exact hv)
        refine seti_turns ((Walks.list hh3 _ l ne1 its).toS) s.heap.objs.size ne2 ns hlen (by rw [← hlen]; exact hn) vals its.size 0 _ (Nat.zero_add _) ⟨⟨_, Heap.get?_push_size _ rfl, rfl, rfl⟩, isL.push _⟩ ?_ ?_
        · exact ⟨_, 0, (setR_fresh w).at fun o e => Heap.get?_push_of_some _ e, Nat.le_refl _, fun j => by simp⟩
        · rintro ⟨h2, g2, d2, t2, o2⟩ hm hS
          obtain rfl : g2 = s.gens := hm.gens
          obtain rfl : d2 = s.drawn := hm.drawn
          obtain rfl : o2 = s.os := hm.os
          show wpAny _ _ _ _ _ _
          apply wpAny_pure
          show wpAny _ _ (ret Value.none) _ _ _
          rw [← hlen] at hS
          refine wpAny_pure ⟨rfl, h2, t2, rfl, hS, fun b o hb e => hm.heap b o (fun z => ?_) (Heap.get?_push_of_some _ (Heap.get?_push_of_some _ e))⟩
          rcases List.mem_cons.mp z with q | q
          · exact Nat.ne_of_lt hb q
          · rw [List.mem_singleton.mp q, sz] at hb
            omega
      · rintro r2 s2 hr2
        cases r2 with
        | error e => exact hr2
        | ok fl2 =>
          cases fl2 with
          | ret r =>
            obtain ⟨rfl, h2, tk, rfl, hS, hk⟩ := hr2
            repeat any_goals first | assumption | wp_step
            exact h _ _ hS hk
          | _ => exact hr2.elim
    | _ => exact hr.elim
end

section
variable {X : Cx}
def rSetI (K : PySem.W.Frag) (w : World) : List V → Hp → VK → Prop := fun xs H Q => ∃ (l : Addr) (ns : List Int), xs = [.ref l] ∧ SqL K H l (ns.map V.int) ∧ ns.length ≤ 4000 ∧
  ∀ (p : Addr) (S : Int → Bool) (m : Nat), H p = none → m ≤ ns.length → (∀ j, S j = decide (j ∈ ns)) → Q (.ref p) (upd H p (SetO w p S m))
theorem cr_setI (hc : X.calm = true) : CallR X (.type "set") (rSetI X.K X.w) := by
  rintro pins s σ H xs us Q I r ⟨l, ns, rfl, hs, hle, q⟩
  obtain ⟨u, rfl, rx⟩ := vals1 r
  cases rx
  obtain ⟨its, rv, pl, _⟩ := I.list hs
  have hS : IntsAre its.toArray.toList ns := by simpa using ints_of_vals rv
  refine set_ints (I.ok.hd hc) pl.isList hS (by unfold scanBound; omega) fun h2 tk hset hk => ?_
  obtain ⟨S, m, R, hm, hj⟩ := hset
  rw [List.take_length] at hj
  exact ⟨.ref s.heap.objs.size, upd H s.heap.objs.size (SetO X.w s.heap.objs.size S m), I.laid (t' := tk) (fun b u e => hk b u (Heap.lt_size e) e) (Nat.le_refl _) (setO_new R), rfl, q _ S m (I.hok.fresh (Nat.le_refl _)) hm hj⟩
end
end Rw
namespace Rw
open PySem PySem.Spec PyProof.Rows L2
/-- a piece from place a up to place b, as the least endings tell it -/
def Seg (l : List Nat) (a b : Nat) : Prop := a < b ∧ b ≤ l.length ∧ (∀ i, a < i → i < b → l.drop a < l.drop i) ∧ l.drop b < l.drop a
def Segs (l : List Nat) : List Nat → Prop
  | a :: b :: r => Seg l a b ∧ Segs l (b :: r)
  | _ => True
def segW (l : List Nat) : List Nat → List (List Nat)
  | a :: b :: r => (l.drop a).take (b - a) :: segW l (b :: r)
  | _ => []
/-- none less than the next one -/
def NonInc : List (List Nat) → Prop
  | u :: v :: r => ¬ u < v ∧ NonInc (v :: r)
  | _ => True
def Good (ls : List (List Nat)) : Prop := (∀ x ∈ ls, early x = true ∧ x ≠ []) ∧ NonInc ls
theorem seg_split {l : List Nat} {a b : Nat} (h : Seg l a b) : l.drop a = (l.drop a).take (b - a) ++ l.drop b := by
  have e : l.drop b = (l.drop a).drop (b - a) := by
    rw [List.drop_drop]
    congr 1
    have := h.1
    omega
  rw [e, List.take_append_drop]
theorem seg_len {l : List Nat} {a b : Nat} (h : Seg l a b) : ((l.drop a).take (b - a)).length = b - a := by
  rw [List.length_take, List.length_drop]
  have := h.1
  have := h.2.1
  omega
theorem seg_in {l : List Nat} {a b k : Nat} (h : Seg l a b) (hk : k ≤ b - a) : l.drop (a + k) = ((l.drop a).take (b - a)).drop k ++ l.drop b := by
  rw [← List.drop_drop]
  have e := seg_split h
  have n := seg_len h
  generalize (l.drop a).take (b - a) = u at e n ⊢
  rw [e, List.drop_append_of_le_length (by omega)]
theorem seg_early {l : List Nat} {a b : Nat} (h : Seg l a b) : early ((l.drop a).take (b - a)) = true := by
  obtain ⟨h1, h2, h3, h4⟩ := id h
  refine suf_early fun k k1 k2 => ?_
  have n := seg_len h
  have e := seg_split h
  have ek := fun k hk => seg_in (k := k) h hk
  rw [n] at k2
  generalize (l.drop a).take (b - a) = u at *
  have hS := h3 (a + k) (by omega) (by omega)
  rw [ek k (by omega)] at hS
  have nd : (u.drop k).length = u.length - k := List.length_drop
  rcases tri u (u.drop k) with g | g | g
  · rcases lt_cases g with z | ⟨c, hc, z⟩
    · exact z
    · have := congrArg List.length z
      rw [List.length_append] at this
      omega
  · have := congrArg List.length g
    omega
  · exfalso
    rw [e] at hS
    rcases lt_cases g with z | ⟨c, hc, z⟩
    · exact lt_asym hS (z.lt _ _)
    · have hS' : c ++ l.drop b < l.drop b := by
        have q : u ++ l.drop b = u.drop k ++ (c ++ l.drop b) := by
          rw [← List.append_assoc, ← z]
        rw [q] at hS
        exact cancel hS
      have i2 := h3 (a + (u.length - k)) (by omega) (by omega)
      rw [ek (u.length - k) (by omega)] at i2
      have ec : u.drop (u.length - k) = c := by
        have q : u.drop (u.drop k).length = (u.drop k ++ c).drop (u.drop k).length := congrArg _ z
        rw [List.drop_left, nd] at q
        exact q
      rw [ec] at i2
      exact lt_irr (List.lt_trans (List.lt_trans i2 hS') h4)
theorem seg_ge {l : List Nat} {a b c : Nat} (h : Seg l a b) (k : Seg l b c) : ¬ (l.drop a).take (b - a) < (l.drop b).take (c - b) := by
  intro g
  obtain ⟨h1, h2, h3, h4⟩ := id h
  obtain ⟨k1, k2, k3, k4⟩ := id k
  have n := seg_len h
  have e := seg_split h
  have n' := seg_len k
  have e' := seg_split k
  have ek := fun i hi => seg_in (k := i) k hi
  generalize (l.drop a).take (b - a) = u at *
  generalize (l.drop b).take (c - b) = v at *
  rcases lt_cases g with z | ⟨y, hy, z⟩
  · have q := z.lt (l.drop b) (l.drop c)
    rw [← e, ← e'] at q
    exact lt_asym q h4
  · have ly : v.length = u.length + y.length := by rw [z, List.length_append]
    have y0 : y.length ≠ 0 := fun q => hy (List.eq_nil_of_length_eq_zero q)
    have q1 : y ++ l.drop c < l.drop b := by
      have q := h4
      rw [e, e', z, List.append_assoc] at q
      have q2 := cancel q
      rw [← List.append_assoc, ← z, ← e'] at q2
      exact q2
    have i2 := k3 (b + u.length) (by omega) (by omega)
    rw [ek u.length (by omega)] at i2
    have ed : v.drop u.length = y := by
      rw [z, List.drop_left]
    rw [ed] at i2
    exact lt_asym i2 q1
theorem segs_good {l : List Nat} : ∀ {ps : List Nat}, Segs l ps → Good (segW l ps)
  | [], _ => ⟨fun _ h => (List.not_mem_nil h).elim, trivial⟩
  | [_], _ => ⟨fun _ h => (List.not_mem_nil h).elim, trivial⟩
  | [a, b], h => by
    refine ⟨fun x hx => ?_, trivial⟩
    have e : x = (l.drop a).take (b - a) := by simpa [segW] using hx
    subst e
    refine ⟨seg_early h.1, fun z => ?_⟩
    have g1 := seg_len h.1
    rw [z] at g1
    have g2 := h.1.1
    have g3 : b - a = 0 := g1.symm
    omega
  | a :: b :: c :: r, h => by
    obtain ⟨i1, i2⟩ := segs_good (ps := b :: c :: r) h.2
    refine ⟨fun x hx => ?_, seg_ge h.1 h.2.1, i2⟩
    rcases List.mem_cons.mp hx with e | e
    · subst e
      refine ⟨seg_early h.1, fun z => ?_⟩
      have g1 := seg_len h.1
      rw [z] at g1
      have g2 := h.1.1
      have g3 : b - a = 0 := g1.symm
      omega
    · exact i1 x e
def lastP : Nat → List Nat → Nat
  | a, [] => a
  | _, b :: r => lastP b r
theorem segs_flat {l : List Nat} : ∀ {r : List Nat} {a : Nat}, Segs l (a :: r) → (segW l (a :: r)).flatten ++ l.drop (lastP a r) = l.drop a
  | [], a, _ => by simp [segW, lastP]
  | b :: r, a, h => by
    have i := segs_flat (r := r) (a := b) h.2
    show ((l.drop a).take (b - a) :: segW l (b :: r)).flatten ++ l.drop (lastP b r) = l.drop a
    rw [List.flatten_cons, List.append_assoc, i, ← seg_split h.1]
theorem segs_app {l : List Nat} : ∀ {qs : List Nat} {a b : Nat}, Segs l (qs ++ [a]) → Seg l a b → Segs l (qs ++ [a] ++ [b])
  | [], _, _, _, k => ⟨k, trivial⟩
  | [_], _, _, h, k => ⟨h.1, k, trivial⟩
  | _ :: x :: qs, _, _, h, k => ⟨h.1, segs_app (qs := x :: qs) h.2 k⟩
theorem cut_inv {l : List Nat} : ∀ n, n + 1 ≤ l.length → ∃ qs a, (cutSt l n).1 = qs ++ [a] ∧ (cutSt l n).2 = l.drop a ∧ Segs l (qs ++ [a]) ∧ a ≤ n ∧ (∀ i, a < i → i ≤ n → l.drop a < l.drop i) ∧ ∃ r, qs ++ [a] = 0 :: r
  | 0, _ => ⟨[], 0, rfl, rfl, trivial, Nat.le_refl _, fun i h1 h2 => absurd h1 (by omega), [], rfl⟩
  | n + 1, h => by
    obtain ⟨qs, a, e1, e2, hs, ha, hm, r, er⟩ := cut_inv (l := l) n (by omega)
    have eu : cutSt l (n + 1) = if l.drop (n + 1) < (cutSt l n).2 then ((cutSt l n).1 ++ [n + 1], l.drop (n + 1)) else cutSt l n := rfl
    by_cases g : l.drop (n + 1) < (cutSt l n).2
    · rw [eu, if_pos g]
      refine ⟨qs ++ [a], n + 1, by rw [e1], rfl, segs_app hs ⟨by omega, by omega, fun i h1 h2 => hm i h1 (by omega), by rw [← e2]; exact g⟩, Nat.le_refl _, fun i h1 h2 => absurd h1 (by omega), r ++ [n + 1], by rw [er]; rfl⟩
    · rw [eu, if_neg g]
      refine ⟨qs, a, e1, e2, hs, by omega, fun i h1 h2 => ?_, r, er⟩
      by_cases hi : i ≤ n
      · exact hm i h1 hi
      · have ei : i = n + 1 := by omega
        subst ei
        rw [e2] at g
        rcases tri (l.drop a) (l.drop (n + 1)) with z | z | z
        · exact z
        · have := congrArg List.length z
          rw [List.length_drop, List.length_drop] at this
          omega
        · exact absurd z g
theorem zip_seg (l : List Nat) (e : Nat) : ∀ (r : List Nat) (a : Nat), ((a :: r).zip (r ++ [e])).map (fun ab => (l.drop ab.1).take (ab.2 - ab.1)) = segW l ((a :: r) ++ [e])
  | [], _ => rfl
  | b :: r, a => by
    have i := zip_seg l e r b
    show _ :: ((b :: r).zip (r ++ [e])).map _ = _
    rw [i]
    rfl
theorem last_app : ∀ (r : List Nat) (a e : Nat), lastP a (r ++ [e]) = e
  | [], _, _ => rfl
  | b :: r, _, e => last_app r b e
/-- the places are segments -/
theorem cuts_segs {l : List Nat} (h : 1 ≤ l.length) : ∃ r, cutsOf l = 0 :: r ∧ Segs l ((0 :: r) ++ [l.length]) := by
  obtain ⟨qs, a, e1, _, hs, ha, hm, r, er⟩ := cut_inv (l := l) (l.length - 1) (by omega)
  refine ⟨r, by unfold cutsOf; rw [e1, er], ?_⟩
  rw [← er]
  refine segs_app hs ⟨by omega, Nat.le_refl _, fun i h1 h2 => hm i h1 (by omega), ?_⟩
  rw [List.drop_length]
  refine nil_lt fun z => ?_
  have := congrArg List.length z
  rw [List.length_drop] at this
  simp at this
  omega
theorem pieces_seg {l : List Nat} (h : 1 ≤ l.length) : ∃ r, cutsOf l = 0 :: r ∧ Segs l ((0 :: r) ++ [l.length]) ∧ piecesOf l = segW l ((0 :: r) ++ [l.length]) := by
  obtain ⟨r, e, hs⟩ := cuts_segs h
  refine ⟨r, e, hs, ?_⟩
  unfold piecesOf
  rw [e, List.tail_cons, zip_seg]
theorem pieces_flat {l : List Nat} (h : 1 ≤ l.length) : (piecesOf l).flatten = l := by
  obtain ⟨r, e, hs, ep⟩ := pieces_seg h
  have q := segs_flat (l := l) (r := r ++ [l.length]) (a := 0) hs
  rw [last_app, List.drop_length, List.append_nil] at q
  rw [ep]
  exact q
theorem pieces_good {l : List Nat} (h : 1 ≤ l.length) : Good (piecesOf l) := by
  obtain ⟨r, e, hs, ep⟩ := pieces_seg h
  rw [ep]
  exact segs_good hs
theorem pieces_wd {l : List Nat} (h : Wd l) : ∀ x ∈ piecesOf l, Wd x := fun x hx => by
  have g := (pieces_good h.1).1 x hx
  have e := pieces_flat h.1
  refine ⟨?_, ?_, fun c hc => h.2.2 c (by rw [← e]; exact List.mem_flatten.mpr ⟨x, hx, hc⟩)⟩
  · cases x with
    | nil => exact absurd rfl g.2
    | cons _ _ => exact Nat.le_add_left 1 _
  · have h2 := h.2.1
    obtain ⟨s, t, es⟩ := List.append_of_mem hx
    rw [← e, es, List.flatten_append, List.flatten_cons, List.length_append, List.length_append] at h2
    omega
theorem pieces_ne {l : List Nat} (h : 1 ≤ l.length) : piecesOf l ≠ [] := fun z => by
  have e := pieces_flat h
  rw [z] at e
  rw [← e] at h
  simp at h
end Rw
namespace Rw
theorem nonInc_at : ∀ {ls : List (List Nat)} {i : Nat} {a b : List Nat}, NonInc ls → ls[i]? = some a → ls[i + 1]? = some b → ¬ a < b
  | u :: v :: r, 0, a, b, h, ha, hb => by
    have e1 : u = a := Option.some.inj ha
    have e2 : v = b := Option.some.inj hb
    rw [← e1, ← e2]
    exact h.1
  | [_], 0, _, _, _, _, hb => nomatch hb
  | _ :: v :: r, i + 1, _, _, h, ha, hb => nonInc_at (ls := v :: r) (i := i) h.2 ha hb
  | [_], _ + 1, _, _, _, _, hb => nomatch hb
theorem segW_len (l : List Nat) : ∀ (r : List Nat) (a : Nat), (segW l (a :: r)).length = r.length
  | [], _ => rfl
  | b :: r, _ => by
    show (segW l (b :: r)).length + 1 = _
    rw [segW_len l r b]
    rfl
theorem segW_at {l : List Nat} : ∀ {r : List Nat} {a k : Nat}, Segs l (a :: r) → k ≤ r.length → (a :: r)[k]? = some (((segW l (a :: r)).take k).flatten.length + a)
  | r, a, 0, _, _ => by simp
  | [], _, k + 1, _, h => by simp at h
  | b :: r, a, k + 1, h, hk => by
    have i := segW_at (r := r) (a := b) (k := k) h.2 (by simpa using hk)
    have n := seg_len h.1
    have g := h.1.1
    show (b :: r)[k]? = some ((((l.drop a).take (b - a) :: segW l (b :: r)).take (k + 1)).flatten.length + a)
    rw [i, List.take_succ_cons, List.flatten_cons, List.length_append, n]
    congr 1
    omega
theorem cuts_due {l : List Nat} (h : 1 ≤ l.length) : cutsOf l = (List.range (piecesOf l).length).map fun k => ((piecesOf l).take k).flatten.length := by
  obtain ⟨r, e, hs, ep⟩ := pieces_seg h
  have hl : (piecesOf l).length = r.length + 1 := by
    rw [ep]
    show (segW l (0 :: (r ++ [l.length]))).length = _
    rw [segW_len, List.length_append]
    rfl
  refine List.ext_getElem? fun k => ?_
  by_cases hk : k < r.length + 1
  · have q := segW_at (l := l) (r := r ++ [l.length]) (a := 0) (k := k) hs (by rw [List.length_append]; exact Nat.le_of_lt hk)
    rw [e, List.getElem?_map, List.getElem?_range (by omega), ep]
    have e2 : (0 :: (r ++ [l.length]))[k]? = (0 :: r)[k]? := by
      show ((0 :: r) ++ [l.length])[k]? = _
      rw [List.getElem?_append_left (by simpa using hk)]
    rw [← e2, q]
    rfl
  · rw [e, List.getElem?_eq_none (by simpa using Nat.not_lt.mp hk), List.getElem?_eq_none (by rw [List.length_map, List.length_range]; omega)]
end Rw
namespace Rw
open PySem PySem.Spec PyProof.Rows L2
/-! only one cutting is so; all ways to cut -/
theorem Good.tail {w : List Nat} {vs : List (List Nat)} (h : Good (w :: vs)) : Good vs :=
  ⟨fun x hx => h.1 x (List.mem_cons_of_mem _ hx), match vs, h.2 with
    | [], _ => trivial
    | _ :: _, k => k.2⟩
theorem nonInc_le : ∀ {vs : List (List Nat)} {w : List Nat}, NonInc (w :: vs) → ∀ v ∈ vs, ¬ w < v
  | [], _, _, _, h => (List.not_mem_nil h).elim
  | u :: vs, w, h, v, hv => by
    rcases List.mem_cons.mp hv with e | e
    · rw [e]; exact h.1
    · intro g
      have i := nonInc_le (vs := vs) (w := u) h.2 v e
      rcases tri w u with z | z | z
      · exact h.1 z
      · exact i (z ▸ g)
      · exact i (List.lt_trans z g)
theorem claimB {w : List Nat} (hw : early w = true) : ∀ vs : List (List Nat), (∀ v ∈ vs, ¬ w < v) → ∀ z y r : List Nat, w = z ++ y → z ≠ [] → y ≠ [] → vs.flatten < y ++ r
  | [], _, z, y, r, _, _, hy => nil_lt fun e => hy (List.append_eq_nil_iff.mp e).1
  | v :: vs, h, z, y, r, e, hz, hy => by
    have lz : 1 ≤ z.length := by
      cases z with
      | nil => exact absurd rfl hz
      | cons _ _ => exact Nat.le_add_left 1 _
    have ly : 1 ≤ y.length := by
      cases y with
      | nil => exact absurd rfl hy
      | cons _ _ => exact Nat.le_add_left 1 _
    have hs : Sl w y := by
      have := early_suf hw (k := z.length) lz (by rw [e, List.length_append]; omega)
      rwa [show w.drop z.length = y from by rw [e, List.drop_left]] at this
    rw [List.flatten_cons]
    rcases tri v w with g | g | g
    · rcases lt_cases g with k | ⟨t, ht, k⟩
      · exact (k.trans hs).lt _ _
      · rw [k] at hs
        rcases hs.app with q | ⟨y', q1, q2⟩
        · exact q.lt _ _
        · have hy' : y' ≠ [] := fun z => by
            obtain ⟨p, a, b, s, t, _, e2, _⟩ := q2
            rw [z] at e2
            simp at e2
          have i := claimB hw vs (fun u hu => h u (List.mem_cons_of_mem _ hu)) (z ++ v) y' r (by rw [e, q1, List.append_assoc]) (fun q => hz (List.append_eq_nil_iff.mp q).1) hy'
          rw [q1, List.append_assoc]
          exact List.append_left_lt i
    · rw [g]
      exact hs.lt _ _
    · exact absurd g (h v List.mem_cons_self)
theorem claimA : ∀ (vs : List (List Nat)) (w : List Nat), Good (w :: vs) → vs.flatten < w ++ vs.flatten
  | [], w, h => by
    simpa using nil_lt (h.1 w List.mem_cons_self).2
  | v :: vs, w, h => by
    have hle := nonInc_le h.2
    rcases tri v w with g | g | g
    · rcases lt_cases g with k | ⟨t, ht, k⟩
      · rw [List.flatten_cons]
        exact k.lt _ _
      · have hv := (h.1 v (List.mem_cons_of_mem _ List.mem_cons_self)).2
        have b := claimB (h.1 w List.mem_cons_self).1 vs (fun u hu => hle u (List.mem_cons_of_mem _ hu)) v t (v :: vs).flatten k hv ht
        have q := List.append_left_lt (l₁ := v) b
        rw [← List.append_assoc, ← k] at q
        exact q
    · have i := claimA vs v h.tail
      have q := List.append_left_lt (l₁ := v) i
      rw [List.flatten_cons, ← g]
      exact q
    · exact absurd g (hle v List.mem_cons_self)
theorem no_early {w F : List Nat} (hw : early w = true) {i : Nat} (h1 : 1 ≤ i) (h2 : i < w.length) : ¬ (w ++ F).drop i < w ++ F := fun g => by
  have s := (early_suf hw h1 h2).lt F F
  rw [List.drop_append_of_le_length (by omega)] at g
  exact lt_asym s g
theorem first_len {w w' : List Nat} {vs vs' : List (List Nat)} (h : Good (w :: vs)) (h' : Good (w' :: vs')) (e : w ++ vs.flatten = w' ++ vs'.flatten) : ¬ w.length < w'.length := fun g => by
  have a := claimA vs w h
  have lw : 1 ≤ w.length := by
    have := (h.1 w List.mem_cons_self).2
    cases w with
    | nil => exact absurd rfl this
    | cons _ _ => exact Nat.le_add_left 1 _
  have b := no_early (F := vs'.flatten) (h'.1 w' List.mem_cons_self).1 lw g
  rw [← e, List.drop_left] at b
  exact b a
theorem uniq : ∀ (ls ls' : List (List Nat)), Good ls → Good ls' → ls.flatten = ls'.flatten → ls = ls'
  | [], [], _, _, _ => rfl
  | [], w :: vs, _, h, e => by
    have := (h.1 w List.mem_cons_self).2
    rw [List.flatten_cons] at e
    exact absurd (List.append_eq_nil_iff.mp e.symm).1 this
  | w :: vs, [], h, _, e => by
    have := (h.1 w List.mem_cons_self).2
    rw [List.flatten_cons] at e
    exact absurd (List.append_eq_nil_iff.mp e).1 this
  | w :: vs, w' :: vs', h, h', e => by
    rw [List.flatten_cons, List.flatten_cons] at e
    have l1 := first_len h h' e
    have l2 := first_len h' h e.symm
    obtain ⟨e1, e2⟩ := List.append_inj e (by omega)
    rw [e1, uniq vs vs' h.tail h'.tail e2]
/-- all ways to cut -/
def wStep (f : List (List (List Nat))) (c : Nat) : List (List (List Nat)) := f.map (fun r => r ++ [[c]]) ++ f.map (fun r => r.dropLast ++ [r.getLastD [] ++ [c]])
def waysSt (l : List Nat) (i : Nat) : List (List (List Nat)) := ((l.drop 1).take i).foldl wStep [[l.take 1]]
def waysOf (l : List Nat) : List (List (List Nat)) := waysSt l (l.length - 1)
theorem ways_succ {l : List Nat} {i c : Nat} (h : (l.drop 1)[i]? = some c) : waysSt l (i + 1) = wStep (waysSt l i) c := by
  unfold waysSt
  rw [List.take_add_one (l := l.drop 1), h, List.foldl_append]
  rfl
theorem take_succ' {l : List Nat} {i c : Nat} (h : (l.drop 1)[i]? = some c) : l.take (i + 2) = l.take (i + 1) ++ [c] := by
  rw [List.take_add_one]
  rw [List.getElem?_drop] at h
  rw [show i + 1 = 1 + i from Nat.add_comm _ _, h]
  rfl
theorem snoc {α : Type} {r : List α} (h : r ≠ []) (d : α) : r.dropLast ++ [r.getLastD d] = r := by
  rw [List.getLastD_eq_getLast?, List.getLast?_eq_some_getLast h]
  exact List.dropLast_concat_getLast h
/-- what all ways are -/
theorem ways_all {l : List Nat} (hl : 1 ≤ l.length) : ∀ i, i + 1 ≤ l.length → (waysSt l i).length = 2 ^ i ∧ ∀ r ∈ waysSt l i, r ≠ [] ∧ (∀ x ∈ r, x ≠ []) ∧ r.flatten = l.take (i + 1) ∧ r.length ≤ i + 1
  | 0, _ => by
    refine ⟨rfl, fun r hr => ?_⟩
    have e : r = [l.take 1] := List.mem_singleton.mp hr
    rw [e]
    refine ⟨(fun z => nomatch z), fun x hx z => ?_, by simp, Nat.le_refl _⟩
    rw [List.mem_singleton.mp hx] at z
    have := congrArg List.length z
    rw [List.length_take] at this
    have q : min 1 l.length = 0 := this
    omega
  | i + 1, h => by
    obtain ⟨i1, i2⟩ := ways_all hl i (by omega)
    obtain ⟨c, hc⟩ : ∃ c, (l.drop 1)[i]? = some c := ⟨_, List.getElem?_eq_getElem (by rw [List.length_drop]; omega)⟩
    rw [ways_succ hc, take_succ' hc]
    refine ⟨?_, fun r hr => ?_⟩
    · unfold wStep
      rw [List.length_append, List.length_map, List.length_map, i1, Nat.pow_succ]
      omega
    · rcases List.mem_append.mp hr with z | z
      · obtain ⟨s, hs, rfl⟩ := List.mem_map.mp z
        obtain ⟨a1, a2, a3, a4⟩ := i2 s hs
        refine ⟨by simp, fun x hx => ?_, by rw [List.flatten_append, a3]; simp, by rw [List.length_append]; exact Nat.succ_le_succ a4⟩
        rcases List.mem_append.mp hx with y | y
        · exact a2 x y
        · rw [List.mem_singleton.mp y]
          exact fun z => nomatch z
      · obtain ⟨s, hs, rfl⟩ := List.mem_map.mp z
        obtain ⟨a1, a2, a3, a4⟩ := i2 s hs
        refine ⟨by simp, fun x hx => ?_, ?_, ?_⟩
        · rcases List.mem_append.mp hx with y | y
          · exact a2 x (List.dropLast_subset s y)
          · rw [List.mem_singleton.mp y]
            simp
        · rw [← a3, List.flatten_append]
          have e := congrArg List.flatten (snoc a1 [])
          rw [List.flatten_append] at e
          rw [← e]
          simp
        · rw [List.length_append, List.length_dropLast]
          show _ + 1 ≤ _
          omega
theorem filter_eq_map {α β : Type} [DecidableEq α] [DecidableEq β] (f : α → β) (xs : List α) (a : α) (b : β) (h : ∀ x ∈ xs, f x = b ↔ x = a) (i : xs.filter (fun x => decide (x = a)) = [a]) (hb : f a = b) : (xs.map f).filter (fun y => decide (y = b)) = [b] := by
  rw [List.filter_map]
  have e : xs.filter ((fun y => decide (y = b)) ∘ f) = xs.filter fun x => decide (x = a) := List.filter_congr fun x hx => by
    show decide (f x = b) = decide (x = a)
    by_cases g : x = a
    · rw [decide_eq_true g, decide_eq_true ((h x hx).mpr g)]
    · rw [decide_eq_false g, decide_eq_false fun z => g ((h x hx).mp z)]
  rw [e, i, List.map_singleton, hb]
theorem filter_none_map {α β : Type} [DecidableEq β] (f : α → β) (xs : List α) (b : β) (h : ∀ x ∈ xs, f x ≠ b) : (xs.map f).filter (fun y => decide (y = b)) = [] := by
  rw [List.filter_eq_nil_iff]
  intro y hy
  obtain ⟨x, hx, rfl⟩ := List.mem_map.mp hy
  simpa using h x hx
theorem ways_once {l : List Nat} (hl : 1 ≤ l.length) : ∀ i, i + 1 ≤ l.length → ∀ ls : List (List Nat), ls.flatten = l.take (i + 1) → (∀ x ∈ ls, x ≠ []) → (waysSt l i).filter (fun r => decide (r = ls)) = [ls]
  | 0, _, ls, e, hne => by
    have el : ls = [l.take 1] := by
      have l1 : (l.take (0 + 1)).length = 1 := by rw [List.length_take]; omega
      match ls, e, hne with
      | [], e, _ =>
        have := congrArg List.length e
        rw [l1] at this
        cases this
      | [x], e, _ =>
        have : x = l.take 1 := by simpa using e
        rw [this]
      | x :: y :: r, e, hne =>
        have h1 := hne x List.mem_cons_self
        have h2 := hne y (List.mem_cons_of_mem _ List.mem_cons_self)
        have q := congrArg List.length e
        rw [l1, List.flatten_cons, List.flatten_cons, List.length_append, List.length_append] at q
        have q1 : x.length ≠ 0 := fun z => h1 (List.eq_nil_of_length_eq_zero z)
        have q2 : y.length ≠ 0 := fun z => h2 (List.eq_nil_of_length_eq_zero z)
        omega
    rw [el]
    show [[l.take 1]].filter _ = _
    simp
  | i + 1, h, ls, e, hne => by
    obtain ⟨c, hc⟩ : ∃ c, (l.drop 1)[i]? = some c := ⟨_, List.getElem?_eq_getElem (by rw [List.length_drop]; omega)⟩
    have hall := (ways_all hl i (by omega)).2
    rw [take_succ' hc] at e
    rw [ways_succ hc]
    have hls : ls ≠ [] := fun z => by
      rw [z] at e
      simp at e
    obtain ⟨l1, x, rfl⟩ : ∃ l1 x, ls = l1 ++ [x] := ⟨_, _, (snoc hls []).symm⟩
    have hx : x ≠ [] := hne x (List.mem_append_right _ (List.mem_singleton.mpr rfl))
    obtain ⟨v, d, rfl⟩ : ∃ v d, x = v ++ [d] := ⟨_, _, (snoc hx 0).symm⟩
    have e' : (l1.flatten ++ v) ++ [d] = l.take (i + 1) ++ [c] := by
      rw [← e, List.flatten_append]
      simp
    obtain ⟨e1, e2⟩ := List.append_inj' e' rfl
    have ed : d = c := (List.cons.inj e2).1
    subst ed
    unfold wStep
    rw [List.filter_append]
    by_cases hv : v = []
    · subst hv
      rw [List.append_nil] at e1
      have i1 := ways_once hl i (by omega) l1 e1 fun y hy => hne y (List.mem_append_left _ hy)
      rw [filter_eq_map (fun r => r ++ [[d]]) _ l1 (l1 ++ [[] ++ [d]]) (fun r _ => by
          constructor
          · intro z
            exact (List.append_inj' z rfl).1
          · intro z
            rw [z]
            rfl) i1 rfl, filter_none_map]
      · rfl
      · intro r hr z
        have z2 := (List.cons.inj (List.append_inj' z rfl).2).1
        obtain ⟨a1, a2, _⟩ := hall r hr
        have q : r.getLastD [] = [] := by
          have := congrArg List.length z2
          rw [List.length_append, List.length_append] at this
          exact List.eq_nil_of_length_eq_zero (Nat.add_right_cancel this)
        have m : r.getLastD [] ∈ r := by
          have s := snoc a1 []
          have m : r.getLastD [] ∈ r.dropLast ++ [r.getLastD []] := List.mem_append_right _ (List.mem_singleton.mpr rfl)
          rw [s] at m
          exact m
        exact a2 _ m q
    · have i1 := ways_once hl i (by omega) (l1 ++ [v]) (by rw [List.flatten_append]; simpa using e1) (fun y hy => by
        rcases List.mem_append.mp hy with z | z
        · exact hne y (List.mem_append_left _ z)
        · rw [List.mem_singleton.mp z]
          exact hv)
      rw [filter_none_map, filter_eq_map (fun r => r.dropLast ++ [r.getLastD [] ++ [d]]) _ (l1 ++ [v]) (l1 ++ [v ++ [d]]) (fun r hr => by
          obtain ⟨a1, a2, _⟩ := hall r hr
          constructor
          · intro z
            have z1 := List.append_inj' z rfl
            have z2 := (List.append_inj' (List.cons.inj z1.2).1 rfl).1
            rw [← snoc a1 [], z1.1, z2]
          · intro z
            rw [z]
            simp) i1 (by simp)]
      · rfl
      · intro r _ z
        have z2 := (List.cons.inj (List.append_inj' z rfl).2).1
        have := congrArg List.length z2
        rw [List.length_append] at this
        exact hv (List.eq_nil_of_length_eq_zero (by
          have q : 1 = v.length + 1 := this
          omega))
/-- among all ways just the pieces pass a test that means this -/
theorem ways_pieces {l : List Nat} (hl : 1 ≤ l.length) (p : List (List Nat) → Bool) (h : ∀ r ∈ waysOf l, p r = decide (r = piecesOf l)) : (waysOf l).filter p = [piecesOf l] := by
  have e : (waysOf l).filter p = (waysOf l).filter fun r => decide (r = piecesOf l) := List.filter_congr h
  rw [e]
  have ft : l.take (l.length - 1 + 1) = l := List.take_of_length_le (by omega)
  exact ways_once hl (l.length - 1) (by omega) (piecesOf l) (by rw [ft]; exact pieces_flat hl) fun x hx => ((pieces_good hl).1 x hx).2
theorem ways_good {l : List Nat} (hl : 1 ≤ l.length) : ∀ r ∈ waysOf l, (NonInc r ∧ ∀ x ∈ r, early x = true) ↔ r = piecesOf l := fun r hr => by
  have ft : l.take (l.length - 1 + 1) = l := List.take_of_length_le (by omega)
  obtain ⟨a1, a2, a3, _⟩ := (ways_all hl (l.length - 1) (by omega)).2 r hr
  rw [ft] at a3
  constructor
  · rintro ⟨h1, h2⟩
    exact uniq _ _ ⟨fun x hx => ⟨h2 x hx, a2 x hx⟩, h1⟩ (pieces_good hl) (a3.trans (pieces_flat hl).symm)
  · intro e
    rw [e]
    obtain ⟨g1, g2⟩ := pieces_good hl
    exact ⟨g2, fun x hx => (g1 x hx).1⟩
end Rw
namespace Rw
/-! the least turning: one early word some times -/
theorem lstT_le : ∀ (ys : List (List Nat)) (x : List Nat), ∀ z ∈ x :: ys, ¬ z < lstT x ys
  | [], x, z, hz => by
    rw [List.mem_singleton.mp hz]
    exact fun q => lt_irr q
  | y :: r, x, z, hz => by
    have e : lstT x (y :: r) = lstT (if y < x then y else x) r := rfl
    rw [e]
    have i := lstT_le r (if y < x then y else x)
    have i0 := i _ List.mem_cons_self
    rcases List.mem_cons.mp hz with q | q
    · subst q
      by_cases g : y < z
      · rw [if_pos g] at i0 ⊢
        exact fun k => i0 (List.lt_trans g k)
      · rw [if_neg g] at i0 ⊢
        exact i0
    · rcases List.mem_cons.mp q with q | q
      · subst q
        by_cases g : z < x
        · rw [if_pos g] at i0 ⊢
          exact i0
        · rw [if_neg g] at i0 ⊢
          intro k
          rcases tri z x with u | u | u
          · exact g u
          · exact i0 (u ▸ k)
          · exact i0 (List.lt_trans u k)
      · exact i z (List.mem_cons_of_mem _ q)
theorem minT_le {ls : List (List Nat)} : ∀ z ∈ ls, ¬ z < minT ls := by
  cases ls with
  | nil => exact fun z h => (List.not_mem_nil h).elim
  | cons x ys => exact lstT_le ys x
theorem turn_len (l : List Nat) (k : Nat) : (turn l k).length = l.length := by
  unfold turn
  rw [List.length_append, List.length_drop, List.length_take]
  omega
theorem turn_app {x y : List Nat} : turn (x ++ y) x.length = y ++ x := by
  unfold turn
  rw [List.drop_left, List.take_left]
/-- a piece of a rising end: the first and the last piece of what is least of its turnings are alike -/
theorem least_ends {u v : List Nat} {X : List (List Nat)} (hg : Good (u :: X ++ [v])) (hl : ¬ turn ((u :: X ++ [v]).flatten) ((u :: X).flatten.length) < (u :: X ++ [v]).flatten) : u = v := by
  have ef : (u :: X ++ [v]).flatten = (u :: X).flatten ++ v := by
    rw [List.flatten_append]
    simp
  rw [ef, turn_app, List.flatten_cons] at hl
  have hle := nonInc_le (w := u) (vs := X ++ [v]) hg.2 v (List.mem_append_right _ (List.mem_singleton.mpr rfl))
  rcases tri v u with g | g | g
  · exfalso
    rcases lt_cases g with k | ⟨y, hy, k⟩
    · refine hl ?_
      rw [List.append_assoc]
      exact k.lt _ _
    · have hu := hg.1 u List.mem_cons_self
      have hv := hg.1 v (List.mem_append_right _ (List.mem_singleton.mpr rfl))
      have lv : 1 ≤ v.length := by
        cases v with
        | nil => exact absurd rfl hv.2
        | cons _ _ => exact Nat.le_add_left 1 _
      have ly : 1 ≤ y.length := by
        cases y with
        | nil => exact absurd rfl hy
        | cons _ _ => exact Nat.le_add_left 1 _
      have s := early_suf hu.1 (k := v.length) lv (by rw [k, List.length_append]; omega)
      rw [show u.drop v.length = y from by rw [k, List.drop_left]] at s
      refine hl ?_
      have e : u ++ X.flatten ++ v = v ++ (y ++ (X.flatten ++ v)) := by
        rw (occs := .pos [1]) [k]
        simp
      rw [e]
      exact List.append_left_lt (s.lt _ _)
  · exact g.symm
  · exact absurd g hle
theorem nonInc_all {u : List Nat} : ∀ {X : List (List Nat)}, NonInc (u :: X ++ [u]) → ∀ x ∈ X, x = u
  | [], _, x, h => (List.not_mem_nil h).elim
  | y :: X, h, x, hx => by
    have h1 := nonInc_le (w := u) (vs := (y :: X) ++ [u]) h y List.mem_cons_self
    have h2 := nonInc_le (w := y) (vs := X ++ [u]) h.2 u (List.mem_append_right _ (List.mem_singleton.mpr rfl))
    have e : y = u := by
      rcases tri y u with g | g | g
      · exact absurd g h2
      · exact g
      · exact absurd g h1
    subst e
    rcases List.mem_cons.mp hx with q | q
    · exact q
    · exact nonInc_all (X := X) h.2 x q
/-- what is least of its turnings is an early word some times -/
theorem least_pieces {m : List Nat} (h : 1 ≤ m.length) (hl : ∀ k, k < m.length → ¬ turn m k < m) : ∃ u n, early u = true ∧ u ≠ [] ∧ 1 ≤ n ∧ piecesOf m = List.replicate n u ∧ (List.replicate n u).flatten = m := by
  have hg := pieces_good h
  have hf := pieces_flat h
  have hne := pieces_ne h
  generalize piecesOf m = ps at *
  have key : ∃ u n, 1 ≤ n ∧ ps = List.replicate n u := by
    cases ps with
    | nil => exact absurd rfl hne
    | cons u r =>
      by_cases hr : r = []
      · subst hr
        exact ⟨u, 1, Nat.le_refl _, rfl⟩
      · obtain ⟨X, v, rfl⟩ : ∃ X v, r = X ++ [v] := ⟨_, _, (snoc hr []).symm⟩
        have hv := hg.1 v (List.mem_cons_of_mem _ (List.mem_append_right _ (List.mem_singleton.mpr rfl)))
        have lv : 1 ≤ v.length := by
          cases v with
          | nil => exact absurd rfl hv.2
          | cons _ _ => exact Nat.le_add_left 1 _
        have ln : (u :: X).flatten.length < m.length := by
          rw [← hf]
          show _ < ((u :: X) ++ [v]).flatten.length
          rw [List.flatten_append, List.length_append]
          have : ([v] : List (List Nat)).flatten.length = v.length := by simp
          omega
        have e := least_ends (u := u) (v := v) (X := X) hg (by
          have z := hl _ ln
          rw [← hf] at z
          exact z)
        subst e
        have al := nonInc_all (u := u) (X := X) hg.2
        refine ⟨u, X.length + 2, by omega, ?_⟩
        have eX : X = List.replicate X.length u := List.eq_replicate_iff.mpr ⟨rfl, al⟩
        rw (occs := .pos [1]) [eX]
        rw [List.replicate_succ]
        congr 1
        exact (List.replicate_succ' ..).symm
  obtain ⟨u, n, hn, e⟩ := key
  have hu := hg.1 u (by rw [e]; exact List.mem_replicate.mpr ⟨by omega, rfl⟩)
  exact ⟨u, n, hu.1, hu.2, hn, e, by rw [← e]; exact hf⟩
/-- it comes to itself by no number of steps that is less than the early word's length -/
theorem power_turn {u : List Nat} {n k : Nat} (hu : early u = true) (hn : 1 ≤ n) (h1 : 1 ≤ k) (h2 : k < u.length) : (List.replicate n u).flatten < turn (List.replicate n u).flatten k := by
  obtain ⟨m, rfl⟩ : ∃ m, n = m + 1 := ⟨n - 1, by omega⟩
  have s := early_suf hu h1 h2
  rw [List.replicate_succ, List.flatten_cons]
  unfold turn
  rw [List.drop_append_of_le_length (by omega), List.append_assoc]
  exact s.lt _ _
/-- turned and turned again -/
theorem turn_turn {l : List Nat} {a b : Nat} (ha : a ≤ l.length) (hb : b ≤ l.length) : turn (turn l a) b = if a + b ≤ l.length then turn l (a + b) else turn l (a + b - l.length) := by
  unfold turn
  by_cases h : a + b ≤ l.length
  · rw [if_pos h, List.drop_append_of_le_length (by rw [List.length_drop]; omega), List.take_append_of_le_length (by rw [List.length_drop]; omega), List.drop_drop, List.append_assoc]
    congr 1
    rw [List.take_add]
  · rw [if_neg h]
    have e1 : (l.drop a ++ l.take a).drop b = (l.take a).drop (b - (l.length - a)) := by
      rw [List.drop_append, List.length_drop, List.drop_of_length_le (by rw [List.length_drop]; omega), List.nil_append]
    have e2 : (l.drop a ++ l.take a).take b = l.drop a ++ (l.take a).take (b - (l.length - a)) := by
      rw [List.take_append, List.length_drop, List.take_of_length_le (by rw [List.length_drop]; omega)]
    have e3 : b - (l.length - a) = a + b - l.length := by omega
    rw [e1, e2, e3, List.take_take, Nat.min_eq_left (by omega)]
    have e4 : ∀ j, j ≤ a → l.drop j = (l.take a).drop j ++ l.drop a := fun j hj => by
      have q := congrArg (List.drop j) (List.take_append_drop a l)
      rw [List.drop_append_of_le_length (by rw [List.length_take]; omega)] at q
      exact q.symm
    rw [e4 (a + b - l.length) (by omega), List.append_assoc]
theorem min_least {l : List Nat} (h : 1 ≤ l.length) : ∀ k, k < (minT (turns l)).length → ¬ turn (minT (turns l)) k < minT (turns l) := fun k hk g => by
  have hne : turns l ≠ [] := fun z => by
    have := congrArg List.length z
    rw [turns_len] at this
    have q : l.length = 0 := this
    omega
  obtain ⟨a, ha, e⟩ := List.mem_map.mp (minT_mem hne)
  have ha := List.mem_range.mp ha
  have e : turn l a = minT (turns l) := e
  have hlen : (minT (turns l)).length = l.length := by rw [← e, turn_len]
  have hm : turn (minT (turns l)) k ∈ turns l := by
    rw [← e, turn_turn (by omega) (by omega)]
    by_cases z : a + k ≤ l.length
    · rw [if_pos z]
      by_cases y : a + k = l.length
      · rw [y]
        refine List.mem_map.mpr ⟨0, List.mem_range.mpr (by omega), ?_⟩
        show turn l 0 = turn l l.length
        simp [turn]
      · exact List.mem_map.mpr ⟨a + k, List.mem_range.mpr (by omega), rfl⟩
    · rw [if_neg z]
      exact List.mem_map.mpr ⟨a + k - l.length, List.mem_range.mpr (by omega), rfl⟩
  exact minT_le _ hm g
end Rw
namespace Rw
open PySem PySem.Spec PyProof.Rows L2
theorem turn0 (l : List Nat) : turn l 0 = l := by
  unfold turn
  rw [List.drop_zero, List.take_zero, List.append_nil]
theorem turnN (l : List Nat) : turn l l.length = l := by
  unfold turn
  rw [List.drop_length, List.take_length, List.nil_append]
theorem turn_mem {l : List Nat} {k : Nat} (h1 : 1 ≤ l.length) (h : k ≤ l.length) : turn l k ∈ turns l := by
  by_cases g : k < l.length
  · exact List.mem_map.mpr ⟨k, List.mem_range.mpr g, rfl⟩
  · rw [show k = l.length from by omega, turnN]
    exact List.mem_map.mpr ⟨0, List.mem_range.mpr (by omega), turn0 l⟩
theorem turns_trans {x y z : List Nat} (h : x ∈ turns y) (g : y ∈ turns z) : x ∈ turns z := by
  obtain ⟨a, ha, rfl⟩ := List.mem_map.mp h
  obtain ⟨b, hb, rfl⟩ := List.mem_map.mp g
  have ha := List.mem_range.mp ha
  have hb := List.mem_range.mp hb
  rw [turn_len] at ha
  show turn (turn z b) a ∈ _
  rw [turn_turn (by omega) (by omega)]
  by_cases k : b + a ≤ z.length
  · rw [if_pos k]
    exact turn_mem (by omega) k
  · rw [if_neg k]
    exact turn_mem (by omega) (by omega)
theorem turns_sym {x y : List Nat} (h : x ∈ turns y) : y ∈ turns x := by
  obtain ⟨a, ha, rfl⟩ := List.mem_map.mp h
  have ha := List.mem_range.mp ha
  have e : turn (turn y a) (y.length - a) = y := by
    rw [turn_turn (by omega) (by omega), if_pos (by omega), show a + (y.length - a) = y.length from by omega, turnN]
  have := turn_mem (l := turn y a) (k := y.length - a) (by rw [turn_len]; omega) (by rw [turn_len]; omega)
  rw [e] at this
  exact this
theorem turns_nil {l : List Nat} (h : 1 ≤ l.length) : turns l ≠ [] := fun z => by
  have := congrArg List.length z
  rw [turns_len] at this
  have q : l.length = 0 := this
  omega
theorem ring_iff {l m : List Nat} (hl : 1 ≤ l.length) (hm : 1 ≤ m.length) : m ∈ turns l ↔ minT (turns l) = minT (turns m) := by
  have a1 := minT_mem (turns_nil hl)
  have a2 := minT_mem (turns_nil hm)
  constructor
  · intro h
    have b1 := minT_le _ (turns_trans a2 h)
    have b2 := minT_le _ (turns_trans a1 (turns_sym h))
    rcases tri (minT (turns l)) (minT (turns m)) with q | q | q
    · exact absurd q b2
    · exact q
    · exact absurd q b1
  · intro h
    rw [← h] at a2
    exact turns_trans (turns_sym a2) a1
end Rw
namespace Rw
open PySem PySem.Spec PyProof.Rows L2
/-- the law's own account tells the same book: words in order of coming in, each with its ring's number -/
structure RelP (nx : Nat) (es : List Ent) (ps : List (List Nat × Nat)) : Prop where
  bk : BkP nx es
  ws : ∀ e ∈ es, e.ws = (ps.filter fun q => decide (q.2 = e.n)).map Prod.fst
  all : ∀ q ∈ ps, ∃ e ∈ es, e.n = q.2
theorem RelP.start : RelP 0 [] [] := ⟨⟨fun i j e x h => by simp at h, List.Pairwise.nil, (fun e h => nomatch h), (fun e h => nomatch h)⟩, (fun e h => nomatch h), (fun q h => nomatch h)⟩
theorem filt_none {ps : List (List Nat × Nat)} {n : Nat} (h : ∀ q ∈ ps, q.2 ≠ n) : (ps.filter fun q => decide (q.2 = n)) = [] := List.filter_eq_nil_iff.mpr fun q hq => by simpa using h q hq
theorem RelP.new {nx : Nat} {es : List Ent} {ps : List (List Nat × Nat)} {l : List Nat} {a : Addr} (r : RelP nx es ps) (hl : Wd l) (h : ∀ e ∈ es, e.f ≠ minT (turns l)) : RelP (nx + 1) (es ++ [⟨minT (turns l), nx, a, [l]⟩]) (ps ++ [(l, nx)]) := by
  have hlast : (es ++ [(⟨minT (turns l), nx, a, [l]⟩ : Ent)])[es.length]? = some ⟨minT (turns l), nx, a, [l]⟩ := by
    rw [List.getElem?_append_right (Nat.le_refl _), Nat.sub_self]
    rfl
  have hsplit : ∀ (j : Nat) (e : Ent), (es ++ [(⟨minT (turns l), nx, a, [l]⟩ : Ent)])[j]? = some e → (j < es.length ∧ es[j]? = some e) ∨ (j = es.length ∧ e = ⟨minT (turns l), nx, a, [l]⟩) := fun j e h => by
    by_cases g : j < es.length
    · rw [List.getElem?_append_left g] at h
      exact .inl ⟨g, h⟩
    · have hj := (List.getElem?_eq_some_iff.mp h).1
      rw [List.length_append] at hj
      have hj : j < es.length + 1 := hj
      have : j = es.length := by omega
      subst this
      rw [hlast] at h
      exact .inr ⟨rfl, (Option.some.inj h).symm⟩
  refine ⟨⟨fun j k e y he hy hf => ?_, List.pairwise_append.mpr ⟨r.bk.nu, List.pairwise_singleton _ _, fun e he y hy => ?_⟩, fun e he => ?_, fun e he => ?_⟩, fun e he => ?_, fun q hq => ?_⟩
  · rcases hsplit j e he with ⟨g1, g2⟩ | ⟨g1, rfl⟩
    · rcases hsplit k y hy with ⟨m1, m2⟩ | ⟨m1, rfl⟩
      · exact r.bk.fu j k e y g2 m2 hf
      · exact absurd hf (h e (List.mem_of_getElem? g2))
    · rcases hsplit k y hy with ⟨m1, m2⟩ | ⟨m1, rfl⟩
      · exact absurd hf.symm (h y (List.mem_of_getElem? m2))
      · omega
  · rw [List.mem_singleton.mp hy]
    exact r.bk.nl e he
  · rcases List.mem_append.mp he with g | g
    · have := r.bk.nl e g
      omega
    · rw [List.mem_singleton.mp g]
      exact Nat.lt_succ_self nx
  · rcases List.mem_append.mp he with g | g
    · exact r.bk.ws e g
    · rw [List.mem_singleton.mp g]
      refine ⟨by simp, by simp, fun u hu => ?_⟩
      rw [List.mem_singleton.mp hu]
      exact ⟨hl, rfl⟩
  · rw [List.filter_append, List.map_append]
    rcases List.mem_append.mp he with g | g
    · have hn := r.bk.nl e g
      rw [← r.ws e g, List.filter_cons_of_neg (by simp; omega)]
      simp
    · rw [List.mem_singleton.mp g]
      show [l] = _
      have hz : ∀ q ∈ ps, q.2 ≠ nx := fun q hq => by
        obtain ⟨e, he, z⟩ := r.all q hq
        have := r.bk.nl e he
        omega
      show [l] = (List.map Prod.fst (ps.filter fun q => decide (q.2 = nx))) ++ List.map Prod.fst (List.filter (fun q => decide (q.2 = nx)) [(l, nx)])
      rw [filt_none hz]
      simp
  · rcases List.mem_append.mp hq with g | g
    · obtain ⟨e, he, z⟩ := r.all q g
      exact ⟨e, List.mem_append_left _ he, z⟩
    · rw [List.mem_singleton.mp g]
      exact ⟨_, List.mem_append_right _ (List.mem_singleton.mpr rfl), rfl⟩
/-- the ring of a word is told alike -/
theorem RelP.ring {nx : Nat} {es : List Ent} {ps : List (List Nat × Nat)} (r : RelP nx es ps) {l : List Nat} (hl : Wd l) {q : List Nat × Nat} (hq : q ∈ ps) (ht : q.1 ∈ turns l) : ∃ (i : Nat) (e : Ent), es[i]? = some e ∧ e.n = q.2 ∧ e.f = minT (turns l) := by
  obtain ⟨e, he, en⟩ := r.all q hq
  obtain ⟨i, hi, ei⟩ := List.getElem_of_mem he
  have hw : q.1 ∈ e.ws := by
    rw [r.ws e he]
    exact List.mem_map.mpr ⟨q, List.mem_filter.mpr ⟨hq, decide_eq_true en.symm⟩, rfl⟩
  obtain ⟨w1, w2⟩ := (r.bk.ws e he).2.2 q.1 hw
  exact ⟨i, e, by rw [List.getElem?_eq_getElem hi, ei], en, by rw [← w2, ← (ring_iff hl.1 w1.1).mp ht]⟩
end Rw
namespace Rw
open PySem PySem.Spec PyProof.Rows L2
theorem set_has {es : List Ent} {i : Nat} {e x y : Ent} (he : es[i]? = some e) (hn : x.n = e.n) (hy : y ∈ es) : ∃ z ∈ es.set i x, z.n = y.n := by
  obtain ⟨j, hj, ej⟩ := List.getElem_of_mem hy
  have hyj : es[j]? = some y := by rw [List.getElem?_eq_getElem hj, ej]
  have hlt : i < es.length := (List.getElem?_eq_some_iff.mp he).1
  by_cases g : i = j
  · subst g
    rw [he] at hyj
    cases hyj
    refine ⟨x, List.mem_of_getElem? (i := i) ?_, hn⟩
    rw [List.getElem?_set, if_pos rfl, if_pos hlt]
  · refine ⟨y, List.mem_of_getElem? (i := j) ?_, rfl⟩
    rw [List.getElem?_set, if_neg g]
    exact hyj
theorem set_mem {es : List Ent} {i : Nat} {x y : Ent} (hy : y ∈ es.set i x) : x = y ∨ ∃ j, i ≠ j ∧ es[j]? = some y := by
  obtain ⟨j, hj, ej⟩ := List.getElem_of_mem hy
  have hyj : (es.set i x)[j]? = some y := by rw [List.getElem?_eq_getElem hj, ej]
  rcases set_at hyj with ⟨_, h⟩ | ⟨g, h⟩
  · exact .inl h
  · exact .inr ⟨j, g, h⟩
theorem BkP.set {nx : Nat} {es : List Ent} (b : BkP nx es) {i : Nat} {e : Ent} (he : es[i]? = some e) {ws : List (List Nat)} (hw : ws ≠ [] ∧ ws.Nodup ∧ ∀ u ∈ ws, Wd u ∧ minT (turns u) = e.f) : BkP nx (es.set i { e with ws := ws }) := by
  refine ⟨fun a c y z hy hz hyz => ?_, ?_, fun y hy => ?_, fun y hy => ?_⟩
  · have key : ∀ (a : Nat) (y : Ent), (es.set i { e with ws := ws })[a]? = some y → ∃ y', es[a]? = some y' ∧ y'.f = y.f := fun a y hy => by
      rcases set_at hy with ⟨rfl, rfl⟩ | ⟨_, h⟩
      · exact ⟨e, he, rfl⟩
      · exact ⟨y, h, rfl⟩
    obtain ⟨y', m1, m2⟩ := key a y hy
    obtain ⟨z', m3, m4⟩ := key c z hz
    exact b.fu a c y' z' m1 m3 (by rw [m2, m4]; exact hyz)
  · have hm : (es.set i { e with ws := ws }).map Ent.n = es.map Ent.n := set_map (e := e) (by rfl) he
    have h0 : (es.map Ent.n).Pairwise (· < ·) := List.pairwise_map.mpr b.nu
    rw [← hm] at h0
    exact List.pairwise_map.mp h0
  · rcases set_mem hy with rfl | ⟨j, _, h⟩
    · exact b.nl e (List.mem_of_getElem? he)
    · exact b.nl y (List.mem_of_getElem? h)
  · rcases set_mem hy with rfl | ⟨j, _, h⟩
    · exact hw
    · exact b.ws y (List.mem_of_getElem? h)
theorem RelP.old {nx : Nat} {es : List Ent} {ps : List (List Nat × Nat)} {l : List Nat} (r : RelP nx es ps) (hl : Wd l) {i : Nat} {e : Ent} (he : es[i]? = some e) (hf : e.f = minT (turns l)) (hn : l ∉ e.ws) : RelP nx (es.set i { e with ws := e.ws ++ [l] }) (ps ++ [(l, e.n)]) := by
  have hem := List.mem_of_getElem? he
  obtain ⟨w1, w2, w3⟩ := r.bk.ws e hem
  refine ⟨r.bk.set he ⟨by simp, ?_, fun u hu => ?_⟩, fun y hy => ?_, fun q hq => ?_⟩
  · exact List.nodup_append.mpr ⟨w2, by simp, fun a ha c hc z => by
      rw [List.mem_singleton.mp hc] at z
      rw [z] at ha
      exact hn ha⟩
  · rcases List.mem_append.mp hu with g | g
    · exact w3 u g
    · rw [List.mem_singleton.mp g]
      exact ⟨hl, hf.symm⟩
  · rw [List.filter_append, List.map_append]
    rcases set_mem hy with rfl | ⟨j, g, h⟩
    · show e.ws ++ [l] = _
      rw [r.ws e hem]
      simp
    · have hne : e.n ≠ y.n := fun z => g (num_idx r.bk.nu i j e y he h z)
      rw [← r.ws y (List.mem_of_getElem? h), List.filter_cons_of_neg (by simpa using hne)]
      simp
  · rcases List.mem_append.mp hq with g | g
    · obtain ⟨y, hy, z⟩ := r.all q g
      obtain ⟨x, hx, hxn⟩ := set_has (x := { e with ws := e.ws ++ [l] }) he rfl hy
      exact ⟨x, hx, hxn.trans z⟩
    · rw [List.mem_singleton.mp g]
      exact set_has (x := { e with ws := e.ws ++ [l] }) he rfl hem
end Rw
namespace Rw
open PySem PySem.Spec PyProof.Rows L2
theorem era_filter {l : List Nat} {n m : Nat} : ∀ ps : List (List Nat × Nat), ((ps.erase (l, n)).filter fun q => decide (q.2 = m)).map Prod.fst = if n = m then ((ps.filter fun q => decide (q.2 = m)).map Prod.fst).erase l else (ps.filter fun q => decide (q.2 = m)).map Prod.fst
  | [] => by
    by_cases g : n = m
    · rw [if_pos g]
      rfl
    · rw [if_neg g]
      rfl
  | q :: r => by
    have ih := era_filter (l := l) (n := n) (m := m) r
    by_cases hq : q = (l, n)
    · subst hq
      rw [List.erase_cons_head]
      by_cases g : n = m
      · rw [if_pos g, List.filter_cons_of_pos (by simpa using g), List.map_cons, List.erase_cons_head]
      · rw [if_neg g, List.filter_cons_of_neg (by simpa using g)]
    · rw [List.erase_cons_tail (by simpa using hq)]
      by_cases k : q.2 = m
      · rw [List.filter_cons_of_pos (by simpa using k), List.filter_cons_of_pos (by simpa using k), List.map_cons, List.map_cons, ih]
        by_cases g : n = m
        · rw [if_pos g, if_pos g]
          have hne : ¬ q.1 = l := fun z => hq (Prod.ext z (by rw [k, g]))
          rw [List.erase_cons_tail (by simpa using hne)]
        · rw [if_neg g, if_neg g]
      · rw [List.filter_cons_of_neg (by simpa using k), List.filter_cons_of_neg (by simpa using k), ih]
theorem BkP.drop {nx : Nat} {es : List Ent} (b : BkP nx es) (i : Nat) : BkP nx (es.eraseIdx i) := by
  refine ⟨fun j k y z hy hz hyz => ?_, b.nu.sublist (List.eraseIdx_sublist ..), fun y hy => b.nl y (List.mem_of_mem_eraseIdx hy), fun y hy => b.ws y (List.mem_of_mem_eraseIdx hy)⟩
  have := b.fu _ _ y z (erase_at hy) (erase_at hz) hyz
  by_cases g1 : j < i <;> by_cases g2 : k < i <;> simp only [g1, g2, if_true, if_false] at this <;> omega
theorem drop_mem {es : List Ent} {i : Nat} {y : Ent} (hy : y ∈ es.eraseIdx i) : ∃ j, i ≠ j ∧ es[j]? = some y := by
  obtain ⟨j, hj, ej⟩ := List.getElem_of_mem hy
  have hyj : (es.eraseIdx i)[j]? = some y := by rw [List.getElem?_eq_getElem hj, ej]
  refine ⟨_, ?_, erase_at hyj⟩
  by_cases g : j < i
  · rw [if_pos g]
    omega
  · rw [if_neg g]
    omega
theorem drop_has {es : List Ent} {i j : Nat} {y : Ent} (hy : es[j]? = some y) (h : i ≠ j) : y ∈ es.eraseIdx i := by
  by_cases g : j < i
  · refine List.mem_of_getElem? (i := j) ?_
    rw [List.getElem?_eraseIdx, if_pos g]
    exact hy
  · refine List.mem_of_getElem? (i := j - 1) ?_
    rw [List.getElem?_eraseIdx, if_neg (by omega), show j - 1 + 1 = j from by omega]
    exact hy
theorem RelP.take {nx : Nat} {es : List Ent} {ps : List (List Nat × Nat)} {l : List Nat} (r : RelP nx es ps) {i : Nat} {e : Ent} (he : es[i]? = some e) (hl : l ∈ e.ws) : RelP nx (takeE es i e l) (ps.erase (l, e.n)) := by
  have hem := List.mem_of_getElem? he
  obtain ⟨w1, w2, w3⟩ := r.bk.ws e hem
  have hwe := r.ws e hem
  have hkey := era_filter (l := l) (n := e.n) (m := e.n) ps
  rw [if_pos rfl, ← hwe] at hkey
  have hoth : ∀ (j : Nat) (y : Ent), i ≠ j → es[j]? = some y → y.ws = ((ps.erase (l, e.n)).filter fun q => decide (q.2 = y.n)).map Prod.fst := fun j y g h => by
    have hne : ¬ e.n = y.n := fun z => g (num_idx r.bk.nu i j e y he h z)
    rw [era_filter, if_neg hne]
    exact r.ws y (List.mem_of_getElem? h)
  unfold takeE
  by_cases g : e.ws.erase l = []
  · rw [if_pos g]
    refine ⟨r.bk.drop i, fun y hy => ?_, fun q hq => ?_⟩
    · obtain ⟨j, h1, h2⟩ := drop_mem hy
      exact hoth j y h1 h2
    · obtain ⟨y, hy, z⟩ := r.all q (List.mem_of_mem_erase hq)
      obtain ⟨j, hj, ej⟩ := List.getElem_of_mem hy
      have hyj : es[j]? = some y := by rw [List.getElem?_eq_getElem hj, ej]
      refine ⟨y, drop_has hyj fun hij => ?_, z⟩
      subst hij
      rw [he] at hyj
      cases hyj
      have : q.1 ∈ ((ps.erase (l, e.n)).filter fun q => decide (q.2 = e.n)).map Prod.fst := List.mem_map.mpr ⟨q, List.mem_filter.mpr ⟨hq, decide_eq_true z.symm⟩, rfl⟩
      rw [hkey, g] at this
      exact List.not_mem_nil this
  · rw [if_neg g]
    refine ⟨r.bk.set he ⟨g, w2.erase l, fun u hu => w3 u (List.mem_of_mem_erase hu)⟩, fun y hy => ?_, fun q hq => ?_⟩
    · rcases set_mem hy with rfl | ⟨j, h1, h2⟩
      · exact hkey.symm
      · exact hoth j y h1 h2
    · obtain ⟨y, hy, z⟩ := r.all q (List.mem_of_mem_erase hq)
      obtain ⟨x, hx, hxn⟩ := set_has (x := { e with ws := e.ws.erase l }) he rfl hy
      exact ⟨x, hx, hxn.trans z⟩
end Rw
namespace Rw
open PySem PySem.Spec PyProof.Rows L2
/-- the law's own account in the heap -/
structure OwH (H : Hp) (o wl : Addr) (nx : Nat) (ts : List Addr) (ps : List (List Nat × Nat)) : Prop where
  ho : H o = some (.dK [(.inr "words", .ref wl), (.inr "next", .int (nx : Nat))])
  hw : H wl = some (.lst (ts.map V.ref))
  hl : ts.length = ps.length
  ht : ∀ (i : Nat) (t : Addr) (q : List Nat × Nat), ts[i]? = some t → ps[i]? = some q → H t = some (.tup [tv q.1, .int (q.2 : Nat)])
theorem OwH.same {H H' : Hp} {o wl : Addr} {nx : Nat} {ts : List Addr} {ps : List (List Nat × Nat)} (w : OwH H o wl nx ts ps) (e : Same H H') : OwH H' o wl nx ts ps :=
  ⟨e _ _ w.ho, e _ _ w.hw, w.hl, fun i t q h1 h2 => e _ _ (w.ht i t q h1 h2)⟩
theorem OwH.words {H : Hp} {o wl : Addr} {nx : Nat} {ts : List Addr} {ps : List (List Nat × Nat)} (w : OwH H o wl nx ts ps) : DGet H o (.str "words") (some (.ref wl)) :=
  .inl ⟨_, .inr "words", .inl w.ho, rfl, by rw [valV_pos rfl]⟩
theorem OwH.next {H : Hp} {o wl : Addr} {nx : Nat} {ts : List Addr} {ps : List (List Nat × Nat)} (w : OwH H o wl nx ts ps) : DGet H o (.str "next") (some (.int (nx : Nat))) :=
  .inl ⟨_, .inr "next", .inl w.ho, rfl, by
    have h : ¬ (("words" : Str) = "next") := by decide +kernel
    rw [valV_neg (fun z => h (Sum.inr.inj z)), valV_pos rfl]⟩
def ringV (ps : List (List Nat × Nat)) (l : List Nat) : V := match ps.find? fun q => decide (q.1 ∈ turns l) with
  | none => .non
  | some q => .int (q.2 : Nat)
def spLRing : Sp := fun vs H Q _ => ∃ (o wl : Addr) (nx : Nat) (ts : List Addr) (ps : List (List Nat × Nat)) (l : List Nat), vs = [.ref o, tv l] ∧ OwH H o wl nx ts ps ∧ ps.length ≤ 1000 ∧ l.length ≤ 1000 ∧ ∀ H', Same H H' → Q (ringV ps l) H'
end Rw
namespace Rk
open PySem PySem.Spec PyProof.Rows L2 Rw
abbrev s_l_ring : Stmt := topS 25
abbrev n_l_ring : List Str := ["_law_own", "_law_word", "_law_one", "_law_number"]
abbrev p_l_ring : List Str := ["_law_own", "_law_word"]
theorem sc_l_ring : FnScope n_l_ring p_l_ring (defScope s_l_ring) := ⟨rfl, rfl, rfl, by decide +kernel, rfl, by decide +kernel, by decide +kernel⟩
section
variable {P : Program} {w : World} {K : PySem.W.Frag} {mg : Str → Option Value} {base : Heap} (B : Bt mg)
include B
theorem ok_lring (D : Dfn K mg "_law_ring" s_l_ring p_l_ring) (c__law_turnings : Cal CX0 P w K mg base 1 "_law_turnings" spLTurnings) : Cal CX0 P w K mg base 2 "_law_ring" spLRing := by
  refine D.cal fun f fd F => F.ok sc_l_ring (fun vs H Q E h => ?_) (fun cdv A outer st H vs Q E hr h => ?_)
  · obtain ⟨o, wl, nx, ts, ps, l, rfl, _⟩ := h
    rfl
  · obtain ⟨o, wl, nx, ts, ps, l, rfl, hw, hp, hl, q⟩ := h
    refine ⟨_, (pss_cons (ps_for PassesOwn.never rfl (pi_list (pe_dget (hu_of hr) (pv 0) pe_str (fun _ _ => rfl))) (pg_tup rfl (pgs_cons (pg_name (i := 2) sc_l_ring.nd rfl (Or.inl rfl)) (pgs_cons (pg_name (i := 3) sc_l_ring.nd rfl (Or.inl rfl)) pgs_nil)))
        (pss_one (ps_if (pt_cmpR op_inT (pv 2) (pe_cal c__law_turnings hr (by decide) pass0 (pa_cons (pv 1) pa_nil)) (by rfl)) (pss_one (ps_ret (pv 3))) pss_nil)))
      (pss_one (ps_ret pe_non))), ?_⟩
    refine ⟨_, rfl, o, .ref wl, rfl, hw.words, wl, rfl, ⟨_, SqL.of hw.hw⟩, for_list (xs := ts.map V.ref) (fun i σ H' => ∃ y z, σ = [some (.ref o), some (tv l), y, z] ∧ Same H H' ∧ ∀ (j : Nat) (q : List Nat × Nat), j < i → ps[j]? = some q → q.1 ∉ turns l) ⟨none, none, rfl, Same.refl H, fun j q h => absurd h (by omega)⟩ (fun i σ H' _ ⟨_, _, _, e, _⟩ => SqL.of (e _ _ hw.hw)) ?_ ?_⟩
    · rintro i x σ H1 hxi ⟨y, z, rfl, e1, hno⟩
      obtain ⟨t, ht, rfl⟩ : ∃ t, ts[i]? = some t ∧ V.ref t = x := by
        rw [List.getElem?_map] at hxi
        obtain ⟨t, ht, e⟩ := Option.map_eq_some_iff.mp hxi
        exact ⟨t, ht, e⟩
      have hi : i < ps.length := by
        have := (List.getElem?_eq_some_iff.mp ht).1
        rw [hw.hl] at this
        exact this
      have hq : ps[i]? = some ps[i] := List.getElem?_eq_getElem hi
      have htt := e1 _ _ (hw.ht i t _ ht hq)
      refine ⟨t, _, rfl, SqT.of htt, rfl, _, _, rfl, _, _, rfl, rfl, ?_⟩
      refine ⟨_, rfl, _, rfl, l, rfl, hl, fun p H2 np e2 hpp => ⟨p, ps[i].1, turns l, rfl, rfl, SqL.of hpp, _, rfl, ite2 (fun g => ?_) (fun g => ?_)⟩⟩
      · have g : ps[i].1 ∈ turns l := of_decide_eq_true g
        have er : ringV ps l = .int (ps[i].2 : Nat) := by
          unfold ringV
          have hf : ps.find? (fun q => decide (q.1 ∈ turns l)) = some ps[i] := by
            refine List.find?_eq_some_iff_getElem.mpr ⟨decide_eq_true g, i, hi, rfl, fun j hj => ?_⟩
            have := hno j _ hj (List.getElem?_eq_getElem (by omega))
            simpa using this
          rw [hf]
        rw [er] at q
        exact ⟨_, rfl, q H2 (e1.trans e2)⟩
      · have g : ps[i].1 ∉ turns l := of_decide_eq_false (by simpa using g)
        refine ⟨_, _, rfl, e1.trans e2, fun j q' hj hq' => ?_⟩
        by_cases h : j = i
        · subst h
          rw [hq] at hq'
          cases hq'
          exact g
        · exact hno j q' (by omega) hq'
    · rintro σ H1 ⟨y, z, rfl, e1, hno⟩
      have er : ringV ps l = .non := by
        unfold ringV
        have hf : ps.find? (fun q => decide (q.1 ∈ turns l)) = none := by
          refine List.find?_eq_none.mpr fun q hq => ?_
          obtain ⟨j, hj, ej⟩ := List.getElem_of_mem hq
          have := hno j q (by rw [List.length_map, hw.hl]; exact hj) (by rw [List.getElem?_eq_getElem hj, ej])
          simpa using this
        rw [hf]
      rw [er] at q
      exact q H1 e1
end
end Rk
namespace Rk
open PySem PySem.Spec PyProof.Rows L2 Rw
/-- so many lists of one sign -/
def Ones (i : Nat) (acc : List V) : Prop := ∃ ls : List (List Nat), acc = tvs ls ∧ ls.length = i ∧ ∀ x ∈ ls, Sign1 x
theorem Ones.nil : Ones 0 [] := ⟨[], rfl, rfl, fun x hx => by simp at hx⟩
theorem Ones.snoc {i : Nat} {acc : List V} {c : Nat} (h : Ones i acc) (h1 : 97 ≤ c) (h2 : c ≤ 122) : Ones (i + 1) (acc ++ [tv [c]]) := by
  obtain ⟨ls, rfl, hl, ho⟩ := h
  refine ⟨ls ++ [[c]], by simp, by simp [hl], fun x hx => ?_⟩
  rcases List.mem_append.mp hx with z | z
  · exact ho x z
  · have : x = [c] := by simpa using z
    exact ⟨c, this, h1, h2⟩
end Rk
namespace Rk
open PySem PySem.Spec PyProof.Rows L2 Rw
abbrev s_l_drawn : Stmt := topS 21
abbrev n_l_drawn : List Str := ["_law_cell", "_law_signs", "_law_many", "_law_k"]
abbrev p_l_drawn : List Str := ["_law_cell", "_law_signs", "_law_many"]
theorem sc_l_drawn : FnScope n_l_drawn p_l_drawn (defScope s_l_drawn) := ⟨rfl, rfl, rfl, by decide +kernel, rfl, by decide +kernel, by decide +kernel⟩
section
variable {P : Program} {w : World} {K : PySem.W.Frag} {mg : Str → Option Value} {base : Heap} (B : Bt mg)
include B
theorem ok_drawn (D : Dfn K mg "_law_drawn" s_l_drawn p_l_drawn) (c__law_mixed : Cal CX0 P w K mg base 1 "_law_mixed" spMixed) : Cal CX0 P w K mg base 2 "_law_drawn" spDrawn := by
  refine D.cal fun f fd F => F.ok sc_l_drawn (fun vs H Q E h => ?_) (fun cdv A outer s H vs Q E hr h => ?_)
  · obtain ⟨c, s, n, rfl, _⟩ := h
    rfl
  · obtain ⟨c, s, n, rfl, s1, s2, sg, hn, q⟩ := h
    refine ⟨_, (pss_one (ps_ret (pe_joinT pe_str (pe_lc (own := [("_law_k", 3)]) rfl sc_l_drawn.nd (pi_range1 (by rfl) B.m_range (pa_cons (pv 2) pa_nil)) (blkOk_by (own := [("_law_k", 3)]) (N := n_l_drawn) (sc := defScope s_l_drawn) (by decide +kernel)) (fun _ _ _ _ _ => (pg_name (i := 3) sc_l_drawn.nd rfl (Or.inl rfl))) (fun _ _ _ _ _ => pts_nil) (fun _ _ _ _ _ => (pe_ix ix_T (pv 1) (pe_op op_mod (pe_op op_fdiv (pe_cal c__law_mixed hr (by decide) pass0 (pa_cons (pv 0) (pa_cons (pe_op op_add pe_int (pv 3)) pa_nil))) pe_int) (pe_callB call_lenT (by rfl) B.m_len PySem.boot_len (pa_cons (pv 1) pa_nil))) (fun _ _ => rfl))))))), ?_⟩
    refine ⟨⟨_, rfl⟩, _, rfl, _, rfl, by omega, by omega, fun Dl hD => ?_⟩
    refine lc_it walk_range (LcP _ Dl Ones) (lcp_start hD Ones.nil) (fun _ _ _ _ => trivial) ?_ ?_
    · rintro i x H2 H2' hi ⟨_, acc, e, hD2, hlen, ho⟩ ⟨rfl, rfl⟩
      have hi : i < n := hi
      refine ⟨rfl, keepAll ?_⟩
      refine ⟨_, rfl, _, rfl, _, rfl, _, _, rfl, rfl, c, _, rfl, fun i3 k0 k1 => ?_⟩
      have h1 : (0 : Int) < (s.length : Nat) := by omega
      obtain ⟨d0, d1⟩ := draw7 k0 h1
      obtain ⟨a, ha, hat⟩ := at_some d0 d1
      refine ⟨i3, 7, rfl, rfl, ⟨by decide, by decide⟩, _, rfl, s, rfl, by omega, _, _, rfl, rfl, h1, s, _, a, rfl, rfl, by omega, hat, ?_⟩
      exact lcp_put hD e hD2 hlen (by omega) (Same.refl _) (ho.snoc (sg a ha).1 (sg a ha).2)
    · rintro H2 ⟨_, acc, e, hD2, _, ls, rfl, hl, ho⟩
      obtain ⟨f1, f2⟩ := flat_one ho
      have hl : ls.length = n := hl
      exact ⟨Dl, ls, rfl, rfl, SqL.of hD2, by omega, q _ _ e (by omega) f2⟩
end
end Rk
namespace Rw
open PySem PySem.Spec PyProof.Rows L2
def spLWhole : Sp := fun vs H Q _ => ∃ a b : Int, vs = [.int a, .int b] ∧ Q (.bl (decide (a = b))) H
end Rw
namespace Rk
open PySem PySem.Spec PyProof.Rows L2 Rw
abbrev s_l_whole : Stmt := topS 20
abbrev n_l_whole : List Str := ["_law_found", "_law_due_here"]
abbrev p_l_whole : List Str := ["_law_found", "_law_due_here"]
theorem sc_l_whole : FnScope n_l_whole p_l_whole (defScope s_l_whole) := ⟨rfl, rfl, rfl, by decide +kernel, rfl, by decide +kernel, by decide +kernel⟩
section
variable {P : Program} {w : World} {K : PySem.W.Frag} {mg : Str → Option Value} {base : Heap} (B : Bt mg)
include B
theorem ok_lwhole (D : Dfn K mg "_law_whole" s_l_whole p_l_whole) : Cal CX0 P w K mg base 1 "_law_whole" spLWhole := by
  refine D.cal fun f fd F => F.ok sc_l_whole (fun vs H Q E h => ?_) (fun cdv A outer s H vs Q E hr h => ?_)
  · obtain ⟨a, b, rfl, _⟩ := h
    rfl
  · obtain ⟨a, b, rfl, q⟩ := h
    refine ⟨_, (pss_one (ps_ret (pe_and (pe_callB call_isi (by rfl) B.m_isinstance (by decide +kernel) (pa_cons (pv 0) (pa_cons (pe_bltn (v := .ty "int") (u := .type "int") rfl B.m_int (by decide +kernel) rfl) pa_nil))) (pe_and (pe_not (pe_callB call_isi (by rfl) B.m_isinstance (by decide +kernel) (pa_cons (pv 0) (pa_cons (pe_bltn (v := .ty "bool") (u := .type "bool") rfl B.m_bool (by decide +kernel) rfl) pa_nil)))) (pe_one (pe_cmpR op_eq (pv 0) (pv 1) (nomark _))))))), ?_⟩
    refine ⟨_, rfl, _, _, _, _, true, rfl, .ty "int", .base (.int a), kit_ty (by decide +kernel), true, rfl, iteT ?_⟩
    refine ⟨_, rfl, _, _, _, _, false, rfl, .ty "bool", .base (.int a), kit_ty (by decide +kernel), ?_⟩
    refine ⟨false, rfl, true, rfl, iteT ?_⟩
    refine ⟨_, rfl, _, rfl, rfl, ?_⟩
    have e : decide (V.int a = V.int b) = decide (a = b) := decide_eq_decide.mpr ⟨V.int.inj, congrArg _⟩
    rw [e]
    exact q
end
end Rk
namespace Rk
open PySem PySem.Spec PyProof.Rows L2 Rw
abbrev s_l_no_word : Stmt := topS 23
abbrev n_l_no_word : List Str := ["_law_mix", "_law_some"]
abbrev p_l_no_word : List Str := ["_law_mix"]
theorem sc_l_no_word : FnScope n_l_no_word p_l_no_word (defScope s_l_no_word) := ⟨rfl, rfl, rfl, by decide +kernel, rfl, by decide +kernel, by decide +kernel⟩
theorem th_str {K : PySem.W.Frag} {H : Hp} (x : Str) (l : List Nat) (e : x = T l) (hz : l.length ≤ 100000) (h : decide (Wd l) = false) : Th K H (.str x) false := .inl ⟨l, by rw [e], hz, h.symm⟩
theorem th_int {K : PySem.W.Frag} {H : Hp} (i : Int) : Th K H (.int i) false := .inr ⟨rfl, "int", .base (.int i), by decide +kernel⟩
section
variable {P : Program} {w : World} {K : PySem.W.Frag} {mg : Str → Option Value} {base : Heap} 
theorem ok_no_word (D : Dfn K mg "_law_no_word" s_l_no_word p_l_no_word) : Cal CX0 P w K mg base 1 "_law_no_word" (spNoWord K) := by
  refine D.cal fun f fd F => F.ok sc_l_no_word (fun vs H Q E h => ?_) (fun cdv A outer s H vs Q E hr h => ?_)
  · obtain ⟨c, rfl, _⟩ := h
    rfl
  · obtain ⟨m, rfl, q⟩ := h
    refine ⟨_, (pss_cons (ps_set (i := 1) sc_l_no_word.nd rfl (Or.inl rfl) (pe_lst (pa_cons pe_non (pa_cons pe_str (pa_cons pe_int (pa_cons pe_str (pa_cons pe_str (pa_cons pe_str (pa_cons (pe_lst (pa_cons pe_str pa_nil)) (pa_cons (pe_tup (pa_cons pe_str pa_nil)) (pa_cons (pe_op op_rep_str pe_str pe_int) (pa_cons pe_bl (pa_cons pe_str (pa_cons pe_str (pa_cons pe_dnewK (pa_cons pe_str (pa_cons pe_int (pa_cons pe_str pa_nil))))))))))))))))))
      (pss_one (ps_ret (pe_ix ix_list (pv 1) (pe_op op_mod (pe_op op_fdiv (pv 0) pe_int) pe_int) (fun _ _ => rfl))))), ?_⟩
    refine ⟨(show 1 ≤ sizeLine by decide), fun p1 n1 => ⟨(show 1 ≤ sizeLine by decide), fun p2 n2 => ⟨[97], 301, rfl, rfl, by decide, by decide, by decide, fun p3 n3 => ⟨(show 16 ≤ sizeLine by decide), fun p4 n4 => ?_⟩⟩⟩⟩
    generalize hL : ([V.non, V.str "", V.int 5, V.str "aB", V.str "a b", V.str "a1", V.ref p1, V.ref p2, tv (List.replicate (301 : Int).toNat [97]).flatten, V.bl true, V.str "ab-", V.str "A", V.ref p3, V.str "a.", V.int 0, V.str "\n"] : List V) = L
    obtain ⟨d0, d1⟩ : 0 ≤ m / 7 % 16 ∧ m / 7 % 16 < 16 := ⟨Int.emod_nonneg _ (by decide), Int.emod_lt_of_pos _ (by decide)⟩
    obtain ⟨v, hv, ha⟩ := at_some (xs := L) d0 (by rw [← hL]; exact d1)
    refine ⟨_, rfl, _, rfl, _, 7, rfl, rfl, ⟨by decide, by decide⟩, _, _, rfl, rfl, (show (0 : Int) < 16 by decide), p4, _, _, v, rfl, rfl, SqL.of upd_same, ha, ?_⟩
    have k1 : Same H (upd H p1 (.lst [V.str "a"])) := same_upd n1
    have k2 := same_upd (o := .tup [V.str "a"]) n2
    have k3 := same_upd (o := .dK []) n3
    have k4 := same_upd (o := .lst L) n4
    refine q v _ (((k1.trans k2).trans k3).trans k4) ?_
    have f1 := (k2.trans (k3.trans k4)) p1 _ upd_same
    have f2 := (k3.trans k4) p2 _ upd_same
    have f3 := k4 p3 _ upd_same
    rw [← hL] at hv
    simp only [List.mem_cons, List.not_mem_nil, or_false] at hv
    rcases hv with rfl | rfl | rfl | rfl | rfl | rfl | rfl | rfl | rfl | rfl | rfl | rfl | rfl | rfl | rfl | rfl
    · exact .inr ⟨rfl, "NoneType", .base .non, by decide +kernel⟩
    · exact th_str _ [] (by decide +kernel) (by decide) (by decide)
    · exact th_int 5
    · exact th_str _ [97, 66] (by decide +kernel) (by decide) (by decide)
    · exact th_str _ [97, 32, 98] (by decide +kernel) (by decide) (by decide)
    · exact th_str _ [97, 49] (by decide +kernel) (by decide) (by decide)
    · exact .inr ⟨rfl, "list", .base (.lst f1), by decide +kernel⟩
    · exact .inr ⟨rfl, "tuple", .base (.tup f2), by decide +kernel⟩
    · refine .inl ⟨_, rfl, by rw [List.length_flatten]; decide +kernel, (decide_eq_false fun z => ?_).symm⟩
      have := z.2.1
      have e : (List.replicate (301 : Int).toNat [97]).flatten.length = 301 := by decide +kernel
      omega
    · exact .inr ⟨rfl, "bool", .base (.bl true), by decide +kernel⟩
    · exact th_str _ [97, 98, 45] (by decide +kernel) (by decide) (by decide)
    · exact th_str _ [65] (by decide +kernel) (by decide) (by decide)
    · exact .inr ⟨rfl, "dict", .base (.dK f3), by decide +kernel⟩
    · exact th_str _ [97, 46] (by decide +kernel) (by decide) (by decide)
    · exact th_int 0
    · exact th_str _ [10] (by decide +kernel) (by decide) (by decide)
end
end Rk
namespace Rw
open PySem PySem.Spec PyProof.Rows L2
theorem RelP.out {nx : Nat} {es : List Ent} {ps : List (List Nat × Nat)} (r : RelP nx es ps) {l : List Nat} (hl : Wd l) : RingOut es (minT (turns l)) (ringV ps l) := by
  unfold ringV
  cases hf : ps.find? fun q => decide (q.1 ∈ turns l) with
  | none =>
    refine .no fun e he z => ?_
    obtain ⟨w1, _, w3⟩ := r.bk.ws e he
    obtain ⟨u, hu⟩ := List.exists_mem_of_ne_nil _ w1
    obtain ⟨x1, x2⟩ := w3 u hu
    rw [r.ws e he] at hu
    obtain ⟨q, hq, rfl⟩ := List.mem_map.mp hu
    have hq := (List.mem_filter.mp hq).1
    have := List.find?_eq_none.mp hf q hq
    exact this (decide_eq_true ((ring_iff hl.1 x1.1).mpr (by rw [x2, z])))
  | some q =>
    have h1 := List.find?_some hf
    obtain ⟨i, e, he, hn, hfm⟩ := r.ring hl (List.mem_of_find?_eq_some hf) (of_decide_eq_true h1)
    show RingOut es _ (.int (q.2 : Nat))
    rw [← hn]
    exact .yes he hfm
theorem RingOut.uniq {nx : Nat} {es : List Ent} (b : BkP nx es) {f : List Nat} {r1 r2 : V} (h1 : RingOut es f r1) (h2 : RingOut es f r2) : r1 = r2 := by
  cases h1 with
  | no h =>
    cases h2 with
    | no _ => rfl
    | yes g1 g2 => exact absurd g2 (h _ (List.mem_of_getElem? g1))
  | @yes i e m1 m2 =>
    cases h2 with
    | no h => exact absurd m2 (h _ (List.mem_of_getElem? m1))
    | @yes j x g1 g2 =>
      have := b.fu i j e x m1 g1 (by rw [m2, g2])
      subst this
      rw [m1] at g1
      cases g1
      rfl
end Rw
namespace Rw
open PySem PySem.Spec PyProof.Rows L2
theorem ix_tupK {X : Cx} {K : PySem.W.Frag} (hK : X.K = K) : IxR X (L2.rIxT K) := hK ▸ ix_tup
/-- n not in numbers -/
theorem flat_ints (ns : List Int) : (ns.map V.int).all flatV = true := by simp [List.all_map]; intro x _; rfl
theorem inV_ints (k : Int) (ns : List Int) : inV (.int k) (ns.map V.int) = decide (k ∈ ns) := by
  unfold inV
  induction ns with
  | nil => simp
  | cons a r ih =>
    rw [List.map_cons, List.any_cons, ih]
    have e : eqV (V.int a) (V.int k) = decide (a = k) := by
      show (a == k) = _
      rw [Bool.eq_iff_iff]
      simp
    rw [e]
    by_cases h : a = k
    · simp [h]
    · have h' : ¬ k = a := fun z => h z.symm
      simp [h, h']
def rNotInI (K : PySem.W.Frag) : R2 := fun x y H Q => ∃ (p : Addr) (k : Int) (ns : List Int), x = .int k ∧ y = .ref p ∧ SqL K H p (ns.map V.int) ∧ Q (.bl (!decide (k ∈ ns))) H
theorem op_notInI {X : Cx} : OpR X (compareOp .NotIn) (rNotInI X.K) := fun pins s σ H x y v u Q I rx ry ⟨p, k, ns, e1, e2, hs, q⟩ =>
  op_notIn_seq pins s σ H x y v u Q I rx ry ⟨p, ns.map V.int, e2, .inl hs, by rw [e1]; rfl, flat_ints ns, by rw [e1, inV_ints]; exact q⟩
/-- != of what is told -/
def rNeX (K : PySem.W.Frag) : R2 := fun x y H Q => rNe x y H Q ∨ rEqL K true x y H Q
theorem op_neX {X : Cx} (hu : X.A.units + 64 < cLine) : OpR X (compareOp .NotEq) (rNeX X.K) := fun pins s σ H x y v u Q I rx ry h => by
  rcases h with h | h
  · exact op_ne pins s σ H x y v u Q I rx ry h
  · exact op_neL hu pins s σ H x y v u Q I rx ry h
theorem int_uniq : ∀ {a b : List Int}, a.Pairwise (· < ·) → b.Pairwise (· < ·) → (∀ k, k ∈ a ↔ k ∈ b) → a = b
  | [], [], _, _, _ => rfl
  | [], y :: r, _, _, h => absurd ((h y).mpr List.mem_cons_self) List.not_mem_nil
  | x :: r, [], _, _, h => absurd ((h x).mp List.mem_cons_self) List.not_mem_nil
  | x :: a, y :: b, ha, hb, h => by
    obtain ⟨a1, a2⟩ := List.pairwise_cons.mp ha
    obtain ⟨b1, b2⟩ := List.pairwise_cons.mp hb
    have e : x = y := by
      rcases List.mem_cons.mp ((h x).mp List.mem_cons_self) with q | q
      · exact q
      · rcases List.mem_cons.mp ((h y).mpr List.mem_cons_self) with p | p
        · exact p.symm
        · have := a1 y p
          have := b1 x q
          omega
    subst e
    rw [int_uniq a2 b2 fun k => ?_]
    have hk := h k
    rw [List.mem_cons, List.mem_cons] at hk
    constructor
    · intro m
      rcases hk.mp (.inr m) with q | q
      · have := a1 k m
        omega
      · exact q
    · intro m
      rcases hk.mpr (.inr m) with q | q
      · have := b1 k m
        omega
      · exact q
end Rw
namespace Rw
open PySem PySem.Spec PyProof.Rows L2
theorem OwH.tps {H : Hp} {o wl : Addr} {nx : Nat} {ts : List Addr} {ps : List (List Nat × Nat)} (w : OwH H o wl nx ts ps) : Tps H ts (ps.map two) := by
  refine ⟨by rw [List.length_map]; exact w.hl, fun i t xs h1 h2 => ?_⟩
  rw [List.getElem?_map] at h2
  obtain ⟨q, hq, rfl⟩ := Option.map_eq_some_iff.mp h2
  exact w.ht i t q h1 hq
theorem OwH.mk' {H : Hp} {o wl : Addr} {nx : Nat} {ts : List Addr} {ps : List (List Nat × Nat)} (h1 : H o = some (.dK [(.inr "words", .ref wl), (.inr "next", .int (nx : Nat))])) (h2 : H wl = some (.lst (ts.map V.ref))) (h3 : Tps H ts (ps.map two)) : OwH H o wl nx ts ps :=
  ⟨h1, h2, by have := h3.1; rw [List.length_map] at this; exact this, fun i t q a b => h3.2 i t (two q) a (by rw [List.getElem?_map, b]; rfl)⟩
theorem put_next (a b v : V) : putK [((.inr "words" : Key), a), (.inr "next", b)] (.inr "next") v = [(.inr "words", a), (.inr "next", v)] := by
  have h : ¬ (("words" : Str) = "next") := by decide +kernel
  have h' : ¬ ((.inr "words" : Key) = .inr "next") := fun z => h (Sum.inr.inj z)
  unfold putK
  rw [if_pos (by simp)]
  simp only [List.map_cons, List.map_nil]
  rw [if_neg h', if_pos trivial]
def numOf (ps : List (List Nat × Nat)) (nx : Nat) (l : List Nat) : Nat := match ps.find? fun q => decide (q.1 ∈ turns l) with
  | none => nx
  | some q => q.2
def nxOf (ps : List (List Nat × Nat)) (nx : Nat) (l : List Nat) : Nat := match ps.find? fun q => decide (q.1 ∈ turns l) with
  | none => nx + 1
  | some _ => nx
/-- what the account tells, by the way it is asked -/
def Due (H : Hp) (o wl : Addr) (nx : Nat) (ts : List Addr) (ps : List (List Nat × Nat)) (l : List Nat) (Q : VK) : Nat → Prop
  | 0 => (l ∈ ps.map Prod.fst → ∀ H', Same H H' → Q (tv (markT 5)) H') ∧
    (l ∉ ps.map Prod.fst → ∀ (t : Addr) (H' : Hp), H t = none → OwH H' o wl (nxOf ps nx l) (ts ++ [t]) (ps ++ [(l, numOf ps nx l)]) → Fr [o, wl] H H' → Q (.int (numOf ps nx l : Nat)) H')
  | 1 => (l ∉ ps.map Prod.fst → ∀ H', Same H H' → Q (tv (markT 4)) H') ∧
    (∀ n : Nat, ringV ps l = .int (n : Nat) → (l, n) ∈ ps → ∀ (ts' : List Addr) (H' : Hp), OwH H' o wl nx ts' (ps.erase (l, n)) → Fr [o, wl] H H' → Q (.int (n : Nat)) H')
  | 2 => ∀ H', Same H H' → Q (ringV ps l) H'
  | _ => newT ((ps.filter fun q : List Nat × Nat => decide (V.int (q.2 : Nat) = ringV ps l) && !decide (q.1 = l)).map Prod.fst) H Q
/-- a word's number is one and the same wherever it stands -/
def OneN (ps : List (List Nat × Nat)) (l : List Nat) : Prop := l ∈ ps.map Prod.fst → ∃ n : Nat, ringV ps l = .int (n : Nat) ∧ (l, n) ∈ ps
def spLDue : Sp := fun vs H Q _ => ∃ (o wl : Addr) (nx : Nat) (ts : List Addr) (ps : List (List Nat × Nat)) (l : List Nat) (way : Nat), vs = [.ref o, .int (way : Nat), tv l] ∧ OwH H o wl nx ts ps ∧ ps.length ≤ 1000 ∧ l.length ≤ 1000 ∧ (∀ q ∈ ps, Ok q.1) ∧ OneN ps l ∧ way < 4 ∧ Due H o wl nx ts ps l Q way
theorem num_ring {ps : List (List Nat × Nat)} {nx : Nat} {l : List Nat} : (ringV ps l = .non ∧ numOf ps nx l = nx ∧ nxOf ps nx l = nx + 1) ∨ (∃ n : Nat, ringV ps l = .int (n : Nat) ∧ numOf ps nx l = n ∧ nxOf ps nx l = nx) := by
  unfold ringV numOf nxOf
  cases ps.find? fun q => decide (q.1 ∈ turns l) with
  | none => exact .inl ⟨rfl, rfl, rfl⟩
  | some q => exact .inr ⟨q.2, rfl, rfl, rfl⟩
theorem has_two (ps : List (List Nat × Nat)) (l : List Nat) : (!decide (((ps.filter fun q : List Nat × Nat => decide (q.1 = l)).map two) = [])) = decide (l ∈ ps.map Prod.fst) := by
  rw [Bool.eq_iff_iff]
  simp only [Bool.not_eq_true', decide_eq_false_iff_not, decide_eq_true_eq, List.map_eq_nil_iff, List.filter_eq_nil_iff]
  constructor
  · intro h
    refine Classical.byContradiction fun g => h fun q hq z => g (List.mem_map.mpr ⟨q, hq, by simpa using z⟩)
  · intro h g
    obtain ⟨q, hq, e⟩ := List.mem_map.mp h
    exact g q hq (by simpa using e)
end Rw
namespace Rk
open PySem PySem.Spec PyProof.Rows L2 Rw
abbrev s_l_due : Stmt := topS 26
abbrev n_l_due : List Str := ["_law_own", "_law_way", "_law_word", "_law_number", "_law_there", "_law_one", "_law_other"]
abbrev p_l_due : List Str := ["_law_own", "_law_way", "_law_word"]
theorem sc_l_due : FnScope n_l_due p_l_due (defScope s_l_due) := ⟨rfl, rfl, rfl, by decide +kernel, rfl, by decide +kernel, by decide +kernel⟩
section
variable {P : Program} {w : World} {K : PySem.W.Frag} {mg : Str → Option Value} {base : Heap} (B : Bt mg)
include B
theorem ok_ldue (D : Dfn K mg "_law_due" s_l_due p_l_due) (c__law_ring : Cal CX0 P w K mg base 2 "_law_ring" spLRing) : Cal CX0 P w K mg base 3 "_law_due" spLDue := by
  refine D.cal fun f fd F => F.ok sc_l_due (fun vs H Q E h => ?_) (fun cdv A outer st H vs Q E hr h => ?_)
  · obtain ⟨o, wl, nx, ts, ps, l, way, rfl, _⟩ := h
    rfl
  · obtain ⟨o, wl, nx, ts, ps, l, way, rfl, hw, hps, hl, hok, hone, hway, hq⟩ := h
    refine ⟨_, (pss_cons (ps_set (i := 3) sc_l_due.nd rfl (Or.inr rfl) (pe_cal c__law_ring hr (by decide) pass0 (pa_cons (pv 0) (pa_cons (pv 2) pa_nil))))
      (pss_cons (ps_set (i := 4) sc_l_due.nd rfl (Or.inl rfl) (pe_cmpR (op_neTs hr.units) (pe_lc (own := [("_law_one", 5)]) rfl sc_l_due.nd (pi_list (pe_dget (hu_of hr) (pv 0) pe_str (fun _ _ => rfl))) (blkOk_by (own := [("_law_one", 5)]) (N := n_l_due) (sc := defScope s_l_due) (by decide +kernel)) (fun _ _ _ _ _ => (pg_name (i := 5) sc_l_due.nd rfl (Or.inl rfl))) (fun _ _ _ _ _ => (pts_one (pt_cmpR op_eqT (pe_ix (ix_tupK (K := K) rfl) (pv 5) pe_int (fun _ _ => rfl)) (pv 2) (nomark _)))) (fun _ _ _ _ _ => (pv 5))) (pe_lst pa_nil) (nomark _)))
      (pss_cons (ps_if (pt_cmpR op_eq (pv 1) pe_int (nomark _)) (pss_cons (ps_if (pt_val (pv 4)) (pss_one (ps_ret pe_str)) pss_nil)
        (Evl.pss_cut (ps_if (pt_cmpR op_isN (pv 3) pe_non (nomark _)) (pss_cons (ps_set (i := 3) sc_l_due.nd rfl (Or.inr rfl) (pe_dget (hu_of hr) (pv 0) pe_str (fun _ _ => rfl)))
          (pss_one (ps_dput (hu_of hr) (pv 0) pe_str (pe_op op_add (pv 3) pe_int) rfl))) pss_nil)
        (pss_cons (ps_expr (pe_bm PySem.F.plainAttrs_list PySem.F.slot_list_append PySem.F.type_list_append mt_append (pe_dget (hu_of hr) (pv 0) pe_str (fun _ _ => rfl)) (pa_cons (pe_tup (pa_cons (pv 2) (pa_cons (pv 3) pa_nil))) pa_nil)))
        (pss_one (ps_ret (pv 3)))))) pss_nil)
      (pss_cons (ps_if (pt_cmpR op_eq (pv 1) pe_int (nomark _)) (pss_cons (ps_if (pt_not (pt_val (pv 4))) (pss_one (ps_ret pe_str)) pss_nil)
        (pss_cons (ps_expr (pe_bm PySem.F.plainAttrs_list PySem.F.slot_list_remove PySem.F.type_list_remove (mt_removeTs hr.units) (pe_dget (hu_of hr) (pv 0) pe_str (fun _ _ => rfl)) (pa_cons (pe_tup (pa_cons (pv 2) (pa_cons (pv 3) pa_nil))) pa_nil)))
        (pss_one (ps_ret (pv 3))))) pss_nil)
      (pss_cons (ps_if (pt_cmpR op_eq (pv 1) pe_int (nomark _)) (pss_one (ps_ret (pv 3))) pss_nil)
      (pss_one (ps_ret (pe_lc (own := [("_law_one", 5), ("_law_other", 6)]) (g := gTup K 2 (gCons (gName 5) (gCons (gName 6) gNil))) rfl sc_l_due.nd (pi_list (pe_dget (hu_of hr) (pv 0) pe_str (fun _ _ => rfl))) (blkOk_by (own := [("_law_one", 5), ("_law_other", 6)]) (N := n_l_due) (sc := defScope s_l_due) (by decide +kernel)) (fun _ _ _ _ _ => (pg_tup rfl (pgs_cons (pg_name (i := 5) sc_l_due.nd rfl (Or.inl rfl)) (pgs_cons (pg_name (i := 6) sc_l_due.nd rfl (Or.inl rfl)) pgs_nil)))) (fun _ _ _ _ _ => (pts_one (PW.pt (pw_and (pt_cmpR op_eq (pv 6) (pv 3) (nomark _)) (pw_and (pt_cmpR op_neT (pv 5) (pv 2) (nomark _)) (pw_and1 (pt_cmpR op_notN (pv 3) pe_non (nomark _)))))))) (fun _ _ _ _ _ => (pv 5)))))))))), ?_⟩
    refine ⟨_, rfl, _, rfl, o, wl, nx, ts, ps, l, rfl, hw, hps, hl, fun H1 k1 => ?_⟩
    have hw1 := hw.same k1
    refine ⟨_, rfl, o, .ref wl, rfl, hw1.words, wl, rfl, ⟨_, SqL.of hw1.hw⟩, fun Dl hD => ?_⟩
    refine lc_it walk_list (LcP H1 Dl fun j acc => ∃ us : List Addr, acc = us.map V.ref ∧ Tps H1 us (((ps.take j).filter fun q : List Nat × Nat => decide (q.1 = l)).map two)) (lcp_start hD ⟨[], rfl, Tps.nil⟩) (fun j H4 _ ⟨_, _, e, _, _, _⟩ => SqL.of (e _ _ hw1.hw)) ?_ ?_
    · rintro j x H4 H4' hj ⟨_, acc, e4, hD4, hlen, us, rfl, hus⟩ ⟨rfl, hx⟩
      rw [List.length_map] at hj
      have hjp : j < ps.length := by rw [← hw.hl]; exact hj
      obtain ⟨t, ht⟩ : ∃ t, ts[j]? = some t := ⟨_, List.getElem?_eq_getElem hj⟩
      have hqj : ps[j]? = some ps[j] := List.getElem?_eq_getElem hjp
      rw [List.getElem?_map, ht] at hx
      have ex : V.ref t = x := Option.some.inj hx
      subst ex
      have htt := hw1.ht j t _ ht hqj
      generalize ps[j] = q at hqj htt
      have stp : (ps.take (j + 1)).filter (fun q => decide (q.1 = l)) = (ps.take j).filter (fun q => decide (q.1 = l)) ++ (if decide (q.1 = l) = true then [q] else []) := by
        rw [List.take_add_one, hqj, List.filter_append]
        congr 1
        cases g : decide (q.1 = l) <;> simp [g]
      refine ⟨rfl, ?_⟩
      refine ⟨_, rfl, t, _, 0, tv q.1, rfl, rfl, SqT.of (e4 _ _ htt), atI_nat (j := 0) rfl, _, rfl, q.1, l, rfl, rfl, _, rfl, ?_⟩
      cases g : decide (q.1 = l) with
      | true =>
        refine iteT ⟨_, rfl, ?_⟩
        refine lcp_put hD e4 hD4 hlen (by omega) (Same.refl _) ?_
        rw [stp, g, if_pos rfl, List.map_append]
        exact ⟨us ++ [t], by rw [List.map_append]; rfl, hus.snoc htt⟩
      | false =>
        refine iteF ?_
        refine lcp_skip hD e4 hD4 hlen (Same.refl _) ?_
        rw [stp, g, if_neg (by decide), List.append_nil]
        exact ⟨us, rfl, hus⟩
    rintro H4 ⟨_, acc, e4, hD4, _, us, rfl, hus⟩
    rw [List.length_map, hw.hl, List.take_length] at hus
    refine ⟨(show 0 ≤ sizeLine by decide), fun p5 n5 => ?_⟩
    have k5 := same_upd (o := .lst []) n5
    refine ⟨Dl, p5, us, [], _, [], rfl, rfl, SqL.of (k5 _ _ hD4), SqL.of upd_same, (hus.same e4).same k5, Tps.nil, two_ok fun q hq => hok q (List.mem_filter.mp hq).1, (fun _ h => nomatch h), ?_⟩
    rw [has_two]
    have E5 := (k1.trans e4).trans k5
    generalize upd H4 p5 (.lst []) = H5 at *
    clear k5 n5 e4 hD4 hus hD
    have hw5 := hw.same E5
    clear hw1 k1
    rcases (by omega : way = 0 ∨ way = 1 ∨ way = 2 ∨ way = 3) with rfl | rfl | rfl | rfl
    · obtain ⟨q0, q1⟩ := hq
      refine ⟨_, rfl, rfl, true, by simp, iteT ?_⟩
      by_cases g : l ∈ ps.map Prod.fst
      · rw [decide_eq_true g]
        refine ⟨_, rfl, true, rfl, iteT ?_⟩
        exact q0 g H5 E5
      · rw [decide_eq_false g]
        refine ⟨_, rfl, false, rfl, iteF ?_⟩
        refine ⟨fun σ' H' => σ' = [some (.ref o), some (.int 0), some (tv l), some (.int (numOf ps nx l : Nat)), some (.bl false), none, none] ∧ OwH H' o wl (nxOf ps nx l) ts ps ∧ Fr [o, wl] H H', ?_, ?_⟩
        · rcases num_ring (ps := ps) (nx := nx) (l := l) with ⟨z1, z2, z3⟩ | ⟨n, z1, z2, z3⟩
          · rw [z1, z2, z3]
            refine ⟨_, rfl, rfl, true, by simp, iteT ?_⟩
            refine ⟨_, rfl, o, .int (nx : Nat), rfl, hw5.next, ?_⟩
            refine ⟨_, rfl, _, _, rfl, rfl, _, rfl, o, _, rfl, .inl ⟨_, .inr "next", hw5.ho, rfl, (show 2 < sizeLine by decide), rfl⟩, ?_⟩
            rw [put_next]
            have ow : o ≠ wl := ne_of hw5.ho hw5.hw (by intro q; cases q)
            refine ⟨rfl, ⟨upd_same, by rw [upd_ne ow.symm]; exact hw5.hw, hw5.hl, fun i t q h1 h2 => ?_⟩, Fr.put (Fr.of E5) (by simp)⟩
            have htt := hw5.ht i t q h1 h2
            rw [upd_ne (ne_of htt hw5.ho (by intro q; cases q))]
            exact htt
          · rw [z1, z2, z3]
            refine ⟨_, rfl, rfl, false, by simp, iteF ?_⟩
            exact ⟨rfl, hw5, Fr.of E5⟩
        · rintro σ' H6 ⟨rfl, hw6, f6⟩
          refine ⟨_, rfl, o, .ref wl, rfl, hw6.words, .inl ⟨rfl, _, SqL.of hw6.hw⟩, _, rfl, _, rfl, (show 2 ≤ sizeLine by decide), fun t nt => ?_⟩
          have k7 := same_upd (o := .tup [tv l, .int (numOf ps nx l : Nat)]) nt
          have hw7 := hw6.same k7
          have ht7 : upd H6 t (.tup [tv l, .int (numOf ps nx l : Nat)]) t = some (.tup [tv l, .int (numOf ps nx l : Nat)]) := upd_same
          generalize upd H6 t (.tup [tv l, .int (numOf ps nx l : Nat)]) = H7 at *
          have f7 := f6.trans (Fr.of k7)
          have ht0 : H t = none := by
            cases hh : H t with
            | none => rfl
            | some u =>
              by_cases m : t ∈ [o, wl]
              · simp only [List.mem_cons, List.not_mem_nil, or_false] at m
                rcases m with m | m
                · rw [m, hw6.ho] at nt
                  cases nt
                · rw [m, hw6.hw] at nt
                  cases nt
              · rw [f6 t u hh m] at nt
                cases nt
          refine ⟨wl, _, .ref t, rfl, rfl, hw7.hw, by rw [List.length_map, hw.hl]; exact bigL (by omega), ?_⟩
          refine ⟨_, rfl, q1 g t _ ht0 (OwH.mk' ?_ ?_ ?_) (Fr.put f7 (by simp))⟩
          · rw [upd_ne (ne_of hw7.ho hw7.hw (by intro q; cases q))]
            exact hw7.ho
          · rw [upd_same, List.map_append]
            rfl
          · rw [List.map_append]
            refine Tps.snoc ⟨hw7.tps.1, fun i u xs h1 h2 => ?_⟩ ?_
            · have := hw7.tps.2 i u xs h1 h2
              rw [upd_ne (ne_of this hw7.hw (by intro q; cases q))]
              exact this
            · rw [upd_ne (ne_of ht7 hw7.hw (by intro q; cases q))]
              exact ht7
    · obtain ⟨q0, q1⟩ := hq
      refine ⟨_, rfl, rfl, false, by simp, iteF ?_⟩
      refine ⟨_, rfl, rfl, true, by simp, iteT ?_⟩
      by_cases g : l ∈ ps.map Prod.fst
      · rw [decide_eq_true g]
        refine ⟨_, rfl, true, rfl, iteF ?_⟩
        obtain ⟨n, hn, hm⟩ := hone g
        rw [hn]
        refine ⟨_, rfl, o, .ref wl, rfl, hw5.words, .inl ⟨rfl, _, SqL.of hw5.hw⟩, _, rfl, _, rfl, (show 2 ≤ sizeLine by decide), fun t nt => ?_⟩
        have k7 := same_upd (o := .tup [tv l, .int (n : Nat)]) nt
        have hw7 := hw5.same k7
        have ht7 : upd H5 t (.tup [tv l, .int (n : Nat)]) t = some (.tup [tv l, .int (n : Nat)]) := upd_same
        generalize upd H5 t (.tup [tv l, .int (n : Nat)]) = H7 at *
        have E7 := E5.trans k7
        refine ⟨wl, t, ts, ps, (l, n), rfl, rfl, hw7.hw, ht7, hw7.tps, hm, fun j hj => ?_⟩
        refine ⟨_, rfl, q1 n hn hm (ts.eraseIdx j) _ (OwH.mk' ?_ upd_same ⟨hj.1, fun i u xs h1 h2 => ?_⟩) (Fr.put (Fr.of E7) (by simp))⟩
        · rw [upd_ne (ne_of hw7.ho hw7.hw (by intro q; cases q))]
          exact hw7.ho
        · have := hj.2 i u xs h1 h2
          rw [upd_ne (ne_of this hw7.hw (by intro q; cases q))]
          exact this
      · rw [decide_eq_false g]
        refine ⟨_, rfl, false, rfl, iteT ?_⟩
        exact q0 g H5 E5
    · refine ⟨_, rfl, rfl, false, by simp, iteF ?_⟩
      refine ⟨_, rfl, rfl, false, by simp, iteF ?_⟩
      refine ⟨_, rfl, rfl, true, by simp, iteT ?_⟩
      exact ⟨_, rfl, hq H5 E5⟩
    · refine ⟨_, rfl, rfl, false, by simp, iteF ?_⟩
      refine ⟨_, rfl, rfl, false, by simp, iteF ?_⟩
      refine ⟨_, rfl, rfl, false, by simp, iteF ?_⟩
      refine ⟨_, rfl, o, .ref wl, rfl, hw5.words, wl, rfl, ⟨_, SqL.of hw5.hw⟩, fun Dl hD => ?_⟩
      refine lc_it walk_list (LcP H5 Dl fun j acc => acc = tvs (((ps.take j).filter fun q : List Nat × Nat => decide (V.int (q.2 : Nat) = ringV ps l) && !decide (q.1 = l)).map Prod.fst)) (lcp_start hD rfl) (fun j H4 _ ⟨_, _, e, _, _, _⟩ => SqL.of (e _ _ hw5.hw)) ?_ ?_
      · rintro j x H4 H4' hj ⟨_, acc, e4, hD4, hlen, rfl⟩ ⟨rfl, hx⟩
        rw [List.length_map] at hj
        have hjp : j < ps.length := by rw [← hw.hl]; exact hj
        obtain ⟨t, ht⟩ : ∃ t, ts[j]? = some t := ⟨_, List.getElem?_eq_getElem hj⟩
        have hqj : ps[j]? = some ps[j] := List.getElem?_eq_getElem hjp
        rw [List.getElem?_map, ht] at hx
        have ex : V.ref t = x := Option.some.inj hx
        subst ex
        have htt := hw5.ht j t _ ht hqj
        generalize ps[j] = q at hqj htt
        have stp : (ps.take (j + 1)).filter (fun q => decide (V.int (q.2 : Nat) = ringV ps l) && !decide (q.1 = l)) = (ps.take j).filter (fun q => decide (V.int (q.2 : Nat) = ringV ps l) && !decide (q.1 = l)) ++ (if (decide (V.int (q.2 : Nat) = ringV ps l) && !decide (q.1 = l)) = true then [q] else []) := by
          rw [List.take_add_one, hqj, List.filter_append]
          congr 1
          cases g : decide (V.int (q.2 : Nat) = ringV ps l) && !decide (q.1 = l) <;> simp [g]
        have hsk : (decide (V.int (q.2 : Nat) = ringV ps l) && !decide (q.1 = l)) = false → LcP H5 Dl (fun j acc => acc = tvs (((ps.take j).filter fun q : List Nat × Nat => decide (V.int (q.2 : Nat) = ringV ps l) && !decide (q.1 = l)).map Prod.fst)) (j + 1) H4' := fun g => by
          refine lcp_skip hD e4 hD4 hlen (Same.refl _) ?_
          rw [stp, g, if_neg (by decide), List.append_nil]
        refine ⟨t, _, rfl, SqT.of (e4 _ _ htt), rfl, _, _, rfl, _, _, rfl, rfl, rfl, ?_⟩
        have hsc : scal (V.int (q.2 : Nat)) (ringV ps l) = true := by
          rcases num_ring (ps := ps) (nx := 0) (l := l) with ⟨z, _⟩ | ⟨n, z, _⟩ <;> rw [z] <;> rfl
        refine ⟨_, rfl, _, rfl, hsc, _, rfl, ?_⟩
        cases g1 : decide (V.int (q.2 : Nat) = ringV ps l) with
        | false => exact iteF (iteF (hsk (by rw [g1]; rfl)))
        | true =>
          refine iteT ⟨_, rfl, _, rfl, q.1, l, rfl, rfl, _, rfl, ?_⟩
          cases g2 : decide (q.1 = l) with
          | true => exact iteF (iteF (hsk (by rw [g1, g2]; rfl)))
          | false =>
            have hv : ringV ps l = V.int (q.2 : Nat) := (of_decide_eq_true g1).symm
            refine iteT ⟨_, rfl, rfl, true, ?_, iteT ⟨_, rfl, ?_⟩⟩
            · rw [hv]
              simp
            · refine lcp_put hD e4 hD4 hlen (by omega) (Same.refl _) ?_
              rw [stp, g1, g2, List.map_append, tvs_app]
              rfl
      · rintro H4 ⟨_, acc, e4, hD4, _, rfl⟩
        rw [List.length_map, hw.hl, List.take_length] at hD4
        exact hq Dl H4 (E5.free hD) (E5.trans e4) hD4
end
end Rk
namespace Rw
open PySem PySem.Spec PyProof.Rows L2
section
variable {nx : Nat} {es : List Ent} {ps : List (List Nat × Nat)} {l : List Nat}
theorem RelP.mem_ws (r : RelP nx es ps) {e : Ent} (he : e ∈ es) : l ∈ e.ws ↔ (l, e.n) ∈ ps := by
  rw [r.ws e he]
  constructor
  · intro h
    obtain ⟨q, hq, rfl⟩ := List.mem_map.mp h
    obtain ⟨h1, h2⟩ := List.mem_filter.mp hq
    have : q.2 = e.n := of_decide_eq_true h2
    rw [← this]
    exact h1
  · intro h
    exact List.mem_map.mpr ⟨(l, e.n), List.mem_filter.mpr ⟨h, decide_eq_true rfl⟩, rfl⟩
theorem RelP.wd (r : RelP nx es ps) : ∀ q ∈ ps, Wd q.1 := fun q hq => by
  obtain ⟨e, he, en⟩ := r.all q hq
  exact ((r.bk.ws e he).2.2 q.1 ((r.mem_ws he).mpr (by rw [en]; exact hq))).1
theorem RelP.has (r : RelP nx es ps) : l ∈ ps.map Prod.fst ↔ ∃ e ∈ es, l ∈ e.ws := by
  constructor
  · intro h
    obtain ⟨q, hq, rfl⟩ := List.mem_map.mp h
    obtain ⟨e, he, en⟩ := r.all q hq
    exact ⟨e, he, (r.mem_ws he).mpr (by rw [en]; exact hq)⟩
  · rintro ⟨e, he, hl⟩
    exact List.mem_map.mpr ⟨_, (r.mem_ws he).mp hl, rfl⟩
theorem RelP.len (r : RelP nx es ps) : ∀ e ∈ es, e.ws.length ≤ ps.length := fun e he => by
  rw [r.ws e he, List.length_map]
  exact List.length_filter_le ..
theorem RelP.nums (r : RelP nx es ps) (k : Int) : k ∈ ps.map (fun q => ((q.2 : Nat) : Int)) ↔ k ∈ es.map (fun e => ((e.n : Nat) : Int)) := by
  constructor
  · intro h
    obtain ⟨q, hq, rfl⟩ := List.mem_map.mp h
    obtain ⟨e, he, en⟩ := r.all q hq
    exact List.mem_map.mpr ⟨e, he, by rw [en]⟩
  · intro h
    obtain ⟨e, he, rfl⟩ := List.mem_map.mp h
    obtain ⟨u, hu⟩ := List.exists_mem_of_ne_nil _ (r.bk.ws e he).1
    exact List.mem_map.mpr ⟨_, (r.mem_ws he).mp hu, rfl⟩
theorem sum_one : ∀ {es : List Ent} {n : Nat}, es.Pairwise (fun e x => e.n < x.n) → (∃ e ∈ es, e.n = n) → (es.map fun e => if n = e.n then 1 else 0).sum = 1
  | [], n, _, h => by
    obtain ⟨e, he, _⟩ := h
    exact absurd he List.not_mem_nil
  | e :: r, n, hp, h => by
    obtain ⟨p1, p2⟩ := List.pairwise_cons.mp hp
    rw [List.map_cons, List.sum_cons]
    by_cases g : n = e.n
    · rw [if_pos g]
      have z : ∀ r : List Ent, (∀ x ∈ r, n < x.n) → (r.map fun e => if n = e.n then 1 else 0).sum = 0 := by
        intro r
        induction r with
        | nil => intro _; rfl
        | cons x r ih =>
          intro h
          have := h x List.mem_cons_self
          rw [List.map_cons, List.sum_cons, if_neg (by omega), ih fun y hy => h y (List.mem_cons_of_mem _ hy)]
      rw [z r fun x hx => by have := p1 x hx; omega]
    · rw [if_neg g, sum_one p2, Nat.zero_add]
      obtain ⟨x, hx, en⟩ := h
      rcases List.mem_cons.mp hx with q | q
      · rw [q] at en
        exact absurd en.symm g
      · exact ⟨x, q, en⟩
theorem sum_add : ∀ (es : List Ent) (f g : Ent → Nat), (es.map fun e => f e + g e).sum = (es.map f).sum + (es.map g).sum
  | [], _, _ => rfl
  | e :: r, f, g => by
    rw [List.map_cons, List.sum_cons, sum_add r f g, List.map_cons, List.sum_cons, List.map_cons, List.sum_cons]
    omega
theorem many_all {es : List Ent} (h : es.Pairwise fun e x => e.n < x.n) : ∀ ps : List (List Nat × Nat), (∀ q ∈ ps, ∃ e ∈ es, e.n = q.2) → (es.map fun e => (ps.filter fun q => decide (q.2 = e.n)).length).sum = ps.length
  | [], _ => by
    have z : ∀ es : List Ent, (es.map fun e => (([] : List (List Nat × Nat)).filter fun q => decide (q.2 = e.n)).length).sum = 0 := by
      intro es
      induction es with
      | nil => rfl
      | cons x r ih => rw [List.map_cons, List.sum_cons, ih]; rfl
    rw [z]
    rfl
  | q :: r, hq => by
    have ih := many_all h r fun x hx => hq x (List.mem_cons_of_mem _ hx)
    have e : (es.map fun e => ((q :: r).filter fun q => decide (q.2 = e.n)).length) = es.map fun e => (if q.2 = e.n then 1 else 0) + (r.filter fun q => decide (q.2 = e.n)).length := by
      refine List.map_congr_left fun e _ => ?_
      by_cases g : q.2 = e.n
      · rw [List.filter_cons_of_pos (by simpa using g), if_pos g, List.length_cons]
        omega
      · rw [List.filter_cons_of_neg (by simpa using g), if_neg g]
        omega
    rw [e, sum_add, ih, sum_one h (hq q List.mem_cons_self), List.length_cons]
    omega
theorem RelP.many (r : RelP nx es ps) : manyOf es = ps.length := by
  rw [← many_all r.bk.nu ps r.all]
  unfold manyOf
  congr 1
  refine List.map_congr_left fun e he => ?_
  rw [r.ws e he, List.length_map]
theorem self_turn (hl : Wd l) : l ∈ turns l := List.mem_map.mpr ⟨0, List.mem_range.mpr hl.1, turn0 l⟩
theorem RelP.out_of (r : RelP nx es ps) (hl : Wd l) {i : Nat} {e : Ent} (he : es[i]? = some e) (hf : e.f = minT (turns l)) : ringV ps l = .int (e.n : Nat) :=
  (r.out hl).uniq r.bk (.yes he hf)
theorem RelP.f_of (r : RelP nx es ps) {e : Ent} (he : e ∈ es) (hl : l ∈ e.ws) : e.f = minT (turns l) := ((r.bk.ws e he).2.2 l hl).2.symm
theorem RelP.one (r : RelP nx es ps) (hl : Wd l) : OneN ps l := fun h => by
  obtain ⟨e, he, hm⟩ := r.has.mp h
  obtain ⟨i, hi, ei⟩ := List.getElem_of_mem he
  exact ⟨e.n, r.out_of hl (by rw [List.getElem?_eq_getElem hi, ei]) (r.f_of he hm), (r.mem_ws he).mp hm⟩
theorem num_none (h : ringV ps l = .non) : numOf ps nx l = nx ∧ nxOf ps nx l = nx + 1 := by
  rcases num_ring (ps := ps) (nx := nx) (l := l) with ⟨_, z⟩ | ⟨n, z, _⟩
  · exact z
  · rw [h] at z
    cases z
theorem num_some {n : Nat} (h : ringV ps l = .int (n : Nat)) : numOf ps nx l = n ∧ nxOf ps nx l = nx := by
  rcases num_ring (ps := ps) (nx := nx) (l := l) with ⟨z, _⟩ | ⟨m, z, z2⟩
  · rw [h] at z
    cases z
  · rw [h] at z
    have := V.int.inj z
    have : n = m := by omega
    rw [this]
    exact z2
theorem RelP.add {H : Hp} {es' : List Ent} {nx' num : Nat} (r : RelP nx es ps) (hl : Wd l) (ho : AddOut H es nx l es' nx' num) : num = numOf ps nx l ∧ nx' = nxOf ps nx l ∧ RelP nx' es' (ps ++ [(l, num)]) ∧ l ∉ ps.map Prod.fst ∧ es'.length ≤ es.length + 1 ∧ ∀ x ∈ es'.map Ent.a, x ∈ es.map Ent.a ∨ H x = none := by
  cases ho with
  | @new a ha h =>
    have hv : ringV ps l = .non := (r.out hl).uniq r.bk (.no h)
    obtain ⟨z1, z2⟩ := num_none (nx := nx) hv
    refine ⟨z1.symm, z2.symm, r.new hl h, fun g => ?_, by rw [List.length_append]; exact Nat.le_refl _, fun x hx => ?_⟩
    · obtain ⟨e, he, hm⟩ := r.has.mp g
      exact h e he (r.f_of he hm)
    · rw [List.map_append] at hx
      rcases List.mem_append.mp hx with q | q
      · exact .inl q
      · rw [List.mem_singleton.mp q]
        exact .inr ha
  | @old i e he hf hn =>
    obtain ⟨z1, z2⟩ := num_some (nx := nx) (r.out_of hl he hf)
    refine ⟨z1.symm, z2.symm, r.old hl he hf hn, fun g => ?_, by rw [List.length_set]; omega, fun x hx => ?_⟩
    · obtain ⟨y, hy, hm⟩ := r.has.mp g
      obtain ⟨j, hj, ej⟩ := List.getElem_of_mem hy
      have hyj : es[j]? = some y := by rw [List.getElem?_eq_getElem hj, ej]
      have := r.bk.fu i j e y he hyj (by rw [hf, r.f_of hy hm])
      subst this
      rw [he] at hyj
      cases hyj
      exact hn hm
    · rw [set_map (g := Ent.a) (e := e) (by rfl) he] at hx
      exact .inl hx
theorem takeE_map {i : Nat} {e : Ent} (he : es[i]? = some e) : (takeE es i e l).length ≤ es.length ∧ ∀ x ∈ (takeE es i e l).map Ent.a, x ∈ es.map Ent.a := by
  unfold takeE
  by_cases g : e.ws.erase l = []
  · rw [if_pos g]
    refine ⟨List.length_eraseIdx_le .., fun x hx => ?_⟩
    obtain ⟨y, hy, rfl⟩ := List.mem_map.mp hx
    exact List.mem_map.mpr ⟨y, List.mem_of_mem_eraseIdx hy, rfl⟩
  · rw [if_neg g]
    refine ⟨by rw [List.length_set]; exact Nat.le_refl _, fun x hx => ?_⟩
    rw [set_map (g := Ent.a) (e := e) (by rfl) he] at hx
    exact hx
/-- the others of a word's ring -/
theorem RelP.oth (r : RelP nx es ps) (hl : Wd l) : ((∀ e ∈ es, e.f ≠ minT (turns l)) → (ps.filter fun q : List Nat × Nat => decide (V.int (q.2 : Nat) = ringV ps l) && !decide (q.1 = l)).map Prod.fst = []) ∧
    ∀ (i : Nat) (e : Ent), es[i]? = some e → e.f = minT (turns l) → (ps.filter fun q : List Nat × Nat => decide (V.int (q.2 : Nat) = ringV ps l) && !decide (q.1 = l)).map Prod.fst = e.ws.filter fun o => !decide (o = l) := by
  constructor
  · intro h
    have hv : ringV ps l = .non := (r.out hl).uniq r.bk (.no h)
    rw [hv, List.map_eq_nil_iff, List.filter_eq_nil_iff]
    intro q _
    simp
  · intro i e he hf
    rw [r.out_of hl he hf, r.ws e (List.mem_of_getElem? he), List.filter_map, List.filter_filter]
    congr 1
    refine List.filter_congr fun q _ => ?_
    have : decide (V.int ((q.2 : Nat) : Int) = V.int ((e.n : Nat) : Int)) = decide (q.2 = e.n) := decide_eq_decide.mpr ⟨fun z => by have := V.int.inj z; omega, fun z => by rw [z]⟩
    rw [this, Bool.and_comm]
    rfl
end
end Rw
namespace Rw
open PySem PySem.Spec PyProof.Rows L2
/-- a book and the account that tells it, over their own places -/
structure BoX (C : Addr) (H : Hp) (n : Nat) (p dx d1 d2 : Addr) (nx : Nat) (es : List Ent) (o wl : Addr) (ts : List Addr) (ps : List (List Nat × Nat)) : Prop where
  bk : BkH C H p dx d1 d2 nx es
  ow : OwH H o wl nx ts ps
  rl : RelP nx es ps
  le : es.length ≤ n
  lp : ps.length ≤ n
  ln : nx ≤ n
  no : o ∉ p :: d1 :: d2 :: es.map Ent.a
  nw : wl ∉ p :: d1 :: d2 :: es.map Ent.a
def foot (p d1 d2 : Addr) (es : List Ent) (o wl : Addr) : List Addr := o :: wl :: p :: d1 :: d2 :: es.map Ent.a
def Bo (C : Addr) (H : Hp) (F : List Addr) (n : Nat) (p o : Addr) : Prop := ∃ (dx d1 d2 : Addr) (nx : Nat) (es : List Ent) (wl : Addr) (ts : List Addr) (ps : List (List Nat × Nat)), BoX C H n p dx d1 d2 nx es o wl ts ps ∧ F = foot p d1 d2 es o wl
section
variable {C : Addr} {H H' : Hp} {F : List Addr} {n : Nat} {p o : Addr}
theorem OwH.keep {o wl : Addr} {nx : Nat} {ts : List Addr} {ps : List (List Nat × Nat)} (w : OwH H o wl nx ts ps) (h1 : ∀ u, H o = some u → H' o = some u) (h2 : ∀ u, H wl = some u → H' wl = some u) (h3 : ∀ a xs, H a = some (.tup xs) → H' a = some (.tup xs)) : OwH H' o wl nx ts ps :=
  ⟨h1 _ w.ho, h2 _ w.hw, w.hl, fun i t q a b => h3 _ _ (w.ht i t q a b)⟩
theorem Bo.keep (b : Bo C H F n p o) (h : ∀ a u, H a = some u → a ∈ F → H' a = some u) (ht : ∀ a xs, H a = some (.tup xs) → H' a = some (.tup xs)) : Bo C H' F n p o := by
  obtain ⟨dx, d1, d2, nx, es, wl, ts, ps, x, rfl⟩ := b
  exact ⟨dx, d1, d2, nx, es, wl, ts, ps, ⟨x.bk.keep fun a u e m => h a u e (List.mem_cons_of_mem _ (List.mem_cons_of_mem _ m)), x.ow.keep (fun u e => h _ u e List.mem_cons_self) (fun u e => h _ u e (List.mem_cons_of_mem _ List.mem_cons_self)) ht, x.rl, x.le, x.lp, x.ln, x.no, x.nw⟩, rfl⟩
theorem Bo.same (b : Bo C H F n p o) (e : Same H H') : Bo C H' F n p o := b.keep (fun a u h _ => e a u h) fun a xs h => e a _ h
theorem Bo.kind (b : Bo C H F n p o) : ∀ a ∈ F, ∃ u, H a = some u ∧ ∀ xs, u ≠ .tup xs := by
  obtain ⟨dx, d1, d2, nx, es, wl, ts, ps, x, rfl⟩ := b
  intro a ha
  unfold foot at ha
  simp only [List.mem_cons, List.mem_map] at ha
  rcases ha with rfl | rfl | rfl | rfl | rfl | ⟨e, he, rfl⟩
  · exact ⟨_, x.ow.ho, fun xs z => by cases z⟩
  · exact ⟨_, x.ow.hw, fun xs z => by cases z⟩
  · exact ⟨_, x.bk.hp, fun xs z => by cases z⟩
  · exact ⟨_, x.bk.h1, fun xs z => by cases z⟩
  · exact ⟨_, x.bk.h2, fun xs z => by cases z⟩
  · obtain ⟨i, hi, ei⟩ := List.getElem_of_mem he
    exact ⟨_, x.bk.hl i e (by rw [List.getElem?_eq_getElem hi, ei]), fun xs z => by cases z⟩
/-- what is done to one leaves the other -/
theorem Bo.other {G : List Addr} {m : Nat} {r q : Addr} (b : Bo C H F n p o) (c : Bo C H G m r q) (f : Fr G H H') (d : ∀ a ∈ F, a ∉ G) : Bo C H' F n p o := by
  refine b.keep (fun a u h m => f a u h (d a m)) fun a xs h => f a _ h fun m => ?_
  obtain ⟨u, hu, hn⟩ := c.kind a m
  rw [h] at hu
  exact hn xs (Option.some.inj hu).symm
theorem Bo.mono {m : Nat} (b : Bo C H F n p o) (h : n ≤ m) : Bo C H F m p o := by
  obtain ⟨dx, d1, d2, nx, es, wl, ts, ps, x, rfl⟩ := b
  exact ⟨dx, d1, d2, nx, es, wl, ts, ps, ⟨x.bk, x.ow, x.rl, Nat.le_trans x.le h, Nat.le_trans x.lp h, Nat.le_trans x.ln h, x.no, x.nw⟩, rfl⟩
end
theorem ring_s : V.str "ring" = tv (markT 4) := congrArg V.str (by decide +kernel)
theorem word_s : V.str "word" = tv (markT 0) := congrArg V.str (by decide +kernel)
theorem twice_s : V.str "twice" = tv (markT 5) := congrArg V.str (by decide +kernel)
theorem ne_ring : (!decide (tv (markT 4) = V.str "ring")) = false := by rw [ring_s]; simp
theorem eq_ring : decide (tv (markT 4) = V.str "ring") = true := by rw [ring_s]; simp
theorem eq_word : decide (tv (markT 0) = V.str "word") = true := by rw [word_s]; simp
def spLStands (C : Addr) : Sp := fun vs H Q _ => ∃ (p o : Addr) (F : List Addr) (n : Nat), vs = [.ref p, .ref o] ∧ Bo C H F n p o ∧ n ≤ 61 ∧ ∀ H', Same H H' → Q (.bl true) H'
def spLRight (C : Addr) : Sp := fun vs H Q _ => ∃ (p o : Addr) (F : List Addr) (n : Nat) (c : Int), vs = [.ref p, .ref o, .int c] ∧ Bo C H F n p o ∧ n ≤ 60 ∧ ∀ F' H', Bo C H' F' (n + 1) p o → Fr F H H' → (∀ a ∈ F', a ∈ F ∨ H a = none) → Q (.bl true) H'
end Rw
namespace Rw
open PySem PySem.Spec PyProof.Rows L2
theorem take_fl {α β : Type} {f : α → β} {es : List α} {i : Nat} {e : α} (h : es[i]? = some e) : (es.take (i + 1)).map f = (es.take i).map f ++ [f e] := by
  rw [List.take_add_one, h, List.map_append]
  rfl
def frm (e : Ent) : List Fl := [.inl ((e.n : Nat) : Int), .inr e.f]
theorem frm_ok {es : List Ent} (h : ∀ e ∈ es, Ok e.f) : ∀ xs ∈ es.map frm, ∀ x ∈ xs, FlOk x := fun xs hxs x hx => by
  obtain ⟨e, he, rfl⟩ := List.mem_map.mp hxs
  simp only [frm, List.mem_cons, List.not_mem_nil, or_false] at hx
  rcases hx with rfl | rfl
  · exact True.intro
  · exact h e he
theorem min_ok {l : List Nat} (h : Wd l) : Ok (minT (turns l)) := ok_turns h.ok _ (minT_mem (turns_ne h))
end Rw
namespace Rk
open PySem PySem.Spec PyProof.Rows L2 Rw
abbrev s_l_stands : Stmt := topS 28
abbrev n_l_stands : List Str := ["_law_book", "_law_own", "_law_numbers", "_law_number", "_law_due_here", "_law_words", "_law_found", "_law_forms", "_law_word", "_law_other"]
abbrev p_l_stands : List Str := ["_law_book", "_law_own"]
theorem sc_l_stands : FnScope n_l_stands p_l_stands (defScope s_l_stands) := ⟨rfl, rfl, rfl, by decide +kernel, rfl, by decide +kernel, by decide +kernel⟩
section
variable {P : Program} {w : World} {K : PySem.W.Frag} {mg : Str → Option Value} {base : Heap} {C : Addr} (B : Bt mg) (RG : RgC K mg C)
include B RG
theorem ok_lstands (D : Dfn K mg "_law_stands" s_l_stands p_l_stands) (c__law_told : Cal CX0 P w K mg base 7 "_law_told" (spTold12 K C)) (c__law_turnings : Cal CX0 P w K mg base 1 "_law_turnings" spLTurnings) (c__law_whole : Cal CX0 P w K mg base 1 "_law_whole" spLWhole)
    (m_forms : MCal CX0 P w K mg base 1 C "forms" (spForms C)) (m_many : MCal CX0 P w K mg base 1 C "many" (spMany C)) : Cal CX0 P w K mg base 8 "_law_stands" (spLStands C) := by
  refine D.cal fun f fd F => F.ok sc_l_stands (fun vs H Q E h => ?_) (fun cdv A outer st H vs Q E hr h => ?_)
  · obtain ⟨p, o, F, n, rfl, _⟩ := h
    rfl
  · obtain ⟨p, o, F, n, rfl, ⟨dx, d1, d2, nx, es, wl, ts, ps, x, rfl⟩, hn, q⟩ := h
    refine ⟨_, (pss_cons (ps_set (i := 2) sc_l_stands.nd rfl (Or.inl rfl) (pe_callB (cr_sortedSet rfl) (by rfl) B.m_sorted (by decide +kernel) (pa_cons (pe_callTy (cr_setI rfl) (by rfl) B.m_set (by decide +kernel) (pa_cons (pe_lc (own := [("_law_word", 8), ("_law_number", 3)]) (g := gTup K 2 (gCons (gName 8) (gCons (gName 3) gNil))) rfl sc_l_stands.nd (pi_list (pe_dget (hu_of hr) (pv 1) pe_str (fun _ _ => rfl))) (blkOk_by (own := [("_law_word", 8), ("_law_number", 3)]) (N := n_l_stands) (sc := defScope s_l_stands) (by decide +kernel)) (fun _ _ _ _ _ => (pg_tup rfl (pgs_cons (pg_name (i := 8) sc_l_stands.nd rfl (Or.inl rfl)) (pgs_cons (pg_name (i := 3) sc_l_stands.nd rfl (Or.inl rfl)) pgs_nil)))) (fun _ _ _ _ _ => pts_nil) (fun _ _ _ _ _ => (pv 3))) pa_nil)) pa_nil)))
      (pss_cons (ps_for PassesOwn.never rfl (pi_range1 (by rfl) B.m_range (pa_cons (pe_dget (hu_of hr) (pv 1) pe_str (fun _ _ => rfl)) pa_nil)) (pg_name (i := 3) sc_l_stands.nd rfl (Or.inr rfl))
        (pss_one (ps_if (PW.pt (pw_and (pt_cmpR op_notInI (pv 3) (pv 2) (by rfl)) (pw_and1 (pt_cmpR op_ne (pe_cal c__law_told hr (by decide) pass0 (pa_cons (pv 0) (pa_cons pe_int (pa_cons (pv 3) pa_nil)))) pe_str (nomark _))))) (pss_one (ps_ret pe_bl)) pss_nil)))
      (pss_cons (ps_set (i := 4) sc_l_stands.nd rfl (Or.inl rfl) (pe_lst pa_nil))
      (pss_cons (ps_for PassesOwn.never rfl (pi_list (pv 2)) (pg_name (i := 3) sc_l_stands.nd rfl (Or.inr rfl))
        (pss_cons (ps_setLc (i := 5) (own := [("_law_word", 8), ("_law_other", 9)]) (g := gTup K 2 (gCons (gName 8) (gCons (gName 9) gNil))) rfl sc_l_stands.nd rfl rfl (sw_true rfl rfl rfl (by decide +kernel)) (pi_list (pe_dget (hu_of hr) (pv 1) pe_str (fun _ _ => rfl))) (blkOk_by (own := [("_law_word", 8), ("_law_other", 9)]) (N := n_l_stands) (sc := defScope s_l_stands) (by decide +kernel)) (fun _ _ _ _ _ => (pg_tup rfl (pgs_cons (pg_name (i := 8) sc_l_stands.nd rfl (Or.inl rfl)) (pgs_cons (pg_name (i := 9) sc_l_stands.nd rfl (Or.inl rfl)) pgs_nil)))) (fun _ _ _ _ _ => (pts_one (pt_cmpR op_eq (pv 9) (pv 3) (nomark _)))) (fun _ _ _ _ _ => (pv 8)))
        (pss_cons (ps_expr (pe_bm PySem.F.plainAttrs_list PySem.F.slot_list_append PySem.F.type_list_append mt_append (pv 4) (pa_cons (pe_tup (pa_cons (pv 3) (pa_cons (pe_callB (cr_minL rfl hr.units) (by rfl) B.m_min (by decide +kernel) (pa_cons (pe_cal c__law_turnings hr (by decide) pass0 (pa_cons (pe_ix ix_list (pv 5) pe_int (fun _ _ => rfl)) pa_nil)) pa_nil)) pa_nil))) pa_nil)))
        (pss_cons (ps_set (i := 6) sc_l_stands.nd rfl (Or.inl rfl) (pe_cal c__law_told hr (by decide) pass0 (pa_cons (pv 0) (pa_cons pe_int (pa_cons (pv 3) pa_nil)))))
        (pss_cons (ps_if (pt_cmpR (op_neL hr.units) (pv 6) (pv 5) (nomark _)) (pss_one (ps_ret pe_bl)) pss_nil)
        (pss_one (ps_expr (pe_bm PySem.F.plainAttrs_list PySem.F.slot_list_append PySem.F.type_list_append mt_append (pv 6) (pa_cons pe_str pa_nil)))))))))
      (pss_cons (ps_set (i := 7) sc_l_stands.nd rfl (Or.inl rfl) (pe_mcal0 (pv 0) RG.cl m_forms hr (by decide) pass0))
      (pss_cons (ps_if (PW.pt (pw_or (pt_not (pt_val (pe_callB call_isi (by rfl) B.m_isinstance (by decide +kernel) (pa_cons (pv 7) (pa_cons (pe_bltn (v := .ty "list") (u := .type "list") rfl B.m_list (by decide +kernel) rfl) pa_nil))))) (pw_or (pt_cmpR (op_neTs hr.units) (pv 7) (pv 4) (nomark _)) (pw_or1 (pt_not (pt_val (pe_cal c__law_whole hr (by decide) pass0 (pa_cons (pe_mcal0 (pv 0) RG.cl m_many hr (by decide) pass0) (pa_cons (pe_callB call_len_seq (by rfl) B.m_len PySem.boot_len (pa_cons (pe_dget (hu_of hr) (pv 1) pe_str (fun _ _ => rfl)) pa_nil)) pa_nil))))))))) (pss_one (ps_ret pe_bl)) pss_nil)
      (pss_cons (ps_expr (pe_bm PySem.F.plainAttrs_list PySem.F.slot_list_append PySem.F.type_list_append mt_append (pv 7) (pa_cons (pe_tup (pa_cons pe_int (pa_cons pe_str pa_nil))) pa_nil)))
      (pss_one (ps_ret (pe_and (pe_cmpR op_eq (pe_cal c__law_told hr (by decide) pass0 (pa_cons (pv 0) (pa_cons pe_int (pa_cons (pe_dget (hu_of hr) (pv 1) pe_str (fun _ _ => rfl)) pa_nil)))) pe_str (nomark _)) (pe_one (pe_cmpR op_eq (pe_cal c__law_told hr (by decide) pass0 (pa_cons (pv 0) (pa_cons pe_int (pa_cons (pe_un un_neg pe_int) pa_nil)))) pe_str (nomark _))))))))))))), ?_⟩
    have hb := x.bk
    have hw := x.ow
    have r := x.rl
    have hle : es.length ≤ 1000 := by have := x.le; omega
    have hws : ∀ e ∈ es, e.ws.length ≤ 1000 := fun e he => by have := r.len e he; have := x.lp; omega
    have hpl : ps.length ≤ 61 := by have := x.lp; omega
    have hnx : nx ≤ 61 := by have := x.ln; omega
    have hel : es.length ≤ 61 := by have := x.le; omega
    have htl := hw.hl
    -- the numbers
    refine ⟨_, rfl, o, .ref wl, rfl, hw.words, wl, rfl, ⟨_, SqL.of hw.hw⟩, fun Dl hD => ?_⟩
    refine lc_it walk_list (LcP H Dl fun j acc => acc = ((ps.take j).map fun q : List Nat × Nat => ((q.2 : Nat) : Int)).map V.int) (lcp_start hD rfl) (fun j H4 _ ⟨_, _, e, _, _, _⟩ => SqL.of (e _ _ hw.hw)) ?_ ?_
    · rintro j y H4 H4' hj ⟨_, acc, e4, hD4, hlen, rfl⟩ ⟨rfl, hx⟩
      rw [List.length_map] at hj
      have hjp : j < ps.length := by omega
      obtain ⟨t, ht⟩ : ∃ t, ts[j]? = some t := ⟨_, List.getElem?_eq_getElem hj⟩
      have hqj : ps[j]? = some ps[j] := List.getElem?_eq_getElem hjp
      rw [List.getElem?_map, ht] at hx
      have ex : V.ref t = y := Option.some.inj hx
      subst ex
      have htt := hw.ht j t _ ht hqj
      generalize ps[j] = u at hqj htt
      refine ⟨t, _, rfl, SqT.of (e4 _ _ htt), rfl, _, _, rfl, _, _, rfl, rfl, rfl, keepAll ?_⟩
      refine ⟨_, rfl, ?_⟩
      refine lcp_put hD e4 hD4 hlen (by omega) (Same.refl _) ?_
      rw [take_fl hqj, List.map_append]
      rfl
    rintro H4 ⟨_, acc, e4, hD4, _, rfl⟩
    rw [List.length_map, htl, List.take_length] at hD4
    refine ⟨Dl, _, rfl, SqL.of hD4, by rw [List.length_map]; omega, fun p5 S m n5 hm hS => ?_⟩
    have k5 := same_upd (o := SetO w p5 S m) n5
    rw [List.length_map] at hm
    show tNil _ (upd H4 p5 (SetO w p5 S m)) _
    refine ⟨p5, S, m, rfl, upd_same, by omega, fun ns p6 hpw hmem _ n6 => ?_⟩
    have ens : ns = es.map fun e => ((e.n : Nat) : Int) := by
      refine int_uniq hpw (List.pairwise_map.mpr (r.bk.nu.imp fun h => by omega)) fun k => ?_
      rw [hmem, hS, decide_eq_true_eq]
      exact r.nums k
    subst ens
    have k6 := same_upd (o := .lst ((es.map fun e => ((e.n : Nat) : Int)).map V.int)) n6
    have hN : upd (upd H4 p5 (SetO w p5 S m)) p6 (.lst ((es.map fun e => ((e.n : Nat) : Int)).map V.int)) p6 = some (.lst ((es.map fun e => ((e.n : Nat) : Int)).map V.int)) := upd_same
    have E6 := (e4.trans k5).trans k6
    generalize upd (upd H4 p5 (SetO w p5 S m)) p6 (.lst ((es.map fun e => ((e.n : Nat) : Int)).map V.int)) = H6 at *
    clear k5 k6 n5 n6 hS hmem hpw hD4 hD e4
    have hb6 := hb.same E6
    have hw6 := hw.same E6
    -- no ring has another number
    refine ⟨_, rfl, o, .int (nx : Nat), rfl, hw6.next, _, rfl, by omega, by omega, for_it walk_range (fun i σ H' => ∃ y3, σ = [some (.ref p), some (.ref o), some (.ref p6), y3, none, none, none, none, none, none] ∧ Same H6 H') ⟨_, rfl, Same.refl H6⟩ (fun _ _ _ _ _ => trivial) ?_ ?_⟩
    · rintro i y σ H7 H7' hi ⟨y3, rfl, e7⟩ ⟨rfl, hy⟩
      have hy : y = V.int ((i : Nat) : Int) := by
        rw [hy]
        show V.int (0 + ((i : Nat) : Int)) = _
        rw [Int.zero_add]
      subst hy
      have hb7 := hb6.same e7
      refine ⟨_, rfl, _, rfl, p6, ((i : Nat) : Int), es.map fun e => ((e.n : Nat) : Int), rfl, rfl, SqL.of (e7 _ _ hN), _, rfl, ?_⟩
      by_cases g : ((i : Nat) : Int) ∈ es.map fun e => ((e.n : Nat) : Int)
      · rw [decide_eq_true g]
        exact iteF (iteF ⟨_, rfl, e7⟩)
      · rw [decide_eq_false g]
        refine iteT ⟨_, rfl, _, rfl, p, dx, d1, d2, nx, es, 4, .int ((i : Nat) : Int), rfl, hb7, r.bk, hle, hws, .inr ⟨rfl, _, rfl, fun _ H8 e8 => ?_, fun j e he hen => absurd (List.mem_map.mpr ⟨e, List.mem_of_getElem? he, hen⟩) g⟩⟩
        refine ⟨rfl, false, congrArg V.bl ne_ring, iteF ?_⟩
        exact ⟨_, rfl, e7.trans e8⟩
    rintro σ H7 ⟨y3, rfl, e7⟩
    have hN7 := e7 _ _ hN
    have hb7 := hb6.same e7
    have hw7 := hw6.same e7
    have E7 := E6.trans e7
    clear hb6 hw6 e7 hN E6 hb hw
    -- each ring
    refine ⟨(show 0 ≤ sizeLine by decide), fun pd nd => ?_⟩
    refine ⟨_, rfl, p6, rfl, ⟨_, SqL.of (same_upd nd _ _ hN7)⟩, for_list (xs := (es.map fun e => ((e.n : Nat) : Int)).map V.int) (fun i σ H' => ∃ (us : List Addr) (y3 y5 y6 : Option V), σ = [some (.ref p), some (.ref o), some (.ref p6), y3, some (.ref pd), y5, y6, none, none, none] ∧ Same H7 H' ∧ H' pd = some (.lst (us.map V.ref)) ∧ Tps H' us ((es.take i).map frm))
      ⟨[], _, _, _, rfl, same_upd nd, upd_same, Tps.nil⟩ (fun i σ H' _ ⟨_, _, _, _, _, e, _⟩ => SqL.of (e _ _ hN7)) ?_ ?_⟩
    · rintro i y σ H8 hyi ⟨us, y3, y5, y6, rfl, e8, hd8, hus⟩
      obtain ⟨e, he, rfl⟩ : ∃ e, es[i]? = some e ∧ V.int ((e.n : Nat) : Int) = y := by
        rw [List.getElem?_map, List.getElem?_map] at hyi
        cases g : es[i]? with
        | none =>
          rw [g] at hyi
          cases hyi
        | some e =>
          rw [g] at hyi
          exact ⟨e, rfl, Option.some.inj hyi⟩
      have hem := List.mem_of_getElem? he
      have hw8 := hw7.same e8
      refine ⟨_, rfl, o, .ref wl, rfl, hw8.words, wl, rfl, ⟨_, SqL.of hw8.hw⟩, fun D5 hD5 => ?_⟩
      refine lc_it walk_list (LcP H8 D5 fun j acc => acc = tvs (((ps.take j).filter fun q : List Nat × Nat => decide (q.2 = e.n)).map Prod.fst)) (lcp_start hD5 rfl) (fun j H4 _ ⟨_, _, e, _, _, _⟩ => SqL.of (e _ _ hw8.hw)) ?_ ?_
      · rintro j y H4 H4' hj ⟨_, acc, e4, hD4, hlen, rfl⟩ ⟨rfl, hx⟩
        rw [List.length_map] at hj
        have hjp : j < ps.length := by omega
        obtain ⟨t, ht⟩ : ∃ t, ts[j]? = some t := ⟨_, List.getElem?_eq_getElem hj⟩
        have hqj : ps[j]? = some ps[j] := List.getElem?_eq_getElem hjp
        rw [List.getElem?_map, ht] at hx
        have ex : V.ref t = y := Option.some.inj hx
        subst ex
        have htt := hw8.ht j t _ ht hqj
        generalize ps[j] = u at hqj htt
        have stp : (ps.take (j + 1)).filter (fun q => decide (q.2 = e.n)) = (ps.take j).filter (fun q => decide (q.2 = e.n)) ++ (if decide (u.2 = e.n) = true then [u] else []) := by
          rw [List.take_add_one, hqj, List.filter_append]
          congr 1
          cases g : decide (u.2 = e.n) <;> simp [g]
        have eqd : decide (V.int ((u.2 : Nat) : Int) = V.int ((e.n : Nat) : Int)) = decide (u.2 = e.n) := decide_eq_decide.mpr ⟨fun z => by have := V.int.inj z; omega, fun z => by rw [z]⟩
        refine ⟨t, _, rfl, SqT.of (e4 _ _ htt), rfl, _, _, rfl, _, _, rfl, rfl, rfl, ?_⟩
        refine ⟨_, rfl, _, rfl, rfl, _, rfl, ?_⟩
        rw [eqd]
        cases g : decide (u.2 = e.n) with
        | true =>
          refine iteT ⟨_, rfl, ?_⟩
          refine lcp_put hD5 e4 hD4 hlen (by omega) (Same.refl _) ?_
          rw [stp, g, if_pos rfl, List.map_append, tvs_app]
          rfl
        | false =>
          refine iteF ?_
          refine lcp_skip hD5 e4 hD4 hlen (Same.refl _) ?_
          rw [stp, g, if_neg (by decide), List.append_nil]
      rintro H9 ⟨_, acc, e9, hD9, _, rfl⟩
      rw [List.length_map, htl, List.take_length, ← r.ws e hem] at hD9
      obtain ⟨b1, _, b3⟩ := r.bk.ws e hem
      obtain ⟨w0, wr, hcons⟩ : ∃ w0 wr, e.ws = w0 :: wr := by
        cases g : e.ws with
        | nil => exact absurd g b1
        | cons a b => exact ⟨a, b, rfl⟩
      obtain ⟨hw0, hf0⟩ := b3 w0 (by rw [hcons]; exact List.mem_cons_self)
      have hd9 := e9 _ _ hd8
      have pD : pd ≠ D5 := fun z => by rw [z, hD5] at hd8; cases hd8
      refine ⟨_, rfl, .inl ⟨rfl, _, SqL.of hd9⟩, _, rfl, _, rfl, D5, _, 0, tv w0, rfl, rfl, SqL.of hD9, atI_nat (j := 0) (by rw [hcons]; rfl), w0, rfl, by have := hw0.2.1; omega, fun p7 H10 n7 e10 hp7 => ?_⟩
      refine ⟨p7, turns w0, rfl, SqL.of hp7, turns_ne hw0, (show 2 ≤ sizeLine by decide), fun t nt => ?_⟩
      rw [hf0]
      have k11 := same_upd (o := .tup [V.int ((e.n : Nat) : Int), tv e.f]) nt
      have hT11 : upd H10 t (.tup [V.int ((e.n : Nat) : Int), tv e.f]) t = some (.tup [V.int ((e.n : Nat) : Int), tv e.f]) := upd_same
      have E11 := (e9.trans e10).trans k11
      have hD11 := (e10.trans k11) _ _ hD9
      have hd11 := (e10.trans k11) _ _ hd9
      generalize upd H10 t (.tup [V.int ((e.n : Nat) : Int), tv e.f]) = H11 at *
      refine ⟨pd, _, .ref t, rfl, rfl, hd11, by have := hus.1; rw [List.length_map] at this ⊢; rw [this, List.length_take]; exact bigL (by omega), ?_⟩
      have hus11 : Tps H11 (us ++ [t]) ((es.take (i + 1)).map frm) := by
        rw [take_fl he]
        exact (hus.same E11).snoc hT11
      have hus12 : Tps (upd H11 pd (.lst (us.map V.ref ++ [V.ref t]))) (us ++ [t]) ((es.take (i + 1)).map frm) := ⟨hus11.1, fun j a xs h1 h2 => by
        have := hus11.2 j a xs h1 h2
        rw [upd_ne (ne_of this hd11 (by intro q; cases q))]
        exact this⟩
      have e12 : Same H7 (upd H11 pd (.lst (us.map V.ref ++ [V.ref t]))) := Same.mut (e8.trans E11) nd
      have hd12 : upd H11 pd (.lst (us.map V.ref ++ [V.ref t])) pd = some (.lst ((us ++ [t]).map V.ref)) := by
        rw [upd_same, List.map_append]
        rfl
      have hD12 : upd H11 pd (.lst (us.map V.ref ++ [V.ref t])) D5 = some (.lst (tvs e.ws)) := by
        rw [upd_ne pD.symm]
        exact hD11
      generalize upd H11 pd (.lst (us.map V.ref ++ [V.ref t])) = H12 at *
      clear hus11 hd11 hD11 E11 k11 hT11 e10 hd9 hD9 hp7 e9
      have hb12 := hb7.same e12
      refine ⟨_, rfl, _, rfl, p, dx, d1, d2, nx, es, 4, .int ((e.n : Nat) : Int), rfl, hb12, r.bk, hle, hws, .inr ⟨rfl, _, rfl, fun hno => absurd rfl (hno e hem), fun j e' he' hen p8 H13 n8 e13 hp8 => ?_⟩⟩
      have : e' = e := by
        have := num_idx r.bk.nu j i e' e he' he (by omega)
        subst this
        rw [he] at he'
        exact (Option.some.inj he').symm
      subst this
      have hok : ∀ l ∈ e'.ws, Ok l := fun l hl => (b3 l hl).1.ok
      refine ⟨_, rfl, _, rfl, p8, D5, e'.ws, e'.ws, rfl, rfl, SqL.of hp8, SqL.of (e13 _ _ hD12), hok, hok, false, by simp, iteF ?_⟩
      refine ⟨_, rfl, .inl ⟨rfl, _, SqL.of hp8⟩, p8, _, .str "a", rfl, rfl, hp8, by rw [List.length_map]; exact bigL (by have := hws e' hem; omega), ?_⟩
      have m8 : pd ≠ p8 := fun z => by rw [z, n8] at hd12; cases hd12
      refine ⟨us ++ [t], _, _, _, rfl, Same.mut (e12.trans e13) (e12.free n8), by rw [upd_ne m8]; exact e13 _ _ hd12, ⟨hus12.1, fun j a xs h1 h2 => ?_⟩⟩
      have h3 := hus12.2 j a xs h1 h2
      rw [upd_ne (ne_of_none h3 n8)]
      exact e13 _ _ h3
    rintro σ H8 ⟨us, y3, y5, y6, rfl, e8, hd8, hus⟩
    rw [List.length_map, List.length_map, List.take_length] at hus
    have hb8 := hb7.same e8
    have hw8 := hw7.same e8
    have E8 := E7.trans e8
    clear e8 hb7 hw7 E7 hN7 nd
    -- the forms
    refine ⟨_, rfl, p, dx, _, rfl, hb8.hp, bf_no _ _ _ (by decide +kernel) (by decide +kernel) (by decide +kernel), p, dx, d1, d2, nx, es, rfl, hb8, hle, fun pf fs H9 e9 nf hf9 hfl hfs => ?_⟩
    have hT9 : Tps H9 fs (es.map frm) := ⟨by rw [List.length_map]; exact hfl, fun j a xs h1 h2 => by
      rw [List.getElem?_map] at h2
      obtain ⟨e, he, rfl⟩ := Option.map_eq_some_iff.mp h2
      exact (hfs j a e h1 he).2⟩
    have hfok : ∀ e ∈ es, Ok e.f := fun e he => by
      obtain ⟨b1, _, b3⟩ := r.bk.ws e he
      obtain ⟨u, hu⟩ := List.exists_mem_of_ne_nil _ b1
      obtain ⟨z1, z2⟩ := b3 u hu
      rw [← z2]
      exact min_ok z1
    have hb9 := hb8.same e9
    have hw9 := hw8.same e9
    have E9 := E8.trans e9
    refine ⟨_, rfl, _, _, _, _, true, rfl, .ty "list", .base (.lst hf9), kit_ty (by decide +kernel), true, rfl, iteF ?_⟩
    refine ⟨_, rfl, _, rfl, pf, pd, fs, us, _, _, rfl, rfl, SqL.of hf9, SqL.of (e9 _ _ hd8), hT9, hus.same e9, frm_ok hfok, frm_ok hfok, false, by simp, iteF ?_⟩
    refine ⟨_, rfl, p, dx, _, rfl, hb9.hp, bf_no _ _ _ (by decide +kernel) (by decide +kernel) (by decide +kernel), p, dx, d1, d2, nx, es, rfl, hb9, hle, fun H10 e10 => ?_⟩
    have hw10 := hw9.same e10
    refine ⟨_, rfl, o, .ref wl, rfl, hw10.words, wl, _, rfl, .inl (SqL.of hw10.hw), _, _, rfl, ?_⟩
    have hmany : ((manyOf es : Nat) : Int) = (((ts.map V.ref).length : Nat) : Int) := by rw [r.many, List.length_map, htl]
    rw [decide_eq_true hmany]
    refine ⟨true, rfl, iteF ?_⟩
    have hf10 := e10 _ _ hf9
    refine ⟨_, rfl, .inl ⟨rfl, _, SqL.of hf10⟩, (show 2 ≤ sizeLine by decide), fun t nt => ?_⟩
    have k11 := same_upd (o := .tup [V.int 0, V.str "a"]) nt
    have hf11 := k11 _ _ hf10
    have E11 : Same H (upd H10 t (.tup [V.int 0, V.str "a"])) := (E9.trans e10).trans k11
    generalize upd H10 t (.tup [V.int 0, V.str "a"]) = H11 at *
    refine ⟨pf, _, .ref t, rfl, rfl, hf11, by rw [List.length_map, hfl]; exact bigL (by omega), ?_⟩
    have E12 : Same H (upd H11 pf (.lst (fs.map V.ref ++ [V.ref t]))) := Same.mut E11 (E8.free nf)
    generalize upd H11 pf (.lst (fs.map V.ref ++ [V.ref t])) = H12 at *
    have hb12 := x.bk.same E12
    have hw12 := x.ow.same E12
    refine ⟨_, rfl, _, rfl, o, .int (nx : Nat), rfl, hw12.next, p, dx, d1, d2, nx, es, 4, .int ((nx : Nat) : Int), rfl, hb12, r.bk, hle, hws, .inr ⟨rfl, _, rfl, fun _ H13 e13 => ?_, fun j e he hen => ?_⟩⟩
    · refine ⟨rfl, true, congrArg V.bl eq_ring, iteT ?_⟩
      refine ⟨_, rfl, _, rfl, p, dx, d1, d2, nx, es, 4, .int (-1), rfl, hb12.same e13, r.bk, hle, hws, .inr ⟨rfl, _, rfl, fun _ H14 e14 => ?_, fun j e he hen => ?_⟩⟩
      · refine ⟨rfl, ?_⟩
        have z := q H14 ((E12.trans e13).trans e14)
        rw [eq_ring]
        exact z
      · omega
    · have := r.bk.nl e (List.mem_of_getElem? he)
      omega
end
end Rk
namespace Rw
open PySem PySem.Spec PyProof.Rows L2
section
variable {X : Cx}
def tCut2 (t t2 u : TS) : TS := fun D σ H => ∃ Mid : L2.St → Hp → Prop, t { D with nx := t2 { D with nx := Mid } } σ H ∧ ∀ σ' H', Mid σ' H' → u D σ' H'
theorem pss_cut2 {s1 s2 : Stmt} {rest : List Stmt} {t t2 u : TS} (h1 : PS X s1 t) (h2 : PS X s2 t2) (h3 : PSs X rest u) : PSs X (s1 :: s2 :: rest) (tCut2 t t2 u) := by
  refine ⟨fun pins s σ H D I h => ?_⟩
  obtain ⟨Mid, hm, hu⟩ := h
  refine wpAny_execs_cons (thn (h1.run pins s σ H { D with nx := t2 { D with nx := Mid } } I hm) fun f s1 q => ?_)
  cases f with
  | next =>
    obtain ⟨σ', H', I', q⟩ := q
    refine wpAny_execs_cons (thn (h2.run pins s1 σ' H' { D with nx := Mid } I' q) fun f s2 q => ?_)
    cases f with
    | next =>
      obtain ⟨σ2, H2, I2, q⟩ := q
      exact h3.run pins s2 σ2 H2 D I2 (hu σ2 H2 q)
    | ret v => exact q
    | brk => exact q
    | cont => exact q
  | ret v => exact q
  | brk => exact q
  | cont => exact q
end
/-- what the book told, and what was due: alike -/
inductive Fd (H H' : Hp) (F : List Addr) : V → V → Prop
  | t (a : List Nat) : Fd H H' F (tv a) (tv a)
  | i (k : Int) : Fd H H' F (.int k) (.int k)
  | n : Fd H H' F .non .non
  | l {p q : Addr} {ls : List (List Nat)} : H p = none → p ∉ F → H' p = some (.lst (tvs ls)) → H' q = some (.lst (tvs ls)) → ls.length ≤ 1000 → (∀ x ∈ ls, Ok x) → Fd H H' F (.ref p) (.ref q)
section
variable {C : Addr} {H H1 H2 : Hp} {n : Nat} {p dx d1 d2 o wl : Addr} {nx : Nat} {es : List Ent} {ts : List Addr} {ps : List (List Nat × Nat)}
theorem BoX.bo (x : BoX C H n p dx d1 d2 nx es o wl ts ps) : Bo C H (foot p d1 d2 es o wl) n p o := ⟨_, _, _, _, _, _, _, _, x, rfl⟩
theorem BoX.same (x : BoX C H n p dx d1 d2 nx es o wl ts ps) (e : Same H H1) : BoX C H1 n p dx d1 d2 nx es o wl ts ps := ⟨x.bk.same e, x.ow.same e, x.rl, x.le, x.lp, x.ln, x.no, x.nw⟩
theorem BoX.step1 (x : BoX C H n p dx d1 d2 nx es o wl ts ps) (f : Fr (p :: d1 :: d2 :: es.map Ent.a) H H1) : OwH H1 o wl nx ts ps :=
  x.ow.keep (fun u e => f _ u e x.no) (fun u e => f _ u e x.nw) fun a xs e => f a _ e fun m => by
    obtain ⟨u, hu, hn⟩ := x.bo.kind a (List.mem_cons_of_mem _ (List.mem_cons_of_mem _ m))
    rw [e] at hu
    exact hn xs (Option.some.inj hu).symm
theorem BoX.step2 (x : BoX C H n p dx d1 d2 nx es o wl ts ps) {nx' : Nat} {es' : List Ent} {ts' : List Addr} {ps' : List (List Nat × Nat)} (f1 : Fr (p :: d1 :: d2 :: es.map Ent.a) H H1) (b1 : BkH C H1 p dx d1 d2 nx' es')
    (ha : ∀ y ∈ es'.map Ent.a, y ∈ es.map Ent.a ∨ H y = none) (f2 : Fr [o, wl] H1 H2) (w2 : OwH H2 o wl nx' ts' ps') (r' : RelP nx' es' ps') (l1 : es'.length ≤ n + 1) (l2 : ps'.length ≤ n + 1) (l3 : nx' ≤ n + 1) :
    ∃ F', Bo C H2 F' (n + 1) p o ∧ Fr (foot p d1 d2 es o wl) H H2 ∧ ∀ a ∈ F', a ∈ foot p d1 d2 es o wl ∨ H a = none := by
  have far : ∀ b u, H b = some u → b ∉ p :: d1 :: d2 :: es.map Ent.a → b ∉ p :: d1 :: d2 :: es'.map Ent.a := fun b u e hb m => by
    simp only [List.mem_cons, not_or] at hb m
    obtain ⟨h1, h2, h3, h4⟩ := hb
    rcases m with m | m | m | m
    · exact h1 m
    · exact h2 m
    · exact h3 m
    · rcases ha b m with z | z
      · exact h4 z
      · rw [e] at z
        cases z
  have no' := far o _ x.ow.ho x.no
  have nw' := far wl _ x.ow.hw x.nw
  refine ⟨foot p d1 d2 es' o wl, ⟨dx, d1, d2, nx', es', wl, ts', ps', ⟨b1.keep fun a u e m => f2 a u e fun z => ?_, w2, r', l1, l2, l3, no', nw'⟩, rfl⟩, ?_, fun a m => ?_⟩
  · simp only [List.mem_cons, List.not_mem_nil, or_false] at z
    rcases z with rfl | rfl
    · exact no' m
    · exact nw' m
  · refine (f1.mono fun a m => ?_).trans (f2.mono fun a m => ?_)
    · exact List.mem_cons_of_mem _ (List.mem_cons_of_mem _ m)
    · simp only [List.mem_cons, List.not_mem_nil, or_false] at m
      rcases m with rfl | rfl
      · exact List.mem_cons_self
      · exact List.mem_cons_of_mem _ List.mem_cons_self
  · unfold foot at m ⊢
    simp only [List.mem_cons] at m ⊢
    rcases m with m | m | m | m | m | m
    · exact .inl (.inl m)
    · exact .inl (.inr (.inl m))
    · exact .inl (.inr (.inr (.inl m)))
    · exact .inl (.inr (.inr (.inr (.inl m))))
    · exact .inl (.inr (.inr (.inr (.inr (.inl m)))))
    · rcases ha a m with z | z
      · exact .inl (.inr (.inr (.inr (.inr (.inr z)))))
      · exact .inr z
end
theorem sg_wd {l : List Nat} {n : Nat} (h : Sg l) (h1 : 1 ≤ n) (h2 : n ≤ 300) (e : l.length = n) : Wd l := ⟨by omega, by omega, fun c hc => h c hc⟩
theorem turn_wd {l u : List Nat} (h : Wd l) (hu : u ∈ turns l) : Wd u := by
  obtain ⟨k, _, rfl⟩ := List.mem_map.mp hu
  refine ⟨?_, ?_, fun c hc => ?_⟩
  · rw [turn_len]
    exact h.1
  · rw [turn_len]
    exact h.2.1
  · rcases List.mem_append.mp hc with z | z
    · exact h.2.2 c (List.mem_of_mem_drop z)
    · exact h.2.2 c (List.mem_of_mem_take z)
theorem abs_two {v : V} (h : v ∈ [V.str "ab", V.str "ab", V.str "abc"]) : ∃ s : List Nat, v = tv s ∧ 1 ≤ s.length ∧ s.length ≤ 26 ∧ Sg s := by
  have h2 : V.str "ab" = tv [97, 98] := congrArg V.str (by decide +kernel)
  have h3 : V.str "abc" = tv [97, 98, 99] := congrArg V.str (by decide +kernel)
  simp only [List.mem_cons, List.not_mem_nil, or_false] at h
  rcases h with rfl | rfl | rfl
  · exact ⟨_, h2, by decide, by decide, fun c hc => by simp at hc; omega⟩
  · exact ⟨_, h2, by decide, by decide, fun c hc => by simp at hc; omega⟩
  · exact ⟨_, h3, by decide, by decide, fun c hc => by simp at hc; omega⟩
theorem way_of {v : V} (h : v ∈ [V.int 0, V.int 0, V.int 0, V.int 1, V.int 1, V.int 2, V.int 3]) : ∃ way : Nat, v = .int (way : Nat) ∧ way < 4 := by
  simp only [List.mem_cons, List.not_mem_nil, or_false] at h
  rcases h with rfl | rfl | rfl | rfl | rfl | rfl | rfl
  · exact ⟨0, rfl, by decide⟩
  · exact ⟨0, rfl, by decide⟩
  · exact ⟨0, rfl, by decide⟩
  · exact ⟨1, rfl, by decide⟩
  · exact ⟨1, rfl, by decide⟩
  · exact ⟨2, rfl, by decide⟩
  · exact ⟨3, rfl, by decide⟩
end Rw
namespace Rk
open PySem PySem.Spec PyProof.Rows L2 Rw
abbrev s_l_right : Stmt := topS 29
abbrev n_l_right : List Str := ["_law_book", "_law_own", "_law_cell", "_law_word", "_law_old", "_law_way", "_law_found", "_law_due_here"]
abbrev p_l_right : List Str := ["_law_book", "_law_own", "_law_cell"]
theorem sc_l_right : FnScope n_l_right p_l_right (defScope s_l_right) := ⟨rfl, rfl, rfl, by decide +kernel, rfl, by decide +kernel, by decide +kernel⟩
section
variable {P : Program} {w : World} {K : PySem.W.Frag} {mg : Str → Option Value} {base : Heap} {C : Addr} (B : Bt mg) (RG : RgC K mg C)
include B RG
theorem ok_lright (D : Dfn K mg "_law_right" s_l_right p_l_right) (c__law_mixed : Cal CX0 P w K mg base 1 "_law_mixed" spMixed) (c__law_drawn : Cal CX0 P w K mg base 2 "_law_drawn" spDrawn) (c__law_turnings : Cal CX0 P w K mg base 1 "_law_turnings" spLTurnings)
    (c__law_told : Cal CX0 P w K mg base 7 "_law_told" (spTold12 K C)) (c__law_due : Cal CX0 P w K mg base 3 "_law_due" spLDue) (c__law_no_word : Cal CX0 P w K mg base 1 "_law_no_word" (spNoWord K)) : Cal CX0 P w K mg base 8 "_law_right" (spLRight C) := by
  refine D.cal fun f fd F => F.ok sc_l_right (fun vs H Q E h => ?_) (fun cdv A outer st H vs Q E hr h => ?_)
  · obtain ⟨p, o, F, n, c, rfl, _⟩ := h
    rfl
  · obtain ⟨p, o, F, n, c, rfl, ⟨dx, d1, d2, nx, es, wl, ts, ps, x, rfl⟩, hn, q⟩ := h
    refine ⟨_, (pss_cons (ps_set (i := 3) sc_l_right.nd rfl (Or.inl rfl) (pe_cal c__law_drawn hr (by decide) pass0 (pa_cons (pv 2) (pa_cons (pe_ix ix_list (pe_lst (pa_cons pe_str (pa_cons pe_str (pa_cons pe_str pa_nil)))) (pe_op op_mod (pe_op op_fdiv (pe_cal c__law_mixed hr (by decide) pass0 (pa_cons (pv 2) (pa_cons pe_int pa_nil))) pe_int) pe_int) (fun _ _ => rfl)) (pa_cons (pe_op op_add pe_int (pe_op op_mod (pe_op op_fdiv (pe_cal c__law_mixed hr (by decide) pass0 (pa_cons (pv 2) (pa_cons pe_int pa_nil))) pe_int) pe_int)) pa_nil)))))
      (Evl.pss_cut (ps_if (PW.pt (pw_and (pt_cmpR (op_neTs hr.units) (pe_dget (hu_of hr) (pv 1) pe_str (fun _ _ => rfl)) (pe_lst pa_nil) (nomark _)) (pw_and1 (pt_cmpR op_eq (pe_op op_mod (pe_op op_fdiv (pe_cal c__law_mixed hr (by decide) pass0 (pa_cons (pv 2) (pa_cons pe_int pa_nil))) pe_int) pe_int) pe_int (nomark _))))) (pss_cons (ps_set (i := 4) sc_l_right.nd rfl (Or.inl rfl) (pe_ix ix_tup (pe_ix ix_list (pe_dget (hu_of hr) (pv 1) pe_str (fun _ _ => rfl)) (pe_op op_mod (pe_op op_fdiv (pe_cal c__law_mixed hr (by decide) pass0 (pa_cons (pv 2) (pa_cons pe_int pa_nil))) pe_int) (pe_callB call_len_seq (by rfl) B.m_len PySem.boot_len (pa_cons (pe_dget (hu_of hr) (pv 1) pe_str (fun _ _ => rfl)) pa_nil))) (fun _ _ => rfl)) pe_int (fun _ _ => rfl)))
        (pss_one (ps_set (i := 3) sc_l_right.nd rfl (Or.inl rfl) (pe_ix ix_list (pe_cal c__law_turnings hr (by decide) pass0 (pa_cons (pv 4) pa_nil)) (pe_op op_mod (pe_op op_fdiv (pe_cal c__law_mixed hr (by decide) pass0 (pa_cons (pv 2) (pa_cons pe_int pa_nil))) pe_int) (pe_callB call_lenT (by rfl) B.m_len PySem.boot_len (pa_cons (pv 4) pa_nil))) (fun _ _ => rfl))))) pss_nil)
      (pss_cons (ps_set (i := 5) sc_l_right.nd rfl (Or.inl rfl) (pe_ix ix_list (pe_lst (pa_cons pe_int (pa_cons pe_int (pa_cons pe_int (pa_cons pe_int (pa_cons pe_int (pa_cons pe_int (pa_cons pe_int pa_nil)))))))) (pe_op op_mod (pe_op op_fdiv (pe_cal c__law_mixed hr (by decide) pass0 (pa_cons (pv 2) (pa_cons pe_int pa_nil))) pe_int) pe_int) (fun _ _ => rfl)))
      (pss_cut2 (ps_set (i := 6) sc_l_right.nd rfl (Or.inl rfl) (pe_cal c__law_told hr (by decide) pass0 (pa_cons (pv 0) (pa_cons (pv 5) (pa_cons (pv 3) pa_nil))))) (ps_set (i := 7) sc_l_right.nd rfl (Or.inl rfl) (pe_cal c__law_due hr (by decide) pass0 (pa_cons (pv 1) (pa_cons (pv 5) (pa_cons (pv 3) pa_nil)))))
      (pss_cons (ps_if (PW.pt (pw_or (pt_cmpR (op_neX hr.units) (pv 6) (pv 7) (nomark _)) (pw_or1 (pt_val (pe_callB call_isi (by rfl) B.m_isinstance (by decide +kernel) (pa_cons (pv 6) (pa_cons (pe_bltn (v := .ty "bool") (u := .type "bool") rfl B.m_bool (by decide +kernel) rfl) pa_nil))))))) (pss_one (ps_ret pe_bl)) pss_nil)
      (Evl.pss_cut (ps_if (pt_val (pe_callB call_isi (by rfl) B.m_isinstance (by decide +kernel) (pa_cons (pv 6) (pa_cons (pe_bltn (v := .ty "list") (u := .type "list") rfl B.m_list (by decide +kernel) rfl) pa_nil)))) (pss_one (ps_expr (pe_bm PySem.F.plainAttrs_list PySem.F.slot_list_append PySem.F.type_list_append mt_append (pv 6) (pa_cons pe_str pa_nil)))) pss_nil)
      (pss_one (ps_ret (pe_cmpR op_eq (pe_cal c__law_told hr (by decide) pass0 (pa_cons (pv 0) (pa_cons (pe_op op_mod (pe_op op_fdiv (pe_cal c__law_mixed hr (by decide) pass0 (pa_cons (pv 2) (pa_cons pe_int pa_nil))) pe_int) pe_int) (pa_cons (pe_cal c__law_no_word hr (by decide) pass0 (pa_cons (pe_cal c__law_mixed hr (by decide) pass0 (pa_cons (pv 2) (pa_cons pe_int pa_nil))) pa_nil)) pa_nil)))) pe_str (nomark _)))))))))), ?_⟩
    have r := x.rl
    have hel : es.length ≤ 60 := by have := x.le; omega
    have hpl : ps.length ≤ 60 := by have := x.lp; omega
    have hnx : nx ≤ 60 := by have := x.ln; omega
    have htl := x.ow.hl
    have hok : ∀ u ∈ ps, Ok u.1 := fun u hu => (r.wd u hu).ok
    -- a word
    refine ⟨_, rfl, (show 3 ≤ sizeLine by decide), fun p1 n1 => ⟨_, rfl, c, _, rfl, fun i0 a0 a1 => ⟨_, 7, rfl, rfl, ⟨by decide, by decide⟩, _, 3, rfl, rfl, (show (0 : Int) < 3 by decide), ?_⟩⟩⟩
    obtain ⟨g0, g1⟩ := draw7 (n := 3) a0 (by decide)
    obtain ⟨v, hv, ha⟩ := at_some (xs := [V.str "ab", V.str "ab", V.str "abc"]) g0 g1
    refine ⟨p1, _, _, v, rfl, rfl, SqL.of upd_same, ha, ?_⟩
    obtain ⟨s, rfl, s1, s2, sg⟩ := abs_two hv
    have k1 := same_upd (o := .lst [V.str "ab", V.str "ab", V.str "abc"]) n1
    generalize upd H p1 (.lst [V.str "ab", V.str "ab", V.str "abc"]) = H1 at *
    refine ⟨_, rfl, c, _, rfl, fun i1 b0 b1 => ⟨_, 7, rfl, rfl, ⟨by decide, by decide⟩, _, 5, rfl, rfl, (show (0 : Int) < 5 by decide), _, _, rfl, rfl, ?_⟩⟩
    obtain ⟨g2, g3⟩ := draw7 (n := 5) b0 (by decide)
    obtain ⟨m, hm⟩ : ∃ m : Nat, 1 + i1 / 7 % 5 = (m : Int) := ⟨(1 + i1 / 7 % 5).toNat, by omega⟩
    refine ⟨c, s, m, by show [V.int c, tv s, V.int (1 + i1 / 7 % 5)] = _; rw [hm], s1, s2, sg, by omega, fun l0 H2 e2 hl0 sg0 => ?_⟩
    have hw0 : Wd l0 := sg_wd sg0 (n := m) (by omega) (by omega) hl0
    have E2 := k1.trans e2
    have hw2 := x.ow.same E2
    clear k1 e2 ha hv g0 g1 sg s1 s2
    refine ⟨fun σ' H' => ∃ (l : List Nat) (y4 : Option V), σ' = [some (.ref p), some (.ref o), some (.int c), some (tv l), y4, none, none, none] ∧ Wd l ∧ Same H H', ?_, ?_⟩
    · refine ⟨_, rfl, o, .ref wl, rfl, hw2.words, (show 0 ≤ sizeLine by decide), fun p3 n3 => ?_⟩
      have k3 := same_upd (o := .lst []) n3
      have hw3 := hw2.same k3
      refine ⟨wl, p3, ts, [], _, [], rfl, rfl, SqL.of hw3.hw, SqL.of upd_same, hw3.tps, Tps.nil, two_ok hok, (fun _ h => nomatch h), _, rfl, ?_⟩
      have E3 := E2.trans k3
      generalize upd H2 p3 (.lst []) = H3 at *
      by_cases g : ps.map two = []
      · rw [decide_eq_true g]
        exact iteF (iteF ⟨l0, _, rfl, hw0, E3⟩)
      · rw [decide_eq_false g]
        refine iteT ⟨_, rfl, c, _, rfl, fun i3 c0 c1 => ⟨_, 7, rfl, rfl, ⟨by decide, by decide⟩, _, 3, rfl, rfl, (show (0 : Int) < 3 by decide), rfl, _, rfl, ite2 (fun _ => ?_) (fun _ => ⟨l0, _, rfl, hw0, E3⟩)⟩⟩
        refine ⟨_, rfl, o, .ref wl, rfl, hw3.words, _, rfl, c, _, rfl, fun i4 c2 c3 => ⟨_, 7, rfl, rfl, ⟨by decide, by decide⟩, _, rfl, o, .ref wl, rfl, hw3.words, wl, _, rfl, .inl (SqL.of hw3.hw), ?_⟩⟩
        have hpos : 1 ≤ ts.length := by
          rw [htl]
          cases ps with
          | nil => exact absurd rfl g
          | cons a b => simp
        have hlen : (0 : Int) < (((ts.map V.ref).length : Nat) : Int) := by rw [List.length_map]; omega
        obtain ⟨m0, m1⟩ := draw7 c2 hlen
        refine ⟨_, _, rfl, rfl, hlen, ?_⟩
        obtain ⟨u, hu, hau⟩ := at_some (xs := ts.map V.ref) m0 m1
        obtain ⟨t, ht, rfl⟩ := List.mem_map.mp hu
        obtain ⟨j, hj, rfl⟩ := List.getElem_of_mem ht
        have hjp : j < ps.length := by omega
        have hqj : ps[j]? = some ps[j] := List.getElem?_eq_getElem hjp
        have htt := hw3.ht j _ _ (List.getElem?_eq_getElem hj) hqj
        have hwq := r.wd _ (List.mem_of_getElem? hqj)
        generalize ps[j] = qj at hqj htt hwq
        generalize ts[j] = t at *
        refine ⟨wl, _, _, .ref t, rfl, rfl, SqL.of hw3.hw, hau, t, _, 0, tv qj.1, rfl, rfl, SqT.of htt, atI_nat (j := 0) rfl, ?_⟩
        refine ⟨_, rfl, qj.1, rfl, by have := hwq.2.1; omega, fun p5 H5 n5 e5 hp5 => ⟨_, rfl, c, _, rfl, fun i6 c4 c5 => ⟨_, 7, rfl, rfl, ⟨by decide, by decide⟩, _, rfl, qj.1, rfl, hwq.sz, ?_⟩⟩⟩
        have hl1 : (0 : Int) < ((qj.1.length : Nat) : Int) := by have := hwq.1; omega
        have hl2 : (0 : Int) < (((tvs (turns qj.1)).length : Nat) : Int) := by rw [List.length_map, turns_len]; exact hl1
        obtain ⟨m2, m3⟩ := draw7 c4 hl1
        refine ⟨_, _, rfl, rfl, hl1, ?_⟩
        obtain ⟨u, hu, hau⟩ := at_some (xs := tvs (turns qj.1)) m2 (by rw [List.length_map, turns_len]; exact m3)
        obtain ⟨l, hl, rfl⟩ := List.mem_map.mp hu
        refine ⟨p5, _, _, tv l, rfl, rfl, SqL.of hp5, hau, ?_⟩
        exact ⟨l, _, rfl, turn_wd hwq hl, E3.trans e5⟩
    rintro σ' H3 ⟨l, y4, rfl, hl, E3⟩
    clear hw2 E2 hw0 sg0 hl0
    -- a way
    refine ⟨(show 7 ≤ sizeLine by decide), fun p4 n4 => ⟨_, rfl, c, _, rfl, fun i4 c0 c1 => ⟨_, 7, rfl, rfl, ⟨by decide, by decide⟩, _, 7, rfl, rfl, (show (0 : Int) < 7 by decide), ?_⟩⟩⟩
    obtain ⟨g0, g1⟩ := draw7 (n := 7) c0 (by decide)
    obtain ⟨v, hv, ha⟩ := at_some (xs := [V.int 0, V.int 0, V.int 0, V.int 1, V.int 1, V.int 2, V.int 3]) g0 g1
    refine ⟨p4, _, _, v, rfl, rfl, SqL.of upd_same, ha, ?_⟩
    obtain ⟨way, rfl, hway⟩ := way_of hv
    have k4 := same_upd (o := .lst [V.int 0, V.int 0, V.int 0, V.int 1, V.int 1, V.int 2, V.int 3]) n4
    have E5 := E3.trans k4
    generalize upd H3 p4 (.lst [V.int 0, V.int 0, V.int 0, V.int 1, V.int 1, V.int 2, V.int 3]) = H5 at *
    clear k4 n4 E3 ha hv g0 g1
    have x5 := x.same E5
    have hle : es.length ≤ 1000 := by omega
    have hws : ∀ e ∈ es, e.ws.length ≤ 1000 := fun e he => by have := r.len e he; omega
    have hll : l.length ≤ 1000 := by have := hl.2.1; omega
    have hone := r.one hl
    -- told and due
    refine ⟨fun σ' H' => ∃ (v v' : V) (F' : List Addr), σ' = [some (.ref p), some (.ref o), some (.int c), some (tv l), y4, some (.int (way : Nat)), some v, some v'] ∧ Bo C H' F' (n + 1) p o ∧ Fr (foot p d1 d2 es o wl) H H' ∧ (∀ a ∈ F', a ∈ foot p d1 d2 es o wl ∨ H a = none) ∧ Fd H H' F' v v', ?_, ?_⟩
    · have quiet : ∀ {v v' : V} {H' : Hp}, Same H5 H' → Fd H H' (foot p d1 d2 es o wl) v v' → ∃ (F' : List Addr), Bo C H' F' (n + 1) p o ∧ Fr (foot p d1 d2 es o wl) H H' ∧ (∀ a ∈ F', a ∈ foot p d1 d2 es o wl ∨ H a = none) ∧ Fd H H' F' v v' := fun e hd => ⟨_, ((x5.same e).bo).mono (Nat.le_succ n), Fr.of (E5.trans e), fun _ m => .inl m, hd⟩
      have moved : ∀ {H1 H2 : Hp} {nx' : Nat} {es' : List Ent} {ts' : List Addr} {ps' : List (List Nat × Nat)} {k : Int}, Fr (p :: d1 :: d2 :: es.map Ent.a) H5 H1 → BkH C H1 p dx d1 d2 nx' es' → (∀ y ∈ es'.map Ent.a, y ∈ es.map Ent.a ∨ H5 y = none) → Fr [o, wl] H1 H2 → OwH H2 o wl nx' ts' ps' → RelP nx' es' ps' → es'.length ≤ n + 1 → ps'.length ≤ n + 1 → nx' ≤ n + 1 →
          ∃ (F' : List Addr), Bo C H2 F' (n + 1) p o ∧ Fr (foot p d1 d2 es o wl) H H2 ∧ (∀ a ∈ F', a ∈ foot p d1 d2 es o wl ∨ H a = none) ∧ Fd H H2 F' (.int k) (.int k) := fun f1 b1 ha f2 w2 r' l1 l2 l3 => by
        obtain ⟨F', z1, z2, z3⟩ := x5.step2 f1 b1 ha f2 w2 r' l1 l2 l3
        exact ⟨F', z1, (Fr.of E5).trans z2, fun a m => (z3 a m).imp id E5.free, .i _⟩
      refine ⟨_, rfl, _, rfl, _, rfl, p, dx, d1, d2, nx, es, way, tv l, rfl, x5.bk, r.bk, hle, hws, .inl ⟨hway, true, .word hl, (fun e => nomatch e), fun l' _ el _ => ?_⟩⟩
      cases tv_inj el
      rcases (by omega : way = 0 ∨ way = 1 ∨ way = 2 ∨ way = 3) with rfl | rfl | rfl | rfl
      · refine ⟨fun i e he hf hm H6 e6 => ?_, fun es' nx' num H6 ho hb6 f6 => ?_⟩
        · refine ⟨_, rfl, _, rfl, _, rfl, o, wl, nx, ts, ps, l, 0, rfl, x5.ow.same e6, by omega, hll, hok, hone, by decide, fun _ H7 e7 => ?_, fun hno => absurd (r.has.mpr ⟨e, List.mem_of_getElem? he, hm⟩) hno⟩
          obtain ⟨F', z⟩ := quiet (e6.trans e7) (.t (markT 5))
          exact ⟨_, _, F', rfl, z⟩
        · obtain ⟨a1, a2, a3, a4, a5, a6⟩ := r.add hl ho
          refine ⟨_, rfl, _, rfl, _, rfl, o, wl, nx, ts, ps, l, 0, rfl, x5.step1 f6, by omega, hll, hok, hone, by decide, fun hin => absurd hin a4, fun _ t H7 nt hw7 f7 => ?_⟩
          rw [← a1, ← a2] at hw7
          rw [← a1]
          have hnx' : nx' ≤ n + 1 := by
            rcases num_ring (ps := ps) (nx := nx) (l := l) with ⟨_, _, z⟩ | ⟨_, _, _, z⟩ <;> rw [a2, z] <;> have := x.ln <;> omega
          obtain ⟨F', z⟩ := moved (k := ((num : Nat) : Int)) f6 hb6 a6 f7 hw7 a3 (by have := x.le; omega) (by rw [List.length_append]; have := x.lp; show _ + 1 ≤ _; omega) hnx'
          exact ⟨_, _, F', rfl, z⟩
      · refine ⟨fun hno H6 e6 => ?_, fun i e H6 he hm hb6 f6 => ?_⟩
        · refine ⟨_, rfl, _, rfl, _, rfl, o, wl, nx, ts, ps, l, 1, rfl, x5.ow.same e6, by omega, hll, hok, hone, by decide, fun _ H7 e7 => ?_, fun k _ hk => ?_⟩
          · obtain ⟨F', z⟩ := quiet (e6.trans e7) (.t (markT 4))
            exact ⟨_, _, F', rfl, z⟩
          · obtain ⟨e, he, hm⟩ := r.has.mp (List.mem_map.mpr ⟨_, hk, rfl⟩)
            exact absurd hm (hno e he)
        · have hem := List.mem_of_getElem? he
          obtain ⟨t1, t2⟩ := takeE_map (l := l) he
          refine ⟨_, rfl, _, rfl, _, rfl, o, wl, nx, ts, ps, l, 1, rfl, x5.step1 f6, by omega, hll, hok, hone, by decide, fun hno => absurd (r.has.mpr ⟨e, hem, hm⟩) hno, fun k hk _ ts' H7 hw7 f7 => ?_⟩
          have hke : k = e.n := by
            rw [r.out_of hl he (r.f_of hem hm)] at hk
            have := V.int.inj hk
            omega
          subst hke
          obtain ⟨F', z⟩ := moved (k := ((e.n : Nat) : Int)) f6 hb6 (fun y hy => .inl (t2 y hy)) f7 hw7 (r.take he hm) (by have := x.le; omega) (by have := x.lp; have := List.length_erase_le (a := (l, e.n)) (l := ps); omega) (by have := x.ln; omega)
          exact ⟨_, _, F', rfl, z⟩
      · refine fun v H6 hR e6 => ?_
        refine ⟨_, rfl, _, rfl, _, rfl, o, wl, nx, ts, ps, l, 2, rfl, x5.ow.same e6, by omega, hll, hok, hone, by decide, fun H7 e7 => ?_⟩
        have hv := RingOut.uniq r.bk hR (r.out hl)
        rw [← hv]
        cases hR with
        | no _ =>
          obtain ⟨F', z⟩ := quiet (e6.trans e7) .n
          exact ⟨_, _, F', rfl, z⟩
        | yes _ _ =>
          obtain ⟨F', z⟩ := quiet (e6.trans e7) (.i _)
          exact ⟨_, _, F', rfl, z⟩
      · have newl : ∀ {ls : List (List Nat)}, (ps.filter fun q : List Nat × Nat => decide (V.int (q.2 : Nat) = ringV ps l) && !decide (q.1 = l)).map Prod.fst = ls → ls.length ≤ 1000 → (∀ y ∈ ls, Ok y) → ∀ {t u : Addr} {H6 H7 : Hp}, H5 t = none → Same H5 H6 → H6 t = some (.lst (tvs ls)) → Same H6 H7 →
            H7 u = some (.lst (tvs ((ps.filter fun q : List Nat × Nat => decide (V.int (q.2 : Nat) = ringV ps l) && !decide (q.1 = l)).map Prod.fst))) → ∃ (F' : List Addr), Bo C H7 F' (n + 1) p o ∧ Fr (foot p d1 d2 es o wl) H H7 ∧ (∀ a ∈ F', a ∈ foot p d1 d2 es o wl ∨ H a = none) ∧ Fd H H7 F' (.ref t) (.ref u) := fun {ls} hls h1 h2 {t u H6 H7} nt e6 ht e7 hu => by
          rw [hls] at hu
          refine quiet (e6.trans e7) (.l (E5.free nt) (fun m => ?_) (e7 _ _ ht) hu h1 h2)
          obtain ⟨z, hz, _⟩ := x5.bo.kind _ m
          rw [nt] at hz
          cases hz
        obtain ⟨o1, o2⟩ := r.oth hl
        refine ⟨fun h t H6 nt e6 ht => ?_, fun i e he hf t H6 nt e6 ht => ?_⟩
        · refine ⟨_, rfl, _, rfl, _, rfl, o, wl, nx, ts, ps, l, 3, rfl, x5.ow.same e6, by omega, hll, hok, hone, by decide, fun u H7 nu e7 hu => ?_⟩
          obtain ⟨F', z⟩ := newl (o1 h) (by decide) (fun _ h => nomatch h) nt e6 ht e7 hu
          exact ⟨_, _, F', rfl, z⟩
        · refine ⟨_, rfl, _, rfl, _, rfl, o, wl, nx, ts, ps, l, 3, rfl, x5.ow.same e6, by omega, hll, hok, hone, by decide, fun u H7 nu e7 hu => ?_⟩
          have hem := List.mem_of_getElem? he
          obtain ⟨F', z⟩ := newl (o2 i e he hf) (Nat.le_trans (List.length_filter_le ..) (hws e hem)) (fun y hy => ((r.bk.ws e hem).2.2 y (List.mem_filter.mp hy).1).1.ok) nt e6 ht e7 hu
          exact ⟨_, _, F', rfl, z⟩
    rintro σ' H6 ⟨v, v', F', rfl, bo, fr, hF, hd⟩
    clear x5 E5 hone
    have hne : ∀ Q2 : VK, Q2 (.bl false) H6 → rNeX K v v' H6 Q2 := fun Q2 z => by
      cases hd with
      | t a => exact .inl ⟨rfl, by simpa using z⟩
      | i k => exact .inl ⟨rfl, by simpa using z⟩
      | n => exact .inl ⟨rfl, by simpa using z⟩
      | @l pp qq ls _ _ h3 h4 _ h6 => exact .inr ⟨pp, qq, ls, ls, rfl, rfl, SqL.of h3, SqL.of h4, h6, h6, by simpa using z⟩
    have hbl : ∃ t, TyX K H6 v t ∧ PySem.W.kitOne K t (.type "bool") = some false := by
      cases hd with
      | t a => exact ⟨_, .base (.str _), kit_ty (by decide +kernel)⟩
      | i k => exact ⟨_, .base (.int _), kit_ty (by decide +kernel)⟩
      | n => exact ⟨_, .base .non, kit_ty (by decide +kernel)⟩
      | l _ _ h3 _ _ _ => exact ⟨_, .base (.lst h3), kit_ty (by decide +kernel)⟩
    obtain ⟨tt, hty, hkit⟩ := hbl
    refine ⟨_, rfl, _, rfl, hne _ ⟨false, rfl, iteF ?_⟩⟩
    refine ⟨_, rfl, _, _, _, _, false, rfl, .ty "bool", hty, hkit, false, rfl, iteF ?_⟩
    refine ⟨fun σ' H' => σ' = [some (.ref p), some (.ref o), some (.int c), some (tv l), y4, some (.int (way : Nat)), some v, some v'] ∧ Bo C H' F' (n + 1) p o ∧ Fr (foot p d1 d2 es o wl) H H', ?_, ?_⟩
    · cases hd with
      | t a => exact ⟨_, rfl, _, _, _, _, false, rfl, .ty "list", .base (.str _), kit_ty (by decide +kernel), false, rfl, iteF ⟨rfl, bo, fr⟩⟩
      | i k => exact ⟨_, rfl, _, _, _, _, false, rfl, .ty "list", .base (.int _), kit_ty (by decide +kernel), false, rfl, iteF ⟨rfl, bo, fr⟩⟩
      | n => exact ⟨_, rfl, _, _, _, _, false, rfl, .ty "list", .base .non, kit_ty (by decide +kernel), false, rfl, iteF ⟨rfl, bo, fr⟩⟩
      | @l pp qq ls g1 g2 h3 h4 h5 h6 =>
        refine ⟨_, rfl, _, _, _, _, true, rfl, .ty "list", .base (.lst h3), kit_ty (by decide +kernel), true, rfl, iteT ?_⟩
        refine ⟨_, rfl, .inl ⟨rfl, _, SqL.of h3⟩, pp, _, .str "a", rfl, rfl, h3, by rw [List.length_map]; exact bigL (by omega), ?_⟩
        refine ⟨rfl, bo.keep (fun a u hu m => ?_) fun a xs ha => ?_, fr.new g1⟩
        · rw [upd_ne (fun z => g2 (by rw [← z]; exact m))]
          exact hu
        · rw [upd_ne (ne_of ha h3 (by intro z; cases z))]
          exact ha
    rintro σ' H7 ⟨rfl, bo, fr⟩
    clear hne hty hkit hd
    obtain ⟨dx, d1', d2', nx', es', wl', ts', ps', x', rfl⟩ := bo
    have hle' : es'.length ≤ 1000 := by have := x'.le; omega
    have hws' : ∀ e ∈ es', e.ws.length ≤ 1000 := fun e he => by have := x'.rl.len e he; have := x'.lp; omega
    refine ⟨_, rfl, _, rfl, c, _, rfl, fun i7 a2 a3 => ⟨_, 7, rfl, rfl, ⟨by decide, by decide⟩, _, 4, rfl, rfl, (show (0 : Int) < 4 by decide), ?_⟩⟩
    obtain ⟨g0, g1⟩ := draw7 (n := 4) a2 (by decide)
    obtain ⟨way', hway'⟩ : ∃ way' : Nat, i7 / 7 % 4 = (way' : Int) := ⟨(i7 / 7 % 4).toNat, by omega⟩
    refine ⟨_, rfl, c, _, rfl, fun i8 _ _ => ⟨i8, rfl, fun v8 H8 e8 hv8 => ?_⟩⟩
    have x8 := x'.same e8
    refine ⟨p, dx, d1', d2', nx', es', way', v8, by show [V.ref p, V.int (i7 / 7 % 4), v8] = _; rw [hway'], x8.bk, x8.rl.bk, hle', hws', .inl ⟨by omega, false, hv8, fun _ H9 e9 => ?_, fun l hb => nomatch hb⟩⟩
    refine ⟨rfl, ?_⟩
    rw [eq_word]
    exact q _ H9 (x8.same e9).bo (fr.trans (Fr.of (e8.trans e9))) hF
end
end Rk
namespace Rw
open PySem PySem.Spec PyProof.Rows L2
theorem mk_same {H H' : Hp} {x dx : Addr} {u v : HO} (hx : H x = none) (hd : H dx = none) (f : Fr [x] (upd (upd H dx u) x v) H') : Same H H' := fun a z ha => by
  have n1 := ne_of_none ha hx
  have n2 := ne_of_none ha hd
  refine f a z ?_ (by simpa using n1)
  rw [upd_ne n1, upd_ne n2]
  exact ha
theorem merge2 (a b : V) : mergeK [] [((.inr "words" : Key), a), (.inr "next", b)] = [(.inr "words", a), (.inr "next", b)] := by
  have h : ¬ (("words" : Str) = "next") := by decide +kernel
  have h' : ¬ ((.inr "words" : Key) = .inr "next") := fun z => h (Sum.inr.inj z)
  show putK (putK ([] : List (Key × V)) (.inr "words") a) (.inr "next") b = _
  unfold putK
  simp [h']
theorem acc0 {H : Hp} {o wl : Addr} (ho : H o = none) (hw : upd H o (.dK []) wl = none) : OwH (upd (upd (upd H o (.dK [])) wl (.lst [])) o (.dK [(.inr "words", .ref wl), (.inr "next", .int 0)])) o wl 0 [] [] ∧
    Same H (upd (upd (upd H o (.dK [])) wl (.lst [])) o (.dK [(.inr "words", .ref wl), (.inr "next", .int 0)])) ∧ H wl = none := by
  have ow : wl ≠ o := fun z => by rw [z, upd_same] at hw; cases hw
  have hw' : H wl = none := by rw [upd_ne ow] at hw; exact hw
  refine ⟨⟨upd_same, by rw [upd_ne ow, upd_same]; rfl, rfl, fun i t q h => by simp at h⟩, fun a u ha => ?_, hw'⟩
  have n1 := ne_of_none ha ho
  have n2 := ne_of_none ha hw'
  rw [upd_ne n1, upd_ne n2, upd_ne n1]
  exact ha
theorem bo0 {C p dx d1 d2 o wl : Addr} {H : Hp} (b : BkH C H p dx d1 d2 0 []) (w : OwH H o wl 0 [] []) (h1 : o ∉ [p, d1, d2]) (h2 : wl ∉ [p, d1, d2]) : Bo C H [o, wl, p, d1, d2] 0 p o :=
  ⟨dx, d1, d2, 0, [], wl, [], [], ⟨b, w, RelP.start, Nat.le_refl _, Nat.le_refl _, Nat.le_refl _, h1, h2⟩, rfl⟩
/-- two books, apart, and what else stands -/
structure Two (C : Addr) (H : Hp) (i : Nat) (x0 o0 x1 o1 : Addr) (G F0 F1 : List Addr) : Prop where
  b0 : Bo C H F0 i x0 o0
  b1 : Bo C H F1 i x1 o1
  d : ∀ a ∈ F0, a ∉ F1
  g : ∀ a ∈ G, a ∉ F0 ∧ a ∉ F1
  s : ∀ a ∈ G, ∃ u, H a = some u
section
variable {C : Addr} {H H' : Hp} {i : Nat} {x0 o0 x1 o1 : Addr} {G F0 F1 F' : List Addr}
theorem Two.swap (t : Two C H i x0 o0 x1 o1 G F0 F1) : Two C H i x1 o1 x0 o0 G F1 F0 := ⟨t.b1, t.b0, fun a h k => t.d a k h, fun a m => ⟨(t.g a m).2, (t.g a m).1⟩, t.s⟩
theorem Two.same (t : Two C H i x0 o0 x1 o1 G F0 F1) (e : Same H H') : Two C H' i x0 o0 x1 o1 G F0 F1 := ⟨t.b0.same e, t.b1.same e, t.d, t.g, fun a m => by
  obtain ⟨u, hu⟩ := t.s a m
  exact ⟨u, e _ _ hu⟩⟩
theorem Two.left (t : Two C H i x0 o0 x1 o1 G F0 F1) (b : Bo C H' F' (i + 1) x0 o0) (f : Fr F0 H H') (hF : ∀ a ∈ F', a ∈ F0 ∨ H a = none) : Two C H' (i + 1) x0 o0 x1 o1 G F' F1 ∧ ∀ a ∈ G, ∀ u, H a = some u → H' a = some u := by
  have far : ∀ a u, H a = some u → a ∉ F0 → a ∉ F' := fun a u h n m => by
    rcases hF a m with z | z
    · exact n z
    · rw [h] at z
      cases z
  have kg : ∀ a ∈ G, ∀ u, H a = some u → H' a = some u := fun a m u h => f a u h (t.g a m).1
  refine ⟨⟨b, (t.b1.other t.b0 f fun a m1 m0 => t.d a m0 m1).mono (Nat.le_succ i), fun a m m1 => ?_, fun a m => ?_, fun a m => ?_⟩, kg⟩
  · obtain ⟨u, hu, _⟩ := t.b1.kind a m1
    exact far a u hu (fun m0 => t.d a m0 m1) m
  · obtain ⟨u, hu⟩ := t.s a m
    exact ⟨far a u hu (t.g a m).1, (t.g a m).2⟩
  · obtain ⟨u, hu⟩ := t.s a m
    exact ⟨u, kg a m u hu⟩
end
theorem apart {H : Hp} {a b : Addr} {u : HO} (h : H a = some u) (k : H b = none) : b ≠ a := fun z => by
  rw [z, h] at k
  cases k
end Rw
namespace Rk
open PySem PySem.Spec PyProof.Rows L2 Rw
abbrev s_law : Stmt := topS 30
abbrev n_law : List Str := ["_law_script", "_law_books", "_law_owns", "_law_k", "_law_cell", "_law_mix", "_law_side"]
abbrev p_law : List Str := ["_law_script"]
theorem sc_law : FnScope n_law p_law (defScope s_law) := ⟨rfl, rfl, rfl, by decide +kernel, rfl, by decide +kernel, by decide +kernel⟩
section
variable {P : Program} {w : World} {K : PySem.W.Frag} {mg : Str → Option Value} {base : Heap} {C : Addr} (B : Bt mg) (RG : RgC K mg C)
include B RG
theorem ok_law {f : Addr} {fd : FuncData} (F : Fun K "law" "law" s_law f fd) (c__law_mixed : Cal CX0 P w K mg base 1 "_law_mixed" spMixed) (m___init__ : MCal CX0 P w K mg base 1 C "__init__" (spRInit C)) (c__law_right : Cal CX0 P w K mg base 8 "_law_right" (spLRight C)) (c__law_stands : Cal CX0 P w K mg base 8 "_law_stands" (spLStands C)) : FnOk P w K mg base CX0 9 f fd p_law (spLaw K) := by
  refine F.ok sc_law (fun vs H Q E h => ?_) (fun cdv A outer st H vs Q E hr h => ?_)
  · obtain ⟨a, ns, rfl, _⟩ := h
    rfl
  · obtain ⟨a, ns, rfl, hS, hlen, q⟩ := h
    refine ⟨_, (pss_cons (ps_set (i := 1) sc_law.nd rfl (Or.inl rfl) (pe_lst (pa_cons (pe_mkcal RG.mks RG.kc m___init__ hr (by decide) RG.g pass0) (pa_cons (pe_mkcal RG.mks RG.kc m___init__ hr (by decide) RG.g pass0) pa_nil))))
      (pss_cons (ps_set (i := 2) sc_law.nd rfl (Or.inl rfl) (pe_lst (pa_cons (pe_disp (pps_cons pe_str (pe_lst pa_nil) (pps_cons pe_str pe_int pps_nil)) (by rfl) (by rfl) (fun z => by cases z) (by decide)) (pa_cons (pe_disp (pps_cons pe_str (pe_lst pa_nil) (pps_cons pe_str pe_int pps_nil)) (by rfl) (by rfl) (fun z => by cases z) (by decide)) pa_nil))))
      (pss_cons (ps_for PassesOwn.never rfl (pi_enum (by rfl) B.m_enumerate (pa_cons (pe_slice sl_list (pe_op op_cat (pe_lst (pa_cons pe_int pa_nil)) (pe_callTy call_list_of (by rfl) B.m_list (by decide +kernel) (pa_cons (pv 0) pa_nil))) po_none (po_some pe_int)) pa_nil)) (pg_tup rfl (pgs_cons (pg_name (i := 3) sc_law.nd rfl (Or.inl rfl)) (pgs_cons (pg_name (i := 4) sc_law.nd rfl (Or.inl rfl)) pgs_nil)))
        (pss_cons (ps_set (i := 5) sc_law.nd rfl (Or.inl rfl) (pe_cal c__law_mixed hr (by decide) pass0 (pa_cons (pv 4) (pa_cons (pe_op op_add pe_int (pv 3)) pa_nil))))
        (pss_cons (ps_set (i := 6) sc_law.nd rfl (Or.inl rfl) (pe_op op_fdiv (pe_op op_mod (pe_op op_fdiv (pe_cal c__law_mixed hr (by decide) pass0 (pa_cons (pv 5) (pa_cons pe_int pa_nil))) pe_int) pe_int) pe_int))
        (pss_cons (ps_if (pt_not (pt_val (pe_cal c__law_right hr (by decide) pass0 (pa_cons (pe_ix ix_list (pv 1) (pv 6) (fun _ _ => rfl)) (pa_cons (pe_ix ix_list (pv 2) (pv 6) (fun _ _ => rfl)) (pa_cons (pv 5) pa_nil)))))) (pss_one (ps_ret pe_bl)) pss_nil)
        (pss_one (ps_if (PW.pt (pw_or (pt_not (pt_val (pe_cal c__law_stands hr (by decide) pass0 (pa_cons (pe_ix ix_list (pv 1) pe_int (fun _ _ => rfl)) (pa_cons (pe_ix ix_list (pv 2) pe_int (fun _ _ => rfl)) pa_nil))))) (pw_or1 (pt_not (pt_val (pe_cal c__law_stands hr (by decide) pass0 (pa_cons (pe_ix ix_list (pv 1) pe_int (fun _ _ => rfl)) (pa_cons (pe_ix ix_list (pv 2) pe_int (fun _ _ => rfl)) pa_nil)))))))) (pss_one (ps_ret pe_bl)) pss_nil))))))
      (pss_one (ps_ret pe_bl))))), ?_⟩
    -- two books
    intro x0 dx0 nx0 ndx0 _
    refine ⟨x0, dx0, rfl, upd_same, fun a1 a2 H1 na1 na2 hb0 f0 => ⟨rfl, ?_⟩⟩
    have e1 := mk_same nx0 ndx0 f0
    intro x1 dx1 nx1 ndx1 _
    refine ⟨x1, dx1, rfl, upd_same, fun c1 c2 H2 nc1 nc2 hb1 f1 => ⟨rfl, (show 2 ≤ sizeLine by decide), fun pb npb => ?_⟩⟩
    have e2 := mk_same nx1 ndx1 f1
    have pre : Same H1 (upd (upd H1 dx1 (.own x1)) x1 (.ins C dx1 [])) := fun b u hb => by
      rw [upd_ne (ne_of_none hb nx1), upd_ne (ne_of_none hb ndx1)]
      exact hb
    have nc1 := pre.free nc1
    have nc2 := pre.free nc2
    have k3 := same_upd (o := .lst [V.ref x0, V.ref x1]) npb
    have hpb : upd H2 pb (.lst [V.ref x0, V.ref x1]) pb = some (.lst [V.ref x0, V.ref x1]) := upd_same
    have E3 := (e1.trans e2).trans k3
    have hb03 := (hb0.same e2).same k3
    have hb13 := hb1.same k3
    generalize upd H2 pb (.lst [V.ref x0, V.ref x1]) = H3 at *
    clear f0 f1 pre e1 nx0 ndx0 na1 na2 ndx1
    -- two accounts
    intro o0 no0
    refine ⟨(show 0 ≤ sizeLine by decide), fun w0 nw0 => ?_⟩
    obtain ⟨hw0, e4, nw0'⟩ := acc0 no0 nw0
    have ow0 : o0 ≠ w0 := fun z => by rw [← z, upd_same] at nw0; cases nw0
    refine ⟨by rw [upd_ne ow0]; exact upd_same, [(.inr "words", .ref w0), (.inr "next", .int 0)], rfl, (show 2 ≤ 15 by decide), ?_⟩
    rw [merge2]
    generalize upd (upd (upd H3 o0 (.dK [])) w0 (.lst [])) o0 (.dK [(.inr "words", .ref w0), (.inr "next", .int 0)]) = H4 at *
    intro o1 no1
    refine ⟨(show 0 ≤ sizeLine by decide), fun w1 nw1 => ?_⟩
    obtain ⟨hw1, e5, nw1'⟩ := acc0 no1 nw1
    have ow1 : o1 ≠ w1 := fun z => by rw [← z, upd_same] at nw1; cases nw1
    refine ⟨by rw [upd_ne ow1]; exact upd_same, [(.inr "words", .ref w1), (.inr "next", .int 0)], rfl, (show 2 ≤ 15 by decide), ?_⟩
    rw [merge2]
    generalize upd (upd (upd H4 o1 (.dK [])) w1 (.lst [])) o1 (.dK [(.inr "words", .ref w1), (.inr "next", .int 0)]) = H5 at *
    refine ⟨(show 2 ≤ sizeLine by decide), fun po npo => ?_⟩
    have k6 := same_upd (o := .lst [V.ref o0, V.ref o1]) npo
    have hpo : upd H5 po (.lst [V.ref o0, V.ref o1]) po = some (.lst [V.ref o0, V.ref o1]) := upd_same
    have E6 := ((E3.trans e4).trans e5).trans k6
    have hpb6 := k6 _ _ (e5 _ _ (e4 _ _ hpb))
    have s3 : ∀ b u, H3 b = some u → b ≠ o0 ∧ b ≠ w0 ∧ b ≠ o1 ∧ b ≠ w1 ∧ b ≠ po := fun b u hb => ⟨ne_of_none hb no0, ne_of_none hb nw0', ne_of_none (e4 _ _ hb) no1, ne_of_none (e4 _ _ hb) nw1', ne_of_none (e5 _ _ (e4 _ _ hb)) npo⟩
    have s4 : ∀ b u, H4 b = some u → b ≠ o1 ∧ b ≠ w1 ∧ b ≠ po := fun b u hb => ⟨ne_of_none hb no1, ne_of_none hb nw1', ne_of_none (e5 _ _ hb) npo⟩
    have s1 : ∀ b u, H1 b = some u → b ≠ x1 ∧ b ≠ c1 ∧ b ≠ c2 := fun b u hb => ⟨ne_of_none hb nx1, ne_of_none hb nc1, ne_of_none hb nc2⟩
    have s2 : ∀ b u, H2 b = some u → b ≠ pb := fun b u hb => ne_of_none hb npb
    have s5 : ∀ b u, H5 b = some u → b ≠ po := fun b u hb => ne_of_none hb npo
    have t0 : Two C (upd H5 po (.lst [V.ref o0, V.ref o1])) 0 x0 o0 x1 o1 [pb, po] [o0, w0, x0, a1, a2] [o1, w1, x1, c1, c2] := by
      obtain ⟨p1, p2, p3⟩ := s1 x0 _ hb0.hp
      obtain ⟨p4, p5, p6⟩ := s1 a1 _ hb0.h1
      obtain ⟨p7, p8, p9⟩ := s1 a2 _ hb0.h2
      obtain ⟨m1, m2, m3, m4, m5⟩ := s3 x0 _ hb03.hp
      obtain ⟨m6, m7, m8, m9, m10⟩ := s3 a1 _ hb03.h1
      obtain ⟨m11, m12, m13, m14, m15⟩ := s3 a2 _ hb03.h2
      obtain ⟨r1, r2, r3, r4, r5⟩ := s3 x1 _ hb13.hp
      obtain ⟨r6, r7, r8, r9, r10⟩ := s3 c1 _ hb13.h1
      obtain ⟨r11, r12, r13, r14, r15⟩ := s3 c2 _ hb13.h2
      obtain ⟨v1, v2, v3, v4, v5⟩ := s3 pb _ hpb
      obtain ⟨y1, y2, y3⟩ := s4 o0 _ hw0.ho
      obtain ⟨y4, y5, y6⟩ := s4 w0 _ hw0.hw
      have z1 := s2 x0 _ (e2 _ _ hb0.hp)
      have z2 := s2 a1 _ (e2 _ _ hb0.h1)
      have z3 := s2 a2 _ (e2 _ _ hb0.h2)
      have z4 := s2 x1 _ hb1.hp
      have z5 := s2 c1 _ hb1.h1
      have z6 := s2 c2 _ hb1.h2
      have z7 := s5 o1 _ hw1.ho
      have z8 := s5 w1 _ hw1.hw
      refine ⟨bo0 (((hb03.same e4).same e5).same k6) ((hw0.same e5).same k6) ?_ ?_, bo0 (((hb13.same e4).same e5).same k6) (hw1.same k6) ?_ ?_, fun b hb hc => ?_, fun b hb => ⟨fun hc => ?_, fun hc => ?_⟩, fun b hb => ?_⟩
      · simp only [List.mem_cons, List.not_mem_nil, or_false, not_or]
        exact ⟨m1.symm, m6.symm, m11.symm⟩
      · simp only [List.mem_cons, List.not_mem_nil, or_false, not_or]
        exact ⟨m2.symm, m7.symm, m12.symm⟩
      · simp only [List.mem_cons, List.not_mem_nil, or_false, not_or]
        exact ⟨r3.symm, r8.symm, r13.symm⟩
      · simp only [List.mem_cons, List.not_mem_nil, or_false, not_or]
        exact ⟨r4.symm, r9.symm, r14.symm⟩
      · simp only [List.mem_cons, List.not_mem_nil, or_false] at hb hc
        rcases hb with rfl | rfl | rfl | rfl | rfl <;> rcases hc with hc | hc | hc | hc | hc
        · exact y1 hc
        · exact y2 hc
        · exact r1 hc.symm
        · exact r6 hc.symm
        · exact r11 hc.symm
        · exact y4 hc
        · exact y5 hc
        · exact r2 hc.symm
        · exact r7 hc.symm
        · exact r12 hc.symm
        · exact m3 hc
        · exact m4 hc
        · exact p1 hc
        · exact p2 hc
        · exact p3 hc
        · exact m8 hc
        · exact m9 hc
        · exact p4 hc
        · exact p5 hc
        · exact p6 hc
        · exact m13 hc
        · exact m14 hc
        · exact p7 hc
        · exact p8 hc
        · exact p9 hc
      · simp only [List.mem_cons, List.not_mem_nil, or_false] at hb hc
        rcases hb with rfl | rfl <;> rcases hc with hc | hc | hc | hc | hc
        · exact v1 hc
        · exact v2 hc
        · exact z1 hc.symm
        · exact z2 hc.symm
        · exact z3 hc.symm
        · exact y3 hc.symm
        · exact y6 hc.symm
        · exact m5 hc.symm
        · exact m10 hc.symm
        · exact m15 hc.symm
      · simp only [List.mem_cons, List.not_mem_nil, or_false] at hb hc
        rcases hb with rfl | rfl <;> rcases hc with hc | hc | hc | hc | hc
        · exact v3 hc
        · exact v4 hc
        · exact z4 hc.symm
        · exact z5 hc.symm
        · exact z6 hc.symm
        · exact z7 hc.symm
        · exact z8 hc.symm
        · exact r5 hc.symm
        · exact r10 hc.symm
        · exact r15 hc.symm
      · simp only [List.mem_cons, List.not_mem_nil, or_false] at hb
        rcases hb with rfl | rfl
        · exact ⟨_, hpb6⟩
        · exact ⟨_, hpo⟩
    generalize upd H5 po (.lst [V.ref o0, V.ref o1]) = H6 at *
    generalize [o0, w0, x0, a1, a2] = F0 at t0
    generalize [o1, w1, x1, c1, c2] = F1 at t0
    clear s1 s2 s3 s4 s5 hb0 hb1 hb03 hb13 hw0 hw1 k3 k6 e2 e4 e5 E3 npo npb nc1 nc2 nx1 no0 no1 nw0 nw1 nw0' nw1' ow0 ow1 hpb
    -- the rows
    refine ⟨(show 1 ≤ sizeLine by decide), fun q1 m1 => ?_⟩
    have j1 := same_upd (o := .lst [V.int 5]) m1
    refine ⟨_, rfl, a, ns.map V.int, rfl, .inl ((E6.trans j1).seq hS), fun q2 m2 => ?_⟩
    have j2 := same_upd (o := .lst (ns.map V.int)) m2
    refine ⟨q1, q2, _, _, rfl, rfl, j2 _ _ upd_same, upd_same, by rw [List.length_map]; exact big (by show 1 + _ ≤ _; omega), fun q3 m3 => ?_⟩
    have e3 : [V.int 5] ++ ns.map V.int = (5 :: ns).map V.int := rfl
    rw [e3]
    have j3 := same_upd (o := .lst ((5 :: ns).map V.int)) m3
    refine ⟨61, rfl, q3, _, rfl, SqL.of upd_same, fun q4 m4 => ?_⟩
    have e5' : cutV ((5 :: ns).map V.int) none (some 61) = ((5 :: ns).take 61).map V.int := by
      have z : cutV ((5 :: ns).map V.int) none (some ((61 : Nat) : Int)) = ((5 :: ns).map V.int).take 61 := cutL_to _ 61
      rw [show ((61 : Nat) : Int) = 61 from rfl] at z
      rw [z, List.map_take]
    rw [e5']
    have u2 : ((5 :: ns).take 61).length ≤ 61 := by rw [List.length_take]; omega
    generalize (5 :: ns).take 61 = us at u2 ⊢
    have j4 := same_upd (o := .lst (us.map V.int)) m4
    have e7 := ((j1.trans j2).trans j3).trans j4
    have n4 := ((j1.trans j2).trans j3).free m4
    have hq4 : upd (upd (upd (upd H6 q1 (.lst [V.int 5])) q2 (.lst (ns.map V.int))) q3 (.lst ((5 :: ns).map V.int))) q4 (.lst (us.map V.int)) q4 = some (.lst (us.map V.int)) := upd_same
    generalize upd (upd (upd (upd H6 q1 (.lst [V.int 5])) q2 (.lst (ns.map V.int))) q3 (.lst ((5 :: ns).map V.int))) q4 (.lst (us.map V.int)) = H7 at *
    have t7 : Two C H7 0 x0 o0 x1 o1 [q4, pb, po] F0 F1 := by
      have t := t0.same e7
      refine ⟨t.b0, t.b1, t.d, fun b hb => ?_, fun b hb => ?_⟩
      · rcases List.mem_cons.mp hb with rfl | hb
        · refine ⟨fun m => ?_, fun m => ?_⟩
          · obtain ⟨u, hu, _⟩ := t0.b0.kind _ m
            rw [n4] at hu
            cases hu
          · obtain ⟨u, hu, _⟩ := t0.b1.kind _ m
            rw [n4] at hu
            cases hu
        · exact t.g b hb
      · rcases List.mem_cons.mp hb with rfl | hb
        · exact ⟨_, hq4⟩
        · exact t.s b hb
    have hpb7 := e7 _ _ hpb6
    have hpo7 := e7 _ _ hpo
    clear j1 j2 j3 j4 m1 m2 m3 m4 e3 e5' n4 t0 e7 hpb6 hpo E6
    refine ⟨q4, us.map V.int, rfl, SqL.of hq4, ?_⟩
    refine for_it walk_enum (fun i σ H' => ∃ (y3 y4 y5 y6 : Option V) (F0 F1 : List Addr), σ = [some (.ref a), some (.ref pb), some (.ref po), y3, y4, y5, y6] ∧ Two C H' i x0 o0 x1 o1 [q4, pb, po] F0 F1 ∧ H' q4 = some (.lst (us.map V.int)) ∧ H' pb = some (.lst [V.ref x0, V.ref x1]) ∧ H' po = some (.lst [V.ref o0, V.ref o1]))
      ⟨_, _, _, _, _, _, rfl, t7, hq4, hpb7, hpo7⟩ (fun i σ H8 _ ⟨_, _, _, _, _, _, _, _, e8, _⟩ => SqL.of e8) ?_ ?_
    · rintro i x σ H8 H8' hi ⟨y3, y4, y5, y6, F0, F1, rfl, t8, hq8, hpb8, hpo8⟩ ⟨Ta, v1, v2, rfl, nT, rfl, hx, hy⟩
      rw [List.length_map] at hi
      have ex : V.int ((i : Nat) : Int) = v1 := Option.some.inj hx
      dsimp only at hy
      obtain ⟨z, hz⟩ : ∃ z, us[i]? = some z := ⟨_, List.getElem?_eq_getElem hi⟩
      rw [List.getElem?_map, hz] at hy
      have ey : V.int z = v2 := Option.some.inj hy
      subst ex ey
      have k8 := same_upd (o := .tup [V.int ((i : Nat) : Int), V.int z]) nT
      refine ⟨Ta, _, rfl, .inl (.inl upd_same), rfl, _, _, rfl, _, _, rfl, rfl, ?_⟩
      have t9 := t8.same k8
      have hq9 := k8 _ _ hq8
      have hpb9 := k8 _ _ hpb8
      have hpo9 := k8 _ _ hpo8
      generalize upd H8 Ta (.tup [V.int ((i : Nat) : Int), V.int z]) = H9 at *
      clear k8 nT t8 hq8 hpb8 hpo8
      refine ⟨_, rfl, _, rfl, _, _, rfl, rfl, z, 410 + (i : Int), rfl, fun mx g0 g1 => ?_⟩
      refine ⟨_, rfl, mx, 9, rfl, fun m2 a0 a1 => ⟨_, 7, rfl, rfl, ⟨by decide, by decide⟩, _, 4, rfl, rfl, (show (0 : Int) < 4 by decide), _, 3, rfl, rfl, ⟨by decide, by decide⟩, ?_⟩⟩
      dsimp only
      have hs : m2 / 7 % 4 / 3 = 0 ∨ m2 / 7 % 4 / 3 = 1 := by omega
      generalize m2 / 7 % 4 / 3 = sd at hs ⊢
      rcases hs with rfl | rfl
      · refine ⟨_, rfl, _, rfl, pb, _, 0, .ref x0, rfl, rfl, SqL.of hpb9, atI_nat (j := 0) rfl, _, rfl, _, rfl, po, _, 0, .ref o0, rfl, rfl, SqL.of hpo9, atI_nat (j := 0) rfl, _, rfl, x0, o0, F0, i, mx, rfl, t9.b0, by omega, fun F' H10 b' f' hF' => ⟨true, rfl, iteF ?_⟩⟩
        obtain ⟨t10, kg⟩ := t9.left b' f' hF'
        have hq10 := kg q4 (by simp) _ hq9
        have hpb10 := kg pb (by simp) _ hpb9
        have hpo10 := kg po (by simp) _ hpo9
        refine ⟨_, rfl, pb, _, 0, .ref x0, rfl, rfl, SqL.of hpb10, atI_nat (j := 0) rfl, _, rfl, po, _, 0, .ref o0, rfl, rfl, SqL.of hpo10, atI_nat (j := 0) rfl, x0, o0, F', i + 1, rfl, t10.b0, by omega, fun H11 e11 => ⟨true, rfl, iteF ?_⟩⟩
        have hpb11 := e11 _ _ hpb10
        have hpo11 := e11 _ _ hpo10
        refine ⟨_, rfl, pb, _, 1, .ref x1, rfl, rfl, SqL.of hpb11, atI_nat (j := 1) rfl, _, rfl, po, _, 1, .ref o1, rfl, rfl, SqL.of hpo11, atI_nat (j := 1) rfl, x1, o1, F1, i + 1, rfl, t10.b1.same e11, by omega, fun H12 e12 => ⟨true, rfl, iteF ?_⟩⟩
        exact ⟨_, _, _, _, _, _, rfl, (t10.same e11).same e12, e12 _ _ (e11 _ _ hq10), e12 _ _ hpb11, e12 _ _ hpo11⟩
      · refine ⟨_, rfl, _, rfl, pb, _, 1, .ref x1, rfl, rfl, SqL.of hpb9, atI_nat (j := 1) rfl, _, rfl, _, rfl, po, _, 1, .ref o1, rfl, rfl, SqL.of hpo9, atI_nat (j := 1) rfl, _, rfl, x1, o1, F1, i, mx, rfl, t9.b1, by omega, fun F' H10 b' f' hF' => ⟨true, rfl, iteF ?_⟩⟩
        obtain ⟨t10, kg⟩ := t9.swap.left b' f' hF'
        have t10 := t10.swap
        have hq10 := kg q4 (by simp) _ hq9
        have hpb10 := kg pb (by simp) _ hpb9
        have hpo10 := kg po (by simp) _ hpo9
        refine ⟨_, rfl, pb, _, 0, .ref x0, rfl, rfl, SqL.of hpb10, atI_nat (j := 0) rfl, _, rfl, po, _, 0, .ref o0, rfl, rfl, SqL.of hpo10, atI_nat (j := 0) rfl, x0, o0, F0, i + 1, rfl, t10.b0, by omega, fun H11 e11 => ⟨true, rfl, iteF ?_⟩⟩
        have hpb11 := e11 _ _ hpb10
        have hpo11 := e11 _ _ hpo10
        refine ⟨_, rfl, pb, _, 1, .ref x1, rfl, rfl, SqL.of hpb11, atI_nat (j := 1) rfl, _, rfl, po, _, 1, .ref o1, rfl, rfl, SqL.of hpo11, atI_nat (j := 1) rfl, x1, o1, F', i + 1, rfl, t10.b1.same e11, by omega, fun H12 e12 => ⟨true, rfl, iteF ?_⟩⟩
        exact ⟨_, _, _, _, _, _, rfl, (t10.same e11).same e12, e12 _ _ (e11 _ _ hq10), e12 _ _ hpb11, e12 _ _ hpo11⟩
    · rintro σ H8 _
      exact q H8
end
end Rk
namespace Rk
open PySem PySem.Spec PyProof.Rows L2 Rw
theorem all_mk {l : PySem.W.OpenLaw} {w : World} {K : PySem.W.Frag} {h : Heap} {mg : Str → Option Value} {fa q_Rings f_is_word f_need_word f_turnings f_least_form f_Rings___init__ f_Rings_add f_Rings_take f_Rings_ring_of f_Rings_others f_Rings_members f_Rings_forms f_Rings_many f_Rings__begin f_Rings__end f_l_mixed f_l_whole f_l_drawn f_l_turnings f_l_no_word f_l_mark f_l_ring f_l_due f_l_told f_l_stands f_l_right f_law q_WordError q_NoWord q_NoSigns q_NoCount q_TooMany q_NoRing q_Twice : Addr} (X : K.In h) (G : h.Ns mainGlobals mg) (hfa : mg "law" = some (.ref fa))
    (g_Rings : PySem.W.nsIn K mainGlobals "Rings" = some (some (.ref q_Rings)))
    (rg_pg : PySem.W.plainGet K q_Rings Str.empty = true)
    (rg_hd : PySem.W.hasDictIn K q_Rings = true)
    (rg_po : PySem.W.plainOver K q_Rings = true)
    (rg_sa : PySem.W.findIn K (.ref q_Rings) "__setattr__" = some (some (.builtin "object.__setattr__")))
    (rg_mk : PySem.W.makesIn K q_Rings = true)
    (rg_kc : PySem.W.keepIn K (.ref q_Rings) = true)
    (rg_n1 : PySem.W.findIn K (.ref q_Rings) "_next" = some none)
    (rg_n2 : PySem.W.findIn K (.ref q_Rings) "_numbers" = some none)
    (rg_n3 : PySem.W.findIn K (.ref q_Rings) "_words" = some none)
    {od_is_word an_is_word : Option Addr} {sl_is_word : Array (Option Value)} {oc_is_word kV_is_word dc_is_word pm_is_word cd_is_word ct_is_word : Value}
    (a_is_word : PySem.W.nsIn K mainGlobals "is_word" = some (some (.ref f_is_word)))
    (l_is_word : K.lookup f_is_word = some ⟨oc_is_word, od_is_word, .func (PySem.W.fnOf "is_word" "is_word" (defArgs s_is_word) (defBody s_is_word) (defScope s_is_word) .none kV_is_word dc_is_word pm_is_word an_is_word cd_is_word ct_is_word), sl_is_word⟩)
    (c_is_word : PySem.W.codeIn K cd_is_word "is_word" = true) (k_is_word : PySem.W.keepIn K (.ref f_is_word) = true)
    {od_need_word an_need_word : Option Addr} {sl_need_word : Array (Option Value)} {oc_need_word kV_need_word dc_need_word pm_need_word cd_need_word ct_need_word : Value}
    (a_need_word : PySem.W.nsIn K mainGlobals "need_word" = some (some (.ref f_need_word)))
    (l_need_word : K.lookup f_need_word = some ⟨oc_need_word, od_need_word, .func (PySem.W.fnOf "need_word" "need_word" (defArgs s_need_word) (defBody s_need_word) (defScope s_need_word) .none kV_need_word dc_need_word pm_need_word an_need_word cd_need_word ct_need_word), sl_need_word⟩)
    (c_need_word : PySem.W.codeIn K cd_need_word "need_word" = true) (k_need_word : PySem.W.keepIn K (.ref f_need_word) = true)
    {od_turnings an_turnings : Option Addr} {sl_turnings : Array (Option Value)} {oc_turnings kV_turnings dc_turnings pm_turnings cd_turnings ct_turnings : Value}
    (a_turnings : PySem.W.nsIn K mainGlobals "turnings" = some (some (.ref f_turnings)))
    (l_turnings : K.lookup f_turnings = some ⟨oc_turnings, od_turnings, .func (PySem.W.fnOf "turnings" "turnings" (defArgs s_turnings) (defBody s_turnings) (defScope s_turnings) .none kV_turnings dc_turnings pm_turnings an_turnings cd_turnings ct_turnings), sl_turnings⟩)
    (c_turnings : PySem.W.codeIn K cd_turnings "turnings" = true) (k_turnings : PySem.W.keepIn K (.ref f_turnings) = true)
    {od_least_form an_least_form : Option Addr} {sl_least_form : Array (Option Value)} {oc_least_form kV_least_form dc_least_form pm_least_form cd_least_form ct_least_form : Value}
    (a_least_form : PySem.W.nsIn K mainGlobals "least_form" = some (some (.ref f_least_form)))
    (l_least_form : K.lookup f_least_form = some ⟨oc_least_form, od_least_form, .func (PySem.W.fnOf "least_form" "least_form" (defArgs s_least_form) (defBody s_least_form) (defScope s_least_form) .none kV_least_form dc_least_form pm_least_form an_least_form cd_least_form ct_least_form), sl_least_form⟩)
    (c_least_form : PySem.W.codeIn K cd_least_form "least_form" = true) (k_least_form : PySem.W.keepIn K (.ref f_least_form) = true)
    {od_Rings___init__ an_Rings___init__ : Option Addr} {sl_Rings___init__ : Array (Option Value)} {oc_Rings___init__ kV_Rings___init__ dc_Rings___init__ pm_Rings___init__ cd_Rings___init__ ct_Rings___init__ : Value}
    (a_Rings___init__ : PySem.W.findIn K (.ref q_Rings) "__init__" = some (some (.ref f_Rings___init__))) (i_Rings___init__ : PySem.W.isFn K (.ref f_Rings___init__) = true)
    (l_Rings___init__ : K.lookup f_Rings___init__ = some ⟨oc_Rings___init__, od_Rings___init__, .func (PySem.W.fnOf "__init__" "Rings.__init__" (defArgs s_Rings___init__) (defBody s_Rings___init__) (defScope s_Rings___init__) .none kV_Rings___init__ dc_Rings___init__ pm_Rings___init__ an_Rings___init__ cd_Rings___init__ ct_Rings___init__), sl_Rings___init__⟩)
    (c_Rings___init__ : PySem.W.codeIn K cd_Rings___init__ "Rings.__init__" = true) (k_Rings___init__ : PySem.W.keepIn K (.ref f_Rings___init__) = true)
    {od_Rings_add an_Rings_add : Option Addr} {sl_Rings_add : Array (Option Value)} {oc_Rings_add kV_Rings_add dc_Rings_add pm_Rings_add cd_Rings_add ct_Rings_add : Value}
    (a_Rings_add : PySem.W.findIn K (.ref q_Rings) "add" = some (some (.ref f_Rings_add))) (i_Rings_add : PySem.W.isFn K (.ref f_Rings_add) = true)
    (l_Rings_add : K.lookup f_Rings_add = some ⟨oc_Rings_add, od_Rings_add, .func (PySem.W.fnOf "add" "Rings.add" (defArgs s_Rings_add) (defBody s_Rings_add) (defScope s_Rings_add) .none kV_Rings_add dc_Rings_add pm_Rings_add an_Rings_add cd_Rings_add ct_Rings_add), sl_Rings_add⟩)
    (c_Rings_add : PySem.W.codeIn K cd_Rings_add "Rings.add" = true) (k_Rings_add : PySem.W.keepIn K (.ref f_Rings_add) = true)
    {od_Rings_take an_Rings_take : Option Addr} {sl_Rings_take : Array (Option Value)} {oc_Rings_take kV_Rings_take dc_Rings_take pm_Rings_take cd_Rings_take ct_Rings_take : Value}
    (a_Rings_take : PySem.W.findIn K (.ref q_Rings) "take" = some (some (.ref f_Rings_take))) (i_Rings_take : PySem.W.isFn K (.ref f_Rings_take) = true)
    (l_Rings_take : K.lookup f_Rings_take = some ⟨oc_Rings_take, od_Rings_take, .func (PySem.W.fnOf "take" "Rings.take" (defArgs s_Rings_take) (defBody s_Rings_take) (defScope s_Rings_take) .none kV_Rings_take dc_Rings_take pm_Rings_take an_Rings_take cd_Rings_take ct_Rings_take), sl_Rings_take⟩)
    (c_Rings_take : PySem.W.codeIn K cd_Rings_take "Rings.take" = true) (k_Rings_take : PySem.W.keepIn K (.ref f_Rings_take) = true)
    {od_Rings_ring_of an_Rings_ring_of : Option Addr} {sl_Rings_ring_of : Array (Option Value)} {oc_Rings_ring_of kV_Rings_ring_of dc_Rings_ring_of pm_Rings_ring_of cd_Rings_ring_of ct_Rings_ring_of : Value}
    (a_Rings_ring_of : PySem.W.findIn K (.ref q_Rings) "ring_of" = some (some (.ref f_Rings_ring_of))) (i_Rings_ring_of : PySem.W.isFn K (.ref f_Rings_ring_of) = true)
    (l_Rings_ring_of : K.lookup f_Rings_ring_of = some ⟨oc_Rings_ring_of, od_Rings_ring_of, .func (PySem.W.fnOf "ring_of" "Rings.ring_of" (defArgs s_Rings_ring_of) (defBody s_Rings_ring_of) (defScope s_Rings_ring_of) .none kV_Rings_ring_of dc_Rings_ring_of pm_Rings_ring_of an_Rings_ring_of cd_Rings_ring_of ct_Rings_ring_of), sl_Rings_ring_of⟩)
    (c_Rings_ring_of : PySem.W.codeIn K cd_Rings_ring_of "Rings.ring_of" = true) (k_Rings_ring_of : PySem.W.keepIn K (.ref f_Rings_ring_of) = true)
    {od_Rings_others an_Rings_others : Option Addr} {sl_Rings_others : Array (Option Value)} {oc_Rings_others kV_Rings_others dc_Rings_others pm_Rings_others cd_Rings_others ct_Rings_others : Value}
    (a_Rings_others : PySem.W.findIn K (.ref q_Rings) "others" = some (some (.ref f_Rings_others))) (i_Rings_others : PySem.W.isFn K (.ref f_Rings_others) = true)
    (l_Rings_others : K.lookup f_Rings_others = some ⟨oc_Rings_others, od_Rings_others, .func (PySem.W.fnOf "others" "Rings.others" (defArgs s_Rings_others) (defBody s_Rings_others) (defScope s_Rings_others) .none kV_Rings_others dc_Rings_others pm_Rings_others an_Rings_others cd_Rings_others ct_Rings_others), sl_Rings_others⟩)
    (c_Rings_others : PySem.W.codeIn K cd_Rings_others "Rings.others" = true) (k_Rings_others : PySem.W.keepIn K (.ref f_Rings_others) = true)
    {od_Rings_members an_Rings_members : Option Addr} {sl_Rings_members : Array (Option Value)} {oc_Rings_members kV_Rings_members dc_Rings_members pm_Rings_members cd_Rings_members ct_Rings_members : Value}
    (a_Rings_members : PySem.W.findIn K (.ref q_Rings) "members" = some (some (.ref f_Rings_members))) (i_Rings_members : PySem.W.isFn K (.ref f_Rings_members) = true)
    (l_Rings_members : K.lookup f_Rings_members = some ⟨oc_Rings_members, od_Rings_members, .func (PySem.W.fnOf "members" "Rings.members" (defArgs s_Rings_members) (defBody s_Rings_members) (defScope s_Rings_members) .none kV_Rings_members dc_Rings_members pm_Rings_members an_Rings_members cd_Rings_members ct_Rings_members), sl_Rings_members⟩)
    (c_Rings_members : PySem.W.codeIn K cd_Rings_members "Rings.members" = true) (k_Rings_members : PySem.W.keepIn K (.ref f_Rings_members) = true)
    {od_Rings_forms an_Rings_forms : Option Addr} {sl_Rings_forms : Array (Option Value)} {oc_Rings_forms kV_Rings_forms dc_Rings_forms pm_Rings_forms cd_Rings_forms ct_Rings_forms : Value}
    (a_Rings_forms : PySem.W.findIn K (.ref q_Rings) "forms" = some (some (.ref f_Rings_forms))) (i_Rings_forms : PySem.W.isFn K (.ref f_Rings_forms) = true)
    (l_Rings_forms : K.lookup f_Rings_forms = some ⟨oc_Rings_forms, od_Rings_forms, .func (PySem.W.fnOf "forms" "Rings.forms" (defArgs s_Rings_forms) (defBody s_Rings_forms) (defScope s_Rings_forms) .none kV_Rings_forms dc_Rings_forms pm_Rings_forms an_Rings_forms cd_Rings_forms ct_Rings_forms), sl_Rings_forms⟩)
    (c_Rings_forms : PySem.W.codeIn K cd_Rings_forms "Rings.forms" = true) (k_Rings_forms : PySem.W.keepIn K (.ref f_Rings_forms) = true)
    {od_Rings_many an_Rings_many : Option Addr} {sl_Rings_many : Array (Option Value)} {oc_Rings_many kV_Rings_many dc_Rings_many pm_Rings_many cd_Rings_many ct_Rings_many : Value}
    (a_Rings_many : PySem.W.findIn K (.ref q_Rings) "many" = some (some (.ref f_Rings_many))) (i_Rings_many : PySem.W.isFn K (.ref f_Rings_many) = true)
    (l_Rings_many : K.lookup f_Rings_many = some ⟨oc_Rings_many, od_Rings_many, .func (PySem.W.fnOf "many" "Rings.many" (defArgs s_Rings_many) (defBody s_Rings_many) (defScope s_Rings_many) .none kV_Rings_many dc_Rings_many pm_Rings_many an_Rings_many cd_Rings_many ct_Rings_many), sl_Rings_many⟩)
    (c_Rings_many : PySem.W.codeIn K cd_Rings_many "Rings.many" = true) (k_Rings_many : PySem.W.keepIn K (.ref f_Rings_many) = true)
    {od_Rings__begin an_Rings__begin : Option Addr} {sl_Rings__begin : Array (Option Value)} {oc_Rings__begin kV_Rings__begin dc_Rings__begin pm_Rings__begin cd_Rings__begin ct_Rings__begin : Value}
    (a_Rings__begin : PySem.W.findIn K (.ref q_Rings) "_begin" = some (some (.ref f_Rings__begin))) (i_Rings__begin : PySem.W.isFn K (.ref f_Rings__begin) = true)
    (l_Rings__begin : K.lookup f_Rings__begin = some ⟨oc_Rings__begin, od_Rings__begin, .func (PySem.W.fnOf "_begin" "Rings._begin" (defArgs s_Rings__begin) (defBody s_Rings__begin) (defScope s_Rings__begin) .none kV_Rings__begin dc_Rings__begin pm_Rings__begin an_Rings__begin cd_Rings__begin ct_Rings__begin), sl_Rings__begin⟩)
    (c_Rings__begin : PySem.W.codeIn K cd_Rings__begin "Rings._begin" = true) (k_Rings__begin : PySem.W.keepIn K (.ref f_Rings__begin) = true)
    {od_Rings__end an_Rings__end : Option Addr} {sl_Rings__end : Array (Option Value)} {oc_Rings__end kV_Rings__end dc_Rings__end pm_Rings__end cd_Rings__end ct_Rings__end : Value}
    (a_Rings__end : PySem.W.findIn K (.ref q_Rings) "_end" = some (some (.ref f_Rings__end))) (i_Rings__end : PySem.W.isFn K (.ref f_Rings__end) = true)
    (l_Rings__end : K.lookup f_Rings__end = some ⟨oc_Rings__end, od_Rings__end, .func (PySem.W.fnOf "_end" "Rings._end" (defArgs s_Rings__end) (defBody s_Rings__end) (defScope s_Rings__end) .none kV_Rings__end dc_Rings__end pm_Rings__end an_Rings__end cd_Rings__end ct_Rings__end), sl_Rings__end⟩)
    (c_Rings__end : PySem.W.codeIn K cd_Rings__end "Rings._end" = true) (k_Rings__end : PySem.W.keepIn K (.ref f_Rings__end) = true)
    {od_l_mixed an_l_mixed : Option Addr} {sl_l_mixed : Array (Option Value)} {oc_l_mixed kV_l_mixed dc_l_mixed pm_l_mixed cd_l_mixed ct_l_mixed : Value}
    (a_l_mixed : PySem.W.nsIn K mainGlobals "_law_mixed" = some (some (.ref f_l_mixed)))
    (l_l_mixed : K.lookup f_l_mixed = some ⟨oc_l_mixed, od_l_mixed, .func (PySem.W.fnOf "_law_mixed" "_law_mixed" (defArgs s_l_mixed) (defBody s_l_mixed) (defScope s_l_mixed) .none kV_l_mixed dc_l_mixed pm_l_mixed an_l_mixed cd_l_mixed ct_l_mixed), sl_l_mixed⟩)
    (c_l_mixed : PySem.W.codeIn K cd_l_mixed "_law_mixed" = true) (k_l_mixed : PySem.W.keepIn K (.ref f_l_mixed) = true)
    {od_l_whole an_l_whole : Option Addr} {sl_l_whole : Array (Option Value)} {oc_l_whole kV_l_whole dc_l_whole pm_l_whole cd_l_whole ct_l_whole : Value}
    (a_l_whole : PySem.W.nsIn K mainGlobals "_law_whole" = some (some (.ref f_l_whole)))
    (l_l_whole : K.lookup f_l_whole = some ⟨oc_l_whole, od_l_whole, .func (PySem.W.fnOf "_law_whole" "_law_whole" (defArgs s_l_whole) (defBody s_l_whole) (defScope s_l_whole) .none kV_l_whole dc_l_whole pm_l_whole an_l_whole cd_l_whole ct_l_whole), sl_l_whole⟩)
    (c_l_whole : PySem.W.codeIn K cd_l_whole "_law_whole" = true) (k_l_whole : PySem.W.keepIn K (.ref f_l_whole) = true)
    {od_l_drawn an_l_drawn : Option Addr} {sl_l_drawn : Array (Option Value)} {oc_l_drawn kV_l_drawn dc_l_drawn pm_l_drawn cd_l_drawn ct_l_drawn : Value}
    (a_l_drawn : PySem.W.nsIn K mainGlobals "_law_drawn" = some (some (.ref f_l_drawn)))
    (l_l_drawn : K.lookup f_l_drawn = some ⟨oc_l_drawn, od_l_drawn, .func (PySem.W.fnOf "_law_drawn" "_law_drawn" (defArgs s_l_drawn) (defBody s_l_drawn) (defScope s_l_drawn) .none kV_l_drawn dc_l_drawn pm_l_drawn an_l_drawn cd_l_drawn ct_l_drawn), sl_l_drawn⟩)
    (c_l_drawn : PySem.W.codeIn K cd_l_drawn "_law_drawn" = true) (k_l_drawn : PySem.W.keepIn K (.ref f_l_drawn) = true)
    {od_l_turnings an_l_turnings : Option Addr} {sl_l_turnings : Array (Option Value)} {oc_l_turnings kV_l_turnings dc_l_turnings pm_l_turnings cd_l_turnings ct_l_turnings : Value}
    (a_l_turnings : PySem.W.nsIn K mainGlobals "_law_turnings" = some (some (.ref f_l_turnings)))
    (l_l_turnings : K.lookup f_l_turnings = some ⟨oc_l_turnings, od_l_turnings, .func (PySem.W.fnOf "_law_turnings" "_law_turnings" (defArgs s_l_turnings) (defBody s_l_turnings) (defScope s_l_turnings) .none kV_l_turnings dc_l_turnings pm_l_turnings an_l_turnings cd_l_turnings ct_l_turnings), sl_l_turnings⟩)
    (c_l_turnings : PySem.W.codeIn K cd_l_turnings "_law_turnings" = true) (k_l_turnings : PySem.W.keepIn K (.ref f_l_turnings) = true)
    {od_l_no_word an_l_no_word : Option Addr} {sl_l_no_word : Array (Option Value)} {oc_l_no_word kV_l_no_word dc_l_no_word pm_l_no_word cd_l_no_word ct_l_no_word : Value}
    (a_l_no_word : PySem.W.nsIn K mainGlobals "_law_no_word" = some (some (.ref f_l_no_word)))
    (l_l_no_word : K.lookup f_l_no_word = some ⟨oc_l_no_word, od_l_no_word, .func (PySem.W.fnOf "_law_no_word" "_law_no_word" (defArgs s_l_no_word) (defBody s_l_no_word) (defScope s_l_no_word) .none kV_l_no_word dc_l_no_word pm_l_no_word an_l_no_word cd_l_no_word ct_l_no_word), sl_l_no_word⟩)
    (c_l_no_word : PySem.W.codeIn K cd_l_no_word "_law_no_word" = true) (k_l_no_word : PySem.W.keepIn K (.ref f_l_no_word) = true)
    {od_l_mark an_l_mark : Option Addr} {sl_l_mark : Array (Option Value)} {oc_l_mark kV_l_mark dc_l_mark pm_l_mark cd_l_mark ct_l_mark : Value}
    (a_l_mark : PySem.W.nsIn K mainGlobals "_law_mark" = some (some (.ref f_l_mark)))
    (l_l_mark : K.lookup f_l_mark = some ⟨oc_l_mark, od_l_mark, .func (PySem.W.fnOf "_law_mark" "_law_mark" (defArgs s_l_mark) (defBody s_l_mark) (defScope s_l_mark) .none kV_l_mark dc_l_mark pm_l_mark an_l_mark cd_l_mark ct_l_mark), sl_l_mark⟩)
    (c_l_mark : PySem.W.codeIn K cd_l_mark "_law_mark" = true) (k_l_mark : PySem.W.keepIn K (.ref f_l_mark) = true)
    {od_l_ring an_l_ring : Option Addr} {sl_l_ring : Array (Option Value)} {oc_l_ring kV_l_ring dc_l_ring pm_l_ring cd_l_ring ct_l_ring : Value}
    (a_l_ring : PySem.W.nsIn K mainGlobals "_law_ring" = some (some (.ref f_l_ring)))
    (l_l_ring : K.lookup f_l_ring = some ⟨oc_l_ring, od_l_ring, .func (PySem.W.fnOf "_law_ring" "_law_ring" (defArgs s_l_ring) (defBody s_l_ring) (defScope s_l_ring) .none kV_l_ring dc_l_ring pm_l_ring an_l_ring cd_l_ring ct_l_ring), sl_l_ring⟩)
    (c_l_ring : PySem.W.codeIn K cd_l_ring "_law_ring" = true) (k_l_ring : PySem.W.keepIn K (.ref f_l_ring) = true)
    {od_l_due an_l_due : Option Addr} {sl_l_due : Array (Option Value)} {oc_l_due kV_l_due dc_l_due pm_l_due cd_l_due ct_l_due : Value}
    (a_l_due : PySem.W.nsIn K mainGlobals "_law_due" = some (some (.ref f_l_due)))
    (l_l_due : K.lookup f_l_due = some ⟨oc_l_due, od_l_due, .func (PySem.W.fnOf "_law_due" "_law_due" (defArgs s_l_due) (defBody s_l_due) (defScope s_l_due) .none kV_l_due dc_l_due pm_l_due an_l_due cd_l_due ct_l_due), sl_l_due⟩)
    (c_l_due : PySem.W.codeIn K cd_l_due "_law_due" = true) (k_l_due : PySem.W.keepIn K (.ref f_l_due) = true)
    {od_l_told an_l_told : Option Addr} {sl_l_told : Array (Option Value)} {oc_l_told kV_l_told dc_l_told pm_l_told cd_l_told ct_l_told : Value}
    (a_l_told : PySem.W.nsIn K mainGlobals "_law_told" = some (some (.ref f_l_told)))
    (l_l_told : K.lookup f_l_told = some ⟨oc_l_told, od_l_told, .func (PySem.W.fnOf "_law_told" "_law_told" (defArgs s_l_told) (defBody s_l_told) (defScope s_l_told) .none kV_l_told dc_l_told pm_l_told an_l_told cd_l_told ct_l_told), sl_l_told⟩)
    (c_l_told : PySem.W.codeIn K cd_l_told "_law_told" = true) (k_l_told : PySem.W.keepIn K (.ref f_l_told) = true)
    {od_l_stands an_l_stands : Option Addr} {sl_l_stands : Array (Option Value)} {oc_l_stands kV_l_stands dc_l_stands pm_l_stands cd_l_stands ct_l_stands : Value}
    (a_l_stands : PySem.W.nsIn K mainGlobals "_law_stands" = some (some (.ref f_l_stands)))
    (l_l_stands : K.lookup f_l_stands = some ⟨oc_l_stands, od_l_stands, .func (PySem.W.fnOf "_law_stands" "_law_stands" (defArgs s_l_stands) (defBody s_l_stands) (defScope s_l_stands) .none kV_l_stands dc_l_stands pm_l_stands an_l_stands cd_l_stands ct_l_stands), sl_l_stands⟩)
    (c_l_stands : PySem.W.codeIn K cd_l_stands "_law_stands" = true) (k_l_stands : PySem.W.keepIn K (.ref f_l_stands) = true)
    {od_l_right an_l_right : Option Addr} {sl_l_right : Array (Option Value)} {oc_l_right kV_l_right dc_l_right pm_l_right cd_l_right ct_l_right : Value}
    (a_l_right : PySem.W.nsIn K mainGlobals "_law_right" = some (some (.ref f_l_right)))
    (l_l_right : K.lookup f_l_right = some ⟨oc_l_right, od_l_right, .func (PySem.W.fnOf "_law_right" "_law_right" (defArgs s_l_right) (defBody s_l_right) (defScope s_l_right) .none kV_l_right dc_l_right pm_l_right an_l_right cd_l_right ct_l_right), sl_l_right⟩)
    (c_l_right : PySem.W.codeIn K cd_l_right "_law_right" = true) (k_l_right : PySem.W.keepIn K (.ref f_l_right) = true)
    {od_law an_law : Option Addr} {sl_law : Array (Option Value)} {oc_law kV_law dc_law pm_law cd_law ct_law : Value}
    (a_law : PySem.W.nsIn K mainGlobals "law" = some (some (.ref f_law)))
    (l_law : K.lookup f_law = some ⟨oc_law, od_law, .func (PySem.W.fnOf "law" "law" (defArgs s_law) (defBody s_law) (defScope s_law) .none kV_law dc_law pm_law an_law cd_law ct_law), sl_law⟩)
    (c_law : PySem.W.codeIn K cd_law "law" = true) (k_law : PySem.W.keepIn K (.ref f_law) = true)
    (z_len : PySem.W.nsIn K mainGlobals "len" = some none)
    (z_range : PySem.W.nsIn K mainGlobals "range" = some none)
    (z_sorted : PySem.W.nsIn K mainGlobals "sorted" = some none)
    (z_min : PySem.W.nsIn K mainGlobals "min" = some none)
    (z_max : PySem.W.nsIn K mainGlobals "max" = some none)
    (z_all : PySem.W.nsIn K mainGlobals "all" = some none)
    (z_isinstance : PySem.W.nsIn K mainGlobals "isinstance" = some none)
    (z_list : PySem.W.nsIn K mainGlobals "list" = some none)
    (z_tuple : PySem.W.nsIn K mainGlobals "tuple" = some none)
    (z_str : PySem.W.nsIn K mainGlobals "str" = some none)
    (z_bool : PySem.W.nsIn K mainGlobals "bool" = some none)
    (z_zip : PySem.W.nsIn K mainGlobals "zip" = some none)
    (z_enumerate : PySem.W.nsIn K mainGlobals "enumerate" = some none)
    (z_ValueError : PySem.W.nsIn K mainGlobals "ValueError" = some none)
    (z_sum : PySem.W.nsIn K mainGlobals "sum" = some none)
    (z_set : PySem.W.nsIn K mainGlobals "set" = some none)
    (z_dict : PySem.W.nsIn K mainGlobals "dict" = some none)
    (z_int : PySem.W.nsIn K mainGlobals "int" = some none)
    {t_LONGEST_WORD : Tok} (z_LONGEST_WORD : PySem.W.nsIn K mainGlobals "LONGEST_WORD" = some (some (.int 300 t_LONGEST_WORD)))
    (g_WordError : PySem.W.nsIn K mainGlobals "WordError" = some (some (.ref q_WordError)))
    (g_NoWord : PySem.W.nsIn K mainGlobals "NoWord" = some (some (.ref q_NoWord)))
    (g_NoSigns : PySem.W.nsIn K mainGlobals "NoSigns" = some (some (.ref q_NoSigns)))
    (g_NoCount : PySem.W.nsIn K mainGlobals "NoCount" = some (some (.ref q_NoCount)))
    (g_TooMany : PySem.W.nsIn K mainGlobals "TooMany" = some (some (.ref q_TooMany)))
    (g_NoRing : PySem.W.nsIn K mainGlobals "NoRing" = some (some (.ref q_NoRing)))
    (g_Twice : PySem.W.nsIn K mainGlobals "Twice" = some (some (.ref q_Twice)))
    (d_WordError : PySem.W.hasDictIn K q_WordError = true)
    (t_WordError : PySem.W.typeIn K (.ref q_WordError) = some (.type "type"))
    (d_NoWord : PySem.W.hasDictIn K q_NoWord = true)
    (t_NoWord : PySem.W.typeIn K (.ref q_NoWord) = some (.type "type"))
    (d_NoSigns : PySem.W.hasDictIn K q_NoSigns = true)
    (t_NoSigns : PySem.W.typeIn K (.ref q_NoSigns) = some (.type "type"))
    (d_NoCount : PySem.W.hasDictIn K q_NoCount = true)
    (t_NoCount : PySem.W.typeIn K (.ref q_NoCount) = some (.type "type"))
    (d_TooMany : PySem.W.hasDictIn K q_TooMany = true)
    (t_TooMany : PySem.W.typeIn K (.ref q_TooMany) = some (.type "type"))
    (d_NoRing : PySem.W.hasDictIn K q_NoRing = true)
    (t_NoRing : PySem.W.typeIn K (.ref q_NoRing) = some (.type "type"))
    (d_Twice : PySem.W.hasDictIn K q_Twice = true)
    (t_Twice : PySem.W.typeIn K (.ref q_Twice) = some (.type "type"))
    (b_WordError : PySem.W.subIn K (.ref q_WordError) (.type "BaseException") = some true)
    (o_str : PySem.W.subIn K (.type "str") (.ref q_WordError) = some false)
    (o_NoneType : PySem.W.subIn K (.type "NoneType") (.ref q_WordError) = some false)
    (o_list : PySem.W.subIn K (.type "list") (.ref q_WordError) = some false)
    (o_int : PySem.W.subIn K (.type "int") (.ref q_WordError) = some false)
    (y_hn : PySem.W.specialIn K (.builtin "object.__class__") "__get__" = some (some (.builtin "getset_descriptor.__get__")))
    (y_ht : PySem.W.takesIn K (.builtin "object.__class__") = some true)
    (x_NoWord : PySem.W.excIn K q_NoWord [.type "ValueError", .type "Exception", .type "BaseException", .type "object"] "ValueError.__new__" = true)
    (k_NoWord : PySem.W.keepIn K (.ref q_NoWord) = true)
    (b_NoWord : PySem.W.subIn K (.ref q_NoWord) (.type "BaseException") = some true)
    (yg_NoWord : PySem.W.findIn K (.ref q_NoWord) "__getattribute__" = some (some (.builtin "BaseException.__getattribute__")))
    (ya_NoWord : PySem.W.findIn K (.ref q_NoWord) "__getattr__" = some none)
    (yc_NoWord : PySem.W.findIn K (.ref q_NoWord) "__class__" = some (some (.builtin "object.__class__")))
    (ym_NoWord : PySem.W.mroIn K q_NoWord (.type "object") = some true)
    (yv_NoWord : PySem.W.subIn K (.ref q_NoWord) (.type "ValueError") = some true)
    (s_NoWord_WordError : PySem.W.subIn K (.ref q_NoWord) (.ref q_WordError) = some true)
    (s_NoWord_NoWord : PySem.W.subIn K (.ref q_NoWord) (.ref q_NoWord) = some true)
    (s_NoWord_NoSigns : PySem.W.subIn K (.ref q_NoWord) (.ref q_NoSigns) = some false)
    (s_NoWord_NoCount : PySem.W.subIn K (.ref q_NoWord) (.ref q_NoCount) = some false)
    (s_NoWord_TooMany : PySem.W.subIn K (.ref q_NoWord) (.ref q_TooMany) = some false)
    (s_NoWord_NoRing : PySem.W.subIn K (.ref q_NoWord) (.ref q_NoRing) = some false)
    (s_NoWord_Twice : PySem.W.subIn K (.ref q_NoWord) (.ref q_Twice) = some false)
    (x_NoRing : PySem.W.excIn K q_NoRing [.type "ValueError", .type "Exception", .type "BaseException", .type "object"] "ValueError.__new__" = true)
    (k_NoRing : PySem.W.keepIn K (.ref q_NoRing) = true)
    (b_NoRing : PySem.W.subIn K (.ref q_NoRing) (.type "BaseException") = some true)
    (yg_NoRing : PySem.W.findIn K (.ref q_NoRing) "__getattribute__" = some (some (.builtin "BaseException.__getattribute__")))
    (ya_NoRing : PySem.W.findIn K (.ref q_NoRing) "__getattr__" = some none)
    (yc_NoRing : PySem.W.findIn K (.ref q_NoRing) "__class__" = some (some (.builtin "object.__class__")))
    (ym_NoRing : PySem.W.mroIn K q_NoRing (.type "object") = some true)
    (yv_NoRing : PySem.W.subIn K (.ref q_NoRing) (.type "ValueError") = some true)
    (s_NoRing_WordError : PySem.W.subIn K (.ref q_NoRing) (.ref q_WordError) = some true)
    (s_NoRing_NoWord : PySem.W.subIn K (.ref q_NoRing) (.ref q_NoWord) = some false)
    (s_NoRing_NoSigns : PySem.W.subIn K (.ref q_NoRing) (.ref q_NoSigns) = some false)
    (s_NoRing_NoCount : PySem.W.subIn K (.ref q_NoRing) (.ref q_NoCount) = some false)
    (s_NoRing_TooMany : PySem.W.subIn K (.ref q_NoRing) (.ref q_TooMany) = some false)
    (s_NoRing_NoRing : PySem.W.subIn K (.ref q_NoRing) (.ref q_NoRing) = some true)
    (s_NoRing_Twice : PySem.W.subIn K (.ref q_NoRing) (.ref q_Twice) = some false)
    (x_Twice : PySem.W.excIn K q_Twice [.type "ValueError", .type "Exception", .type "BaseException", .type "object"] "ValueError.__new__" = true)
    (k_Twice : PySem.W.keepIn K (.ref q_Twice) = true)
    (b_Twice : PySem.W.subIn K (.ref q_Twice) (.type "BaseException") = some true)
    (yg_Twice : PySem.W.findIn K (.ref q_Twice) "__getattribute__" = some (some (.builtin "BaseException.__getattribute__")))
    (ya_Twice : PySem.W.findIn K (.ref q_Twice) "__getattr__" = some none)
    (yc_Twice : PySem.W.findIn K (.ref q_Twice) "__class__" = some (some (.builtin "object.__class__")))
    (ym_Twice : PySem.W.mroIn K q_Twice (.type "object") = some true)
    (yv_Twice : PySem.W.subIn K (.ref q_Twice) (.type "ValueError") = some true)
    (s_Twice_WordError : PySem.W.subIn K (.ref q_Twice) (.ref q_WordError) = some true)
    (s_Twice_NoWord : PySem.W.subIn K (.ref q_Twice) (.ref q_NoWord) = some false)
    (s_Twice_NoSigns : PySem.W.subIn K (.ref q_Twice) (.ref q_NoSigns) = some false)
    (s_Twice_NoCount : PySem.W.subIn K (.ref q_Twice) (.ref q_NoCount) = some false)
    (s_Twice_TooMany : PySem.W.subIn K (.ref q_Twice) (.ref q_TooMany) = some false)
    (s_Twice_NoRing : PySem.W.subIn K (.ref q_Twice) (.ref q_NoRing) = some false)
    (s_Twice_Twice : PySem.W.subIn K (.ref q_Twice) (.ref q_Twice) = some true) :
    ∃ fd : FuncData, (∀ (s : Shared) (v : Value), BindsTo s fd ⟨[v], []⟩ [("_law_script", v)]) ∧ ∀ base : Heap, K.In base → base.Ns mainGlobals mg → FnOk l.prog w K mg base CX0 9 fa fd ["_law_script"] (spLaw K) := by
  have e := hfa.symm.trans (PySem.W.mg_of X G a_law)
  cases e
  have B : Bt mg := ⟨PySem.W.mg_none_of X G z_len, PySem.W.mg_none_of X G z_range, PySem.W.mg_none_of X G z_sorted, PySem.W.mg_none_of X G z_min, PySem.W.mg_none_of X G z_max, PySem.W.mg_none_of X G z_all, PySem.W.mg_none_of X G z_isinstance, PySem.W.mg_none_of X G z_list, PySem.W.mg_none_of X G z_tuple, PySem.W.mg_none_of X G z_str, PySem.W.mg_none_of X G z_bool, PySem.W.mg_none_of X G z_zip, PySem.W.mg_none_of X G z_enumerate, PySem.W.mg_none_of X G z_ValueError, PySem.W.mg_none_of X G z_sum, PySem.W.mg_none_of X G z_set, PySem.W.mg_none_of X G z_dict, PySem.W.mg_none_of X G z_int, ⟨_, PySem.W.mg_of X G z_LONGEST_WORD, ⟨_, rfl⟩⟩⟩
  have CL : Cls6 mg q_WordError (csOf q_NoWord q_NoSigns q_NoCount q_TooMany q_NoRing q_Twice) := ⟨PySem.W.mg_of X G g_WordError, PySem.W.mg_of X G g_NoWord, PySem.W.mg_of X G g_NoSigns, PySem.W.mg_of X G g_NoCount, PySem.W.mg_of X G g_TooMany, PySem.W.mg_of X G g_NoRing, PySem.W.mg_of X G g_Twice⟩
  have KO : KOth K q_WordError := ⟨kit_no d_WordError t_WordError o_str, kit_no d_WordError t_WordError o_NoneType, kit_no d_WordError t_WordError o_list, kit_no d_WordError t_WordError o_int⟩
  have X_NoWord : ErX K mg "NoWord" q_NoWord := ⟨PySem.W.mg_of X G g_NoWord, x_NoWord, k_NoWord, b_NoWord, t_NoWord⟩
  have J_NoWord : ErJ K q_WordError (csOf q_NoWord q_NoSigns q_NoCount q_TooMany q_NoRing q_Twice) 0 := ⟨⟨yg_NoWord, ya_NoWord, b_NoWord, d_NoWord, yc_NoWord, y_hn, y_ht, ym_NoWord⟩, (fun k hk => match k, hk with | 0, _ => kit_self | 1, _ => kit_other s_NoWord_NoWord d_NoSigns t_NoSigns s_NoWord_NoSigns | 2, _ => kit_other s_NoWord_NoWord d_NoCount t_NoCount s_NoWord_NoCount | 3, _ => kit_other s_NoWord_NoWord d_TooMany t_TooMany s_NoWord_TooMany | 4, _ => kit_other s_NoWord_NoWord d_NoRing t_NoRing s_NoWord_NoRing | 5, _ => kit_other s_NoWord_NoWord d_Twice t_Twice s_NoWord_Twice | n + 6, h => absurd h (by omega)), kit_value yv_NoWord, kit_up d_WordError t_WordError s_NoWord_WordError, PySem.W.exm_ref b_WordError d_WordError t_WordError s_NoWord_WordError⟩
  have X_NoRing : ErX K mg "NoRing" q_NoRing := ⟨PySem.W.mg_of X G g_NoRing, x_NoRing, k_NoRing, b_NoRing, t_NoRing⟩
  have J_NoRing : ErJ K q_WordError (csOf q_NoWord q_NoSigns q_NoCount q_TooMany q_NoRing q_Twice) 4 := ⟨⟨yg_NoRing, ya_NoRing, b_NoRing, d_NoRing, yc_NoRing, y_hn, y_ht, ym_NoRing⟩, (fun k hk => match k, hk with | 0, _ => kit_other s_NoRing_NoRing d_NoWord t_NoWord s_NoRing_NoWord | 1, _ => kit_other s_NoRing_NoRing d_NoSigns t_NoSigns s_NoRing_NoSigns | 2, _ => kit_other s_NoRing_NoRing d_NoCount t_NoCount s_NoRing_NoCount | 3, _ => kit_other s_NoRing_NoRing d_TooMany t_TooMany s_NoRing_TooMany | 4, _ => kit_self | 5, _ => kit_other s_NoRing_NoRing d_Twice t_Twice s_NoRing_Twice | n + 6, h => absurd h (by omega)), kit_value yv_NoRing, kit_up d_WordError t_WordError s_NoRing_WordError, PySem.W.exm_ref b_WordError d_WordError t_WordError s_NoRing_WordError⟩
  have X_Twice : ErX K mg "Twice" q_Twice := ⟨PySem.W.mg_of X G g_Twice, x_Twice, k_Twice, b_Twice, t_Twice⟩
  have J_Twice : ErJ K q_WordError (csOf q_NoWord q_NoSigns q_NoCount q_TooMany q_NoRing q_Twice) 5 := ⟨⟨yg_Twice, ya_Twice, b_Twice, d_Twice, yc_Twice, y_hn, y_ht, ym_Twice⟩, (fun k hk => match k, hk with | 0, _ => kit_other s_Twice_Twice d_NoWord t_NoWord s_Twice_NoWord | 1, _ => kit_other s_Twice_Twice d_NoSigns t_NoSigns s_Twice_NoSigns | 2, _ => kit_other s_Twice_Twice d_NoCount t_NoCount s_Twice_NoCount | 3, _ => kit_other s_Twice_Twice d_TooMany t_TooMany s_Twice_TooMany | 4, _ => kit_other s_Twice_Twice d_NoRing t_NoRing s_Twice_NoRing | 5, _ => kit_self | n + 6, h => absurd h (by omega)), kit_value yv_Twice, kit_up d_WordError t_WordError s_Twice_WordError, PySem.W.exm_ref b_WordError d_WordError t_WordError s_Twice_WordError⟩
  have R1 : Er1 K mg q_NoWord := ⟨PySem.W.mg_of X G g_NoWord, x_NoWord, k_NoWord, b_NoWord, t_NoWord⟩
  have D_is_word : Dfn K mg "is_word" s_is_word p_is_word := ⟨f_is_word, _, fun_mk l_is_word c_is_word k_is_word, PySem.W.mg_of X G a_is_word, (fun_mk l_is_word c_is_word k_is_word).binds (ps := p_is_word) fun _ _ _ _ _ _ us hl => match us, hl with | [_], _ => rfl⟩
  have D_need_word : Dfn K mg "need_word" s_need_word p_need_word := ⟨f_need_word, _, fun_mk l_need_word c_need_word k_need_word, PySem.W.mg_of X G a_need_word, (fun_mk l_need_word c_need_word k_need_word).binds (ps := p_need_word) fun _ _ _ _ _ _ us hl => match us, hl with | [_], _ => rfl⟩
  have D_turnings : Dfn K mg "turnings" s_turnings p_turnings := ⟨f_turnings, _, fun_mk l_turnings c_turnings k_turnings, PySem.W.mg_of X G a_turnings, (fun_mk l_turnings c_turnings k_turnings).binds (ps := p_turnings) fun _ _ _ _ _ _ us hl => match us, hl with | [_], _ => rfl⟩
  have D_least_form : Dfn K mg "least_form" s_least_form p_least_form := ⟨f_least_form, _, fun_mk l_least_form c_least_form k_least_form, PySem.W.mg_of X G a_least_form, (fun_mk l_least_form c_least_form k_least_form).binds (ps := p_least_form) fun _ _ _ _ _ _ us hl => match us, hl with | [_], _ => rfl⟩
  have D_Rings___init__ : MDfn K q_Rings "__init__" "Rings.__init__" s_Rings___init__ p_Rings___init__ := ⟨f_Rings___init__, _, fun_mk l_Rings___init__ c_Rings___init__ k_Rings___init__, ⟨a_Rings___init__, i_Rings___init__, k_Rings___init__⟩, (fun_mk l_Rings___init__ c_Rings___init__ k_Rings___init__).binds (ps := p_Rings___init__) fun _ _ _ _ _ _ us hl => match us, hl with | [_], _ => rfl⟩
  have D_Rings_add : MDfn K q_Rings "add" "Rings.add" s_Rings_add p_Rings_add := ⟨f_Rings_add, _, fun_mk l_Rings_add c_Rings_add k_Rings_add, ⟨a_Rings_add, i_Rings_add, k_Rings_add⟩, (fun_mk l_Rings_add c_Rings_add k_Rings_add).binds (ps := p_Rings_add) fun _ _ _ _ _ _ us hl => match us, hl with | [_, _], _ => rfl⟩
  have D_Rings_take : MDfn K q_Rings "take" "Rings.take" s_Rings_take p_Rings_take := ⟨f_Rings_take, _, fun_mk l_Rings_take c_Rings_take k_Rings_take, ⟨a_Rings_take, i_Rings_take, k_Rings_take⟩, (fun_mk l_Rings_take c_Rings_take k_Rings_take).binds (ps := p_Rings_take) fun _ _ _ _ _ _ us hl => match us, hl with | [_, _], _ => rfl⟩
  have D_Rings_ring_of : MDfn K q_Rings "ring_of" "Rings.ring_of" s_Rings_ring_of p_Rings_ring_of := ⟨f_Rings_ring_of, _, fun_mk l_Rings_ring_of c_Rings_ring_of k_Rings_ring_of, ⟨a_Rings_ring_of, i_Rings_ring_of, k_Rings_ring_of⟩, (fun_mk l_Rings_ring_of c_Rings_ring_of k_Rings_ring_of).binds (ps := p_Rings_ring_of) fun _ _ _ _ _ _ us hl => match us, hl with | [_, _], _ => rfl⟩
  have D_Rings_others : MDfn K q_Rings "others" "Rings.others" s_Rings_others p_Rings_others := ⟨f_Rings_others, _, fun_mk l_Rings_others c_Rings_others k_Rings_others, ⟨a_Rings_others, i_Rings_others, k_Rings_others⟩, (fun_mk l_Rings_others c_Rings_others k_Rings_others).binds (ps := p_Rings_others) fun _ _ _ _ _ _ us hl => match us, hl with | [_, _], _ => rfl⟩
  have D_Rings_members : MDfn K q_Rings "members" "Rings.members" s_Rings_members p_Rings_members := ⟨f_Rings_members, _, fun_mk l_Rings_members c_Rings_members k_Rings_members, ⟨a_Rings_members, i_Rings_members, k_Rings_members⟩, (fun_mk l_Rings_members c_Rings_members k_Rings_members).binds (ps := p_Rings_members) fun _ _ _ _ _ _ us hl => match us, hl with | [_, _], _ => rfl⟩
  have D_Rings_forms : MDfn K q_Rings "forms" "Rings.forms" s_Rings_forms p_Rings_forms := ⟨f_Rings_forms, _, fun_mk l_Rings_forms c_Rings_forms k_Rings_forms, ⟨a_Rings_forms, i_Rings_forms, k_Rings_forms⟩, (fun_mk l_Rings_forms c_Rings_forms k_Rings_forms).binds (ps := p_Rings_forms) fun _ _ _ _ _ _ us hl => match us, hl with | [_], _ => rfl⟩
  have D_Rings_many : MDfn K q_Rings "many" "Rings.many" s_Rings_many p_Rings_many := ⟨f_Rings_many, _, fun_mk l_Rings_many c_Rings_many k_Rings_many, ⟨a_Rings_many, i_Rings_many, k_Rings_many⟩, (fun_mk l_Rings_many c_Rings_many k_Rings_many).binds (ps := p_Rings_many) fun _ _ _ _ _ _ us hl => match us, hl with | [_], _ => rfl⟩
  have D_Rings__begin : MDfn K q_Rings "_begin" "Rings._begin" s_Rings__begin p_Rings__begin := ⟨f_Rings__begin, _, fun_mk l_Rings__begin c_Rings__begin k_Rings__begin, ⟨a_Rings__begin, i_Rings__begin, k_Rings__begin⟩, (fun_mk l_Rings__begin c_Rings__begin k_Rings__begin).binds (ps := p_Rings__begin) fun _ _ _ _ _ _ us hl => match us, hl with | [_, _], _ => rfl⟩
  have D_Rings__end : MDfn K q_Rings "_end" "Rings._end" s_Rings__end p_Rings__end := ⟨f_Rings__end, _, fun_mk l_Rings__end c_Rings__end k_Rings__end, ⟨a_Rings__end, i_Rings__end, k_Rings__end⟩, (fun_mk l_Rings__end c_Rings__end k_Rings__end).binds (ps := p_Rings__end) fun _ _ _ _ _ _ us hl => match us, hl with | [_, _], _ => rfl⟩
  have D_l_mixed : Dfn K mg "_law_mixed" s_l_mixed p_l_mixed := ⟨f_l_mixed, _, fun_mk l_l_mixed c_l_mixed k_l_mixed, PySem.W.mg_of X G a_l_mixed, (fun_mk l_l_mixed c_l_mixed k_l_mixed).binds (ps := p_l_mixed) fun _ _ _ _ _ _ us hl => match us, hl with | [_, _], _ => rfl⟩
  have D_l_whole : Dfn K mg "_law_whole" s_l_whole p_l_whole := ⟨f_l_whole, _, fun_mk l_l_whole c_l_whole k_l_whole, PySem.W.mg_of X G a_l_whole, (fun_mk l_l_whole c_l_whole k_l_whole).binds (ps := p_l_whole) fun _ _ _ _ _ _ us hl => match us, hl with | [_, _], _ => rfl⟩
  have D_l_drawn : Dfn K mg "_law_drawn" s_l_drawn p_l_drawn := ⟨f_l_drawn, _, fun_mk l_l_drawn c_l_drawn k_l_drawn, PySem.W.mg_of X G a_l_drawn, (fun_mk l_l_drawn c_l_drawn k_l_drawn).binds (ps := p_l_drawn) fun _ _ _ _ _ _ us hl => match us, hl with | [_, _, _], _ => rfl⟩
  have D_l_turnings : Dfn K mg "_law_turnings" s_l_turnings p_l_turnings := ⟨f_l_turnings, _, fun_mk l_l_turnings c_l_turnings k_l_turnings, PySem.W.mg_of X G a_l_turnings, (fun_mk l_l_turnings c_l_turnings k_l_turnings).binds (ps := p_l_turnings) fun _ _ _ _ _ _ us hl => match us, hl with | [_], _ => rfl⟩
  have D_l_no_word : Dfn K mg "_law_no_word" s_l_no_word p_l_no_word := ⟨f_l_no_word, _, fun_mk l_l_no_word c_l_no_word k_l_no_word, PySem.W.mg_of X G a_l_no_word, (fun_mk l_l_no_word c_l_no_word k_l_no_word).binds (ps := p_l_no_word) fun _ _ _ _ _ _ us hl => match us, hl with | [_], _ => rfl⟩
  have D_l_mark : Dfn K mg "_law_mark" s_l_mark p_l_mark := ⟨f_l_mark, _, fun_mk l_l_mark c_l_mark k_l_mark, PySem.W.mg_of X G a_l_mark, (fun_mk l_l_mark c_l_mark k_l_mark).binds (ps := p_l_mark) fun _ _ _ _ _ _ us hl => match us, hl with | [_], _ => rfl⟩
  have D_l_ring : Dfn K mg "_law_ring" s_l_ring p_l_ring := ⟨f_l_ring, _, fun_mk l_l_ring c_l_ring k_l_ring, PySem.W.mg_of X G a_l_ring, (fun_mk l_l_ring c_l_ring k_l_ring).binds (ps := p_l_ring) fun _ _ _ _ _ _ us hl => match us, hl with | [_, _], _ => rfl⟩
  have D_l_due : Dfn K mg "_law_due" s_l_due p_l_due := ⟨f_l_due, _, fun_mk l_l_due c_l_due k_l_due, PySem.W.mg_of X G a_l_due, (fun_mk l_l_due c_l_due k_l_due).binds (ps := p_l_due) fun _ _ _ _ _ _ us hl => match us, hl with | [_, _, _], _ => rfl⟩
  have D_l_told : Dfn K mg "_law_told" s_l_told p_l_told := ⟨f_l_told, _, fun_mk l_l_told c_l_told k_l_told, PySem.W.mg_of X G a_l_told, (fun_mk l_l_told c_l_told k_l_told).binds (ps := p_l_told) fun _ _ _ _ _ _ us hl => match us, hl with | [_, _, _], _ => rfl⟩
  have D_l_stands : Dfn K mg "_law_stands" s_l_stands p_l_stands := ⟨f_l_stands, _, fun_mk l_l_stands c_l_stands k_l_stands, PySem.W.mg_of X G a_l_stands, (fun_mk l_l_stands c_l_stands k_l_stands).binds (ps := p_l_stands) fun _ _ _ _ _ _ us hl => match us, hl with | [_, _], _ => rfl⟩
  have D_l_right : Dfn K mg "_law_right" s_l_right p_l_right := ⟨f_l_right, _, fun_mk l_l_right c_l_right k_l_right, PySem.W.mg_of X G a_l_right, (fun_mk l_l_right c_l_right k_l_right).binds (ps := p_l_right) fun _ _ _ _ _ _ us hl => match us, hl with | [_, _, _], _ => rfl⟩
  have RG : RgC K mg q_Rings := ⟨⟨rg_pg, rg_hd, rg_po, rg_sa⟩, rg_n1, rg_n2, rg_n3, rg_mk, rg_kc, PySem.W.mg_of X G g_Rings⟩
  have FL := fun_mk (st := s_law) l_law c_law k_law
  refine ⟨PySem.W.fnOf "law" "law" (defArgs s_law) (defBody s_law) (defScope s_law) .none kV_law dc_law pm_law an_law cd_law ct_law, fun s v => .of_eq rfl, fun base _ _ => ?_⟩
  have c1 := ok_is_word (P := l.prog) (w := w) (base := base) B D_is_word
  have c2 := ok_need_word B R1 D_need_word c1
  have c3 := ok_turnings B D_turnings c2
  have c4 := ok_least_form B D_least_form c3
  have r1 := ok_rinit (P := l.prog) (w := w) (base := base) RG D_Rings___init__
  have r2 := ok_ring_of B RG D_Rings_ring_of c4
  have r3 := ok_begin (P := l.prog) (w := w) (base := base) B RG D_Rings__begin
  have r4 := ok_radd RG X_Twice D_Rings_add r2 r3 c4
  have r5 := ok_rforms (P := l.prog) (w := w) (base := base) B RG D_Rings_forms
  have r6 := ok_rmany (P := l.prog) (w := w) (base := base) B RG D_Rings_many
  have r7 := ok_end (P := l.prog) (w := w) (base := base) B RG D_Rings__end
  have r8 := ok_members (P := l.prog) (w := w) (base := base) B RG X_NoRing D_Rings_members
  have r9 := ok_others B RG D_Rings_others r2
  have r10 := ok_take B RG X_NoRing D_Rings_take r2 r7 c4
  have d1 := ok_mixed (P := l.prog) (w := w) (base := base) D_l_mixed
  have d2 := ok_drawn B D_l_drawn d1
  have d3 := ok_lturnings (P := l.prog) (w := w) (base := base) B D_l_turnings
  have d4 := ok_lwhole (P := l.prog) (w := w) (base := base) B D_l_whole
  have d5 := ok_no_word (P := l.prog) (w := w) (base := base) D_l_no_word
  have d6 := ok_markJ (P := l.prog) (w := w) (base := base) B CL D_l_mark
  have d7 := ok_lring B D_l_ring d3
  have d8 := ok_ldue B D_l_due d7
  have e1 := ok_told12 (cs := csOf q_NoWord q_NoSigns q_NoCount q_TooMany q_NoRing q_Twice) B RG CL KO J_NoWord J_NoRing J_Twice D_l_told r4 r10 r2 r9 r8 d6
  have e2 := ok_lstands B RG D_l_stands e1 d3 d4 r5 r6
  have e3 := ok_lright B RG D_l_right d1 d2 d3 e1 d8 d5
  exact ok_law B RG FL d1 r1 e3 e2
end Rk
open PySem PySem.W PyProof.Rows
set_option maxHeartbeats 0 in
theorem PySem.Challenge.cw_ringword_k12_book_holds : PySem.Challenge.rw_ringword_k12_book.Holds := by
  w_on; o_law; k_head; (case hw => w_witness2)
  k_fill
  refine L2.walk_of (l := PySem.Challenge.rw_ringword_k12_book) (n := 63) (k := 9) (x := "_law_script") (CX := fun _ => L2.CX0) (sp := fun w => Rw.spLaw _) rfl (by decide) rfl ⟨rfl, by decide, by decide⟩ (fun w h Y => PySem.W.kIn_of Y) ?F (fun _ _ a ns hl _ hS => ⟨a, ns, rfl, hS, hl, fun _ => rfl⟩) (fun _ _ _ _ _ h => h)
  case F =>
    intro w mg fa h KX G hmg
    refine' Rk.all_mk KX G hmg ?g_Rings ?rg_pg ?rg_hd ?rg_po ?rg_sa ?rg_mk ?rg_kc ?rg_n1 ?rg_n2 ?rg_n3 ?a_is_word ?l_is_word ?c_is_word ?k_is_word ?a_need_word ?l_need_word ?c_need_word ?k_need_word ?a_turnings ?l_turnings ?c_turnings ?k_turnings ?a_least_form ?l_least_form ?c_least_form ?k_least_form ?a_Rings___init__ ?i_Rings___init__ ?l_Rings___init__ ?c_Rings___init__ ?k_Rings___init__ ?a_Rings_add ?i_Rings_add ?l_Rings_add ?c_Rings_add ?k_Rings_add ?a_Rings_take ?i_Rings_take ?l_Rings_take ?c_Rings_take ?k_Rings_take ?a_Rings_ring_of ?i_Rings_ring_of ?l_Rings_ring_of ?c_Rings_ring_of ?k_Rings_ring_of ?a_Rings_others ?i_Rings_others ?l_Rings_others ?c_Rings_others ?k_Rings_others ?a_Rings_members ?i_Rings_members ?l_Rings_members ?c_Rings_members ?k_Rings_members ?a_Rings_forms ?i_Rings_forms ?l_Rings_forms ?c_Rings_forms ?k_Rings_forms ?a_Rings_many ?i_Rings_many ?l_Rings_many ?c_Rings_many ?k_Rings_many ?a_Rings__begin ?i_Rings__begin ?l_Rings__begin ?c_Rings__begin ?k_Rings__begin ?a_Rings__end ?i_Rings__end ?l_Rings__end ?c_Rings__end ?k_Rings__end ?a_l_mixed ?l_l_mixed ?c_l_mixed ?k_l_mixed ?a_l_whole ?l_l_whole ?c_l_whole ?k_l_whole ?a_l_drawn ?l_l_drawn ?c_l_drawn ?k_l_drawn ?a_l_turnings ?l_l_turnings ?c_l_turnings ?k_l_turnings ?a_l_no_word ?l_l_no_word ?c_l_no_word ?k_l_no_word ?a_l_mark ?l_l_mark ?c_l_mark ?k_l_mark ?a_l_ring ?l_l_ring ?c_l_ring ?k_l_ring ?a_l_due ?l_l_due ?c_l_due ?k_l_due ?a_l_told ?l_l_told ?c_l_told ?k_l_told ?a_l_stands ?l_l_stands ?c_l_stands ?k_l_stands ?a_l_right ?l_l_right ?c_l_right ?k_l_right ?a_law ?l_law ?c_law ?k_law ?z_len ?z_range ?z_sorted ?z_min ?z_max ?z_all ?z_isinstance ?z_list ?z_tuple ?z_str ?z_bool ?z_zip ?z_enumerate ?z_ValueError ?z_sum ?z_set ?z_dict ?z_int ?z_LONGEST_WORD ?g_WordError ?g_NoWord ?g_NoSigns ?g_NoCount ?g_TooMany ?g_NoRing ?g_Twice ?d_WordError ?t_WordError ?d_NoWord ?t_NoWord ?d_NoSigns ?t_NoSigns ?d_NoCount ?t_NoCount ?d_TooMany ?t_TooMany ?d_NoRing ?t_NoRing ?d_Twice ?t_Twice ?b_WordError ?o_str ?o_NoneType ?o_list ?o_int ?y_hn ?y_ht ?x_NoWord ?k_NoWord ?b_NoWord ?yg_NoWord ?ya_NoWord ?yc_NoWord ?ym_NoWord ?yv_NoWord ?s_NoWord_WordError ?s_NoWord_NoWord ?s_NoWord_NoSigns ?s_NoWord_NoCount ?s_NoWord_TooMany ?s_NoWord_NoRing ?s_NoWord_Twice ?x_NoRing ?k_NoRing ?b_NoRing ?yg_NoRing ?ya_NoRing ?yc_NoRing ?ym_NoRing ?yv_NoRing ?s_NoRing_WordError ?s_NoRing_NoWord ?s_NoRing_NoSigns ?s_NoRing_NoCount ?s_NoRing_TooMany ?s_NoRing_NoRing ?s_NoRing_Twice ?x_Twice ?k_Twice ?b_Twice ?yg_Twice ?ya_Twice ?yc_Twice ?ym_Twice ?yv_Twice ?s_Twice_WordError ?s_Twice_NoWord ?s_Twice_NoSigns ?s_Twice_NoCount ?s_Twice_TooMany ?s_Twice_NoRing ?s_Twice_Twice
    (case g_Rings => first | k_is | rfl)
    (case rg_pg => first | k_is | rfl)
    (case rg_hd => first | k_is | rfl)
    (case rg_po => first | k_is | rfl)
    (case rg_sa => first | k_is | rfl)
    (case rg_mk => first | k_is | rfl)
    (case rg_kc => first | k_is | rfl)
    (case rg_n1 => first | k_is | rfl)
    (case rg_n2 => first | k_is | rfl)
    (case rg_n3 => first | k_is | rfl)
    (case a_is_word => first | k_is | rfl)
    (case l_is_word => first | k_is | rfl)
    (case c_is_word => first | k_is | rfl)
    (case k_is_word => first | k_is | rfl)
    (case a_need_word => first | k_is | rfl)
    (case l_need_word => first | k_is | rfl)
    (case c_need_word => first | k_is | rfl)
    (case k_need_word => first | k_is | rfl)
    (case a_turnings => first | k_is | rfl)
    (case l_turnings => first | k_is | rfl)
    (case c_turnings => first | k_is | rfl)
    (case k_turnings => first | k_is | rfl)
    (case a_least_form => first | k_is | rfl)
    (case l_least_form => first | k_is | rfl)
    (case c_least_form => first | k_is | rfl)
    (case k_least_form => first | k_is | rfl)
    (case a_Rings___init__ => first | k_is | rfl)
    (case i_Rings___init__ => first | k_is | rfl)
    (case l_Rings___init__ => first | k_is | rfl)
    (case c_Rings___init__ => first | k_is | rfl)
    (case k_Rings___init__ => first | k_is | rfl)
    (case a_Rings_add => first | k_is | rfl)
    (case i_Rings_add => first | k_is | rfl)
    (case l_Rings_add => first | k_is | rfl)
    (case c_Rings_add => first | k_is | rfl)
    (case k_Rings_add => first | k_is | rfl)
    (case a_Rings_take => first | k_is | rfl)
    (case i_Rings_take => first | k_is | rfl)
    (case l_Rings_take => first | k_is | rfl)
    (case c_Rings_take => first | k_is | rfl)
    (case k_Rings_take => first | k_is | rfl)
    (case a_Rings_ring_of => first | k_is | rfl)
    (case i_Rings_ring_of => first | k_is | rfl)
    (case l_Rings_ring_of => first | k_is | rfl)
    (case c_Rings_ring_of => first | k_is | rfl)
    (case k_Rings_ring_of => first | k_is | rfl)
    (case a_Rings_others => first | k_is | rfl)
    (case i_Rings_others => first | k_is | rfl)
    (case l_Rings_others => first | k_is | rfl)
    (case c_Rings_others => first | k_is | rfl)
    (case k_Rings_others => first | k_is | rfl)
    (case a_Rings_members => first | k_is | rfl)
    (case i_Rings_members => first | k_is | rfl)
    (case l_Rings_members => first | k_is | rfl)
    (case c_Rings_members => first | k_is | rfl)
    (case k_Rings_members => first | k_is | rfl)
    (case a_Rings_forms => first | k_is | rfl)
    (case i_Rings_forms => first | k_is | rfl)
    (case l_Rings_forms => first | k_is | rfl)
    (case c_Rings_forms => first | k_is | rfl)
    (case k_Rings_forms => first | k_is | rfl)
    (case a_Rings_many => first | k_is | rfl)
    (case i_Rings_many => first | k_is | rfl)
    (case l_Rings_many => first | k_is | rfl)
    (case c_Rings_many => first | k_is | rfl)
    (case k_Rings_many => first | k_is | rfl)
    (case a_Rings__begin => first | k_is | rfl)
    (case i_Rings__begin => first | k_is | rfl)
    (case l_Rings__begin => first | k_is | rfl)
    (case c_Rings__begin => first | k_is | rfl)
    (case k_Rings__begin => first | k_is | rfl)
    (case a_Rings__end => first | k_is | rfl)
    (case i_Rings__end => first | k_is | rfl)
    (case l_Rings__end => first | k_is | rfl)
    (case c_Rings__end => first | k_is | rfl)
    (case k_Rings__end => first | k_is | rfl)
    (case a_l_mixed => first | k_is | rfl)
    (case l_l_mixed => first | k_is | rfl)
    (case c_l_mixed => first | k_is | rfl)
    (case k_l_mixed => first | k_is | rfl)
    (case a_l_whole => first | k_is | rfl)
    (case l_l_whole => first | k_is | rfl)
    (case c_l_whole => first | k_is | rfl)
    (case k_l_whole => first | k_is | rfl)
    (case a_l_drawn => first | k_is | rfl)
    (case l_l_drawn => first | k_is | rfl)
    (case c_l_drawn => first | k_is | rfl)
    (case k_l_drawn => first | k_is | rfl)
    (case a_l_turnings => first | k_is | rfl)
    (case l_l_turnings => first | k_is | rfl)
    (case c_l_turnings => first | k_is | rfl)
    (case k_l_turnings => first | k_is | rfl)
    (case a_l_no_word => first | k_is | rfl)
    (case l_l_no_word => first | k_is | rfl)
    (case c_l_no_word => first | k_is | rfl)
    (case k_l_no_word => first | k_is | rfl)
    (case a_l_mark => first | k_is | rfl)
    (case l_l_mark => first | k_is | rfl)
    (case c_l_mark => first | k_is | rfl)
    (case k_l_mark => first | k_is | rfl)
    (case a_l_ring => first | k_is | rfl)
    (case l_l_ring => first | k_is | rfl)
    (case c_l_ring => first | k_is | rfl)
    (case k_l_ring => first | k_is | rfl)
    (case a_l_due => first | k_is | rfl)
    (case l_l_due => first | k_is | rfl)
    (case c_l_due => first | k_is | rfl)
    (case k_l_due => first | k_is | rfl)
    (case a_l_told => first | k_is | rfl)
    (case l_l_told => first | k_is | rfl)
    (case c_l_told => first | k_is | rfl)
    (case k_l_told => first | k_is | rfl)
    (case a_l_stands => first | k_is | rfl)
    (case l_l_stands => first | k_is | rfl)
    (case c_l_stands => first | k_is | rfl)
    (case k_l_stands => first | k_is | rfl)
    (case a_l_right => first | k_is | rfl)
    (case l_l_right => first | k_is | rfl)
    (case c_l_right => first | k_is | rfl)
    (case k_l_right => first | k_is | rfl)
    (case a_law => first | k_is | rfl)
    (case l_law => first | k_is | rfl)
    (case c_law => first | k_is | rfl)
    (case k_law => first | k_is | rfl)
    (case z_len => first | k_is | rfl)
    (case z_range => first | k_is | rfl)
    (case z_sorted => first | k_is | rfl)
    (case z_min => first | k_is | rfl)
    (case z_max => first | k_is | rfl)
    (case z_all => first | k_is | rfl)
    (case z_isinstance => first | k_is | rfl)
    (case z_list => first | k_is | rfl)
    (case z_tuple => first | k_is | rfl)
    (case z_str => first | k_is | rfl)
    (case z_bool => first | k_is | rfl)
    (case z_zip => first | k_is | rfl)
    (case z_enumerate => first | k_is | rfl)
    (case z_ValueError => first | k_is | rfl)
    (case z_sum => first | k_is | rfl)
    (case z_set => first | k_is | rfl)
    (case z_dict => first | k_is | rfl)
    (case z_int => first | k_is | rfl)
    (case z_LONGEST_WORD => first | k_is | rfl)
    (case g_WordError => first | k_is | rfl)
    (case g_NoWord => first | k_is | rfl)
    (case g_NoSigns => first | k_is | rfl)
    (case g_NoCount => first | k_is | rfl)
    (case g_TooMany => first | k_is | rfl)
    (case g_NoRing => first | k_is | rfl)
    (case g_Twice => first | k_is | rfl)
    (case d_WordError => first | k_is | rfl)
    (case t_WordError => first | k_is | rfl)
    (case d_NoWord => first | k_is | rfl)
    (case t_NoWord => first | k_is | rfl)
    (case d_NoSigns => first | k_is | rfl)
    (case t_NoSigns => first | k_is | rfl)
    (case d_NoCount => first | k_is | rfl)
    (case t_NoCount => first | k_is | rfl)
    (case d_TooMany => first | k_is | rfl)
    (case t_TooMany => first | k_is | rfl)
    (case d_NoRing => first | k_is | rfl)
    (case t_NoRing => first | k_is | rfl)
    (case d_Twice => first | k_is | rfl)
    (case t_Twice => first | k_is | rfl)
    (case b_WordError => first | k_is | rfl)
    (case o_str => first | k_is | rfl)
    (case o_NoneType => first | k_is | rfl)
    (case o_list => first | k_is | rfl)
    (case o_int => first | k_is | rfl)
    (case y_hn => first | k_is | rfl)
    (case y_ht => first | k_is | rfl)
    (case x_NoWord => k_exc)
    (case k_NoWord => first | k_is | rfl)
    (case b_NoWord => first | k_is | rfl)
    (case yg_NoWord => first | k_is | rfl)
    (case ya_NoWord => first | k_is | rfl)
    (case yc_NoWord => first | k_is | rfl)
    (case ym_NoWord => first | k_is | rfl)
    (case yv_NoWord => first | k_is | rfl)
    (case s_NoWord_WordError => first | k_is | rfl)
    (case s_NoWord_NoWord => first | k_is | rfl)
    (case s_NoWord_NoSigns => first | k_is | rfl)
    (case s_NoWord_NoCount => first | k_is | rfl)
    (case s_NoWord_TooMany => first | k_is | rfl)
    (case s_NoWord_NoRing => first | k_is | rfl)
    (case s_NoWord_Twice => first | k_is | rfl)
    (case x_NoRing => k_exc)
    (case k_NoRing => first | k_is | rfl)
    (case b_NoRing => first | k_is | rfl)
    (case yg_NoRing => first | k_is | rfl)
    (case ya_NoRing => first | k_is | rfl)
    (case yc_NoRing => first | k_is | rfl)
    (case ym_NoRing => first | k_is | rfl)
    (case yv_NoRing => first | k_is | rfl)
    (case s_NoRing_WordError => first | k_is | rfl)
    (case s_NoRing_NoWord => first | k_is | rfl)
    (case s_NoRing_NoSigns => first | k_is | rfl)
    (case s_NoRing_NoCount => first | k_is | rfl)
    (case s_NoRing_TooMany => first | k_is | rfl)
    (case s_NoRing_NoRing => first | k_is | rfl)
    (case s_NoRing_Twice => first | k_is | rfl)
    (case x_Twice => k_exc)
    (case k_Twice => first | k_is | rfl)
    (case b_Twice => first | k_is | rfl)
    (case yg_Twice => first | k_is | rfl)
    (case ya_Twice => first | k_is | rfl)
    (case yc_Twice => first | k_is | rfl)
    (case ym_Twice => first | k_is | rfl)
    (case yv_Twice => first | k_is | rfl)
    (case s_Twice_WordError => first | k_is | rfl)
    (case s_Twice_NoWord => first | k_is | rfl)
    (case s_Twice_NoSigns => first | k_is | rfl)
    (case s_Twice_NoCount => first | k_is | rfl)
    (case s_Twice_TooMany => first | k_is | rfl)
    (case s_Twice_NoRing => first | k_is | rfl)
    (case s_Twice_Twice => first | k_is | rfl)
