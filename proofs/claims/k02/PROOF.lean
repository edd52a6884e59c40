import PyProof.Rows.All
import Wide.All
import OpenK.AllK
import Wide.FinOn
import HandS.Base
import HandS.Call
import HandS.List
import HandS.Comp
import HandS.Ends
import HandS.Dict
import HandS.Iter
import HandS.Text
import HandS.Words
import HandS.WordsList
import HandS.WordsDict
import HandS.Conv
import HandS.Star
import HandS.IsInst
import HandS.SortKw
import HandS.Wide
import KE.DataMinMax
import KE.DataEq
import PySem.Challenge.RW_foldercode_k02_measured
set_option Elab.async false
set_option linter.all false
set_option maxRecDepth 100000
set_option maxHeartbeats 4000000
namespace FC
open PySem L2
def top (i : Nat) : Stmt := PySem.Challenge.pw_foldercode_k02_measured.main.body.getD i (.Pass ⟨0, 0, 0, 0⟩)
abbrev sParts : Stmt := top 3
abbrev sSize : Stmt := top 4
abbrev sDeep : Stmt := top 5
abbrev sNeeds : Stmt := top 6
abbrev sGather : Stmt := top 7
abbrev sMixed : Stmt := top 9
abbrev sCellAt : Stmt := top 10
abbrev sWhole : Stmt := top 11
abbrev sNumBy : Stmt := top 12
abbrev sNameBy : Stmt := top 13
abbrev sStep : Stmt := top 14
abbrev sTreeBy : Stmt := top 15
abbrev sLink : Stmt := top 16
abbrev sManyBy : Stmt := top 17
abbrev sExprBy : Stmt := top 18
abbrev sLSize : Stmt := top 19
abbrev sLNeeds : Stmt := top 20
abbrev sLDeep : Stmt := top 21
abbrev sLaw : Stmt := top 22
/-- a def of the text: where it stands, how it is called -/
structure Df (K : PySem.W.Frag) (mg : Str → Option Value) (x : Str) (st : Stmt) (ps : List Str) (f : Addr) (fd : FuncData) : Prop where
  F : Fun K x x st f fd
  b : Binds K fd ps []
  m : mg x = some (.ref f)
theorem Df.k {K mg x st ps f fd} (d : Df K mg x st ps f fd) : PySem.W.keepIn K (.ref f) = true := d.F.kp
/-- the built-ins that are called -/
structure Bl (mg : Str → Option Value) : Prop where
  len : mg "len" = none
  range : mg "range" = none
  sum : mg "sum" = none
  max : mg "max" = none
  min : mg "min" = none
  list : mg "list" = none
  int : mg "int" = none
  isi : mg "isinstance" = none
  bool : mg "bool" = none
  str : mg "str" = none
/-! ### expressions -/
inductive Op where
  | sum | less | times | part | rest | below | same
  deriving DecidableEq, Repr
def Op.str : Op → Str
  | .sum => "sum" | .less => "less" | .times => "times" | .part => "part" | .rest => "rest" | .below => "below" | .same => "same"
inductive Ex where
  | num (n : Int)
  | nam (w : Str)
  | two (o : Op) (a b : Ex)
  | whn (c a b : Ex)
  | lett (w : Str) (a b : Ex)
  deriving DecidableEq
def Ex.size : Ex → Nat
  | .num _ => 1
  | .nam _ => 1
  | .two _ a b => a.size + b.size + 1
  | .whn c a b => c.size + a.size + b.size + 1
  | .lett _ a b => a.size + b.size + 1
def Ex.deep : Ex → Nat
  | .num _ => 1
  | .nam _ => 1
  | .two _ a b => max a.deep b.deep + 1
  | .whn c a b => max (max c.deep a.deep) b.deep + 1
  | .lett _ a b => max a.deep b.deep + 1
theorem Ex.deep_pos : ∀ e : Ex, 1 ≤ e.deep
  | .num _ => Nat.le_refl _
  | .nam _ => Nat.le_refl _
  | .two _ _ _ => Nat.le_add_left _ _
  | .whn _ _ _ => Nat.le_add_left _ _
  | .lett _ _ _ => Nat.le_add_left _ _
theorem Ex.size_pos : ∀ e : Ex, 1 ≤ e.size
  | .num _ => Nat.le_refl _
  | .nam _ => Nat.le_refl _
  | .two _ _ _ => Nat.le_add_left _ _
  | .whn _ _ _ => Nat.le_add_left _ _
  | .lett _ _ _ => Nat.le_add_left _ _
theorem Ex.deep_le : ∀ e : Ex, e.deep ≤ e.size
  | .num _ => Nat.le_refl _
  | .nam _ => Nat.le_refl _
  | .two _ a b => by
    have h1 := deep_le a
    have h2 := deep_le b
    show max a.deep b.deep + 1 ≤ a.size + b.size + 1
    omega
  | .whn c a b => by
    have h0 := deep_le c
    have h1 := deep_le a
    have h2 := deep_le b
    show max (max c.deep a.deep) b.deep + 1 ≤ c.size + a.size + b.size + 1
    omega
  | .lett _ a b => by
    have h1 := deep_le a
    have h2 := deep_le b
    show max a.deep b.deep + 1 ≤ a.size + b.size + 1
    omega
/-- the expressions that stand directly in it -/
def Ex.kids : Ex → List Ex
  | .num _ => []
  | .nam _ => []
  | .two _ a b => [a, b]
  | .whn c a b => [c, a, b]
  | .lett _ a b => [a, b]
/-- how its tuple begins -/
def Ex.head : Ex → List V
  | .num n => [.str "num", .int n]
  | .nam w => [.str "name", .str w]
  | .two o _ _ => [.str o.str]
  | .whn _ _ _ => [.str "when"]
  | .lett w _ _ => [.str "let", .str w]
/-- it stands in the heap at v -/
inductive Bears (H : Hp) : V → Ex → Prop where
  | num {a : Addr} {n : Int} : H a = some (.tup [.str "num", .int n]) → Bears H (.ref a) (.num n)
  | nam {a : Addr} {w : Str} : H a = some (.tup [.str "name", .str w]) → Bears H (.ref a) (.nam w)
  | two {a : Addr} {o : Op} {v1 v2 : V} {e1 e2 : Ex} : H a = some (.tup [.str o.str, v1, v2]) → Bears H v1 e1 → Bears H v2 e2 → Bears H (.ref a) (.two o e1 e2)
  | whn {a : Addr} {v0 v1 v2 : V} {e0 e1 e2 : Ex} : H a = some (.tup [.str "when", v0, v1, v2]) → Bears H v0 e0 → Bears H v1 e1 → Bears H v2 e2 → Bears H (.ref a) (.whn e0 e1 e2)
  | lett {a : Addr} {w : Str} {v1 v2 : V} {e1 e2 : Ex} : H a = some (.tup [.str "let", .str w, v1, v2]) → Bears H v1 e1 → Bears H v2 e2 → Bears H (.ref a) (.lett w e1 e2)
/-- tuples stay -/
def Tups (H H' : Hp) : Prop := ∀ a xs, H a = some (.tup xs) → H' a = some (.tup xs)
theorem Tups.of {H H' : Hp} (h : Same H H') : Tups H H' := fun a _ e => h a _ e
theorem Bears.mono {H H' : Hp} (h : Tups H H') : ∀ {v : V} {e : Ex}, Bears H v e → Bears H' v e := by
  intro v e b
  induction b with
  | num e => exact .num (h _ _ e)
  | nam e => exact .nam (h _ _ e)
  | two e _ _ i1 i2 => exact .two (h _ _ e) i1 i2
  | whn e _ _ _ i0 i1 i2 => exact .whn (h _ _ e) i0 i1 i2
  | lett e _ _ i1 i2 => exact .lett (h _ _ e) i1 i2
abbrev BearsL (H : Hp) : List V → List Ex → Prop := Paired (Bears H)
theorem BearsL.mono {H H' : Hp} (h : Tups H H') : ∀ {vs : List V} {es : List Ex}, BearsL H vs es → BearsL H' vs es
  | _, _, .nil => .nil
  | _, _, .cons a r => .cons (a.mono h) (BearsL.mono h r)
theorem Bears.out {H : Hp} {v : V} {e : Ex} (b : Bears H v e) : ∃ a ws, v = .ref a ∧ H a = some (.tup (e.head ++ ws)) ∧ BearsL H ws e.kids := by
  cases b with
  | num e => exact ⟨_, [], rfl, e, .nil⟩
  | nam e => exact ⟨_, [], rfl, e, .nil⟩
  | two e b1 b2 => exact ⟨_, [_, _], rfl, e, .cons b1 (.cons b2 .nil)⟩
  | whn e b0 b1 b2 => exact ⟨_, [_, _, _], rfl, e, .cons b0 (.cons b1 (.cons b2 .nil))⟩
  | lett e b1 b2 => exact ⟨_, [_, _], rfl, e, .cons b1 (.cons b2 .nil)⟩
theorem same_new {H : Hp} {p : Addr} (h : H p = none) (o : HO) : Same H (upd H p o) := fun b u q => by rw [upd_ne (ne_of_none q h)]; exact q
theorem sz {n : Nat} (h : n ≤ 1000) : n ≤ sizeLine := Nat.le_of_lt (small1000 h)
end FC
namespace FC
open PySem L2
theorem op_in (o : Op) : inV (.str o.str) [.str "num", .str "name"] = false := by cases o <;> decide
theorem op_let (o : Op) : decide (V.str o.str = V.str "let") = false := by cases o <;> decide
theorem op_num (o : Op) : decide (V.str o.str = V.str "num") = false := by cases o <;> decide
theorem op_name (o : Op) : decide (V.str o.str = V.str "name") = false := by cases o <;> decide
section
variable {P : Program} {w : World} {K : PySem.W.Frag} {mg : Str → Option Value} {base : Heap} {f g : Addr} {fd gd : FuncData}
def spParts (K : PySem.W.Frag) : Sp := fun vs H Q _ => ∃ (v : V) (e : Ex), vs = [v] ∧ Bears H v e ∧ ∀ (H' : Hp) (p : Addr) (ws : List V), Same H H' → H' p = some (.tup ws) → BearsL H' ws e.kids → Q (.ref p) H'
theorem scParts : FnScope ["expr", "word"] ["expr"] (defScope sParts) := ⟨rfl, rfl, rfl, by decide +kernel, rfl, by decide +kernel, by decide +kernel⟩
theorem ok_parts (d : Df K mg "parts" sParts ["expr"] f fd) : FnOk P w K mg base CX0 1 f fd ["expr"] (spParts K) := by
  refine d.F.ok scParts (fun vs H Q E h => ?_) (fun cdv A outer s H vs Q E hr h => ?_)
  · obtain ⟨v, e, rfl, _⟩ := h
    rfl
  obtain ⟨v, e, rfl, b, q⟩ := h
  refine ⟨_, pss_cons (ps_set (i := 1) scParts.nd rfl (.inl rfl) (pe_ix ix_tup (pv 0) pe_int (fun _ _ => rfl)))
    (pss_cons (ps_if (pt_cmpR op_in_seq (pv 1) (pe_tup (pa_cons pe_str (pa_cons pe_str pa_nil))) rfl) (pss_one (ps_ret (pe_tup pa_nil))) pss_nil)
    (pss_cons (ps_if (pt_cmpR op_eq (pv 1) pe_str (nomark _)) (pss_one (ps_ret (pe_slice sl_tup (pv 0) (po_some pe_int) po_none))) pss_nil)
    (pss_one (ps_ret (pe_slice sl_tup (pv 0) (po_some pe_int) po_none))))), ?_⟩
  cases b with
  | @num a n h =>
    refine ⟨_, rfl, a, _, 0, _, rfl, rfl, .inl (.inl h), rfl, ?_⟩
    refine ⟨_, rfl, (by show 2 ≤ sizeLine; decide), fun p hp => ?_⟩
    refine ⟨p, _, rfl, .inr (.inl (.inl upd_same)), rfl, rfl, _, rfl, iteT ?_⟩
    refine ⟨(by show 0 ≤ sizeLine; decide), fun t ht => ?_⟩
    exact q _ t [] ((same_new hp _).trans (same_new ht _)) upd_same .nil
  | @nam a n h =>
    refine ⟨_, rfl, a, _, 0, _, rfl, rfl, .inl (.inl h), rfl, ?_⟩
    refine ⟨_, rfl, (by show 2 ≤ sizeLine; decide), fun p hp => ?_⟩
    refine ⟨p, _, rfl, .inr (.inl (.inl upd_same)), rfl, rfl, _, rfl, iteT ?_⟩
    refine ⟨(by show 0 ≤ sizeLine; decide), fun t ht => ?_⟩
    exact q _ t [] ((same_new hp _).trans (same_new ht _)) upd_same .nil
  | @two a o v1 v2 e1 e2 h b1 b2 =>
    refine ⟨_, rfl, a, _, 0, _, rfl, rfl, .inl (.inl h), rfl, ?_⟩
    refine ⟨_, rfl, (by show 2 ≤ sizeLine; decide), fun p hp => ?_⟩
    refine ⟨p, _, rfl, .inr (.inl (.inl upd_same)), rfl, rfl, false, congrArg V.bl (op_in o), iteF ?_⟩
    refine ⟨_, rfl, rfl, false, congrArg V.bl (op_let o), iteF ?_⟩
    refine ⟨_, rfl, _, rfl, a, _, rfl, .inl (.inl (same_new hp _ _ _ h)), (by intro z; cases z.1), fun t ht => ?_⟩
    have g1 := (same_new hp (.tup [.str "num", .str "name"])).trans (same_new ht (.tup [v1, v2]))
    exact q _ t [v1, v2] g1 upd_same (.cons (b1.mono (Tups.of g1)) (.cons (b2.mono (Tups.of g1)) .nil))
  | @whn a v0 v1 v2 e0 e1 e2 h b0 b1 b2 =>
    refine ⟨_, rfl, a, _, 0, _, rfl, rfl, .inl (.inl h), rfl, ?_⟩
    refine ⟨_, rfl, (by show 2 ≤ sizeLine; decide), fun p hp => ?_⟩
    refine ⟨p, _, rfl, .inr (.inl (.inl upd_same)), rfl, rfl, _, rfl, iteF ?_⟩
    refine ⟨_, rfl, rfl, _, rfl, iteF ?_⟩
    refine ⟨_, rfl, _, rfl, a, _, rfl, .inl (.inl (same_new hp _ _ _ h)), (by intro z; cases z.1), fun t ht => ?_⟩
    have g1 := (same_new hp (.tup [.str "num", .str "name"])).trans (same_new ht (.tup [v0, v1, v2]))
    exact q _ t [v0, v1, v2] g1 upd_same (.cons (b0.mono (Tups.of g1)) (.cons (b1.mono (Tups.of g1)) (.cons (b2.mono (Tups.of g1)) .nil)))
  | @lett a w v1 v2 e1 e2 h b1 b2 =>
    refine ⟨_, rfl, a, _, 0, _, rfl, rfl, .inl (.inl h), rfl, ?_⟩
    refine ⟨_, rfl, (by show 2 ≤ sizeLine; decide), fun p hp => ?_⟩
    refine ⟨p, _, rfl, .inr (.inl (.inl upd_same)), rfl, rfl, _, rfl, iteF ?_⟩
    refine ⟨_, rfl, rfl, _, rfl, iteT ?_⟩
    refine ⟨_, rfl, _, rfl, a, _, rfl, .inl (.inl (same_new hp _ _ _ h)), (by intro z; cases z.1), fun t ht => ?_⟩
    have g1 := (same_new hp (.tup [.str "num", .str "name"])).trans (same_new ht (.tup [v1, v2]))
    exact q _ t [v1, v2] g1 upd_same (.cons (b1.mono (Tups.of g1)) (.cons (b2.mono (Tups.of g1)) .nil))
/-! ### size -/
def spSize (n : Nat) : Sp := fun vs H Q _ => ∃ (v : V) (e : Ex), vs = [v] ∧ Bears H v e ∧ e.deep ≤ n ∧ ∀ (H' : Hp), Same H H' → Q (.int e.size) H'
theorem spSize0 : FnOk P w K mg base CX0 0 f fd ["expr"] (spSize 0) := by
  have no : ∀ vs H Q E, ¬ spSize 0 vs H Q E := fun vs H Q E h => by
    obtain ⟨v, e, _, _, h1, _⟩ := h
    have := e.deep_pos
    omega
  exact ⟨fun vs H Q E h => absurd h (no vs H Q E), fun A outer s H args us vs Q E _ _ _ _ h => absurd h (no vs H Q E)⟩
theorem scSize : FnScope ["expr", "part"] ["expr"] (defScope sSize) := ⟨rfl, rfl, rfl, by decide +kernel, rfl, by decide +kernel, by decide +kernel⟩
theorem Ex.size_kids (e : Ex) : (e.size : Int) = 1 + (e.kids.map fun x => (x.size : Int)).sum := by
  cases e <;> simp only [Ex.size, Ex.kids, List.map, List.sum_cons, List.sum_nil] <;> omega
theorem Ex.deep_kids {e x : Ex} (h : x ∈ e.kids) : x.deep + 1 ≤ e.deep := by
  cases e with
  | num _ => cases h
  | nam _ => cases h
  | two o a b =>
    show _ ≤ max a.deep b.deep + 1
    rcases List.mem_cons.mp h with rfl | h
    · omega
    · rcases List.mem_cons.mp h with rfl | h
      · omega
      · cases h
  | whn c a b =>
    show _ ≤ max (max c.deep a.deep) b.deep + 1
    rcases List.mem_cons.mp h with rfl | h
    · omega
    · rcases List.mem_cons.mp h with rfl | h
      · omega
      · rcases List.mem_cons.mp h with rfl | h
        · omega
        · cases h
  | lett _ a b =>
    show _ ≤ max a.deep b.deep + 1
    rcases List.mem_cons.mp h with rfl | h
    · omega
    · rcases List.mem_cons.mp h with rfl | h
      · omega
      · cases h
theorem BearsL.get {H : Hp} : ∀ {vs : List V} {es : List Ex} {i : Nat} {v : V}, BearsL H vs es → vs[i]? = some v → ∃ e, es[i]? = some e ∧ Bears H v e
  | _, _, _, _, .nil, h => by simp at h
  | _, _, 0, _, .cons b _, h => by simp at h; subst h; exact ⟨_, rfl, b⟩
  | _, _, i + 1, v, .cons _ r, h => by
    obtain ⟨e, h1, h2⟩ := BearsL.get (i := i) (v := v) r (by simpa using h)
    exact ⟨e, by simpa using h1, h2⟩
theorem BearsL.len {H : Hp} {vs : List V} {es : List Ex} (b : BearsL H vs es) : vs.length = es.length := Paired.length b
theorem Ex.kids_len (e : Ex) : e.kids.length ≤ 3 := by cases e <;> simp [Ex.kids]
theorem ok_size (n : Nat) (d : Df K mg "size" sSize ["expr"] f fd) (dp : Df K mg "parts" sParts ["expr"] g gd) (z : Bl mg) (G : FnOk P w K mg base CX0 (n + 1) f fd ["expr"] (spSize n)) :
    FnOk P w K mg base CX0 (n + 2) f fd ["expr"] (spSize (n + 1)) := by
  refine d.F.ok scSize (fun vs H Q E h => ?_) (fun cdv A outer s H vs Q E hr h => ?_)
  · obtain ⟨v, e, rfl, _⟩ := h
    rfl
  obtain ⟨v, e, rfl, b, hd, q⟩ := h
  refine ⟨_, pss_one (ps_ret (pe_op op_add pe_int (pe_callB (cr_sum rfl) (by rfl) z.sum (by decide +kernel) (pa_cons
    (pe_lc (own := [("part", 1)]) (g := gName 1) (tt := tYes) rfl scSize.nd (pi_tup (pe_call (ok_parts dp) (hr.mono (by omega)) rfl dp.m dp.k dp.b .nil pass0 (pa_cons (pv 0) pa_nil)))
      (blkOk_by (N := ["expr", "part"]) (sc := defScope sSize) (by decide +kernel)) (fun _ _ _ _ _ => pg_name (i := 1) scSize.nd rfl (Or.inl rfl)) (fun _ _ _ _ _ => pts_nil)
      (fun _ _ _ _ _ => pe_call G hr rfl d.m d.k d.b .nil pass0 (pa_cons (pv 1) pa_nil))) pa_nil)))), ?_⟩
  refine ⟨_, rfl, v, e, rfl, b, fun H1 p ws g1 hp hw => ?_⟩
  refine ⟨p, rfl, ⟨_, .inl (.inl hp)⟩, fun D hD => ?_⟩
  refine lc_tup (K := K) (a := p) (xs := ws) (fun i H2 => Same H1 H2 ∧ H2 D = some (.lst ((e.kids.take i).map fun x => V.int (x.size : Int)))) ⟨same_new hD _, upd_same⟩
    (fun i H2 _ h => .inl (.inl (h.1 _ _ hp))) (fun i x H2 hx h => ?_) (fun H2 h => ?_)
  · obtain ⟨g2, hl⟩ := h
    obtain ⟨ex, he, bx⟩ := hw.get hx
    refine ⟨rfl, ?_⟩
    dsimp only [tYes]
    refine iteT ?_
    have hm : ex ∈ e.kids := List.mem_of_getElem? he
    have hk := Ex.deep_kids hm
    refine ⟨_, rfl, x, ex, rfl, bx.mono (Tups.of g2), by omega, fun H3 g3 => ?_⟩
    refine ⟨_, g3 _ _ hl, ?_, fun b o h => ?_, ?_⟩
    · rw [List.length_map, List.length_take]
      have := e.kids_len
      exact Nat.lt_of_le_of_lt (Nat.le_trans (Nat.min_le_right _ _) this) (by decide)
    · have hb : b ≠ D := ne_of_none h hD
      rw [upd_ne hb]
      exact g3 _ _ (g2 _ _ h)
    · rw [upd_same, List.take_add_one, he, List.map_append]
      rfl
  · obtain ⟨g2, hl⟩ := h
    rw [hw.len, List.take_length] at hl
    refine ⟨D, e.kids.map fun x => (x.size : Int), rfl, .inl (.inl ?_), ?_⟩
    · rw [hl, List.map_map]
      rfl
    · refine ⟨_, _, rfl, rfl, ?_⟩
      have := q H2 (g1.trans g2)
      rw [e.size_kids] at this
      exact this
end
end FC
namespace FC
open PySem L2
/-! ### max(xs, default=d) of ints -/
def rMaxD (K : PySem.W.Frag) : List V → List V → Hp → VK → Prop := fun vs zs H Q => ∃ (a : Addr) (ns : List Int) (d : Int), vs = [V.ref a] ∧ zs = [V.int d] ∧ SqL K H a (ns.map V.int) ∧
  (ns = [] → Q (.int d) H) ∧ ∀ y ys, ns = y :: ys → Q (.int (ys.foldl max y)) H
theorem depthAll_ints : ∀ ns : List Int, PyData.depthAll (ns.map PyData.int) = 0
  | [] => rfl
  | n :: r => by
    have ih := depthAll_ints r
    show PyData.depthAll (PyData.int n :: r.map PyData.int) = 0
    unfold PyData.depthAll
    rw [ih]
    rfl
theorem alike_ints (ns : List Int) : PySem.W.AlikeAll (ns.map PyData.int) := by
  refine ⟨fun x hx y hy => ?_, fun x hx => ?_⟩
  · obtain ⟨i, _, rfl⟩ := List.mem_map.mp hx
    obtain ⟨j, _, rfl⟩ := List.mem_map.mp hy
    rfl
  · obtain ⟨i, _, rfl⟩ := List.mem_map.mp hx
    exact fun z => nomatch z
theorem cr_maxD {X : Cx} (hc : X.calm = true) (hu : X.A.units + 64 < cLine) : CallRK X (.builtin "max") ["default"] (rMaxD X.K) := by
  intro pins s σ H xs zs us ws Q I r r2 h
  obtain ⟨a, ns, d, rfl, rfl, hs, q0, q1⟩ := h
  obtain ⟨its, rv, hl, _⟩ := I.list hs
  rw [Vals.ref1 r]
  obtain ⟨u, rfl, ru⟩ := vals1 r2
  obtain ⟨td, rfl⟩ := ru
  have hi := rv.ints
  have e0 : its.toArray.toList = its := by simp
  refine PySem.W.max_list_default (I.ok.hd hc) hl.isList (xs := ns.map PyData.int) (as := []) (by rw [e0]; exact PyProof.Rows.IntsAre.reads _ hi) (alike_ints ns) (by rw [depthAll_ints]; omega) (fun hn h' tk hk => ?_) (fun y ys i v h' tk bs e hv hr hk => ?_)
  · have hn' : ns = [] := List.map_eq_nil_iff.mp hn
    exact ⟨.int d, H, I.kept hk, ⟨td, rfl⟩, q0 hn'⟩
  · cases ns with
    | nil => cases e
    | cons m ms =>
      rw [List.map_cons] at e
      injection e with e1 e2
      subst e1 e2
      rw [PySem.W.maxD_ints] at hr
      cases hr with
      | int _ t => exact ⟨.int _, H, I.kept hk, ⟨t, rfl⟩, q1 m ms rfl⟩
/-! ### two lists of unlike length; two empty ones -/
def rEqLen (K : PySem.W.Frag) : R2 := fun x y H Q => ∃ a b xs ys, x = .ref a ∧ y = .ref b ∧ SqL K H a xs ∧ SqL K H b ys ∧ ((xs.length ≠ ys.length ∧ Q (.bl false) H) ∨ (xs = [] ∧ ys = [] ∧ Q (.bl true) H))
theorem op_eqLen {X : Cx} (hu : X.A.units < cLine) : OpR X (compareOp .Eq) (rEqLen X.K) := by
  intro pins s σ H x y v u Q I rx ry h
  obtain ⟨a, b, xs, ys, rfl, rfl, hx, hy, h⟩ := h
  obtain ⟨its, rv, hl, _⟩ := I.list hx
  obtain ⟨its2, rv2, hl2, _⟩ := I.list hy
  cases rx
  cases ry
  have n1 := rv.length
  have n2 := rv2.length
  rcases h with ⟨ne, q⟩ | ⟨rfl, rfl, q⟩
  · exact SeqAt.RcAt.lists_lengths hl.isList hl2.isList (by simp; omega) hu _ _ _ _ ⟨.bl false, H, I, rfl, q⟩
  · have z1 : its = [] := List.eq_nil_of_length_eq_zero n1.symm
    have z2 : its2 = [] := List.eq_nil_of_length_eq_zero n2.symm
    subst z1 z2
    exact SeqAt.RcAt.lists (e := fun _ => true) hl.isList hl2.isList rfl hu (fun j h1 _ => absurd h1 (Nat.not_lt_zero _)) _ _ _ _ ⟨.bl true, H, I, rfl, q⟩
/-! ### deep -/
section
variable {P : Program} {w : World} {K : PySem.W.Frag} {mg : Str → Option Value} {base : Heap} {f g : Addr} {fd gd : FuncData}
def spDeep (n : Nat) : Sp := fun vs H Q _ => ∃ (v : V) (e : Ex), vs = [v] ∧ Bears H v e ∧ e.deep ≤ n ∧ ∀ (H' : Hp), Same H H' → Q (.int e.deep) H'
theorem spDeep0 : FnOk P w K mg base CX0 0 f fd ["expr"] (spDeep 0) := by
  have no : ∀ vs H Q E, ¬ spDeep 0 vs H Q E := fun vs H Q E h => by
    obtain ⟨v, e, _, _, h1, _⟩ := h
    have := e.deep_pos
    omega
  exact ⟨fun vs H Q E h => absurd h (no vs H Q E), fun A outer s H args us vs Q E _ _ _ _ h => absurd h (no vs H Q E)⟩
theorem scDeep : FnScope ["expr", "part"] ["expr"] (defScope sDeep) := ⟨rfl, rfl, rfl, by decide +kernel, rfl, by decide +kernel, by decide +kernel⟩
theorem max_cast (a b : Nat) : max (a : Int) (b : Int) = ((max a b : Nat) : Int) := by omega
theorem ok_deep (n : Nat) (d : Df K mg "deep" sDeep ["expr"] f fd) (dp : Df K mg "parts" sParts ["expr"] g gd) (z : Bl mg) (G : FnOk P w K mg base CX0 (n + 1) f fd ["expr"] (spDeep n)) :
    FnOk P w K mg base CX0 (n + 2) f fd ["expr"] (spDeep (n + 1)) := by
  refine d.F.ok scDeep (fun vs H Q E h => ?_) (fun cdv A outer s H vs Q E hr h => ?_)
  · obtain ⟨v, e, rfl, _⟩ := h
    rfl
  obtain ⟨v, e, rfl, b, hd, q⟩ := h
  refine ⟨_, pss_one (ps_ret (pe_op op_add pe_int (pe_callBK (cr_maxD rfl hr.units) (by rfl) z.max (by decide +kernel) (pa_cons
    (pe_lc (own := [("part", 1)]) (g := gName 1) (tt := tYes) rfl scDeep.nd (pi_tup (pe_call (ok_parts dp) (hr.mono (by omega)) rfl dp.m dp.k dp.b .nil pass0 (pa_cons (pv 0) pa_nil)))
      (blkOk_by (N := ["expr", "part"]) (sc := defScope sDeep) (by decide +kernel)) (fun _ _ _ _ _ => pg_name (i := 1) scDeep.nd rfl (Or.inl rfl)) (fun _ _ _ _ _ => pts_nil)
      (fun _ _ _ _ _ => pe_call G hr rfl d.m d.k d.b .nil pass0 (pa_cons (pv 1) pa_nil))) pa_nil) (pk_cons pe_int pk_nil)))), ?_⟩
  refine ⟨_, rfl, v, e, rfl, b, fun H1 p ws g1 hp hw => ?_⟩
  refine ⟨p, rfl, ⟨_, .inl (.inl hp)⟩, fun D hD => ?_⟩
  refine lc_tup (K := K) (a := p) (xs := ws) (fun i H2 => Same H1 H2 ∧ H2 D = some (.lst ((e.kids.take i).map fun x => V.int (x.deep : Int)))) ⟨same_new hD _, upd_same⟩
    (fun i H2 _ h => .inl (.inl (h.1 _ _ hp))) (fun i x H2 hx h => ?_) (fun H2 h => ?_)
  · obtain ⟨g2, hl⟩ := h
    obtain ⟨ex, he, bx⟩ := hw.get hx
    refine ⟨rfl, ?_⟩
    dsimp only [tYes]
    refine iteT ?_
    have hm : ex ∈ e.kids := List.mem_of_getElem? he
    have hk := Ex.deep_kids hm
    refine ⟨_, rfl, x, ex, rfl, bx.mono (Tups.of g2), by omega, fun H3 g3 => ?_⟩
    refine ⟨_, g3 _ _ hl, ?_, fun b o h => ?_, ?_⟩
    · rw [List.length_map, List.length_take]
      have := e.kids_len
      exact Nat.lt_of_le_of_lt (Nat.le_trans (Nat.min_le_right _ _) this) (by decide)
    · have hb : b ≠ D := ne_of_none h hD
      rw [upd_ne hb]
      exact g3 _ _ (g2 _ _ h)
    · rw [upd_same, List.take_add_one, he, List.map_append]
      rfl
  · obtain ⟨g2, hl⟩ := h
    rw [hw.len, List.take_length] at hl
    have qq := q H2 (g1.trans g2)
    refine ⟨D, e.kids.map fun x => (x.deep : Int), 0, rfl, rfl, .inl (.inl ?_), fun hn => ?_, fun y ys hn => ?_⟩
    · rw [hl, List.map_map]
      rfl
    · refine ⟨_, _, rfl, rfl, ?_⟩
      cases e with
      | num _ => exact qq
      | nam _ => exact qq
      | two _ _ _ => cases hn
      | whn _ _ _ => cases hn
      | lett _ _ _ => cases hn
    · refine ⟨_, _, rfl, rfl, ?_⟩
      have e1 : (1 : Int) + ys.foldl max y = (e.deep : Int) := by
        cases e with
        | num _ => cases hn
        | nam _ => cases hn
        | two o a b =>
          injection hn with h1 h2
          subst h1 h2
          simp only [List.map, List.foldl, Ex.deep]
          omega
        | whn c a b =>
          injection hn with h1 h2
          subst h1 h2
          simp only [List.map, List.foldl, Ex.deep]
          omega
        | lett _ a b =>
          injection hn with h1 h2
          subst h1 h2
          simp only [List.map, List.foldl, Ex.deep]
          omega
      show Q (.int ((1 : Int) + ys.foldl max y)) H2
      rw [e1]
      exact qq
end
end FC
namespace FC
open PySem L2
/-! ### the names: a walk -/
def addS (ks : List Str) (w : Str) : List Str := if w ∈ ks then ks else ks ++ [w]
def gath : Ex → List Str → List Str → List Str
  | .num _, _, ks => ks
  | .nam w, hid, ks => if w ∈ hid then ks else addS ks w
  | .two _ a b, hid, ks => gath b hid (gath a hid ks)
  | .whn c a b, hid, ks => gath b hid (gath a hid (gath c hid ks))
  | .lett w a b, hid, ks => gath b (hid ++ [w]) (gath a hid ks)
theorem addS_len (ks : List Str) (w : Str) : (addS ks w).length ≤ ks.length + 1 := by
  unfold addS
  split
  · exact Nat.le_succ _
  · rw [List.length_append]; exact Nat.le_refl _
theorem gath_len : ∀ (e : Ex) (hid ks : List Str), (gath e hid ks).length ≤ ks.length + e.size
  | .num _, _, ks => Nat.le_succ _
  | .nam w, hid, ks => by
    unfold gath
    split
    · exact Nat.le_succ _
    · exact addS_len _ _
  | .two _ a b, hid, ks => by
    have h1 := gath_len a hid ks
    have h2 := gath_len b hid (gath a hid ks)
    show (gath b hid (gath a hid ks)).length ≤ ks.length + (a.size + b.size + 1)
    omega
  | .whn c a b, hid, ks => by
    have h0 := gath_len c hid ks
    have h1 := gath_len a hid (gath c hid ks)
    have h2 := gath_len b hid (gath a hid (gath c hid ks))
    show (gath b hid (gath a hid (gath c hid ks))).length ≤ ks.length + (c.size + a.size + b.size + 1)
    omega
  | .lett w a b, hid, ks => by
    have h1 := gath_len a hid ks
    have h2 := gath_len b (hid ++ [w]) (gath a hid ks)
    show (gath b (hid ++ [w]) (gath a hid ks)).length ≤ ks.length + (a.size + b.size + 1)
    omega
def gathL (hid : List Str) : List Ex → List Str → List Str
  | [], ks => ks
  | e :: r, ks => gathL hid r (gath e hid ks)
def sizeL : List Ex → Nat
  | [] => 0
  | e :: r => e.size + sizeL r
theorem gathL_append (hid : List Str) : ∀ (l m : List Ex) (ks : List Str), gathL hid (l ++ m) ks = gathL hid m (gathL hid l ks)
  | [], _, _ => rfl
  | e :: r, m, ks => gathL_append hid r m (gath e hid ks)
theorem gathL_len (hid : List Str) : ∀ (l : List Ex) (ks : List Str), (gathL hid l ks).length ≤ ks.length + sizeL l
  | [], ks => Nat.le_refl _
  | e :: r, ks => by
    have h1 := gath_len e hid ks
    have h2 := gathL_len hid r (gath e hid ks)
    show (gathL hid r (gath e hid ks)).length ≤ ks.length + (e.size + sizeL r)
    omega
theorem sizeL_append : ∀ (l m : List Ex), sizeL (l ++ m) = sizeL l + sizeL m
  | [], m => (Nat.zero_add _).symm
  | e :: r, m => by
    show e.size + sizeL (r ++ m) = e.size + sizeL r + sizeL m
    rw [sizeL_append r m, Nat.add_assoc]
theorem sizeL_take (l : List Ex) (i : Nat) : sizeL (l.take i) + sizeL (l.drop i) = sizeL l := by
  rw [← sizeL_append, List.take_append_drop]
theorem take_succ_sizeL {l : List Ex} {i : Nat} {e : Ex} (h : l[i]? = some e) : sizeL (l.take i) + e.size ≤ sizeL l := by
  have h1 := sizeL_take l (i + 1)
  rw [List.take_add_one, h, sizeL_append] at h1
  have : sizeL (some e).toList = e.size := Nat.add_zero _
  rw [this] at h1
  omega
theorem Ex.sizeL_kids (e : Ex) : sizeL e.kids + 1 = e.size := by
  cases e <;> simp only [sizeL, Ex.kids, Ex.size] <;> omega
def dk (ks : List Str) : List (Key × V) := ks.map fun w => ((Sum.inr w : Key), V.bl true)
theorem dk_any : ∀ (ks : List Str) (w : Str), ((dk ks).any fun kv => decide (kv.1 = (Sum.inr w : Key))) = decide (w ∈ ks)
  | [], w => by simp [dk]
  | x :: r, w => by
    have ih := dk_any r w
    show (decide ((Sum.inr x : Key) = Sum.inr w) || ((dk r).any fun kv => decide (kv.1 = (Sum.inr w : Key)))) = _
    rw [ih, key_rr]
    by_cases h : x = w
    · subst h; simp
    · have h' : ¬ w = x := fun z => h z.symm
      simp [h, h']
theorem dk_put (ks : List Str) (w : Str) : putK (dk ks) (Sum.inr w : Key) (.bl true) = dk (addS ks w) := by
  unfold putK addS
  rw [dk_any]
  by_cases h : w ∈ ks
  · rw [if_pos (decide_eq_true h), if_pos h]
    unfold dk
    rw [List.map_map]
    refine List.map_congr_left fun x _ => ?_
    show (if (Sum.inr x : Key) = Sum.inr w then ((Sum.inr x : Key), V.bl true) else (Sum.inr x, V.bl true)) = _
    split <;> rfl
  · rw [if_neg (by simpa using h), if_neg h]
    unfold dk
    rw [List.map_append]
    rfl
theorem inV_strs (w : Str) : ∀ l : List Str, inV (.str w) (l.map V.str) = decide (w ∈ l)
  | [] => by simp [inV]
  | x :: r => by
    have ih := inV_strs w r
    unfold inV at ih ⊢
    rw [List.map_cons, List.any_cons, ih]
    by_cases h : x = w
    · subst h; simp [eqV]
    · have h' : ¬ w = x := fun z => h z.symm
      simp [eqV, h, h']
theorem flat_strs (l : List Str) : (l.map V.str).all flatV = true := by
  rw [List.all_eq_true]
  intro v hv
  obtain ⟨x, _, rfl⟩ := List.mem_map.mp hv
  rfl
end FC
namespace FC
open PySem L2 StX
theorem Bears.tri {H : Hp} {v : V} {e : Ex} (b : Bears H v e) : (∃ a x, v = .ref a ∧ e = .nam x ∧ H a = some (.tup [.str "name", .str x])) ∨
    (∃ a x v1 v2 e1 e2, v = .ref a ∧ e = .lett x e1 e2 ∧ H a = some (.tup [.str "let", .str x, v1, v2]) ∧ Bears H v1 e1 ∧ Bears H v2 e2) ∨
    (∃ a s ws, v = .ref a ∧ H a = some (.tup (.str s :: ws)) ∧ decide (V.str s = V.str "name") = false ∧ decide (V.str s = V.str "let") = false ∧ (∀ hid ks, gath e hid ks = gathL hid e.kids ks)) := by
  cases b with
  | nam h => exact .inl ⟨_, _, rfl, rfl, h⟩
  | lett h b1 b2 => exact .inr (.inl ⟨_, _, _, _, _, _, rfl, rfl, h, b1, b2⟩)
  | num h => exact .inr (.inr ⟨_, _, _, rfl, h, by decide, by decide, fun _ _ => rfl⟩)
  | @two a o _ _ _ _ h _ _ => exact .inr (.inr ⟨_, _, _, rfl, h, op_name o, op_let o, fun _ _ => rfl⟩)
  | whn h _ _ _ => exact .inr (.inr ⟨_, _, _, rfl, h, by decide, by decide, fun _ _ => rfl⟩)
/-- all stands but what stands at d -/
def But (d : Addr) (H H' : Hp) : Prop := ∀ b o, b ≠ d → H b = some o → H' b = some o
theorem But.refl (d : Addr) (H : Hp) : But d H H := fun _ _ _ h => h
theorem But.trans {d : Addr} {H H1 H2 : Hp} (a : But d H H1) (b : But d H1 H2) : But d H H2 := fun c o n h => b c o n (a c o n h)
theorem But.of {d : Addr} {H H' : Hp} (h : Same H H') : But d H H' := fun b o _ e => h b o e
theorem But.tups {d : Addr} {H H' : Hp} {kvs : List (Key × V)} (h : But d H H') (hd : H d = some (.dK kvs)) : Tups H H' := fun a xs e => h a _ (ne_of e hd (fun z => nomatch z)) e
theorem But.upd {d : Addr} {H : Hp} {o : HO} : But d H (upd H d o) := fun b _ n e => by rw [upd_ne n]; exact e
section
variable {P : Program} {w : World} {K : PySem.W.Frag} {mg : Str → Option Value} {base : Heap} {f g : Addr} {fd gd : FuncData}
def spGather (n : Nat) : Sp := fun vs H Q _ => ∃ (v : V) (e : Ex) (a d : Addr) (hid ks : List Str), vs = [v, .ref a, .ref d] ∧ Bears H v e ∧ e.deep ≤ n ∧ H a = some (.tup (hid.map V.str)) ∧ hid.length + e.size ≤ 1000 ∧
  H d = some (.dK (dk ks)) ∧ ks.length + e.size ≤ 1000 ∧ ∀ (H' : Hp), But d H H' → H' d = some (.dK (dk (gath e hid ks))) → Q .non H'
theorem spGather0 : FnOk P w K mg base CX0 0 f fd ["expr", "hidden", "found"] (spGather 0) := by
  have no : ∀ vs H Q E, ¬ spGather 0 vs H Q E := fun vs H Q E h => by
    obtain ⟨v, e, a, d, hid, ks, _, _, h1, _⟩ := h
    have := e.deep_pos
    omega
  exact ⟨fun vs H Q E h => absurd h (no vs H Q E), fun A outer s H args us vs Q E _ _ _ _ h => absurd h (no vs H Q E)⟩
theorem scGather : FnScope ["expr", "hidden", "found", "_", "word", "outer", "inner", "part"] ["expr", "hidden", "found"] (defScope sGather) := ⟨rfl, rfl, rfl, by decide +kernel, rfl, by decide +kernel, by decide +kernel⟩
theorem ok_gather (n : Nat) (d : Df K mg "_gather" sGather ["expr", "hidden", "found"] f fd) (dp : Df K mg "parts" sParts ["expr"] g gd) (G : FnOk P w K mg base CX0 (n + 1) f fd ["expr", "hidden", "found"] (spGather n)) :
    FnOk P w K mg base CX0 (n + 2) f fd ["expr", "hidden", "found"] (spGather (n + 1)) := by
  refine d.F.ok scGather (fun vs H Q E h => ?_) (fun cdv A outer s H vs Q E hr h => ?_)
  · obtain ⟨v, e, a, d, hid, ks, rfl, _⟩ := h
    rfl
  obtain ⟨v, e, ah, ad, hid, ks, rfl, b, hdp, hh, hhl, hd, hkl, q⟩ := h
  refine ⟨_, pss_one (ps_if (pt_cmpR op_eq (pe_ix ix_tup (pv 0) pe_int (fun _ _ => rfl)) pe_str (nomark _))
      (pss_one (ps_if (pt_cmpR op_notIn_seq (pe_ix ix_tup (pv 0) pe_int (fun _ _ => rfl)) (pv 1) rfl) (pss_one (ps_dput (hu_of hr) (pv 2) (pe_ix ix_tup (pv 0) pe_int (fun _ _ => rfl)) pe_bl rfl)) pss_nil))
      (pss_one (ps_if (pt_cmpR op_eq (pe_ix ix_tup (pv 0) pe_int (fun _ _ => rfl)) pe_str (nomark _))
        (pss_cons (ps_asg (pv 0) (pg_tup rfl (pgs_cons (pg_name (i := 3) scGather.nd rfl (.inl rfl)) (pgs_cons (pg_name (i := 4) scGather.nd rfl (.inl rfl)) (pgs_cons (pg_name (i := 5) scGather.nd rfl (.inl rfl)) (pgs_cons (pg_name (i := 6) scGather.nd rfl (.inl rfl)) pgs_nil))))))
        (pss_cons (ps_expr (pe_call G hr rfl d.m d.k d.b .nil pass0 (pa_cons (pv 5) (pa_cons (pv 1) (pa_cons (pv 2) pa_nil)))))
        (pss_one (ps_expr (pe_call G hr rfl d.m d.k d.b .nil pass0 (pa_cons (pv 6) (pa_cons (pe_tup (pa_star (pv 1) (pa_cons (pv 4) pa_nil))) (pa_cons (pv 2) pa_nil))))))))
        (pss_one (ps_for PassesOwn.never rfl (pi_tup (pe_call (ok_parts dp) (hr.mono (by omega)) rfl dp.m dp.k dp.b .nil pass0 (pa_cons (pv 0) pa_nil))) (pg_name (i := 7) scGather.nd rfl (.inl rfl))
          (pss_one (ps_expr (pe_call G hr rfl d.m d.k d.b .nil pass0 (pa_cons (pv 7) (pa_cons (pv 1) (pa_cons (pv 2) pa_nil))))))))))), ?_⟩
  rcases b.tri with ⟨a, x, rfl, rfl, h⟩ | ⟨a, x, v1, v2, e1, e2, rfl, rfl, h, b1, b2⟩ | ⟨a, wd, wv, rfl, h, c1, c2, hg⟩
  · refine ⟨_, rfl, a, _, 0, _, rfl, rfl, .inl (.inl h), rfl, rfl, _, rfl, iteT ?_⟩
    refine ⟨_, rfl, a, _, 1, _, rfl, rfl, .inl (.inl h), rfl, _, rfl, ah, _, rfl, .inr (.inl (.inl hh)), rfl, flat_strs _, _, rfl, ?_⟩
    rw [inV_strs]
    by_cases c : x ∈ hid
    · rw [decide_eq_true c]
      refine iteF ?_
      refine q H (But.refl _ _) ?_
      rw [show gath (.nam x) hid ks = ks from if_pos c]
      exact hd
    · rw [decide_eq_false c]
      refine iteT ?_
      refine ⟨_, rfl, _, rfl, a, _, 1, _, rfl, rfl, .inl (.inl h), rfl, ad, _, rfl, DPut.k (k := Sum.inr x) hd ?_, ?_⟩
      · show (dk ks).length < sizeLine
        unfold dk
        rw [List.length_map]
        have := Ex.size_pos (.nam x)
        exact small1000 (by omega)
      · refine q _ But.upd ?_
        rw [upd_same, dk_put, show gath (.nam x) hid ks = addS ks x from if_neg c]
  · refine ⟨_, rfl, a, _, 0, _, rfl, rfl, .inl (.inl h), rfl, rfl, _, rfl, iteF ?_⟩
    refine ⟨_, rfl, a, _, 0, _, rfl, rfl, .inl (.inl h), rfl, rfl, _, rfl, iteT ?_⟩
    have hs : (Ex.lett x e1 e2).size = e1.size + e2.size + 1 := rfl
    have hdd : (Ex.lett x e1 e2).deep = max e1.deep e2.deep + 1 := rfl
    refine ⟨_, rfl, a, _, rfl, .inl (.inl h), rfl, _, _, rfl, _, _, rfl, _, _, rfl, _, _, rfl, rfl, ?_⟩
    refine ⟨_, rfl, _, rfl, _, rfl, v1, e1, ah, ad, hid, ks, rfl, b1, by omega, hh, by omega, hd, by omega, fun H1 g1 hd1 => ?_⟩
    have nah : ah ≠ ad := ne_of hh hd (fun z => nomatch z)
    refine ⟨_, rfl, _, rfl, ah, _, rfl, .inl (.inl (.inl (g1 _ _ nah hh))), _, rfl, ?_, fun p hp => ?_⟩
    · show (hid.map V.str ++ [V.str x]).length ≤ sizeLine
      rw [List.length_append, List.length_map]
      exact sz (by simp; omega)
    have npd : ad ≠ p := ne_of_none hd1 hp
    have g2 := same_new hp (.tup (hid.map V.str ++ [V.str x]))
    have l1 := gath_len e1 hid ks
    have t12 : Tups H (upd H1 p (.tup (hid.map V.str ++ [V.str x]))) := fun b o z => g2 _ _ (But.tups g1 hd _ _ z)
    refine ⟨_, rfl, v2, e2, p, ad, hid ++ [x], gath e1 hid ks, rfl, b2.mono t12, by omega, ?_, ?_, g2 _ _ hd1, by omega, fun H3 g3 hd3 => ?_⟩
    · rw [upd_same, List.map_append]
      rfl
    · rw [List.length_append]
      show hid.length + 1 + e2.size ≤ 1000
      omega
    · exact q H3 (g1.trans ((But.of g2).trans g3)) hd3
  · refine ⟨_, rfl, a, _, 0, _, rfl, rfl, .inl (.inl h), at_of (j := 0) rfl rfl, rfl, false, congrArg V.bl c1, iteF ?_⟩
    refine ⟨_, rfl, a, _, 0, _, rfl, rfl, .inl (.inl h), at_of (j := 0) rfl rfl, rfl, false, congrArg V.bl c2, iteF ?_⟩
    refine ⟨_, rfl, _, _, rfl, b, fun H1 p ws g1 hp hw => ?_⟩
    refine ⟨p, rfl, ⟨_, .inl (.inl hp)⟩, ?_⟩
    have hsz := e.sizeL_kids
    have nah : ah ≠ ad := ne_of hh hd (fun z => nomatch z)
    have npd : p ≠ ad := ne_of hp (g1 _ _ hd) (fun z => nomatch z)
    refine for_tup (K := K) (a := p) (xs := ws) (fun i σ H2 => But ad H1 H2 ∧ H2 ad = some (.dK (dk (gathL hid (e.kids.take i) ks))) ∧ ∃ z, σ = [some (.ref a), some (.ref ah), some (.ref ad), none, none, none, none, z])
      ⟨But.refl _ _, g1 _ _ hd, _, rfl⟩ (fun i σ H2 _ h => .inl (.inl (h.1 _ _ npd hp))) (fun i x σ H2 hx h => ?_) (fun σ H2 h => ?_)
    · obtain ⟨g2, hd2, z, rfl⟩ := h
      obtain ⟨ex, he, bx⟩ := hw.get hx
      have hm : ex ∈ e.kids := List.mem_of_getElem? he
      have hk := Ex.deep_kids hm
      have hz := take_succ_sizeL he
      have hl := gathL_len hid (e.kids.take i) ks
      refine ⟨_, rfl, _, rfl, _, rfl, x, ex, ah, ad, hid, _, rfl, bx.mono (g2.tups (g1 _ _ hd)), by omega, g2 _ _ nah (g1 _ _ hh), by omega, hd2, by omega, fun H3 g3 hd3 => ?_⟩
      refine ⟨g2.trans g3, ?_, _, rfl⟩
      rw [hd3, List.take_add_one, he, gathL_append]
      rfl
    · obtain ⟨g2, hd2, _⟩ := h
      rw [hw.len, List.take_length] at hd2
      exact q H2 ((But.of g1).trans g2) (by rw [hg]; exact hd2)
/-! ### needs -/
def spNeeds (n : Nat) : Sp := fun vs H Q _ => ∃ (v : V) (e : Ex), vs = [v] ∧ Bears H v e ∧ e.deep ≤ n ∧ e.size ≤ 1000 ∧ ∀ (H' : Hp) (p : Addr), Same H H' → H p = none → H' p = some (.lst ((gath e [] []).map V.str)) → Q (.ref p) H'
theorem scNeeds : FnScope ["expr", "found"] ["expr"] (defScope sNeeds) := ⟨rfl, rfl, rfl, by decide +kernel, rfl, by decide +kernel, by decide +kernel⟩
theorem ok_needs (n : Nat) (d : Df K mg "needs" sNeeds ["expr"] f fd) (dg : Df K mg "_gather" sGather ["expr", "hidden", "found"] g gd) (z : Bl mg) (G : FnOk P w K mg base CX0 (n + 1) g gd ["expr", "hidden", "found"] (spGather n)) :
    FnOk P w K mg base CX0 (n + 2) f fd ["expr"] (spNeeds n) := by
  refine d.F.ok scNeeds (fun vs H Q E h => ?_) (fun cdv A outer s H vs Q E hr h => ?_)
  · obtain ⟨v, e, rfl, _⟩ := h
    rfl
  obtain ⟨v, e, rfl, b, hd, hs, q⟩ := h
  refine ⟨_, pss_cons (ps_set (i := 1) scNeeds.nd rfl (.inl rfl) pe_dnewK)
    (pss_cons (ps_expr (pe_call G hr (by rfl) dg.m dg.k dg.b .nil pass0 (pa_cons (pv 0) (pa_cons (pe_tup pa_nil) (pa_cons (pv 1) pa_nil)))))
    (pss_one (ps_ret (pe_callTy (call_list_dK rfl) (by rfl) z.list (by decide +kernel) (pa_cons (pv 1) pa_nil))))), ?_⟩
  refine fun d hd0 => ?_
  have g1 := same_new hd0 (.dK [])
  refine ⟨_, rfl, (by show 0 ≤ sizeLine; decide), fun t ht => ?_⟩
  have g2 := same_new ht (.tup [])
  refine ⟨_, rfl, v, e, t, d, [], [], rfl, b.mono (Tups.of (g1.trans g2)), hd, upd_same, by simp; omega, g2 _ _ upd_same, by simp; omega, fun H1 g3 hd1 => ?_⟩
  refine ⟨_, rfl, d, _, rfl, hd1, fun r hr' => ?_⟩
  have g4 := same_new hr' (.lst ((dk (gath e [] [])).map fun kv => kV kv.1))
  have all : Same H H1 := fun b o hb => g3 _ _ (ne_of_none hb hd0) (g2 _ _ (g1 _ _ hb))
  refine q _ r (all.trans g4) (all.free hr') ?_
  rw [upd_same]
  unfold dk
  rw [List.map_map]
  rfl
end
end FC
namespace FC
open PySem L2 StX
/-! ### the law's own walks -/
theorem Bears.node {H : Hp} {v : V} {e : Ex} (b : Bears H v e) :
    (∃ a wd x, v = .ref a ∧ H a = some (.tup [.str wd, x]) ∧ ((wd = "num" ∧ ∃ n, e = .num n) ∨ (wd = "name" ∧ ∃ w, x = .str w ∧ e = .nam w))) ∨
    (∃ a wd xs ws bl, v = .ref a ∧ H a = some (.tup (.str wd :: xs)) ∧ decide (V.str wd = V.str "num") = false ∧ decide (V.str wd = V.str "name") = false ∧ decide (V.str wd = V.str "let") = bl ∧
      BearsL H ws e.kids ∧ cutV (.str wd :: xs) (some (1 + if bl = true then 1 else 0)) none = ws ∧
      ¬ (HT.sIx (V.str wd :: xs).length 0 (some (1 + if bl = true then 1 else 0)) = 0 ∧ HT.sIx (V.str wd :: xs).length (V.str wd :: xs).length none = (V.str wd :: xs).length) ∧
      (xs.length = ws.length + (if bl = true then 1 else 0)) ∧ (∀ i, xs[i + (if bl = true then 1 else 0)]? = ws[i]?) ∧ ((bl = false ∧ ∀ x a b, e ≠ .lett x a b) ∨ (bl = true ∧ ∃ x e1 e2, e = .lett x e1 e2 ∧ xs[0]? = some (.str x))) ∧ e.kids ≠ []) := by
  cases b with
  | num h => exact .inl ⟨_, _, _, rfl, h, .inl ⟨rfl, _, rfl⟩⟩
  | nam h => exact .inl ⟨_, _, _, rfl, h, .inr ⟨rfl, _, rfl, rfl⟩⟩
  | @two a o v1 v2 e1 e2 h b1 b2 => exact .inr ⟨_, _, _, [v1, v2], false, rfl, h, op_num o, op_name o, op_let o, .cons b1 (.cons b2 .nil), rfl, (fun z => by cases z.1), rfl, fun _ => rfl, .inl ⟨rfl, fun _ _ _ z => nomatch z⟩, fun z => nomatch z⟩
  | @whn a v0 v1 v2 e0 e1 e2 h b0 b1 b2 => exact .inr ⟨_, _, _, [v0, v1, v2], false, rfl, h, by decide, by decide, by decide, .cons b0 (.cons b1 (.cons b2 .nil)), rfl, (fun z => by cases z.1), rfl, fun _ => rfl, .inl ⟨rfl, fun _ _ _ z => nomatch z⟩, fun z => nomatch z⟩
  | @lett a x v1 v2 e1 e2 h b1 b2 => exact .inr ⟨_, _, _, [v1, v2], true, rfl, h, by decide, by decide, by decide, .cons b1 (.cons b2 .nil), rfl, (fun z => by cases z.1), rfl, fun _ => rfl, .inr ⟨rfl, _, _, _, rfl, rfl⟩, fun z => nomatch z⟩
section
variable {P : Program} {w : World} {K : PySem.W.Frag} {mg : Str → Option Value} {base : Heap} {f g : Addr} {fd gd : FuncData}
theorem spLSize0 : FnOk P w K mg base CX0 0 f fd ["_law_expr"] (spSize 0) := by
  have no : ∀ vs H Q E, ¬ spSize 0 vs H Q E := fun vs H Q E h => by
    obtain ⟨v, e, _, _, h1, _⟩ := h
    have := e.deep_pos
    omega
  exact ⟨fun vs H Q E h => absurd h (no vs H Q E), fun A outer s H args us vs Q E _ _ _ _ h => absurd h (no vs H Q E)⟩
theorem scLSize : FnScope ["_law_expr", "_law_count", "_law_part"] ["_law_expr"] (defScope sLSize) := ⟨rfl, rfl, rfl, by decide +kernel, rfl, by decide +kernel, by decide +kernel⟩
theorem ok_lsize (n : Nat) (d : Df K mg "_law_size" sLSize ["_law_expr"] f fd) (z : Bl mg) (G : FnOk P w K mg base CX0 (n + 1) f fd ["_law_expr"] (spSize n)) :
    FnOk P w K mg base CX0 (n + 2) f fd ["_law_expr"] (spSize (n + 1)) := by
  refine d.F.ok scLSize (fun vs H Q E h => ?_) (fun cdv A outer s H vs Q E hr h => ?_)
  · obtain ⟨v, e, rfl, _⟩ := h
    rfl
  obtain ⟨v, e, rfl, b, hd, q⟩ := h
  refine ⟨_, pss_cons (ps_if (PW.pt (pw_or (pt_cmpR op_eq (pe_ix ix_tup (pv 0) pe_int (fun _ _ => rfl)) pe_str (nomark _)) (pw_or1 (pt_cmpR op_eq (pe_ix ix_tup (pv 0) pe_int (fun _ _ => rfl)) pe_str (nomark _))))) (pss_one (ps_ret pe_int)) pss_nil)
    (pss_cons (ps_set (i := 1) scLSize.nd rfl (.inl rfl) pe_int)
    (pss_cons (ps_for PassesOwn.never rfl (pi_tup (pe_slice sl_tup (pv 0) (po_some (pe_op op_add pe_int (pe_callTy call_int1 (by rfl) z.int (by decide +kernel) (pa_cons (pe_cmpR op_eq (pe_ix ix_tup (pv 0) pe_int (fun _ _ => rfl)) pe_str (nomark _)) pa_nil)))) po_none))
      (pg_name (i := 2) scLSize.nd rfl (.inl rfl)) (pss_one (ps_set (i := 1) scLSize.nd rfl (.inl rfl) (pe_op op_add (pv 1) (pe_call G hr (by rfl) d.m d.k d.b .nil pass0 (pa_cons (pv 2) pa_nil))))))
    (pss_one (ps_ret (pv 1))))), ?_⟩
  rcases b.node with ⟨a, wd, x, rfl, h, hw⟩ | ⟨a, wd, xs, ws, bl, rfl, h, c1, c2, c3, hk, hc, hn, _, _, _, _⟩
  · have e1 : (e.size : Int) = 1 := by rcases hw with ⟨_, n, rfl⟩ | ⟨_, n, _, rfl⟩ <;> rfl
    rw [e1] at q
    rcases hw with ⟨rfl, _⟩ | ⟨rfl, _⟩
    · exact ⟨_, rfl, a, _, 0, _, rfl, rfl, .inl (.inl h), rfl, rfl, _, rfl, iteT (iteT (q H (Same.refl _)))⟩
    · exact ⟨_, rfl, a, _, 0, _, rfl, rfl, .inl (.inl h), rfl, rfl, _, rfl, iteF ⟨_, rfl, a, _, 0, _, rfl, rfl, .inl (.inl h), rfl, rfl, _, rfl, iteT (q H (Same.refl _))⟩⟩
  · refine ⟨_, rfl, a, _, 0, _, rfl, rfl, .inl (.inl h), at_of (j := 0) rfl rfl, rfl, false, congrArg V.bl c1, iteF ?_⟩
    refine ⟨_, rfl, a, _, 0, _, rfl, rfl, .inl (.inl h), at_of (j := 0) rfl rfl, rfl, false, congrArg V.bl c2, iteF ?_⟩
    refine ⟨_, rfl, _, rfl, a, _, 0, _, rfl, rfl, .inl (.inl h), at_of (j := 0) rfl rfl, rfl, ?_⟩
    refine .inr ⟨bl, congrArg (fun k => [V.bl k]) c3, _, _, rfl, rfl, _, rfl, a, _, rfl, .inl (.inl h), hn, fun p hp => ?_⟩
    rw [hc]
    have g1 := same_new hp (.tup ws)
    refine ⟨p, rfl, ⟨_, .inl (.inl upd_same)⟩, ?_⟩
    have hsz := e.sizeL_kids
    refine for_tup (K := K) (a := p) (xs := ws) (fun i σ H2 => Same (upd H p (.tup ws)) H2 ∧ ∃ z, σ = [some (.ref a), some (.int (1 + sizeL (e.kids.take i) : Nat)), z])
      ⟨Same.refl _, _, rfl⟩ (fun i σ H2 _ h => .inl (.inl (h.1 _ _ upd_same))) (fun i x σ H2 hx h => ?_) (fun σ H2 h => ?_)
    · obtain ⟨g2, z, rfl⟩ := h
      obtain ⟨ex, he, bx⟩ := hk.get hx
      have hm : ex ∈ e.kids := List.mem_of_getElem? he
      have hkd := Ex.deep_kids hm
      refine ⟨_, rfl, _, rfl, x, ex, rfl, bx.mono (Tups.of (g1.trans g2)), by omega, fun H3 g3 => ?_⟩
      refine ⟨_, _, rfl, rfl, g2.trans g3, some x, ?_⟩
      rw [List.take_add_one, he, sizeL_append]
      have e2 : ((1 + (sizeL (e.kids.take i) + sizeL (some ex).toList) : Nat) : Int) = ((1 + sizeL (e.kids.take i) : Nat) : Int) + (ex.size : Int) := by
        have : sizeL (some ex).toList = ex.size := Nat.add_zero _
        rw [this]
        omega
      rw [e2]
      rfl
    · obtain ⟨g2, z, rfl⟩ := h
      refine ⟨_, rfl, ?_⟩
      rw [hk.len, List.take_length]
      have e2 : ((1 + sizeL e.kids : Nat) : Int) = (e.size : Int) := by omega
      rw [e2]
      exact q _ (g1.trans g2)
/-! ### deep -/
def deepL : List Ex → Nat → Nat
  | [], m => m
  | e :: r, m => deepL r (max m e.deep)
theorem deepL_append : ∀ (l m : List Ex) (k : Nat), deepL (l ++ m) k = deepL m (deepL l k)
  | [], _, _ => rfl
  | e :: r, m, k => deepL_append r m (max k e.deep)
theorem Ex.deepL_kids (e : Ex) : deepL e.kids 0 + 1 = e.deep := by
  cases e <;> simp only [deepL, Ex.kids, Ex.deep] <;> omega
theorem spLDeep0 : FnOk P w K mg base CX0 0 f fd ["_law_expr"] (spDeep 0) := by
  have no : ∀ vs H Q E, ¬ spDeep 0 vs H Q E := fun vs H Q E h => by
    obtain ⟨v, e, _, _, h1, _⟩ := h
    have := e.deep_pos
    omega
  exact ⟨fun vs H Q E h => absurd h (no vs H Q E), fun A outer s H args us vs Q E _ _ _ _ h => absurd h (no vs H Q E)⟩
theorem scLDeep : FnScope ["_law_expr", "_law_most", "_law_part"] ["_law_expr"] (defScope sLDeep) := ⟨rfl, rfl, rfl, by decide +kernel, rfl, by decide +kernel, by decide +kernel⟩
theorem ok_ldeep (n : Nat) (d : Df K mg "_law_deep" sLDeep ["_law_expr"] f fd) (z : Bl mg) (G : FnOk P w K mg base CX0 (n + 1) f fd ["_law_expr"] (spDeep n)) :
    FnOk P w K mg base CX0 (n + 2) f fd ["_law_expr"] (spDeep (n + 1)) := by
  refine d.F.ok scLDeep (fun vs H Q E h => ?_) (fun cdv A outer s H vs Q E hr h => ?_)
  · obtain ⟨v, e, rfl, _⟩ := h
    rfl
  obtain ⟨v, e, rfl, b, hd, q⟩ := h
  refine ⟨_, pss_cons (ps_if (PW.pt (pw_or (pt_cmpR op_eq (pe_ix ix_tup (pv 0) pe_int (fun _ _ => rfl)) pe_str (nomark _)) (pw_or1 (pt_cmpR op_eq (pe_ix ix_tup (pv 0) pe_int (fun _ _ => rfl)) pe_str (nomark _))))) (pss_one (ps_ret pe_int)) pss_nil)
    (pss_cons (ps_set (i := 1) scLDeep.nd rfl (.inl rfl) pe_int)
    (pss_cons (ps_for PassesOwn.never rfl (pi_tup (pe_slice sl_tup (pv 0) (po_some (pe_op op_add pe_int (pe_callTy call_int1 (by rfl) z.int (by decide +kernel) (pa_cons (pe_cmpR op_eq (pe_ix ix_tup (pv 0) pe_int (fun _ _ => rfl)) pe_str (nomark _)) pa_nil)))) po_none))
      (pg_name (i := 2) scLDeep.nd rfl (.inl rfl)) (pss_one (ps_set (i := 1) scLDeep.nd rfl (.inl rfl) (pe_callB (call_max2 rfl) (by rfl) z.max (by decide +kernel) (pa_cons (pv 1) (pa_cons (pe_call G hr (by rfl) d.m d.k d.b .nil pass0 (pa_cons (pv 2) pa_nil)) pa_nil))))))
    (pss_one (ps_ret (pe_op op_add (pv 1) pe_int))))), ?_⟩
  rcases b.node with ⟨a, wd, x, rfl, h, hw⟩ | ⟨a, wd, xs, ws, bl, rfl, h, c1, c2, c3, hk, hc, hn, _, _, _, _⟩
  · have e1 : (e.deep : Int) = 1 := by rcases hw with ⟨_, n, rfl⟩ | ⟨_, n, _, rfl⟩ <;> rfl
    rw [e1] at q
    rcases hw with ⟨rfl, _⟩ | ⟨rfl, _⟩
    · exact ⟨_, rfl, a, _, 0, _, rfl, rfl, .inl (.inl h), rfl, rfl, _, rfl, iteT (iteT (q H (Same.refl _)))⟩
    · exact ⟨_, rfl, a, _, 0, _, rfl, rfl, .inl (.inl h), rfl, rfl, _, rfl, iteF ⟨_, rfl, a, _, 0, _, rfl, rfl, .inl (.inl h), rfl, rfl, _, rfl, iteT (q H (Same.refl _))⟩⟩
  · refine ⟨_, rfl, a, _, 0, _, rfl, rfl, .inl (.inl h), at_of (j := 0) rfl rfl, rfl, false, congrArg V.bl c1, iteF ?_⟩
    refine ⟨_, rfl, a, _, 0, _, rfl, rfl, .inl (.inl h), at_of (j := 0) rfl rfl, rfl, false, congrArg V.bl c2, iteF ?_⟩
    refine ⟨_, rfl, _, rfl, a, _, 0, _, rfl, rfl, .inl (.inl h), at_of (j := 0) rfl rfl, rfl, ?_⟩
    refine .inr ⟨bl, congrArg (fun k => [V.bl k]) c3, _, _, rfl, rfl, _, rfl, a, _, rfl, .inl (.inl h), hn, fun p hp => ?_⟩
    rw [hc]
    have g1 := same_new hp (.tup ws)
    refine ⟨p, rfl, ⟨_, .inl (.inl upd_same)⟩, ?_⟩
    have hsz := e.deepL_kids
    refine for_tup (K := K) (a := p) (xs := ws) (fun i σ H2 => Same (upd H p (.tup ws)) H2 ∧ ∃ z, σ = [some (.ref a), some (.int (deepL (e.kids.take i) 0 : Nat)), z])
      ⟨Same.refl _, _, rfl⟩ (fun i σ H2 _ h => .inl (.inl (h.1 _ _ upd_same))) (fun i x σ H2 hx h => ?_) (fun σ H2 h => ?_)
    · obtain ⟨g2, z, rfl⟩ := h
      obtain ⟨ex, he, bx⟩ := hk.get hx
      have hm : ex ∈ e.kids := List.mem_of_getElem? he
      have hkd := Ex.deep_kids hm
      refine ⟨_, rfl, _, rfl, x, ex, rfl, bx.mono (Tups.of (g1.trans g2)), by omega, fun H3 g3 => ?_⟩
      refine ⟨_, _, rfl, g2.trans g3, some x, ?_⟩
      rw [List.take_add_one, he, deepL_append]
      have e2 : ((deepL (some ex).toList (deepL (e.kids.take i) 0) : Nat) : Int) = if (ex.deep : Int) > ((deepL (e.kids.take i) 0 : Nat) : Int) then (ex.deep : Int) else ((deepL (e.kids.take i) 0 : Nat) : Int) := by
        show ((max (deepL (e.kids.take i) 0) ex.deep : Nat) : Int) = _
        split <;> omega
      rw [e2]
      rfl
    · obtain ⟨g2, z, rfl⟩ := h
      refine ⟨_, rfl, _, _, rfl, rfl, ?_⟩
      rw [hk.len, List.take_length]
      have e2 : ((deepL e.kids 0 : Nat) : Int) + 1 = (e.deep : Int) := by omega
      show Q (.int (((deepL e.kids 0 : Nat) : Int) + 1)) _
      rw [e2]
      exact q _ (g1.trans g2)
end
end FC
namespace FC
open PySem L2 StX
def addAll (ks : List Str) (l : List Str) : List Str := l.foldl addS ks
def lneeds : Ex → List Str
  | .num _ => []
  | .nam w => [w]
  | .two _ a b => addAll (addAll [] (lneeds a)) (lneeds b)
  | .whn c a b => addAll (addAll (addAll [] (lneeds c)) (lneeds a)) (lneeds b)
  | .lett w a b => addAll (addAll [] (lneeds a)) ((lneeds b).filter fun x => !decide (x = w))
theorem mem_addS {ks : List Str} {w x : Str} : x ∈ addS ks w ↔ x ∈ ks ∨ x = w := by
  unfold addS
  split
  · rename_i h
    exact ⟨.inl, fun z => z.elim id fun e => e ▸ h⟩
  · simp
theorem mem_addAll {x : Str} : ∀ {l ks : List Str}, x ∈ addAll ks l ↔ x ∈ ks ∨ x ∈ l
  | [], ks => by simp [addAll]
  | w :: r, ks => by
    show x ∈ addAll (addS ks w) r ↔ _
    rw [mem_addAll, mem_addS, List.mem_cons, or_assoc]
theorem addS_in {ks : List Str} {w : Str} (h : w ∈ ks) : addS ks w = ks := if_pos h
theorem addAll_in : ∀ {l ks : List Str}, (∀ x ∈ l, x ∈ ks) → addAll ks l = ks
  | [], _, _ => rfl
  | w :: r, ks, h => by
    show addAll (addS ks w) r = ks
    rw [addS_in (h w List.mem_cons_self)]
    exact addAll_in fun x hx => h x (List.mem_cons_of_mem _ hx)
theorem addAll_append (ks l m : List Str) : addAll ks (l ++ m) = addAll (addAll ks l) m := List.foldl_append
/-- what is added one by one may be added at once -/
theorem addAll_addAll : ∀ (m l ks : List Str), addAll ks (addAll l m) = addAll (addAll ks l) m
  | [], _, _ => rfl
  | w :: r, l, ks => by
    show addAll ks (addAll (addS l w) r) = addAll (addS (addAll ks l) w) r
    rw [addAll_addAll r (addS l w) ks]
    congr 1
    unfold addS
    by_cases h : w ∈ l
    · rw [if_pos h, if_pos (mem_addAll.mpr (.inr h))]
    · rw [if_neg h, addAll_append]
      rfl
theorem filter_addS (p : Str → Bool) (ks : List Str) (w : Str) : (addS ks w).filter p = if p w = true then addS (ks.filter p) w else ks.filter p := by
  unfold addS
  by_cases h : w ∈ ks
  · by_cases hp : p w = true
    · rw [if_pos h, if_pos hp, if_pos (List.mem_filter.mpr ⟨h, hp⟩)]
    · rw [if_pos h, if_neg hp]
  · by_cases hp : p w = true
    · rw [if_neg h, if_pos hp, if_neg fun z => h (List.mem_filter.mp z).1, List.filter_append, List.filter_cons_of_pos hp, List.filter_nil]
    · rw [if_neg h, if_neg hp, List.filter_append, List.filter_cons_of_neg hp, List.filter_nil, List.append_nil]
theorem filter_addAll (p : Str → Bool) : ∀ (l ks : List Str), (addAll ks l).filter p = addAll (ks.filter p) (l.filter p)
  | [], _ => rfl
  | w :: r, ks => by
    show (addAll (addS ks w) r).filter p = _
    rw [filter_addAll p r, filter_addS]
    by_cases hp : p w = true
    · rw [if_pos hp, List.filter_cons_of_pos hp]
      rfl
    · rw [if_neg hp, List.filter_cons_of_neg hp]
abbrev out (hid : List Str) (l : List Str) : List Str := l.filter fun x => !decide (x ∈ hid)
theorem out_addAll (hid ks l : List Str) : out hid (addAll ks l) = addAll (out hid ks) (out hid l) := filter_addAll _ _ _
theorem out_nil (hid : List Str) : out hid [] = [] := rfl
theorem addAll_addAll0 (l ks : List Str) : addAll ks (addAll [] l) = addAll ks l := addAll_addAll l [] ks
theorem out_own (hid : List Str) (w : Str) (l : List Str) : out hid (l.filter fun x => !decide (x = w)) = out (hid ++ [w]) l := by
  unfold out
  rw [List.filter_filter]
  refine List.filter_congr fun x _ => ?_
  simp
theorem gath_eq : ∀ (e : Ex) (hid ks : List Str), gath e hid ks = addAll ks (out hid (lneeds e))
  | .num _, _, _ => rfl
  | .nam w, hid, ks => by
    show (if w ∈ hid then ks else addS ks w) = addAll ks (List.filter (fun x => !decide (x ∈ hid)) [w])
    by_cases h : w ∈ hid
    · rw [if_pos h, List.filter_cons_of_neg (by simpa using h)]
      rfl
    · rw [if_neg h, List.filter_cons_of_pos (by simpa using h)]
      rfl
  | .two _ a b, hid, ks => by
    show gath b hid (gath a hid ks) = addAll ks (out hid (addAll (addAll [] (lneeds a)) (lneeds b)))
    rw [gath_eq b, gath_eq a, out_addAll, out_addAll, out_nil, addAll_addAll, addAll_addAll0]
  | .whn c a b, hid, ks => by
    show gath b hid (gath a hid (gath c hid ks)) = addAll ks (out hid (addAll (addAll (addAll [] (lneeds c)) (lneeds a)) (lneeds b)))
    rw [gath_eq b, gath_eq a, gath_eq c, out_addAll, out_addAll, out_addAll, out_nil, addAll_addAll, addAll_addAll, addAll_addAll0]
  | .lett w a b, hid, ks => by
    show gath b (hid ++ [w]) (gath a hid ks) = addAll ks (out hid (addAll (addAll [] (lneeds a)) ((lneeds b).filter fun x => !decide (x = w))))
    rw [gath_eq b, gath_eq a, out_addAll, out_addAll, out_nil, addAll_addAll, addAll_addAll0, out_own]
theorem addAll_nodup_self : ∀ (l : List Str), l.Nodup → ∀ ks : List Str, (∀ x ∈ l, x ∉ ks) → addAll ks l = ks ++ l
  | [], _, ks, _ => (List.append_nil ks).symm
  | w :: r, hn, ks, h => by
    obtain ⟨h1, h2⟩ := List.nodup_cons.mp hn
    show addAll (addS ks w) r = ks ++ w :: r
    have e : addS ks w = ks ++ [w] := if_neg (h w List.mem_cons_self)
    rw [e, addAll_nodup_self r h2 (ks ++ [w]) fun x hx z => ?_, List.append_assoc]
    · rfl
    · rcases List.mem_append.mp z with z | z
      · exact h x (List.mem_cons_of_mem _ hx) z
      · have := List.mem_singleton.mp z
        subst this
        exact h1 hx
theorem addS_nodup {ks : List Str} {w : Str} (h : ks.Nodup) : (addS ks w).Nodup := by
  unfold addS
  split
  · exact h
  · rename_i hw
    exact nd_snoc h hw
theorem addAll_nodup : ∀ (l ks : List Str), ks.Nodup → (addAll ks l).Nodup
  | [], _, h => h
  | _ :: r, _, h => addAll_nodup r _ (addS_nodup h)
theorem lneeds_nodup : ∀ e : Ex, (lneeds e).Nodup
  | .num _ => List.nodup_nil
  | .nam w => by simp [lneeds]
  | .two _ _ _ => addAll_nodup _ _ (addAll_nodup _ _ List.nodup_nil)
  | .whn _ _ _ => addAll_nodup _ _ (addAll_nodup _ _ (addAll_nodup _ _ List.nodup_nil))
  | .lett _ _ _ => addAll_nodup _ _ (addAll_nodup _ _ List.nodup_nil)
theorem gath_lneeds (e : Ex) : gath e [] [] = lneeds e := by
  rw [gath_eq]
  have h1 : out [] (lneeds e) = lneeds e := by
    refine List.filter_eq_self.mpr fun x _ => ?_
    simp
  rw [h1, addAll_nodup_self _ (lneeds_nodup e) [] (fun x _ z => nomatch z), List.nil_append]
/-! ### the law's walk for the names -/
theorem addAll_len (l : List Str) : ∀ ks : List Str, (addAll ks l).length ≤ ks.length + l.length := by
  induction l with
  | nil => intro ks; exact Nat.le_refl _
  | cons w r ih =>
    intro ks
    have h1 := ih (addS ks w)
    have h2 := addS_len ks w
    show (addAll (addS ks w) r).length ≤ ks.length + (r.length + 1)
    omega
/-- the names a kid gives: those that aren't the let's own -/
def own (o : Option Str) (i : Nat) (y : Str) : Bool := match o with
  | some x => decide (i = 1) && decide (y = x)
  | none => false
def kn (o : Option Str) : Nat → List Ex → List Str → List Str
  | _, [], ks => ks
  | i, e :: r, ks => kn o (i + 1) r (addAll ks ((lneeds e).filter fun y => !own o i y))
theorem kn_append (o : Option Str) : ∀ (l m : List Ex) (i : Nat) (ks : List Str), kn o i (l ++ m) ks = kn o (i + l.length) m (kn o i l ks)
  | [], _, _, _ => rfl
  | e :: r, m, i, ks => by
    show kn o (i + 1) (r ++ m) _ = _
    rw [kn_append o r m (i + 1), List.length_cons]
    have e1 : i + 1 + r.length = i + (r.length + 1) := by omega
    rw [e1]
    rfl
def ownOf : Ex → Option Str
  | .lett x _ _ => some x
  | _ => none
theorem filter_all (l : List Str) : l.filter (fun _ => !false) = l := List.filter_eq_self.mpr fun _ _ => rfl
theorem kn_lneeds {e : Ex} (h : e.kids ≠ []) : kn (ownOf e) 0 e.kids [] = lneeds e := by
  cases e with
  | num _ => exact absurd rfl h
  | nam _ => exact absurd rfl h
  | two o a b =>
    show addAll (addAll [] ((lneeds a).filter fun _ => !false)) ((lneeds b).filter fun _ => !false) = _
    rw [filter_all, filter_all]
    rfl
  | whn c a b =>
    show addAll (addAll (addAll [] ((lneeds c).filter fun _ => !false)) ((lneeds a).filter fun _ => !false)) ((lneeds b).filter fun _ => !false) = _
    rw [filter_all, filter_all, filter_all]
    rfl
  | lett x a b =>
    show addAll (addAll [] ((lneeds a).filter fun y => !(false && decide (y = x)))) ((lneeds b).filter fun y => !(true && decide (y = x))) = addAll (addAll [] (lneeds a)) ((lneeds b).filter fun y => !decide (y = x))
    have h1 : (lneeds a).filter (fun y => !(false && decide (y = x))) = lneeds a := List.filter_eq_self.mpr fun _ _ => rfl
    rw [h1]
    rfl
theorem lneeds_len (e : Ex) : (lneeds e).length ≤ e.size := by
  have h := gath_len e [] []
  rw [gath_lneeds] at h
  simpa using h
theorem kn_len (o : Option Str) : ∀ (l : List Ex) (i : Nat) (ks : List Str), (kn o i l ks).length ≤ ks.length + sizeL l
  | [], _, _ => Nat.le_refl _
  | e :: r, i, ks => by
    have h1 := kn_len o r (i + 1) (addAll ks ((lneeds e).filter fun y => !own o i y))
    have h2 := addAll_len ((lneeds e).filter fun y => !own o i y) ks
    have h3 := List.length_filter_le (fun y => !own o i y) (lneeds e)
    have h4 := lneeds_len e
    show (kn o (i + 1) r _).length ≤ ks.length + (e.size + sizeL r)
    omega
end FC
namespace FC
open PySem L2 StX
theorem But.tupsL {d : Addr} {H H' : Hp} {l : List V} (h : But d H H') (hd : H d = some (.lst l)) : Tups H H' := fun a xs e => h a _ (ne_of e hd (fun z => nomatch z)) e
section
variable {P : Program} {w : World} {K : PySem.W.Frag} {mg : Str → Option Value} {base : Heap} {f g : Addr} {fd gd : FuncData}
def spLNeeds (n : Nat) : Sp := fun vs H Q _ => ∃ (v : V) (e : Ex), vs = [v] ∧ Bears H v e ∧ e.deep ≤ n ∧ e.size ≤ 1000 ∧ ∀ (H' : Hp) (p : Addr), Same H H' → H p = none → H' p = some (.lst ((lneeds e).map V.str)) → Q (.ref p) H'
theorem spLNeeds0 : FnOk P w K mg base CX0 0 f fd ["_law_expr"] (spLNeeds 0) := by
  have no : ∀ vs H Q E, ¬ spLNeeds 0 vs H Q E := fun vs H Q E h => by
    obtain ⟨v, e, _, _, h1, _⟩ := h
    have := e.deep_pos
    omega
  exact ⟨fun vs H Q E h => absurd h (no vs H Q E), fun A outer s H args us vs Q E _ _ _ _ h => absurd h (no vs H Q E)⟩
theorem scLNeeds : FnScope ["_law_expr", "_law_found", "_law_first", "_law_k", "_law_name", "_law_own"] ["_law_expr"] (defScope sLNeeds) := ⟨rfl, rfl, rfl, by decide +kernel, rfl, by decide +kernel, by decide +kernel⟩
def b2i (b : Bool) : Nat := if b = true then 1 else 0
theorem own_read {H : Hp} {Q : VK} {σ : L2.St} {a : Addr} {wd y : Str} {xs : List V} {bl : Bool} {o : Option Str} {i : Nat} {k : Int}
    (h : H a = some (.tup (.str wd :: xs))) (c3 : decide (V.str wd = V.str "let") = bl) (ho : (bl = false ∧ o = none) ∨ (bl = true ∧ ∃ x, o = some x ∧ xs[0]? = some (.str x))) (hk : k = 1 + (b2i bl : Int) + i)
    (s0 : σ[0]? = some (some (.ref a))) (s3 : σ[3]? = some (some (.int k))) (s4 : σ[4]? = some (some (.str y))) (q : Q (.bl (own o i y)) H) :
    tAndV (tOp rEq (tOp (rIxT K) (tVar 0) (tC (.int 0))) (tC (.str "let"))) (tAndV (tOp rEq (tVar 3) (tC (.int 3))) (tOp rEq (tVar 4) (tOp (rIxT K) (tVar 0) (tC (.int 1))))) σ H Q := by
  refine ⟨_, s0, a, _, 0, _, rfl, rfl, .inl (.inl h), at_of (j := 0) rfl rfl, rfl, bl, congrArg V.bl c3, ?_⟩
  rcases ho with ⟨rfl, rfl⟩ | ⟨rfl, x, rfl, hx⟩
  · exact iteF q
  · refine iteT ⟨_, s3, rfl, decide (i = 1), congrArg V.bl ?_, ?_⟩
    · subst hk
      refine decide_eq_decide.mpr ⟨fun z => ?_, fun z => ?_⟩
      · injection z with z
        simp [b2i] at z
        omega
      · subst z
        rfl
    · by_cases hi : i = 1
      · rw [decide_eq_true hi]
        refine iteT ⟨_, s4, _, s0, a, _, 1, _, rfl, rfl, .inl (.inl h), at_of (j := 1) rfl hx, rfl, ?_⟩
        have e : own (some x) i y = decide (V.str y = V.str x) := by
          show (decide (i = 1) && decide (y = x)) = _
          rw [decide_eq_true hi, Bool.true_and]
          exact decide_eq_decide.mpr ⟨fun z => congrArg V.str z, fun z => by injection z⟩
        rw [← e]
        exact q
      · rw [decide_eq_false hi]
        refine iteF ?_
        have e : own (some x) i y = false := by
          show (decide (i = 1) && decide (y = x)) = _
          rw [decide_eq_false hi, Bool.false_and]
        rw [← e]
        exact q
theorem ok_lneeds (n : Nat) (d : Df K mg "_law_needs" sLNeeds ["_law_expr"] f fd) (z : Bl mg) (G : FnOk P w K mg base CX0 (n + 1) f fd ["_law_expr"] (spLNeeds n)) :
    FnOk P w K mg base CX0 (n + 2) f fd ["_law_expr"] (spLNeeds (n + 1)) := by
  refine d.F.ok scLNeeds (fun vs H Q E h => ?_) (fun cdv A outer s H vs Q E hr h => ?_)
  · obtain ⟨v, e, rfl, _⟩ := h
    rfl
  obtain ⟨v, e, rfl, b, hd, hs, q⟩ := h
  refine ⟨_, pss_cons (ps_if (pt_cmpR op_eq (pe_ix ix_tup (pv 0) pe_int (fun _ _ => rfl)) pe_str (nomark _)) (pss_one (ps_ret (pe_lst (pa_cons (pe_ix ix_tup (pv 0) pe_int (fun _ _ => rfl)) pa_nil)))) pss_nil)
    (pss_cons (ps_set (i := 1) scLNeeds.nd rfl (.inl rfl) (pe_lst pa_nil))
    (pss_cons (ps_if (pt_cmpR op_eq (pe_ix ix_tup (pv 0) pe_int (fun _ _ => rfl)) pe_str (nomark _)) (pss_one (ps_ret (pv 1))) pss_nil)
    (pss_cons (ps_set (i := 2) scLNeeds.nd rfl (.inl rfl) (pe_op op_add pe_int (pe_callTy call_int1 (by rfl) z.int (by decide +kernel) (pa_cons (pe_cmpR op_eq (pe_ix ix_tup (pv 0) pe_int (fun _ _ => rfl)) pe_str (nomark _)) pa_nil))))
    (pss_cons (ps_for PassesOwn.never rfl (pi_range2 (by rfl) z.range (pa_cons (pv 2) (pa_cons (pe_callB call_len_seq (by rfl) z.len PySem.boot_len (pa_cons (pv 0) pa_nil)) pa_nil))) (pg_name (i := 3) scLNeeds.nd rfl (.inl rfl))
      (pss_one (ps_for PassesOwn.never rfl (pi_list (pe_call G hr (by rfl) d.m d.k d.b .nil pass0 (pa_cons (pe_ix ix_tup (pv 0) (pv 3) (fun _ _ => rfl)) pa_nil))) (pg_name (i := 4) scLNeeds.nd rfl (.inl rfl))
        (pss_cons (ps_set (i := 5) scLNeeds.nd rfl (.inl rfl) (pe_and (pe_cmpR op_eq (pe_ix ix_tup (pv 0) pe_int (fun _ _ => rfl)) pe_str (nomark _)) (pe_and (pe_cmpR op_eq (pv 3) pe_int (nomark _)) (pe_one (pe_cmpR op_eq (pv 4) (pe_ix ix_tup (pv 0) pe_int (fun _ _ => rfl)) (nomark _))))))
        (pss_one (ps_if (PW.pt (pw_and (pt_cmpR op_notIn_seq (pv 4) (pv 1) rfl) (pw_and1 (pt_not (pt_val (pv 5))))))
          (pss_one (ps_expr (pe_bm PySem.F.plainAttrs_list PySem.F.slot_list_append PySem.F.type_list_append mt_append (pv 1) (pa_cons (pv 4) pa_nil)))) pss_nil))))))
    (pss_one (ps_ret (pv 1))))))), ?_⟩
  rcases b.node with ⟨a, wd, x, rfl, h, hw⟩ | ⟨a, wd, xs, ws, bl, rfl, h, c1, c2, c3, hk, _, _, hxl, hxi, ho, hne⟩
  · rcases hw with ⟨rfl, m, rfl⟩ | ⟨rfl, x, rfl, rfl⟩
    · refine ⟨_, rfl, a, _, 0, _, rfl, rfl, .inl (.inl h), rfl, rfl, _, rfl, iteF ?_⟩
      refine ⟨(by show 0 ≤ sizeLine; decide), fun p hp => ?_⟩
      have g1 := same_new hp (.lst [])
      refine ⟨_, rfl, a, _, 0, _, rfl, rfl, .inl (.inl (g1 _ _ h)), rfl, rfl, _, rfl, iteT ?_⟩
      exact ⟨_, rfl, q _ p g1 hp upd_same⟩
    · refine ⟨_, rfl, a, _, 0, _, rfl, rfl, .inl (.inl h), rfl, rfl, _, rfl, iteT ?_⟩
      exact ⟨_, rfl, a, _, 1, _, rfl, rfl, .inl (.inl h), rfl, (by show 1 ≤ sizeLine; decide), fun p hp => q _ p (same_new hp _) hp upd_same⟩
  · have ho' : (bl = false ∧ ownOf e = none) ∨ (bl = true ∧ ∃ x, ownOf e = some x ∧ xs[0]? = some (.str x)) := by
      rcases ho with ⟨h1, h2⟩ | ⟨h1, x, e1, e2, rfl, h3⟩
      · refine .inl ⟨h1, ?_⟩
        cases e with
        | lett _ _ _ => exact absurd rfl (h2 _ _ _)
        | _ => rfl
      · exact .inr ⟨h1, x, rfl, h3⟩
    refine ⟨_, rfl, a, _, 0, _, rfl, rfl, .inl (.inl h), at_of (j := 0) rfl rfl, rfl, false, congrArg V.bl c2, iteF ?_⟩
    refine ⟨(by show 0 ≤ sizeLine; decide), fun F hF => ?_⟩
    have g1 := same_new hF (.lst [])
    have hF1 : upd H F (.lst []) F = some (.lst []) := upd_same
    have h' := g1 _ _ h
    have naF : a ≠ F := ne_of h' hF1 (fun z => nomatch z)
    generalize upd H F (.lst []) = H1 at *
    refine ⟨_, rfl, a, _, 0, _, rfl, rfl, .inl (.inl h'), at_of (j := 0) rfl rfl, rfl, false, congrArg V.bl c1, iteF ?_⟩
    refine ⟨_, rfl, a, _, 0, _, rfl, rfl, .inl (.inl h'), at_of (j := 0) rfl rfl, rfl, ?_⟩
    refine .inr ⟨bl, congrArg (fun k => [V.bl k]) c3, _, _, rfl, rfl, ?_⟩
    have eb : (1 : Int) + (if bl = true then 1 else 0) = 1 + (b2i bl : Int) := by cases bl <;> rfl
    dsimp only
    rw [eb]
    have hwl := hk.len
    have hsz := e.sizeL_kids
    have hkl := e.kids_len
    have hbl : b2i bl ≤ 1 := by cases bl <;> decide
    have hxl' : xs.length = ws.length + b2i bl := by cases bl <;> exact hxl
    have hxi' : ∀ i, xs[i + b2i bl]? = ws[i]? := by cases bl <;> exact hxi
    refine ⟨_, rfl, _, rfl, a, _, rfl, .inr (.inl (.inl h')), 1 + (b2i bl : Int), ((V.str wd :: xs).length : Int), rfl, ?_, ?_⟩
    · rw [List.length_cons]
      omega
    have en : ((((V.str wd :: xs).length : Nat) : Int) - (1 + (b2i bl : Int))).toNat = e.kids.length := by
      rw [List.length_cons]
      omega
    rw [en]
    refine for_range (lo := 1 + (b2i bl : Int)) (n := e.kids.length) (fun i σ H2 => But F H1 H2 ∧ H2 F = some (.lst ((kn (ownOf e) 0 (e.kids.take i) []).map V.str)) ∧ ∃ z3 z4 z5, σ = [some (.ref a), some (.ref F), some (.int (1 + (b2i bl : Int))), z3, z4, z5])
      ⟨But.refl _ _, hF1, _, _, _, rfl⟩ (fun i σ H2 hi hP => ?_) (fun σ H2 hP => ?_)
    · obtain ⟨g2, hF2, z3, z4, z5, rfl⟩ := hP
      obtain ⟨ex, he⟩ : ∃ ex, e.kids[i]? = some ex := ⟨_, List.getElem?_eq_getElem hi⟩
      obtain ⟨x, hx⟩ : ∃ x, ws[i]? = some x := ⟨_, List.getElem?_eq_getElem (by omega)⟩
      obtain ⟨ex', he', bx⟩ := hk.get hx
      rw [he] at he'
      cases he'
      have hm : ex ∈ e.kids := List.mem_of_getElem? he
      have hkd := Ex.deep_kids hm
      have hz := take_succ_sizeL he
      have ha2 := g2 _ _ naF h'
      have hat : atI (V.str wd :: xs) (1 + (b2i bl : Int) + (i : Int)) = some x := by
        refine at_of (j := (i + b2i bl) + 1) (by omega) ?_
        rw [List.getElem?_cons_succ, hxi' i]
        exact hx
      refine ⟨_, rfl, _, rfl, a, _, _, x, rfl, rfl, .inl (.inl ha2), hat, x, ex, rfl, bx.mono (fun b o z => g2.tupsL hF1 _ _ (g1 _ _ z)), by omega, by omega, fun H3 l g3 hl0 hl => ?_⟩
      have nlF : l ≠ F := fun z => by subst z; rw [hl0] at hF2; cases hF2
      have hF3 := g3 _ _ hF2
      have ha3 := g3 _ _ ha2
      refine ⟨l, rfl, ⟨_, .inl (.inl hl)⟩, ?_⟩
      refine for_list (K := K) (a := l) (xs := (lneeds ex).map V.str) (fun j σ H4 => But F H3 H4 ∧ H4 F = some (.lst ((addAll (kn (ownOf e) 0 (e.kids.take i) []) (((lneeds ex).take j).filter fun y => !own (ownOf e) i y)).map V.str)) ∧
          ∃ z4 z5, σ = [some (.ref a), some (.ref F), some (.int (1 + (b2i bl : Int))), some (.int (1 + (b2i bl : Int) + (i : Int))), z4, z5])
        ⟨But.refl _ _, hF3, _, _, rfl⟩ (fun j σ H4 _ hP => .inl (.inl (hP.1 _ _ nlF hl))) (fun j x σ H4 hy hP => ?_) (fun σ H4 hP => ?_)
      · obtain ⟨g4, hF4, z4, z5, rfl⟩ := hP
        rw [List.getElem?_map] at hy
        obtain ⟨y, hy1, rfl⟩ := Option.map_eq_some_iff.mp hy
        have ha4 := g4 _ _ naF ha3
        refine own_read (i := i) ha4 c3 ho' rfl rfl rfl rfl ?_
        refine ⟨_, rfl, _, rfl, F, _, rfl, .inl (.inl (.inl hF4)), rfl, flat_strs _, _, rfl, ?_⟩
        have hlen := kn_len (ownOf e) (e.kids.take i) 0 []
        have hlen2 := addAll_len (((lneeds ex).take j).filter fun y => !own (ownOf e) i y) (kn (ownOf e) 0 (e.kids.take i) [])
        have hlen3 := List.length_filter_le (fun y => !own (ownOf e) i y) ((lneeds ex).take j)
        have hlen4 := lneeds_len ex
        have hlen5 : ((lneeds ex).take j).length ≤ (lneeds ex).length := by rw [List.length_take]; exact Nat.min_le_right _ _
        have hnil : ([] : List Str).length = 0 := rfl
        rw [List.take_add_one, hy1, List.filter_append, addAll_append]
        generalize addAll (kn (ownOf e) 0 (e.kids.take i) []) (((lneeds ex).take j).filter fun y => !own (ownOf e) i y) = acc at *
        rw [inV_strs]
        have e1 : (some y).toList.filter (fun y => !own (ownOf e) i y) = if own (ownOf e) i y = true then [] else [y] := by
          show List.filter _ [y] = _
          cases hb : own (ownOf e) i y
          · rw [List.filter_cons_of_pos (by rw [hb]; rfl)]; rfl
          · rw [List.filter_cons_of_neg (by rw [hb]; decide)]; rfl
        rw [e1]
        by_cases hin : y ∈ acc
        · rw [decide_eq_true hin]
          refine iteF (iteF ⟨g4, ?_, _, _, rfl⟩)
          have e2 : addAll acc (if own (ownOf e) i y = true then [] else [y]) = acc := addAll_in fun z hz => by
            split at hz
            · cases hz
            · rw [List.mem_singleton.mp hz]; exact hin
          rw [e2]
          exact hF4
        · rw [decide_eq_false hin]
          refine iteT ⟨_, rfl, _, rfl, ?_⟩
          cases hb : own (ownOf e) i y
          · refine iteT ?_
            refine ⟨_, rfl, .inl ⟨rfl, _, .inl (.inl hF4)⟩, _, rfl, F, _, _, rfl, rfl, hF4, ?_, g4.trans But.upd, ?_, _, _, rfl⟩
            · rw [List.length_map]
              exact small1000 (by omega)
            · rw [upd_same]
              have e2 : addAll acc [y] = acc ++ [y] := if_neg hin
              show _ = some (HO.lst ((addAll acc [y]).map V.str))
              rw [e2, List.map_append]
              rfl
          · exact iteF ⟨g4, hF4, _, _, rfl⟩
      · obtain ⟨g4, hF4, z4, z5, rfl⟩ := hP
        rw [List.length_map, List.take_length] at hF4
        refine ⟨fun b o n z => g4 _ _ n (g3 _ _ (g2 _ _ n z)), ?_, _, _, _, rfl⟩
        rw [hF4, List.take_add_one, he, kn_append]
        have e1 : 0 + (e.kids.take i).length = i := by rw [List.length_take]; omega
        rw [e1]
        rfl
    · obtain ⟨g2, hF2, z3, z4, z5, rfl⟩ := hP
      rw [List.take_length, kn_lneeds hne] at hF2
      exact ⟨_, rfl, q H2 F (fun b o hb => g2 _ _ (ne_of_none hb hF) (g1 _ _ hb)) hF hF2⟩
end
end FC
namespace FC
open PySem L2 StX
theorem same_put {H H2 : Hp} {F : Addr} {o : HO} (g : Same H H2) (hF : H F = none) : Same H (upd H2 F o) := fun b u e => by
  rw [upd_ne (ne_of_none e hF)]
  exact g _ _ e
section
variable {P : Program} {w : World} {K : PySem.W.Frag} {mg : Str → Option Value} {base : Heap} {f g : Addr} {fd gd : FuncData}
/-! ### the cells, mixed -/
def spMixed (K : PySem.W.Frag) : Sp := fun vs H Q _ => ∃ (a : Addr) (ns : List Int), vs = [.ref a] ∧ SqL K H a (ns.map V.int) ∧ ns.length ≤ 63 ∧
  ∀ (H' : Hp) (p : Addr) (ms : List Int), Same H H' → H' p = some (.lst (ms.map V.int)) → ms.length = ns.length → (∀ m ∈ ms, 0 ≤ m) → Q (.ref p) H'
theorem scMixed : FnScope ["_law_script", "_law_found", "_law_more", "_law_cell"] ["_law_script"] (defScope sMixed) := ⟨rfl, rfl, rfl, by decide +kernel, rfl, by decide +kernel, by decide +kernel⟩
theorem ok_mixed (d : Df K mg "_law_mixed" sMixed ["_law_script"] f fd) : FnOk P w K mg base CX0 1 f fd ["_law_script"] (spMixed K) := by
  refine d.F.ok scMixed (fun vs H Q E h => ?_) (fun cdv A outer s H vs Q E hr h => ?_)
  · obtain ⟨v, e, rfl, _⟩ := h
    rfl
  obtain ⟨a, ns, rfl, hS, h63, q⟩ := h
  refine ⟨_, pss_cons (ps_set (i := 1) scMixed.nd rfl (.inl rfl) (pe_lst pa_nil))
    (pss_cons (ps_set (i := 2) scMixed.nd rfl (.inl rfl) pe_int)
    (pss_cons (ps_for PassesOwn.never rfl (pi_list (pv 0)) (pg_name (i := 3) scMixed.nd rfl (.inl rfl))
      (pss_cons (ps_set (i := 2) scMixed.nd rfl (.inl rfl) (pe_op op_mod (pe_op op_add (pe_op op_add (pe_op op_mul (pv 2) pe_int) (pv 3)) pe_int) pe_int))
      (pss_one (ps_expr (pe_bm PySem.F.plainAttrs_list PySem.F.slot_list_append PySem.F.type_list_append mt_append (pv 1) (pa_cons (pv 2) pa_nil))))))
    (pss_one (ps_ret (pv 1))))), ?_⟩
  refine ⟨(by show 0 ≤ sizeLine; decide), fun F hF => ?_⟩
  refine ⟨_, rfl, a, rfl, ⟨_, (same_new hF _).seq hS⟩, ?_⟩
  refine for_list (K := K) (a := a) (xs := ns.map V.int) (fun i σ H2 => Same H H2 ∧ ∃ (ms : List Int) (m : Int) (z : Option V), H2 F = some (.lst (ms.map V.int)) ∧ ms.length = i ∧ (∀ x ∈ ms, 0 ≤ x) ∧ 0 ≤ m ∧ m < 1000000000000000003 ∧ σ = [some (.ref a), some (.ref F), some (.int m), z])
    ⟨same_new hF _, [], 1, none, upd_same, rfl, (fun _ z => nomatch z), by decide, by decide, rfl⟩ (fun i σ H2 _ h => h.1.seq hS) (fun i x σ H2 hx h => ?_) (fun σ H2 h => ?_)
  · obtain ⟨g2, ms, m, z, hF2, hl, hp, h0, h1, rfl⟩ := h
    rw [List.getElem?_map] at hx
    obtain ⟨y, hy, rfl⟩ := Option.map_eq_some_iff.mp hx
    have hi : i < ns.length := (List.getElem?_eq_some_iff.mp hy).1
    have hmod := Int.emod_nonneg (m * 6364136223846793005 + y + 1442695040888963407) (show (1000000000000000003 : Int) ≠ 0 by decide)
    have hmod2 := Int.emod_lt_of_pos (m * 6364136223846793005 + y + 1442695040888963407) (show (0 : Int) < 1000000000000000003 by decide)
    refine ⟨_, rfl, _, _, rfl, rfl, .inl ⟨by omega, by omega⟩, _, rfl, _, _, rfl, rfl, _, _, rfl, rfl, _, _, rfl, rfl, (show (0 : Int) < 1000000000000000003 by decide), ?_⟩
    refine ⟨_, rfl, .inl ⟨rfl, _, .inl (.inl hF2)⟩, _, rfl, F, _, _, rfl, rfl, hF2, ?_, same_put g2 hF, ms ++ [(m * 6364136223846793005 + y + 1442695040888963407) % 1000000000000000003], (m * 6364136223846793005 + y + 1442695040888963407) % 1000000000000000003, _, ?_, ?_, fun x hx => ?_, hmod, hmod2, rfl⟩
    · rw [List.length_map]
      exact small1000 (by omega)
    · rw [upd_same, List.map_append]
      rfl
    · rw [List.length_append, hl]
      rfl
    · rcases List.mem_append.mp hx with hx | hx
      · exact hp x hx
      · rw [List.mem_singleton.mp hx]
        exact hmod
  · obtain ⟨g2, ms, m, z, hF2, hl, hp, h0, h1, rfl⟩ := h
    exact ⟨_, rfl, q H2 F ms g2 hF2 (by rw [hl, List.length_map]) hp⟩
/-! ### a cell -/
def spCellAt (K : PySem.W.Frag) : Sp := fun vs H Q _ => ∃ (a : Addr) (ms : List Int) (k : Int), vs = [.ref a, .int k] ∧ SqL K H a (ms.map V.int) ∧ 0 ≤ k ∧ (∀ m ∈ ms, 0 ≤ m) ∧ ∀ c : Int, 0 ≤ c → Q (.int c) H
theorem scCellAt : FnScope ["_law_script", "_law_k"] ["_law_script", "_law_k"] (defScope sCellAt) := ⟨rfl, rfl, rfl, by decide +kernel, rfl, by decide +kernel, by decide +kernel⟩
theorem ok_cellAt (d : Df K mg "_law_cell_at" sCellAt ["_law_script", "_law_k"] f fd) (z : Bl mg) : FnOk P w K mg base CX0 1 f fd ["_law_script", "_law_k"] (spCellAt K) := by
  refine d.F.ok scCellAt (fun vs H Q E h => ?_) (fun cdv A outer s H vs Q E hr h => ?_)
  · obtain ⟨v, e, k, rfl, _⟩ := h
    rfl
  obtain ⟨a, ms, k, rfl, hS, hk, hp, q⟩ := h
  refine ⟨_, pss_cons (ps_if (pt_cmpR op_lt (pv 1) (pe_callB call_len_seq (by rfl) z.len PySem.boot_len (pa_cons (pv 0) pa_nil)) (nomark _)) (pss_one (ps_ret (pe_ix ix_list (pv 0) (pv 1) (fun _ _ => rfl)))) pss_nil)
    (pss_one (ps_ret pe_int)), ?_⟩
  refine ⟨_, rfl, _, rfl, a, _, rfl, .inl hS, _, _, rfl, rfl, _, rfl, ?_⟩
  refine ite2 (fun c => ?_) (fun c => ?_)
  · have c' : k < (((ms.map V.int).length : Nat) : Int) := of_decide_eq_true c
    rw [List.length_map] at c'
    have hj : k.toNat < ms.length := by omega
    refine ⟨_, rfl, _, rfl, a, _, _, _, rfl, rfl, hS, at_of (j := k.toNat) (v := .int ms[k.toNat]) (by omega) ?_, q _ (hp _ (List.getElem_mem hj))⟩
    rw [List.getElem?_map, List.getElem?_eq_getElem hj]
    rfl
  · exact q 0 (by decide)
/-! ### is it a whole number? -/
def spWhole : Sp := fun vs H Q _ => ∃ i : Int, vs = [.int i] ∧ Q (.bl true) H
theorem scWhole : FnScope ["_law_found"] ["_law_found"] (defScope sWhole) := ⟨rfl, rfl, rfl, by decide +kernel, rfl, by decide +kernel, by decide +kernel⟩
theorem ok_whole (d : Df K mg "_law_whole" sWhole ["_law_found"] f fd) (z : Bl mg) : FnOk P w K mg base CX0 1 f fd ["_law_found"] spWhole := by
  refine d.F.ok scWhole (fun vs H Q E h => ?_) (fun cdv A outer s H vs Q E hr h => ?_)
  · obtain ⟨i, rfl, _⟩ := h
    rfl
  obtain ⟨i, rfl, q⟩ := h
  refine ⟨_, pss_one (ps_ret (pe_and (pe_callB call_isi (by rfl) z.isi (by decide +kernel) (pa_cons (pv 0) (pa_cons (pe_bltn (by rfl) z.int (by decide +kernel) (v := .ty "int") rfl) pa_nil)))
    (pe_one (pe_not (pe_callB call_isi (by rfl) z.isi (by decide +kernel) (pa_cons (pv 0) (pa_cons (pe_bltn (by rfl) z.bool (by decide +kernel) (v := .ty "bool") rfl) pa_nil))))))), ?_⟩
  refine ⟨_, rfl, .int i, .ty "int", .type "int", .type "int", true, rfl, .ty _, .base (.int i), kit_ty (by decide +kernel), true, rfl, iteT ?_⟩
  exact ⟨_, rfl, .int i, .ty "bool", .type "int", .type "bool", false, rfl, .ty _, .base (.int i), kit_ty (by decide +kernel), false, rfl, q⟩
/-! ### a number by a cell -/
theorem at_mod {xs : List V} {m : Int} (n : Nat) (hn : xs.length = n) (hp : 0 < n) : ∃ v, atI xs (m % (n : Int)) = some v ∧ v ∈ xs := by
  have h1 := Int.emod_nonneg m (show (n : Int) ≠ 0 by omega)
  have h2 := Int.emod_lt_of_pos m (show (0 : Int) < n by omega)
  have hj : (m % (n : Int)).toNat < xs.length := by omega
  exact ⟨xs[(m % (n : Int)).toNat], at_of (j := (m % (n : Int)).toNat) (by omega) (List.getElem?_eq_getElem hj), List.getElem_mem hj⟩
def NumOk (n : Int) : Prop := -1000000000 ≤ n ∧ n ≤ 1000000000
instance (n : Int) : Decidable (NumOk n) := inferInstanceAs (Decidable (_ ∧ _))
def numV : V → Bool
  | .int n => decide (NumOk n)
  | _ => false
theorem numV_out {v : V} (h : numV v = true) : ∃ n, v = .int n ∧ NumOk n := by
  cases v <;> first | exact ⟨_, rfl, of_decide_eq_true h⟩ | cases h
def spNumBy : Sp := fun vs H Q _ => ∃ c : Int, vs = [.int c] ∧ 0 ≤ c ∧ ∀ (H' : Hp) (n : Int), Same H H' → NumOk n → Q (.int n) H'
theorem scNumBy : FnScope ["_law_cell", "_law_way", "_law_more"] ["_law_cell"] (defScope sNumBy) := ⟨rfl, rfl, rfl, by decide +kernel, rfl, by decide +kernel, by decide +kernel⟩
theorem ok_numBy (d : Df K mg "_law_number_by" sNumBy ["_law_cell"] f fd) : FnOk P w K mg base CX0 1 f fd ["_law_cell"] spNumBy := by
  refine d.F.ok scNumBy (fun vs H Q E h => ?_) (fun cdv A outer s H vs Q E hr h => ?_)
  · obtain ⟨i, rfl, _⟩ := h
    rfl
  obtain ⟨c, rfl, hc, q⟩ := h
  refine ⟨_, pss_cons (ps_set (i := 1) scNumBy.nd rfl (.inl rfl) (pe_op op_mod (pv 0) pe_int))
    (pss_cons (ps_set (i := 2) scNumBy.nd rfl (.inl rfl) (pe_op op_fdiv (pv 0) pe_int))
    (pss_cons (ps_if (pt_cmpR op_eq (pv 1) pe_int (nomark _)) (pss_one (ps_ret (pe_op op_sub (pe_op op_mod (pv 2) pe_int) pe_int))) pss_nil)
    (pss_cons (ps_if (pt_cmpR op_eq (pv 1) pe_int (nomark _)) (pss_one (ps_ret (pe_ix ix_list (pe_lst (pa_cons pe_int (pa_cons (pe_un un_neg pe_int) (pa_cons pe_int (pa_cons (pe_un un_neg pe_int) pa_nil))))) (pe_op op_mod (pv 2) pe_int) (fun _ _ => rfl)))) pss_nil)
    (pss_cons (ps_if (pt_cmpR op_eq (pv 1) pe_int (nomark _)) (pss_one (ps_ret (pe_op op_sub (pe_op op_mod (pv 2) pe_int) pe_int))) pss_nil)
    (pss_cons (ps_if (pt_cmpR op_lt (pv 1) pe_int (nomark _)) (pss_one (ps_ret (pe_ix ix_list (pe_lst (pa_cons pe_int (pa_cons pe_int (pa_cons (pe_un un_neg pe_int) (pa_cons pe_int (pa_cons pe_int (pa_cons pe_int (pa_cons pe_int (pa_cons pe_int (pa_cons pe_int (pa_cons pe_int (pa_cons (pe_un un_neg pe_int) (pa_cons (pe_un un_neg pe_int) (pa_cons pe_int (pa_cons pe_int (pa_cons pe_int (pa_cons pe_int (pa_cons pe_int pa_nil)))))))))))))))))) (pe_op op_mod (pv 2) pe_int) (fun _ _ => rfl)))) pss_nil)
    (pss_one (ps_ret (pe_op op_sub (pe_op op_mod (pv 2) pe_int) pe_int)))))))), ?_⟩
  refine ⟨_, rfl, _, _, rfl, rfl, (show (0 : Int) < 8 by decide), _, rfl, _, _, rfl, rfl, ⟨by decide, by decide⟩, ?_⟩
  refine ⟨_, rfl, rfl, _, rfl, ?_⟩
  refine ite2 (fun _ => ?_) (fun _ => ?_)
  · refine ⟨_, rfl, _, _, rfl, rfl, (show (0 : Int) < 2000000001 by decide), _, _, rfl, rfl, q H _ (Same.refl _) ?_⟩
    have h1 := Int.emod_nonneg (c / 8) (show (2000000001 : Int) ≠ 0 by decide)
    have h2 := Int.emod_lt_of_pos (c / 8) (show (0 : Int) < 2000000001 by decide)
    exact ⟨by omega, by omega⟩
  refine ⟨_, rfl, rfl, _, rfl, ?_⟩
  refine ite2 (fun _ => ?_) (fun _ => ?_)
  · refine ⟨_, rfl, _, rfl, (by show 4 ≤ sizeLine; decide), fun p hp => ?_⟩
    obtain ⟨v, hv, hm⟩ := at_mod (xs := [.int 1000000000, .int (-1000000000), .int 999999999, .int (-999999999)]) (m := c / 8) 4 rfl (by decide)
    obtain ⟨n, rfl, hn⟩ := numV_out (List.all_eq_true.mp (show ([.int 1000000000, .int (-1000000000), .int 999999999, .int (-999999999)] : List V).all numV = true by decide) v hm)
    exact ⟨_, rfl, _, _, rfl, rfl, (show (0 : Int) < 4 by decide), p, _, _, _, rfl, rfl, .inl (.inl upd_same), hv, q _ n (same_new hp _) hn⟩
  refine ⟨_, rfl, rfl, _, rfl, ?_⟩
  refine ite2 (fun _ => ?_) (fun _ => ?_)
  · refine ⟨_, rfl, _, _, rfl, rfl, (show (0 : Int) < 60001 by decide), _, _, rfl, rfl, q H _ (Same.refl _) ?_⟩
    have h1 := Int.emod_nonneg (c / 8) (show (60001 : Int) ≠ 0 by decide)
    have h2 := Int.emod_lt_of_pos (c / 8) (show (0 : Int) < 60001 by decide)
    exact ⟨by omega, by omega⟩
  refine ⟨_, rfl, _, _, rfl, rfl, _, rfl, ?_⟩
  refine ite2 (fun _ => ?_) (fun _ => ?_)
  · refine ⟨_, rfl, _, rfl, _, rfl, (by show 17 ≤ sizeLine; decide), fun p hp => ?_⟩
    obtain ⟨v, hv, hm⟩ := at_mod (xs := [.int 0, .int 1, .int (-1), .int 2, .int 3, .int 4, .int 6, .int 8, .int 12, .int 24, .int (-2), .int (-1), .int 5, .int 1, .int 50000, .int 30000, .int 2000]) (m := c / 8) 17 rfl (by decide)
    obtain ⟨n, rfl, hn⟩ := numV_out (List.all_eq_true.mp (show ([.int 0, .int 1, .int (-1), .int 2, .int 3, .int 4, .int 6, .int 8, .int 12, .int 24, .int (-2), .int (-1), .int 5, .int 1, .int 50000, .int 30000, .int 2000] : List V).all numV = true by decide) v hm)
    exact ⟨_, rfl, _, _, rfl, rfl, (show (0 : Int) < 17 by decide), p, _, _, _, rfl, rfl, .inl (.inl upd_same), hv, q _ n (same_new hp _) hn⟩
  · refine ⟨_, rfl, _, _, rfl, rfl, (show (0 : Int) < 13 by decide), _, _, rfl, rfl, q H _ (Same.refl _) ?_⟩
    have h1 := Int.emod_nonneg (c / 8) (show (13 : Int) ≠ 0 by decide)
    have h2 := Int.emod_lt_of_pos (c / 8) (show (0 : Int) < 13 by decide)
    exact ⟨by omega, by omega⟩
end
end FC
namespace FC
open PySem L2 StX
theorem if_prop {c : TT} {t u v : TS} {D : Ends} {σ : L2.St} {H : Hp} (p : Prop) (hc : ∀ Q : Bool → Hp → Prop, (p → Q true H) → (¬ p → Q false H) → c σ H Q) (h1 : p → t { D with nx := v D } σ H) (h2 : ¬ p → u { D with nx := v D } σ H) : tSeq (tIfS c t u) v D σ H :=
  hc _ (fun h => iteT (h1 h)) (fun h => iteF (h2 h))
theorem at_ofA {α : Type} {xs : List α} {z : Int} {j : Nat} {v : α} (e : z = (j : Int)) (h : xs[j]? = some v) : atI xs z = some v := by
  rw [e]
  exact atI_nat h
theorem at_modA {α : Type} {xs : List α} {m : Int} (n : Nat) (hn : xs.length = n) (hp : 0 < n) : ∃ v, atI xs (m % (n : Int)) = some v ∧ v ∈ xs := by
  have h1 := Int.emod_nonneg m (show (n : Int) ≠ 0 by omega)
  have h2 := Int.emod_lt_of_pos m (show (0 : Int) < n by omega)
  have hj : (m % (n : Int)).toNat < xs.length := by omega
  have e : m % (n : Int) = (((m % (n : Int)).toNat : Nat) : Int) := by omega
  exact ⟨xs[(m % (n : Int)).toNat], at_ofA e (List.getElem?_eq_getElem hj), List.getElem_mem hj⟩
theorem at_lt {α : Type} {xs : List α} {k : Int} (h0 : 0 ≤ k) (h1 : k < xs.length) : ∃ v, atI xs k = some v ∧ v ∈ xs := by
  have hj : k.toNat < xs.length := by omega
  have e : k = ((k.toNat : Nat) : Int) := by omega
  exact ⟨xs[k.toNat], at_ofA e (List.getElem?_eq_getElem hj), List.getElem_mem hj⟩
/-! ### names -/
def Low (z : Str) : Prop := ∀ c ∈ z.cps.toList, 97 ≤ c ∧ c ≤ 122
def NameOk (z : Str) : Prop := 1 ≤ z.length ∧ z.length ≤ 8 ∧ Low z
abbrev signs : Str := "abcdefghijklmnopqrstuvwxyz"
theorem app_list (a b : Str) : (a ++ b).cps.toList = a.cps.toList ++ b.cps.toList := Array.toList_append
theorem app_len (a b : Str) : (a ++ b).length = a.length + b.length := Array.size_append
theorem Low.app {a b : Str} (ha : Low a) (hb : Low b) : Low (a ++ b) := fun c hc => by
  rw [app_list] at hc
  exact (List.mem_append.mp hc).elim (ha c) (hb c)
theorem cut_len (z : Str) (lo hi : Option Int) : (cutS z lo hi).length = min (HT.sIx z.length z.length hi - HT.sIx z.length 0 lo) (z.length - HT.sIx z.length 0 lo) := by
  show (((z.cps.toList.drop (HT.sIx z.length 0 lo)).take (HT.sIx z.length z.length hi - HT.sIx z.length 0 lo)).toArray).size = _
  rw [List.size_toArray, List.length_take, List.length_drop, Array.length_toList]
  rfl
theorem Low.cut {z : Str} (h : Low z) (lo hi : Option Int) : Low (cutS z lo hi) := fun c hc => by
  have hc' : c ∈ ((z.cps.toList.drop (HT.sIx z.length 0 lo)).take (HT.sIx z.length z.length hi - HT.sIx z.length 0 lo)) := by
    have : (cutS z lo hi).cps.toList = ((z.cps.toList.drop (HT.sIx z.length 0 lo)).take (HT.sIx z.length z.length hi - HT.sIx z.length 0 lo)) := by
      show (List.toArray _).toList = _
      rfl
    rw [this] at hc
    exact hc
  exact h c (List.drop_subset _ _ (List.take_subset _ _ hc'))
theorem Low.one {c : Nat} (h : 97 ≤ c ∧ c ≤ 122) : Low ⟨#[c]⟩ := fun x hx => by
  have : x ∈ [c] := hx
  rw [List.mem_singleton.mp this]
  exact h
theorem sign_at (m : Int) : ∃ c, atI signs.cps.toList (m % 26) = some c ∧ 97 ≤ c ∧ c ≤ 122 := by
  obtain ⟨c, h, hm⟩ := at_modA (xs := signs.cps.toList) (m := m) 26 (by decide +kernel) (by decide)
  have := List.all_eq_true.mp (show (signs.cps.toList.all fun c => decide (97 ≤ c ∧ c ≤ 122)) = true by decide +kernel) c hm
  exact ⟨c, h, of_decide_eq_true this⟩
theorem signs_len : signs.length ≤ sizeLine := by
  have : signs.length = 26 := by decide +kernel
  rw [this]
  decide
def nameV : V → Bool
  | .str z => decide (1 ≤ z.length) && decide (z.length ≤ 8) && z.cps.toList.all fun c => decide (97 ≤ c ∧ c ≤ 122)
  | _ => false
theorem nameV_out {v : V} (h : nameV v = true) : ∃ z, v = .str z ∧ NameOk z := by
  cases v with
  | str z =>
    have h' : (decide (1 ≤ z.length) && decide (z.length ≤ 8) && z.cps.toList.all fun c => decide (97 ≤ c ∧ c ≤ 122)) = true := h
    simp only [Bool.and_eq_true, decide_eq_true_eq, List.all_eq_true] at h'
    exact ⟨z, rfl, h'.1.1, h'.1.2, fun c hc => h'.2 c hc⟩
  | _ => cases h
theorem sIx_pos {n d : Nat} {v : Int} (h : 0 ≤ v) : HT.sIx n d (some v) = min v.toNat n := by
  show (if v < 0 then (v + (n : Int)).toNat else min v.toNat n) = _
  rw [if_neg (by omega)]
section
variable {P : Program} {w : World} {K : PySem.W.Frag} {mg : Str → Option Value} {base : Heap} {f g : Addr} {fd gd : FuncData}
def spNameBy : Sp := fun vs H Q _ => ∃ c k : Int, vs = [.int c, .int k] ∧ 0 ≤ c ∧ 0 ≤ k ∧ k ≤ 1000 ∧ ∀ (H' : Hp) (z : Str), Same H H' → NameOk z → Q (.str z) H'
theorem scNameBy : FnScope ["_law_seed", "_law_k", "_law_signs", "_law_words", "_law_more", "_law_name", "_law_at", "_law_turn", "_law_spot", "_law_two", "_law_sign"] ["_law_seed", "_law_k"] (defScope sNameBy) := ⟨rfl, rfl, rfl, by decide +kernel, rfl, by decide +kernel, by decide +kernel⟩
theorem ok_nameBy (d : Df K mg "_law_name_by" sNameBy ["_law_seed", "_law_k"] f fd) (z : Bl mg) : FnOk P w K mg base CX0 1 f fd ["_law_seed", "_law_k"] spNameBy := by
  refine d.F.ok scNameBy (fun vs H Q E h => ?_) (fun cdv A outer s H vs Q E hr h => ?_)
  · obtain ⟨i, k, rfl, _⟩ := h
    rfl
  obtain ⟨c, k, rfl, hc, hk0, hk1, q⟩ := h
  refine ⟨_, (pss_cons (ps_set (i := 2) scNameBy.nd rfl (.inl rfl) pe_str)
    (pss_cons (ps_set (i := 3) scNameBy.nd rfl (.inl rfl) (pe_lst (pa_cons pe_str (pa_cons pe_str (pa_cons pe_str (pa_cons pe_str (pa_cons pe_str (pa_cons pe_str (pa_cons pe_str (pa_cons pe_str (pa_cons pe_str (pa_cons pe_str (pa_cons pe_str pa_nil)))))))))))))
    (pss_cons (ps_set (i := 4) scNameBy.nd rfl (.inl rfl) (pe_op op_fdiv (pv 0) pe_int))
    (pss_cons (ps_if (PW.pt (pw_and (pt_cmpR op_eq (pe_op op_mod (pv 0) pe_int) pe_int (nomark _)) (pw_and1 (pt_cmpR op_lt (pv 1) pe_int (nomark _))))) (pss_one (ps_ret (pe_ix ix_list (pv 3) (pe_op op_mod (pe_op op_add (pv 4) (pv 1)) pe_int) (fun _ _ => rfl)))) pss_nil)
    (pss_cons (ps_set (i := 5) scNameBy.nd rfl (.inl rfl) pe_str)
    (pss_cons (ps_set (i := 6) scNameBy.nd rfl (.inl rfl) (pe_op op_fdiv (pv 4) pe_int))
    (pss_cons (ps_for PassesOwn.never rfl (pi_range1 (by rfl) z.range (pa_cons (pe_op op_add pe_int (pe_op op_mod (pv 4) pe_int)) pa_nil)) (pg_name (i := 7) scNameBy.nd rfl (.inl rfl)) (pss_cons (ps_set (i := 6) scNameBy.nd rfl (.inl rfl) (pe_op op_add (pe_op op_add (pv 6) pe_int) (pe_op op_mod (pe_op op_fdiv (pv 4) pe_int) pe_int)))
    (pss_one (ps_set (i := 5) scNameBy.nd rfl (.inl rfl) (pe_op op_add_str (pv 5) (pe_ix ix_str (pv 2) (pe_op op_mod (pv 6) pe_int) (fun _ _ => rfl)))))))
    (pss_cons (ps_set (i := 8) scNameBy.nd rfl (.inl rfl) (pe_op op_mod (pe_op op_fdiv (pv 4) pe_int) (pe_callB call_len_str (by rfl) z.len PySem.boot_len (pa_cons (pv 5) pa_nil))))
    (pss_cons (ps_if (pt_cmpR op_gt (pv 1) pe_int (nomark _)) (pss_cons (ps_set (i := 8) scNameBy.nd rfl (.inl rfl) (pe_callB (call_min2 rfl) (by rfl) z.min (by decide +kernel) (pa_cons (pv 8) (pa_cons pe_int pa_nil))))
    (pss_cons (ps_set (i := 9) scNameBy.nd rfl (.inl rfl) (pe_op op_add_str (pe_ix ix_str (pv 2) (pe_op op_mod (pe_op op_add (pv 6) (pe_op op_fdiv (pv 1) pe_int)) pe_int) (fun _ _ => rfl)) (pe_ix ix_str (pv 2) (pe_op op_mod (pv 1) pe_int) (fun _ _ => rfl))))
    (pss_one (ps_ret (pe_op op_add_str (pe_op op_add_str (pe_slice sl_str (pv 5) po_none (po_some (pv 8))) (pv 9)) (pe_slice sl_str (pv 5) (po_some (pv 8)) (po_some pe_int))))))) pss_nil)
    (pss_cons (ps_if (pt_cmpR op_gt (pe_op op_mod (pv 0) pe_int) pe_int (nomark _)) (pss_one (ps_ret (pe_op op_add_str (pe_ix ix_str (pv 2) (pe_op op_mod (pe_op op_add (pe_op op_fdiv (pv 4) pe_int) (pv 1)) pe_int) (fun _ _ => rfl)) (pv 5)))) pss_nil)
    (pss_cons (ps_if (pt_cmpR op_eq (pv 1) pe_int (nomark _)) (pss_cons (ps_set (i := 10) scNameBy.nd rfl (.inl rfl) (pe_ix ix_str (pv 2) (pe_op op_mod (pe_op op_add (pe_m1 PySem.F.slot_str_find PySem.F.type_str_find mt_find (pv 2) (pe_ix ix_str (pv 5) (pv 8) (fun _ _ => rfl))) pe_int) pe_int) (fun _ _ => rfl)))
    (pss_one (ps_ret (pe_op op_add_str (pe_op op_add_str (pe_slice sl_str (pv 5) po_none (po_some (pv 8))) (pv 10)) (pe_slice sl_str (pv 5) (po_some (pe_op op_add (pv 8) pe_int)) po_none))))) pss_nil)
    (pss_one (ps_ret (pe_op op_add_str (pv 5) (pe_ix ix_list (pe_lst (pa_cons pe_str (pa_cons pe_str (pa_cons (pe_ix ix_str (pv 2) (pe_op op_mod (pv 6) pe_int) (fun _ _ => rfl)) (pa_cons (pe_ix ix_str (pv 2) (pe_op op_mod (pe_op op_add (pv 6) pe_int) pe_int) (fun _ _ => rfl)) pa_nil))))) (pv 1) (fun _ _ => rfl)))))))))))))))), ?_⟩
  refine ⟨(by show 11 ≤ sizeLine; decide), fun pw hpw => ?_⟩
  have g1 := same_new hpw (.lst [.str "num", .str "name", .str "sum", .str "less", .str "times", .str "part", .str "rest", .str "below", .str "same", .str "when", .str "let"])
  have hw1 : upd H pw (.lst [.str "num", .str "name", .str "sum", .str "less", .str "times", .str "part", .str "rest", .str "below", .str "same", .str "when", .str "let"]) pw = some (.lst [.str "num", .str "name", .str "sum", .str "less", .str "times", .str "part", .str "rest", .str "below", .str "same", .str "when", .str "let"]) := upd_same
  generalize upd H pw (.lst [.str "num", .str "name", .str "sum", .str "less", .str "times", .str "part", .str "rest", .str "below", .str "same", .str "when", .str "let"]) = H1 at *
  refine ⟨_, rfl, _, _, rfl, rfl, ⟨by decide, by decide⟩, ?_⟩
  dsimp only [gName, tNext]
  refine if_prop (c % 6 = 0 ∧ k < 4) (fun Q h1 h2 => ?_) (fun hc1 => ?_) (fun hc1 => ?_)
  · refine ⟨_, rfl, _, _, rfl, rfl, (show (0 : Int) < 6 by decide), rfl, _, rfl, ?_⟩
    refine ite2 (fun a => ⟨_, rfl, _, _, rfl, rfl, _, rfl, ?_⟩) (fun a => h2 fun z => a (decide_eq_true (congrArg V.int z.1)))
    have a' : c % 6 = 0 := by injection of_decide_eq_true a
    by_cases b : k < 4
    · rw [decide_eq_true b]; exact h1 ⟨a', b⟩
    · rw [decide_eq_false b]; exact h2 fun z => b z.2
  · obtain ⟨v, hv, hm⟩ := at_modA (xs := [V.str "num", .str "name", .str "sum", .str "less", .str "times", .str "part", .str "rest", .str "below", .str "same", .str "when", .str "let"]) (m := c / 6 + k) 11 rfl (by decide)
    obtain ⟨y, rfl, hy⟩ := nameV_out (List.all_eq_true.mp (show ([V.str "num", .str "name", .str "sum", .str "less", .str "times", .str "part", .str "rest", .str "below", .str "same", .str "when", .str "let"] : List V).all nameV = true by decide +kernel) v hm)
    exact ⟨_, rfl, _, rfl, _, rfl, _, _, rfl, rfl, _, _, rfl, rfl, (show (0 : Int) < 11 by decide), pw, _, _, _, rfl, rfl, .inl (.inl hw1), hv, q H1 y g1 hy⟩
  refine ⟨_, rfl, _, _, rfl, rfl, ⟨by decide, by decide⟩, ?_⟩
  have hm7 := Int.emod_nonneg (c / 6) (show (7 : Int) ≠ 0 by decide)
  have hm7' := Int.emod_lt_of_pos (c / 6) (show (0 : Int) < 7 by decide)
  refine ⟨_, rfl, _, _, rfl, rfl, (show (0 : Int) < 7 by decide), _, _, rfl, rfl, _, rfl, (by omega), (by omega), ?_⟩
  refine for_range (lo := 0) (n := (1 + c / 6 % 7).toNat) (fun i σ H2 => H2 = H1 ∧ ∃ (n : Str) (t : Int) (x : Option V), n.length = i ∧ Low n ∧ 0 ≤ t ∧ σ = [some (.int c), some (.int k), some (.str signs), some (.ref pw), some (.int (c / 6)), some (.str n), some (.int t), x, none, none, none])
    ⟨rfl, "", c / 6 / 7, none, rfl, (fun x hx => nomatch hx), by omega, rfl⟩ (fun i σ H2 hi hP => ?_) (fun σ H2 hP => ?_)
  · obtain ⟨rfl, n, t, x, hl, hlow, ht, rfl⟩ := hP
    have hm25 := Int.emod_nonneg (c / 6 / 182) (show (25 : Int) ≠ 0 by decide)
    refine ⟨_, rfl, _, _, rfl, rfl, _, rfl, _, _, rfl, rfl, ⟨by decide, by decide⟩, _, _, rfl, rfl, (show (0 : Int) < 25 by decide), _, _, rfl, rfl, ?_⟩
    obtain ⟨s, hs, hs2⟩ := sign_at (t + 1 + c / 6 / 182 % 25)
    refine ⟨_, rfl, _, rfl, _, rfl, _, _, rfl, rfl, (show (0 : Int) < 26 by decide), _, _, s, rfl, rfl, signs_len, hs, _, _, rfl, rfl, ?_, rfl, n ++ ⟨#[s]⟩, t + 1 + c / 6 / 182 % 25, _, ?_, hlow.app (Low.one hs2), by omega, rfl⟩
    · show n.length + 1 ≤ sizeLine
      exact sz (by omega)
    · rw [app_len, hl]
      rfl
  · obtain ⟨rfl, n, t, x, hl, hlow, ht, rfl⟩ := hP
    have hn1 : 1 ≤ n.length := by omega
    have hn7 : n.length ≤ 7 := by omega
    have hnz : n.length ≤ sizeLine := sz (by omega)
    refine ⟨_, rfl, _, _, rfl, rfl, ⟨by decide, by decide⟩, _, rfl, _, rfl, hnz, _, _, rfl, rfl, (show (0 : Int) < (n.length : Int) by omega), ?_⟩
    have hp0 := Int.emod_nonneg (c / 6 / 4550) (show (n.length : Int) ≠ 0 by omega)
    have hp1 := Int.emod_lt_of_pos (c / 6 / 4550) (show (0 : Int) < (n.length : Int) by omega)
    dsimp only [gName, tNext]
    refine if_prop (k > 3) (fun Q h1 h2 => ?_) (fun hc2 => ?_) (fun hc2 => ?_)
    · refine ⟨_, rfl, _, _, rfl, rfl, _, rfl, ?_⟩
      by_cases b : 3 < k
      · rw [decide_eq_true b]; exact h1 b
      · rw [decide_eq_false b]; exact h2 b
    · obtain ⟨s1, hs1, hs1'⟩ := sign_at (t + k / 26)
      obtain ⟨s2, hs2, hs2'⟩ := sign_at k
      refine ⟨_, rfl, _, _, rfl, ?_⟩
      have hsp6 : (if (6 : Int) < (c / 6 / 4550 % (n.length : Int)) then 6 else (c / 6 / 4550 % (n.length : Int))) = (c / 6 / 4550 % (n.length : Int)) := if_neg (by omega)
      refine ⟨_, rfl, _, rfl, _, rfl, _, _, rfl, rfl, ⟨by decide, by decide⟩, _, _, rfl, rfl, _, _, rfl, rfl, (show (0 : Int) < 26 by decide), _, _, s1, rfl, rfl, signs_len, hs1, ?_⟩
      refine ⟨_, rfl, _, rfl, _, _, rfl, rfl, (show (0 : Int) < 26 by decide), _, _, s2, rfl, rfl, signs_len, hs2, _, _, rfl, rfl, (by show 1 + 1 ≤ sizeLine; decide), ?_⟩
      have l1 := cut_len n none (some (if (6 : Int) < (c / 6 / 4550 % (n.length : Int)) then 6 else (c / 6 / 4550 % (n.length : Int))))
      have l2 := cut_len n (some (if (6 : Int) < (c / 6 / 4550 % (n.length : Int)) then 6 else (c / 6 / 4550 % (n.length : Int)))) (some 6)
      rw [hsp6, sIx_pos hp0] at l1 l2
      rw [HT.sIx_none] at l1
      rw [sIx_pos (by decide)] at l2
      have hl2 : ((⟨#[s1]⟩ : Str) ++ ⟨#[s2]⟩).length = 2 := by rw [app_len]; rfl
      refine ⟨_, rfl, _, rfl, _, rfl, n, rfl, hnz, _, rfl, _, _, rfl, rfl, ?_, ?_⟩
      · rw [hsp6, hl2]
        exact sz (by omega)
      have hl3 : (cutS n none (some (if (6 : Int) < (c / 6 / 4550 % (n.length : Int)) then 6 else (c / 6 / 4550 % (n.length : Int)))) ++ ((⟨#[s1]⟩ : Str) ++ ⟨#[s2]⟩)).length = (cutS n none (some (c / 6 / 4550 % (n.length : Int)))).length + 2 := by rw [hsp6, app_len, hl2]
      refine ⟨_, rfl, _, rfl, _, rfl, _, rfl, n, rfl, hnz, _, _, rfl, rfl, ?_, ?_⟩
      · rw [hl3, hsp6]
        exact sz (by omega)
      refine q _ _ g1 ⟨?_, ?_, ?_⟩
      · rw [app_len, hl3]; omega
      · rw [app_len, hl3, hsp6]; omega
      · exact ((hlow.cut _ _).app ((Low.one hs1').app (Low.one hs2'))).app (hlow.cut _ _)
    dsimp only [gName, tNext]
    refine if_prop (c % 6 > 3) (fun Q h1 h2 => ?_) (fun hc3 => ?_) (fun hc3 => ?_)
    · refine ⟨_, rfl, _, _, rfl, rfl, (show (0 : Int) < 6 by decide), _, _, rfl, rfl, _, rfl, ?_⟩
      by_cases b : 3 < c % 6
      · rw [decide_eq_true b]; exact h1 b
      · rw [decide_eq_false b]; exact h2 b
    · obtain ⟨s1, hs1, hs1'⟩ := sign_at (c / 6 / 7 + k)
      refine ⟨_, rfl, _, rfl, _, _, rfl, rfl, ⟨by decide, by decide⟩, _, rfl, _, _, rfl, rfl, _, _, rfl, rfl, (show (0 : Int) < 26 by decide), _, _, s1, rfl, rfl, signs_len, hs1, _, rfl, _, _, rfl, rfl, ?_, ?_⟩
      · show 1 + n.length ≤ sizeLine
        exact sz (by omega)
      refine q _ _ g1 ⟨?_, ?_, (Low.one hs1').app hlow⟩
      · rw [app_len]; omega
      · rw [app_len]
        show 1 + n.length ≤ 8
        omega
    dsimp only [gName, tNext]
    refine if_prop (k = 1) (fun Q h1 h2 => ?_) (fun hc4 => ?_) (fun hc4 => ?_)
    · refine ⟨_, rfl, rfl, _, rfl, ?_⟩
      by_cases b : k = 1
      · rw [decide_eq_true (congrArg V.int b)]; exact h1 b
      · rw [decide_eq_false (fun z => b (by injection z))]; exact h2 b
    · have hsl : (c / 6 / 4550 % (n.length : Int)).toNat < n.cps.toList.length := by
        have : n.cps.toList.length = n.length := Array.length_toList
        omega
      obtain ⟨u, hu, hu2⟩ := at_lt (xs := n.cps.toList) hp0 (by omega)
      obtain ⟨s1, hs1, hs1'⟩ := sign_at (Txt.find signs ⟨#[u]⟩ + 1)
      refine ⟨_, rfl, _, rfl, ⟨_, rfl⟩, _, rfl, _, rfl, n, _, u, rfl, rfl, hnz, hu, _, _, rfl, rfl, _, _, rfl, rfl, _, _, rfl, rfl, (show (0 : Int) < 26 by decide), _, _, s1, rfl, rfl, signs_len, hs1, ?_⟩
      have l1 := cut_len n none (some (c / 6 / 4550 % (n.length : Int)))
      have l2 := cut_len n (some ((c / 6 / 4550 % (n.length : Int)) + 1)) none
      rw [HT.sIx_none, sIx_pos hp0] at l1
      rw [HT.sIx_none, sIx_pos (by omega)] at l2
      refine ⟨_, rfl, _, rfl, _, rfl, n, rfl, hnz, _, rfl, _, _, rfl, rfl, ?_, ?_⟩
      · show (cutS n none (some (c / 6 / 4550 % (n.length : Int)))).length + 1 ≤ sizeLine
        exact sz (by omega)
      have hl3 : (cutS n none (some (c / 6 / 4550 % (n.length : Int))) ++ (⟨#[s1]⟩ : Str)).length = (cutS n none (some (c / 6 / 4550 % (n.length : Int)))).length + 1 := app_len _ _
      refine ⟨_, rfl, _, rfl, _, _, rfl, rfl, _, rfl, n, rfl, hnz, _, _, rfl, rfl, ?_, ?_⟩
      · rw [hl3]
        show (cutS n none (some (c / 6 / 4550 % (n.length : Int)))).length + 1 + (cutS n (some ((c / 6 / 4550 % (n.length : Int)) + 1)) none).length ≤ sizeLine
        exact sz (by omega)
      refine q _ _ g1 ⟨?_, ?_, ((hlow.cut _ _).app (Low.one hs1')).app (hlow.cut _ _)⟩
      · rw [app_len, hl3]; omega
      · rw [app_len, hl3]
        show (cutS n none (some (c / 6 / 4550 % (n.length : Int)))).length + 1 + (cutS n (some ((c / 6 / 4550 % (n.length : Int)) + 1)) none).length ≤ 8
        omega
    · obtain ⟨s1, hs1, hs1'⟩ := sign_at t
      obtain ⟨s2, hs2, hs2'⟩ := sign_at (t + 1)
      obtain ⟨v, hv, hm⟩ := at_lt (xs := [V.str "", .str "", .str ⟨#[s1]⟩, .str ⟨#[s2]⟩]) (k := k) hk0 (by simp; omega)
      have hz : ∃ y : Str, v = .str y ∧ y.length ≤ 1 ∧ Low y := by
        simp only [List.mem_cons, List.mem_nil_iff, or_false] at hm
        rcases hm with rfl | rfl | rfl | rfl
        · exact ⟨_, rfl, Nat.zero_le _, fun x hx => nomatch hx⟩
        · exact ⟨_, rfl, Nat.zero_le _, fun x hx => nomatch hx⟩
        · exact ⟨_, rfl, Nat.le_refl _, Low.one hs1'⟩
        · exact ⟨_, rfl, Nat.le_refl _, Low.one hs2'⟩
      obtain ⟨y, rfl, hy1, hy2⟩ := hz
      refine ⟨_, rfl, _, rfl, _, rfl, _, _, rfl, rfl, (show (0 : Int) < 26 by decide), _, _, s1, rfl, rfl, signs_len, hs1, _, rfl, _, rfl, _, _, rfl, rfl, _, _, rfl, rfl, (show (0 : Int) < 26 by decide), _, _, s2, rfl, rfl, signs_len, hs2, (by show 4 ≤ sizeLine; decide), fun p hp => ?_⟩
      refine ⟨_, rfl, p, _, _, _, rfl, rfl, .inl (.inl upd_same), hv, _, _, rfl, rfl, ?_, q _ _ (g1.trans (same_new hp _)) ⟨?_, ?_, hlow.app hy2⟩⟩
      · exact sz (by omega)
      · rw [app_len]; omega
      · rw [app_len]; omega
end
end FC
namespace FC
open PySem L2 StX
/-- an if whose test may come out either way -/
theorem if_two {c : TT} {t u v : TS} {D : Ends} {σ : L2.St} {H : Hp} (p : Prop) (hc : ∀ Q : Bool → Hp → Prop, (p → Q true H) → Q false H → c σ H Q) (h1 : p → t { D with nx := v D } σ H) (h2 : u { D with nx := v D } σ H) : tSeq (tIfS c t u) v D σ H :=
  hc _ (fun h => iteT (h1 h)) (iteF h2)
/-- an if that may store into one name -/
theorem if_set {c : TT} {te : TE} {i : Nat} {v : TS} {D : Ends} {σ : L2.St} {H : Hp} (p : Prop) (ok : V → Hp → Prop) (w0 : V) (h0 : ok w0 H) (hσ : σ.set i (some w0) = σ) (hc : ∀ Q : Bool → Hp → Prop, (p → Q true H) → Q false H → c σ H Q)
    (ht : p → ∀ Q : VK, (∀ w H', ok w H' → Q w H') → te σ H Q) (hr : ∀ w H', ok w H' → v D (σ.set i (some w)) H') : tSeq (tIfS c (tAsg te (gName i)) tNext) v D σ H :=
  hc _ (fun h => iteT (ht h _ fun w H' hw => hr w H' hw)) (iteF (by
    have := hr w0 H h0
    rw [hσ] at this
    exact this))
def Ex.ok : Ex → Prop
  | .num n => NumOk n
  | .nam w => NameOk w
  | .two _ a b => a.ok ∧ b.ok
  | .whn c a b => c.ok ∧ a.ok ∧ b.ok
  | .lett w a b => NameOk w ∧ a.ok ∧ b.ok
def Ex.word : Ex → Str
  | .num _ => "num"
  | .nam _ => "name"
  | .two o _ _ => o.str
  | .whn _ _ _ => "when"
  | .lett _ _ _ => "let"
theorem Bears.first {H : Hp} {v : V} {e : Ex} (b : Bears H v e) : ∃ a xs, v = .ref a ∧ H a = some (.tup (.str e.word :: xs)) := by
  cases b with
  | num h => exact ⟨_, _, rfl, h⟩
  | nam h => exact ⟨_, _, rfl, h⟩
  | two h _ _ => exact ⟨_, _, rfl, h⟩
  | whn h _ _ _ => exact ⟨_, _, rfl, h⟩
  | lett h _ _ => exact ⟨_, _, rfl, h⟩
def opsV : List V := [.str "sum", .str "less", .str "times", .str "part", .str "rest", .str "below", .str "same"]
theorem ops_in {v : V} (h : v ∈ opsV) : ∃ o : Op, v = .str o.str := by
  simp only [opsV, List.mem_cons, List.mem_nil_iff, or_false] at h
  rcases h with rfl | rfl | rfl | rfl | rfl | rfl | rfl
  · exact ⟨.sum, rfl⟩
  · exact ⟨.less, rfl⟩
  · exact ⟨.times, rfl⟩
  · exact ⟨.part, rfl⟩
  · exact ⟨.rest, rfl⟩
  · exact ⟨.below, rfl⟩
  · exact ⟨.same, rfl⟩
theorem word_op {e : Ex} (h : inV (.str e.word) opsV = true) : ∃ o : Op, V.str e.word = .str o.str := by
  cases e with
  | num _ => exact absurd (show inV (.str "num") opsV = true from h) (by decide)
  | nam _ => exact absurd (show inV (.str "name") opsV = true from h) (by decide)
  | two o _ _ => exact ⟨o, rfl⟩
  | whn _ _ _ => exact absurd (show inV (.str "when") opsV = true from h) (by decide)
  | lett _ _ _ => exact absurd (show inV (.str "let") opsV = true from h) (by decide)
theorem BearsL.app {H : Hp} : ∀ {xs ys : List V} {es fs : List Ex}, BearsL H xs es → BearsL H ys fs → BearsL H (xs ++ ys) (es ++ fs)
  | _, _, _, _, .nil, s => s
  | _, _, _, _, .cons a r, s => .cons a (BearsL.app r s)
theorem BearsL.split1 {H : Hp} : ∀ {xs : List V} {es : List Ex}, BearsL H xs es → 0 < xs.length → ∃ pre x epre ex, xs = pre ++ [x] ∧ es = epre ++ [ex] ∧ BearsL H pre epre ∧ Bears H x ex
  | _, _, .nil, h => absurd h (Nat.lt_irrefl _)
  | _, _, .cons (a := x) (b := e) b .nil, _ => ⟨[], x, [], e, rfl, rfl, .nil, b⟩
  | _, _, .cons (a := x) (b := e) b (.cons c r), _ => by
    obtain ⟨pre, y, epre, ey, e1, e2, h1, h2⟩ := BearsL.split1 (.cons c r) (Nat.zero_lt_succ _)
    exact ⟨x :: pre, y, e :: epre, ey, by rw [e1]; rfl, by rw [e2]; rfl, .cons b h1, h2⟩
theorem BearsL.split2 {H : Hp} {xs : List V} {es : List Ex} (b : BearsL H xs es) (h : 1 < xs.length) : ∃ pre x y epre ex ey, xs = pre ++ [x, y] ∧ es = epre ++ [ex, ey] ∧ BearsL H pre epre ∧ Bears H x ex ∧ Bears H y ey := by
  obtain ⟨pre, y, epre, ey, rfl, rfl, b1, by1⟩ := b.split1 (by omega)
  rw [List.length_append] at h
  obtain ⟨pre2, x, epre2, ex, rfl, rfl, b2, bx⟩ := b1.split1 (by simp at h; omega)
  exact ⟨pre2, x, y, epre2, ex, ey, by simp, by simp, b2, bx, by1⟩
theorem BearsL.split3 {H : Hp} {xs : List V} {es : List Ex} (b : BearsL H xs es) (h : 2 < xs.length) : ∃ pre w x y epre ew ex ey, xs = pre ++ [w, x, y] ∧ es = epre ++ [ew, ex, ey] ∧ BearsL H pre epre ∧ Bears H w ew ∧ Bears H x ex ∧ Bears H y ey := by
  obtain ⟨pre, y, epre, ey, rfl, rfl, b1, by1⟩ := b.split1 (by omega)
  rw [List.length_append] at h
  obtain ⟨pre2, w, x, epre2, ew, ex, rfl, rfl, b2, bw, bx⟩ := b1.split2 (by simp at h; omega)
  exact ⟨pre2, w, x, y, epre2, ew, ex, ey, by simp, by simp, b2, bw, bx, by1⟩
theorem at_neg {xs : List V} {v : V} (k : Nat) (hk : 0 < k) (hl : k ≤ xs.length) (h : xs[xs.length - k]? = some v) : atI xs (-(k : Int)) = some v := by
  unfold atI ixN
  rw [if_neg (by omega), if_pos (by omega)]
  show xs[(-(k : Int) + (xs.length : Int)).toNat]? = some v
  have e : (-(k : Int) + (xs.length : Int)).toNat = xs.length - k := by omega
  rw [e]
  exact h
theorem cut_app (pre suf : List V) (k : Nat) (hk : suf.length = k) (h0 : 0 < k) : cutV (pre ++ suf) none (some (-(k : Int))) = pre := by
  unfold cutV
  have e1 : HT.sIx (pre ++ suf).length 0 none = 0 := rfl
  have e2 : HT.sIx (pre ++ suf).length (pre ++ suf).length (some (-(k : Int))) = pre.length := by
    show (if -(k : Int) < 0 then (-(k : Int) + ((pre ++ suf).length : Int)).toNat else _) = _
    rw [if_pos (by omega), List.length_append]
    omega
  rw [e1, e2, List.drop_zero, Nat.sub_zero, List.take_left']
  rfl
/-- behind the last list of a step -/
theorem step_fin {H H4 : Hp} {pre : List V} {epre : List Ex} {t l p : Addr} {en : Ex} (g : Same H H4) (bp : BearsL H pre epre) (bn : Bears H4 (.ref t) en) (hl : H4 l = none) (hp : upd H4 l (.lst [.ref t]) p = none) :
    Same H (upd (upd H4 l (.lst [.ref t])) p (.lst (pre ++ [.ref t]))) ∧ BearsL (upd (upd H4 l (.lst [.ref t])) p (.lst (pre ++ [.ref t]))) (pre ++ [.ref t]) (epre ++ [en]) := by
  have g2 := (same_new hl (.lst [.ref t])).trans (same_new hp (.lst (pre ++ [.ref t])))
  exact ⟨g.trans g2, BearsL.app (bp.mono (Tups.of (g.trans g2))) (.cons (bn.mono (Tups.of g2)) .nil)⟩
theorem new_h {H : Hp} {p : Addr} {o : HO} {R : Hp → Prop} (hp : H p = none) (k : ∀ H1, Same H H1 → H1 p = some o → R H1) : R (upd H p o) := k _ (same_new hp o) upd_same
end FC
namespace FC
open PySem L2 StX
def depS : List Ex → Nat
  | [] => 0
  | e :: r => e.deep + depS r
theorem depS_append : ∀ (l m : List Ex), depS (l ++ m) = depS l + depS m
  | [], m => (Nat.zero_add _).symm
  | e :: r, m => by
    show e.deep + depS (r ++ m) = e.deep + depS r + depS m
    rw [depS_append r m, Nat.add_assoc]
theorem any_b {Q : Bool → Hp → Prop} {b : Bool} {H : Hp} (h1 : Q true H) (h2 : Q false H) : Q b H := by
  cases b
  · exact h2
  · exact h1
section
variable {P : Program} {w : World} {K : PySem.W.Frag} {mg : Str → Option Value} {base : Heap} {f f1 f2 : Addr} {fd fd1 fd2 : FuncData}
def OkL (es : List Ex) : Prop := ∀ e ∈ es, e.ok
theorem OkL.app {es fs : List Ex} (a : OkL es) (b : OkL fs) : OkL (es ++ fs) := fun e h => (List.mem_append.mp h).elim (a e) (b e)
theorem OkL.one {e : Ex} (h : e.ok) : OkL [e] := fun x hx => by rw [List.mem_singleton.mp hx]; exact h
theorem OkL.left {es fs : List Ex} (a : OkL (es ++ fs)) : OkL es := fun e h => a e (List.mem_append_left _ h)
def spStep : Sp := fun vs H Q _ => ∃ (a : Addr) (xs : List V) (es : List Ex) (kind more seed : Int), vs = [.ref a, .int kind, .int more, .int seed] ∧ H a = some (.lst xs) ∧ BearsL H xs es ∧ OkL es ∧ 0 ≤ more ∧ 0 ≤ seed ∧ xs.length ≤ 900 ∧
  ∀ (H' : Hp) (p : Addr) (xs' : List V) (es' : List Ex), Same H H' → H' p = some (.lst xs') → BearsL H' xs' es' → OkL es' → es'.length ≤ es.length + 1 → sizeL es' ≤ sizeL es + 5 → depS es' ≤ depS es + 1 → Q (.ref p) H'
theorem scStep : FnScope ["_law_pile", "_law_kind", "_law_more", "_law_seed", "_law_words", "_law_word", "_law_number", "_law_cond", "_law_turn"] ["_law_pile", "_law_kind", "_law_more", "_law_seed"] (defScope sStep) := ⟨rfl, rfl, rfl, by decide +kernel, rfl, by decide +kernel, by decide +kernel⟩
theorem ok_step (d : Df K mg "_law_step" sStep ["_law_pile", "_law_kind", "_law_more", "_law_seed"] f fd) (z : Bl mg) (d_nameBy : Df K mg "_law_name_by" sNameBy ["_law_seed", "_law_k"] f1 fd1) (d_numBy : Df K mg "_law_number_by" sNumBy ["_law_cell"] f2 fd2) :
    FnOk P w K mg base CX0 2 f fd ["_law_pile", "_law_kind", "_law_more", "_law_seed"] spStep := by
  refine d.F.ok scStep (fun vs H Q E h => ?_) (fun cdv A outer s H vs Q E hr h => ?_)
  · obtain ⟨a, xs, es, kind, more, seed, rfl, _⟩ := h
    rfl
  obtain ⟨a, xs, es, kind, more, seed, rfl, h, b, hok, hm0, hs0, hlen, q⟩ := h
  have G_nameBy := ok_nameBy (P := P) (w := w) (base := base) d_nameBy z
  have G_numBy := ok_numBy (P := P) (w := w) (base := base) d_numBy
  refine ⟨_, (pss_cons (ps_set (i := 4) scStep.nd rfl (.inl rfl) (pe_lst (pa_cons pe_str (pa_cons pe_str (pa_cons pe_str (pa_cons pe_str (pa_cons pe_str (pa_cons pe_str (pa_cons pe_str pa_nil)))))))))
    (pss_cons (ps_set (i := 5) scStep.nd rfl (.inl rfl) (pe_ix ix_list (pv 4) (pe_op op_mod (pv 2) pe_int) (fun _ _ => rfl)))
    (pss_cons (ps_if (PW.pt (pw_and (PW.pt (pw_or (pt_cmpR op_eq (pv 1) pe_int (nomark _)) (pw_or1 (pt_cmpR op_gt (pv 1) pe_int (nomark _))))) (pw_and1 (pt_cmpR op_gt (pe_callB call_len_seq (by rfl) z.len PySem.boot_len (pa_cons (pv 0) pa_nil)) pe_int (nomark _))))) (pss_one (ps_ret (pe_op op_cat (pe_slice sl_list (pv 0) po_none (po_some (pe_un un_neg pe_int))) (pe_lst (pa_cons (pe_tup (pa_cons pe_str (pa_cons (pe_call G_nameBy (hr.mono (by omega)) (by rfl) d_nameBy.m d_nameBy.k d_nameBy.b .nil pass0 (pa_cons (pv 3) (pa_cons (pe_op op_mod (pv 2) pe_int) pa_nil))) (pa_cons (pe_ix ix_list (pv 0) (pe_un un_neg pe_int) (fun _ _ => rfl)) (pa_cons (pe_ix ix_list (pv 0) (pe_un un_neg pe_int) (fun _ _ => rfl)) pa_nil))))) pa_nil))))) pss_nil)
    (pss_cons (ps_if (PW.pt (pw_and (pt_cmpR op_gt (pv 1) pe_int (nomark _)) (pw_and1 (pt_cmpR op_gt (pe_callB call_len_seq (by rfl) z.len PySem.boot_len (pa_cons (pv 0) pa_nil)) pe_int (nomark _))))) (pss_cons (ps_if (PW.pt (pw_and (pt_cmpR op_eq (pv 1) pe_int (nomark _)) (pw_and1 (pt_cmpR op_in_seq (pe_ix ix_tup (pe_ix ix_list (pv 0) (pe_un un_neg pe_int) (fun _ _ => rfl)) pe_int (fun _ _ => rfl)) (pv 4) rfl)))) (pss_one (ps_set (i := 5) scStep.nd rfl (.inl rfl) (pe_ix ix_tup (pe_ix ix_list (pv 0) (pe_un un_neg pe_int) (fun _ _ => rfl)) pe_int (fun _ _ => rfl)))) pss_nil)
    (pss_cons (ps_set (i := 6) scStep.nd rfl (.inl rfl) (pe_tup (pa_cons pe_str (pa_cons (pe_call G_numBy (hr.mono (by omega)) (by rfl) d_numBy.m d_numBy.k d_numBy.b .nil pass0 (pa_cons (pe_op op_fdiv (pv 2) pe_int) pa_nil)) pa_nil))))
    (pss_cons (ps_if (pt_cmpR op_eq (pv 1) pe_int (nomark _)) (pss_one (ps_ret (pe_op op_cat (pe_slice sl_list (pv 0) po_none (po_some (pe_un un_neg pe_int))) (pe_lst (pa_cons (pe_tup (pa_cons (pv 5) (pa_cons (pv 6) (pa_cons (pe_ix ix_list (pv 0) (pe_un un_neg pe_int) (fun _ _ => rfl)) pa_nil)))) pa_nil))))) pss_nil)
    (pss_one (ps_ret (pe_op op_cat (pe_slice sl_list (pv 0) po_none (po_some (pe_un un_neg pe_int))) (pe_lst (pa_cons (pe_tup (pa_cons (pv 5) (pa_cons (pe_ix ix_list (pv 0) (pe_un un_neg pe_int) (fun _ _ => rfl)) (pa_cons (pv 6) pa_nil)))) pa_nil)))))))) pss_nil)
    (pss_cons (ps_if (PW.pt (pw_and (pt_cmpR op_eq (pv 1) pe_int (nomark _)) (pw_and1 (pt_cmpR op_gt (pe_callB call_len_seq (by rfl) z.len PySem.boot_len (pa_cons (pv 0) pa_nil)) pe_int (nomark _))))) (pss_cons (ps_set (i := 6) scStep.nd rfl (.inl rfl) (pe_tup (pa_cons pe_str (pa_cons (pe_call G_numBy (hr.mono (by omega)) (by rfl) d_numBy.m d_numBy.k d_numBy.b .nil pass0 (pa_cons (pe_op op_fdiv (pv 2) pe_int) pa_nil)) pa_nil))))
    (pss_one (ps_ret (pe_op op_cat (pe_slice sl_list (pv 0) po_none (po_some (pe_un un_neg pe_int))) (pe_lst (pa_cons (pe_tup (pa_cons pe_str (pa_cons (pe_call G_nameBy (hr.mono (by omega)) (by rfl) d_nameBy.m d_nameBy.k d_nameBy.b .nil pass0 (pa_cons (pv 3) (pa_cons (pe_op op_mod (pv 2) pe_int) pa_nil))) (pa_cons (pv 6) (pa_cons (pe_ix ix_list (pv 0) (pe_un un_neg pe_int) (fun _ _ => rfl)) pa_nil))))) pa_nil)))))) pss_nil)
    (pss_cons (ps_if (PW.pt (pw_and (pt_cmpR op_eq (pv 1) pe_int (nomark _)) (pw_and1 (pt_cmpR op_gt (pe_callB call_len_seq (by rfl) z.len PySem.boot_len (pa_cons (pv 0) pa_nil)) pe_int (nomark _))))) (pss_cons (ps_set (i := 7) scStep.nd rfl (.inl rfl) (pe_ix ix_list (pv 0) (pe_un un_neg pe_int) (fun _ _ => rfl)))
    (pss_cons (ps_for PassesOwn.never rfl (pi_range1 (by rfl) z.range (pa_cons (pe_op op_mod (pv 2) pe_int) pa_nil)) (pg_name (i := 8) scStep.nd rfl (.inl rfl)) (pss_one (ps_set (i := 7) scStep.nd rfl (.inl rfl) (pe_tup (pa_cons pe_str (pa_cons (pv 7) (pa_cons (pe_tup (pa_cons pe_str (pa_cons pe_int pa_nil))) pa_nil)))))))
    (pss_one (ps_ret (pe_op op_cat (pe_slice sl_list (pv 0) po_none (po_some (pe_un un_neg pe_int))) (pe_lst (pa_cons (pe_tup (pa_cons pe_str (pa_cons (pv 7) (pa_cons (pe_ix ix_list (pv 0) (pe_un un_neg pe_int) (fun _ _ => rfl)) (pa_cons (pe_ix ix_list (pv 0) (pe_un un_neg pe_int) (fun _ _ => rfl)) pa_nil))))) pa_nil))))))) pss_nil)
    (pss_cons (ps_if (PW.pt (pw_and (pt_cmpR op_gt (pv 1) pe_int (nomark _)) (pw_and1 (pt_cmpR op_gt (pe_callB call_len_seq (by rfl) z.len PySem.boot_len (pa_cons (pv 0) pa_nil)) pe_int (nomark _))))) (pss_one (ps_ret (pe_op op_cat (pe_slice sl_list (pv 0) po_none (po_some (pe_un un_neg pe_int))) (pe_lst (pa_cons (pe_tup (pa_cons (pv 5) (pa_cons (pe_ix ix_list (pv 0) (pe_un un_neg pe_int) (fun _ _ => rfl)) (pa_cons (pe_ix ix_list (pv 0) (pe_un un_neg pe_int) (fun _ _ => rfl)) pa_nil)))) pa_nil))))) pss_nil)
    (pss_cons (ps_if (pt_cmpR op_lt (pv 1) pe_int (nomark _)) (pss_one (ps_ret (pe_op op_cat (pv 0) (pe_lst (pa_cons (pe_tup (pa_cons pe_str (pa_cons (pe_call G_numBy (hr.mono (by omega)) (by rfl) d_numBy.m d_numBy.k d_numBy.b .nil pass0 (pa_cons (pv 2) pa_nil)) pa_nil))) pa_nil))))) pss_nil)
    (pss_one (ps_ret (pe_op op_cat (pv 0) (pe_lst (pa_cons (pe_tup (pa_cons pe_str (pa_cons (pe_call G_nameBy (hr.mono (by omega)) (by rfl) d_nameBy.m d_nameBy.k d_nameBy.b .nil pass0 (pa_cons (pv 3) (pa_cons (pe_op op_mod (pv 2) pe_int) pa_nil))) pa_nil))) pa_nil))))))))))))), ?_⟩
  have m3 := Int.emod_nonneg more (show (3 : Int) ≠ 0 by decide)
  have m3' := Int.emod_lt_of_pos more (show (0 : Int) < 3 by decide)
  refine ⟨(by show 7 ≤ sizeLine; decide), fun pw hpw => new_h hpw fun H1 g1 hw1 => ?_⟩
  have h1 := g1 _ _ h
  obtain ⟨v, hv, hmem⟩ := at_modA (xs := opsV) (m := more) 7 rfl (by decide)
  obtain ⟨o, rfl⟩ := ops_in hmem
  refine ⟨_, rfl, _, rfl, _, _, rfl, rfl, (show (0 : Int) < 7 by decide), pw, _, _, _, rfl, rfl, .inl (.inl hw1), hv, ?_⟩
  dsimp only [gName]
  refine if_two (1 < (xs.length : Int)) (fun Q k1 k2 => ?_) (fun hl => ?_) ?_
  · refine ⟨_, rfl, rfl, _, rfl, ite2 (fun _ => iteT ?_) (fun _ => ⟨_, rfl, _, _, rfl, rfl, _, rfl, ite2 (fun _ => ?_) (fun _ => k2)⟩)⟩
    all_goals
      refine ⟨_, rfl, a, _, rfl, .inl (.inl (.inl h1)), _, _, rfl, rfl, _, rfl, ?_⟩
      by_cases b : (1 : Int) < (xs.length : Int)
      · rw [decide_eq_true b]; exact k1 b
      · rw [decide_eq_false b]; exact k2
  · obtain ⟨pre, x, y, epre, ex, ey, rfl, rfl, bp, bx, by1⟩ := b.split2 (by omega)
    refine ⟨_, rfl, _, rfl, _, rfl, a, _, rfl, .inl (.inl h1), fun p1 hp1 => ?_⟩
    rw [show cutV (pre ++ [x, y]) none (some (-2)) = pre from cut_app pre [x, y] 2 rfl (by decide)]
    have g2' := same_new hp1 (.lst pre)
    have hA : upd H1 p1 (.lst pre) p1 = some (.lst pre) := upd_same
    generalize upd H1 p1 (.lst pre) = H2 at g2' hA ⊢
    have g2 := g1.trans g2'
    refine ⟨_, rfl, _, rfl, _, _, rfl, rfl, (show (0 : Int) < 3 by decide), seed, more % 3, rfl, hs0, m3, by omega, fun H3 nm g3 hnm => ?_⟩
    have g3' := g2.trans g3
    have h3 := g3' _ _ h
    refine ⟨_, rfl, _, rfl, a, _, _, x, rfl, rfl, .inl (.inl h3), at_neg 2 (by decide) (by simp) (by simp), _, rfl, _, rfl, a, _, _, y, rfl, rfl, .inl (.inl h3), at_neg 1 (by decide) (by simp) (by simp), (by show 4 ≤ sizeLine; decide), fun t ht => new_h ht fun H4 g4 ht4 => ?_⟩
    have bn : Bears H4 (.ref t) (.lett nm ex ey) := .lett ht4 (bx.mono (Tups.of (g3'.trans g4))) (by1.mono (Tups.of (g3'.trans g4)))
    refine ⟨(by show 1 ≤ sizeLine; decide), fun l hl0 => ?_⟩
    refine ⟨p1, l, _, _, rfl, rfl, same_new hl0 _ _ _ (g4 _ _ (g3 _ _ hA)), upd_same, ?_, fun p hp => ?_⟩
    · simp at hlen ⊢
      exact sz (by omega)
    obtain ⟨gF, bF⟩ := step_fin (g3'.trans g4) bp bn hl0 hp
    have o1 := hok ex (by simp)
    have o2 := hok ey (by simp)
    refine q _ p _ _ gF upd_same bF (hok.left.app (OkL.one ⟨hnm, o1, o2⟩)) (by simp) ?_ ?_
    · rw [sizeL_append, sizeL_append]
      show sizeL epre + ((ex.size + ey.size + 1) + 0) ≤ sizeL epre + (ex.size + (ey.size + 0)) + 5
      omega
    · rw [depS_append, depS_append]
      have d_ex := Ex.deep_pos ex
      have d_ey := Ex.deep_pos ey
      show depS epre + ((max ex.deep ey.deep + 1) + 0) ≤ depS epre + (ex.deep + (ey.deep + 0)) + 1
      omega
  dsimp only [tNext]
  refine if_two (0 < (xs.length : Int)) (fun Q k1 k2 => ?_) (fun hl => ?_) ?_
  · refine ⟨_, rfl, _, _, rfl, rfl, _, rfl, ite2 (fun _ => ?_) (fun _ => k2)⟩
    refine ⟨_, rfl, a, _, rfl, .inl (.inl (.inl h1)), _, _, rfl, rfl, _, rfl, ?_⟩
    by_cases b : (0 : Int) < (xs.length : Int)
    · rw [decide_eq_true b]; exact k1 b
    · rw [decide_eq_false b]; exact k2
  · obtain ⟨pre, y, epre, ey, rfl, rfl, bp, by1⟩ := b.split1 (by omega)
    have hat : atI (pre ++ [y]) (-1) = some y := at_neg 1 (by decide) (by simp) (by simp)
    obtain ⟨ay, ys, rfl, hy⟩ := by1.first
    have o2 := hok ey (by simp)
    refine if_set (∃ o' : Op, V.str ey.word = .str o'.str) (fun w H' => H' = H1 ∧ ∃ o' : Op, w = .str o'.str) (.str o.str) ⟨rfl, o, rfl⟩ rfl (fun Q k1 k2 => ?_) (fun hp Q k => ?_) (fun w H' hw => ?_)
    · refine ⟨_, rfl, rfl, _, rfl, ite2 (fun _ => ?_) (fun _ => k2)⟩
      refine ⟨_, rfl, _, rfl, a, _, _, _, rfl, rfl, .inl (.inl h1), hat, ay, _, 0, _, rfl, rfl, .inl (.inl (g1 _ _ hy)), at_of (j := 0) rfl rfl, _, rfl, pw, _, rfl, .inl (.inl (.inl hw1)), rfl, by decide, _, rfl, ?_⟩
      by_cases c : inV (.str ey.word) opsV = true
      · exact cast (congrArg (fun k => Q k H1) (show true = (if false = true then !inV (V.str ey.word) opsV else inV (V.str ey.word) opsV) from c.symm)) (k1 (word_op c))
      · exact cast (congrArg (fun k => Q k H1) (show false = (if false = true then !inV (V.str ey.word) opsV else inV (V.str ey.word) opsV) from (Bool.eq_false_iff.mpr c).symm)) k2
    · obtain ⟨o', ho'⟩ := hp
      exact ⟨_, rfl, _, rfl, a, _, _, _, rfl, rfl, .inl (.inl h1), hat, ay, _, 0, _, rfl, rfl, .inl (.inl (g1 _ _ hy)), at_of (j := 0) rfl rfl, k _ _ ⟨rfl, o', ho'⟩⟩
    obtain ⟨rfl, o', rfl⟩ := hw
    refine ⟨_, rfl, _, _, rfl, rfl, ⟨by decide, by decide⟩, more / 7, rfl, Int.ediv_nonneg hm0 (by decide), fun H2 n g2' hn => ?_⟩
    refine ⟨(by show 2 ≤ sizeLine; decide), fun tn htn => new_h htn fun H3 g3' htn3 => ?_⟩
    have g3 := g1.trans (g2'.trans g3')
    have bnum : Bears H3 (.ref tn) (.num n) := .num htn3
    have h3 := g3 _ _ h
    dsimp only [gName]
    refine if_two True (fun Q k1 k2 => ?_) (fun _ => ?_) ?_
    · exact ⟨_, rfl, rfl, _, rfl, any_b (k1 trivial) k2⟩
    · refine ⟨_, rfl, _, rfl, _, rfl, a, _, rfl, .inl (.inl h3), fun p1 hp1 => ?_⟩
      rw [show cutV (pre ++ [V.ref ay]) none (some (-1)) = pre from cut_app pre [V.ref ay] 1 rfl (by decide)]
      have g4' := same_new hp1 (.lst pre)
      have hA : upd H3 p1 (.lst pre) p1 = some (.lst pre) := upd_same
      generalize upd H3 p1 (.lst pre) = H4 at g4' hA ⊢
      have g4 := g3.trans g4'
      refine ⟨_, rfl, _, rfl, _, rfl, _, rfl, a, _, _, _, rfl, rfl, .inl (.inl (g4 _ _ h)), hat, (by show 3 ≤ sizeLine; decide), fun t ht => new_h ht fun H5 g5 ht5 => ?_⟩
      have bn : Bears H5 (.ref t) (.two o' (.num n) ey) := .two ht5 (bnum.mono (Tups.of (g4'.trans g5))) (by1.mono (Tups.of (g4.trans g5)))
      refine ⟨(by show 1 ≤ sizeLine; decide), fun l hl0 => ?_⟩
      refine ⟨p1, l, _, _, rfl, rfl, same_new hl0 _ _ _ (g5 _ _ hA), upd_same, ?_, fun p hp => ?_⟩
      · simp at hlen ⊢
        exact sz (by omega)
      obtain ⟨gF, bF⟩ := step_fin (g4.trans g5) bp bn hl0 hp
      refine q _ p _ _ gF upd_same bF (hok.left.app (OkL.one ⟨hn, o2⟩)) (by simp) ?_ ?_
      · rw [sizeL_append, sizeL_append]
        show sizeL epre + ((1 + ey.size + 1) + 0) ≤ sizeL epre + (ey.size + 0) + 5
        omega
      · rw [depS_append, depS_append]
        have d_ey := Ex.deep_pos ey
        show depS epre + ((max 1 ey.deep + 1) + 0) ≤ depS epre + (ey.deep + 0) + 1
        omega
    · dsimp only [tNext]
      refine ⟨_, rfl, _, rfl, _, rfl, a, _, rfl, .inl (.inl h3), fun p1 hp1 => ?_⟩
      rw [show cutV (pre ++ [V.ref ay]) none (some (-1)) = pre from cut_app pre [V.ref ay] 1 rfl (by decide)]
      have g4' := same_new hp1 (.lst pre)
      have hA : upd H3 p1 (.lst pre) p1 = some (.lst pre) := upd_same
      generalize upd H3 p1 (.lst pre) = H4 at g4' hA ⊢
      have g4 := g3.trans g4'
      refine ⟨_, rfl, _, rfl, _, rfl, a, _, _, _, rfl, rfl, .inl (.inl (g4 _ _ h)), hat, _, rfl, (by show 3 ≤ sizeLine; decide), fun t ht => new_h ht fun H5 g5 ht5 => ?_⟩
      have bn : Bears H5 (.ref t) (.two o' ey (.num n)) := .two ht5 (by1.mono (Tups.of (g4.trans g5))) (bnum.mono (Tups.of (g4'.trans g5)))
      refine ⟨(by show 1 ≤ sizeLine; decide), fun l hl0 => ?_⟩
      refine ⟨p1, l, _, _, rfl, rfl, same_new hl0 _ _ _ (g5 _ _ hA), upd_same, ?_, fun p hp => ?_⟩
      · simp at hlen ⊢
        exact sz (by omega)
      obtain ⟨gF, bF⟩ := step_fin (g4.trans g5) bp bn hl0 hp
      refine q _ p _ _ gF upd_same bF (hok.left.app (OkL.one ⟨o2, hn⟩)) (by simp) ?_ ?_
      · rw [sizeL_append, sizeL_append]
        show sizeL epre + ((ey.size + 1 + 1) + 0) ≤ sizeL epre + (ey.size + 0) + 5
        omega
      · rw [depS_append, depS_append]
        have d_ey := Ex.deep_pos ey
        show depS epre + ((max ey.deep 1 + 1) + 0) ≤ depS epre + (ey.deep + 0) + 1
        omega
  dsimp only [tNext]
  refine if_two (0 < (xs.length : Int)) (fun Q k1 k2 => ?_) (fun hl => ?_) ?_
  · refine ⟨_, rfl, rfl, _, rfl, ite2 (fun _ => ?_) (fun _ => k2)⟩
    refine ⟨_, rfl, a, _, rfl, .inl (.inl (.inl h1)), _, _, rfl, rfl, _, rfl, ?_⟩
    by_cases b : (0 : Int) < (xs.length : Int)
    · rw [decide_eq_true b]; exact k1 b
    · rw [decide_eq_false b]; exact k2
  · obtain ⟨pre, y, epre, ey, rfl, rfl, bp, by1⟩ := b.split1 (by omega)
    have hat : atI (pre ++ [y]) (-1) = some y := at_neg 1 (by decide) (by simp) (by simp)
    have o2 := hok ey (by simp)
    refine ⟨_, rfl, _, _, rfl, rfl, ⟨by decide, by decide⟩, more / 3, rfl, Int.ediv_nonneg hm0 (by decide), fun H2 n g2' hn => ?_⟩
    refine ⟨(by show 2 ≤ sizeLine; decide), fun tn htn => new_h htn fun H3 g3' htn3 => ?_⟩
    have g3 := g1.trans (g2'.trans g3')
    have bnum : Bears H3 (.ref tn) (.num n) := .num htn3
    have h3 := g3 _ _ h
    refine ⟨_, rfl, _, rfl, _, rfl, a, _, rfl, .inl (.inl h3), fun p1 hp1 => ?_⟩
    rw [show cutV (pre ++ [y]) none (some (-1)) = pre from cut_app pre [y] 1 rfl (by decide)]
    have g4' := same_new hp1 (.lst pre)
    have hA : upd H3 p1 (.lst pre) p1 = some (.lst pre) := upd_same
    generalize upd H3 p1 (.lst pre) = H4 at g4' hA ⊢
    have g4 := g3.trans g4'
    refine ⟨_, rfl, _, rfl, _, _, rfl, rfl, (show (0 : Int) < 3 by decide), seed, more % 3, rfl, hs0, m3, by omega, fun H5 nm g5' hnm => ?_⟩
    have g5 := g4.trans g5'
    refine ⟨_, rfl, _, rfl, _, rfl, a, _, _, _, rfl, rfl, .inl (.inl (g5 _ _ h)), hat, (by show 4 ≤ sizeLine; decide), fun t ht => new_h ht fun H6 g6 ht6 => ?_⟩
    have bn : Bears H6 (.ref t) (.lett nm (.num n) ey) := .lett ht6 (bnum.mono (Tups.of (g4'.trans (g5'.trans g6)))) (by1.mono (Tups.of (g5.trans g6)))
    refine ⟨(by show 1 ≤ sizeLine; decide), fun l hl0 => ?_⟩
    refine ⟨p1, l, _, _, rfl, rfl, same_new hl0 _ _ _ (g6 _ _ (g5' _ _ hA)), upd_same, ?_, fun p hp => ?_⟩
    · simp at hlen ⊢
      exact sz (by omega)
    obtain ⟨gF, bF⟩ := step_fin (g5.trans g6) bp bn hl0 hp
    refine q _ p _ _ gF upd_same bF (hok.left.app (OkL.one ⟨hnm, hn, o2⟩)) (by simp) ?_ ?_
    · rw [sizeL_append, sizeL_append]
      show sizeL epre + ((1 + ey.size + 1) + 0) ≤ sizeL epre + (ey.size + 0) + 5
      omega
    · rw [depS_append, depS_append]
      have d_ey := Ex.deep_pos ey
      show depS epre + ((max 1 ey.deep + 1) + 0) ≤ depS epre + (ey.deep + 0) + 1
      omega
  dsimp only [tNext]
  refine if_two (2 < (xs.length : Int)) (fun Q k1 k2 => ?_) (fun hl => ?_) ?_
  · refine ⟨_, rfl, rfl, _, rfl, ite2 (fun _ => ?_) (fun _ => k2)⟩
    refine ⟨_, rfl, a, _, rfl, .inl (.inl (.inl h1)), _, _, rfl, rfl, _, rfl, ?_⟩
    by_cases b : (2 : Int) < (xs.length : Int)
    · rw [decide_eq_true b]; exact k1 b
    · rw [decide_eq_false b]; exact k2
  · obtain ⟨pre, u, x, y, epre, eu, ex, ey, rfl, rfl, bp, bu, bx, by1⟩ := b.split3 (by omega)
    have hat3 : atI (pre ++ [u, x, y]) (-3) = some u := at_neg 3 (by decide) (by simp) (by simp)
    have hat2 : atI (pre ++ [u, x, y]) (-2) = some x := at_neg 2 (by decide) (by simp) (by simp)
    have hat1 : atI (pre ++ [u, x, y]) (-1) = some y := at_neg 1 (by decide) (by simp) (by simp)
    have o0 := hok eu (by simp)
    have o1 := hok ex (by simp)
    have o2 := hok ey (by simp)
    refine ⟨_, rfl, _, rfl, a, _, _, _, rfl, rfl, .inl (.inl h1), hat3, ?_⟩
    refine ⟨_, rfl, _, _, rfl, rfl, (show (0 : Int) < 3 by decide), _, rfl, (by omega), (by omega), ?_⟩
    refine for_range (lo := 0) (n := (more % 3).toNat) (fun i σ H2 => Same H1 H2 ∧ ∃ (vc : V) (ec : Ex) (zz : Option V), Bears H2 vc ec ∧ ec.ok ∧ ec.size = eu.size + 2 * i ∧ ec.deep = eu.deep + i ∧ σ = [some (.ref a), some (.int kind), some (.int more), some (.int seed), some (.ref pw), some (.str o.str), none, some vc, zz])
      ⟨Same.refl _, u, eu, _, bu.mono (Tups.of g1), o0, rfl, rfl, rfl⟩ (fun i σ H2 hi hP => ?_) (fun σ H2 hP => ?_)
    · obtain ⟨g2, vc, ec, zz, bc, oc, sc, dc, rfl⟩ := hP
      refine ⟨_, rfl, (by show 2 ≤ sizeLine; decide), fun t0 ht0 => new_h ht0 fun H3 g3 ht3 => ?_⟩
      refine ⟨(by show 3 ≤ sizeLine; decide), fun t ht => new_h ht fun H4 g4 ht4 => ?_⟩
      refine ⟨g2.trans (g3.trans g4), _, .two .same ec (.num 0), _, .two ht4 (bc.mono (Tups.of (g3.trans g4))) (.num (g4 _ _ ht3)), ⟨oc, (show NumOk 0 by decide)⟩, ?_, ?_, rfl⟩
      · show ec.size + 1 + 1 = _
        omega
      · have d_ec := Ex.deep_pos ec
        show max ec.deep 1 + 1 = _
        omega
    · obtain ⟨g2', vc, ec, zz, bc, oc, sc, dc, rfl⟩ := hP
      have g2 := g1.trans g2'
      have h2 := g2 _ _ h
      refine ⟨_, rfl, _, rfl, _, rfl, a, _, rfl, .inl (.inl h2), fun p1 hp1 => ?_⟩
      rw [show cutV (pre ++ [u, x, y]) none (some (-3)) = pre from cut_app pre [u, x, y] 3 rfl (by decide)]
      have g4' := same_new hp1 (.lst pre)
      have hA : upd H2 p1 (.lst pre) p1 = some (.lst pre) := upd_same
      generalize upd H2 p1 (.lst pre) = H4 at g4' hA ⊢
      have g4 := g2.trans g4'
      have h4 := g4 _ _ h
      refine ⟨_, rfl, _, rfl, _, rfl, a, _, _, _, rfl, rfl, .inl (.inl h4), hat2, _, rfl, _, rfl, a, _, _, _, rfl, rfl, .inl (.inl h4), hat1, (by show 4 ≤ sizeLine; decide), fun t ht => new_h ht fun H5 g5 ht5 => ?_⟩
      have bn : Bears H5 (.ref t) (.whn ec ex ey) := .whn ht5 (bc.mono (Tups.of (g4'.trans g5))) (bx.mono (Tups.of (g4.trans g5))) (by1.mono (Tups.of (g4.trans g5)))
      refine ⟨(by show 1 ≤ sizeLine; decide), fun l hl0 => ?_⟩
      refine ⟨p1, l, _, _, rfl, rfl, same_new hl0 _ _ _ (g5 _ _ hA), upd_same, ?_, fun p hp => ?_⟩
      · simp at hlen ⊢
        exact sz (by omega)
      obtain ⟨gF, bF⟩ := step_fin (g4.trans g5) bp bn hl0 hp
      refine q _ p _ _ gF upd_same bF (hok.left.app (OkL.one ⟨oc, o1, o2⟩)) (by simp) ?_ ?_
      · rw [sizeL_append, sizeL_append]
        show sizeL epre + ((ec.size + ex.size + ey.size + 1) + 0) ≤ sizeL epre + (eu.size + (ex.size + (ey.size + 0))) + 5
        omega
      · rw [depS_append, depS_append]
        have d_ex := Ex.deep_pos ex
        have d_ey := Ex.deep_pos ey
        have d_ec := Ex.deep_pos ec
        show depS epre + ((max (max ec.deep ex.deep) ey.deep + 1) + 0) ≤ depS epre + (eu.deep + (ex.deep + (ey.deep + 0))) + 1
        omega
  dsimp only [tNext]
  refine if_two (1 < (xs.length : Int)) (fun Q k1 k2 => ?_) (fun hl => ?_) ?_
  · refine ⟨_, rfl, _, _, rfl, rfl, _, rfl, ite2 (fun _ => ?_) (fun _ => k2)⟩
    refine ⟨_, rfl, a, _, rfl, .inl (.inl (.inl h1)), _, _, rfl, rfl, _, rfl, ?_⟩
    by_cases b : (1 : Int) < (xs.length : Int)
    · rw [decide_eq_true b]; exact k1 b
    · rw [decide_eq_false b]; exact k2
  · obtain ⟨pre, x, y, epre, ex, ey, rfl, rfl, bp, bx, by1⟩ := b.split2 (by omega)
    have hat2 : atI (pre ++ [x, y]) (-2) = some x := at_neg 2 (by decide) (by simp) (by simp)
    have hat1 : atI (pre ++ [x, y]) (-1) = some y := at_neg 1 (by decide) (by simp) (by simp)
    have o1 := hok ex (by simp)
    have o2 := hok ey (by simp)
    refine ⟨_, rfl, _, rfl, _, rfl, a, _, rfl, .inl (.inl h1), fun p1 hp1 => ?_⟩
    rw [show cutV (pre ++ [x, y]) none (some (-2)) = pre from cut_app pre [x, y] 2 rfl (by decide)]
    have g2' := same_new hp1 (.lst pre)
    have hA : upd H1 p1 (.lst pre) p1 = some (.lst pre) := upd_same
    generalize upd H1 p1 (.lst pre) = H2 at g2' hA ⊢
    have g2 := g1.trans g2'
    have h2 := g2 _ _ h
    refine ⟨_, rfl, _, rfl, _, rfl, a, _, _, _, rfl, rfl, .inl (.inl h2), hat2, _, rfl, _, rfl, a, _, _, _, rfl, rfl, .inl (.inl h2), hat1, (by show 3 ≤ sizeLine; decide), fun t ht => new_h ht fun H4 g4 ht4 => ?_⟩
    have bn : Bears H4 (.ref t) (.two o ex ey) := .two ht4 (bx.mono (Tups.of (g2.trans g4))) (by1.mono (Tups.of (g2.trans g4)))
    refine ⟨(by show 1 ≤ sizeLine; decide), fun l hl0 => ?_⟩
    refine ⟨p1, l, _, _, rfl, rfl, same_new hl0 _ _ _ (g4 _ _ hA), upd_same, ?_, fun p hp => ?_⟩
    · simp at hlen ⊢
      exact sz (by omega)
    obtain ⟨gF, bF⟩ := step_fin (g2.trans g4) bp bn hl0 hp
    refine q _ p _ _ gF upd_same bF (hok.left.app (OkL.one ⟨o1, o2⟩)) (by simp) ?_ ?_
    · rw [sizeL_append, sizeL_append]
      show sizeL epre + ((ex.size + ey.size + 1) + 0) ≤ sizeL epre + (ex.size + (ey.size + 0)) + 5
      omega
    · rw [depS_append, depS_append]
      have d_ex := Ex.deep_pos ex
      have d_ey := Ex.deep_pos ey
      show depS epre + ((max ex.deep ey.deep + 1) + 0) ≤ depS epre + (ex.deep + (ey.deep + 0)) + 1
      omega
  dsimp only [tNext]
  refine if_two True (fun Q k1 k2 => ?_) (fun _ => ?_) ?_
  · exact ⟨_, rfl, _, _, rfl, rfl, _, rfl, any_b (k1 trivial) k2⟩
  · refine ⟨_, rfl, _, rfl, more, rfl, hm0, fun H2 n g2' hn => ?_⟩
    refine ⟨(by show 2 ≤ sizeLine; decide), fun t ht => new_h ht fun H3 g3' ht3 => ?_⟩
    have g3 := g1.trans (g2'.trans g3')
    refine ⟨(by show 1 ≤ sizeLine; decide), fun l hl0 => ?_⟩
    refine ⟨a, l, _, _, rfl, rfl, same_new hl0 _ _ _ (g3 _ _ h), upd_same, ?_, fun p hp => ?_⟩
    · simp at hlen ⊢
      exact sz (by omega)
    obtain ⟨gF, bF⟩ := step_fin g3 b (.num (n := n) ht3) hl0 hp
    refine q _ p _ _ gF upd_same bF (hok.app (OkL.one hn)) (by simp) ?_ ?_
    · rw [sizeL_append]
      show sizeL es + (1 + 0) ≤ sizeL es + 5
      omega
    · rw [depS_append]
      show depS es + (1 + 0) ≤ depS es + 1
      omega
  · dsimp only [tNext]
    refine ⟨_, rfl, _, rfl, _, rfl, _, _, rfl, rfl, (show (0 : Int) < 3 by decide), seed, more % 3, rfl, hs0, m3, by omega, fun H2 nm g2' hnm => ?_⟩
    refine ⟨(by show 2 ≤ sizeLine; decide), fun t ht => new_h ht fun H3 g3' ht3 => ?_⟩
    have g3 := g1.trans (g2'.trans g3')
    refine ⟨(by show 1 ≤ sizeLine; decide), fun l hl0 => ?_⟩
    refine ⟨a, l, _, _, rfl, rfl, same_new hl0 _ _ _ (g3 _ _ h), upd_same, ?_, fun p hp => ?_⟩
    · simp at hlen ⊢
      exact sz (by omega)
    obtain ⟨gF, bF⟩ := step_fin g3 b (.nam (w := nm) ht3) hl0 hp
    refine q _ p _ _ gF upd_same bF (hok.app (OkL.one hnm)) (by simp) ?_ ?_
    · rw [sizeL_append]
      show sizeL es + (1 + 0) ≤ sizeL es + 5
      omega
    · rw [depS_append]
      show depS es + (1 + 0) ≤ depS es + 1
      omega
end
end FC
namespace FC
open PySem L2 StX
section
variable {P : Program} {w : World} {K : PySem.W.Frag} {mg : Str → Option Value} {base : Heap} {f f1 f2 f3 : Addr} {fd fd1 fd2 fd3 : FuncData}
def spTreeBy (K : PySem.W.Frag) : Sp := fun vs H Q _ => ∃ (a : Addr) (ms : List Int) (seed : Int), vs = [.ref a, .int seed] ∧ SqL K H a (ms.map V.int) ∧ (∀ m ∈ ms, 0 ≤ m) ∧ ms.length ≤ 63 ∧ 0 ≤ seed ∧
  ∀ (H' : Hp) (v : V) (e : Ex), Same H H' → Bears H' v e → e.ok → e.size ≤ 6 * ms.length + 1 → e.deep ≤ ms.length + 1 → Q v H'
theorem scTreeBy : FnScope ["_law_cells", "_law_seed", "_law_pile", "_law_cell"] ["_law_cells", "_law_seed"] (defScope sTreeBy) := ⟨rfl, rfl, rfl, by decide +kernel, rfl, by decide +kernel, by decide +kernel⟩
theorem ok_treeBy (d : Df K mg "_law_tree_by" sTreeBy ["_law_cells", "_law_seed"] f fd) (z : Bl mg) (d_step : Df K mg "_law_step" sStep ["_law_pile", "_law_kind", "_law_more", "_law_seed"] f1 fd1)
    (d_nameBy : Df K mg "_law_name_by" sNameBy ["_law_seed", "_law_k"] f2 fd2) (d_numBy : Df K mg "_law_number_by" sNumBy ["_law_cell"] f3 fd3) :
    FnOk P w K mg base CX0 3 f fd ["_law_cells", "_law_seed"] (spTreeBy K) := by
  refine d.F.ok scTreeBy (fun vs H Q E h => ?_) (fun cdv A outer s H vs Q E hr h => ?_)
  · obtain ⟨a, ms, seed, rfl, _⟩ := h
    rfl
  obtain ⟨a, ms, seed, rfl, hS, hnn, h63, hs0, q⟩ := h
  have G_step := ok_step (P := P) (w := w) (base := base) d_step z d_nameBy d_numBy
  refine ⟨_, (pss_cons (ps_set (i := 2) scTreeBy.nd rfl (.inl rfl) (pe_lst pa_nil))
    (pss_cons (ps_for PassesOwn.never rfl (pi_list (pv 0)) (pg_name (i := 3) scTreeBy.nd rfl (.inl rfl)) (pss_one (ps_set (i := 2) scTreeBy.nd rfl (.inl rfl) (pe_call G_step (hr.mono (by omega)) (by rfl) d_step.m d_step.k d_step.b .nil pass0 (pa_cons (pv 2) (pa_cons (pe_op op_mod (pv 3) pe_int) (pa_cons (pe_op op_fdiv (pv 3) pe_int) (pa_cons (pv 1) pa_nil))))))))
    (pss_cons (ps_while PassesOwn.never (pt_cmpR op_gt (pe_callB call_len_seq (by rfl) z.len PySem.boot_len (pa_cons (pv 2) pa_nil)) pe_int (nomark _)) (pss_one (ps_set (i := 2) scTreeBy.nd rfl (.inl rfl) (pe_op op_cat (pe_slice sl_list (pv 2) po_none (po_some (pe_un un_neg pe_int))) (pe_lst (pa_cons (pe_tup (pa_cons pe_str (pa_cons (pe_ix ix_list (pv 2) (pe_un un_neg pe_int) (fun _ _ => rfl)) (pa_cons (pe_ix ix_list (pv 2) (pe_un un_neg pe_int) (fun _ _ => rfl)) pa_nil)))) pa_nil))))))
    (pss_cons (ps_if (pt_cmpR (op_eqLen hr.units0) (pv 2) (pe_lst pa_nil) (nomark _)) (pss_one (ps_ret (pe_tup (pa_cons pe_str (pa_cons pe_int pa_nil))))) pss_nil)
    (pss_one (ps_ret (pe_ix ix_list (pv 2) pe_int (fun _ _ => rfl)))))))), ?_⟩
  refine ⟨(by show 0 ≤ sizeLine; decide), fun p0 hp0 => ?_⟩
  refine ⟨_, rfl, a, rfl, ⟨_, (same_new hp0 _).seq hS⟩, ?_⟩
  refine for_list (K := K) (a := a) (xs := ms.map V.int) (fun i σ H2 => Same H H2 ∧ ∃ (p : Addr) (xs : List V) (es : List Ex) (zz : Option V), H2 p = some (.lst xs) ∧ BearsL H2 xs es ∧ OkL es ∧ es.length ≤ i ∧ sizeL es ≤ 5 * i ∧ depS es ≤ i ∧ σ = [some (.ref a), some (.int seed), some (.ref p), zz])
    ⟨same_new hp0 _, p0, [], [], none, upd_same, .nil, (fun _ z => nomatch z), Nat.le_refl _, Nat.le_refl _, Nat.le_refl _, rfl⟩ (fun i σ H2 _ h => h.1.seq hS) (fun i x σ H2 hx hP => ?_) (fun σ H2 hP => ?_)
  · obtain ⟨g2, p, xs, es, zz, hp, b, ok, hl, hsz, hdp, rfl⟩ := hP
    rw [List.getElem?_map] at hx
    obtain ⟨c, hc, rfl⟩ := Option.map_eq_some_iff.mp hx
    have hi : i < ms.length := (List.getElem?_eq_some_iff.mp hc).1
    have hc0 := hnn c (List.mem_of_getElem? hc)
    have hbl := b.len
    refine ⟨_, rfl, _, rfl, _, _, rfl, rfl, (show (0 : Int) < 20 by decide), _, rfl, _, _, rfl, rfl, ⟨by decide, by decide⟩, _, rfl, p, xs, es, c % 20, c / 20, seed, rfl, hp, b, ok, Int.ediv_nonneg hc0 (by decide), hs0, by omega, fun H3 p' xs' es' g3 hp' b' ok' hl' hsz' hdp' => ?_⟩
    exact ⟨g2.trans g3, p', xs', es', _, hp', b', ok', by omega, by omega, by omega, rfl⟩
  · obtain ⟨g2, p, xs, es, zz, hp, b, ok, hl, hsz, hdp, rfl⟩ := hP
    rw [List.length_map] at hl hsz hdp
    refine ⟨fun m σ H3 => Same H H3 ∧ ∃ (p : Addr) (xs : List V) (es : List Ex), H3 p = some (.lst xs) ∧ BearsL H3 xs es ∧ OkL es ∧ es.length = m ∧ m ≤ ms.length ∧ sizeL es + m ≤ 6 * ms.length ∧ depS es ≤ ms.length ∧ σ = [some (.ref a), some (.int seed), some (.ref p), zz],
      ⟨_, g2, p, xs, es, hp, b, ok, rfl, hl, by omega, hdp, rfl⟩, fun m σ H3 hW => ?_⟩
    obtain ⟨g3, p, xs, es, hp, b, ok, hm, hml, hsz2, hdp2, rfl⟩ := hW
    have hbl := b.len
    refine ⟨_, rfl, p, _, rfl, .inl (.inl (.inl hp)), _, _, rfl, rfl, _, rfl, ?_⟩
    by_cases c : (1 : Int) < (xs.length : Int)
    · rw [decide_eq_true c]
      refine iteT ?_
      obtain ⟨pre, x, y, epre, ex, ey, rfl, rfl, bp, bx, by1⟩ := b.split2 (by omega)
      have o1 := ok ex (by simp)
      have o2 := ok ey (by simp)
      refine ⟨fun σ' H' => ∃ m', m' < m ∧ (Same H H' ∧ ∃ (p : Addr) (xs : List V) (es : List Ex), H' p = some (.lst xs) ∧ BearsL H' xs es ∧ OkL es ∧ es.length = m' ∧ m' ≤ ms.length ∧ sizeL es + m' ≤ 6 * ms.length ∧ depS es ≤ ms.length ∧ σ' = [some (.ref a), some (.int seed), some (.ref p), zz]), fun _ _ h => h, ?_⟩
      refine ⟨_, rfl, _, rfl, _, rfl, p, _, rfl, .inl (.inl hp), fun p1 hp1 => ?_⟩
      rw [show cutV (pre ++ [x, y]) none (some (-2)) = pre from cut_app pre [x, y] 2 rfl (by decide)]
      have g4 := same_new hp1 (.lst pre)
      have hA : upd H3 p1 (.lst pre) p1 = some (.lst pre) := upd_same
      generalize upd H3 p1 (.lst pre) = H4 at g4 hA ⊢
      have h4 := g4 _ _ hp
      refine ⟨_, rfl, _, rfl, p, _, _, x, rfl, rfl, .inl (.inl h4), at_neg 2 (by decide) (by simp) (by simp), _, rfl, _, rfl, p, _, _, y, rfl, rfl, .inl (.inl h4), at_neg 1 (by decide) (by simp) (by simp), (by show 3 ≤ sizeLine; decide), fun t ht => new_h ht fun H5 g5 ht5 => ?_⟩
      have bn : Bears H5 (.ref t) (.two .sum ex ey) := .two ht5 (bx.mono (Tups.of (g4.trans g5))) (by1.mono (Tups.of (g4.trans g5)))
      refine ⟨(by show 1 ≤ sizeLine; decide), fun l hl0 => ?_⟩
      refine ⟨p1, l, _, _, rfl, rfl, same_new hl0 _ _ _ (g5 _ _ hA), upd_same, ?_, fun p9 hp9 => ?_⟩
      · simp at hbl hm ⊢
        exact sz (by omega)
      obtain ⟨gF, bF⟩ := step_fin (g4.trans g5) bp bn hl0 hp9
      refine ⟨m - 1, ?_, g3.trans gF, p9, _, _, upd_same, bF, ok.left.app (OkL.one ⟨o1, o2⟩), ?_, ?_, ?_, ?_, rfl⟩
      · simp at hm
        omega
      · simp at hm ⊢
        omega
      · omega
      · rw [sizeL_append] at hsz2 ⊢
        have hsz2' : sizeL epre + (ex.size + (ey.size + 0)) + m ≤ 6 * ms.length := hsz2
        show sizeL epre + ((ex.size + ey.size + 1) + 0) + (m - 1) ≤ 6 * ms.length
        simp at hm
        omega
      · rw [depS_append] at hdp2 ⊢
        have hdp3 : depS epre + (ex.deep + (ey.deep + 0)) ≤ ms.length := hdp2
        have d_ex := Ex.deep_pos ex
        have d_ey := Ex.deep_pos ey
        show depS epre + ((max ex.deep ey.deep + 1) + 0) ≤ ms.length
        omega
    · rw [decide_eq_false c]
      refine iteF ?_
      refine ⟨_, rfl, (by show 0 ≤ sizeLine; decide), fun e0 he0 => ?_⟩
      have g5 := same_new he0 (.lst [])
      cases b with
      | nil =>
        refine ⟨p, e0, _, _, rfl, rfl, .inl (.inl (g5 _ _ hp)), .inl (.inl upd_same), .inr ⟨rfl, rfl, _, rfl, iteT ?_⟩⟩
        refine ⟨(by show 2 ≤ sizeLine; decide), fun t ht => new_h ht fun H5 g6 ht5 => ?_⟩
        exact q _ _ (.num 0) (g3.trans (g5.trans g6)) (.num ht5) (show NumOk 0 by decide) (Nat.le_add_left _ _) (Nat.le_add_left _ _)
      | @cons x e xr er bx br =>
        cases br with
        | cons _ _ =>
          simp at c
          omega
        | nil =>
          refine ⟨p, e0, _, _, rfl, rfl, .inl (.inl (g5 _ _ hp)), .inl (.inl upd_same), .inl ⟨by simp, _, rfl, iteF ?_⟩⟩
          refine ⟨_, rfl, p, _, 0, x, rfl, rfl, .inl (.inl (g5 _ _ hp)), rfl, ?_⟩
          have hsz3 : (e.size + 0) + m ≤ 6 * ms.length := hsz2
          have hdp3 : e.deep + 0 ≤ ms.length := hdp2
          exact q _ _ e (g3.trans g5) (bx.mono (Tups.of g5)) (ok e List.mem_cons_self) (by omega) (by omega)
/-! ### links -/
def spLink : Sp := fun vs H Q _ => ∃ (x : Str) (c : Int), vs = [.str x, .int c] ∧ ∀ (H' : Hp) (n : Int), Same H H' → NumOk n → Q (.int n) H'
theorem scLink : FnScope ["_law_word", "_law_code", "_law_row"] ["_law_word", "_law_code"] (defScope sLink) := ⟨rfl, rfl, rfl, by decide +kernel, rfl, by decide +kernel, by decide +kernel⟩
theorem ok_link (d : Df K mg "_law_link" sLink ["_law_word", "_law_code"] f fd) : FnOk P w K mg base CX0 1 f fd ["_law_word", "_law_code"] spLink := by
  refine d.F.ok scLink (fun vs H Q E h => ?_) (fun cdv A outer s H vs Q E hr h => ?_)
  · obtain ⟨x, c, rfl, _⟩ := h
    rfl
  obtain ⟨x, c, rfl, q⟩ := h
  refine ⟨_, (pss_cons (ps_set (i := 2) scLink.nd rfl (.inl rfl) (pe_lst (pa_cons pe_int (pa_cons pe_int (pa_cons (pe_un un_neg pe_int) (pa_cons pe_int (pa_cons (pe_un un_neg pe_int) (pa_cons pe_int (pa_cons pe_int (pa_cons pe_int (pa_cons (pe_un un_neg pe_int) pa_nil)))))))))))
    (pss_cons (ps_if (pt_cmpR op_eq (pv 0) pe_str (nomark _)) (pss_one (ps_set (i := 2) scLink.nd rfl (.inl rfl) (pe_lst (pa_cons (pe_un un_neg pe_int) (pa_cons pe_int (pa_cons (pe_un un_neg pe_int) (pa_cons pe_int (pa_cons pe_int (pa_cons pe_int (pa_cons pe_int (pa_cons (pe_un un_neg pe_int) (pa_cons (pe_un un_neg pe_int) pa_nil)))))))))))) pss_nil)
    (pss_cons (ps_if (pt_cmpR op_eq (pv 0) pe_str (nomark _)) (pss_one (ps_set (i := 2) scLink.nd rfl (.inl rfl) (pe_lst (pa_cons pe_int (pa_cons (pe_un un_neg pe_int) (pa_cons pe_int (pa_cons pe_int (pa_cons pe_int (pa_cons (pe_un un_neg pe_int) (pa_cons pe_int (pa_cons pe_int (pa_cons pe_int pa_nil)))))))))))) pss_nil)
    (pss_cons (ps_if (pt_cmpR op_eq (pv 0) pe_str (nomark _)) (pss_one (ps_set (i := 2) scLink.nd rfl (.inl rfl) (pe_lst (pa_cons pe_int (pa_cons pe_int (pa_cons pe_int (pa_cons pe_int (pa_cons pe_int (pa_cons pe_int (pa_cons pe_int (pa_cons pe_int (pa_cons pe_int pa_nil)))))))))))) pss_nil)
    (pss_one (ps_ret (pe_ix ix_list (pv 2) (pe_op op_mod (pv 1) pe_int) (fun _ _ => rfl)))))))), ?_⟩
  refine ⟨_, rfl, _, rfl, _, rfl, (by show 9 ≤ sizeLine; decide), fun p hp => ?_⟩
  dsimp only [gName]
  refine if_set (i := 2) True (fun w H' => Same H H' ∧ ∃ p xs, w = .ref p ∧ H' p = some (.lst xs) ∧ xs.length = 9 ∧ xs.all numV = true) (.ref p) ⟨same_new hp _, p, _, rfl, upd_same, rfl, by decide⟩ rfl (fun Q k1 k2 => ⟨_, rfl, rfl, _, rfl, any_b (k1 trivial) k2⟩)
    (fun _ Q k => ?_) (fun w H1 hw => ?_)
  · exact ⟨_, rfl, _, rfl, _, rfl, _, rfl, (by show 9 ≤ sizeLine; decide), fun p2 hp2 => k _ _ ⟨(same_new hp _).trans (same_new hp2 _), p2, _, rfl, upd_same, rfl, by decide⟩⟩
  obtain ⟨g1, p, xs, rfl, h1, hl, ha⟩ := hw
  refine if_set (i := 2) True (fun w H' => Same H H' ∧ ∃ p xs, w = .ref p ∧ H' p = some (.lst xs) ∧ xs.length = 9 ∧ xs.all numV = true) (.ref p) ⟨g1, p, _, rfl, h1, hl, ha⟩ rfl (fun Q k1 k2 => ⟨_, rfl, rfl, _, rfl, any_b (k1 trivial) k2⟩)
    (fun _ Q k => ?_) (fun w H2 hw => ?_)
  · exact ⟨_, rfl, _, rfl, (by show 9 ≤ sizeLine; decide), fun p2 hp2 => k _ _ ⟨g1.trans (same_new hp2 _), p2, _, rfl, upd_same, rfl, by decide⟩⟩
  obtain ⟨g2, p, xs, rfl, h2, hl, ha⟩ := hw
  refine if_set (i := 2) True (fun w H' => Same H H' ∧ ∃ p xs, w = .ref p ∧ H' p = some (.lst xs) ∧ xs.length = 9 ∧ xs.all numV = true) (.ref p) ⟨g2, p, _, rfl, h2, hl, ha⟩ rfl (fun Q k1 k2 => ⟨_, rfl, rfl, _, rfl, any_b (k1 trivial) k2⟩)
    (fun _ Q k => ?_) (fun w H3 hw => ?_)
  · exact ⟨(by show 9 ≤ sizeLine; decide), fun p2 hp2 => k _ _ ⟨g2.trans (same_new hp2 _), p2, _, rfl, upd_same, rfl, by decide⟩⟩
  obtain ⟨g3, p, xs, rfl, h3, hl, ha⟩ := hw
  obtain ⟨v, hv, hm⟩ := at_modA (xs := xs) (m := c) 9 hl (by decide)
  obtain ⟨n, rfl, hn⟩ := numV_out (List.all_eq_true.mp ha v hm)
  exact ⟨_, rfl, _, rfl, _, _, rfl, rfl, (show (0 : Int) < 9 by decide), p, _, _, _, rfl, rfl, .inl (.inl h3), hv, q _ n g3 hn⟩
/-! ### many names -/
def spManyBy : Sp := fun vs H Q _ => ∃ (seed c : Int), vs = [.int seed, .int c] ∧ 0 ≤ seed ∧ 0 ≤ c ∧ ∀ (H' : Hp) (v : V) (e : Ex), Same H H' → Bears H' v e → e.ok → e.size ≤ 100 → e.deep ≤ 50 → Q v H'
theorem scManyBy : FnScope ["_law_seed", "_law_cell", "_law_words", "_law_expr", "_law_k", "_law_word"] ["_law_seed", "_law_cell"] (defScope sManyBy) := ⟨rfl, rfl, rfl, by decide +kernel, rfl, by decide +kernel, by decide +kernel⟩
theorem ok_manyBy (d : Df K mg "_law_many_by" sManyBy ["_law_seed", "_law_cell"] f fd) (z : Bl mg) (d_nameBy : Df K mg "_law_name_by" sNameBy ["_law_seed", "_law_k"] f1 fd1) : FnOk P w K mg base CX0 2 f fd ["_law_seed", "_law_cell"] spManyBy := by
  refine d.F.ok scManyBy (fun vs H Q E h => ?_) (fun cdv A outer s H vs Q E hr h => ?_)
  · obtain ⟨x, c, rfl, _⟩ := h
    rfl
  obtain ⟨seed, c, rfl, hs0, hc0, q⟩ := h
  have G_nameBy := ok_nameBy (P := P) (w := w) (base := base) d_nameBy z
  refine ⟨_, (pss_cons (ps_set (i := 2) scManyBy.nd rfl (.inl rfl) (pe_lst (pa_cons pe_str (pa_cons pe_str (pa_cons pe_str (pa_cons pe_str (pa_cons pe_str (pa_cons pe_str (pa_cons pe_str pa_nil)))))))))
    (pss_cons (ps_set (i := 3) scManyBy.nd rfl (.inl rfl) (pe_tup (pa_cons pe_str (pa_cons (pe_call G_nameBy (hr.mono (by omega)) (by rfl) d_nameBy.m d_nameBy.k d_nameBy.b .nil pass0 (pa_cons (pv 0) (pa_cons (pe_op op_mod (pv 1) pe_int) pa_nil))) pa_nil))))
    (pss_cons (ps_for PassesOwn.never rfl (pi_range1 (by rfl) z.range (pa_cons (pe_op op_add pe_int (pe_op op_mod (pe_op op_fdiv (pv 1) pe_int) pe_int)) pa_nil)) (pg_name (i := 4) scManyBy.nd rfl (.inl rfl)) (pss_cons (ps_set (i := 5) scManyBy.nd rfl (.inl rfl) (pe_ix ix_list (pv 2) (pe_op op_mod (pe_op op_fdiv (pv 1) pe_int) pe_int) (fun _ _ => rfl)))
    (pss_cons (ps_if (pt_cmpR op_eq (pe_op op_mod (pe_op op_fdiv (pv 1) pe_int) pe_int) pe_int (nomark _)) (pss_one (ps_set (i := 5) scManyBy.nd rfl (.inl rfl) (pe_ix ix_list (pv 2) (pe_op op_mod (pe_op op_add (pe_op op_fdiv (pv 1) pe_int) (pv 4)) pe_int) (fun _ _ => rfl)))) pss_nil)
    (pss_one (ps_set (i := 3) scManyBy.nd rfl (.inl rfl) (pe_tup (pa_cons (pv 5) (pa_cons (pv 3) (pa_cons (pe_tup (pa_cons pe_str (pa_cons (pe_call G_nameBy (hr.mono (by omega)) (by rfl) d_nameBy.m d_nameBy.k d_nameBy.b .nil pass0 (pa_cons (pv 0) (pa_cons (pv 4) pa_nil))) pa_nil))) pa_nil)))))))))
    (pss_one (ps_ret (pv 3)))))), ?_⟩
  have m40 := Int.emod_nonneg c (show (40 : Int) ≠ 0 by decide)
  have m40' := Int.emod_lt_of_pos c (show (0 : Int) < 40 by decide)
  have m36 := Int.emod_nonneg (c / 40) (show (36 : Int) ≠ 0 by decide)
  have m36' := Int.emod_lt_of_pos (c / 40) (show (0 : Int) < 36 by decide)
  refine ⟨(by show 7 ≤ sizeLine; decide), fun pw hpw => new_h hpw fun H1 g1 hw1 => ?_⟩
  refine ⟨_, rfl, _, rfl, _, _, rfl, rfl, (show (0 : Int) < 40 by decide), seed, c % 40, rfl, hs0, m40, by omega, fun H2 nm g2' hnm => ?_⟩
  refine ⟨(by show 2 ≤ sizeLine; decide), fun t0 ht0 => new_h ht0 fun H3 g3' ht3 => ?_⟩
  have g3 := g1.trans (g2'.trans g3')
  have hw3 := g3' _ _ (g2' _ _ hw1)
  refine ⟨_, rfl, _, _, rfl, rfl, ⟨by decide, by decide⟩, _, _, rfl, rfl, (show (0 : Int) < 36 by decide), _, _, rfl, rfl, _, rfl, (by omega), (by omega), ?_⟩
  refine for_range (lo := 0) (n := (5 + c / 40 % 36).toNat) (fun i σ H4 => Same H3 H4 ∧ ∃ (v : V) (e : Ex) (z4 z5 : Option V), Bears H4 v e ∧ e.ok ∧ e.size = 1 + 2 * i ∧ e.deep = 1 + i ∧ σ = [some (.int seed), some (.int c), some (.ref pw), some v, z4, z5])
    ⟨Same.refl _, _, .nam nm, _, _, .nam ht3, hnm, rfl, rfl, rfl⟩ (fun i σ H4 hi hP => ?_) (fun σ H4 hP => ?_)
  · obtain ⟨g4, v, e, z4, z5, b, ok, hsz, hdp, rfl⟩ := hP
    have hw4 := g4 _ _ hw3
    obtain ⟨w1, hv1, hmem1⟩ := at_modA (xs := opsV) (m := c / 1440) 7 rfl (by decide)
    obtain ⟨o1, rfl⟩ := ops_in hmem1
    have m2 := Int.emod_nonneg (c / 20160 + (0 + (i : Int))) (show (2 : Int) ≠ 0 by decide)
    have m2' := Int.emod_lt_of_pos (c / 20160 + (0 + (i : Int))) (show (0 : Int) < 2 by decide)
    obtain ⟨w2, hv2, hmem2⟩ := at_lt (xs := opsV) (k := (c / 20160 + (0 + (i : Int))) % 2) m2 (by show _ < (7 : Int); omega)
    obtain ⟨o2, rfl⟩ := ops_in hmem2
    refine ⟨_, rfl, _, rfl, _, _, rfl, rfl, ⟨by decide, by decide⟩, _, _, rfl, rfl, (show (0 : Int) < 7 by decide), pw, _, _, _, rfl, rfl, .inl (.inl hw4), hv1, ?_⟩
    dsimp only [gName]
    refine if_set (i := 5) True (fun w H' => H' = H4 ∧ ∃ o : Op, w = .str o.str) (.str o1.str) ⟨rfl, o1, rfl⟩ rfl (fun Q k1 k2 => ⟨_, rfl, _, _, rfl, rfl, ⟨by decide, by decide⟩, _, _, rfl, rfl, (show (0 : Int) < 2 by decide), rfl, _, rfl, any_b (k1 trivial) k2⟩)
      (fun _ Q k => ⟨_, rfl, _, rfl, _, _, rfl, rfl, ⟨by decide, by decide⟩, _, rfl, _, _, rfl, rfl, _, _, rfl, rfl, (show (0 : Int) < 2 by decide), pw, _, _, _, rfl, rfl, .inl (.inl hw4), hv2, k _ _ ⟨rfl, o2, rfl⟩⟩) (fun w H5 hw => ?_)
    obtain ⟨rfl, o, rfl⟩ := hw
    refine ⟨_, rfl, _, rfl, _, rfl, _, rfl, seed, _, rfl, hs0, (by omega), (by omega), fun H6 nm2 g6 hnm2 => ?_⟩
    refine ⟨(by show 2 ≤ sizeLine; decide), fun t1 ht1 => new_h ht1 fun H7 g7 ht7 => ?_⟩
    refine ⟨(by show 3 ≤ sizeLine; decide), fun t2 ht2 => new_h ht2 fun H8 g8 ht8 => ?_⟩
    refine ⟨g4.trans (g6.trans (g7.trans g8)), _, .two o e (.nam nm2), _, _, .two ht8 (b.mono (Tups.of (g6.trans (g7.trans g8)))) (.nam (g8 _ _ ht7)), ⟨ok, hnm2⟩, ?_, ?_, rfl⟩
    · show e.size + 1 + 1 = _
      omega
    · show max e.deep 1 + 1 = _
      omega
  · obtain ⟨g4, v, e, z4, z5, b, ok, hsz, hdp, rfl⟩ := hP
    exact ⟨_, rfl, q _ v e (g3.trans g4) b ok (by omega) (by omega)⟩
end
end FC
namespace FC
open PySem L2 StX
theorem if_both {c : TT} {t u : TS} {D : Ends} {σ : L2.St} {H : Hp} (hc : ∀ Q : Bool → Hp → Prop, Q true H → Q false H → c σ H Q) (h1 : t D σ H) (h2 : u D σ H) : tIfS c t u D σ H := hc _ (iteT h1) (iteF h2)
theorem seq_asg_c {v : V} {i : Nat} {rest : TS} {D : Ends} {σ : L2.St} {H : Hp} (h : rest D (σ.set i (some v)) H) : tSeq (tAsg (tC v) (gName i)) rest D σ H := h
theorem cut_ints (ms : List Int) (lo hi : Int) (h0 : 0 ≤ lo) (h1 : 0 ≤ hi) : ∃ ms' : List Int, cutV (ms.map V.int) (some lo) (some hi) = ms'.map V.int ∧ (∀ m ∈ ms', m ∈ ms) ∧ ms'.length ≤ min hi.toNat ms.length - min lo.toNat ms.length := by
  refine ⟨(ms.drop (HT.sIx (ms.map V.int).length 0 (some lo))).take (HT.sIx (ms.map V.int).length (ms.map V.int).length (some hi) - HT.sIx (ms.map V.int).length 0 (some lo)), ?_, fun m hm => ?_, ?_⟩
  · unfold cutV
    rw [List.map_take, List.map_drop]
  · exact List.drop_subset _ _ (List.take_subset _ _ hm)
  · rw [List.length_take, sIx_pos h0, sIx_pos h1, List.length_map]
    exact Nat.min_le_left _ _
theorem many_pos (k : Bool) : (0 : Int) < 30 + 30 * (if k = true then 1 else 0) := by cases k <;> decide
theorem many_le (k : Bool) : (30 : Int) + 30 * (if k = true then 1 else 0) ≤ 60 := by cases k <;> decide
section
variable {P : Program} {w : World} {K : PySem.W.Frag} {mg : Str → Option Value} {base : Heap} {f f1 f2 f3 f4 f5 f6 f7 : Addr} {fd fd1 fd2 fd3 fd4 fd5 fd6 fd7 : FuncData}
def spExprBy (K : PySem.W.Frag) : Sp := fun vs H Q _ => ∃ (a : Addr) (ms : List Int), vs = [.ref a] ∧ SqL K H a (ms.map V.int) ∧ (∀ m ∈ ms, 0 ≤ m) ∧ ms.length ≤ 63 ∧
  ∀ (H' : Hp) (v : V) (e : Ex), Same H H' → Bears H' v e → e.ok → e.size ≤ 300 → e.deep ≤ 100 → Q v H'
theorem scExprBy : FnScope ["_law_script", "_law_seed", "_law_cell", "_law_room", "_law_word", "_law_code", "_law_expr", "_law_many", "_law_k", "_law_number"] ["_law_script"] (defScope sExprBy) := ⟨rfl, rfl, rfl, by decide +kernel, rfl, by decide +kernel, by decide +kernel⟩
theorem ok_exprBy (d : Df K mg "_law_expr_by" sExprBy ["_law_script"] f fd) (z : Bl mg) (d_cellAt : Df K mg "_law_cell_at" sCellAt ["_law_script", "_law_k"] f1 fd1) (d_treeBy : Df K mg "_law_tree_by" sTreeBy ["_law_cells", "_law_seed"] f2 fd2) (d_step : Df K mg "_law_step" sStep ["_law_pile", "_law_kind", "_law_more", "_law_seed"] f3 fd3)
    (d_nameBy : Df K mg "_law_name_by" sNameBy ["_law_seed", "_law_k"] f4 fd4) (d_numBy : Df K mg "_law_number_by" sNumBy ["_law_cell"] f5 fd5) (d_manyBy : Df K mg "_law_many_by" sManyBy ["_law_seed", "_law_cell"] f6 fd6) (d_link : Df K mg "_law_link" sLink ["_law_word", "_law_code"] f7 fd7) :
    FnOk P w K mg base CX0 4 f fd ["_law_script"] (spExprBy K) := by
  refine d.F.ok scExprBy (fun vs H Q E h => ?_) (fun cdv A outer s H vs Q E hr h => ?_)
  · obtain ⟨a, ms, rfl, _⟩ := h
    rfl
  obtain ⟨a, ms, rfl, hS, hnn, h63, q⟩ := h
  have G_cellAt := ok_cellAt (P := P) (w := w) (base := base) d_cellAt z
  have G_treeBy := ok_treeBy (P := P) (w := w) (base := base) d_treeBy z d_step d_nameBy d_numBy
  have G_nameBy := ok_nameBy (P := P) (w := w) (base := base) d_nameBy z
  have G_numBy := ok_numBy (P := P) (w := w) (base := base) d_numBy
  have G_manyBy := ok_manyBy (P := P) (w := w) (base := base) d_manyBy z d_nameBy
  have G_link := ok_link (P := P) (w := w) (base := base) d_link
  refine ⟨_, (pss_cons (ps_set (i := 1) scExprBy.nd rfl (.inl rfl) (pe_call G_cellAt (hr.mono (by omega)) (by rfl) d_cellAt.m d_cellAt.k d_cellAt.b .nil pass0 (pa_cons (pv 0) (pa_cons pe_int pa_nil))))
    (pss_cons (ps_set (i := 2) scExprBy.nd rfl (.inl rfl) (pe_call G_cellAt (hr.mono (by omega)) (by rfl) d_cellAt.m d_cellAt.k d_cellAt.b .nil pass0 (pa_cons (pv 0) (pa_cons pe_int pa_nil))))
    (pss_cons (ps_set (i := 3) scExprBy.nd rfl (.inl rfl) pe_int)
    (pss_cons (ps_if (pt_cmpR op_eq (pe_op op_mod (pe_op op_fdiv (pv 2) pe_int) pe_int) pe_int (nomark _)) (pss_one (ps_set (i := 3) scExprBy.nd rfl (.inl rfl) pe_int)) pss_nil)
    (pss_cons (ps_if (pt_cmpR op_lt (pe_op op_mod (pv 2) pe_int) pe_int (nomark _)) (pss_one (ps_ret (pe_call G_treeBy (hr.mono (by omega)) (by rfl) d_treeBy.m d_treeBy.k d_treeBy.b .nil pass0 (pa_cons (pe_slice sl_list (pv 0) (po_some pe_int) (po_some (pe_op op_add pe_int (pv 3)))) (pa_cons (pv 1) pa_nil))))) pss_nil)
    (pss_cons (ps_if (pt_cmpR op_eq (pe_op op_mod (pv 2) pe_int) pe_int (nomark _)) (pss_one (ps_ret (pe_call G_manyBy (hr.mono (by omega)) (by rfl) d_manyBy.m d_manyBy.k d_manyBy.b .nil pass0 (pa_cons (pv 1) (pa_cons (pe_op op_fdiv (pv 2) pe_int) pa_nil))))) pss_nil)
    (pss_cons (ps_set (i := 4) scExprBy.nd rfl (.inl rfl) (pe_ix ix_list (pe_lst (pa_cons pe_str (pa_cons pe_str (pa_cons pe_str (pa_cons pe_str (pa_cons pe_str (pa_cons pe_str (pa_cons pe_str pa_nil)))))))) (pe_op op_mod (pe_op op_fdiv (pv 2) pe_int) pe_int) (fun _ _ => rfl)))
    (pss_cons (ps_set (i := 5) scExprBy.nd rfl (.inl rfl) (pe_op op_fdiv (pv 2) pe_int))
    (pss_cons (ps_set (i := 6) scExprBy.nd rfl (.inl rfl) (pe_tup (pa_cons pe_str (pa_cons (pe_call G_nameBy (hr.mono (by omega)) (by rfl) d_nameBy.m d_nameBy.k d_nameBy.b .nil pass0 (pa_cons (pv 1) (pa_cons pe_int pa_nil))) pa_nil))))
    (pss_cons (ps_if (pt_cmpR op_eq (pe_op op_mod (pe_op op_fdiv (pv 2) pe_int) pe_int) pe_int (nomark _)) (pss_one (ps_set (i := 6) scExprBy.nd rfl (.inl rfl) (pe_call G_treeBy (hr.mono (by omega)) (by rfl) d_treeBy.m d_treeBy.k d_treeBy.b .nil pass0 (pa_cons (pe_slice sl_list (pv 0) (po_some pe_int) (po_some pe_int)) (pa_cons (pv 1) pa_nil))))) pss_nil)
    (pss_cons (ps_if (PW.pt (pw_and (pt_cmpR op_eq (pe_op op_mod (pe_op op_fdiv (pv 2) pe_int) pe_int) pe_int (nomark _)) (pw_and1 (PW.pt (pw_or (pt_cmpR op_eq (pv 4) pe_str (nomark _)) (pw_or1 (pt_cmpR op_eq (pv 4) pe_str (nomark _)))))))) (pss_one (ps_set (i := 6) scExprBy.nd rfl (.inl rfl) (pe_tup (pa_cons pe_str (pa_cons (pe_tup (pa_cons pe_str (pa_cons (pe_call G_link (hr.mono (by omega)) (by rfl) d_link.m d_link.k d_link.b .nil pass0 (pa_cons (pv 4) (pa_cons (pe_op op_fdiv (pv 5) pe_int) pa_nil))) pa_nil))) (pa_cons (pv 6) pa_nil)))))) pss_nil)
    (pss_cons (ps_set (i := 7) scExprBy.nd rfl (.inl rfl) (pe_op op_mod (pe_op op_fdiv (pv 2) pe_int) (pe_op op_add pe_int (pe_op op_mul pe_int (pe_callTy call_int1 (by rfl) z.int (by decide +kernel) (pa_cons (pe_cmpR op_eq (pe_ix ix_tup (pv 6) pe_int (fun _ _ => rfl)) pe_str (nomark _)) pa_nil))))))
    (pss_cons (ps_if (pt_cmpR op_eq (pe_op op_mod (pe_op op_fdiv (pv 2) pe_int) pe_int) pe_int (nomark _)) (pss_one (ps_set (i := 7) scExprBy.nd rfl (.inl rfl) (pe_op op_add pe_int (pe_op op_mod (pv 7) pe_int)))) pss_nil)
    (pss_cons (ps_for PassesOwn.never rfl (pi_range1 (by rfl) z.range (pa_cons (pv 7) pa_nil)) (pg_name (i := 8) scExprBy.nd rfl (.inl rfl)) (pss_cons (ps_set (i := 9) scExprBy.nd rfl (.inl rfl) (pe_call G_link (hr.mono (by omega)) (by rfl) d_link.m d_link.k d_link.b .nil pass0 (pa_cons (pv 4) (pa_cons (pe_op op_add (pe_op op_fdiv (pv 5) pe_int) (pe_op op_mul (pv 8) (pe_op op_add pe_int (pe_op op_mod (pv 5) pe_int)))) pa_nil))))
    (pss_cons (ps_if (pt_cmpR op_eq (pe_op op_mod (pe_op op_fdiv (pv 5) pe_int) pe_int) pe_int (nomark _)) (pss_one (ps_set (i := 9) scExprBy.nd rfl (.inl rfl) (pe_call G_numBy (hr.mono (by omega)) (by rfl) d_numBy.m d_numBy.k d_numBy.b .nil pass0 (pa_cons (pe_op op_add (pe_op op_fdiv (pv 5) pe_int) (pe_op op_mul (pv 8) (pe_op op_add pe_int (pe_op op_mod (pv 5) pe_int)))) pa_nil)))) pss_nil)
    (pss_one (ps_if (PW.pt (pw_and (pt_cmpR op_eq (pe_op op_mod (pe_op op_fdiv (pv 5) pe_int) pe_int) pe_int (nomark _)) (pw_and1 (pt_cmpR op_gt (pe_op op_mod (pe_op op_add (pe_op op_fdiv (pv 5) pe_int) (pv 8)) pe_int) pe_int (nomark _))))) (pss_one (ps_set (i := 6) scExprBy.nd rfl (.inl rfl) (pe_tup (pa_cons (pv 4) (pa_cons (pe_tup (pa_cons pe_str (pa_cons (pv 9) pa_nil))) (pa_cons (pv 6) pa_nil)))))) (pss_one (ps_set (i := 6) scExprBy.nd rfl (.inl rfl) (pe_tup (pa_cons (pv 4) (pa_cons (pv 6) (pa_cons (pe_tup (pa_cons pe_str (pa_cons (pv 9) pa_nil))) pa_nil)))))))))))
    (pss_one (ps_ret (pv 6))))))))))))))))), ?_⟩
  refine ⟨_, rfl, a, ms, 0, rfl, hS, (by decide), hnn, fun seed hs0 => ?_⟩
  refine ⟨_, rfl, a, ms, 1, rfl, hS, (by decide), hnn, fun c hc0 => ?_⟩
  dsimp only [gName]
  refine seq_asg_c ?_
  refine if_set (i := 3) True (fun w H' => H' = H ∧ ∃ r : Int, w = .int r ∧ 0 ≤ r ∧ r ≤ 48) (.int 26) ⟨rfl, 26, rfl, by decide, by decide⟩ rfl (fun Q k1 k2 => ⟨_, rfl, _, _, rfl, rfl, ⟨by decide, by decide⟩, _, _, rfl, rfl, (show (0 : Int) < 4 by decide), rfl, _, rfl, any_b (k1 trivial) k2⟩)
    (fun _ Q k => k _ _ ⟨rfl, 48, rfl, by decide, by decide⟩) (fun w H1 hw => ?_)
  obtain ⟨rfl, r, rfl, hr0, hr48⟩ := hw
  refine if_two True (fun Q k1 k2 => ⟨_, rfl, _, _, rfl, rfl, (show (0 : Int) < 8 by decide), _, _, rfl, rfl, _, rfl, any_b (k1 trivial) k2⟩) (fun _ => ?_) ?_
  · obtain ⟨ms', e1, e2, e3⟩ := cut_ints ms 2 (2 + r) (by decide) (by omega)
    refine ⟨_, rfl, _, rfl, _, rfl, _, _, rfl, rfl, _, rfl, a, _, rfl, hS, fun p1 hp1 => ?_⟩
    refine ⟨_, rfl, p1, ms', seed, rfl, .inl (.inl (by rw [upd_same, e1])), fun m hm => hnn m (e2 m hm), by omega, hs0, fun H3 v e g3 b ok hsz hdp => ?_⟩
    exact q H3 v e ((same_new hp1 _).trans g3) b ok (by omega) (by omega)
  dsimp only [tNext]
  refine if_two True (fun Q k1 k2 => ⟨_, rfl, _, _, rfl, rfl, (show (0 : Int) < 8 by decide), rfl, _, rfl, any_b (k1 trivial) k2⟩) (fun _ => ?_) ?_
  · refine ⟨_, rfl, _, rfl, _, _, rfl, rfl, ⟨by decide, by decide⟩, seed, c / 8, rfl, hs0, Int.ediv_nonneg hc0 (by decide), fun H3 v e g3 b ok hsz hdp => ?_⟩
    exact q H3 v e g3 b ok (by omega) (by omega)
  dsimp only [tNext]
  obtain ⟨v, hv, hmem⟩ := at_modA (xs := [V.str "sum", .str "less", .str "times", .str "part", .str "rest", .str "part", .str "rest"]) (m := c / 8) 7 rfl (by decide)
  have ho : ∃ o : Op, v = .str o.str := by
    simp only [List.mem_cons, List.mem_nil_iff, or_false] at hmem
    rcases hmem with rfl | rfl | rfl | rfl | rfl | rfl | rfl
    · exact ⟨.sum, rfl⟩
    · exact ⟨.less, rfl⟩
    · exact ⟨.times, rfl⟩
    · exact ⟨.part, rfl⟩
    · exact ⟨.rest, rfl⟩
    · exact ⟨.part, rfl⟩
    · exact ⟨.rest, rfl⟩
  obtain ⟨o, rfl⟩ := ho
  refine ⟨(by show 7 ≤ sizeLine; decide), fun pw hpw => ?_⟩
  refine ⟨_, rfl, _, _, rfl, rfl, ⟨by decide, by decide⟩, _, _, rfl, rfl, (show (0 : Int) < 7 by decide), pw, _, _, _, rfl, rfl, .inl (.inl upd_same), hv, ?_⟩
  have g1 := same_new hpw (.lst [V.str "sum", .str "less", .str "times", .str "part", .str "rest", .str "part", .str "rest"])
  refine ⟨_, rfl, _, _, rfl, rfl, ⟨by decide, by decide⟩, ?_⟩
  have hcode : 0 ≤ c / 20160 := Int.ediv_nonneg hc0 (by decide)
  refine ⟨_, rfl, seed, 3, rfl, hs0, (by decide), (by decide), fun H2 nm g2' hnm => ?_⟩
  refine ⟨(by show 2 ≤ sizeLine; decide), fun t0 ht0 => ?_⟩
  have g3 := g1.trans (g2'.trans (same_new ht0 (.tup [.str "name", .str nm])))
  have ht3 : upd H2 t0 (.tup [.str "name", .str nm]) t0 = some (.tup [.str "name", .str nm]) := upd_same
  generalize upd H2 t0 (.tup [.str "name", .str nm]) = H3 at g3 ht3 ⊢
  dsimp only [gName]
  refine if_set (i := 6) True (fun w H' => Same H1 H' ∧ ∃ e : Ex, Bears H' w e ∧ e.ok ∧ e.size ≤ 40 ∧ e.deep ≤ 10) (.ref t0) ⟨g3, .nam nm, .nam ht3, hnm, (show 1 ≤ 40 by decide), (show 1 ≤ 10 by decide)⟩ rfl (fun Q k1 k2 => ⟨_, rfl, _, _, rfl, rfl, ⟨by decide, by decide⟩, _, _, rfl, rfl, (show (0 : Int) < 3 by decide), rfl, _, rfl, any_b (k1 trivial) k2⟩)
    (fun _ Q k => ?_) (fun w H4 hw => ?_)
  · obtain ⟨ms', e1, e2, e3⟩ := cut_ints ms 2 8 (by decide) (by decide)
    refine ⟨_, rfl, _, rfl, _, rfl, a, _, rfl, g3.seq hS, fun p1 hp1 => ?_⟩
    refine ⟨_, rfl, p1, ms', seed, rfl, .inl (.inl (by rw [upd_same, e1])), fun m hm => hnn m (e2 m hm), by omega, hs0, fun H5 v e g5 b ok hsz hdp => ?_⟩
    have e3' : ms'.length ≤ min 8 ms.length - min 2 ms.length := e3
    exact k _ _ ⟨g3.trans ((same_new hp1 _).trans g5), e, b, ok, by omega, by omega⟩
  obtain ⟨g4, e4, b4, ok4, sz4, dp4⟩ := hw
  refine if_set (i := 6) True (fun w H' => Same H1 H' ∧ ∃ e : Ex, Bears H' w e ∧ e.ok ∧ e.size ≤ 50 ∧ e.deep ≤ 11) w ⟨g4, e4, b4, ok4, by omega, by omega⟩ rfl (fun Q k1 k2 => ?_) (fun _ Q k => ?_) (fun w5 H5 hw => ?_)
  · refine ⟨_, rfl, _, _, rfl, rfl, ⟨by decide, by decide⟩, _, _, rfl, rfl, (show (0 : Int) < 3 by decide), rfl, _, rfl, ite2 (fun _ => ?_) (fun _ => k2)⟩
    exact ⟨_, rfl, rfl, _, rfl, ite2 (fun _ => k1 trivial) (fun _ => ⟨_, rfl, rfl, _, rfl, any_b (k1 trivial) k2⟩)⟩
  · refine ⟨_, rfl, _, rfl, _, _, rfl, rfl, ⟨by decide, by decide⟩, o.str, _, rfl, fun H5 n g5 hn => ?_⟩
    refine ⟨(by show 2 ≤ sizeLine; decide), fun t1 ht1 => ?_⟩
    have g6 := same_new ht1 (.tup [.str "num", .int n])
    have ht6 : upd H5 t1 (.tup [.str "num", .int n]) t1 = some (.tup [.str "num", .int n]) := upd_same
    generalize upd H5 t1 (.tup [.str "num", .int n]) = H6 at g6 ht6 ⊢
    refine ⟨_, rfl, (by show 3 ≤ sizeLine; decide), fun t2 ht2 => new_h ht2 fun H7 g7 ht7 => ?_⟩
    refine k _ _ ⟨g4.trans (g5.trans (g6.trans g7)), .two .less (.num n) e4, .two ht7 (.num (g7 _ _ ht6)) (b4.mono (Tups.of (g5.trans (g6.trans g7)))), ⟨hn, ok4⟩, ?_, ?_⟩
    · show 1 + e4.size + 1 ≤ 50
      omega
    · show max 1 e4.deep + 1 ≤ 11
      omega
  obtain ⟨g5, e5, b5, ok5, sz5, dp5⟩ := hw
  obtain ⟨ae, xe, rfl, he⟩ := b5.first
  have mp := many_pos (decide (V.str e5.word = V.str "name"))
  have ml := many_le (decide (V.str e5.word = V.str "name"))
  have hM0 := Int.emod_nonneg (c / 168) (show (30 + 30 * (if decide (V.str e5.word = V.str "name") = true then 1 else 0) : Int) ≠ 0 by omega)
  have hM1 := Int.emod_lt_of_pos (c / 168) mp
  refine ⟨_, rfl, _, _, rfl, rfl, ⟨by decide, by decide⟩, _, rfl, ae, _, 0, _, rfl, rfl, .inl (.inl he), at_of (j := 0) rfl rfl, rfl, .inr ⟨_, rfl, _, _, rfl, rfl, .inl ⟨by decide, by decide⟩, _, _, rfl, rfl, _, _, rfl, rfl, mp, ?_⟩⟩
  dsimp only [gName]
  refine if_set (i := 7) True (fun w H' => H' = H5 ∧ ∃ n : Int, w = .int n ∧ 0 ≤ n ∧ n ≤ 60) (.int _) ⟨rfl, _, rfl, hM0, by omega⟩ rfl (fun Q k1 k2 => ⟨_, rfl, _, _, rfl, rfl, ⟨by decide, by decide⟩, _, _, rfl, rfl, (show (0 : Int) < 2 by decide), rfl, _, rfl, any_b (k1 trivial) k2⟩)
    (fun _ Q k => ?_) (fun w H6 hw => ?_)
  · generalize c / 168 % (30 + 30 * (if decide (V.str e5.word = V.str "name") = true then 1 else 0)) = M at *
    have m4 := Int.emod_nonneg M (show (4 : Int) ≠ 0 by decide)
    have m4' := Int.emod_lt_of_pos M (show (0 : Int) < 4 by decide)
    exact ⟨_, rfl, _, _, rfl, rfl, (show (0 : Int) < 4 by decide), _, _, rfl, rfl, k _ _ ⟨rfl, 1 + M % 4, rfl, by omega, by omega⟩⟩
  obtain ⟨rfl, M, rfl, hMa, hMb⟩ := hw
  refine ⟨_, rfl, _, rfl, (by omega), (by omega), ?_⟩
  refine for_range (lo := 0) (n := M.toNat) (fun i σ H7 => Same H6 H7 ∧ ∃ (v : V) (e : Ex) (z8 z9 : Option V), Bears H7 v e ∧ e.ok ∧ e.size = e5.size + 2 * i ∧ e.deep = e5.deep + i ∧
      σ = [some (.ref a), some (.int seed), some (.int c), some (.int r), some (.str o.str), some (.int (c / 20160)), some v, some (.int M), z8, z9])
    ⟨Same.refl _, _, e5, _, _, b5, ok5, rfl, rfl, rfl⟩ (fun i σ H7 hi hP => ?_) (fun σ H7 hP => ?_)
  · obtain ⟨g7, v, e, z8, z9, b, ok, hsz, hdp, rfl⟩ := hP
    have d_e := Ex.deep_pos e
    have m4 := Int.emod_nonneg (c / 20160) (show (4 : Int) ≠ 0 by decide)
    refine ⟨_, rfl, _, rfl, _, _, rfl, rfl, ⟨by decide, by decide⟩, _, rfl, _, rfl, _, _, rfl, rfl, (show (0 : Int) < 4 by decide), _, _, rfl, rfl, _, _, rfl, rfl, .inl ⟨by omega, by omega⟩, _, _, rfl, rfl, o.str, _, rfl, fun H8 n g8 hn => ?_⟩
    dsimp only [gName]
    refine if_set (i := 9) True (fun w H' => Same H8 H' ∧ ∃ n : Int, w = .int n ∧ NumOk n) (.int n) ⟨Same.refl _, n, rfl, hn⟩ rfl (fun Q k1 k2 => ⟨_, rfl, _, _, rfl, rfl, ⟨by decide, by decide⟩, _, _, rfl, rfl, (show (0 : Int) < 4 by decide), rfl, _, rfl, any_b (k1 trivial) k2⟩)
      (fun _ Q k => ?_) (fun w H9 hw => ?_)
    · refine ⟨_, rfl, _, _, rfl, rfl, ⟨by decide, by decide⟩, _, rfl, _, rfl, _, _, rfl, rfl, (show (0 : Int) < 4 by decide), _, _, rfl, rfl, _, _, rfl, rfl, .inl ⟨by omega, by omega⟩, _, _, rfl, rfl, _, rfl, ?_, fun H9 n9 g9 hn9 => k _ _ ⟨g9, n9, rfl, hn9⟩⟩
      have h1 : 0 ≤ c / 20160 / 144 := Int.ediv_nonneg hcode (by decide)
      have h2 : 0 ≤ (0 + (i : Int)) * (1 + c / 20160 % 4) := Int.mul_nonneg (by omega) (by omega)
      omega
    obtain ⟨g9, n9, rfl, hn9⟩ := hw
    have g79 := g8.trans g9
    refine if_both (fun Q k1 k2 => ?_) ?_ ?_
    · refine ⟨_, rfl, _, _, rfl, rfl, ⟨by decide, by decide⟩, _, _, rfl, rfl, (show (0 : Int) < 4 by decide), rfl, _, rfl, ite2 (fun _ => ?_) (fun _ => k2)⟩
      exact ⟨_, rfl, _, _, rfl, rfl, ⟨by decide, by decide⟩, _, rfl, _, _, rfl, rfl, _, _, rfl, rfl, (show (0 : Int) < 3 by decide), _, _, rfl, rfl, _, rfl, any_b k1 k2⟩
    · refine ⟨_, rfl, _, rfl, (by show 2 ≤ sizeLine; decide), fun t1 ht1 => ?_⟩
      have g10 := same_new ht1 (.tup [.str "num", .int n9])
      have ht10 : upd H9 t1 (.tup [.str "num", .int n9]) t1 = some (.tup [.str "num", .int n9]) := upd_same
      generalize upd H9 t1 (.tup [.str "num", .int n9]) = H10 at g10 ht10 ⊢
      refine ⟨_, rfl, (by show 3 ≤ sizeLine; decide), fun t2 ht2 => new_h ht2 fun H11 g11 ht11 => ?_⟩
      refine ⟨g7.trans (g79.trans (g10.trans g11)), _, .two o (.num n9) e, _, _, .two ht11 (.num (g11 _ _ ht10)) (b.mono (Tups.of (g79.trans (g10.trans g11)))), ⟨hn9, ok⟩, ?_, ?_, rfl⟩
      · show 1 + e.size + 1 = _
        omega
      · show max 1 e.deep + 1 = _
        omega
    · refine ⟨_, rfl, _, rfl, _, rfl, (by show 2 ≤ sizeLine; decide), fun t1 ht1 => new_h ht1 fun H10 g10 ht10 => ?_⟩
      refine ⟨(by show 3 ≤ sizeLine; decide), fun t2 ht2 => new_h ht2 fun H11 g11 ht11 => ?_⟩
      refine ⟨g7.trans (g79.trans (g10.trans g11)), _, .two o e (.num n9), _, _, .two ht11 (b.mono (Tups.of (g79.trans (g10.trans g11)))) (.num (g11 _ _ ht10)), ⟨ok, hn9⟩, ?_, ?_, rfl⟩
      · show e.size + 1 + 1 = _
        omega
      · show max e.deep 1 + 1 = _
        omega
  · obtain ⟨g7, v, e, z8, z9, b, ok, hsz, hdp, rfl⟩ := hP
    have d_e := Ex.deep_pos e
    exact ⟨_, rfl, q _ v e (g5.trans g7) b ok (by omega) (by omega)⟩
end
end FC
namespace FC
open PySem L2 StX
/-! ### lists of texts, compared -/
def strD (l : List Str) : PyData := .list (l.map PyData.str)
theorem dp_strs {K : PySem.W.Frag} {H : Hp} : ∀ l : List Str, DpAll K H (l.map V.str) (l.map PyData.str)
  | [] => .nil
  | x :: r => .cons (.str x) (dp_strs r)
theorem Low.strOk {x : Str} (h : Low x) : PyData.strOk x = true := by
  unfold PySem.PyData.strOk
  rw [Array.all_eq_true]
  intro i hi
  have hm : x.cps[i] ∈ x.cps.toList := Array.mem_toList_iff.mpr (Array.getElem_mem hi)
  have := h _ hm
  exact decide_eq_true (by omega)
theorem canLay_strs : ∀ l : List Str, (∀ x ∈ l, Low x) → PyData.canLayAll0 (l.map PyData.str) = true
  | [], _ => by simp [PyData.canLayAll0]
  | x :: r, h => by
    have ih := canLay_strs r fun y hy => h y (List.mem_cons_of_mem _ hy)
    have hx := (h x List.mem_cons_self).strOk
    show PyData.canLayAll0 (PyData.str x :: r.map PyData.str) = true
    unfold PyData.canLayAll0
    rw [ih, Bool.and_true]
    unfold PyData.canLay0
    exact hx
theorem depth_strs : ∀ l : List Str, PyData.depthAll (l.map PyData.str) = 0
  | [] => rfl
  | x :: r => by
    have ih := depth_strs r
    show PyData.depthAll (PyData.str x :: r.map PyData.str) = 0
    unfold PyData.depthAll
    rw [ih]
    rfl
theorem shaped_strs (l : List Str) (h : ∀ x ∈ l, Low x) : SeqAt.shaped (strD l) = true := by
  have h1 : (strD l).canLay0 = true := by
    unfold strD PyData.canLay0
    exact canLay_strs l h
  have h2 : (strD l).depth = 1 := by
    unfold strD PyData.depth
    rw [depth_strs]
  unfold SeqAt.shaped
  rw [h1, h2]
  rfl
theorem eqv_strs_all : ∀ l : List Str, PyData.eqvAll (l.map PyData.str) (l.map PyData.str) = true
  | [] => by simp [PyData.eqvAll]
  | x :: r => by
    have ih := eqv_strs_all r
    show PyData.eqvAll (PyData.str x :: r.map PyData.str) (PyData.str x :: r.map PyData.str) = true
    unfold PyData.eqvAll
    rw [ih, Bool.and_true]
    simp [PyData.eqv]
theorem eqv_strs (l : List Str) : PyData.eqv (strD l) (strD l) = true := by
  unfold strD PyData.eqv
  exact eqv_strs_all l
/-! ### the names that are needed are names -/
theorem mem_lneeds : ∀ {e : Ex} {x : Str}, e.ok → x ∈ lneeds e → NameOk x
  | .num _, x, _, h => nomatch h
  | .nam w, x, ok, h => by
    have : x ∈ [w] := h
    rw [List.mem_singleton.mp this]
    exact ok
  | .two _ a b, x, ok, h => by
    have h' : x ∈ addAll (addAll [] (lneeds a)) (lneeds b) := h
    rw [mem_addAll, mem_addAll] at h'
    rcases h' with (h' | h') | h'
    · cases h'
    · exact mem_lneeds ok.1 h'
    · exact mem_lneeds ok.2 h'
  | .whn c a b, x, ok, h => by
    have h' : x ∈ addAll (addAll (addAll [] (lneeds c)) (lneeds a)) (lneeds b) := h
    rw [mem_addAll, mem_addAll, mem_addAll] at h'
    rcases h' with ((h' | h') | h') | h'
    · cases h'
    · exact mem_lneeds ok.1 h'
    · exact mem_lneeds ok.2.1 h'
    · exact mem_lneeds ok.2.2 h'
  | .lett w a b, x, ok, h => by
    have h' : x ∈ addAll (addAll [] (lneeds a)) ((lneeds b).filter fun x => !decide (x = w)) := h
    rw [mem_addAll, mem_addAll] at h'
    rcases h' with (h' | h') | h'
    · cases h'
    · exact mem_lneeds ok.2.1 h'
    · exact mem_lneeds ok.2.2 (List.mem_filter.mp h').1
theorem ne_self (x : V) : (!decide (x = x)) = false := by simp
theorem eq_self' (x : V) : decide (x = x) = true := by simp
structure Gb (mg : Str → Option Value) (t1 t2 : Tok) : Prop where
  LIMIT : mg "LIMIT" = some (.int 1000000000 t1)
  DEEPEST : mg "DEEPEST" = some (.int 60 t2)
section
variable {P : Program} {w : World} {K : PySem.W.Frag} {mg : Str → Option Value} {base : Heap} {t1 t2 : Tok} {f f1 f2 f3 f4 f5 f6 f7 f8 f9 : Addr} {fd fd1 fd2 fd3 fd4 fd5 fd6 fd7 fd8 fd9 : FuncData}
def spLaw (K : PySem.W.Frag) : Sp := fun vs H Q _ => ∃ (a : Addr) (ns : List Int), vs = [.ref a] ∧ SqL K H a (ns.map V.int) ∧ ns.length ≤ 63 ∧ ∀ H', Q (.bl true) H'
theorem scLaw : FnScope ["_law_script", "_law_expr", "_law_count", "_law_depth", "_law_found", "_law_name"] ["_law_script"] (defScope sLaw) := ⟨rfl, rfl, rfl, by decide +kernel, rfl, by decide +kernel, by decide +kernel⟩
theorem ok_law (d : Df K mg "law" sLaw ["_law_script"] f fd) (z : Bl mg) (gl : Gb mg t1 t2)
    (d_mixed : Df K mg "_law_mixed" sMixed ["_law_script"] f1 fd1) (G_mixed : FnOk P w K mg base CX0 1 f1 fd1 ["_law_script"] (spMixed K))
    (d_whole : Df K mg "_law_whole" sWhole ["_law_found"] f2 fd2) (G_whole : FnOk P w K mg base CX0 1 f2 fd2 ["_law_found"] spWhole)
    (d_exprBy : Df K mg "_law_expr_by" sExprBy ["_law_script"] f3 fd3) (G_exprBy : FnOk P w K mg base CX0 4 f3 fd3 ["_law_script"] (spExprBy K))
    (d_size : Df K mg "size" sSize ["expr"] f4 fd4) (G_size : FnOk P w K mg base CX0 101 f4 fd4 ["expr"] (spSize 100))
    (d_deep : Df K mg "deep" sDeep ["expr"] f5 fd5) (G_deep : FnOk P w K mg base CX0 101 f5 fd5 ["expr"] (spDeep 100))
    (d_needs : Df K mg "needs" sNeeds ["expr"] f6 fd6) (G_needs : FnOk P w K mg base CX0 102 f6 fd6 ["expr"] (spNeeds 100))
    (d_lsize : Df K mg "_law_size" sLSize ["_law_expr"] f7 fd7) (G_lsize : FnOk P w K mg base CX0 101 f7 fd7 ["_law_expr"] (spSize 100))
    (d_ldeep : Df K mg "_law_deep" sLDeep ["_law_expr"] f8 fd8) (G_ldeep : FnOk P w K mg base CX0 101 f8 fd8 ["_law_expr"] (spDeep 100))
    (d_lneeds : Df K mg "_law_needs" sLNeeds ["_law_expr"] f9 fd9) (G_lneeds : FnOk P w K mg base CX0 101 f9 fd9 ["_law_expr"] (spLNeeds 100)) :
    FnOk P w K mg base CX0 103 f fd ["_law_script"] (spLaw K) := by
  refine d.F.ok scLaw (fun vs H Q E h => ?_) (fun cdv A outer s H vs Q E hr h => ?_)
  · obtain ⟨a, ns, rfl, _⟩ := h
    rfl
  obtain ⟨a, ns, rfl, hS, h63, q⟩ := h
  refine ⟨_, (pss_cons (ps_set (i := 0) scLaw.nd rfl (.inl rfl) (pe_call G_mixed (hr.mono (by omega)) (by rfl) d_mixed.m d_mixed.k d_mixed.b .nil pass0 (pa_cons (pv 0) pa_nil)))
    (pss_cons (ps_if (PW.pt (pw_or (pt_not (pt_val (pe_call G_whole (hr.mono (by omega)) (by rfl) d_whole.m d_whole.k d_whole.b .nil pass0 (pa_cons (pe_glob (by rfl) gl.LIMIT (v := .int 1000000000) ⟨_, rfl⟩) pa_nil)))) (pw_or (pt_cmpR op_ne (pe_glob (by rfl) gl.LIMIT (v := .int 1000000000) ⟨_, rfl⟩) pe_int (nomark _)) (pw_or (pt_not (pt_val (pe_call G_whole (hr.mono (by omega)) (by rfl) d_whole.m d_whole.k d_whole.b .nil pass0 (pa_cons (pe_glob (by rfl) gl.DEEPEST (v := .int 60) ⟨_, rfl⟩) pa_nil)))) (pw_or1 (pt_cmpR op_ne (pe_glob (by rfl) gl.DEEPEST (v := .int 60) ⟨_, rfl⟩) pe_int (nomark _))))))) (pss_one (ps_ret pe_bl)) pss_nil)
    (pss_cons (ps_set (i := 1) scLaw.nd rfl (.inl rfl) (pe_call G_exprBy (hr.mono (by omega)) (by rfl) d_exprBy.m d_exprBy.k d_exprBy.b .nil pass0 (pa_cons (pv 0) pa_nil)))
    (pss_cons (ps_set (i := 2) scLaw.nd rfl (.inl rfl) (pe_call G_size (hr.mono (by omega)) (by rfl) d_size.m d_size.k d_size.b .nil pass0 (pa_cons (pv 1) pa_nil)))
    (pss_cons (ps_set (i := 3) scLaw.nd rfl (.inl rfl) (pe_call G_deep (hr.mono (by omega)) (by rfl) d_deep.m d_deep.k d_deep.b .nil pass0 (pa_cons (pv 1) pa_nil)))
    (pss_cons (ps_set (i := 4) scLaw.nd rfl (.inl rfl) (pe_call G_needs (hr.mono (by omega)) (by rfl) d_needs.m d_needs.k d_needs.b .nil pass0 (pa_cons (pv 1) pa_nil)))
    (pss_cons (ps_if (PW.pt (pw_or (pt_not (pt_val (pe_call G_whole (hr.mono (by omega)) (by rfl) d_whole.m d_whole.k d_whole.b .nil pass0 (pa_cons (pv 2) pa_nil)))) (pw_or1 (pt_cmpR op_ne (pv 2) (pe_call G_lsize (hr.mono (by omega)) (by rfl) d_lsize.m d_lsize.k d_lsize.b .nil pass0 (pa_cons (pv 1) pa_nil)) (nomark _))))) (pss_one (ps_ret pe_bl)) pss_nil)
    (pss_cons (ps_if (PW.pt (pw_or (pt_not (pt_val (pe_call G_whole (hr.mono (by omega)) (by rfl) d_whole.m d_whole.k d_whole.b .nil pass0 (pa_cons (pv 3) pa_nil)))) (pw_or1 (pt_cmpR op_ne (pv 3) (pe_call G_ldeep (hr.mono (by omega)) (by rfl) d_ldeep.m d_ldeep.k d_ldeep.b .nil pass0 (pa_cons (pv 1) pa_nil)) (nomark _))))) (pss_one (ps_ret pe_bl)) pss_nil)
    (pss_cons (ps_if (pt_not (pt_val (pe_callB call_isi (by rfl) z.isi (by decide +kernel) (pa_cons (pv 4) (pa_cons (pe_bltn (by rfl) z.list (by decide +kernel) (v := .ty "list") rfl) pa_nil))))) (pss_one (ps_ret pe_bl)) pss_nil)
    (pss_cons (ps_for PassesOwn.never rfl (pi_list (pv 4)) (pg_name (i := 5) scLaw.nd rfl (.inl rfl)) (pss_one (ps_if (pt_not (pt_val (pe_callB call_isi (by rfl) z.isi (by decide +kernel) (pa_cons (pv 5) (pa_cons (pe_bltn (by rfl) z.str (by decide +kernel) (v := .ty "str") rfl) pa_nil))))) (pss_one (ps_ret pe_bl)) pss_nil)))
    (pss_cons (ps_if (pt_cmpR (op_neD hr.units) (pv 4) (pe_call G_lneeds (hr.mono (by omega)) (by rfl) d_lneeds.m d_lneeds.k d_lneeds.b .nil pass0 (pa_cons (pv 1) pa_nil)) (nomark _)) (pss_one (ps_ret pe_bl)) pss_nil)
    (pss_cons (ps_expr (pe_bm PySem.F.plainAttrs_list PySem.F.slot_list_append PySem.F.type_list_append mt_append (pv 4) (pa_cons pe_str pa_nil)))
    (pss_one (ps_ret (pe_and (pe_cmpR (op_eqD hr.units) (pe_call G_needs (hr.mono (by omega)) (by rfl) d_needs.m d_needs.k d_needs.b .nil pass0 (pa_cons (pv 1) pa_nil)) (pe_call G_lneeds (hr.mono (by omega)) (by rfl) d_lneeds.m d_lneeds.k d_lneeds.b .nil pass0 (pa_cons (pv 1) pa_nil)) (nomark _)) (pe_and (pe_cmpR op_eq (pe_call G_size (hr.mono (by omega)) (by rfl) d_size.m d_size.k d_size.b .nil pass0 (pa_cons (pv 1) pa_nil)) (pv 2) (nomark _)) (pe_one (pe_cmpR op_eq (pe_call G_deep (hr.mono (by omega)) (by rfl) d_deep.m d_deep.k d_deep.b .nil pass0 (pa_cons (pv 1) pa_nil)) (pv 3) (nomark _))))))))))))))))))), ?_⟩
  refine ⟨_, rfl, a, ns, rfl, hS, h63, fun H1 p ms g1 hp hl hnn => ?_⟩
  refine ⟨1000000000, rfl, true, rfl, iteF ⟨rfl, false, rfl, iteF ⟨60, rfl, true, rfl, iteF ⟨rfl, false, rfl, iteF ?_⟩⟩⟩⟩
  refine ⟨_, rfl, p, ms, rfl, .inl (.inl hp), hnn, by omega, fun H2 v e g2 b2 ok hsz hd => ?_⟩
  have hs1 : e.size ≤ 1000 := by omega
  have hlow : ∀ x ∈ lneeds e, Low x := fun x hx => (mem_lneeds ok hx).2.2
  refine ⟨_, rfl, v, e, rfl, b2, hd, fun H3 g3 => ?_⟩
  have b3 := b2.mono (Tups.of g3)
  refine ⟨_, rfl, v, e, rfl, b3, hd, fun H4 g4 => ?_⟩
  have b4 := b3.mono (Tups.of g4)
  refine ⟨_, rfl, v, e, rfl, b4, hd, hs1, fun H5 pf g5 hpf0 hpf => ?_⟩
  rw [gath_lneeds] at hpf
  have b5 := b4.mono (Tups.of g5)
  refine ⟨_, rfl, (e.size : Int), rfl, true, rfl, iteF ⟨_, rfl, _, rfl, v, e, rfl, b5, hd, fun H6 g6 => ⟨rfl, false, congrArg V.bl (ne_self _), iteF ?_⟩⟩⟩
  have b6 := b5.mono (Tups.of g6)
  refine ⟨_, rfl, (e.deep : Int), rfl, true, rfl, iteF ⟨_, rfl, _, rfl, v, e, rfl, b6, hd, fun H7 g7 => ⟨rfl, false, congrArg V.bl (ne_self _), iteF ?_⟩⟩⟩
  have b7 := b6.mono (Tups.of g7)
  have hpf7 := g7 _ _ (g6 _ _ hpf)
  refine ⟨_, rfl, .ref pf, .ty "list", .type "list", .type "list", true, rfl, .ty _, .base (.lst hpf7), kit_ty (by decide +kernel), true, rfl, iteF ?_⟩
  refine ⟨_, rfl, pf, rfl, ⟨_, .inl (.inl hpf7)⟩, ?_⟩
  refine for_list (K := K) (a := pf) (xs := (lneeds e).map V.str) (fun i σ H8 => H8 = H7 ∧ ∃ z5, σ = [some (.ref p), some v, some (.int (e.size : Int)), some (.int (e.deep : Int)), some (.ref pf), z5])
    ⟨rfl, _, rfl⟩ (fun i σ H8 _ h => by rw [h.1]; exact .inl (.inl hpf7)) (fun i x σ H8 hx hP => ?_) (fun σ H8 hP => ?_)
  · obtain ⟨rfl, z5, rfl⟩ := hP
    rw [List.getElem?_map] at hx
    obtain ⟨y, hy, rfl⟩ := Option.map_eq_some_iff.mp hx
    exact ⟨_, rfl, .str y, .ty "str", .type "str", .type "str", true, rfl, .ty _, .base (.str y), kit_ty (by decide +kernel), true, rfl, iteF ⟨rfl, _, rfl⟩⟩
  · obtain ⟨rfl, z5, rfl⟩ := hP
    refine ⟨_, rfl, _, rfl, v, e, rfl, b7, hd, hs1, fun H9 pl g9 hpl0 hpl => ?_⟩
    have hpf9 := g9 _ _ hpf7
    have b9 := b7.mono (Tups.of g9)
    refine ⟨strD (lneeds e), strD (lneeds e), .lst (.inl (.inl hpf9)) (dp_strs _), .lst (.inl (.inl hpl)) (dp_strs _), shaped_strs _ hlow, shaped_strs _ hlow, false, congrArg V.bl (by rw [eqv_strs]; rfl), iteF ?_⟩
    have hlen := lneeds_len e
    refine ⟨_, rfl, .inl ⟨rfl, _, .inl (.inl hpf9)⟩, pf, _, _, rfl, rfl, hpf9, ?_, ?_⟩
    · rw [List.length_map]
      exact small1000 (by omega)
    have g10 : But pf H9 (upd H9 pf (.lst ((lneeds e).map V.str ++ [.str "x"]))) := But.upd
    have b10 := b9.mono (g10.tupsL hpf9)
    refine ⟨_, rfl, v, e, rfl, b10, hd, hs1, fun H11 p11 g11 h11 hp11 => ?_⟩
    rw [gath_lneeds] at hp11
    have b11 := b10.mono (Tups.of g11)
    refine ⟨_, rfl, v, e, rfl, b11, hd, hs1, fun H12 p12 g12 h12 hp12 => ?_⟩
    have b12 := b11.mono (Tups.of g12)
    refine ⟨strD (lneeds e), strD (lneeds e), .lst (.inl (.inl (g12 _ _ hp11))) (dp_strs _), .lst (.inl (.inl hp12)) (dp_strs _), shaped_strs _ hlow, shaped_strs _ hlow, true, congrArg V.bl (eqv_strs _), iteT ?_⟩
    refine ⟨_, rfl, v, e, rfl, b12, hd, fun H13 g13 => ⟨_, rfl, rfl, true, congrArg V.bl (eq_self' _), iteT ?_⟩⟩
    have b13 := b12.mono (Tups.of g13)
    refine ⟨_, rfl, v, e, rfl, b13, hd, fun H14 g14 => ⟨_, rfl, rfl, ?_⟩⟩
    rw [eq_self']
    exact q H14
end
end FC
namespace FC
open PySem L2 StX
section
variable {P : Program} {w : World} {K : PySem.W.Frag} {mg : Str → Option Value} {base : Heap} {f g : Addr} {fd gd : FuncData}
theorem all_size (d : Df K mg "size" sSize ["expr"] f fd) (dp : Df K mg "parts" sParts ["expr"] g gd) (z : Bl mg) : ∀ n, FnOk P w K mg base CX0 (n + 1) f fd ["expr"] (spSize n)
  | 0 => spSize0.mono (Nat.zero_le _)
  | n + 1 => ok_size n d dp z (all_size d dp z n)
theorem all_deep (d : Df K mg "deep" sDeep ["expr"] f fd) (dp : Df K mg "parts" sParts ["expr"] g gd) (z : Bl mg) : ∀ n, FnOk P w K mg base CX0 (n + 1) f fd ["expr"] (spDeep n)
  | 0 => spDeep0.mono (Nat.zero_le _)
  | n + 1 => ok_deep n d dp z (all_deep d dp z n)
theorem all_gather (d : Df K mg "_gather" sGather ["expr", "hidden", "found"] f fd) (dp : Df K mg "parts" sParts ["expr"] g gd) : ∀ n, FnOk P w K mg base CX0 (n + 1) f fd ["expr", "hidden", "found"] (spGather n)
  | 0 => spGather0.mono (Nat.zero_le _)
  | n + 1 => ok_gather n d dp (all_gather d dp n)
theorem all_lsize (d : Df K mg "_law_size" sLSize ["_law_expr"] f fd) (z : Bl mg) : ∀ n, FnOk P w K mg base CX0 (n + 1) f fd ["_law_expr"] (spSize n)
  | 0 => spLSize0.mono (Nat.zero_le _)
  | n + 1 => ok_lsize n d z (all_lsize d z n)
theorem all_ldeep (d : Df K mg "_law_deep" sLDeep ["_law_expr"] f fd) (z : Bl mg) : ∀ n, FnOk P w K mg base CX0 (n + 1) f fd ["_law_expr"] (spDeep n)
  | 0 => spLDeep0.mono (Nat.zero_le _)
  | n + 1 => ok_ldeep n d z (all_ldeep d z n)
theorem all_lneeds (d : Df K mg "_law_needs" sLNeeds ["_law_expr"] f fd) (z : Bl mg) : ∀ n, FnOk P w K mg base CX0 (n + 1) f fd ["_law_expr"] (spLNeeds n)
  | 0 => spLNeeds0.mono (Nat.zero_le _)
  | n + 1 => ok_lneeds n d z (all_lneeds d z n)
end
theorem df_mk {K : PySem.W.Frag} {h : Heap} {mg : Str → Option Value} {x : Str} {st : Stmt} {ps : List Str} {f : Addr} {od an : Option Addr} {sl : Array (Option Value)} {oc kV dc pm cd ct : Value} (X : K.In h) (G : h.Ns mainGlobals mg)
    (a : PySem.W.nsIn K mainGlobals x = some (some (.ref f))) (l : K.lookup f = some ⟨oc, od, .func (PySem.W.fnOf x x (defArgs st) (defBody st) (defScope st) .none kV dc pm an cd ct), sl⟩) (c : PySem.W.codeIn K cd x = true) (k : PySem.W.keepIn K (.ref f) = true)
    (hb : ∀ (kV doc pm : Value) (an : Option Addr) (cdv ct : Value) (us : List Value), us.length = ps.length → bindArgs (PySem.W.fnOf x x (defArgs st) (defBody st) (defScope st) .none kV doc pm an cdv ct) ⟨us, []⟩ = pure (ps.zip us)) :
    Df K mg x st ps f (PySem.W.fnOf x x (defArgs st) (defBody st) (defScope st) .none kV dc pm an cd ct) :=
  ⟨fun_mk l c k, (fun_mk l c k).binds hb, PySem.W.mg_of X G a⟩

theorem all_mk {l : PySem.W.OpenLaw} {w : World} {K : PySem.W.Frag} {h : Heap} {mg : Str → Option Value} {fa : Addr} {t1 t2 : Tok} (X : K.In h) (G : h.Ns mainGlobals mg) (hfa : mg "law" = some (.ref fa))
    {f1 f2 f3 f4 f5 f6 f7 f8 f9 f10 f11 f12 f13 f14 f15 f16 f17 f18 f19 : Addr} {od1 an1 od2 an2 od3 an3 od4 an4 od5 an5 od6 an6 od7 an7 od8 an8 od9 an9 od10 an10 od11 an11 od12 an12 od13 an13 od14 an14 od15 an15 od16 an16 od17 an17 od18 an18 od19 an19 : Option Addr} {sl1 sl2 sl3 sl4 sl5 sl6 sl7 sl8 sl9 sl10 sl11 sl12 sl13 sl14 sl15 sl16 sl17 sl18 sl19 : Array (Option Value)} {oc1 kV1 dc1 pm1 cd1 ct1 oc2 kV2 dc2 pm2 cd2 ct2 oc3 kV3 dc3 pm3 cd3 ct3 oc4 kV4 dc4 pm4 cd4 ct4 oc5 kV5 dc5 pm5 cd5 ct5 oc6 kV6 dc6 pm6 cd6 ct6 oc7 kV7 dc7 pm7 cd7 ct7 oc8 kV8 dc8 pm8 cd8 ct8 oc9 kV9 dc9 pm9 cd9 ct9 oc10 kV10 dc10 pm10 cd10 ct10 oc11 kV11 dc11 pm11 cd11 ct11 oc12 kV12 dc12 pm12 cd12 ct12 oc13 kV13 dc13 pm13 cd13 ct13 oc14 kV14 dc14 pm14 cd14 ct14 oc15 kV15 dc15 pm15 cd15 ct15 oc16 kV16 dc16 pm16 cd16 ct16 oc17 kV17 dc17 pm17 cd17 ct17 oc18 kV18 dc18 pm18 cd18 ct18 oc19 kV19 dc19 pm19 cd19 ct19 : Value}
    (a1 : PySem.W.nsIn K mainGlobals "parts" = some (some (.ref f1))) (l1 : K.lookup f1 = some ⟨oc1, od1, .func (PySem.W.fnOf "parts" "parts" (defArgs sParts) (defBody sParts) (defScope sParts) .none kV1 dc1 pm1 an1 cd1 ct1), sl1⟩) (c1 : PySem.W.codeIn K cd1 "parts" = true) (k1 : PySem.W.keepIn K (.ref f1) = true)
    (a2 : PySem.W.nsIn K mainGlobals "size" = some (some (.ref f2))) (l2 : K.lookup f2 = some ⟨oc2, od2, .func (PySem.W.fnOf "size" "size" (defArgs sSize) (defBody sSize) (defScope sSize) .none kV2 dc2 pm2 an2 cd2 ct2), sl2⟩) (c2 : PySem.W.codeIn K cd2 "size" = true) (k2 : PySem.W.keepIn K (.ref f2) = true)
    (a3 : PySem.W.nsIn K mainGlobals "deep" = some (some (.ref f3))) (l3 : K.lookup f3 = some ⟨oc3, od3, .func (PySem.W.fnOf "deep" "deep" (defArgs sDeep) (defBody sDeep) (defScope sDeep) .none kV3 dc3 pm3 an3 cd3 ct3), sl3⟩) (c3 : PySem.W.codeIn K cd3 "deep" = true) (k3 : PySem.W.keepIn K (.ref f3) = true)
    (a4 : PySem.W.nsIn K mainGlobals "needs" = some (some (.ref f4))) (l4 : K.lookup f4 = some ⟨oc4, od4, .func (PySem.W.fnOf "needs" "needs" (defArgs sNeeds) (defBody sNeeds) (defScope sNeeds) .none kV4 dc4 pm4 an4 cd4 ct4), sl4⟩) (c4 : PySem.W.codeIn K cd4 "needs" = true) (k4 : PySem.W.keepIn K (.ref f4) = true)
    (a5 : PySem.W.nsIn K mainGlobals "_gather" = some (some (.ref f5))) (l5 : K.lookup f5 = some ⟨oc5, od5, .func (PySem.W.fnOf "_gather" "_gather" (defArgs sGather) (defBody sGather) (defScope sGather) .none kV5 dc5 pm5 an5 cd5 ct5), sl5⟩) (c5 : PySem.W.codeIn K cd5 "_gather" = true) (k5 : PySem.W.keepIn K (.ref f5) = true)
    (a6 : PySem.W.nsIn K mainGlobals "_law_mixed" = some (some (.ref f6))) (l6 : K.lookup f6 = some ⟨oc6, od6, .func (PySem.W.fnOf "_law_mixed" "_law_mixed" (defArgs sMixed) (defBody sMixed) (defScope sMixed) .none kV6 dc6 pm6 an6 cd6 ct6), sl6⟩) (c6 : PySem.W.codeIn K cd6 "_law_mixed" = true) (k6 : PySem.W.keepIn K (.ref f6) = true)
    (a7 : PySem.W.nsIn K mainGlobals "_law_cell_at" = some (some (.ref f7))) (l7 : K.lookup f7 = some ⟨oc7, od7, .func (PySem.W.fnOf "_law_cell_at" "_law_cell_at" (defArgs sCellAt) (defBody sCellAt) (defScope sCellAt) .none kV7 dc7 pm7 an7 cd7 ct7), sl7⟩) (c7 : PySem.W.codeIn K cd7 "_law_cell_at" = true) (k7 : PySem.W.keepIn K (.ref f7) = true)
    (a8 : PySem.W.nsIn K mainGlobals "_law_whole" = some (some (.ref f8))) (l8 : K.lookup f8 = some ⟨oc8, od8, .func (PySem.W.fnOf "_law_whole" "_law_whole" (defArgs sWhole) (defBody sWhole) (defScope sWhole) .none kV8 dc8 pm8 an8 cd8 ct8), sl8⟩) (c8 : PySem.W.codeIn K cd8 "_law_whole" = true) (k8 : PySem.W.keepIn K (.ref f8) = true)
    (a9 : PySem.W.nsIn K mainGlobals "_law_number_by" = some (some (.ref f9))) (l9 : K.lookup f9 = some ⟨oc9, od9, .func (PySem.W.fnOf "_law_number_by" "_law_number_by" (defArgs sNumBy) (defBody sNumBy) (defScope sNumBy) .none kV9 dc9 pm9 an9 cd9 ct9), sl9⟩) (c9 : PySem.W.codeIn K cd9 "_law_number_by" = true) (k9 : PySem.W.keepIn K (.ref f9) = true)
    (a10 : PySem.W.nsIn K mainGlobals "_law_name_by" = some (some (.ref f10))) (l10 : K.lookup f10 = some ⟨oc10, od10, .func (PySem.W.fnOf "_law_name_by" "_law_name_by" (defArgs sNameBy) (defBody sNameBy) (defScope sNameBy) .none kV10 dc10 pm10 an10 cd10 ct10), sl10⟩) (c10 : PySem.W.codeIn K cd10 "_law_name_by" = true) (k10 : PySem.W.keepIn K (.ref f10) = true)
    (a11 : PySem.W.nsIn K mainGlobals "_law_step" = some (some (.ref f11))) (l11 : K.lookup f11 = some ⟨oc11, od11, .func (PySem.W.fnOf "_law_step" "_law_step" (defArgs sStep) (defBody sStep) (defScope sStep) .none kV11 dc11 pm11 an11 cd11 ct11), sl11⟩) (c11 : PySem.W.codeIn K cd11 "_law_step" = true) (k11 : PySem.W.keepIn K (.ref f11) = true)
    (a12 : PySem.W.nsIn K mainGlobals "_law_tree_by" = some (some (.ref f12))) (l12 : K.lookup f12 = some ⟨oc12, od12, .func (PySem.W.fnOf "_law_tree_by" "_law_tree_by" (defArgs sTreeBy) (defBody sTreeBy) (defScope sTreeBy) .none kV12 dc12 pm12 an12 cd12 ct12), sl12⟩) (c12 : PySem.W.codeIn K cd12 "_law_tree_by" = true) (k12 : PySem.W.keepIn K (.ref f12) = true)
    (a13 : PySem.W.nsIn K mainGlobals "_law_link" = some (some (.ref f13))) (l13 : K.lookup f13 = some ⟨oc13, od13, .func (PySem.W.fnOf "_law_link" "_law_link" (defArgs sLink) (defBody sLink) (defScope sLink) .none kV13 dc13 pm13 an13 cd13 ct13), sl13⟩) (c13 : PySem.W.codeIn K cd13 "_law_link" = true) (k13 : PySem.W.keepIn K (.ref f13) = true)
    (a14 : PySem.W.nsIn K mainGlobals "_law_many_by" = some (some (.ref f14))) (l14 : K.lookup f14 = some ⟨oc14, od14, .func (PySem.W.fnOf "_law_many_by" "_law_many_by" (defArgs sManyBy) (defBody sManyBy) (defScope sManyBy) .none kV14 dc14 pm14 an14 cd14 ct14), sl14⟩) (c14 : PySem.W.codeIn K cd14 "_law_many_by" = true) (k14 : PySem.W.keepIn K (.ref f14) = true)
    (a15 : PySem.W.nsIn K mainGlobals "_law_expr_by" = some (some (.ref f15))) (l15 : K.lookup f15 = some ⟨oc15, od15, .func (PySem.W.fnOf "_law_expr_by" "_law_expr_by" (defArgs sExprBy) (defBody sExprBy) (defScope sExprBy) .none kV15 dc15 pm15 an15 cd15 ct15), sl15⟩) (c15 : PySem.W.codeIn K cd15 "_law_expr_by" = true) (k15 : PySem.W.keepIn K (.ref f15) = true)
    (a16 : PySem.W.nsIn K mainGlobals "_law_size" = some (some (.ref f16))) (l16 : K.lookup f16 = some ⟨oc16, od16, .func (PySem.W.fnOf "_law_size" "_law_size" (defArgs sLSize) (defBody sLSize) (defScope sLSize) .none kV16 dc16 pm16 an16 cd16 ct16), sl16⟩) (c16 : PySem.W.codeIn K cd16 "_law_size" = true) (k16 : PySem.W.keepIn K (.ref f16) = true)
    (a17 : PySem.W.nsIn K mainGlobals "_law_needs" = some (some (.ref f17))) (l17 : K.lookup f17 = some ⟨oc17, od17, .func (PySem.W.fnOf "_law_needs" "_law_needs" (defArgs sLNeeds) (defBody sLNeeds) (defScope sLNeeds) .none kV17 dc17 pm17 an17 cd17 ct17), sl17⟩) (c17 : PySem.W.codeIn K cd17 "_law_needs" = true) (k17 : PySem.W.keepIn K (.ref f17) = true)
    (a18 : PySem.W.nsIn K mainGlobals "_law_deep" = some (some (.ref f18))) (l18 : K.lookup f18 = some ⟨oc18, od18, .func (PySem.W.fnOf "_law_deep" "_law_deep" (defArgs sLDeep) (defBody sLDeep) (defScope sLDeep) .none kV18 dc18 pm18 an18 cd18 ct18), sl18⟩) (c18 : PySem.W.codeIn K cd18 "_law_deep" = true) (k18 : PySem.W.keepIn K (.ref f18) = true)
    (a19 : PySem.W.nsIn K mainGlobals "law" = some (some (.ref f19))) (l19 : K.lookup f19 = some ⟨oc19, od19, .func (PySem.W.fnOf "law" "law" (defArgs sLaw) (defBody sLaw) (defScope sLaw) .none kV19 dc19 pm19 an19 cd19 ct19), sl19⟩) (c19 : PySem.W.codeIn K cd19 "law" = true) (k19 : PySem.W.keepIn K (.ref f19) = true)
    (z1 : PySem.W.nsIn K mainGlobals "len" = some none)
    (z2 : PySem.W.nsIn K mainGlobals "range" = some none)
    (z3 : PySem.W.nsIn K mainGlobals "sum" = some none)
    (z4 : PySem.W.nsIn K mainGlobals "max" = some none)
    (z5 : PySem.W.nsIn K mainGlobals "min" = some none)
    (z6 : PySem.W.nsIn K mainGlobals "list" = some none)
    (z7 : PySem.W.nsIn K mainGlobals "int" = some none)
    (z8 : PySem.W.nsIn K mainGlobals "isinstance" = some none)
    (z9 : PySem.W.nsIn K mainGlobals "bool" = some none)
    (z10 : PySem.W.nsIn K mainGlobals "str" = some none)
    (g1 : PySem.W.nsIn K mainGlobals "LIMIT" = some (some (.int 1000000000 t1))) (g2 : PySem.W.nsIn K mainGlobals "DEEPEST" = some (some (.int 60 t2))) :
    ∃ fd : FuncData, (∀ (s : Shared) (v : Value), BindsTo s fd ⟨[v], []⟩ [("_law_script", v)]) ∧ ∀ base : Heap, K.In base → base.Ns mainGlobals mg → FnOk l.prog w K mg base CX0 103 fa fd ["_law_script"] (spLaw K) := by
  have e := hfa.symm.trans (PySem.W.mg_of X G a19)
  cases e
  have D1 := df_mk (st := sParts) (ps := ["expr"]) X G a1 l1 c1 k1 fun _ _ _ _ _ _ us hl => match us, hl with | [_], _ => rfl
  have D2 := df_mk (st := sSize) (ps := ["expr"]) X G a2 l2 c2 k2 fun _ _ _ _ _ _ us hl => match us, hl with | [_], _ => rfl
  have D3 := df_mk (st := sDeep) (ps := ["expr"]) X G a3 l3 c3 k3 fun _ _ _ _ _ _ us hl => match us, hl with | [_], _ => rfl
  have D4 := df_mk (st := sNeeds) (ps := ["expr"]) X G a4 l4 c4 k4 fun _ _ _ _ _ _ us hl => match us, hl with | [_], _ => rfl
  have D5 := df_mk (st := sGather) (ps := ["expr", "hidden", "found"]) X G a5 l5 c5 k5 fun _ _ _ _ _ _ us hl => match us, hl with | [_, _, _], _ => rfl
  have D6 := df_mk (st := sMixed) (ps := ["_law_script"]) X G a6 l6 c6 k6 fun _ _ _ _ _ _ us hl => match us, hl with | [_], _ => rfl
  have D7 := df_mk (st := sCellAt) (ps := ["_law_script", "_law_k"]) X G a7 l7 c7 k7 fun _ _ _ _ _ _ us hl => match us, hl with | [_, _], _ => rfl
  have D8 := df_mk (st := sWhole) (ps := ["_law_found"]) X G a8 l8 c8 k8 fun _ _ _ _ _ _ us hl => match us, hl with | [_], _ => rfl
  have D9 := df_mk (st := sNumBy) (ps := ["_law_cell"]) X G a9 l9 c9 k9 fun _ _ _ _ _ _ us hl => match us, hl with | [_], _ => rfl
  have D10 := df_mk (st := sNameBy) (ps := ["_law_seed", "_law_k"]) X G a10 l10 c10 k10 fun _ _ _ _ _ _ us hl => match us, hl with | [_, _], _ => rfl
  have D11 := df_mk (st := sStep) (ps := ["_law_pile", "_law_kind", "_law_more", "_law_seed"]) X G a11 l11 c11 k11 fun _ _ _ _ _ _ us hl => match us, hl with | [_, _, _, _], _ => rfl
  have D12 := df_mk (st := sTreeBy) (ps := ["_law_cells", "_law_seed"]) X G a12 l12 c12 k12 fun _ _ _ _ _ _ us hl => match us, hl with | [_, _], _ => rfl
  have D13 := df_mk (st := sLink) (ps := ["_law_word", "_law_code"]) X G a13 l13 c13 k13 fun _ _ _ _ _ _ us hl => match us, hl with | [_, _], _ => rfl
  have D14 := df_mk (st := sManyBy) (ps := ["_law_seed", "_law_cell"]) X G a14 l14 c14 k14 fun _ _ _ _ _ _ us hl => match us, hl with | [_, _], _ => rfl
  have D15 := df_mk (st := sExprBy) (ps := ["_law_script"]) X G a15 l15 c15 k15 fun _ _ _ _ _ _ us hl => match us, hl with | [_], _ => rfl
  have D16 := df_mk (st := sLSize) (ps := ["_law_expr"]) X G a16 l16 c16 k16 fun _ _ _ _ _ _ us hl => match us, hl with | [_], _ => rfl
  have D17 := df_mk (st := sLNeeds) (ps := ["_law_expr"]) X G a17 l17 c17 k17 fun _ _ _ _ _ _ us hl => match us, hl with | [_], _ => rfl
  have D18 := df_mk (st := sLDeep) (ps := ["_law_expr"]) X G a18 l18 c18 k18 fun _ _ _ _ _ _ us hl => match us, hl with | [_], _ => rfl
  have D19 := df_mk (st := sLaw) (ps := ["_law_script"]) X G a19 l19 c19 k19 fun _ _ _ _ _ _ us hl => match us, hl with | [_], _ => rfl
  have z : Bl mg := ⟨PySem.W.mg_none_of X G z1, PySem.W.mg_none_of X G z2, PySem.W.mg_none_of X G z3, PySem.W.mg_none_of X G z4, PySem.W.mg_none_of X G z5, PySem.W.mg_none_of X G z6, PySem.W.mg_none_of X G z7, PySem.W.mg_none_of X G z8, PySem.W.mg_none_of X G z9, PySem.W.mg_none_of X G z10⟩
  have gl : Gb mg t1 t2 := ⟨PySem.W.mg_of X G g1, PySem.W.mg_of X G g2⟩
  refine ⟨PySem.W.fnOf "law" "law" (defArgs sLaw) (defBody sLaw) (defScope sLaw) .none kV19 dc19 pm19 an19 cd19 ct19, fun s v => .of_eq rfl, fun base _ _ => ?_⟩
  exact ok_law D19 z gl D6 (ok_mixed D6) D8 (ok_whole D8 z) D15 (ok_exprBy D15 z D7 D12 D11 D10 D9 D14 D13) D2 (all_size D2 D1 z 100) D3 (all_deep D3 D1 z 100) D4 (ok_needs 100 D4 D5 z (all_gather D5 D1 100)) D16 (all_lsize D16 z 100) D18 (all_ldeep D18 z 100) D17 (all_lneeds D17 z 100)
theorem walk {l : PySem.W.OpenLaw} {q : Program} {loose : List Str} {XP : (Str → Option Value) → Heap → Prop} {YP : World → Heap → Prop} {d : DefRec} {K : Params → PySem.W.Frag} (hn : l.most = some 63) (hdf : d.params.defaults = [])
    (hY : ∀ (w : World) (h : Heap), YP w h → (K w.params).In h)
    (F : ∀ (w : World) (mg : Str → Option Value) (fa : Addr) (h : Heap), (K w.params).In h → h.Ns mainGlobals mg → mg d.name = some (.ref fa) →
      ∃ fd : FuncData, (∀ (s : Shared) (u : Value), BindsTo s fd ⟨[u], []⟩ [("_law_script", u)]) ∧ ∀ base : Heap, (K w.params).In base → base.Ns mainGlobals mg → FnOk l.prog w (K w.params) mg base CX0 103 fa fd ["_law_script"] (spLaw (K w.params))) :
    PySem.W.WalkO q loose XP YP l.row.toRowW d [] (fun f vs => PySem.call f vs) :=
  L2.walk_of (n := 63) (k := 103) (x := "_law_script") (CX := fun _ => CX0) (sp := fun w => spLaw (K w.params)) hn (by decide) hdf ⟨rfl, by decide, by decide⟩ hY F (fun _ _ a ns hl _ hS => ⟨a, ns, rfl, hS, hl, fun _ => rfl⟩) fun _ _ _ _ _ z => z
end FC
open PySem PySem.W PyProof.Rows
set_option maxRecDepth 100000 in
set_option maxHeartbeats 0 in
theorem PySem.Challenge.cw_foldercode_k02_measured_holds : PySem.Challenge.rw_foldercode_k02_measured.Holds := by
  w_on; o_law; k_head; (case hw => w_witness2)
  k_fill
  refine FC.walk (l := PySem.Challenge.rw_foldercode_k02_measured) rfl rfl (fun w h Y => PySem.W.kIn_of Y) ?F
  case F =>
    intro w mg fa h KX G hmg
    refine' FC.all_mk KX G hmg ?a1 ?l1 ?c1 ?k1 ?a2 ?l2 ?c2 ?k2 ?a3 ?l3 ?c3 ?k3 ?a4 ?l4 ?c4 ?k4 ?a5 ?l5 ?c5 ?k5 ?a6 ?l6 ?c6 ?k6 ?a7 ?l7 ?c7 ?k7 ?a8 ?l8 ?c8 ?k8 ?a9 ?l9 ?c9 ?k9 ?a10 ?l10 ?c10 ?k10 ?a11 ?l11 ?c11 ?k11 ?a12 ?l12 ?c12 ?k12 ?a13 ?l13 ?c13 ?k13 ?a14 ?l14 ?c14 ?k14 ?a15 ?l15 ?c15 ?k15 ?a16 ?l16 ?c16 ?k16 ?a17 ?l17 ?c17 ?k17 ?a18 ?l18 ?c18 ?k18 ?a19 ?l19 ?c19 ?k19 ?z1 ?z2 ?z3 ?z4 ?z5 ?z6 ?z7 ?z8 ?z9 ?z10 ?g1 ?g2
    (case a1 => k_is)
    (case l1 => k_is)
    (case c1 => k_is)
    (case k1 => k_is)
    (case a2 => k_is)
    (case l2 => k_is)
    (case c2 => k_is)
    (case k2 => k_is)
    (case a3 => k_is)
    (case l3 => k_is)
    (case c3 => k_is)
    (case k3 => k_is)
    (case a4 => k_is)
    (case l4 => k_is)
    (case c4 => k_is)
    (case k4 => k_is)
    (case a5 => k_is)
    (case l5 => k_is)
    (case c5 => k_is)
    (case k5 => k_is)
    (case a6 => k_is)
    (case l6 => k_is)
    (case c6 => k_is)
    (case k6 => k_is)
    (case a7 => k_is)
    (case l7 => k_is)
    (case c7 => k_is)
    (case k7 => k_is)
    (case a8 => k_is)
    (case l8 => k_is)
    (case c8 => k_is)
    (case k8 => k_is)
    (case a9 => k_is)
    (case l9 => k_is)
    (case c9 => k_is)
    (case k9 => k_is)
    (case a10 => k_is)
    (case l10 => k_is)
    (case c10 => k_is)
    (case k10 => k_is)
    (case a11 => k_is)
    (case l11 => k_is)
    (case c11 => k_is)
    (case k11 => k_is)
    (case a12 => k_is)
    (case l12 => k_is)
    (case c12 => k_is)
    (case k12 => k_is)
    (case a13 => k_is)
    (case l13 => k_is)
    (case c13 => k_is)
    (case k13 => k_is)
    (case a14 => k_is)
    (case l14 => k_is)
    (case c14 => k_is)
    (case k14 => k_is)
    (case a15 => k_is)
    (case l15 => k_is)
    (case c15 => k_is)
    (case k15 => k_is)
    (case a16 => k_is)
    (case l16 => k_is)
    (case c16 => k_is)
    (case k16 => k_is)
    (case a17 => k_is)
    (case l17 => k_is)
    (case c17 => k_is)
    (case k17 => k_is)
    (case a18 => k_is)
    (case l18 => k_is)
    (case c18 => k_is)
    (case k18 => k_is)
    (case a19 => k_is)
    (case l19 => k_is)
    (case c19 => k_is)
    (case k19 => k_is)
    (case z1 => k_is)
    (case z2 => k_is)
    (case z3 => k_is)
    (case z4 => k_is)
    (case z5 => k_is)
    (case z6 => k_is)
    (case z7 => k_is)
    (case z8 => k_is)
    (case z9 => k_is)
    (case z10 => k_is)
    (case g1 => k_is)
    (case g2 => k_is)
