import PyProof.Rows.All
import Wide.All
import OpenK.AllK
import Wide.FinOn
import HandS.Base
import HandS.Call
import HandS.List
import HandS.Comp
import HandS.Ends
import HandS.Dict
import HandS.Iter
import HandS.Text
import HandS.Words
import HandS.WordsList
import HandS.WordsDict
import HandS.Conv
import HandS.Star
import HandS.IsInst
import HandS.SortKw
import HandS.Wide
import KE.DataMinMax
import KE.DataEq
import HandS.More
import HandS.Finally
import HandS.DictComp
import HandS.ExcInit
import HandS.ClsMeth
import HandS.FStr
import HandS.TryMany
import PyProof.DictUpdate
import PyProof.DictDisplay
import PyProof.DictTable
import HandS.ExcOwn
import HandS.TryOnly
import HandS.ExcIs
import HandS.ExcField
import HandS.WordsExc
import KE.KExcIs
import PySem.Challenge.RW_foldercode_k10_whole_same_value
set_option Elab.async false
set_option linter.all false
set_option maxRecDepth 100000
set_option maxHeartbeats 4000000
namespace FC
open PySem L2 StX
section
variable {P : Program} {w : World} {K : PySem.W.Frag} {mg : Str → Option Value} {base : Heap} {t1 t2 : Tok} {f g f1 f2 f3 f4 f5 f6 f7 f8 f9 : Addr} {fd gd fd1 fd2 fd3 fd4 fd5 fd6 fd7 fd8 fd9 : FuncData}
/-- a def of the text: where it stands, how it is called -/
structure Df (K : PySem.W.Frag) (mg : Str → Option Value) (x : Str) (st : Stmt) (ps : List Str) (f : Addr) (fd : FuncData) : Prop where
  F : Fun K x x st f fd
  b : Binds K fd ps []
  m : mg x = some (.ref f)
theorem Df.k {K mg x st ps f fd} (d : Df K mg x st ps f fd) : PySem.W.keepIn K (.ref f) = true := d.F.kp
/-- the built-ins that are called -/
structure Bl (mg : Str → Option Value) : Prop where
  len : mg "len" = none
  range : mg "range" = none
  sum : mg "sum" = none
  max : mg "max" = none
  min : mg "min" = none
  list : mg "list" = none
  int : mg "int" = none
  isi : mg "isinstance" = none
  bool : mg "bool" = none
  str : mg "str" = none
inductive Op where
  | sum | less | times | part | rest | below | same
  deriving DecidableEq, Repr
def Op.str : Op → Str
  | .sum => "sum" | .less => "less" | .times => "times" | .part => "part" | .rest => "rest" | .below => "below" | .same => "same"
inductive Ex where
  | num (n : Int)
  | nam (w : Str)
  | two (o : Op) (a b : Ex)
  | whn (c a b : Ex)
  | lett (w : Str) (a b : Ex)
  deriving DecidableEq
def Ex.size : Ex → Nat
  | .num _ => 1
  | .nam _ => 1
  | .two _ a b => a.size + b.size + 1
  | .whn c a b => c.size + a.size + b.size + 1
  | .lett _ a b => a.size + b.size + 1
def Ex.deep : Ex → Nat
  | .num _ => 1
  | .nam _ => 1
  | .two _ a b => max a.deep b.deep + 1
  | .whn c a b => max (max c.deep a.deep) b.deep + 1
  | .lett _ a b => max a.deep b.deep + 1
theorem Ex.deep_pos : ∀ e : Ex, 1 ≤ e.deep
  | .num _ => Nat.le_refl _
  | .nam _ => Nat.le_refl _
  | .two _ _ _ => Nat.le_add_left _ _
  | .whn _ _ _ => Nat.le_add_left _ _
  | .lett _ _ _ => Nat.le_add_left _ _
theorem Ex.size_pos : ∀ e : Ex, 1 ≤ e.size
  | .num _ => Nat.le_refl _
  | .nam _ => Nat.le_refl _
  | .two _ _ _ => Nat.le_add_left _ _
  | .whn _ _ _ => Nat.le_add_left _ _
  | .lett _ _ _ => Nat.le_add_left _ _
theorem Ex.deep_le : ∀ e : Ex, e.deep ≤ e.size
  | .num _ => Nat.le_refl _
  | .nam _ => Nat.le_refl _
  | .two _ a b => by
    have h1 := deep_le a
    have h2 := deep_le b
    show max a.deep b.deep + 1 ≤ a.size + b.size + 1
    omega
  | .whn c a b => by
    have h0 := deep_le c
    have h1 := deep_le a
    have h2 := deep_le b
    show max (max c.deep a.deep) b.deep + 1 ≤ c.size + a.size + b.size + 1
    omega
  | .lett _ a b => by
    have h1 := deep_le a
    have h2 := deep_le b
    show max a.deep b.deep + 1 ≤ a.size + b.size + 1
    omega
/-- the expressions that stand directly in it -/
def Ex.kids : Ex → List Ex
  | .num _ => []
  | .nam _ => []
  | .two _ a b => [a, b]
  | .whn c a b => [c, a, b]
  | .lett _ a b => [a, b]
/-- how its tuple begins -/
def Ex.head : Ex → List V
  | .num n => [.str "num", .int n]
  | .nam w => [.str "name", .str w]
  | .two o _ _ => [.str o.str]
  | .whn _ _ _ => [.str "when"]
  | .lett w _ _ => [.str "let", .str w]
/-- it stands in the heap at v -/
inductive Bears (H : Hp) : V → Ex → Prop where
  | num {a : Addr} {n : Int} : H a = some (.tup [.str "num", .int n]) → Bears H (.ref a) (.num n)
  | nam {a : Addr} {w : Str} : H a = some (.tup [.str "name", .str w]) → Bears H (.ref a) (.nam w)
  | two {a : Addr} {o : Op} {v1 v2 : V} {e1 e2 : Ex} : H a = some (.tup [.str o.str, v1, v2]) → Bears H v1 e1 → Bears H v2 e2 → Bears H (.ref a) (.two o e1 e2)
  | whn {a : Addr} {v0 v1 v2 : V} {e0 e1 e2 : Ex} : H a = some (.tup [.str "when", v0, v1, v2]) → Bears H v0 e0 → Bears H v1 e1 → Bears H v2 e2 → Bears H (.ref a) (.whn e0 e1 e2)
  | lett {a : Addr} {w : Str} {v1 v2 : V} {e1 e2 : Ex} : H a = some (.tup [.str "let", .str w, v1, v2]) → Bears H v1 e1 → Bears H v2 e2 → Bears H (.ref a) (.lett w e1 e2)
/-- tuples stay -/
def Tups (H H' : Hp) : Prop := ∀ a xs, H a = some (.tup xs) → H' a = some (.tup xs)
theorem Tups.of {H H' : Hp} (h : Same H H') : Tups H H' := fun a _ e => h a _ e
theorem Bears.mono {H H' : Hp} (h : Tups H H') : ∀ {v : V} {e : Ex}, Bears H v e → Bears H' v e := by
  intro v e b
  induction b with
  | num e => exact .num (h _ _ e)
  | nam e => exact .nam (h _ _ e)
  | two e _ _ i1 i2 => exact .two (h _ _ e) i1 i2
  | whn e _ _ _ i0 i1 i2 => exact .whn (h _ _ e) i0 i1 i2
  | lett e _ _ i1 i2 => exact .lett (h _ _ e) i1 i2
abbrev BearsL (H : Hp) : List V → List Ex → Prop := Paired (Bears H)
theorem BearsL.mono {H H' : Hp} (h : Tups H H') : ∀ {vs : List V} {es : List Ex}, BearsL H vs es → BearsL H' vs es
  | _, _, .nil => .nil
  | _, _, .cons a r => .cons (a.mono h) (BearsL.mono h r)
theorem Bears.out {H : Hp} {v : V} {e : Ex} (b : Bears H v e) : ∃ a ws, v = .ref a ∧ H a = some (.tup (e.head ++ ws)) ∧ BearsL H ws e.kids := by
  cases b with
  | num e => exact ⟨_, [], rfl, e, .nil⟩
  | nam e => exact ⟨_, [], rfl, e, .nil⟩
  | two e b1 b2 => exact ⟨_, [_, _], rfl, e, .cons b1 (.cons b2 .nil)⟩
  | whn e b0 b1 b2 => exact ⟨_, [_, _, _], rfl, e, .cons b0 (.cons b1 (.cons b2 .nil))⟩
  | lett e b1 b2 => exact ⟨_, [_, _], rfl, e, .cons b1 (.cons b2 .nil)⟩
theorem same_new {H : Hp} {p : Addr} (h : H p = none) (o : HO) : Same H (upd H p o) := fun b u q => by rw [upd_ne (ne_of_none q h)]; exact q
theorem sz {n : Nat} (h : n ≤ 1000) : n ≤ sizeLine := Nat.le_of_lt (small1000 h)
theorem op_in (o : Op) : inV (.str o.str) [.str "num", .str "name"] = false := by cases o <;> decide
theorem op_let (o : Op) : decide (V.str o.str = V.str "let") = false := by cases o <;> decide
theorem op_num (o : Op) : decide (V.str o.str = V.str "num") = false := by cases o <;> decide
theorem op_name (o : Op) : decide (V.str o.str = V.str "name") = false := by cases o <;> decide
def spParts (K : PySem.W.Frag) : Sp := fun vs H Q _ => ∃ (v : V) (e : Ex), vs = [v] ∧ Bears H v e ∧ ∀ (H' : Hp) (p : Addr) (ws : List V), Same H H' → H' p = some (.tup ws) → BearsL H' ws e.kids → Q (.ref p) H'
def spSize (n : Nat) : Sp := fun vs H Q _ => ∃ (v : V) (e : Ex), vs = [v] ∧ Bears H v e ∧ e.deep ≤ n ∧ ∀ (H' : Hp), Same H H' → Q (.int e.size) H'
theorem spSize0 : FnOk P w K mg base CX0 0 f fd ["expr"] (spSize 0) := by
  have no : ∀ vs H Q E, ¬ spSize 0 vs H Q E := fun vs H Q E h => by
    obtain ⟨v, e, _, _, h1, _⟩ := h
    have := e.deep_pos
    omega
  exact ⟨fun vs H Q E h => absurd h (no vs H Q E), fun A outer s H args us vs Q E _ _ _ _ h => absurd h (no vs H Q E)⟩
theorem Ex.size_kids (e : Ex) : (e.size : Int) = 1 + (e.kids.map fun x => (x.size : Int)).sum := by
  cases e <;> simp only [Ex.size, Ex.kids, List.map, List.sum_cons, List.sum_nil] <;> omega
theorem Ex.deep_kids {e x : Ex} (h : x ∈ e.kids) : x.deep + 1 ≤ e.deep := by
  cases e with
  | num _ => cases h
  | nam _ => cases h
  | two o a b =>
    show _ ≤ max a.deep b.deep + 1
    rcases List.mem_cons.mp h with rfl | h
    · omega
    · rcases List.mem_cons.mp h with rfl | h
      · omega
      · cases h
  | whn c a b =>
    show _ ≤ max (max c.deep a.deep) b.deep + 1
    rcases List.mem_cons.mp h with rfl | h
    · omega
    · rcases List.mem_cons.mp h with rfl | h
      · omega
      · rcases List.mem_cons.mp h with rfl | h
        · omega
        · cases h
  | lett _ a b =>
    show _ ≤ max a.deep b.deep + 1
    rcases List.mem_cons.mp h with rfl | h
    · omega
    · rcases List.mem_cons.mp h with rfl | h
      · omega
      · cases h
theorem BearsL.get {H : Hp} : ∀ {vs : List V} {es : List Ex} {i : Nat} {v : V}, BearsL H vs es → vs[i]? = some v → ∃ e, es[i]? = some e ∧ Bears H v e
  | _, _, _, _, .nil, h => by simp at h
  | _, _, 0, _, .cons b _, h => by simp at h; subst h; exact ⟨_, rfl, b⟩
  | _, _, i + 1, v, .cons _ r, h => by
    obtain ⟨e, h1, h2⟩ := BearsL.get (i := i) (v := v) r (by simpa using h)
    exact ⟨e, by simpa using h1, h2⟩
theorem BearsL.len {H : Hp} {vs : List V} {es : List Ex} (b : BearsL H vs es) : vs.length = es.length := Paired.length b
theorem Ex.kids_len (e : Ex) : e.kids.length ≤ 3 := by cases e <;> simp [Ex.kids]
def rMaxD (K : PySem.W.Frag) : List V → List V → Hp → VK → Prop := fun vs zs H Q => ∃ (a : Addr) (ns : List Int) (d : Int), vs = [V.ref a] ∧ zs = [V.int d] ∧ SqL K H a (ns.map V.int) ∧
  (ns = [] → Q (.int d) H) ∧ ∀ y ys, ns = y :: ys → Q (.int (ys.foldl max y)) H
theorem depthAll_ints : ∀ ns : List Int, PyData.depthAll (ns.map PyData.int) = 0
  | [] => rfl
  | n :: r => by
    have ih := depthAll_ints r
    show PyData.depthAll (PyData.int n :: r.map PyData.int) = 0
    unfold PyData.depthAll
    rw [ih]
    rfl
theorem alike_ints (ns : List Int) : PySem.W.AlikeAll (ns.map PyData.int) := by
  refine ⟨fun x hx y hy => ?_, fun x hx => ?_⟩
  · obtain ⟨i, _, rfl⟩ := List.mem_map.mp hx
    obtain ⟨j, _, rfl⟩ := List.mem_map.mp hy
    rfl
  · obtain ⟨i, _, rfl⟩ := List.mem_map.mp hx
    exact fun z => nomatch z
theorem cr_maxD {X : Cx} (hc : X.calm = true) (hu : X.A.units + 64 < cLine) : CallRK X (.builtin "max") ["default"] (rMaxD X.K) := by
  intro pins s σ H xs zs us ws Q I r r2 h
  obtain ⟨a, ns, d, rfl, rfl, hs, q0, q1⟩ := h
  obtain ⟨its, rv, hl, _⟩ := I.list hs
  rw [Vals.ref1 r]
  obtain ⟨u, rfl, ru⟩ := vals1 r2
  obtain ⟨td, rfl⟩ := ru
  have hi := rv.ints
  have e0 : its.toArray.toList = its := by simp
  refine PySem.W.max_list_default (I.ok.hd hc) hl.isList (xs := ns.map PyData.int) (as := []) (by rw [e0]; exact PyProof.Rows.IntsAre.reads _ hi) (alike_ints ns) (by rw [depthAll_ints]; omega) (fun hn h' tk hk => ?_) (fun y ys i v h' tk bs e hv hr hk => ?_)
  · have hn' : ns = [] := List.map_eq_nil_iff.mp hn
    exact ⟨.int d, H, I.kept hk, ⟨td, rfl⟩, q0 hn'⟩
  · cases ns with
    | nil => cases e
    | cons m ms =>
      rw [List.map_cons] at e
      injection e with e1 e2
      subst e1 e2
      rw [PySem.W.maxD_ints] at hr
      cases hr with
      | int _ t => exact ⟨.int _, H, I.kept hk, ⟨t, rfl⟩, q1 m ms rfl⟩
def rEqLen (K : PySem.W.Frag) : R2 := fun x y H Q => ∃ a b xs ys, x = .ref a ∧ y = .ref b ∧ SqL K H a xs ∧ SqL K H b ys ∧ ((xs.length ≠ ys.length ∧ Q (.bl false) H) ∨ (xs = [] ∧ ys = [] ∧ Q (.bl true) H))
theorem op_eqLen {X : Cx} (hu : X.A.units < cLine) : OpR X (compareOp .Eq) (rEqLen X.K) := by
  intro pins s σ H x y v u Q I rx ry h
  obtain ⟨a, b, xs, ys, rfl, rfl, hx, hy, h⟩ := h
  obtain ⟨its, rv, hl, _⟩ := I.list hx
  obtain ⟨its2, rv2, hl2, _⟩ := I.list hy
  cases rx
  cases ry
  have n1 := rv.length
  have n2 := rv2.length
  rcases h with ⟨ne, q⟩ | ⟨rfl, rfl, q⟩
  · exact SeqAt.RcAt.lists_lengths hl.isList hl2.isList (by simp; omega) hu _ _ _ _ ⟨.bl false, H, I, rfl, q⟩
  · have z1 : its = [] := List.eq_nil_of_length_eq_zero n1.symm
    have z2 : its2 = [] := List.eq_nil_of_length_eq_zero n2.symm
    subst z1 z2
    exact SeqAt.RcAt.lists (e := fun _ => true) hl.isList hl2.isList rfl hu (fun j h1 _ => absurd h1 (Nat.not_lt_zero _)) _ _ _ _ ⟨.bl true, H, I, rfl, q⟩
def spDeep (n : Nat) : Sp := fun vs H Q _ => ∃ (v : V) (e : Ex), vs = [v] ∧ Bears H v e ∧ e.deep ≤ n ∧ ∀ (H' : Hp), Same H H' → Q (.int e.deep) H'
theorem spDeep0 : FnOk P w K mg base CX0 0 f fd ["expr"] (spDeep 0) := by
  have no : ∀ vs H Q E, ¬ spDeep 0 vs H Q E := fun vs H Q E h => by
    obtain ⟨v, e, _, _, h1, _⟩ := h
    have := e.deep_pos
    omega
  exact ⟨fun vs H Q E h => absurd h (no vs H Q E), fun A outer s H args us vs Q E _ _ _ _ h => absurd h (no vs H Q E)⟩
theorem max_cast (a b : Nat) : max (a : Int) (b : Int) = ((max a b : Nat) : Int) := by omega
def addS (ks : List Str) (w : Str) : List Str := if w ∈ ks then ks else ks ++ [w]
def gath : Ex → List Str → List Str → List Str
  | .num _, _, ks => ks
  | .nam w, hid, ks => if w ∈ hid then ks else addS ks w
  | .two _ a b, hid, ks => gath b hid (gath a hid ks)
  | .whn c a b, hid, ks => gath b hid (gath a hid (gath c hid ks))
  | .lett w a b, hid, ks => gath b (hid ++ [w]) (gath a hid ks)
theorem addS_len (ks : List Str) (w : Str) : (addS ks w).length ≤ ks.length + 1 := by
  unfold addS
  split
  · exact Nat.le_succ _
  · rw [List.length_append]; exact Nat.le_refl _
theorem gath_len : ∀ (e : Ex) (hid ks : List Str), (gath e hid ks).length ≤ ks.length + e.size
  | .num _, _, ks => Nat.le_succ _
  | .nam w, hid, ks => by
    unfold gath
    split
    · exact Nat.le_succ _
    · exact addS_len _ _
  | .two _ a b, hid, ks => by
    have h1 := gath_len a hid ks
    have h2 := gath_len b hid (gath a hid ks)
    show (gath b hid (gath a hid ks)).length ≤ ks.length + (a.size + b.size + 1)
    omega
  | .whn c a b, hid, ks => by
    have h0 := gath_len c hid ks
    have h1 := gath_len a hid (gath c hid ks)
    have h2 := gath_len b hid (gath a hid (gath c hid ks))
    show (gath b hid (gath a hid (gath c hid ks))).length ≤ ks.length + (c.size + a.size + b.size + 1)
    omega
  | .lett w a b, hid, ks => by
    have h1 := gath_len a hid ks
    have h2 := gath_len b (hid ++ [w]) (gath a hid ks)
    show (gath b (hid ++ [w]) (gath a hid ks)).length ≤ ks.length + (a.size + b.size + 1)
    omega
def gathL (hid : List Str) : List Ex → List Str → List Str
  | [], ks => ks
  | e :: r, ks => gathL hid r (gath e hid ks)
def sizeL : List Ex → Nat
  | [] => 0
  | e :: r => e.size + sizeL r
theorem gathL_append (hid : List Str) : ∀ (l m : List Ex) (ks : List Str), gathL hid (l ++ m) ks = gathL hid m (gathL hid l ks)
  | [], _, _ => rfl
  | e :: r, m, ks => gathL_append hid r m (gath e hid ks)
theorem gathL_len (hid : List Str) : ∀ (l : List Ex) (ks : List Str), (gathL hid l ks).length ≤ ks.length + sizeL l
  | [], ks => Nat.le_refl _
  | e :: r, ks => by
    have h1 := gath_len e hid ks
    have h2 := gathL_len hid r (gath e hid ks)
    show (gathL hid r (gath e hid ks)).length ≤ ks.length + (e.size + sizeL r)
    omega
theorem sizeL_append : ∀ (l m : List Ex), sizeL (l ++ m) = sizeL l + sizeL m
  | [], m => (Nat.zero_add _).symm
  | e :: r, m => by
    show e.size + sizeL (r ++ m) = e.size + sizeL r + sizeL m
    rw [sizeL_append r m, Nat.add_assoc]
theorem sizeL_take (l : List Ex) (i : Nat) : sizeL (l.take i) + sizeL (l.drop i) = sizeL l := by
  rw [← sizeL_append, List.take_append_drop]
theorem take_succ_sizeL {l : List Ex} {i : Nat} {e : Ex} (h : l[i]? = some e) : sizeL (l.take i) + e.size ≤ sizeL l := by
  have h1 := sizeL_take l (i + 1)
  rw [List.take_add_one, h, sizeL_append] at h1
  have : sizeL (some e).toList = e.size := Nat.add_zero _
  rw [this] at h1
  omega
theorem Ex.sizeL_kids (e : Ex) : sizeL e.kids + 1 = e.size := by
  cases e <;> simp only [sizeL, Ex.kids, Ex.size] <;> omega
def dk (ks : List Str) : List (Key × V) := ks.map fun w => ((Sum.inr w : Key), V.bl true)
theorem dk_any : ∀ (ks : List Str) (w : Str), ((dk ks).any fun kv => decide (kv.1 = (Sum.inr w : Key))) = decide (w ∈ ks)
  | [], w => by simp [dk]
  | x :: r, w => by
    have ih := dk_any r w
    show (decide ((Sum.inr x : Key) = Sum.inr w) || ((dk r).any fun kv => decide (kv.1 = (Sum.inr w : Key)))) = _
    rw [ih, key_rr]
    by_cases h : x = w
    · subst h; simp
    · have h' : ¬ w = x := fun z => h z.symm
      simp [h, h']
theorem dk_put (ks : List Str) (w : Str) : putK (dk ks) (Sum.inr w : Key) (.bl true) = dk (addS ks w) := by
  unfold putK addS
  rw [dk_any]
  by_cases h : w ∈ ks
  · rw [if_pos (decide_eq_true h), if_pos h]
    unfold dk
    rw [List.map_map]
    refine List.map_congr_left fun x _ => ?_
    show (if (Sum.inr x : Key) = Sum.inr w then ((Sum.inr x : Key), V.bl true) else (Sum.inr x, V.bl true)) = _
    split <;> rfl
  · rw [if_neg (by simpa using h), if_neg h]
    unfold dk
    rw [List.map_append]
    rfl
theorem inV_strs (w : Str) : ∀ l : List Str, inV (.str w) (l.map V.str) = decide (w ∈ l)
  | [] => by simp [inV]
  | x :: r => by
    have ih := inV_strs w r
    unfold inV at ih ⊢
    rw [List.map_cons, List.any_cons, ih]
    by_cases h : x = w
    · subst h; simp [eqV]
    · have h' : ¬ w = x := fun z => h z.symm
      simp [eqV, h, h']
theorem flat_strs (l : List Str) : (l.map V.str).all flatV = true := by
  rw [List.all_eq_true]
  intro v hv
  obtain ⟨x, _, rfl⟩ := List.mem_map.mp hv
  rfl
theorem Bears.tri {H : Hp} {v : V} {e : Ex} (b : Bears H v e) : (∃ a x, v = .ref a ∧ e = .nam x ∧ H a = some (.tup [.str "name", .str x])) ∨
    (∃ a x v1 v2 e1 e2, v = .ref a ∧ e = .lett x e1 e2 ∧ H a = some (.tup [.str "let", .str x, v1, v2]) ∧ Bears H v1 e1 ∧ Bears H v2 e2) ∨
    (∃ a s ws, v = .ref a ∧ H a = some (.tup (.str s :: ws)) ∧ decide (V.str s = V.str "name") = false ∧ decide (V.str s = V.str "let") = false ∧ (∀ hid ks, gath e hid ks = gathL hid e.kids ks)) := by
  cases b with
  | nam h => exact .inl ⟨_, _, rfl, rfl, h⟩
  | lett h b1 b2 => exact .inr (.inl ⟨_, _, _, _, _, _, rfl, rfl, h, b1, b2⟩)
  | num h => exact .inr (.inr ⟨_, _, _, rfl, h, by decide, by decide, fun _ _ => rfl⟩)
  | @two a o _ _ _ _ h _ _ => exact .inr (.inr ⟨_, _, _, rfl, h, op_name o, op_let o, fun _ _ => rfl⟩)
  | whn h _ _ _ => exact .inr (.inr ⟨_, _, _, rfl, h, by decide, by decide, fun _ _ => rfl⟩)
/-- all stands but what stands at d -/
def But (d : Addr) (H H' : Hp) : Prop := ∀ b o, b ≠ d → H b = some o → H' b = some o
theorem But.refl (d : Addr) (H : Hp) : But d H H := fun _ _ _ h => h
theorem But.trans {d : Addr} {H H1 H2 : Hp} (a : But d H H1) (b : But d H1 H2) : But d H H2 := fun c o n h => b c o n (a c o n h)
theorem But.of {d : Addr} {H H' : Hp} (h : Same H H') : But d H H' := fun b o _ e => h b o e
theorem But.tups {d : Addr} {H H' : Hp} {kvs : List (Key × V)} (h : But d H H') (hd : H d = some (.dK kvs)) : Tups H H' := fun a xs e => h a _ (ne_of e hd (fun z => nomatch z)) e
theorem But.upd {d : Addr} {H : Hp} {o : HO} : But d H (upd H d o) := fun b _ n e => by rw [upd_ne n]; exact e
def spGather (n : Nat) : Sp := fun vs H Q _ => ∃ (v : V) (e : Ex) (a d : Addr) (hid ks : List Str), vs = [v, .ref a, .ref d] ∧ Bears H v e ∧ e.deep ≤ n ∧ H a = some (.tup (hid.map V.str)) ∧ hid.length + e.size ≤ 1000 ∧
  H d = some (.dK (dk ks)) ∧ ks.length + e.size ≤ 1000 ∧ ∀ (H' : Hp), But d H H' → H' d = some (.dK (dk (gath e hid ks))) → Q .non H'
theorem spGather0 : FnOk P w K mg base CX0 0 f fd ["expr", "hidden", "found"] (spGather 0) := by
  have no : ∀ vs H Q E, ¬ spGather 0 vs H Q E := fun vs H Q E h => by
    obtain ⟨v, e, a, d, hid, ks, _, _, h1, _⟩ := h
    have := e.deep_pos
    omega
  exact ⟨fun vs H Q E h => absurd h (no vs H Q E), fun A outer s H args us vs Q E _ _ _ _ h => absurd h (no vs H Q E)⟩
def spNeeds (n : Nat) : Sp := fun vs H Q _ => ∃ (v : V) (e : Ex), vs = [v] ∧ Bears H v e ∧ e.deep ≤ n ∧ e.size ≤ 1000 ∧ ∀ (H' : Hp) (p : Addr), Same H H' → H p = none → H' p = some (.lst ((gath e [] []).map V.str)) → Q (.ref p) H'
theorem Bears.node {H : Hp} {v : V} {e : Ex} (b : Bears H v e) :
    (∃ a wd x, v = .ref a ∧ H a = some (.tup [.str wd, x]) ∧ ((wd = "num" ∧ ∃ n, e = .num n) ∨ (wd = "name" ∧ ∃ w, x = .str w ∧ e = .nam w))) ∨
    (∃ a wd xs ws bl, v = .ref a ∧ H a = some (.tup (.str wd :: xs)) ∧ decide (V.str wd = V.str "num") = false ∧ decide (V.str wd = V.str "name") = false ∧ decide (V.str wd = V.str "let") = bl ∧
      BearsL H ws e.kids ∧ cutV (.str wd :: xs) (some (1 + if bl = true then 1 else 0)) none = ws ∧
      ¬ (HT.sIx (V.str wd :: xs).length 0 (some (1 + if bl = true then 1 else 0)) = 0 ∧ HT.sIx (V.str wd :: xs).length (V.str wd :: xs).length none = (V.str wd :: xs).length) ∧
      (xs.length = ws.length + (if bl = true then 1 else 0)) ∧ (∀ i, xs[i + (if bl = true then 1 else 0)]? = ws[i]?) ∧ ((bl = false ∧ ∀ x a b, e ≠ .lett x a b) ∨ (bl = true ∧ ∃ x e1 e2, e = .lett x e1 e2 ∧ xs[0]? = some (.str x))) ∧ e.kids ≠ []) := by
  cases b with
  | num h => exact .inl ⟨_, _, _, rfl, h, .inl ⟨rfl, _, rfl⟩⟩
  | nam h => exact .inl ⟨_, _, _, rfl, h, .inr ⟨rfl, _, rfl, rfl⟩⟩
  | @two a o v1 v2 e1 e2 h b1 b2 => exact .inr ⟨_, _, _, [v1, v2], false, rfl, h, op_num o, op_name o, op_let o, .cons b1 (.cons b2 .nil), rfl, (fun z => by cases z.1), rfl, fun _ => rfl, .inl ⟨rfl, fun _ _ _ z => nomatch z⟩, fun z => nomatch z⟩
  | @whn a v0 v1 v2 e0 e1 e2 h b0 b1 b2 => exact .inr ⟨_, _, _, [v0, v1, v2], false, rfl, h, by decide, by decide, by decide, .cons b0 (.cons b1 (.cons b2 .nil)), rfl, (fun z => by cases z.1), rfl, fun _ => rfl, .inl ⟨rfl, fun _ _ _ z => nomatch z⟩, fun z => nomatch z⟩
  | @lett a x v1 v2 e1 e2 h b1 b2 => exact .inr ⟨_, _, _, [v1, v2], true, rfl, h, by decide, by decide, by decide, .cons b1 (.cons b2 .nil), rfl, (fun z => by cases z.1), rfl, fun _ => rfl, .inr ⟨rfl, _, _, _, rfl, rfl⟩, fun z => nomatch z⟩
theorem spLSize0 : FnOk P w K mg base CX0 0 f fd ["_law_expr"] (spSize 0) := by
  have no : ∀ vs H Q E, ¬ spSize 0 vs H Q E := fun vs H Q E h => by
    obtain ⟨v, e, _, _, h1, _⟩ := h
    have := e.deep_pos
    omega
  exact ⟨fun vs H Q E h => absurd h (no vs H Q E), fun A outer s H args us vs Q E _ _ _ _ h => absurd h (no vs H Q E)⟩
def deepL : List Ex → Nat → Nat
  | [], m => m
  | e :: r, m => deepL r (max m e.deep)
theorem deepL_append : ∀ (l m : List Ex) (k : Nat), deepL (l ++ m) k = deepL m (deepL l k)
  | [], _, _ => rfl
  | e :: r, m, k => deepL_append r m (max k e.deep)
theorem Ex.deepL_kids (e : Ex) : deepL e.kids 0 + 1 = e.deep := by
  cases e <;> simp only [deepL, Ex.kids, Ex.deep] <;> omega
theorem spLDeep0 : FnOk P w K mg base CX0 0 f fd ["_law_expr"] (spDeep 0) := by
  have no : ∀ vs H Q E, ¬ spDeep 0 vs H Q E := fun vs H Q E h => by
    obtain ⟨v, e, _, _, h1, _⟩ := h
    have := e.deep_pos
    omega
  exact ⟨fun vs H Q E h => absurd h (no vs H Q E), fun A outer s H args us vs Q E _ _ _ _ h => absurd h (no vs H Q E)⟩
def addAll (ks : List Str) (l : List Str) : List Str := l.foldl addS ks
def lneeds : Ex → List Str
  | .num _ => []
  | .nam w => [w]
  | .two _ a b => addAll (addAll [] (lneeds a)) (lneeds b)
  | .whn c a b => addAll (addAll (addAll [] (lneeds c)) (lneeds a)) (lneeds b)
  | .lett w a b => addAll (addAll [] (lneeds a)) ((lneeds b).filter fun x => !decide (x = w))
theorem mem_addS {ks : List Str} {w x : Str} : x ∈ addS ks w ↔ x ∈ ks ∨ x = w := by
  unfold addS
  split
  · rename_i h
    exact ⟨.inl, fun z => z.elim id fun e => e ▸ h⟩
  · simp
theorem mem_addAll {x : Str} : ∀ {l ks : List Str}, x ∈ addAll ks l ↔ x ∈ ks ∨ x ∈ l
  | [], ks => by simp [addAll]
  | w :: r, ks => by
    show x ∈ addAll (addS ks w) r ↔ _
    rw [mem_addAll, mem_addS, List.mem_cons, or_assoc]
theorem addS_in {ks : List Str} {w : Str} (h : w ∈ ks) : addS ks w = ks := if_pos h
theorem addAll_in : ∀ {l ks : List Str}, (∀ x ∈ l, x ∈ ks) → addAll ks l = ks
  | [], _, _ => rfl
  | w :: r, ks, h => by
    show addAll (addS ks w) r = ks
    rw [addS_in (h w List.mem_cons_self)]
    exact addAll_in fun x hx => h x (List.mem_cons_of_mem _ hx)
theorem addAll_append (ks l m : List Str) : addAll ks (l ++ m) = addAll (addAll ks l) m := List.foldl_append
/-- what is added one by one may be added at once -/
theorem addAll_addAll : ∀ (m l ks : List Str), addAll ks (addAll l m) = addAll (addAll ks l) m
  | [], _, _ => rfl
  | w :: r, l, ks => by
    show addAll ks (addAll (addS l w) r) = addAll (addS (addAll ks l) w) r
    rw [addAll_addAll r (addS l w) ks]
    congr 1
    unfold addS
    by_cases h : w ∈ l
    · rw [if_pos h, if_pos (mem_addAll.mpr (.inr h))]
    · rw [if_neg h, addAll_append]
      rfl
theorem filter_addS (p : Str → Bool) (ks : List Str) (w : Str) : (addS ks w).filter p = if p w = true then addS (ks.filter p) w else ks.filter p := by
  unfold addS
  by_cases h : w ∈ ks
  · by_cases hp : p w = true
    · rw [if_pos h, if_pos hp, if_pos (List.mem_filter.mpr ⟨h, hp⟩)]
    · rw [if_pos h, if_neg hp]
  · by_cases hp : p w = true
    · rw [if_neg h, if_pos hp, if_neg fun z => h (List.mem_filter.mp z).1, List.filter_append, List.filter_cons_of_pos hp, List.filter_nil]
    · rw [if_neg h, if_neg hp, List.filter_append, List.filter_cons_of_neg hp, List.filter_nil, List.append_nil]
theorem filter_addAll (p : Str → Bool) : ∀ (l ks : List Str), (addAll ks l).filter p = addAll (ks.filter p) (l.filter p)
  | [], _ => rfl
  | w :: r, ks => by
    show (addAll (addS ks w) r).filter p = _
    rw [filter_addAll p r, filter_addS]
    by_cases hp : p w = true
    · rw [if_pos hp, List.filter_cons_of_pos hp]
      rfl
    · rw [if_neg hp, List.filter_cons_of_neg hp]
abbrev out (hid : List Str) (l : List Str) : List Str := l.filter fun x => !decide (x ∈ hid)
theorem out_addAll (hid ks l : List Str) : out hid (addAll ks l) = addAll (out hid ks) (out hid l) := filter_addAll _ _ _
theorem out_nil (hid : List Str) : out hid [] = [] := rfl
theorem addAll_addAll0 (l ks : List Str) : addAll ks (addAll [] l) = addAll ks l := addAll_addAll l [] ks
theorem out_own (hid : List Str) (w : Str) (l : List Str) : out hid (l.filter fun x => !decide (x = w)) = out (hid ++ [w]) l := by
  unfold out
  rw [List.filter_filter]
  refine List.filter_congr fun x _ => ?_
  simp
theorem gath_eq : ∀ (e : Ex) (hid ks : List Str), gath e hid ks = addAll ks (out hid (lneeds e))
  | .num _, _, _ => rfl
  | .nam w, hid, ks => by
    show (if w ∈ hid then ks else addS ks w) = addAll ks (List.filter (fun x => !decide (x ∈ hid)) [w])
    by_cases h : w ∈ hid
    · rw [if_pos h, List.filter_cons_of_neg (by simpa using h)]
      rfl
    · rw [if_neg h, List.filter_cons_of_pos (by simpa using h)]
      rfl
  | .two _ a b, hid, ks => by
    show gath b hid (gath a hid ks) = addAll ks (out hid (addAll (addAll [] (lneeds a)) (lneeds b)))
    rw [gath_eq b, gath_eq a, out_addAll, out_addAll, out_nil, addAll_addAll, addAll_addAll0]
  | .whn c a b, hid, ks => by
    show gath b hid (gath a hid (gath c hid ks)) = addAll ks (out hid (addAll (addAll (addAll [] (lneeds c)) (lneeds a)) (lneeds b)))
    rw [gath_eq b, gath_eq a, gath_eq c, out_addAll, out_addAll, out_addAll, out_nil, addAll_addAll, addAll_addAll, addAll_addAll0]
  | .lett w a b, hid, ks => by
    show gath b (hid ++ [w]) (gath a hid ks) = addAll ks (out hid (addAll (addAll [] (lneeds a)) ((lneeds b).filter fun x => !decide (x = w))))
    rw [gath_eq b, gath_eq a, out_addAll, out_addAll, out_nil, addAll_addAll, addAll_addAll0, out_own]
theorem addAll_nodup_self : ∀ (l : List Str), l.Nodup → ∀ ks : List Str, (∀ x ∈ l, x ∉ ks) → addAll ks l = ks ++ l
  | [], _, ks, _ => (List.append_nil ks).symm
  | w :: r, hn, ks, h => by
    obtain ⟨h1, h2⟩ := List.nodup_cons.mp hn
    show addAll (addS ks w) r = ks ++ w :: r
    have e : addS ks w = ks ++ [w] := if_neg (h w List.mem_cons_self)
    rw [e, addAll_nodup_self r h2 (ks ++ [w]) fun x hx z => ?_, List.append_assoc]
    · rfl
    · rcases List.mem_append.mp z with z | z
      · exact h x (List.mem_cons_of_mem _ hx) z
      · have := List.mem_singleton.mp z
        subst this
        exact h1 hx
theorem addS_nodup {ks : List Str} {w : Str} (h : ks.Nodup) : (addS ks w).Nodup := by
  unfold addS
  split
  · exact h
  · rename_i hw
    exact nd_snoc h hw
theorem addAll_nodup : ∀ (l ks : List Str), ks.Nodup → (addAll ks l).Nodup
  | [], _, h => h
  | _ :: r, _, h => addAll_nodup r _ (addS_nodup h)
theorem lneeds_nodup : ∀ e : Ex, (lneeds e).Nodup
  | .num _ => List.nodup_nil
  | .nam w => by simp [lneeds]
  | .two _ _ _ => addAll_nodup _ _ (addAll_nodup _ _ List.nodup_nil)
  | .whn _ _ _ => addAll_nodup _ _ (addAll_nodup _ _ (addAll_nodup _ _ List.nodup_nil))
  | .lett _ _ _ => addAll_nodup _ _ (addAll_nodup _ _ List.nodup_nil)
theorem gath_lneeds (e : Ex) : gath e [] [] = lneeds e := by
  rw [gath_eq]
  have h1 : out [] (lneeds e) = lneeds e := by
    refine List.filter_eq_self.mpr fun x _ => ?_
    simp
  rw [h1, addAll_nodup_self _ (lneeds_nodup e) [] (fun x _ z => nomatch z), List.nil_append]
theorem addAll_len (l : List Str) : ∀ ks : List Str, (addAll ks l).length ≤ ks.length + l.length := by
  induction l with
  | nil => intro ks; exact Nat.le_refl _
  | cons w r ih =>
    intro ks
    have h1 := ih (addS ks w)
    have h2 := addS_len ks w
    show (addAll (addS ks w) r).length ≤ ks.length + (r.length + 1)
    omega
/-- the names a kid gives: those that aren't the let's own -/
def own (o : Option Str) (i : Nat) (y : Str) : Bool := match o with
  | some x => decide (i = 1) && decide (y = x)
  | none => false
def kn (o : Option Str) : Nat → List Ex → List Str → List Str
  | _, [], ks => ks
  | i, e :: r, ks => kn o (i + 1) r (addAll ks ((lneeds e).filter fun y => !own o i y))
theorem kn_append (o : Option Str) : ∀ (l m : List Ex) (i : Nat) (ks : List Str), kn o i (l ++ m) ks = kn o (i + l.length) m (kn o i l ks)
  | [], _, _, _ => rfl
  | e :: r, m, i, ks => by
    show kn o (i + 1) (r ++ m) _ = _
    rw [kn_append o r m (i + 1), List.length_cons]
    have e1 : i + 1 + r.length = i + (r.length + 1) := by omega
    rw [e1]
    rfl
def ownOf : Ex → Option Str
  | .lett x _ _ => some x
  | _ => none
theorem filter_all (l : List Str) : l.filter (fun _ => !false) = l := List.filter_eq_self.mpr fun _ _ => rfl
theorem kn_lneeds {e : Ex} (h : e.kids ≠ []) : kn (ownOf e) 0 e.kids [] = lneeds e := by
  cases e with
  | num _ => exact absurd rfl h
  | nam _ => exact absurd rfl h
  | two o a b =>
    show addAll (addAll [] ((lneeds a).filter fun _ => !false)) ((lneeds b).filter fun _ => !false) = _
    rw [filter_all, filter_all]
    rfl
  | whn c a b =>
    show addAll (addAll (addAll [] ((lneeds c).filter fun _ => !false)) ((lneeds a).filter fun _ => !false)) ((lneeds b).filter fun _ => !false) = _
    rw [filter_all, filter_all, filter_all]
    rfl
  | lett x a b =>
    show addAll (addAll [] ((lneeds a).filter fun y => !(false && decide (y = x)))) ((lneeds b).filter fun y => !(true && decide (y = x))) = addAll (addAll [] (lneeds a)) ((lneeds b).filter fun y => !decide (y = x))
    have h1 : (lneeds a).filter (fun y => !(false && decide (y = x))) = lneeds a := List.filter_eq_self.mpr fun _ _ => rfl
    rw [h1]
    rfl
theorem lneeds_len (e : Ex) : (lneeds e).length ≤ e.size := by
  have h := gath_len e [] []
  rw [gath_lneeds] at h
  simpa using h
theorem kn_len (o : Option Str) : ∀ (l : List Ex) (i : Nat) (ks : List Str), (kn o i l ks).length ≤ ks.length + sizeL l
  | [], _, _ => Nat.le_refl _
  | e :: r, i, ks => by
    have h1 := kn_len o r (i + 1) (addAll ks ((lneeds e).filter fun y => !own o i y))
    have h2 := addAll_len ((lneeds e).filter fun y => !own o i y) ks
    have h3 := List.length_filter_le (fun y => !own o i y) (lneeds e)
    have h4 := lneeds_len e
    show (kn o (i + 1) r _).length ≤ ks.length + (e.size + sizeL r)
    omega
theorem But.tupsL {d : Addr} {H H' : Hp} {l : List V} (h : But d H H') (hd : H d = some (.lst l)) : Tups H H' := fun a xs e => h a _ (ne_of e hd (fun z => nomatch z)) e
def spLNeeds (n : Nat) : Sp := fun vs H Q _ => ∃ (v : V) (e : Ex), vs = [v] ∧ Bears H v e ∧ e.deep ≤ n ∧ e.size ≤ 1000 ∧ ∀ (H' : Hp) (p : Addr), Same H H' → H p = none → H' p = some (.lst ((lneeds e).map V.str)) → Q (.ref p) H'
theorem spLNeeds0 : FnOk P w K mg base CX0 0 f fd ["_law_expr"] (spLNeeds 0) := by
  have no : ∀ vs H Q E, ¬ spLNeeds 0 vs H Q E := fun vs H Q E h => by
    obtain ⟨v, e, _, _, h1, _⟩ := h
    have := e.deep_pos
    omega
  exact ⟨fun vs H Q E h => absurd h (no vs H Q E), fun A outer s H args us vs Q E _ _ _ _ h => absurd h (no vs H Q E)⟩
def b2i (b : Bool) : Nat := if b = true then 1 else 0
theorem own_read {H : Hp} {Q : VK} {σ : L2.St} {a : Addr} {wd y : Str} {xs : List V} {bl : Bool} {o : Option Str} {i : Nat} {k : Int}
    (h : H a = some (.tup (.str wd :: xs))) (c3 : decide (V.str wd = V.str "let") = bl) (ho : (bl = false ∧ o = none) ∨ (bl = true ∧ ∃ x, o = some x ∧ xs[0]? = some (.str x))) (hk : k = 1 + (b2i bl : Int) + i)
    (s0 : σ[0]? = some (some (.ref a))) (s3 : σ[3]? = some (some (.int k))) (s4 : σ[4]? = some (some (.str y))) (q : Q (.bl (own o i y)) H) :
    tAndV (tOp rEq (tOp (rIxT K) (tVar 0) (tC (.int 0))) (tC (.str "let"))) (tAndV (tOp rEq (tVar 3) (tC (.int 3))) (tOp rEq (tVar 4) (tOp (rIxT K) (tVar 0) (tC (.int 1))))) σ H Q := by
  refine ⟨_, s0, a, _, 0, _, rfl, rfl, .inl (.inl h), at_of (j := 0) rfl rfl, rfl, bl, congrArg V.bl c3, ?_⟩
  rcases ho with ⟨rfl, rfl⟩ | ⟨rfl, x, rfl, hx⟩
  · exact iteF q
  · refine iteT ⟨_, s3, rfl, decide (i = 1), congrArg V.bl ?_, ?_⟩
    · subst hk
      refine decide_eq_decide.mpr ⟨fun z => ?_, fun z => ?_⟩
      · injection z with z
        simp [b2i] at z
        omega
      · subst z
        rfl
    · by_cases hi : i = 1
      · rw [decide_eq_true hi]
        refine iteT ⟨_, s4, _, s0, a, _, 1, _, rfl, rfl, .inl (.inl h), at_of (j := 1) rfl hx, rfl, ?_⟩
        have e : own (some x) i y = decide (V.str y = V.str x) := by
          show (decide (i = 1) && decide (y = x)) = _
          rw [decide_eq_true hi, Bool.true_and]
          exact decide_eq_decide.mpr ⟨fun z => congrArg V.str z, fun z => by injection z⟩
        rw [← e]
        exact q
      · rw [decide_eq_false hi]
        refine iteF ?_
        have e : own (some x) i y = false := by
          show (decide (i = 1) && decide (y = x)) = _
          rw [decide_eq_false hi, Bool.false_and]
        rw [← e]
        exact q
theorem same_put {H H2 : Hp} {F : Addr} {o : HO} (g : Same H H2) (hF : H F = none) : Same H (upd H2 F o) := fun b u e => by
  rw [upd_ne (ne_of_none e hF)]
  exact g _ _ e
def spMixed (K : PySem.W.Frag) : Sp := fun vs H Q _ => ∃ (a : Addr) (ns : List Int), vs = [.ref a] ∧ SqL K H a (ns.map V.int) ∧ ns.length ≤ 63 ∧
  ∀ (H' : Hp) (p : Addr) (ms : List Int), Same H H' → H' p = some (.lst (ms.map V.int)) → ms.length = ns.length → (∀ m ∈ ms, 0 ≤ m) → Q (.ref p) H'
def spCellAt (K : PySem.W.Frag) : Sp := fun vs H Q _ => ∃ (a : Addr) (ms : List Int) (k : Int), vs = [.ref a, .int k] ∧ SqL K H a (ms.map V.int) ∧ 0 ≤ k ∧ (∀ m ∈ ms, 0 ≤ m) ∧ ∀ c : Int, 0 ≤ c → Q (.int c) H
def spWhole : Sp := fun vs H Q _ => ∃ i : Int, vs = [.int i] ∧ Q (.bl true) H
theorem at_mod {xs : List V} {m : Int} (n : Nat) (hn : xs.length = n) (hp : 0 < n) : ∃ v, atI xs (m % (n : Int)) = some v ∧ v ∈ xs := by
  have h1 := Int.emod_nonneg m (show (n : Int) ≠ 0 by omega)
  have h2 := Int.emod_lt_of_pos m (show (0 : Int) < n by omega)
  have hj : (m % (n : Int)).toNat < xs.length := by omega
  exact ⟨xs[(m % (n : Int)).toNat], at_of (j := (m % (n : Int)).toNat) (by omega) (List.getElem?_eq_getElem hj), List.getElem_mem hj⟩
def NumOk (n : Int) : Prop := -1000000000 ≤ n ∧ n ≤ 1000000000
instance (n : Int) : Decidable (NumOk n) := inferInstanceAs (Decidable (_ ∧ _))
def numV : V → Bool
  | .int n => decide (NumOk n)
  | _ => false
theorem numV_out {v : V} (h : numV v = true) : ∃ n, v = .int n ∧ NumOk n := by
  cases v <;> first | exact ⟨_, rfl, of_decide_eq_true h⟩ | cases h
def spNumBy : Sp := fun vs H Q _ => ∃ c : Int, vs = [.int c] ∧ 0 ≤ c ∧ ∀ (H' : Hp) (n : Int), Same H H' → NumOk n → Q (.int n) H'
theorem if_prop {c : TT} {t u v : TS} {D : Ends} {σ : L2.St} {H : Hp} (p : Prop) (hc : ∀ Q : Bool → Hp → Prop, (p → Q true H) → (¬ p → Q false H) → c σ H Q) (h1 : p → t { D with nx := v D } σ H) (h2 : ¬ p → u { D with nx := v D } σ H) : tSeq (tIfS c t u) v D σ H :=
  hc _ (fun h => iteT (h1 h)) (fun h => iteF (h2 h))
theorem at_ofA {α : Type} {xs : List α} {z : Int} {j : Nat} {v : α} (e : z = (j : Int)) (h : xs[j]? = some v) : atI xs z = some v := by
  rw [e]
  exact atI_nat h
theorem at_modA {α : Type} {xs : List α} {m : Int} (n : Nat) (hn : xs.length = n) (hp : 0 < n) : ∃ v, atI xs (m % (n : Int)) = some v ∧ v ∈ xs := by
  have h1 := Int.emod_nonneg m (show (n : Int) ≠ 0 by omega)
  have h2 := Int.emod_lt_of_pos m (show (0 : Int) < n by omega)
  have hj : (m % (n : Int)).toNat < xs.length := by omega
  have e : m % (n : Int) = (((m % (n : Int)).toNat : Nat) : Int) := by omega
  exact ⟨xs[(m % (n : Int)).toNat], at_ofA e (List.getElem?_eq_getElem hj), List.getElem_mem hj⟩
theorem at_lt {α : Type} {xs : List α} {k : Int} (h0 : 0 ≤ k) (h1 : k < xs.length) : ∃ v, atI xs k = some v ∧ v ∈ xs := by
  have hj : k.toNat < xs.length := by omega
  have e : k = ((k.toNat : Nat) : Int) := by omega
  exact ⟨xs[k.toNat], at_ofA e (List.getElem?_eq_getElem hj), List.getElem_mem hj⟩
def Low (z : Str) : Prop := ∀ c ∈ z.cps.toList, 97 ≤ c ∧ c ≤ 122
def NameOk (z : Str) : Prop := 1 ≤ z.length ∧ z.length ≤ 8 ∧ Low z
abbrev signs : Str := "abcdefghijklmnopqrstuvwxyz"
theorem app_list (a b : Str) : (a ++ b).cps.toList = a.cps.toList ++ b.cps.toList := Array.toList_append
theorem app_len (a b : Str) : (a ++ b).length = a.length + b.length := Array.size_append
theorem Low.app {a b : Str} (ha : Low a) (hb : Low b) : Low (a ++ b) := fun c hc => by
  rw [app_list] at hc
  exact (List.mem_append.mp hc).elim (ha c) (hb c)
theorem cut_len (z : Str) (lo hi : Option Int) : (cutS z lo hi).length = min (HT.sIx z.length z.length hi - HT.sIx z.length 0 lo) (z.length - HT.sIx z.length 0 lo) := by
  show (((z.cps.toList.drop (HT.sIx z.length 0 lo)).take (HT.sIx z.length z.length hi - HT.sIx z.length 0 lo)).toArray).size = _
  rw [List.size_toArray, List.length_take, List.length_drop, Array.length_toList]
  rfl
theorem Low.cut {z : Str} (h : Low z) (lo hi : Option Int) : Low (cutS z lo hi) := fun c hc => by
  have hc' : c ∈ ((z.cps.toList.drop (HT.sIx z.length 0 lo)).take (HT.sIx z.length z.length hi - HT.sIx z.length 0 lo)) := by
    have : (cutS z lo hi).cps.toList = ((z.cps.toList.drop (HT.sIx z.length 0 lo)).take (HT.sIx z.length z.length hi - HT.sIx z.length 0 lo)) := by
      show (List.toArray _).toList = _
      rfl
    rw [this] at hc
    exact hc
  exact h c (List.drop_subset _ _ (List.take_subset _ _ hc'))
theorem Low.one {c : Nat} (h : 97 ≤ c ∧ c ≤ 122) : Low ⟨#[c]⟩ := fun x hx => by
  have : x ∈ [c] := hx
  rw [List.mem_singleton.mp this]
  exact h
theorem sign_at (m : Int) : ∃ c, atI signs.cps.toList (m % 26) = some c ∧ 97 ≤ c ∧ c ≤ 122 := by
  obtain ⟨c, h, hm⟩ := at_modA (xs := signs.cps.toList) (m := m) 26 (by decide +kernel) (by decide)
  have := List.all_eq_true.mp (show (signs.cps.toList.all fun c => decide (97 ≤ c ∧ c ≤ 122)) = true by decide +kernel) c hm
  exact ⟨c, h, of_decide_eq_true this⟩
theorem signs_len : signs.length ≤ sizeLine := by
  have : signs.length = 26 := by decide +kernel
  rw [this]
  decide
def nameV : V → Bool
  | .str z => decide (1 ≤ z.length) && decide (z.length ≤ 8) && z.cps.toList.all fun c => decide (97 ≤ c ∧ c ≤ 122)
  | _ => false
theorem nameV_out {v : V} (h : nameV v = true) : ∃ z, v = .str z ∧ NameOk z := by
  cases v with
  | str z =>
    have h' : (decide (1 ≤ z.length) && decide (z.length ≤ 8) && z.cps.toList.all fun c => decide (97 ≤ c ∧ c ≤ 122)) = true := h
    simp only [Bool.and_eq_true, decide_eq_true_eq, List.all_eq_true] at h'
    exact ⟨z, rfl, h'.1.1, h'.1.2, fun c hc => h'.2 c hc⟩
  | _ => cases h
theorem sIx_pos {n d : Nat} {v : Int} (h : 0 ≤ v) : HT.sIx n d (some v) = min v.toNat n := by
  show (if v < 0 then (v + (n : Int)).toNat else min v.toNat n) = _
  rw [if_neg (by omega)]
def spNameBy : Sp := fun vs H Q _ => ∃ c k : Int, vs = [.int c, .int k] ∧ 0 ≤ c ∧ 0 ≤ k ∧ k ≤ 1000 ∧ ∀ (H' : Hp) (z : Str), Same H H' → NameOk z → Q (.str z) H'
/-- an if whose test may come out either way -/
theorem if_two {c : TT} {t u v : TS} {D : Ends} {σ : L2.St} {H : Hp} (p : Prop) (hc : ∀ Q : Bool → Hp → Prop, (p → Q true H) → Q false H → c σ H Q) (h1 : p → t { D with nx := v D } σ H) (h2 : u { D with nx := v D } σ H) : tSeq (tIfS c t u) v D σ H :=
  hc _ (fun h => iteT (h1 h)) (iteF h2)
/-- an if that may store into one name -/
theorem if_set {c : TT} {te : TE} {i : Nat} {v : TS} {D : Ends} {σ : L2.St} {H : Hp} (p : Prop) (ok : V → Hp → Prop) (w0 : V) (h0 : ok w0 H) (hσ : σ.set i (some w0) = σ) (hc : ∀ Q : Bool → Hp → Prop, (p → Q true H) → Q false H → c σ H Q)
    (ht : p → ∀ Q : VK, (∀ w H', ok w H' → Q w H') → te σ H Q) (hr : ∀ w H', ok w H' → v D (σ.set i (some w)) H') : tSeq (tIfS c (tAsg te (gName i)) tNext) v D σ H :=
  hc _ (fun h => iteT (ht h _ fun w H' hw => hr w H' hw)) (iteF (by
    have := hr w0 H h0
    rw [hσ] at this
    exact this))
def Ex.ok : Ex → Prop
  | .num n => NumOk n
  | .nam w => NameOk w
  | .two _ a b => a.ok ∧ b.ok
  | .whn c a b => c.ok ∧ a.ok ∧ b.ok
  | .lett w a b => NameOk w ∧ a.ok ∧ b.ok
def Ex.word : Ex → Str
  | .num _ => "num"
  | .nam _ => "name"
  | .two o _ _ => o.str
  | .whn _ _ _ => "when"
  | .lett _ _ _ => "let"
theorem Bears.first {H : Hp} {v : V} {e : Ex} (b : Bears H v e) : ∃ a xs, v = .ref a ∧ H a = some (.tup (.str e.word :: xs)) := by
  cases b with
  | num h => exact ⟨_, _, rfl, h⟩
  | nam h => exact ⟨_, _, rfl, h⟩
  | two h _ _ => exact ⟨_, _, rfl, h⟩
  | whn h _ _ _ => exact ⟨_, _, rfl, h⟩
  | lett h _ _ => exact ⟨_, _, rfl, h⟩
def opsV : List V := [.str "sum", .str "less", .str "times", .str "part", .str "rest", .str "below", .str "same"]
theorem ops_in {v : V} (h : v ∈ opsV) : ∃ o : Op, v = .str o.str := by
  simp only [opsV, List.mem_cons, List.mem_nil_iff, or_false] at h
  rcases h with rfl | rfl | rfl | rfl | rfl | rfl | rfl
  · exact ⟨.sum, rfl⟩
  · exact ⟨.less, rfl⟩
  · exact ⟨.times, rfl⟩
  · exact ⟨.part, rfl⟩
  · exact ⟨.rest, rfl⟩
  · exact ⟨.below, rfl⟩
  · exact ⟨.same, rfl⟩
theorem word_op {e : Ex} (h : inV (.str e.word) opsV = true) : ∃ o : Op, V.str e.word = .str o.str := by
  cases e with
  | num _ => exact absurd (show inV (.str "num") opsV = true from h) (by decide)
  | nam _ => exact absurd (show inV (.str "name") opsV = true from h) (by decide)
  | two o _ _ => exact ⟨o, rfl⟩
  | whn _ _ _ => exact absurd (show inV (.str "when") opsV = true from h) (by decide)
  | lett _ _ _ => exact absurd (show inV (.str "let") opsV = true from h) (by decide)
theorem BearsL.app {H : Hp} : ∀ {xs ys : List V} {es fs : List Ex}, BearsL H xs es → BearsL H ys fs → BearsL H (xs ++ ys) (es ++ fs)
  | _, _, _, _, .nil, s => s
  | _, _, _, _, .cons a r, s => .cons a (BearsL.app r s)
theorem BearsL.split1 {H : Hp} : ∀ {xs : List V} {es : List Ex}, BearsL H xs es → 0 < xs.length → ∃ pre x epre ex, xs = pre ++ [x] ∧ es = epre ++ [ex] ∧ BearsL H pre epre ∧ Bears H x ex
  | _, _, .nil, h => absurd h (Nat.lt_irrefl _)
  | _, _, .cons (a := x) (b := e) b .nil, _ => ⟨[], x, [], e, rfl, rfl, .nil, b⟩
  | _, _, .cons (a := x) (b := e) b (.cons c r), _ => by
    obtain ⟨pre, y, epre, ey, e1, e2, h1, h2⟩ := BearsL.split1 (.cons c r) (Nat.zero_lt_succ _)
    exact ⟨x :: pre, y, e :: epre, ey, by rw [e1]; rfl, by rw [e2]; rfl, .cons b h1, h2⟩
theorem BearsL.split2 {H : Hp} {xs : List V} {es : List Ex} (b : BearsL H xs es) (h : 1 < xs.length) : ∃ pre x y epre ex ey, xs = pre ++ [x, y] ∧ es = epre ++ [ex, ey] ∧ BearsL H pre epre ∧ Bears H x ex ∧ Bears H y ey := by
  obtain ⟨pre, y, epre, ey, rfl, rfl, b1, by1⟩ := b.split1 (by omega)
  rw [List.length_append] at h
  obtain ⟨pre2, x, epre2, ex, rfl, rfl, b2, bx⟩ := b1.split1 (by simp at h; omega)
  exact ⟨pre2, x, y, epre2, ex, ey, by simp, by simp, b2, bx, by1⟩
theorem BearsL.split3 {H : Hp} {xs : List V} {es : List Ex} (b : BearsL H xs es) (h : 2 < xs.length) : ∃ pre w x y epre ew ex ey, xs = pre ++ [w, x, y] ∧ es = epre ++ [ew, ex, ey] ∧ BearsL H pre epre ∧ Bears H w ew ∧ Bears H x ex ∧ Bears H y ey := by
  obtain ⟨pre, y, epre, ey, rfl, rfl, b1, by1⟩ := b.split1 (by omega)
  rw [List.length_append] at h
  obtain ⟨pre2, w, x, epre2, ew, ex, rfl, rfl, b2, bw, bx⟩ := b1.split2 (by simp at h; omega)
  exact ⟨pre2, w, x, y, epre2, ew, ex, ey, by simp, by simp, b2, bw, bx, by1⟩
theorem at_neg {xs : List V} {v : V} (k : Nat) (hk : 0 < k) (hl : k ≤ xs.length) (h : xs[xs.length - k]? = some v) : atI xs (-(k : Int)) = some v := by
  unfold atI ixN
  rw [if_neg (by omega), if_pos (by omega)]
  show xs[(-(k : Int) + (xs.length : Int)).toNat]? = some v
  have e : (-(k : Int) + (xs.length : Int)).toNat = xs.length - k := by omega
  rw [e]
  exact h
theorem cut_app (pre suf : List V) (k : Nat) (hk : suf.length = k) (h0 : 0 < k) : cutV (pre ++ suf) none (some (-(k : Int))) = pre := by
  unfold cutV
  have e1 : HT.sIx (pre ++ suf).length 0 none = 0 := rfl
  have e2 : HT.sIx (pre ++ suf).length (pre ++ suf).length (some (-(k : Int))) = pre.length := by
    show (if -(k : Int) < 0 then (-(k : Int) + ((pre ++ suf).length : Int)).toNat else _) = _
    rw [if_pos (by omega), List.length_append]
    omega
  rw [e1, e2, List.drop_zero, Nat.sub_zero, List.take_left']
  rfl
/-- behind the last list of a step -/
theorem step_fin {H H4 : Hp} {pre : List V} {epre : List Ex} {t l p : Addr} {en : Ex} (g : Same H H4) (bp : BearsL H pre epre) (bn : Bears H4 (.ref t) en) (hl : H4 l = none) (hp : upd H4 l (.lst [.ref t]) p = none) :
    Same H (upd (upd H4 l (.lst [.ref t])) p (.lst (pre ++ [.ref t]))) ∧ BearsL (upd (upd H4 l (.lst [.ref t])) p (.lst (pre ++ [.ref t]))) (pre ++ [.ref t]) (epre ++ [en]) := by
  have g2 := (same_new hl (.lst [.ref t])).trans (same_new hp (.lst (pre ++ [.ref t])))
  exact ⟨g.trans g2, BearsL.app (bp.mono (Tups.of (g.trans g2))) (.cons (bn.mono (Tups.of g2)) .nil)⟩
theorem new_h {H : Hp} {p : Addr} {o : HO} {R : Hp → Prop} (hp : H p = none) (k : ∀ H1, Same H H1 → H1 p = some o → R H1) : R (upd H p o) := k _ (same_new hp o) upd_same
def depS : List Ex → Nat
  | [] => 0
  | e :: r => e.deep + depS r
theorem depS_append : ∀ (l m : List Ex), depS (l ++ m) = depS l + depS m
  | [], m => (Nat.zero_add _).symm
  | e :: r, m => by
    show e.deep + depS (r ++ m) = e.deep + depS r + depS m
    rw [depS_append r m, Nat.add_assoc]
theorem any_b {Q : Bool → Hp → Prop} {b : Bool} {H : Hp} (h1 : Q true H) (h2 : Q false H) : Q b H := by
  cases b
  · exact h2
  · exact h1
def OkL (es : List Ex) : Prop := ∀ e ∈ es, e.ok
theorem OkL.app {es fs : List Ex} (a : OkL es) (b : OkL fs) : OkL (es ++ fs) := fun e h => (List.mem_append.mp h).elim (a e) (b e)
theorem OkL.one {e : Ex} (h : e.ok) : OkL [e] := fun x hx => by rw [List.mem_singleton.mp hx]; exact h
theorem OkL.left {es fs : List Ex} (a : OkL (es ++ fs)) : OkL es := fun e h => a e (List.mem_append_left _ h)
def spStep : Sp := fun vs H Q _ => ∃ (a : Addr) (xs : List V) (es : List Ex) (kind more seed : Int), vs = [.ref a, .int kind, .int more, .int seed] ∧ H a = some (.lst xs) ∧ BearsL H xs es ∧ OkL es ∧ 0 ≤ more ∧ 0 ≤ seed ∧ xs.length ≤ 900 ∧
  ∀ (H' : Hp) (p : Addr) (xs' : List V) (es' : List Ex), Same H H' → H' p = some (.lst xs') → BearsL H' xs' es' → OkL es' → es'.length ≤ es.length + 1 → sizeL es' ≤ sizeL es + 5 → depS es' ≤ depS es + 1 → Q (.ref p) H'
def spTreeBy (K : PySem.W.Frag) : Sp := fun vs H Q _ => ∃ (a : Addr) (ms : List Int) (seed : Int), vs = [.ref a, .int seed] ∧ SqL K H a (ms.map V.int) ∧ (∀ m ∈ ms, 0 ≤ m) ∧ ms.length ≤ 63 ∧ 0 ≤ seed ∧
  ∀ (H' : Hp) (v : V) (e : Ex), Same H H' → Bears H' v e → e.ok → e.size ≤ 6 * ms.length + 1 → e.deep ≤ ms.length + 1 → Q v H'
def spLink : Sp := fun vs H Q _ => ∃ (x : Str) (c : Int), vs = [.str x, .int c] ∧ ∀ (H' : Hp) (n : Int), Same H H' → NumOk n → Q (.int n) H'
def spManyBy : Sp := fun vs H Q _ => ∃ (seed c : Int), vs = [.int seed, .int c] ∧ 0 ≤ seed ∧ 0 ≤ c ∧ ∀ (H' : Hp) (v : V) (e : Ex), Same H H' → Bears H' v e → e.ok → e.size ≤ 100 → e.deep ≤ 50 → Q v H'
theorem if_both {c : TT} {t u : TS} {D : Ends} {σ : L2.St} {H : Hp} (hc : ∀ Q : Bool → Hp → Prop, Q true H → Q false H → c σ H Q) (h1 : t D σ H) (h2 : u D σ H) : tIfS c t u D σ H := hc _ (iteT h1) (iteF h2)
theorem seq_asg_c {v : V} {i : Nat} {rest : TS} {D : Ends} {σ : L2.St} {H : Hp} (h : rest D (σ.set i (some v)) H) : tSeq (tAsg (tC v) (gName i)) rest D σ H := h
theorem cut_ints (ms : List Int) (lo hi : Int) (h0 : 0 ≤ lo) (h1 : 0 ≤ hi) : ∃ ms' : List Int, cutV (ms.map V.int) (some lo) (some hi) = ms'.map V.int ∧ (∀ m ∈ ms', m ∈ ms) ∧ ms'.length ≤ min hi.toNat ms.length - min lo.toNat ms.length := by
  refine ⟨(ms.drop (HT.sIx (ms.map V.int).length 0 (some lo))).take (HT.sIx (ms.map V.int).length (ms.map V.int).length (some hi) - HT.sIx (ms.map V.int).length 0 (some lo)), ?_, fun m hm => ?_, ?_⟩
  · unfold cutV
    rw [List.map_take, List.map_drop]
  · exact List.drop_subset _ _ (List.take_subset _ _ hm)
  · rw [List.length_take, sIx_pos h0, sIx_pos h1, List.length_map]
    exact Nat.min_le_left _ _
theorem many_pos (k : Bool) : (0 : Int) < 30 + 30 * (if k = true then 1 else 0) := by cases k <;> decide
theorem many_le (k : Bool) : (30 : Int) + 30 * (if k = true then 1 else 0) ≤ 60 := by cases k <;> decide
theorem name_deep {e : Ex} (h : e.word = "name") : e.deep = 1 := by
  cases e with
  | nam x => rfl
  | num n => rfl
  | two o a b => exact absurd (show o.str = "name" from h) (by cases o <;> decide)
  | whn c a b => exact absurd (show ("when" : Str) = "name" from h) (by decide)
  | lett x a b => exact absurd (show ("let" : Str) = "name" from h) (by decide)
def spExprBy (K : PySem.W.Frag) : Sp := fun vs H Q _ => ∃ (a : Addr) (ms : List Int), vs = [.ref a] ∧ SqL K H a (ms.map V.int) ∧ (∀ m ∈ ms, 0 ≤ m) ∧ ms.length ≤ 63 ∧
  ∀ (H' : Hp) (v : V) (e : Ex), Same H H' → Bears H' v e → e.ok → e.size ≤ 300 → e.deep ≤ 60 → Q v H'
def strD (l : List Str) : PyData := .list (l.map PyData.str)
theorem dp_strs {K : PySem.W.Frag} {H : Hp} : ∀ l : List Str, DpAll K H (l.map V.str) (l.map PyData.str)
  | [] => .nil
  | x :: r => .cons (.str x) (dp_strs r)
theorem Low.strOk {x : Str} (h : Low x) : PyData.strOk x = true := by
  unfold PySem.PyData.strOk
  rw [Array.all_eq_true]
  intro i hi
  have hm : x.cps[i] ∈ x.cps.toList := Array.mem_toList_iff.mpr (Array.getElem_mem hi)
  have := h _ hm
  exact decide_eq_true (by omega)
theorem canLay_strs : ∀ l : List Str, (∀ x ∈ l, Low x) → PyData.canLayAll0 (l.map PyData.str) = true
  | [], _ => by simp [PyData.canLayAll0]
  | x :: r, h => by
    have ih := canLay_strs r fun y hy => h y (List.mem_cons_of_mem _ hy)
    have hx := (h x List.mem_cons_self).strOk
    show PyData.canLayAll0 (PyData.str x :: r.map PyData.str) = true
    unfold PyData.canLayAll0
    rw [ih, Bool.and_true]
    unfold PyData.canLay0
    exact hx
theorem depth_strs : ∀ l : List Str, PyData.depthAll (l.map PyData.str) = 0
  | [] => rfl
  | x :: r => by
    have ih := depth_strs r
    show PyData.depthAll (PyData.str x :: r.map PyData.str) = 0
    unfold PyData.depthAll
    rw [ih]
    rfl
theorem shaped_strs (l : List Str) (h : ∀ x ∈ l, Low x) : SeqAt.shaped (strD l) = true := by
  have h1 : (strD l).canLay0 = true := by
    unfold strD PyData.canLay0
    exact canLay_strs l h
  have h2 : (strD l).depth = 1 := by
    unfold strD PyData.depth
    rw [depth_strs]
  unfold SeqAt.shaped
  rw [h1, h2]
  rfl
theorem eqv_strs_all : ∀ l : List Str, PyData.eqvAll (l.map PyData.str) (l.map PyData.str) = true
  | [] => by simp [PyData.eqvAll]
  | x :: r => by
    have ih := eqv_strs_all r
    show PyData.eqvAll (PyData.str x :: r.map PyData.str) (PyData.str x :: r.map PyData.str) = true
    unfold PyData.eqvAll
    rw [ih, Bool.and_true]
    simp [PyData.eqv]
theorem eqv_strs (l : List Str) : PyData.eqv (strD l) (strD l) = true := by
  unfold strD PyData.eqv
  exact eqv_strs_all l
theorem mem_lneeds : ∀ {e : Ex} {x : Str}, e.ok → x ∈ lneeds e → NameOk x
  | .num _, x, _, h => nomatch h
  | .nam w, x, ok, h => by
    have : x ∈ [w] := h
    rw [List.mem_singleton.mp this]
    exact ok
  | .two _ a b, x, ok, h => by
    have h' : x ∈ addAll (addAll [] (lneeds a)) (lneeds b) := h
    rw [mem_addAll, mem_addAll] at h'
    rcases h' with (h' | h') | h'
    · cases h'
    · exact mem_lneeds ok.1 h'
    · exact mem_lneeds ok.2 h'
  | .whn c a b, x, ok, h => by
    have h' : x ∈ addAll (addAll (addAll [] (lneeds c)) (lneeds a)) (lneeds b) := h
    rw [mem_addAll, mem_addAll, mem_addAll] at h'
    rcases h' with ((h' | h') | h') | h'
    · cases h'
    · exact mem_lneeds ok.1 h'
    · exact mem_lneeds ok.2.1 h'
    · exact mem_lneeds ok.2.2 h'
  | .lett w a b, x, ok, h => by
    have h' : x ∈ addAll (addAll [] (lneeds a)) ((lneeds b).filter fun x => !decide (x = w)) := h
    rw [mem_addAll, mem_addAll] at h'
    rcases h' with (h' | h') | h'
    · cases h'
    · exact mem_lneeds ok.2.1 h'
    · exact mem_lneeds ok.2.2 (List.mem_filter.mp h').1
theorem ne_self (x : V) : (!decide (x = x)) = false := by simp
theorem eq_self' (x : V) : decide (x = x) = true := by simp
structure Gb (mg : Str → Option Value) (t1 t2 : Tok) : Prop where
  LIMIT : mg "LIMIT" = some (.int 1000000000 t1)
  DEEPEST : mg "DEEPEST" = some (.int 60 t2)
def spLaw (K : PySem.W.Frag) : Sp := fun vs H Q _ => ∃ (a : Addr) (ns : List Int), vs = [.ref a] ∧ SqL K H a (ns.map V.int) ∧ ns.length ≤ 63 ∧ ∀ H', Q (.bl true) H'
theorem df_mk {K : PySem.W.Frag} {h : Heap} {mg : Str → Option Value} {x : Str} {st : Stmt} {ps : List Str} {f : Addr} {od an : Option Addr} {sl : Array (Option Value)} {oc kV dc pm cd ct : Value} (X : K.In h) (G : h.Ns mainGlobals mg)
    (a : PySem.W.nsIn K mainGlobals x = some (some (.ref f))) (l : K.lookup f = some ⟨oc, od, .func (PySem.W.fnOf x x (defArgs st) (defBody st) (defScope st) .none kV dc pm an cd ct), sl⟩) (c : PySem.W.codeIn K cd x = true) (k : PySem.W.keepIn K (.ref f) = true)
    (hb : ∀ (kV doc pm : Value) (an : Option Addr) (cdv ct : Value) (us : List Value), us.length = ps.length → bindArgs (PySem.W.fnOf x x (defArgs st) (defBody st) (defScope st) .none kV doc pm an cdv ct) ⟨us, []⟩ = pure (ps.zip us)) :
    Df K mg x st ps f (PySem.W.fnOf x x (defArgs st) (defBody st) (defScope st) .none kV dc pm an cd ct) :=
  ⟨fun_mk l c k, (fun_mk l c k).binds hb, PySem.W.mg_of X G a⟩
theorem walk {l : PySem.W.OpenLaw} {q : Program} {loose : List Str} {XP : (Str → Option Value) → Heap → Prop} {YP : World → Heap → Prop} {d : DefRec} {K : Params → PySem.W.Frag} (hn : l.most = some 63) (hdf : d.params.defaults = [])
    (hY : ∀ (w : World) (h : Heap), YP w h → (K w.params).In h)
    (F : ∀ (w : World) (mg : Str → Option Value) (fa : Addr) (h : Heap), (K w.params).In h → h.Ns mainGlobals mg → mg d.name = some (.ref fa) →
      ∃ fd : FuncData, (∀ (s : Shared) (u : Value), BindsTo s fd ⟨[u], []⟩ [("_law_script", u)]) ∧ ∀ base : Heap, (K w.params).In base → base.Ns mainGlobals mg → FnOk l.prog w (K w.params) mg base CX0 103 fa fd ["_law_script"] (spLaw (K w.params))) :
    PySem.W.WalkO q loose XP YP l.row.toRowW d [] (fun f vs => PySem.call f vs) :=
  L2.walk_of (n := 63) (k := 103) (x := "_law_script") (CX := fun _ => CX0) (sp := fun w => spLaw (K w.params)) hn (by decide) hdf ⟨rfl, by decide, by decide⟩ hY F (fun _ _ a ns hl _ hS => ⟨a, ns, rfl, hS, hl, fun _ => rfl⟩) fun _ _ _ _ _ z => z
end
end FC
namespace FC
open PySem L2
/-- what comes of an expression -/
inductive Rs where
  | is (n : Int)
  | unset (w : Str)
  | nought
  | great
  deriving DecidableEq
def raw : Op → Int → Int → Int
  | .sum, a, b => a + b
  | .less, a, b => a - b
  | .times, a, b => a * b
  | .part, a, b => a.fdiv b
  | .rest, a, b => a - b * a.fdiv b
  | .below, a, b => if a < b then 1 else 0
  | .same, a, b => if a = b then 1 else 0
def isDiv : Op → Bool
  | .part => true
  | .rest => true
  | _ => false
def made (o : Op) (a b : Int) : Rs :=
  if isDiv o = true ∧ b = 0 then .nought else if NumOk (raw o a b) then .is (raw o a b) else .great
def Rs.bind (r : Rs) (f : Int → Rs) : Rs := match r with
  | .is n => f n
  | .unset w => .unset w
  | .nought => .nought
  | .great => .great
/-- a setting: a number for some names -/
abbrev Stg := Str → Option Int
def Stg.put (s : Stg) (w : Str) (n : Int) : Stg := fun x => if x = w then some n else s x
def Stg.del (s : Stg) (w : Str) : Stg := fun x => if x = w then none else s x
def Stg.ok (s : Stg) : Prop := ∀ w n, s w = some n → NumOk n
theorem Stg.ok.put {s : Stg} (h : s.ok) (w : Str) {n : Int} (hn : NumOk n) : (s.put w n).ok := fun x m e => by
  unfold Stg.put at e
  split at e
  · cases e; exact hn
  · exact h x m e
theorem Stg.ok.del {s : Stg} (h : s.ok) (w : Str) : (s.del w).ok := fun x m e => by
  unfold Stg.del at e
  split at e
  · cases e
  · exact h x m e
def value : Ex → Stg → Rs
  | .num n, _ => .is n
  | .nam w, s => match s w with
    | some n => .is n
    | none => .unset w
  | .two o a b, s => (value a s).bind fun x => (value b s).bind fun y => made o x y
  | .whn c a b, s => (value c s).bind fun x => if x ≠ 0 then value a s else value b s
  | .lett w a b, s => (value a s).bind fun x => value b (s.put w x)
/-! ### joining -/
def two1 (o : Op) (m n : Int) : Ex := match made o m n with
  | .is k => .num k
  | _ => .two o (.num m) (.num n)
def lessN (k : Int) : Ex → Ex
  | .num b => two1 .less k b
  | b => .two .less (.num k) b
def sumN : Ex → Int → Ex
  | .num m, n => two1 .sum m n
  | .two .sum b (.num m), n => if n = 0 then .two .sum b (.num m) else if ((0 < m ∧ 0 < n) ∨ (m < 0 ∧ n < 0)) ∧ NumOk (m + n) then sumN b (m + n) else .two .sum (.two .sum b (.num m)) (.num n)
  | .two .less (.num m) b, n => if n = 0 then .two .less (.num m) b else if ((0 ≤ m ∧ 0 < n) ∨ (m ≤ 0 ∧ n < 0)) ∧ NumOk (m + n) then lessN (m + n) b else .two .sum (.two .less (.num m) b) (.num n)
  | t, n => if n = 0 then t else .two .sum t (.num n)
def timesN : Ex → Int → Ex
  | .num m, n => two1 .times m n
  | .two .times b (.num m), n => if n = 1 then .two .times b (.num m) else if n ≠ 0 ∧ NumOk (m * n) then timesN b (m * n) else .two .times (.two .times b (.num m)) (.num n)
  | t, n => if n = 1 then t else .two .times t (.num n)
def partN : Ex → Int → Ex
  | .num m, n => two1 .part m n
  | .two .part b (.num m), n => if n = 1 then .two .part b (.num m) else if 0 < m ∧ 0 < n ∧ NumOk (m * n) then partN b (m * n) else .two .part (.two .part b (.num m)) (.num n)
  | t, n => if n = 1 then t else .two .part t (.num n)
def restN : Ex → Int → Ex
  | .num m, n => two1 .rest m n
  | .two .rest b (.num m), n => if 0 < m ∧ 0 < n ∧ m ≤ n then .two .rest b (.num m) else if 0 < m ∧ 0 < n ∧ m.fmod n = 0 then restN b n else .two .rest (.two .rest b (.num m)) (.num n)
  | t, n => .two .rest t (.num n)
/-- a number behind -/
def joinN : Op → Ex → Int → Ex
  | .sum, t, n => sumN t n
  | .less, t, n => sumN t (-n)
  | .times, t, n => timesN t n
  | .part, t, n => partN t n
  | .rest, t, n => restN t n
  | o, t, n => .two o t (.num n)
def swaps : Op → Bool
  | .sum => true
  | .times => true
  | .same => true
  | _ => false
def join (o : Op) (a b : Ex) : Ex := match a, b with
  | .num m, .num n => two1 o m n
  | .num m, b => if swaps o = true then joinN o b m else .two o (.num m) b
  | a, .num n => joinN o a n
  | a, b => .two o a b
def choose : Ex → Ex → Ex → Ex
  | .num n, a, b => if n ≠ 0 then a else b
  | .two .same d (.num 0), a, b => choose d b a
  | c, a, b => .whn c a b
def fold : Ex → Stg → Ex
  | .num n, _ => .num n
  | .nam w, k => match k w with
    | some n => .num n
    | none => .nam w
  | .two o a b, k => join o (fold a k) (fold b k)
  | .whn c a b, k => choose (fold c k) (fold a k) (fold b k)
  | .lett w a b, k => match fold a k with
    | .num n => fold b (k.put w n)
    | f => .lett w f (fold b (k.del w))
/-! ### values are numbers -/
theorem made_ok {o : Op} {a b k : Int} (h : made o a b = .is k) : NumOk k := by
  unfold made at h
  split at h
  · cases h
  · split at h
    · rename_i h1
      cases h
      exact h1
    · cases h
theorem Rs.bind_is {r : Rs} {f : Int → Rs} {k : Int} (h : r.bind f = .is k) : ∃ x, r = .is x ∧ f x = .is k := by
  cases r with
  | is n => exact ⟨n, rfl, h⟩
  | unset w => cases h
  | nought => cases h
  | great => cases h
theorem value_ok : ∀ (e : Ex) {s : Stg} {k : Int}, e.ok → s.ok → value e s = .is k → NumOk k
  | .num n, s, k, ok, _, h => by
    cases h
    exact ok
  | .nam w, s, k, ok, hs, h => by
    unfold value at h
    split at h
    · rename_i n hn
      cases h
      exact hs w _ hn
    · cases h
  | .two o a b, s, k, ok, hs, h => by
    obtain ⟨x, _, h2⟩ := Rs.bind_is h
    obtain ⟨y, _, h3⟩ := Rs.bind_is h2
    exact made_ok h3
  | .whn c a b, s, k, ok, hs, h => by
    obtain ⟨x, _, h2⟩ := Rs.bind_is h
    by_cases hx : x ≠ 0
    · have h3 : value a s = .is k := by rw [← h2]; exact (if_pos hx).symm
      exact value_ok a ok.2.1 hs h3
    · have h3 : value b s = .is k := by rw [← h2]; exact (if_neg hx).symm
      exact value_ok b ok.2.2 hs h3
  | .lett w a b, s, k, ok, hs, h => by
    obtain ⟨x, h1, h2⟩ := Rs.bind_is h
    exact value_ok b ok.2.2 (hs.put w (value_ok a ok.2.1 hs h1)) h2
/-! ### joining keeps the value -/
theorem two1_value (o : Op) (m n : Int) (s : Stg) : value (two1 o m n) s = made o m n := by
  unfold two1
  cases h : made o m n with
  | is k => rfl
  | unset w => exact h
  | nought => exact h
  | great => exact h
/-- the value of a word over a part and a number -/
theorem value_twoN (o : Op) (t : Ex) (n : Int) (s : Stg) : value (.two o t (.num n)) s = (value t s).bind fun x => made o x n := rfl
theorem bind_congr {r : Rs} {f g : Int → Rs} (h : ∀ x, r = .is x → f x = g x) : r.bind f = r.bind g := by
  cases r with
  | is n => exact h n rfl
  | unset w => rfl
  | nought => rfl
  | great => rfl
theorem bind_bind (r : Rs) (f g : Int → Rs) : (r.bind f).bind g = r.bind fun x => (f x).bind g := by cases r <;> rfl
theorem bind_self {r : Rs} {f : Int → Rs} (h : ∀ x, r = .is x → f x = .is x) : r.bind f = r := by
  cases r with
  | is n => exact h n rfl
  | unset w => rfl
  | nought => rfl
  | great => rfl
theorem made_sum (a b : Int) : made .sum a b = if NumOk (a + b) then .is (a + b) else .great := rfl
theorem made_less (a b : Int) : made .less a b = if NumOk (a - b) then .is (a - b) else .great := rfl
theorem made_times (a b : Int) : made .times a b = if NumOk (a * b) then .is (a * b) else .great := rfl
/-! ### each layer -/
theorem sum_layer {m n x : Int} (hx : NumOk x) (hs : (0 < m ∧ 0 < n) ∨ (m < 0 ∧ n < 0)) : ((made .sum x m).bind fun y => made .sum y n) = made .sum x (m + n) := by
  rw [made_sum, made_sum]
  by_cases h : NumOk (x + m)
  · rw [if_pos h]
    show made .sum (x + m) n = _
    rw [made_sum]
    have e : x + m + n = x + (m + n) := by omega
    rw [e]
  · rw [if_neg h]
    show Rs.great = _
    rw [if_neg (fun z => by unfold NumOk at hx h z; omega)]
theorem less_layer {m n x : Int} (hx : NumOk x) (hs : (0 ≤ m ∧ 0 < n) ∨ (m ≤ 0 ∧ n < 0)) : ((made .less m x).bind fun y => made .sum y n) = made .less (m + n) x := by
  rw [made_less, made_less]
  by_cases h : NumOk (m - x)
  · rw [if_pos h]
    show made .sum (m - x) n = _
    rw [made_sum]
    have e : m - x + n = m + n - x := by omega
    rw [e]
  · rw [if_neg h]
    show Rs.great = _
    rw [if_neg (fun z => by unfold NumOk at hx h z; omega)]
theorem natAbs_ok (n : Int) : NumOk n ↔ n.natAbs ≤ 1000000000 := by
  unfold NumOk
  omega
theorem times_layer {m n x : Int} (hn : n ≠ 0) : ((made .times x m).bind fun y => made .times y n) = made .times x (m * n) := by
  rw [made_times, made_times]
  by_cases h : NumOk (x * m)
  · rw [if_pos h]
    show made .times (x * m) n = _
    rw [made_times, Int.mul_assoc]
  · rw [if_neg h]
    show Rs.great = _
    have h2 : ¬ NumOk (x * (m * n)) := by
      rw [natAbs_ok] at h ⊢
      rw [← Int.mul_assoc, Int.natAbs_mul]
      have h1 : 1 ≤ n.natAbs := by omega
      have h3 : (x * m).natAbs * 1 ≤ (x * m).natAbs * n.natAbs := Nat.mul_le_mul_left _ h1
      omega
    rw [if_neg h2]
theorem fdiv_pos (a : Int) {b : Int} (h : 0 < b) : a.fdiv b = a / b := Int.fdiv_eq_ediv_of_nonneg a (Int.le_of_lt h)
theorem made_part {a b : Int} (h : 0 < b) : made .part a b = if NumOk (a / b) then .is (a / b) else .great := by
  unfold made
  rw [if_neg (by omega)]
  show (if NumOk (a.fdiv b) then Rs.is (a.fdiv b) else .great) = _
  rw [fdiv_pos a h]
theorem made_rest {a b : Int} (h : 0 < b) : made .rest a b = if NumOk (a % b) then .is (a % b) else .great := by
  unfold made
  rw [if_neg (by omega)]
  show (if NumOk (a - b * a.fdiv b) then Rs.is (a - b * a.fdiv b) else .great) = _
  rw [fdiv_pos a h]
  have e : a - b * (a / b) = a % b := by
    have := Int.emod_add_mul_ediv a b
    omega
  rw [e]
theorem div_ok {x b : Int} (hx : NumOk x) (h : 0 < b) : NumOk (x / b) := by
  have h1 := Int.natAbs_ediv_le_natAbs x b
  rw [natAbs_ok] at hx ⊢
  omega
theorem part_layer {m n x : Int} (hx : NumOk x) (hm : 0 < m) (hn : 0 < n) : ((made .part x m).bind fun y => made .part y n) = made .part x (m * n) := by
  rw [made_part hm, if_pos (div_ok hx hm), made_part (Int.mul_pos hm hn)]
  show made .part (x / m) n = _
  rw [made_part hn, Int.ediv_ediv_of_nonneg (Int.le_of_lt hm)]
theorem mod_ok {x b : Int} (hb : NumOk b) (h : 0 < b) : NumOk (x % b) := by
  have h1 := Int.emod_nonneg x (show b ≠ 0 by omega)
  have h2 := Int.emod_lt_of_pos x h
  unfold NumOk at *
  omega
theorem rest_layer1 {m n x : Int} (ho : NumOk m) (hn : NumOk n) (hm : 0 < m) (hmn : m ≤ n) : ((made .rest x m).bind fun y => made .rest y n) = made .rest x m := by
  rw [made_rest hm, if_pos (mod_ok ho hm)]
  show made .rest (x % m) n = _
  rw [made_rest (by omega)]
  have h1 := Int.emod_nonneg x (show m ≠ 0 by omega)
  have h2 := Int.emod_lt_of_pos x hm
  rw [Int.emod_eq_of_lt h1 (by omega), if_pos (mod_ok ho hm)]
theorem rest_layer2 {m n x : Int} (ho : NumOk m) (hm : 0 < m) (hn : 0 < n) (hd : m.fmod n = 0) : ((made .rest x m).bind fun y => made .rest y n) = made .rest x n := by
  rw [made_rest hm, if_pos (mod_ok ho hm)]
  show made .rest (x % m) n = _
  rw [made_rest hn, made_rest hn]
  have hd' : n ∣ m := by
    rw [Int.fmod_eq_emod_of_nonneg m (Int.le_of_lt hn)] at hd
    exact Int.dvd_of_emod_eq_zero hd
  rw [Int.emod_emod_of_dvd x hd']
/-! ### joining with a number -/
theorem sum0 {x : Int} (h : NumOk x) : made .sum x 0 = .is x := by
  rw [made_sum, Int.add_zero, if_pos h]
theorem lessN_value (k : Int) (b : Ex) (s : Stg) : value (lessN k b) s = value (.two .less (.num k) b) s := by
  cases b with
  | num m => exact two1_value .less k m s
  | _ => rfl
theorem NumOk.neg {n : Int} (h : NumOk n) : NumOk (-n) := by
  unfold NumOk at *
  omega
theorem sumN_value : ∀ (t : Ex) (n : Int) {s : Stg}, t.ok → s.ok → value (sumN t n) s = (value t s).bind fun x => made .sum x n := by
  intro t n
  fun_induction sumN t n with
  | case1 m n => intro s _ _; exact two1_value .sum m n s
  | case2 b m =>
    intro s ok hs
    refine (bind_self fun x hx => ?_).symm
    exact sum0 (value_ok _ ok hs hx)
  | case3 b m n h0 hc ih =>
    intro s ok hs
    rw [ih ok.1 hs, value_twoN, bind_bind]
    exact bind_congr fun x hx => (sum_layer (value_ok b ok.1 hs hx) hc.1).symm
  | case4 b m n h0 hc => intro s ok hs; rfl
  | case5 m b =>
    intro s ok hs
    refine (bind_self fun x hx => ?_).symm
    exact sum0 (value_ok _ ok hs hx)
  | case6 m b n h0 hc =>
    intro s ok hs
    rw [lessN_value]
    show ((Rs.is (m + n)).bind fun x => (value b s).bind fun y => made .less x y) = (((Rs.is m).bind fun x => (value b s).bind fun y => made .less x y)).bind fun x => made .sum x n
    show (value b s).bind (fun y => made .less (m + n) y) = ((value b s).bind fun y => made .less m y).bind fun x => made .sum x n
    rw [bind_bind]
    exact bind_congr fun x hx => (less_layer (value_ok b ok.2 hs hx) hc.1).symm
  | case7 m b n h0 hc => intro s ok hs; rfl
  | case8 t h1 h2 h3 =>
    intro s ok hs
    refine (bind_self fun x hx => ?_).symm
    exact sum0 (value_ok _ ok hs hx)
  | case9 t n h1 h2 h3 h0 => intro s ok hs; rfl
theorem times1 {x : Int} (h : NumOk x) : made .times x 1 = .is x := by
  rw [made_times, Int.mul_one, if_pos h]
theorem part1 {x : Int} (h : NumOk x) : made .part x 1 = .is x := by
  rw [made_part (by decide), Int.ediv_one, if_pos h]
theorem timesN_value : ∀ (t : Ex) (n : Int) {s : Stg}, t.ok → s.ok → value (timesN t n) s = (value t s).bind fun x => made .times x n := by
  intro t n
  fun_induction timesN t n with
  | case1 m n => intro s _ _; exact two1_value .times m n s
  | case2 b m =>
    intro s ok hs
    refine (bind_self fun x hx => ?_).symm
    exact times1 (value_ok _ ok hs hx)
  | case3 b m n h0 hc ih =>
    intro s ok hs
    rw [ih ok.1 hs, value_twoN, bind_bind]
    exact bind_congr fun x hx => (times_layer hc.1).symm
  | case4 b m n h0 hc => intro s ok hs; rfl
  | case5 t h1 h2 =>
    intro s ok hs
    refine (bind_self fun x hx => ?_).symm
    exact times1 (value_ok _ ok hs hx)
  | case6 t n h1 h2 h0 => intro s ok hs; rfl
theorem partN_value : ∀ (t : Ex) (n : Int) {s : Stg}, t.ok → s.ok → value (partN t n) s = (value t s).bind fun x => made .part x n := by
  intro t n
  fun_induction partN t n with
  | case1 m n => intro s _ _; exact two1_value .part m n s
  | case2 b m =>
    intro s ok hs
    refine (bind_self fun x hx => ?_).symm
    exact part1 (value_ok _ ok hs hx)
  | case3 b m n h0 hc ih =>
    intro s ok hs
    rw [ih ok.1 hs, value_twoN, bind_bind]
    exact bind_congr fun x hx => (part_layer (value_ok b ok.1 hs hx) hc.1 hc.2.1).symm
  | case4 b m n h0 hc => intro s ok hs; rfl
  | case5 t h1 h2 =>
    intro s ok hs
    refine (bind_self fun x hx => ?_).symm
    exact part1 (value_ok _ ok hs hx)
  | case6 t n h1 h2 h0 => intro s ok hs; rfl
theorem restN_value : ∀ (t : Ex) (n : Int) {s : Stg}, t.ok → NumOk n → s.ok → value (restN t n) s = (value t s).bind fun x => made .rest x n := by
  intro t n
  fun_induction restN t n with
  | case1 m n => intro s _ _ _; exact two1_value .rest m n s
  | case2 b m n hc =>
    intro s ok hn hs
    rw [value_twoN, bind_bind]
    exact bind_congr fun x hx => (rest_layer1 ok.2 hn hc.1 hc.2.2).symm
  | case3 b m n h1 hc ih =>
    intro s ok hn hs
    rw [ih ok.1 hn hs, value_twoN, bind_bind]
    exact bind_congr fun x hx => (rest_layer2 ok.2 hc.1 hc.2.1 hc.2.2).symm
  | case4 b m n h1 hc => intro s ok hn hs; rfl
  | case5 t n h1 h2 => intro s ok hn hs; rfl
theorem joinN_value (o : Op) (t : Ex) (n : Int) {s : Stg} (ok : t.ok) (hn : NumOk n) (hs : s.ok) : value (joinN o t n) s = (value t s).bind fun x => made o x n := by
  cases o with
  | sum => exact sumN_value t n ok hs
  | less =>
    rw [show joinN .less t n = sumN t (-n) from rfl, sumN_value t (-n) ok hs]
    refine bind_congr fun x hx => ?_
    rw [made_sum, made_less, show x + -n = x - n from rfl]
  | times => exact timesN_value t n ok hs
  | part => exact partN_value t n ok hs
  | rest => exact restN_value t n ok hn hs
  | below => rfl
  | same => rfl
theorem made_same (a b : Int) : made .same a b = .is (if a = b then 1 else 0) := by
  show (if isDiv .same = true ∧ b = 0 then Rs.nought else if NumOk (if a = b then 1 else 0) then .is (if a = b then 1 else 0) else .great) = _
  rw [if_neg (fun z => by cases z.1), if_pos (by split <;> decide)]
theorem made_below (a b : Int) : made .below a b = .is (if a < b then 1 else 0) := by
  show (if isDiv .below = true ∧ b = 0 then Rs.nought else if NumOk (if a < b then 1 else 0) then .is (if a < b then 1 else 0) else .great) = _
  rw [if_neg (fun z => by cases z.1), if_pos (by split <;> decide)]
theorem made_swap {o : Op} (h : swaps o = true) (a b : Int) : made o a b = made o b a := by
  cases o with
  | sum => rw [made_sum, made_sum, Int.add_comm]
  | times => rw [made_times, made_times, Int.mul_comm]
  | same =>
    rw [made_same, made_same]
    by_cases e : a = b
    · rw [if_pos e, if_pos e.symm]
    · rw [if_neg e, if_neg (fun z => e z.symm)]
  | _ => cases h
theorem join_value (o : Op) (a b : Ex) {s : Stg} (oa : a.ok) (ob : b.ok) (hs : s.ok) : value (join o a b) s = (value a s).bind fun x => (value b s).bind fun y => made o x y := by
  by_cases ha : ∃ m, a = .num m
  · obtain ⟨m, rfl⟩ := ha
    by_cases hb : ∃ n, b = .num n
    · obtain ⟨n, rfl⟩ := hb
      exact two1_value o _ _ s
    · have e : join o (.num m) b = if swaps o = true then joinN o b m else .two o (.num m) b := by
        cases b with
        | num n => exact absurd ⟨n, rfl⟩ hb
        | _ => rfl
      rw [e]
      split
      · rename_i hw
        rw [joinN_value o b m ob oa hs]
        exact bind_congr fun x _ => made_swap hw x m
      · rfl
  · by_cases hb : ∃ n, b = .num n
    · obtain ⟨n, rfl⟩ := hb
      have e : join o a (.num n) = joinN o a n := by
        cases a with
        | num n => exact absurd ⟨n, rfl⟩ ha
        | _ => rfl
      rw [e]
      exact joinN_value o a n oa ob hs
    · have e : join o a b = .two o a b := by
        cases a with
        | num n => exact absurd ⟨n, rfl⟩ ha
        | _ => cases b with
          | num n => exact absurd ⟨n, rfl⟩ hb
          | _ => rfl
      rw [e]
      rfl
theorem choose_value : ∀ (c a b : Ex) {s : Stg}, value (choose c a b) s = (value c s).bind fun x => if x ≠ 0 then value a s else value b s := by
  intro c a b
  fun_induction choose c a b with
  | case1 n a b hn => intro s; exact (if_pos hn).symm
  | case2 n a b hn => intro s; exact (if_neg hn).symm
  | case3 d a b ih =>
    intro s
    rw [ih]
    show _ = ((value d s).bind fun x => (Rs.is 0).bind fun y => made .same x y).bind _
    rw [bind_bind]
    refine bind_congr fun x _ => ?_
    show _ = (made .same x 0).bind _
    by_cases hx : x = 0
    · subst hx
      rfl
    · have e : made .same x 0 = .is 0 := by rw [made_same, if_neg hx]
      rw [e, if_pos hx]
      rfl
  | case4 c a b h1 h2 => intro s; rfl
def free : Ex → Str → Prop
  | .num _, _ => False
  | .nam w, x => x = w
  | .two _ a b, x => free a x ∨ free b x
  | .whn c a b, x => free c x ∨ free a x ∨ free b x
  | .lett w a b, x => free a x ∨ (free b x ∧ x ≠ w)
theorem mem_lneeds_free : ∀ (e : Ex) (x : Str), x ∈ lneeds e ↔ free e x
  | .num _, x => by simp [lneeds, free]
  | .nam w, x => by simp [lneeds, free]
  | .two _ a b, x => by
    show x ∈ addAll (addAll [] (lneeds a)) (lneeds b) ↔ free a x ∨ free b x
    rw [mem_addAll, mem_addAll, mem_lneeds_free a, mem_lneeds_free b]
    simp
  | .whn c a b, x => by
    show x ∈ addAll (addAll (addAll [] (lneeds c)) (lneeds a)) (lneeds b) ↔ free c x ∨ free a x ∨ free b x
    rw [mem_addAll, mem_addAll, mem_addAll, mem_lneeds_free c, mem_lneeds_free a, mem_lneeds_free b]
    simp [or_assoc]
  | .lett w a b, x => by
    show x ∈ addAll (addAll [] (lneeds a)) ((lneeds b).filter fun x => !decide (x = w)) ↔ free a x ∨ (free b x ∧ x ≠ w)
    rw [mem_addAll, mem_addAll, List.mem_filter, mem_lneeds_free a, mem_lneeds_free b]
    simp
/-- what a joining with a number may make of t: no other names, a little greater at most -/
structure Mk1 (t r : Ex) : Prop where
  ok : t.ok → r.ok
  fr : ∀ x, free r x → free t x
  sz : r.size ≤ t.size + 2
theorem Mk1.self (t : Ex) : Mk1 t t := ⟨id, fun _ => id, Nat.le_add_right _ _⟩
theorem Mk1.word (o : Op) (t : Ex) {n : Int} (hn : NumOk n) : Mk1 t (.two o t (.num n)) := ⟨fun h => ⟨h, hn⟩, fun x h => h.elim id False.elim, Nat.le_refl _⟩
theorem two1_mk {o : Op} {m n : Int} (hn : NumOk n) : Mk1 (.num m) (two1 o m n) := by
  unfold two1
  cases h : made o m n with
  | is k => exact ⟨fun _ => made_ok h, fun _ z => z, Nat.le_add_right _ _⟩
  | unset w => exact Mk1.word o _ hn
  | nought => exact Mk1.word o _ hn
  | great => exact Mk1.word o _ hn
theorem Mk1.under {o : Op} {b r : Ex} {m : Int} (h : Mk1 b r) : Mk1 (.two o b (.num m)) r := ⟨fun z => h.ok z.1, fun x z => .inl (h.fr x z), by
  have := h.sz
  show r.size ≤ b.size + 1 + 1 + 2
  omega⟩
theorem lessN_mk {k m : Int} {b : Ex} (hk : NumOk k) : Mk1 (.two .less (.num m) b) (lessN k b) := by
  have gen : Mk1 (.two .less (.num m) b) (.two .less (.num k) b) := ⟨fun z => ⟨hk, z.2⟩, fun x z => z.elim False.elim .inr, by
    show 1 + b.size + 1 ≤ 1 + b.size + 1 + 2
    omega⟩
  cases b with
  | num n =>
    show Mk1 _ (two1 .less k n)
    unfold two1
    cases h : made .less k n with
    | is k => exact ⟨fun _ => made_ok h, fun _ z => z.elim, Nat.le_add_left _ _⟩
    | unset w => exact gen
    | nought => exact gen
    | great => exact gen
  | _ => exact gen
theorem sumN_mk : ∀ (t : Ex) (n : Int), NumOk n → Mk1 t (sumN t n) := by
  intro t n
  fun_induction sumN t n with
  | case1 m n => intro hn; exact two1_mk hn
  | case2 b m => intro _; exact Mk1.self _
  | case3 b m n h0 hc ih => intro _; exact (ih hc.2).under
  | case4 b m n h0 hc => intro hn; exact Mk1.word _ _ hn
  | case5 m b => intro _; exact Mk1.self _
  | case6 m b n h0 hc => intro _; exact lessN_mk hc.2
  | case7 m b n h0 hc => intro hn; exact Mk1.word _ _ hn
  | case8 t h1 h2 h3 => intro _; exact Mk1.self _
  | case9 t n h1 h2 h3 h0 => intro hn; exact Mk1.word _ _ hn
theorem timesN_mk : ∀ (t : Ex) (n : Int), NumOk n → Mk1 t (timesN t n) := by
  intro t n
  fun_induction timesN t n with
  | case1 m n => intro hn; exact two1_mk hn
  | case2 b m => intro _; exact Mk1.self _
  | case3 b m n h0 hc ih => intro _; exact (ih hc.2).under
  | case4 b m n h0 hc => intro hn; exact Mk1.word _ _ hn
  | case5 t h1 h2 => intro _; exact Mk1.self _
  | case6 t n h1 h2 h0 => intro hn; exact Mk1.word _ _ hn
theorem partN_mk : ∀ (t : Ex) (n : Int), NumOk n → Mk1 t (partN t n) := by
  intro t n
  fun_induction partN t n with
  | case1 m n => intro hn; exact two1_mk hn
  | case2 b m => intro _; exact Mk1.self _
  | case3 b m n h0 hc ih => intro _; exact (ih hc.2.2).under
  | case4 b m n h0 hc => intro hn; exact Mk1.word _ _ hn
  | case5 t h1 h2 => intro _; exact Mk1.self _
  | case6 t n h1 h2 h0 => intro hn; exact Mk1.word _ _ hn
theorem restN_mk : ∀ (t : Ex) (n : Int), NumOk n → Mk1 t (restN t n) := by
  intro t n
  fun_induction restN t n with
  | case1 m n => intro hn; exact two1_mk hn
  | case2 b m n hc => intro _; exact Mk1.self _
  | case3 b m n h0 hc ih => intro hn; exact (ih hn).under
  | case4 b m n h0 hc => intro hn; exact Mk1.word _ _ hn
  | case5 t n h1 h2 => intro hn; exact Mk1.word _ _ hn
theorem joinN_mk (o : Op) (t : Ex) {n : Int} (hn : NumOk n) : Mk1 t (joinN o t n) := by
  cases o with
  | sum => exact sumN_mk t n hn
  | less => exact sumN_mk t (-n) hn.neg
  | times => exact timesN_mk t n hn
  | part => exact partN_mk t n hn
  | rest => exact restN_mk t n hn
  | below => exact Mk1.word _ _ hn
  | same => exact Mk1.word _ _ hn
/-- the four ways of a joining -/
theorem join_nn (o : Op) (m n : Int) : join o (.num m) (.num n) = two1 o m n := rfl
theorem join_nb (o : Op) (m : Int) {b : Ex} (hb : ∀ n, b ≠ .num n) : join o (.num m) b = if swaps o = true then joinN o b m else .two o (.num m) b := by
  cases b with
  | num n => exact absurd rfl (hb n)
  | _ => rfl
theorem join_an (o : Op) {a : Ex} (n : Int) (ha : ∀ m, a ≠ .num m) : join o a (.num n) = joinN o a n := by
  cases a with
  | num n => exact absurd rfl (ha n)
  | _ => rfl
theorem join_ab (o : Op) {a b : Ex} (ha : ∀ m, a ≠ .num m) (hb : ∀ n, b ≠ .num n) : join o a b = .two o a b := by
  cases a with
  | num n => exact absurd rfl (ha n)
  | _ => cases b with
    | num n => exact absurd rfl (hb n)
    | _ => rfl
theorem isnum (e : Ex) : (∃ n, e = .num n) ∨ ∀ n, e ≠ .num n := by
  cases e with
  | num n => exact .inl ⟨n, rfl⟩
  | _ => exact .inr fun n z => nomatch z
structure Mk2 (a b r : Ex) : Prop where
  ok : a.ok → b.ok → r.ok
  fr : ∀ x, free r x → free a x ∨ free b x
  sz : r.size ≤ a.size + b.size + 1
theorem join_mk (o : Op) {a b : Ex} (oa : a.ok) (ob : b.ok) : Mk2 a b (join o a b) := by
  rcases isnum a with ⟨m, rfl⟩ | ha
  · rcases isnum b with ⟨n, rfl⟩ | hb
    · rw [join_nn]
      have h := two1_mk (o := o) (m := m) (n := n) ob
      exact ⟨fun z _ => h.ok z, fun x z => .inl (h.fr x z), h.sz⟩
    · rw [join_nb o m hb]
      split
      · have h := joinN_mk o b (n := m) oa
        refine ⟨fun _ z => h.ok z, fun x z => .inr (h.fr x z), ?_⟩
        have := h.sz
        show _ ≤ 1 + b.size + 1
        omega
      · exact ⟨fun x y => ⟨x, y⟩, fun x z => z, Nat.le_refl _⟩
  · rcases isnum b with ⟨n, rfl⟩ | hb
    · rw [join_an o n ha]
      have h := joinN_mk o a (n := n) ob
      exact ⟨fun z _ => h.ok z, fun x z => .inl (h.fr x z), h.sz⟩
    · rw [join_ab o ha hb]
      exact ⟨fun x y => ⟨x, y⟩, fun x z => z, Nat.le_refl _⟩
structure Mk3 (c a b r : Ex) : Prop where
  ok : c.ok → a.ok → b.ok → r.ok
  fr : ∀ x, free r x → free c x ∨ free a x ∨ free b x
  sz : r.size ≤ c.size + a.size + b.size + 1
theorem choose_mk : ∀ (c a b : Ex), Mk3 c a b (choose c a b) := by
  intro c a b
  fun_induction choose c a b with
  | case1 n a b hn => exact ⟨fun _ h _ => h, fun x h => .inr (.inl h), by show a.size ≤ 1 + a.size + b.size + 1; omega⟩
  | case2 n a b hn => exact ⟨fun _ _ h => h, fun x h => .inr (.inr h), by show b.size ≤ 1 + a.size + b.size + 1; omega⟩
  | case3 d a b ih =>
    refine ⟨fun hc h1 h2 => ih.ok hc.1 h2 h1, fun x h => ?_, ?_⟩
    · rcases ih.fr x h with z | z | z
      · exact .inl (.inl z)
      · exact .inr (.inr z)
      · exact .inr (.inl z)
    · have := ih.sz
      show _ ≤ (d.size + 1 + 1) + a.size + b.size + 1
      omega
  | case4 c a b h1 h2 => exact ⟨fun h1 h2 h3 => ⟨h1, h2, h3⟩, fun x h => h, Nat.le_refl _⟩
theorem fold_lett_num {w : Str} {a b : Ex} {k : Stg} {n : Int} (h : fold a k = .num n) : fold (.lett w a b) k = fold b (k.put w n) := by
  show (match fold a k with
    | .num n => fold b (k.put w n)
    | f => .lett w f (fold b (k.del w))) = _
  rw [h]
theorem fold_lett_not {w : Str} {a b : Ex} {k : Stg} (h : ∀ n, fold a k ≠ .num n) : fold (.lett w a b) k = .lett w (fold a k) (fold b (k.del w)) := by
  show (match fold a k with
    | .num n => fold b (k.put w n)
    | f => .lett w f (fold b (k.del w))) = _
  cases e : fold a k with
  | num n => exact absurd e (h n)
  | _ => rfl
theorem fold_ok : ∀ (e : Ex) (k : Stg), e.ok → k.ok → (fold e k).ok
  | .num n, _, ok, _ => ok
  | .nam w, k, ok, hk => by
    unfold fold
    split
    · rename_i n h
      exact hk w n h
    · exact ok
  | .two o a b, k, ok, hk => by
    have h1 := fold_ok a k ok.1 hk
    have h2 := fold_ok b k ok.2 hk
    exact (join_mk o h1 h2).ok h1 h2
  | .whn c a b, k, ok, hk => (choose_mk _ _ _).ok (fold_ok c k ok.1 hk) (fold_ok a k ok.2.1 hk) (fold_ok b k ok.2.2 hk)
  | .lett w a b, k, ok, hk => by
    have h1 := fold_ok a k ok.2.1 hk
    rcases isnum (fold a k) with ⟨n, h⟩ | h
    · rw [fold_lett_num h]
      rw [h] at h1
      exact fold_ok b _ ok.2.2 (hk.put w h1)
    · rw [fold_lett_not h]
      exact ⟨ok.1, h1, fold_ok b _ ok.2.2 (hk.del w)⟩
theorem fold_size : ∀ (e : Ex) (k : Stg), e.ok → k.ok → (fold e k).size ≤ e.size
  | .num n, _, ok, _ => Nat.le_refl _
  | .nam w, k, ok, hk => by
    unfold fold
    split <;> exact Nat.le_refl _
  | .two o a b, k, ok, hk => by
    have h1 := fold_size a k ok.1 hk
    have h2 := fold_size b k ok.2 hk
    have h3 := (join_mk o (fold_ok a k ok.1 hk) (fold_ok b k ok.2 hk)).sz
    show (join o (fold a k) (fold b k)).size ≤ a.size + b.size + 1
    omega
  | .whn c a b, k, ok, hk => by
    have h0 := fold_size c k ok.1 hk
    have h1 := fold_size a k ok.2.1 hk
    have h2 := fold_size b k ok.2.2 hk
    have h3 := (choose_mk (fold c k) (fold a k) (fold b k)).sz
    show (choose (fold c k) (fold a k) (fold b k)).size ≤ c.size + a.size + b.size + 1
    omega
  | .lett w a b, k, ok, hk => by
    have h1 := fold_size a k ok.2.1 hk
    have o1 := fold_ok a k ok.2.1 hk
    rcases isnum (fold a k) with ⟨n, h⟩ | h
    · rw [fold_lett_num h]
      rw [h] at o1
      have h2 := fold_size b (k.put w n) ok.2.2 (hk.put w o1)
      show _ ≤ a.size + b.size + 1
      omega
    · rw [fold_lett_not h]
      have h2 := fold_size b (k.del w) ok.2.2 (hk.del w)
      show (fold a k).size + (fold b (k.del w)).size + 1 ≤ a.size + b.size + 1
      omega
theorem fold_free : ∀ (e : Ex) (k : Stg), e.ok → k.ok → ∀ x, free (fold e k) x → free e x ∧ k x = none
  | .num n, _, _, _, x, h => h.elim
  | .nam w, k, ok, hk, x, h => by
    unfold fold at h
    split at h
    · exact h.elim
    · rename_i h1
      have e : x = w := h
      subst e
      exact ⟨rfl, h1⟩
  | .two o a b, k, ok, hk, x, h => by
    rcases (join_mk o (fold_ok a k ok.1 hk) (fold_ok b k ok.2 hk)).fr x h with z | z
    · have := fold_free a k ok.1 hk x z
      exact ⟨.inl this.1, this.2⟩
    · have := fold_free b k ok.2 hk x z
      exact ⟨.inr this.1, this.2⟩
  | .whn c a b, k, ok, hk, x, h => by
    rcases (choose_mk (fold c k) (fold a k) (fold b k)).fr x h with z | z | z
    · have := fold_free c k ok.1 hk x z
      exact ⟨.inl this.1, this.2⟩
    · have := fold_free a k ok.2.1 hk x z
      exact ⟨.inr (.inl this.1), this.2⟩
    · have := fold_free b k ok.2.2 hk x z
      exact ⟨.inr (.inr this.1), this.2⟩
  | .lett w a b, k, ok, hk, x, h => by
    have o1 := fold_ok a k ok.2.1 hk
    rcases isnum (fold a k) with ⟨n, hn⟩ | hn
    · rw [fold_lett_num hn] at h
      rw [hn] at o1
      have := fold_free b (k.put w n) ok.2.2 (hk.put w o1) x h
      have h2 := this.2
      unfold Stg.put at h2
      split at h2
      · cases h2
      · rename_i hw
        exact ⟨.inr ⟨this.1, hw⟩, h2⟩
    · rw [fold_lett_not hn] at h
      rcases h with z | ⟨z, hw⟩
      · have := fold_free a k ok.2.1 hk x z
        exact ⟨.inl this.1, this.2⟩
      · have := fold_free b (k.del w) ok.2.2 (hk.del w) x z
        have h2 := this.2
        unfold Stg.del at h2
        rw [if_neg hw] at h2
        exact ⟨.inr ⟨this.1, hw⟩, h2⟩
/-! ### the value hangs on the free names alone -/
theorem value_free : ∀ (e : Ex) {s t : Stg}, (∀ x, free e x → s x = t x) → value e s = value e t
  | .num _, _, _, _ => rfl
  | .nam w, s, t, h => by
    unfold value
    rw [h w rfl]
  | .two o a b, s, t, h => by
    show (value a s).bind _ = (value a t).bind _
    rw [value_free a fun x z => h x (.inl z), value_free b fun x z => h x (.inr z)]
  | .whn c a b, s, t, h => by
    show (value c s).bind _ = (value c t).bind _
    rw [value_free c fun x z => h x (.inl z), value_free a fun x z => h x (.inr (.inl z)), value_free b fun x z => h x (.inr (.inr z))]
  | .lett w a b, s, t, h => by
    show (value a s).bind _ = (value a t).bind _
    rw [value_free a fun x z => h x (.inl z)]
    refine bind_congr fun y _ => value_free b fun x z => ?_
    unfold Stg.put
    split
    · rfl
    · rename_i hw
      exact h x (.inr ⟨z, hw⟩)
def Stg.le (k s : Stg) : Prop := ∀ w n, k w = some n → s w = some n
/-- what is folded comes to the same -/
theorem fold_value : ∀ (e : Ex) (k s : Stg), e.ok → k.ok → s.ok → k.le s → value (fold e k) s = value e s
  | .num n, _, _, _, _, _, _ => rfl
  | .nam w, k, s, ok, hk, hs, hle => by
    unfold fold
    split
    · rename_i n h
      show Rs.is n = value (.nam w) s
      unfold value
      rw [hle w n h]
    · rfl
  | .two o a b, k, s, ok, hk, hs, hle => by
    show value (join o (fold a k) (fold b k)) s = _
    rw [join_value o _ _ (fold_ok a k ok.1 hk) (fold_ok b k ok.2 hk) hs, fold_value a k s ok.1 hk hs hle, fold_value b k s ok.2 hk hs hle]
    rfl
  | .whn c a b, k, s, ok, hk, hs, hle => by
    show value (choose (fold c k) (fold a k) (fold b k)) s = _
    rw [choose_value, fold_value c k s ok.1 hk hs hle, fold_value a k s ok.2.1 hk hs hle, fold_value b k s ok.2.2 hk hs hle]
    rfl
  | .lett w a b, k, s, ok, hk, hs, hle => by
    have o1 := fold_ok a k ok.2.1 hk
    have v1 := fold_value a k s ok.2.1 hk hs hle
    rcases isnum (fold a k) with ⟨n, hn⟩ | hn
    · rw [fold_lett_num hn]
      rw [hn] at o1 v1
      have ev : value a s = .is n := v1.symm
      have hle2 : (k.put w n).le (s.put w n) := fun x m z => by
        unfold Stg.put at z ⊢
        split at z
        · rename_i hx
          rw [if_pos hx]
          exact z
        · rename_i hx
          rw [if_neg hx]
          exact hle x m z
      have v2 := fold_value b (k.put w n) (s.put w n) ok.2.2 (hk.put w o1) (hs.put w o1) hle2
      have v3 : value (fold b (k.put w n)) s = value (fold b (k.put w n)) (s.put w n) := value_free _ fun x z => by
        have h2 := (fold_free b (k.put w n) ok.2.2 (hk.put w o1) x z).2
        unfold Stg.put at h2 ⊢
        split at h2
        · cases h2
        · rename_i hw
          rw [if_neg hw]
      rw [v3, v2]
      show _ = (value a s).bind _
      rw [ev]
      rfl
    · rw [fold_lett_not hn]
      show (value (fold a k) s).bind _ = (value a s).bind _
      rw [v1]
      refine bind_congr fun y hy => ?_
      refine fold_value b (k.del w) (s.put w y) ok.2.2 (hk.del w) (hs.put w (value_ok a ok.2.1 hs hy)) fun x m z => ?_
      unfold Stg.del at z
      unfold Stg.put
      split at z
      · cases z
      · rename_i hx
        rw [if_neg hx]
        exact hle x m z
/-- short: no rule changes anything in it -/
def sh : Ex → Prop
  | .num _ => True
  | .nam _ => True
  | .two o a b => sh a ∧ sh b ∧ join o a b = .two o a b
  | .whn c a b => sh c ∧ sh a ∧ sh b ∧ choose c a b = .whn c a b
  | .lett _ a b => sh a ∧ sh b ∧ ∀ n, a ≠ .num n
theorem two1_sh (o : Op) (m n : Int) : sh (two1 o m n) := by
  cases h : made o m n with
  | is k =>
    have e : two1 o m n = .num k := by unfold two1; rw [h]
    rw [e]
    trivial
  | _ =>
    have e : two1 o m n = .two o (.num m) (.num n) := by unfold two1; rw [h]
    rw [e]
    exact ⟨trivial, trivial, e⟩
theorem word_sh {o : Op} {t : Ex} {n : Int} (ht : sh t) (h0 : ∀ m, t ≠ .num m) (h : joinN o t n = .two o t (.num n)) : sh (.two o t (.num n)) :=
  ⟨ht, trivial, by rw [join_an o n h0]; exact h⟩
theorem lessN_sh (k : Int) {b : Ex} (hb : sh b) : sh (lessN k b) := by
  rcases isnum b with ⟨n, rfl⟩ | h
  · exact two1_sh _ _ _
  · have e : lessN k b = .two .less (.num k) b := by
      cases b with
      | num n => exact absurd rfl (h n)
      | _ => rfl
    rw [e]
    refine ⟨trivial, hb, ?_⟩
    rw [join_nb _ _ h]
    rfl
theorem sumN_sh : ∀ (t : Ex) (n : Int), sh t → sh (sumN t n) := by
  intro t n
  fun_induction sumN t n with
  | case1 m n => intro _; exact two1_sh _ _ _
  | case2 b m => exact id
  | case3 b m n h0 hc ih => intro h; exact ih h.1
  | case4 b m n h0 hc =>
    intro h
    refine word_sh h (fun m z => nomatch z) ?_
    show sumN _ _ = _
    rw [sumN, if_neg h0, if_neg hc]
  | case5 m b => exact id
  | case6 m b n h0 hc => intro h; exact lessN_sh _ h.2.1
  | case7 m b n h0 hc =>
    intro h
    refine word_sh h (fun m z => nomatch z) ?_
    show sumN _ _ = _
    rw [sumN, if_neg h0, if_neg hc]
  | case8 t h1 h2 h3 => exact id
  | case9 t n h1 h2 h3 h0 =>
    intro h
    refine word_sh h (fun m z => h1 m z) ?_
    show sumN _ _ = _
    rw [sumN.eq_4 _ _ h1 h2 h3, if_neg h0]
theorem timesN_sh : ∀ (t : Ex) (n : Int), sh t → sh (timesN t n) := by
  intro t n
  fun_induction timesN t n with
  | case1 m n => intro _; exact two1_sh _ _ _
  | case2 b m => exact id
  | case3 b m n h0 hc ih => intro h; exact ih h.1
  | case4 b m n h0 hc =>
    intro h
    refine word_sh h (fun m z => nomatch z) ?_
    show timesN _ _ = _
    rw [timesN, if_neg h0, if_neg hc]
  | case5 t h1 h2 => exact id
  | case6 t n h1 h2 h0 =>
    intro h
    refine word_sh h (fun m z => h1 m z) ?_
    show timesN _ _ = _
    rw [timesN.eq_3 _ _ h1 h2, if_neg h0]
theorem partN_sh : ∀ (t : Ex) (n : Int), sh t → sh (partN t n) := by
  intro t n
  fun_induction partN t n with
  | case1 m n => intro _; exact two1_sh _ _ _
  | case2 b m => exact id
  | case3 b m n h0 hc ih => intro h; exact ih h.1
  | case4 b m n h0 hc =>
    intro h
    refine word_sh h (fun m z => nomatch z) ?_
    show partN _ _ = _
    rw [partN, if_neg h0, if_neg hc]
  | case5 t h1 h2 => exact id
  | case6 t n h1 h2 h0 =>
    intro h
    refine word_sh h (fun m z => h1 m z) ?_
    show partN _ _ = _
    rw [partN.eq_3 _ _ h1 h2, if_neg h0]
theorem restN_sh : ∀ (t : Ex) (n : Int), sh t → sh (restN t n) := by
  intro t n
  fun_induction restN t n with
  | case1 m n => intro _; exact two1_sh _ _ _
  | case2 b m n hc => exact id
  | case3 b m n h0 hc ih => intro h; exact ih h.1
  | case4 b m n h0 hc =>
    intro h
    refine word_sh h (fun m z => nomatch z) ?_
    show restN _ _ = _
    rw [restN, if_neg h0, if_neg hc]
  | case5 t n h1 h2 =>
    intro h
    refine word_sh h (fun m z => h1 m z) ?_
    show restN _ _ = _
    rw [restN.eq_3 _ _ h1 h2]
theorem joinN_sh (o : Op) (t : Ex) (n : Int) (h : sh t) (h0 : ∀ m, t ≠ .num m) : sh (joinN o t n) := by
  cases o with
  | sum => exact sumN_sh t n h
  | less => exact sumN_sh t (-n) h
  | times => exact timesN_sh t n h
  | part => exact partN_sh t n h
  | rest => exact restN_sh t n h
  | below => exact word_sh h h0 rfl
  | same => exact word_sh h h0 rfl
theorem join_sh (o : Op) {a b : Ex} (ha : sh a) (hb : sh b) : sh (join o a b) := by
  rcases isnum a with ⟨m, rfl⟩ | na
  · rcases isnum b with ⟨n, rfl⟩ | nb
    · exact two1_sh o m n
    · rw [join_nb o m nb]
      split
      · exact joinN_sh o b m hb nb
      · rename_i hw
        exact ⟨trivial, hb, by rw [join_nb o m nb, if_neg hw]⟩
  · rcases isnum b with ⟨n, rfl⟩ | nb
    · rw [join_an o n na]
      exact joinN_sh o a n ha na
    · rw [join_ab o na nb]
      exact ⟨ha, hb, join_ab o na nb⟩
theorem choose_sh : ∀ (c a b : Ex), sh c → sh a → sh b → sh (choose c a b) := by
  intro c a b
  fun_induction choose c a b with
  | case1 n a b hn => exact fun _ h _ => h
  | case2 n a b hn => exact fun _ _ h => h
  | case3 d a b ih => exact fun hc h1 h2 => ih hc.1 h2 h1
  | case4 c a b h1 h2 =>
    intro hc ha hb
    refine ⟨hc, ha, hb, ?_⟩
    rw [choose.eq_3 _ _ _ h1 h2]
theorem fold_sh : ∀ (e : Ex) (k : Stg), sh (fold e k)
  | .num n, _ => trivial
  | .nam w, k => by
    unfold fold
    split <;> trivial
  | .two o a b, k => join_sh o (fold_sh a k) (fold_sh b k)
  | .whn c a b, k => choose_sh _ _ _ (fold_sh c k) (fold_sh a k) (fold_sh b k)
  | .lett w a b, k => by
    rcases isnum (fold a k) with ⟨n, h⟩ | h
    · rw [fold_lett_num h]
      exact fold_sh b _
    · rw [fold_lett_not h]
      exact ⟨fold_sh a k, fold_sh b _, h⟩
/-- what is short, folded where none of its names is known, is itself -/
theorem fold_still : ∀ (f : Ex) (k : Stg), sh f → (∀ x, free f x → k x = none) → fold f k = f
  | .num n, _, _, _ => rfl
  | .nam w, k, _, h => by
    unfold fold
    rw [h w rfl]
  | .two o a b, k, hs, h => by
    show join o (fold a k) (fold b k) = _
    rw [fold_still a k hs.1 fun x z => h x (.inl z), fold_still b k hs.2.1 fun x z => h x (.inr z)]
    exact hs.2.2
  | .whn c a b, k, hs, h => by
    show choose (fold c k) (fold a k) (fold b k) = _
    rw [fold_still c k hs.1 fun x z => h x (.inl z), fold_still a k hs.2.1 fun x z => h x (.inr (.inl z)), fold_still b k hs.2.2.1 fun x z => h x (.inr (.inr z))]
    exact hs.2.2.2
  | .lett w a b, k, hs, h => by
    have e1 := fold_still a k hs.1 fun x z => h x (.inl z)
    have hn : ∀ n, fold a k ≠ .num n := by rw [e1]; exact hs.2.2
    rw [fold_lett_not hn, e1]
    have e2 := fold_still b (k.del w) hs.2.1 fun x z => by
      unfold Stg.del
      by_cases hx : x = w
      · rw [if_pos hx]
      · rw [if_neg hx]
        exact h x (.inr ⟨z, hx⟩)
    rw [e2]
def noStg : Stg := fun _ => none
theorem fold_twice_none (e : Ex) (k : Stg) : fold (fold e k) noStg = fold e k := fold_still _ _ (fold_sh e k) fun _ _ => rfl
theorem fold_twice_same (e : Ex) (k : Stg) (ok : e.ok) (hk : k.ok) : fold (fold e k) k = fold e k := fold_still _ _ (fold_sh e k) fun x z => (fold_free e k ok hk x z).2
/-- without the known names the same -/
theorem fold_value_less (e : Ex) (k s t : Stg) (ok : e.ok) (hk : k.ok) (hs : s.ok) (hle : k.le s) (ht : ∀ x, k x = none → t x = s x) : value (fold e k) t = value e s := by
  rw [← fold_value e k s ok hk hs hle]
  exact value_free _ fun x z => ht x (fold_free e k ok hk x z).2
/-- in two goes -/
theorem fold_two_goes (e : Ex) (k1 k2 s : Stg) (ok : e.ok) (h1 : k1.ok) (h2 : k2.ok) (hs : s.ok) (l1 : k1.le s) (l2 : k2.le s) : value (fold (fold e k1) k2) s = value e s := by
  rw [fold_value _ k2 s (fold_ok e k1 ok h1) h2 hs l2, fold_value e k1 s ok h1 hs l1]
theorem fold_two_free (e : Ex) (k1 k2 : Stg) (ok : e.ok) (h1 : k1.ok) (h2 : k2.ok) (x : Str) (h : free (fold (fold e k1) k2) x) : k1 x = none ∧ k2 x = none := by
  have z := fold_free _ k2 (fold_ok e k1 ok h1) h2 x h
  exact ⟨(fold_free e k1 ok h1 x z.1).2, z.2⟩
end FC
namespace FC
open PySem L2 StX PyProof.Rows
section
variable {P : Program} {w : World} {K : PySem.W.Frag} {mg : Str → Option Value} {base : Heap} {t1 t2 : Tok} {f g f1 f2 f3 f4 f5 f6 f7 f8 f9 : Addr} {fd gd fd1 fd2 fd3 fd4 fd5 fd6 fd7 fd8 fd9 : FuncData}
def rsL : Rs → List V
  | .is n => [.str "is", .int n]
  | .unset x => [.str "unset", .str x]
  | .nought => [.str "nought", .str ""]
  | .great => [.str "great", .str ""]
def spMade : Sp := fun vs H Q _ => ∃ (o : Op) (x y : Int), vs = [.str o.str, .int x, .int y] ∧ NumOk x ∧ NumOk y ∧ ∀ (H' : Hp) (p : Addr), Same H H' → H' p = some (.tup (rsL (made o x y))) → Q (.ref p) H'
theorem made_tail {D : Ends} {σ : L2.St} {H : Hp} {k : Int} {Q : VK} (s3 : σ[3]? = some (some (.int k))) (hD : D.rt = Q) (h1 : NumOk k → ∀ p, H p = none → Q (.ref p) (upd H p (.tup [.str "is", .int k]))) (h2 : ¬ NumOk k → ∀ p, H p = none → Q (.ref p) (upd H p (.tup [.str "great", .str ""]))) :
    tSeq (tIfS (tOr (tTest (tOp (rI0 fun i j => .bl (decide (j < i))) (tVar 3) (tC (.int 1000000000)))) (tTest (tOp (rI0 fun i j => V.bl (decide (i < j))) (tVar 3) (tUn (rU fun i => .int (-i)) (tC (.int 1000000000)))))) (tRet (tTup (tCons (tC (.str "great")) (tCons (tC (.str "")) tNil)))) tNext)
      (tRet (tTup (tCons (tC (.str "is")) (tCons (tVar 3) tNil)))) D σ H := by
  subst hD
  refine ⟨_, s3, _, _, rfl, rfl, _, rfl, ite2 (fun a => iteT ⟨(by show 2 ≤ sizeLine; decide), fun p hp => h2 (fun z => ?_) p hp⟩) (fun a => ⟨_, s3, _, rfl, _, _, rfl, rfl, _, rfl, ite2 (fun b => ⟨(by show 2 ≤ sizeLine; decide), fun p hp => h2 (fun z => ?_) p hp⟩) (fun b => ?_)⟩)⟩
  · have := of_decide_eq_true a
    exact absurd z.2 (by omega)
  · have := of_decide_eq_true b
    exact absurd z.1 (by omega)
  · have a' : ¬ (1000000000 : Int) < k := fun z => a (decide_eq_true z)
    have b' : ¬ k < (-1000000000 : Int) := fun z => b (decide_eq_true z)
    exact ⟨_, s3, (by show 2 ≤ sizeLine; decide), fun p hp => h1 ⟨by omega, by omega⟩ p hp⟩
structure Bl2 (mg : Str → Option Value) : Prop extends Bl mg where
  dict : mg "dict" = none
  abs : mg "abs" = none
  tuple : mg "tuple" = none
/-- the dict's pairs are the setting -/
def IsS (kvs : List (Key × V)) (s : Stg) : Prop := ∀ x : Str, valV kvs (Sum.inr x) = (s x).map V.int
theorem IsS.put {kvs : List (Key × V)} {s : Stg} (h : IsS kvs s) (x : Str) (n : Int) : IsS (putK kvs (Sum.inr x) (.int n)) (s.put x n) := fun y => by
  rw [valV_put, h y]
  unfold Stg.put
  by_cases e : y = x
  · subst e
    rw [if_pos rfl, if_pos rfl]
    rfl
  · rw [if_neg (fun z => e (Sum.inr.inj z)), if_neg e]
theorem putK_lenK (kvs : List (Key × V)) (k : Key) (v : V) : (putK kvs k v).length ≤ kvs.length + 1 := by
  unfold putK
  split
  · rw [List.length_map]
    exact Nat.le_succ _
  · rw [List.length_append]
    exact Nat.le_refl _
theorem Rs.ways (r : Rs) : (∃ n, r = .is n) ∨ ((∀ f, r.bind f = r) ∧ ∃ tag x, rsL r = [.str tag, x] ∧ (!decide (V.str tag = V.str "is")) = true) := by
  cases r with
  | is n => exact .inl ⟨n, rfl⟩
  | unset x => exact .inr ⟨fun _ => rfl, _, _, rfl, by decide⟩
  | nought => exact .inr ⟨fun _ => rfl, _, _, rfl, by decide⟩
  | great => exact .inr ⟨fun _ => rfl, _, _, rfl, by decide⟩
def spLValue (n : Nat) : Sp := fun vs H Q _ => ∃ (v : V) (e : Ex) (d : Addr) (s : Stg) (kvs : List (Key × V)), vs = [v, .ref d] ∧ Bears H v e ∧ e.ok ∧ e.deep ≤ n ∧ H d = some (.dK kvs) ∧ kvs.length + e.deep ≤ 1000 ∧ IsS kvs s ∧ s.ok ∧
  ∀ (H' : Hp) (p : Addr), Same H H' → H' p = some (.tup (rsL (value e s))) → Q (.ref p) H'
theorem spLValue0 : FnOk P w K mg base CX0 0 f fd ["_law_expr", "_law_setting"] (spLValue 0) := by
  have no : ∀ vs H Q E, ¬ spLValue 0 vs H Q E := fun vs H Q E h => by
    obtain ⟨v, e, _, _, _, _, _, _, h1, _⟩ := h
    have := e.deep_pos
    omega
  exact ⟨fun vs H Q E h => absurd h (no vs H Q E), fun A outer s H args us vs Q E _ _ _ _ h => absurd h (no vs H Q E)⟩
theorem op_when (o : Op) : decide (V.str o.str = V.str "when") = false := by cases o <;> decide
abbrev AL := List (Str × Int)
def dS (l : AL) : List (Key × V) := l.map fun p => ((Sum.inr p.1 : Key), V.int p.2)
def stg (l : AL) : Stg := fun x => (l.find? fun p => decide (p.1 = x)).map (·.2)
def putS (l : AL) (x : Str) (n : Int) : AL := if (l.any fun p => decide (p.1 = x)) = true then l.map fun p => if p.1 = x then (p.1, n) else p else l ++ [(x, n)]
structure AOk (l : AL) : Prop where
  nd : (l.map (·.1)).Nodup
  nm : ∀ p ∈ l, NameOk p.1 ∧ NumOk p.2
theorem dS_len (l : AL) : (dS l).length = l.length := List.length_map _
theorem dS_val (l : AL) : IsS (dS l) (stg l) := fun x => by
  unfold dS stg valV
  induction l with
  | nil => rfl
  | cons p r ih =>
    rw [List.map_cons, List.find?_cons, List.find?_cons]
    have e : decide ((Sum.inr p.1 : Key) = Sum.inr x) = decide (p.1 = x) := key_rr _ _
    rw [e]
    cases h : decide (p.1 = x)
    · exact ih
    · rfl
theorem dS_any (l : AL) (x : Str) : ((dS l).any fun kv => decide (kv.1 = (Sum.inr x : Key))) = l.any fun p => decide (p.1 = x) := by
  unfold dS
  rw [List.any_map]
  congr 1
  funext p
  exact key_rr _ _
theorem dS_put (l : AL) (x : Str) (n : Int) : putK (dS l) (Sum.inr x : Key) (.int n) = dS (putS l x n) := by
  unfold putK putS
  rw [dS_any]
  split
  · unfold dS
    rw [List.map_map, List.map_map]
    refine List.map_congr_left fun p _ => ?_
    show (if (Sum.inr p.1 : Key) = Sum.inr x then ((Sum.inr p.1 : Key), V.int n) else (Sum.inr p.1, V.int p.2)) = ((Sum.inr (if p.1 = x then (p.1, n) else p).1 : Key), V.int (if p.1 = x then (p.1, n) else p).2)
    by_cases h : p.1 = x
    · rw [if_pos (congrArg Sum.inr h), if_pos h]
    · rw [if_neg (fun z => h (Sum.inr.inj z)), if_neg h]
  · unfold dS
    rw [List.map_append]
    rfl
theorem putS_len (l : AL) (x : Str) (n : Int) : (putS l x n).length ≤ l.length + 1 := by
  unfold putS
  split
  · rw [List.length_map]; exact Nat.le_succ _
  · rw [List.length_append]; exact Nat.le_refl _
theorem putS_keys (l : AL) (x : Str) (n : Int) : (putS l x n).map (·.1) = if (l.any fun p => decide (p.1 = x)) = true then l.map (·.1) else l.map (·.1) ++ [x] := by
  unfold putS
  split
  · rw [List.map_map]
    refine List.map_congr_left fun p _ => ?_
    show (if p.1 = x then (p.1, n) else p).1 = p.1
    split <;> rfl
  · rw [List.map_append]
    rfl
theorem AOk.put {l : AL} (h : AOk l) {x : Str} {n : Int} (hx : NameOk x) (hn : NumOk n) : AOk (putS l x n) := by
  refine ⟨?_, fun p hp => ?_⟩
  · rw [putS_keys]
    split
    · exact h.nd
    · rename_i hc
      refine nd_snoc h.nd fun m => hc ?_
      obtain ⟨p, hp, e⟩ := List.mem_map.mp m
      exact List.any_eq_true.mpr ⟨p, hp, decide_eq_true e⟩
  · unfold putS at hp
    split at hp
    · obtain ⟨q, hq, e⟩ := List.mem_map.mp hp
      have := h.nm q hq
      by_cases c : q.1 = x
      · rw [if_pos c] at e
        subst e
        exact ⟨this.1, hn⟩
      · rw [if_neg c] at e
        subst e
        exact this
    · rcases List.mem_append.mp hp with z | z
      · exact h.nm p z
      · rw [List.mem_singleton.mp z]
        exact ⟨hx, hn⟩
theorem AOk.nil : AOk [] := ⟨List.nodup_nil, fun _ z => nomatch z⟩
theorem AOk.stg {l : AL} (h : AOk l) : (stg l).ok := fun x n e => by
  unfold FC.stg at e
  obtain ⟨p, hp, rfl⟩ := Option.map_eq_some_iff.mp e
  exact (h.nm p (List.mem_of_find?_eq_some hp)).2
theorem stg_put (l : AL) (x : Str) (n : Int) : stg (putS l x n) = (stg l).put x n := by
  funext y
  have h1 := dS_val (putS l x n) y
  have h2 := (dS_val l).put x n y
  rw [← dS_put, h2] at h1
  cases h3 : (stg l).put x n y <;> cases h4 : stg (putS l x n) y <;> rw [h3, h4] at h1 <;> first | rfl | cases h1 <;> rfl
def spCount (K : PySem.W.Frag) : Sp := fun vs H Q _ => ∃ (a : Addr) (ms : List Int), vs = [.ref a] ∧ SqL K H a (ms.map V.int) ∧ (∀ m ∈ ms, 0 ≤ m) ∧ ∀ c : Int, 0 ≤ c → c ≤ 41 → Q (.int c) H
def spKnownBy (K : PySem.W.Frag) : Sp := fun vs H Q _ => ∃ (a : Addr) (ms : List Int), vs = [.ref a] ∧ SqL K H a (ms.map V.int) ∧ (∀ m ∈ ms, 0 ≤ m) ∧ ∀ (H' : Hp) (p : Addr) (l : AL), Same H H' → H p = none → H' p = some (.dK (dS l)) → AOk l → l.length ≤ 41 → Q (.ref p) H'
def spSettingBy (K : PySem.W.Frag) : Sp := fun vs H Q _ => ∃ (a : Addr) (ms : List Int) (t : Int), vs = [.ref a, .int t] ∧ SqL K H a (ms.map V.int) ∧ (∀ m ∈ ms, 0 ≤ m) ∧ 0 ≤ t ∧ t ≤ 100 ∧ ∀ (H' : Hp) (p : Addr) (l : AL), Same H H' → H p = none → H' p = some (.dK (dS l)) → AOk l → l.length ≤ 41 → Q (.ref p) H'
theorem for_str {x : Str} {g : TG} {tb : TS} {D : Ends} {σ : L2.St} {H : Hp} (Pv : Nat → L2.St → Hp → Prop) (h0 : Pv 0 σ H)
    (hs : ∀ i c σ H, x.cps[i]? = some c → Pv i σ H → g (.str ⟨#[c]⟩) σ H fun σ2 H2 => tb { D with nx := Pv (i + 1), ct := Pv (i + 1), bk := D.nx } σ2 H2) (hd : ∀ σ H, Pv x.cps.size σ H → D.nx σ H) :
    ∃ W : Nat → Nat → L2.St → Hp → Prop, (∃ m, W 0 m σ H) ∧ ∀ i m σ H, W i m σ H →
      ((Its x).stop i H ∧ D.nx σ H) ∨ ((Its x).go i H ∧ ∃ N : L2.St → Hp → Prop, (∀ σ' H', N σ' H' → ∃ m', m' < m ∧ W (i + 1) m' σ' H') ∧ ∀ v H', (Its x).yld i H v H' → g v σ H' fun σ2 H2 => tb { D with nx := N, ct := N, bk := D.nx } σ2 H2) := by
  refine ⟨fun i m σ H => m = x.cps.size - i ∧ i ≤ x.cps.size ∧ Pv i σ H, ⟨x.cps.size, by simp, Nat.zero_le _, h0⟩, ?_⟩
  rintro i m σ H ⟨rfl, hi, p⟩
  by_cases h : i < x.cps.size
  · refine .inr ⟨h, Pv (i + 1), fun σ' H' q => ⟨x.cps.size - (i + 1), by omega, rfl, by omega, q⟩, ?_⟩
    rintro v H' ⟨rfl, c, hc, rfl⟩
    exact hs i c σ _ hc p
  · have e : i = x.cps.size := by omega
    subst e
    exact .inl ⟨Nat.le_refl _, hd σ H p⟩
theorem Ex.ok_kids {e x : Ex} (h : e.ok) (hx : x ∈ e.kids) : x.ok := by
  cases e with
  | num _ => cases hx
  | nam _ => cases hx
  | two o a b =>
    rcases List.mem_cons.mp hx with rfl | hx
    · exact h.1
    · rcases List.mem_cons.mp hx with rfl | hx
      · exact h.2
      · cases hx
  | whn c a b =>
    rcases List.mem_cons.mp hx with rfl | hx
    · exact h.1
    · rcases List.mem_cons.mp hx with rfl | hx
      · exact h.2.1
      · rcases List.mem_cons.mp hx with rfl | hx
        · exact h.2.2
        · cases hx
  | lett _ a b =>
    rcases List.mem_cons.mp hx with rfl | hx
    · exact h.2.1
    · rcases List.mem_cons.mp hx with rfl | hx
      · exact h.2.2
      · cases hx
theorem op_notin7 (o : Op) : (!inV (.str o.str) [.str "sum", .str "less", .str "times", .str "part", .str "rest", .str "below", .str "same"]) = false := by cases o <;> decide
def spIsName : Sp := fun vs H Q _ => ∃ x : Str, vs = [.str x] ∧ NameOk x ∧ Q (.bl true) H
theorem sign_in {c : Nat} (h : 97 ≤ c ∧ c ≤ 122) : (!decide (c ∈ signs.cps.toList)) = false := by
  have e : signs.cps.toList = (List.range 26).map (· + 97) := by decide +kernel
  rw [e, decide_eq_true, Bool.not_true]
  exact List.mem_map.mpr ⟨c - 97, List.mem_range.mpr (by omega), by omega⟩
def spIsExpr (n : Nat) : Sp := fun vs H Q _ => ∃ (v : V) (e : Ex), vs = [v] ∧ Bears H v e ∧ e.ok ∧ e.deep ≤ n ∧ ∀ H', Same H H' → Q (.bl true) H'
theorem spIsExpr0 : FnOk P w K mg base CX0 0 f fd ["_law_expr"] (spIsExpr 0) := by
  have no : ∀ vs H Q E, ¬ spIsExpr 0 vs H Q E := fun vs H Q E h => by
    obtain ⟨v, e, _, _, _, h1, _⟩ := h
    have := e.deep_pos
    omega
  exact ⟨fun vs H Q E h => absurd h (no vs H Q E), fun A outer s H args us vs Q E _ _ _ _ h => absurd h (no vs H Q E)⟩
theorem kids_loop {D : Ends} {σ : L2.St} {H : Hp} {l : Addr} {v : V} {zz : Option V} {ws : List V} {es : List Ex} {n : Nat} {Q : VK} (hσ : σ = [some v, some (.ref l), zz]) (hl : H l = some (.lst ws)) (b : BearsL H ws es) (hok : ∀ e ∈ es, e.ok ∧ e.deep ≤ n) (hD : D.rt = Q)
    (q : ∀ H', Same H H' → Q (.bl true) H') :
    tSeq (tFor (iList K (tVar 1)) (gName 2) (tIfS (tNot (tB (tCall (spIsExpr n) [] E0 (tCons (tVar 2) tNil)))) (tRet (tC (.bl false))) tNext)) (tRet (tC (.bl true))) D σ H := by
  subst hσ hD
  refine ⟨_, rfl, l, rfl, ⟨_, .inl (.inl hl)⟩, ?_⟩
  refine for_list (K := K) (a := l) (xs := ws) (fun i σ H2 => Same H H2 ∧ ∃ zz, σ = [some v, some (.ref l), zz]) ⟨Same.refl _, _, rfl⟩ (fun i σ H2 _ h => .inl (.inl (h.1 _ _ hl))) (fun i x σ H2 hx hP => ?_) (fun σ H2 hP => ?_)
  · obtain ⟨g2, zz, rfl⟩ := hP
    obtain ⟨ex, he, bx⟩ := b.get hx
    have hm : ex ∈ es := List.mem_of_getElem? he
    exact ⟨_, rfl, x, ex, rfl, bx.mono (Tups.of g2), (hok ex hm).1, (hok ex hm).2, fun H3 g3 => ⟨true, rfl, iteF ⟨g2.trans g3, _, rfl⟩⟩⟩
  · obtain ⟨g2, zz, rfl⟩ := hP
    exact q H2 g2
def exD : Ex → PyData
  | .num n => .tuple [.str "num", .int n]
  | .nam x => .tuple [.str "name", .str x]
  | .two o a b => .tuple [.str o.str, exD a, exD b]
  | .whn c a b => .tuple [.str "when", exD c, exD a, exD b]
  | .lett x a b => .tuple [.str "let", .str x, exD a, exD b]
theorem Bears.dp {K : PySem.W.Frag} {H : Hp} {v : V} {e : Ex} (b : Bears H v e) : Dp K H v (exD e) := by
  induction b with
  | num h => exact .tup (.inl (.inl h)) (.cons (.str _) (.cons (.int _) .nil))
  | nam h => exact .tup (.inl (.inl h)) (.cons (.str _) (.cons (.str _) .nil))
  | two h _ _ i1 i2 => exact .tup (.inl (.inl h)) (.cons (.str _) (.cons i1 (.cons i2 .nil)))
  | whn h _ _ _ i0 i1 i2 => exact .tup (.inl (.inl h)) (.cons (.str _) (.cons i0 (.cons i1 (.cons i2 .nil))))
  | lett h _ _ i1 i2 => exact .tup (.inl (.inl h)) (.cons (.str _) (.cons (.str _) (.cons i1 (.cons i2 .nil))))
theorem op_strOk (o : Op) : PyData.strOk o.str = true := by cases o <;> decide +kernel
theorem exD_lay : ∀ e : Ex, e.ok → (exD e).canLay0 = true
  | .num n, _ => by
    have h : PyData.strOk "num" = true := by decide +kernel
    simp [exD, PyData.canLay0, PyData.canLayAll0, h]
  | .nam x, ok => by
    have h : PyData.strOk "name" = true := by decide +kernel
    have h2 : PyData.strOk x = true := Low.strOk (show NameOk x from ok).2.2
    simp [exD, PyData.canLay0, PyData.canLayAll0, h, h2]
  | .two o a b, ok => by
    have h1 := exD_lay a ok.1
    have h2 := exD_lay b ok.2
    simp [exD, PyData.canLay0, PyData.canLayAll0, op_strOk, h1, h2]
  | .whn c a b, ok => by
    have h : PyData.strOk "when" = true := by decide +kernel
    have h0 := exD_lay c ok.1
    have h1 := exD_lay a ok.2.1
    have h2 := exD_lay b ok.2.2
    simp [exD, PyData.canLay0, PyData.canLayAll0, h, h0, h1, h2]
  | .lett x a b, ok => by
    have h : PyData.strOk "let" = true := by decide +kernel
    have hx : PyData.strOk x = true := Low.strOk ok.1.2.2
    have h1 := exD_lay a ok.2.1
    have h2 := exD_lay b ok.2.2
    simp [exD, PyData.canLay0, PyData.canLayAll0, h, hx, h1, h2]
theorem exD_depth : ∀ e : Ex, (exD e).depth ≤ e.deep
  | .num n => by simp [exD, PyData.depth, PyData.depthAll, Ex.deep]
  | .nam x => by simp [exD, PyData.depth, PyData.depthAll, Ex.deep]
  | .two o a b => by
    have h1 := exD_depth a
    have h2 := exD_depth b
    simp [exD, PyData.depth, PyData.depthAll, Ex.deep]
    omega
  | .whn c a b => by
    have h0 := exD_depth c
    have h1 := exD_depth a
    have h2 := exD_depth b
    simp [exD, PyData.depth, PyData.depthAll, Ex.deep]
    omega
  | .lett x a b => by
    have h1 := exD_depth a
    have h2 := exD_depth b
    simp [exD, PyData.depth, PyData.depthAll, Ex.deep]
    omega
theorem op_inj {o p : Op} (h : o.str = p.str) : o = p := by revert h; cases o <;> cases p <;> decide
theorem op_ne_w (o : Op) : o.str ≠ "num" ∧ o.str ≠ "name" ∧ o.str ≠ "when" ∧ o.str ≠ "let" := by cases o <;> decide
theorem exD_word (e : Ex) : ∃ r, exD e = .tuple (.str e.word :: r) := by cases e <;> exact ⟨_, rfl⟩
theorem eqv_word {a b : Ex} (h : PyData.eqv (exD a) (exD b) = true) : a.word = b.word := by
  obtain ⟨r, h1⟩ := exD_word a
  obtain ⟨s, h2⟩ := exD_word b
  rw [h1, h2] at h
  simp [PyData.eqv, PyData.eqvAll] at h
  exact h.1
theorem exD_eqv : ∀ a b : Ex, PyData.eqv (exD a) (exD b) = true → a = b
  | .num n, b, h => by
    have hw := eqv_word h
    cases b with
    | num m => simp [exD, PyData.eqv, PyData.eqvAll] at h; rw [h]
    | two o c d => exact absurd hw.symm (op_ne_w o).1
    | _ => exact absurd hw (by simp only [Ex.word]; decide)
  | .nam x, b, h => by
    have hw := eqv_word h
    cases b with
    | nam y => simp [exD, PyData.eqv, PyData.eqvAll] at h; rw [h]
    | two o c d => exact absurd hw.symm (op_ne_w o).2.1
    | _ => exact absurd hw (by simp only [Ex.word]; decide)
  | .two o a1 a2, b, h => by
    have hw := eqv_word h
    cases b with
    | two p b1 b2 =>
      simp [exD, PyData.eqv, PyData.eqvAll] at h
      rw [op_inj h.1, exD_eqv a1 b1 h.2.1, exD_eqv a2 b2 h.2.2]
    | num n => exact absurd hw (op_ne_w o).1
    | nam n => exact absurd hw (op_ne_w o).2.1
    | whn _ _ _ => exact absurd hw (op_ne_w o).2.2.1
    | lett _ _ _ => exact absurd hw (op_ne_w o).2.2.2
  | .whn a0 a1 a2, b, h => by
    have hw := eqv_word h
    cases b with
    | whn b0 b1 b2 =>
      simp [exD, PyData.eqv, PyData.eqvAll] at h
      rw [exD_eqv a0 b0 h.1, exD_eqv a1 b1 h.2.1, exD_eqv a2 b2 h.2.2]
    | two o c d => exact absurd hw.symm (op_ne_w o).2.2.1
    | _ => exact absurd hw (by simp only [Ex.word]; decide)
  | .lett x a1 a2, b, h => by
    have hw := eqv_word h
    cases b with
    | lett y b1 b2 =>
      simp [exD, PyData.eqv, PyData.eqvAll] at h
      rw [h.1, exD_eqv a1 b1 h.2.1, exD_eqv a2 b2 h.2.2]
    | two o c d => exact absurd hw.symm (op_ne_w o).2.2.2
    | _ => exact absurd hw (by simp only [Ex.word]; decide)
theorem exD_self : ∀ a : Ex, PyData.eqv (exD a) (exD a) = true
  | .num n => by simp [exD, PyData.eqv, PyData.eqvAll]
  | .nam n => by simp [exD, PyData.eqv, PyData.eqvAll]
  | .two o a b => by simp [exD, PyData.eqv, PyData.eqvAll, exD_self a, exD_self b]
  | .whn c a b => by simp [exD, PyData.eqv, PyData.eqvAll, exD_self c, exD_self a, exD_self b]
  | .lett x a b => by simp [exD, PyData.eqv, PyData.eqvAll, exD_self a, exD_self b]
theorem exD_eq (a b : Ex) : PyData.eqv (exD a) (exD b) = decide (a = b) := by
  by_cases h : a = b
  · subst h
    rw [exD_self, decide_eq_true rfl]
  · rw [decide_eq_false h]
    exact Bool.eq_false_iff.mpr fun z => h (exD_eqv a b z)
/-- == of two expressions, one of them at most 200 deep -/
def rEqX (neg : Bool) : R2 := fun x y H Q => ∃ a b : Ex, Bears H x a ∧ Bears H y b ∧ a.ok ∧ b.ok ∧ min a.deep b.deep ≤ 199 ∧ Q (.bl (if neg = true then !decide (a = b) else decide (a = b))) H
theorem op_eqX {X : Cx} (hu : X.A.units + 200 < cLine) : OpR X (compareOp .Eq) (rEqX false) := by
  intro pins s σ H x y v u Q I rx ry h
  obtain ⟨a, b, ba, bb, oa, ob, hd, q⟩ := h
  obtain ⟨as, r1⟩ := Dp.reads I (exD a) x v ba.dp rx
  obtain ⟨bs, r2⟩ := Dp.reads I (exD b) y u bb.dp ry
  have h1 := exD_depth a
  have h2 := exD_depth b
  exact SeqAt.compareEq_reads r1 r2 (exD_lay a oa) (exD_lay b ob) (by omega) ⟨.bl _, H, I, by rw [exD_eq]; rfl, q⟩
theorem op_neX {X : Cx} (hu : X.A.units + 200 < cLine) : OpR X (compareOp .NotEq) (rEqX true) := by
  intro pins s σ H x y v u Q I rx ry h
  obtain ⟨a, b, ba, bb, oa, ob, hd, q⟩ := h
  obtain ⟨as, r1⟩ := Dp.reads I (exD a) x v ba.dp rx
  obtain ⟨bs, r2⟩ := Dp.reads I (exD b) y u bb.dp ry
  have h1 := exD_depth a
  have h2 := exD_depth b
  exact SeqAt.compareNe_reads r1 r2 (exD_lay a oa) (exD_lay b ob) (by omega) ⟨.bl _, H, I, by rw [exD_eq]; rfl, q⟩
theorem _root_.L2.Room.x {k : Nat} {A : Around} (r : Room k A) : A.units + 200 < cLine := by have := r.un; omega
def spNear : Sp := fun vs H Q _ => ∃ n : Int, vs = [.int n] ∧ Q (.bl (decide (NumOk n))) H
def spLChoose (n : Nat) : Sp := fun vs H Q _ => ∃ (vc va vb : V) (c a b : Ex), vs = [vc, va, vb] ∧ Bears H vc c ∧ Bears H va a ∧ Bears H vb b ∧ c.ok ∧ a.ok ∧ b.ok ∧ c.deep ≤ n ∧
  ∀ (H' : Hp) (v : V), Same H H' → Bears H' v (choose c a b) → Q v H'
theorem spLChoose0 : FnOk P w K mg base CX0 0 f fd ["_law_cond", "_law_one", "_law_two"] (spLChoose 0) := by
  have no : ∀ vs H Q E, ¬ spLChoose 0 vs H Q E := fun vs H Q E h => by
    obtain ⟨_, _, _, c, _, _, _, _, _, _, _, _, _, h1, _⟩ := h
    have := c.deep_pos
    omega
  exact ⟨fun vs H Q E h => absurd h (no vs H Q E), fun A outer s H args us vs Q E _ _ _ _ h => absurd h (no vs H Q E)⟩
theorem mul_pos_iff' {m n : Int} : 0 < m * n ↔ (0 < m ∧ 0 < n) ∨ (m < 0 ∧ n < 0) := by
  constructor
  · intro h
    rcases Int.lt_trichotomy m 0 with h1 | h1 | h1
    · rcases Int.lt_trichotomy n 0 with h2 | h2 | h2
      · exact .inr ⟨h1, h2⟩
      · rw [h2, Int.mul_zero] at h; exact absurd h (by decide)
      · have := Int.mul_neg_of_neg_of_pos h1 h2
        omega
    · rw [h1, Int.zero_mul] at h; exact absurd h (by decide)
    · rcases Int.lt_trichotomy n 0 with h2 | h2 | h2
      · have := Int.mul_neg_of_pos_of_neg h1 h2
        omega
      · rw [h2, Int.mul_zero] at h; exact absurd h (by decide)
      · exact .inl ⟨h1, h2⟩
  · rintro (⟨h1, h2⟩ | ⟨h1, h2⟩)
    · exact Int.mul_pos h1 h2
    · exact Int.mul_pos_of_neg_of_neg h1 h2
theorem word_is {t : Ex} {o : Op} (h : t.word = o.str) : ∃ b c, t = .two o b c := by
  cases t with
  | two p b c => exact ⟨b, c, by rw [op_inj (o := p) (p := o) h]⟩
  | num n => exact absurd h.symm (op_ne_w o).1
  | nam n => exact absurd h.symm (op_ne_w o).2.1
  | whn _ _ _ => exact absurd h.symm (op_ne_w o).2.2.1
  | lett _ _ _ => exact absurd h.symm (op_ne_w o).2.2.2
instance isNumDec (t : Ex) : Decidable (∃ n, t = .num n) := match t with
  | .num n => .isTrue ⟨n, rfl⟩
  | .nam _ => .isFalse fun ⟨_, h⟩ => nomatch h
  | .two _ _ _ => .isFalse fun ⟨_, h⟩ => nomatch h
  | .whn _ _ _ => .isFalse fun ⟨_, h⟩ => nomatch h
  | .lett _ _ _ => .isFalse fun ⟨_, h⟩ => nomatch h
theorem word_num {t : Ex} : decide (V.str t.word = V.str "num") = decide (∃ n, t = .num n) := by
  refine decide_eq_decide.mpr ⟨fun h => ?_, fun ⟨n, h⟩ => by rw [h]; rfl⟩
  have h' : t.word = "num" := by injection h
  cases t with
  | num n => exact ⟨n, rfl⟩
  | two p b c => exact absurd h' (op_ne_w p).1
  | _ => exact absurd h' (by simp only [Ex.word]; decide)
/-- the end: the word as it stands -/
theorem stands_ret {D : Ends} {σ : L2.St} {H : Hp} {o : Op} {vt : V} {t : Ex} {n : Int} {Q : VK} (s0 : σ[0]? = some (some (.str o.str))) (s1 : σ[1]? = some (some vt)) (s2 : σ[2]? = some (some (.int n))) (hD : D.rt = Q) (b : Bears H vt t)
    (q : ∀ H' v, Same H H' → Bears H' v (.two o t (.num n)) → Q v H') : tRet (tTup (tCons (tVar 0) (tCons (tVar 1) (tCons (tTup (tCons (tC (.str "num")) (tCons (tVar 2) tNil))) tNil)))) D σ H := by
  subst hD
  refine ⟨_, s0, _, s1, _, s2, (by show 2 ≤ sizeLine; decide), fun t1 ht1 => ?_⟩
  have g1 := same_new ht1 (.tup [.str "num", .int n])
  refine ⟨(by show 3 ≤ sizeLine; decide), fun t2 ht2 => ?_⟩
  have g2 := same_new ht2 (.tup [.str o.str, vt, .ref t1])
  exact q _ _ (g1.trans g2) (.two upd_same (b.mono (Tups.of (g1.trans g2))) (.num (g2 _ _ upd_same)))
/-- t[0] == word and t[2][0] == "num" -/
theorem test3 {K : PySem.W.Frag} {σ : L2.St} {H : Hp} {o : Op} {vt : V} {t : Ex} {Q : Bool → Hp → Prop} (s0 : σ[0]? = some (some (.str o.str))) (s1 : σ[1]? = some (some vt)) (b : Bears H vt t)
    (q1 : (∃ c m, t = .two o c (.num m)) → Q true H) (q2 : (¬ ∃ c m, t = .two o c (.num m)) → Q false H) :
    tAnd (tTest (tOp rEq (tOp (rIxT K) (tVar 1) (tC (.int 0))) (tVar 0))) (tTest (tOp rEq (tOp (rIxT K) (tOp (rIxT K) (tVar 1) (tC (.int 2))) (tC (.int 0))) (tC (.str "num")))) σ H Q := by
  obtain ⟨a, xs, rfl, h⟩ := b.first
  refine ⟨_, s1, a, _, 0, _, rfl, rfl, .inl (.inl h), at_of (j := 0) rfl rfl, _, s0, rfl, _, rfl, ite2 (fun hw => ?_) (fun hw => q2 fun ⟨c, m, e⟩ => hw (decide_eq_true (by rw [e]; rfl)))⟩
  have hw' : t.word = o.str := by injection of_decide_eq_true hw
  obtain ⟨c, d, rfl⟩ := word_is hw'
  cases b with
  | @two a' o' v1 v2 e1 e2 h' b1 b2 =>
    obtain ⟨ad, ys, rfl, hd⟩ := b2.first
    refine ⟨_, s1, a, _, 2, _, rfl, rfl, .inl (.inl h'), rfl, ad, _, 0, _, rfl, rfl, .inl (.inl hd), at_of (j := 0) rfl rfl, rfl, _, rfl, ?_⟩
    rw [word_num]
    by_cases hn : ∃ n, d = .num n
    · rw [decide_eq_true hn]
      obtain ⟨n, rfl⟩ := hn
      exact q1 ⟨c, n, rfl⟩
    · rw [decide_eq_false hn]
      exact q2 fun ⟨c', m, e⟩ => hn ⟨m, by cases e; rfl⟩
/-- t[0] == "less" and t[1][0] == "num" -/
theorem test4 {K : PySem.W.Frag} {σ : L2.St} {H : Hp} {vt : V} {t : Ex} {Q : Bool → Hp → Prop} (s1 : σ[1]? = some (some vt)) (b : Bears H vt t)
    (q1 : (∃ m c, t = .two .less (.num m) c) → Q true H) (q2 : (¬ ∃ m c, t = .two .less (.num m) c) → Q false H) :
    tAnd (tTest (tOp rEq (tOp (rIxT K) (tVar 1) (tC (.int 0))) (tC (.str "less")))) (tTest (tOp rEq (tOp (rIxT K) (tOp (rIxT K) (tVar 1) (tC (.int 1))) (tC (.int 0))) (tC (.str "num")))) σ H Q := by
  obtain ⟨a, xs, rfl, h⟩ := b.first
  refine ⟨_, s1, a, _, 0, _, rfl, rfl, .inl (.inl h), at_of (j := 0) rfl rfl, rfl, _, rfl, ite2 (fun hw => ?_) (fun hw => q2 fun ⟨c, m, e⟩ => hw (decide_eq_true (by rw [e]; rfl)))⟩
  have hw' : t.word = Op.str .less := by injection of_decide_eq_true hw
  obtain ⟨c, d, rfl⟩ := word_is hw'
  cases b with
  | @two a' o' v1 v2 e1 e2 h' b1 b2 =>
    obtain ⟨ad, ys, rfl, hd⟩ := b1.first
    refine ⟨_, s1, a, _, 1, _, rfl, rfl, .inl (.inl h'), rfl, ad, _, 0, _, rfl, rfl, .inl (.inl hd), at_of (j := 0) rfl rfl, rfl, _, rfl, ?_⟩
    rw [word_num]
    by_cases hn : ∃ n, c = .num n
    · rw [decide_eq_true hn]
      obtain ⟨n, rfl⟩ := hn
      exact q1 ⟨n, d, rfl⟩
    · rw [decide_eq_false hn]
      exact q2 fun ⟨m, c', e⟩ => hn ⟨m, by cases e; rfl⟩
def spWith (k : Nat) : Sp := fun vs H Q _ => ∃ (o : Op) (vt : V) (t : Ex) (n : Int), vs = [.str o.str, vt, .int n] ∧ Bears H vt t ∧ t.ok ∧ NumOk n ∧ (∀ m, t ≠ .num m) ∧ o ≠ .below ∧ o ≠ .same ∧ 2 * t.deep + (if o = .less then 1 else 0) ≤ k ∧
  ∀ (H' : Hp) (v : V), Same H H' → Bears H' v (joinN o t n) → Q v H'
def spLJoin (k : Nat) : Sp := fun vs H Q _ => ∃ (o : Op) (va vb : V) (a b : Ex), vs = [.str o.str, va, vb] ∧ Bears H va a ∧ Bears H vb b ∧ a.ok ∧ b.ok ∧ 2 * max a.deep b.deep + 1 ≤ k ∧
  (((o = .less ∧ ∀ m, a ≠ .num m) ∨ ((∃ m, a = .num m) ∧ (∀ n, b ≠ .num n) ∧ swaps o = true)) → 2 * max a.deep b.deep + 2 ≤ k) ∧ ∀ (H' : Hp) (v : V), Same H H' → Bears H' v (join o a b) → Q v H'
theorem spWith0 : FnOk P w K mg base CX0 0 f fd ["_law_word", "_law_t", "_law_n"] (spWith 0) := by
  have no : ∀ vs H Q E, ¬ spWith 0 vs H Q E := fun vs H Q E h => by
    obtain ⟨_, _, t, _, _, _, _, _, _, _, _, h1, _⟩ := h
    have := t.deep_pos
    omega
  exact ⟨fun vs H Q E h => absurd h (no vs H Q E), fun A outer s H args us vs Q E _ _ _ _ h => absurd h (no vs H Q E)⟩
theorem spLJoin0 : FnOk P w K mg base CX0 0 f fd ["_law_word", "_law_one", "_law_two"] (spLJoin 0) := by
  have no : ∀ vs H Q E, ¬ spLJoin 0 vs H Q E := fun vs H Q E h => by
    obtain ⟨_, _, _, t, _, _, _, _, _, _, h1, _⟩ := h
    have := t.deep_pos
    omega
  exact ⟨fun vs H Q E h => absurd h (no vs H Q E), fun A outer s H args us vs Q E _ _ _ _ h => absurd h (no vs H Q E)⟩
theorem in_swaps (o : Op) : inV (.str o.str) [.str "sum", .str "times", .str "same"] = swaps o := by cases o <;> decide
theorem in_five (o : Op) : inV (.str o.str) [.str "sum", .str "less", .str "times", .str "part", .str "rest"] = decide (o ≠ .below ∧ o ≠ .same) := by cases o <;> decide
theorem if_propS {c : TT} {t u v : TS} {D : Ends} {σ : L2.St} {H : Hp} (p : Prop) (hc : ∀ Q : Bool → Hp → Prop, (p → ∀ H', Same H H' → Q true H') → (¬ p → ∀ H', Same H H' → Q false H') → c σ H Q)
    (h1 : p → ∀ H', Same H H' → t { D with nx := v D } σ H') (h2 : ¬ p → ∀ H', Same H H' → u { D with nx := v D } σ H') : tSeq (tIfS c t u) v D σ H :=
  hc _ (fun h H' g => iteT (h1 h H' g)) (fun h H' g => iteF (h2 h H' g))
theorem if_plain {c : TT} {t u : TS} {D : Ends} {σ : L2.St} {H : Hp} (p : Prop) (hc : ∀ X : Bool → Hp → Prop, (p → X true H) → (¬ p → X false H) → c σ H X) (h1 : p → t D σ H) (h2 : ¬ p → u D σ H) : tIfS c t u D σ H :=
  hc _ (fun h => iteT (h1 h)) (fun h => iteF (h2 h))
theorem join_num {o : Op} (c : Ex) (j : Int) (h : o = .sum ∨ o = .times ∨ o = .part ∨ o = .rest) : join o c (.num j) = joinN o c j := by
  rcases isnum c with ⟨m, rfl⟩ | nc
  · rcases h with rfl | rfl | rfl | rfl <;> rfl
  · exact join_an o j nc
theorem lessN_join (j : Int) (c : Ex) : join .less (.num j) c = lessN j c := by
  rcases isnum c with ⟨m, rfl⟩ | nc
  · rfl
  · rw [join_nb .less j nc, if_neg (by decide)]
    cases c with
    | num n => exact absurd rfl (nc n)
    | _ => rfl
theorem two1_deep (o : Op) (m n : Int) : (two1 o m n).deep ≤ 2 := by
  unfold two1
  cases made o m n with
  | is k => exact Nat.le_succ _
  | _ => exact Nat.le_refl _
theorem lessN_deep (j : Int) (c : Ex) : (lessN j c).deep ≤ c.deep + 1 := by
  have h := c.deep_pos
  cases c with
  | num n => exact two1_deep _ _ _
  | nam x => exact Nat.le_refl _
  | two o a b => show max 1 (Ex.two o a b).deep + 1 ≤ _; omega
  | whn c a b => show max 1 (Ex.whn c a b).deep + 1 ≤ _; omega
  | lett x a b => show max 1 (Ex.lett x a b).deep + 1 ≤ _; omega
theorem word_deep (o : Op) (t : Ex) (n : Int) : (Ex.two o t (.num n)).deep = t.deep + 1 := by
  have h := t.deep_pos
  show max t.deep 1 + 1 = _
  omega
theorem sumN_deep : ∀ (t : Ex) (n : Int), (sumN t n).deep ≤ t.deep + 1 := by
  intro t n
  fun_induction sumN t n with
  | case1 m n => exact two1_deep _ _ _
  | case2 b m => exact Nat.le_succ _
  | case3 b m n h0 hc ih => rw [word_deep]; omega
  | case4 b m n h0 hc => rw [word_deep]; exact Nat.le_refl _
  | case5 m b => exact Nat.le_succ _
  | case6 m b n h0 hc =>
    have := lessN_deep (m + n) b
    have h := b.deep_pos
    show _ ≤ max 1 b.deep + 1 + 1
    omega
  | case7 m b n h0 hc => rw [word_deep]; exact Nat.le_refl _
  | case8 t h1 h2 h3 => exact Nat.le_succ _
  | case9 t n h1 h2 h3 h0 => rw [word_deep]; exact Nat.le_refl _
theorem timesN_deep : ∀ (t : Ex) (n : Int), (timesN t n).deep ≤ t.deep + 1 := by
  intro t n
  fun_induction timesN t n with
  | case1 m n => exact two1_deep _ _ _
  | case2 b m => exact Nat.le_succ _
  | case3 b m n h0 hc ih => rw [word_deep]; omega
  | case4 b m n h0 hc => rw [word_deep]; exact Nat.le_refl _
  | case5 t h1 h2 => exact Nat.le_succ _
  | case6 t n h1 h2 h0 => rw [word_deep]; exact Nat.le_refl _
theorem partN_deep : ∀ (t : Ex) (n : Int), (partN t n).deep ≤ t.deep + 1 := by
  intro t n
  fun_induction partN t n with
  | case1 m n => exact two1_deep _ _ _
  | case2 b m => exact Nat.le_succ _
  | case3 b m n h0 hc ih => rw [word_deep]; omega
  | case4 b m n h0 hc => rw [word_deep]; exact Nat.le_refl _
  | case5 t h1 h2 => exact Nat.le_succ _
  | case6 t n h1 h2 h0 => rw [word_deep]; exact Nat.le_refl _
theorem restN_deep : ∀ (t : Ex) (n : Int), (restN t n).deep ≤ t.deep + 1 := by
  intro t n
  fun_induction restN t n with
  | case1 m n => exact two1_deep _ _ _
  | case2 b m n hc => exact Nat.le_succ _
  | case3 b m n h0 hc ih => rw [word_deep]; omega
  | case4 b m n h0 hc => rw [word_deep]; exact Nat.le_refl _
  | case5 t n h1 h2 => rw [word_deep]; exact Nat.le_refl _
theorem joinN_deep (o : Op) (t : Ex) (n : Int) : (joinN o t n).deep ≤ t.deep + 1 := by
  cases o with
  | sum => exact sumN_deep t n
  | less => exact sumN_deep t (-n)
  | times => exact timesN_deep t n
  | part => exact partN_deep t n
  | rest => exact restN_deep t n
  | below => exact Nat.le_of_eq (word_deep _ _ _)
  | same => exact Nat.le_of_eq (word_deep _ _ _)
theorem join_deep (o : Op) (a b : Ex) : (join o a b).deep ≤ max a.deep b.deep + 1 := by
  have ha := a.deep_pos
  have hb := b.deep_pos
  rcases isnum a with ⟨m, rfl⟩ | na
  · rcases isnum b with ⟨n, rfl⟩ | nb
    · exact two1_deep _ _ _
    · rw [join_nb o m nb]
      split
      · have := joinN_deep o b m
        omega
      · exact Nat.le_refl _
  · rcases isnum b with ⟨n, rfl⟩ | nb
    · rw [join_an o n na]
      have := joinN_deep o a n
      omega
    · rw [join_ab o na nb]
      exact Nat.le_refl _
theorem choose_deep : ∀ (c a b : Ex), (choose c a b).deep ≤ max (max c.deep a.deep) b.deep + 1 := by
  intro c a b
  fun_induction choose c a b with
  | case1 n a b hn => omega
  | case2 n a b hn => omega
  | case3 d a b ih =>
    have : (Ex.two .same d (.num 0)).deep = d.deep + 1 := word_deep _ _ _
    omega
  | case4 c a b h1 h2 => exact Nat.le_refl _
theorem fold_deep : ∀ (e : Ex) (k : Stg), (fold e k).deep ≤ e.deep
  | .num n, _ => Nat.le_refl _
  | .nam w, k => by
    unfold fold
    split <;> exact Nat.le_refl _
  | .two o a b, k => by
    have h1 := fold_deep a k
    have h2 := fold_deep b k
    have h3 := join_deep o (fold a k) (fold b k)
    show (join o (fold a k) (fold b k)).deep ≤ max a.deep b.deep + 1
    omega
  | .whn c a b, k => by
    have h0 := fold_deep c k
    have h1 := fold_deep a k
    have h2 := fold_deep b k
    have h3 := choose_deep (fold c k) (fold a k) (fold b k)
    show (choose (fold c k) (fold a k) (fold b k)).deep ≤ max (max c.deep a.deep) b.deep + 1
    omega
  | .lett w a b, k => by
    have h1 := fold_deep a k
    rcases isnum (fold a k) with ⟨n, h⟩ | h
    · rw [fold_lett_num h]
      have h2 := fold_deep b (k.put w n)
      show _ ≤ max a.deep b.deep + 1
      omega
    · rw [fold_lett_not h]
      have h2 := fold_deep b (k.del w)
      show max (fold a k).deep (fold b (k.del w)).deep + 1 ≤ max a.deep b.deep + 1
      omega
theorem for_items {d : Addr} {o : Obj} {kvs : List (Key × V)} {g : TG} {tb : TS} {D : Ends} {σ : L2.St} {H : Hp} (Pv : Nat → L2.St → Hp → Prop) (h0 : Pv 0 σ H) (hf : ∀ i σ H, i ≤ kvs.length → Pv i σ H → H d = some (.frz o (.dK kvs)))
    (hs : ∀ i k v T σ H, kvs[i]? = some (k, v) → Pv i σ H → H T = none → g (.ref T) σ (upd H T (.tup [kV k, v])) fun σ2 H2 => tb { D with nx := Pv (i + 1), ct := Pv (i + 1), bk := D.nx } σ2 H2) (hd : ∀ σ H, Pv kvs.length σ H → D.nx σ H) :
    ∃ W : Nat → Nat → L2.St → Hp → Prop, (∃ m, W 0 m σ H) ∧ ∀ i m σ H, W i m σ H →
      ((Iti d o kvs).stop i H ∧ D.nx σ H) ∨ ((Iti d o kvs).go i H ∧ ∃ N : L2.St → Hp → Prop, (∀ σ' H', N σ' H' → ∃ m', m' < m ∧ W (i + 1) m' σ' H') ∧ ∀ v H', (Iti d o kvs).yld i H v H' → g v σ H' fun σ2 H2 => tb { D with nx := N, ct := N, bk := D.nx } σ2 H2) := by
  refine ⟨fun i m σ H => m = kvs.length - i ∧ i ≤ kvs.length ∧ Pv i σ H, ⟨kvs.length, by simp, Nat.zero_le _, h0⟩, ?_⟩
  rintro i m σ H ⟨rfl, hi, p⟩
  by_cases h : i < kvs.length
  · refine .inr ⟨⟨hf i σ H hi p, h⟩, Pv (i + 1), fun σ' H' q => ⟨kvs.length - (i + 1), by omega, rfl, by omega, q⟩, ?_⟩
    rintro v H' ⟨T, k, v', hk, rfl, hT, rfl⟩
    exact hs i k v' T σ H hk p hT
  · have e : i = kvs.length := by omega
    subst e
    exact .inl ⟨⟨hf _ σ H hi p, Nat.le_refl _⟩, hd σ H p⟩
def delS (l : AL) (x : Str) : AL := l.filter fun p => !decide (p.1 = x)
theorem find_del (x y : Str) : ∀ l : AL, ((delS l x).find? fun p => decide (p.1 = y)) = if y = x then none else l.find? fun p => decide (p.1 = y)
  | [] => by unfold delS; simp
  | p :: r => by
    have ih := find_del x y r
    by_cases hp : p.1 = x
    · have e : delS (p :: r) x = delS r x := by unfold delS; rw [List.filter_cons_of_neg (by simp [hp])]
      rw [e, ih]
      by_cases hy : y = x
      · rw [if_pos hy, if_pos hy]
      · rw [if_neg hy, if_neg hy, List.find?_cons, decide_eq_false (show ¬ p.1 = y from fun z => hy (by rw [← z, hp]))]
    · have e : delS (p :: r) x = p :: delS r x := by unfold delS; rw [List.filter_cons_of_pos (by simp [hp])]
      rw [e, List.find?_cons, List.find?_cons]
      by_cases hy : p.1 = y
      · rw [decide_eq_true hy, if_neg (fun z => hp (hy.trans z))]
      · rw [decide_eq_false hy]
        exact ih
theorem stg_del (l : AL) (x : Str) : stg (delS l x) = (stg l).del x := by
  funext y
  show ((delS l x).find? fun p => decide (p.1 = y)).map (·.2) = if y = x then none else (l.find? fun p => decide (p.1 = y)).map (·.2)
  rw [find_del]
  split <;> rfl
theorem put_del (s : Stg) (x : Str) (n : Int) : (s.del x).put x n = s.put x n := by
  funext y
  unfold Stg.put Stg.del
  by_cases h : y = x
  · rw [if_pos h, if_pos h]
  · rw [if_neg h, if_neg h, if_neg h]
theorem dS_get {l : AL} {i : Nat} {k : Key} {u : V} (h : (dS l)[i]? = some (k, u)) : ∃ p, l[i]? = some p ∧ k = Sum.inr p.1 ∧ u = .int p.2 := by
  unfold dS at h
  rw [List.getElem?_map] at h
  obtain ⟨p, hp, e⟩ := Option.map_eq_some_iff.mp h
  cases e
  exact ⟨p, hp, rfl, rfl⟩
theorem delS_len (l : AL) (x : Str) : (delS l x).length ≤ l.length := List.length_filter_le _ _
theorem AOk.del {l : AL} (h : AOk l) (x : Str) : AOk (delS l x) := by
  refine ⟨?_, fun p hp => h.nm p (List.mem_filter.mp hp).1⟩
  have : ((delS l x).map (·.1)).Sublist (l.map (·.1)) := List.Sublist.map _ List.filter_sublist
  exact this.nodup h.nd
theorem putS_new {l : AL} {x : Str} {n : Int} (h : x ∉ l.map (·.1)) : putS l x n = l ++ [(x, n)] := by
  unfold putS
  rw [if_neg]
  intro z
  obtain ⟨p, hp, e⟩ := List.any_eq_true.mp z
  exact h (List.mem_map.mpr ⟨p, hp, of_decide_eq_true e⟩)
/-- the items but one name's, put one by one -/
theorem del_step {l : AL} (h : (l.map (·.1)).Nodup) {i : Nat} {p : Str × Int} (x : Str) (hp : l[i]? = some p) : delS (l.take (i + 1)) x = if p.1 = x then delS (l.take i) x else putS (delS (l.take i) x) p.1 p.2 := by
  have e1 : l.take (i + 1) = l.take i ++ [p] := by rw [List.take_add_one, hp]; rfl
  have e2 : delS (l.take (i + 1)) x = delS (l.take i) x ++ delS [p] x := by rw [e1]; unfold delS; rw [List.filter_append]
  rw [e2]
  by_cases hx : p.1 = x
  · rw [if_pos hx]
    have : delS [p] x = [] := by unfold delS; rw [List.filter_cons_of_neg (by simp [hx])]; rfl
    rw [this, List.append_nil]
  · rw [if_neg hx]
    have : delS [p] x = [p] := by unfold delS; rw [List.filter_cons_of_pos (by simp [hx])]; rfl
    rw [this, putS_new]
    intro hm
    obtain ⟨q, hq, eq⟩ := List.mem_map.mp hm
    have hq' : q ∈ l.take i := (List.mem_filter.mp hq).1
    have nd : ((l.take (i + 1)).map (·.1)).Nodup := ((List.take_sublist _ _).map _).nodup h
    rw [e1, List.map_append] at nd
    have := (List.nodup_append.mp nd).2.2 q.1 (List.mem_map.mpr ⟨q, hq', rfl⟩) p.1 (by simp)
    exact this eq
/-- the contract of a fold: the law's and the program's -/
def spFold (n : Nat) : Sp := fun vs H Q _ => ∃ (v : V) (e : Ex) (d : Addr) (l : AL), vs = [v, .ref d] ∧ Bears H v e ∧ e.ok ∧ e.deep ≤ n ∧ H d = some (.dK (dS l)) ∧ AOk l ∧ l.length + e.deep ≤ 1000 ∧
  ∀ (H' : Hp) (r : V), Same H H' → Bears H' r (fold e (stg l)) → Q r H'
theorem spLFold0 : FnOk P w K mg base CX0 0 f fd ["_law_expr", "_law_known"] (spFold 0) := by
  have no : ∀ vs H Q E, ¬ spFold 0 vs H Q E := fun vs H Q E h => by
    obtain ⟨v, e, _, _, _, _, _, h1, _⟩ := h
    have := e.deep_pos
    omega
  exact ⟨fun vs H Q E h => absurd h (no vs H Q E), fun A outer s H args us vs Q E _ _ _ _ h => absurd h (no vs H Q E)⟩
theorem op_let' (o : Op) : (!decide (V.str o.str = V.str "let")) = true := by rw [op_let]; rfl
def rDUpd : V → List V → Hp → VK → Prop := fun x vs H Q => ∃ (a b : Addr) (ks ls : List (Key × V)), x = .ref a ∧ vs = [.ref b] ∧ a ≠ b ∧ H a = some (.dK ks) ∧ H b = some (.dK ls) ∧ ks.length + ls.length ≤ sizeLine ∧ Q .non (upd H a (.dK (mergeK ks ls)))
theorem mtd_update {X : Cx} : MtR X "dict.update" rDUpd := by
  intro pins s σ H x vs v us Q I rx rv h
  obtain ⟨a, b, ks, ls, ex, ev, ne, ea, eb, hz, q⟩ := h
  subst ex
  subst ev
  obtain rfl : v = Value.ref a := rx
  obtain ⟨u, rfl, ru⟩ := rv.one
  obtain rfl : u = Value.ref b := ru
  obtain ⟨_, hda, va, ra, da⟩ := dk_of I.hok ea
  obtain ⟨_, hdb, vb, rb, db⟩ := dk_of I.hok eb
  refine call_meetsIn PySem.F.slot_dict_update da.typeIs PySem.F.entry_dict_update (PySem.F.args_dict_update_2 _ _) (meets_dict_update (mixKind X.prog X.w) a b ne hdb) ⟨va, vb, da, db, by rw [← ra.length, ← rb.length]; exact hz, fun h' dd' _ hs => ?_⟩
  have he : ∃ q, h'.get? a = some q := let ⟨q, _, _, hq, _⟩ := dd'; ⟨q, hq⟩
  have hl := length_mergeK ls ks
  exact ⟨.non, _, d_write (t' := s.toks) I (by rw [ea]; exact True.intro) hs he (dk_new (by omega) hda (KV.merge rb ra) dd'), rfl, q⟩
theorem merge_dS : ∀ (b a : AL), ((a ++ b).map (·.1)).Nodup → mergeK (dS a) (dS b) = dS (a ++ b)
  | [], a, _ => by rw [List.append_nil]; rfl
  | p :: r, a, h => by
    have hp : p.1 ∉ a.map (·.1) := fun z => by
      rw [List.map_append] at h
      exact (List.nodup_append.mp h).2.2 p.1 z p.1 List.mem_cons_self rfl
    have e : mergeK (dS a) (dS (p :: r)) = mergeK (putK (dS a) (Sum.inr p.1 : Key) (.int p.2)) (dS r) := rfl
    rw [e, dS_put, putS_new hp, merge_dS r (a ++ [(p.1, p.2)]) (by rw [List.append_assoc]; exact h), List.append_assoc]
    rfl
theorem merge_nil {l : AL} (h : AOk l) : mergeK [] (dS l) = dS l := merge_dS l [] h.nd
theorem stg_of : ∀ {l : AL} {p : Str × Int}, (l.map (·.1)).Nodup → p ∈ l → stg l p.1 = some p.2
  | q :: r, p, h, hp => by
    rw [List.map_cons, List.nodup_cons] at h
    unfold stg
    rw [List.find?_cons]
    rcases List.mem_cons.mp hp with e | hr
    · rw [e, decide_eq_true rfl]
      rfl
    · have ne : q.1 ≠ p.1 := fun z => h.1 (by rw [z]; exact List.mem_map.mpr ⟨p, hr, rfl⟩)
      rw [decide_eq_false ne]
      exact stg_of h.2 hr
theorem dS_self {l : AL} (h : AOk l) : ∀ p ∈ dS l, valV (dS l) p.1 = some p.2 ∧ flatB p.2 = true := fun p hp => by
  obtain ⟨q, hq, rfl⟩ := List.mem_map.mp hp
  exact ⟨(dS_val l q.1).trans (by rw [stg_of h.nd hq]; rfl), rfl⟩
end
end FC
namespace FC
open PySem L2 StX PyProof.Rows
/-! ### what is told of a value: its kinds, and compared -/
def Rs.ok : Rs → Prop
  | .is n => NumOk n
  | .unset x => NameOk x
  | _ => True
theorem made_unset (o : Op) (x y : Int) (w : Str) : made o x y ≠ .unset w := by
  unfold made
  intro h
  split at h
  · cases h
  · split at h <;> cases h
theorem made_rok (o : Op) (x y : Int) : (made o x y).ok := by
  cases h : made o x y with
  | is k => exact made_ok h
  | unset w => exact absurd h (made_unset o x y w)
  | nought => exact True.intro
  | great => exact True.intro
theorem Rs.ok.bind {r : Rs} {f : Int → Rs} (h : r.ok) (hf : ∀ n, r = .is n → (f n).ok) : (r.bind f).ok := by
  cases r with
  | is n => exact hf n rfl
  | unset w => exact h
  | nought => exact True.intro
  | great => exact True.intro
theorem value_rok : ∀ (e : Ex) {s : Stg}, e.ok → s.ok → (value e s).ok
  | .num n, s, ok, _ => ok
  | .nam w, s, ok, hs => by
    unfold value
    cases h : s w with
    | none => exact ok
    | some n => exact hs w n h
  | .two o a b, s, ok, hs => (value_rok a ok.1 hs).bind fun x _ => (value_rok b ok.2 hs).bind fun y _ => made_rok o x y
  | .whn c a b, s, ok, hs => (value_rok c ok.1 hs).bind fun n _ => by
    split
    · exact value_rok a ok.2.1 hs
    · exact value_rok b ok.2.2 hs
  | .lett w a b, s, ok, hs => (value_rok a ok.2.1 hs).bind fun n h => value_rok b ok.2.2 (hs.put w (value_ok a ok.2.1 hs h))
def rsD : Rs → PyData
  | .is n => .tuple [.str "is", .int n]
  | .unset x => .tuple [.str "unset", .str x]
  | .nought => .tuple [.str "nought", .str ""]
  | .great => .tuple [.str "great", .str ""]
/-- a reference to the tuple of what is told -/
def HasR (H : Hp) (v : V) (r : Rs) : Prop := ∃ p, v = .ref p ∧ H p = some (.tup (rsL r))
theorem HasR.mono {H H' : Hp} {v : V} {r : Rs} (h : HasR H v r) (g : Tups H H') : HasR H' v r := by
  obtain ⟨p, e, hp⟩ := h
  exact ⟨p, e, g _ _ hp⟩
theorem HasR.dp {K : PySem.W.Frag} {H : Hp} {v : V} {r : Rs} (h : HasR H v r) : Dp K H v (rsD r) := by
  obtain ⟨p, rfl, hp⟩ := h
  cases r with
  | is n => exact .tup (.inl (.inl hp)) (.cons (.str _) (.cons (.int _) .nil))
  | unset x => exact .tup (.inl (.inl hp)) (.cons (.str _) (.cons (.str _) .nil))
  | nought => exact .tup (.inl (.inl hp)) (.cons (.str _) (.cons (.str _) .nil))
  | great => exact .tup (.inl (.inl hp)) (.cons (.str _) (.cons (.str _) .nil))
theorem NameOk.strOk {x : Str} (h : NameOk x) : PyData.strOk x = true := h.2.2.strOk
theorem rsD_lay (r : Rs) (h : r.ok) : (rsD r).canLay0 = true := by
  have c1 : PyData.strOk "is" = true := by decide +kernel
  have c2 : PyData.strOk "unset" = true := by decide +kernel
  have c3 : PyData.strOk "nought" = true := by decide +kernel
  have c4 : PyData.strOk "great" = true := by decide +kernel
  have c5 : PyData.strOk "" = true := by decide +kernel
  cases r with
  | is n => simp [rsD, PyData.canLay0, PyData.canLayAll0, c1]
  | unset x => simp [rsD, PyData.canLay0, PyData.canLayAll0, c2, NameOk.strOk h]
  | nought => simp [rsD, PyData.canLay0, PyData.canLayAll0, c3, c5]
  | great => simp [rsD, PyData.canLay0, PyData.canLayAll0, c4, c5]
theorem rsD_depth (r : Rs) : (rsD r).depth ≤ 1 := by
  cases r <;> simp [rsD, PyData.depth, PyData.depthAll]
theorem rsD_eq (a b : Rs) : PyData.eqv (rsD a) (rsD b) = decide (a = b) := by
  have n1 : ¬ (Str.ofString "is" = Str.ofString "unset") := by decide
  have n2 : ¬ (Str.ofString "is" = Str.ofString "nought") := by decide
  have n3 : ¬ (Str.ofString "is" = Str.ofString "great") := by decide
  have n4 : ¬ (Str.ofString "unset" = Str.ofString "nought") := by decide
  have n5 : ¬ (Str.ofString "unset" = Str.ofString "great") := by decide
  have n6 : ¬ (Str.ofString "nought" = Str.ofString "great") := by decide
  cases a <;> cases b <;> simp [rsD, PyData.eqv, PyData.eqvAll, n1, n2, n3, n4, n5, n6, Ne.symm n1, Ne.symm n2, Ne.symm n3, Ne.symm n4, Ne.symm n5, Ne.symm n6]
  all_goals rfl
def rEqR (neg : Bool) : R2 := fun x y H Q => ∃ a b : Rs, HasR H x a ∧ HasR H y b ∧ a.ok ∧ b.ok ∧ Q (.bl (if neg = true then !decide (a = b) else decide (a = b))) H
theorem op_eqR {X : Cx} (hu : X.A.units + 200 < cLine) : OpR X (compareOp .Eq) (rEqR false) := by
  intro pins s σ H x y v u Q I rx ry h
  obtain ⟨a, b, ba, bb, oa, ob, q⟩ := h
  obtain ⟨as, r1⟩ := Dp.reads I (rsD a) x v ba.dp rx
  obtain ⟨bs, r2⟩ := Dp.reads I (rsD b) y u bb.dp ry
  have h1 := rsD_depth a
  have h2 := rsD_depth b
  exact SeqAt.compareEq_reads r1 r2 (rsD_lay a oa) (rsD_lay b ob) (by omega) ⟨.bl _, H, I, by rw [rsD_eq]; rfl, q⟩
theorem op_neR {X : Cx} (hu : X.A.units + 200 < cLine) : OpR X (compareOp .NotEq) (rEqR true) := by
  intro pins s σ H x y v u Q I rx ry h
  obtain ⟨a, b, ba, bb, oa, ob, q⟩ := h
  obtain ⟨as, r1⟩ := Dp.reads I (rsD a) x v ba.dp rx
  obtain ⟨bs, r2⟩ := Dp.reads I (rsD b) y u bb.dp ry
  have h1 := rsD_depth a
  have h2 := rsD_depth b
  exact SeqAt.compareNe_reads r1 r2 (rsD_lay a oa) (rsD_lay b ob) (by omega) ⟨.bl _, H, I, by rw [rsD_eq]; rfl, q⟩
/-! ### one dict laid over another -/
def putAll (a b : AL) : AL := b.foldl (fun acc p => putS acc p.1 p.2) a
theorem merge_all : ∀ (b a : AL), mergeK (dS a) (dS b) = dS (putAll a b)
  | [], a => rfl
  | p :: r, a => by
    have e : mergeK (dS a) (dS (p :: r)) = mergeK (putK (dS a) (Sum.inr p.1 : Key) (.int p.2)) (dS r) := rfl
    rw [e, dS_put, merge_all r]
    rfl
theorem AOk.putAll : ∀ {b a : AL}, AOk a → (∀ p ∈ b, NameOk p.1 ∧ NumOk p.2) → AOk (putAll a b)
  | [], a, h, _ => h
  | p :: r, a, h, hb => by
    have hp := hb p List.mem_cons_self
    exact AOk.putAll (b := r) (h.put hp.1 hp.2) fun q hq => hb q (List.mem_cons_of_mem _ hq)
theorem putAll_len : ∀ (b a : AL), (putAll a b).length ≤ a.length + b.length
  | [], a => Nat.le_refl _
  | p :: r, a => by
    have h1 := putAll_len r (putS a p.1 p.2)
    have h2 := putS_len a p.1 p.2
    show (putAll (putS a p.1 p.2) r).length ≤ _
    rw [List.length_cons]
    omega
theorem stg_cons (p : Str × Int) (r : AL) (x : Str) : stg (p :: r) x = if p.1 = x then some p.2 else stg r x := by
  unfold stg
  rw [List.find?_cons]
  by_cases h : p.1 = x
  · rw [decide_eq_true h, if_pos h]
    rfl
  · rw [decide_eq_false h, if_neg h]
theorem stg_none {l : AL} {x : Str} (h : x ∉ l.map (·.1)) : stg l x = none := by
  unfold stg
  rw [List.find?_eq_none.mpr]
  · rfl
  · intro p hp z
    exact h (List.mem_map.mpr ⟨p, hp, of_decide_eq_true z⟩)
theorem stg_putAll : ∀ (b a : AL) (x : Str), (b.map (·.1)).Nodup → stg (putAll a b) x = match stg b x with | some n => some n | none => stg a x
  | [], a, x, _ => rfl
  | p :: r, a, x, h => by
    rw [List.map_cons, List.nodup_cons] at h
    show stg (putAll (putS a p.1 p.2) r) x = _
    rw [stg_putAll r _ x h.2, stg_put, stg_cons]
    unfold Stg.put
    by_cases e : p.1 = x
    · subst e
      rw [stg_none h.1, if_pos rfl, if_pos rfl]
    · rw [if_neg e, if_neg (Ne.symm e)]
end FC
namespace FC
open PySem L2 StX PyProof.Rows
theorem stg_mem {l : AL} {x : Str} {n : Int} (h : stg l x = some n) : (x, n) ∈ l := by
  unfold stg at h
  obtain ⟨p, hp, e⟩ := Option.map_eq_some_iff.mp h
  have h1 := List.mem_of_find?_eq_some hp
  have h2 : p.1 = x := by have := List.find?_some hp; simpa using this
  have : p = (x, n) := Prod.ext h2 e
  rw [← this]
  exact h1
/-! ### known numbers dealt out -/
structure Dealt (l0 l1 l : AL) (i : Nat) : Prop where
  a0 : AOk l0
  a1 : AOk l1
  n0 : l0.length ≤ i
  n1 : l1.length ≤ i
  le0 : (stg l0).le (stg l)
  le1 : (stg l1).le (stg l)
  cov : ∀ q ∈ l.take i, stg l0 q.1 = some q.2 ∨ stg l1 q.1 = some q.2
theorem Dealt.sym {l0 l1 l : AL} {i : Nat} (h : Dealt l0 l1 l i) : Dealt l1 l0 l i := ⟨h.a1, h.a0, h.n1, h.n0, h.le1, h.le0, fun q hq => (h.cov q hq).symm⟩
theorem Dealt.nil (l : AL) : Dealt [] [] l 0 := ⟨.nil, .nil, Nat.le_refl _, Nat.le_refl _, fun _ _ z => (by cases z), fun _ _ z => (by cases z), fun q hq => (by simp at hq)⟩
theorem Dealt.put {l0 l1 l : AL} {i : Nat} {p : Str × Int} (h : Dealt l0 l1 l i) (hA : AOk l) (hp : l[i]? = some p) : Dealt (putS l0 p.1 p.2) l1 l (i + 1) := by
  have hm := List.mem_of_getElem? hp
  have hs := stg_of hA.nd hm
  have e1 : l.take (i + 1) = l.take i ++ [p] := by rw [List.take_add_one, hp]; rfl
  have same : ∀ q ∈ l, q.1 = p.1 → q.2 = p.2 := fun q hq e => by
    have h1 := stg_of hA.nd hq
    rw [e, hs] at h1
    exact (Option.some.inj h1).symm
  refine ⟨h.a0.put (hA.nm p hm).1 (hA.nm p hm).2, h.a1, ?_, by have := h.n1; omega, fun w n e => ?_, h.le1, fun q hq => ?_⟩
  · have h1 := putS_len l0 p.1 p.2
    have h2 := h.n0
    omega
  · rw [stg_put] at e
    unfold Stg.put at e
    split at e
    · rename_i hw
      cases e
      rw [hw]
      exact hs
    · exact h.le0 w n e
  · rw [stg_put]
    unfold Stg.put
    by_cases e : q.1 = p.1
    · refine .inl ?_
      have hq' : q ∈ l := List.mem_of_mem_take hq
      rw [if_pos e, same q hq' e]
    · rw [if_neg e]
      rw [e1] at hq
      rcases List.mem_append.mp hq with hq | hq
      · exact h.cov q hq
      · rw [List.mem_singleton.mp hq] at e
        exact absurd rfl e
/-- what is known is known to one of the two -/
theorem Dealt.known {l0 l1 l : AL} (h : Dealt l0 l1 l l.length) {x : Str} (h0 : stg l0 x = none) (h1 : stg l1 x = none) : stg l x = none := by
  cases e : stg l x with
  | none => rfl
  | some n =>
    have hm := stg_mem e
    rcases h.cov (x, n) (by rw [List.take_length]; exact hm) with z | z
    · rw [h0] at z; cases z
    · rw [h1] at z; cases z
end FC
namespace FC
open PySem L2 StX PySem.Spec PyProof.Rows
/-- a class B of the program over ValueError, its __init__ the one that it inherits -/
structure InitB (K : PySem.W.Frag) (mg : Str → Option Value) (x : Str) (B : Addr) (mc : Value) : Prop where
  m : mg x = some (.ref B)
  rd : ClX.CRead K B mc
  at_ : PySem.W.findCls K (.ref B) mc "__init__" = some (.val (.builtin "ValueError.__init__"))
  dbg : (x == ("__debug__" : Str)) = false
/-- B.__init__(self, ..) within the __init__ of a class below B -/
theorem pe_base_init {X : Cx} {a : Expr} {as : List Expr} {ta : TA} {q1 q2 q : Pos} {pl : Sem Bool} {x : Str} {B : Addr} {mc : Value} (b : InitB X.K X.mg x B mc) (hg : Gl X x) (ha : PA X (a :: as) ta)
    (way : eval (.Call (.Attribute (.Name x q1) "__init__" q2) (a :: as) [] q) X.env = (eval (.Name x q1) X.env >>= fun o => standAt q2.atName >>= fun _ => holding [o] (getMethod o "__init__" pl) >>= fun r => callWith q r.1 r.2 (backTo q (starEach (a :: as) X.env)) (backToKw q (keywordEach [] X.env))) := by rfl)
    (one : starEach (a :: as) X.env = (false, eval a X.env) :: starEach as X.env := by rfl) (plain : (backTo q (starEach as X.env)).any (·.1) = false := by rfl) :
    PE X (.Call (.Attribute (.Name x q1) "__init__" q2) (a :: as) [] q) (tVeI X.K ta) := by
  constructor
  intro pins s σ H Q I wish
  have attr := fun (s1 : Shared) (J : Inv X pins σ H s1) (R : Value × List Value → Shared → Prop) (E : Value → Shared → Prop) (A : Around) (k : ∀ s2, Inv X pins σ H s2 → R (.builtin "ValueError.__init__", []) s2) =>
    PySem.W.method_cls (prog := X.prog) (w := X.w) (A := A) (E := E) (pl := pl) (Q := R) J.kIn b.rd.ga (PySem.W.cls_value J.kIn b.rd.rd b.at_ (by decide +kernel) (k _ (J.tok _)))
  refine PySem.W.methodCall_KW (ld_glob I hg b.m (attr s I _ _ _ fun s2 J => ?_) b.dbg) way
  refine callWith_method1 (thn (ha.run q pins _ σ H _ J wish) ?_) one plain
  rintro us s3 ⟨vs, H3, J3, rel, x0, C, ws, rfl, few, T, at0, done⟩
  rcases rel with _ | ⟨r0, rs⟩
  rw [show _ = Value.ref x0 from r0]
  have room := Paired.length rs
  exact oinit_ok T J3 at0 (by rw [← room, sizeLine_eq]; omega) fun s4 J4 => ⟨.non, H3, J4, rfl, done⟩
end FC
namespace FC
open PySem L2
def top (i : Nat) : Stmt := PySem.Challenge.pw_foldercode_k10_whole_same_value.main.body.getD i (.Pass ⟨0, 0, 0, 0⟩)
abbrev c_FoldError : Stmt := top 1
abbrev c_Unset : Stmt := top 2
abbrev c_ByNought : Stmt := top 3
abbrev c_TooGreat : Stmt := top 4
abbrev s_reckoned : Stmt := top 7
abbrev s_within : Stmt := top 8
abbrev s_value : Stmt := top 9
abbrev s_number_of : Stmt := top 10
abbrev s_joined : Stmt := top 13
abbrev s_settled : Stmt := top 14
abbrev s_by_number : Stmt := top 15
abbrev s_plus : Stmt := top 16
abbrev s_same_side : Stmt := top 17
abbrev s_times : Stmt := top 18
abbrev s_part : Stmt := top 19
abbrev s_rest : Stmt := top 20
abbrev s_has_number : Stmt := top 21
abbrev s_chosen : Stmt := top 22
abbrev s_folded : Stmt := top 23
abbrev s_folded_let : Stmt := top 24
abbrev sMixed : Stmt := top 26
abbrev sCellAt : Stmt := top 27
abbrev sWhole : Stmt := top 28
abbrev sNumBy : Stmt := top 29
abbrev sNameBy : Stmt := top 30
abbrev sStep : Stmt := top 31
abbrev sTreeBy : Stmt := top 32
abbrev sLink : Stmt := top 33
abbrev sManyBy : Stmt := top 34
abbrev sExprBy : Stmt := top 35
abbrev s_law_count : Stmt := top 36
abbrev s_law_known_by : Stmt := top 37
abbrev s_law_setting_by : Stmt := top 38
abbrev s_law_made : Stmt := top 39
abbrev s_law_value : Stmt := top 40
abbrev s_law_told : Stmt := top 41
abbrev s_law_is_name : Stmt := top 42
abbrev s_law_is_expr : Stmt := top 43
abbrev s_law_layers_right : Stmt := top 44
abbrev sLaw : Stmt := top 45
end FC
namespace PySem
open Sem (wp)
section
variable {prog : Program} {w : World} {K : Type} [DecidableEq K] {knd : KeyKind prog w K} {A : Around} {E : Value → Shared → Prop} {s : Shared}
theorem fc_put {d : Addr} {kvs : List (K × Value)} {k : K} {key v : Value} {Q : Unit → Shared → Prop} (hkey : knd.is k key = true) (hm : s.heap.DictOf knd d kvs)
    (hQ : ∀ h', h'.DictOf knd d (stored kvs k v) → Heap.SameBut d s.heap h' → Q () { s with heap := h' })
    (hsz : kvs.length ≤ sizeLine := by size_fits) :
    wpAny (model prog w) A (dictPut d (knd.hash k) key v) Q E s := by
  obtain ⟨o, es, ep, ho, hc, hd, hk, hp, hn⟩ := hm
  have hes : es.size ≤ sizeLine := by have e1 := hp.length; have e2 : es.toList.length = es.size := by simp
                                      omega
  unfold dictPut
  refine wpAny_bind (wpAny_dictFind_of hkey ho hd hk ?_)
  have hidx : (es.findIdx? fun e => knd.is k e.key) = kvs.findIdx? fun kv => decide (kv.1 = k) := by
    rw [← hp.findIdx k]; obtain ⟨l⟩ := es; simp
  cases hi : es.findIdx? fun e => knd.is k e.key with
  | some i =>
    refine wpAny_updateDict ho hd (hQ _ ⟨_, _, ep, Heap.get?_update_self _ ho (Obj.isFreed_of_dict (Obj.data_mapDict hd _)),
      hc.mapDict _, Obj.data_mapDict hd _, hk.modify _ _, ?_, ?_⟩ (Heap.SameBut.update ..))
    · rw [stored, if_pos (any_of_findIdx_some (hidx ▸ hi))]
      have hl : (es.toList.findIdx? fun e => knd.is k e.key) = some i := by rw [← hi]; obtain ⟨l⟩ := es; simp
      have := hp.modify hn hl v
      obtain ⟨l⟩ := es
      simpa using this
    · rw [stored, if_pos (any_of_findIdx_some (hidx ▸ hi)), keys_map_store]; exact hn
  | none =>
    have hnot : k ∉ kvs.map (·.1) := not_mem_of_findIdx_none (hidx ▸ hi)
    have hany : ¬ (kvs.any fun kv => decide (kv.1 = k)) = true := by
      rw [List.any_eq_true]; rintro ⟨kv, hkv, he⟩
      exact hnot (List.mem_map.mpr ⟨kv, hkv, of_decide_eq_true he⟩)
    refine wpAny_updateDictKeys (hz := hes) ho hd (hQ _ ⟨_, _, ep + 1, Heap.get?_update_self _ ho (Obj.isFreed_of_dict (Obj.data_mapDictKeys hd _)),
      hc.mapDictKeys _, Obj.data_mapDictKeys hd _, hk.push hkey _, ?_, ?_⟩ (Heap.SameBut.update ..))
    · rw [stored, if_neg hany]
      have := hp.append hkey (knd.hash k) v
      obtain ⟨l⟩ := es
      simpa using this
    · rw [stored, if_neg hany, List.map_append, List.nodup_append]
      refine ⟨hn, by simp, ?_⟩
      intro a ha b hb
      simp only [List.map_cons, List.map_nil, List.mem_singleton] at hb
      subst hb
      exact fun e => hnot (e ▸ ha)
/-- a plain dict's pairs, put into another dict one by one: a display's two stars -/
theorem fc_merge {d o : Addr} {kvs more : List (K × Value)} {Q : Unit → Shared → Prop} (hdo : d ≠ o) (hoS : (o == sysModules) = false) (hnr : ∀ (k : K) (v : Value), knd.is k v = true → ∀ a, v ≠ .ref a)
    (hd : s.heap.DictOf knd d kvs) (ho : s.heap.DictOf knd o more)
    (hQ : ∀ h', h'.DictOf knd d (merged kvs more) → h'.DictOf knd o more → Heap.SameBut d s.heap h' → Q () { s with heap := h' })
    (hsz : kvs.length + more.length ≤ sizeLine := by size_fits) :
    wpAny (model prog w) A (mergeMapping d (.ref o) false) Q E s := by
  obtain ⟨od, esd, epd, hod, hcd, hdd, hkd, hpd, hnd⟩ := id hd
  obtain ⟨oo, eso, epo, hoo, hco, hdo', hko, hpo, hno⟩ := id ho
  unfold mergeMapping
  refine wpAny_bind (wpAny_isInstance ho.typeIs isSubtype_dict_dict ?_)
  dsimp only
  rw [if_pos rfl]
  refine wpAny_bind (wpAny_specialOf ho.typeIs F.slot_dict_iter.lookup ?_)
  simp only [beq_self_eq_true, pure_bind]
  rw [if_neg (by rw [hoS]; exact Bool.false_ne_true)]
  have hlen : more.length = eso.size := by rw [← hpo.length]; simp
  have loop : wpAny (model prog w) A (do
      let l ← dictEntries o
      let epoch ← dictEpoch o
      forIn (List.range l.size) PUnit.unit fun i (_ : PUnit) => (do
          let l' ← dictEntries o
          match l'[i]? with
            | some e => do
              holding [e.key, e.val] (dictPut d e.hash e.key e.val)
              let ep' ← dictEpoch o
              if (ep' != epoch) = true then do
                  (unsupported "dict.changed-during-merge" : Sem PUnit)
                  pure (ForInStep.yield PUnit.unit)
                else pure (ForInStep.yield PUnit.unit)
            | _ => do
              (unsupported "dict.changed-during-merge" : Sem PUnit)
              pure (ForInStep.yield PUnit.unit) : Sem (ForInStep PUnit))
      pure ()) Q E s := by
    refine wpAny_bind (wpAny_dictEntries hoo hdo' ?_)
    refine wpAny_bind (wpAny_dictEpoch hoo hdo' ?_)
    refine wpAny_bind ?_
    refine wpAny_forIn_list _
      (fun rest _ s' => ∃ h' i, s' = { s with heap := h' } ∧ rest = List.range' i (eso.size - i) ∧ i ≤ eso.size ∧ h'.DictOf knd d (merged kvs (more.take i)) ∧ h'.get? o = some oo ∧ Heap.SameBut d s.heap h')
      _ ?_ ?_ _ _ ⟨s.heap, 0, rfl, by simp [List.range_eq_range'], Nat.zero_le _, by simpa [merged] using hd, hoo, Heap.SameBut.refl _ _⟩
    · rintro x rest b s' ⟨h', i, rfl, hr, hi, hd', hoo', hs'⟩
      have hlt : i < eso.size := by
        rcases Nat.lt_or_ge i eso.size with h | h
        · exact h
        · rw [Nat.sub_eq_zero_of_le h] at hr; simp at hr
      obtain ⟨rfl, hrest⟩ : x = i ∧ rest = List.range' (i + 1) (eso.size - (i + 1)) := by
        have e : eso.size - i = (eso.size - (i + 1)) + 1 := by omega
        rw [e, List.range'_succ] at hr
        injection hr with h1 h2
        exact ⟨h1, h2⟩
      refine wpAny_bind (wpAny_dictEntries hoo' hdo' ?_)
      rw [Array.getElem?_eq_getElem hlt]
      obtain ⟨kv, hkv⟩ : ∃ kv, more[x]? = some kv := ⟨more[x]'(by rw [hlen]; exact hlt), List.getElem?_eq_getElem _⟩
      obtain ⟨k, v⟩ := kv
      obtain ⟨hkey, hval⟩ := hpo.get? (e := eso[x]) (by simp [hlt]) hkv
      obtain ⟨k', hkey', hhash⟩ := hko eso[x] (Array.getElem_mem hlt)
      obtain rfl : k' = k := knd.inj _ _ _ hkey' hkey
      show wpAny _ _ (holding [eso[x].key, eso[x].val] (dictPut d eso[x].hash eso[x].key eso[x].val) >>= _) _ _ _
      rw [hhash, hval]
      have hmx : (merged kvs (more.take x)).length ≤ sizeLine := by
        have e1 := merged_length_le kvs (more.take x)
        have e2 : (more.take x).length ≤ more.length := by rw [List.length_take]; omega
        omega
      refine wpAny_bind (wpAny_holding (fc_put (hsz := hmx) hkey hd' fun h'' hd'' hs'' => ?_))
      have hoo'' : h''.get? o = some oo := (hs''.2 o (Ne.symm hdo)).trans hoo'
      refine wpAny_bind (wpAny_dictEpoch hoo'' hdo' ?_)
      rw [if_neg (by simp)]
      exact wpAny_pure ⟨h'', x + 1, rfl, hrest, hlt, by rw [merged_take_succ kvs more x (k', v) hkv]; exact hd'', hoo'', hs'.trans hs''⟩
    · rintro b s' ⟨h', i, rfl, hr, hi, hd', hoo', hs'⟩
      have hin : i = eso.size := by
        rcases Nat.lt_or_ge i eso.size with h | h
        · have e : eso.size - i = (eso.size - (i + 1)) + 1 := by omega
          rw [e, List.range'_succ] at hr; exact nomatch hr
        · exact Nat.le_antisymm hi h
      refine wpAny_pure (hQ h' ?_ ⟨oo, eso, epo, hoo', hco, hdo', hko, hpo, hno⟩ hs')
      rw [hin, ← hlen, List.take_length] at hd'; exact hd'
  refine wpAny_bind (wpAny_dictEntries hod hdd ?_)
  split
  · refine wpAny_bind (wpAny_dictEntries hoo hdo' ?_)
    refine wpAny_bind ?_
    rw [← Array.forIn_toList]
    refine wpAny_forIn_list _ (fun rest _ s' => s' = s ∧ ∀ e ∈ rest, e ∈ eso) _ ?_ ?_ _ _ ⟨rfl, fun e he => Array.mem_toList_iff.mp he⟩
    · rintro e rest b s' ⟨rfl, hin⟩
      obtain ⟨k, hk1, _⟩ := hko e (hin e List.mem_cons_self)
      have hne := hnr k e.key hk1
      split
      · rename_i a he
        exact absurd he (hne a)
      · exact wpAny_pure ⟨rfl, fun e' he' => hin e' (List.mem_cons_of_mem _ he')⟩
    · rintro b s' ⟨rfl, _⟩
      exact loop
  · exact loop
theorem fc_display (v k w' : Sem Value) : dictDisplay [(none, v), (some k, w')] = (do
    let d ← alloc { cls := .type "dict", data := .dict #[] }
    let m ← holding [.ref d] v
    (((holding [.ref d, m] (mergeMapping d m false)).onRaise fun x => do let _ ← holding [.ref d, m, x] (runValue (.builtin "proto.let_go" {}))).tryCatch fun e => do
        if ← isInstance e (.type "AttributeError") then
          rule "dict.display.not-a-mapping"; raiseError "TypeError" s!"'{← typeNameOf m}' object is not a mapping"
        throw e).onRaise fun x => do let _ ← holding [.ref d, x] (runValue (.builtin "proto.let_go" {}))
    let sub ← holding [.ref d] (subDict [(k, w')])
    (holding [.ref d, .ref sub] (mergeMapping d (.ref sub) false)).onRaise fun x => do let _ ← holding [.ref d, x] (runValue (.builtin "proto.let_go" {}))
    pure (.ref d)) := by
  unfold dictDisplay
  have h17 : ((1 : Nat) == 17) = false := rfl
  simp only [List.forIn_cons, List.forIn_nil, List.isEmpty_nil, if_true, pure_bind, bind_assoc, List.nil_append, List.length_cons, List.length_nil, Nat.zero_add, h17, Bool.false_eq_true, if_false, List.isEmpty_cons]
/-- {**e, k: v}: a new dict, e's pairs put into it, then the pair -/
theorem fc_star {e ke ve : Expr} {env : Env} {pos : Pos} {Q : Value → Shared → Prop} (hnr : ∀ (k : K) (v : Value), knd.is k v = true → ∀ a, v ≠ .ref a)
    (h : wpAny (model prog w) A (eval e env) (fun m s1 => ∃ o more, m = .ref o ∧ s.heap.objs.size ≠ o ∧ (o == sysModules) = false ∧ s1.heap.DictOf knd o more ∧ s1.heap.DictOf knd s.heap.objs.size [] ∧ more.length < sizeLine ∧
      ∀ h', h'.DictOf knd s.heap.objs.size (merged [] more) → Heap.SameBut s.heap.objs.size s1.heap h' →
        wpAny (model prog w) A (evalPairs (pairTrees [some ke] [ve] env pos)) (fun vs s2 => ∃ kvs mid, Carries knd vs kvs ∧ s2.heap.DictOf knd h'.objs.size [] ∧ s2.heap.DictOf knd s.heap.objs.size mid ∧ s.heap.objs.size ≠ h'.objs.size ∧ (h'.objs.size == sysModules) = false ∧ mid.length + (merged [] kvs).length ≤ sizeLine ∧
          ∀ h2 h3, h2.DictOf knd h'.objs.size (merged [] kvs) → Heap.SameBut h'.objs.size s2.heap h2 → h3.DictOf knd s.heap.objs.size (merged mid (merged [] kvs)) → Heap.SameBut s.heap.objs.size h2 h3 →
            Q (.ref s.heap.objs.size) { s2 with heap := h3, toks := s2.toks + vs.length }) E { s1 with heap := h'.push { cls := .type "dict", data := .dict #[] } })
      E { s with heap := s.heap.push { cls := .type "dict", data := .dict #[] } }) :
    wpAny (model prog w) A (eval (.Dict [none, some ke] [e, ve] pos) env) Q E s := by
  rw [arm_eval_Dict]
  show wpAny _ _ (standAt pos >>= fun _ => dictDisplay [(none, do let x ← eval e env; standAt pos; pure x), (some (eval ke env), do let x ← eval ve env; standAt pos; pure x)]) _ _ _
  rw [fc_display]
  refine wpAny_bind (wpAny_standAt (wpAny_bind (wpAny_alloc (wpAny_bind (wpAny_holding (wpAny_bind (wpAny_mono h (fun m s1 h1 => wpAny_bind (wpAny_standAt (wpAny_pure ?_))) fun _ _ z => z)))))))
  obtain ⟨o, more, rfl, ne, hS, ho, hD, hz, h2⟩ := h1
  refine wpAny_bind (wpAny_onRaise (wpAny_tryCatch (wpAny_onRaise (wpAny_holding (fc_merge (hsz := by rw [List.length_nil]; omega) ne hS hnr hD ho fun h' hm' _ hs' => ?_)))))
  refine wpAny_bind (wpAny_holding (wpAny_subDict (knd := knd) (show 1 ≤ 15 by decide) (wpAny_mono (h2 h' hm' hs') (fun vs s2 h3 => ?_) fun _ _ z => z)))
  obtain ⟨kvs, mid, hc, hsub, hdd, ne2, hS2, hlen, hq⟩ := h3
  refine ⟨kvs, hc, hsub, fun h2' hm2 hs2 => ?_⟩
  refine wpAny_bind (wpAny_onRaise (wpAny_holding (fc_merge (hsz := hlen) ne2 hS2 hnr (hdd.sameBut hs2 ne2) hm2 fun h3 hm3 _ hs3 => wpAny_pure (hq h2' h3 hm2 hs2 hm3 hs3))))
end
end PySem
namespace FC
open PySem L2 PyProof.Rows
/-- {**d, k: v}, keys ints or texts: p the new dict, q the one that the pair stands in meanwhile -/
def tStar (td tk tv : TE) : TE := fun σ H Q => ∀ p, H p = none → td σ (upd H p (.dK [])) fun x H1 => ∃ a ks, x = .ref a ∧ a ≠ p ∧ H1 a = some (.dK ks) ∧ H1 p = some (.dK []) ∧ ks.length < sizeLine ∧
  ∀ q, (upd H1 p (.dK (mergeK [] ks))) q = none → tk σ (upd (upd H1 p (.dK (mergeK [] ks))) q (.dK [])) fun y H3 => tv σ H3 fun z H4 => ∃ k, y = kV k ∧ H4 p = some (.dK (mergeK [] ks)) ∧ H4 q = some (.dK []) ∧
    Q (.ref p) (upd (upd H4 q (.dK [(k, z)])) p (.dK (putK (mergeK [] ks) k z)))
theorem mix_nr {P : Program} {w : World} (k : Key) (v : Value) (h : (mixKind P w).is k v = true) (a : Addr) : v ≠ .ref a := by
  have h' : keyIs k v = true := h
  rcases keyIs_shape h' with ⟨i, t, rfl, rfl⟩ | ⟨x, t, rfl, rfl⟩
  · exact fun z => nomatch z
  · exact fun z => nomatch z
theorem pe_star {X : Cx} {pos : Pos} {e ke ve : Expr} {td tk tv : TE} (hd : PE X e td) (hk : PE X ke tk) (hv : PE X ve tv) : PE X (.Dict [none, some ke] [e, ve] pos) (tStar td tk tv) := by
  refine ⟨fun pins s σ H Q I q => ?_⟩
  have hn := I.hok.fresh (Nat.le_refl s.heap.objs.size)
  have I1 := I.laid (a := s.heap.objs.size) (o := .dK []) (h' := s.heap.push { cls := .type "dict", data := .dict #[] }) (t' := s.toks) (fun _ _ q => Heap.get?_push_of_some _ q) (Nat.le_refl _) (dk_empty s.heap I.big)
  refine fc_star (knd := mixKind X.prog X.w) (mix_nr) (thn (hd.run pins _ σ _ _ I1 (q _ hn)) fun m s1 ⟨x, H1, I2, rx, a, ks, ex, ne, ha, hp, hz, q1⟩ => ?_)
  subst ex
  obtain rfl : m = Value.ref a := rx
  obtain ⟨z, hS, vs, rel, dd⟩ := dk_of I2.hok ha
  obtain ⟨_, hSp, vs0, r0, dp⟩ := dk_of I2.hok hp
  cases r0
  have hl : vs.length < sizeLine := by rw [← rel.length]; exact hz
  refine ⟨a, vs, rfl, Ne.symm ne, hS, dd, dp, hl, fun h' dd' hs => ?_⟩
  have rm : KV (mergeK [] ks) (merged [] vs) := KV.merge rel .nil
  have hm1 : (mergeK [] ks).length ≤ ks.length := by have := length_mergeK ks []; rw [List.length_nil] at this; omega
  have he : ∃ q, h'.get? s.heap.objs.size = some q := let ⟨q, _, _, hq, _⟩ := dd'; ⟨q, hq⟩
  have I3 : Inv X pins σ (upd H1 s.heap.objs.size (.dK (mergeK [] ks))) { s1 with heap := h', toks := s1.toks } := d_write I2 (by rw [hp]; exact True.intro) hs he (dk_new (by omega) hSp rm dd')
  have hn3 := I3.hok.fresh (Nat.le_refl h'.objs.size)
  have I4 := I3.laid (a := h'.objs.size) (o := .dK []) (h' := h'.push { cls := .type "dict", data := .dict #[] }) (t' := s1.toks) (fun _ _ q => Heap.get?_push_of_some _ q) (Nat.le_refl _) (dk_empty h' I3.big)
  have pp : PPs X pos [some ke] [ve] [(tk, tv)] := pps_cons hk hv pps_nil
  have hqq := q1 _ hn3
  refine thn (pp.run pins _ σ _ (fun ps H4 => match ps with
    | [(y, z)] => ∃ k, y = kV k ∧ H4 s.heap.objs.size = some (.dK (mergeK [] ks)) ∧ H4 h'.objs.size = some (.dK []) ∧ Q (.ref s.heap.objs.size) (upd (upd H4 h'.objs.size (.dK [(k, z)])) s.heap.objs.size (.dK (putK (mergeK [] ks) k z)))
    | _ => False) I4 hqq) fun ws s2 ⟨ps, H4, I5, rel2, qq⟩ => ?_
  match ps, qq with
  | [(y, z)], ⟨k, ey, h4p, h4q, q4⟩ =>
    subst ey
    obtain ⟨rs, c, rk⟩ := carries_of (P := X.prog) (w := X.w) (kvs := [(k, z)]) rel2
    obtain ⟨_, hSq, vs1, r1, dq⟩ := dk_of I5.hok h4q
    cases r1
    obtain ⟨_, _, vs2, r2, dp2⟩ := dk_of I5.hok h4p
    have ne2 : s.heap.objs.size ≠ h'.objs.size := fun zz => by
      rw [← zz, upd_same] at hn3
      cases hn3
    have rk1 : KV [(k, z)] (merged [] rs) := KV.merge rk .nil
    have hl2 : (mergeK [] ks).length = vs2.length := r2.length
    have hl3 : ([(k, z)] : List (Key × V)).length = (merged [] rs).length := rk1.length
    refine ⟨rs, vs2, c, dq, dp2, ne2, hSq, by rw [← hl2, ← hl3]; show (mergeK [] ks).length + 1 ≤ sizeLine; omega, fun h2 h3 hm2 hs2 hm3 hs3 => ⟨.ref s.heap.objs.size, _, ?_, rfl, q4⟩⟩
    have he2 : ∃ q, h2.get? h'.objs.size = some q := let ⟨q, _, _, hq, _⟩ := hm2; ⟨q, hq⟩
    have I6 : Inv X pins σ (upd H4 h'.objs.size (.dK [(k, z)])) { s2 with heap := h2, toks := s2.toks } := d_write I5 (by rw [h4q]; exact True.intro) hs2 he2 (dk_new (by show 1 ≤ sizeLine; decide) hSq rk1 hm2)
    have he3 : ∃ q, h3.get? s.heap.objs.size = some q := let ⟨q, _, _, hq, _⟩ := hm3; ⟨q, hq⟩
    have hp6 : (upd H4 h'.objs.size (.dK [(k, z)])) s.heap.objs.size = some (.dK (mergeK [] ks)) := by rw [upd_ne ne2]; exact h4p
    have rk2 : KV (putK (mergeK [] ks) k z) (merged vs2 (merged [] rs)) := KV.merge rk1 r2
    have hl4 := length_putK (mergeK [] ks) k z
    exact d_write (s := { s2 with heap := h2, toks := s2.toks }) I6 (by rw [hp6]; exact True.intro) hs3 he3 (dk_new (by omega) hSp rk2 hm3)
end FC
namespace FC
open PySem L2 StX PyProof.Rows
theorem ps_setDc {X : Cx} {i : Nat} {y : Str} {py : Pos} {kx vx tg iter : Expr} {ifs : List Expr} {scope : Scope} {own : List (Str × Nat)} {pos spos : Pos} {wi : TI} {g : TG} {tt : TT} {tk tv : TE} (hc : X.calm = true) (hN : X.N.Nodup) (hy : X.N[i]? = some y) (hyl : X.env.scope.names.lookup y = some .local)
    (hsw : swapsWith (.DictComp kx vx [⟨tg, iter, ifs, 0⟩] scope pos) (some (.Name y py)) spos.line X.env = pure true) (hi : PI X tg iter wi) (ok : BlkOk X.N X.env.scope scope own)
    (hg : ∀ (s : Shared) (H : Hp) (C : Addr) (cl : List (Str × Addr)) (fp : List Addr), PG (X.blk s H scope (compEnvC scope cl C X.env) fp) tg g) (ht : ∀ (s : Shared) (H : Hp) (C : Addr) (cl : List (Str × Addr)) (fp : List Addr), PTs (X.blk s H scope (compEnvC scope cl C X.env) fp) ifs tt)
    (hk : ∀ (s : Shared) (H : Hp) (C : Addr) (cl : List (Str × Addr)) (fp : List Addr), PE (X.blk s H scope (compEnvC scope cl C X.env) fp) kx tk)
    (he : ∀ (s : Shared) (H : Hp) (C : Addr) (cl : List (Str × Addr)) (fp : List Addr), PE (X.blk s H scope (compEnvC scope cl C X.env) fp) vx tv) (hs : ∀ x, foldedSetIterable iter X.env x = pure x := by intro _; rfl) :
    PS X (.Assign [.Name y py] (.DictComp kx vx [⟨tg, iter, ifs, 0⟩] scope pos) spos) (tAsg (tDc wi g tt tk tv (own.map (·.2))) (gName i)) := by
  refine ⟨fun pins s σ H D I h => ?_⟩
  rw [exec_Assign_Name_used _ _ _ _ hsw]
  refine wpAny_bind (wpAny_standAt (wpAny_bind ?_))
  show wpAny _ X.A (do let _ ← comprehension (.DictComp kx vx [⟨tg, iter, ifs, 0⟩] scope pos) scope X.env (firstIterPos [⟨tg, iter, ifs, 0⟩] pos) newDict false (eval iter X.env) (some (assign (.Name y py) X.env))) _ _ s
  have h : tDc wi g tt tk tv (own.map (·.2)) σ H (fun x H1 => gName i x σ H1 D.nx) := h
  refine wpAny_bind (thn (dc_core (Qf := fun _ s' => SP X pins D .next s') hc hN I hi ok hg ht hk he hs h fun L C s' m H' I' q hn f => ?_) fun _ s' hq => wpAny_pure (wpAny_pure hq))
  show wpAny _ _ (assign (.Name y py) X.env (.ref L)) _ _ _
  refine wpAny_assign_Name (store_ok2 (v := V.ref L) I' hN hy (.inl hyl) rfl (fun s2 I2 ⟨a, sb, ha⟩ => ?_) (.inr hyl))
  obtain ⟨f0, f1, f2, f3, f4, f5⟩ := f
  have haC : C ≠ a := by
    rcases ha with z | z
    · rw [z]; exact f1
    · exact fun e => f4 y a z e.symm
  refine ⟨m, hn.sameBut sb haC, fun h3 sb3 => ?_⟩
  exact ⟨_, H', I2.turned (t' := s2.toks) (fun b o hb e => (sb3.2 b hb).trans e) f0 f1 f3 f4 f5, q⟩
theorem sw_trueD {kx vx : Expr} {gs : List Comprehension} {scope : Scope} {pos py : Pos} {y : Str} {l : Nat} {env : Env} (hk : env.scope.kind = .function) (hy : env.scope.names.lookup y = some .local) (hl : (py.line == pos.line) = true)
    (ha : (scope.names.any fun (n, k) => n == y && (k == .local || k == .cell)) = false) : swapsWith (.DictComp kx vx gs scope pos) (some (.Name y py)) l env = pure true := by
  have ky : env.kindOf y = some .local := hy
  have hb : env.blockKind = .function := by unfold Env.blockKind; rw [hk]; rfl
  unfold swapsWith
  simp only [hb, ky, ha, Expr.pos, hl]
  rfl
/-- over a dict's keys -/
theorem dc_keys {d : Addr} {o : Obj} {ks : List (Key × V)} {g : TG} {tt : TT} {tk tv : TE} {vs : List Nat} {σ : L2.St} {H1 : Hp} {D : Addr} {Qd : Hp → Prop} (Pv : Nat → Hp → Prop) (h0 : Pv 0 (upd H1 D (.dK []))) (hl : ∀ i H, i ≤ ks.length → Pv i H → H d = some (.frz o (.dK ks)))
    (hs : ∀ i k v H, ks[i]? = some (k, v) → Pv i H → g (kV k) (wipe σ vs) H fun σ2 H2 => wipe σ2 vs = wipe σ vs ∧ tt σ2 H2 fun b H3 =>
      if b = true then tk σ2 H3 fun y H4 => tv σ2 H4 fun z H5 => ∃ kvs k, y = kV k ∧ H5 D = some (.dK kvs) ∧ kvs.length < sizeLine ∧ Pv (i + 1) (upd H5 D (.dK (putK kvs k z))) else Pv (i + 1) H3) (hd : ∀ H, Pv ks.length H → Qd H) :
    ∃ W : Nat → Nat → Hp → Prop, (∃ m, W 0 m (upd H1 D (.dK []))) ∧ ∀ i m H, W i m H →
      ((Itk d o ks).stop i H ∧ Qd H) ∨ ((Itk d o ks).go i H ∧ ∃ Nx : Hp → Prop, (∀ H', Nx H' → ∃ m', m' < m ∧ W (i + 1) m' H') ∧ ∀ x H', (Itk d o ks).yld i H x H' → g x (wipe σ vs) H' fun σ2 H2 => wipe σ2 vs = wipe σ vs ∧ tt σ2 H2 fun b H3 =>
        if b = true then tk σ2 H3 fun y H4 => tv σ2 H4 fun z H5 => ∃ kvs k, y = kV k ∧ H5 D = some (.dK kvs) ∧ kvs.length < sizeLine ∧ Nx (upd H5 D (.dK (putK kvs k z))) else Nx H3) := by
  refine ⟨fun i m H => m = ks.length - i ∧ i ≤ ks.length ∧ Pv i H, ⟨ks.length, by simp, Nat.zero_le _, h0⟩, ?_⟩
  rintro i m H ⟨rfl, hi, p⟩
  have q := hl i H hi p
  by_cases hlt : i < ks.length
  · refine .inr ⟨⟨q, hlt⟩, Pv (i + 1), fun H' p' => ⟨ks.length - (i + 1), by omega, rfl, hlt, p'⟩, fun x H' y => ?_⟩
    obtain ⟨e, k, v, hk, rfl⟩ := y
    subst e
    exact hs i k v _ hk p
  · have e : i = ks.length := by omega
    subst e
    exact .inl ⟨⟨q, Nat.le_refl _⟩, hd H p⟩
end FC
namespace FC
open PySem L2 StX PyProof.Rows
theorem if_true_of {c : Bool} {A B : Prop} (hc : c = true) (h : A) : if c = true then A else B := by
  rw [if_pos hc]
  exact h
theorem if_false_of {c : Bool} {A B : Prop} (hc : c = false) (h : B) : if c = true then A else B := by
  rw [hc, if_neg Bool.false_ne_true]
  exact h
/-! ### the program's own classes of exceptions -/
structure Ecls (K : PySem.W.Frag) (mg : Str → Option Value) (x : Str) (C : Addr) : Prop where
  m : mg x = some (.ref C)
  q : PySem.W.excIn K C [.type "ValueError", .type "Exception", .type "BaseException", .type "object"] "ValueError.__new__" = true
  k : PySem.W.keepIn K (.ref C) = true
  b : PySem.W.subIn K (.ref C) (.type "BaseException") = some true
  t : PySem.W.typeIn K (.ref C) = some (.type "type")
  d : PySem.W.hasDictIn K C = true
theorem Ecls.exm {K : PySem.W.Frag} {mg : Str → Option Value} {x : Str} {C : Addr} (e : Ecls K mg x C) {cls : Value} {b : Bool} (h : PySem.W.subIn K cls (.ref C) = some b) : PySem.W.exmOne K cls (.ref C) = some b := PySem.W.exm_ref e.b e.d e.t h
/-- the words over which the order makes no difference -/
structure Ew (K : PySem.W.Frag) (mg : Str → Option Value) (a : Addr) : Prop where
  m : mg "EITHER_WAY" = some (.ref a)
  s : ∀ H, SqT K H a [.str "sum", .str "times", .str "same"]
structure Gl1 (mg : Str → Option Value) (t1 : Tok) : Prop where
  LIMIT : mg "LIMIT" = some (.int 1000000000 t1)
def spWithin (T : Addr) : Sp := fun vs H Q E => ∃ n : Int, vs = [.int n] ∧ (NumOk n → Q (.int n) H) ∧ (¬ NumOk n → E (.ref T) none H)
/-- what a word of two makes of two numbers: the number, or the class of the refusal -/
def spReck (B T : Addr) : Sp := fun vs H Q E => ∃ (o : Op) (x y : Int), vs = [.str o.str, .int x, .int y] ∧ NumOk x ∧ NumOk y ∧ (∀ n, made o x y = .is n → NumOk n → Q (.int n) H) ∧ (made o x y = .nought → E (.ref B) none H) ∧ (made o x y = .great → E (.ref T) none H)
theorem absI (n : Int) : (if n < 0 then -n else n) = (n.natAbs : Int) := by split <;> omega
theorem fdiv_ok {x y : Int} (hx : NumOk x) (hy : y ≠ 0) : NumOk (x.fdiv y) := by
  rcases Int.lt_or_gt_of_ne hy with h | h
  · have e : x.fdiv y = (-x).fdiv (-y) := by rw [Int.neg_fdiv_neg]
    rw [e, fdiv_pos _ (show 0 < -y by omega)]
    exact div_ok hx.neg (by omega)
  · rw [fdiv_pos _ h]
    exact div_ok hx h
theorem frest_ok {x y : Int} (hy0 : NumOk y) (hy : y ≠ 0) : NumOk (x - y * x.fdiv y) := by
  have e : x - y * x.fdiv y = x.fmod y := by rw [Int.fmod_def]
  rw [e]
  rcases Int.lt_or_gt_of_ne hy with h | h
  · have e2 : x.fmod y = -((-x).fmod (-y)) := by rw [Int.neg_fmod_neg]; omega
    rw [e2, Int.fmod_eq_emod_of_nonneg _ (show 0 ≤ -y by omega)]
    exact (mod_ok hy0.neg (show 0 < -y by omega)).neg
  · rw [Int.fmod_eq_emod_of_nonneg _ (Int.le_of_lt h)]
    exact mod_ok hy0 h
theorem made_div0 {o : Op} {x : Int} (h : isDiv o = true) : made o x 0 = .nought := by unfold made; rw [if_pos ⟨h, rfl⟩]
theorem made_part' {x y : Int} (hx : NumOk x) (hy : y ≠ 0) : made .part x y = .is (x.fdiv y) := by
  unfold made
  rw [if_neg (fun z => hy z.2)]
  exact if_pos (fdiv_ok hx hy)
theorem made_rest' {x y : Int} (hy0 : NumOk y) (hy : y ≠ 0) : made .rest x y = .is (x - y * x.fdiv y) := by
  unfold made
  rw [if_neg (fun z => hy z.2)]
  exact if_pos (frest_ok hy0 hy)
def spSettled : Sp := fun vs H Q _ => ∃ (o : Op) (va vb : V) (m n : Int), vs = [.str o.str, va, vb] ∧ Bears H va (.num m) ∧ Bears H vb (.num n) ∧ NumOk m ∧ NumOk n ∧ ∀ (H' : Hp) (v : V), Same H H' → Bears H' v (two1 o m n) → Q v H'
theorem made_nd {o : Op} {x y : Int} (h : isDiv o = false) : made o x y = if NumOk (raw o x y) then .is (raw o x y) else .great := by
  unfold made
  rw [if_neg (fun z => by rw [h] at z; exact Bool.noConfusion z.1)]
end FC
namespace FC
open PySem L2 StX PyProof.Rows
/-! ### the program's joined: contracts -/
def spPJoin (k : Nat) : Sp := fun vs H Q _ => ∃ (o : Op) (va vb : V) (a b : Ex), vs = [.str o.str, va, vb] ∧ Bears H va a ∧ Bears H vb b ∧ a.ok ∧ b.ok ∧ 3 * max a.deep b.deep + 1 ≤ k ∧
  (((o = .less ∧ ∀ m, a ≠ .num m) ∨ ((∃ m, a = .num m) ∧ (∀ n, b ≠ .num n) ∧ swaps o = true)) → 3 * max a.deep b.deep + 3 ≤ k) ∧ ∀ (H' : Hp) (v : V), Same H H' → Bears H' v (join o a b) → Q v H'
def spByN (k : Nat) : Sp := fun vs H Q _ => ∃ (o : Op) (vt : V) (t : Ex) (n : Int), vs = [.str o.str, vt, .int n] ∧ Bears H vt t ∧ t.ok ∧ NumOk n ∧ (∀ m, t ≠ .num m) ∧ 3 * t.deep ≤ k ∧ (o = .less → 3 * t.deep + 2 ≤ k) ∧
  ∀ (H' : Hp) (v : V), Same H H' → Bears H' v (joinN o t n) → Q v H'
def spStepN (g : Ex → Int → Ex) (k : Nat) : Sp := fun vs H Q _ => ∃ (vt : V) (t : Ex) (n : Int), vs = [vt, .int n] ∧ Bears H vt t ∧ t.ok ∧ NumOk n ∧ (∀ m, t ≠ .num m) ∧ 3 * t.deep ≤ k + 1 ∧
  ∀ (H' : Hp) (v : V), Same H H' → Bears H' v (g t n) → Q v H'
def hasN (o : Op) : Ex → Bool
  | .two p _ (.num _) => decide (p = o)
  | _ => false
def spHasN : Sp := fun vs H Q _ => ∃ (o : Op) (vt : V) (t : Ex), vs = [.str o.str, vt] ∧ Bears H vt t ∧ (∀ m, t ≠ .num m) ∧ Q (.bl (hasN o t)) H
def sameSide (m n : Int) : Bool := decide ((0 < m ∧ 0 < n) ∨ (m < 0 ∧ n < 0))
def spSameSide : Sp := fun vs H Q _ => ∃ m n : Int, vs = [.int m, .int n] ∧ Q (.bl (sameSide m n)) H
theorem hasN_two {o : Op} {t : Ex} (h : hasN o t = true) : ∃ b m, t = .two o b (.num m) := by
  cases t with
  | two p b c =>
    cases c with
    | num m => exact ⟨b, m, by rw [show p = o from of_decide_eq_true h]⟩
    | _ => cases h
  | _ => cases h
theorem word_nn {e : Ex} (h : ∀ m, e ≠ .num m) : decide (V.str e.word = V.str "num") = false := by
  cases e with
  | num n => exact absurd rfl (h n)
  | nam _ => show decide (V.str "name" = V.str "num") = false; decide
  | two o _ _ => exact op_num o
  | whn _ _ _ => show decide (V.str "when" = V.str "num") = false; decide
  | lett _ _ _ => show decide (V.str "let" = V.str "num") = false; decide
theorem sumN_zero {t : Ex} (h : ∀ m, t ≠ .num m) : sumN t 0 = t := by
  unfold sumN
  split
  · exact absurd rfl (h _)
  · exact if_pos rfl
  · exact if_pos rfl
  · exact if_pos rfl
theorem sumN_else {t : Ex} {n : Int} (h : ∀ m, t ≠ .num m) (h0 : n ≠ 0) (h1 : ∀ b m, t ≠ .two .sum b (.num m)) (h2 : ∀ b m, t ≠ .two .less (.num m) b) : sumN t n = .two .sum t (.num n) := by
  unfold sumN
  split
  · exact absurd rfl (h _)
  · exact absurd rfl (h1 _ _)
  · exact absurd rfl (h2 _ _)
  · exact if_neg h0
theorem timesN_one {t : Ex} (h : ∀ m, t ≠ .num m) : timesN t 1 = t := by
  unfold timesN
  split
  · exact absurd rfl (h _)
  · exact if_pos rfl
  · exact if_pos rfl
theorem timesN_else {t : Ex} {n : Int} (h : ∀ m, t ≠ .num m) (h0 : n ≠ 1) (h1 : ∀ b m, t ≠ .two .times b (.num m)) : timesN t n = .two .times t (.num n) := by
  unfold timesN
  split
  · exact absurd rfl (h _)
  · exact absurd rfl (h1 _ _)
  · exact if_neg h0
theorem partN_one {t : Ex} (h : ∀ m, t ≠ .num m) : partN t 1 = t := by
  unfold partN
  split
  · exact absurd rfl (h _)
  · exact if_pos rfl
  · exact if_pos rfl
theorem partN_else {t : Ex} {n : Int} (h : ∀ m, t ≠ .num m) (h0 : n ≠ 1) (h1 : ∀ b m, t ≠ .two .part b (.num m)) : partN t n = .two .part t (.num n) := by
  unfold partN
  split
  · exact absurd rfl (h _)
  · exact absurd rfl (h1 _ _)
  · exact if_neg h0
theorem restN_else {t : Ex} {n : Int} (h : ∀ m, t ≠ .num m) (h1 : ∀ b m, t ≠ .two .rest b (.num m)) : restN t n = .two .rest t (.num n) := by
  unfold restN
  split
  · exact absurd rfl (h _)
  · exact absurd rfl (h1 _ _)
  · rfl
theorem abs_lim {n : Int} : (if n < 0 then -n else n) ≤ 1000000000 ↔ NumOk n := by
  rw [absI, natAbs_ok]
  omega
end FC
namespace FC
open PySem L2 StX PyProof.Rows
/-- the end of a step: the word over t and the number as it stands -/
theorem stands2 (o : Op) {D : Ends} {σ : L2.St} {H : Hp} {vt : V} {t : Ex} {n : Int} {Q : VK} (s0 : σ[0]? = some (some vt)) (s1 : σ[1]? = some (some (.int n))) (hD : D.rt = Q) (b : Bears H vt t)
    (q : ∀ H' v, Same H H' → Bears H' v (.two o t (.num n)) → Q v H') : tRet (tTup (tCons (tC (.str o.str)) (tCons (tVar 0) (tCons (tTup (tCons (tC (.str "num")) (tCons (tVar 1) tNil))) tNil)))) D σ H := by
  subst hD
  refine ⟨_, s0, _, s1, (by show 2 ≤ sizeLine; decide), fun t1 ht1 => ?_⟩
  have g1 := same_new ht1 (.tup [.str "num", .int n])
  refine ⟨(by show 3 ≤ sizeLine; decide), fun t2 ht2 => ?_⟩
  have g2 := same_new ht2 (.tup [.str o.str, vt, .ref t1])
  exact q _ _ (g1.trans g2) (.two upd_same (b.mono (Tups.of (g1.trans g2))) (.num (g2 _ _ upd_same)))
/-- the number behind, as a new tuple: then the word joined over b and it -/
theorem new_num {H : Hp} {p : Addr} {j : Int} (hp : H p = none) : Same H (upd H p (.tup [.str "num", .int j])) ∧ Bears (upd H p (.tup [.str "num", .int j])) (.ref p) (.num j) := ⟨same_new hp _, .num upd_same⟩
theorem num1_deep (j : Int) : (Ex.num j).deep = 1 := rfl
theorem two_deep (o : Op) (a b : Ex) : (Ex.two o a b).deep = max a.deep b.deep + 1 := rfl
end FC
namespace FC
open PySem L2 StX PyProof.Rows
/-- a let folded: the contract of the let's own function -/
def spFoldLet (n : Nat) : Sp := fun vs H Q _ => ∃ (v : V) (x : Str) (e1 e2 : Ex) (d : Addr) (l : AL), vs = [v, .ref d] ∧ Bears H v (.lett x e1 e2) ∧ (Ex.lett x e1 e2).ok ∧ (Ex.lett x e1 e2).deep ≤ n + 1 ∧ H d = some (.dK (dS l)) ∧ AOk l ∧ l.length + (Ex.lett x e1 e2).deep ≤ 1000 ∧
  ∀ (H' : Hp) (r : V), Same H H' → Bears H' r (fold (.lett x e1 e2) (stg l)) → Q r H'
end FC
namespace FC
open PySem L2 StX PyProof.Rows
section
variable {P : Program} {w : World} {K : PySem.W.Frag} {mg : Str → Option Value} {base : Heap} {t1 t2 : Tok} {B T F f g f1 f2 f3 f4 f5 f6 f7 f8 f9 : Addr} {fd gd fd1 fd2 fd3 fd4 fd5 fd6 fd7 fd8 fd9 : FuncData}
/-! ### the program's reckoned -/
theorem sc_within : FnScope ["number"] ["number"] (defScope s_within) := ⟨rfl, rfl, rfl, by decide +kernel, rfl, by decide +kernel, by decide +kernel⟩
theorem ok_within (d : Df K mg "_within" s_within ["number"] f fd) (z : Bl2 mg) (gl : Gl1 mg t1) (E_TooGreat : Ecls K mg "TooGreat" T) : FnOk P w K mg base (L2.CX P w) 1 f fd ["number"] (spWithin T) := by
  refine d.F.okX sc_within (fun vs H Q E h => ?_) (fun cdv A outer s H vs Q E hr h => ?_)
  · obtain ⟨n, rfl, _⟩ := h
    rfl
  obtain ⟨n, rfl, q1, q2⟩ := h
  refine ⟨_, (pss_cons (ps_if (pt_cmpR op_gt (pe_callB call_abs (by rfl) z.abs (by decide +kernel) (pa_cons (pv 0) pa_nil)) (pe_glob (by rfl) gl.LIMIT (v := .int 1000000000) ⟨_, rfl⟩) (nomark _)) (pss_one (ps_raise rfl (takes_of rfl rfl rfl rfl) (pmk_own PySem.F.excBase_ValueError E_TooGreat.q E_TooGreat.m E_TooGreat.k (raises_own E_TooGreat.b E_TooGreat.t) (by rfl)))) pss_nil)
    (pss_one (ps_ret (pv 0)))), ?_⟩
  refine ⟨_, rfl, _, rfl, _, _, rfl, rfl, _, rfl, ite2 (fun a => ?_) (fun a => ?_)⟩
  · have a' := of_decide_eq_true a
    rw [absI] at a'
    exact q2 fun z => by have := z.1; have := z.2; omega
  · have a' : ¬ _ := fun z => a (decide_eq_true z)
    rw [absI] at a'
    exact ⟨_, rfl, q1 ⟨by omega, by omega⟩⟩
theorem sc_reckoned : FnScope ["word", "one", "two", "quotient"] ["word", "one", "two"] (defScope s_reckoned) := ⟨rfl, rfl, rfl, by decide +kernel, rfl, by decide +kernel, by decide +kernel⟩
theorem ok_reckoned (d : Df K mg "reckoned" s_reckoned ["word", "one", "two"] f fd) (d_within : Df K mg "_within" s_within ["number"] f1 fd1) (z : Bl2 mg) (gl : Gl1 mg t1) (E_TooGreat : Ecls K mg "TooGreat" T) (E_ByNought : Ecls K mg "ByNought" B) :
    FnOk P w K mg base (L2.CX P w) 2 f fd ["word", "one", "two"] (spReck B T) := by
  refine d.F.okX sc_reckoned (fun vs H Q E h => ?_) (fun cdv A outer s H vs Q E hr h => ?_)
  · obtain ⟨o, x, y, rfl, _⟩ := h
    rfl
  obtain ⟨o, x, y, rfl, hx, hy, q1, q2, q3⟩ := h
  have G_within := ok_within (P := P) (w := w) (base := base) d_within z gl E_TooGreat
  refine ⟨_, (pss_cons (ps_if (pt_cmpR op_eq (pv 0) pe_str (nomark _)) (pss_one (ps_ret (pe_callS G_within (hr.mono (by omega)) (by rfl) d_within.m d_within.k d_within.b (fun σ => passAt (takes_of rfl rfl rfl rfl) σ) (pa_cons (pe_op op_add (pv 1) (pv 2)) pa_nil)))) pss_nil)
    (pss_cons (ps_if (pt_cmpR op_eq (pv 0) pe_str (nomark _)) (pss_one (ps_ret (pe_callS G_within (hr.mono (by omega)) (by rfl) d_within.m d_within.k d_within.b (fun σ => passAt (takes_of rfl rfl rfl rfl) σ) (pa_cons (pe_op op_sub (pv 1) (pv 2)) pa_nil)))) pss_nil)
    (pss_cons (ps_if (pt_cmpR op_eq (pv 0) pe_str (nomark _)) (pss_one (ps_ret (pe_callS G_within (hr.mono (by omega)) (by rfl) d_within.m d_within.k d_within.b (fun σ => passAt (takes_of rfl rfl rfl rfl) σ) (pa_cons (pe_op op_mul (pv 1) (pv 2)) pa_nil)))) pss_nil)
    (pss_cons (ps_if (pt_cmpR op_eq (pv 0) pe_str (nomark _)) (pss_one (ps_ret (pe_ifExp (pt_cmpR op_lt (pv 1) (pv 2) (nomark _)) pe_int pe_int))) pss_nil)
    (pss_cons (ps_if (pt_cmpR op_eq (pv 0) pe_str (nomark _)) (pss_one (ps_ret (pe_ifExp (pt_cmpR op_eq (pv 1) (pv 2) (nomark _)) pe_int pe_int))) pss_nil)
    (pss_cons (ps_if (pt_cmpR op_eq (pv 2) pe_int (nomark _)) (pss_one (ps_raise rfl (takes_of rfl rfl rfl rfl) (pmk_own PySem.F.excBase_ValueError E_ByNought.q E_ByNought.m E_ByNought.k (raises_own E_ByNought.b E_ByNought.t) (by rfl)))) pss_nil)
    (pss_cons (ps_set (i := 3) sc_reckoned.nd rfl (.inl rfl) (pe_op op_fdivN (pv 1) (pv 2)))
    (pss_cons (ps_if (pt_cmpR op_eq (pv 0) pe_str (nomark _)) (pss_one (ps_ret (pv 3))) pss_nil)
    (pss_one (ps_ret (pe_op op_sub (pv 1) (pe_op op_mul (pv 2) (pv 3))))))))))))), ?_⟩
  have hx1 := hx.1
  have hx2 := hx.2
  have hy1 := hy.1
  have hy2 := hy.2
  have fin : isDiv o = false → (NumOk (raw o x y) → Q (.int (raw o x y)) H) ∧ (¬ NumOk (raw o x y) → E (.ref T) none H) := fun hd => by
    have e := made_nd (x := x) (y := y) hd
    refine ⟨fun hn => ?_, fun hn => ?_⟩
    · rw [if_pos hn] at e
      exact q1 _ e hn
    · rw [if_neg hn] at e
      exact q3 e
  cases o with
  | sum => exact ⟨_, rfl, rfl, _, rfl, iteT ⟨_, rfl, _, rfl, _, _, rfl, rfl, _, rfl, (fin rfl).1, (fin rfl).2⟩⟩
  | less => exact ⟨_, rfl, rfl, _, rfl, iteF ⟨_, rfl, rfl, _, rfl, iteT ⟨_, rfl, _, rfl, _, _, rfl, rfl, _, rfl, (fin rfl).1, (fin rfl).2⟩⟩⟩
  | times => exact ⟨_, rfl, rfl, _, rfl, iteF ⟨_, rfl, rfl, _, rfl, iteF ⟨_, rfl, rfl, _, rfl, iteT ⟨_, rfl, _, rfl, _, _, rfl, rfl, .inl ⟨by omega, by omega⟩, _, rfl, (fin rfl).1, (fin rfl).2⟩⟩⟩⟩
  | below =>
    refine ⟨_, rfl, rfl, _, rfl, iteF ⟨_, rfl, rfl, _, rfl, iteF ⟨_, rfl, rfl, _, rfl, iteF ⟨_, rfl, rfl, _, rfl, iteT ?_⟩⟩⟩⟩
    refine ⟨_, rfl, _, rfl, _, _, rfl, rfl, _, rfl, ?_⟩
    have e := fin rfl
    by_cases hc : x < y
    · refine if_true_of (decide_eq_true hc) ?_
      have e1 : raw .below x y = 1 := if_pos hc
      rw [e1] at e
      exact e.1 (by decide)
    · refine if_false_of (decide_eq_false hc) ?_
      have e1 : raw .below x y = 0 := if_neg hc
      rw [e1] at e
      exact e.1 (by decide)
  | same =>
    refine ⟨_, rfl, rfl, _, rfl, iteF ⟨_, rfl, rfl, _, rfl, iteF ⟨_, rfl, rfl, _, rfl, iteF ⟨_, rfl, rfl, _, rfl, iteF ⟨_, rfl, rfl, _, rfl, iteT ?_⟩⟩⟩⟩⟩
    refine ⟨_, rfl, _, rfl, rfl, _, rfl, ?_⟩
    have e := fin rfl
    by_cases hc : x = y
    · refine if_true_of (decide_eq_true (congrArg V.int hc)) ?_
      have e1 : raw .same x y = 1 := if_pos hc
      rw [e1] at e
      exact e.1 (by decide)
    · refine if_false_of (decide_eq_false (fun z => hc (by injection z))) ?_
      have e1 : raw .same x y = 0 := if_neg hc
      rw [e1] at e
      exact e.1 (by decide)
  | part =>
    refine ⟨_, rfl, rfl, _, rfl, iteF ⟨_, rfl, rfl, _, rfl, iteF ⟨_, rfl, rfl, _, rfl, iteF ⟨_, rfl, rfl, _, rfl, iteF ⟨_, rfl, rfl, _, rfl, iteF ?_⟩⟩⟩⟩⟩
    by_cases h0 : y = 0
    · refine ⟨_, rfl, rfl, true, congrArg V.bl (decide_eq_true (congrArg V.int h0)), iteT ?_⟩
      subst h0
      exact q2 (made_div0 rfl)
    · refine ⟨_, rfl, rfl, false, congrArg V.bl (decide_eq_false (fun z => h0 (by injection z))), iteF ?_⟩
      refine ⟨_, rfl, _, rfl, _, _, rfl, rfl, ⟨h0, by omega⟩, _, rfl, rfl, _, rfl, iteT ⟨_, rfl, q1 _ (made_part' hx h0) (fdiv_ok hx h0)⟩⟩
  | rest =>
    refine ⟨_, rfl, rfl, _, rfl, iteF ⟨_, rfl, rfl, _, rfl, iteF ⟨_, rfl, rfl, _, rfl, iteF ⟨_, rfl, rfl, _, rfl, iteF ⟨_, rfl, rfl, _, rfl, iteF ?_⟩⟩⟩⟩⟩
    by_cases h0 : y = 0
    · refine ⟨_, rfl, rfl, true, congrArg V.bl (decide_eq_true (congrArg V.int h0)), iteT ?_⟩
      subst h0
      exact q2 (made_div0 rfl)
    · refine ⟨_, rfl, rfl, false, congrArg V.bl (decide_eq_false (fun z => h0 (by injection z))), iteF ?_⟩
      refine ⟨_, rfl, _, rfl, _, _, rfl, rfl, ⟨h0, by omega⟩, _, rfl, rfl, _, rfl, iteF ?_⟩
      exact ⟨_, rfl, _, rfl, _, rfl, _, _, rfl, rfl, .inl ⟨by omega, by omega⟩, _, _, rfl, rfl, q1 _ (made_rest' hy h0) (frest_ok hy h0)⟩
theorem sc_settled : FnScope ["word", "one", "two"] ["word", "one", "two"] (defScope s_settled) := ⟨rfl, rfl, rfl, by decide +kernel, rfl, by decide +kernel, by decide +kernel⟩
theorem ok_settled (d : Df K mg "_settled" s_settled ["word", "one", "two"] f fd) (d_reckoned : Df K mg "reckoned" s_reckoned ["word", "one", "two"] f1 fd1) (G_reckoned : FnOk P w K mg base (L2.CX P w) 2 f1 fd1 ["word", "one", "two"] (spReck B T))
    (E_FoldError : Ecls K mg "FoldError" F) (sB : PySem.W.subIn K (.ref B) (.ref F) = some true) (sT : PySem.W.subIn K (.ref T) (.ref F) = some true) :
    FnOk P w K mg base CX0 3 f fd ["word", "one", "two"] spSettled := by
  refine d.F.ok sc_settled (fun vs H Q E h => ?_) (fun cdv A outer s H vs Q E hr h => ?_)
  · obtain ⟨o, va, vb, m, n, rfl, _⟩ := h
    rfl
  obtain ⟨o, va, vb, m, n, rfl, ba, bb, hm, hn, q⟩ := h
  refine ⟨_, (pss_one (ps_try_only rfl rfl ⟨by rfl, by decide, .inl E_FoldError.m⟩ takes0 (fun W pn xe tk _ => (pss_one (ps_ret (pe_tup (pa_cons pe_str (pa_cons (pe_callS G_reckoned (hr.mono (by omega)) (by rfl) d_reckoned.m d_reckoned.k d_reckoned.b (fun σ => passAt tk σ) (pa_cons (pv 0) (pa_cons (pe_ix (show IxR _ (rIxT K) from ix_tup) (pv 1) pe_int (fun _ _ => rfl)) (pa_cons (pe_ix (show IxR _ (rIxT K) from ix_tup) (pv 2) pe_int (fun _ _ => rfl)) pa_nil)))) pa_nil)))))) (fun a oe cls d pn _ _ => (pss_one (ps_ret (pe_tup (pa_cons (pv 0) (pa_cons (pv 1) (pa_cons (pv 2) pa_nil))))))))), ?_⟩
  cases ba with
  | @num aa _ ha =>
  cases bb with
  | @num ab _ hb =>
  have suite : ∀ (p : Addr), H p = none → (∀ k, made o m n ≠ .is k) → Q (.ref p) (upd H p (.tup [.str o.str, .ref aa, .ref ab])) := fun p hp he => by
    have g := same_new hp (.tup [.str o.str, .ref aa, .ref ab])
    refine q _ _ g ?_
    have e : two1 o m n = .two o (.num m) (.num n) := by
      unfold two1
      split
      · rename_i k hk
        exact absurd hk (he k)
      · rfl
    rw [e]
    exact .two upd_same (.num (g _ _ ha)) (.num (g _ _ hb))
  refine ⟨_, rfl, _, rfl, aa, _, 1, _, rfl, rfl, .inl (.inl ha), rfl, _, rfl, ab, _, 1, _, rfl, rfl, .inl (.inl hb), rfl, o, m, n, rfl, hm, hn, fun k hk nk => ⟨(by show 2 ≤ sizeLine; decide), fun p hp => q _ _ (same_new hp _) ?_⟩, fun e => ⟨true, E_FoldError.exm sB, fun _ a0 _ => ?_, fun z => Bool.noConfusion z⟩, fun e => ⟨true, E_FoldError.exm sT, fun _ a0 _ => ?_, fun z => Bool.noConfusion z⟩⟩
  · have e : two1 o m n = .num k := by unfold two1; rw [hk]
    rw [e]
    exact .num upd_same
  · exact ⟨_, rfl, _, rfl, _, rfl, (by show 3 ≤ sizeLine; decide), fun p hp => suite p hp fun k hk => by rw [e] at hk; cases hk⟩
  · exact ⟨_, rfl, _, rfl, _, rfl, (by show 3 ≤ sizeLine; decide), fun p hp => suite p hp fun k hk => by rw [e] at hk; cases hk⟩
end
end FC
namespace FC
open PySem L2 StX PyProof.Rows
section
variable {P : Program} {w : World} {K : PySem.W.Frag} {mg : Str → Option Value} {base : Heap} {t1 t2 : Tok} {ea B T F f g f1 f2 f3 f4 f5 f6 f7 f8 f9 : Addr} {fd gd fd1 fd2 fd3 fd4 fd5 fd6 fd7 fd8 fd9 : FuncData}
/-! ### the program's joined -/
theorem sc_has_number : FnScope ["word", "short"] ["word", "short"] (defScope s_has_number) := ⟨rfl, rfl, rfl, by decide +kernel, rfl, by decide +kernel, by decide +kernel⟩
theorem ok_has_number (d : Df K mg "_has_number" s_has_number ["word", "short"] f fd) : FnOk P w K mg base CX0 1 f fd ["word", "short"] spHasN := by
  refine d.F.ok sc_has_number (fun vs H Q E h => ?_) (fun cdv A outer s H vs Q E hr h => ?_)
  · obtain ⟨o, vt, t, rfl, _⟩ := h
    rfl
  obtain ⟨o, vt, t, rfl, b, hn, q⟩ := h
  refine ⟨_, (pss_one (ps_ret (pe_and (pe_cmpR op_eq (pe_ix ix_tup (pv 1) pe_int (fun _ _ => rfl)) (pv 0) (nomark _)) (pe_one (pe_cmpR op_eq (pe_ix ix_tup (pe_ix ix_tup (pv 1) pe_int (fun _ _ => rfl)) pe_int (fun _ _ => rfl)) pe_str (nomark _)))))), ?_⟩
  obtain ⟨a, xs, rfl, ha⟩ := b.first
  refine ⟨_, rfl, a, _, 0, _, rfl, rfl, .inl (.inl ha), at_of (j := 0) rfl rfl, _, rfl, rfl, ?_⟩
  by_cases hw : t.word = o.str
  · obtain ⟨c, d, rfl⟩ := word_is hw
    refine ⟨true, congrArg V.bl (decide_eq_true (by rw [hw])), iteT ?_⟩
    cases b with
    | two h b1 b2 =>
      obtain ⟨a2, ys, rfl, h2⟩ := b2.first
      refine ⟨_, rfl, a, _, 2, _, rfl, rfl, .inl (.inl h), rfl, a2, _, 0, _, rfl, rfl, .inl (.inl h2), at_of (j := 0) rfl rfl, rfl, ?_⟩
      rw [word_num]
      have e : hasN o (.two o c d) = decide (∃ n, d = .num n) := by
        cases d with
        | num m =>
          rw [decide_eq_true (⟨m, rfl⟩ : ∃ n, Ex.num m = .num n)]
          exact decide_eq_true rfl
        | _ => symm; exact decide_eq_false (fun ⟨_, z⟩ => nomatch z)
      rw [← e]
      exact q
  · have e : hasN o t = false := by
      cases hh : hasN o t with
      | false => rfl
      | true =>
        obtain ⟨b', m, rfl⟩ := hasN_two hh
        exact absurd rfl hw
    refine ⟨false, congrArg V.bl (decide_eq_false fun z => hw (by injection z)), iteF ?_⟩
    rw [e] at q
    exact q
theorem sc_same_side : FnScope ["m", "n"] ["m", "n"] (defScope s_same_side) := ⟨rfl, rfl, rfl, by decide +kernel, rfl, by decide +kernel, by decide +kernel⟩
theorem ok_same_side (d : Df K mg "_same_side" s_same_side ["m", "n"] f fd) : FnOk P w K mg base CX0 1 f fd ["m", "n"] spSameSide := by
  refine d.F.ok sc_same_side (fun vs H Q E h => ?_) (fun cdv A outer s H vs Q E hr h => ?_)
  · obtain ⟨m, n, rfl, _⟩ := h
    rfl
  obtain ⟨m, n, rfl, q⟩ := h
  refine ⟨_, (pss_one (ps_ret (pe_or (pe_and (pe_cmpR op_gt (pv 0) pe_int (nomark _)) (pe_one (pe_cmpR op_gt (pv 1) pe_int (nomark _)))) (pe_one (pe_and (pe_cmpR op_lt (pv 0) pe_int (nomark _)) (pe_one (pe_cmpR op_lt (pv 1) pe_int (nomark _)))))))), ?_⟩
  have q1 : sameSide m n = true → Q (.bl true) H := fun e => by rw [e] at q; exact q
  have q2 : sameSide m n = false → Q (.bl false) H := fun e => by rw [e] at q; exact q
  have back : ¬ (0 < m ∧ 0 < n) → ∃ c, V.bl (decide (m < 0)) = .bl c ∧ if c = true then Q (.bl (decide (n < 0))) H else Q (.bl false) H := fun h => by
    refine ⟨_, rfl, ite2 (fun a => ?_) (fun a => ?_)⟩
    · have a' := of_decide_eq_true a
      by_cases hn : n < 0
      · rw [decide_eq_true hn]
        exact q1 (decide_eq_true (.inr ⟨a', hn⟩))
      · rw [decide_eq_false hn]
        exact q2 (decide_eq_false (by omega))
    · have a' : ¬ m < 0 := fun z => a (decide_eq_true z)
      exact q2 (decide_eq_false (by omega))
  refine ⟨_, rfl, _, _, rfl, rfl, _, rfl, ite2 (fun a => ?_) (fun a => ?_)⟩
  · have a' : (0 : Int) < m := of_decide_eq_true a
    refine ⟨_, rfl, _, _, rfl, rfl, _, rfl, ite2 (fun c => ?_) (fun c => ?_)⟩
    · exact q1 (decide_eq_true (.inl ⟨a', of_decide_eq_true c⟩))
    · have c' : ¬ (0 : Int) < n := fun z => c (decide_eq_true z)
      obtain ⟨k, e, h⟩ := back (by omega)
      refine ⟨_, rfl, _, _, rfl, rfl, k, e, ?_⟩
      split
      · rename_i hk
        rw [if_pos hk] at h
        exact ⟨_, rfl, _, _, rfl, rfl, h⟩
      · rename_i hk
        rw [if_neg hk] at h
        exact h
  · have a' : ¬ (0 : Int) < m := fun z => a (decide_eq_true z)
    refine ⟨_, rfl, iteF ?_⟩
    obtain ⟨k, e, h⟩ := back (by omega)
    refine ⟨_, rfl, _, _, rfl, rfl, k, e, ?_⟩
    split
    · rename_i hk
      rw [if_pos hk] at h
      exact ⟨_, rfl, _, _, rfl, rfl, h⟩
    · rename_i hk
      rw [if_neg hk] at h
      exact h
end
end FC
namespace FC
open PySem L2 StX PyProof.Rows
section
variable {P : Program} {w : World} {K : PySem.W.Frag} {mg : Str → Option Value} {base : Heap} {t1 t2 : Tok} {ea B T F f g f1 f2 f3 f4 f5 f6 f7 f8 f9 : Addr} {fd gd fd1 fd2 fd3 fd4 fd5 fd6 fd7 fd8 fd9 : FuncData}
theorem sc_joined : FnScope ["word", "one", "two"] ["word", "one", "two"] (defScope s_joined) := ⟨rfl, rfl, rfl, by decide +kernel, rfl, by decide +kernel, by decide +kernel⟩
theorem ok_joined (k : Nat) (d_joined : Df K mg "joined" s_joined ["word", "one", "two"] f fd) (ew : Ew K mg ea) (d_settled : Df K mg "_settled" s_settled ["word", "one", "two"] f1 fd1) (G_settled : FnOk P w K mg base CX0 3 f1 fd1 ["word", "one", "two"] spSettled)
    (d_by_number : Df K mg "_by_number" s_by_number ["word", "short", "n"] f2 fd2) (G_by_number : FnOk P w K mg base CX0 k f2 fd2 ["word", "short", "n"] (spByN k)) (G_joined : FnOk P w K mg base CX0 k f fd ["word", "one", "two"] (spPJoin k)) :
    FnOk P w K mg base CX0 (k + 1) f fd ["word", "one", "two"] (spPJoin (k + 1)) := by
  refine d_joined.F.ok sc_joined (fun vs H Q E h => ?_) (fun cdv A outer s H vs Q E hr h => ?_)
  · obtain ⟨o, va, vb, a, b, rfl, _⟩ := h
    rfl
  obtain ⟨o, va, vb, a, b, rfl, ba, bb, oa, ob, hk, hx, q⟩ := h
  have hda := a.deep_pos
  have hdb := b.deep_pos
  have h3 : 3 ≤ k := by omega
  refine ⟨_, (pss_cons (ps_if (PW.pt (pw_and (pt_cmpR op_eq (pe_ix ix_tup (pv 1) pe_int (fun _ _ => rfl)) pe_str (nomark _)) (pw_and1 (pt_cmpR op_eq (pe_ix ix_tup (pv 2) pe_int (fun _ _ => rfl)) pe_str (nomark _))))) (pss_one (ps_ret (pe_call G_settled (hr.mono (by omega)) (by rfl) d_settled.m d_settled.k d_settled.b .nil pass0 (pa_cons (pv 0) (pa_cons (pv 1) (pa_cons (pv 2) pa_nil)))))) pss_nil)
    (pss_cons (ps_if (PW.pt (pw_and (pt_cmpR op_eq (pe_ix ix_tup (pv 1) pe_int (fun _ _ => rfl)) pe_str (nomark _)) (pw_and1 (pt_cmpR op_in_seq (pv 0) (pe_glob (by rfl) ew.m (v := .ref _) rfl) rfl)))) (pss_one (ps_ret (pe_call G_joined (hr.mono (by omega)) (by rfl) d_joined.m d_joined.k d_joined.b .nil pass0 (pa_cons (pv 0) (pa_cons (pv 2) (pa_cons (pv 1) pa_nil)))))) pss_nil)
    (pss_cons (ps_if (pt_cmpR op_ne (pe_ix ix_tup (pv 2) pe_int (fun _ _ => rfl)) pe_str (nomark _)) (pss_one (ps_ret (pe_tup (pa_cons (pv 0) (pa_cons (pv 1) (pa_cons (pv 2) pa_nil)))))) pss_nil)
    (pss_one (ps_ret (pe_call G_by_number (hr.mono (by omega)) (by rfl) d_by_number.m d_by_number.k d_by_number.b .nil pass0 (pa_cons (pv 0) (pa_cons (pv 1) (pa_cons (pe_ix ix_tup (pv 2) pe_int (fun _ _ => rfl)) pa_nil))))))))), ?_⟩
  obtain ⟨aa, xs, rfl, ha⟩ := ba.first
  obtain ⟨ab, ys, rfl, hb⟩ := bb.first
  rcases isnum a with ⟨m, rfl⟩ | na
  · rcases isnum b with ⟨n, rfl⟩ | nb
    · refine ⟨_, rfl, aa, _, 0, _, rfl, rfl, .inl (.inl ha), at_of (j := 0) rfl rfl, rfl, _, rfl, iteT ⟨_, rfl, ab, _, 0, _, rfl, rfl, .inl (.inl hb), at_of (j := 0) rfl rfl, rfl, _, rfl, iteT ?_⟩⟩
      exact ⟨_, rfl, _, rfl, _, rfl, o, .ref aa, .ref ab, m, n, rfl, ba, bb, oa, ob, fun H1 v g1 b1 => q H1 v g1 b1⟩
    · have wb := word_nn nb
      refine ⟨_, rfl, aa, _, 0, _, rfl, rfl, .inl (.inl ha), at_of (j := 0) rfl rfl, rfl, _, rfl, iteT ⟨_, rfl, ab, _, 0, _, rfl, rfl, .inl (.inl hb), at_of (j := 0) rfl rfl, rfl, false, congrArg V.bl wb, iteF ?_⟩⟩
      have q' := q
      rw [join_nb o m nb] at q'
      refine ⟨_, rfl, aa, _, 0, _, rfl, rfl, .inl (.inl ha), at_of (j := 0) rfl rfl, rfl, _, rfl, iteT ?_⟩
      refine ⟨_, rfl, ea, _, rfl, .inr (ew.s H), rfl, rfl, swaps o, congrArg V.bl (in_swaps o), ?_⟩
      by_cases hs : swaps o = true
      · rw [if_pos hs] at q'
        refine if_true_of hs ?_
        have hx' := hx (.inr ⟨⟨m, rfl⟩, nb, hs⟩)
        refine ⟨_, rfl, _, rfl, _, rfl, o, .ref ab, .ref aa, b, .num m, rfl, bb, ba, ob, oa, by omega, ?_, fun H1 v g1 b1 => q' H1 v g1 (by rw [join_an o m nb] at b1; exact b1)⟩
        rintro (⟨z, _⟩ | ⟨⟨j, z⟩, _⟩)
        · rw [z] at hs; cases hs
        · exact absurd z (nb j)
      · rw [if_neg hs] at q'
        refine if_false_of (by cases h : swaps o; rfl; exact absurd h hs) ?_
        refine ⟨_, rfl, ab, _, 0, _, rfl, rfl, .inl (.inl hb), at_of (j := 0) rfl rfl, rfl, true, congrArg (fun z => V.bl (!z)) wb, iteT ?_⟩
        refine ⟨_, rfl, _, rfl, _, rfl, (by show 3 ≤ sizeLine; decide), fun p hp => ?_⟩
        have g := same_new hp (.tup [.str o.str, .ref aa, .ref ab])
        exact q' _ _ g (.two upd_same (ba.mono (Tups.of g)) (bb.mono (Tups.of g)))
  · have wa := word_nn na
    refine ⟨_, rfl, aa, _, 0, _, rfl, rfl, .inl (.inl ha), at_of (j := 0) rfl rfl, rfl, false, congrArg V.bl wa, iteF ?_⟩
    refine ⟨_, rfl, aa, _, 0, _, rfl, rfl, .inl (.inl ha), at_of (j := 0) rfl rfl, rfl, false, congrArg V.bl wa, iteF ?_⟩
    rcases isnum b with ⟨n, rfl⟩ | nb
    · refine ⟨_, rfl, ab, _, 0, _, rfl, rfl, .inl (.inl hb), at_of (j := 0) rfl rfl, rfl, _, rfl, iteF ?_⟩
      cases bb with
      | num hb2 =>
        refine ⟨_, rfl, _, rfl, _, rfl, ab, _, 1, _, rfl, rfl, .inl (.inl hb2), rfl, o, .ref aa, a, n, rfl, ba, oa, ob, na, by omega, fun ho => ?_, fun H1 v g1 b1 => q H1 v g1 (by rw [join_an o n na]; exact b1)⟩
        have := hx (.inl ⟨ho, na⟩)
        omega
    · have wb := word_nn nb
      refine ⟨_, rfl, ab, _, 0, _, rfl, rfl, .inl (.inl hb), at_of (j := 0) rfl rfl, rfl, true, congrArg (fun z => V.bl (!z)) wb, iteT ?_⟩
      refine ⟨_, rfl, _, rfl, _, rfl, (by show 3 ≤ sizeLine; decide), fun p hp => ?_⟩
      have g := same_new hp (.tup [.str o.str, .ref aa, .ref ab])
      refine q _ _ g ?_
      rw [join_ab o na nb]
      exact .two upd_same (ba.mono (Tups.of g)) (bb.mono (Tups.of g))
theorem sc_by_number : FnScope ["word", "short", "n"] ["word", "short", "n"] (defScope s_by_number) := ⟨rfl, rfl, rfl, by decide +kernel, rfl, by decide +kernel, by decide +kernel⟩
theorem ok_by_number (k : Nat) (d : Df K mg "_by_number" s_by_number ["word", "short", "n"] f fd) (d_joined : Df K mg "joined" s_joined ["word", "one", "two"] f1 fd1) (G_joined : FnOk P w K mg base CX0 k f1 fd1 ["word", "one", "two"] (spPJoin k))
    (d_plus : Df K mg "_plus" s_plus ["short", "n"] f2 fd2) (G_plus : FnOk P w K mg base CX0 k f2 fd2 ["short", "n"] (spStepN sumN k)) (d_times : Df K mg "_times" s_times ["short", "n"] f3 fd3) (G_times : FnOk P w K mg base CX0 k f3 fd3 ["short", "n"] (spStepN timesN k))
    (d_part : Df K mg "_part" s_part ["short", "n"] f4 fd4) (G_part : FnOk P w K mg base CX0 k f4 fd4 ["short", "n"] (spStepN partN k)) (d_rest : Df K mg "_rest" s_rest ["short", "n"] f5 fd5) (G_rest : FnOk P w K mg base CX0 k f5 fd5 ["short", "n"] (spStepN restN k)) :
    FnOk P w K mg base CX0 (k + 1) f fd ["word", "short", "n"] (spByN (k + 1)) := by
  refine d.F.ok sc_by_number (fun vs H Q E h => ?_) (fun cdv A outer s H vs Q E hr h => ?_)
  · obtain ⟨o, vt, t, n, rfl, _⟩ := h
    rfl
  obtain ⟨o, vt, t, n, rfl, b, ok, hn, nt, hk, hl, q⟩ := h
  have hdt := t.deep_pos
  refine ⟨_, (pss_cons (ps_if (pt_cmpR op_eq (pv 0) pe_str (nomark _)) (pss_one (ps_ret (pe_call G_joined (hr.mono (by omega)) (by rfl) d_joined.m d_joined.k d_joined.b .nil pass0 (pa_cons pe_str (pa_cons (pv 1) (pa_cons (pe_tup (pa_cons pe_str (pa_cons (pe_un un_neg (pv 2)) pa_nil))) pa_nil)))))) pss_nil)
    (pss_cons (ps_if (pt_cmpR op_eq (pv 0) pe_str (nomark _)) (pss_one (ps_ret (pe_call G_plus (hr.mono (by omega)) (by rfl) d_plus.m d_plus.k d_plus.b .nil pass0 (pa_cons (pv 1) (pa_cons (pv 2) pa_nil))))) pss_nil)
    (pss_cons (ps_if (pt_cmpR op_eq (pv 0) pe_str (nomark _)) (pss_one (ps_ret (pe_call G_times (hr.mono (by omega)) (by rfl) d_times.m d_times.k d_times.b .nil pass0 (pa_cons (pv 1) (pa_cons (pv 2) pa_nil))))) pss_nil)
    (pss_cons (ps_if (pt_cmpR op_eq (pv 0) pe_str (nomark _)) (pss_one (ps_ret (pe_call G_part (hr.mono (by omega)) (by rfl) d_part.m d_part.k d_part.b .nil pass0 (pa_cons (pv 1) (pa_cons (pv 2) pa_nil))))) pss_nil)
    (pss_cons (ps_if (pt_cmpR op_eq (pv 0) pe_str (nomark _)) (pss_one (ps_ret (pe_call G_rest (hr.mono (by omega)) (by rfl) d_rest.m d_rest.k d_rest.b .nil pass0 (pa_cons (pv 1) (pa_cons (pv 2) pa_nil))))) pss_nil)
    (pss_one (ps_ret (pe_tup (pa_cons (pv 0) (pa_cons (pv 1) (pa_cons (pe_tup (pa_cons pe_str (pa_cons (pv 2) pa_nil))) pa_nil))))))))))), ?_⟩
  have tup : ∀ (p1 : Addr), H p1 = none → ∀ p2, (upd H p1 (.tup [.str "num", .int n])) p2 = none → joinN o t n = .two o t (.num n) → Q (.ref p2) (upd (upd H p1 (.tup [.str "num", .int n])) p2 (.tup [.str o.str, vt, .ref p1])) := fun p1 h1 p2 h2 e => by
    have g1 := same_new h1 (.tup [.str "num", .int n])
    have g2 := same_new h2 (.tup [.str o.str, vt, .ref p1])
    refine q _ _ (g1.trans g2) ?_
    rw [e]
    exact .two upd_same (b.mono (Tups.of (g1.trans g2))) (.num (g2 _ _ upd_same))
  cases o with
  | less =>
    refine ⟨_, rfl, rfl, _, rfl, iteT ?_⟩
    refine ⟨_, rfl, _, rfl, _, rfl, (by show 2 ≤ sizeLine; decide), fun p hp => ?_⟩
    obtain ⟨g1, b1⟩ := new_num (j := -n) hp
    have hl' := hl rfl
    refine ⟨.sum, vt, .ref p, t, .num (-n), rfl, b.mono (Tups.of g1), b1, ok, hn.neg, ?_, ?_, fun H1 v g2 b2 => q H1 v (g1.trans g2) (by rw [join_an .sum (-n) nt] at b2; exact b2)⟩
    · rw [num1_deep]; omega
    · rintro (⟨z, _⟩ | ⟨⟨j, z⟩, _⟩)
      · cases z
      · exact absurd z (nt j)
  | sum => exact ⟨_, rfl, rfl, _, rfl, iteF ⟨_, rfl, rfl, _, rfl, iteT ⟨_, rfl, _, rfl, vt, t, n, rfl, b, ok, hn, nt, hk, q⟩⟩⟩
  | times => exact ⟨_, rfl, rfl, _, rfl, iteF ⟨_, rfl, rfl, _, rfl, iteF ⟨_, rfl, rfl, _, rfl, iteT ⟨_, rfl, _, rfl, vt, t, n, rfl, b, ok, hn, nt, hk, q⟩⟩⟩⟩
  | part => exact ⟨_, rfl, rfl, _, rfl, iteF ⟨_, rfl, rfl, _, rfl, iteF ⟨_, rfl, rfl, _, rfl, iteF ⟨_, rfl, rfl, _, rfl, iteT ⟨_, rfl, _, rfl, vt, t, n, rfl, b, ok, hn, nt, hk, q⟩⟩⟩⟩⟩
  | rest => exact ⟨_, rfl, rfl, _, rfl, iteF ⟨_, rfl, rfl, _, rfl, iteF ⟨_, rfl, rfl, _, rfl, iteF ⟨_, rfl, rfl, _, rfl, iteF ⟨_, rfl, rfl, _, rfl, iteT ⟨_, rfl, _, rfl, vt, t, n, rfl, b, ok, hn, nt, hk, q⟩⟩⟩⟩⟩⟩
  | below =>
    refine ⟨_, rfl, rfl, _, rfl, iteF ⟨_, rfl, rfl, _, rfl, iteF ⟨_, rfl, rfl, _, rfl, iteF ⟨_, rfl, rfl, _, rfl, iteF ⟨_, rfl, rfl, _, rfl, iteF ?_⟩⟩⟩⟩⟩
    exact ⟨_, rfl, _, rfl, _, rfl, (by show 2 ≤ sizeLine; decide), fun p1 h1 => ⟨(by show 3 ≤ sizeLine; decide), fun p2 h2 => tup p1 h1 p2 h2 rfl⟩⟩
  | same =>
    refine ⟨_, rfl, rfl, _, rfl, iteF ⟨_, rfl, rfl, _, rfl, iteF ⟨_, rfl, rfl, _, rfl, iteF ⟨_, rfl, rfl, _, rfl, iteF ⟨_, rfl, rfl, _, rfl, iteF ?_⟩⟩⟩⟩⟩
    exact ⟨_, rfl, _, rfl, _, rfl, (by show 2 ≤ sizeLine; decide), fun p1 h1 => ⟨(by show 3 ≤ sizeLine; decide), fun p2 h2 => tup p1 h1 p2 h2 rfl⟩⟩
end
end FC
namespace FC
open PySem L2 StX PyProof.Rows
section
variable {P : Program} {w : World} {K : PySem.W.Frag} {mg : Str → Option Value} {base : Heap} {t1 t2 : Tok} {ea B T F f g f1 f2 f3 f4 f5 f6 f7 f8 f9 : Addr} {fd gd fd1 fd2 fd3 fd4 fd5 fd6 fd7 fd8 fd9 : FuncData}
theorem sc_plus : FnScope ["short", "n", "b", "m"] ["short", "n"] (defScope s_plus) := ⟨rfl, rfl, rfl, by decide +kernel, rfl, by decide +kernel, by decide +kernel⟩
theorem ok_plus (k : Nat) (d : Df K mg "_plus" s_plus ["short", "n"] f fd) (z : Bl2 mg) (gl : Gl1 mg t1) (d_joined : Df K mg "joined" s_joined ["word", "one", "two"] f1 fd1) (G_joined : FnOk P w K mg base CX0 k f1 fd1 ["word", "one", "two"] (spPJoin k))
    (d_has_number : Df K mg "_has_number" s_has_number ["word", "short"] f2 fd2) (d_same_side : Df K mg "_same_side" s_same_side ["m", "n"] f3 fd3) :
    FnOk P w K mg base CX0 (k + 1) f fd ["short", "n"] (spStepN sumN (k + 1)) := by
  refine d.F.ok sc_plus (fun vs H Q E h => ?_) (fun cdv A outer s H vs Q E hr h => ?_)
  · obtain ⟨vt, t, n, rfl, _⟩ := h
    rfl
  obtain ⟨vt, t, n, rfl, b, ok, hn, nt, hk, q⟩ := h
  have G_has_number := ok_has_number (P := P) (w := w) (base := base) d_has_number
  have G_same_side := ok_same_side (P := P) (w := w) (base := base) d_same_side
  have hdt := t.deep_pos
  have h1 : 1 ≤ k := by omega
  refine ⟨_, (pss_cons (ps_if (pt_cmpR op_eq (pv 1) pe_int (nomark _)) (pss_one (ps_ret (pv 0))) pss_nil)
    (pss_cons (ps_if (pt_val (pe_call G_has_number (hr.mono (by omega)) (by rfl) d_has_number.m d_has_number.k d_has_number.b .nil pass0 (pa_cons pe_str (pa_cons (pv 0) pa_nil)))) (pss_cons (ps_par (i := 2) (j := 3) (by rfl) sc_plus.nd rfl rfl (by decide) rfl rfl (pa_cons (pe_ix ix_tup (pv 0) pe_int (fun _ _ => rfl)) (pa_cons (pe_ix ix_tup (pe_ix ix_tup (pv 0) pe_int (fun _ _ => rfl)) pe_int (fun _ _ => rfl)) pa_nil)) (by rfl))
    (pss_one (ps_if (PW.pt (pw_and (pt_val (pe_call G_same_side (hr.mono (by omega)) (by rfl) d_same_side.m d_same_side.k d_same_side.b .nil pass0 (pa_cons (pv 3) (pa_cons (pv 1) pa_nil)))) (pw_and1 (pt_cmpR op_le (pe_callB call_abs (by rfl) z.abs (by decide +kernel) (pa_cons (pe_op op_add (pv 3) (pv 1)) pa_nil)) (pe_glob (by rfl) gl.LIMIT (v := .int 1000000000) ⟨_, rfl⟩) (nomark _))))) (pss_one (ps_ret (pe_call G_joined (hr.mono (by omega)) (by rfl) d_joined.m d_joined.k d_joined.b .nil pass0 (pa_cons pe_str (pa_cons (pv 2) (pa_cons (pe_tup (pa_cons pe_str (pa_cons (pe_op op_add (pv 3) (pv 1)) pa_nil))) pa_nil)))))) pss_nil))) pss_nil)
    (pss_cons (ps_if (PW.pt (pw_and (pt_cmpR op_eq (pe_ix ix_tup (pv 0) pe_int (fun _ _ => rfl)) pe_str (nomark _)) (pw_and1 (pt_cmpR op_eq (pe_ix ix_tup (pe_ix ix_tup (pv 0) pe_int (fun _ _ => rfl)) pe_int (fun _ _ => rfl)) pe_str (nomark _))))) (pss_cons (ps_par (i := 3) (j := 2) (by rfl) sc_plus.nd rfl rfl (by decide) rfl rfl (pa_cons (pe_ix ix_tup (pe_ix ix_tup (pv 0) pe_int (fun _ _ => rfl)) pe_int (fun _ _ => rfl)) (pa_cons (pe_ix ix_tup (pv 0) pe_int (fun _ _ => rfl)) pa_nil)) (by rfl))
    (pss_one (ps_if (PW.pt (pw_and (PW.pt (pw_or (pt_cmpR op_eq (pv 3) pe_int (nomark _)) (pw_or1 (pt_val (pe_call G_same_side (hr.mono (by omega)) (by rfl) d_same_side.m d_same_side.k d_same_side.b .nil pass0 (pa_cons (pv 3) (pa_cons (pv 1) pa_nil))))))) (pw_and1 (pt_cmpR op_le (pe_callB call_abs (by rfl) z.abs (by decide +kernel) (pa_cons (pe_op op_add (pv 3) (pv 1)) pa_nil)) (pe_glob (by rfl) gl.LIMIT (v := .int 1000000000) ⟨_, rfl⟩) (nomark _))))) (pss_one (ps_ret (pe_call G_joined (hr.mono (by omega)) (by rfl) d_joined.m d_joined.k d_joined.b .nil pass0 (pa_cons pe_str (pa_cons (pe_tup (pa_cons pe_str (pa_cons (pe_op op_add (pv 3) (pv 1)) pa_nil))) (pa_cons (pv 2) pa_nil)))))) pss_nil))) pss_nil)
    (pss_one (ps_ret (pe_tup (pa_cons pe_str (pa_cons (pv 0) (pa_cons (pe_tup (pa_cons pe_str (pa_cons (pv 1) pa_nil))) pa_nil))))))))), ?_⟩
  by_cases h0 : n = 0
  · refine ⟨_, rfl, rfl, true, congrArg V.bl (decide_eq_true (congrArg V.int h0)), iteT ⟨_, rfl, q H vt (Same.refl _) ?_⟩⟩
    rw [h0, sumN_zero nt]
    exact b
  refine ⟨_, rfl, rfl, false, congrArg V.bl (decide_eq_false (fun e => h0 (by injection e))), iteF ?_⟩
  refine ⟨_, rfl, .sum, vt, t, rfl, b, nt, _, rfl, ?_⟩
  by_cases hs : hasN .sum t = true
  · obtain ⟨c, m, rfl⟩ := hasN_two hs
    refine if_true_of hs ?_
    have b' := b
    cases b with
    | @two a _ v1 v2 _ _ h b1 b2 =>
    cases b2 with
    | @num a2 _ h2 =>
    have hm : NumOk m := ok.2
    have hdd : (Ex.two .sum c (.num m)).deep = max c.deep 1 + 1 := rfl
    have ns : sumN (.two .sum c (.num m)) n = .two .sum (.two .sum c (.num m)) (.num n) → ∀ H' v, Same H H' → Bears H' v (.two .sum (.two .sum c (.num m)) (.num n)) → Q v H' := fun e H' v g bv => q H' v g (by rw [e]; exact bv)
    have es : sumN (.two .sum c (.num m)) n = if ((0 < m ∧ 0 < n) ∨ (m < 0 ∧ n < 0)) ∧ NumOk (m + n) then sumN c (m + n) else .two .sum (.two .sum c (.num m)) (.num n) := by
      rw [sumN]
      exact if_neg h0
    refine ⟨_, rfl, a, _, 1, _, rfl, rfl, .inl (.inl h), rfl, _, rfl, a, _, 2, _, rfl, rfl, .inl (.inl h), rfl, a2, _, 1, _, rfl, rfl, .inl (.inl h2), rfl, _, _, rfl, ?_⟩
    refine ⟨_, rfl, _, rfl, m, n, rfl, _, rfl, ?_⟩
    by_cases hc : (0 < m ∧ 0 < n) ∨ (m < 0 ∧ n < 0)
    · refine if_true_of (decide_eq_true hc) ?_
      refine ⟨_, rfl, _, rfl, _, _, rfl, rfl, _, rfl, _, _, rfl, rfl, _, rfl, ite2 (fun a1 => ?_) (fun a1 => ?_)⟩
      · have hn2 : NumOk (m + n) := abs_lim.mp (of_decide_eq_true a1)
        rw [if_pos ⟨hc, hn2⟩] at es
        refine ⟨_, rfl, _, rfl, _, rfl, _, _, rfl, rfl, (by show 2 ≤ sizeLine; decide), fun p hp => ?_⟩
        obtain ⟨g1, b3⟩ := new_num (j := m + n) hp
        refine ⟨.sum, v1, .ref p, c, .num (m + n), rfl, b1.mono (Tups.of g1), b3, ok.1, hn2, ?_, ?_, fun H1 v g2 b4 => q H1 v (g1.trans g2) (by rw [es]; rw [join_num c (m + n) (.inl rfl)] at b4; exact b4)⟩
        · rw [num1_deep]; omega
        · rintro (⟨e, _⟩ | ⟨_, nb, _⟩)
          · cases e
          · exact absurd rfl (nb (m + n))
      · have hn2 : ¬ NumOk (m + n) := fun e => a1 (decide_eq_true (abs_lim.mpr e))
        rw [if_neg (fun e => hn2 e.2)] at es
        refine ⟨_, rfl, a, _, 0, _, rfl, rfl, .inl (.inl h), rfl, rfl, _, rfl, iteF ?_⟩
        exact stands2 .sum rfl rfl rfl b' (ns es)
    · refine if_false_of (decide_eq_false hc) ?_
      rw [if_neg (fun e => hc e.1)] at es
      refine ⟨_, rfl, a, _, 0, _, rfl, rfl, .inl (.inl h), rfl, rfl, _, rfl, iteF ?_⟩
      exact stands2 .sum rfl rfl rfl b' (ns es)
  · refine if_false_of (by cases e : hasN .sum t; rfl; exact absurd e hs) ?_
    have hns : ∀ b m, t ≠ .two .sum b (.num m) := fun b m e => by subst e; exact hs rfl
    obtain ⟨a, xs, rfl, ha⟩ := b.first
    by_cases hw : t.word = Op.less.str
    · obtain ⟨c, e, rfl⟩ := word_is hw
      have b' := b
      cases b with
      | @two _ _ v1 v2 _ _ h b1 b2 =>
      obtain ⟨a1, ys, rfl, hh1⟩ := b1.first
      refine ⟨_, rfl, a, _, 0, _, rfl, rfl, .inl (.inl h), rfl, rfl, _, rfl, iteT ?_⟩
      rcases isnum c with ⟨m, rfl⟩ | nc
      · cases b1 with
        | num hm1 =>
        have es : sumN (.two .less (.num m) e) n = if ((0 ≤ m ∧ 0 < n) ∨ (m ≤ 0 ∧ n < 0)) ∧ NumOk (m + n) then lessN (m + n) e else .two .sum (.two .less (.num m) e) (.num n) := by
          rw [sumN]
          exact if_neg h0
        have ns : sumN (.two .less (.num m) e) n = .two .sum (.two .less (.num m) e) (.num n) → ∀ H' v, Same H H' → Bears H' v (.two .sum (.two .less (.num m) e) (.num n)) → Q v H' := fun e H' v g bv => q H' v g (by rw [e]; exact bv)
        have hde := e.deep_pos
        have hdd : (Ex.two .less (.num m) e).deep = max 1 e.deep + 1 := rfl
        refine ⟨_, rfl, a, _, 1, _, rfl, rfl, .inl (.inl h), rfl, a1, _, 0, _, rfl, rfl, .inl (.inl hm1), rfl, rfl, _, rfl, iteT ?_⟩
        refine ⟨_, rfl, a, _, 1, _, rfl, rfl, .inl (.inl h), rfl, a1, _, 1, _, rfl, rfl, .inl (.inl hm1), rfl, _, rfl, a, _, 2, _, rfl, rfl, .inl (.inl h), rfl, _, _, rfl, ?_⟩
        have go : ((0 ≤ m ∧ 0 < n) ∨ (m ≤ 0 ∧ n < 0)) → NumOk (m + n) → ∀ p, H p = none → ∀ vv : V, vv = v2 → spPJoin k [.str "less", .ref p, vv] (upd H p (.tup [.str "num", .int (m + n)])) Q (fun _ _ _ => False) := fun hc hn2 p hp vv ev => by
          subst ev
          rw [if_pos ⟨hc, hn2⟩] at es
          obtain ⟨g1, b3⟩ := new_num (j := m + n) hp
          refine ⟨.less, .ref p, vv, .num (m + n), e, rfl, b3, b2.mono (Tups.of g1), hn2, ok.2, ?_, ?_, fun H1 v g2 b4 => q H1 v (g1.trans g2) (by rw [es]; rw [lessN_join] at b4; exact b4)⟩
          · rw [num1_deep]; omega
          · rintro (⟨_, nb⟩ | ⟨_, _, zz⟩)
            · exact absurd rfl (nb (m + n))
            · cases zz
        have no : ¬ (((0 ≤ m ∧ 0 < n) ∨ (m ≤ 0 ∧ n < 0)) ∧ NumOk (m + n)) → ∀ H' v, Same H H' → Bears H' v (.two .sum (.two .less (.num m) e) (.num n)) → Q v H' := fun hh => ns (by rw [es, if_neg hh])
        by_cases hc : (0 ≤ m ∧ 0 < n) ∨ (m ≤ 0 ∧ n < 0)
        · have two : m = 0 ∨ (m ≠ 0 ∧ sameSide m n = true) := by
            by_cases hm0 : m = 0
            · exact .inl hm0
            · exact .inr ⟨hm0, decide_eq_true (by omega)⟩
          rcases two with hm0 | ⟨hm0, hss⟩
          · refine ⟨_, rfl, rfl, true, congrArg V.bl (decide_eq_true (congrArg V.int hm0)), iteT ?_⟩
            refine ⟨_, rfl, _, rfl, _, _, rfl, rfl, _, rfl, _, _, rfl, rfl, _, rfl, ite2 (fun a1 => ?_) (fun a1 => ?_)⟩
            · exact ⟨_, rfl, _, rfl, _, _, rfl, rfl, (by show 2 ≤ sizeLine; decide), fun p hp => ⟨_, rfl, go hc (abs_lim.mp (of_decide_eq_true a1)) p hp _ rfl⟩⟩
            · exact stands2 .sum rfl rfl rfl b' (no fun zz => a1 (decide_eq_true (abs_lim.mpr zz.2)))
          · refine ⟨_, rfl, rfl, false, congrArg V.bl (decide_eq_false fun zz => hm0 (by injection zz)), iteF ⟨_, rfl, _, rfl, m, n, rfl, true, congrArg V.bl hss, iteT ?_⟩⟩
            refine ⟨_, rfl, _, rfl, _, _, rfl, rfl, _, rfl, _, _, rfl, rfl, _, rfl, ite2 (fun a1 => ?_) (fun a1 => ?_)⟩
            · exact ⟨_, rfl, _, rfl, _, _, rfl, rfl, (by show 2 ≤ sizeLine; decide), fun p hp => ⟨_, rfl, go hc (abs_lim.mp (of_decide_eq_true a1)) p hp _ rfl⟩⟩
            · exact stands2 .sum rfl rfl rfl b' (no fun zz => a1 (decide_eq_true (abs_lim.mpr zz.2)))
        · have hm0 : m ≠ 0 := by omega
          have hss : sameSide m n = false := decide_eq_false (by omega)
          refine ⟨_, rfl, rfl, false, congrArg V.bl (decide_eq_false fun zz => hm0 (by injection zz)), iteF ⟨_, rfl, _, rfl, m, n, rfl, false, congrArg V.bl hss, iteF ?_⟩⟩
          exact stands2 .sum rfl rfl rfl b' (no fun zz => hc zz.1)
      · refine ⟨_, rfl, a, _, 1, _, rfl, rfl, .inl (.inl h), rfl, a1, _, 0, _, rfl, rfl, .inl (.inl hh1), at_of (j := 0) rfl rfl, rfl, false, congrArg V.bl (word_nn nc), iteF ?_⟩
        exact stands2 .sum rfl rfl rfl b' fun H' v g bv => q H' v g (by rw [sumN_else nt h0 hns (fun b m zz => by cases zz; exact nc m rfl)]; exact bv)
    · refine ⟨_, rfl, a, _, 0, _, rfl, rfl, .inl (.inl ha), at_of (j := 0) rfl rfl, rfl, false, congrArg V.bl (decide_eq_false fun e => hw (by injection e)), iteF ?_⟩
      exact stands2 .sum rfl rfl rfl b fun H' v g bv => q H' v g (by rw [sumN_else nt h0 hns (fun b m zz => hw (by rw [zz]; rfl))]; exact bv)
end
end FC
namespace FC
open PySem L2 StX PyProof.Rows
section
variable {P : Program} {w : World} {K : PySem.W.Frag} {mg : Str → Option Value} {base : Heap} {t1 t2 : Tok} {ea B T F f g f1 f2 f3 f4 f5 f6 f7 f8 f9 : Addr} {fd gd fd1 fd2 fd3 fd4 fd5 fd6 fd7 fd8 fd9 : FuncData}
theorem sc_times : FnScope ["short", "n", "b", "m"] ["short", "n"] (defScope s_times) := ⟨rfl, rfl, rfl, by decide +kernel, rfl, by decide +kernel, by decide +kernel⟩
theorem ok_times (k : Nat) (d : Df K mg "_times" s_times ["short", "n"] f fd) (z : Bl2 mg) (gl : Gl1 mg t1) (d_joined : Df K mg "joined" s_joined ["word", "one", "two"] f1 fd1) (G_joined : FnOk P w K mg base CX0 k f1 fd1 ["word", "one", "two"] (spPJoin k))
    (d_has_number : Df K mg "_has_number" s_has_number ["word", "short"] f2 fd2) :
    FnOk P w K mg base CX0 (k + 1) f fd ["short", "n"] (spStepN timesN (k + 1)) := by
  refine d.F.ok sc_times (fun vs H Q E h => ?_) (fun cdv A outer s H vs Q E hr h => ?_)
  · obtain ⟨vt, t, n, rfl, _⟩ := h
    rfl
  obtain ⟨vt, t, n, rfl, b, ok, hn, nt, hk, q⟩ := h
  have G_has_number := ok_has_number (P := P) (w := w) (base := base) d_has_number
  have hdt := t.deep_pos
  have h1 : 1 ≤ k := by omega
  refine ⟨_, (pss_cons (ps_if (pt_cmpR op_eq (pv 1) pe_int (nomark _)) (pss_one (ps_ret (pv 0))) pss_nil)
    (pss_cons (ps_if (pt_val (pe_call G_has_number (hr.mono (by omega)) (by rfl) d_has_number.m d_has_number.k d_has_number.b .nil pass0 (pa_cons pe_str (pa_cons (pv 0) pa_nil)))) (pss_cons (ps_par (i := 2) (j := 3) (by rfl) sc_times.nd rfl rfl (by decide) rfl rfl (pa_cons (pe_ix ix_tup (pv 0) pe_int (fun _ _ => rfl)) (pa_cons (pe_ix ix_tup (pe_ix ix_tup (pv 0) pe_int (fun _ _ => rfl)) pe_int (fun _ _ => rfl)) pa_nil)) (by rfl))
    (pss_one (ps_if (PW.pt (pw_and (pt_cmpR op_ne (pv 1) pe_int (nomark _)) (pw_and1 (pt_cmpR op_le (pe_callB call_abs (by rfl) z.abs (by decide +kernel) (pa_cons (pe_op op_mul (pv 3) (pv 1)) pa_nil)) (pe_glob (by rfl) gl.LIMIT (v := .int 1000000000) ⟨_, rfl⟩) (nomark _))))) (pss_one (ps_ret (pe_call G_joined (hr.mono (by omega)) (by rfl) d_joined.m d_joined.k d_joined.b .nil pass0 (pa_cons pe_str (pa_cons (pv 2) (pa_cons (pe_tup (pa_cons pe_str (pa_cons (pe_op op_mul (pv 3) (pv 1)) pa_nil))) pa_nil)))))) pss_nil))) pss_nil)
    (pss_one (ps_ret (pe_tup (pa_cons pe_str (pa_cons (pv 0) (pa_cons (pe_tup (pa_cons pe_str (pa_cons (pv 1) pa_nil))) pa_nil)))))))), ?_⟩
  by_cases h0 : n = 1
  · refine ⟨_, rfl, rfl, true, congrArg V.bl (decide_eq_true (congrArg V.int h0)), iteT ⟨_, rfl, q H vt (Same.refl _) ?_⟩⟩
    rw [h0, timesN_one nt]
    exact b
  refine ⟨_, rfl, rfl, false, congrArg V.bl (decide_eq_false (fun e => h0 (by injection e))), iteF ?_⟩
  refine ⟨_, rfl, .times, vt, t, rfl, b, nt, _, rfl, ?_⟩
  by_cases hs : hasN .times t = true
  · obtain ⟨c, m, rfl⟩ := hasN_two hs
    refine if_true_of hs ?_
    have b' := b
    cases b with
    | @two a _ v1 v2 _ _ h b1 b2 =>
    cases b2 with
    | @num a2 _ h2 =>
    have hm : NumOk m := ok.2
    have hm1 := hm.1
    have hm2 := hm.2
    have hdd : (Ex.two .times c (.num m)).deep = max c.deep 1 + 1 := rfl
    have ns : timesN (.two .times c (.num m)) n = .two .times (.two .times c (.num m)) (.num n) → ∀ H' v, Same H H' → Bears H' v (.two .times (.two .times c (.num m)) (.num n)) → Q v H' := fun e H' v g bv => q H' v g (by rw [e]; exact bv)
    have es : timesN (.two .times c (.num m)) n = if n ≠ 0 ∧ NumOk (m * n) then timesN c (m * n) else .two .times (.two .times c (.num m)) (.num n) := by
      rw [timesN]
      exact if_neg h0
    refine ⟨_, rfl, a, _, 1, _, rfl, rfl, .inl (.inl h), rfl, _, rfl, a, _, 2, _, rfl, rfl, .inl (.inl h), rfl, a2, _, 1, _, rfl, rfl, .inl (.inl h2), rfl, _, _, rfl, ?_⟩
    by_cases hc : n = 0
    · rw [if_neg (fun e => e.1 hc)] at es
      refine ⟨_, rfl, rfl, false, congrArg (fun z => V.bl (!z)) (decide_eq_true (congrArg V.int hc)), iteF ?_⟩
      exact stands2 .times rfl rfl rfl b' (ns es)
    · refine ⟨_, rfl, rfl, true, congrArg (fun z => V.bl (!z)) (decide_eq_false (fun e => hc (by injection e))), iteT ?_⟩
      refine ⟨_, rfl, _, rfl, _, _, rfl, rfl, .inl ⟨by omega, by omega⟩, _, rfl, _, _, rfl, rfl, _, rfl, ite2 (fun a1 => ?_) (fun a1 => ?_)⟩
      · have hn2 : NumOk (m * n) := abs_lim.mp (of_decide_eq_true a1)
        rw [if_pos ⟨hc, hn2⟩] at es
        refine ⟨_, rfl, _, rfl, _, rfl, _, _, rfl, rfl, .inl ⟨by omega, by omega⟩, (by show 2 ≤ sizeLine; decide), fun p hp => ?_⟩
        obtain ⟨g1, b3⟩ := new_num (j := m * n) hp
        refine ⟨.times, v1, .ref p, c, .num (m * n), rfl, b1.mono (Tups.of g1), b3, ok.1, hn2, ?_, ?_, fun H1 v g2 b4 => q H1 v (g1.trans g2) (by rw [es]; rw [join_num c (m * n) (.inr (.inl rfl))] at b4; exact b4)⟩
        · rw [num1_deep]; omega
        · rintro (⟨e, _⟩ | ⟨_, nb, _⟩)
          · cases e
          · exact absurd rfl (nb (m * n))
      · rw [if_neg (fun e => a1 (decide_eq_true (abs_lim.mpr e.2)))] at es
        exact stands2 .times rfl rfl rfl b' (ns es)
  · refine if_false_of (by cases e : hasN .times t; rfl; exact absurd e hs) ?_
    exact stands2 .times rfl rfl rfl b fun H' v g bv => q H' v g (by rw [timesN_else nt h0 (fun b m e => by subst e; exact hs rfl)]; exact bv)
theorem sc_part : FnScope ["short", "n", "b", "m"] ["short", "n"] (defScope s_part) := ⟨rfl, rfl, rfl, by decide +kernel, rfl, by decide +kernel, by decide +kernel⟩
theorem ok_part (k : Nat) (d : Df K mg "_part" s_part ["short", "n"] f fd) (z : Bl2 mg) (gl : Gl1 mg t1) (d_joined : Df K mg "joined" s_joined ["word", "one", "two"] f1 fd1) (G_joined : FnOk P w K mg base CX0 k f1 fd1 ["word", "one", "two"] (spPJoin k))
    (d_has_number : Df K mg "_has_number" s_has_number ["word", "short"] f2 fd2) :
    FnOk P w K mg base CX0 (k + 1) f fd ["short", "n"] (spStepN partN (k + 1)) := by
  refine d.F.ok sc_part (fun vs H Q E h => ?_) (fun cdv A outer s H vs Q E hr h => ?_)
  · obtain ⟨vt, t, n, rfl, _⟩ := h
    rfl
  obtain ⟨vt, t, n, rfl, b, ok, hn, nt, hk, q⟩ := h
  have G_has_number := ok_has_number (P := P) (w := w) (base := base) d_has_number
  have hdt := t.deep_pos
  have h1 : 1 ≤ k := by omega
  refine ⟨_, (pss_cons (ps_if (pt_cmpR op_eq (pv 1) pe_int (nomark _)) (pss_one (ps_ret (pv 0))) pss_nil)
    (pss_cons (ps_if (pt_val (pe_call G_has_number (hr.mono (by omega)) (by rfl) d_has_number.m d_has_number.k d_has_number.b .nil pass0 (pa_cons pe_str (pa_cons (pv 0) pa_nil)))) (pss_cons (ps_par (i := 2) (j := 3) (by rfl) sc_part.nd rfl rfl (by decide) rfl rfl (pa_cons (pe_ix ix_tup (pv 0) pe_int (fun _ _ => rfl)) (pa_cons (pe_ix ix_tup (pe_ix ix_tup (pv 0) pe_int (fun _ _ => rfl)) pe_int (fun _ _ => rfl)) pa_nil)) (by rfl))
    (pss_one (ps_if (PW.pt (pw_and (pt_cmpR op_gt (pv 3) pe_int (nomark _)) (pw_and (pt_cmpR op_gt (pv 1) pe_int (nomark _)) (pw_and1 (pt_cmpR op_le (pe_op op_mul (pv 3) (pv 1)) (pe_glob (by rfl) gl.LIMIT (v := .int 1000000000) ⟨_, rfl⟩) (nomark _)))))) (pss_one (ps_ret (pe_call G_joined (hr.mono (by omega)) (by rfl) d_joined.m d_joined.k d_joined.b .nil pass0 (pa_cons pe_str (pa_cons (pv 2) (pa_cons (pe_tup (pa_cons pe_str (pa_cons (pe_op op_mul (pv 3) (pv 1)) pa_nil))) pa_nil)))))) pss_nil))) pss_nil)
    (pss_one (ps_ret (pe_tup (pa_cons pe_str (pa_cons (pv 0) (pa_cons (pe_tup (pa_cons pe_str (pa_cons (pv 1) pa_nil))) pa_nil)))))))), ?_⟩
  by_cases h0 : n = 1
  · refine ⟨_, rfl, rfl, true, congrArg V.bl (decide_eq_true (congrArg V.int h0)), iteT ⟨_, rfl, q H vt (Same.refl _) ?_⟩⟩
    rw [h0, partN_one nt]
    exact b
  refine ⟨_, rfl, rfl, false, congrArg V.bl (decide_eq_false (fun e => h0 (by injection e))), iteF ?_⟩
  refine ⟨_, rfl, .part, vt, t, rfl, b, nt, _, rfl, ?_⟩
  by_cases hs : hasN .part t = true
  · obtain ⟨c, m, rfl⟩ := hasN_two hs
    refine if_true_of hs ?_
    have b' := b
    cases b with
    | @two a _ v1 v2 _ _ h b1 b2 =>
    cases b2 with
    | @num a2 _ h2 =>
    have hm : NumOk m := ok.2
    have hm1 := hm.1
    have hm2 := hm.2
    have hdd : (Ex.two .part c (.num m)).deep = max c.deep 1 + 1 := rfl
    have ns : partN (.two .part c (.num m)) n = .two .part (.two .part c (.num m)) (.num n) → ∀ H' v, Same H H' → Bears H' v (.two .part (.two .part c (.num m)) (.num n)) → Q v H' := fun e H' v g bv => q H' v g (by rw [e]; exact bv)
    have es : partN (.two .part c (.num m)) n = if 0 < m ∧ 0 < n ∧ NumOk (m * n) then partN c (m * n) else .two .part (.two .part c (.num m)) (.num n) := by
      rw [partN]
      exact if_neg h0
    refine ⟨_, rfl, a, _, 1, _, rfl, rfl, .inl (.inl h), rfl, _, rfl, a, _, 2, _, rfl, rfl, .inl (.inl h), rfl, a2, _, 1, _, rfl, rfl, .inl (.inl h2), rfl, _, _, rfl, ?_⟩
    refine ⟨_, rfl, _, _, rfl, rfl, _, rfl, ite2 (fun a1 => ?_) (fun a1 => ?_)⟩
    · have a1' : (0 : Int) < m := of_decide_eq_true a1
      refine ⟨_, rfl, _, _, rfl, rfl, _, rfl, ite2 (fun a2 => ?_) (fun a2 => ?_)⟩
      · have a2' : (0 : Int) < n := of_decide_eq_true a2
        have hpos : 0 < m * n := Int.mul_pos a1' a2'
        refine ⟨_, rfl, _, rfl, _, _, rfl, rfl, .inl ⟨by omega, by omega⟩, _, _, rfl, rfl, _, rfl, ite2 (fun a3 => ?_) (fun a3 => ?_)⟩
        · have a3' : m * n ≤ 1000000000 := of_decide_eq_true a3
          have hn2 : NumOk (m * n) := ⟨by omega, a3'⟩
          rw [if_pos ⟨a1', a2', hn2⟩] at es
          refine ⟨_, rfl, _, rfl, _, rfl, _, _, rfl, rfl, .inl ⟨by omega, by omega⟩, (by show 2 ≤ sizeLine; decide), fun p hp => ?_⟩
          obtain ⟨g1, b3⟩ := new_num (j := m * n) hp
          refine ⟨.part, v1, .ref p, c, .num (m * n), rfl, b1.mono (Tups.of g1), b3, ok.1, hn2, ?_, ?_, fun H1 v g2 b4 => q H1 v (g1.trans g2) (by rw [es]; rw [join_num c (m * n) (.inr (.inr (.inl rfl)))] at b4; exact b4)⟩
          · rw [num1_deep]; omega
          · rintro (⟨e, _⟩ | ⟨_, nb, _⟩)
            · cases e
            · exact absurd rfl (nb (m * n))
        · rw [if_neg (fun e => a3 (decide_eq_true e.2.2.2))] at es
          exact stands2 .part rfl rfl rfl b' (ns es)
      · rw [if_neg (fun e => a2 (decide_eq_true e.2.1))] at es
        exact stands2 .part rfl rfl rfl b' (ns es)
    · rw [if_neg (fun e => a1 (decide_eq_true e.1))] at es
      exact stands2 .part rfl rfl rfl b' (ns es)
  · refine if_false_of (by cases e : hasN .part t; rfl; exact absurd e hs) ?_
    exact stands2 .part rfl rfl rfl b fun H' v g bv => q H' v g (by rw [partN_else nt h0 (fun b m e => by subst e; exact hs rfl)]; exact bv)
theorem sc_rest : FnScope ["short", "n", "b", "m"] ["short", "n"] (defScope s_rest) := ⟨rfl, rfl, rfl, by decide +kernel, rfl, by decide +kernel, by decide +kernel⟩
theorem ok_rest (k : Nat) (d : Df K mg "_rest" s_rest ["short", "n"] f fd) (z : Bl2 mg) (d_joined : Df K mg "joined" s_joined ["word", "one", "two"] f1 fd1) (G_joined : FnOk P w K mg base CX0 k f1 fd1 ["word", "one", "two"] (spPJoin k))
    (d_has_number : Df K mg "_has_number" s_has_number ["word", "short"] f2 fd2) :
    FnOk P w K mg base CX0 (k + 1) f fd ["short", "n"] (spStepN restN (k + 1)) := by
  refine d.F.ok sc_rest (fun vs H Q E h => ?_) (fun cdv A outer s H vs Q E hr h => ?_)
  · obtain ⟨vt, t, n, rfl, _⟩ := h
    rfl
  obtain ⟨vt, t, n, rfl, b, ok, hn, nt, hk, q⟩ := h
  have G_has_number := ok_has_number (P := P) (w := w) (base := base) d_has_number
  have hdt := t.deep_pos
  have h1 : 1 ≤ k := by omega
  refine ⟨_, (pss_cons (ps_if (pt_val (pe_call G_has_number (hr.mono (by omega)) (by rfl) d_has_number.m d_has_number.k d_has_number.b .nil pass0 (pa_cons pe_str (pa_cons (pv 0) pa_nil)))) (pss_cons (ps_par (i := 2) (j := 3) (by rfl) sc_rest.nd rfl rfl (by decide) rfl rfl (pa_cons (pe_ix ix_tup (pv 0) pe_int (fun _ _ => rfl)) (pa_cons (pe_ix ix_tup (pe_ix ix_tup (pv 0) pe_int (fun _ _ => rfl)) pe_int (fun _ _ => rfl)) pa_nil)) (by rfl))
    (pss_one (ps_if (PW.pt (pw_and (pt_cmpR op_gt (pv 3) pe_int (nomark _)) (pw_and1 (pt_cmpR op_gt (pv 1) pe_int (nomark _))))) (pss_cons (ps_if (pt_cmpR op_le (pv 3) (pv 1) (nomark _)) (pss_one (ps_ret (pv 0))) pss_nil)
    (pss_one (ps_if (pt_cmpR op_eq (pe_op op_mod (pv 3) (pv 1)) pe_int (nomark _)) (pss_one (ps_ret (pe_call G_joined (hr.mono (by omega)) (by rfl) d_joined.m d_joined.k d_joined.b .nil pass0 (pa_cons pe_str (pa_cons (pv 2) (pa_cons (pe_tup (pa_cons pe_str (pa_cons (pv 1) pa_nil))) pa_nil)))))) pss_nil))) pss_nil))) pss_nil)
    (pss_one (ps_ret (pe_tup (pa_cons pe_str (pa_cons (pv 0) (pa_cons (pe_tup (pa_cons pe_str (pa_cons (pv 1) pa_nil))) pa_nil))))))), ?_⟩
  refine ⟨_, rfl, .rest, vt, t, rfl, b, nt, _, rfl, ?_⟩
  by_cases hs : hasN .rest t = true
  · obtain ⟨c, m, rfl⟩ := hasN_two hs
    refine if_true_of hs ?_
    have b' := b
    cases b with
    | @two a _ v1 v2 _ _ h b1 b2 =>
    cases b2 with
    | @num a2 _ h2 =>
    have hm : NumOk m := ok.2
    have hdd : (Ex.two .rest c (.num m)).deep = max c.deep 1 + 1 := rfl
    have ns : restN (.two .rest c (.num m)) n = .two .rest (.two .rest c (.num m)) (.num n) → ∀ H' v, Same H H' → Bears H' v (.two .rest (.two .rest c (.num m)) (.num n)) → Q v H' := fun e H' v g bv => q H' v g (by rw [e]; exact bv)
    have es : restN (.two .rest c (.num m)) n = if 0 < m ∧ 0 < n ∧ m ≤ n then .two .rest c (.num m) else if 0 < m ∧ 0 < n ∧ m.fmod n = 0 then restN c n else .two .rest (.two .rest c (.num m)) (.num n) := by
      rw [restN]
    refine ⟨_, rfl, a, _, 1, _, rfl, rfl, .inl (.inl h), rfl, _, rfl, a, _, 2, _, rfl, rfl, .inl (.inl h), rfl, a2, _, 1, _, rfl, rfl, .inl (.inl h2), rfl, _, _, rfl, ?_⟩
    refine ⟨_, rfl, _, _, rfl, rfl, _, rfl, ite2 (fun a1 => ?_) (fun a1 => ?_)⟩
    · have a1' : (0 : Int) < m := of_decide_eq_true a1
      refine ⟨_, rfl, _, _, rfl, rfl, _, rfl, ite2 (fun a2 => ?_) (fun a2 => ?_)⟩
      · have a2' : (0 : Int) < n := of_decide_eq_true a2
        refine ⟨_, rfl, _, rfl, _, _, rfl, rfl, _, rfl, ite2 (fun a3 => ?_) (fun a3 => ?_)⟩
        · have a3' : m ≤ n := of_decide_eq_true a3
          rw [if_pos ⟨a1', a2', a3'⟩] at es
          exact ⟨_, rfl, q H _ (Same.refl _) (by rw [es]; exact b')⟩
        · have a3' : ¬ m ≤ n := fun e => a3 (decide_eq_true e)
          rw [if_neg (fun e => a3' e.2.2), Int.fmod_eq_emod_of_nonneg _ (Int.le_of_lt a2')] at es
          refine ⟨_, rfl, _, rfl, _, _, rfl, rfl, a2', rfl, _, rfl, ite2 (fun a4 => ?_) (fun a4 => ?_)⟩
          · have a4' : m % n = 0 := by have := of_decide_eq_true a4; injection this
            rw [if_pos ⟨a1', a2', a4'⟩] at es
            refine ⟨_, rfl, _, rfl, (by show 2 ≤ sizeLine; decide), fun p hp => ?_⟩
            obtain ⟨g1, b3⟩ := new_num (j := n) hp
            refine ⟨.rest, v1, .ref p, c, .num n, rfl, b1.mono (Tups.of g1), b3, ok.1, hn, ?_, ?_, fun H1 v g2 b4 => q H1 v (g1.trans g2) (by rw [es]; rw [join_num c n (.inr (.inr (.inr rfl)))] at b4; exact b4)⟩
            · rw [num1_deep]; omega
            · rintro (⟨e, _⟩ | ⟨_, nb, _⟩)
              · cases e
              · exact absurd rfl (nb n)
          · rw [if_neg (fun e => a4 (decide_eq_true (congrArg V.int e.2.2)))] at es
            exact stands2 .rest rfl rfl rfl b' (ns es)
      · rw [if_neg (fun e => a2 (decide_eq_true e.2.1)), if_neg (fun e => a2 (decide_eq_true e.2.1))] at es
        exact stands2 .rest rfl rfl rfl b' (ns es)
    · rw [if_neg (fun e => a1 (decide_eq_true e.1)), if_neg (fun e => a1 (decide_eq_true e.1))] at es
      exact stands2 .rest rfl rfl rfl b' (ns es)
  · refine if_false_of (by cases e : hasN .rest t; rfl; exact absurd e hs) ?_
    exact stands2 .rest rfl rfl rfl b fun H' v g bv => q H' v g (by rw [restN_else nt (fun b m e => by subst e; exact hs rfl)]; exact bv)
structure JDs (K : PySem.W.Frag) (mg : Str → Option Value) (ea : Addr) (t1 : Tok) (f1 f2 f3 f4 f5 f6 f7 f8 f9 : Addr) (fd1 fd2 fd3 fd4 fd5 fd6 fd7 fd8 fd9 : FuncData) : Prop where
  joined : Df K mg "joined" s_joined ["word", "one", "two"] f1 fd1
  settled : Df K mg "_settled" s_settled ["word", "one", "two"] f2 fd2
  by_number : Df K mg "_by_number" s_by_number ["word", "short", "n"] f3 fd3
  plus : Df K mg "_plus" s_plus ["short", "n"] f4 fd4
  times : Df K mg "_times" s_times ["short", "n"] f5 fd5
  part : Df K mg "_part" s_part ["short", "n"] f6 fd6
  rest : Df K mg "_rest" s_rest ["short", "n"] f7 fd7
  has_number : Df K mg "_has_number" s_has_number ["word", "short"] f8 fd8
  same_side : Df K mg "_same_side" s_same_side ["m", "n"] f9 fd9
  ew : Ew K mg ea
  z : Bl2 mg
  gl : Gl1 mg t1
structure JOk (P : Program) (w : World) (K : PySem.W.Frag) (mg : Str → Option Value) (base : Heap) (k : Nat) (f1 f3 f4 f5 f6 f7 : Addr) (fd1 fd3 fd4 fd5 fd6 fd7 : FuncData) : Prop where
  joined : FnOk P w K mg base CX0 k f1 fd1 ["word", "one", "two"] (spPJoin k)
  by_number : FnOk P w K mg base CX0 k f3 fd3 ["word", "short", "n"] (spByN k)
  plus : FnOk P w K mg base CX0 k f4 fd4 ["short", "n"] (spStepN sumN k)
  times : FnOk P w K mg base CX0 k f5 fd5 ["short", "n"] (spStepN timesN k)
  part : FnOk P w K mg base CX0 k f6 fd6 ["short", "n"] (spStepN partN k)
  rest : FnOk P w K mg base CX0 k f7 fd7 ["short", "n"] (spStepN restN k)
theorem none_ok {ps : List Str} {sp : Sp} (no : ∀ vs H Q E, ¬ sp vs H Q E) : FnOk P w K mg base CX0 0 f fd ps sp :=
  ⟨fun vs H Q E h => absurd h (no vs H Q E), fun A outer s H args us vs Q E _ _ _ _ h => absurd h (no vs H Q E)⟩
theorem stepN0 {g : Ex → Int → Ex} : FnOk P w K mg base CX0 0 f fd ["short", "n"] (spStepN g 0) := none_ok fun vs H Q E ⟨_, t, _, _, _, _, _, _, h, _⟩ => by
  have := t.deep_pos
  omega
theorem all_joined (D : JDs K mg ea t1 f1 f2 f3 f4 f5 f6 f7 f8 f9 fd1 fd2 fd3 fd4 fd5 fd6 fd7 fd8 fd9) (G_settled : FnOk P w K mg base CX0 3 f2 fd2 ["word", "one", "two"] spSettled) : ∀ k, JOk P w K mg base k f1 f3 f4 f5 f6 f7 fd1 fd3 fd4 fd5 fd6 fd7
  | 0 => ⟨none_ok fun vs H Q E ⟨_, _, _, a, _, _, _, _, _, _, h, _⟩ => by have := a.deep_pos; omega, none_ok fun vs H Q E ⟨_, _, t, _, _, _, _, _, _, h, _⟩ => by have := t.deep_pos; omega, stepN0, stepN0, stepN0, stepN0⟩
  | k + 1 => have ih := all_joined D G_settled k
    ⟨ok_joined k D.joined D.ew D.settled G_settled D.by_number ih.by_number ih.joined, ok_by_number k D.by_number D.joined ih.joined D.plus ih.plus D.times ih.times D.part ih.part D.rest ih.rest,
      ok_plus k D.plus D.z D.gl D.joined ih.joined D.has_number D.same_side, ok_times k D.times D.z D.gl D.joined ih.joined D.has_number, ok_part k D.part D.z D.gl D.joined ih.joined D.has_number, ok_rest k D.rest D.z D.joined ih.joined D.has_number⟩
end
end FC
namespace FC
open PySem L2 StX PyProof.Rows
section
variable {P : Program} {w : World} {K : PySem.W.Frag} {mg : Str → Option Value} {base : Heap} {t1 t2 : Tok} {f g f1 f2 f3 f4 f5 f6 f7 f8 f9 : Addr} {fd gd fd1 fd2 fd3 fd4 fd5 fd6 fd7 fd8 fd9 : FuncData}
theorem scMixed : FnScope ["_law_script", "_law_found", "_law_more", "_law_cell"] ["_law_script"] (defScope sMixed) := ⟨rfl, rfl, rfl, by decide +kernel, rfl, by decide +kernel, by decide +kernel⟩
theorem ok_mixed (d : Df K mg "_law_mixed" sMixed ["_law_script"] f fd) : FnOk P w K mg base CX0 1 f fd ["_law_script"] (spMixed K) := by
  refine d.F.ok scMixed (fun vs H Q E h => ?_) (fun cdv A outer s H vs Q E hr h => ?_)
  · obtain ⟨v, e, rfl, _⟩ := h
    rfl
  obtain ⟨a, ns, rfl, hS, h63, q⟩ := h
  refine ⟨_, pss_cons (ps_set (i := 1) scMixed.nd rfl (.inl rfl) (pe_lst pa_nil))
    (pss_cons (ps_set (i := 2) scMixed.nd rfl (.inl rfl) pe_int)
    (pss_cons (ps_for PassesOwn.never rfl (pi_list (pv 0)) (pg_name (i := 3) scMixed.nd rfl (.inl rfl))
      (pss_cons (ps_set (i := 2) scMixed.nd rfl (.inl rfl) (pe_op op_mod (pe_op op_add (pe_op op_add (pe_op op_mul (pv 2) pe_int) (pv 3)) pe_int) pe_int))
      (pss_one (ps_expr (pe_bm PySem.F.plainAttrs_list PySem.F.slot_list_append PySem.F.type_list_append mt_append (pv 1) (pa_cons (pv 2) pa_nil))))))
    (pss_one (ps_ret (pv 1))))), ?_⟩
  refine ⟨(by show 0 ≤ sizeLine; decide), fun F hF => ?_⟩
  refine ⟨_, rfl, a, rfl, ⟨_, (same_new hF _).seq hS⟩, ?_⟩
  refine for_list (K := K) (a := a) (xs := ns.map V.int) (fun i σ H2 => Same H H2 ∧ ∃ (ms : List Int) (m : Int) (z : Option V), H2 F = some (.lst (ms.map V.int)) ∧ ms.length = i ∧ (∀ x ∈ ms, 0 ≤ x) ∧ 0 ≤ m ∧ m < 1000000000000000003 ∧ σ = [some (.ref a), some (.ref F), some (.int m), z])
    ⟨same_new hF _, [], 1, none, upd_same, rfl, (fun _ z => nomatch z), by decide, by decide, rfl⟩ (fun i σ H2 _ h => h.1.seq hS) (fun i x σ H2 hx h => ?_) (fun σ H2 h => ?_)
  · obtain ⟨g2, ms, m, z, hF2, hl, hp, h0, h1, rfl⟩ := h
    rw [List.getElem?_map] at hx
    obtain ⟨y, hy, rfl⟩ := Option.map_eq_some_iff.mp hx
    have hi : i < ns.length := (List.getElem?_eq_some_iff.mp hy).1
    have hmod := Int.emod_nonneg (m * 6364136223846793005 + y + 1442695040888963407) (show (1000000000000000003 : Int) ≠ 0 by decide)
    have hmod2 := Int.emod_lt_of_pos (m * 6364136223846793005 + y + 1442695040888963407) (show (0 : Int) < 1000000000000000003 by decide)
    refine ⟨_, rfl, _, _, rfl, rfl, .inl ⟨by omega, by omega⟩, _, rfl, _, _, rfl, rfl, _, _, rfl, rfl, _, _, rfl, rfl, (show (0 : Int) < 1000000000000000003 by decide), ?_⟩
    refine ⟨_, rfl, .inl ⟨rfl, _, .inl (.inl hF2)⟩, _, rfl, F, _, _, rfl, rfl, hF2, ?_, same_put g2 hF, ms ++ [(m * 6364136223846793005 + y + 1442695040888963407) % 1000000000000000003], (m * 6364136223846793005 + y + 1442695040888963407) % 1000000000000000003, _, ?_, ?_, fun x hx => ?_, hmod, hmod2, rfl⟩
    · rw [List.length_map]
      exact small1000 (by omega)
    · rw [upd_same, List.map_append]
      rfl
    · rw [List.length_append, hl]
      rfl
    · rcases List.mem_append.mp hx with hx | hx
      · exact hp x hx
      · rw [List.mem_singleton.mp hx]
        exact hmod
  · obtain ⟨g2, ms, m, z, hF2, hl, hp, h0, h1, rfl⟩ := h
    exact ⟨_, rfl, q H2 F ms g2 hF2 (by rw [hl, List.length_map]) hp⟩
theorem scCellAt : FnScope ["_law_script", "_law_k"] ["_law_script", "_law_k"] (defScope sCellAt) := ⟨rfl, rfl, rfl, by decide +kernel, rfl, by decide +kernel, by decide +kernel⟩
theorem ok_cellAt (d : Df K mg "_law_cell_at" sCellAt ["_law_script", "_law_k"] f fd) (z : Bl mg) : FnOk P w K mg base CX0 1 f fd ["_law_script", "_law_k"] (spCellAt K) := by
  refine d.F.ok scCellAt (fun vs H Q E h => ?_) (fun cdv A outer s H vs Q E hr h => ?_)
  · obtain ⟨v, e, k, rfl, _⟩ := h
    rfl
  obtain ⟨a, ms, k, rfl, hS, hk, hp, q⟩ := h
  refine ⟨_, pss_cons (ps_if (pt_cmpR op_lt (pv 1) (pe_callB call_len_seq (by rfl) z.len PySem.boot_len (pa_cons (pv 0) pa_nil)) (nomark _)) (pss_one (ps_ret (pe_ix ix_list (pv 0) (pv 1) (fun _ _ => rfl)))) pss_nil)
    (pss_one (ps_ret pe_int)), ?_⟩
  refine ⟨_, rfl, _, rfl, a, _, rfl, .inl hS, _, _, rfl, rfl, _, rfl, ?_⟩
  refine ite2 (fun c => ?_) (fun c => ?_)
  · have c' : k < (((ms.map V.int).length : Nat) : Int) := of_decide_eq_true c
    rw [List.length_map] at c'
    have hj : k.toNat < ms.length := by omega
    refine ⟨_, rfl, _, rfl, a, _, _, _, rfl, rfl, hS, at_of (j := k.toNat) (v := .int ms[k.toNat]) (by omega) ?_, q _ (hp _ (List.getElem_mem hj))⟩
    rw [List.getElem?_map, List.getElem?_eq_getElem hj]
    rfl
  · exact q 0 (by decide)
theorem scWhole : FnScope ["_law_found"] ["_law_found"] (defScope sWhole) := ⟨rfl, rfl, rfl, by decide +kernel, rfl, by decide +kernel, by decide +kernel⟩
theorem ok_whole (d : Df K mg "_law_whole" sWhole ["_law_found"] f fd) (z : Bl mg) : FnOk P w K mg base CX0 1 f fd ["_law_found"] spWhole := by
  refine d.F.ok scWhole (fun vs H Q E h => ?_) (fun cdv A outer s H vs Q E hr h => ?_)
  · obtain ⟨i, rfl, _⟩ := h
    rfl
  obtain ⟨i, rfl, q⟩ := h
  refine ⟨_, pss_one (ps_ret (pe_and (pe_callB call_isi (by rfl) z.isi (by decide +kernel) (pa_cons (pv 0) (pa_cons (pe_bltn (by rfl) z.int (by decide +kernel) (v := .ty "int") rfl) pa_nil)))
    (pe_one (pe_not (pe_callB call_isi (by rfl) z.isi (by decide +kernel) (pa_cons (pv 0) (pa_cons (pe_bltn (by rfl) z.bool (by decide +kernel) (v := .ty "bool") rfl) pa_nil))))))), ?_⟩
  refine ⟨_, rfl, .int i, .ty "int", .type "int", .type "int", true, rfl, .ty _, .base (.int i), kit_ty (by decide +kernel), true, rfl, iteT ?_⟩
  exact ⟨_, rfl, .int i, .ty "bool", .type "int", .type "bool", false, rfl, .ty _, .base (.int i), kit_ty (by decide +kernel), false, rfl, q⟩
theorem scNumBy : FnScope ["_law_cell", "_law_way", "_law_more"] ["_law_cell"] (defScope sNumBy) := ⟨rfl, rfl, rfl, by decide +kernel, rfl, by decide +kernel, by decide +kernel⟩
theorem ok_numBy (d : Df K mg "_law_number_by" sNumBy ["_law_cell"] f fd) : FnOk P w K mg base CX0 1 f fd ["_law_cell"] spNumBy := by
  refine d.F.ok scNumBy (fun vs H Q E h => ?_) (fun cdv A outer s H vs Q E hr h => ?_)
  · obtain ⟨i, rfl, _⟩ := h
    rfl
  obtain ⟨c, rfl, hc, q⟩ := h
  refine ⟨_, pss_cons (ps_set (i := 1) scNumBy.nd rfl (.inl rfl) (pe_op op_mod (pv 0) pe_int))
    (pss_cons (ps_set (i := 2) scNumBy.nd rfl (.inl rfl) (pe_op op_fdiv (pv 0) pe_int))
    (pss_cons (ps_if (pt_cmpR op_eq (pv 1) pe_int (nomark _)) (pss_one (ps_ret (pe_op op_sub (pe_op op_mod (pv 2) pe_int) pe_int))) pss_nil)
    (pss_cons (ps_if (pt_cmpR op_eq (pv 1) pe_int (nomark _)) (pss_one (ps_ret (pe_ix ix_list (pe_lst (pa_cons pe_int (pa_cons (pe_un un_neg pe_int) (pa_cons pe_int (pa_cons (pe_un un_neg pe_int) pa_nil))))) (pe_op op_mod (pv 2) pe_int) (fun _ _ => rfl)))) pss_nil)
    (pss_cons (ps_if (pt_cmpR op_eq (pv 1) pe_int (nomark _)) (pss_one (ps_ret (pe_op op_sub (pe_op op_mod (pv 2) pe_int) pe_int))) pss_nil)
    (pss_cons (ps_if (pt_cmpR op_lt (pv 1) pe_int (nomark _)) (pss_one (ps_ret (pe_ix ix_list (pe_lst (pa_cons pe_int (pa_cons pe_int (pa_cons (pe_un un_neg pe_int) (pa_cons pe_int (pa_cons pe_int (pa_cons pe_int (pa_cons pe_int (pa_cons pe_int (pa_cons pe_int (pa_cons pe_int (pa_cons (pe_un un_neg pe_int) (pa_cons (pe_un un_neg pe_int) (pa_cons pe_int (pa_cons pe_int (pa_cons pe_int (pa_cons pe_int (pa_cons pe_int pa_nil)))))))))))))))))) (pe_op op_mod (pv 2) pe_int) (fun _ _ => rfl)))) pss_nil)
    (pss_one (ps_ret (pe_op op_sub (pe_op op_mod (pv 2) pe_int) pe_int)))))))), ?_⟩
  refine ⟨_, rfl, _, _, rfl, rfl, (show (0 : Int) < 8 by decide), _, rfl, _, _, rfl, rfl, ⟨by decide, by decide⟩, ?_⟩
  refine ⟨_, rfl, rfl, _, rfl, ?_⟩
  refine ite2 (fun _ => ?_) (fun _ => ?_)
  · refine ⟨_, rfl, _, _, rfl, rfl, (show (0 : Int) < 2000000001 by decide), _, _, rfl, rfl, q H _ (Same.refl _) ?_⟩
    have h1 := Int.emod_nonneg (c / 8) (show (2000000001 : Int) ≠ 0 by decide)
    have h2 := Int.emod_lt_of_pos (c / 8) (show (0 : Int) < 2000000001 by decide)
    exact ⟨by omega, by omega⟩
  refine ⟨_, rfl, rfl, _, rfl, ?_⟩
  refine ite2 (fun _ => ?_) (fun _ => ?_)
  · refine ⟨_, rfl, _, rfl, (by show 4 ≤ sizeLine; decide), fun p hp => ?_⟩
    obtain ⟨v, hv, hm⟩ := at_mod (xs := [.int 1000000000, .int (-1000000000), .int 999999999, .int (-999999999)]) (m := c / 8) 4 rfl (by decide)
    obtain ⟨n, rfl, hn⟩ := numV_out (List.all_eq_true.mp (show ([.int 1000000000, .int (-1000000000), .int 999999999, .int (-999999999)] : List V).all numV = true by decide) v hm)
    exact ⟨_, rfl, _, _, rfl, rfl, (show (0 : Int) < 4 by decide), p, _, _, _, rfl, rfl, .inl (.inl upd_same), hv, q _ n (same_new hp _) hn⟩
  refine ⟨_, rfl, rfl, _, rfl, ?_⟩
  refine ite2 (fun _ => ?_) (fun _ => ?_)
  · refine ⟨_, rfl, _, _, rfl, rfl, (show (0 : Int) < 60001 by decide), _, _, rfl, rfl, q H _ (Same.refl _) ?_⟩
    have h1 := Int.emod_nonneg (c / 8) (show (60001 : Int) ≠ 0 by decide)
    have h2 := Int.emod_lt_of_pos (c / 8) (show (0 : Int) < 60001 by decide)
    exact ⟨by omega, by omega⟩
  refine ⟨_, rfl, _, _, rfl, rfl, _, rfl, ?_⟩
  refine ite2 (fun _ => ?_) (fun _ => ?_)
  · refine ⟨_, rfl, _, rfl, _, rfl, (by show 17 ≤ sizeLine; decide), fun p hp => ?_⟩
    obtain ⟨v, hv, hm⟩ := at_mod (xs := [.int 0, .int 1, .int (-1), .int 2, .int 3, .int 4, .int 6, .int 8, .int 12, .int 24, .int (-2), .int (-1), .int 5, .int 1, .int 50000, .int 30000, .int 2000]) (m := c / 8) 17 rfl (by decide)
    obtain ⟨n, rfl, hn⟩ := numV_out (List.all_eq_true.mp (show ([.int 0, .int 1, .int (-1), .int 2, .int 3, .int 4, .int 6, .int 8, .int 12, .int 24, .int (-2), .int (-1), .int 5, .int 1, .int 50000, .int 30000, .int 2000] : List V).all numV = true by decide) v hm)
    exact ⟨_, rfl, _, _, rfl, rfl, (show (0 : Int) < 17 by decide), p, _, _, _, rfl, rfl, .inl (.inl upd_same), hv, q _ n (same_new hp _) hn⟩
  · refine ⟨_, rfl, _, _, rfl, rfl, (show (0 : Int) < 13 by decide), _, _, rfl, rfl, q H _ (Same.refl _) ?_⟩
    have h1 := Int.emod_nonneg (c / 8) (show (13 : Int) ≠ 0 by decide)
    have h2 := Int.emod_lt_of_pos (c / 8) (show (0 : Int) < 13 by decide)
    exact ⟨by omega, by omega⟩
theorem scNameBy : FnScope ["_law_seed", "_law_k", "_law_signs", "_law_words", "_law_more", "_law_name", "_law_at", "_law_turn", "_law_spot", "_law_two", "_law_sign"] ["_law_seed", "_law_k"] (defScope sNameBy) := ⟨rfl, rfl, rfl, by decide +kernel, rfl, by decide +kernel, by decide +kernel⟩
theorem ok_nameBy (d : Df K mg "_law_name_by" sNameBy ["_law_seed", "_law_k"] f fd) (z : Bl mg) : FnOk P w K mg base CX0 1 f fd ["_law_seed", "_law_k"] spNameBy := by
  refine d.F.ok scNameBy (fun vs H Q E h => ?_) (fun cdv A outer s H vs Q E hr h => ?_)
  · obtain ⟨i, k, rfl, _⟩ := h
    rfl
  obtain ⟨c, k, rfl, hc, hk0, hk1, q⟩ := h
  refine ⟨_, (pss_cons (ps_set (i := 2) scNameBy.nd rfl (.inl rfl) pe_str)
    (pss_cons (ps_set (i := 3) scNameBy.nd rfl (.inl rfl) (pe_lst (pa_cons pe_str (pa_cons pe_str (pa_cons pe_str (pa_cons pe_str (pa_cons pe_str (pa_cons pe_str (pa_cons pe_str (pa_cons pe_str (pa_cons pe_str (pa_cons pe_str (pa_cons pe_str pa_nil)))))))))))))
    (pss_cons (ps_set (i := 4) scNameBy.nd rfl (.inl rfl) (pe_op op_fdiv (pv 0) pe_int))
    (pss_cons (ps_if (PW.pt (pw_and (pt_cmpR op_eq (pe_op op_mod (pv 0) pe_int) pe_int (nomark _)) (pw_and1 (pt_cmpR op_lt (pv 1) pe_int (nomark _))))) (pss_one (ps_ret (pe_ix ix_list (pv 3) (pe_op op_mod (pe_op op_add (pv 4) (pv 1)) pe_int) (fun _ _ => rfl)))) pss_nil)
    (pss_cons (ps_set (i := 5) scNameBy.nd rfl (.inl rfl) pe_str)
    (pss_cons (ps_set (i := 6) scNameBy.nd rfl (.inl rfl) (pe_op op_fdiv (pv 4) pe_int))
    (pss_cons (ps_for PassesOwn.never rfl (pi_range1 (by rfl) z.range (pa_cons (pe_op op_add pe_int (pe_op op_mod (pv 4) pe_int)) pa_nil)) (pg_name (i := 7) scNameBy.nd rfl (.inl rfl)) (pss_cons (ps_set (i := 6) scNameBy.nd rfl (.inl rfl) (pe_op op_add (pe_op op_add (pv 6) pe_int) (pe_op op_mod (pe_op op_fdiv (pv 4) pe_int) pe_int)))
    (pss_one (ps_set (i := 5) scNameBy.nd rfl (.inl rfl) (pe_op op_add_str (pv 5) (pe_ix ix_str (pv 2) (pe_op op_mod (pv 6) pe_int) (fun _ _ => rfl)))))))
    (pss_cons (ps_set (i := 8) scNameBy.nd rfl (.inl rfl) (pe_op op_mod (pe_op op_fdiv (pv 4) pe_int) (pe_callB call_len_str (by rfl) z.len PySem.boot_len (pa_cons (pv 5) pa_nil))))
    (pss_cons (ps_if (pt_cmpR op_gt (pv 1) pe_int (nomark _)) (pss_cons (ps_set (i := 8) scNameBy.nd rfl (.inl rfl) (pe_callB (call_min2 rfl) (by rfl) z.min (by decide +kernel) (pa_cons (pv 8) (pa_cons pe_int pa_nil))))
    (pss_cons (ps_set (i := 9) scNameBy.nd rfl (.inl rfl) (pe_op op_add_str (pe_ix ix_str (pv 2) (pe_op op_mod (pe_op op_add (pv 6) (pe_op op_fdiv (pv 1) pe_int)) pe_int) (fun _ _ => rfl)) (pe_ix ix_str (pv 2) (pe_op op_mod (pv 1) pe_int) (fun _ _ => rfl))))
    (pss_one (ps_ret (pe_op op_add_str (pe_op op_add_str (pe_slice sl_str (pv 5) po_none (po_some (pv 8))) (pv 9)) (pe_slice sl_str (pv 5) (po_some (pv 8)) (po_some pe_int))))))) pss_nil)
    (pss_cons (ps_if (pt_cmpR op_gt (pe_op op_mod (pv 0) pe_int) pe_int (nomark _)) (pss_one (ps_ret (pe_op op_add_str (pe_ix ix_str (pv 2) (pe_op op_mod (pe_op op_add (pe_op op_fdiv (pv 4) pe_int) (pv 1)) pe_int) (fun _ _ => rfl)) (pv 5)))) pss_nil)
    (pss_cons (ps_if (pt_cmpR op_eq (pv 1) pe_int (nomark _)) (pss_cons (ps_set (i := 10) scNameBy.nd rfl (.inl rfl) (pe_ix ix_str (pv 2) (pe_op op_mod (pe_op op_add (pe_m1 PySem.F.slot_str_find PySem.F.type_str_find mt_find (pv 2) (pe_ix ix_str (pv 5) (pv 8) (fun _ _ => rfl))) pe_int) pe_int) (fun _ _ => rfl)))
    (pss_one (ps_ret (pe_op op_add_str (pe_op op_add_str (pe_slice sl_str (pv 5) po_none (po_some (pv 8))) (pv 10)) (pe_slice sl_str (pv 5) (po_some (pe_op op_add (pv 8) pe_int)) po_none))))) pss_nil)
    (pss_one (ps_ret (pe_op op_add_str (pv 5) (pe_ix ix_list (pe_lst (pa_cons pe_str (pa_cons pe_str (pa_cons (pe_ix ix_str (pv 2) (pe_op op_mod (pv 6) pe_int) (fun _ _ => rfl)) (pa_cons (pe_ix ix_str (pv 2) (pe_op op_mod (pe_op op_add (pv 6) pe_int) pe_int) (fun _ _ => rfl)) pa_nil))))) (pv 1) (fun _ _ => rfl)))))))))))))))), ?_⟩
  refine ⟨(by show 11 ≤ sizeLine; decide), fun pw hpw => ?_⟩
  have g1 := same_new hpw (.lst [.str "num", .str "name", .str "sum", .str "less", .str "times", .str "part", .str "rest", .str "below", .str "same", .str "when", .str "let"])
  have hw1 : upd H pw (.lst [.str "num", .str "name", .str "sum", .str "less", .str "times", .str "part", .str "rest", .str "below", .str "same", .str "when", .str "let"]) pw = some (.lst [.str "num", .str "name", .str "sum", .str "less", .str "times", .str "part", .str "rest", .str "below", .str "same", .str "when", .str "let"]) := upd_same
  generalize upd H pw (.lst [.str "num", .str "name", .str "sum", .str "less", .str "times", .str "part", .str "rest", .str "below", .str "same", .str "when", .str "let"]) = H1 at *
  refine ⟨_, rfl, _, _, rfl, rfl, ⟨by decide, by decide⟩, ?_⟩
  dsimp only [gName, tNext]
  refine if_prop (c % 6 = 0 ∧ k < 4) (fun Q h1 h2 => ?_) (fun hc1 => ?_) (fun hc1 => ?_)
  · refine ⟨_, rfl, _, _, rfl, rfl, (show (0 : Int) < 6 by decide), rfl, _, rfl, ?_⟩
    refine ite2 (fun a => ⟨_, rfl, _, _, rfl, rfl, _, rfl, ?_⟩) (fun a => h2 fun z => a (decide_eq_true (congrArg V.int z.1)))
    have a' : c % 6 = 0 := by injection of_decide_eq_true a
    by_cases b : k < 4
    · rw [decide_eq_true b]; exact h1 ⟨a', b⟩
    · rw [decide_eq_false b]; exact h2 fun z => b z.2
  · obtain ⟨v, hv, hm⟩ := at_modA (xs := [V.str "num", .str "name", .str "sum", .str "less", .str "times", .str "part", .str "rest", .str "below", .str "same", .str "when", .str "let"]) (m := c / 6 + k) 11 rfl (by decide)
    obtain ⟨y, rfl, hy⟩ := nameV_out (List.all_eq_true.mp (show ([V.str "num", .str "name", .str "sum", .str "less", .str "times", .str "part", .str "rest", .str "below", .str "same", .str "when", .str "let"] : List V).all nameV = true by decide +kernel) v hm)
    exact ⟨_, rfl, _, rfl, _, rfl, _, _, rfl, rfl, _, _, rfl, rfl, (show (0 : Int) < 11 by decide), pw, _, _, _, rfl, rfl, .inl (.inl hw1), hv, q H1 y g1 hy⟩
  refine ⟨_, rfl, _, _, rfl, rfl, ⟨by decide, by decide⟩, ?_⟩
  have hm7 := Int.emod_nonneg (c / 6) (show (7 : Int) ≠ 0 by decide)
  have hm7' := Int.emod_lt_of_pos (c / 6) (show (0 : Int) < 7 by decide)
  refine ⟨_, rfl, _, _, rfl, rfl, (show (0 : Int) < 7 by decide), _, _, rfl, rfl, _, rfl, (by omega), (by omega), ?_⟩
  refine for_range (lo := 0) (n := (1 + c / 6 % 7).toNat) (fun i σ H2 => H2 = H1 ∧ ∃ (n : Str) (t : Int) (x : Option V), n.length = i ∧ Low n ∧ 0 ≤ t ∧ σ = [some (.int c), some (.int k), some (.str signs), some (.ref pw), some (.int (c / 6)), some (.str n), some (.int t), x, none, none, none])
    ⟨rfl, "", c / 6 / 7, none, rfl, (fun x hx => nomatch hx), by omega, rfl⟩ (fun i σ H2 hi hP => ?_) (fun σ H2 hP => ?_)
  · obtain ⟨rfl, n, t, x, hl, hlow, ht, rfl⟩ := hP
    have hm25 := Int.emod_nonneg (c / 6 / 182) (show (25 : Int) ≠ 0 by decide)
    refine ⟨_, rfl, _, _, rfl, rfl, _, rfl, _, _, rfl, rfl, ⟨by decide, by decide⟩, _, _, rfl, rfl, (show (0 : Int) < 25 by decide), _, _, rfl, rfl, ?_⟩
    obtain ⟨s, hs, hs2⟩ := sign_at (t + 1 + c / 6 / 182 % 25)
    refine ⟨_, rfl, _, rfl, _, rfl, _, _, rfl, rfl, (show (0 : Int) < 26 by decide), _, _, s, rfl, rfl, signs_len, hs, _, _, rfl, rfl, ?_, rfl, n ++ ⟨#[s]⟩, t + 1 + c / 6 / 182 % 25, _, ?_, hlow.app (Low.one hs2), by omega, rfl⟩
    · show n.length + 1 ≤ sizeLine
      exact sz (by omega)
    · rw [app_len, hl]
      rfl
  · obtain ⟨rfl, n, t, x, hl, hlow, ht, rfl⟩ := hP
    have hn1 : 1 ≤ n.length := by omega
    have hn7 : n.length ≤ 7 := by omega
    have hnz : n.length ≤ sizeLine := sz (by omega)
    refine ⟨_, rfl, _, _, rfl, rfl, ⟨by decide, by decide⟩, _, rfl, _, rfl, hnz, _, _, rfl, rfl, (show (0 : Int) < (n.length : Int) by omega), ?_⟩
    have hp0 := Int.emod_nonneg (c / 6 / 4550) (show (n.length : Int) ≠ 0 by omega)
    have hp1 := Int.emod_lt_of_pos (c / 6 / 4550) (show (0 : Int) < (n.length : Int) by omega)
    dsimp only [gName, tNext]
    refine if_prop (k > 3) (fun Q h1 h2 => ?_) (fun hc2 => ?_) (fun hc2 => ?_)
    · refine ⟨_, rfl, _, _, rfl, rfl, _, rfl, ?_⟩
      by_cases b : 3 < k
      · rw [decide_eq_true b]; exact h1 b
      · rw [decide_eq_false b]; exact h2 b
    · obtain ⟨s1, hs1, hs1'⟩ := sign_at (t + k / 26)
      obtain ⟨s2, hs2, hs2'⟩ := sign_at k
      refine ⟨_, rfl, _, _, rfl, ?_⟩
      have hsp6 : (if (6 : Int) < (c / 6 / 4550 % (n.length : Int)) then 6 else (c / 6 / 4550 % (n.length : Int))) = (c / 6 / 4550 % (n.length : Int)) := if_neg (by omega)
      refine ⟨_, rfl, _, rfl, _, rfl, _, _, rfl, rfl, ⟨by decide, by decide⟩, _, _, rfl, rfl, _, _, rfl, rfl, (show (0 : Int) < 26 by decide), _, _, s1, rfl, rfl, signs_len, hs1, ?_⟩
      refine ⟨_, rfl, _, rfl, _, _, rfl, rfl, (show (0 : Int) < 26 by decide), _, _, s2, rfl, rfl, signs_len, hs2, _, _, rfl, rfl, (by show 1 + 1 ≤ sizeLine; decide), ?_⟩
      have l1 := cut_len n none (some (if (6 : Int) < (c / 6 / 4550 % (n.length : Int)) then 6 else (c / 6 / 4550 % (n.length : Int))))
      have l2 := cut_len n (some (if (6 : Int) < (c / 6 / 4550 % (n.length : Int)) then 6 else (c / 6 / 4550 % (n.length : Int)))) (some 6)
      rw [hsp6, sIx_pos hp0] at l1 l2
      rw [HT.sIx_none] at l1
      rw [sIx_pos (by decide)] at l2
      have hl2 : ((⟨#[s1]⟩ : Str) ++ ⟨#[s2]⟩).length = 2 := by rw [app_len]; rfl
      refine ⟨_, rfl, _, rfl, _, rfl, n, rfl, hnz, _, rfl, _, _, rfl, rfl, ?_, ?_⟩
      · rw [hsp6, hl2]
        exact sz (by omega)
      have hl3 : (cutS n none (some (if (6 : Int) < (c / 6 / 4550 % (n.length : Int)) then 6 else (c / 6 / 4550 % (n.length : Int)))) ++ ((⟨#[s1]⟩ : Str) ++ ⟨#[s2]⟩)).length = (cutS n none (some (c / 6 / 4550 % (n.length : Int)))).length + 2 := by rw [hsp6, app_len, hl2]
      refine ⟨_, rfl, _, rfl, _, rfl, _, rfl, n, rfl, hnz, _, _, rfl, rfl, ?_, ?_⟩
      · rw [hl3, hsp6]
        exact sz (by omega)
      refine q _ _ g1 ⟨?_, ?_, ?_⟩
      · rw [app_len, hl3]; omega
      · rw [app_len, hl3, hsp6]; omega
      · exact ((hlow.cut _ _).app ((Low.one hs1').app (Low.one hs2'))).app (hlow.cut _ _)
    dsimp only [gName, tNext]
    refine if_prop (c % 6 > 3) (fun Q h1 h2 => ?_) (fun hc3 => ?_) (fun hc3 => ?_)
    · refine ⟨_, rfl, _, _, rfl, rfl, (show (0 : Int) < 6 by decide), _, _, rfl, rfl, _, rfl, ?_⟩
      by_cases b : 3 < c % 6
      · rw [decide_eq_true b]; exact h1 b
      · rw [decide_eq_false b]; exact h2 b
    · obtain ⟨s1, hs1, hs1'⟩ := sign_at (c / 6 / 7 + k)
      refine ⟨_, rfl, _, rfl, _, _, rfl, rfl, ⟨by decide, by decide⟩, _, rfl, _, _, rfl, rfl, _, _, rfl, rfl, (show (0 : Int) < 26 by decide), _, _, s1, rfl, rfl, signs_len, hs1, _, rfl, _, _, rfl, rfl, ?_, ?_⟩
      · show 1 + n.length ≤ sizeLine
        exact sz (by omega)
      refine q _ _ g1 ⟨?_, ?_, (Low.one hs1').app hlow⟩
      · rw [app_len]; omega
      · rw [app_len]
        show 1 + n.length ≤ 8
        omega
    dsimp only [gName, tNext]
    refine if_prop (k = 1) (fun Q h1 h2 => ?_) (fun hc4 => ?_) (fun hc4 => ?_)
    · refine ⟨_, rfl, rfl, _, rfl, ?_⟩
      by_cases b : k = 1
      · rw [decide_eq_true (congrArg V.int b)]; exact h1 b
      · rw [decide_eq_false (fun z => b (by injection z))]; exact h2 b
    · have hsl : (c / 6 / 4550 % (n.length : Int)).toNat < n.cps.toList.length := by
        have : n.cps.toList.length = n.length := Array.length_toList
        omega
      obtain ⟨u, hu, hu2⟩ := at_lt (xs := n.cps.toList) hp0 (by omega)
      obtain ⟨s1, hs1, hs1'⟩ := sign_at (Txt.find signs ⟨#[u]⟩ + 1)
      refine ⟨_, rfl, _, rfl, ⟨_, rfl⟩, _, rfl, _, rfl, n, _, u, rfl, rfl, hnz, hu, _, _, rfl, rfl, _, _, rfl, rfl, _, _, rfl, rfl, (show (0 : Int) < 26 by decide), _, _, s1, rfl, rfl, signs_len, hs1, ?_⟩
      have l1 := cut_len n none (some (c / 6 / 4550 % (n.length : Int)))
      have l2 := cut_len n (some ((c / 6 / 4550 % (n.length : Int)) + 1)) none
      rw [HT.sIx_none, sIx_pos hp0] at l1
      rw [HT.sIx_none, sIx_pos (by omega)] at l2
      refine ⟨_, rfl, _, rfl, _, rfl, n, rfl, hnz, _, rfl, _, _, rfl, rfl, ?_, ?_⟩
      · show (cutS n none (some (c / 6 / 4550 % (n.length : Int)))).length + 1 ≤ sizeLine
        exact sz (by omega)
      have hl3 : (cutS n none (some (c / 6 / 4550 % (n.length : Int))) ++ (⟨#[s1]⟩ : Str)).length = (cutS n none (some (c / 6 / 4550 % (n.length : Int)))).length + 1 := app_len _ _
      refine ⟨_, rfl, _, rfl, _, _, rfl, rfl, _, rfl, n, rfl, hnz, _, _, rfl, rfl, ?_, ?_⟩
      · rw [hl3]
        show (cutS n none (some (c / 6 / 4550 % (n.length : Int)))).length + 1 + (cutS n (some ((c / 6 / 4550 % (n.length : Int)) + 1)) none).length ≤ sizeLine
        exact sz (by omega)
      refine q _ _ g1 ⟨?_, ?_, ((hlow.cut _ _).app (Low.one hs1')).app (hlow.cut _ _)⟩
      · rw [app_len, hl3]; omega
      · rw [app_len, hl3]
        show (cutS n none (some (c / 6 / 4550 % (n.length : Int)))).length + 1 + (cutS n (some ((c / 6 / 4550 % (n.length : Int)) + 1)) none).length ≤ 8
        omega
    · obtain ⟨s1, hs1, hs1'⟩ := sign_at t
      obtain ⟨s2, hs2, hs2'⟩ := sign_at (t + 1)
      obtain ⟨v, hv, hm⟩ := at_lt (xs := [V.str "", .str "", .str ⟨#[s1]⟩, .str ⟨#[s2]⟩]) (k := k) hk0 (by simp; omega)
      have hz : ∃ y : Str, v = .str y ∧ y.length ≤ 1 ∧ Low y := by
        simp only [List.mem_cons, List.mem_nil_iff, or_false] at hm
        rcases hm with rfl | rfl | rfl | rfl
        · exact ⟨_, rfl, Nat.zero_le _, fun x hx => nomatch hx⟩
        · exact ⟨_, rfl, Nat.zero_le _, fun x hx => nomatch hx⟩
        · exact ⟨_, rfl, Nat.le_refl _, Low.one hs1'⟩
        · exact ⟨_, rfl, Nat.le_refl _, Low.one hs2'⟩
      obtain ⟨y, rfl, hy1, hy2⟩ := hz
      refine ⟨_, rfl, _, rfl, _, rfl, _, _, rfl, rfl, (show (0 : Int) < 26 by decide), _, _, s1, rfl, rfl, signs_len, hs1, _, rfl, _, rfl, _, _, rfl, rfl, _, _, rfl, rfl, (show (0 : Int) < 26 by decide), _, _, s2, rfl, rfl, signs_len, hs2, (by show 4 ≤ sizeLine; decide), fun p hp => ?_⟩
      refine ⟨_, rfl, p, _, _, _, rfl, rfl, .inl (.inl upd_same), hv, _, _, rfl, rfl, ?_, q _ _ (g1.trans (same_new hp _)) ⟨?_, ?_, hlow.app hy2⟩⟩
      · exact sz (by omega)
      · rw [app_len]; omega
      · rw [app_len]; omega
theorem scStep : FnScope ["_law_pile", "_law_kind", "_law_more", "_law_seed", "_law_words", "_law_word", "_law_number", "_law_cond", "_law_turn"] ["_law_pile", "_law_kind", "_law_more", "_law_seed"] (defScope sStep) := ⟨rfl, rfl, rfl, by decide +kernel, rfl, by decide +kernel, by decide +kernel⟩
theorem ok_step (d : Df K mg "_law_step" sStep ["_law_pile", "_law_kind", "_law_more", "_law_seed"] f fd) (z : Bl mg) (d_nameBy : Df K mg "_law_name_by" sNameBy ["_law_seed", "_law_k"] f1 fd1) (d_numBy : Df K mg "_law_number_by" sNumBy ["_law_cell"] f2 fd2) :
    FnOk P w K mg base CX0 2 f fd ["_law_pile", "_law_kind", "_law_more", "_law_seed"] spStep := by
  refine d.F.ok scStep (fun vs H Q E h => ?_) (fun cdv A outer s H vs Q E hr h => ?_)
  · obtain ⟨a, xs, es, kind, more, seed, rfl, _⟩ := h
    rfl
  obtain ⟨a, xs, es, kind, more, seed, rfl, h, b, hok, hm0, hs0, hlen, q⟩ := h
  have G_nameBy := ok_nameBy (P := P) (w := w) (base := base) d_nameBy z
  have G_numBy := ok_numBy (P := P) (w := w) (base := base) d_numBy
  refine ⟨_, (pss_cons (ps_set (i := 4) scStep.nd rfl (.inl rfl) (pe_lst (pa_cons pe_str (pa_cons pe_str (pa_cons pe_str (pa_cons pe_str (pa_cons pe_str (pa_cons pe_str (pa_cons pe_str pa_nil)))))))))
    (pss_cons (ps_set (i := 5) scStep.nd rfl (.inl rfl) (pe_ix ix_list (pv 4) (pe_op op_mod (pv 2) pe_int) (fun _ _ => rfl)))
    (pss_cons (ps_if (PW.pt (pw_and (PW.pt (pw_or (pt_cmpR op_eq (pv 1) pe_int (nomark _)) (pw_or1 (pt_cmpR op_gt (pv 1) pe_int (nomark _))))) (pw_and1 (pt_cmpR op_gt (pe_callB call_len_seq (by rfl) z.len PySem.boot_len (pa_cons (pv 0) pa_nil)) pe_int (nomark _))))) (pss_one (ps_ret (pe_op op_cat (pe_slice sl_list (pv 0) po_none (po_some (pe_un un_neg pe_int))) (pe_lst (pa_cons (pe_tup (pa_cons pe_str (pa_cons (pe_call G_nameBy (hr.mono (by omega)) (by rfl) d_nameBy.m d_nameBy.k d_nameBy.b .nil pass0 (pa_cons (pv 3) (pa_cons (pe_op op_mod (pv 2) pe_int) pa_nil))) (pa_cons (pe_ix ix_list (pv 0) (pe_un un_neg pe_int) (fun _ _ => rfl)) (pa_cons (pe_ix ix_list (pv 0) (pe_un un_neg pe_int) (fun _ _ => rfl)) pa_nil))))) pa_nil))))) pss_nil)
    (pss_cons (ps_if (PW.pt (pw_and (pt_cmpR op_gt (pv 1) pe_int (nomark _)) (pw_and1 (pt_cmpR op_gt (pe_callB call_len_seq (by rfl) z.len PySem.boot_len (pa_cons (pv 0) pa_nil)) pe_int (nomark _))))) (pss_cons (ps_if (PW.pt (pw_and (pt_cmpR op_eq (pv 1) pe_int (nomark _)) (pw_and1 (pt_cmpR op_in_seq (pe_ix ix_tup (pe_ix ix_list (pv 0) (pe_un un_neg pe_int) (fun _ _ => rfl)) pe_int (fun _ _ => rfl)) (pv 4) rfl)))) (pss_one (ps_set (i := 5) scStep.nd rfl (.inl rfl) (pe_ix ix_tup (pe_ix ix_list (pv 0) (pe_un un_neg pe_int) (fun _ _ => rfl)) pe_int (fun _ _ => rfl)))) pss_nil)
    (pss_cons (ps_set (i := 6) scStep.nd rfl (.inl rfl) (pe_tup (pa_cons pe_str (pa_cons (pe_call G_numBy (hr.mono (by omega)) (by rfl) d_numBy.m d_numBy.k d_numBy.b .nil pass0 (pa_cons (pe_op op_fdiv (pv 2) pe_int) pa_nil)) pa_nil))))
    (pss_cons (ps_if (pt_cmpR op_eq (pv 1) pe_int (nomark _)) (pss_one (ps_ret (pe_op op_cat (pe_slice sl_list (pv 0) po_none (po_some (pe_un un_neg pe_int))) (pe_lst (pa_cons (pe_tup (pa_cons (pv 5) (pa_cons (pv 6) (pa_cons (pe_ix ix_list (pv 0) (pe_un un_neg pe_int) (fun _ _ => rfl)) pa_nil)))) pa_nil))))) pss_nil)
    (pss_one (ps_ret (pe_op op_cat (pe_slice sl_list (pv 0) po_none (po_some (pe_un un_neg pe_int))) (pe_lst (pa_cons (pe_tup (pa_cons (pv 5) (pa_cons (pe_ix ix_list (pv 0) (pe_un un_neg pe_int) (fun _ _ => rfl)) (pa_cons (pv 6) pa_nil)))) pa_nil)))))))) pss_nil)
    (pss_cons (ps_if (PW.pt (pw_and (pt_cmpR op_eq (pv 1) pe_int (nomark _)) (pw_and1 (pt_cmpR op_gt (pe_callB call_len_seq (by rfl) z.len PySem.boot_len (pa_cons (pv 0) pa_nil)) pe_int (nomark _))))) (pss_cons (ps_set (i := 6) scStep.nd rfl (.inl rfl) (pe_tup (pa_cons pe_str (pa_cons (pe_call G_numBy (hr.mono (by omega)) (by rfl) d_numBy.m d_numBy.k d_numBy.b .nil pass0 (pa_cons (pe_op op_fdiv (pv 2) pe_int) pa_nil)) pa_nil))))
    (pss_one (ps_ret (pe_op op_cat (pe_slice sl_list (pv 0) po_none (po_some (pe_un un_neg pe_int))) (pe_lst (pa_cons (pe_tup (pa_cons pe_str (pa_cons (pe_call G_nameBy (hr.mono (by omega)) (by rfl) d_nameBy.m d_nameBy.k d_nameBy.b .nil pass0 (pa_cons (pv 3) (pa_cons (pe_op op_mod (pv 2) pe_int) pa_nil))) (pa_cons (pv 6) (pa_cons (pe_ix ix_list (pv 0) (pe_un un_neg pe_int) (fun _ _ => rfl)) pa_nil))))) pa_nil)))))) pss_nil)
    (pss_cons (ps_if (PW.pt (pw_and (pt_cmpR op_eq (pv 1) pe_int (nomark _)) (pw_and1 (pt_cmpR op_gt (pe_callB call_len_seq (by rfl) z.len PySem.boot_len (pa_cons (pv 0) pa_nil)) pe_int (nomark _))))) (pss_cons (ps_set (i := 7) scStep.nd rfl (.inl rfl) (pe_ix ix_list (pv 0) (pe_un un_neg pe_int) (fun _ _ => rfl)))
    (pss_cons (ps_for PassesOwn.never rfl (pi_range1 (by rfl) z.range (pa_cons (pe_op op_mod (pv 2) pe_int) pa_nil)) (pg_name (i := 8) scStep.nd rfl (.inl rfl)) (pss_one (ps_set (i := 7) scStep.nd rfl (.inl rfl) (pe_tup (pa_cons pe_str (pa_cons (pv 7) (pa_cons (pe_tup (pa_cons pe_str (pa_cons pe_int pa_nil))) pa_nil)))))))
    (pss_one (ps_ret (pe_op op_cat (pe_slice sl_list (pv 0) po_none (po_some (pe_un un_neg pe_int))) (pe_lst (pa_cons (pe_tup (pa_cons pe_str (pa_cons (pv 7) (pa_cons (pe_ix ix_list (pv 0) (pe_un un_neg pe_int) (fun _ _ => rfl)) (pa_cons (pe_ix ix_list (pv 0) (pe_un un_neg pe_int) (fun _ _ => rfl)) pa_nil))))) pa_nil))))))) pss_nil)
    (pss_cons (ps_if (PW.pt (pw_and (pt_cmpR op_gt (pv 1) pe_int (nomark _)) (pw_and1 (pt_cmpR op_gt (pe_callB call_len_seq (by rfl) z.len PySem.boot_len (pa_cons (pv 0) pa_nil)) pe_int (nomark _))))) (pss_one (ps_ret (pe_op op_cat (pe_slice sl_list (pv 0) po_none (po_some (pe_un un_neg pe_int))) (pe_lst (pa_cons (pe_tup (pa_cons (pv 5) (pa_cons (pe_ix ix_list (pv 0) (pe_un un_neg pe_int) (fun _ _ => rfl)) (pa_cons (pe_ix ix_list (pv 0) (pe_un un_neg pe_int) (fun _ _ => rfl)) pa_nil)))) pa_nil))))) pss_nil)
    (pss_cons (ps_if (pt_cmpR op_lt (pv 1) pe_int (nomark _)) (pss_one (ps_ret (pe_op op_cat (pv 0) (pe_lst (pa_cons (pe_tup (pa_cons pe_str (pa_cons (pe_call G_numBy (hr.mono (by omega)) (by rfl) d_numBy.m d_numBy.k d_numBy.b .nil pass0 (pa_cons (pv 2) pa_nil)) pa_nil))) pa_nil))))) pss_nil)
    (pss_one (ps_ret (pe_op op_cat (pv 0) (pe_lst (pa_cons (pe_tup (pa_cons pe_str (pa_cons (pe_call G_nameBy (hr.mono (by omega)) (by rfl) d_nameBy.m d_nameBy.k d_nameBy.b .nil pass0 (pa_cons (pv 3) (pa_cons (pe_op op_mod (pv 2) pe_int) pa_nil))) pa_nil))) pa_nil))))))))))))), ?_⟩
  have m3 := Int.emod_nonneg more (show (3 : Int) ≠ 0 by decide)
  have m3' := Int.emod_lt_of_pos more (show (0 : Int) < 3 by decide)
  refine ⟨(by show 7 ≤ sizeLine; decide), fun pw hpw => new_h hpw fun H1 g1 hw1 => ?_⟩
  have h1 := g1 _ _ h
  obtain ⟨v, hv, hmem⟩ := at_modA (xs := opsV) (m := more) 7 rfl (by decide)
  obtain ⟨o, rfl⟩ := ops_in hmem
  refine ⟨_, rfl, _, rfl, _, _, rfl, rfl, (show (0 : Int) < 7 by decide), pw, _, _, _, rfl, rfl, .inl (.inl hw1), hv, ?_⟩
  dsimp only [gName]
  refine if_two (1 < (xs.length : Int)) (fun Q k1 k2 => ?_) (fun hl => ?_) ?_
  · refine ⟨_, rfl, rfl, _, rfl, ite2 (fun _ => iteT ?_) (fun _ => ⟨_, rfl, _, _, rfl, rfl, _, rfl, ite2 (fun _ => ?_) (fun _ => k2)⟩)⟩
    all_goals
      refine ⟨_, rfl, a, _, rfl, .inl (.inl (.inl h1)), _, _, rfl, rfl, _, rfl, ?_⟩
      by_cases b : (1 : Int) < (xs.length : Int)
      · rw [decide_eq_true b]; exact k1 b
      · rw [decide_eq_false b]; exact k2
  · obtain ⟨pre, x, y, epre, ex, ey, rfl, rfl, bp, bx, by1⟩ := b.split2 (by omega)
    refine ⟨_, rfl, _, rfl, _, rfl, a, _, rfl, .inl (.inl h1), fun p1 hp1 => ?_⟩
    rw [show cutV (pre ++ [x, y]) none (some (-2)) = pre from cut_app pre [x, y] 2 rfl (by decide)]
    have g2' := same_new hp1 (.lst pre)
    have hA : upd H1 p1 (.lst pre) p1 = some (.lst pre) := upd_same
    generalize upd H1 p1 (.lst pre) = H2 at g2' hA ⊢
    have g2 := g1.trans g2'
    refine ⟨_, rfl, _, rfl, _, _, rfl, rfl, (show (0 : Int) < 3 by decide), seed, more % 3, rfl, hs0, m3, by omega, fun H3 nm g3 hnm => ?_⟩
    have g3' := g2.trans g3
    have h3 := g3' _ _ h
    refine ⟨_, rfl, _, rfl, a, _, _, x, rfl, rfl, .inl (.inl h3), at_neg 2 (by decide) (by simp) (by simp), _, rfl, _, rfl, a, _, _, y, rfl, rfl, .inl (.inl h3), at_neg 1 (by decide) (by simp) (by simp), (by show 4 ≤ sizeLine; decide), fun t ht => new_h ht fun H4 g4 ht4 => ?_⟩
    have bn : Bears H4 (.ref t) (.lett nm ex ey) := .lett ht4 (bx.mono (Tups.of (g3'.trans g4))) (by1.mono (Tups.of (g3'.trans g4)))
    refine ⟨(by show 1 ≤ sizeLine; decide), fun l hl0 => ?_⟩
    refine ⟨p1, l, _, _, rfl, rfl, same_new hl0 _ _ _ (g4 _ _ (g3 _ _ hA)), upd_same, ?_, fun p hp => ?_⟩
    · simp at hlen ⊢
      exact sz (by omega)
    obtain ⟨gF, bF⟩ := step_fin (g3'.trans g4) bp bn hl0 hp
    have o1 := hok ex (by simp)
    have o2 := hok ey (by simp)
    refine q _ p _ _ gF upd_same bF (hok.left.app (OkL.one ⟨hnm, o1, o2⟩)) (by simp) ?_ ?_
    · rw [sizeL_append, sizeL_append]
      show sizeL epre + ((ex.size + ey.size + 1) + 0) ≤ sizeL epre + (ex.size + (ey.size + 0)) + 5
      omega
    · rw [depS_append, depS_append]
      have d_ex := Ex.deep_pos ex
      have d_ey := Ex.deep_pos ey
      show depS epre + ((max ex.deep ey.deep + 1) + 0) ≤ depS epre + (ex.deep + (ey.deep + 0)) + 1
      omega
  dsimp only [tNext]
  refine if_two (0 < (xs.length : Int)) (fun Q k1 k2 => ?_) (fun hl => ?_) ?_
  · refine ⟨_, rfl, _, _, rfl, rfl, _, rfl, ite2 (fun _ => ?_) (fun _ => k2)⟩
    refine ⟨_, rfl, a, _, rfl, .inl (.inl (.inl h1)), _, _, rfl, rfl, _, rfl, ?_⟩
    by_cases b : (0 : Int) < (xs.length : Int)
    · rw [decide_eq_true b]; exact k1 b
    · rw [decide_eq_false b]; exact k2
  · obtain ⟨pre, y, epre, ey, rfl, rfl, bp, by1⟩ := b.split1 (by omega)
    have hat : atI (pre ++ [y]) (-1) = some y := at_neg 1 (by decide) (by simp) (by simp)
    obtain ⟨ay, ys, rfl, hy⟩ := by1.first
    have o2 := hok ey (by simp)
    refine if_set (∃ o' : Op, V.str ey.word = .str o'.str) (fun w H' => H' = H1 ∧ ∃ o' : Op, w = .str o'.str) (.str o.str) ⟨rfl, o, rfl⟩ rfl (fun Q k1 k2 => ?_) (fun hp Q k => ?_) (fun w H' hw => ?_)
    · refine ⟨_, rfl, rfl, _, rfl, ite2 (fun _ => ?_) (fun _ => k2)⟩
      refine ⟨_, rfl, _, rfl, a, _, _, _, rfl, rfl, .inl (.inl h1), hat, ay, _, 0, _, rfl, rfl, .inl (.inl (g1 _ _ hy)), at_of (j := 0) rfl rfl, _, rfl, pw, _, rfl, .inl (.inl (.inl hw1)), rfl, by decide, _, rfl, ?_⟩
      by_cases c : inV (.str ey.word) opsV = true
      · exact cast (congrArg (fun k => Q k H1) (show true = (if false = true then !inV (V.str ey.word) opsV else inV (V.str ey.word) opsV) from c.symm)) (k1 (word_op c))
      · exact cast (congrArg (fun k => Q k H1) (show false = (if false = true then !inV (V.str ey.word) opsV else inV (V.str ey.word) opsV) from (Bool.eq_false_iff.mpr c).symm)) k2
    · obtain ⟨o', ho'⟩ := hp
      exact ⟨_, rfl, _, rfl, a, _, _, _, rfl, rfl, .inl (.inl h1), hat, ay, _, 0, _, rfl, rfl, .inl (.inl (g1 _ _ hy)), at_of (j := 0) rfl rfl, k _ _ ⟨rfl, o', ho'⟩⟩
    obtain ⟨rfl, o', rfl⟩ := hw
    refine ⟨_, rfl, _, _, rfl, rfl, ⟨by decide, by decide⟩, more / 7, rfl, Int.ediv_nonneg hm0 (by decide), fun H2 n g2' hn => ?_⟩
    refine ⟨(by show 2 ≤ sizeLine; decide), fun tn htn => new_h htn fun H3 g3' htn3 => ?_⟩
    have g3 := g1.trans (g2'.trans g3')
    have bnum : Bears H3 (.ref tn) (.num n) := .num htn3
    have h3 := g3 _ _ h
    dsimp only [gName]
    refine if_two True (fun Q k1 k2 => ?_) (fun _ => ?_) ?_
    · exact ⟨_, rfl, rfl, _, rfl, any_b (k1 trivial) k2⟩
    · refine ⟨_, rfl, _, rfl, _, rfl, a, _, rfl, .inl (.inl h3), fun p1 hp1 => ?_⟩
      rw [show cutV (pre ++ [V.ref ay]) none (some (-1)) = pre from cut_app pre [V.ref ay] 1 rfl (by decide)]
      have g4' := same_new hp1 (.lst pre)
      have hA : upd H3 p1 (.lst pre) p1 = some (.lst pre) := upd_same
      generalize upd H3 p1 (.lst pre) = H4 at g4' hA ⊢
      have g4 := g3.trans g4'
      refine ⟨_, rfl, _, rfl, _, rfl, _, rfl, a, _, _, _, rfl, rfl, .inl (.inl (g4 _ _ h)), hat, (by show 3 ≤ sizeLine; decide), fun t ht => new_h ht fun H5 g5 ht5 => ?_⟩
      have bn : Bears H5 (.ref t) (.two o' (.num n) ey) := .two ht5 (bnum.mono (Tups.of (g4'.trans g5))) (by1.mono (Tups.of (g4.trans g5)))
      refine ⟨(by show 1 ≤ sizeLine; decide), fun l hl0 => ?_⟩
      refine ⟨p1, l, _, _, rfl, rfl, same_new hl0 _ _ _ (g5 _ _ hA), upd_same, ?_, fun p hp => ?_⟩
      · simp at hlen ⊢
        exact sz (by omega)
      obtain ⟨gF, bF⟩ := step_fin (g4.trans g5) bp bn hl0 hp
      refine q _ p _ _ gF upd_same bF (hok.left.app (OkL.one ⟨hn, o2⟩)) (by simp) ?_ ?_
      · rw [sizeL_append, sizeL_append]
        show sizeL epre + ((1 + ey.size + 1) + 0) ≤ sizeL epre + (ey.size + 0) + 5
        omega
      · rw [depS_append, depS_append]
        have d_ey := Ex.deep_pos ey
        show depS epre + ((max 1 ey.deep + 1) + 0) ≤ depS epre + (ey.deep + 0) + 1
        omega
    · dsimp only [tNext]
      refine ⟨_, rfl, _, rfl, _, rfl, a, _, rfl, .inl (.inl h3), fun p1 hp1 => ?_⟩
      rw [show cutV (pre ++ [V.ref ay]) none (some (-1)) = pre from cut_app pre [V.ref ay] 1 rfl (by decide)]
      have g4' := same_new hp1 (.lst pre)
      have hA : upd H3 p1 (.lst pre) p1 = some (.lst pre) := upd_same
      generalize upd H3 p1 (.lst pre) = H4 at g4' hA ⊢
      have g4 := g3.trans g4'
      refine ⟨_, rfl, _, rfl, _, rfl, a, _, _, _, rfl, rfl, .inl (.inl (g4 _ _ h)), hat, _, rfl, (by show 3 ≤ sizeLine; decide), fun t ht => new_h ht fun H5 g5 ht5 => ?_⟩
      have bn : Bears H5 (.ref t) (.two o' ey (.num n)) := .two ht5 (by1.mono (Tups.of (g4.trans g5))) (bnum.mono (Tups.of (g4'.trans g5)))
      refine ⟨(by show 1 ≤ sizeLine; decide), fun l hl0 => ?_⟩
      refine ⟨p1, l, _, _, rfl, rfl, same_new hl0 _ _ _ (g5 _ _ hA), upd_same, ?_, fun p hp => ?_⟩
      · simp at hlen ⊢
        exact sz (by omega)
      obtain ⟨gF, bF⟩ := step_fin (g4.trans g5) bp bn hl0 hp
      refine q _ p _ _ gF upd_same bF (hok.left.app (OkL.one ⟨o2, hn⟩)) (by simp) ?_ ?_
      · rw [sizeL_append, sizeL_append]
        show sizeL epre + ((ey.size + 1 + 1) + 0) ≤ sizeL epre + (ey.size + 0) + 5
        omega
      · rw [depS_append, depS_append]
        have d_ey := Ex.deep_pos ey
        show depS epre + ((max ey.deep 1 + 1) + 0) ≤ depS epre + (ey.deep + 0) + 1
        omega
  dsimp only [tNext]
  refine if_two (0 < (xs.length : Int)) (fun Q k1 k2 => ?_) (fun hl => ?_) ?_
  · refine ⟨_, rfl, rfl, _, rfl, ite2 (fun _ => ?_) (fun _ => k2)⟩
    refine ⟨_, rfl, a, _, rfl, .inl (.inl (.inl h1)), _, _, rfl, rfl, _, rfl, ?_⟩
    by_cases b : (0 : Int) < (xs.length : Int)
    · rw [decide_eq_true b]; exact k1 b
    · rw [decide_eq_false b]; exact k2
  · obtain ⟨pre, y, epre, ey, rfl, rfl, bp, by1⟩ := b.split1 (by omega)
    have hat : atI (pre ++ [y]) (-1) = some y := at_neg 1 (by decide) (by simp) (by simp)
    have o2 := hok ey (by simp)
    refine ⟨_, rfl, _, _, rfl, rfl, ⟨by decide, by decide⟩, more / 3, rfl, Int.ediv_nonneg hm0 (by decide), fun H2 n g2' hn => ?_⟩
    refine ⟨(by show 2 ≤ sizeLine; decide), fun tn htn => new_h htn fun H3 g3' htn3 => ?_⟩
    have g3 := g1.trans (g2'.trans g3')
    have bnum : Bears H3 (.ref tn) (.num n) := .num htn3
    have h3 := g3 _ _ h
    refine ⟨_, rfl, _, rfl, _, rfl, a, _, rfl, .inl (.inl h3), fun p1 hp1 => ?_⟩
    rw [show cutV (pre ++ [y]) none (some (-1)) = pre from cut_app pre [y] 1 rfl (by decide)]
    have g4' := same_new hp1 (.lst pre)
    have hA : upd H3 p1 (.lst pre) p1 = some (.lst pre) := upd_same
    generalize upd H3 p1 (.lst pre) = H4 at g4' hA ⊢
    have g4 := g3.trans g4'
    refine ⟨_, rfl, _, rfl, _, _, rfl, rfl, (show (0 : Int) < 3 by decide), seed, more % 3, rfl, hs0, m3, by omega, fun H5 nm g5' hnm => ?_⟩
    have g5 := g4.trans g5'
    refine ⟨_, rfl, _, rfl, _, rfl, a, _, _, _, rfl, rfl, .inl (.inl (g5 _ _ h)), hat, (by show 4 ≤ sizeLine; decide), fun t ht => new_h ht fun H6 g6 ht6 => ?_⟩
    have bn : Bears H6 (.ref t) (.lett nm (.num n) ey) := .lett ht6 (bnum.mono (Tups.of (g4'.trans (g5'.trans g6)))) (by1.mono (Tups.of (g5.trans g6)))
    refine ⟨(by show 1 ≤ sizeLine; decide), fun l hl0 => ?_⟩
    refine ⟨p1, l, _, _, rfl, rfl, same_new hl0 _ _ _ (g6 _ _ (g5' _ _ hA)), upd_same, ?_, fun p hp => ?_⟩
    · simp at hlen ⊢
      exact sz (by omega)
    obtain ⟨gF, bF⟩ := step_fin (g5.trans g6) bp bn hl0 hp
    refine q _ p _ _ gF upd_same bF (hok.left.app (OkL.one ⟨hnm, hn, o2⟩)) (by simp) ?_ ?_
    · rw [sizeL_append, sizeL_append]
      show sizeL epre + ((1 + ey.size + 1) + 0) ≤ sizeL epre + (ey.size + 0) + 5
      omega
    · rw [depS_append, depS_append]
      have d_ey := Ex.deep_pos ey
      show depS epre + ((max 1 ey.deep + 1) + 0) ≤ depS epre + (ey.deep + 0) + 1
      omega
  dsimp only [tNext]
  refine if_two (2 < (xs.length : Int)) (fun Q k1 k2 => ?_) (fun hl => ?_) ?_
  · refine ⟨_, rfl, rfl, _, rfl, ite2 (fun _ => ?_) (fun _ => k2)⟩
    refine ⟨_, rfl, a, _, rfl, .inl (.inl (.inl h1)), _, _, rfl, rfl, _, rfl, ?_⟩
    by_cases b : (2 : Int) < (xs.length : Int)
    · rw [decide_eq_true b]; exact k1 b
    · rw [decide_eq_false b]; exact k2
  · obtain ⟨pre, u, x, y, epre, eu, ex, ey, rfl, rfl, bp, bu, bx, by1⟩ := b.split3 (by omega)
    have hat3 : atI (pre ++ [u, x, y]) (-3) = some u := at_neg 3 (by decide) (by simp) (by simp)
    have hat2 : atI (pre ++ [u, x, y]) (-2) = some x := at_neg 2 (by decide) (by simp) (by simp)
    have hat1 : atI (pre ++ [u, x, y]) (-1) = some y := at_neg 1 (by decide) (by simp) (by simp)
    have o0 := hok eu (by simp)
    have o1 := hok ex (by simp)
    have o2 := hok ey (by simp)
    refine ⟨_, rfl, _, rfl, a, _, _, _, rfl, rfl, .inl (.inl h1), hat3, ?_⟩
    refine ⟨_, rfl, _, _, rfl, rfl, (show (0 : Int) < 3 by decide), _, rfl, (by omega), (by omega), ?_⟩
    refine for_range (lo := 0) (n := (more % 3).toNat) (fun i σ H2 => Same H1 H2 ∧ ∃ (vc : V) (ec : Ex) (zz : Option V), Bears H2 vc ec ∧ ec.ok ∧ ec.size = eu.size + 2 * i ∧ ec.deep = eu.deep + i ∧ σ = [some (.ref a), some (.int kind), some (.int more), some (.int seed), some (.ref pw), some (.str o.str), none, some vc, zz])
      ⟨Same.refl _, u, eu, _, bu.mono (Tups.of g1), o0, rfl, rfl, rfl⟩ (fun i σ H2 hi hP => ?_) (fun σ H2 hP => ?_)
    · obtain ⟨g2, vc, ec, zz, bc, oc, sc, dc, rfl⟩ := hP
      refine ⟨_, rfl, (by show 2 ≤ sizeLine; decide), fun t0 ht0 => new_h ht0 fun H3 g3 ht3 => ?_⟩
      refine ⟨(by show 3 ≤ sizeLine; decide), fun t ht => new_h ht fun H4 g4 ht4 => ?_⟩
      refine ⟨g2.trans (g3.trans g4), _, .two .same ec (.num 0), _, .two ht4 (bc.mono (Tups.of (g3.trans g4))) (.num (g4 _ _ ht3)), ⟨oc, (show NumOk 0 by decide)⟩, ?_, ?_, rfl⟩
      · show ec.size + 1 + 1 = _
        omega
      · have d_ec := Ex.deep_pos ec
        show max ec.deep 1 + 1 = _
        omega
    · obtain ⟨g2', vc, ec, zz, bc, oc, sc, dc, rfl⟩ := hP
      have g2 := g1.trans g2'
      have h2 := g2 _ _ h
      refine ⟨_, rfl, _, rfl, _, rfl, a, _, rfl, .inl (.inl h2), fun p1 hp1 => ?_⟩
      rw [show cutV (pre ++ [u, x, y]) none (some (-3)) = pre from cut_app pre [u, x, y] 3 rfl (by decide)]
      have g4' := same_new hp1 (.lst pre)
      have hA : upd H2 p1 (.lst pre) p1 = some (.lst pre) := upd_same
      generalize upd H2 p1 (.lst pre) = H4 at g4' hA ⊢
      have g4 := g2.trans g4'
      have h4 := g4 _ _ h
      refine ⟨_, rfl, _, rfl, _, rfl, a, _, _, _, rfl, rfl, .inl (.inl h4), hat2, _, rfl, _, rfl, a, _, _, _, rfl, rfl, .inl (.inl h4), hat1, (by show 4 ≤ sizeLine; decide), fun t ht => new_h ht fun H5 g5 ht5 => ?_⟩
      have bn : Bears H5 (.ref t) (.whn ec ex ey) := .whn ht5 (bc.mono (Tups.of (g4'.trans g5))) (bx.mono (Tups.of (g4.trans g5))) (by1.mono (Tups.of (g4.trans g5)))
      refine ⟨(by show 1 ≤ sizeLine; decide), fun l hl0 => ?_⟩
      refine ⟨p1, l, _, _, rfl, rfl, same_new hl0 _ _ _ (g5 _ _ hA), upd_same, ?_, fun p hp => ?_⟩
      · simp at hlen ⊢
        exact sz (by omega)
      obtain ⟨gF, bF⟩ := step_fin (g4.trans g5) bp bn hl0 hp
      refine q _ p _ _ gF upd_same bF (hok.left.app (OkL.one ⟨oc, o1, o2⟩)) (by simp) ?_ ?_
      · rw [sizeL_append, sizeL_append]
        show sizeL epre + ((ec.size + ex.size + ey.size + 1) + 0) ≤ sizeL epre + (eu.size + (ex.size + (ey.size + 0))) + 5
        omega
      · rw [depS_append, depS_append]
        have d_ex := Ex.deep_pos ex
        have d_ey := Ex.deep_pos ey
        have d_ec := Ex.deep_pos ec
        show depS epre + ((max (max ec.deep ex.deep) ey.deep + 1) + 0) ≤ depS epre + (eu.deep + (ex.deep + (ey.deep + 0))) + 1
        omega
  dsimp only [tNext]
  refine if_two (1 < (xs.length : Int)) (fun Q k1 k2 => ?_) (fun hl => ?_) ?_
  · refine ⟨_, rfl, _, _, rfl, rfl, _, rfl, ite2 (fun _ => ?_) (fun _ => k2)⟩
    refine ⟨_, rfl, a, _, rfl, .inl (.inl (.inl h1)), _, _, rfl, rfl, _, rfl, ?_⟩
    by_cases b : (1 : Int) < (xs.length : Int)
    · rw [decide_eq_true b]; exact k1 b
    · rw [decide_eq_false b]; exact k2
  · obtain ⟨pre, x, y, epre, ex, ey, rfl, rfl, bp, bx, by1⟩ := b.split2 (by omega)
    have hat2 : atI (pre ++ [x, y]) (-2) = some x := at_neg 2 (by decide) (by simp) (by simp)
    have hat1 : atI (pre ++ [x, y]) (-1) = some y := at_neg 1 (by decide) (by simp) (by simp)
    have o1 := hok ex (by simp)
    have o2 := hok ey (by simp)
    refine ⟨_, rfl, _, rfl, _, rfl, a, _, rfl, .inl (.inl h1), fun p1 hp1 => ?_⟩
    rw [show cutV (pre ++ [x, y]) none (some (-2)) = pre from cut_app pre [x, y] 2 rfl (by decide)]
    have g2' := same_new hp1 (.lst pre)
    have hA : upd H1 p1 (.lst pre) p1 = some (.lst pre) := upd_same
    generalize upd H1 p1 (.lst pre) = H2 at g2' hA ⊢
    have g2 := g1.trans g2'
    have h2 := g2 _ _ h
    refine ⟨_, rfl, _, rfl, _, rfl, a, _, _, _, rfl, rfl, .inl (.inl h2), hat2, _, rfl, _, rfl, a, _, _, _, rfl, rfl, .inl (.inl h2), hat1, (by show 3 ≤ sizeLine; decide), fun t ht => new_h ht fun H4 g4 ht4 => ?_⟩
    have bn : Bears H4 (.ref t) (.two o ex ey) := .two ht4 (bx.mono (Tups.of (g2.trans g4))) (by1.mono (Tups.of (g2.trans g4)))
    refine ⟨(by show 1 ≤ sizeLine; decide), fun l hl0 => ?_⟩
    refine ⟨p1, l, _, _, rfl, rfl, same_new hl0 _ _ _ (g4 _ _ hA), upd_same, ?_, fun p hp => ?_⟩
    · simp at hlen ⊢
      exact sz (by omega)
    obtain ⟨gF, bF⟩ := step_fin (g2.trans g4) bp bn hl0 hp
    refine q _ p _ _ gF upd_same bF (hok.left.app (OkL.one ⟨o1, o2⟩)) (by simp) ?_ ?_
    · rw [sizeL_append, sizeL_append]
      show sizeL epre + ((ex.size + ey.size + 1) + 0) ≤ sizeL epre + (ex.size + (ey.size + 0)) + 5
      omega
    · rw [depS_append, depS_append]
      have d_ex := Ex.deep_pos ex
      have d_ey := Ex.deep_pos ey
      show depS epre + ((max ex.deep ey.deep + 1) + 0) ≤ depS epre + (ex.deep + (ey.deep + 0)) + 1
      omega
  dsimp only [tNext]
  refine if_two True (fun Q k1 k2 => ?_) (fun _ => ?_) ?_
  · exact ⟨_, rfl, _, _, rfl, rfl, _, rfl, any_b (k1 trivial) k2⟩
  · refine ⟨_, rfl, _, rfl, more, rfl, hm0, fun H2 n g2' hn => ?_⟩
    refine ⟨(by show 2 ≤ sizeLine; decide), fun t ht => new_h ht fun H3 g3' ht3 => ?_⟩
    have g3 := g1.trans (g2'.trans g3')
    refine ⟨(by show 1 ≤ sizeLine; decide), fun l hl0 => ?_⟩
    refine ⟨a, l, _, _, rfl, rfl, same_new hl0 _ _ _ (g3 _ _ h), upd_same, ?_, fun p hp => ?_⟩
    · simp at hlen ⊢
      exact sz (by omega)
    obtain ⟨gF, bF⟩ := step_fin g3 b (.num (n := n) ht3) hl0 hp
    refine q _ p _ _ gF upd_same bF (hok.app (OkL.one hn)) (by simp) ?_ ?_
    · rw [sizeL_append]
      show sizeL es + (1 + 0) ≤ sizeL es + 5
      omega
    · rw [depS_append]
      show depS es + (1 + 0) ≤ depS es + 1
      omega
  · dsimp only [tNext]
    refine ⟨_, rfl, _, rfl, _, rfl, _, _, rfl, rfl, (show (0 : Int) < 3 by decide), seed, more % 3, rfl, hs0, m3, by omega, fun H2 nm g2' hnm => ?_⟩
    refine ⟨(by show 2 ≤ sizeLine; decide), fun t ht => new_h ht fun H3 g3' ht3 => ?_⟩
    have g3 := g1.trans (g2'.trans g3')
    refine ⟨(by show 1 ≤ sizeLine; decide), fun l hl0 => ?_⟩
    refine ⟨a, l, _, _, rfl, rfl, same_new hl0 _ _ _ (g3 _ _ h), upd_same, ?_, fun p hp => ?_⟩
    · simp at hlen ⊢
      exact sz (by omega)
    obtain ⟨gF, bF⟩ := step_fin g3 b (.nam (w := nm) ht3) hl0 hp
    refine q _ p _ _ gF upd_same bF (hok.app (OkL.one hnm)) (by simp) ?_ ?_
    · rw [sizeL_append]
      show sizeL es + (1 + 0) ≤ sizeL es + 5
      omega
    · rw [depS_append]
      show depS es + (1 + 0) ≤ depS es + 1
      omega
theorem scTreeBy : FnScope ["_law_cells", "_law_seed", "_law_pile", "_law_cell"] ["_law_cells", "_law_seed"] (defScope sTreeBy) := ⟨rfl, rfl, rfl, by decide +kernel, rfl, by decide +kernel, by decide +kernel⟩
theorem ok_treeBy (d : Df K mg "_law_tree_by" sTreeBy ["_law_cells", "_law_seed"] f fd) (z : Bl mg) (d_step : Df K mg "_law_step" sStep ["_law_pile", "_law_kind", "_law_more", "_law_seed"] f1 fd1)
    (d_nameBy : Df K mg "_law_name_by" sNameBy ["_law_seed", "_law_k"] f2 fd2) (d_numBy : Df K mg "_law_number_by" sNumBy ["_law_cell"] f3 fd3) :
    FnOk P w K mg base CX0 3 f fd ["_law_cells", "_law_seed"] (spTreeBy K) := by
  refine d.F.ok scTreeBy (fun vs H Q E h => ?_) (fun cdv A outer s H vs Q E hr h => ?_)
  · obtain ⟨a, ms, seed, rfl, _⟩ := h
    rfl
  obtain ⟨a, ms, seed, rfl, hS, hnn, h63, hs0, q⟩ := h
  have G_step := ok_step (P := P) (w := w) (base := base) d_step z d_nameBy d_numBy
  refine ⟨_, (pss_cons (ps_set (i := 2) scTreeBy.nd rfl (.inl rfl) (pe_lst pa_nil))
    (pss_cons (ps_for PassesOwn.never rfl (pi_list (pv 0)) (pg_name (i := 3) scTreeBy.nd rfl (.inl rfl)) (pss_one (ps_set (i := 2) scTreeBy.nd rfl (.inl rfl) (pe_call G_step (hr.mono (by omega)) (by rfl) d_step.m d_step.k d_step.b .nil pass0 (pa_cons (pv 2) (pa_cons (pe_op op_mod (pv 3) pe_int) (pa_cons (pe_op op_fdiv (pv 3) pe_int) (pa_cons (pv 1) pa_nil))))))))
    (pss_cons (ps_while PassesOwn.never (pt_cmpR op_gt (pe_callB call_len_seq (by rfl) z.len PySem.boot_len (pa_cons (pv 2) pa_nil)) pe_int (nomark _)) (pss_one (ps_set (i := 2) scTreeBy.nd rfl (.inl rfl) (pe_op op_cat (pe_slice sl_list (pv 2) po_none (po_some (pe_un un_neg pe_int))) (pe_lst (pa_cons (pe_tup (pa_cons pe_str (pa_cons (pe_ix ix_list (pv 2) (pe_un un_neg pe_int) (fun _ _ => rfl)) (pa_cons (pe_ix ix_list (pv 2) (pe_un un_neg pe_int) (fun _ _ => rfl)) pa_nil)))) pa_nil))))))
    (pss_cons (ps_if (pt_cmpR (op_eqLen hr.units0) (pv 2) (pe_lst pa_nil) (nomark _)) (pss_one (ps_ret (pe_tup (pa_cons pe_str (pa_cons pe_int pa_nil))))) pss_nil)
    (pss_one (ps_ret (pe_ix ix_list (pv 2) pe_int (fun _ _ => rfl)))))))), ?_⟩
  refine ⟨(by show 0 ≤ sizeLine; decide), fun p0 hp0 => ?_⟩
  refine ⟨_, rfl, a, rfl, ⟨_, (same_new hp0 _).seq hS⟩, ?_⟩
  refine for_list (K := K) (a := a) (xs := ms.map V.int) (fun i σ H2 => Same H H2 ∧ ∃ (p : Addr) (xs : List V) (es : List Ex) (zz : Option V), H2 p = some (.lst xs) ∧ BearsL H2 xs es ∧ OkL es ∧ es.length ≤ i ∧ sizeL es ≤ 5 * i ∧ depS es ≤ i ∧ σ = [some (.ref a), some (.int seed), some (.ref p), zz])
    ⟨same_new hp0 _, p0, [], [], none, upd_same, .nil, (fun _ z => nomatch z), Nat.le_refl _, Nat.le_refl _, Nat.le_refl _, rfl⟩ (fun i σ H2 _ h => h.1.seq hS) (fun i x σ H2 hx hP => ?_) (fun σ H2 hP => ?_)
  · obtain ⟨g2, p, xs, es, zz, hp, b, ok, hl, hsz, hdp, rfl⟩ := hP
    rw [List.getElem?_map] at hx
    obtain ⟨c, hc, rfl⟩ := Option.map_eq_some_iff.mp hx
    have hi : i < ms.length := (List.getElem?_eq_some_iff.mp hc).1
    have hc0 := hnn c (List.mem_of_getElem? hc)
    have hbl := b.len
    refine ⟨_, rfl, _, rfl, _, _, rfl, rfl, (show (0 : Int) < 20 by decide), _, rfl, _, _, rfl, rfl, ⟨by decide, by decide⟩, _, rfl, p, xs, es, c % 20, c / 20, seed, rfl, hp, b, ok, Int.ediv_nonneg hc0 (by decide), hs0, by omega, fun H3 p' xs' es' g3 hp' b' ok' hl' hsz' hdp' => ?_⟩
    exact ⟨g2.trans g3, p', xs', es', _, hp', b', ok', by omega, by omega, by omega, rfl⟩
  · obtain ⟨g2, p, xs, es, zz, hp, b, ok, hl, hsz, hdp, rfl⟩ := hP
    rw [List.length_map] at hl hsz hdp
    refine ⟨fun m σ H3 => Same H H3 ∧ ∃ (p : Addr) (xs : List V) (es : List Ex), H3 p = some (.lst xs) ∧ BearsL H3 xs es ∧ OkL es ∧ es.length = m ∧ m ≤ ms.length ∧ sizeL es + m ≤ 6 * ms.length ∧ depS es ≤ ms.length ∧ σ = [some (.ref a), some (.int seed), some (.ref p), zz],
      ⟨_, g2, p, xs, es, hp, b, ok, rfl, hl, by omega, hdp, rfl⟩, fun m σ H3 hW => ?_⟩
    obtain ⟨g3, p, xs, es, hp, b, ok, hm, hml, hsz2, hdp2, rfl⟩ := hW
    have hbl := b.len
    refine ⟨_, rfl, p, _, rfl, .inl (.inl (.inl hp)), _, _, rfl, rfl, _, rfl, ?_⟩
    by_cases c : (1 : Int) < (xs.length : Int)
    · rw [decide_eq_true c]
      refine iteT ?_
      obtain ⟨pre, x, y, epre, ex, ey, rfl, rfl, bp, bx, by1⟩ := b.split2 (by omega)
      have o1 := ok ex (by simp)
      have o2 := ok ey (by simp)
      refine ⟨fun σ' H' => ∃ m', m' < m ∧ (Same H H' ∧ ∃ (p : Addr) (xs : List V) (es : List Ex), H' p = some (.lst xs) ∧ BearsL H' xs es ∧ OkL es ∧ es.length = m' ∧ m' ≤ ms.length ∧ sizeL es + m' ≤ 6 * ms.length ∧ depS es ≤ ms.length ∧ σ' = [some (.ref a), some (.int seed), some (.ref p), zz]), fun _ _ h => h, ?_⟩
      refine ⟨_, rfl, _, rfl, _, rfl, p, _, rfl, .inl (.inl hp), fun p1 hp1 => ?_⟩
      rw [show cutV (pre ++ [x, y]) none (some (-2)) = pre from cut_app pre [x, y] 2 rfl (by decide)]
      have g4 := same_new hp1 (.lst pre)
      have hA : upd H3 p1 (.lst pre) p1 = some (.lst pre) := upd_same
      generalize upd H3 p1 (.lst pre) = H4 at g4 hA ⊢
      have h4 := g4 _ _ hp
      refine ⟨_, rfl, _, rfl, p, _, _, x, rfl, rfl, .inl (.inl h4), at_neg 2 (by decide) (by simp) (by simp), _, rfl, _, rfl, p, _, _, y, rfl, rfl, .inl (.inl h4), at_neg 1 (by decide) (by simp) (by simp), (by show 3 ≤ sizeLine; decide), fun t ht => new_h ht fun H5 g5 ht5 => ?_⟩
      have bn : Bears H5 (.ref t) (.two .sum ex ey) := .two ht5 (bx.mono (Tups.of (g4.trans g5))) (by1.mono (Tups.of (g4.trans g5)))
      refine ⟨(by show 1 ≤ sizeLine; decide), fun l hl0 => ?_⟩
      refine ⟨p1, l, _, _, rfl, rfl, same_new hl0 _ _ _ (g5 _ _ hA), upd_same, ?_, fun p9 hp9 => ?_⟩
      · simp at hbl hm ⊢
        exact sz (by omega)
      obtain ⟨gF, bF⟩ := step_fin (g4.trans g5) bp bn hl0 hp9
      refine ⟨m - 1, ?_, g3.trans gF, p9, _, _, upd_same, bF, ok.left.app (OkL.one ⟨o1, o2⟩), ?_, ?_, ?_, ?_, rfl⟩
      · simp at hm
        omega
      · simp at hm ⊢
        omega
      · omega
      · rw [sizeL_append] at hsz2 ⊢
        have hsz2' : sizeL epre + (ex.size + (ey.size + 0)) + m ≤ 6 * ms.length := hsz2
        show sizeL epre + ((ex.size + ey.size + 1) + 0) + (m - 1) ≤ 6 * ms.length
        simp at hm
        omega
      · rw [depS_append] at hdp2 ⊢
        have hdp3 : depS epre + (ex.deep + (ey.deep + 0)) ≤ ms.length := hdp2
        have d_ex := Ex.deep_pos ex
        have d_ey := Ex.deep_pos ey
        show depS epre + ((max ex.deep ey.deep + 1) + 0) ≤ ms.length
        omega
    · rw [decide_eq_false c]
      refine iteF ?_
      refine ⟨_, rfl, (by show 0 ≤ sizeLine; decide), fun e0 he0 => ?_⟩
      have g5 := same_new he0 (.lst [])
      cases b with
      | nil =>
        refine ⟨p, e0, _, _, rfl, rfl, .inl (.inl (g5 _ _ hp)), .inl (.inl upd_same), .inr ⟨rfl, rfl, _, rfl, iteT ?_⟩⟩
        refine ⟨(by show 2 ≤ sizeLine; decide), fun t ht => new_h ht fun H5 g6 ht5 => ?_⟩
        exact q _ _ (.num 0) (g3.trans (g5.trans g6)) (.num ht5) (show NumOk 0 by decide) (Nat.le_add_left _ _) (Nat.le_add_left _ _)
      | @cons x e xr er bx br =>
        cases br with
        | cons _ _ =>
          simp at c
          omega
        | nil =>
          refine ⟨p, e0, _, _, rfl, rfl, .inl (.inl (g5 _ _ hp)), .inl (.inl upd_same), .inl ⟨by simp, _, rfl, iteF ?_⟩⟩
          refine ⟨_, rfl, p, _, 0, x, rfl, rfl, .inl (.inl (g5 _ _ hp)), rfl, ?_⟩
          have hsz3 : (e.size + 0) + m ≤ 6 * ms.length := hsz2
          have hdp3 : e.deep + 0 ≤ ms.length := hdp2
          exact q _ _ e (g3.trans g5) (bx.mono (Tups.of g5)) (ok e List.mem_cons_self) (by omega) (by omega)
theorem scLink : FnScope ["_law_word", "_law_code", "_law_row"] ["_law_word", "_law_code"] (defScope sLink) := ⟨rfl, rfl, rfl, by decide +kernel, rfl, by decide +kernel, by decide +kernel⟩
theorem ok_link (d : Df K mg "_law_link" sLink ["_law_word", "_law_code"] f fd) : FnOk P w K mg base CX0 1 f fd ["_law_word", "_law_code"] spLink := by
  refine d.F.ok scLink (fun vs H Q E h => ?_) (fun cdv A outer s H vs Q E hr h => ?_)
  · obtain ⟨x, c, rfl, _⟩ := h
    rfl
  obtain ⟨x, c, rfl, q⟩ := h
  refine ⟨_, (pss_cons (ps_set (i := 2) scLink.nd rfl (.inl rfl) (pe_lst (pa_cons pe_int (pa_cons pe_int (pa_cons (pe_un un_neg pe_int) (pa_cons pe_int (pa_cons (pe_un un_neg pe_int) (pa_cons pe_int (pa_cons pe_int (pa_cons pe_int (pa_cons (pe_un un_neg pe_int) pa_nil)))))))))))
    (pss_cons (ps_if (pt_cmpR op_eq (pv 0) pe_str (nomark _)) (pss_one (ps_set (i := 2) scLink.nd rfl (.inl rfl) (pe_lst (pa_cons (pe_un un_neg pe_int) (pa_cons pe_int (pa_cons (pe_un un_neg pe_int) (pa_cons pe_int (pa_cons pe_int (pa_cons pe_int (pa_cons pe_int (pa_cons (pe_un un_neg pe_int) (pa_cons (pe_un un_neg pe_int) pa_nil)))))))))))) pss_nil)
    (pss_cons (ps_if (pt_cmpR op_eq (pv 0) pe_str (nomark _)) (pss_one (ps_set (i := 2) scLink.nd rfl (.inl rfl) (pe_lst (pa_cons pe_int (pa_cons (pe_un un_neg pe_int) (pa_cons pe_int (pa_cons pe_int (pa_cons pe_int (pa_cons (pe_un un_neg pe_int) (pa_cons pe_int (pa_cons pe_int (pa_cons pe_int pa_nil)))))))))))) pss_nil)
    (pss_cons (ps_if (pt_cmpR op_eq (pv 0) pe_str (nomark _)) (pss_one (ps_set (i := 2) scLink.nd rfl (.inl rfl) (pe_lst (pa_cons pe_int (pa_cons pe_int (pa_cons pe_int (pa_cons pe_int (pa_cons pe_int (pa_cons pe_int (pa_cons pe_int (pa_cons pe_int (pa_cons pe_int pa_nil)))))))))))) pss_nil)
    (pss_one (ps_ret (pe_ix ix_list (pv 2) (pe_op op_mod (pv 1) pe_int) (fun _ _ => rfl)))))))), ?_⟩
  refine ⟨_, rfl, _, rfl, _, rfl, (by show 9 ≤ sizeLine; decide), fun p hp => ?_⟩
  dsimp only [gName]
  refine if_set (i := 2) True (fun w H' => Same H H' ∧ ∃ p xs, w = .ref p ∧ H' p = some (.lst xs) ∧ xs.length = 9 ∧ xs.all numV = true) (.ref p) ⟨same_new hp _, p, _, rfl, upd_same, rfl, by decide⟩ rfl (fun Q k1 k2 => ⟨_, rfl, rfl, _, rfl, any_b (k1 trivial) k2⟩)
    (fun _ Q k => ?_) (fun w H1 hw => ?_)
  · exact ⟨_, rfl, _, rfl, _, rfl, _, rfl, (by show 9 ≤ sizeLine; decide), fun p2 hp2 => k _ _ ⟨(same_new hp _).trans (same_new hp2 _), p2, _, rfl, upd_same, rfl, by decide⟩⟩
  obtain ⟨g1, p, xs, rfl, h1, hl, ha⟩ := hw
  refine if_set (i := 2) True (fun w H' => Same H H' ∧ ∃ p xs, w = .ref p ∧ H' p = some (.lst xs) ∧ xs.length = 9 ∧ xs.all numV = true) (.ref p) ⟨g1, p, _, rfl, h1, hl, ha⟩ rfl (fun Q k1 k2 => ⟨_, rfl, rfl, _, rfl, any_b (k1 trivial) k2⟩)
    (fun _ Q k => ?_) (fun w H2 hw => ?_)
  · exact ⟨_, rfl, _, rfl, (by show 9 ≤ sizeLine; decide), fun p2 hp2 => k _ _ ⟨g1.trans (same_new hp2 _), p2, _, rfl, upd_same, rfl, by decide⟩⟩
  obtain ⟨g2, p, xs, rfl, h2, hl, ha⟩ := hw
  refine if_set (i := 2) True (fun w H' => Same H H' ∧ ∃ p xs, w = .ref p ∧ H' p = some (.lst xs) ∧ xs.length = 9 ∧ xs.all numV = true) (.ref p) ⟨g2, p, _, rfl, h2, hl, ha⟩ rfl (fun Q k1 k2 => ⟨_, rfl, rfl, _, rfl, any_b (k1 trivial) k2⟩)
    (fun _ Q k => ?_) (fun w H3 hw => ?_)
  · exact ⟨(by show 9 ≤ sizeLine; decide), fun p2 hp2 => k _ _ ⟨g2.trans (same_new hp2 _), p2, _, rfl, upd_same, rfl, by decide⟩⟩
  obtain ⟨g3, p, xs, rfl, h3, hl, ha⟩ := hw
  obtain ⟨v, hv, hm⟩ := at_modA (xs := xs) (m := c) 9 hl (by decide)
  obtain ⟨n, rfl, hn⟩ := numV_out (List.all_eq_true.mp ha v hm)
  exact ⟨_, rfl, _, rfl, _, _, rfl, rfl, (show (0 : Int) < 9 by decide), p, _, _, _, rfl, rfl, .inl (.inl h3), hv, q _ n g3 hn⟩
theorem scManyBy : FnScope ["_law_seed", "_law_cell", "_law_words", "_law_expr", "_law_k", "_law_word"] ["_law_seed", "_law_cell"] (defScope sManyBy) := ⟨rfl, rfl, rfl, by decide +kernel, rfl, by decide +kernel, by decide +kernel⟩
theorem ok_manyBy (d : Df K mg "_law_many_by" sManyBy ["_law_seed", "_law_cell"] f fd) (z : Bl mg) (d_nameBy : Df K mg "_law_name_by" sNameBy ["_law_seed", "_law_k"] f1 fd1) : FnOk P w K mg base CX0 2 f fd ["_law_seed", "_law_cell"] spManyBy := by
  refine d.F.ok scManyBy (fun vs H Q E h => ?_) (fun cdv A outer s H vs Q E hr h => ?_)
  · obtain ⟨x, c, rfl, _⟩ := h
    rfl
  obtain ⟨seed, c, rfl, hs0, hc0, q⟩ := h
  have G_nameBy := ok_nameBy (P := P) (w := w) (base := base) d_nameBy z
  refine ⟨_, (pss_cons (ps_set (i := 2) scManyBy.nd rfl (.inl rfl) (pe_lst (pa_cons pe_str (pa_cons pe_str (pa_cons pe_str (pa_cons pe_str (pa_cons pe_str (pa_cons pe_str (pa_cons pe_str pa_nil)))))))))
    (pss_cons (ps_set (i := 3) scManyBy.nd rfl (.inl rfl) (pe_tup (pa_cons pe_str (pa_cons (pe_call G_nameBy (hr.mono (by omega)) (by rfl) d_nameBy.m d_nameBy.k d_nameBy.b .nil pass0 (pa_cons (pv 0) (pa_cons (pe_op op_mod (pv 1) pe_int) pa_nil))) pa_nil))))
    (pss_cons (ps_for PassesOwn.never rfl (pi_range1 (by rfl) z.range (pa_cons (pe_op op_add pe_int (pe_op op_mod (pe_op op_fdiv (pv 1) pe_int) pe_int)) pa_nil)) (pg_name (i := 4) scManyBy.nd rfl (.inl rfl)) (pss_cons (ps_set (i := 5) scManyBy.nd rfl (.inl rfl) (pe_ix ix_list (pv 2) (pe_op op_mod (pe_op op_fdiv (pv 1) pe_int) pe_int) (fun _ _ => rfl)))
    (pss_cons (ps_if (pt_cmpR op_eq (pe_op op_mod (pe_op op_fdiv (pv 1) pe_int) pe_int) pe_int (nomark _)) (pss_one (ps_set (i := 5) scManyBy.nd rfl (.inl rfl) (pe_ix ix_list (pv 2) (pe_op op_mod (pe_op op_add (pe_op op_fdiv (pv 1) pe_int) (pv 4)) pe_int) (fun _ _ => rfl)))) pss_nil)
    (pss_one (ps_set (i := 3) scManyBy.nd rfl (.inl rfl) (pe_tup (pa_cons (pv 5) (pa_cons (pv 3) (pa_cons (pe_tup (pa_cons pe_str (pa_cons (pe_call G_nameBy (hr.mono (by omega)) (by rfl) d_nameBy.m d_nameBy.k d_nameBy.b .nil pass0 (pa_cons (pv 0) (pa_cons (pv 4) pa_nil))) pa_nil))) pa_nil)))))))))
    (pss_one (ps_ret (pv 3)))))), ?_⟩
  have m40 := Int.emod_nonneg c (show (40 : Int) ≠ 0 by decide)
  have m40' := Int.emod_lt_of_pos c (show (0 : Int) < 40 by decide)
  have m36 := Int.emod_nonneg (c / 40) (show (36 : Int) ≠ 0 by decide)
  have m36' := Int.emod_lt_of_pos (c / 40) (show (0 : Int) < 36 by decide)
  refine ⟨(by show 7 ≤ sizeLine; decide), fun pw hpw => new_h hpw fun H1 g1 hw1 => ?_⟩
  refine ⟨_, rfl, _, rfl, _, _, rfl, rfl, (show (0 : Int) < 40 by decide), seed, c % 40, rfl, hs0, m40, by omega, fun H2 nm g2' hnm => ?_⟩
  refine ⟨(by show 2 ≤ sizeLine; decide), fun t0 ht0 => new_h ht0 fun H3 g3' ht3 => ?_⟩
  have g3 := g1.trans (g2'.trans g3')
  have hw3 := g3' _ _ (g2' _ _ hw1)
  refine ⟨_, rfl, _, _, rfl, rfl, ⟨by decide, by decide⟩, _, _, rfl, rfl, (show (0 : Int) < 36 by decide), _, _, rfl, rfl, _, rfl, (by omega), (by omega), ?_⟩
  refine for_range (lo := 0) (n := (5 + c / 40 % 36).toNat) (fun i σ H4 => Same H3 H4 ∧ ∃ (v : V) (e : Ex) (z4 z5 : Option V), Bears H4 v e ∧ e.ok ∧ e.size = 1 + 2 * i ∧ e.deep = 1 + i ∧ σ = [some (.int seed), some (.int c), some (.ref pw), some v, z4, z5])
    ⟨Same.refl _, _, .nam nm, _, _, .nam ht3, hnm, rfl, rfl, rfl⟩ (fun i σ H4 hi hP => ?_) (fun σ H4 hP => ?_)
  · obtain ⟨g4, v, e, z4, z5, b, ok, hsz, hdp, rfl⟩ := hP
    have hw4 := g4 _ _ hw3
    obtain ⟨w1, hv1, hmem1⟩ := at_modA (xs := opsV) (m := c / 1440) 7 rfl (by decide)
    obtain ⟨o1, rfl⟩ := ops_in hmem1
    have m2 := Int.emod_nonneg (c / 20160 + (0 + (i : Int))) (show (2 : Int) ≠ 0 by decide)
    have m2' := Int.emod_lt_of_pos (c / 20160 + (0 + (i : Int))) (show (0 : Int) < 2 by decide)
    obtain ⟨w2, hv2, hmem2⟩ := at_lt (xs := opsV) (k := (c / 20160 + (0 + (i : Int))) % 2) m2 (by show _ < (7 : Int); omega)
    obtain ⟨o2, rfl⟩ := ops_in hmem2
    refine ⟨_, rfl, _, rfl, _, _, rfl, rfl, ⟨by decide, by decide⟩, _, _, rfl, rfl, (show (0 : Int) < 7 by decide), pw, _, _, _, rfl, rfl, .inl (.inl hw4), hv1, ?_⟩
    dsimp only [gName]
    refine if_set (i := 5) True (fun w H' => H' = H4 ∧ ∃ o : Op, w = .str o.str) (.str o1.str) ⟨rfl, o1, rfl⟩ rfl (fun Q k1 k2 => ⟨_, rfl, _, _, rfl, rfl, ⟨by decide, by decide⟩, _, _, rfl, rfl, (show (0 : Int) < 2 by decide), rfl, _, rfl, any_b (k1 trivial) k2⟩)
      (fun _ Q k => ⟨_, rfl, _, rfl, _, _, rfl, rfl, ⟨by decide, by decide⟩, _, rfl, _, _, rfl, rfl, _, _, rfl, rfl, (show (0 : Int) < 2 by decide), pw, _, _, _, rfl, rfl, .inl (.inl hw4), hv2, k _ _ ⟨rfl, o2, rfl⟩⟩) (fun w H5 hw => ?_)
    obtain ⟨rfl, o, rfl⟩ := hw
    refine ⟨_, rfl, _, rfl, _, rfl, _, rfl, seed, _, rfl, hs0, (by omega), (by omega), fun H6 nm2 g6 hnm2 => ?_⟩
    refine ⟨(by show 2 ≤ sizeLine; decide), fun t1 ht1 => new_h ht1 fun H7 g7 ht7 => ?_⟩
    refine ⟨(by show 3 ≤ sizeLine; decide), fun t2 ht2 => new_h ht2 fun H8 g8 ht8 => ?_⟩
    refine ⟨g4.trans (g6.trans (g7.trans g8)), _, .two o e (.nam nm2), _, _, .two ht8 (b.mono (Tups.of (g6.trans (g7.trans g8)))) (.nam (g8 _ _ ht7)), ⟨ok, hnm2⟩, ?_, ?_, rfl⟩
    · show e.size + 1 + 1 = _
      omega
    · show max e.deep 1 + 1 = _
      omega
  · obtain ⟨g4, v, e, z4, z5, b, ok, hsz, hdp, rfl⟩ := hP
    exact ⟨_, rfl, q _ v e (g3.trans g4) b ok (by omega) (by omega)⟩
theorem scExprBy : FnScope ["_law_script", "_law_seed", "_law_cell", "_law_room", "_law_word", "_law_code", "_law_expr", "_law_many", "_law_k", "_law_number"] ["_law_script"] (defScope sExprBy) := ⟨rfl, rfl, rfl, by decide +kernel, rfl, by decide +kernel, by decide +kernel⟩
theorem ok_exprBy (d : Df K mg "_law_expr_by" sExprBy ["_law_script"] f fd) (z : Bl mg) (d_cellAt : Df K mg "_law_cell_at" sCellAt ["_law_script", "_law_k"] f1 fd1) (d_treeBy : Df K mg "_law_tree_by" sTreeBy ["_law_cells", "_law_seed"] f2 fd2) (d_step : Df K mg "_law_step" sStep ["_law_pile", "_law_kind", "_law_more", "_law_seed"] f3 fd3)
    (d_nameBy : Df K mg "_law_name_by" sNameBy ["_law_seed", "_law_k"] f4 fd4) (d_numBy : Df K mg "_law_number_by" sNumBy ["_law_cell"] f5 fd5) (d_manyBy : Df K mg "_law_many_by" sManyBy ["_law_seed", "_law_cell"] f6 fd6) (d_link : Df K mg "_law_link" sLink ["_law_word", "_law_code"] f7 fd7) :
    FnOk P w K mg base CX0 4 f fd ["_law_script"] (spExprBy K) := by
  refine d.F.ok scExprBy (fun vs H Q E h => ?_) (fun cdv A outer s H vs Q E hr h => ?_)
  · obtain ⟨a, ms, rfl, _⟩ := h
    rfl
  obtain ⟨a, ms, rfl, hS, hnn, h63, q⟩ := h
  have G_cellAt := ok_cellAt (P := P) (w := w) (base := base) d_cellAt z
  have G_treeBy := ok_treeBy (P := P) (w := w) (base := base) d_treeBy z d_step d_nameBy d_numBy
  have G_nameBy := ok_nameBy (P := P) (w := w) (base := base) d_nameBy z
  have G_numBy := ok_numBy (P := P) (w := w) (base := base) d_numBy
  have G_manyBy := ok_manyBy (P := P) (w := w) (base := base) d_manyBy z d_nameBy
  have G_link := ok_link (P := P) (w := w) (base := base) d_link
  refine ⟨_, (pss_cons (ps_set (i := 1) scExprBy.nd rfl (.inl rfl) (pe_call G_cellAt (hr.mono (by omega)) (by rfl) d_cellAt.m d_cellAt.k d_cellAt.b .nil pass0 (pa_cons (pv 0) (pa_cons pe_int pa_nil))))
    (pss_cons (ps_set (i := 2) scExprBy.nd rfl (.inl rfl) (pe_call G_cellAt (hr.mono (by omega)) (by rfl) d_cellAt.m d_cellAt.k d_cellAt.b .nil pass0 (pa_cons (pv 0) (pa_cons pe_int pa_nil))))
    (pss_cons (ps_set (i := 3) scExprBy.nd rfl (.inl rfl) pe_int)
    (pss_cons (ps_if (pt_cmpR op_eq (pe_op op_mod (pe_op op_fdiv (pv 2) pe_int) pe_int) pe_int (nomark _)) (pss_one (ps_set (i := 3) scExprBy.nd rfl (.inl rfl) pe_int)) pss_nil)
    (pss_cons (ps_if (pt_cmpR op_lt (pe_op op_mod (pv 2) pe_int) pe_int (nomark _)) (pss_one (ps_ret (pe_call G_treeBy (hr.mono (by omega)) (by rfl) d_treeBy.m d_treeBy.k d_treeBy.b .nil pass0 (pa_cons (pe_slice sl_list (pv 0) (po_some pe_int) (po_some (pe_op op_add pe_int (pv 3)))) (pa_cons (pv 1) pa_nil))))) pss_nil)
    (pss_cons (ps_if (pt_cmpR op_eq (pe_op op_mod (pv 2) pe_int) pe_int (nomark _)) (pss_one (ps_ret (pe_call G_manyBy (hr.mono (by omega)) (by rfl) d_manyBy.m d_manyBy.k d_manyBy.b .nil pass0 (pa_cons (pv 1) (pa_cons (pe_op op_fdiv (pv 2) pe_int) pa_nil))))) pss_nil)
    (pss_cons (ps_set (i := 4) scExprBy.nd rfl (.inl rfl) (pe_ix ix_list (pe_lst (pa_cons pe_str (pa_cons pe_str (pa_cons pe_str (pa_cons pe_str (pa_cons pe_str (pa_cons pe_str (pa_cons pe_str pa_nil)))))))) (pe_op op_mod (pe_op op_fdiv (pv 2) pe_int) pe_int) (fun _ _ => rfl)))
    (pss_cons (ps_set (i := 5) scExprBy.nd rfl (.inl rfl) (pe_op op_fdiv (pv 2) pe_int))
    (pss_cons (ps_set (i := 6) scExprBy.nd rfl (.inl rfl) (pe_tup (pa_cons pe_str (pa_cons (pe_call G_nameBy (hr.mono (by omega)) (by rfl) d_nameBy.m d_nameBy.k d_nameBy.b .nil pass0 (pa_cons (pv 1) (pa_cons pe_int pa_nil))) pa_nil))))
    (pss_cons (ps_if (pt_cmpR op_eq (pe_op op_mod (pe_op op_fdiv (pv 2) pe_int) pe_int) pe_int (nomark _)) (pss_one (ps_set (i := 6) scExprBy.nd rfl (.inl rfl) (pe_call G_treeBy (hr.mono (by omega)) (by rfl) d_treeBy.m d_treeBy.k d_treeBy.b .nil pass0 (pa_cons (pe_slice sl_list (pv 0) (po_some pe_int) (po_some pe_int)) (pa_cons (pv 1) pa_nil))))) pss_nil)
    (pss_cons (ps_if (PW.pt (pw_and (pt_cmpR op_eq (pe_op op_mod (pe_op op_fdiv (pv 2) pe_int) pe_int) pe_int (nomark _)) (pw_and1 (PW.pt (pw_or (pt_cmpR op_eq (pv 4) pe_str (nomark _)) (pw_or1 (pt_cmpR op_eq (pv 4) pe_str (nomark _)))))))) (pss_one (ps_set (i := 6) scExprBy.nd rfl (.inl rfl) (pe_tup (pa_cons pe_str (pa_cons (pe_tup (pa_cons pe_str (pa_cons (pe_call G_link (hr.mono (by omega)) (by rfl) d_link.m d_link.k d_link.b .nil pass0 (pa_cons (pv 4) (pa_cons (pe_op op_fdiv (pv 5) pe_int) pa_nil))) pa_nil))) (pa_cons (pv 6) pa_nil)))))) pss_nil)
    (pss_cons (ps_set (i := 7) scExprBy.nd rfl (.inl rfl) (pe_op op_mod (pe_op op_fdiv (pv 2) pe_int) (pe_op op_add pe_int (pe_op op_mul pe_int (pe_callTy call_int1 (by rfl) z.int (by decide +kernel) (pa_cons (pe_cmpR op_eq (pe_ix ix_tup (pv 6) pe_int (fun _ _ => rfl)) pe_str (nomark _)) pa_nil))))))
    (pss_cons (ps_if (pt_cmpR op_eq (pe_op op_mod (pe_op op_fdiv (pv 2) pe_int) pe_int) pe_int (nomark _)) (pss_one (ps_set (i := 7) scExprBy.nd rfl (.inl rfl) (pe_op op_add pe_int (pe_op op_mod (pv 7) pe_int)))) pss_nil)
    (pss_cons (ps_for PassesOwn.never rfl (pi_range1 (by rfl) z.range (pa_cons (pv 7) pa_nil)) (pg_name (i := 8) scExprBy.nd rfl (.inl rfl)) (pss_cons (ps_set (i := 9) scExprBy.nd rfl (.inl rfl) (pe_call G_link (hr.mono (by omega)) (by rfl) d_link.m d_link.k d_link.b .nil pass0 (pa_cons (pv 4) (pa_cons (pe_op op_add (pe_op op_fdiv (pv 5) pe_int) (pe_op op_mul (pv 8) (pe_op op_add pe_int (pe_op op_mod (pv 5) pe_int)))) pa_nil))))
    (pss_cons (ps_if (pt_cmpR op_eq (pe_op op_mod (pe_op op_fdiv (pv 5) pe_int) pe_int) pe_int (nomark _)) (pss_one (ps_set (i := 9) scExprBy.nd rfl (.inl rfl) (pe_call G_numBy (hr.mono (by omega)) (by rfl) d_numBy.m d_numBy.k d_numBy.b .nil pass0 (pa_cons (pe_op op_add (pe_op op_fdiv (pv 5) pe_int) (pe_op op_mul (pv 8) (pe_op op_add pe_int (pe_op op_mod (pv 5) pe_int)))) pa_nil)))) pss_nil)
    (pss_one (ps_if (PW.pt (pw_and (pt_cmpR op_eq (pe_op op_mod (pe_op op_fdiv (pv 5) pe_int) pe_int) pe_int (nomark _)) (pw_and1 (pt_cmpR op_gt (pe_op op_mod (pe_op op_add (pe_op op_fdiv (pv 5) pe_int) (pv 8)) pe_int) pe_int (nomark _))))) (pss_one (ps_set (i := 6) scExprBy.nd rfl (.inl rfl) (pe_tup (pa_cons (pv 4) (pa_cons (pe_tup (pa_cons pe_str (pa_cons (pv 9) pa_nil))) (pa_cons (pv 6) pa_nil)))))) (pss_one (ps_set (i := 6) scExprBy.nd rfl (.inl rfl) (pe_tup (pa_cons (pv 4) (pa_cons (pv 6) (pa_cons (pe_tup (pa_cons pe_str (pa_cons (pv 9) pa_nil))) pa_nil)))))))))))
    (pss_one (ps_ret (pv 6))))))))))))))))), ?_⟩
  refine ⟨_, rfl, a, ms, 0, rfl, hS, (by decide), hnn, fun seed hs0 => ?_⟩
  refine ⟨_, rfl, a, ms, 1, rfl, hS, (by decide), hnn, fun c hc0 => ?_⟩
  dsimp only [gName]
  refine seq_asg_c ?_
  refine if_set (i := 3) True (fun w H' => H' = H ∧ ∃ r : Int, w = .int r ∧ 0 ≤ r ∧ r ≤ 48) (.int 26) ⟨rfl, 26, rfl, by decide, by decide⟩ rfl (fun Q k1 k2 => ⟨_, rfl, _, _, rfl, rfl, ⟨by decide, by decide⟩, _, _, rfl, rfl, (show (0 : Int) < 4 by decide), rfl, _, rfl, any_b (k1 trivial) k2⟩)
    (fun _ Q k => k _ _ ⟨rfl, 48, rfl, by decide, by decide⟩) (fun w H1 hw => ?_)
  obtain ⟨rfl, r, rfl, hr0, hr48⟩ := hw
  refine if_two True (fun Q k1 k2 => ⟨_, rfl, _, _, rfl, rfl, (show (0 : Int) < 8 by decide), _, _, rfl, rfl, _, rfl, any_b (k1 trivial) k2⟩) (fun _ => ?_) ?_
  · obtain ⟨ms', e1, e2, e3⟩ := cut_ints ms 2 (2 + r) (by decide) (by omega)
    refine ⟨_, rfl, _, rfl, _, rfl, _, _, rfl, rfl, _, rfl, a, _, rfl, hS, fun p1 hp1 => ?_⟩
    refine ⟨_, rfl, p1, ms', seed, rfl, .inl (.inl (by rw [upd_same, e1])), fun m hm => hnn m (e2 m hm), by omega, hs0, fun H3 v e g3 b ok hsz hdp => ?_⟩
    exact q H3 v e ((same_new hp1 _).trans g3) b ok (by omega) (by omega)
  dsimp only [tNext]
  refine if_two True (fun Q k1 k2 => ⟨_, rfl, _, _, rfl, rfl, (show (0 : Int) < 8 by decide), rfl, _, rfl, any_b (k1 trivial) k2⟩) (fun _ => ?_) ?_
  · refine ⟨_, rfl, _, rfl, _, _, rfl, rfl, ⟨by decide, by decide⟩, seed, c / 8, rfl, hs0, Int.ediv_nonneg hc0 (by decide), fun H3 v e g3 b ok hsz hdp => ?_⟩
    exact q H3 v e g3 b ok (by omega) (by omega)
  dsimp only [tNext]
  obtain ⟨v, hv, hmem⟩ := at_modA (xs := [V.str "sum", .str "less", .str "times", .str "part", .str "rest", .str "part", .str "rest"]) (m := c / 8) 7 rfl (by decide)
  have ho : ∃ o : Op, v = .str o.str := by
    simp only [List.mem_cons, List.mem_nil_iff, or_false] at hmem
    rcases hmem with rfl | rfl | rfl | rfl | rfl | rfl | rfl
    · exact ⟨.sum, rfl⟩
    · exact ⟨.less, rfl⟩
    · exact ⟨.times, rfl⟩
    · exact ⟨.part, rfl⟩
    · exact ⟨.rest, rfl⟩
    · exact ⟨.part, rfl⟩
    · exact ⟨.rest, rfl⟩
  obtain ⟨o, rfl⟩ := ho
  refine ⟨(by show 7 ≤ sizeLine; decide), fun pw hpw => ?_⟩
  refine ⟨_, rfl, _, _, rfl, rfl, ⟨by decide, by decide⟩, _, _, rfl, rfl, (show (0 : Int) < 7 by decide), pw, _, _, _, rfl, rfl, .inl (.inl upd_same), hv, ?_⟩
  have g1 := same_new hpw (.lst [V.str "sum", .str "less", .str "times", .str "part", .str "rest", .str "part", .str "rest"])
  refine ⟨_, rfl, _, _, rfl, rfl, ⟨by decide, by decide⟩, ?_⟩
  have hcode : 0 ≤ c / 20160 := Int.ediv_nonneg hc0 (by decide)
  refine ⟨_, rfl, seed, 3, rfl, hs0, (by decide), (by decide), fun H2 nm g2' hnm => ?_⟩
  refine ⟨(by show 2 ≤ sizeLine; decide), fun t0 ht0 => ?_⟩
  have g3 := g1.trans (g2'.trans (same_new ht0 (.tup [.str "name", .str nm])))
  have ht3 : upd H2 t0 (.tup [.str "name", .str nm]) t0 = some (.tup [.str "name", .str nm]) := upd_same
  generalize upd H2 t0 (.tup [.str "name", .str nm]) = H3 at g3 ht3 ⊢
  dsimp only [gName]
  refine if_set (i := 6) True (fun w H' => Same H1 H' ∧ ∃ e : Ex, Bears H' w e ∧ e.ok ∧ e.size ≤ 40 ∧ e.deep ≤ 10) (.ref t0) ⟨g3, .nam nm, .nam ht3, hnm, (show 1 ≤ 40 by decide), (show 1 ≤ 10 by decide)⟩ rfl (fun Q k1 k2 => ⟨_, rfl, _, _, rfl, rfl, ⟨by decide, by decide⟩, _, _, rfl, rfl, (show (0 : Int) < 3 by decide), rfl, _, rfl, any_b (k1 trivial) k2⟩)
    (fun _ Q k => ?_) (fun w H4 hw => ?_)
  · obtain ⟨ms', e1, e2, e3⟩ := cut_ints ms 2 8 (by decide) (by decide)
    refine ⟨_, rfl, _, rfl, _, rfl, a, _, rfl, g3.seq hS, fun p1 hp1 => ?_⟩
    refine ⟨_, rfl, p1, ms', seed, rfl, .inl (.inl (by rw [upd_same, e1])), fun m hm => hnn m (e2 m hm), by omega, hs0, fun H5 v e g5 b ok hsz hdp => ?_⟩
    have e3' : ms'.length ≤ min 8 ms.length - min 2 ms.length := e3
    exact k _ _ ⟨g3.trans ((same_new hp1 _).trans g5), e, b, ok, by omega, by omega⟩
  obtain ⟨g4, e4, b4, ok4, sz4, dp4⟩ := hw
  refine if_set (i := 6) True (fun w H' => Same H1 H' ∧ ∃ e : Ex, Bears H' w e ∧ e.ok ∧ e.size ≤ 50 ∧ e.deep ≤ 11) w ⟨g4, e4, b4, ok4, by omega, by omega⟩ rfl (fun Q k1 k2 => ?_) (fun _ Q k => ?_) (fun w5 H5 hw => ?_)
  · refine ⟨_, rfl, _, _, rfl, rfl, ⟨by decide, by decide⟩, _, _, rfl, rfl, (show (0 : Int) < 3 by decide), rfl, _, rfl, ite2 (fun _ => ?_) (fun _ => k2)⟩
    exact ⟨_, rfl, rfl, _, rfl, ite2 (fun _ => k1 trivial) (fun _ => ⟨_, rfl, rfl, _, rfl, any_b (k1 trivial) k2⟩)⟩
  · refine ⟨_, rfl, _, rfl, _, _, rfl, rfl, ⟨by decide, by decide⟩, o.str, _, rfl, fun H5 n g5 hn => ?_⟩
    refine ⟨(by show 2 ≤ sizeLine; decide), fun t1 ht1 => ?_⟩
    have g6 := same_new ht1 (.tup [.str "num", .int n])
    have ht6 : upd H5 t1 (.tup [.str "num", .int n]) t1 = some (.tup [.str "num", .int n]) := upd_same
    generalize upd H5 t1 (.tup [.str "num", .int n]) = H6 at g6 ht6 ⊢
    refine ⟨_, rfl, (by show 3 ≤ sizeLine; decide), fun t2 ht2 => new_h ht2 fun H7 g7 ht7 => ?_⟩
    refine k _ _ ⟨g4.trans (g5.trans (g6.trans g7)), .two .less (.num n) e4, .two ht7 (.num (g7 _ _ ht6)) (b4.mono (Tups.of (g5.trans (g6.trans g7)))), ⟨hn, ok4⟩, ?_, ?_⟩
    · show 1 + e4.size + 1 ≤ 50
      omega
    · show max 1 e4.deep + 1 ≤ 11
      omega
  obtain ⟨g5, e5, b5, ok5, sz5, dp5⟩ := hw
  obtain ⟨ae, xe, rfl, he⟩ := b5.first
  have mp := many_pos (decide (V.str e5.word = V.str "name"))
  have ml := many_le (decide (V.str e5.word = V.str "name"))
  have hM0 := Int.emod_nonneg (c / 168) (show (30 + 30 * (if decide (V.str e5.word = V.str "name") = true then 1 else 0) : Int) ≠ 0 by omega)
  have hM1 := Int.emod_lt_of_pos (c / 168) mp
  have hMd : c / 168 % (30 + 30 * (if decide (V.str e5.word = V.str "name") = true then 1 else 0)) + (e5.deep : Int) ≤ 60 := by
    by_cases hn : e5.word = "name"
    · have hd1 := name_deep hn
      omega
    · have e0 : decide (V.str e5.word = V.str "name") = false := decide_eq_false (fun z => hn (by injection z))
      rw [e0] at hM1 ⊢
      have e30 : (30 + 30 * (if false = true then 1 else 0) : Int) = 30 := by decide
      rw [e30] at hM1 ⊢
      omega
  refine ⟨_, rfl, _, _, rfl, rfl, ⟨by decide, by decide⟩, _, rfl, ae, _, 0, _, rfl, rfl, .inl (.inl he), at_of (j := 0) rfl rfl, rfl, .inr ⟨_, rfl, _, _, rfl, rfl, .inl ⟨by decide, by decide⟩, _, _, rfl, rfl, _, _, rfl, rfl, mp, ?_⟩⟩
  dsimp only [gName]
  refine if_set (i := 7) True (fun w H' => H' = H5 ∧ ∃ n : Int, w = .int n ∧ 0 ≤ n ∧ n + (e5.deep : Int) ≤ 60) (.int _) ⟨rfl, _, rfl, hM0, hMd⟩ rfl (fun Q k1 k2 => ⟨_, rfl, _, _, rfl, rfl, ⟨by decide, by decide⟩, _, _, rfl, rfl, (show (0 : Int) < 2 by decide), rfl, _, rfl, any_b (k1 trivial) k2⟩)
    (fun _ Q k => ?_) (fun w H6 hw => ?_)
  · generalize c / 168 % (30 + 30 * (if decide (V.str e5.word = V.str "name") = true then 1 else 0)) = M at *
    have m4 := Int.emod_nonneg M (show (4 : Int) ≠ 0 by decide)
    have m4' := Int.emod_lt_of_pos M (show (0 : Int) < 4 by decide)
    exact ⟨_, rfl, _, _, rfl, rfl, (show (0 : Int) < 4 by decide), _, _, rfl, rfl, k _ _ ⟨rfl, 1 + M % 4, rfl, by omega, by omega⟩⟩
  obtain ⟨rfl, M, rfl, hMa, hMb⟩ := hw
  refine ⟨_, rfl, _, rfl, (by omega), (by omega), ?_⟩
  refine for_range (lo := 0) (n := M.toNat) (fun i σ H7 => Same H6 H7 ∧ ∃ (v : V) (e : Ex) (z8 z9 : Option V), Bears H7 v e ∧ e.ok ∧ e.size = e5.size + 2 * i ∧ e.deep = e5.deep + i ∧
      σ = [some (.ref a), some (.int seed), some (.int c), some (.int r), some (.str o.str), some (.int (c / 20160)), some v, some (.int M), z8, z9])
    ⟨Same.refl _, _, e5, _, _, b5, ok5, rfl, rfl, rfl⟩ (fun i σ H7 hi hP => ?_) (fun σ H7 hP => ?_)
  · obtain ⟨g7, v, e, z8, z9, b, ok, hsz, hdp, rfl⟩ := hP
    have d_e := Ex.deep_pos e
    have m4 := Int.emod_nonneg (c / 20160) (show (4 : Int) ≠ 0 by decide)
    refine ⟨_, rfl, _, rfl, _, _, rfl, rfl, ⟨by decide, by decide⟩, _, rfl, _, rfl, _, _, rfl, rfl, (show (0 : Int) < 4 by decide), _, _, rfl, rfl, _, _, rfl, rfl, .inl ⟨by omega, by omega⟩, _, _, rfl, rfl, o.str, _, rfl, fun H8 n g8 hn => ?_⟩
    dsimp only [gName]
    refine if_set (i := 9) True (fun w H' => Same H8 H' ∧ ∃ n : Int, w = .int n ∧ NumOk n) (.int n) ⟨Same.refl _, n, rfl, hn⟩ rfl (fun Q k1 k2 => ⟨_, rfl, _, _, rfl, rfl, ⟨by decide, by decide⟩, _, _, rfl, rfl, (show (0 : Int) < 4 by decide), rfl, _, rfl, any_b (k1 trivial) k2⟩)
      (fun _ Q k => ?_) (fun w H9 hw => ?_)
    · refine ⟨_, rfl, _, _, rfl, rfl, ⟨by decide, by decide⟩, _, rfl, _, rfl, _, _, rfl, rfl, (show (0 : Int) < 4 by decide), _, _, rfl, rfl, _, _, rfl, rfl, .inl ⟨by omega, by omega⟩, _, _, rfl, rfl, _, rfl, ?_, fun H9 n9 g9 hn9 => k _ _ ⟨g9, n9, rfl, hn9⟩⟩
      have h1 : 0 ≤ c / 20160 / 144 := Int.ediv_nonneg hcode (by decide)
      have h2 : 0 ≤ (0 + (i : Int)) * (1 + c / 20160 % 4) := Int.mul_nonneg (by omega) (by omega)
      omega
    obtain ⟨g9, n9, rfl, hn9⟩ := hw
    have g79 := g8.trans g9
    refine if_both (fun Q k1 k2 => ?_) ?_ ?_
    · refine ⟨_, rfl, _, _, rfl, rfl, ⟨by decide, by decide⟩, _, _, rfl, rfl, (show (0 : Int) < 4 by decide), rfl, _, rfl, ite2 (fun _ => ?_) (fun _ => k2)⟩
      exact ⟨_, rfl, _, _, rfl, rfl, ⟨by decide, by decide⟩, _, rfl, _, _, rfl, rfl, _, _, rfl, rfl, (show (0 : Int) < 3 by decide), _, _, rfl, rfl, _, rfl, any_b k1 k2⟩
    · refine ⟨_, rfl, _, rfl, (by show 2 ≤ sizeLine; decide), fun t1 ht1 => ?_⟩
      have g10 := same_new ht1 (.tup [.str "num", .int n9])
      have ht10 : upd H9 t1 (.tup [.str "num", .int n9]) t1 = some (.tup [.str "num", .int n9]) := upd_same
      generalize upd H9 t1 (.tup [.str "num", .int n9]) = H10 at g10 ht10 ⊢
      refine ⟨_, rfl, (by show 3 ≤ sizeLine; decide), fun t2 ht2 => new_h ht2 fun H11 g11 ht11 => ?_⟩
      refine ⟨g7.trans (g79.trans (g10.trans g11)), _, .two o (.num n9) e, _, _, .two ht11 (.num (g11 _ _ ht10)) (b.mono (Tups.of (g79.trans (g10.trans g11)))), ⟨hn9, ok⟩, ?_, ?_, rfl⟩
      · show 1 + e.size + 1 = _
        omega
      · show max 1 e.deep + 1 = _
        omega
    · refine ⟨_, rfl, _, rfl, _, rfl, (by show 2 ≤ sizeLine; decide), fun t1 ht1 => new_h ht1 fun H10 g10 ht10 => ?_⟩
      refine ⟨(by show 3 ≤ sizeLine; decide), fun t2 ht2 => new_h ht2 fun H11 g11 ht11 => ?_⟩
      refine ⟨g7.trans (g79.trans (g10.trans g11)), _, .two o e (.num n9), _, _, .two ht11 (b.mono (Tups.of (g79.trans (g10.trans g11)))) (.num (g11 _ _ ht10)), ⟨ok, hn9⟩, ?_, ?_, rfl⟩
      · show e.size + 1 + 1 = _
        omega
      · show max e.deep 1 + 1 = _
        omega
  · obtain ⟨g7, v, e, z8, z9, b, ok, hsz, hdp, rfl⟩ := hP
    have d_e := Ex.deep_pos e
    exact ⟨_, rfl, q _ v e (g5.trans g7) b ok (by omega) (by omega)⟩
theorem scMade : FnScope ["_law_word", "_law_one", "_law_two", "_law_number"] ["_law_word", "_law_one", "_law_two"] (defScope s_law_made) := ⟨rfl, rfl, rfl, by decide +kernel, rfl, by decide +kernel, by decide +kernel⟩
theorem ok_made (d : Df K mg "_law_made" s_law_made ["_law_word", "_law_one", "_law_two"] f fd) (z : Bl mg) : FnOk P w K mg base CX0 1 f fd ["_law_word", "_law_one", "_law_two"] spMade := by
  refine d.F.ok scMade (fun vs H Q E h => ?_) (fun cdv A outer s H vs Q E hr h => ?_)
  · obtain ⟨o, x, y, rfl, _⟩ := h
    rfl
  obtain ⟨o, x, y, rfl, hx, hy, q⟩ := h
  refine ⟨_, (pss_cons (ps_set (i := 3) scMade.nd rfl (.inl rfl) pe_int)
    (pss_cons (ps_if (pt_cmpR op_eq (pv 0) pe_str (nomark _)) (pss_one (ps_set (i := 3) scMade.nd rfl (.inl rfl) (pe_op op_add (pv 1) (pv 2)))) pss_nil)
    (pss_cons (ps_if (pt_cmpR op_eq (pv 0) pe_str (nomark _)) (pss_one (ps_set (i := 3) scMade.nd rfl (.inl rfl) (pe_op op_sub (pv 1) (pv 2)))) pss_nil)
    (pss_cons (ps_if (pt_cmpR op_eq (pv 0) pe_str (nomark _)) (pss_one (ps_set (i := 3) scMade.nd rfl (.inl rfl) (pe_op op_mul (pv 1) (pv 2)))) pss_nil)
    (pss_cons (ps_if (pt_cmpR op_eq (pv 0) pe_str (nomark _)) (pss_one (ps_set (i := 3) scMade.nd rfl (.inl rfl) (pe_callTy call_int1 (by rfl) z.int (by decide +kernel) (pa_cons (pe_cmpR op_lt (pv 1) (pv 2) (nomark _)) pa_nil)))) pss_nil)
    (pss_cons (ps_if (pt_cmpR op_eq (pv 0) pe_str (nomark _)) (pss_one (ps_set (i := 3) scMade.nd rfl (.inl rfl) (pe_callTy call_int1 (by rfl) z.int (by decide +kernel) (pa_cons (pe_cmpR op_eq (pv 1) (pv 2) (nomark _)) pa_nil)))) pss_nil)
    (pss_cons (ps_if (PW.pt (pw_or (pt_cmpR op_eq (pv 0) pe_str (nomark _)) (pw_or1 (pt_cmpR op_eq (pv 0) pe_str (nomark _))))) (pss_cons (ps_if (pt_cmpR op_eq (pv 2) pe_int (nomark _)) (pss_one (ps_ret (pe_tup (pa_cons pe_str (pa_cons pe_str pa_nil))))) pss_nil)
    (pss_cons (ps_set (i := 3) scMade.nd rfl (.inl rfl) (pe_op op_fdivN (pv 1) (pv 2)))
    (pss_one (ps_if (pt_cmpR op_eq (pv 0) pe_str (nomark _)) (pss_one (ps_set (i := 3) scMade.nd rfl (.inl rfl) (pe_op op_sub (pv 1) (pe_op op_mul (pv 2) (pv 3))))) pss_nil)))) pss_nil)
    (pss_cons (ps_if (PW.pt (pw_or (pt_cmpR op_gt (pv 3) pe_int (nomark _)) (pw_or1 (pt_cmpR op_lt (pv 3) (pe_un un_neg pe_int) (nomark _))))) (pss_one (ps_ret (pe_tup (pa_cons pe_str (pa_cons pe_str pa_nil))))) pss_nil)
    (pss_one (ps_ret (pe_tup (pa_cons pe_str (pa_cons (pv 3) pa_nil))))))))))))), ?_⟩
  have fin1 : ∀ k : Int, made o x y = (if NumOk k then Rs.is k else .great) → NumOk k → ∀ p, H p = none → Q (.ref p) (upd H p (.tup [.str "is", .int k])) := fun k e hk p hp => q _ p (same_new hp _) (by rw [upd_same, e, if_pos hk]; rfl)
  have fin2 : ∀ k : Int, made o x y = (if NumOk k then Rs.is k else .great) → ¬ NumOk k → ∀ p, H p = none → Q (.ref p) (upd H p (.tup [.str "great", .str ""])) := fun k e hk p hp => q _ p (same_new hp _) (by rw [upd_same, e, if_neg hk]; rfl)
  unfold NumOk at hx hy
  cases o with
  | sum =>
    refine ⟨_, rfl, rfl, _, rfl, iteT ⟨_, rfl, _, rfl, _, _, rfl, rfl, ?_⟩⟩
    refine ⟨_, rfl, rfl, _, rfl, iteF ⟨_, rfl, rfl, _, rfl, iteF ⟨_, rfl, rfl, _, rfl, iteF ⟨_, rfl, rfl, _, rfl, iteF ⟨_, rfl, rfl, _, rfl, iteF ⟨_, rfl, rfl, _, rfl, iteF ?_⟩⟩⟩⟩⟩⟩
    exact made_tail rfl rfl (fin1 (x + y) rfl) (fin2 (x + y) rfl)
  | less =>
    refine ⟨_, rfl, rfl, _, rfl, iteF ⟨_, rfl, rfl, _, rfl, iteT ⟨_, rfl, _, rfl, _, _, rfl, rfl, ?_⟩⟩⟩
    refine ⟨_, rfl, rfl, _, rfl, iteF ⟨_, rfl, rfl, _, rfl, iteF ⟨_, rfl, rfl, _, rfl, iteF ⟨_, rfl, rfl, _, rfl, iteF ⟨_, rfl, rfl, _, rfl, iteF ?_⟩⟩⟩⟩⟩
    exact made_tail rfl rfl (fin1 (x - y) rfl) (fin2 (x - y) rfl)
  | times =>
    refine ⟨_, rfl, rfl, _, rfl, iteF ⟨_, rfl, rfl, _, rfl, iteF ⟨_, rfl, rfl, _, rfl, iteT ⟨_, rfl, _, rfl, _, _, rfl, rfl, .inl ⟨by omega, by omega⟩, ?_⟩⟩⟩⟩
    refine ⟨_, rfl, rfl, _, rfl, iteF ⟨_, rfl, rfl, _, rfl, iteF ⟨_, rfl, rfl, _, rfl, iteF ⟨_, rfl, rfl, _, rfl, iteF ?_⟩⟩⟩⟩
    exact made_tail rfl rfl (fin1 (x * y) rfl) (fin2 (x * y) rfl)
  | below =>
    refine ⟨_, rfl, rfl, _, rfl, iteF ⟨_, rfl, rfl, _, rfl, iteF ⟨_, rfl, rfl, _, rfl, iteF ⟨_, rfl, rfl, _, rfl, iteT ⟨_, rfl, _, rfl, _, _, rfl, rfl, .inr ⟨_, rfl, ?_⟩⟩⟩⟩⟩⟩
    refine ⟨_, rfl, rfl, _, rfl, iteF ⟨_, rfl, rfl, _, rfl, iteF ⟨_, rfl, rfl, _, rfl, iteF ?_⟩⟩⟩
    have e : (if decide (x < y) = true then (1 : Int) else 0) = if x < y then 1 else 0 := by by_cases h : x < y <;> simp [h]
    refine made_tail rfl rfl (fin1 _ ?_) (fin2 _ ?_)
    all_goals rw [e]; rfl
  | same =>
    refine ⟨_, rfl, rfl, _, rfl, iteF ⟨_, rfl, rfl, _, rfl, iteF ⟨_, rfl, rfl, _, rfl, iteF ⟨_, rfl, rfl, _, rfl, iteF ⟨_, rfl, rfl, _, rfl, iteT ⟨_, rfl, _, rfl, rfl, .inr ⟨_, rfl, ?_⟩⟩⟩⟩⟩⟩⟩
    refine ⟨_, rfl, rfl, _, rfl, iteF ⟨_, rfl, rfl, _, rfl, iteF ?_⟩⟩
    have e : (if decide (V.int x = V.int y) = true then (1 : Int) else 0) = if x = y then 1 else 0 := by by_cases h : x = y <;> simp [h]
    refine made_tail rfl rfl (fin1 _ ?_) (fin2 _ ?_)
    all_goals rw [e]; rfl
  | part =>
    refine ⟨_, rfl, rfl, _, rfl, iteF ⟨_, rfl, rfl, _, rfl, iteF ⟨_, rfl, rfl, _, rfl, iteF ⟨_, rfl, rfl, _, rfl, iteF ⟨_, rfl, rfl, _, rfl, iteF ⟨_, rfl, rfl, _, rfl, iteT (iteT ?_)⟩⟩⟩⟩⟩⟩
    refine ⟨_, rfl, rfl, _, rfl, ite2 (fun a => ?_) (fun a => ?_)⟩
    · have hy0 : y = 0 := by injection of_decide_eq_true a
      refine ⟨(by show 2 ≤ sizeLine; decide), fun p hp => q _ p (same_new hp _) ?_⟩
      rw [upd_same, hy0]
      rfl
    · have hy0 : y ≠ 0 := fun z => a (decide_eq_true (congrArg V.int z))
      refine ⟨_, rfl, _, rfl, _, _, rfl, rfl, ⟨hy0, by omega⟩, ?_⟩
      refine ⟨_, rfl, rfl, _, rfl, iteF ?_⟩
      have e : made .part x y = if NumOk (x.fdiv y) then Rs.is (x.fdiv y) else .great := by
        unfold made
        rw [if_neg (fun z => hy0 z.2)]
        rfl
      exact made_tail rfl rfl (fin1 _ e) (fin2 _ e)
  | rest =>
    refine ⟨_, rfl, rfl, _, rfl, iteF ⟨_, rfl, rfl, _, rfl, iteF ⟨_, rfl, rfl, _, rfl, iteF ⟨_, rfl, rfl, _, rfl, iteF ⟨_, rfl, rfl, _, rfl, iteF ⟨_, rfl, rfl, _, rfl, iteF ⟨_, rfl, rfl, _, rfl, iteT ?_⟩⟩⟩⟩⟩⟩⟩
    refine ⟨_, rfl, rfl, _, rfl, ite2 (fun a => ?_) (fun a => ?_)⟩
    · have hy0 : y = 0 := by injection of_decide_eq_true a
      refine ⟨(by show 2 ≤ sizeLine; decide), fun p hp => q _ p (same_new hp _) ?_⟩
      rw [upd_same, hy0]
      rfl
    · have hy0 : y ≠ 0 := fun z => a (decide_eq_true (congrArg V.int z))
      refine ⟨_, rfl, _, rfl, _, _, rfl, rfl, ⟨hy0, by omega⟩, ?_⟩
      refine ⟨_, rfl, rfl, _, rfl, iteT ⟨_, rfl, _, rfl, _, rfl, _, _, rfl, rfl, .inl ⟨by omega, by omega⟩, _, _, rfl, rfl, ?_⟩⟩
      have e : made .rest x y = if NumOk (x - y * x.fdiv y) then Rs.is (x - y * x.fdiv y) else .great := by
        unfold made
        rw [if_neg (fun z => hy0 z.2)]
        rfl
      exact made_tail rfl rfl (fin1 _ e) (fin2 _ e)
theorem scLValue : FnScope ["_law_expr", "_law_setting", "_law_word", "_law_one", "_law_inner", "_law_two"] ["_law_expr", "_law_setting"] (defScope s_law_value) := ⟨rfl, rfl, rfl, by decide +kernel, rfl, by decide +kernel, by decide +kernel⟩
theorem ok_lvalue (n : Nat) (d_lvalue : Df K mg "_law_value" s_law_value ["_law_expr", "_law_setting"] f fd) (z : Bl2 mg) (d_made : Df K mg "_law_made" s_law_made ["_law_word", "_law_one", "_law_two"] f1 fd1) (G_lvalue : FnOk P w K mg base CX0 (n + 1) f fd ["_law_expr", "_law_setting"] (spLValue n)) :
    FnOk P w K mg base CX0 (n + 2) f fd ["_law_expr", "_law_setting"] (spLValue (n + 1)) := by
  refine d_lvalue.F.ok scLValue (fun vs H Q E h => ?_) (fun cdv A outer s H vs Q E hr h => ?_)
  · obtain ⟨v, e, d, s, kvs, rfl, _⟩ := h
    rfl
  obtain ⟨v, e, d, s, kvs, rfl, b, ok, hdp, hd, hkl, hS, hso, q⟩ := h
  have G_made := ok_made (P := P) (w := w) (base := base) d_made z.toBl
  refine ⟨_, (pss_cons (ps_set (i := 2) scLValue.nd rfl (.inl rfl) (pe_ix ix_tup (pv 0) pe_int (fun _ _ => rfl)))
    (pss_cons (ps_if (pt_cmpR op_eq (pv 2) pe_str (nomark _)) (pss_one (ps_ret (pe_tup (pa_cons pe_str (pa_cons (pe_ix ix_tup (pv 0) pe_int (fun _ _ => rfl)) pa_nil))))) pss_nil)
    (pss_cons (ps_if (pt_cmpR op_eq (pv 2) pe_str (nomark _)) (pss_cons (ps_if (pt_cmp (pc_din (hu_of hr) (pe_ix ix_tup (pv 0) pe_int (fun _ _ => rfl)) (pv 1))) (pss_one (ps_ret (pe_tup (pa_cons pe_str (pa_cons (pe_dget (hu_of hr) (pv 1) (pe_ix ix_tup (pv 0) pe_int (fun _ _ => rfl)) (fun _ _ => rfl)) pa_nil))))) pss_nil)
    (pss_one (ps_ret (pe_tup (pa_cons pe_str (pa_cons (pe_ix ix_tup (pv 0) pe_int (fun _ _ => rfl)) pa_nil)))))) pss_nil)
    (pss_cons (ps_set (i := 3) scLValue.nd rfl (.inl rfl) (pe_call G_lvalue (hr.mono (by omega)) (by rfl) d_lvalue.m d_lvalue.k d_lvalue.b .nil pass0 (pa_cons (pe_ix ix_tup (pv 0) (pe_op op_add pe_int (pe_callTy call_int1 (by rfl) z.int (by decide +kernel) (pa_cons (pe_cmpR op_eq (pv 2) pe_str (nomark _)) pa_nil))) (fun _ _ => rfl)) (pa_cons (pv 1) pa_nil))))
    (pss_cons (ps_if (pt_cmpR op_ne (pe_ix ix_tup (pv 3) pe_int (fun _ _ => rfl)) pe_str (nomark _)) (pss_one (ps_ret (pv 3))) pss_nil)
    (pss_cons (ps_if (pt_cmpR op_eq (pv 2) pe_str (nomark _)) (pss_one (ps_ret (pe_call G_lvalue (hr.mono (by omega)) (by rfl) d_lvalue.m d_lvalue.k d_lvalue.b .nil pass0 (pa_cons (pe_ix ix_tup (pv 0) (pe_op op_sub pe_int (pe_callTy call_int1 (by rfl) z.int (by decide +kernel) (pa_cons (pe_cmpR op_ne (pe_ix ix_tup (pv 3) pe_int (fun _ _ => rfl)) pe_int (nomark _)) pa_nil))) (fun _ _ => rfl)) (pa_cons (pv 1) pa_nil))))) pss_nil)
    (pss_cons (ps_if (pt_cmpR op_eq (pv 2) pe_str (nomark _)) (pss_cons (ps_set (i := 4) scLValue.nd rfl (.inl rfl) (pe_callTy call_dictD (by rfl) z.dict (by decide +kernel) (pa_cons (pv 1) pa_nil)))
    (pss_cons (ps_dput (hu_of hr) (pv 4) (pe_ix ix_tup (pv 0) pe_int (fun _ _ => rfl)) (pe_ix ix_tup (pv 3) pe_int (fun _ _ => rfl)) rfl)
    (pss_one (ps_ret (pe_call G_lvalue (hr.mono (by omega)) (by rfl) d_lvalue.m d_lvalue.k d_lvalue.b .nil pass0 (pa_cons (pe_ix ix_tup (pv 0) pe_int (fun _ _ => rfl)) (pa_cons (pv 4) pa_nil))))))) pss_nil)
    (pss_cons (ps_set (i := 5) scLValue.nd rfl (.inl rfl) (pe_call G_lvalue (hr.mono (by omega)) (by rfl) d_lvalue.m d_lvalue.k d_lvalue.b .nil pass0 (pa_cons (pe_ix ix_tup (pv 0) pe_int (fun _ _ => rfl)) (pa_cons (pv 1) pa_nil))))
    (pss_cons (ps_if (pt_cmpR op_ne (pe_ix ix_tup (pv 5) pe_int (fun _ _ => rfl)) pe_str (nomark _)) (pss_one (ps_ret (pv 5))) pss_nil)
    (pss_one (ps_ret (pe_call G_made (hr.mono (by omega)) (by rfl) d_made.m d_made.k d_made.b .nil pass0 (pa_cons (pv 2) (pa_cons (pe_ix ix_tup (pv 3) pe_int (fun _ _ => rfl)) (pa_cons (pe_ix ix_tup (pv 5) pe_int (fun _ _ => rfl)) pa_nil))))))))))))))), ?_⟩
  cases b with
  | @num a k h =>
    refine ⟨_, rfl, a, _, 0, _, rfl, rfl, .inl (.inl h), rfl, ?_⟩
    refine ⟨_, rfl, rfl, _, rfl, iteT ⟨_, rfl, a, _, 1, _, rfl, rfl, .inl (.inl h), rfl, (by show 2 ≤ sizeLine; decide), fun p hp => q _ p (same_new hp _) upd_same⟩⟩
  | @nam a x h =>
    refine ⟨_, rfl, a, _, 0, _, rfl, rfl, .inl (.inl h), rfl, ?_⟩
    refine ⟨_, rfl, rfl, _, rfl, iteF ⟨_, rfl, rfl, _, rfl, iteT ?_⟩⟩
    refine ⟨_, rfl, a, _, 1, _, rfl, rfl, .inl (.inl h), rfl, _, rfl, d, _, rfl, DGet.k (k := Sum.inr x) hd, _, rfl, ?_⟩
    have hv := hS x
    cases hs : s x with
    | none =>
      have e1 : value (.nam x) s = .unset x := by show (match s x with | some n => Rs.is n | none => .unset x) = _; rw [hs]
      rw [hs] at hv
      rw [hv]
      refine iteF ⟨_, rfl, a, _, 1, _, rfl, rfl, .inl (.inl h), rfl, (by show 2 ≤ sizeLine; decide), fun p hp => q _ p (same_new hp _) (by rw [upd_same, e1]; rfl)⟩
    | some k =>
      have e1 : value (.nam x) s = .is k := by show (match s x with | some n => Rs.is n | none => .unset x) = _; rw [hs]
      rw [hs] at hv
      rw [hv]
      refine iteT ⟨_, rfl, _, rfl, a, _, 1, _, rfl, rfl, .inl (.inl h), rfl, d, _, rfl, by have := DGet.k (k := Sum.inr x) hd; rw [hv] at this; exact this, (by show 2 ≤ sizeLine; decide), fun p hp => q _ p (same_new hp _) (by rw [upd_same, e1]; rfl)⟩
  | @two a o v1 v2 e1 e2 h b1 b2 =>
    have hdd : (Ex.two o e1 e2).deep = max e1.deep e2.deep + 1 := rfl
    refine ⟨_, rfl, a, _, 0, _, rfl, rfl, .inl (.inl h), rfl, ?_⟩
    refine ⟨_, rfl, rfl, false, congrArg V.bl (op_num o), iteF ⟨_, rfl, rfl, false, congrArg V.bl (op_name o), iteF ?_⟩⟩
    refine ⟨_, rfl, _, rfl, rfl, .inr ⟨false, congrArg (fun k => [V.bl k]) (op_let o), _, _, rfl, rfl, a, _, _, v1, rfl, rfl, .inl (.inl h), rfl, _, rfl, v1, e1, d, s, kvs, rfl, b1, ok.1, by omega, hd, by omega, hS, hso, fun H1 p1 g1 hp1 => ?_⟩⟩
    rcases Rs.ways (value e1 s) with ⟨m, em⟩ | ⟨eb, tag, x, et, hne⟩
    · rw [em] at hp1
      refine ⟨_, rfl, p1, _, 0, _, rfl, rfl, .inl (.inl hp1), rfl, rfl, _, rfl, iteF ?_⟩
      refine ⟨_, rfl, rfl, false, congrArg V.bl (op_when o), iteF ⟨_, rfl, rfl, false, congrArg V.bl (op_let o), iteF ?_⟩⟩
      have h1 := g1 _ _ h
      refine ⟨_, rfl, a, _, 2, v2, rfl, rfl, .inl (.inl h1), rfl, _, rfl, v2, e2, d, s, kvs, rfl, b2.mono (Tups.of g1), ok.2, by omega, g1 _ _ hd, by omega, hS, hso, fun H2 p2 g2 hp2 => ?_⟩
      have ev : value (.two o e1 e2) s = (value e2 s).bind fun y => made o m y := by show (value e1 s).bind _ = _; rw [em]; rfl
      rcases Rs.ways (value e2 s) with ⟨k, ek⟩ | ⟨eb, tag, x, et, hne⟩
      · rw [ek] at hp2 ev
        refine ⟨_, rfl, p2, _, 0, _, rfl, rfl, .inl (.inl hp2), rfl, rfl, _, rfl, iteF ?_⟩
        refine ⟨_, rfl, _, rfl, p1, _, 1, _, rfl, rfl, .inl (.inl (g2 _ _ hp1)), rfl, _, rfl, p2, _, 1, _, rfl, rfl, .inl (.inl hp2), rfl, o, m, k, rfl, value_ok e1 ok.1 hso em, value_ok e2 ok.2 hso ek, fun H3 p3 g3 hp3 => ?_⟩
        refine q H3 p3 (g1.trans (g2.trans g3)) ?_
        rw [hp3, ev]
        rfl
      · rw [eb] at ev
        have hp2' := hp2
        rw [et] at hp2'
        refine ⟨_, rfl, p2, _, 0, _, rfl, rfl, .inl (.inl hp2'), rfl, rfl, true, congrArg V.bl hne, iteT ⟨_, rfl, q H2 p2 (g1.trans g2) ?_⟩⟩
        rw [hp2, ev]
    · have ev : value (.two o e1 e2) s = value e1 s := eb _
      have hp1' := hp1
      rw [et] at hp1'
      refine ⟨_, rfl, p1, _, 0, _, rfl, rfl, .inl (.inl hp1'), rfl, rfl, true, congrArg V.bl hne, iteT ⟨_, rfl, q H1 p1 g1 ?_⟩⟩
      rw [hp1, ev]
  | @whn a v0 v1 v2 e0 e1 e2 h b0 b1 b2 =>
    have hdd : (Ex.whn e0 e1 e2).deep = max (max e0.deep e1.deep) e2.deep + 1 := rfl
    refine ⟨_, rfl, a, _, 0, _, rfl, rfl, .inl (.inl h), rfl, ?_⟩
    refine ⟨_, rfl, rfl, _, rfl, iteF ⟨_, rfl, rfl, _, rfl, iteF ?_⟩⟩
    refine ⟨_, rfl, _, rfl, rfl, .inr ⟨_, rfl, _, _, rfl, rfl, a, _, _, v0, rfl, rfl, .inl (.inl h), rfl, _, rfl, v0, e0, d, s, kvs, rfl, b0, ok.1, by omega, hd, by omega, hS, hso, fun H1 p1 g1 hp1 => ?_⟩⟩
    rcases Rs.ways (value e0 s) with ⟨m, em⟩ | ⟨eb, tag, x, et, hne⟩
    · rw [em] at hp1
      refine ⟨_, rfl, p1, _, 0, _, rfl, rfl, .inl (.inl hp1), rfl, rfl, _, rfl, iteF ?_⟩
      refine ⟨_, rfl, rfl, _, rfl, iteT ?_⟩
      have h1 := g1 _ _ h
      have ev : value (.whn e0 e1 e2) s = if m ≠ 0 then value e1 s else value e2 s := by show (value e0 s).bind _ = _; rw [em]; rfl
      by_cases hm : m = 0
      · have em0 : (!decide (V.int m = V.int 0)) = false := by rw [hm]; rfl
        refine ⟨_, rfl, _, rfl, p1, _, 1, _, rfl, rfl, .inl (.inl hp1), rfl, rfl, .inr ⟨false, congrArg (fun k => [V.bl k]) em0, _, _, rfl, rfl, a, _, 3, v2, rfl, rfl, .inl (.inl h1), rfl, _, rfl, v2, e2, d, s, kvs, rfl, b2.mono (Tups.of g1), ok.2.2, by omega, g1 _ _ hd, by omega, hS, hso, fun H2 p2 g2 hp2 => q H2 p2 (g1.trans g2) ?_⟩⟩
        rw [hp2, ev, if_neg (fun z => z hm)]
      · have em0 : (!decide (V.int m = V.int 0)) = true := by
          rw [decide_eq_false (fun z => hm (by injection z))]
          rfl
        refine ⟨_, rfl, _, rfl, p1, _, 1, _, rfl, rfl, .inl (.inl hp1), rfl, rfl, .inr ⟨true, congrArg (fun k => [V.bl k]) em0, _, _, rfl, rfl, a, _, 2, v1, rfl, rfl, .inl (.inl h1), rfl, _, rfl, v1, e1, d, s, kvs, rfl, b1.mono (Tups.of g1), ok.2.1, by omega, g1 _ _ hd, by omega, hS, hso, fun H2 p2 g2 hp2 => q H2 p2 (g1.trans g2) ?_⟩⟩
        rw [hp2, ev, if_pos hm]
    · have ev : value (.whn e0 e1 e2) s = value e0 s := eb _
      have hp1' := hp1
      rw [et] at hp1'
      refine ⟨_, rfl, p1, _, 0, _, rfl, rfl, .inl (.inl hp1'), rfl, rfl, true, congrArg V.bl hne, iteT ⟨_, rfl, q H1 p1 g1 ?_⟩⟩
      rw [hp1, ev]
  | @lett a x v1 v2 e1 e2 h b1 b2 =>
    have hdd : (Ex.lett x e1 e2).deep = max e1.deep e2.deep + 1 := rfl
    refine ⟨_, rfl, a, _, 0, _, rfl, rfl, .inl (.inl h), rfl, ?_⟩
    refine ⟨_, rfl, rfl, _, rfl, iteF ⟨_, rfl, rfl, _, rfl, iteF ?_⟩⟩
    refine ⟨_, rfl, _, rfl, rfl, .inr ⟨_, rfl, _, _, rfl, rfl, a, _, _, v1, rfl, rfl, .inl (.inl h), rfl, _, rfl, v1, e1, d, s, kvs, rfl, b1, ok.2.1, by omega, hd, by omega, hS, hso, fun H1 p1 g1 hp1 => ?_⟩⟩
    rcases Rs.ways (value e1 s) with ⟨m, em⟩ | ⟨eb, tag, y, et, hne⟩
    · rw [em] at hp1
      refine ⟨_, rfl, p1, _, 0, _, rfl, rfl, .inl (.inl hp1), rfl, rfl, _, rfl, iteF ?_⟩
      refine ⟨_, rfl, rfl, _, rfl, iteF ⟨_, rfl, rfl, _, rfl, iteT ?_⟩⟩
      have ev : value (.lett x e1 e2) s = value e2 (s.put x m) := by show (value e1 s).bind _ = _; rw [em]; rfl
      refine ⟨_, rfl, d, kvs, rfl, .inl (g1 _ _ hd), fun c hc => ?_⟩
      have g2 := same_new hc (.dK kvs)
      have g3 : Same H1 (upd (upd H1 c (.dK kvs)) c (.dK (putK kvs (Sum.inr x) (.int m)))) := same_put g2 hc
      refine ⟨_, rfl, p1, _, 1, _, rfl, rfl, .inl (.inl (g2 _ _ hp1)), rfl, _, rfl, _, rfl, a, _, 1, _, rfl, rfl, .inl (.inl (g2 _ _ (g1 _ _ h))), rfl, c, _, rfl, DPut.k (k := Sum.inr x) upd_same (small1000 (by omega)), ?_⟩
      have hl := putK_lenK kvs (Sum.inr x) (.int m)
      refine ⟨_, rfl, a, _, 3, v2, rfl, rfl, .inl (.inl (g3 _ _ (g1 _ _ h))), rfl, _, rfl, v2, e2, c, s.put x m, _, rfl, b2.mono (Tups.of (g1.trans g3)), ok.2.2, by omega, upd_same, by omega, hS.put x m, hso.put x (value_ok e1 ok.2.1 hso em), fun H4 p4 g4 hp4 => q H4 p4 (g1.trans (g3.trans g4)) ?_⟩
      rw [hp4, ev]
    · have ev : value (.lett x e1 e2) s = value e1 s := eb _
      have hp1' := hp1
      rw [et] at hp1'
      refine ⟨_, rfl, p1, _, 0, _, rfl, rfl, .inl (.inl hp1'), rfl, rfl, true, congrArg V.bl hne, iteT ⟨_, rfl, q H1 p1 g1 ?_⟩⟩
      rw [hp1, ev]
theorem scCount : FnScope ["_law_script"] ["_law_script"] (defScope s_law_count) := ⟨rfl, rfl, rfl, by decide +kernel, rfl, by decide +kernel, by decide +kernel⟩
theorem ok_count (d : Df K mg "_law_count" s_law_count ["_law_script"] f fd) (z : Bl mg) (d_cellAt : Df K mg "_law_cell_at" sCellAt ["_law_script", "_law_k"] f1 fd1) : FnOk P w K mg base CX0 2 f fd ["_law_script"] (spCount K) := by
  refine d.F.ok scCount (fun vs H Q E h => ?_) (fun cdv A outer s H vs Q E hr h => ?_)
  · obtain ⟨a, ms, rfl, _⟩ := h
    rfl
  obtain ⟨a, ms, rfl, hS, hnn, q⟩ := h
  have G_cellAt := ok_cellAt (P := P) (w := w) (base := base) d_cellAt z
  refine ⟨_, (pss_cons (ps_if (pt_cmpR op_eq (pe_op op_mod (pe_call G_cellAt (hr.mono (by omega)) (by rfl) d_cellAt.m d_cellAt.k d_cellAt.b .nil pass0 (pa_cons (pv 0) (pa_cons pe_int pa_nil))) pe_int) pe_int (nomark _)) (pss_one (ps_ret pe_int)) pss_nil)
    (pss_one (ps_ret pe_int))), ?_⟩
  refine if_two True (fun Q k1 k2 => ⟨_, rfl, a, ms, 1, rfl, hS, (by decide), hnn, fun c hc => ⟨_, _, rfl, rfl, (show (0 : Int) < 8 by decide), rfl, _, rfl, any_b (k1 trivial) k2⟩⟩) (fun _ => q 41 (by decide) (by decide)) (q 4 (by decide) (by decide))
theorem scKnownBy : FnScope ["_law_script", "_law_seed", "_law_known", "_law_k", "_law_cell"] ["_law_script"] (defScope s_law_known_by) := ⟨rfl, rfl, rfl, by decide +kernel, rfl, by decide +kernel, by decide +kernel⟩
theorem ok_knownBy (d : Df K mg "_law_known_by" s_law_known_by ["_law_script"] f fd) (z : Bl mg) (d_cellAt : Df K mg "_law_cell_at" sCellAt ["_law_script", "_law_k"] f1 fd1) (d_count : Df K mg "_law_count" s_law_count ["_law_script"] f2 fd2)
    (d_nameBy : Df K mg "_law_name_by" sNameBy ["_law_seed", "_law_k"] f3 fd3) (d_numBy : Df K mg "_law_number_by" sNumBy ["_law_cell"] f4 fd4) : FnOk P w K mg base CX0 3 f fd ["_law_script"] (spKnownBy K) := by
  refine d.F.ok scKnownBy (fun vs H Q E h => ?_) (fun cdv A outer s H vs Q E hr h => ?_)
  · obtain ⟨a, ms, rfl, _⟩ := h
    rfl
  obtain ⟨a, ms, rfl, hS, hnn, q⟩ := h
  have G_cellAt := ok_cellAt (P := P) (w := w) (base := base) d_cellAt z
  have G_count := ok_count (P := P) (w := w) (base := base) d_count z d_cellAt
  have G_nameBy := ok_nameBy (P := P) (w := w) (base := base) d_nameBy z
  have G_numBy := ok_numBy (P := P) (w := w) (base := base) d_numBy
  refine ⟨_, (pss_cons (ps_set (i := 1) scKnownBy.nd rfl (.inl rfl) (pe_call G_cellAt (hr.mono (by omega)) (by rfl) d_cellAt.m d_cellAt.k d_cellAt.b .nil pass0 (pa_cons (pv 0) (pa_cons pe_int pa_nil))))
    (pss_cons (ps_set (i := 2) scKnownBy.nd rfl (.inl rfl) pe_dnewK)
    (pss_cons (ps_for PassesOwn.never rfl (pi_range1 (by rfl) z.range (pa_cons (pe_call G_count (hr.mono (by omega)) (by rfl) d_count.m d_count.k d_count.b .nil pass0 (pa_cons (pv 0) pa_nil)) pa_nil)) (pg_name (i := 3) scKnownBy.nd rfl (.inl rfl)) (pss_cons (ps_set (i := 4) scKnownBy.nd rfl (.inl rfl) (pe_call G_cellAt (hr.mono (by omega)) (by rfl) d_cellAt.m d_cellAt.k d_cellAt.b .nil pass0 (pa_cons (pv 0) (pa_cons (pe_op op_add pe_int (pe_op op_mul pe_int (pv 3))) pa_nil))))
    (pss_one (ps_if (pt_cmpR op_lt (pe_op op_mod (pe_op op_add (pe_op op_fdiv (pv 4) pe_int) (pe_op op_mul pe_int (pv 3))) pe_int) (pe_op op_sub pe_int (pe_op op_mul pe_int (pe_callTy call_int1 (by rfl) z.int (by decide +kernel) (pa_cons (pe_cmpR op_eq (pv 3) pe_int (nomark _)) pa_nil)))) (nomark _)) (pss_one (ps_dput (hu_of hr) (pv 2) (pe_call G_nameBy (hr.mono (by omega)) (by rfl) d_nameBy.m d_nameBy.k d_nameBy.b .nil pass0 (pa_cons (pv 1) (pa_cons (pv 3) pa_nil))) (pe_call G_numBy (hr.mono (by omega)) (by rfl) d_numBy.m d_numBy.k d_numBy.b .nil pass0 (pa_cons (pe_op op_add (pe_op op_fdiv (pv 4) pe_int) (pv 3)) pa_nil)) rfl)) pss_nil))))
    (pss_one (ps_ret (pv 2)))))), ?_⟩
  refine ⟨_, rfl, a, ms, 0, rfl, hS, (by decide), hnn, fun seed hs0 => ?_⟩
  refine fun D hD => ?_
  have g1 := same_new hD (.dK [])
  refine ⟨_, rfl, a, ms, rfl, g1.seq hS, hnn, fun c hc0 hc1 => ?_⟩
  refine ⟨_, rfl, (by omega), (by omega), ?_⟩
  refine for_range (lo := 0) (n := c.toNat) (fun i σ H2 => Same H H2 ∧ ∃ (l : AL) (z3 z4 : Option V), H2 D = some (.dK (dS l)) ∧ AOk l ∧ l.length ≤ i ∧ σ = [some (.ref a), some (.int seed), some (.ref D), z3, z4])
    ⟨g1, [], _, _, upd_same, AOk.nil, Nat.le_refl _, rfl⟩ (fun i σ H2 hi hP => ?_) (fun σ H2 hP => ?_)
  · obtain ⟨g2, l, z3, z4, hD2, ok, hl, rfl⟩ := hP
    refine ⟨_, rfl, _, rfl, _, _, rfl, rfl, .inl ⟨by decide, by decide⟩, _, _, rfl, rfl, a, ms, _, rfl, g2.seq hS, (by omega), hnn, fun cell hcell => ?_⟩
    dsimp only [gName]
    refine if_both (fun Q k1 k2 => ?_) ?_ ?_
    · exact ⟨_, rfl, _, _, rfl, rfl, ⟨by decide, by decide⟩, _, rfl, _, _, rfl, rfl, .inl ⟨by decide, by decide⟩, _, _, rfl, rfl, _, _, rfl, rfl, (show (0 : Int) < 6 by decide), _, rfl, rfl, .inr ⟨_, rfl, _, _, rfl, rfl, .inl ⟨by decide, by decide⟩, _, _, rfl, rfl, _, _, rfl, rfl, _, rfl, any_b k1 k2⟩⟩
    · have hq : 0 ≤ cell / 18 := Int.ediv_nonneg hcell (by decide)
      refine ⟨_, rfl, _, _, rfl, rfl, ⟨by decide, by decide⟩, _, rfl, _, _, rfl, rfl, _, rfl, (by omega), fun H3 n g3 hn => ?_⟩
      refine ⟨_, rfl, _, rfl, _, rfl, seed, _, rfl, hs0, (by omega), (by omega), fun H4 nm g4 hnm => ?_⟩
      have hD4 := g4 _ _ (g3 _ _ hD2)
      refine ⟨D, _, rfl, DPut.k (k := Sum.inr nm) hD4 (by rw [dS_len]; exact small1000 (by omega)), same_put (g2.trans (g3.trans g4)) hD, putS l nm n, _, _, ?_, ok.put hnm hn, ?_, rfl⟩
      · rw [upd_same, dS_put]
      · have := putS_len l nm n
        omega
    · exact ⟨g2, l, _, _, hD2, ok, by omega, rfl⟩
  · obtain ⟨g2, l, z3, z4, hD2, ok, hl, rfl⟩ := hP
    exact ⟨_, rfl, q H2 D l g2 hD hD2 ok (by omega)⟩
theorem scSettingBy : FnScope ["_law_script", "_law_turn", "_law_seed", "_law_setting", "_law_k", "_law_cell"] ["_law_script", "_law_turn"] (defScope s_law_setting_by) := ⟨rfl, rfl, rfl, by decide +kernel, rfl, by decide +kernel, by decide +kernel⟩
theorem ok_settingBy (d : Df K mg "_law_setting_by" s_law_setting_by ["_law_script", "_law_turn"] f fd) (z : Bl mg) (d_cellAt : Df K mg "_law_cell_at" sCellAt ["_law_script", "_law_k"] f1 fd1) (d_count : Df K mg "_law_count" s_law_count ["_law_script"] f2 fd2)
    (d_nameBy : Df K mg "_law_name_by" sNameBy ["_law_seed", "_law_k"] f3 fd3) (d_numBy : Df K mg "_law_number_by" sNumBy ["_law_cell"] f4 fd4) : FnOk P w K mg base CX0 3 f fd ["_law_script", "_law_turn"] (spSettingBy K) := by
  refine d.F.ok scSettingBy (fun vs H Q E h => ?_) (fun cdv A outer s H vs Q E hr h => ?_)
  · obtain ⟨a, ms, t, rfl, _⟩ := h
    rfl
  obtain ⟨a, ms, t, rfl, hS, hnn, ht0, ht1, q⟩ := h
  have G_cellAt := ok_cellAt (P := P) (w := w) (base := base) d_cellAt z
  have G_count := ok_count (P := P) (w := w) (base := base) d_count z d_cellAt
  have G_nameBy := ok_nameBy (P := P) (w := w) (base := base) d_nameBy z
  have G_numBy := ok_numBy (P := P) (w := w) (base := base) d_numBy
  refine ⟨_, (pss_cons (ps_set (i := 2) scSettingBy.nd rfl (.inl rfl) (pe_call G_cellAt (hr.mono (by omega)) (by rfl) d_cellAt.m d_cellAt.k d_cellAt.b .nil pass0 (pa_cons (pv 0) (pa_cons pe_int pa_nil))))
    (pss_cons (ps_set (i := 3) scSettingBy.nd rfl (.inl rfl) pe_dnewK)
    (pss_cons (ps_for PassesOwn.never rfl (pi_range1 (by rfl) z.range (pa_cons (pe_call G_count (hr.mono (by omega)) (by rfl) d_count.m d_count.k d_count.b .nil pass0 (pa_cons (pv 0) pa_nil)) pa_nil)) (pg_name (i := 4) scSettingBy.nd rfl (.inl rfl)) (pss_cons (ps_set (i := 5) scSettingBy.nd rfl (.inl rfl) (pe_call G_cellAt (hr.mono (by omega)) (by rfl) d_cellAt.m d_cellAt.k d_cellAt.b .nil pass0 (pa_cons (pv 0) (pa_cons (pe_op op_add (pe_op op_add pe_int (pv 1)) (pe_op op_mul pe_int (pv 4))) pa_nil))))
    (pss_one (ps_if (pt_cmpR op_gt (pe_op op_mod (pe_op op_add (pe_op op_add (pe_op op_fdiv (pv 5) pe_int) (pv 1)) (pv 4)) (pe_op op_add pe_int (pe_op op_mul pe_int (pe_callTy call_int1 (by rfl) z.int (by decide +kernel) (pa_cons (pe_cmpR op_gt (pv 4) pe_int (nomark _)) pa_nil))))) pe_int (nomark _)) (pss_one (ps_dput (hu_of hr) (pv 3) (pe_call G_nameBy (hr.mono (by omega)) (by rfl) d_nameBy.m d_nameBy.k d_nameBy.b .nil pass0 (pa_cons (pv 2) (pa_cons (pv 4) pa_nil))) (pe_call G_numBy (hr.mono (by omega)) (by rfl) d_numBy.m d_numBy.k d_numBy.b .nil pass0 (pa_cons (pe_op op_add (pe_op op_add (pe_op op_fdiv (pv 5) pe_int) (pe_op op_mul pe_int (pv 1))) (pe_op op_mul pe_int (pv 4))) pa_nil)) rfl)) pss_nil))))
    (pss_one (ps_ret (pv 3)))))), ?_⟩
  refine ⟨_, rfl, a, ms, 0, rfl, hS, (by decide), hnn, fun seed hs0 => ?_⟩
  refine fun D hD => ?_
  have g1 := same_new hD (.dK [])
  refine ⟨_, rfl, a, ms, rfl, g1.seq hS, hnn, fun c hc0 hc1 => ?_⟩
  refine ⟨_, rfl, (by omega), (by omega), ?_⟩
  refine for_range (lo := 0) (n := c.toNat) (fun i σ H2 => Same H H2 ∧ ∃ (l : AL) (z3 z4 : Option V), H2 D = some (.dK (dS l)) ∧ AOk l ∧ l.length ≤ i ∧ σ = [some (.ref a), some (.int t), some (.int seed), some (.ref D), z3, z4])
    ⟨g1, [], _, _, upd_same, AOk.nil, Nat.le_refl _, rfl⟩ (fun i σ H2 hi hP => ?_) (fun σ H2 hP => ?_)
  · obtain ⟨g2, l, z3, z4, hD2, ok, hl, rfl⟩ := hP
    refine ⟨_, rfl, _, rfl, _, _, rfl, rfl, _, rfl, _, _, rfl, rfl, .inl ⟨by decide, by decide⟩, _, _, rfl, rfl, a, ms, _, rfl, g2.seq hS, (by omega), hnn, fun cell hcell => ?_⟩
    dsimp only [gName]
    refine if_both (fun Q k1 k2 => ?_) ?_ ?_
    · have mp : ∀ k : Bool, (0 : Int) < 7 + 30 * (if k = true then 1 else 0) := by intro k; cases k <;> decide
      exact ⟨_, rfl, _, _, rfl, rfl, ⟨by decide, by decide⟩, _, rfl, _, _, rfl, rfl, _, rfl, _, _, rfl, rfl, _, rfl, _, _, rfl, rfl, .inr ⟨_, rfl, _, _, rfl, rfl, .inl ⟨by decide, by decide⟩, _, _, rfl, rfl, _, _, rfl, rfl, mp _, _, _, rfl, rfl, _, rfl, any_b k1 k2⟩⟩
    · have hq : 0 ≤ cell / 74 := Int.ediv_nonneg hcell (by decide)
      refine ⟨_, rfl, _, _, rfl, rfl, ⟨by decide, by decide⟩, _, rfl, _, _, rfl, rfl, .inl ⟨by decide, by decide⟩, _, _, rfl, rfl, _, rfl, _, _, rfl, rfl, .inl ⟨by decide, by decide⟩, _, _, rfl, rfl, _, rfl, (by omega), fun H3 n g3 hn => ?_⟩
      refine ⟨_, rfl, _, rfl, _, rfl, seed, _, rfl, hs0, (by omega), (by omega), fun H4 nm g4 hnm => ?_⟩
      have hD4 := g4 _ _ (g3 _ _ hD2)
      refine ⟨D, _, rfl, DPut.k (k := Sum.inr nm) hD4 (by rw [dS_len]; exact small1000 (by omega)), same_put (g2.trans (g3.trans g4)) hD, putS l nm n, _, _, ?_, ok.put hnm hn, ?_, rfl⟩
      · rw [upd_same, dS_put]
      · have := putS_len l nm n
        omega
    · exact ⟨g2, l, _, _, hD2, ok, by omega, rfl⟩
  · obtain ⟨g2, l, z3, z4, hD2, ok, hl, rfl⟩ := hP
    exact ⟨_, rfl, q H2 D l g2 hD hD2 ok (by omega)⟩
theorem scIsName : FnScope ["_law_word", "_law_sign"] ["_law_word"] (defScope s_law_is_name) := ⟨rfl, rfl, rfl, by decide +kernel, rfl, by decide +kernel, by decide +kernel⟩
theorem ok_isName (d : Df K mg "_law_is_name" s_law_is_name ["_law_word"] f fd) (z : Bl2 mg) : FnOk P w K mg base CX0 1 f fd ["_law_word"] spIsName := by
  refine d.F.ok scIsName (fun vs H Q E h => ?_) (fun cdv A outer s H vs Q E hr h => ?_)
  · obtain ⟨x, rfl, _⟩ := h
    rfl
  obtain ⟨x, rfl, ⟨hl1, hl2, hlow⟩, q⟩ := h
  refine ⟨_, (pss_cons (ps_if (PW.pt (pw_or (pt_not (pt_val (pe_callB call_isi (by rfl) z.isi (by decide +kernel) (pa_cons (pv 0) (pa_cons (pe_bltn (by rfl) z.str (by decide +kernel) (v := .ty "str") rfl) pa_nil))))) (pw_or1 (pt_not (pt_chain op_le op_le pe_int (pe_callB call_len_str (by rfl) z.len PySem.boot_len (pa_cons (pv 0) pa_nil)) pe_int))))) (pss_one (ps_ret pe_bl)) pss_nil)
    (pss_cons (ps_for PassesOwn.never rfl (pi_str (pv 0)) (pg_name (i := 1) scIsName.nd rfl (.inl rfl)) (pss_one (ps_if (pt_cmpR op_notIn_sign (pv 1) pe_str rfl) (pss_one (ps_ret pe_bl)) pss_nil)))
    (pss_one (ps_ret pe_bl)))), ?_⟩
  refine ⟨_, rfl, .str x, .ty "str", .type "str", .type "str", true, rfl, .ty _, .base (.str x), kit_ty (by decide +kernel), true, rfl, iteF ?_⟩
  refine ⟨_, rfl, x, rfl, sz (by omega), _, _, rfl, rfl, true, congrArg V.bl (decide_eq_true (by omega)), iteT ⟨_, _, rfl, rfl, true, congrArg V.bl (decide_eq_true (by omega)), iteF ?_⟩⟩
  refine ⟨_, rfl, x, rfl, ?_⟩
  refine for_str (x := x) (fun i σ H2 => H2 = H ∧ ∃ zz, σ = [some (.str x), zz]) ⟨rfl, _, rfl⟩ (fun i c σ H2 hc hP => ?_) (fun σ H2 hP => ?_)
  · obtain ⟨rfl, zz, rfl⟩ := hP
    have hm : c ∈ x.cps.toList := by
      obtain ⟨h1, h2⟩ := Array.getElem?_eq_some_iff.mp hc
      rw [← h2]
      exact Array.mem_toList_iff.mpr (Array.getElem_mem h1)
    exact ⟨_, rfl, c, signs, rfl, rfl, false, congrArg V.bl (sign_in (hlow c hm)), iteF ⟨rfl, _, rfl⟩⟩
  · obtain ⟨rfl, zz, rfl⟩ := hP
    exact q
theorem scIsExpr : FnScope ["_law_expr", "_law_rest", "_law_one"] ["_law_expr"] (defScope s_law_is_expr) := ⟨rfl, rfl, rfl, by decide +kernel, rfl, by decide +kernel, by decide +kernel⟩
theorem ok_isExpr (n : Nat) (d_isExpr : Df K mg "_law_is_expr" s_law_is_expr ["_law_expr"] f fd) (z : Bl2 mg) (d_isName : Df K mg "_law_is_name" s_law_is_name ["_law_word"] f1 fd1) (d_whole : Df K mg "_law_whole" sWhole ["_law_found"] f2 fd2) (G_isExpr : FnOk P w K mg base CX0 (n + 1) f fd ["_law_expr"] (spIsExpr n)) :
    FnOk P w K mg base CX0 (n + 2) f fd ["_law_expr"] (spIsExpr (n + 1)) := by
  refine d_isExpr.F.ok scIsExpr (fun vs H Q E h => ?_) (fun cdv A outer s H vs Q E hr h => ?_)
  · obtain ⟨v, e, rfl, _⟩ := h
    rfl
  obtain ⟨v, e, rfl, b, ok, hdp, q⟩ := h
  have G_isName := ok_isName (P := P) (w := w) (base := base) d_isName z
  have G_whole := ok_whole (P := P) (w := w) (base := base) d_whole z.toBl
  refine ⟨_, (pss_cons (ps_if (PW.pt (pw_or (pt_not (pt_val (pe_callB call_isi (by rfl) z.isi (by decide +kernel) (pa_cons (pv 0) (pa_cons (pe_bltn (by rfl) z.tuple (by decide +kernel) (v := .ty "tuple") rfl) pa_nil))))) (pw_or (pt_cmpR op_lt (pe_callB call_len_seq (by rfl) z.len PySem.boot_len (pa_cons (pv 0) pa_nil)) pe_int (nomark _)) (pw_or1 (pt_not (pt_val (pe_callB call_isi (by rfl) z.isi (by decide +kernel) (pa_cons (pe_ix ix_tup (pv 0) pe_int (fun _ _ => rfl)) (pa_cons (pe_bltn (by rfl) z.str (by decide +kernel) (v := .ty "str") rfl) pa_nil))))))))) (pss_one (ps_ret pe_bl)) pss_nil)
    (pss_cons (ps_if (pt_cmpR op_eq (pe_ix ix_tup (pv 0) pe_int (fun _ _ => rfl)) pe_str (nomark _)) (pss_one (ps_ret (pe_and (pe_cmpR op_eq (pe_callB call_len_seq (by rfl) z.len PySem.boot_len (pa_cons (pv 0) pa_nil)) pe_int (nomark _)) (pe_and (pe_call G_whole (hr.mono (by omega)) (by rfl) d_whole.m d_whole.k d_whole.b .nil pass0 (pa_cons (pe_ix ix_tup (pv 0) pe_int (fun _ _ => rfl)) pa_nil)) (pe_one (pe_chain op_le op_le (pe_un un_neg pe_int) (pe_ix ix_tup (pv 0) pe_int (fun _ _ => rfl)) pe_int)))))) pss_nil)
    (pss_cons (ps_if (pt_cmpR op_eq (pe_ix ix_tup (pv 0) pe_int (fun _ _ => rfl)) pe_str (nomark _)) (pss_one (ps_ret (pe_and (pe_cmpR op_eq (pe_callB call_len_seq (by rfl) z.len PySem.boot_len (pa_cons (pv 0) pa_nil)) pe_int (nomark _)) (pe_one (pe_call G_isName (hr.mono (by omega)) (by rfl) d_isName.m d_isName.k d_isName.b .nil pass0 (pa_cons (pe_ix ix_tup (pv 0) pe_int (fun _ _ => rfl)) pa_nil)))))) pss_nil)
    (pss_cons (ps_set (i := 1) scIsExpr.nd rfl (.inl rfl) (pe_callTy call_list_of (by rfl) z.list (by decide +kernel) (pa_cons (pe_slice sl_tup (pv 0) (po_some pe_int) po_none) pa_nil)))
    (pss_cons (ps_if (pt_cmpR op_eq (pe_ix ix_tup (pv 0) pe_int (fun _ _ => rfl)) pe_str (nomark _)) (pss_cons (ps_if (PW.pt (pw_or (pt_cmpR op_ne (pe_callB call_len_seq (by rfl) z.len PySem.boot_len (pa_cons (pv 0) pa_nil)) pe_int (nomark _)) (pw_or1 (pt_not (pt_val (pe_call G_isName (hr.mono (by omega)) (by rfl) d_isName.m d_isName.k d_isName.b .nil pass0 (pa_cons (pe_ix ix_tup (pv 0) pe_int (fun _ _ => rfl)) pa_nil))))))) (pss_one (ps_ret pe_bl)) pss_nil)
    (pss_one (ps_set (i := 1) scIsExpr.nd rfl (.inl rfl) (pe_callTy call_list_of (by rfl) z.list (by decide +kernel) (pa_cons (pe_slice sl_tup (pv 0) (po_some pe_int) po_none) pa_nil))))) (pss_one (ps_if (pt_cmpR op_eq (pe_ix ix_tup (pv 0) pe_int (fun _ _ => rfl)) pe_str (nomark _)) (pss_one (ps_if (pt_cmpR op_ne (pe_callB call_len_seq (by rfl) z.len PySem.boot_len (pa_cons (pv 0) pa_nil)) pe_int (nomark _)) (pss_one (ps_ret pe_bl)) pss_nil)) (pss_one (ps_if (PW.pt (pw_or (pt_cmpR op_notIn_seq (pe_ix ix_tup (pv 0) pe_int (fun _ _ => rfl)) (pe_lst (pa_cons pe_str (pa_cons pe_str (pa_cons pe_str (pa_cons pe_str (pa_cons pe_str (pa_cons pe_str (pa_cons pe_str pa_nil)))))))) rfl) (pw_or1 (pt_cmpR op_ne (pe_callB call_len_seq (by rfl) z.len PySem.boot_len (pa_cons (pv 0) pa_nil)) pe_int (nomark _))))) (pss_one (ps_ret pe_bl)) pss_nil)))))
    (pss_cons (ps_for PassesOwn.never rfl (pi_list (pv 1)) (pg_name (i := 2) scIsExpr.nd rfl (.inl rfl)) (pss_one (ps_if (pt_not (pt_val (pe_call G_isExpr (hr.mono (by omega)) (by rfl) d_isExpr.m d_isExpr.k d_isExpr.b .nil pass0 (pa_cons (pv 2) pa_nil)))) (pss_one (ps_ret pe_bl)) pss_nil)))
    (pss_one (ps_ret pe_bl)))))))), ?_⟩
  have hkid : ∀ x ∈ e.kids, x.ok ∧ x.deep ≤ n := fun x hx => ⟨Ex.ok_kids ok hx, by have := Ex.deep_kids hx; omega⟩
  cases b with
  | @num a k h =>
    refine ⟨_, rfl, .ref a, .ty "tuple", .type "tuple", .type "tuple", true, rfl, .ty _, .base (.tup h), kit_ty (by decide +kernel), true, rfl, iteF ?_⟩
    refine ⟨_, rfl, a, _, rfl, .inr (.inl (.inl h)), _, _, rfl, rfl, _, rfl, iteF ?_⟩
    refine ⟨_, rfl, a, _, 0, _, rfl, rfl, .inl (.inl h), rfl, .str "num", .ty "str", .type "str", .type "str", true, rfl, .ty _, .base (.str _), kit_ty (by decide +kernel), true, rfl, iteF ?_⟩
    refine ⟨_, rfl, a, _, 0, _, rfl, rfl, .inl (.inl h), rfl, rfl, _, rfl, iteT ?_⟩
    refine ⟨_, rfl, a, _, rfl, .inr (.inl (.inl h)), rfl, _, rfl, iteT ?_⟩
    refine ⟨_, rfl, a, _, 1, _, rfl, rfl, .inl (.inl h), rfl, k, rfl, true, rfl, iteT ?_⟩
    have o1 : -1000000000 ≤ k ∧ k ≤ 1000000000 := ok
    refine ⟨_, rfl, _, rfl, a, _, 1, _, rfl, rfl, .inl (.inl h), rfl, _, _, rfl, rfl, true, congrArg V.bl (decide_eq_true o1.1), iteT ⟨_, _, rfl, rfl, ?_⟩⟩
    show Q (.bl (decide (k ≤ 1000000000))) H
    rw [decide_eq_true o1.2]
    exact q _ (Same.refl _)
  | @nam a x h =>
    refine ⟨_, rfl, .ref a, .ty "tuple", .type "tuple", .type "tuple", true, rfl, .ty _, .base (.tup h), kit_ty (by decide +kernel), true, rfl, iteF ?_⟩
    refine ⟨_, rfl, a, _, rfl, .inr (.inl (.inl h)), _, _, rfl, rfl, _, rfl, iteF ?_⟩
    refine ⟨_, rfl, a, _, 0, _, rfl, rfl, .inl (.inl h), rfl, .str "name", .ty "str", .type "str", .type "str", true, rfl, .ty _, .base (.str _), kit_ty (by decide +kernel), true, rfl, iteF ?_⟩
    refine ⟨_, rfl, a, _, 0, _, rfl, rfl, .inl (.inl h), rfl, rfl, _, rfl, iteF ?_⟩
    refine ⟨_, rfl, a, _, 0, _, rfl, rfl, .inl (.inl h), rfl, rfl, _, rfl, iteT ?_⟩
    refine ⟨_, rfl, a, _, rfl, .inr (.inl (.inl h)), rfl, _, rfl, iteT ?_⟩
    exact ⟨_, rfl, a, _, 1, _, rfl, rfl, .inl (.inl h), rfl, x, rfl, ok, q _ (Same.refl _)⟩
  | @two a o v1 v2 e1 e2 h b1 b2 =>
    refine ⟨_, rfl, .ref a, .ty "tuple", .type "tuple", .type "tuple", true, rfl, .ty _, .base (.tup h), kit_ty (by decide +kernel), true, rfl, iteF ?_⟩
    refine ⟨_, rfl, a, _, rfl, .inr (.inl (.inl h)), _, _, rfl, rfl, _, rfl, iteF ?_⟩
    refine ⟨_, rfl, a, _, 0, _, rfl, rfl, .inl (.inl h), rfl, .str o.str, .ty "str", .type "str", .type "str", true, rfl, .ty _, .base (.str _), kit_ty (by decide +kernel), true, rfl, iteF ?_⟩
    refine ⟨_, rfl, a, _, 0, _, rfl, rfl, .inl (.inl h), rfl, rfl, false, congrArg V.bl (op_num o), iteF ?_⟩
    refine ⟨_, rfl, a, _, 0, _, rfl, rfl, .inl (.inl h), rfl, rfl, false, congrArg V.bl (op_name o), iteF ?_⟩
    refine ⟨_, rfl, _, rfl, a, _, rfl, .inl (.inl h), (by intro z; cases z.1), fun p hp => ?_⟩
    have g1 := same_new hp (.tup [v1, v2])
    refine ⟨p, [v1, v2], rfl, .inr (.inl (.inl upd_same)), fun l hl => ?_⟩
    have g2 := g1.trans (same_new hl (.lst [v1, v2]))
    refine ⟨_, rfl, a, _, 0, _, rfl, rfl, .inl (.inl (g2 _ _ h)), rfl, rfl, false, congrArg V.bl (op_let o), iteF ?_⟩
    refine ⟨_, rfl, a, _, 0, _, rfl, rfl, .inl (.inl (g2 _ _ h)), rfl, rfl, false, congrArg V.bl (op_when o), iteF ?_⟩
    refine ⟨_, rfl, a, _, 0, _, rfl, rfl, .inl (.inl (g2 _ _ h)), rfl, (by show 7 ≤ sizeLine; decide), fun l2 hl2 => ?_⟩
    have g3 := g2.trans (same_new hl2 (.lst [.str "sum", .str "less", .str "times", .str "part", .str "rest", .str "below", .str "same"]))
    refine ⟨l2, _, rfl, .inl (.inl (.inl upd_same)), rfl, rfl, false, congrArg V.bl (op_notin7 o), iteF ?_⟩
    refine ⟨_, rfl, a, _, rfl, .inr (.inl (.inl (g3 _ _ h))), rfl, _, rfl, iteF ?_⟩
    exact kids_loop (es := [e1, e2]) rfl (same_new hl2 _ _ _ upd_same) (.cons (b1.mono (Tups.of g3)) (.cons (b2.mono (Tups.of g3)) .nil)) hkid rfl fun H' g4 => q H' (g3.trans g4)
  | @whn a v0 v1 v2 e0 e1 e2 h b0 b1 b2 =>
    refine ⟨_, rfl, .ref a, .ty "tuple", .type "tuple", .type "tuple", true, rfl, .ty _, .base (.tup h), kit_ty (by decide +kernel), true, rfl, iteF ?_⟩
    refine ⟨_, rfl, a, _, rfl, .inr (.inl (.inl h)), _, _, rfl, rfl, _, rfl, iteF ?_⟩
    refine ⟨_, rfl, a, _, 0, _, rfl, rfl, .inl (.inl h), rfl, .str "when", .ty "str", .type "str", .type "str", true, rfl, .ty _, .base (.str _), kit_ty (by decide +kernel), true, rfl, iteF ?_⟩
    refine ⟨_, rfl, a, _, 0, _, rfl, rfl, .inl (.inl h), rfl, rfl, _, rfl, iteF ?_⟩
    refine ⟨_, rfl, a, _, 0, _, rfl, rfl, .inl (.inl h), rfl, rfl, _, rfl, iteF ?_⟩
    refine ⟨_, rfl, _, rfl, a, _, rfl, .inl (.inl h), (by intro z; cases z.1), fun p hp => ?_⟩
    have g1 := same_new hp (.tup [v0, v1, v2])
    refine ⟨p, [v0, v1, v2], rfl, .inr (.inl (.inl upd_same)), fun l hl => ?_⟩
    have g2 := g1.trans (same_new hl (.lst [v0, v1, v2]))
    refine ⟨_, rfl, a, _, 0, _, rfl, rfl, .inl (.inl (g2 _ _ h)), rfl, rfl, _, rfl, iteF ?_⟩
    refine ⟨_, rfl, a, _, 0, _, rfl, rfl, .inl (.inl (g2 _ _ h)), rfl, rfl, _, rfl, iteT ?_⟩
    refine ⟨_, rfl, a, _, rfl, .inr (.inl (.inl (g2 _ _ h))), rfl, _, rfl, iteF ?_⟩
    exact kids_loop (es := [e0, e1, e2]) rfl upd_same (.cons (b0.mono (Tups.of g2)) (.cons (b1.mono (Tups.of g2)) (.cons (b2.mono (Tups.of g2)) .nil))) hkid rfl fun H' g4 => q H' (g2.trans g4)
  | @lett a x v1 v2 e1 e2 h b1 b2 =>
    refine ⟨_, rfl, .ref a, .ty "tuple", .type "tuple", .type "tuple", true, rfl, .ty _, .base (.tup h), kit_ty (by decide +kernel), true, rfl, iteF ?_⟩
    refine ⟨_, rfl, a, _, rfl, .inr (.inl (.inl h)), _, _, rfl, rfl, _, rfl, iteF ?_⟩
    refine ⟨_, rfl, a, _, 0, _, rfl, rfl, .inl (.inl h), rfl, .str "let", .ty "str", .type "str", .type "str", true, rfl, .ty _, .base (.str _), kit_ty (by decide +kernel), true, rfl, iteF ?_⟩
    refine ⟨_, rfl, a, _, 0, _, rfl, rfl, .inl (.inl h), rfl, rfl, _, rfl, iteF ?_⟩
    refine ⟨_, rfl, a, _, 0, _, rfl, rfl, .inl (.inl h), rfl, rfl, _, rfl, iteF ?_⟩
    refine ⟨_, rfl, _, rfl, a, _, rfl, .inl (.inl h), (by intro z; cases z.1), fun p hp => ?_⟩
    have g1 := same_new hp (.tup [.str x, v1, v2])
    refine ⟨p, [.str x, v1, v2], rfl, .inr (.inl (.inl upd_same)), fun l hl => ?_⟩
    have g2 := g1.trans (same_new hl (.lst [.str x, v1, v2]))
    refine ⟨_, rfl, a, _, 0, _, rfl, rfl, .inl (.inl (g2 _ _ h)), rfl, rfl, _, rfl, iteT ?_⟩
    refine ⟨_, rfl, a, _, rfl, .inr (.inl (.inl (g2 _ _ h))), rfl, _, rfl, iteF ?_⟩
    refine ⟨_, rfl, a, _, 1, _, rfl, rfl, .inl (.inl (g2 _ _ h)), rfl, x, rfl, ok.1, true, rfl, iteF ?_⟩
    refine ⟨_, rfl, _, rfl, a, _, rfl, .inl (.inl (g2 _ _ h)), (by intro z; cases z.1), fun p2 hp2 => ?_⟩
    have g3 := g2.trans (same_new hp2 (.tup [v1, v2]))
    refine ⟨p2, [v1, v2], rfl, .inr (.inl (.inl upd_same)), fun l2 hl2 => ?_⟩
    have g4 := g3.trans (same_new hl2 (.lst [v1, v2]))
    exact kids_loop (es := [e1, e2]) rfl upd_same (.cons (b1.mono (Tups.of g4)) (.cons (b2.mono (Tups.of g4)) .nil)) hkid rfl fun H' g5 => q H' (g4.trans g5)
theorem all_isExpr (d : Df K mg "_law_is_expr" s_law_is_expr ["_law_expr"] f fd) (z : Bl2 mg) (d1 : Df K mg "_law_is_name" s_law_is_name ["_law_word"] f1 fd1) (d2 : Df K mg "_law_whole" sWhole ["_law_found"] f2 fd2) : ∀ n, FnOk P w K mg base CX0 (n + 1) f fd ["_law_expr"] (spIsExpr n)
  | 0 => spIsExpr0.mono (Nat.zero_le _)
  | n + 1 => ok_isExpr n d z d1 d2 (all_isExpr d z d1 d2 n)
end
end FC
namespace FC
open PySem L2 StX PyProof.Rows
section
variable {P : Program} {w : World} {K : PySem.W.Frag} {mg : Str → Option Value} {base : Heap} {t1 t2 : Tok} {f g f1 f2 f3 f4 f5 f6 f7 f8 f9 : Addr} {fd gd fd1 fd2 fd3 fd4 fd5 fd6 fd7 fd8 fd9 : FuncData}
/-! ### the program's chosen -/
theorem spChosen0 : FnOk P w K mg base CX0 0 f fd ["cond", "one", "two"] (spLChoose 0) := by
  have no : ∀ vs H Q E, ¬ spLChoose 0 vs H Q E := fun vs H Q E h => by
    obtain ⟨_, _, _, c, _, _, _, _, _, _, _, _, _, h1, _⟩ := h
    have := c.deep_pos
    omega
  exact ⟨fun vs H Q E h => absurd h (no vs H Q E), fun A outer s H args us vs Q E _ _ _ _ h => absurd h (no vs H Q E)⟩
theorem sc_chosen : FnScope ["cond", "one", "two"] ["cond", "one", "two"] (defScope s_chosen) := ⟨rfl, rfl, rfl, by decide +kernel, rfl, by decide +kernel, by decide +kernel⟩
theorem ok_chosen (n : Nat) (d_chosen : Df K mg "chosen" s_chosen ["cond", "one", "two"] f fd) (G_chosen : FnOk P w K mg base CX0 n f fd ["cond", "one", "two"] (spLChoose n)) :
    FnOk P w K mg base CX0 (n + 1) f fd ["cond", "one", "two"] (spLChoose (n + 1)) := by
  refine d_chosen.F.ok sc_chosen (fun vs H Q E h => ?_) (fun cdv A outer s H vs Q E hr h => ?_)
  · obtain ⟨vc, va, vb, c, a, b, rfl, _⟩ := h
    rfl
  obtain ⟨vc, va, vb, c, a, b, rfl, bc, ba, bb, oc, oa, ob, hdp, q⟩ := h
  refine ⟨_, (pss_cons (ps_if (pt_cmpR op_eq (pe_ix ix_tup (pv 0) pe_int (fun _ _ => rfl)) pe_str (nomark _)) (pss_one (ps_ret (pe_ifExp (pt_cmpR op_eq (pe_ix ix_tup (pv 0) pe_int (fun _ _ => rfl)) pe_int (nomark _)) (pv 2) (pv 1)))) pss_nil)
    (pss_cons (ps_if (PW.pt (pw_and (pt_cmpR op_eq (pe_ix ix_tup (pv 0) pe_int (fun _ _ => rfl)) pe_str (nomark _)) (pw_and1 (pt_cmpR (op_eqX hr.x) (pe_ix ix_tup (pv 0) pe_int (fun _ _ => rfl)) (pe_tup (pa_cons pe_str (pa_cons pe_int pa_nil))) (nomark _))))) (pss_one (ps_ret (pe_call G_chosen (hr.mono (by omega)) (by rfl) d_chosen.m d_chosen.k d_chosen.b .nil pass0 (pa_cons (pe_ix ix_tup (pv 0) pe_int (fun _ _ => rfl)) (pa_cons (pv 2) (pa_cons (pv 1) pa_nil)))))) pss_nil)
    (pss_one (ps_ret (pe_tup (pa_cons pe_str (pa_cons (pv 0) (pa_cons (pv 1) (pa_cons (pv 2) pa_nil))))))))), ?_⟩
  have other : ∀ ac : Addr, vc = .ref ac → (∀ d, c ≠ .two .same d (.num 0)) → (∀ m, c ≠ .num m) → ∀ p H1, Same H H1 → H1 p = none → Q (.ref p) (upd H1 p (.tup [.str "when", vc, va, vb])) := fun ac _ h1 h2 p H1 g1 hp => by
    have g2 := g1.trans (same_new hp (.tup [.str "when", vc, va, vb]))
    refine q _ _ g2 ?_
    rw [choose.eq_3 _ _ _ (fun m z => h2 m z) (fun d z => h1 d z)]
    exact .whn upd_same (bc.mono (Tups.of g2)) (ba.mono (Tups.of g2)) (bb.mono (Tups.of g2))
  cases bc with
  | @num ac k h =>
    refine ⟨_, rfl, ac, _, 0, _, rfl, rfl, .inl (.inl h), rfl, rfl, _, rfl, iteT ?_⟩
    by_cases hk : k = 0
    · refine ⟨_, rfl, ac, _, 1, _, rfl, rfl, .inl (.inl h), rfl, rfl, true, congrArg V.bl (by rw [hk]; rfl), iteT ⟨_, rfl, q _ _ (Same.refl _) ?_⟩⟩
      rw [show choose (.num k) a b = b from if_neg (fun z => z hk)]
      exact bb
    · refine ⟨_, rfl, ac, _, 1, _, rfl, rfl, .inl (.inl h), rfl, rfl, false, congrArg V.bl (decide_eq_false (fun z => hk (by injection z))), iteF ⟨_, rfl, q _ _ (Same.refl _) ?_⟩⟩
      rw [show choose (.num k) a b = a from if_pos hk]
      exact ba
  | @nam ac x h =>
    refine ⟨_, rfl, ac, _, 0, _, rfl, rfl, .inl (.inl h), rfl, rfl, _, rfl, iteF ?_⟩
    refine ⟨_, rfl, ac, _, 0, _, rfl, rfl, .inl (.inl h), rfl, rfl, _, rfl, iteF ?_⟩
    exact ⟨_, rfl, _, rfl, _, rfl, (by show 4 ≤ sizeLine; decide), fun p hp => other ac rfl (fun _ z => nomatch z) (fun _ z => nomatch z) p H (Same.refl _) hp⟩
  | @two ac o v1 v2 e1 e2 h b1 b2 =>
    have hdd : (Ex.two o e1 e2).deep = max e1.deep e2.deep + 1 := rfl
    refine ⟨_, rfl, ac, _, 0, _, rfl, rfl, .inl (.inl h), rfl, rfl, false, congrArg V.bl (op_num o), iteF ?_⟩
    by_cases ho : o = .same
    · subst ho
      refine ⟨_, rfl, ac, _, 0, _, rfl, rfl, .inl (.inl h), rfl, rfl, _, rfl, iteT ?_⟩
      refine ⟨_, rfl, ac, _, 2, v2, rfl, rfl, .inl (.inl h), rfl, (by show 2 ≤ sizeLine; decide), fun t ht => ?_⟩
      have g1 := same_new ht (.tup [.str "num", .int 0])
      refine ⟨e2, .num 0, b2.mono (Tups.of g1), .num upd_same, oc.2, (show NumOk 0 by decide), (by show min e2.deep 1 ≤ 199; omega), ?_⟩
      by_cases h0 : e2 = .num 0
      · refine ⟨true, congrArg V.bl (decide_eq_true h0), iteT ?_⟩
        subst h0
        refine ⟨_, rfl, ac, _, 1, v1, rfl, rfl, .inl (.inl (g1 _ _ h)), rfl, _, rfl, _, rfl, v1, vb, va, e1, b, a, rfl, b1.mono (Tups.of g1), bb.mono (Tups.of g1), ba.mono (Tups.of g1), oc.1, ob, oa, by omega, fun H2 v g2 bv => q H2 v (g1.trans g2) bv⟩
      · refine ⟨false, congrArg V.bl (decide_eq_false h0), iteF ?_⟩
        exact ⟨_, rfl, _, rfl, _, rfl, (by show 4 ≤ sizeLine; decide), fun p hp => other ac rfl (fun d z => h0 (by cases z; rfl)) (fun _ z => nomatch z) p _ g1 hp⟩
    · have e : decide (V.str o.str = V.str "same") = false := decide_eq_false fun z => ho (op_inj (p := .same) (by injection z))
      refine ⟨_, rfl, ac, _, 0, _, rfl, rfl, .inl (.inl h), rfl, rfl, false, congrArg V.bl e, iteF ?_⟩
      exact ⟨_, rfl, _, rfl, _, rfl, (by show 4 ≤ sizeLine; decide), fun p hp => other ac rfl (fun d z => ho (by cases z; rfl)) (fun _ z => nomatch z) p H (Same.refl _) hp⟩
  | @whn ac v0 v1 v2 e0 e1 e2 h b0 b1 b2 =>
    refine ⟨_, rfl, ac, _, 0, _, rfl, rfl, .inl (.inl h), rfl, rfl, _, rfl, iteF ?_⟩
    refine ⟨_, rfl, ac, _, 0, _, rfl, rfl, .inl (.inl h), rfl, rfl, _, rfl, iteF ?_⟩
    exact ⟨_, rfl, _, rfl, _, rfl, (by show 4 ≤ sizeLine; decide), fun p hp => other ac rfl (fun _ z => nomatch z) (fun _ z => nomatch z) p H (Same.refl _) hp⟩
  | @lett ac x v1 v2 e1 e2 h b1 b2 =>
    refine ⟨_, rfl, ac, _, 0, _, rfl, rfl, .inl (.inl h), rfl, rfl, _, rfl, iteF ?_⟩
    refine ⟨_, rfl, ac, _, 0, _, rfl, rfl, .inl (.inl h), rfl, rfl, _, rfl, iteF ?_⟩
    exact ⟨_, rfl, _, rfl, _, rfl, (by show 4 ≤ sizeLine; decide), fun p hp => other ac rfl (fun _ z => nomatch z) (fun _ z => nomatch z) p H (Same.refl _) hp⟩
theorem all_chosen (d : Df K mg "chosen" s_chosen ["cond", "one", "two"] f fd) : ∀ n, FnOk P w K mg base CX0 n f fd ["cond", "one", "two"] (spLChoose n)
  | 0 => spChosen0
  | n + 1 => ok_chosen n d (all_chosen d n)
end
end FC
namespace FC
open PySem L2 StX PyProof.Rows
section
variable {P : Program} {w : World} {K : PySem.W.Frag} {mg : Str → Option Value} {base : Heap} {t1 t2 : Tok} {ea B T F f g f1 f2 f3 f4 f5 f6 f7 f8 f9 fc fl ff : Addr} {fd gd fd1 fd2 fd3 fd4 fd5 fd6 fd7 fd8 fd9 fdc fdl fdf : FuncData}
/-! ### the program's folded -/
theorem sc_folded_let : FnScope ["expr", "known", "_", "own", "outer", "inner", "first", "others", "name"] ["expr", "known"] (defScope s_folded_let) := ⟨rfl, rfl, rfl, by decide +kernel, rfl, by decide +kernel, by decide +kernel⟩
theorem ok_folded_let (n : Nat) (d : Df K mg "_folded_let" s_folded_let ["expr", "known"] f fd) (d_folded : Df K mg "folded" s_folded ["expr", "known"] f1 fd1) (G_folded : FnOk P w K mg base CX0 (3 * n + 1) f1 fd1 ["expr", "known"] (spFold n)) :
    FnOk P w K mg base CX0 (3 * n + 2) f fd ["expr", "known"] (spFoldLet n) := by
  refine d.F.ok sc_folded_let (fun vs H Q E h => ?_) (fun cdv A outer s H vs Q E hr h => ?_)
  · obtain ⟨v, x, e1, e2, d, l, rfl, _⟩ := h
    rfl
  obtain ⟨v, x, e1, e2, d, l, rfl, b, ok, hdp, hd, hA, hlen, q⟩ := h
  refine ⟨_, (pss_cons (ps_asg (pv 0) (pg_tup rfl (pgs_cons (pg_name (i := 2) sc_folded_let.nd rfl (.inl rfl)) (pgs_cons (pg_name (i := 3) sc_folded_let.nd rfl (.inr rfl)) (pgs_cons (pg_name (i := 4) sc_folded_let.nd rfl (.inl rfl)) (pgs_cons (pg_name (i := 5) sc_folded_let.nd rfl (.inl rfl)) pgs_nil))))))
    (pss_cons (ps_set (i := 6) sc_folded_let.nd rfl (.inl rfl) (pe_call G_folded (hr.mono (by omega)) (by rfl) d_folded.m d_folded.k d_folded.b .nil pass0 (pa_cons (pv 4) (pa_cons (pv 1) pa_nil))))
    (pss_cons (ps_if (pt_cmpR op_eq (pe_ix ix_tup (pv 6) pe_int (fun _ _ => rfl)) pe_str (nomark _)) (pss_one (ps_ret (pe_call G_folded (hr.mono (by omega)) (by rfl) d_folded.m d_folded.k d_folded.b .nil pass0 (pa_cons (pv 5) (pa_cons (pe_star (pv 1) (pv 3) (pe_ix ix_tup (pv 6) pe_int (fun _ _ => rfl))) pa_nil))))) pss_nil)
    (pss_cons (ps_lock (ps_setDc (i := 7) (own := [("name", 8)]) (g := gName 8) rfl sc_folded_let.nd rfl rfl (sw_trueD rfl rfl rfl (by decide +kernel)) (pi_keys (pv 1)) (blkOk_by (own := [("name", 8)]) (N := ["expr", "known", "_", "own", "outer", "inner", "first", "others", "name"]) (sc := defScope s_folded_let) (by decide +kernel)) (fun _ _ _ _ _ => pg_name (i := 8) sc_folded_let.nd rfl (Or.inl rfl)) (fun _ _ _ _ _ => pts_one (pt_cmpR op_ne (pv 8) (pv 3) (nomark _))) (fun _ _ _ _ _ => (pv 8)) (fun _ _ _ _ _ => (pe_dget (hu_of hr) (pv 1) (pv 8) (fun _ _ => rfl)))))
    (pss_one (ps_ret (pe_tup (pa_cons pe_str (pa_cons (pv 3) (pa_cons (pv 6) (pa_cons (pe_call G_folded (hr.mono (by omega)) (by rfl) d_folded.m d_folded.k d_folded.b .nil pass0 (pa_cons (pv 5) (pa_cons (pv 7) pa_nil))) pa_nil))))))))))), ?_⟩
  have hdd : (Ex.lett x e1 e2).deep = max e1.deep e2.deep + 1 := rfl
  cases b with
  | @lett a _ v1 v2 _ _ h b1 b2 =>
  refine ⟨_, rfl, a, _, rfl, .inl (.inl h), rfl, _, _, rfl, _, _, rfl, _, _, rfl, _, _, rfl, rfl, ?_⟩
  refine ⟨_, rfl, _, rfl, v1, e1, d, l, rfl, b1, ok.2.1, by omega, hd, hA, by omega, fun H1 r1 g1 br1 => ?_⟩
  obtain ⟨ar, xr, rfl, har⟩ := br1.first
  have hd1 := g1 _ _ hd
  have b21 := b2.mono (Tups.of g1)
  have o1 := fold_ok e1 (stg l) ok.2.1 hA.stg
  rcases isnum (fold e1 (stg l)) with ⟨m, hm⟩ | hn
  · have q' := q
    rw [fold_lett_num hm] at q'
    rw [hm] at br1 o1
    cases br1 with
    | num hr1 =>
    refine ⟨_, rfl, ar, _, 0, _, rfl, rfl, .inl (.inl hr1), rfl, rfl, _, rfl, iteT ?_⟩
    refine ⟨_, rfl, fun p hp => ⟨_, rfl, ?_⟩⟩
    have g2 := same_new hp (.dK [])
    have ndp : d ≠ p := ne_of_none hd1 hp
    have hz : (dS l).length < sizeLine := by rw [dS_len]; exact small1000 (by omega)
    refine ⟨d, dS l, rfl, ndp, g2 _ _ hd1, upd_same, hz, ?_⟩
    rw [merge_nil hA]
    intro q1 hq1
    have g3 : Same H1 (upd (upd H1 p (.dK [])) p (.dK (dS l))) := same_put g2 hp
    have g4 := same_new hq1 (.dK [])
    have hpq : p ≠ q1 := fun zz => by rw [← zz, upd_same] at hq1; cases hq1
    have hr2 := (g3.trans g4) _ _ hr1
    refine ⟨_, rfl, _, rfl, ar, _, 1, _, rfl, rfl, .inl (.inl hr2), rfl, Sum.inr x, rfl, by rw [upd_ne hpq]; exact upd_same, upd_same, ?_⟩
    rw [dS_put]
    have g5 : Same H1 (upd (upd (upd (upd (upd H1 p (.dK [])) p (.dK (dS l))) q1 (.dK [])) q1 (.dK [(Sum.inr x, V.int m)])) p (.dK (dS (putS l x m)))) := same_put (same_put (g3.trans g4) (by
      have : (upd (upd H1 p (.dK [])) p (.dK (dS l))) q1 = none := hq1
      rw [upd_ne (Ne.symm hpq), upd_ne (Ne.symm hpq)] at this
      exact this)) hp
    have hl9 := putS_len l x m
    have hp5 : (upd (upd (upd (upd (upd H1 p (.dK [])) p (.dK (dS l))) q1 (.dK [])) q1 (.dK [(Sum.inr x, V.int m)])) p (.dK (dS (putS l x m)))) p = some (.dK (dS (putS l x m))) := upd_same
    generalize upd (upd (upd (upd (upd H1 p (.dK [])) p (.dK (dS l))) q1 (.dK [])) q1 (.dK [(Sum.inr x, V.int m)])) p (.dK (dS (putS l x m))) = H5 at g5 hp5 ⊢
    refine ⟨v2, e2, p, putS l x m, rfl, b21.mono (Tups.of g5), ok.2.2, by omega, hp5, hA.put ok.1 o1, by omega, fun H6 r g6 b6 => q' H6 r (g1.trans (g5.trans g6)) ?_⟩
    rw [stg_put] at b6
    exact b6
  · have q' := q
    rw [fold_lett_not hn] at q'
    refine ⟨_, rfl, ar, _, 0, _, rfl, rfl, .inl (.inl har), at_of (j := 0) rfl rfl, rfl, false, congrArg V.bl (word_nn hn), iteF ?_⟩
    refine ⟨d, .dK (dS l), hd1, trivial, fun od => ?_⟩
    refine ⟨_, rfl, d, od, rfl, .inl ⟨dS l, upd_same, fun c hc => ?_⟩⟩
    have ncd : c ≠ d := fun zz => by rw [zz, upd_same] at hc; cases hc
    have hc1 : H1 c = none := by rw [upd_ne ncd] at hc; exact hc
    refine dc_keys (fun i H2 => H2 d = some (.frz od (.dK (dS l))) ∧ (∀ b u, b ≠ d → H1 b = some u → H2 b = some u) ∧ H2 c = some (.dK (dS (delS (l.take i) x)))) ⟨by rw [upd_ne (Ne.symm ncd)]; exact upd_same, fun b u hb hu => ?_, upd_same⟩ (fun i H2 _ hP => hP.1) (fun i k u H2 hk hP => ?_) (fun H2 hP => ?_)
    · have hbc : b ≠ c := fun zz => by rw [zz, hc1] at hu; cases hu
      rw [upd_ne hbc, upd_ne hb]
      exact hu
    · obtain ⟨hfz, hst, hcd⟩ := hP
      obtain ⟨p, hp, rfl, rfl⟩ := dS_get hk
      have hil : i < l.length := (List.getElem?_eq_some_iff.mp hp).1
      have step := del_step hA.nd x hp
      have hl9 := delS_len (l.take i) x
      rw [List.length_take] at hl9
      have hval : valV (dS l) (Sum.inr p.1) = some (.int p.2) := by rw [dS_val l p.1, stg_of hA.nd (List.mem_of_getElem? hp)]; rfl
      refine ⟨rfl, ?_⟩
      by_cases hx : p.1 = x
      · refine ⟨_, rfl, _, rfl, rfl, false, congrArg (fun z => V.bl (!z)) (decide_eq_true (by rw [hx]; rfl)), iteF ⟨hfz, hst, ?_⟩⟩
        rw [step, if_pos hx]
        exact hcd
      · refine ⟨_, rfl, _, rfl, rfl, true, congrArg (fun z => V.bl (!z)) (decide_eq_false (fun z => hx (by injection z))), iteT ?_⟩
        refine ⟨_, rfl, _, rfl, _, rfl, d, _, rfl, .inl ⟨dS l, Sum.inr p.1, .inr ⟨od, hfz⟩, rfl, hval.symm⟩, dS (delS (l.take i) x), Sum.inr p.1, rfl, hcd, by rw [dS_len]; exact small1000 (by omega), ?_, fun b u hb hu => ?_, ?_⟩
        · rw [upd_ne (Ne.symm ncd)]
          exact hfz
        · have hbc : b ≠ c := fun zz => by rw [zz, hc1] at hu; cases hu
          rw [upd_ne hbc]
          exact hst b u hb hu
        · rw [upd_same, dS_put, step, if_neg hx]
    · obtain ⟨hfz, hst, hcd⟩ := hP
      rw [dS_len, List.take_length] at hcd
      refine ⟨hfz, ?_⟩
      have g3 : Same H1 (upd H2 d (.dK (dS l))) := fun b u hu => by
        by_cases hb : b = d
        · subst hb
          rw [upd_same]
          rw [hd1] at hu
          exact hu
        · rw [upd_ne hb]
          exact hst b u hb hu
      have hc3 : upd H2 d (.dK (dS l)) c = some (.dK (dS (delS l x))) := by rw [upd_ne ncd]; exact hcd
      generalize upd H2 d (.dK (dS l)) = H3 at g3 hc3 ⊢
      have g13 := g1.trans g3
      have hl9 := delS_len l x
      refine ⟨_, rfl, _, rfl, _, rfl, _, rfl, v2, e2, c, delS l x, rfl, b21.mono (Tups.of g3), ok.2.2, by omega, hc3, hA.del x, by omega, fun H6 r g6 b6 => ⟨(by show 4 ≤ sizeLine; decide), fun p hp => ?_⟩⟩
      have g7 := same_new hp (.tup [.str "let", .str x, .ref ar, r])
      refine q' _ _ (g13.trans (g6.trans g7)) ?_
      rw [stg_del] at b6
      exact .lett upd_same (br1.mono (Tups.of (g3.trans (g6.trans g7)))) (b6.mono (Tups.of g7))
theorem sc_folded : FnScope ["expr", "known", "name", "_", "cond", "one", "two", "word"] ["expr", "known"] (defScope s_folded) := ⟨rfl, rfl, rfl, by decide +kernel, rfl, by decide +kernel, by decide +kernel⟩
theorem ok_folded (n : Nat) (d_folded : Df K mg "folded" s_folded ["expr", "known"] f fd) (G_folded : FnOk P w K mg base CX0 (3 * n + 1) f fd ["expr", "known"] (spFold n)) (d_folded_let : Df K mg "_folded_let" s_folded_let ["expr", "known"] fl fdl)
    (d_chosen : Df K mg "chosen" s_chosen ["cond", "one", "two"] fc fdc) (G_chosen : FnOk P w K mg base CX0 n fc fdc ["cond", "one", "two"] (spLChoose n)) (d_joined : Df K mg "joined" s_joined ["word", "one", "two"] f1 fd1) (G_joined : FnOk P w K mg base CX0 (3 * n + 3) f1 fd1 ["word", "one", "two"] (spPJoin (3 * n + 3))) :
    FnOk P w K mg base CX0 (3 * n + 4) f fd ["expr", "known"] (spFold (n + 1)) := by
  have G_folded_let := ok_folded_let n d_folded_let d_folded G_folded
  refine d_folded.F.ok sc_folded (fun vs H Q E h => ?_) (fun cdv A outer s H vs Q E hr h => ?_)
  · obtain ⟨v, e, d, l, rfl, _⟩ := h
    rfl
  obtain ⟨v, e, d, l, rfl, b, ok, hdp, hd, hA, hlen, q⟩ := h
  refine ⟨_, (pss_cons (ps_if (pt_cmpR op_eq (pe_ix ix_tup (pv 0) pe_int (fun _ _ => rfl)) pe_str (nomark _)) (pss_one (ps_ret (pv 0))) pss_nil)
    (pss_cons (ps_if (pt_cmpR op_eq (pe_ix ix_tup (pv 0) pe_int (fun _ _ => rfl)) pe_str (nomark _)) (pss_cons (ps_set (i := 2) sc_folded.nd rfl (.inl rfl) (pe_ix ix_tup (pv 0) pe_int (fun _ _ => rfl)))
    (pss_one (ps_ret (pe_ifExp (pt_cmp (pc_din (hu_of hr) (pv 2) (pv 1))) (pe_tup (pa_cons pe_str (pa_cons (pe_dget (hu_of hr) (pv 1) (pv 2) (fun _ _ => rfl)) pa_nil))) (pv 0))))) pss_nil)
    (pss_cons (ps_if (pt_cmpR op_eq (pe_ix ix_tup (pv 0) pe_int (fun _ _ => rfl)) pe_str (nomark _)) (pss_cons (ps_asg (pv 0) (pg_tup rfl (pgs_cons (pg_name (i := 3) sc_folded.nd rfl (.inl rfl)) (pgs_cons (pg_name (i := 4) sc_folded.nd rfl (.inl rfl)) (pgs_cons (pg_name (i := 5) sc_folded.nd rfl (.inl rfl)) (pgs_cons (pg_name (i := 6) sc_folded.nd rfl (.inl rfl)) pgs_nil))))))
    (pss_one (ps_ret (pe_call G_chosen (hr.mono (by omega)) (by rfl) d_chosen.m d_chosen.k d_chosen.b .nil pass0 (pa_cons (pe_call G_folded (hr.mono (by omega)) (by rfl) d_folded.m d_folded.k d_folded.b .nil pass0 (pa_cons (pv 4) (pa_cons (pv 1) pa_nil))) (pa_cons (pe_call G_folded (hr.mono (by omega)) (by rfl) d_folded.m d_folded.k d_folded.b .nil pass0 (pa_cons (pv 5) (pa_cons (pv 1) pa_nil))) (pa_cons (pe_call G_folded (hr.mono (by omega)) (by rfl) d_folded.m d_folded.k d_folded.b .nil pass0 (pa_cons (pv 6) (pa_cons (pv 1) pa_nil))) pa_nil))))))) pss_nil)
    (pss_cons (ps_if (pt_cmpR op_eq (pe_ix ix_tup (pv 0) pe_int (fun _ _ => rfl)) pe_str (nomark _)) (pss_one (ps_ret (pe_call G_folded_let (hr.mono (by omega)) (by rfl) d_folded_let.m d_folded_let.k d_folded_let.b .nil pass0 (pa_cons (pv 0) (pa_cons (pv 1) pa_nil))))) pss_nil)
    (pss_cons (ps_asg (pv 0) (pg_tup rfl (pgs_cons (pg_name (i := 7) sc_folded.nd rfl (.inl rfl)) (pgs_cons (pg_name (i := 5) sc_folded.nd rfl (.inl rfl)) (pgs_cons (pg_name (i := 6) sc_folded.nd rfl (.inl rfl)) pgs_nil)))))
    (pss_one (ps_ret (pe_call G_joined (hr.mono (by omega)) (by rfl) d_joined.m d_joined.k d_joined.b .nil pass0 (pa_cons (pv 7) (pa_cons (pe_call G_folded (hr.mono (by omega)) (by rfl) d_folded.m d_folded.k d_folded.b .nil pass0 (pa_cons (pv 5) (pa_cons (pv 1) pa_nil))) (pa_cons (pe_call G_folded (hr.mono (by omega)) (by rfl) d_folded.m d_folded.k d_folded.b .nil pass0 (pa_cons (pv 6) (pa_cons (pv 1) pa_nil))) pa_nil))))))))))), ?_⟩
  have b' := b
  cases b with
  | @num a k h => exact ⟨_, rfl, a, _, 0, _, rfl, rfl, .inl (.inl h), rfl, rfl, _, rfl, iteT ⟨_, rfl, q H _ (Same.refl _) b'⟩⟩
  | @nam a x h =>
    refine ⟨_, rfl, a, _, 0, _, rfl, rfl, .inl (.inl h), rfl, rfl, _, rfl, iteF ?_⟩
    refine ⟨_, rfl, a, _, 0, _, rfl, rfl, .inl (.inl h), rfl, rfl, _, rfl, iteT ?_⟩
    refine ⟨_, rfl, a, _, 1, _, rfl, rfl, .inl (.inl h), rfl, ?_⟩
    have hv := dS_val l x
    have ef : fold (.nam x) (stg l) = match stg l x with | some n => .num n | none => .nam x := by unfold fold; cases stg l x <;> rfl
    refine ⟨_, rfl, _, rfl, d, _, rfl, DGet.k (k := Sum.inr x) hd, _, rfl, ?_⟩
    cases hs : stg l x with
    | none =>
      rw [hs] at hv ef
      rw [hv]
      refine iteF ⟨_, rfl, q H _ (Same.refl _) ?_⟩
      rw [ef]
      exact b'
    | some m =>
      rw [hs] at hv ef
      rw [hv]
      refine iteT ⟨_, rfl, _, rfl, d, _, rfl, by have := DGet.k (k := Sum.inr x) hd; rw [hv] at this; exact this, (by show 2 ≤ sizeLine; decide), fun p hp => q _ _ (same_new hp _) ?_⟩
      rw [ef]
      exact .num upd_same
  | @two a o v1 v2 e1 e2 h b1 b2 =>
    have hdd : (Ex.two o e1 e2).deep = max e1.deep e2.deep + 1 := rfl
    refine ⟨_, rfl, a, _, 0, _, rfl, rfl, .inl (.inl h), rfl, rfl, false, congrArg V.bl (op_num o), iteF ?_⟩
    refine ⟨_, rfl, a, _, 0, _, rfl, rfl, .inl (.inl h), rfl, rfl, false, congrArg V.bl (op_name o), iteF ?_⟩
    refine ⟨_, rfl, a, _, 0, _, rfl, rfl, .inl (.inl h), rfl, rfl, false, congrArg V.bl (op_when o), iteF ?_⟩
    refine ⟨_, rfl, a, _, 0, _, rfl, rfl, .inl (.inl h), rfl, rfl, false, congrArg V.bl (op_let o), iteF ?_⟩
    refine ⟨_, rfl, a, _, rfl, .inl (.inl h), rfl, _, _, rfl, _, _, rfl, _, _, rfl, rfl, ?_⟩
    refine ⟨_, rfl, _, rfl, _, rfl, v1, e1, d, l, rfl, b1, ok.1, by omega, hd, hA, by omega, fun H1 r1 g1 br1 => ?_⟩
    refine ⟨_, rfl, _, rfl, v2, e2, d, l, rfl, b2.mono (Tups.of g1), ok.2, by omega, g1 _ _ hd, hA, by omega, fun H2 r2 g2 br2 => ?_⟩
    have d1 := fold_deep e1 (stg l)
    have d2 := fold_deep e2 (stg l)
    exact ⟨o, r1, r2, _, _, rfl, br1.mono (Tups.of g2), br2, fold_ok e1 _ ok.1 hA.stg, fold_ok e2 _ ok.2 hA.stg, by omega, fun _ => by omega, fun H3 v g3 b3 => q H3 v (g1.trans (g2.trans g3)) b3⟩
  | @whn a v0 v1 v2 e0 e1 e2 h b0 b1 b2 =>
    have hdd : (Ex.whn e0 e1 e2).deep = max (max e0.deep e1.deep) e2.deep + 1 := rfl
    refine ⟨_, rfl, a, _, 0, _, rfl, rfl, .inl (.inl h), rfl, rfl, _, rfl, iteF ?_⟩
    refine ⟨_, rfl, a, _, 0, _, rfl, rfl, .inl (.inl h), rfl, rfl, _, rfl, iteF ?_⟩
    refine ⟨_, rfl, a, _, 0, _, rfl, rfl, .inl (.inl h), rfl, rfl, _, rfl, iteT ?_⟩
    refine ⟨_, rfl, a, _, rfl, .inl (.inl h), rfl, _, _, rfl, _, _, rfl, _, _, rfl, _, _, rfl, rfl, ?_⟩
    refine ⟨_, rfl, _, rfl, v0, e0, d, l, rfl, b0, ok.1, by omega, hd, hA, by omega, fun H1 r0 g1 br0 => ?_⟩
    refine ⟨_, rfl, _, rfl, v1, e1, d, l, rfl, b1.mono (Tups.of g1), ok.2.1, by omega, g1 _ _ hd, hA, by omega, fun H2 r1 g2 br1 => ?_⟩
    refine ⟨_, rfl, _, rfl, v2, e2, d, l, rfl, b2.mono (Tups.of (g1.trans g2)), ok.2.2, by omega, g2 _ _ (g1 _ _ hd), hA, by omega, fun H3 r2 g3 br2 => ?_⟩
    have d0 := fold_deep e0 (stg l)
    exact ⟨r0, r1, r2, _, _, _, rfl, br0.mono (Tups.of (g2.trans g3)), br1.mono (Tups.of g3), br2, fold_ok e0 _ ok.1 hA.stg, fold_ok e1 _ ok.2.1 hA.stg, fold_ok e2 _ ok.2.2 hA.stg, by omega, fun H4 v g4 b4 => q H4 v (g1.trans (g2.trans (g3.trans g4))) b4⟩
  | @lett a x v1 v2 e1 e2 h b1 b2 =>
    refine ⟨_, rfl, a, _, 0, _, rfl, rfl, .inl (.inl h), rfl, rfl, _, rfl, iteF ?_⟩
    refine ⟨_, rfl, a, _, 0, _, rfl, rfl, .inl (.inl h), rfl, rfl, _, rfl, iteF ?_⟩
    refine ⟨_, rfl, a, _, 0, _, rfl, rfl, .inl (.inl h), rfl, rfl, _, rfl, iteF ?_⟩
    refine ⟨_, rfl, a, _, 0, _, rfl, rfl, .inl (.inl h), rfl, rfl, _, rfl, iteT ?_⟩
    exact ⟨_, rfl, _, rfl, _, x, e1, e2, d, l, rfl, b', ok, hdp, hd, hA, hlen, q⟩
theorem spFolded0 : FnOk P w K mg base CX0 1 f fd ["expr", "known"] (spFold 0) := (none_ok fun vs H Q E ⟨_, e, _, _, _, _, _, h, _⟩ => by have := e.deep_pos; omega).mono (Nat.zero_le _)
theorem all_folded (D : JDs K mg ea t1 f1 f2 f3 f4 f5 f6 f7 f8 f9 fd1 fd2 fd3 fd4 fd5 fd6 fd7 fd8 fd9) (G_settled : FnOk P w K mg base CX0 3 f2 fd2 ["word", "one", "two"] spSettled) (df : Df K mg "folded" s_folded ["expr", "known"] ff fdf)
    (dl : Df K mg "_folded_let" s_folded_let ["expr", "known"] fl fdl) (dc : Df K mg "chosen" s_chosen ["cond", "one", "two"] fc fdc) : ∀ n, FnOk P w K mg base CX0 (3 * n + 1) ff fdf ["expr", "known"] (spFold n)
  | 0 => spFolded0
  | n + 1 => ok_folded n df (all_folded D G_settled df dl dc n) dl dc (all_chosen dc n) D.joined (all_joined D G_settled (3 * n + 3)).joined
end
end FC

namespace FC
open PySem L2 StX PyProof.Rows
/-! ### isinstance of a caught exception, whatever its class -/
def rIsV (K : PySem.W.Frag) (a : Addr) (cls : Value) (d : Option Addr) : List V → Hp → VK → Prop := fun xs H Q => ∃ (c : V) (cv : Value) (b : Bool) (D : Addr), cls = .ref D ∧ ExcC K D ∧ (d = none ∨ ∃ dd fs, d = some dd ∧ H dd = some (.xd fs)) ∧ xs = [.ref a, c] ∧ (∀ u, RelV c u → u = cv) ∧ PySem.W.kitOne K (.ref D) cv = some b ∧ Q (.bl b) H
theorem call_isV {X : Cx} {a : Addr} {oe : Obj} {cls : Value} {d : Option Addr} {pn : List (Addr × Obj)} (hz : Zc cls d oe) (hf : ∃ vs, oe.data = .fields vs) : CallR (X.suite a ((a, oe) :: pn)) (.builtin "isinstance") (rIsV X.K a cls d) := by
  intro pins s σ H xs us Q I r h
  obtain ⟨c, cv, b, D, rfl, C, hd, rfl, hcv, e, q⟩ := h
  have hcl : (PySem.W.clsIn X.K D).isSome = true := by
    obtain ⟨cd, hc, _⟩ := PySem.W.any_some C.hd
    rw [hc]
    rfl
  cases r with
  | cons rx rr =>
    cases rr with
    | cons rt rr =>
      cases rr
      cases rx
      have ec := hcv _ rt
      subst ec
      obtain ⟨hget, _⟩ := I.pin (a, oe) (List.mem_append.mpr (.inl List.mem_cons_self))
      obtain ⟨vs, hv⟩ := hf
      rcases hd with rfl | ⟨dd, fs, rfl, hdd⟩
      · have J : PySem.W.InstAt s.heap a oe D none := ⟨hget, hz.1, by unfold PySem.W.notCls; rw [hv] <;> rfl, by rw [hz.2]; trivial⟩
        exact PySem.W.kia_one (PySem.W.kitx_exc hcl C.hg C.hk C.hs C.ha C.hn C.ht C.hm) I.kIn J e (fun z => nomatch z) fun tk => ⟨.bl b, H, I.kept (t' := tk) fun _ _ z => z, rfl, q⟩
      · have hx : ObjOk X.prog X.w H s.heap dd (.xd fs) := I.hok dd _ hdd
        obtain ⟨mA, hns, hr⟩ := hx
        obtain ⟨od, ho, hl⟩ := lookIn_ns hns
        have J : PySem.W.InstAt s.heap a oe D (some od) := ⟨hget, hz.1, by unfold PySem.W.notCls; rw [hv] <;> rfl, by rw [hz.2]; exact ho⟩
        exact PySem.W.kia_one (PySem.W.kitx_exc hcl C.hg C.hk C.hs C.ha C.hn C.ht C.hm) I.kIn J e (fun z => nomatch z) fun tk => ⟨.bl b, H, I.kept (t' := tk) fun _ _ z => z, rfl, q⟩
theorem kit_yes {K : PySem.W.Frag} {C D : Addr} (hd : PySem.W.hasDictIn K C = true) (ht : PySem.W.typeIn K (.ref C) = some (.type "type")) (h : PySem.W.subIn K (.ref D) (.ref C) = some true) : PySem.W.kitOne K (.ref D) (.ref C) = some true := by
  unfold PySem.W.kitOne
  split
  · rfl
  · obtain ⟨cd, hc, _⟩ := PySem.W.any_some hd
    show (if ((PySem.W.clsIn K C).isSome && PySem.W.typeIn K (.ref C) == some (.type "type")) = true then PySem.W.subIn K (.ref D) (.ref C) else none) = some true
    rw [if_pos (by rw [hc, ht]; rfl)]
    exact h
theorem kit_no {K : PySem.W.Frag} {C D : Addr} (hd : PySem.W.hasDictIn K C = true) (ht : PySem.W.typeIn K (.ref C) = some (.type "type")) (hs : PySem.W.subIn K (.ref C) (.ref C) = some true) (h : PySem.W.subIn K (.ref D) (.ref C) = some false) : PySem.W.kitOne K (.ref D) (.ref C) = some false := by
  unfold PySem.W.kitOne
  split
  · rename_i e
    have e' : D = C := Value.ref.inj (beq_iff_eq.mp e)
    subst e'
    rw [hs] at h
    cases h
  · obtain ⟨cd, hc, _⟩ := PySem.W.any_some hd
    show (if ((PySem.W.clsIn K C).isSome && PySem.W.typeIn K (.ref C) == some (.type "type")) = true then PySem.W.subIn K (.ref D) (.ref C) else none) = some false
    rw [if_pos (by rw [hc, ht]; rfl)]
    exact h
theorem kit_VE {K : PySem.W.Frag} {D : Addr} (h : PySem.W.subIn K (.ref D) (.type "ValueError") = some true) : PySem.W.kitOne K (.ref D) (.type "ValueError") = some true := by
  unfold PySem.W.kitOne
  split
  · rfl
  · show (if PySem.W.kitMeta "ValueError" = true then PySem.W.subIn K (.ref D) (.type "ValueError") else none) = some true
    rw [if_pos (by decide +kernel)]
    exact h
end FC
namespace FC
open PySem L2 StX PyProof.Rows
/-- an if whose ways come together again -/
theorem if_merge {c : TT} {t u v : TS} {D : Ends} {σ : L2.St} {H : Hp} (M : L2.St → Hp → Prop) (hc : ∀ Q : Bool → Hp → Prop, Q true H → Q false H → c σ H Q) (h1 : ∀ N : L2.St → Hp → Prop, (∀ σ' H', M σ' H' → N σ' H') → t { D with nx := N } σ H)
    (h2 : ∀ N : L2.St → Hp → Prop, (∀ σ' H', M σ' H' → N σ' H') → u { D with nx := N } σ H) (h3 : ∀ σ' H', M σ' H' → v D σ' H') : tSeq (tIfS c t u) v D σ H := hc _ (iteT (h1 _ h3)) (iteF (h2 _ h3))
end FC
namespace FC
open PySem L2 StX PyProof.Rows
/-! ### the program's value: its contract -/
/-- what an expression comes to: the number, or the class of the refusal (a refused name in the error's own dict) -/
def spVal (U B T : Addr) (n : Nat) : Sp := fun vs H Q E => ∃ (v : V) (e : Ex) (d : Addr) (l : AL), vs = [v, .ref d] ∧ Bears H v e ∧ e.ok ∧ e.deep ≤ n ∧ H d = some (.dK (dS l)) ∧ AOk l ∧ l.length + e.deep ≤ 1000 ∧
  (∀ (H' : Hp) (k : Int), Same H H' → value e (stg l) = .is k → Q (.int k) H') ∧ (∀ (H' : Hp) (x : Str) (dx : Addr), Same H H' → value e (stg l) = .unset x → H' dx = some (.xd [("word", .str x)]) → E (.ref U) (some dx) H') ∧
  (∀ H' : Hp, Same H H' → value e (stg l) = .nought → E (.ref B) none H') ∧ (∀ H' : Hp, Same H H' → value e (stg l) = .great → E (.ref T) none H')
def spNumOf (U : Addr) : Sp := fun vs H Q E => ∃ (x : Str) (d : Addr) (l : AL), vs = [.str x, .ref d] ∧ x.length ≤ 8 ∧ H d = some (.dK (dS l)) ∧ (∀ k, stg l x = some k → Q (.int k) H) ∧ (stg l x = none → ∀ (H' : Hp) (dx : Addr), Same H H' → H' dx = some (.xd [("word", .str x)]) → E (.ref U) (some dx) H')
/-- a name's refusal made: what stood stands -/
theorem raise_same {H : Hp} {a dx : Addr} {o1 o2 o3 o4 : HO} (ha : H a = none) (hd : H dx = none) : Same H (upd (del (upd (upd (upd H a o1) dx o2) a o3) a) dx o4) := fun b u e => by
  have nb : b ≠ a := fun z => by rw [z, ha] at e; cases e
  have nd : b ≠ dx := fun z => by rw [z, hd] at e; cases e
  rw [upd_ne nd, del_ne nb, upd_ne nb, upd_ne nd, upd_ne nb]
  exact e
end FC
namespace FC
open PySem L2 StX PyProof.Rows PySem.Spec
def clsDef (s : Stmt) : Stmt := match s with
  | .ClassDef _ _ _ b _ _ _ _ _ _ _ => b.getD 0 s
  | _ => s
abbrev sInit : Stmt := clsDef c_Unset
section
variable {P : Program} {w : World} {K : PySem.W.Frag} {mg : Str → Option Value} {base : Heap} {t1 t2 : Tok} {f g f1 f2 f3 f4 f5 f6 f7 f8 f9 : Addr} {fd gd fd1 fd2 fd3 fd4 fd5 fd6 fd7 fd8 fd9 : FuncData}
/-- Unset.__init__ on an exception that is being made -/
def spInit (K : PySem.W.Frag) : Sp := fun vs H Q _ => ∃ (a C : Addr) (x : Str), vs = [.ref a, .str x] ∧ x.length ≤ 1000 ∧ OexC K C ∧ PySem.W.findIn K (.ref C) "word" = some none ∧ H a = some (exo a C none) ∧
  ∀ dx, H dx = none → dx ≠ a → Q .non (upd (upd H dx (exd dx [("word", .str x)])) a (exo a C (some dx)))
theorem scInit : FnScope ["self", "word"] ["self", "word"] (defScope sInit) := ⟨rfl, rfl, rfl, by decide +kernel, rfl, by decide +kernel, by decide +kernel⟩
theorem ok_init {B : Addr} {mc : Value} (F : Fun K "__init__" "Unset.__init__" sInit f fd) (b : InitB K mg "FoldError" B mc) :
    FnOk P w K mg base CX0 1 f fd ["self", "word"] (spInit K) := by
  refine F.ok scInit (fun vs H Q E h => ?_) (fun cdv A outer s H vs Q E hr h => ?_)
  · obtain ⟨a, C, x, rfl, _⟩ := h
    rfl
  obtain ⟨a, C, x, rfl, hx, T, hno, ha, q⟩ := h
  refine ⟨_, (pss_cons (ps_expr (pe_base_init b (by rfl) (pa_cons (pv 0) (pa_cons (pe_joined (.cons pe_str (.cons (pe_fmt (pv 1)) .nil))) pa_nil)))) (pss_one (ps_ost (pv 0) (pv 1)))), ?_⟩
  refine ⟨_, rfl, _, rfl, (by decide +kernel), _, rfl, .inl ⟨x, rfl, Nat.le_of_lt (small1000 hx), x, rfl, ?_, ?_⟩⟩
  · have e1 : ((Str.empty ++ "no number is set for " : Str) ++ x).length = (Str.empty ++ "no number is set for " : Str).length + x.length := Array.size_append
    have e2 : (Str.empty ++ "no number is set for " : Str).length ≤ 100 := by decide +kernel
    rw [e1]
    exact Nat.le_trans (Nat.add_le_add e2 hx) (by decide)
  refine ⟨a, C, _, rfl, (by show 1 ≤ 1000; decide), T, ha, ?_⟩
  refine ⟨_, rfl, _, rfl, a, C, rfl, T, hno, .inl ⟨ha, fun dx hd ne => q dx hd ne⟩⟩
structure UCls (K : PySem.W.Frag) (mg : Str → Option Value) (U fI : Addr) (fdI : FuncData) (FE : Addr) (mc : Value) : Prop where
  m : mg "Unset" = some (.ref U)
  T : OexC K U
  iC : PySem.W.findIn K (.ref U) "__init__" = some (some (.ref fI))
  tI : PySem.W.typeIn K (.ref fI) = some (.type "function")
  F : Fun K "__init__" "Unset.__init__" sInit fI fdI
  b : Binds K fdI ["self", "word"] []
  B : InitB K mg "FoldError" FE mc
  no : PySem.W.findIn K (.ref U) "word" = some none
theorem sc_number_of : FnScope ["name", "setting"] ["name", "setting"] (defScope s_number_of) := ⟨rfl, rfl, rfl, by decide +kernel, rfl, by decide +kernel, by decide +kernel⟩
theorem ok_number_of {U fI FE : Addr} {fdI : FuncData} {mc : Value} (d : Df K mg "_number_of" s_number_of ["name", "setting"] f fd) (UU : UCls K mg U fI fdI FE mc) : FnOk P w K mg base (L2.CX P w) 3 f fd ["name", "setting"] (spNumOf U) := by
  refine d.F.okX sc_number_of (fun vs H Q E h => ?_) (fun cdv A outer s H vs Q E hr h => ?_)
  · obtain ⟨x, dd, l, rfl, _⟩ := h
    rfl
  obtain ⟨x, dd, l, rfl, hx, hd, q1, q2⟩ := h
  refine ⟨_, (pss_cons (ps_if (pt_cmp (pc_dnotin (hu_of hr) (pv 0) (pv 1))) (pss_one (ps_raise rfl (takes_of rfl rfl rfl rfl) (pmk_oex UU.T UU.iC UU.tI (ok_init UU.F UU.B) (hr.mono (by omega)) UU.b .nil pass0 (by rfl) UU.m (pa_cons (pv 0) pa_nil)))) pss_nil)
    (pss_one (ps_ret (pe_dget (hu_of hr) (pv 1) (pv 0) (fun _ _ => rfl))))), ?_⟩
  have hv := dS_val l x
  refine ⟨_, rfl, _, rfl, dd, _, rfl, DGet.k (k := Sum.inr x) hd, _, rfl, ?_⟩
  cases hs : stg l x with
  | none =>
    rw [hs] at hv
    rw [hv]
    refine iteT ?_
    refine ⟨_, rfl, (by show 1 ≤ 1000; decide), fun a ha => ⟨a, U, x, rfl, by omega, UU.T, UU.no, upd_same, fun dx hdx ne => ⟨rfl, dx, [("word", .str x)], upd_same, (by rw [upd_ne ne]; exact upd_same), ?_, ?_⟩⟩⟩
    · rw [upd_ne ne] at hdx
      exact hdx
    · rw [upd_ne ne] at hdx
      exact q2 hs _ dx (raise_same ha hdx) upd_same
  | some k =>
    rw [hs] at hv
    rw [hv]
    refine iteF ⟨_, rfl, _, rfl, dd, _, rfl, by have := DGet.k (k := Sum.inr x) hd; rw [hv] at this; exact this, q1 k hs⟩
end
end FC
namespace FC
open PySem L2 StX PyProof.Rows PySem.Spec
section
variable {P : Program} {w : World} {K : PySem.W.Frag} {mg : Str → Option Value} {base : Heap} {t1 t2 : Tok} {B T U fI FE f g f1 f2 f3 f4 f5 f6 f7 f8 f9 : Addr} {mc : Value} {fd gd fdI fd1 fd2 fd3 fd4 fd5 fd6 fd7 fd8 fd9 : FuncData}
/-! ### the program's value -/
theorem sc_value : FnScope ["expr", "setting", "_", "cond", "one", "two", "leg", "name", "outer", "inner", "number", "word", "first", "second"] ["expr", "setting"] (defScope s_value) := ⟨rfl, rfl, rfl, by decide +kernel, rfl, by decide +kernel, by decide +kernel⟩
theorem ok_value (n : Nat) (d_value : Df K mg "value" s_value ["expr", "setting"] f fd) (d_number_of : Df K mg "_number_of" s_number_of ["name", "setting"] f1 fd1) (UU : UCls K mg U fI fdI FE mc) (d_reckoned : Df K mg "reckoned" s_reckoned ["word", "one", "two"] f2 fd2)
    (G_reckoned : FnOk P w K mg base (L2.CX P w) 2 f2 fd2 ["word", "one", "two"] (spReck B T)) (G_value : FnOk P w K mg base (L2.CX P w) (n + 3) f fd ["expr", "setting"] (spVal U B T n)) :
    FnOk P w K mg base (L2.CX P w) (n + 4) f fd ["expr", "setting"] (spVal U B T (n + 1)) := by
  have G_number_of := ok_number_of (P := P) (w := w) (base := base) d_number_of UU
  refine d_value.F.okX sc_value (fun vs H Q E h => ?_) (fun cdv A outer s H vs Q E hr h => ?_)
  · obtain ⟨v, e, d, l, rfl, _⟩ := h
    rfl
  obtain ⟨v, e, d, l, rfl, b, ok, hdp, hd, hA, hlen, q1, q2, q3, q4⟩ := h
  refine ⟨_, (pss_cons (ps_if (pt_cmpR op_eq (pe_ix ix_tup (pv 0) pe_int (fun _ _ => rfl)) pe_str (nomark _)) (pss_one (ps_ret (pe_ix ix_tup (pv 0) pe_int (fun _ _ => rfl)))) pss_nil)
    (pss_cons (ps_if (pt_cmpR op_eq (pe_ix ix_tup (pv 0) pe_int (fun _ _ => rfl)) pe_str (nomark _)) (pss_one (ps_ret (pe_callS G_number_of (hr.mono (by omega)) (by rfl) d_number_of.m d_number_of.k d_number_of.b (fun σ => passAt (takes_of rfl rfl rfl rfl) σ) (pa_cons (pe_ix ix_tup (pv 0) pe_int (fun _ _ => rfl)) (pa_cons (pv 1) pa_nil))))) pss_nil)
    (pss_cons (ps_if (pt_cmpR op_eq (pe_ix ix_tup (pv 0) pe_int (fun _ _ => rfl)) pe_str (nomark _)) (pss_cons (ps_asg (pv 0) (pg_tup rfl (pgs_cons (pg_name (i := 2) sc_value.nd rfl (.inl rfl)) (pgs_cons (pg_name (i := 3) sc_value.nd rfl (.inl rfl)) (pgs_cons (pg_name (i := 4) sc_value.nd rfl (.inl rfl)) (pgs_cons (pg_name (i := 5) sc_value.nd rfl (.inl rfl)) pgs_nil))))))
    (pss_cons (ps_set (i := 6) sc_value.nd rfl (.inl rfl) (pe_ifExp (pt_cmpR op_eq (pe_callS G_value (hr.mono (by omega)) (by rfl) d_value.m d_value.k d_value.b (fun σ => passAt (takes_of rfl rfl rfl rfl) σ) (pa_cons (pv 3) (pa_cons (pv 1) pa_nil))) pe_int (nomark _)) (pv 5) (pv 4)))
    (pss_one (ps_ret (pe_callS G_value (hr.mono (by omega)) (by rfl) d_value.m d_value.k d_value.b (fun σ => passAt (takes_of rfl rfl rfl rfl) σ) (pa_cons (pv 6) (pa_cons (pv 1) pa_nil))))))) pss_nil)
    (pss_cons (ps_if (pt_cmpR op_eq (pe_ix ix_tup (pv 0) pe_int (fun _ _ => rfl)) pe_str (nomark _)) (pss_cons (ps_asg (pv 0) (pg_tup rfl (pgs_cons (pg_name (i := 2) sc_value.nd rfl (.inl rfl)) (pgs_cons (pg_name (i := 7) sc_value.nd rfl (.inl rfl)) (pgs_cons (pg_name (i := 8) sc_value.nd rfl (.inl rfl)) (pgs_cons (pg_name (i := 9) sc_value.nd rfl (.inl rfl)) pgs_nil))))))
    (pss_cons (ps_set (i := 10) sc_value.nd rfl (.inl rfl) (pe_callS G_value (hr.mono (by omega)) (by rfl) d_value.m d_value.k d_value.b (fun σ => passAt (takes_of rfl rfl rfl rfl) σ) (pa_cons (pv 8) (pa_cons (pv 1) pa_nil))))
    (pss_one (ps_ret (pe_callS G_value (hr.mono (by omega)) (by rfl) d_value.m d_value.k d_value.b (fun σ => passAt (takes_of rfl rfl rfl rfl) σ) (pa_cons (pv 9) (pa_cons (pe_star (pv 1) (pv 7) (pv 10)) pa_nil))))))) pss_nil)
    (pss_cons (ps_asg (pv 0) (pg_tup rfl (pgs_cons (pg_name (i := 11) sc_value.nd rfl (.inl rfl)) (pgs_cons (pg_name (i := 4) sc_value.nd rfl (.inl rfl)) (pgs_cons (pg_name (i := 5) sc_value.nd rfl (.inl rfl)) pgs_nil)))))
    (pss_cons (ps_set (i := 12) sc_value.nd rfl (.inl rfl) (pe_callS G_value (hr.mono (by omega)) (by rfl) d_value.m d_value.k d_value.b (fun σ => passAt (takes_of rfl rfl rfl rfl) σ) (pa_cons (pv 4) (pa_cons (pv 1) pa_nil))))
    (pss_cons (ps_set (i := 13) sc_value.nd rfl (.inl rfl) (pe_callS G_value (hr.mono (by omega)) (by rfl) d_value.m d_value.k d_value.b (fun σ => passAt (takes_of rfl rfl rfl rfl) σ) (pa_cons (pv 5) (pa_cons (pv 1) pa_nil))))
    (pss_one (ps_ret (pe_callS G_reckoned (hr.mono (by omega)) (by rfl) d_reckoned.m d_reckoned.k d_reckoned.b (fun σ => passAt (takes_of rfl rfl rfl rfl) σ) (pa_cons (pv 11) (pa_cons (pv 12) (pa_cons (pv 13) pa_nil))))))))))))), ?_⟩
  cases b with
  | @num a k h => exact ⟨_, rfl, a, _, 0, _, rfl, rfl, .inl (.inl h), rfl, rfl, _, rfl, iteT ⟨_, rfl, a, _, 1, _, rfl, rfl, .inl (.inl h), rfl, q1 H k (Same.refl _) rfl⟩⟩
  | @nam a x h =>
    refine ⟨_, rfl, a, _, 0, _, rfl, rfl, .inl (.inl h), rfl, rfl, _, rfl, iteF ?_⟩
    refine ⟨_, rfl, a, _, 0, _, rfl, rfl, .inl (.inl h), rfl, rfl, _, rfl, iteT ?_⟩
    have ev : value (.nam x) (stg l) = match stg l x with | some n => Rs.is n | none => .unset x := rfl
    refine ⟨_, rfl, a, _, 1, _, rfl, rfl, .inl (.inl h), rfl, _, rfl, x, d, l, rfl, ok.2.1, hd, fun k hk => q1 H k (Same.refl _) (by rw [ev, hk]), fun hk H' dx g hdx => q2 H' x dx g (by rw [ev, hk]) hdx⟩
  | @two a o v1 v2 e1 e2 h b1 b2 =>
    have hdd : (Ex.two o e1 e2).deep = max e1.deep e2.deep + 1 := rfl
    refine ⟨_, rfl, a, _, 0, _, rfl, rfl, .inl (.inl h), rfl, rfl, false, congrArg V.bl (op_num o), iteF ?_⟩
    refine ⟨_, rfl, a, _, 0, _, rfl, rfl, .inl (.inl h), rfl, rfl, false, congrArg V.bl (op_name o), iteF ?_⟩
    refine ⟨_, rfl, a, _, 0, _, rfl, rfl, .inl (.inl h), rfl, rfl, false, congrArg V.bl (op_when o), iteF ?_⟩
    refine ⟨_, rfl, a, _, 0, _, rfl, rfl, .inl (.inl h), rfl, rfl, false, congrArg V.bl (op_let o), iteF ?_⟩
    refine ⟨_, rfl, a, _, rfl, .inl (.inl h), rfl, _, _, rfl, _, _, rfl, _, _, rfl, rfl, ?_⟩
    have ev : value (.two o e1 e2) (stg l) = (value e1 (stg l)).bind fun x => (value e2 (stg l)).bind fun y => made o x y := rfl
    refine ⟨_, rfl, _, rfl, v1, e1, d, l, rfl, b1, ok.1, by omega, hd, hA, by omega, fun H1 m g1 em => ?_, fun H1 x dx g1 em hdx => q2 H1 x dx g1 (by rw [ev, em]; rfl) hdx, fun H1 g1 em => q3 H1 g1 (by rw [ev, em]; rfl), fun H1 g1 em => q4 H1 g1 (by rw [ev, em]; rfl)⟩
    have okm := value_ok e1 ok.1 hA.stg em
    refine ⟨_, rfl, _, rfl, v2, e2, d, l, rfl, b2.mono (Tups.of g1), ok.2, by omega, g1 _ _ hd, hA, by omega, fun H2 k g2 ek => ?_, fun H2 x dx g2 ek hdx => q2 H2 x dx (g1.trans g2) (by rw [ev, em]; show (value e2 (stg l)).bind _ = _; rw [ek]; rfl) hdx,
      fun H2 g2 ek => q3 H2 (g1.trans g2) (by rw [ev, em]; show (value e2 (stg l)).bind _ = _; rw [ek]; rfl), fun H2 g2 ek => q4 H2 (g1.trans g2) (by rw [ev, em]; show (value e2 (stg l)).bind _ = _; rw [ek]; rfl)⟩
    have okk := value_ok e2 ok.2 hA.stg ek
    have ev2 : value (.two o e1 e2) (stg l) = made o m k := by rw [ev, em]; show (value e2 (stg l)).bind _ = _; rw [ek]; rfl
    have g12 := g1.trans g2
    exact ⟨_, rfl, _, rfl, _, rfl, o, m, k, rfl, okm, okk, fun j hj _ => q1 H2 j g12 (by rw [ev2, hj]), fun hj => q3 H2 g12 (by rw [ev2, hj]), fun hj => q4 H2 g12 (by rw [ev2, hj])⟩
  | @whn a v0 v1 v2 e0 e1 e2 h b0 b1 b2 =>
    have hdd : (Ex.whn e0 e1 e2).deep = max (max e0.deep e1.deep) e2.deep + 1 := rfl
    refine ⟨_, rfl, a, _, 0, _, rfl, rfl, .inl (.inl h), rfl, rfl, _, rfl, iteF ?_⟩
    refine ⟨_, rfl, a, _, 0, _, rfl, rfl, .inl (.inl h), rfl, rfl, _, rfl, iteF ?_⟩
    refine ⟨_, rfl, a, _, 0, _, rfl, rfl, .inl (.inl h), rfl, rfl, _, rfl, iteT ?_⟩
    refine ⟨_, rfl, a, _, rfl, .inl (.inl h), rfl, _, _, rfl, _, _, rfl, _, _, rfl, _, _, rfl, rfl, ?_⟩
    have ev : value (.whn e0 e1 e2) (stg l) = (value e0 (stg l)).bind fun x => if x ≠ 0 then value e1 (stg l) else value e2 (stg l) := rfl
    refine ⟨_, rfl, _, rfl, v0, e0, d, l, rfl, b0, ok.1, by omega, hd, hA, by omega, fun H1 m g1 em => ?_, fun H1 x dx g1 em hdx => q2 H1 x dx g1 (by rw [ev, em]; rfl) hdx, fun H1 g1 em => q3 H1 g1 (by rw [ev, em]; rfl), fun H1 g1 em => q4 H1 g1 (by rw [ev, em]; rfl)⟩
    by_cases hm : m = 0
    · have ev2 : value (.whn e0 e1 e2) (stg l) = value e2 (stg l) := by rw [ev, em]; exact if_neg (fun zz => zz hm)
      refine ⟨rfl, true, congrArg V.bl (decide_eq_true (congrArg V.int hm)), iteT ⟨_, rfl, ?_⟩⟩
      exact ⟨_, rfl, _, rfl, v2, e2, d, l, rfl, b2.mono (Tups.of g1), ok.2.2, by omega, g1 _ _ hd, hA, by omega, fun H2 k g2 ek => q1 H2 k (g1.trans g2) (by rw [ev2, ek]), fun H2 x dx g2 ek hdx => q2 H2 x dx (g1.trans g2) (by rw [ev2, ek]) hdx, fun H2 g2 ek => q3 H2 (g1.trans g2) (by rw [ev2, ek]), fun H2 g2 ek => q4 H2 (g1.trans g2) (by rw [ev2, ek])⟩
    · have ev2 : value (.whn e0 e1 e2) (stg l) = value e1 (stg l) := by rw [ev, em]; exact if_pos hm
      refine ⟨rfl, false, congrArg V.bl (decide_eq_false (fun zz => hm (by injection zz))), iteF ⟨_, rfl, ?_⟩⟩
      exact ⟨_, rfl, _, rfl, v1, e1, d, l, rfl, b1.mono (Tups.of g1), ok.2.1, by omega, g1 _ _ hd, hA, by omega, fun H2 k g2 ek => q1 H2 k (g1.trans g2) (by rw [ev2, ek]), fun H2 x dx g2 ek hdx => q2 H2 x dx (g1.trans g2) (by rw [ev2, ek]) hdx, fun H2 g2 ek => q3 H2 (g1.trans g2) (by rw [ev2, ek]), fun H2 g2 ek => q4 H2 (g1.trans g2) (by rw [ev2, ek])⟩
  | @lett a x v1 v2 e1 e2 h b1 b2 =>
    have hdd : (Ex.lett x e1 e2).deep = max e1.deep e2.deep + 1 := rfl
    refine ⟨_, rfl, a, _, 0, _, rfl, rfl, .inl (.inl h), rfl, rfl, _, rfl, iteF ?_⟩
    refine ⟨_, rfl, a, _, 0, _, rfl, rfl, .inl (.inl h), rfl, rfl, _, rfl, iteF ?_⟩
    refine ⟨_, rfl, a, _, 0, _, rfl, rfl, .inl (.inl h), rfl, rfl, _, rfl, iteF ?_⟩
    refine ⟨_, rfl, a, _, 0, _, rfl, rfl, .inl (.inl h), rfl, rfl, _, rfl, iteT ?_⟩
    refine ⟨_, rfl, a, _, rfl, .inl (.inl h), rfl, _, _, rfl, _, _, rfl, _, _, rfl, _, _, rfl, rfl, ?_⟩
    have ev : value (.lett x e1 e2) (stg l) = (value e1 (stg l)).bind fun n => value e2 ((stg l).put x n) := rfl
    refine ⟨_, rfl, _, rfl, v1, e1, d, l, rfl, b1, ok.2.1, by omega, hd, hA, by omega, fun H1 m g1 em => ?_, fun H1 x dx g1 em hdx => q2 H1 x dx g1 (by rw [ev, em]; rfl) hdx, fun H1 g1 em => q3 H1 g1 (by rw [ev, em]; rfl), fun H1 g1 em => q4 H1 g1 (by rw [ev, em]; rfl)⟩
    have okm := value_ok e1 ok.2.1 hA.stg em
    have hd1 := g1 _ _ hd
    have ev2 : value (.lett x e1 e2) (stg l) = value e2 (stg (putS l x m)) := by rw [ev, em, stg_put]; rfl
    refine ⟨_, rfl, fun p hp => ⟨_, rfl, ?_⟩⟩
    have g2 := same_new hp (.dK [])
    have ndp : d ≠ p := ne_of_none hd1 hp
    have hz : (dS l).length < sizeLine := by rw [dS_len]; exact small1000 (by omega)
    refine ⟨d, dS l, rfl, ndp, g2 _ _ hd1, upd_same, hz, ?_⟩
    rw [merge_nil hA]
    intro q0 hq0
    have g3 : Same H1 (upd (upd H1 p (.dK [])) p (.dK (dS l))) := same_put g2 hp
    have hpq : p ≠ q0 := fun zz => by rw [← zz, upd_same] at hq0; cases hq0
    have hq1 : H1 q0 = none := by
      rw [upd_ne (Ne.symm hpq), upd_ne (Ne.symm hpq)] at hq0
      exact hq0
    refine ⟨_, rfl, _, rfl, Sum.inr x, rfl, by rw [upd_ne hpq]; exact upd_same, upd_same, ?_⟩
    rw [dS_put]
    have g5 : Same H1 (upd (upd (upd (upd (upd H1 p (.dK [])) p (.dK (dS l))) q0 (.dK [])) q0 (.dK [(Sum.inr x, V.int m)])) p (.dK (dS (putS l x m)))) := same_put (same_put (same_put g3 hq1) hq1) hp
    have hl9 := putS_len l x m
    have hp5 : (upd (upd (upd (upd (upd H1 p (.dK [])) p (.dK (dS l))) q0 (.dK [])) q0 (.dK [(Sum.inr x, V.int m)])) p (.dK (dS (putS l x m)))) p = some (.dK (dS (putS l x m))) := upd_same
    generalize upd (upd (upd (upd (upd H1 p (.dK [])) p (.dK (dS l))) q0 (.dK [])) q0 (.dK [(Sum.inr x, V.int m)])) p (.dK (dS (putS l x m))) = H5 at g5 hp5 ⊢
    have g15 := g1.trans g5
    exact ⟨v2, e2, p, putS l x m, rfl, b2.mono (Tups.of g15), ok.2.2, by omega, hp5, hA.put ok.1 okm, by omega, fun H2 k g2 ek => q1 H2 k (g15.trans g2) (by rw [ev2, ek]), fun H2 x dx g2 ek hdx => q2 H2 x dx (g15.trans g2) (by rw [ev2, ek]) hdx, fun H2 g2 ek => q3 H2 (g15.trans g2) (by rw [ev2, ek]), fun H2 g2 ek => q4 H2 (g15.trans g2) (by rw [ev2, ek])⟩
theorem none_okX {CX : CXT} {ps : List Str} {sp : Sp} (no : ∀ vs H Q E, ¬ sp vs H Q E) : FnOk P w K mg base CX 0 f fd ps sp :=
  ⟨fun vs H Q E h => absurd h (no vs H Q E), fun A outer s H args us vs Q E _ _ _ _ h => absurd h (no vs H Q E)⟩
theorem all_value (d : Df K mg "value" s_value ["expr", "setting"] f fd) (d1 : Df K mg "_number_of" s_number_of ["name", "setting"] f1 fd1) (UU : UCls K mg U fI fdI FE mc) (d2 : Df K mg "reckoned" s_reckoned ["word", "one", "two"] f2 fd2)
    (G2 : FnOk P w K mg base (L2.CX P w) 2 f2 fd2 ["word", "one", "two"] (spReck B T)) : ∀ n, FnOk P w K mg base (L2.CX P w) (n + 3) f fd ["expr", "setting"] (spVal U B T n)
  | 0 => (none_okX fun vs H Q E ⟨_, e, _, _, _, _, _, h, _⟩ => by have := e.deep_pos; omega).mono (Nat.zero_le _)
  | n + 1 => ok_value n d d1 UU d2 G2 (all_value d d1 UU d2 G2 n)
end
end FC
namespace FC
open PySem L2 StX PyProof.Rows PySem.Spec
/-! ### a try whose first clause gives the exception a name, with plain clauses behind it -/
abbrev Clause := Value × (Addr → Value → Option Addr → TS)
/-- the ends of a suite behind which the name is gone -/
def endsGone (i : Nat) (D : Ends) : Ends := { nx := fun τ G => D.nx (τ.set i none) G, rt := D.rt, bk := fun τ G => D.bk (τ.set i none) G, ct := fun τ G => D.ct (τ.set i none) G }
def wFirst (K : PySem.W.Frag) (c : Value) (i : Nat) (ts : Addr → Value → Option Addr → TS) (W0 : WX) (l : List Clause) (D : Ends) : WX := fun cls d τ G =>
  ∃ m, PySem.W.exmOne K cls c = some m ∧ (m = true → ∀ p, G p = none → ts p cls d (endsGone i D) (τ.set i (some (.ref p))) G) ∧ (m = false → wMany K W0 D l cls d τ G)
/-- an exception at p that has been caught: u the state, w the one without it -/
structure Hold (X : Cx) (pins : List (Addr × Obj)) (τ : L2.St) (G : Hp) (B : Heap) (p : Addr) (cls : Value) (d : Option Addr) (w u : Shared) : Prop where
  inv : Inv X pins τ G w
  gr : ∀ q r, w.heap.get? q = some r → q ∉ frs X.stack → B.get? q = some r
  up : w.heap.UpToSlots u.heap
  fly : PySem.HandSPX.FlyingZ B (X.env :: X.outer) p (Zc cls d) u.heap
  new : G p = none
  os : u.os = w.os
  bare : AllBare u.gens
section
variable {X : Cx} {pins : List (Addr × Obj)} {τ : L2.St} {G : Hp} {B : Heap} {p : Addr} {cls : Value} {d : Option Addr} {w u : Shared}
theorem Hold.now (h : Hold X pins τ G B p cls d w u) : Inv X pins τ G u := h.inv.landed h.gr h.fly.1 h.up h.os h.bare
theorem Hold.off (h : Hold X pins τ G B p cls d w u) : p ∉ frs (X.env :: X.outer) := fun hm => by
  obtain ⟨r, vs, h1, _, h2⟩ := h.fly.there
  obtain ⟨_, r', h3, h4⟩ := (h.fly.2.2.1).mem hm
  cases h1.symm.trans h3
  exact h4 _ h2
theorem Hold.nl (h : Hold X pins τ G B p cls d w u) (hf : X.env.frame = some X.env.locals) : p ≠ X.env.locals := fun z => h.off (List.mem_filterMap.mpr ⟨X.env, List.mem_cons_self, z ▸ hf⟩)
theorem Hold.nf (h : Hold X pins τ G B p cls d w u) : p ∉ X.fs := fun hm => by
  obtain ⟨e, h1, h2⟩ := List.mem_filterMap.mp hm
  exact h.off (List.mem_filterMap.mpr ⟨e, List.mem_cons_of_mem _ h1, h2⟩)
/-- the suite's own context -/
theorem Hold.suite (h : Hold X pins τ G B p cls d w u) (hf : X.env.frame = some X.env.locals) : ∃ r, u.heap.get? p = some r ∧ Zc cls d r ∧ (∃ vs, r.data = .fields vs) ∧ Inv (X.suite p ((p, r) :: (X.pn ++ pins))) [] τ G u := by
  obtain ⟨r, vs, h1, h2, h3⟩ := h.fly.there
  exact ⟨r, h1, h2, ⟨vs, h3⟩, h.now.suite h1 h3 h.new (h.nl hf) h.nf⟩
theorem Hold.next (h : Hold X pins τ G B p cls d w u) {k : Heap} (f : PySem.HandSPX.FlyingZ B (X.env :: X.outer) p (Zc cls d) k) (z : u.heap.UpToSlots k) : Hold X pins τ G B p cls d w { u with heap := k } :=
  ⟨h.inv, h.gr, h.up.trans z, f, h.new, h.os, h.bare⟩
/-- the name of the clause's class is read, the class compared -/
theorem Hold.asked (h : Hold X pins τ G B p cls d w u) (hf : X.env.frame = some X.env.locals) {x : Str} {c : Value} {np : Pos} {m : Bool} {R : Bool → Shared → Prop} {F1 F2 : Value → Shared → Prop} (hc : Names X x c) (hm : PySem.W.exmOne X.K cls c = some m) (k : R m u) :
    wpAny (model X.prog X.w) (X.A.mark (some (.ref p))) (eval (.Name x np) X.env) (fun v s1 => wpAny (model X.prog X.w) (X.A.mark (some (.ref p))) (excMatches (.ref p) v) R F1 s1) F2 u := by
  obtain ⟨r, h1, h2, _, S⟩ := h.suite hf
  have look : PySem.W.Looks (model X.prog X.w) u.heap (typeOf (.ref p)) cls := fun _ _ _ _ kk z => wpAny_typeOf_ref (kk _ _ h1) (h2.1 ▸ z)
  have same := PySem.W.exm_one (M := model X.prog X.w) h.now.kIn look hm
  obtain ⟨e1, e2, e3⟩ := hc
  have S' := S
  rcases e3 with e | ⟨e, e', e''⟩
  · exact ld_glob S' e1 e (same.here k) e2
  · exact ld_blt S' e1 e e' (same.here k) e'' e2
/-- none of the clauses is meant: on it flies -/
theorem Hold.on (h : Hold X pins τ G B p cls d w u) (hs : X.stack = X.env :: X.outer) (hf : X.env.frame = some X.env.locals) {W0 : WX} (tk : Takes X W0) (hw : W0 cls d τ G) {Q : Flow → Shared → Prop} :
    wpAny (model X.prog X.w) X.A (handleBy (.ref p) X.env []) Q X.xe u := by
  refine wpAny_handleBy_nil ?_
  obtain ⟨_, _, _, r, vs, T, _, _, h1, _, h2, h3, _⟩ := id h.fly
  have out : wpAny (model X.prog X.w) X.A (setFlight (.ref p) X.env.frame) (fun _ s1 => wpAny (model X.prog X.w) X.A (throw (.ref p) : Sem Flow) Q X.xe s1) X.xe u := by
    rw [hf]
    refine PySem.HandSPX.setFlight_upZ h.fly fun k f z => ?_
    refine wpAny_throw (tk _ _ ⟨p, B, w, pins, τ, G, cls, d, rfl, h.inv, h.gr, h.up.trans z, ?_, h.new, h.os, h.bare, hw⟩)
    refine .inr (.inr ?_)
    rw [hs]
    exact f
  unfold PySem.passOn
  refine wpAny_bind (wpAny_field h1 h2 h3 ?_)
  rw [if_neg (by simp : ¬ ((Value.ref T == Value.none) = true))]
  first
    | exact wpAny_bind (wpAny_pure (wpAny_bind out))
    | exact wpAny_bind out
/-- a plain clause -/
theorem Hold.plain (h : Hold X pins τ G B p cls d w u) (ok : X.Ok) (hf : X.env.frame = some X.env.locals) {x : Str} {c : Value} {np pos' : Pos} {b₀ : Stmt} {su : List Stmt} {more : List ExceptHandler} {m : Bool} {D : Ends} {ts : Addr → Value → Option Addr → TS} (hc : Names X x c)
    (hm : PySem.W.exmOne X.K cls c = some m) (hsu : ∀ (a : Addr) (oe : Obj) (cls : Value) (d : Option Addr) (pn : List (Addr × Obj)), Zc cls d oe → (∃ vs, oe.data = .fields vs) → PSs (X.suite a ((a, oe) :: pn)) (b₀ :: su) (ts a cls d))
    (yes : m = true → ts p cls d D τ G) (no : m = false → wpAny (model X.prog X.w) X.A (handleBy (.ref p) X.env more) (SP X pins D) X.xe u) :
    wpAny (model X.prog X.w) X.A (handleBy (.ref p) X.env (.ExceptHandler (some (.Name x np)) none (b₀ :: su) pos' :: more)) (SP X pins D) X.xe u := by
  refine wpAny_handleBy_cons (codeAny_handlers_test (h.asked hf hc hm ?_)) (fun z => nomatch z)
  cases m with
  | false => exact no rfl
  | true =>
    refine codeAny_handlers_suite (PySem.HandSPX.lands_againZ h.fly fun k f z => ?_)
    obtain ⟨r, _, h2, h3, S⟩ := (h.next f z).suite hf
    refine wpAny_mono ((hsu p r cls d (X.pn ++ pins) h2 h3).run [] _ _ G D S (yes rfl)) (fun fl s2 z2 => ?_) fun _ _ z2 => z2.elim
    cases fl with
    | ret v =>
      obtain ⟨y, τ2, G2, S2, r2, q2⟩ := z2
      exact ⟨y, τ2, G2, S2.unsuite ok, r2, q2⟩
    | next => exact z2.imp fun _ => Exists.imp fun _ q => ⟨q.1.unsuite ok, q.2⟩
    | brk => exact z2.imp fun _ => Exists.imp fun _ q => ⟨q.1.unsuite ok, q.2⟩
    | cont => exact z2.imp fun _ => Exists.imp fun _ q => ⟨q.1.unsuite ok, q.2⟩
/-- plain clauses, one behind the other -/
theorem Hold.many (h : Hold X pins τ G B p cls d w u) (ok : X.Ok) (hs : X.stack = X.env :: X.outer) (hf : X.env.frame = some X.env.locals) {W0 : WX} (tk : Takes X W0) {D : Ends} {hds : List ExceptHandler} {l : List Clause} (k : HdsOk X hds l) (hw : wMany X.K W0 D l cls d τ G) :
    wpAny (model X.prog X.w) X.A (handleBy (.ref p) X.env hds) (SP X pins D) X.xe u := by
  induction k with
  | nil => exact h.on hs hf tk hw
  | cons hc hsu _ ih =>
    obtain ⟨m, h1, h2, h3⟩ := hw
    exact h.plain ok hf hc h1 hsu (fun z => h2 z p h.new) fun z => ih (h3 z)
/-- the clause with a name -/
theorem Hold.named (h : Hold X pins τ G B p cls d w u) (ok : X.Ok) (hf : X.env.frame = some X.env.locals) {x n : Str} {c : Value} {i : Nat} {np pos' : Pos} {b₀ : Stmt} {su : List Stmt} {more : List ExceptHandler} {m : Bool} {D : Ends} {ts : Addr → Value → Option Addr → TS} (hN : X.N.Nodup)
    (hi : X.N[i]? = some n) (hl : X.env.kindOf n = some .local) (hc : Names X x c) (hm : PySem.W.exmOne X.K cls c = some m)
    (hsu : ∀ (a : Addr) (oe : Obj) (cls : Value) (d : Option Addr) (pn : List (Addr × Obj)), Zc cls d oe → (∃ vs, oe.data = .fields vs) → PSs (X.suite a ((a, oe) :: pn)) (b₀ :: su) (ts a cls d))
    (yes : m = true → ts p cls d (endsGone i D) (τ.set i (some (.ref p))) G) (no : m = false → wpAny (model X.prog X.w) X.A (handleBy (.ref p) X.env more) (SP X pins D) X.xe u) :
    wpAny (model X.prog X.w) X.A (handleBy (.ref p) X.env (.ExceptHandler (some (.Name x np)) (some n) (b₀ :: su) pos' :: more)) (SP X pins D) X.xe u := by
  refine wpAny_handleBy_cons (codeAny_handlers_test (h.asked hf hc hm ?_)) (fun z => nomatch z)
  cases m with
  | false => exact no rfl
  | true =>
    refine codeAny_handlers_suite_as (PySem.HandSPX.lands_againZ h.fly fun k f z => ?_)
    obtain ⟨r, _, h2, h3, S⟩ := (h.next f z).suite hf
    refine store_ok (X := X.suite p ((p, r) :: (X.pn ++ pins))) (v := .ref p) S hN hi (.inl hl) rfl (fun s1 S1 => ?_) (.inr hl)
    refine wpAny_mono ((hsu p r cls d (X.pn ++ pins) h2 h3).run [] s1 _ G _ S1 (yes rfl)) (fun fl s2 z2 => ?_) fun _ _ z2 => z2.elim
    cases fl with
    | ret v =>
      obtain ⟨y, τ2, G2, S2, r2, q2⟩ := z2
      exact gone_ok (S2.unsuite ok) hN hi hl fun s3 J => ⟨y, _, G2, J, r2, q2⟩
    | next =>
      obtain ⟨τ2, G2, S2, q2⟩ := z2
      exact gone_ok (S2.unsuite ok) hN hi hl fun s3 J => ⟨_, G2, J, q2⟩
    | brk =>
      obtain ⟨τ2, G2, S2, q2⟩ := z2
      exact gone_ok (S2.unsuite ok) hN hi hl fun s3 J => ⟨_, G2, J, q2⟩
    | cont =>
      obtain ⟨τ2, G2, S2, q2⟩ := z2
      exact gone_ok (S2.unsuite ok) hN hi hl fun s3 J => ⟨_, G2, J, q2⟩
end
theorem ps_try_first {X : Cx} {x n : Str} {c : Value} {i : Nat} {body su : List Stmt} {b₀ : Stmt} {np pos pos' : Pos} {hds : List ExceptHandler} {l : List Clause} {tb : WX → TS} {ts : Addr → Value → Option Addr → TS} {W0 : WX} (hs : X.stack = X.env :: X.outer) (hf : X.env.frame = some X.env.locals) (hN : X.N.Nodup)
    (hi : X.N[i]? = some n) (hl : X.env.kindOf n = some .local) (hc : Names X x c) (tk : Takes X W0)
    (hb : ∀ (W : WX) (pn : List (Addr × Obj)) (xe : Value → Shared → Prop), Takes (X.tr pn xe) W → PassesOwn (model X.prog X.w) X.A X.env xe → PSs (X.tr pn xe) body (tb W))
    (hsu : ∀ (a : Addr) (oe : Obj) (cls : Value) (d : Option Addr) (pn : List (Addr × Obj)), Zc cls d oe → (∃ vs, oe.data = .fields vs) → PSs (X.suite a ((a, oe) :: pn)) (b₀ :: su) (ts a cls d)) (hh : HdsOk X hds l) :
    PS X (.Try body (.ExceptHandler (some (.Name x np)) (some n) (b₀ :: su) pos' :: hds) [] [] pos) (fun D σ H => tb (wFirst X.K c i ts W0 l D) D σ H) := by
  refine ⟨fun pins s σ H D I h => wpAny_Try_except ?_⟩
  have ok := I.ok
  have hfr : X.A.frames = some (X.env :: X.outer) := by rw [← hs]; exact ok.frames
  have body := hb (wFirst X.K c i ts W0 l D) (X.pn ++ pins) (fun e s1 => wpAny (model X.prog X.w) X.A (noteFrame e X.env) (fun _ s2 => wpAny (model X.prog X.w) X.A (setFlight e none) (fun _ s3 =>
    wpAny (model X.prog X.w) X.A (handleBy e X.env (.ExceptHandler (some (.Name x np)) (some n) (b₀ :: su) pos' :: hds)) (SP X pins D) X.xe s3) X.xe s2) X.xe s1) ?_ PassesOwn.looking
  · refine wpAny_mono (body.run [] s σ H D (I.toTry _) h) (fun fl s2 z2 => ?_) fun _ _ z2 => z2
    cases fl with
    | ret v =>
      obtain ⟨y, τ2, G2, J, r2, q2⟩ := z2
      exact ⟨y, τ2, G2, J.ofTry ok, r2, q2⟩
    | next => exact wpAny_execs_nil (z2.imp fun _ => Exists.imp fun _ q => ⟨q.1.ofTry ok, q.2⟩)
    | brk => exact z2.imp fun _ => Exists.imp fun _ q => ⟨q.1.ofTry ok, q.2⟩
    | cont => exact z2.imp fun _ => Exists.imp fun _ q => ⟨q.1.ofTry ok, q.2⟩
  · rintro e s1 ⟨p, B, w, pins', τ, G, cls, d, rfl, J, gr, up, sky, new, os, bare, m, h1, h2, h3⟩
    show wpAny (model X.prog X.w) X.A (noteFrame (.ref p) X.env) _ _ _
    have sky' : Sky B (X.env :: X.outer) p (Zc cls d) X.env.locals s1.heap := hs ▸ sky
    refine Sky.land Zc.steady hfr hf sky' fun k f z => ?_
    have C : Hold X pins τ G B p cls d w { s1 with heap := k } := ⟨J.ofTry ok, gr, up.trans z, f, new, os, bare⟩
    exact C.named ok hf hN hi hl hc h1 hsu (fun e => h2 e p new) fun e => C.many ok hs hf tk hh (h3 e)
end FC
namespace FC
open PySem L2 StX PyProof.Rows PySem.Spec
structure Cls0 (K : PySem.W.Frag) (mg : Str → Option Value) (x : Str) (C : Addr) : Prop where
  m : mg x = some (.ref C)
  d : PySem.W.hasDictIn K C = true
  t : PySem.W.typeIn K (.ref C) = some (.type "type")
  s : PySem.W.subIn K (.ref C) (.ref C) = some true
  b : PySem.W.subIn K (.ref C) (.type "BaseException") = some true
theorem Cls0.no {K : PySem.W.Frag} {mg : Str → Option Value} {x : Str} {C D : Addr} (c : Cls0 K mg x C) (h : PySem.W.subIn K (.ref D) (.ref C) = some false) : PySem.W.kitOne K (.ref D) (.ref C) = some false := kit_no c.d c.t c.s h
theorem Cls0.yes {K : PySem.W.Frag} {mg : Str → Option Value} {x : Str} {C : Addr} (c : Cls0 K mg x C) : PySem.W.kitOne K (.ref C) (.ref C) = some true := kit_yes c.d c.t c.s
theorem Cls0.exm {K : PySem.W.Frag} {mg : Str → Option Value} {x : Str} {C : Addr} (c : Cls0 K mg x C) {cls : Value} {b : Bool} (h : PySem.W.subIn K cls (.ref C) = some b) : PySem.W.exmOne K cls (.ref C) = some b := PySem.W.exm_ref c.b c.d c.t h
/-- what the clauses of the law ask of the classes -/
structure KT (K : PySem.W.Frag) (mg : Str → Option Value) (U B T : Addr) : Prop where
  cU : Cls0 K mg "Unset" U
  cB : Cls0 K mg "ByNought" B
  cT : Cls0 K mg "TooGreat" T
  xf : XfC K U
  no : PySem.W.findIn K (.ref U) "word" = some none
  BU : PySem.W.subIn K (.ref B) (.ref U) = some false
  TU : PySem.W.subIn K (.ref T) (.ref U) = some false
  TB : PySem.W.subIn K (.ref T) (.ref B) = some false
section
variable {P : Program} {w : World} {K : PySem.W.Frag} {mg : Str → Option Value} {base : Heap} {t1 t2 : Tok} {B T U fI FE f g f1 f2 f3 f4 f5 f6 f7 f8 f9 : Addr} {mc : Value} {fd gd fdI fd1 fd2 fd3 fd4 fd5 fd6 fd7 fd8 fd9 : FuncData}
/-- what the program tells of a value, refusals too -/
def spTold (n : Nat) : Sp := fun vs H Q _ => ∃ (v : V) (e : Ex) (d : Addr) (l : AL), vs = [v, .ref d] ∧ Bears H v e ∧ e.ok ∧ e.deep ≤ n ∧ H d = some (.dK (dS l)) ∧ AOk l ∧ l.length + e.deep ≤ 1000 ∧ ∀ (H' : Hp) (p : Addr), Same H H' → H' p = some (.tup (rsL (value e (stg l)))) → Q (.ref p) H'
theorem sc_law_told : FnScope ["_law_expr", "_law_setting", "_law_found", "e"] ["_law_expr", "_law_setting"] (defScope s_law_told) := ⟨rfl, rfl, rfl, by decide +kernel, rfl, by decide +kernel, by decide +kernel⟩
theorem ok_told (n : Nat) (d : Df K mg "_law_told" s_law_told ["_law_expr", "_law_setting"] f fd) (k : KT K mg U B T) (d_value : Df K mg "value" s_value ["expr", "setting"] f1 fd1) (G_value : FnOk P w K mg base (L2.CX P w) (n + 3) f1 fd1 ["expr", "setting"] (spVal U B T n))
    (d_whole : Df K mg "_law_whole" sWhole ["_law_found"] f2 fd2) (G_whole : FnOk P w K mg base CX0 1 f2 fd2 ["_law_found"] spWhole) : FnOk P w K mg base CX0 (n + 4) f fd ["_law_expr", "_law_setting"] (spTold n) := by
  have E_Unset := k.cU
  have E_ByNought := k.cB
  have E_TooGreat := k.cT
  have xfU := k.xf
  have noU := k.no
  refine d.F.ok sc_law_told (fun vs H Q E h => ?_) (fun cdv A outer s H vs Q E hr h => ?_)
  · obtain ⟨v, e, dd, l, rfl, _⟩ := h
    rfl
  obtain ⟨v, e, dd, l, rfl, b, ok, hdp, hd, hA, hlen, q⟩ := h
  refine ⟨_, (pss_cons (ps_try_first (i := 3) rfl rfl sc_law_told.nd rfl rfl ⟨by rfl, by decide, .inl E_Unset.m⟩ takes0 (fun W pn xe tk _ => (pss_one (ps_set (i := 2) sc_law_told.nd rfl (.inl rfl) (pe_callS G_value (hr.mono (by omega)) (by rfl) d_value.m d_value.k d_value.b (fun σ => passAt tk σ) (pa_cons (pv 0) (pa_cons (pv 1) pa_nil)))))) (fun a oe cls d pn hz hf => (pss_one (ps_ret (pe_tup (pa_cons pe_str (pa_cons (pe_xf xfU noU hz hf (pv 3)) pa_nil)))))) (.cons ⟨by rfl, by decide, .inl E_ByNought.m⟩ (fun a oe cls d pn hz hf => (pss_one (ps_ret (pe_tup (pa_cons pe_str (pa_cons pe_str pa_nil)))))) (.cons ⟨by rfl, by decide, .inl E_TooGreat.m⟩ (fun a oe cls d pn hz hf => (pss_one (ps_ret (pe_tup (pa_cons pe_str (pa_cons pe_str pa_nil)))))) .nil)))
    (pss_cons (ps_if (pt_not (pt_val (pe_call G_whole (hr.mono (by omega)) (by rfl) d_whole.m d_whole.k d_whole.b .nil pass0 (pa_cons (pv 2) pa_nil)))) (pss_one (ps_ret (pe_tup (pa_cons pe_str (pa_cons pe_str pa_nil))))) pss_nil)
    (pss_one (ps_ret (pe_tup (pa_cons pe_str (pa_cons (pv 2) pa_nil))))))), ?_⟩
  refine ⟨_, rfl, _, rfl, v, e, dd, l, rfl, b, ok, hdp, hd, hA, hlen, fun H1 m g1 em => ?_, fun H1 x dx g1 em hdx => ?_, fun H1 g1 em => ?_, fun H1 g1 em => ?_⟩
  · refine ⟨_, rfl, m, rfl, true, rfl, iteF ⟨_, rfl, (by show 2 ≤ sizeLine; decide), fun p hp => q _ p (g1.trans (same_new hp _)) ?_⟩⟩
    rw [em]
    exact upd_same
  · refine ⟨true, k.cU.exm k.cU.s, fun _ a0 _ => ⟨_, rfl, rfl, rfl, dx, _, _, rfl, hdx, rfl, (by show 2 ≤ sizeLine; decide), fun p hp => q _ p (g1.trans (same_new hp _)) ?_⟩, fun z => Bool.noConfusion z⟩
    rw [em]
    exact upd_same
  · refine ⟨false, k.cU.exm k.BU, fun z => Bool.noConfusion z, fun _ => ⟨true, k.cB.exm k.cB.s, fun _ a0 _ => ⟨(by show 2 ≤ sizeLine; decide), fun p hp => q _ p (g1.trans (same_new hp _)) ?_⟩, fun z => Bool.noConfusion z⟩⟩
    rw [em]
    exact upd_same
  · refine ⟨false, k.cU.exm k.TU, fun z => Bool.noConfusion z, fun _ => ⟨false, k.cB.exm k.TB, fun z => Bool.noConfusion z, fun _ => ⟨true, k.cT.exm k.cT.s, fun _ a0 _ => ⟨(by show 2 ≤ sizeLine; decide), fun p hp => q _ p (g1.trans (same_new hp _)) ?_⟩, fun z => Bool.noConfusion z⟩⟩⟩
    rw [em]
    exact upd_same
end
end FC
namespace FC
open PySem L2 StX PyProof.Rows
section
variable {P : Program} {w : World} {K : PySem.W.Frag} {mg : Str → Option Value} {base : Heap} {f f1 : Addr} {fd fd1 : FuncData}
theorem all_lvalue (d : Df K mg "_law_value" s_law_value ["_law_expr", "_law_setting"] f fd) (z : Bl2 mg) (dm : Df K mg "_law_made" s_law_made ["_law_word", "_law_one", "_law_two"] f1 fd1) : ∀ n, FnOk P w K mg base CX0 (n + 1) f fd ["_law_expr", "_law_setting"] (spLValue n)
  | 0 => spLValue0.mono (Nat.zero_le _)
  | n + 1 => ok_lvalue n d z dm (all_lvalue d z dm n)
end
end FC
namespace FC
open PySem L2 StX PyProof.Rows
section
variable {P : Program} {w : World} {K : PySem.W.Frag} {mg : Str → Option Value} {base : Heap} {t1 t2 : Tok} {f g f1 f2 f3 f4 f5 f6 f7 f8 f9 : Addr} {fd gd fd1 fd2 fd3 fd4 fd5 fd6 fd7 fd8 fd9 : FuncData}
def Tri (H : Hp) (v : V) : Prop := ∃ (p : Addr) (o : Op) (m n : Int), v = .ref p ∧ H p = some (.tup [.str o.str, .int m, .int n]) ∧ NumOk m ∧ NumOk n
theorem Tri.mono {H H' : Hp} {v : V} (h : Tri H v) (g : Same H H') : Tri H' v := by
  obtain ⟨p, o, m, n, e, h, r⟩ := h
  exact ⟨p, o, m, n, e, g _ _ h, r⟩
theorem okx : NameOk "x" := ⟨by decide +kernel, by decide +kernel, fun c hc => by
  have e : ("x" : Str).cps.toList = [120] := by decide +kernel
  rw [e] at hc
  rw [List.mem_singleton.mp hc]
  decide⟩
theorem okX {n : Int} (h : NumOk n) : AOk [("x", n)] := ⟨by simp, fun p hp => by rw [List.mem_singleton.mp hp]; exact ⟨okx, h⟩⟩
def spLayersR : Sp := fun vs H Q _ => ∃ c : Int, vs = [.int c] ∧ 0 ≤ c ∧ ∀ H', Same H H' → Q (.bl true) H'
theorem sc_law_layers_right : FnScope ["_law_cell", "_law_a", "_law_b", "_law_some", "_law_word", "_law_m", "_law_n", "_law_expr", "_law_found", "_law_number"] ["_law_cell"] (defScope s_law_layers_right) := ⟨rfl, rfl, rfl, by decide +kernel, rfl, by decide +kernel, by decide +kernel⟩
theorem ok_layers (d : Df K mg "_law_layers_right" s_law_layers_right ["_law_cell"] f fd) (d_told : Df K mg "_law_told" s_law_told ["_law_expr", "_law_setting"] f1 fd1) (G_told : FnOk P w K mg base CX0 64 f1 fd1 ["_law_expr", "_law_setting"] (spTold 60))
    (d_lvalue : Df K mg "_law_value" s_law_value ["_law_expr", "_law_setting"] f2 fd2) (G_lvalue : FnOk P w K mg base CX0 101 f2 fd2 ["_law_expr", "_law_setting"] (spLValue 100))
    (d_folded : Df K mg "folded" s_folded ["expr", "known"] f3 fd3) (G_folded : FnOk P w K mg base CX0 210 f3 fd3 ["expr", "known"] (spFold 60)) :
    FnOk P w K mg base CX0 211 f fd ["_law_cell"] spLayersR := by
  refine d.F.ok sc_law_layers_right (fun vs H Q E h => ?_) (fun cdv A outer s H vs Q E hr h => ?_)
  · obtain ⟨c, rfl, _⟩ := h
    rfl
  obtain ⟨c, rfl, hc, q⟩ := h
  refine ⟨_, (pss_cons (ps_set (i := 1) sc_law_layers_right.nd rfl (.inl rfl) (pe_op op_add pe_int (pe_op op_mod (pv 0) pe_int)))
    (pss_cons (ps_set (i := 2) sc_law_layers_right.nd rfl (.inl rfl) (pe_op op_add pe_int (pe_op op_mod (pe_op op_fdiv (pv 0) pe_int) pe_int)))
    (pss_cons (ps_set (i := 3) sc_law_layers_right.nd rfl (.inl rfl) (pe_lst (pa_cons (pe_tup (pa_cons pe_str (pa_cons (pv 1) (pa_cons (pv 2) pa_nil)))) (pa_cons (pe_tup (pa_cons pe_str (pa_cons (pv 1) (pa_cons (pe_un un_neg (pv 2)) pa_nil)))) (pa_cons (pe_tup (pa_cons pe_str (pa_cons (pe_un un_neg (pv 1)) (pa_cons (pv 2) pa_nil)))) (pa_cons (pe_tup (pa_cons pe_str (pa_cons (pe_op op_add (pv 2) pe_int) (pa_cons (pv 2) pa_nil)))) (pa_cons (pe_tup (pa_cons pe_str (pa_cons (pe_op op_mul (pv 1) (pv 2)) (pa_cons (pv 2) pa_nil)))) (pa_cons (pe_tup (pa_cons pe_str (pa_cons (pv 1) (pa_cons (pe_un un_neg (pv 2)) pa_nil)))) pa_nil))))))))
    (pss_cons (ps_for PassesOwn.never rfl (pi_list (pe_op op_cat (pv 3) (pe_lst (pa_cons (pe_tup (pa_cons pe_str (pa_cons (pv 1) (pa_cons pe_int pa_nil)))) (pa_cons (pe_tup (pa_cons pe_str (pa_cons (pv 1) (pa_cons (pe_un un_neg (pv 2)) pa_nil)))) (pa_cons (pe_tup (pa_cons pe_str (pa_cons (pv 1) (pa_cons (pe_un un_neg (pv 2)) pa_nil)))) (pa_cons (pe_tup (pa_cons pe_str (pa_cons (pe_un un_neg (pv 1)) (pa_cons (pv 2) pa_nil)))) pa_nil))))))) (pg_tup rfl (pgs_cons (pg_name (i := 4) sc_law_layers_right.nd rfl (.inl rfl)) (pgs_cons (pg_name (i := 5) sc_law_layers_right.nd rfl (.inl rfl)) (pgs_cons (pg_name (i := 6) sc_law_layers_right.nd rfl (.inl rfl)) pgs_nil)))) (pss_cons (ps_set (i := 7) sc_law_layers_right.nd rfl (.inl rfl) (pe_tup (pa_cons (pv 4) (pa_cons (pe_tup (pa_cons (pv 4) (pa_cons (pe_tup (pa_cons pe_str (pa_cons pe_str pa_nil))) (pa_cons (pe_tup (pa_cons pe_str (pa_cons (pv 5) pa_nil))) pa_nil)))) (pa_cons (pe_tup (pa_cons pe_str (pa_cons (pv 6) pa_nil))) pa_nil)))))
    (pss_cons (ps_set (i := 8) sc_law_layers_right.nd rfl (.inl rfl) (pe_call G_folded (hr.mono (by omega)) (by rfl) d_folded.m d_folded.k d_folded.b .nil pass0 (pa_cons (pv 7) (pa_cons pe_dnewK pa_nil))))
    (pss_one (ps_for PassesOwn.never rfl (pi_list (pe_lst (pa_cons pe_int (pa_cons (pe_un un_neg pe_int) (pa_cons (pe_op op_add (pv 1) pe_int) (pa_cons (pe_op op_sub (pe_un un_neg (pv 1)) pe_int) (pa_cons (pe_op op_add (pv 2) pe_int) (pa_cons (pe_op op_add (pe_op op_mul (pv 1) (pv 2)) pe_int) (pa_cons pe_int (pa_cons (pe_un un_neg pe_int) pa_nil)))))))))) (pg_name (i := 9) sc_law_layers_right.nd rfl (.inl rfl)) (pss_one (ps_if (pt_cmpR (op_neR hr.x) (pe_call G_told (hr.mono (by omega)) (by rfl) d_told.m d_told.k d_told.b .nil pass0 (pa_cons (pv 8) (pa_cons (pe_disp (pps_cons pe_str (pv 9) pps_nil) (by rfl) (by rfl) (fun z => by cases z) (by decide)) pa_nil))) (pe_call G_lvalue (hr.mono (by omega)) (by rfl) d_lvalue.m d_lvalue.k d_lvalue.b .nil pass0 (pa_cons (pv 7) (pa_cons (pe_disp (pps_cons pe_str (pv 9) pps_nil) (by rfl) (by rfl) (fun z => by cases z) (by decide)) pa_nil))) (nomark _)) (pss_one (ps_ret pe_bl)) pss_nil)))))))
    (pss_one (ps_ret pe_bl)))))), ?_⟩
  refine ⟨_, rfl, _, _, rfl, rfl, (show (0 : Int) < 7 by decide), _, _, rfl, rfl, ?_⟩
  refine ⟨_, rfl, _, _, rfl, rfl, ⟨by decide, by decide⟩, _, _, rfl, rfl, (show (0 : Int) < 7 by decide), _, _, rfl, rfl, ?_⟩
  have ha0 := Int.emod_nonneg c (show (7 : Int) ≠ 0 by decide)
  have ha1 := Int.emod_lt_of_pos c (show (0 : Int) < 7 by decide)
  have hb0 := Int.emod_nonneg (c / 7) (show (7 : Int) ≠ 0 by decide)
  have hb1 := Int.emod_lt_of_pos (c / 7) (show (0 : Int) < 7 by decide)
  dsimp only
  generalize ea : 2 + c % 7 = a
  generalize eb : 2 + c / 7 % 7 = b
  have a0 : 2 ≤ a := by omega
  have a1 : a ≤ 8 := by omega
  have b0 : 2 ≤ b := by omega
  have b1 : b ≤ 8 := by omega
  clear ea eb ha0 ha1 hb0 hb1
  have ab0 : 0 ≤ a * b := Int.mul_nonneg (by omega) (by omega)
  have ab1 : a * b ≤ 8 * 8 := Int.mul_le_mul a1 b1 (by omega) (by decide)
  have na : NumOk a := ⟨by omega, by omega⟩
  have nb : NumOk b := ⟨by omega, by omega⟩
  have nb1 : NumOk (b + 1) := ⟨by omega, by omega⟩
  have nab : NumOk (a * b) := ⟨by omega, by omega⟩
  have n0 : NumOk 0 := by decide
  refine ⟨_, rfl, _, rfl, (by show 3 ≤ sizeLine; decide), fun p1 hp1 => ?_⟩
  have g1 := same_new hp1 (.tup [.str "part", .int a, .int b])
  have t1 : Tri (upd H p1 (.tup [.str "part", .int a, .int b])) (.ref p1) := ⟨p1, .part, a, b, rfl, upd_same, na, nb⟩
  generalize upd H p1 (.tup [.str "part", .int a, .int b]) = H1 at g1 t1 ⊢
  have gg := g1
  refine ⟨_, rfl, _, rfl, _, rfl, (by show 3 ≤ sizeLine; decide), fun p2 hp2 => ?_⟩
  have g2 := same_new hp2 (.tup [.str "part", .int a, .int (-b)])
  have t2 : Tri (upd H1 p2 (.tup [.str "part", .int a, .int (-b)])) (.ref p2) := ⟨p2, .part, a, (-b), rfl, upd_same, na, nb.neg⟩
  generalize upd H1 p2 (.tup [.str "part", .int a, .int (-b)]) = H2 at g2 t2 ⊢
  have t1 := t1.mono g2
  have gg := gg.trans g2
  refine ⟨_, rfl, _, rfl, _, rfl, (by show 3 ≤ sizeLine; decide), fun p3 hp3 => ?_⟩
  have g3 := same_new hp3 (.tup [.str "part", .int (-a), .int b])
  have t3 : Tri (upd H2 p3 (.tup [.str "part", .int (-a), .int b])) (.ref p3) := ⟨p3, .part, (-a), b, rfl, upd_same, na.neg, nb⟩
  generalize upd H2 p3 (.tup [.str "part", .int (-a), .int b]) = H3 at g3 t3 ⊢
  have t1 := t1.mono g3
  have t2 := t2.mono g3
  have gg := gg.trans g3
  refine ⟨_, rfl, _, _, rfl, rfl, _, rfl, (by show 3 ≤ sizeLine; decide), fun p4 hp4 => ?_⟩
  have g4 := same_new hp4 (.tup [.str "rest", .int (b + 1), .int b])
  have t4 : Tri (upd H3 p4 (.tup [.str "rest", .int (b + 1), .int b])) (.ref p4) := ⟨p4, .rest, (b + 1), b, rfl, upd_same, nb1, nb⟩
  generalize upd H3 p4 (.tup [.str "rest", .int (b + 1), .int b]) = H4 at g4 t4 ⊢
  have t1 := t1.mono g4
  have t2 := t2.mono g4
  have t3 := t3.mono g4
  have gg := gg.trans g4
  refine ⟨_, rfl, _, rfl, _, _, rfl, rfl, .inl ⟨by omega, by omega⟩, _, rfl, (by show 3 ≤ sizeLine; decide), fun p5 hp5 => ?_⟩
  have g5 := same_new hp5 (.tup [.str "rest", .int (a * b), .int b])
  have t5 : Tri (upd H4 p5 (.tup [.str "rest", .int (a * b), .int b])) (.ref p5) := ⟨p5, .rest, (a * b), b, rfl, upd_same, nab, nb⟩
  generalize upd H4 p5 (.tup [.str "rest", .int (a * b), .int b]) = H5 at g5 t5 ⊢
  have t1 := t1.mono g5
  have t2 := t2.mono g5
  have t3 := t3.mono g5
  have t4 := t4.mono g5
  have gg := gg.trans g5
  refine ⟨_, rfl, _, rfl, _, rfl, (by show 3 ≤ sizeLine; decide), fun p6 hp6 => ?_⟩
  have g6 := same_new hp6 (.tup [.str "rest", .int a, .int (-b)])
  have t6 : Tri (upd H5 p6 (.tup [.str "rest", .int a, .int (-b)])) (.ref p6) := ⟨p6, .rest, a, (-b), rfl, upd_same, na, nb.neg⟩
  generalize upd H5 p6 (.tup [.str "rest", .int a, .int (-b)]) = H6 at g6 t6 ⊢
  have t1 := t1.mono g6
  have t2 := t2.mono g6
  have t3 := t3.mono g6
  have t4 := t4.mono g6
  have t5 := t5.mono g6
  have gg := gg.trans g6
  refine ⟨(by show 6 ≤ sizeLine; decide), fun l1 hl1 => ?_⟩
  have gl1 := same_new hl1 (.lst [.ref p1, .ref p2, .ref p3, .ref p4, .ref p5, .ref p6])
  have el1 : upd H6 l1 (.lst [.ref p1, .ref p2, .ref p3, .ref p4, .ref p5, .ref p6]) l1 = some (.lst [.ref p1, .ref p2, .ref p3, .ref p4, .ref p5, .ref p6]) := upd_same
  generalize upd H6 l1 (.lst [.ref p1, .ref p2, .ref p3, .ref p4, .ref p5, .ref p6]) = HL at gl1 el1 ⊢
  have t1 := t1.mono gl1
  have t2 := t2.mono gl1
  have t3 := t3.mono gl1
  have t4 := t4.mono gl1
  have t5 := t5.mono gl1
  have t6 := t6.mono gl1
  have gg := gg.trans gl1
  refine ⟨_, rfl, _, rfl, (by show 3 ≤ sizeLine; decide), fun p7 hp7 => ?_⟩
  have g7 := same_new hp7 (.tup [.str "times", .int a, .int 0])
  have t7 : Tri (upd HL p7 (.tup [.str "times", .int a, .int 0])) (.ref p7) := ⟨p7, .times, a, 0, rfl, upd_same, na, n0⟩
  generalize upd HL p7 (.tup [.str "times", .int a, .int 0]) = H7 at g7 t7 ⊢
  have t1 := t1.mono g7
  have t2 := t2.mono g7
  have t3 := t3.mono g7
  have t4 := t4.mono g7
  have t5 := t5.mono g7
  have t6 := t6.mono g7
  have el1 := g7 _ _ el1
  have gg := gg.trans g7
  refine ⟨_, rfl, _, rfl, _, rfl, (by show 3 ≤ sizeLine; decide), fun p8 hp8 => ?_⟩
  have g8 := same_new hp8 (.tup [.str "times", .int a, .int (-b)])
  have t8 : Tri (upd H7 p8 (.tup [.str "times", .int a, .int (-b)])) (.ref p8) := ⟨p8, .times, a, (-b), rfl, upd_same, na, nb.neg⟩
  generalize upd H7 p8 (.tup [.str "times", .int a, .int (-b)]) = H8 at g8 t8 ⊢
  have t1 := t1.mono g8
  have t2 := t2.mono g8
  have t3 := t3.mono g8
  have t4 := t4.mono g8
  have t5 := t5.mono g8
  have t6 := t6.mono g8
  have t7 := t7.mono g8
  have el1 := g8 _ _ el1
  have gg := gg.trans g8
  refine ⟨_, rfl, _, rfl, _, rfl, (by show 3 ≤ sizeLine; decide), fun p9 hp9 => ?_⟩
  have g9 := same_new hp9 (.tup [.str "sum", .int a, .int (-b)])
  have t9 : Tri (upd H8 p9 (.tup [.str "sum", .int a, .int (-b)])) (.ref p9) := ⟨p9, .sum, a, (-b), rfl, upd_same, na, nb.neg⟩
  generalize upd H8 p9 (.tup [.str "sum", .int a, .int (-b)]) = H9 at g9 t9 ⊢
  have t1 := t1.mono g9
  have t2 := t2.mono g9
  have t3 := t3.mono g9
  have t4 := t4.mono g9
  have t5 := t5.mono g9
  have t6 := t6.mono g9
  have t7 := t7.mono g9
  have t8 := t8.mono g9
  have el1 := g9 _ _ el1
  have gg := gg.trans g9
  refine ⟨_, rfl, _, rfl, _, rfl, (by show 3 ≤ sizeLine; decide), fun p10 hp10 => ?_⟩
  have g10 := same_new hp10 (.tup [.str "less", .int (-a), .int b])
  have t10 : Tri (upd H9 p10 (.tup [.str "less", .int (-a), .int b])) (.ref p10) := ⟨p10, .less, (-a), b, rfl, upd_same, na.neg, nb⟩
  generalize upd H9 p10 (.tup [.str "less", .int (-a), .int b]) = H10 at g10 t10 ⊢
  have t1 := t1.mono g10
  have t2 := t2.mono g10
  have t3 := t3.mono g10
  have t4 := t4.mono g10
  have t5 := t5.mono g10
  have t6 := t6.mono g10
  have t7 := t7.mono g10
  have t8 := t8.mono g10
  have t9 := t9.mono g10
  have el1 := g10 _ _ el1
  have gg := gg.trans g10
  refine ⟨(by show 4 ≤ sizeLine; decide), fun l2 hl2 => ?_⟩
  have gl2 := same_new hl2 (.lst [.ref p7, .ref p8, .ref p9, .ref p10])
  have el2 : upd H10 l2 (.lst [.ref p7, .ref p8, .ref p9, .ref p10]) l2 = some (.lst [.ref p7, .ref p8, .ref p9, .ref p10]) := upd_same
  generalize upd H10 l2 (.lst [.ref p7, .ref p8, .ref p9, .ref p10]) = HM at gl2 el2 ⊢
  refine ⟨_, _, _, _, rfl, rfl, gl2 _ _ el1, el2, (by show 10 ≤ sizeLine; decide), fun l3 hl3 => ?_⟩
  have gl3 := same_new hl3 (.lst ([.ref p1, .ref p2, .ref p3, .ref p4, .ref p5, .ref p6] ++ [.ref p7, .ref p8, .ref p9, .ref p10]))
  have el3 : upd HM l3 (.lst ([.ref p1, .ref p2, .ref p3, .ref p4, .ref p5, .ref p6] ++ [.ref p7, .ref p8, .ref p9, .ref p10])) l3 = some (.lst [.ref p1, .ref p2, .ref p3, .ref p4, .ref p5, .ref p6, .ref p7, .ref p8, .ref p9, .ref p10]) := upd_same
  generalize upd HM l3 (.lst ([.ref p1, .ref p2, .ref p3, .ref p4, .ref p5, .ref p6] ++ [.ref p7, .ref p8, .ref p9, .ref p10])) = HN at gl3 el3 ⊢
  have gg := gg.trans (gl2.trans gl3)
  have all : ∀ v ∈ ([.ref p1, .ref p2, .ref p3, .ref p4, .ref p5, .ref p6, .ref p7, .ref p8, .ref p9, .ref p10] : List V), Tri HN v := by
    intro v hv
    simp only [List.mem_cons, List.mem_nil_iff, or_false] at hv
    have gx := gl2.trans gl3
    rcases hv with rfl | rfl | rfl | rfl | rfl | rfl | rfl | rfl | rfl | rfl
    · exact t1.mono gx
    · exact t2.mono gx
    · exact t3.mono gx
    · exact t4.mono gx
    · exact t5.mono gx
    · exact t6.mono gx
    · exact t7.mono gx
    · exact t8.mono gx
    · exact t9.mono gx
    · exact t10.mono gx
  refine ⟨l3, rfl, ⟨_, .inl (.inl el3)⟩, ?_⟩
  refine for_list (K := K) (a := l3) (xs := [.ref p1, .ref p2, .ref p3, .ref p4, .ref p5, .ref p6, .ref p7, .ref p8, .ref p9, .ref p10]) (fun i σ H' => Same HN H' ∧ ∃ z4 z5 z6 z7 z8 z9, σ = [some (.int c), some (.int a), some (.int b), some (.ref l1), z4, z5, z6, z7, z8, z9])
    ⟨Same.refl _, none, none, none, none, none, none, rfl⟩ (fun i σ H' _ hI => .inl (.inl (hI.1 _ _ el3))) (fun i x σ H' hx hI => ?_) (fun σ H' hI => ?_)
  · obtain ⟨g, z4, z5, z6, z7, z8, z9, rfl⟩ := hI
    obtain ⟨p, o, m, n, rfl, hp, hm, hn⟩ := (all x (List.mem_of_getElem? hx)).mono g
    refine ⟨p, _, rfl, .inl (.inl hp), rfl, _, _, rfl, _, _, rfl, _, _, rfl, rfl, ?_⟩
    refine ⟨_, rfl, _, rfl, (by show 2 ≤ sizeLine; decide), fun q1 hq1 => ?_⟩
    have h1 := same_new hq1 (.tup [.str "name", .str "x"])
    have e1 : Bears (upd H' q1 (.tup [.str "name", .str "x"])) (.ref q1) (.nam "x") := .nam upd_same
    generalize upd H' q1 (.tup [.str "name", .str "x"]) = K1 at h1 e1 ⊢
    refine ⟨_, rfl, (by show 2 ≤ sizeLine; decide), fun q2 hq2 => ?_⟩
    obtain ⟨h2, e2⟩ := new_num (j := m) hq2
    have e1 := e1.mono (Tups.of h2)
    generalize upd K1 q2 (.tup [.str "num", .int m]) = K2 at h2 e2 e1 ⊢
    refine ⟨(by show 3 ≤ sizeLine; decide), fun q3 hq3 => ?_⟩
    have h3 := same_new hq3 (.tup [.str o.str, .ref q1, .ref q2])
    have e3 : Bears (upd K2 q3 (.tup [.str o.str, .ref q1, .ref q2])) (.ref q3) (.two o (.nam "x") (.num m)) := .two upd_same (e1.mono (Tups.of h3)) (e2.mono (Tups.of h3))
    generalize upd K2 q3 (.tup [.str o.str, .ref q1, .ref q2]) = K3 at h3 e3 ⊢
    refine ⟨_, rfl, (by show 2 ≤ sizeLine; decide), fun q4 hq4 => ?_⟩
    obtain ⟨h4, e4⟩ := new_num (j := n) hq4
    have e3 := e3.mono (Tups.of h4)
    generalize upd K3 q4 (.tup [.str "num", .int n]) = K4 at h4 e4 e3 ⊢
    refine ⟨(by show 3 ≤ sizeLine; decide), fun q5 hq5 => ?_⟩
    have h5 := same_new hq5 (.tup [.str o.str, .ref q3, .ref q4])
    have e5 : Bears (upd K4 q5 (.tup [.str o.str, .ref q3, .ref q4])) (.ref q5) (.two o (.two o (.nam "x") (.num m)) (.num n)) := .two upd_same (e3.mono (Tups.of h5)) (e4.mono (Tups.of h5))
    generalize upd K4 q5 (.tup [.str o.str, .ref q3, .ref q4]) = K5 at h5 e5 ⊢
    have okE : (Ex.two o (.two o (.nam "x") (.num m)) (.num n)).ok := ⟨⟨okx, hm⟩, hn⟩
    have dE : (Ex.two o (.two o (.nam "x") (.num m)) (.num n)).deep = 3 := rfl
    have g15 := g.trans (h1.trans (h2.trans (h3.trans (h4.trans h5))))
    generalize Ex.two o (.two o (.nam "x") (.num m)) (.num n) = e at e5 okE dE
    refine ⟨_, rfl, fun dd hdd => ?_⟩
    have h6 := same_new hdd (.dK [])
    refine ⟨.ref q5, e, dd, [], rfl, e5.mono (Tups.of h6), okE, by omega, upd_same, .nil, (show 0 + e.deep ≤ 1000 by omega), fun K7 r h7 br => ?_⟩
    have okF := fold_ok e (stg []) okE AOk.nil.stg
    have dF := fold_deep e (stg [])
    have e7 := e5.mono (Tups.of (h6.trans h7))
    have g17 := g15.trans (h6.trans h7)
    refine ⟨_, rfl, _, rfl, _, _, rfl, rfl, _, rfl, _, rfl, _, _, rfl, rfl, _, rfl, _, _, rfl, rfl, _, rfl, _, rfl, _, _, rfl, rfl, .inl ⟨by omega, by omega⟩, _, _, rfl, rfl, _, rfl, (by show 8 ≤ sizeLine; decide), fun ln hln => ?_⟩
    have h8 := same_new hln (.lst [.int 1, .int (-1), .int (a + 1), .int (-a - 1), .int (b + 1), .int (a * b + 1), .int 1000000000, .int (-999999999)])
    have eln : upd K7 ln (.lst [.int 1, .int (-1), .int (a + 1), .int (-a - 1), .int (b + 1), .int (a * b + 1), .int 1000000000, .int (-999999999)]) ln = some (.lst [.int 1, .int (-1), .int (a + 1), .int (-a - 1), .int (b + 1), .int (a * b + 1), .int 1000000000, .int (-999999999)]) := upd_same
    have e8 := e7.mono (Tups.of h8)
    have br8 := br.mono (Tups.of h8)
    have g18 := g17.trans h8
    generalize upd K7 ln (.lst [.int 1, .int (-1), .int (a + 1), .int (-a - 1), .int (b + 1), .int (a * b + 1), .int 1000000000, .int (-999999999)]) = K8 at h8 eln e8 br8 g18 ⊢
    refine ⟨ln, rfl, ⟨_, .inl (.inl eln)⟩, ?_⟩
    refine for_list (K := K) (a := ln) (xs := [.int 1, .int (-1), .int (a + 1), .int (-a - 1), .int (b + 1), .int (a * b + 1), .int 1000000000, .int (-999999999)]) (fun i σ H2 => Same K8 H2 ∧ ∃ z9, σ = [some (.int c), some (.int a), some (.int b), some (.ref l1), some (.str o.str), some (.int m), some (.int n), some (.ref q5), some r, z9])
      ⟨Same.refl _, _, rfl⟩ (fun i σ H2 _ hI => .inl (.inl (hI.1 _ _ eln))) (fun i x σ H2 hx hI => ?_) (fun σ H2 hI => ?_)
    · obtain ⟨g9, z9, rfl⟩ := hI
      have hnum : ∃ j, x = .int j ∧ NumOk j := by
        have hx := List.mem_of_getElem? hx
        simp only [List.mem_cons, List.mem_nil_iff, or_false] at hx
        rcases hx with rfl | rfl | rfl | rfl | rfl | rfl | rfl | rfl
        · exact ⟨_, rfl, by decide⟩
        · exact ⟨_, rfl, by decide⟩
        · exact ⟨_, rfl, ⟨by omega, by omega⟩⟩
        · exact ⟨_, rfl, ⟨by omega, by omega⟩⟩
        · exact ⟨_, rfl, ⟨by omega, by omega⟩⟩
        · exact ⟨_, rfl, ⟨by omega, by omega⟩⟩
        · exact ⟨_, rfl, by decide⟩
        · exact ⟨_, rfl, by decide⟩
      obtain ⟨j, rfl, hj⟩ := hnum
      have aX := okX hj
      have vE : value (fold e (stg [])) (stg [("x", j)]) = value e (stg [("x", j)]) := fold_value e _ _ okE AOk.nil.stg aX.stg (fun _ _ zz => by cases zz)
      refine ⟨_, rfl, fun d1 hd1 => ⟨_, rfl, upd_same, [(Sum.inr "x", .int j)], rfl, (by show 1 ≤ 15; decide), ?_⟩⟩
      have s1 : Same H2 (upd (upd H2 d1 (.dK [])) d1 (.dK (mergeK [] [(Sum.inr "x", .int j)]))) := same_put (same_new hd1 (.dK [])) hd1
      have k1 : upd (upd H2 d1 (.dK [])) d1 (.dK (mergeK [] [(Sum.inr "x", .int j)])) d1 = some (.dK (dS [("x", j)])) := upd_same
      generalize upd (upd H2 d1 (.dK [])) d1 (.dK (mergeK [] [(Sum.inr "x", .int j)])) = J1 at s1 k1 ⊢
      refine ⟨r, fold e (stg []), d1, [("x", j)], rfl, br8.mono (Tups.of (g9.trans s1)), okF, by omega, k1, aX, (show 1 + _ ≤ 1000 by omega), fun J2 p1 s2 hp1 => ?_⟩
      refine ⟨_, rfl, fun d2 hd2 => ⟨_, rfl, upd_same, [(Sum.inr "x", .int j)], rfl, (by show 1 ≤ 15; decide), ?_⟩⟩
      have s3 : Same J2 (upd (upd J2 d2 (.dK [])) d2 (.dK (mergeK [] [(Sum.inr "x", .int j)]))) := same_put (same_new hd2 (.dK [])) hd2
      have k2 : upd (upd J2 d2 (.dK [])) d2 (.dK (mergeK [] [(Sum.inr "x", .int j)])) d2 = some (.dK (dS [("x", j)])) := upd_same
      generalize upd (upd J2 d2 (.dK [])) d2 (.dK (mergeK [] [(Sum.inr "x", .int j)])) = J3 at s3 k2 ⊢
      have g93 := g9.trans (s1.trans (s2.trans s3))
      refine ⟨.ref q5, e, d2, stg [("x", j)], dS [("x", j)], rfl, e8.mono (Tups.of g93), okE, by omega, k2, (show 1 + _ ≤ 1000 by omega), dS_val _, aX.stg, fun J4 p2 s4 hp2 => ?_⟩
      refine ⟨_, _, ⟨_, rfl, s4 _ _ (s3 _ _ hp1)⟩, ⟨_, rfl, hp2⟩, value_rok _ okF aX.stg, value_rok _ okE aX.stg, false, congrArg V.bl (by rw [vE]; simp), iteF ?_⟩
      exact ⟨g93.trans s4, _, rfl⟩
    · obtain ⟨g9, z9, rfl⟩ := hI
      exact ⟨g18.trans g9, _, _, _, _, _, _, rfl⟩
  · exact q H' (gg.trans hI.1)
end
end FC
namespace FC
open PySem L2 StX PyProof.Rows
def unkn (l : AL) (p : Str × Int) : Bool := (stg l p.1).isNone
/-- what isn't known of a setting -/
def restS (l s : AL) : AL := s.filter (unkn l)
theorem stg_rest (l : AL) {x : Str} (h : stg l x = none) : ∀ s : AL, stg (restS l s) x = stg s x
  | [] => rfl
  | p :: r => by
    have ih := stg_rest l h r
    unfold restS at ih ⊢
    by_cases hp : p.1 = x
    · have hu : unkn l p = true := by unfold unkn; rw [hp, h]; rfl
      rw [List.filter_cons_of_pos hu, stg_cons, stg_cons, if_pos hp, if_pos hp]
    · by_cases hu : unkn l p = true
      · rw [List.filter_cons_of_pos hu, stg_cons, stg_cons, if_neg hp, if_neg hp]
        exact ih
      · rw [List.filter_cons_of_neg hu, stg_cons, if_neg hp]
        exact ih
theorem AOk.rest {s : AL} (h : AOk s) (l : AL) : AOk (restS l s) :=
  ⟨(List.Sublist.map _ List.filter_sublist).nodup h.nd, fun p hp => h.nm p (List.mem_filter.mp hp).1⟩
theorem take_put {s : AL} (h : (s.map (·.1)).Nodup) {i : Nat} {p : Str × Int} (hp : s[i]? = some p) : putS (s.take i) p.1 p.2 = s.take (i + 1) := by
  have e1 : s.take (i + 1) = s.take i ++ [p] := by rw [List.take_add_one, hp]; rfl
  have nd : ((s.take (i + 1)).map (·.1)).Nodup := ((List.take_sublist _ _).map _).nodup h
  rw [e1, List.map_append] at nd
  have := List.nodup_append.mp nd
  rw [putS_new (fun hm => this.2.2 p.1 hm p.1 (by simp) rfl), e1]
theorem rest_put {s : AL} (l : AL) (h : (s.map (·.1)).Nodup) {i : Nat} {p : Str × Int} (hp : s[i]? = some p) (hu : unkn l p = true) : putS (restS l (s.take i)) p.1 p.2 = restS l (s.take (i + 1)) := by
  have e1 : s.take (i + 1) = s.take i ++ [p] := by rw [List.take_add_one, hp]; rfl
  have nd : ((s.take (i + 1)).map (·.1)).Nodup := ((List.take_sublist _ _).map _).nodup h
  rw [e1, List.map_append] at nd
  have := List.nodup_append.mp nd
  have e2 : restS l (s.take (i + 1)) = restS l (s.take i) ++ [p] := by
    unfold restS
    rw [e1, List.filter_append, List.filter_cons_of_pos hu]
    rfl
  rw [e2, putS_new]
  intro hm
  obtain ⟨q, hq, e⟩ := List.mem_map.mp hm
  exact this.2.2 q.1 (List.mem_map.mpr ⟨q, (List.mem_filter.mp hq).1, rfl⟩) p.1 (by simp) e
theorem rest_skip {s : AL} (l : AL) {i : Nat} {p : Str × Int} (hp : s[i]? = some p) (hu : ¬ unkn l p = true) : restS l (s.take (i + 1)) = restS l (s.take i) := by
  have e1 : s.take (i + 1) = s.take i ++ [p] := by rw [List.take_add_one, hp]; rfl
  unfold restS
  rw [e1, List.filter_append, List.filter_cons_of_neg hu]
  simp
theorem rest_len (l s : AL) : (restS l s).length ≤ s.length := List.length_filter_le _ _
section
variable {P : Program} {w : World} {K : PySem.W.Frag} {mg : Str → Option Value} {base : Heap} {t1 t2 : Tok} {f g f1 f2 f3 f4 f5 f6 f7 f8 f9 f10 : Addr} {fd gd fd1 fd2 fd3 fd4 fd5 fd6 fd7 fd8 fd9 fd10 : FuncData}
theorem scLaw : FnScope ["_law_script", "_law_expr", "_law_known", "_law_found", "_law_turn", "_law_left", "_law_setting", "_law_rest", "_law_name", "_law_number", "_law_due"] ["_law_script"] (defScope sLaw) := ⟨rfl, rfl, rfl, by decide +kernel, rfl, by decide +kernel, by decide +kernel⟩
theorem ok_law10 (d : Df K mg "law" sLaw ["_law_script"] f fd) (z : Bl2 mg)
    (d_mixed : Df K mg "_law_mixed" sMixed ["_law_script"] f1 fd1) (G_mixed : FnOk P w K mg base CX0 1 f1 fd1 ["_law_script"] (spMixed K))
    (d_exprBy : Df K mg "_law_expr_by" sExprBy ["_law_script"] f2 fd2) (G_exprBy : FnOk P w K mg base CX0 4 f2 fd2 ["_law_script"] (spExprBy K))
    (d_knownBy : Df K mg "_law_known_by" s_law_known_by ["_law_script"] f3 fd3) (G_knownBy : FnOk P w K mg base CX0 3 f3 fd3 ["_law_script"] (spKnownBy K))
    (d_settingBy : Df K mg "_law_setting_by" s_law_setting_by ["_law_script", "_law_turn"] f4 fd4) (G_settingBy : FnOk P w K mg base CX0 3 f4 fd4 ["_law_script", "_law_turn"] (spSettingBy K))
    (d_isExpr : Df K mg "_law_is_expr" s_law_is_expr ["_law_expr"] f5 fd5) (G_isExpr : FnOk P w K mg base CX0 101 f5 fd5 ["_law_expr"] (spIsExpr 100))
    (d_lvalue : Df K mg "_law_value" s_law_value ["_law_expr", "_law_setting"] f6 fd6) (G_lvalue : FnOk P w K mg base CX0 101 f6 fd6 ["_law_expr", "_law_setting"] (spLValue 100))
    (d_told : Df K mg "_law_told" s_law_told ["_law_expr", "_law_setting"] f7 fd7) (G_told : FnOk P w K mg base CX0 64 f7 fd7 ["_law_expr", "_law_setting"] (spTold 60))
    (d_layers : Df K mg "_law_layers_right" s_law_layers_right ["_law_cell"] f8 fd8) (G_layers : FnOk P w K mg base CX0 211 f8 fd8 ["_law_cell"] spLayersR)
    (d_cellAt : Df K mg "_law_cell_at" sCellAt ["_law_script", "_law_k"] f9 fd9)
    (d_folded : Df K mg "folded" s_folded ["expr", "known"] f10 fd10) (G_folded : FnOk P w K mg base CX0 210 f10 fd10 ["expr", "known"] (spFold 60)) :
    FnOk P w K mg base CX0 212 f fd ["_law_script"] (spLaw K) := by
  refine d.F.ok scLaw (fun vs H Q E h => ?_) (fun cdv A outer s H vs Q E hr h => ?_)
  · obtain ⟨a, ns, rfl, _⟩ := h
    rfl
  obtain ⟨a, ns, rfl, hS, h63, q⟩ := h
  have G_cellAt := ok_cellAt (P := P) (w := w) (base := base) d_cellAt z.toBl
  refine ⟨_, (pss_cons (ps_set (i := 0) scLaw.nd rfl (.inl rfl) (pe_call G_mixed (hr.mono (by omega)) (by rfl) d_mixed.m d_mixed.k d_mixed.b .nil pass0 (pa_cons (pv 0) pa_nil)))
    (pss_cons (ps_set (i := 1) scLaw.nd rfl (.inl rfl) (pe_call G_exprBy (hr.mono (by omega)) (by rfl) d_exprBy.m d_exprBy.k d_exprBy.b .nil pass0 (pa_cons (pv 0) pa_nil)))
    (pss_cons (ps_set (i := 2) scLaw.nd rfl (.inl rfl) (pe_call G_knownBy (hr.mono (by omega)) (by rfl) d_knownBy.m d_knownBy.k d_knownBy.b .nil pass0 (pa_cons (pv 0) pa_nil)))
    (pss_cons (ps_set (i := 3) scLaw.nd rfl (.inl rfl) (pe_call G_folded (hr.mono (by omega)) (by rfl) d_folded.m d_folded.k d_folded.b .nil pass0 (pa_cons (pv 1) (pa_cons (pe_callTy call_dictD (by rfl) z.dict (by decide +kernel) (pa_cons (pv 2) pa_nil)) pa_nil))))
    (pss_cons (ps_if (pt_not (pt_val (pe_call G_isExpr (hr.mono (by omega)) (by rfl) d_isExpr.m d_isExpr.k d_isExpr.b .nil pass0 (pa_cons (pv 3) pa_nil)))) (pss_one (ps_ret pe_bl)) pss_nil)
    (pss_cons (ps_for PassesOwn.never rfl (pi_range1 (by rfl) z.range (pa_cons pe_int pa_nil)) (pg_name (i := 4) scLaw.nd rfl (.inl rfl)) (pss_cons (ps_set (i := 5) scLaw.nd rfl (.inl rfl) (pe_call G_settingBy (hr.mono (by omega)) (by rfl) d_settingBy.m d_settingBy.k d_settingBy.b .nil pass0 (pa_cons (pv 0) (pa_cons (pv 4) pa_nil))))
    (pss_cons (ps_set (i := 6) scLaw.nd rfl (.inl rfl) pe_dnewK)
    (pss_cons (ps_set (i := 7) scLaw.nd rfl (.inl rfl) pe_dnewK)
    (pss_cons (ps_lock (ps_for PassesOwn.never rfl (pi_items (pv 5)) (pg_tup rfl (pgs_cons (pg_name (i := 8) scLaw.nd rfl (.inl rfl)) (pgs_cons (pg_name (i := 9) scLaw.nd rfl (.inl rfl)) pgs_nil))) (pss_cons (ps_dput (hu_of hr) (pv 6) (pv 8) (pv 9) rfl)
    (pss_one (ps_if (pt_cmp (pc_dnotin (hu_of hr) (pv 8) (pv 2))) (pss_one (ps_dput (hu_of hr) (pv 7) (pv 8) (pv 9) rfl)) pss_nil)))))
    (pss_cons (ps_expr (pe_bm PySem.F.plainAttrs_dict PySem.F.slot_dict_update PySem.F.type_dict_update mtd_update (pv 6) (pa_cons (pv 2) pa_nil)))
    (pss_cons (ps_set (i := 10) scLaw.nd rfl (.inl rfl) (pe_call G_lvalue (hr.mono (by omega)) (by rfl) d_lvalue.m d_lvalue.k d_lvalue.b .nil pass0 (pa_cons (pv 1) (pa_cons (pv 6) pa_nil))))
    (pss_cons (ps_if (PW.pt (pw_or (pt_cmpR (op_neR hr.x) (pe_call G_lvalue (hr.mono (by omega)) (by rfl) d_lvalue.m d_lvalue.k d_lvalue.b .nil pass0 (pa_cons (pv 3) (pa_cons (pv 6) pa_nil))) (pv 10) (nomark _)) (pw_or1 (pt_cmpR (op_neR hr.x) (pe_call G_lvalue (hr.mono (by omega)) (by rfl) d_lvalue.m d_lvalue.k d_lvalue.b .nil pass0 (pa_cons (pv 3) (pa_cons (pv 7) pa_nil))) (pv 10) (nomark _))))) (pss_one (ps_ret pe_bl)) pss_nil)
    (pss_one (ps_if (pt_cmpR (op_neR hr.x) (pe_call G_told (hr.mono (by omega)) (by rfl) d_told.m d_told.k d_told.b .nil pass0 (pa_cons (pv 3) (pa_cons (pe_callTy call_dictD (by rfl) z.dict (by decide +kernel) (pa_cons (pv 7) pa_nil)) pa_nil))) (pv 10) (nomark _)) (pss_one (ps_ret pe_bl)) pss_nil))))))))))
    (pss_one (ps_ret (pe_call G_layers (hr.mono (by omega)) (by rfl) d_layers.m d_layers.k d_layers.b .nil pass0 (pa_cons (pe_call G_cellAt (hr.mono (by omega)) (by rfl) d_cellAt.m d_cellAt.k d_cellAt.b .nil pass0 (pa_cons (pv 0) (pa_cons pe_int pa_nil))) pa_nil)))))))))), ?_⟩
  refine ⟨_, rfl, a, ns, rfl, hS, h63, fun H1 p ms g1 hp hl hnn => ?_⟩
  refine ⟨_, rfl, p, ms, rfl, .inl (.inl hp), hnn, by omega, fun H2 v e g2 b2 ok hsz hd60 => ?_⟩
  have hd : e.deep ≤ 100 := Nat.le_trans hd60 (by decide)
  refine ⟨_, rfl, p, ms, rfl, .inl (.inl (g2 _ _ hp)), hnn, fun H3 kd l g3 hk0 hk hA hlen => ?_⟩
  have b3 := b2.mono (Tups.of g3)
  have hp3 := g3 _ _ (g2 _ _ hp)
  refine ⟨_, rfl, _, rfl, kd, dS l, rfl, .inl hk, fun hh hn => ?_⟩
  have g5 := same_new hn (.dK (dS l))
  have okf := fold_ok e (stg l) ok hA.stg
  have dpf := fold_deep e (stg l)
  refine ⟨v, e, hh, l, rfl, b3.mono (Tups.of g5), ok, hd60, upd_same, hA, by omega, fun H6 vf g6 bf => ?_⟩
  have g36 := g5.trans g6
  have hk6 := g36 _ _ hk
  have b6 := b3.mono (Tups.of g36)
  have hp6 := g36 _ _ hp3
  clear g1 g2 g3 b2 b3 g5 hp3 g6 g36
  refine ⟨_, rfl, vf, _, rfl, bf, okf, by omega, fun H7 g7 => ⟨true, rfl, iteF ?_⟩⟩
  refine ⟨6, rfl, by decide, by decide, ?_⟩
  refine for_range (lo := 0) (n := 6) (fun i σ H => Same H6 H ∧ ∃ z4 z5 z6 z7 z8 z9 z10, σ = [some (.ref p), some v, some (.ref kd), some vf, z4, z5, z6, z7, z8, z9, z10]) ⟨g7, none, none, none, none, none, none, none, rfl⟩ (fun i σ H hi hP => ?_) (fun σ H hP => ?_)
  rotate_left
  · obtain ⟨g, z4, z5, z6, z7, z8, z9, z10, rfl⟩ := hP
    exact ⟨_, rfl, p, ms, 2, rfl, .inl (.inl (g _ _ hp6)), by decide, hnn, fun c hc => ⟨c, rfl, hc, fun H' _ => q _⟩⟩
  obtain ⟨g8, z4, z5, z6, z7, z8, z9, z10, rfl⟩ := hP
  refine ⟨_, rfl, _, rfl, p, ms, _, rfl, .inl (.inl (g8 _ _ hp6)), hnn, by omega, by omega, fun H9 ks s g9 hks0 hks hAs hlens => ?_⟩
  refine fun c1 hc1 => ?_
  have ga := same_new hc1 (.dK [])
  have e1 : upd H9 c1 (.dK []) c1 = some (.dK (dS (s.take 0))) := upd_same
  have hks1 := ga _ _ hks
  generalize upd H9 c1 (.dK []) = Ha at ga e1 hks1 ⊢
  refine fun c2 hc2 => ?_
  have gb := same_new hc2 (.dK [])
  have e2 : upd Ha c2 (.dK []) c2 = some (.dK (dS (restS l (s.take 0)))) := upd_same
  have n12 : c1 ≠ c2 := ne_of_none e1 hc2
  have hks2 := gb _ _ hks1
  have e1 := gb _ _ e1
  have nk1 : ks ≠ c1 := ne_of_none hks hc1
  have nk2 : ks ≠ c2 := ne_of_none hks1 hc2
  have g6b := g8.trans (g9.trans (ga.trans gb))
  have hkb := g6b _ _ hk6
  have nkd : kd ≠ ks := fun zz => by rw [← zz] at hks0; rw [g8 _ _ hk6] at hks0; cases hks0
  have nkd1 : kd ≠ c1 := ne_of_none (g9 _ _ (g8 _ _ hk6)) hc1
  have nkd2 : kd ≠ c2 := ne_of_none (ga _ _ (g9 _ _ (g8 _ _ hk6))) hc2
  have new6 : ∀ b u, H6 b = some u → b ≠ ks ∧ b ≠ c1 ∧ b ≠ c2 := fun b u hu => ⟨ne_of_none (g8 _ _ hu) hks0, ne_of_none (g9 _ _ (g8 _ _ hu)) hc1, ne_of_none (ga _ _ (g9 _ _ (g8 _ _ hu))) hc2⟩
  generalize upd Ha c2 (.dK []) = Hb at gb e2 e1 hks2 g6b hkb ⊢
  refine ⟨ks, .dK (dS s), hks2, trivial, fun od => ?_⟩
  refine ⟨_, rfl, ks, od, dS s, rfl, upd_same, ?_⟩
  refine for_items (fun j σ H2 => H2 ks = some (.frz od (.dK (dS s))) ∧ (∀ b u, H6 b = some u → H2 b = some u) ∧ H2 c1 = some (.dK (dS (s.take j))) ∧ H2 c2 = some (.dK (dS (restS l (s.take j)))) ∧ ∃ z8 z9 z10, σ = [some (.ref p), some v, some (.ref kd), some vf, some (.int (0 + (i : Int))), some (.ref ks), some (.ref c1), some (.ref c2), z8, z9, z10])
    ⟨upd_same, fun b u hu => by rw [upd_ne (new6 b u hu).1]; exact g6b b u hu, by rw [upd_ne (Ne.symm nk1)]; exact e1, by rw [upd_ne (Ne.symm nk2)]; exact e2, _, _, _, rfl⟩ (fun j σ H2 _ hP => hP.1) (fun j k u T σ H2 hk2 hP hT => ?_) (fun σ H2 hP => ?_)
  · obtain ⟨hfz, hst, h1, h2, z8, z9, z10, rfl⟩ := hP
    obtain ⟨pr, hpr, rfl, rfl⟩ := dS_get hk2
    have hjl : j < s.length := (List.getElem?_eq_some_iff.mp hpr).1
    have nT : ∀ {b u}, H2 b = some u → b ≠ T := fun e => ne_of_none e hT
    have hl9 : (s.take j).length ≤ 900 := by rw [List.length_take]; omega
    have hl10 := rest_len l (s.take j)
    refine ⟨T, _, rfl, .inl (.inl upd_same), rfl, _, _, rfl, _, _, rfl, rfl, ?_⟩
    have hT1 : upd H2 T (.tup [kV (Sum.inr pr.1), .int pr.2]) c1 = some (.dK (dS (s.take j))) := by rw [upd_ne (nT h1)]; exact h1
    have hT2 : upd H2 T (.tup [kV (Sum.inr pr.1), .int pr.2]) c2 = some (.dK (dS (restS l (s.take j)))) := by rw [upd_ne (nT h2)]; exact h2
    have hTf : upd H2 T (.tup [kV (Sum.inr pr.1), .int pr.2]) ks = some (.frz od (.dK (dS s))) := by rw [upd_ne (nT hfz)]; exact hfz
    have hTs : ∀ b u, H6 b = some u → upd H2 T (.tup [kV (Sum.inr pr.1), .int pr.2]) b = some u := fun b u hu => by rw [upd_ne (nT (hst b u hu))]; exact hst b u hu
    generalize upd H2 T (.tup [kV (Sum.inr pr.1), .int pr.2]) = H3 at hT1 hT2 hTf hTs ⊢
    refine ⟨_, rfl, _, rfl, _, rfl, c1, _, rfl, DPut.k (k := Sum.inr pr.1) hT1 (by rw [dS_len]; exact small1000 (by omega)), ?_⟩
    rw [dS_put, take_put hAs.nd hpr]
    have q1 : upd H3 c1 (.dK (dS (s.take (j + 1)))) c1 = some (.dK (dS (s.take (j + 1)))) := upd_same
    have q2 : upd H3 c1 (.dK (dS (s.take (j + 1)))) c2 = some (.dK (dS (restS l (s.take j)))) := by rw [upd_ne (Ne.symm n12)]; exact hT2
    have qf : upd H3 c1 (.dK (dS (s.take (j + 1)))) ks = some (.frz od (.dK (dS s))) := by rw [upd_ne nk1]; exact hTf
    have qs : ∀ b u, H6 b = some u → upd H3 c1 (.dK (dS (s.take (j + 1)))) b = some u := fun b u hu => by rw [upd_ne (new6 b u hu).2.1]; exact hTs b u hu
    generalize upd H3 c1 (.dK (dS (s.take (j + 1)))) = H4 at q1 q2 qf qs ⊢
    have hv := dS_val l pr.1
    refine ⟨_, rfl, _, rfl, kd, _, rfl, DGet.k (k := Sum.inr pr.1) (qs _ _ hk6), _, rfl, ?_⟩
    rw [hv]
    cases hs : stg l pr.1 with
    | some m =>
      have hu : ¬ unkn l pr = true := by unfold unkn; rw [hs]; simp
      exact iteF ⟨qf, qs, q1, by rw [rest_skip l hpr hu]; exact q2, _, _, _, rfl⟩
    | none =>
      have hu : unkn l pr = true := by unfold unkn; rw [hs]; rfl
      refine iteT ⟨_, rfl, _, rfl, _, rfl, c2, _, rfl, DPut.k (k := Sum.inr pr.1) q2 (by rw [dS_len]; exact small1000 (by omega)), ?_⟩
      rw [dS_put, rest_put l hAs.nd hpr hu]
      exact ⟨by rw [upd_ne nk2]; exact qf, fun b u hu => by rw [upd_ne (new6 b u hu).2.2]; exact qs b u hu, by rw [upd_ne n12]; exact q1, upd_same, _, _, _, rfl⟩
  obtain ⟨hfz, hst, h1, h2, z8, z9, z10, rfl⟩ := hP
  rw [dS_len, List.take_length] at h1 h2
  refine ⟨hfz, ?_⟩
  have gc : Same H6 (upd H2 ks (.dK (dS s))) := fun b u hu => by rw [upd_ne (new6 b u hu).1]; exact hst b u hu
  have h1 : upd H2 ks (.dK (dS s)) c1 = some (.dK (dS s)) := by rw [upd_ne (Ne.symm nk1)]; exact h1
  have h2 : upd H2 ks (.dK (dS s)) c2 = some (.dK (dS (restS l s))) := by rw [upd_ne (Ne.symm nk2)]; exact h2
  generalize upd H2 ks (.dK (dS s)) = Hc at gc h1 h2 ⊢
  have hkc := gc _ _ hk6
  refine ⟨_, rfl, .inr (.inr (.inl ⟨rfl, .inl ⟨_, h1⟩⟩)), _, rfl, c1, kd, dS s, dS l, rfl, rfl, Ne.symm nkd1, h1, hkc, by rw [dS_len, dS_len]; exact Nat.le_of_lt (small1000 (by omega)), ?_⟩
  rw [merge_all]
  have gd : Same H6 (upd Hc c1 (.dK (dS (putAll s l)))) := fun b u hu => by rw [upd_ne (new6 b u hu).2.1]; exact gc b u hu
  have k1 : upd Hc c1 (.dK (dS (putAll s l))) c1 = some (.dK (dS (putAll s l))) := upd_same
  have k2 : upd Hc c1 (.dK (dS (putAll s l))) c2 = some (.dK (dS (restS l s))) := by rw [upd_ne (Ne.symm n12)]; exact h2
  generalize upd Hc c1 (.dK (dS (putAll s l))) = Hd at gd k1 k2 ⊢
  have hAS : AOk (putAll s l) := AOk.putAll hAs hA.nm
  have hAR := hAs.rest l
  have hSl := putAll_len l s
  have hRl := rest_len l s
  have leS : (stg l).le (stg (putAll s l)) := fun w n ew => by rw [stg_putAll l s w hA.nd, ew]
  have vA : value (fold e (stg l)) (stg (putAll s l)) = value e (stg (putAll s l)) := fold_value e _ _ ok hA.stg hAS.stg leS
  have vR : value (fold e (stg l)) (stg (restS l s)) = value e (stg (putAll s l)) := fold_value_less e _ _ _ ok hA.stg hAS.stg leS fun x hx => by rw [stg_rest l hx, stg_putAll l s x hA.nd, hx]
  have hSk : ∀ x : Ex, x.deep ≤ 100 → (dS (putAll s l)).length + x.deep ≤ 1000 := fun x hx => by rw [dS_len]; omega
  have hRk : ∀ x : Ex, x.deep ≤ 100 → (dS (restS l s)).length + x.deep ≤ 1000 := fun x hx => by rw [dS_len]; omega
  refine ⟨_, rfl, _, rfl, v, e, c1, stg (putAll s l), _, rfl, b6.mono (Tups.of gd), ok, hd, k1, hSk e hd, dS_val _, hAS.stg, fun He p0 ge hp0 => ?_⟩
  refine ⟨_, rfl, _, rfl, vf, _, c1, stg (putAll s l), _, rfl, bf.mono (Tups.of (gd.trans ge)), okf, by omega, ge _ _ k1, hSk _ (by omega), dS_val _, hAS.stg, fun Hf p1 gf hp1 => ?_⟩
  refine ⟨_, rfl, _, _, ⟨_, rfl, hp1⟩, ⟨_, rfl, gf _ _ hp0⟩, value_rok _ okf hAS.stg, value_rok _ ok hAS.stg, false, congrArg V.bl (by rw [vA]; simp), iteF ?_⟩
  have gef := ge.trans gf
  refine ⟨_, rfl, _, rfl, vf, _, c2, stg (restS l s), _, rfl, bf.mono (Tups.of (gd.trans gef)), okf, by omega, gef _ _ k2, hRk _ (by omega), dS_val _, hAR.stg, fun Hg p2 gg hp2 => ?_⟩
  have geg := gef.trans gg
  refine ⟨_, rfl, _, _, ⟨_, rfl, hp2⟩, ⟨_, rfl, gg _ _ (gf _ _ hp0)⟩, value_rok _ okf hAR.stg, value_rok _ ok hAS.stg, false, congrArg V.bl (by rw [vR]; simp), iteF ?_⟩
  refine ⟨_, rfl, _, rfl, c2, dS (restS l s), rfl, .inl (geg _ _ k2), fun h3 hn3 => ?_⟩
  have gh := same_new hn3 (.dK (dS (restS l s)))
  refine ⟨vf, _, h3, restS l s, rfl, bf.mono (Tups.of (gd.trans (geg.trans gh))), okf, by omega, upd_same, hAR, by omega, fun Hi p3 gi hp3 => ?_⟩
  have gei := geg.trans (gh.trans gi)
  refine ⟨_, rfl, _, _, ⟨_, rfl, hp3⟩, ⟨_, rfl, gi _ _ (gh _ _ (gg _ _ (gf _ _ hp0)))⟩, value_rok _ okf hAR.stg, value_rok _ ok hAS.stg, false, congrArg V.bl (by rw [vR]; simp), iteF ?_⟩
  exact ⟨gd.trans gei, _, _, _, _, _, _, _, rfl⟩
end
end FC
namespace FC
open PySem L2 StX PyProof.Rows PySem.Spec
theorem all_mk {l : PySem.W.OpenLaw} {w : World} {K : PySem.W.Frag} {h : Heap} {mg : Str → Option Value} {fa : Addr} (X : K.In h) (G : h.Ns mainGlobals mg) (hfa : mg "law" = some (.ref fa))
    {f_law_mixed : Addr} {od_law_mixed an_law_mixed : Option Addr} {sl_law_mixed : Array (Option Value)} {oc_law_mixed kV_law_mixed dc_law_mixed pm_law_mixed cd_law_mixed ct_law_mixed : Value}
    {f_law_expr_by : Addr} {od_law_expr_by an_law_expr_by : Option Addr} {sl_law_expr_by : Array (Option Value)} {oc_law_expr_by kV_law_expr_by dc_law_expr_by pm_law_expr_by cd_law_expr_by ct_law_expr_by : Value}
    {f_law_known_by : Addr} {od_law_known_by an_law_known_by : Option Addr} {sl_law_known_by : Array (Option Value)} {oc_law_known_by kV_law_known_by dc_law_known_by pm_law_known_by cd_law_known_by ct_law_known_by : Value}
    {f_law_setting_by : Addr} {od_law_setting_by an_law_setting_by : Option Addr} {sl_law_setting_by : Array (Option Value)} {oc_law_setting_by kV_law_setting_by dc_law_setting_by pm_law_setting_by cd_law_setting_by ct_law_setting_by : Value}
    {f_law_is_expr : Addr} {od_law_is_expr an_law_is_expr : Option Addr} {sl_law_is_expr : Array (Option Value)} {oc_law_is_expr kV_law_is_expr dc_law_is_expr pm_law_is_expr cd_law_is_expr ct_law_is_expr : Value}
    {f_law_is_name : Addr} {od_law_is_name an_law_is_name : Option Addr} {sl_law_is_name : Array (Option Value)} {oc_law_is_name kV_law_is_name dc_law_is_name pm_law_is_name cd_law_is_name ct_law_is_name : Value}
    {f_law_whole : Addr} {od_law_whole an_law_whole : Option Addr} {sl_law_whole : Array (Option Value)} {oc_law_whole kV_law_whole dc_law_whole pm_law_whole cd_law_whole ct_law_whole : Value}
    {f_law_value : Addr} {od_law_value an_law_value : Option Addr} {sl_law_value : Array (Option Value)} {oc_law_value kV_law_value dc_law_value pm_law_value cd_law_value ct_law_value : Value}
    {f_law_told : Addr} {od_law_told an_law_told : Option Addr} {sl_law_told : Array (Option Value)} {oc_law_told kV_law_told dc_law_told pm_law_told cd_law_told ct_law_told : Value}
    {f_law_layers_right : Addr} {od_law_layers_right an_law_layers_right : Option Addr} {sl_law_layers_right : Array (Option Value)} {oc_law_layers_right kV_law_layers_right dc_law_layers_right pm_law_layers_right cd_law_layers_right ct_law_layers_right : Value}
    {f_folded : Addr} {od_folded an_folded : Option Addr} {sl_folded : Array (Option Value)} {oc_folded kV_folded dc_folded pm_folded cd_folded ct_folded : Value}
    {f_law_cell_at : Addr} {od_law_cell_at an_law_cell_at : Option Addr} {sl_law_cell_at : Array (Option Value)} {oc_law_cell_at kV_law_cell_at dc_law_cell_at pm_law_cell_at cd_law_cell_at ct_law_cell_at : Value}
    {f_reckoned : Addr} {od_reckoned an_reckoned : Option Addr} {sl_reckoned : Array (Option Value)} {oc_reckoned kV_reckoned dc_reckoned pm_reckoned cd_reckoned ct_reckoned : Value}
    {f_within : Addr} {od_within an_within : Option Addr} {sl_within : Array (Option Value)} {oc_within kV_within dc_within pm_within cd_within ct_within : Value}
    {f_settled : Addr} {od_settled an_settled : Option Addr} {sl_settled : Array (Option Value)} {oc_settled kV_settled dc_settled pm_settled cd_settled ct_settled : Value}
    {f_joined : Addr} {od_joined an_joined : Option Addr} {sl_joined : Array (Option Value)} {oc_joined kV_joined dc_joined pm_joined cd_joined ct_joined : Value}
    {f_by_number : Addr} {od_by_number an_by_number : Option Addr} {sl_by_number : Array (Option Value)} {oc_by_number kV_by_number dc_by_number pm_by_number cd_by_number ct_by_number : Value}
    {f_plus : Addr} {od_plus an_plus : Option Addr} {sl_plus : Array (Option Value)} {oc_plus kV_plus dc_plus pm_plus cd_plus ct_plus : Value}
    {f_times : Addr} {od_times an_times : Option Addr} {sl_times : Array (Option Value)} {oc_times kV_times dc_times pm_times cd_times ct_times : Value}
    {f_part : Addr} {od_part an_part : Option Addr} {sl_part : Array (Option Value)} {oc_part kV_part dc_part pm_part cd_part ct_part : Value}
    {f_rest : Addr} {od_rest an_rest : Option Addr} {sl_rest : Array (Option Value)} {oc_rest kV_rest dc_rest pm_rest cd_rest ct_rest : Value}
    {f_has_number : Addr} {od_has_number an_has_number : Option Addr} {sl_has_number : Array (Option Value)} {oc_has_number kV_has_number dc_has_number pm_has_number cd_has_number ct_has_number : Value}
    {f_same_side : Addr} {od_same_side an_same_side : Option Addr} {sl_same_side : Array (Option Value)} {oc_same_side kV_same_side dc_same_side pm_same_side cd_same_side ct_same_side : Value}
    {f_folded_let : Addr} {od_folded_let an_folded_let : Option Addr} {sl_folded_let : Array (Option Value)} {oc_folded_let kV_folded_let dc_folded_let pm_folded_let cd_folded_let ct_folded_let : Value}
    {f_chosen : Addr} {od_chosen an_chosen : Option Addr} {sl_chosen : Array (Option Value)} {oc_chosen kV_chosen dc_chosen pm_chosen cd_chosen ct_chosen : Value}
    {f_value : Addr} {od_value an_value : Option Addr} {sl_value : Array (Option Value)} {oc_value kV_value dc_value pm_value cd_value ct_value : Value}
    {f_number_of : Addr} {od_number_of an_number_of : Option Addr} {sl_number_of : Array (Option Value)} {oc_number_of kV_number_of dc_number_of pm_number_of cd_number_of ct_number_of : Value}
    {f_law_tree_by : Addr} {od_law_tree_by an_law_tree_by : Option Addr} {sl_law_tree_by : Array (Option Value)} {oc_law_tree_by kV_law_tree_by dc_law_tree_by pm_law_tree_by cd_law_tree_by ct_law_tree_by : Value}
    {f_law_step : Addr} {od_law_step an_law_step : Option Addr} {sl_law_step : Array (Option Value)} {oc_law_step kV_law_step dc_law_step pm_law_step cd_law_step ct_law_step : Value}
    {f_law_name_by : Addr} {od_law_name_by an_law_name_by : Option Addr} {sl_law_name_by : Array (Option Value)} {oc_law_name_by kV_law_name_by dc_law_name_by pm_law_name_by cd_law_name_by ct_law_name_by : Value}
    {f_law_number_by : Addr} {od_law_number_by an_law_number_by : Option Addr} {sl_law_number_by : Array (Option Value)} {oc_law_number_by kV_law_number_by dc_law_number_by pm_law_number_by cd_law_number_by ct_law_number_by : Value}
    {f_law_many_by : Addr} {od_law_many_by an_law_many_by : Option Addr} {sl_law_many_by : Array (Option Value)} {oc_law_many_by kV_law_many_by dc_law_many_by pm_law_many_by cd_law_many_by ct_law_many_by : Value}
    {f_law_link : Addr} {od_law_link an_law_link : Option Addr} {sl_law_link : Array (Option Value)} {oc_law_link kV_law_link dc_law_link pm_law_link cd_law_link ct_law_link : Value}
    {f_law_count : Addr} {od_law_count an_law_count : Option Addr} {sl_law_count : Array (Option Value)} {oc_law_count kV_law_count dc_law_count pm_law_count cd_law_count ct_law_count : Value}
    {f_law_made : Addr} {od_law_made an_law_made : Option Addr} {sl_law_made : Array (Option Value)} {oc_law_made kV_law_made dc_law_made pm_law_made cd_law_made ct_law_made : Value}
    {f_law : Addr} {od_law an_law : Option Addr} {sl_law : Array (Option Value)} {oc_law kV_law dc_law pm_law cd_law ct_law : Value}
    {C_FoldError : Addr}
    {C_ByNought : Addr}
    {C_TooGreat : Addr}
    {C_Unset : Addr}
    {nmU qU : Str} {NU : Addr} {bsU subU : List Value} {snU : List Str} {abU : Bool} {colU : Option Bool} {ddU : Option Addr} {u0 u1 u2 u3 u5 : Option Value} {fI : Addr} {odI anI : Option Addr} {slI : Array (Option Value)} {ocI kVI dcI pmI cdI ctI : Value}
    {t1 : Tok}
    {ea : Addr} {od_ew : Option Addr} {n_ew : Nat} {sl_ew : Array (Option Value)} {te1 te2 te3 : Tok}
    (a_law_mixed : PySem.W.nsIn K mainGlobals "_law_mixed" = some (some (.ref f_law_mixed)))
    (l_law_mixed : K.lookup f_law_mixed = some ⟨oc_law_mixed, od_law_mixed, .func (PySem.W.fnOf "_law_mixed" "_law_mixed" (defArgs sMixed) (defBody sMixed) (defScope sMixed) .none kV_law_mixed dc_law_mixed pm_law_mixed an_law_mixed cd_law_mixed ct_law_mixed), sl_law_mixed⟩)
    (c_law_mixed : PySem.W.codeIn K cd_law_mixed "_law_mixed" = true)
    (k_law_mixed : PySem.W.keepIn K (.ref f_law_mixed) = true)
    (a_law_expr_by : PySem.W.nsIn K mainGlobals "_law_expr_by" = some (some (.ref f_law_expr_by)))
    (l_law_expr_by : K.lookup f_law_expr_by = some ⟨oc_law_expr_by, od_law_expr_by, .func (PySem.W.fnOf "_law_expr_by" "_law_expr_by" (defArgs sExprBy) (defBody sExprBy) (defScope sExprBy) .none kV_law_expr_by dc_law_expr_by pm_law_expr_by an_law_expr_by cd_law_expr_by ct_law_expr_by), sl_law_expr_by⟩)
    (c_law_expr_by : PySem.W.codeIn K cd_law_expr_by "_law_expr_by" = true)
    (k_law_expr_by : PySem.W.keepIn K (.ref f_law_expr_by) = true)
    (a_law_known_by : PySem.W.nsIn K mainGlobals "_law_known_by" = some (some (.ref f_law_known_by)))
    (l_law_known_by : K.lookup f_law_known_by = some ⟨oc_law_known_by, od_law_known_by, .func (PySem.W.fnOf "_law_known_by" "_law_known_by" (defArgs s_law_known_by) (defBody s_law_known_by) (defScope s_law_known_by) .none kV_law_known_by dc_law_known_by pm_law_known_by an_law_known_by cd_law_known_by ct_law_known_by), sl_law_known_by⟩)
    (c_law_known_by : PySem.W.codeIn K cd_law_known_by "_law_known_by" = true)
    (k_law_known_by : PySem.W.keepIn K (.ref f_law_known_by) = true)
    (a_law_setting_by : PySem.W.nsIn K mainGlobals "_law_setting_by" = some (some (.ref f_law_setting_by)))
    (l_law_setting_by : K.lookup f_law_setting_by = some ⟨oc_law_setting_by, od_law_setting_by, .func (PySem.W.fnOf "_law_setting_by" "_law_setting_by" (defArgs s_law_setting_by) (defBody s_law_setting_by) (defScope s_law_setting_by) .none kV_law_setting_by dc_law_setting_by pm_law_setting_by an_law_setting_by cd_law_setting_by ct_law_setting_by), sl_law_setting_by⟩)
    (c_law_setting_by : PySem.W.codeIn K cd_law_setting_by "_law_setting_by" = true)
    (k_law_setting_by : PySem.W.keepIn K (.ref f_law_setting_by) = true)
    (a_law_is_expr : PySem.W.nsIn K mainGlobals "_law_is_expr" = some (some (.ref f_law_is_expr)))
    (l_law_is_expr : K.lookup f_law_is_expr = some ⟨oc_law_is_expr, od_law_is_expr, .func (PySem.W.fnOf "_law_is_expr" "_law_is_expr" (defArgs s_law_is_expr) (defBody s_law_is_expr) (defScope s_law_is_expr) .none kV_law_is_expr dc_law_is_expr pm_law_is_expr an_law_is_expr cd_law_is_expr ct_law_is_expr), sl_law_is_expr⟩)
    (c_law_is_expr : PySem.W.codeIn K cd_law_is_expr "_law_is_expr" = true)
    (k_law_is_expr : PySem.W.keepIn K (.ref f_law_is_expr) = true)
    (a_law_is_name : PySem.W.nsIn K mainGlobals "_law_is_name" = some (some (.ref f_law_is_name)))
    (l_law_is_name : K.lookup f_law_is_name = some ⟨oc_law_is_name, od_law_is_name, .func (PySem.W.fnOf "_law_is_name" "_law_is_name" (defArgs s_law_is_name) (defBody s_law_is_name) (defScope s_law_is_name) .none kV_law_is_name dc_law_is_name pm_law_is_name an_law_is_name cd_law_is_name ct_law_is_name), sl_law_is_name⟩)
    (c_law_is_name : PySem.W.codeIn K cd_law_is_name "_law_is_name" = true)
    (k_law_is_name : PySem.W.keepIn K (.ref f_law_is_name) = true)
    (a_law_whole : PySem.W.nsIn K mainGlobals "_law_whole" = some (some (.ref f_law_whole)))
    (l_law_whole : K.lookup f_law_whole = some ⟨oc_law_whole, od_law_whole, .func (PySem.W.fnOf "_law_whole" "_law_whole" (defArgs sWhole) (defBody sWhole) (defScope sWhole) .none kV_law_whole dc_law_whole pm_law_whole an_law_whole cd_law_whole ct_law_whole), sl_law_whole⟩)
    (c_law_whole : PySem.W.codeIn K cd_law_whole "_law_whole" = true)
    (k_law_whole : PySem.W.keepIn K (.ref f_law_whole) = true)
    (a_law_value : PySem.W.nsIn K mainGlobals "_law_value" = some (some (.ref f_law_value)))
    (l_law_value : K.lookup f_law_value = some ⟨oc_law_value, od_law_value, .func (PySem.W.fnOf "_law_value" "_law_value" (defArgs s_law_value) (defBody s_law_value) (defScope s_law_value) .none kV_law_value dc_law_value pm_law_value an_law_value cd_law_value ct_law_value), sl_law_value⟩)
    (c_law_value : PySem.W.codeIn K cd_law_value "_law_value" = true)
    (k_law_value : PySem.W.keepIn K (.ref f_law_value) = true)
    (a_law_told : PySem.W.nsIn K mainGlobals "_law_told" = some (some (.ref f_law_told)))
    (l_law_told : K.lookup f_law_told = some ⟨oc_law_told, od_law_told, .func (PySem.W.fnOf "_law_told" "_law_told" (defArgs s_law_told) (defBody s_law_told) (defScope s_law_told) .none kV_law_told dc_law_told pm_law_told an_law_told cd_law_told ct_law_told), sl_law_told⟩)
    (c_law_told : PySem.W.codeIn K cd_law_told "_law_told" = true)
    (k_law_told : PySem.W.keepIn K (.ref f_law_told) = true)
    (a_law_layers_right : PySem.W.nsIn K mainGlobals "_law_layers_right" = some (some (.ref f_law_layers_right)))
    (l_law_layers_right : K.lookup f_law_layers_right = some ⟨oc_law_layers_right, od_law_layers_right, .func (PySem.W.fnOf "_law_layers_right" "_law_layers_right" (defArgs s_law_layers_right) (defBody s_law_layers_right) (defScope s_law_layers_right) .none kV_law_layers_right dc_law_layers_right pm_law_layers_right an_law_layers_right cd_law_layers_right ct_law_layers_right), sl_law_layers_right⟩)
    (c_law_layers_right : PySem.W.codeIn K cd_law_layers_right "_law_layers_right" = true)
    (k_law_layers_right : PySem.W.keepIn K (.ref f_law_layers_right) = true)
    (a_folded : PySem.W.nsIn K mainGlobals "folded" = some (some (.ref f_folded)))
    (l_folded : K.lookup f_folded = some ⟨oc_folded, od_folded, .func (PySem.W.fnOf "folded" "folded" (defArgs s_folded) (defBody s_folded) (defScope s_folded) .none kV_folded dc_folded pm_folded an_folded cd_folded ct_folded), sl_folded⟩)
    (c_folded : PySem.W.codeIn K cd_folded "folded" = true)
    (k_folded : PySem.W.keepIn K (.ref f_folded) = true)
    (a_law_cell_at : PySem.W.nsIn K mainGlobals "_law_cell_at" = some (some (.ref f_law_cell_at)))
    (l_law_cell_at : K.lookup f_law_cell_at = some ⟨oc_law_cell_at, od_law_cell_at, .func (PySem.W.fnOf "_law_cell_at" "_law_cell_at" (defArgs sCellAt) (defBody sCellAt) (defScope sCellAt) .none kV_law_cell_at dc_law_cell_at pm_law_cell_at an_law_cell_at cd_law_cell_at ct_law_cell_at), sl_law_cell_at⟩)
    (c_law_cell_at : PySem.W.codeIn K cd_law_cell_at "_law_cell_at" = true)
    (k_law_cell_at : PySem.W.keepIn K (.ref f_law_cell_at) = true)
    (a_reckoned : PySem.W.nsIn K mainGlobals "reckoned" = some (some (.ref f_reckoned)))
    (l_reckoned : K.lookup f_reckoned = some ⟨oc_reckoned, od_reckoned, .func (PySem.W.fnOf "reckoned" "reckoned" (defArgs s_reckoned) (defBody s_reckoned) (defScope s_reckoned) .none kV_reckoned dc_reckoned pm_reckoned an_reckoned cd_reckoned ct_reckoned), sl_reckoned⟩)
    (c_reckoned : PySem.W.codeIn K cd_reckoned "reckoned" = true)
    (k_reckoned : PySem.W.keepIn K (.ref f_reckoned) = true)
    (a_within : PySem.W.nsIn K mainGlobals "_within" = some (some (.ref f_within)))
    (l_within : K.lookup f_within = some ⟨oc_within, od_within, .func (PySem.W.fnOf "_within" "_within" (defArgs s_within) (defBody s_within) (defScope s_within) .none kV_within dc_within pm_within an_within cd_within ct_within), sl_within⟩)
    (c_within : PySem.W.codeIn K cd_within "_within" = true)
    (k_within : PySem.W.keepIn K (.ref f_within) = true)
    (a_settled : PySem.W.nsIn K mainGlobals "_settled" = some (some (.ref f_settled)))
    (l_settled : K.lookup f_settled = some ⟨oc_settled, od_settled, .func (PySem.W.fnOf "_settled" "_settled" (defArgs s_settled) (defBody s_settled) (defScope s_settled) .none kV_settled dc_settled pm_settled an_settled cd_settled ct_settled), sl_settled⟩)
    (c_settled : PySem.W.codeIn K cd_settled "_settled" = true)
    (k_settled : PySem.W.keepIn K (.ref f_settled) = true)
    (a_joined : PySem.W.nsIn K mainGlobals "joined" = some (some (.ref f_joined)))
    (l_joined : K.lookup f_joined = some ⟨oc_joined, od_joined, .func (PySem.W.fnOf "joined" "joined" (defArgs s_joined) (defBody s_joined) (defScope s_joined) .none kV_joined dc_joined pm_joined an_joined cd_joined ct_joined), sl_joined⟩)
    (c_joined : PySem.W.codeIn K cd_joined "joined" = true)
    (k_joined : PySem.W.keepIn K (.ref f_joined) = true)
    (a_by_number : PySem.W.nsIn K mainGlobals "_by_number" = some (some (.ref f_by_number)))
    (l_by_number : K.lookup f_by_number = some ⟨oc_by_number, od_by_number, .func (PySem.W.fnOf "_by_number" "_by_number" (defArgs s_by_number) (defBody s_by_number) (defScope s_by_number) .none kV_by_number dc_by_number pm_by_number an_by_number cd_by_number ct_by_number), sl_by_number⟩)
    (c_by_number : PySem.W.codeIn K cd_by_number "_by_number" = true)
    (k_by_number : PySem.W.keepIn K (.ref f_by_number) = true)
    (a_plus : PySem.W.nsIn K mainGlobals "_plus" = some (some (.ref f_plus)))
    (l_plus : K.lookup f_plus = some ⟨oc_plus, od_plus, .func (PySem.W.fnOf "_plus" "_plus" (defArgs s_plus) (defBody s_plus) (defScope s_plus) .none kV_plus dc_plus pm_plus an_plus cd_plus ct_plus), sl_plus⟩)
    (c_plus : PySem.W.codeIn K cd_plus "_plus" = true)
    (k_plus : PySem.W.keepIn K (.ref f_plus) = true)
    (a_times : PySem.W.nsIn K mainGlobals "_times" = some (some (.ref f_times)))
    (l_times : K.lookup f_times = some ⟨oc_times, od_times, .func (PySem.W.fnOf "_times" "_times" (defArgs s_times) (defBody s_times) (defScope s_times) .none kV_times dc_times pm_times an_times cd_times ct_times), sl_times⟩)
    (c_times : PySem.W.codeIn K cd_times "_times" = true)
    (k_times : PySem.W.keepIn K (.ref f_times) = true)
    (a_part : PySem.W.nsIn K mainGlobals "_part" = some (some (.ref f_part)))
    (l_part : K.lookup f_part = some ⟨oc_part, od_part, .func (PySem.W.fnOf "_part" "_part" (defArgs s_part) (defBody s_part) (defScope s_part) .none kV_part dc_part pm_part an_part cd_part ct_part), sl_part⟩)
    (c_part : PySem.W.codeIn K cd_part "_part" = true)
    (k_part : PySem.W.keepIn K (.ref f_part) = true)
    (a_rest : PySem.W.nsIn K mainGlobals "_rest" = some (some (.ref f_rest)))
    (l_rest : K.lookup f_rest = some ⟨oc_rest, od_rest, .func (PySem.W.fnOf "_rest" "_rest" (defArgs s_rest) (defBody s_rest) (defScope s_rest) .none kV_rest dc_rest pm_rest an_rest cd_rest ct_rest), sl_rest⟩)
    (c_rest : PySem.W.codeIn K cd_rest "_rest" = true)
    (k_rest : PySem.W.keepIn K (.ref f_rest) = true)
    (a_has_number : PySem.W.nsIn K mainGlobals "_has_number" = some (some (.ref f_has_number)))
    (l_has_number : K.lookup f_has_number = some ⟨oc_has_number, od_has_number, .func (PySem.W.fnOf "_has_number" "_has_number" (defArgs s_has_number) (defBody s_has_number) (defScope s_has_number) .none kV_has_number dc_has_number pm_has_number an_has_number cd_has_number ct_has_number), sl_has_number⟩)
    (c_has_number : PySem.W.codeIn K cd_has_number "_has_number" = true)
    (k_has_number : PySem.W.keepIn K (.ref f_has_number) = true)
    (a_same_side : PySem.W.nsIn K mainGlobals "_same_side" = some (some (.ref f_same_side)))
    (l_same_side : K.lookup f_same_side = some ⟨oc_same_side, od_same_side, .func (PySem.W.fnOf "_same_side" "_same_side" (defArgs s_same_side) (defBody s_same_side) (defScope s_same_side) .none kV_same_side dc_same_side pm_same_side an_same_side cd_same_side ct_same_side), sl_same_side⟩)
    (c_same_side : PySem.W.codeIn K cd_same_side "_same_side" = true)
    (k_same_side : PySem.W.keepIn K (.ref f_same_side) = true)
    (a_folded_let : PySem.W.nsIn K mainGlobals "_folded_let" = some (some (.ref f_folded_let)))
    (l_folded_let : K.lookup f_folded_let = some ⟨oc_folded_let, od_folded_let, .func (PySem.W.fnOf "_folded_let" "_folded_let" (defArgs s_folded_let) (defBody s_folded_let) (defScope s_folded_let) .none kV_folded_let dc_folded_let pm_folded_let an_folded_let cd_folded_let ct_folded_let), sl_folded_let⟩)
    (c_folded_let : PySem.W.codeIn K cd_folded_let "_folded_let" = true)
    (k_folded_let : PySem.W.keepIn K (.ref f_folded_let) = true)
    (a_chosen : PySem.W.nsIn K mainGlobals "chosen" = some (some (.ref f_chosen)))
    (l_chosen : K.lookup f_chosen = some ⟨oc_chosen, od_chosen, .func (PySem.W.fnOf "chosen" "chosen" (defArgs s_chosen) (defBody s_chosen) (defScope s_chosen) .none kV_chosen dc_chosen pm_chosen an_chosen cd_chosen ct_chosen), sl_chosen⟩)
    (c_chosen : PySem.W.codeIn K cd_chosen "chosen" = true)
    (k_chosen : PySem.W.keepIn K (.ref f_chosen) = true)
    (a_value : PySem.W.nsIn K mainGlobals "value" = some (some (.ref f_value)))
    (l_value : K.lookup f_value = some ⟨oc_value, od_value, .func (PySem.W.fnOf "value" "value" (defArgs s_value) (defBody s_value) (defScope s_value) .none kV_value dc_value pm_value an_value cd_value ct_value), sl_value⟩)
    (c_value : PySem.W.codeIn K cd_value "value" = true)
    (k_value : PySem.W.keepIn K (.ref f_value) = true)
    (a_number_of : PySem.W.nsIn K mainGlobals "_number_of" = some (some (.ref f_number_of)))
    (l_number_of : K.lookup f_number_of = some ⟨oc_number_of, od_number_of, .func (PySem.W.fnOf "_number_of" "_number_of" (defArgs s_number_of) (defBody s_number_of) (defScope s_number_of) .none kV_number_of dc_number_of pm_number_of an_number_of cd_number_of ct_number_of), sl_number_of⟩)
    (c_number_of : PySem.W.codeIn K cd_number_of "_number_of" = true)
    (k_number_of : PySem.W.keepIn K (.ref f_number_of) = true)
    (a_law_tree_by : PySem.W.nsIn K mainGlobals "_law_tree_by" = some (some (.ref f_law_tree_by)))
    (l_law_tree_by : K.lookup f_law_tree_by = some ⟨oc_law_tree_by, od_law_tree_by, .func (PySem.W.fnOf "_law_tree_by" "_law_tree_by" (defArgs sTreeBy) (defBody sTreeBy) (defScope sTreeBy) .none kV_law_tree_by dc_law_tree_by pm_law_tree_by an_law_tree_by cd_law_tree_by ct_law_tree_by), sl_law_tree_by⟩)
    (c_law_tree_by : PySem.W.codeIn K cd_law_tree_by "_law_tree_by" = true)
    (k_law_tree_by : PySem.W.keepIn K (.ref f_law_tree_by) = true)
    (a_law_step : PySem.W.nsIn K mainGlobals "_law_step" = some (some (.ref f_law_step)))
    (l_law_step : K.lookup f_law_step = some ⟨oc_law_step, od_law_step, .func (PySem.W.fnOf "_law_step" "_law_step" (defArgs sStep) (defBody sStep) (defScope sStep) .none kV_law_step dc_law_step pm_law_step an_law_step cd_law_step ct_law_step), sl_law_step⟩)
    (c_law_step : PySem.W.codeIn K cd_law_step "_law_step" = true)
    (k_law_step : PySem.W.keepIn K (.ref f_law_step) = true)
    (a_law_name_by : PySem.W.nsIn K mainGlobals "_law_name_by" = some (some (.ref f_law_name_by)))
    (l_law_name_by : K.lookup f_law_name_by = some ⟨oc_law_name_by, od_law_name_by, .func (PySem.W.fnOf "_law_name_by" "_law_name_by" (defArgs sNameBy) (defBody sNameBy) (defScope sNameBy) .none kV_law_name_by dc_law_name_by pm_law_name_by an_law_name_by cd_law_name_by ct_law_name_by), sl_law_name_by⟩)
    (c_law_name_by : PySem.W.codeIn K cd_law_name_by "_law_name_by" = true)
    (k_law_name_by : PySem.W.keepIn K (.ref f_law_name_by) = true)
    (a_law_number_by : PySem.W.nsIn K mainGlobals "_law_number_by" = some (some (.ref f_law_number_by)))
    (l_law_number_by : K.lookup f_law_number_by = some ⟨oc_law_number_by, od_law_number_by, .func (PySem.W.fnOf "_law_number_by" "_law_number_by" (defArgs sNumBy) (defBody sNumBy) (defScope sNumBy) .none kV_law_number_by dc_law_number_by pm_law_number_by an_law_number_by cd_law_number_by ct_law_number_by), sl_law_number_by⟩)
    (c_law_number_by : PySem.W.codeIn K cd_law_number_by "_law_number_by" = true)
    (k_law_number_by : PySem.W.keepIn K (.ref f_law_number_by) = true)
    (a_law_many_by : PySem.W.nsIn K mainGlobals "_law_many_by" = some (some (.ref f_law_many_by)))
    (l_law_many_by : K.lookup f_law_many_by = some ⟨oc_law_many_by, od_law_many_by, .func (PySem.W.fnOf "_law_many_by" "_law_many_by" (defArgs sManyBy) (defBody sManyBy) (defScope sManyBy) .none kV_law_many_by dc_law_many_by pm_law_many_by an_law_many_by cd_law_many_by ct_law_many_by), sl_law_many_by⟩)
    (c_law_many_by : PySem.W.codeIn K cd_law_many_by "_law_many_by" = true)
    (k_law_many_by : PySem.W.keepIn K (.ref f_law_many_by) = true)
    (a_law_link : PySem.W.nsIn K mainGlobals "_law_link" = some (some (.ref f_law_link)))
    (l_law_link : K.lookup f_law_link = some ⟨oc_law_link, od_law_link, .func (PySem.W.fnOf "_law_link" "_law_link" (defArgs sLink) (defBody sLink) (defScope sLink) .none kV_law_link dc_law_link pm_law_link an_law_link cd_law_link ct_law_link), sl_law_link⟩)
    (c_law_link : PySem.W.codeIn K cd_law_link "_law_link" = true)
    (k_law_link : PySem.W.keepIn K (.ref f_law_link) = true)
    (a_law_count : PySem.W.nsIn K mainGlobals "_law_count" = some (some (.ref f_law_count)))
    (l_law_count : K.lookup f_law_count = some ⟨oc_law_count, od_law_count, .func (PySem.W.fnOf "_law_count" "_law_count" (defArgs s_law_count) (defBody s_law_count) (defScope s_law_count) .none kV_law_count dc_law_count pm_law_count an_law_count cd_law_count ct_law_count), sl_law_count⟩)
    (c_law_count : PySem.W.codeIn K cd_law_count "_law_count" = true)
    (k_law_count : PySem.W.keepIn K (.ref f_law_count) = true)
    (a_law_made : PySem.W.nsIn K mainGlobals "_law_made" = some (some (.ref f_law_made)))
    (l_law_made : K.lookup f_law_made = some ⟨oc_law_made, od_law_made, .func (PySem.W.fnOf "_law_made" "_law_made" (defArgs s_law_made) (defBody s_law_made) (defScope s_law_made) .none kV_law_made dc_law_made pm_law_made an_law_made cd_law_made ct_law_made), sl_law_made⟩)
    (c_law_made : PySem.W.codeIn K cd_law_made "_law_made" = true)
    (k_law_made : PySem.W.keepIn K (.ref f_law_made) = true)
    (a_law : PySem.W.nsIn K mainGlobals "law" = some (some (.ref f_law)))
    (l_law : K.lookup f_law = some ⟨oc_law, od_law, .func (PySem.W.fnOf "law" "law" (defArgs sLaw) (defBody sLaw) (defScope sLaw) .none kV_law dc_law pm_law an_law cd_law ct_law), sl_law⟩)
    (c_law : PySem.W.codeIn K cd_law "law" = true)
    (k_law : PySem.W.keepIn K (.ref f_law) = true)
    (z_len : PySem.W.nsIn K mainGlobals "len" = some none)
    (z_range : PySem.W.nsIn K mainGlobals "range" = some none)
    (z_sum : PySem.W.nsIn K mainGlobals "sum" = some none)
    (z_max : PySem.W.nsIn K mainGlobals "max" = some none)
    (z_min : PySem.W.nsIn K mainGlobals "min" = some none)
    (z_list : PySem.W.nsIn K mainGlobals "list" = some none)
    (z_int : PySem.W.nsIn K mainGlobals "int" = some none)
    (z_isinstance : PySem.W.nsIn K mainGlobals "isinstance" = some none)
    (z_bool : PySem.W.nsIn K mainGlobals "bool" = some none)
    (z_str : PySem.W.nsIn K mainGlobals "str" = some none)
    (z_dict : PySem.W.nsIn K mainGlobals "dict" = some none)
    (z_abs : PySem.W.nsIn K mainGlobals "abs" = some none)
    (z_tuple : PySem.W.nsIn K mainGlobals "tuple" = some none)
    (a_cFoldError : PySem.W.nsIn K mainGlobals "FoldError" = some (some (.ref C_FoldError)))
    (q_cFoldError : PySem.W.excIn K C_FoldError [.type "ValueError", .type "Exception", .type "BaseException", .type "object"] "ValueError.__new__" = true)
    (k_cFoldError : PySem.W.keepIn K (.ref C_FoldError) = true)
    (b_cFoldError : PySem.W.subIn K (.ref C_FoldError) (.type "BaseException") = some true)
    (t_cFoldError : PySem.W.typeIn K (.ref C_FoldError) = some (.type "type"))
    (d_cFoldError : PySem.W.hasDictIn K C_FoldError = true)
    (a_cByNought : PySem.W.nsIn K mainGlobals "ByNought" = some (some (.ref C_ByNought)))
    (q_cByNought : PySem.W.excIn K C_ByNought [.type "ValueError", .type "Exception", .type "BaseException", .type "object"] "ValueError.__new__" = true)
    (k_cByNought : PySem.W.keepIn K (.ref C_ByNought) = true)
    (b_cByNought : PySem.W.subIn K (.ref C_ByNought) (.type "BaseException") = some true)
    (t_cByNought : PySem.W.typeIn K (.ref C_ByNought) = some (.type "type"))
    (d_cByNought : PySem.W.hasDictIn K C_ByNought = true)
    (a_cTooGreat : PySem.W.nsIn K mainGlobals "TooGreat" = some (some (.ref C_TooGreat)))
    (q_cTooGreat : PySem.W.excIn K C_TooGreat [.type "ValueError", .type "Exception", .type "BaseException", .type "object"] "ValueError.__new__" = true)
    (k_cTooGreat : PySem.W.keepIn K (.ref C_TooGreat) = true)
    (b_cTooGreat : PySem.W.subIn K (.ref C_TooGreat) (.type "BaseException") = some true)
    (t_cTooGreat : PySem.W.typeIn K (.ref C_TooGreat) = some (.type "type"))
    (d_cTooGreat : PySem.W.hasDictIn K C_TooGreat = true)
    (a_cUnset : PySem.W.nsIn K mainGlobals "Unset" = some (some (.ref C_Unset)))
    (t_cUnset : PySem.W.typeIn K (.ref C_Unset) = some (.type "type"))
    (d_cUnset : PySem.W.hasDictIn K C_Unset = true)
    (x_U : K.lookup C_Unset = some (excClassObj nmU qU C_Unset NU bsU [.ref C_FoldError, .type "ValueError", .type "Exception", .type "BaseException", .type "object"] true snU subU abU colU ddU u0 u1 u2 u3 u5 "ValueError.__new__"))
    (sa_U : PySem.W.findIn K (.ref C_Unset) "__setattr__" = some (some (.builtin "object.__setattr__")))
    (b_cUnset : PySem.W.subIn K (.ref C_Unset) (.type "BaseException") = some true)
    (k_cUnset : PySem.W.keepIn K (.ref C_Unset) = true)
    (iC_U : PySem.W.findIn K (.ref C_Unset) "__init__" = some (some (.ref fI)))
    (tI_U : PySem.W.typeIn K (.ref fI) = some (.type "function"))
    (l_I : K.lookup fI = some ⟨ocI, odI, .func (PySem.W.fnOf "__init__" "Unset.__init__" (defArgs sInit) (defBody sInit) (defScope sInit) .none kVI dcI pmI anI cdI ctI), slI⟩)
    (c_I : PySem.W.codeIn K cdI "Unset.__init__" = true)
    (k_I : PySem.W.keepIn K (.ref fI) = true)
    (rd_F : PySem.W.readsIn K C_FoldError (.type "type") = true)
    (ga_F : PySem.W.specialIn K (.ref C_FoldError) "__getattribute__" = some (some (.builtin "type.__getattribute__")))
    (at_F : PySem.W.findCls K (.ref C_FoldError) (.type "type") "__init__" = some (.val (.builtin "ValueError.__init__")))
    (no_U : PySem.W.findIn K (.ref C_Unset) "word" = some none)
    (hn_class : PySem.W.specialIn K (.builtin "object.__class__") "__get__" = some (some (.builtin "getset_descriptor.__get__")))
    (ht_class : PySem.W.takesIn K (.builtin "object.__class__") = some true)
    (s_cByNought : PySem.W.subIn K (.ref C_ByNought) (.ref C_ByNought) = some true)
    (s_cTooGreat : PySem.W.subIn K (.ref C_TooGreat) (.ref C_TooGreat) = some true)
    (s_cUnset : PySem.W.subIn K (.ref C_Unset) (.ref C_Unset) = some true)
    (hg_Unset : PySem.W.findIn K (.ref C_Unset) "__getattribute__" = some (some (.builtin "BaseException.__getattribute__")))
    (hk_Unset : PySem.W.findIn K (.ref C_Unset) "__getattr__" = some none)
    (ha_Unset : PySem.W.findIn K (.ref C_Unset) "__class__" = some (some (.builtin "object.__class__")))
    (hm_Unset : PySem.W.mroIn K C_Unset (.type "object") = some true)
    (v_Unset : PySem.W.subIn K (.ref C_Unset) (.type "ValueError") = some true)
    (s_ByNought_FoldError : PySem.W.subIn K (.ref C_ByNought) (.ref C_FoldError) = some true)
    (s_TooGreat_FoldError : PySem.W.subIn K (.ref C_TooGreat) (.ref C_FoldError) = some true)
    (s_ByNought_Unset : PySem.W.subIn K (.ref C_ByNought) (.ref C_Unset) = some false)
    (s_TooGreat_Unset : PySem.W.subIn K (.ref C_TooGreat) (.ref C_Unset) = some false)
    (s_TooGreat_ByNought : PySem.W.subIn K (.ref C_TooGreat) (.ref C_ByNought) = some false)
    (g_LIMIT : PySem.W.nsIn K mainGlobals "LIMIT" = some (some (.int 1000000000 t1)))
    (a_ew : PySem.W.nsIn K mainGlobals "EITHER_WAY" = some (some (.ref ea)))
    (l_ew : K.lookup ea = some ⟨.type "tuple", od_ew, .seq #[.str "sum" te1, .str "times" te2, .str "same" te3] n_ew, sl_ew⟩) :
    ∃ fd : FuncData, (∀ (s : Shared) (v : Value), BindsTo s fd ⟨[v], []⟩ [("_law_script", v)]) ∧ ∀ base : Heap, K.In base → base.Ns mainGlobals mg → FnOk l.prog w K mg base CX0 212 fa fd ["_law_script"] (spLaw K) := by
  have e := hfa.symm.trans (PySem.W.mg_of X G a_law)
  cases e
  have D_law_mixed := df_mk (st := sMixed) (ps := ["_law_script"]) X G a_law_mixed l_law_mixed c_law_mixed k_law_mixed fun _ _ _ _ _ _ us hl => match us, hl with | [_], _ => rfl
  have D_law_expr_by := df_mk (st := sExprBy) (ps := ["_law_script"]) X G a_law_expr_by l_law_expr_by c_law_expr_by k_law_expr_by fun _ _ _ _ _ _ us hl => match us, hl with | [_], _ => rfl
  have D_law_known_by := df_mk (st := s_law_known_by) (ps := ["_law_script"]) X G a_law_known_by l_law_known_by c_law_known_by k_law_known_by fun _ _ _ _ _ _ us hl => match us, hl with | [_], _ => rfl
  have D_law_setting_by := df_mk (st := s_law_setting_by) (ps := ["_law_script", "_law_turn"]) X G a_law_setting_by l_law_setting_by c_law_setting_by k_law_setting_by fun _ _ _ _ _ _ us hl => match us, hl with | [_, _], _ => rfl
  have D_law_is_expr := df_mk (st := s_law_is_expr) (ps := ["_law_expr"]) X G a_law_is_expr l_law_is_expr c_law_is_expr k_law_is_expr fun _ _ _ _ _ _ us hl => match us, hl with | [_], _ => rfl
  have D_law_is_name := df_mk (st := s_law_is_name) (ps := ["_law_word"]) X G a_law_is_name l_law_is_name c_law_is_name k_law_is_name fun _ _ _ _ _ _ us hl => match us, hl with | [_], _ => rfl
  have D_law_whole := df_mk (st := sWhole) (ps := ["_law_found"]) X G a_law_whole l_law_whole c_law_whole k_law_whole fun _ _ _ _ _ _ us hl => match us, hl with | [_], _ => rfl
  have D_law_value := df_mk (st := s_law_value) (ps := ["_law_expr", "_law_setting"]) X G a_law_value l_law_value c_law_value k_law_value fun _ _ _ _ _ _ us hl => match us, hl with | [_, _], _ => rfl
  have D_law_told := df_mk (st := s_law_told) (ps := ["_law_expr", "_law_setting"]) X G a_law_told l_law_told c_law_told k_law_told fun _ _ _ _ _ _ us hl => match us, hl with | [_, _], _ => rfl
  have D_law_layers_right := df_mk (st := s_law_layers_right) (ps := ["_law_cell"]) X G a_law_layers_right l_law_layers_right c_law_layers_right k_law_layers_right fun _ _ _ _ _ _ us hl => match us, hl with | [_], _ => rfl
  have D_folded := df_mk (st := s_folded) (ps := ["expr", "known"]) X G a_folded l_folded c_folded k_folded fun _ _ _ _ _ _ us hl => match us, hl with | [_, _], _ => rfl
  have D_law_cell_at := df_mk (st := sCellAt) (ps := ["_law_script", "_law_k"]) X G a_law_cell_at l_law_cell_at c_law_cell_at k_law_cell_at fun _ _ _ _ _ _ us hl => match us, hl with | [_, _], _ => rfl
  have D_reckoned := df_mk (st := s_reckoned) (ps := ["word", "one", "two"]) X G a_reckoned l_reckoned c_reckoned k_reckoned fun _ _ _ _ _ _ us hl => match us, hl with | [_, _, _], _ => rfl
  have D_within := df_mk (st := s_within) (ps := ["number"]) X G a_within l_within c_within k_within fun _ _ _ _ _ _ us hl => match us, hl with | [_], _ => rfl
  have D_settled := df_mk (st := s_settled) (ps := ["word", "one", "two"]) X G a_settled l_settled c_settled k_settled fun _ _ _ _ _ _ us hl => match us, hl with | [_, _, _], _ => rfl
  have D_joined := df_mk (st := s_joined) (ps := ["word", "one", "two"]) X G a_joined l_joined c_joined k_joined fun _ _ _ _ _ _ us hl => match us, hl with | [_, _, _], _ => rfl
  have D_by_number := df_mk (st := s_by_number) (ps := ["word", "short", "n"]) X G a_by_number l_by_number c_by_number k_by_number fun _ _ _ _ _ _ us hl => match us, hl with | [_, _, _], _ => rfl
  have D_plus := df_mk (st := s_plus) (ps := ["short", "n"]) X G a_plus l_plus c_plus k_plus fun _ _ _ _ _ _ us hl => match us, hl with | [_, _], _ => rfl
  have D_times := df_mk (st := s_times) (ps := ["short", "n"]) X G a_times l_times c_times k_times fun _ _ _ _ _ _ us hl => match us, hl with | [_, _], _ => rfl
  have D_part := df_mk (st := s_part) (ps := ["short", "n"]) X G a_part l_part c_part k_part fun _ _ _ _ _ _ us hl => match us, hl with | [_, _], _ => rfl
  have D_rest := df_mk (st := s_rest) (ps := ["short", "n"]) X G a_rest l_rest c_rest k_rest fun _ _ _ _ _ _ us hl => match us, hl with | [_, _], _ => rfl
  have D_has_number := df_mk (st := s_has_number) (ps := ["word", "short"]) X G a_has_number l_has_number c_has_number k_has_number fun _ _ _ _ _ _ us hl => match us, hl with | [_, _], _ => rfl
  have D_same_side := df_mk (st := s_same_side) (ps := ["m", "n"]) X G a_same_side l_same_side c_same_side k_same_side fun _ _ _ _ _ _ us hl => match us, hl with | [_, _], _ => rfl
  have D_folded_let := df_mk (st := s_folded_let) (ps := ["expr", "known"]) X G a_folded_let l_folded_let c_folded_let k_folded_let fun _ _ _ _ _ _ us hl => match us, hl with | [_, _], _ => rfl
  have D_chosen := df_mk (st := s_chosen) (ps := ["cond", "one", "two"]) X G a_chosen l_chosen c_chosen k_chosen fun _ _ _ _ _ _ us hl => match us, hl with | [_, _, _], _ => rfl
  have D_value := df_mk (st := s_value) (ps := ["expr", "setting"]) X G a_value l_value c_value k_value fun _ _ _ _ _ _ us hl => match us, hl with | [_, _], _ => rfl
  have D_number_of := df_mk (st := s_number_of) (ps := ["name", "setting"]) X G a_number_of l_number_of c_number_of k_number_of fun _ _ _ _ _ _ us hl => match us, hl with | [_, _], _ => rfl
  have D_law_tree_by := df_mk (st := sTreeBy) (ps := ["_law_cells", "_law_seed"]) X G a_law_tree_by l_law_tree_by c_law_tree_by k_law_tree_by fun _ _ _ _ _ _ us hl => match us, hl with | [_, _], _ => rfl
  have D_law_step := df_mk (st := sStep) (ps := ["_law_pile", "_law_kind", "_law_more", "_law_seed"]) X G a_law_step l_law_step c_law_step k_law_step fun _ _ _ _ _ _ us hl => match us, hl with | [_, _, _, _], _ => rfl
  have D_law_name_by := df_mk (st := sNameBy) (ps := ["_law_seed", "_law_k"]) X G a_law_name_by l_law_name_by c_law_name_by k_law_name_by fun _ _ _ _ _ _ us hl => match us, hl with | [_, _], _ => rfl
  have D_law_number_by := df_mk (st := sNumBy) (ps := ["_law_cell"]) X G a_law_number_by l_law_number_by c_law_number_by k_law_number_by fun _ _ _ _ _ _ us hl => match us, hl with | [_], _ => rfl
  have D_law_many_by := df_mk (st := sManyBy) (ps := ["_law_seed", "_law_cell"]) X G a_law_many_by l_law_many_by c_law_many_by k_law_many_by fun _ _ _ _ _ _ us hl => match us, hl with | [_, _], _ => rfl
  have D_law_link := df_mk (st := sLink) (ps := ["_law_word", "_law_code"]) X G a_law_link l_law_link c_law_link k_law_link fun _ _ _ _ _ _ us hl => match us, hl with | [_, _], _ => rfl
  have D_law_count := df_mk (st := s_law_count) (ps := ["_law_script"]) X G a_law_count l_law_count c_law_count k_law_count fun _ _ _ _ _ _ us hl => match us, hl with | [_], _ => rfl
  have D_law_made := df_mk (st := s_law_made) (ps := ["_law_word", "_law_one", "_law_two"]) X G a_law_made l_law_made c_law_made k_law_made fun _ _ _ _ _ _ us hl => match us, hl with | [_, _, _], _ => rfl
  have D_law := df_mk (st := sLaw) (ps := ["_law_script"]) X G a_law l_law c_law k_law fun _ _ _ _ _ _ us hl => match us, hl with | [_], _ => rfl
  have z : Bl2 mg := ⟨⟨PySem.W.mg_none_of X G z_len, PySem.W.mg_none_of X G z_range, PySem.W.mg_none_of X G z_sum, PySem.W.mg_none_of X G z_max, PySem.W.mg_none_of X G z_min, PySem.W.mg_none_of X G z_list, PySem.W.mg_none_of X G z_int, PySem.W.mg_none_of X G z_isinstance, PySem.W.mg_none_of X G z_bool, PySem.W.mg_none_of X G z_str⟩, PySem.W.mg_none_of X G z_dict, PySem.W.mg_none_of X G z_abs, PySem.W.mg_none_of X G z_tuple⟩
  have E_FoldError : Ecls K mg "FoldError" C_FoldError := ⟨PySem.W.mg_of X G a_cFoldError, q_cFoldError, k_cFoldError, b_cFoldError, t_cFoldError, d_cFoldError⟩
  have E_ByNought : Ecls K mg "ByNought" C_ByNought := ⟨PySem.W.mg_of X G a_cByNought, q_cByNought, k_cByNought, b_cByNought, t_cByNought, d_cByNought⟩
  have E_TooGreat : Ecls K mg "TooGreat" C_TooGreat := ⟨PySem.W.mg_of X G a_cTooGreat, q_cTooGreat, k_cTooGreat, b_cTooGreat, t_cTooGreat, d_cTooGreat⟩
  have FI := fun_mk (st := sInit) l_I c_I k_I
  have bI : Binds K _ ["self", "word"] [] := FI.binds fun _ _ _ _ _ _ us hl => match us, hl with | [_, _], _ => rfl
  have UU : UCls K mg C_Unset fI _ C_FoldError (.type "type") := ⟨PySem.W.mg_of X G a_cUnset, ⟨⟨_, _, _, _, _, _, _, _, _, _, _, _, _, _, _, x_U, by rfl⟩, sa_U, b_cUnset, t_cUnset, k_cUnset⟩, iC_U, tI_U, FI, bI, ⟨PySem.W.mg_of X G a_cFoldError, ⟨rd_F, ga_F⟩, at_F, by decide⟩, no_U⟩
  have O_ByNought : Cls0 K mg "ByNought" C_ByNought := ⟨PySem.W.mg_of X G a_cByNought, d_cByNought, t_cByNought, s_cByNought, b_cByNought⟩
  have O_TooGreat : Cls0 K mg "TooGreat" C_TooGreat := ⟨PySem.W.mg_of X G a_cTooGreat, d_cTooGreat, t_cTooGreat, s_cTooGreat, b_cTooGreat⟩
  have O_Unset : Cls0 K mg "Unset" C_Unset := ⟨PySem.W.mg_of X G a_cUnset, d_cUnset, t_cUnset, s_cUnset, b_cUnset⟩
  have X_Unset : ExcC K C_Unset := ⟨hg_Unset, hk_Unset, b_cUnset, d_cUnset, ha_Unset, hn_class, ht_class, hm_Unset⟩
  have gl : Gl1 mg t1 := ⟨PySem.W.mg_of X G g_LIMIT⟩
  have ew : Ew K mg ea := ⟨PySem.W.mg_of X G a_ew, fun H => .inr ⟨_, _, _, l_ew, rfl, rfl, (by show 3 ≤ sizeLine; decide), .cons ⟨_, rfl⟩ (.cons ⟨_, rfl⟩ (.cons ⟨_, rfl⟩ .nil))⟩⟩
  refine ⟨PySem.W.fnOf "law" "law" (defArgs sLaw) (defBody sLaw) (defScope sLaw) .none kV_law dc_law pm_law an_law cd_law ct_law, fun s v => .of_eq rfl, fun base XB GB => ?_⟩
  have GR := ok_reckoned (P := l.prog) (w := w) (base := base) D_reckoned D_within z gl E_TooGreat E_ByNought
  have GS := ok_settled (P := l.prog) (w := w) (base := base) D_settled D_reckoned GR E_FoldError s_ByNought_FoldError s_TooGreat_FoldError
  have JD : JDs K mg ea t1 _ _ _ _ _ _ _ _ _ _ _ _ _ _ _ _ _ _ := ⟨D_joined, D_settled, D_by_number, D_plus, D_times, D_part, D_rest, D_has_number, D_same_side, ew, z, gl⟩
  have FO := fun n => all_folded (P := l.prog) (w := w) (base := base) JD GS D_folded D_folded_let D_chosen n
  have VA := fun n => all_value (P := l.prog) (w := w) (base := base) D_value D_number_of UU D_reckoned GR n
  have XB' := ok_exprBy (P := l.prog) (w := w) (base := base) D_law_expr_by z.toBl D_law_cell_at D_law_tree_by D_law_step D_law_name_by D_law_number_by D_law_many_by D_law_link
  have KB := ok_knownBy (P := l.prog) (w := w) (base := base) D_law_known_by z.toBl D_law_cell_at D_law_count D_law_name_by D_law_number_by
  have SB := ok_settingBy (P := l.prog) (w := w) (base := base) D_law_setting_by z.toBl D_law_cell_at D_law_count D_law_name_by D_law_number_by
  have KT' : KT K mg C_Unset C_ByNought C_TooGreat := ⟨O_Unset, O_ByNought, O_TooGreat, ⟨hg_Unset, hk_Unset, b_cUnset, d_cUnset⟩, no_U, s_ByNought_Unset, s_TooGreat_Unset, s_TooGreat_ByNought⟩
  have LV := all_lvalue (P := l.prog) (w := w) (base := base) D_law_value z D_law_made 100
  have TO := ok_told (P := l.prog) (w := w) (base := base) 60 D_law_told KT' D_value (VA 60) D_law_whole (ok_whole D_law_whole z.toBl)
  exact ok_law10 D_law z D_law_mixed (ok_mixed D_law_mixed) D_law_expr_by XB' D_law_known_by KB D_law_setting_by SB D_law_is_expr (all_isExpr D_law_is_expr z D_law_is_name D_law_whole 100) D_law_value LV D_law_told TO D_law_layers_right (ok_layers D_law_layers_right D_law_told TO D_law_value LV D_folded ((FO 60).mono (by decide : 3*60+1 ≤ 210))) D_law_cell_at D_folded ((FO 60).mono (by decide : 3*60+1 ≤ 210))
theorem walkN {l : PySem.W.OpenLaw} {q : Program} {loose : List Str} {XP : (Str → Option Value) → Heap → Prop} {YP : World → Heap → Prop} {d : DefRec} {K : Params → PySem.W.Frag} (hn : l.most = some 63) (hdf : d.params.defaults = [])
    (hY : ∀ (w : World) (h : Heap), YP w h → (K w.params).In h)
    (F : ∀ (w : World) (mg : Str → Option Value) (fa : Addr) (h : Heap), (K w.params).In h → h.Ns mainGlobals mg → mg d.name = some (.ref fa) →
      ∃ fd : FuncData, (∀ (s : Shared) (u : Value), BindsTo s fd ⟨[u], []⟩ [("_law_script", u)]) ∧ ∀ base : Heap, (K w.params).In base → base.Ns mainGlobals mg → FnOk l.prog w (K w.params) mg base CX0 212 fa fd ["_law_script"] (spLaw (K w.params))) :
    PySem.W.WalkO q loose XP YP l.row.toRowW d [] (fun f vs => PySem.call f vs) :=
  L2.walk_of (n := 63) (k := 212) (x := "_law_script") (CX := fun _ => CX0) (sp := fun w => spLaw (K w.params)) hn (by decide) hdf ⟨rfl, by decide, by decide⟩ hY F (fun _ _ a ns hl _ hS => ⟨a, ns, rfl, hS, hl, fun _ => rfl⟩) fun _ _ _ _ _ z => z
end FC
open PySem PySem.W PyProof.Rows
set_option maxRecDepth 100000 in
set_option maxHeartbeats 0 in
theorem PySem.Challenge.cw_foldercode_k10_whole_same_value_holds : PySem.Challenge.rw_foldercode_k10_whole_same_value.Holds := by
  w_on; o_law; k_head; (case hw => w_witness2)
  k_fill
  refine FC.walkN (l := PySem.Challenge.rw_foldercode_k10_whole_same_value) rfl rfl (fun w h Y => PySem.W.kIn_of Y) ?F
  case F =>
    intro w mg fa h KX G hmg
    refine' FC.all_mk KX G hmg ?a_law_mixed ?l_law_mixed ?c_law_mixed ?k_law_mixed ?a_law_expr_by ?l_law_expr_by ?c_law_expr_by ?k_law_expr_by ?a_law_known_by ?l_law_known_by ?c_law_known_by ?k_law_known_by ?a_law_setting_by ?l_law_setting_by ?c_law_setting_by ?k_law_setting_by ?a_law_is_expr ?l_law_is_expr ?c_law_is_expr ?k_law_is_expr ?a_law_is_name ?l_law_is_name ?c_law_is_name ?k_law_is_name ?a_law_whole ?l_law_whole ?c_law_whole ?k_law_whole ?a_law_value ?l_law_value ?c_law_value ?k_law_value ?a_law_told ?l_law_told ?c_law_told ?k_law_told ?a_law_layers_right ?l_law_layers_right ?c_law_layers_right ?k_law_layers_right ?a_folded ?l_folded ?c_folded ?k_folded ?a_law_cell_at ?l_law_cell_at ?c_law_cell_at ?k_law_cell_at ?a_reckoned ?l_reckoned ?c_reckoned ?k_reckoned ?a_within ?l_within ?c_within ?k_within ?a_settled ?l_settled ?c_settled ?k_settled ?a_joined ?l_joined ?c_joined ?k_joined ?a_by_number ?l_by_number ?c_by_number ?k_by_number ?a_plus ?l_plus ?c_plus ?k_plus ?a_times ?l_times ?c_times ?k_times ?a_part ?l_part ?c_part ?k_part ?a_rest ?l_rest ?c_rest ?k_rest ?a_has_number ?l_has_number ?c_has_number ?k_has_number ?a_same_side ?l_same_side ?c_same_side ?k_same_side ?a_folded_let ?l_folded_let ?c_folded_let ?k_folded_let ?a_chosen ?l_chosen ?c_chosen ?k_chosen ?a_value ?l_value ?c_value ?k_value ?a_number_of ?l_number_of ?c_number_of ?k_number_of ?a_law_tree_by ?l_law_tree_by ?c_law_tree_by ?k_law_tree_by ?a_law_step ?l_law_step ?c_law_step ?k_law_step ?a_law_name_by ?l_law_name_by ?c_law_name_by ?k_law_name_by ?a_law_number_by ?l_law_number_by ?c_law_number_by ?k_law_number_by ?a_law_many_by ?l_law_many_by ?c_law_many_by ?k_law_many_by ?a_law_link ?l_law_link ?c_law_link ?k_law_link ?a_law_count ?l_law_count ?c_law_count ?k_law_count ?a_law_made ?l_law_made ?c_law_made ?k_law_made ?a_law ?l_law ?c_law ?k_law ?z_len ?z_range ?z_sum ?z_max ?z_min ?z_list ?z_int ?z_isinstance ?z_bool ?z_str ?z_dict ?z_abs ?z_tuple ?a_cFoldError ?q_cFoldError ?k_cFoldError ?b_cFoldError ?t_cFoldError ?d_cFoldError ?a_cByNought ?q_cByNought ?k_cByNought ?b_cByNought ?t_cByNought ?d_cByNought ?a_cTooGreat ?q_cTooGreat ?k_cTooGreat ?b_cTooGreat ?t_cTooGreat ?d_cTooGreat ?a_cUnset ?t_cUnset ?d_cUnset ?x_U ?sa_U ?b_cUnset ?k_cUnset ?iC_U ?tI_U ?l_I ?c_I ?k_I ?rd_F ?ga_F ?at_F ?no_U ?hn_class ?ht_class ?s_cByNought ?s_cTooGreat ?s_cUnset ?hg_Unset ?hk_Unset ?ha_Unset ?hm_Unset ?v_Unset ?s_ByNought_FoldError ?s_TooGreat_FoldError ?s_ByNought_Unset ?s_TooGreat_Unset ?s_TooGreat_ByNought ?g_LIMIT ?a_ew ?l_ew
    (case a_law_mixed => k_is)
    (case l_law_mixed => k_is)
    (case c_law_mixed => k_is)
    (case k_law_mixed => k_is)
    (case a_law_expr_by => k_is)
    (case l_law_expr_by => k_is)
    (case c_law_expr_by => k_is)
    (case k_law_expr_by => k_is)
    (case a_law_known_by => k_is)
    (case l_law_known_by => k_is)
    (case c_law_known_by => k_is)
    (case k_law_known_by => k_is)
    (case a_law_setting_by => k_is)
    (case l_law_setting_by => k_is)
    (case c_law_setting_by => k_is)
    (case k_law_setting_by => k_is)
    (case a_law_is_expr => k_is)
    (case l_law_is_expr => k_is)
    (case c_law_is_expr => k_is)
    (case k_law_is_expr => k_is)
    (case a_law_is_name => k_is)
    (case l_law_is_name => k_is)
    (case c_law_is_name => k_is)
    (case k_law_is_name => k_is)
    (case a_law_whole => k_is)
    (case l_law_whole => k_is)
    (case c_law_whole => k_is)
    (case k_law_whole => k_is)
    (case a_law_value => k_is)
    (case l_law_value => k_is)
    (case c_law_value => k_is)
    (case k_law_value => k_is)
    (case a_law_told => k_is)
    (case l_law_told => k_is)
    (case c_law_told => k_is)
    (case k_law_told => k_is)
    (case a_law_layers_right => k_is)
    (case l_law_layers_right => k_is)
    (case c_law_layers_right => k_is)
    (case k_law_layers_right => k_is)
    (case a_folded => k_is)
    (case l_folded => k_is)
    (case c_folded => k_is)
    (case k_folded => k_is)
    (case a_law_cell_at => k_is)
    (case l_law_cell_at => k_is)
    (case c_law_cell_at => k_is)
    (case k_law_cell_at => k_is)
    (case a_reckoned => k_is)
    (case l_reckoned => k_is)
    (case c_reckoned => k_is)
    (case k_reckoned => k_is)
    (case a_within => k_is)
    (case l_within => k_is)
    (case c_within => k_is)
    (case k_within => k_is)
    (case a_settled => k_is)
    (case l_settled => k_is)
    (case c_settled => k_is)
    (case k_settled => k_is)
    (case a_joined => k_is)
    (case l_joined => k_is)
    (case c_joined => k_is)
    (case k_joined => k_is)
    (case a_by_number => k_is)
    (case l_by_number => k_is)
    (case c_by_number => k_is)
    (case k_by_number => k_is)
    (case a_plus => k_is)
    (case l_plus => k_is)
    (case c_plus => k_is)
    (case k_plus => k_is)
    (case a_times => k_is)
    (case l_times => k_is)
    (case c_times => k_is)
    (case k_times => k_is)
    (case a_part => k_is)
    (case l_part => k_is)
    (case c_part => k_is)
    (case k_part => k_is)
    (case a_rest => k_is)
    (case l_rest => k_is)
    (case c_rest => k_is)
    (case k_rest => k_is)
    (case a_has_number => k_is)
    (case l_has_number => k_is)
    (case c_has_number => k_is)
    (case k_has_number => k_is)
    (case a_same_side => k_is)
    (case l_same_side => k_is)
    (case c_same_side => k_is)
    (case k_same_side => k_is)
    (case a_folded_let => k_is)
    (case l_folded_let => k_is)
    (case c_folded_let => k_is)
    (case k_folded_let => k_is)
    (case a_chosen => k_is)
    (case l_chosen => k_is)
    (case c_chosen => k_is)
    (case k_chosen => k_is)
    (case a_value => k_is)
    (case l_value => k_is)
    (case c_value => k_is)
    (case k_value => k_is)
    (case a_number_of => k_is)
    (case l_number_of => k_is)
    (case c_number_of => k_is)
    (case k_number_of => k_is)
    (case a_law_tree_by => k_is)
    (case l_law_tree_by => k_is)
    (case c_law_tree_by => k_is)
    (case k_law_tree_by => k_is)
    (case a_law_step => k_is)
    (case l_law_step => k_is)
    (case c_law_step => k_is)
    (case k_law_step => k_is)
    (case a_law_name_by => k_is)
    (case l_law_name_by => k_is)
    (case c_law_name_by => k_is)
    (case k_law_name_by => k_is)
    (case a_law_number_by => k_is)
    (case l_law_number_by => k_is)
    (case c_law_number_by => k_is)
    (case k_law_number_by => k_is)
    (case a_law_many_by => k_is)
    (case l_law_many_by => k_is)
    (case c_law_many_by => k_is)
    (case k_law_many_by => k_is)
    (case a_law_link => k_is)
    (case l_law_link => k_is)
    (case c_law_link => k_is)
    (case k_law_link => k_is)
    (case a_law_count => k_is)
    (case l_law_count => k_is)
    (case c_law_count => k_is)
    (case k_law_count => k_is)
    (case a_law_made => k_is)
    (case l_law_made => k_is)
    (case c_law_made => k_is)
    (case k_law_made => k_is)
    (case a_law => k_is)
    (case l_law => k_is)
    (case c_law => k_is)
    (case k_law => k_is)
    (case z_len => k_is)
    (case z_range => k_is)
    (case z_sum => k_is)
    (case z_max => k_is)
    (case z_min => k_is)
    (case z_list => k_is)
    (case z_int => k_is)
    (case z_isinstance => k_is)
    (case z_bool => k_is)
    (case z_str => k_is)
    (case z_dict => k_is)
    (case z_abs => k_is)
    (case z_tuple => k_is)
    (case a_cFoldError => k_is)
    (case q_cFoldError => k_exc)
    (case k_cFoldError => k_is)
    (case b_cFoldError => k_is)
    (case t_cFoldError => k_is)
    (case d_cFoldError => k_is)
    (case a_cByNought => k_is)
    (case q_cByNought => k_exc)
    (case k_cByNought => k_is)
    (case b_cByNought => k_is)
    (case t_cByNought => k_is)
    (case d_cByNought => k_is)
    (case a_cTooGreat => k_is)
    (case q_cTooGreat => k_exc)
    (case k_cTooGreat => k_is)
    (case b_cTooGreat => k_is)
    (case t_cTooGreat => k_is)
    (case d_cTooGreat => k_is)
    (case a_cUnset => k_is)
    (case t_cUnset => k_is)
    (case d_cUnset => k_is)
    (case x_U => k_is)
    (case sa_U => k_is)
    (case b_cUnset => k_is)
    (case k_cUnset => k_is)
    (case iC_U => k_is)
    (case tI_U => k_is)
    (case l_I => k_is)
    (case c_I => k_is)
    (case k_I => k_is)
    (case rd_F => k_is)
    (case ga_F => k_is)
    (case at_F => k_is)
    (case no_U => k_is)
    (case hn_class => k_is)
    (case ht_class => k_is)
    (case s_cByNought => k_is)
    (case s_cTooGreat => k_is)
    (case s_cUnset => k_is)
    (case hg_Unset => k_is)
    (case hk_Unset => k_is)
    (case ha_Unset => k_is)
    (case hm_Unset => k_is)
    (case v_Unset => k_is)
    (case s_ByNought_FoldError => k_is)
    (case s_TooGreat_FoldError => k_is)
    (case s_ByNought_Unset => k_is)
    (case s_TooGreat_Unset => k_is)
    (case s_TooGreat_ByNought => k_is)
    (case g_LIMIT => k_is)
    (case a_ew => k_is)
    (case l_ew => k_is)
